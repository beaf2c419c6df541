import PyProof.Rows.All
import Wide.All
import OpenK.AllK
import PySem.Challenge.RW_fewspaces_k75_some_turn
set_option Elab.async false
set_option linter.all false
set_option compiler.extract_closed false
set_option maxRecDepth 100000
set_option maxHeartbeats 0
local macro_rules
|`(#[$x,$y])=>`(⟨$x,$y⟩)
|`(#[$x,$y,$z,*])=>`(⟨$x,$y,$z,*⟩)
|`(#[0])=>`(by lia)
|`(#[1])=>`(by decide)
|`(#[2])=>`(by simp)
|`(#[3])=>`(by omega)
|`(#[4])=>`(by assumption)
|`(#[5])=>`(by kernel_rfl!)
|`(#[7])=>`(by rfl)
set_option hygiene false in
local macro_rules|`(tactic|left)=>`(tactic|rintro Z H Q ⟨U,l,S,st,lr,h⟩)
set_option hygiene false in
local macro_rules|`(tactic|right)=>`(tactic|rintro D Z H ⟨U,H0,W,l,os,S,st,en,h⟩)
set_option hygiene false in
local macro_rules
|`(#[8])=>`(aW prog w)
|`(#[9])=>`(Ze rfl)
|`(#[10])=>`(aW X.prog X.w)
|`(#[11])=>`(("__debug__" : bR))
|`(#[12])=>`([.ret<|.c<|.bl aj])
|`(#[13])=>`(Zn p P r)
|`(#[14])=>`(.sl (.v 2) ai<|aa<|.v 3)
|`(#[15])=>`(CV<|d+1)
|`(#[16])=>`([(.v 0),(.v 1)])
|`(#[17])=>`(CV<|d+2)
|`(#[18])=>`(cxC X N scope cl s H fp)
|`(#[19])=>`(lead p #[13] h)
|`(#[20])=>`(by unfold lim;lia)
|`(#[21])=>`(.not<|.isi (.v 1) [.tuple])
|`(#[22])=>`(.tup [(.n 0)])
|`(#[23])=>`(("__classdict__" : bR))
|`(#[24])=>`(by decide +kernel)
|`(#[25])=>`(.blt .len [(.v 1)])
|`(#[26])=>`(.Call (.Name x p) (e::es) [] pos)
|`(#[27])=>`((aj,cR e X.env))
|`(#[28])=>`(List Int)
|`(#[29])=>`(.ref s.heap.objs.size)
|`(#[30])=>`(.of<|.v 1)
|`(#[31])=>`(aa<|.bin .add (.v 3)<|.n 1)
|`(#[32])=>`(λacc k=>Zw p acc (T.getD k [])<|gt r k)
|`(#[33])=>`(.not<|.call 15 [(.v 0),(.v 2)])
noncomputable section
abbrev T9:=@if_pos
abbrev T8:=@if_neg
abbrev T7:=@absurd
abbrev T6:=@of_decide_eq_true
abbrev T5:=@decide_eq_true
abbrev T4:=@decide_eq_false
abbrev T0:=@decide_eq_true_eq
open Option renaming some->aa,none->ai,map_eq_some_iff->bK,isSome_iff_exists->bQ,bind_eq_some_iff->cx,ne_none_iff_exists'->kJ,isSome_map->lv,map_eq_none_iff->mz,getD_some->pB
open PySem renaming wpAny_bind->ae,wpAny_pure->aw,Value->aB,starEach->aE,Shared->aM,Addr->aO,model->aW,wpAny->aY,sizeLine->a9,wpAny_newObj_type->bu,mainGlobals->bz,wpAny_holding->bM,Program->bP,Str->bR,World->b9,wpAny_call_entry->cq,wpAny_callSpecial?_slot->cw,Around->cz,assignEach->cD,compareOp->cM,Heap->cQ,eval->cR,wpAny_field->cV,sysModules->db,sizeLine_eq->dg,wpAny_mono->dy,cellsFrom->dz,FuncData->dB,wpAny_Call_Name_kw->dE,cLine->dJ,foldedSetIterable->dL,Builtin->dM,mem_of_lookup->dO,codeAny_builtin->dQ,tupleKind->dR,backTo->dS,bootBuiltins->d4,wpAny_truthy_bool->d6,assign->eB,behindInMarks->eC,wpAny_isInstance->eE,wpAny_seqItems->eK,wpAny_setField_rec->eL,swapsWith->eV,wpAny_passesOwn->eW,binaryOp->eX,wpAny_pyIter_list->fb,swapsWithSole->fm,swappedStores->fq,rawInt->fu,Stmt->fB,wpAny_setField->fF,wpAny_of_eq->fI,wpAny_typeNameOfWhole_keyiter->fJ,codeAny_mono->fK,wpAny_typeOf->fM,wpAny_execs_nil->fU,Obj->gf,wpAny_loadPart_at->gp,wpAny_rule->gw,codeAny_call_builtin->gy,wpAny_execs_cons->gB,codeAny->gC,wpAny_askSetting->gF,Scope->gI,wpAny_attempt->gO,wpAny_typeNameOf_keyiter->gU,intKind->gX,call_meets->hV,tupleKind_room_in1->hZ,wpAny_pyIter_tuple->h8,sliceBounds->io,DictEntry->iq,wpAny_setState_of->iH,closureFor->iM,intKind_is->iN,wpAny_standAt->iR,plainId_quiet->iT,Pos->iV,wpAny_loadName_local->iW,NameKind->iX,wpAny_updateSeq_pair->i6,typeLookup_type->kj,wpAny_loadName_cell->kl,codeAmong->kw,wpAny_Name->ky,wpAny_load->kz,wpAny_newFunctionEnv_cells->kB,IsPart->kC,typeLookup->kH,isSubtype_type->kU,wpAny_binaryOp_repeat_ref->k8,holding->lg,getItem->lh,wpAny_sequenceKey->lj,wpAny_pyIter_slot->lz,wpAny_onRaise->lK,wpAny_newList->lO,noFill_tuple_add->lW,pyNext->ml,wpAny_pyNext_list_item->mm,typeIs_int->mr,IsPair->mv,letOwnedTupleGo->mF,pushCells_keeps->mI,wpAny_isTrue_Compare1->mL,wpAny_pyNext_list_end->mM,codeAny_call_function->mO,wpAny_notOrdered_dict->mR,wpAny_isOneOf_keyiter->mT,bindArgs->mV,ZipApart->m7,isSubtype_stop->m8,PassesOwn->nq,BindsTo->nr,callerA->nt,wpAny_loadName_free->nv,wpAny_setEntries_of->nC,seq_tuple_add->nD,evalPart_none->nF,wpAny_handled->nG,builtinsNs->nM,pyIter->nO,wpAny_call->nS,wpAny_dictSet_heap->om,standAt->ou,wpAny_assign_Name->ox,concat_meets->oB,seqIndex_neg->oC,valueAt->oD,atKey->oE,wpAny_pyIter_enum->oM,wpAny_dictEntries->oQ,wpAny_storeSet_of->oS,rule->oY,reduceHash->o0,TriplesOk->o4,pushCells->o8,preSum->pc,seqIndex_of->pD,wpAny_alloc->pE,wpAny_throw->pG,IsZip->pH,wpAny_letGo->pI,unsupported->pK,Sem->pX,call->rg,entryFor->rB,ret->rP,bindL->rX,bindC->rY,hashInt->se,truthy->sf,setItem->sh,Result->si,Keyword->sj,ItemsOf->sr,again->sw,Meets->sA
open List renaming getElem?_eq_getElem->af,mem_cons_self->ak,mem_cons_of_mem->am,length_map->av,replicate->ax,mem_cons->ay,getD_eq_getElem?_getD->az,range->aC,size_toArray->aD,mem_map->aF,mem_range->aI,getElem?_map->aK,getElem?_eq_some_iff->aN,length_cons->aQ,getElem_mem->aR,length_append->aU,all_eq_true->aV,mem_singleton->aZ,map_cons->ba,getElem?_set_ne->bc,length_range->bf,getElem?_set_self->bg,pairwise_cons->bo,mem_append_right->bq,not_mem_nil->bx,length_set->bD,map_append->bE,append_assoc->bG,length_drop->bH,getElem?_eq_none->bI,map_map->bL,pairwise_iff_getElem->bN,length_replicate->bO,length_take->bS,lookup_cons->bT,mem_append->bU,getElem?_append_left->bW,mem_filter->bX,getElem_of_mem->bY,getElem?_range->bZ,ext_getElem?->cc,drop_eq_getElem_cons->cg,map_congr_left->cn,mem_of_mem_drop->cp,append_nil->cr,getElem?_append_right->cu,filterMap_cons->cy,take_of_length_le->cA,getElem?_take->cE,take_append_drop->cH,replicate_succ->cI,getElem?_replicate->cO,pairwise_map->cS,mem_append_left->cT,mem_of_getElem?->cU,contains_iff_mem->c8,toArray->da,mem_of_mem_take->dm,nodup_cons->dq,foldl_cons->du,mem_map_of_mem->dP,zip_cons_cons->d3,length_eq_zero_iff->d7,reverse_perm->d9,drop_length->eD,mem_reverse->eF,ext_getElem->eG,mem_flatMap->eI,getElem?_drop->eN,pairwise_reverse->eR,length_filter_le->eS,reverse_cons->eY,flatten_cons->eZ,pairwise_append->fe,nodup_append->fg,any_cons->fz,length_reverse->fC,any_eq_not_all_not->fG,length_take_of_le->fQ,nil_append->fV,all_cons->fY,length_singleton->fZ,getElem_take->gj,getElem_drop->gn,any_eq_true->gD,take_length->gE,filter_cons->gH,getElem?_zip_eq_some->gJ,eq_of_mem_replicate->gV,of_mem_zip->gW,length_zip->gZ,length->ig,map_id->iw,range_succ_eq_map->iB,getElem?_inj->iF,map_uncurry_zip_eq_zipWith->iJ,getElem_map->iP,isEmpty_toArray->iY,getElem?_mapIdx->iZ,drop_append_of_le_length->i8,take_append_of_le_length->i9,mem_zipIdx_iff_getElem?->kf,all_map->kr,drop_zero->kM,drop_drop->kO,drop_left->kQ,take_left->kR,take_add_one->ly,flatMap_cons->lD,contains->lJ,find?_range_eq_some->lT,getElem_append_left->lV,nodup_range->l8,pairwise_singleton->md,map_toArray->mh,drop_of_length_le->my,pairwise_lt_range->mB,length_pos_of_mem->mC,filter_eq_nil_iff->mD,getElem_replicate->mE,forIn_cons->mH,getElem?_reverse->mQ,nodup_nil->mX,mem_iff_getElem->ng,reverse_append->nA,mem_filterMap->nP,filterMap_map->nY,contains_cons->n5,find?_toArray->n6,find?_eq_none->on,getElem_range->oq,take_sublist->oA,getElem?_set->oF,foldl_append->oX,zipIdx_cons->o9,drop_append->pf,countP_cons->pi,map_reverse->pz,range_succ->pW,forIn_nil->rj,take_take->rn,map->rA,tail_cons->rO,map_tail->rW,take->rZ,drop->sd
open Decidable renaming decide->ag
open Bool renaming false->aj,true->ao,and_eq_true->aA,false_ne_true->aT,eq_iff_iff->cL,false_eq_true->fN,or_eq_true->gY,false_and->k6,not_eq_true'->lB,false_or->lE,and_false->mZ,not_true->rS
open PySem.W renaming Frag->ap,katRev->bC,hideAll_none->de,CodeHd->dC,kia_one->dD,fnOf->eA,hideAll->eU,envX->fS,kla_obj->fW,kitOne->gq,keepIn->gu,nsIn->gG,hideAll_get->gL,kat_len->g8,of_hideAll->hJ,cellsFrom_some->iz,mg_of->iU,codeIn->kA,KdlSrc->kW,katRev->lN,OpenLaw->mK,noTabs->nj,callWith_K->nU,codeRec_of->nV,kitx_list->oy,kitx_dict->oz,looks_findIn->oV,plainGet->oZ,kat_nil->pT,kat_len->pY,findIn->rG,exmOne->rH,kla_fn->rJ,tabObj->rK,tabIn->rT,WalkO->rV
open Option.some renaming inj->aq
open PySem.Heap renaming get?_push_of_some->au,lt_size->aG,get?_push_size->aH,size_push->cP,get?_update_self->dA,SameBut->ei,ExtBut->fH,get?_push_ne->iG,size_update->l9,get?_update_other->mq,get?_update_ne->nB
open Nat renaming le_refl->aJ,ne_of_lt->a8,lt_of_lt_of_le->bn,lt_irrefl->bv,le_trans->bV,add_sub_cancel_left->cf,lt_succ_of_lt->cB,zero_le->c7,lt_trans->dv,le_add_right->dF,pow_le_pow_right->dH,le_of_not_lt->dW,add_assoc->d5,lt_of_succ_lt->d8,ne_of_gt->ek,lt_succ_self->fE,lt_of_le_of_ne->fO,pow_lt_pow_right->gz,le_of_lt->gA,min_eq_left->g7,sub_succ_lt_self->i5,add_comm->kq,lt_of_add_lt_add_left->k9,le_succ->lx,max_eq_right->l4,exists_eq_add_of_le->l6,exists_eq_add_of_lt->l7,not_lt_of_le->mj,le_of_eq->mw,le_sub_of_add_le'->mP,mul_le_mul->mY,add_sub_cancel'->nz,lt_min->n8,add_sub_cancel->oh,mul_comm->oH,zero_add->oR,lt_of_not_le->pe,max_eq_left->pR,succ->sB
open PyProof.Rows renaming wpS_bind->aP,wpS_pure->aX,arrOf->bh,pendingOf->bi,slot_tuple_getitem->cF,Keyed->cG,wpS_forRange->cK,callWith_type1->c9,envOfC->dU,SortSt->eM,wpS_mono->fc,wpS_modify->fP,seqObj->fR,elem'->gK,SortKind->gS,failedOf->gT,setPending->h9,wpS_get->iE,callWith_builtin1->iL,AllBare->iQ,IntsAre->iS,entry_tuple_getitem->km,slicePart_none->kD,args_tuple_getitem->kG,list_sort_rev->kS,subscriptTail_builtinR->mn,entry_list_sort->mJ,wpS->mU,slot_list_sort->ni,tupleItemsOf_->nE,listUpdate_at->nH,size_push'->oj,IsTup->ot,plain_sorted->oO,entry_sorted->oP,seqEpoch_at->pL,kind_sorted->pN,Subscript_->re,setArr->sk,minRun'->sm
open Array renaming length_toList->aS,getElem?_eq_getElem->bp,getElem?_toList->br,perm_iff_toList_perm->bB,toList_append->ck,size_push->eg,toList_push->fj,size_extract_of_le->fA,getElem?_eq_none->iC,size_append->iD,toList_inj->iO,toList_extract->i7,toList_setIfInBounds->kP,append_empty->kX,toList_reverse->m9,append_assoc->nN,size_reverse->oa,toList->ow,toList_map->pj,range->pO
open And renaming intro->bj
open PySem.Value renaming none->bw,bool->bF,ref->cZ,int->fX,builtin->lQ,type->nL,isStrOf->rQ
open PySem.NameKind renaming free->bJ,cell->c6
open List.Perm renaming refl->cC,swap->kT,of_eq->pS
open PySem.Heap.SameBut renaming update->cJ,refl->oJ
open PySem.Builtin.Slice renaming slicePlaces->cW,sliceApplied->kF,sliceAdjust->k7
open Pure renaming pure->cX
open Sum renaming inl->cY,inr->nk
open PySem.Obj renaming data_mapFields->dk,isFreed_of_fields->eO,mapSeq->fw,cls_mapFields->gh,mapFields->nI,putSet->rE
open PySem.Around renaming under_plainId->dG,frames_deeper->mW
open Int renaming toNat_natCast->dN,emod_eq_of_lt->ee,emod_lt_of_pos->fT,emod_nonneg->g9,toNat_of_nonneg->kn,ofNat->kx,mul_one->pC,natCast_add->pQ
open PySem.AutoSeq1 renaming wpAny_loadPart'->dZ,sub_tuple_tuple->gN,wpAny_loadPart'->gR,idx_int->lZ
open PySem.F renaming slot_tuple_iterator_next->eJ,args_tuple_add_2->gM,entry_tuple_add->im,plainAttrs_list->ip,slot_tuple_add->iA,typeOf_object_class->iK,slot_int_rmul->kc,args_tuple_iterator_next_1->kg,slot_zip_next->kh,slot_dict_keyiterator_next->ki,entry_tuple_iterator_next->kt,args_tuple_mul_2->kL,entry_tuple_mul->lw,slot_list_append->lH,type_list_append->lI,slot_tuple_mul->l0,plain_list_iadd->mf,args_int_rmul_2->oG,args_zip_next_1->oK,entry_int_rmul->o5,entry_zip_next->pb,slot_dict_iter->pA,fills_int_mul->pP,plain_set_new->pU,slot_set_iter->pV
open PySem.Builtin.SmallTypes renaming nextOf->eT
open PySem.SetTable renaming insertAt->fk,grown->rC,below->rF
open True renaming intro->fv
open LawfulBEq renaming eq_of_beq->fD
open PySem.Builtin.Tuple renaming tupleItemsOf->gv,tupleHashOf->iI,tupleTooMany->kK
open PyProof.Rows.F renaming plain_set_update_loop->iu,entry_set_update_loop->mi
open ForInStep renaming yield->ke
open Lean.Grind renaming CommRing->ko
open PyProof.Rows.IsTup renaming new->ku
open PySem.SeqAt renaming EqAt->kI
open Break renaming runK->kN
open PySem.SeqAt.EqAt renaming bool_bool->kY,same->mG,int_str->nJ,str_int->nK,of_refs->n4
open PySem.Str renaming ofString->kZ,ofString->oN
open List.Pairwise renaming nil->lq,imp_of_mem->lL
open PySem.PassesOwn renaming leaving->lC
open PySem.SeqAt.RcAt renaming lists_lengths->lG,tuples->oI,lists->o6
open PySem.Builtin.Dict renaming updateFrom->me,showsAll->mS
open ForIn renaming forIn->m5
open PySem.Builtin.Int renaming intBits->ny
open PySem.P renaming truthy_int->nQ
open PySem.Heap.IsSliceOf renaming new->nZ
open PySem.Code renaming quiet_builtin->oo,compLoop->rR
open PySem.pickOrder renaming go->oU
open Classical renaming not_not->oW
open Or renaming inr->o7
open PySem.Walks renaming list->rh
open PyProof.Rows.SortSt renaming mk'->rm
open PySem.Value.type renaming inj->rM
open Min renaming min->sC
namespace L2
open PySem PySem.Spec PyProof.Rows
abbrev Key:=Sum Int bR
noncomputable def Gx:Key->aB->Bool
 |.inl k,v=>aB.isInt k v
 |.inr x,v=>rQ x v
noncomputable def Zjq(w:b9):Key->Int
 |.inl k=>se k
 |.inr x=>hashStr w x
def Z3:∀{k:Key}{v:aB},Gx k v=ao->(∃i t,k=cY i/\v=fX i t)\/(∃x t,k=nk x/\v=aB.str x t)
 |.inl i,v,h=>by
  obtain⟨t,e⟩:=aB.isInt_shape h;exact .inl #[i,t,rfl,e]
 |.inr x,v,h=>by
  obtain⟨t,e⟩:=aB.isStrOf_shape h;exact .inr #[x,t,rfl,e]
def qY(i t):Gx (.inl i) (.int i t)=ao:=by simp[Gx,aB.isInt]
def Zab(x t):Gx (.inr x) (.str x t)=ao:=by simp[Gx,rQ]
def ZhR(a b):ag ((cY a:Key)=cY b)=(a == b):=by
 by_cases e:a=b
 .subst e;simp
 .have h:¬(cY a:Key)=cY b:=λq=>e (cY.inj q)
  rw[T4 h];exact(beq_eq_false_iff_ne.mpr e).symm
def ZgD(a b):ag ((nk a:Key)=nk b)=ag (a=b):=by
 by_cases e:a=b
 .simp
 .have h:¬(nk a:Key)=nk b:=λq=>e (nk.inj q)
  rw[T4 h,T4 e]
def Zhy(a b):ag ((cY a:Key)=nk b)=aj:=T4 (λq=>nomatch q)
def Zho(a b):ag ((nk a:Key)=cY b)=aj:=T4 (λq=>nomatch q)
def ZU(prog:bP)(w:b9):PySem.KeyKind prog w Key where
 is:=Gx
 hash:=Zjq w
 inj:=λv a b ha hb=>by
  rcases Z3 ha with⟨i,t,rfl,rfl⟩|⟨x,t,rfl,rfl⟩
  .rcases Z3 hb with⟨j,u,rfl,e⟩|⟨y,u,rfl,e⟩
   .injection e with e1 _;rw[e1]
   .exact nomatch e
  .rcases Z3 hb with⟨j,u,rfl,e⟩|⟨y,u,rfl,e⟩
   .exact nomatch e
   .injection e with e1 _;rw[e1]
 byValue:=λk v h=>by
  rcases Z3 h with⟨i,t,rfl,rfl⟩|⟨x,t,rfl,rfl⟩<;>rfl
 pyHash:=λhv h=>by
  rcases Z3 hv with⟨i,t,rfl,rfl⟩|⟨x,t,rfl,rfl⟩
  .exact wpAny_pyHash_int h
  .exact wpAny_pyHash_str h
 eqBool:=λhu hv h=>by
  rcases Z3 hu with⟨i,t,rfl,rfl⟩|⟨x,t,rfl,rfl⟩
  .rcases Z3 hv with⟨j,u,rfl,rfl⟩|⟨y,u,rfl,rfl⟩
   .rw[ZhR]at h;exact wpAny_eqBool_int h
   .rw[Zhy]at h;exact nJ i t y u _ _ _ _ h
  .rcases Z3 hv with⟨j,u,rfl,rfl⟩|⟨y,u,rfl,rfl⟩
   .rw[Zho]at h;exact nK x t j u _ _ _ _ h
   .rw[ZgD]at h;exact wpAny_eqBool_str h
 «strs»:=λk x t v h=>by
  rcases Z3 h with⟨i,u,rfl,e⟩|⟨y,u,rfl,e⟩
  .exact nomatch e
  .injection e with e1 _
   subst e1;cases v<;>rfl
def yN(prog w i t):(ZU prog w).is (.inl i) (.int i t)=ao:=qY i t
def yZ(prog w x t):(ZU prog w).is (.inr x) (.str x t)=ao:=Zab x t
inductive V where
 |non|bl (b:Bool)|int (i:Int)|str (x:bR)|ref (a:aO)|ty (n:String)
 deriving DecidableEq
def ZA:V->aB->Prop
 |.non,u=>u=bw
 |.bl b,u=>u=bF b
 |.int i,u=>∃t,u=fX i t
 |.str x,u=>∃t,u=aB.str x t
 |.ref a,u=>u=cZ a
 |.ty n,u=>u=nL n
abbrev Vals:List V->List aB->Prop:=Paired ZA
theorem Vals.length(r:Vals xs us):xs.length=us.length:=Paired.length r
theorem Vals.get:∀{xs:List V}{us:List aB}{i:Nat}{x:V},Vals xs us->xs[i]?=aa x->∃u,us[i]?=aa u/\ZA x u
 |_,_,_,_,.nil,e=>by simp at e
 |_,_,0,_,.cons r _,e=>by simp at e;subst e;exact#[_,rfl,r]
 |_,_,i+1,x,.cons _ t,e=>by
  obtain⟨u,h1,h2⟩:=Vals.get t (by simpa using e)
  exact#[u,by simpa using h1,h2]
theorem Vals.set(r:ZA x u):∀{xs:List V}{us:List aB}i,Vals xs us->Vals (xs.set i x) (us.set i u)
 |_,_,_,.nil=>.nil
 |_,_,0,.cons _ t=>.cons r t
 |_,_,i+1,.cons q t=>.cons q<|Vals.set r i t
theorem Vals.append:∀{xs ys:List V}{us ws:List aB},Vals xs us->Vals ys ws->Vals (xs++ys) (us++ws)
 |_,_,_,_,.nil,s=>s
 |_,_,_,_,.cons r t,s=>.cons r<|Vals.append t s
theorem Vals.take:∀{xs:List V}{us:List aB}n,Vals xs us->Vals (xs.take n) (us.take n)
 |_,_,0,_=>.nil
 |_,_,_+1,.nil=>.nil
 |_,_,n+1,.cons r t=>.cons r<|Vals.take n t
theorem Vals.drop:∀{xs:List V}{us:List aB}n,Vals xs us->Vals (xs.drop n) (us.drop n)
 |_,_,0,r=>r
 |_,_,_+1,.nil=>.nil
 |_,_,n+1,.cons _ t=>Vals.drop n t
def ZdF:Option V->Option aB->Prop
 |some v,aa u=>ZA v u
 |none,ai=>True
 |_,_=>False
def KV{κ:Type}:List (κ×V)->List (κ×aB)->Prop:=Paired λ(p:κ×V) (q:κ×aB)=>p.1=q.1/\ZA p.2 q.2
noncomputable def kV:Key->V
 |.inl i=>.int i
 |.inr x=>.str x
inductive HO where
 |lst (xs:List V)
 |tup (xs:List V)
 |dK (kvs:List (Key×V))|dT (kvs:List (List Key×V))
 |own (x:aO)
 |frz (o:gf) (u:HO)
 |tbl (ps:Array aB)
abbrev Hp:=aO->Option HO
noncomputable def upd(H:Hp)(a:aO)(o:HO):Hp:=λb=>if b=a then aa o else H b
def Zm :upd H a o a=aa o:=by unfold upd;rw[T9 rfl]
def Zk(h:b≠a):upd H a o b=H b:=by unfold upd;rw[T8 h]
def Zf1{H:Hp}(h:H a=aa o)(h':H b=aa u)(d:o≠u):a≠b:=by
 intro e;subst e;rw[h]at h';exact d<|aq h'
def Yu{H:Hp}(h:H a=aa o)(h':H b=ai):a≠b:=by
 intro e;subst e;rw[h]at h';cases h'
section
variable(P:bP)(w:b9)
def Z7(H:Hp)(h:cQ)(a:aO):HO->Prop
 |.lst xs=>xs.length<=a9/\∃(its:List aB)(n:Nat),Vals xs its/\h.get? a=aa {cls:=.type "list",data:=.seq its.toArray n}
 |.tup xs=>xs.length<=a9/\∃its:List aB,Vals xs its/\ot h a its.toArray
 |.dK kvs=>kvs.length<=a9/\(a == db)=aj/\∃vs,KV kvs vs/\h.DictOf (ZU P w) a vs
 |.dT kvs=>kvs.length<=a9/\(a == db)=aj/\∃xs:List (List Key×aO×aB),
   Paired (λ(p:List Key×V) (q:List Key×aO×aB)=>p.1=q.1/\H q.2.1=aa (.tup<|p.1.map kV)/\ZA p.2 q.2.2) kvs xs/\
   ∃o es ep,h.get? a=aa o/\o.ExactDict/\o.data=.dict es ep/\es.toList=xs.map (entryOfKey<|dR<|ZU P w)/\(xs.map (·.1)).Nodup
 |.own _=>∃o,h.get? a=aa o
 |.frz o u=>h.get? a=aa o/\Z7 H h a u
 |.tbl ps=>h.get? a=aa {cls:=.none,data:=.fields ps}
def HOk(H:Hp)(h:cQ):Prop:=∀a o,H a=aa o->Z7 P w H h a o
end
theorem Z7.lt(x:Z7 P w H h a o):a<h.objs.size:=by
 cases o with|lst xs=>obtain⟨_,_,_,_,e⟩:=x;exact aG e|tup xs=>obtain⟨_,_,_,p⟩:=x;exact p.lt|dK kvs=>obtain⟨_,_,_,_,o,_,_,e,_⟩:=x;exact aG e|dT kvs=>obtain⟨_,_,_,_,o,_,_,e,_⟩:=x;exact aG e|own y=>obtain⟨_,e⟩:=x;exact aG e|frz ob u=>obtain⟨e,_⟩:=x;exact aG e|tbl ps=>exact aG (x)
theorem Paired.mapP{B β:Type}{F G:B->β->Prop}:∀{l₁:List B}{l₂:List β},Paired F l₁ l₂->(∀a b,F a b->G a b)->Paired G l₁ l₂
 |_,_,.nil,_=>.nil
 |_,_,.cons r t,f=>.cons (f _ _ r)<|Paired.mapP t f
def Z7.stay(x:Z7 P w H h a o)(k:∀b u,(b=a\/H b=aa (.own a))->h.get? b=aa u->h'.get? b=aa u)
  (ho:∀b,H b=aa (.own a)->H' b=aa (.own a))(ht:∀b xs,H b=aa (.tup xs)->H' b=aa (.tup xs)):Z7 P w H' h' a o:=by
 induction o with
 |lst xs=>obtain⟨z,its,n,r,e⟩:=x;exact#[z,its,n,r,k _ _ (.inl rfl) e]
 |tup xs=>obtain⟨z,its,r,ob,e,c⟩:=x;exact#[z,its,r,ob,k _ _ (.inl rfl) e,c]
 |dK kvs=>obtain⟨z,y,vs,r,ob,es,ep,e,c⟩:=x;exact#[z,y,vs,r,ob,es,ep,k _ _ (.inl rfl) e,c]
 |dT kvs=>
  obtain⟨z,y,xs,r,ob,es,ep,e,c⟩:=x;exact#[z,y,xs,Paired.mapP r λp q z=>#[z.1,ht _ _ z.2.1,z.2.2],ob,es,ep,k _ _ (.inl rfl) e,c]
 |own y=>obtain⟨ob,e⟩:=x;exact#[ob,k _ _ (.inl rfl) e]
 |frz ob u ih=>obtain⟨e,q⟩:=x;exact#[k _ _ (.inl rfl) e,ih q]
 |tbl ps=>
  have e:=x;exact k a _ (.inl rfl) e
theorem HOk.lt(x:HOk P w H h)(e:H a=aa o):a<h.objs.size:=(x a o e).lt
def HOk.fresh(x:HOk P w H h)(e:h.objs.size<=a):H a=ai:=by
 cases q:H a with|none=>rfl|some u=>exact T7 (bn (x.lt q) e)<|bv _
def HOk.kept(x:HOk P w H h)(k:∀b u,h.get? b=aa u->h'.get? b=aa u):HOk P w H h':=λa o e=>
 (x a o e).stay (λb u _ q=>k b u q) (λ_ q=>q) λ_ _ q=>q
def HOk.laid(x:HOk P w H h)(k:∀b u,h.get? b=aa u->h'.get? b=aa u)(hp:h.objs.size<=a)(new:Z7 P w (upd H a o) h' a o):HOk P w (upd H a o) h':=λb u e=>by
 have hn:=x.fresh hp;by_cases hb:b=a
 .subst hb;rw[Zm]at e;cases e;exact new
 .rw[Zk hb]at e
  exact(x b u e).stay (λc v _ q=>k c v q) (λc q=>by rw[Zk<|Yu q hn];exact q) λc xs q=>by rw[Zk<|Yu q hn];exact q
def Rd(H:Hp)(a:aO)(u:HO):Prop:=H a=aa u\/∃o,H a=aa (.frz o u)
def Rd.ok(r:Rd H a u)(x:HOk P w H h):Z7 P w H h a u:=by
 rcases r with r|⟨o,r⟩
 .exact x a u r
 .obtain⟨_,q⟩:=x a _ r
  exact q
def Mut:Option HO->Prop
 |some (.lst _)=>True
 |some (.dK _)=>True
 |some (.dT _)=>True
 |_=>False
def HOk.write(ok:HOk P w H h)(mu:Mut (H x))(he:e=x\/H e=aa (.own x))(k:∀b u,b≠e->h.get? b=aa u->h'.get? b=aa u)(heo:∃u,h'.get? e=aa u)
  (new:Z7 P w (upd H x o') h' x o'):HOk P w (upd H x o') h':=λb u q=>by
 have nown:∀c y,H c=aa (.own y)->c≠x:=λc y r z=>by subst z;rwa[r]at mu
 have ntup:∀c xs,H c=aa (.tup xs)->c≠x:=λc xs r z=>by subst z;rwa[r]at mu
 by_cases hb:b=x
 .subst hb;rw[Zm]at q;cases q;exact new
 .rw[Zk hb]at q
  by_cases hbe:b=e
  .have q':H b=aa (.own x):=by
    rcases he with z|z
    .exact T7 (hbe.trans z) hb
    .rw[hbe];exact z
   rw[q]at q';cases q';obtain⟨v,hv⟩:=heo;exact#[v,by rw[hbe];exact hv]
  .refine(ok b u q).stay (λc v hc r=>k c v ?_ r) (λc r=>by rw[Zk<|nown c b r];exact r) λc xs r=>by rw[Zk<|ntup c xs r];exact r
   rcases hc with rfl|hc
   .exact hbe
   .rintro rfl
    rcases he with z|z
    .exact nown c b hc z
    .rw[hc]at z;cases z;exact hb rfl
structure Un(fs ex:List aO)(H H':Hp)(h h':cQ):Prop where
 keep:∀b o,h.get? b=aa o->H b=ai->b∉fs->b∉ex->h'.get? b=aa o
 slot:∀b o,h.get? b=aa o->H b=ai->b∈fs->b∉ex->∃sl,h'.get? b=aa {o with slots:=sl}
 free:∀b o,h.get? b=aa o->H b=ai->b∉ex->H' b=ai
 there:∀b o,h.get? b=aa o->b∉ex->∃o',h'.get? b=aa o'
 tups:∀b xs,H b=aa (.tup xs)->H' b=aa (.tup xs)
 frzs:∀b o u,H b=aa (.frz o u)->H' b=aa (.frz o u)
 tbls:∀b ps,H b=aa (.tbl ps)->∃more,H' b=aa (.tbl<|ps++more)
def Un.any(u:Un fs ex H H1 h h1)(q:h.get? b=aa ob)(n:H b=ai)(hx:b∉ex):∃sl,h1.get? b=aa {ob with slots:=sl}:=by
 by_cases hb:b∈fs
 .exact u.slot b ob q n hb hx
 .exact#[ob.slots,u.keep b ob q n hb hx]
def Un.kept(k:∀b u,h.get? b=aa u->h'.get? b=aa u):Un fs ex H H h h':=
 #[λb ob q _ _ _=>k b ob q,λb ob q _ _ _=>#[ob.slots,k b ob q],λ_ _ _ n _=>n,λb ob q _=>#[ob,k b ob q],λ_ _ q=>q,λ_ _ _ q=>q,λ_ ps q=>#[#[],by rw[q];simp]]
def Un.refl:Un fs ex H H h h:=Un.kept λ_ _ q=>q
def Un.laid(k:∀b u,h.get? b=aa u->h'.get? b=aa u)(hp:h.objs.size<=a)(hn:H a=ai):Un fs ex H (upd H a o) h h' where
 keep:=λb u q _ _ _=>k b u q
 slot:=λb u q _ _ _=>#[u.slots,k b u q]
 free:=λb u q n _=>by rw[Zk<|a8<|bn (aG q) hp];exact n
 there:=λb u q _=>#[u,k b u q]
 tups:=λb xs q=>by rw[Zk<|Yu q hn];exact q
 frzs:=λb u xs q=>by rw[Zk<|Yu q hn];exact q
 tbls:=λb ps q=>#[#[],by rw[Zk<|Yu q hn,q];simp]
def Un.write(mu:Mut (H x))(he:e=x\/H e=aa (.own x))(k:∀b u,b≠e->h.get? b=aa u->h'.get? b=aa u)(heo:∃u,h'.get? e=aa u):Un fs ex H (upd H x o) h h':=by
 have hx:∀b,H b=ai->b≠x:=λb n z=>by subst z;rwa[n]at mu
 have hb:∀b,H b=ai->b≠e:=λb n z=>by
  subst z;rcases he with r|r
  .exact hx b n r
  .rw[n]at r;cases r
 have hm:∀b u,H b=aa u->¬Mut (aa u)->b≠x:=λb u q nm z=>by subst z;rw[q]at mu;exact nm mu
 refine#[λb u q n _ _=>k b u (hb b n) q,λb u q n _ _=>#[u.slots,k b u (hb b n) q],λb u q n _=>by rw[Zk<|hx b n];exact n,λb u q _=>?_,
  λb xs q=>by rw[Zk<|hm b _ q λz=>z];exact q,λb u xs q=>by rw[Zk<|hm b _ q λz=>z];exact q,λb ps q=>#[#[],by rw[Zk<|hm b _ q λz=>z,q];simp]]
 by_cases hbe:b=e
 .subst hbe;exact heo
 .exact#[u,k b u hbe q]
noncomputable def trk(h:cQ)(H:Hp):List aO:=(aC h.objs.size).filter λa=>(H a).isSome
def JG(h:cQ)(H:Hp):cQ:=eU h<|trk h H
def jw(h H):(JG h H).objs.size=h.objs.size:=PySem.W.hideAll_size _ _
def ZcN(e:h.get? b=aa o)(n:H b=ai):(JG h H).get? b=aa o:=
 gL _ e λhm=>by
  have q:=(bX.mp hm).2;rw[n]at q;simp at q
def ZeI(e:(JG h H).get? b=aa o):h.get? b=aa o/\H b=ai:=by
 have e':=hJ (trk h H) e;refine#[e',?_];cases q:H b with
 |none=>rfl
 |some x=>
  have hm:b∈trk h H:=bX.mpr #[aI.mpr<|aG e',by simp[q]]
  have z:(JG h H).get? b=ai:=de (trk h H) hm;rw[z]at e;cases e
structure Mod(K:ap)(mg:bR->Option aB)(base:cQ):Prop where
 kin:K.In base
 glob:base.Ns bz mg
 blt:∃mb,base.Ns nM mb/\∀x:bR,x≠"__name__"->mb x=d4 x
 nolimit:base.NoLimit
structure Cx where
 prog:bP
 w:b9
 K:ap
 mg:bR->Option aB
 base:cQ
 A:cz
 N:List bR
 s₀:aM
 H₀:Hp
 env:Env
 outer:List Env
 stack:List Env
 ex:List aO
 fn:bR->Bool
 calm:Bool
 pn:List (aO×gf)
 xe:aB->aM->Prop
noncomputable def frs(l:List Env):List aO:=l.filterMap (·.frame)
abbrev Cx.fs(X:Cx):List aO:=frs X.outer
def Vis(sc:gI)(x:bR):Prop:=sc.names.lookup x=aa .local\/sc.names.lookup x=aa .cell\/sc.names.lookup x=aa .free
def Loc(sc:gI)(x:bR):Prop:=sc.names.lookup x=aa .local\/sc.names.lookup x=aa .cell
def Look(env:Env)(h:cQ)(m:bR->Option aB)(x:bR)(u:aB):Prop:=
 (env.kindOf x=aa .local/\m x=aa u)\/((env.kindOf x=aa .cell\/env.kindOf x=aa .free)/\∃c,env.cells.lookup x=aa c/\h.IsCell c (aa u))
structure Cx.Ok(X:Cx):Prop where
 mod:Mod X.K X.mg X.base
 kind:X.env.scope.kind=.function
 glob:X.env.globals=bz
 blt:X.env.builtins=nM
 above:X.s₀.heap.objs.size<=X.env.locals
 inj:∀x y c,X.env.cells.lookup x=aa c->X.env.cells.lookup y=aa c->x=y
 has:∀x,(X.env.kindOf x=aa .cell\/X.env.kindOf x=aa .free)->∃c,X.env.cells.lookup x=aa c
 cab:∀x c,X.fn x=ao->X.env.cells.lookup x=aa c->X.s₀.heap.objs.size<=c
 hd:X.calm=ao->X.A.handled=ai
 frames:X.A.frames=aa X.stack
 stk:X.stack=X.outer\/(X.stack=X.env::X.outer/\X.env.frame=aa X.env.locals)
 exf:∀b∈X.ex,b≠X.env.locals/\∀x c,X.env.cells.lookup x=aa c->c≠b
 bs:∀b o,X.base.get? b=aa o->X.s₀.heap.get? b=aa o/\X.H₀ b=ai
 bsz:X.base.objs.size<=X.s₀.heap.objs.size
 noex:∀b o,X.base.get? b=aa o->b∉X.ex
 exfs:∀b∈X.ex,b∉X.fs
 funs:X.s₀.heap.FunFrames X.base X.outer
 frf:∀b∈X.fs,X.H₀ b=ai
structure Inv(X:Cx)(pq:List (aO×gf))(Z:List (Option V))(H:Hp)(s:aM):Prop where
 ok:X.Ok
 os:s.os=X.s₀.os
 bare:iQ s.gens
 base:Un X.fs X.ex X.H₀ H X.s₀.heap s.heap
 loc:∃m,s.heap.Ns X.env.locals m/\∀(i:Nat)(x:bR)(v:V),X.N[i]?=aa x->Z[i]?=aa (aa v)->Vis X.env.scope x->∃u,ZA v u/\Look X.env s.heap m x u
 cell:∀x c,X.env.cells.lookup x=aa c->∃v,s.heap.IsCell c v
 free:H X.env.locals=ai
 freeC:∀x c,X.env.cells.lookup x=aa c->H c=ai
 pin:∀p∈X.pn++pq,s.heap.get? p.1=aa p.2/\H p.1=ai/\p.1≠X.env.locals/\p.1∉X.fs/\∀v,p.2.data≠.cell v
 hok:HOk X.prog X.w H s.heap
 len:Z.length=X.N.length
section
variable{X:Cx}{pq:List (aO×gf)}{Z:List (Option V)}{H H':Hp}{s:aM}{h':cQ}
def Cx.Ok.nofr(ok:X.Ok)(e:X.base.get? b=aa o):b∉X.fs:=λhb=>by
 have:=(ok.funs.mem hb).1;rw[e]at this;cases this
theorem Inv.bs(I:Inv X pq Z H s):∀b o,X.base.get? b=aa o->s.heap.get? b=aa o/\H b=ai:=λb o e=>
 #[I.base.keep b o (I.ok.bs b o e).1 (I.ok.bs b o e).2 (I.ok.nofr e)<|I.ok.noex b o e,I.base.free b o (I.ok.bs b o e).1 (I.ok.bs b o e).2<|I.ok.noex b o e]
def Inv.bk(I:Inv X pq Z H s):∀b o,X.base.get? b=aa o->s.heap.get? b=aa o:=λb o e=>(I.bs b o e).1
theorem Inv.mod(I:Inv X pq Z H s):Mod X.K X.mg X.base:=I.ok.mod
def Inv.kIn(I:Inv X pq Z H s):X.K.In s.heap:=I.ok.mod.kin.keeps I.bk
theorem Inv.lt(I:Inv X pq Z H s):X.env.locals<s.heap.objs.size:=let #[_,hn,_]:=I.loc;hn.lt
def Inv.sz(I:Inv X pq Z H s):X.s₀.heap.objs.size<=s.heap.objs.size:=bV I.ok.above<|gA I.lt
def Inv.nofs(I:Inv X pq Z H s)(h:s.heap.objs.size<=a):a∉X.fs:=λhb=>by
 obtain⟨_,o,ho,_⟩:=I.ok.funs.mem hb;exact T7 (bn (aG ho)<|bV I.sz h)<|bv _
def Inv.cne(I:Inv X pq Z H s):∀x c,X.env.cells.lookup x=aa c->c≠X.env.locals:=λx c e z=>by
 obtain⟨v,o,ho,hd⟩:=I.cell x c e;obtain⟨m,⟨o',es,ep,ho',hd',_⟩,_⟩:=I.loc;rw[z,ho']at ho;cases ho;rw[hd']at hd;cases hd
theorem Inv.funs(I:Inv X pq Z H s):s.heap.FunFrames X.base X.outer:=by
 have all:∀l,(∀b∈frs l,b∈X.fs)->X.s₀.heap.FunFrames X.base l->s.heap.FunFrames X.base l:=by
  intro l
  induction l with
  |nil=>intro _ _;trivial
  |cons env r ih=>
   intro hs hl;obtain⟨hk,⟨L,o,hf,hn,ho,hd⟩,hr⟩:=hl;have hL:=hs L (by unfold frs;rw[cy,hf];exact ak)
   obtain⟨sl,e⟩:=I.base.slot L o ho (I.ok.frf L hL) hL λz=>I.ok.exfs L z hL
   exact#[hk,#[L,_,hf,hn,e,hd],ih (λb hb=>hs b<|by unfold frs;rw[cy,hf];exact am _ hb) hr]
 exact all X.outer (λ_ hb=>hb) I.ok.funs
theorem Inv.stack(I:Inv X pq Z H s):s.heap.FunFrames X.base X.stack:=by
 rcases I.ok.stk with e|⟨e,hf⟩
 .rw[e];exact I.funs
 .rw[e]
  obtain⟨m,hn,_⟩:=I.loc;refine .cons (by rw[I.ok.kind];decide) hf hn ?_ I.funs
  exact cQ.get?_none_of_le<|bV I.ok.bsz I.ok.above
def Inv.stkSub(I:Inv X pq Z H s):∀b∈frs X.stack,b∈X.env.locals::X.fs:=λb hb=>by
 rcases I.ok.stk with e|⟨e,hf⟩
 .rw[e]at hb;exact am _ hb
 .rw[e]at hb
  unfold frs at hb;rwa[cy,hf]at hb
def Inv.stkFree(I:Inv X pq Z H s):∀b∈frs X.stack,H b=ai:=λb hb=>by
 rcases ay.mp (I.stkSub b hb)with e|hb
 .rw[e];exact I.free
 .obtain⟨_,o,ho,_⟩:=I.ok.funs.mem hb
  exact I.base.free b o ho (I.ok.frf b hb) λz=>I.ok.exfs b z hb
def Inv.step{t':Nat}{ch:List aO}(I:Inv X pq Z H s)
  (hch:∀b∈ch,(b∈X.ex\/X.s₀.heap.objs.size<=b)/\b≠X.env.locals/\(∀x c,X.env.cells.lookup x=aa c->c≠b)/\∀p∈X.pn++pq,p.1≠b)
  (keep:∀b o,b≠X.env.locals->b∉X.fs->b∉ch->s.heap.get? b=aa o->H b=ai->h'.get? b=aa o)
  (slot:∀b o,b≠X.env.locals->b∈X.fs->b∉ch->s.heap.get? b=aa o->H b=ai->∃sl,h'.get? b=aa {o with slots:=sl})(free:∀b o,b∉ch->s.heap.get? b=aa o->H b=ai->H' b=ai)
  (there:∀b o,b∉ch->s.heap.get? b=aa o->∃o',h'.get? b=aa o')
  (tups:∀b xs,H b=aa (.tup xs)->H' b=aa (.tup xs))(frzs:∀b o u,H b=aa (.frz o u)->H' b=aa (.frz o u))(tbls:∀b ps,H b=aa (.tbl ps)->∃more,H' b=aa (.tbl<|ps++more))
  (ns:∀m,s.heap.Ns X.env.locals m->h'.Ns X.env.locals m)(hok:HOk X.prog X.w H' h')(hg:iQ g') :
  Inv X pq Z H' {s with heap:=h',gens:=g',drawn:=d',toks:=t' }:=by
 have neL:∀b o,X.s₀.heap.get? b=aa o->b≠X.env.locals:=λb o e=>a8<|bn (aG e) I.ok.above
 have neC:∀b o,X.s₀.heap.get? b=aa o->b∉X.ex->b∉ch:=λb o e hx hb=>by
  rcases(hch b hb).1 with z|z
  .exact hx z
  .exact T7 (bn (aG e) z)<|bv _
 have cellK:∀x c,X.env.cells.lookup x=aa c->∀v,s.heap.IsCell c v->h'.IsCell c v:=by
  rintro x c e v ⟨o,ho,hd⟩;have nch:=λz=>(hch c z).2.2.1 x c e rfl
  by_cases hc:c∈X.fs
  .obtain⟨sl,q⟩:=slot c o (I.cne x c e) hc nch ho (I.freeC x c e)
   exact#[_,q,hd]
  .exact#[o,keep c o (I.cne x c e) hc nch ho<|I.freeC x c e,hd]
 refine#[I.ok,I.os,hg,#[λb o e n hb hx=>?_,λb o e n hb hx=>?_,λb o e n hx=>?_,λb o e hx=>?_,λb xs e=>tups b xs<|I.base.tups b xs e,λb o xs e=>frzs b o xs<|I.base.frzs b o xs e,λb ps e=>?_],?_,λx c e=>?_,?_,λx c e=>?_,λp hp=>?_,hok,I.len]
 .exact keep b o (neL b o e) hb (neC b o e hx) (I.base.keep b o e n hb hx)<|I.base.free b o e n hx
 .obtain⟨sl,e1⟩:=I.base.slot b o e n hb hx
  obtain⟨sl',e2⟩:=slot b _ (neL b o e) hb (neC b o e hx) e1<|I.base.free b o e n hx;exact#[sl',e2]
 .obtain⟨o',e1⟩:=I.base.there b o e hx
  exact free b o' (neC b o e hx) e1<|I.base.free b o e n hx
 .obtain⟨o',e1⟩:=I.base.there b o e hx
  exact there b o' (neC b o e hx) e1
 .obtain⟨m1,e1⟩:=I.base.tbls b ps e
  obtain⟨m2,e2⟩:=tbls b _ e1;exact#[m1++m2,by rw[e2,nN]]
 .obtain⟨m,hn,hl⟩:=I.loc
  refine#[m,ns m hn,λi x v e1 e2 e3=>?_]
  obtain⟨u,r,l⟩:=hl i x v e1 e2 e3;refine#[u,r,?_];rcases l with l|⟨k,c,e,z⟩
  .exact .inl l
  .exact .inr #[k,c,e,cellK x c e _ z]
 .obtain⟨v,z⟩:=I.cell x c e
  exact#[v,cellK x c e v z]
 .obtain⟨m,⟨o,_,_,ho,_⟩,_⟩:=I.loc
  exact free _ o (λz=>(hch _ z).2.1 rfl) ho I.free
 .obtain⟨v,o,ho,hd⟩:=I.cell x c e
  exact free c o (λz=>(hch c z).2.2.1 x c e rfl) ho<|I.freeC x c e
 .obtain⟨e,n,ne,nf,d⟩:=I.pin p hp
  have nch:=λz=>(hch p.1 z).2.2.2 p hp rfl
  exact#[keep p.1 p.2 ne nf nch e n,free p.1 p.2 nch e n,ne,nf,d]
def Inv.un{t':Nat}(I:Inv X pq Z H s)(u:Un X.fs [] H H' s.heap h')(hok:HOk X.prog X.w H' h'):Inv X pq Z H' {s with heap:=h',toks:=t' }:=by
 obtain⟨m,⟨o,es,ep,ho,r⟩,_⟩:=id I.loc;obtain⟨sl,hL⟩:=u.any ho I.free #[2]
 exact I.step (ch:=[]) (λ_ z=>nomatch z) (λb o _ hb _ e n=>u.keep b o e n hb<|by simp) (λb o _ hb _ e n=>u.slot b o e n hb<|by simp) (λb o _ e n=>u.free b o e n<|by simp) (λb o _ e=>u.there b o e<|by simp) u.tups u.frzs u.tbls (λm' hm=>by
  obtain⟨o',es',ep',ho',r'⟩:=hm;rw[ho]at ho';cases ho';exact#[_,es',ep',hL,r']) hok I.bare
def Inv.call{g':Array GenState}{t':Nat}{d':Drawn}(I:Inv X pq Z H s)(u:Un (frs X.stack) ch H H' s.heap h')(hok:HOk X.prog X.w H' h')(hg:iQ g')
  (hch:∀b∈ch,(b∈X.ex\/X.s₀.heap.objs.size<=b)/\b≠X.env.locals/\(∀x c,X.env.cells.lookup x=aa c->c≠b)/\∀p∈X.pn++pq,p.1≠b) :
  Inv X pq Z H' {s with heap:=h',gens:=g',drawn:=d',toks:=t' }:=by
 obtain⟨m,⟨o,es,ep,ho,r⟩,_⟩:=id I.loc;obtain⟨sl,hL⟩:=u.any ho I.free λz=>(hch _ z).2.1 rfl
 exact I.step hch (λb o hL hb hc e n=>u.keep b o e n (λz=>(ay.mp<|I.stkSub b z).elim hL hb) hc) (λb o _ _ hc e n=>u.any e n hc) (λb o hc e n=>u.free b o e n hc) (λb o hc e=>u.there b o e hc) u.tups u.frzs u.tbls (λm' hm=>by
  obtain⟨o',es',ep',ho',r'⟩:=hm;rw[ho]at ho';cases ho';exact#[_,es',ep',hL,r']) hok hg
def Inv.turned{t':Nat}{it:aO}(I:Inv X pq Z H s)(k:∀b o,b≠it->s.heap.get? b=aa o->h'.get? b=aa o)(hn:H it=ai)(hL:it≠X.env.locals)
  (h1:it∈X.ex\/X.s₀.heap.objs.size<=it)(h2:∀x c,X.env.cells.lookup x=aa c->c≠it)(h3:∀p∈X.pn++pq,p.1≠it):Inv X pq Z H {s with heap:=h',toks:=t' }:=by
 have nit:∀b u,H b=aa u->b≠it:=λb u e z=>by rw[z,hn]at e;cases e
 refine I.step (g':=s.gens) (d':=s.drawn) (ch:=[it]) (λb hb=>?_) (λb o _ _ hc e _=>k b o (λz=>hc<|by simp[z]) e) (λb o _ _ hc e _=>#[o.slots,k b o (λz=>hc<|by simp[z]) e]) (λ_ _ _ _ n=>n)
  (λb o hc e=>#[o,k b o (λz=>hc<|by simp[z]) e]) (λ_ _ e=>e) (λ_ _ _ e=>e) (λb ps e=>#[#[],by rw[e];simp]) (λm hm=>?_) (λb u e=>?_) I.bare
 .have e:b=it:=by simpa using hb
  subst e;exact#[h1,hL,h2,h3]
 .obtain⟨o,es,ep,ho,r⟩:=hm
  exact#[o,es,ep,k _ o (Ne.symm hL) ho,r]
 .refine(I.hok b u e).stay (λc v hc q=>k c v ?_ q) (λ_ q=>q) λ_ _ q=>q
  rcases hc with z|z
  .rw[z];exact nit b u e
  .exact nit c _ z
def Inv.tok(I:Inv X pq Z H s)(t):Inv X pq Z H {s with toks:=t}:=I.un Un.refl I.hok
theorem Inv.kept(I:Inv X pq Z H s)(k:∀b u,s.heap.get? b=aa u->h'.get? b=aa u):Inv X pq Z H {s with heap:=h',toks:=t' }:=I.un (Un.kept k)<|I.hok.kept k
theorem Inv.laid(I:Inv X pq Z H s)(k:∀b u,s.heap.get? b=aa u->h'.get? b=aa u)(hp:s.heap.objs.size<=a)(new:Z7 X.prog X.w (upd H a o) h' a o) :
  Inv X pq Z (upd H a o) {s with heap:=h',toks:=t' }:=I.un (Un.laid k hp<|I.hok.fresh hp)<|I.hok.laid k hp new
theorem Inv.write(I:Inv X pq Z H s)(mu:Mut (H x))(he:e=x\/H e=aa (.own x))(k:∀b u,b≠e->s.heap.get? b=aa u->h'.get? b=aa u)(heo:∃u,h'.get? e=aa u)
  (new:Z7 X.prog X.w (upd H x o) h' x o):Inv X pq Z (upd H x o) {s with heap:=h',toks:=t' }:=I.un (Un.write mu he k heo)<|I.hok.write mu he k heo new
def Inv.pins_of(I:Inv X pq Z H s)(h:∀p∈pins',s.heap.get? p.1=aa p.2/\H p.1=ai/\p.1≠X.env.locals/\p.1∉X.fs/\∀v,p.2.data≠.cell v):Inv X pins' Z H s:=
 #[I.ok,I.os,I.bare,I.base,I.loc,I.cell,I.free,I.freeC,λp hp=>(bU.mp hp).elim (λz=>I.pin p<|cT _ z)<|h p,I.hok,I.len]
def QC{N:List bR}(hN:N.Nodup){i j:Nat}(a:N[i]?=aa x)(b:N[j]?=aa x):i=j:=by
 obtain⟨h1,e1⟩:=aN.mp a;obtain⟨h2,e2⟩:=aN.mp b;exact(List.getElem_inj hN).mp<|e1.trans e2.symm
def GA{x:bR}{v:V}(I:Inv X pq Z H s)(hN:X.N.Nodup)(hi:X.N[i]?=aa x)(hx:Loc X.env.scope x)(r:ZA v u)
  (h:∀s',Inv X pq (Z.set i<|aa v) H s'->(∃a,ei a s.heap s'.heap/\(a=X.env.locals\/X.env.cells.lookup x=aa a))->Q () s')(hf:X.fn x=ao\/X.env.scope.names.lookup x=aa .local:=by first|exact .inl rfl|exact .inr rfl|assumption):aY M A (storeName X.env x u) Q E s:=by
 obtain⟨m,hn,hl⟩:=id I.loc;have hcls:(X.env.scope.kind == .class||(X.env.scope.kind == .module&&X.env.locals != X.env.globals))=aj:=by rw[I.ok.kind];rfl
 have hiσ:i<Z.length:=by rw[I.len];exact(aN.mp hi).1
 have cne:=I.cne;have tracked:∀{a:aO}{h':cQ},(∃o,s.heap.get? a=aa o/\H a=ai)->ei a s.heap h'->HOk X.prog X.w H h':=λ{a h'} ha hs b ob e=>by
  obtain⟨_,_,hfree⟩:=ha;refine(I.hok b ob e).stay (λc w' hc q=>(hs.2 c ?_).trans q) (λ_ q=>q) λ_ _ q=>q
  rintro rfl
  rcases hc with rfl|hc
  .rw[hfree]at e;cases e
  .rw[hfree]at hc;cases hc
 rcases hx with hk|hk
 .refine wpAny_storeName_local hk hn (λh' hn' hs=>?_) hcls
  obtain⟨oL,_,_,hoL,_⟩:=id hn;refine h _ #[I.ok,I.os,I.bare,#[λb o e n hb hx=>?_,λb o e n hb hx=>?_,I.base.free,λb o e hx=>?_,I.base.tups,I.base.frzs,I.base.tbls],#[_,hn',λj y v' e1 e2 e3=>?_],λy c e=>?_,I.free,I.freeC,λp hp=>?_,tracked #[oL,hoL,I.free] hs,by simpa using I.len] #[_,hs,.inl rfl]
  .exact(hs.2 b<|a8<|bn (aG e) I.ok.above).trans<|I.base.keep b o e n hb hx
  .obtain⟨sl,e1⟩:=I.base.slot b o e n hb hx
   exact#[sl,(hs.2 b<|a8<|bn (aG e) I.ok.above).trans e1]
  .obtain⟨o',e1⟩:=I.base.there b o e hx
   exact#[o',(hs.2 b<|a8<|bn (aG e) I.ok.above).trans e1]
  .by_cases hj:j=i
   .subst hj
    rw[hi]at e1;cases e1;rw[bg hiσ]at e2;cases e2;exact#[u,r,.inl #[hk,by simp]]
   .rw[bc<|Ne.symm hj]at e2
    obtain⟨u',r',q⟩:=hl j y v' e1 e2 e3;refine#[u',r',?_];rcases q with⟨k,e⟩|⟨k,c,e,z⟩
    .refine .inl #[k,?_]
     have:y≠x:=λe=>hj<|QC hN e1<|e▸hi
     simp[this,e]
    .exact .inr #[k,c,e,z.sameBut hs<|cne y c e]
  .obtain⟨w',z⟩:=I.cell y c e
   exact#[w',z.sameBut hs<|cne y c e]
  .obtain⟨e,n,ne,nf,d⟩:=I.pin p hp
   exact#[(hs.2 p.1 ne).trans e,n,ne,nf,d]
 .have hfn:X.fn x=ao:=by
   rcases hf with z|z
   .exact z
   .rw[z]at hk;cases hk
  obtain⟨c,hc⟩:=I.ok.has x<|.inl hk;obtain⟨w',z⟩:=I.cell x c hc;refine wpAny_storeName_cell I.ok.kind hk hc z λh' hc' hs=>?_
  obtain⟨oc,hoc,hocd⟩:=id z;refine h {s with heap:=h' } #[I.ok,I.os,I.bare,#[λb o e n hb hx=>?_,λb o e n hb hx=>?_,I.base.free,λb o e hx=>?_,I.base.tups,I.base.frzs,I.base.tbls],#[m,hn.sameBut hs<|Ne.symm<|cne x c hc,λj y v' e1 e2 e3=>?_],λy c' e=>?_,I.free,I.freeC,λp hp=>?_,tracked #[oc,hoc,I.freeC x c hc] hs,by simpa using I.len] #[c,hs,.inr hc]
  .exact(hs.2 b<|a8<|bn (aG e)<|I.ok.cab x c hfn hc).trans<|I.base.keep b o e n hb hx
  .obtain⟨sl,e1⟩:=I.base.slot b o e n hb hx
   exact#[sl,(hs.2 b<|a8<|bn (aG e)<|I.ok.cab x c hfn hc).trans e1]
  .obtain⟨o',e1⟩:=I.base.there b o e hx
   exact#[o',(hs.2 b<|a8<|bn (aG e)<|I.ok.cab x c hfn hc).trans e1]
  .by_cases hj:j=i
   .subst hj
    rw[hi]at e1;cases e1;rw[bg hiσ]at e2;cases e2;exact#[u,r,.inr #[.inl hk,c,hc,hc']]
   .rw[bc<|Ne.symm hj]at e2
    obtain⟨u',r',q⟩:=hl j y v' e1 e2 e3;refine#[u',r',?_];rcases q with q|⟨k,c',e,z'⟩
    .exact .inl q
    .refine .inr #[k,c',e,z'.sameBut hs ?_]
     rintro rfl
     exact hj<|QC hN e1<|I.ok.inj _ _ _ e hc▸hi
  .by_cases hcc:c'=c
   .subst hcc;exact#[_,hc']
   .obtain⟨w2,z2⟩:=I.cell y c' e
    exact#[w2,z2.sameBut hs hcc]
  .obtain⟨e,n,ne,nf,d⟩:=I.pin p hp
   refine#[(hs.2 p.1 ?_).trans e,n,ne,nf,d];intro q;rw[q,hoc]at e;exact d w' (by rw[<-(aq e)];exact hocd)
def VN(I:Inv X pq Z H s)(hN:X.N.Nodup)(hi:X.N[i]?=aa x)(hx:Loc X.env.scope x)(r:ZA v u)
  (h:∀s',Inv X pq (Z.set i<|aa v) H s'->Q () s')(hf:X.fn x=ao\/X.env.scope.names.lookup x=aa .local:=by first|exact .inl rfl|exact .inr rfl|assumption):aY M A (storeName X.env x u) Q E s:=
 GA I hN hi hx r (λs' I' _=>h s' I') hf
def Inv.call'(I:Inv X pq Z H s)(ho:s'.os=s.os)(u:Un (frs X.stack) ch H H' s.heap s'.heap)(hok:HOk X.prog X.w H' s'.heap)(hg:iQ s'.gens)
  (hch:∀b∈ch,(b∈X.ex\/X.s₀.heap.objs.size<=b)/\b≠X.env.locals/\(∀x c,X.env.cells.lookup x=aa c->c≠b)/\∀p∈X.pn++pq,p.1≠b):Inv X pq Z H' s':=by
 obtain⟨h',g',d',t',o'⟩:=s';subst ho;exact I.call u hok hg hch
end
abbrev XK:=aB->Option aO->Hp->Prop
abbrev St:=List<|Option V
abbrev VK:=V->Hp->Prop
abbrev TE:=St->Hp->VK->Prop
abbrev TT:=St->Hp->(Bool->Hp->Prop)->Prop
abbrev TA:=St->Hp->(List V->Hp->Prop)->Prop
structure Ends where
 nx:St->Hp->Prop
 rt:VK
 bk:St->Hp->Prop:=λ_ _=>False
 ct:St->Hp->Prop:=λ_ _=>False
abbrev TS:=Ends->St->Hp->Prop
def EP(X:Cx)(pq:List (aO×gf))(Z:St)(Q:VK)(u:aB)(s':aM):Prop:=∃v H',Inv X pq Z H' s'/\ZA v u/\Q v H'
def TP(X:Cx)(pq:List (aO×gf))(Z:St)(Q:Bool->Hp->Prop)(b:Bool)(s':aM):Prop:=∃H',Inv X pq Z H' s'/\Q b H'
def AP(X:Cx)(pq:List (aO×gf))(Z:St)(Q:List V->Hp->Prop)(us:List aB)(s':aM):Prop:=∃vs H',Inv X pq Z H' s'/\Vals vs us/\Q vs H'
def SP(X:Cx)(pq:List (aO×gf))(D:Ends)(f:Flow)(s':aM):Prop:=
 match f with
 |.next=>∃σ' H',Inv X pq σ' H' s'/\D.nx σ' H'
 |.brk=>∃σ' H',Inv X pq σ' H' s'/\D.bk σ' H'
 |.cont=>∃σ' H',Inv X pq σ' H' s'/\D.ct σ' H'
 |.ret u=>∃v σ' H',Inv X pq σ' H' s'/\ZA v u/\D.rt v H'
def PE(X:Cx)(e:Expr)(t:TE):Prop:=
 ∀pq s Z H Q,Inv X pq Z H s->t Z H Q->aY #[10] X.A (cR e X.env) (EP X pq Z Q) X.xe s
def PT(X:Cx)(e:Expr)(t:TT):Prop:=
 ∀pq s Z H Q,Inv X pq Z H s->t Z H Q->aY #[10] X.A (isTrue e X.env<|cR e X.env) (TP X pq Z Q) X.xe s
def PW(X:Cx)(e:Expr)(t:TT):Prop:=
 ∀(whole:pX aB)(pq:List (aO×gf))(s:aM)(Z:St)(H:Hp)(Q:Bool->Hp->Prop),Inv X pq Z H s->t Z H Q->aY #[10] X.A (isTrue e X.env whole) (TP X pq Z Q) X.xe s
def PW.pt(h:PW X e t):PT X e t:=h _
def PA(X:Cx)(es:List Expr)(t:TA):Prop:=
 ∀(pos:iV)(pq:List (aO×gf))(s:aM)(Z:St)(H:Hp)(Q:List V->Hp->Prop),Inv X pq Z H s->t Z H Q->aY #[10] X.A (spliced<|dS pos<|aE es X.env) (AP X pq Z Q) X.xe s
def PS(X:Cx)(st:fB)(t:TS):Prop:=
 ∀pq s Z H D,Inv X pq Z H s->t D Z H->aY #[10] X.A (exec st X.env) (SP X pq D) X.xe s
def PSs(X:Cx)(st:List fB)(t:TS):Prop:=
 ∀pq s Z H D,Inv X pq Z H s->t D Z H->aY #[10] X.A (execs st X.env) (SP X pq D) X.xe s
def thn{B:Type}{t:pX B}{Q Q':B->aM->Prop}(h:aY M A t Q E s)(hQ:∀a s,Q a s->Q' a s):aY M A t Q' E s:=dy h hQ λ_ _ x=>x
def vj(i:Nat):TE:=λZ H Q=>∃v,Z[i]?=aa (aa v)/\Q v H
def tC(v:V):TE:=λ_ H Q=>Q v H
def YY(hN:X.N[i]?=aa x)(hv:Vis X.env.scope x)(hd:(x == #[11])=aj:=by decide)(hcd:(x == #[23])=aj:=by decide):PE X (.Name x pos) (vj i):=by
 intro pq s Z H Q I h;obtain⟨v,e,h⟩:=h;obtain⟨m,hn,hl⟩:=I.loc;obtain⟨u,r,l⟩:=hl i x v hN e hv;have fin:EP X pq Z Q u s:=#[v,H,I,r,h];rcases l with⟨hk,hm⟩|⟨hk,c,hc,hcell⟩
 .exact ky (iW I.ok.kind hk hn hm fin) hd
 .rcases hk with hk|hk
  .exact ky (kl I.ok.kind hk hc hcell fin) hd
  .exact ky (nv I.ok.kind hk hc hcell fin hcd) hd
def QW{i j pos}:PE X (.Constant (.int i) j pos) (tC<|.int i):=λ_ _ _ H _ I h=>wpAny_Constant_int #[.int i,H,I.tok _,#[_,rfl],h]
def uJ{b j pos}:PE X (.Constant (.bool b) j pos) (tC<|.bl b):=λ_ _ _ H _ I h=>Constant_bool #[.bl b,H,I,rfl,h]
def vm{j pos}:PE X (.Constant .none j pos) (tC .non):=λ_ _ _ H _ I h=>Constant_none #[.non,H,I,rfl,h]
def Zcg{x j pos}:PE X (.Constant (.str x) j pos) (tC<|.str x):=λ_ _ _ H _ I h=>Calls.Constant_str #[.str x,H,I.tok _,#[_,rfl],h]
def Gl(X:Cx)(x:bR):Prop:=X.env.kindOf x=aa .globalImplicit
def V5(I:Inv X pq Z H s)(hg:Gl X x)(hm:X.mg x=aa u)(h:Q u s)
  (hd:(x == #[11])=aj:=by decide):aY #[10] X.A (cR (.Name x pos) X.env) Q E s:=
 Calls.Name_function_global I.ok.kind hg (Calls.loadGlobal_global (by rw[I.ok.glob];exact I.mod.glob.keeps I.bk) hm h) hd
def XF(I:Inv X pq Z H s)(hg:Gl X x)(hm:X.mg x=ai)(hv:d4 x=aa u)(h:Q u s)
  (hn:x≠"__name__":=by decide)(hd:(x == #[11])=aj:=by decide):aY #[10] X.A (cR (.Name x pos) X.env) Q E s:=by
 obtain⟨mb,h1,h2⟩:=I.mod.blt;exact Calls.Name_function_global I.ok.kind hg (Calls.loadGlobal_builtin (by rw[I.ok.glob];exact I.mod.glob.keeps I.bk) hm (by rw[I.ok.blt];exact h1.keeps I.bk) ((h2 x hn).trans hv) h) hd
def ZeW(hg:Gl X x)(hm:X.mg x=aa u)(r:ZA v u)(hd:(x == #[11])=aj:=by decide):PE X (.Name x pos) (tC v):=
 λ_ _ _ H _ I h=>V5 I hg hm #[v,H,I,r,h] hd
def ua(hg:Gl X x)(hm:X.mg x=ai)(hv:d4 x=aa u)(r:ZA v u)(hn:x≠"__name__":=by decide)(hd:(x == #[11])=aj:=by decide):PE X (.Name x pos) (tC v):=
 λ_ _ _ H _ I h=>XF I hg hm hv #[v,H,I,r,h] hn hd
def PC(X:Cx)(op:CmpOp)(a b:Expr)(t:TE):Prop:=
 ∀pq s Z H Q,Inv X pq Z H s->t Z H Q->
  aY #[10] X.A (cR a X.env) (λv s₁=>aY #[10] X.A (cR b X.env) (λu s₂=>aY #[10] X.A (cM op v u) (EP X pq Z Q) X.xe s₂) X.xe s₁) X.xe s
def ZcT(b)(h:op≠.In)(h2:op≠.NotIn):eC op b=aj:=by
 have e1:(op == CmpOp.In)=aj:=by cases op<;>first|rfl|exact T7 rfl h
 have e2:(op == CmpOp.NotIn)=aj:=by cases op<;>first|rfl|exact T7 rfl h2
 cases b<;>simp[eC,e1,e2]
def Zjc(ta:TE):TE:=λZ H Q=>ta Z H λx H1=>Q (.bl<|ag<|x=.non) H1
def ZA.none_iff(r:ZA x v):(v == bw)=ag (x=.non):=by
 cases x with|non=>cases r;rfl|bl _=>cases r;rfl|int _=>obtain⟨t,rfl⟩:=r;rfl|str _=>obtain⟨t,rfl⟩:=r;rfl|ref _=>cases r;rfl|ty _=>cases r;rfl
def ZgS{j pos'}(ha:PE X a ta):PC X .Is a (.Constant .none j pos') (Zjc ta):=by
 intro pq s Z H Q I h;refine thn (ha pq s Z H _ I h) λv s1 #[x,H1,I1,r1,q1]=>?_
 exact Constant_none<|is_none_gen #[.bl _,H1,I1,by rw[r1.none_iff];rfl,q1]
def tB(t:TE):TT:=λZ H Q=>t Z H λx H1=>∃c,x=.bl c/\Q c H1
def Zg5(h:PC X op a b t)(h1:eC op b=aj:=by first|exact ZcT _ #[1] #[1]|rfl):PT X (.Compare a [op] [b] pos) (tB t):=by
 intro pq s Z H Q I hw;refine mL (thn (h pq s Z H _ I hw) λv s1 h1=>thn h1 λu s2 h2=>thn h2 λc s3 #[x,H1,I1,r1,q1]=>?_) h1
 obtain⟨d,rfl,q⟩:=q1;cases r1;exact d6 #[H1,I1,q]
def Zhf(h:PE X e t)(he:∀whole,isTrue e X.env whole=(do let v <-whole;ou e.pos;lg [v] (sf v)):=by intro _;rfl):PT X e (tB t):=by
 intro pq s Z H Q I hw;refine isTrue_plain (thn (h pq s Z H _ I hw) λv s1 #[x,H1,I1,r1,q1]=>?_)<|he _
 obtain⟨d,rfl,q⟩:=q1;cases r1;exact d6 #[H1,I1,q]
def Zjo(t u:TT):TT:=λZ H Q=>t Z H λc H1=>if c=ao then u Z H1 Q else Q aj H1
def tOr(t u:TT):TT:=λZ H Q=>t Z H λc H1=>if c=ao then Q ao H1 else u Z H1 Q
def Zi5(t:TT):TT:=λZ H Q=>t Z H λc H1=>Q (!c) H1
def ZeJ(ha:PT X a tA):PW X (.BoolOp .And [a] pos) tA:=by
 intro wh pq s Z H Q I h;refine isTrue_and<|thn (ha pq s Z H Q I h) λc s1 e=>?_
 cases c with|true=>exact isTrue_and_nil e|false=>exact e
def ZbR(ha:PT X a tA):PW X (.BoolOp .Or [a] pos) tA:=by
 intro wh pq s Z H Q I h;refine isTrue_or<|thn (ha pq s Z H Q I h) λc s1 e=>?_
 cases c with|false=>exact isTrue_or_nil e|true=>exact e
def Zhv(ha:PT X a tA)(hb:PW X (.BoolOp .And (b::rest) pos) tB'):PW X (.BoolOp .And (a::b::rest) pos) (Zjo tA tB'):=by
 intro wh pq s Z H Q I h;refine isTrue_and<|thn (ha pq s Z H _ I h) λc s1 #[H1,I1,q1]=>?_
 cases c with|true=>exact hb wh pq s1 Z H1 Q I1 q1|false=>exact#[H1,I1,q1]
def Zfz(ha:PT X a tA)(hb:PW X (.BoolOp .Or (b::rest) pos) tB'):PW X (.BoolOp .Or (a::b::rest) pos) (tOr tA tB'):=by
 intro wh pq s Z H Q I h;refine isTrue_or<|thn (ha pq s Z H _ I h) λc s1 #[H1,I1,q1]=>?_
 cases c with|true=>exact#[H1,I1,q1]|false=>exact hb wh pq s1 Z H1 Q I1 q1
def Zah(ha:PT X a tA):PT X (.UnaryOp .Not a pos) (Zi5 tA):=by
 intro pq s Z H Q I h;exact isTrue_not<|ha pq s Z H (λc H1=>Q (!c) H1) I h
def ZiC(ta tb:TE):TE:=λZ H Q=>ta Z H λx H1=>∃c,x=.bl c/\if c=ao then tb Z H1 Q else Q (.bl aj) H1
def Zgv{op}(h:PE X a t):PE X (.BoolOp op [a] pos) t:=λpq s Z H Q I hw=>BoolOp_one<|h pq s Z H Q I hw
def Zgk(ha:PE X a ta)(hb:PE X (.BoolOp .And (b::rest) pos) tb):PE X (.BoolOp .And (a::b::rest) pos) (ZiC ta tb):=by
 intro pq s Z H Q I h;refine BoolOp_and<|thn (ha pq s Z H _ I h) λv s1 #[x,H1,I1,r1,q1]=>?_
 obtain⟨c,rfl,q1⟩:=q1;cases r1;refine d6 ?_;cases c with|true=>exact hb pq s1 Z H1 Q I1 q1|false=>exact#[.bl aj,H1,I1,rfl,q1]
def SqL(K:ap)(H:Hp)(a:aO)(xs:List V):Prop:=
 Rd H a (.lst xs)\/
  ∃(o:gf)(its:Array aB)(n:Nat),K.lookup a=aa o/\o.cls=.type "list"/\o.dict=ai/\o.data=.seq its n/\its.size<=a9/\Vals xs its.toList
def SqT(K:ap)(H:Hp)(a:aO)(xs:List V):Prop:=
 Rd H a (.tup xs)\/
  ∃(o:gf)(its:Array aB)(n:Nat),K.lookup a=aa o/\o.cls=.type "tuple"/\o.data=.seq its n/\its.size<=a9/\Vals xs its.toList
noncomputable def Zjg:aB->Option V
 |.none=>aa .non
 |.bool b=>aa<|.bl b
 |.int i _=>aa<|.int i
 |.str x _=>aa<|.str x
 |.ref a=>aa<|.ref a
 |.type n=>aa<|.ty n
 |_=>ai
def ZA.abs(r:ZA x u):Zjg u=aa x:=by
 cases x with|non=>cases r;rfl|bl _=>cases r;rfl|int _=>obtain⟨t,rfl⟩:=r;rfl|str _=>obtain⟨t,rfl⟩:=r;rfl|ref _=>cases r;rfl|ty _=>cases r;rfl
def ZA.inj(r:ZA x u)(q:ZA y u):x=y:=aq<|r.abs.symm.trans q.abs
theorem Vals.inj:∀{xs ys:List V}{us:List aB},Vals xs us->Vals ys us->xs=ys
 |_,_,_,.nil,.nil=>rfl
 |_,_,_,.cons r t,.cons r' t'=>by rw[r.inj r',Vals.inj t t']
def SqL.of{K:ap}(h:H a=aa (.lst xs)):SqL K H a xs:=.inl<|.inl h
def SqT.of{K:ap}(h:H a=aa (.tup xs)):SqT K H a xs:=.inl<|.inl h
def Inv.list(I:Inv X pq Z H s)(h:SqL X.K H a xs):∃its,Vals xs its/\PlainL s.heap a its.toArray/\xs.length<=a9:=by
 rcases h with h|⟨o,its,n,hk,hc,hd,hs,hz,r⟩
 .obtain⟨z,its,n,r,e⟩:=h.ok I.hok
  exact#[its,r,#[_,n,e,rfl,rfl,rfl],z]
 .refine#[its.toList,r,#[o,n,I.kIn a o hk,hc,hd,by simpa using hs],?_]
  have e:=r.length;simp at e;lia
def Inv.tuple(I:Inv X pq Z H s)(h:SqT X.K H a xs):∃its,Vals xs its/\ot s.heap a its.toArray/\xs.length<=a9:=by
 rcases h with h|⟨o,its,n,hk,hc,hs,hz,r⟩
 .obtain⟨z,its,r,p⟩:=h.ok I.hok
  exact#[its,r,p,z]
 .refine#[its.toList,r,#[o,I.kIn a o hk,hc,n,by simpa using hs],?_]
  have e:=r.length;simp at e;lia
def Inv.list_inj(I:Inv X pq Z H s)(h:SqL X.K H a xs)(h':SqL X.K H a ys):xs=ys:=by
 obtain⟨its,r,⟨o,n,e,_,_,d⟩,_⟩:=I.list h;obtain⟨its',r',⟨o',n',e',_,_,d'⟩,_⟩:=I.list h';rw[e]at e';cases e';rw[d]at d';injection d' with d1 _
 have:its=its':=by simpa using congrArg ow d1
 subst this;exact r.inj r'
def Inv.tuple_inj(I:Inv X pq Z H s)(h:SqT X.K H a xs)(h':SqT X.K H a ys):xs=ys:=by
 obtain⟨its,r,⟨o,e,_,n,d⟩,_⟩:=I.tuple h;obtain⟨its',r',⟨o',e',_,n',d'⟩,_⟩:=I.tuple h';rw[e]at e';cases e';rw[d]at d';injection d' with d1 _
 have:its=its':=by simpa using congrArg ow d1
 subst this;exact r.inj r'
section
variable{X:Cx}{st:fB}{rest:List fB}{t u:TS}{e:Expr}{te:TE}{pos:iV}
def Zc0:TS:=λD Z H=>D.nx Z H
def vO(t u:TS):TS:=λD Z H=>t {D with nx:=u D} Z H
def zm:PSs X [] Zc0:=λ_ _ Z H _ I h=>fU #[Z,H,I,h]
def YU(h1:PS X st t)(h2:PSs X rest u):PSs X (st::rest) (vO t u):=by
 intro pq s Z H D I h;refine gB<|thn (h1 pq s Z H {D with nx:=u D} I h) λf s1 q=>?_
 cases f with
 |next=>
  obtain⟨σ',H',I',q⟩:=q;exact h2 pq s1 σ' H' D I' q
 |ret v=>exact q
 |brk=>exact q
 |cont=>exact q
def U5(h1:PS X st t):PSs X [st] t:=by
 intro pq s Z H D I h;refine gB<|thn (h1 pq s Z H D I h) λf s1 q=>?_
 cases f with|next=>exact fU q|ret v=>exact q|brk=>exact q|cont=>exact q
def Inv.quiet(I:Inv X pq Z H s):interactive X.env=aj:=by simp[interactive,I.ok.kind]
def ZfE(te:TE):TS:=λD Z H=>te Z H λ_ H1=>D.nx Z H1
def zk(he:PE X e te)(hs:eV e ai pos.line X.env=cX aj:=by rfl):PS X (.Expr e pos) (ZfE te):=by
 intro pq s Z H D I h;exact wpAny_Expr_any (thn (he pq s Z H _ I h)<|by rintro v s1 ⟨x,H1,I1,r1,q1⟩;exact #[Z,H1,I1,q1]) I.quiet hs
def Zd6(te:TE):TS:=λD Z H=>te Z H D.rt
def Q6(he:PE X e te):PS X (.Return (aa e) pos) (Zd6 te):=by
 intro pq s Z H D I h;exact wpAny_Return_some<|thn (he pq s Z H _ I h)<|by rintro v s1 ⟨x,H1,I1,r1,q1⟩;exact #[x,Z,H1,I1,r1,q1]
def Zh3(c:TT)(t u:TS):TS:=λD Z H=>c Z H λb H1=>if b=ao then t D Z H1 else u D Z H1
def Zb3{a b:List fB}(hc:PT X c tc)(ha:PSs X a t)(hb:PSs X b u):PS X (.If c a b pos) (Zh3 tc t u):=by
 intro pq s Z H D I h;refine wpAny_If<|thn (hc pq s Z H _ I h) λd s1 #[H1,I1,q1]=>?_
 cases d with|true=>exact ha pq s1 Z H1 D I1 q1|false=>exact hb pq s1 Z H1 D I1 q1
end
abbrev TG:=V->St->Hp->(St->Hp->Prop)->Prop
abbrev TGs:=List V->St->Hp->(St->Hp->Prop)->Prop
def PG(X:Cx)(target:Expr)(t:TG):Prop:=
 ∀pq s Z H v u Q,Inv X pq Z H s->ZA v u->t v Z H Q->
  aY #[10] X.A (assign target X.env u) (λ_ s'=>∃σ' H',Inv X pq σ' H' s'/\Q σ' H') X.xe s
def PGs(X:Cx)(ts:List Expr)(t:TGs):Prop:=
 ∀pq s Z H vs us Q,Inv X pq Z H s->Vals vs us->t vs Z H Q->
  aY #[10] X.A (assignInOrder ((cD ts X.env).map (·.2)) us) (λ_ s'=>∃σ' H',Inv X pq σ' H' s'/\Q σ' H') X.xe s
abbrev TSet:=V->V->V->Hp->(Hp->Prop)->Prop
def PSet(X:Cx)(t:TSet):Prop:=
 ∀pq s Z H o i v ov iv u Q,Inv X pq Z H s->ZA o ov->ZA i iv->ZA v u->t o i v H Q->
  aY #[10] X.A (sh ov iv u) (λ_ s'=>∃H',Inv X pq Z H' s'/\Q H') X.xe s
abbrev TIp:=V->V->Hp->VK->Prop
def PIp(X:Cx)(op:Operator)(t:TIp):Prop:=
 ∀pq s Z H x y v u Q,Inv X pq Z H s->ZA x v->ZA y u->t x y H Q->
  aY #[10] X.A (inplaceOp op v u) (EP X pq Z Q) X.xe s
def xY(i:Nat):TG:=λv Z H Q=>Q (Z.set i<|aa v) H
def zR(hN:X.N.Nodup)(hi:X.N[i]?=aa x)(hx:Loc X.env.scope x)(hf:X.fn x=ao\/X.env.scope.names.lookup x=aa .local:=by first|exact .inl rfl|exact .inr rfl|assumption):PG X (.Name x pos) (xY i):=by
 intro pq s Z H v u Q I r h;exact ox<|VN I hN hi hx r (λs' I'=>#[_,H,I',h]) hf
def ZjA:TGs:=λvs Z H Q=>vs=[]/\Q Z H
def ZiO(t:TG)(u:TGs):TGs:=λvs Z H Q=>∃v r,vs=v::r/\t v Z H λσ' H'=>u r σ' H' Q
def ZeO:PGs X [] ZjA:=by
 intro pq s Z H vs us Q I r h;obtain⟨e,h⟩:=h;subst e;cases r;exact assignInOrder_nil #[Z,H,I,h]
def Zbz{e:Expr}(h1:PG X e t)(h2:PGs X es u)
  (hs:(cD (e::es) X.env).map (·.2)=assign e X.env::(cD es X.env).map (·.2):=by rfl):PGs X (e::es) (ZiO t u):=by
 intro pq s Z H vs us Q I r h;obtain⟨v,vr,e1,h⟩:=h;subst e1;cases r with
 |cons r rr=>
  rw[hs];refine assignInOrder_cons<|thn (h1 pq s Z H _ _ _ I r h) λ_ s1 #[σ1,H1,I1,q1]=>?_
  exact h2 pq s1 σ1 H1 _ _ Q I1 rr q1
def Zjj(K:ap)(n:Nat)(t:TGs):TG:=λv Z H Q=>∃a xs,v=.ref a/\SqT K H a xs/\xs.length=n/\t xs Z H Q
def ZhN(hc:X.calm=ao)(h:PGs X es t)
  (hn:(cD es X.env).length=n:=by rfl)(hst:(cD es X.env).findIdx? (·.1)=ai:=by rfl):PG X (.Tuple es k pos) (Zjj X.K n t):=by
 intro pq s Z H v u Q I r hw;obtain⟨a,xs,e1,hq,hl,hw⟩:=hw;subst e1;cases r;obtain⟨its,rv,ht,hz⟩:=I.tuple hq;refine assign_Tuple_tuple (I.ok.hd hc) ht (by simp[hn,<-hl,rv.length]) hst λh' hx=>?_
 have I1:=I.kept (t':=s.toks) λb o e=>hx b o (a8<|aG e) e
 exact h pq _ Z H xs _ Q I1 (by simpa using rv) hw
def Zjv(to ti:TE)(t:TSet):TG:=λv Z H Q=>to Z H λo H1=>ti Z H1 λi H2=>t o i v H2 λH3=>Q Z H3
def ZgF(ho:PE X o to)(hi:PE X i ti)(hs:PSet X t)
  (ha:∀v,assign (.Subscript o i pos) X.env v=(do
   let ov <-lg [v] (cR o X.env)
   let iv <-lg [v,ov] (cR i X.env)
   ou pos
   lg [v,ov,iv] (sh ov iv v)
   release [v,ov,iv] []):=by intro _;rfl):PG X (.Subscript o i pos) (Zjv to ti t):=by
 intro pq s Z H v u Q I r h;rw[ha];refine ae<|bM<|thn (ho pq s Z H _ I h) λov s1 #[x,H1,I1,r1,q1]=>?_
 refine ae<|bM<|thn (hi pq s1 Z H1 _ I1 q1) λiv s2 #[y,H2,I2,r2,q2]=>?_
 refine ae<|iR<|ae<|bM<|thn (hs pq s2 Z H2 x y v ov iv u _ I2 r1 r2 r q2) λ_ s3 #[H3,I3,q3]=>?_
 exact wpAny_release #[Z,H3,I3,q3]
def Zap(te:TE)(g:TG):TS:=λD Z H=>te Z H λx H1=>g x Z H1 D.nx
def Uk{g:TG}(he:PE X e te)(hg:PG X tg g)(hs:fm [tg] e pos.line X.env=cX aj:=by rfl)(hw:fq [tg] e X.env=cX ai:=by rfl)
  (h1:(cD [tg] X.env).map (·.2)=[assign tg X.env]:=by rfl):PS X (.Assign [tg] e pos) (Zap te g):=by
 intro pq s Z H D I h;refine wpAny_Assign_stores (thn (he pq s Z H _ I h) λv s1 #[x,H1,I1,r1,q1]=>?_) hs hw
 rw[h1];exact thn (hg pq s1 Z H1 x v _ I1 r1 q1) λ_ s2 q=>q
def Q3(hN:X.N.Nodup)(hi:X.N[i]?=aa x)(hx:Loc X.env.scope x)(he:PE X e te)(hs:eV e (aa<|.Name x pos') pos.line X.env=cX aj:=by rfl)(hf:X.fn x=ao\/X.env.scope.names.lookup x=aa .local:=by first|exact .inl rfl|exact .inr rfl|assumption) :
  PS X (.Assign [.Name x pos'] e pos) (Zap te<|xY i):=by
 intro pq s Z H D I h;refine wpAny_Assign_Name (thn (he pq s Z H _ I h) λv s1 #[y,H1,I1,r1,q1]=>?_) hs
 exact VN I1 hN hi hx r1 (λs2 I2=>#[_,H1,I2,q1]) hf
def ZjE(i:Nat)(te:TE)(ti:TIp):TS:=λD Z H=>∃x,Z[i]?=aa (aa x)/\te Z H λy H1=>ti x y H1 λz H2=>D.nx (Z.set i<|aa z) H2
def Zgg{x:bR}{te:TE}(hN:X.N.Nodup)(hi:X.N[i]?=aa x)(hx:Loc X.env.scope x)(he:PE X e te)(ho:PIp X op ti)(hf:X.fn x=ao\/X.env.scope.names.lookup x=aa .local:=by first|exact .inl rfl|exact .inr rfl|assumption) :
  PS X (.AugAssign (.Name x pos') op e pos) (ZjE i te ti):=by
 intro pq s Z H D I h;obtain⟨v,e1,h⟩:=h;obtain⟨m,hn,hl⟩:=I.loc;have vis:Vis X.env.scope x:=by rcases hx with k|k;exact .inl k;exact .inr<|.inl k
 obtain⟨u,r,l⟩:=hl i x v hi e1 vis;refine wpAny_AugAssign_Name ?_;have go:aY #[10] X.A (cR e X.env) (λw s₂=>aY #[10] X.A (inplaceOp op u w) (λr s₃=>aY #[10] X.A (storeName X.env x r) (λ_=>SP X pq D .next) X.xe s₃) X.xe s₂) X.xe s:=by
  refine thn (he pq s Z H _ I h) λw s1 #[y,H1,I1,r1,q1]=>?_
  refine thn (ho pq s1 Z H1 v y u w _ I1 r r1 q1) λz s2 #[zv,H2,I2,r2,q2]=>?_
  exact VN I2 hN hi hx r2 (λs3 I3=>#[_,H2,I3,q2]) hf
 rcases l with⟨hk,hm⟩|⟨hk,c,hc,hcell⟩
 .exact iW I.ok.kind hk hn hm go
 .rcases hk with hk|hk
  .exact kl I.ok.kind hk hc hcell go
  .rcases hx with k|k
   .have:X.env.scope.names.lookup x=aa .free:=hk
    rw[k]at this;cases this
   .have:X.env.scope.names.lookup x=aa .free:=hk
    rw[k]at this;cases this
section
variable{X:Cx}{pos:iV}
def ZhT(c:TT)(tb:TS):TS:=λD Z H=>∃W:Nat->St->Hp->Prop,(∃m,W m Z H)/\∀m Z H,W m Z H->
 c Z H λb H1=>if b=ao then ∃N:St->Hp->Prop,(∀σ' H',N σ' H'->∃m',m'<m/\W m' σ' H')/\tb {D with nx:=N,ct:=N,bk:=D.nx} Z H1 else D.nx Z H1
def Zbo{c:Expr}(hp:nq #[10] X.A X.env X.xe)(hc:PT X c tc)(hb:PSs X body tb):PS X (.While c body [] pos) (ZhT tc tb):=by
 intro pq s Z H D I h;obtain⟨W,⟨m0,w0⟩,turn⟩:=h;refine wpAny_While<|codeAny_whileLoop (λn s'=>∃σ' H',Inv X pq σ' H' s'/\W n σ' H') ?_ m0 #[Z,H,I,w0]
 rintro n s1 ⟨σ1,H1,I1,w1⟩
 refine eW hp<|thn (hc pq s1 σ1 H1 _ I1<|turn n σ1 H1 w1) λb s2 #[H2,I2,q2]=>?_
 cases b with
 |true=>
  obtain⟨N,hN,q2⟩:=q2;rw[T9 rfl];refine eW hp<|thn (hb pq s2 σ1 H2 _ I2 q2) λf s3 q3=>?_
  cases f with
  |next=>
   obtain⟨σ3,H3,I3,n3⟩:=q3;obtain⟨m',hm,w3⟩:=hN σ3 H3 n3;exact#[m',hm,σ3,H3,I3,w3]
  |cont=>
   obtain⟨σ3,H3,I3,n3⟩:=q3;obtain⟨m',hm,w3⟩:=hN σ3 H3 n3;exact#[m',hm,σ3,H3,I3,w3]
  |brk=>exact q3
  |ret v=>exact q3
 |false=>
  rw[T8 aT];exact fU #[σ1,H2,I2,q2]
end
structure It where
 go:Nat->Hp->Prop
 yld:Nat->Hp->V->Hp->Prop
 stop:Nat->Hp->Prop
def Ug(X:Cx)(pq:List (aO×gf))(H:Hp)(b:aO):Prop:=
 H b=ai/\b≠X.env.locals/\b∉X.fs/\(b∈X.ex\/X.s₀.heap.objs.size<=b)/\(∀x c,X.env.cells.lookup x=aa c->c≠b)/\∀p∈X.pn++pq,p.1≠b
def Inv.fpOk(I:Inv X pq Z H s)(hb:s.heap.objs.size<=b)(hn:H' b=ai):Ug X pq H' b:=by
 refine#[hn,ek<|bn I.lt hb,I.nofs hb,.inr<|bV I.sz hb,λx c e z=>?_,λp hp z=>?_]
 .obtain⟨v,q⟩:=I.cell x c e
  exact T7 (bn q.lt<|by rw[z];exact hb)<|bv _
 .exact T7 (bn (aG (I.pin p hp).1)<|by rw[z];exact hb)<|bv _
structure Turn(P:bP)(w:b9)(K:ap)(tg:Expr)(J:It)(fp:List aO)(it:aO)(tn:Nat->cQ->Prop):Prop where
 mem:it∈fp
 obj:∀i h,tn i h->∀b∈fp,∃o,h.get? b=aa o/\∀v,o.data≠.cell v
 keep:∀i h h',tn i h->(∀b∈fp,∀o,h.get? b=aa o->h'.get? b=aa o)->tn i h'
 item:∀(X:Cx),X.prog=P->X.w=w->X.K=K->X.calm=ao->∀(i:Nat)(pq:List (aO×gf))(s:aM)(Z:St)(H:Hp)(E:aB->aM->Prop),Inv X pq Z H s->(∀b∈fp,Ug X pq H b)->tn i s.heap->J.go i H->
  aY (aW P w) X.A (ml<|.ref it) (λr s1=>∃u,r=aa u/\
   aY (aW P w) X.A (mF tg (.ref it) u) (λ_ s2=>∃x H',Inv X pq Z H' s2/\ZA x u/\J.yld i H x H'/\tn (i+1) s2.heap/\∀b∈fp,H' b=ai) E s1) E s
 done:∀(X:Cx),X.prog=P->X.w=w->X.K=K->X.calm=ao->∀(i:Nat)(pq:List (aO×gf))(s:aM)(Z:St)(H:Hp)(E:aB->aM->Prop),Inv X pq Z H s->(∀b∈fp,Ug X pq H b)->tn i s.heap->J.stop i H->
  aY (aW P w) X.A (ml<|.ref it) (λr s1=>r=ai/\Inv X pq Z H s1) E s
 self:∀(A:cz)(i:Nat)(s:aM)(Q:aB->aM->Prop)(E:aB->aM->Prop),tn i s.heap->Q (.ref it) s->aY (aW P w) A (nO<|.ref it) Q E s
abbrev TI:=St->Hp->(It->Hp->Prop)->Prop
def PIE(X:Cx)(pq:List (aO×gf))(Z:St)(tg:Expr)(R:It->Hp->Prop)(itv:aB)(s2:aM):Prop:=
 ∃(it:aO)(fp:List aO)(tn:Nat->cQ->Prop)(J:It)(H':Hp),itv=.ref it/\Inv X pq Z H' s2/\Turn X.prog X.w X.K tg J fp it tn/\tn 0 s2.heap/\(∀b∈fp,Ug X pq H' b)/\R J H'
def PI(X:Cx)(tg iter:Expr)(wi:TI):Prop:=
 ∀pq s Z H R,Inv X pq Z H s->wi Z H R->
  aY #[10] X.A (cR iter X.env) (λv s1=>aY #[10] X.A (nO v) (PIE X pq Z tg R) X.xe s1) X.xe s
def Zdp(ho:s.heap.get? it=aa o)(hc:o.cls=.type n)(hd:o.data=.fields vs)
  (hn:["enumerate","zip","dict_itemiterator","dict_reverseitemiterator","odict_iterator","itertools.zip_longest","itertools.pairwise"].contains n=aj)(hQ:Q () s):aY M A (mF tg (.ref it) u) Q E s:=by
 cases tg<;>first
  |exact aw hQ
  |(cases u<;>first
    |exact aw hQ
    |(refine ae (kz ho ?_)
      rw[hc,hd];show aY M A (if(["enumerate","zip","dict_itemiterator","dict_reverseitemiterator","odict_iterator","itertools.zip_longest","itertools.pairwise"].contains n&&vs[0]? == aa (fu _))=ao then _ else _) Q E s
      rw[T8 (by intro h;rw[hn]at h;cases h)]
      exact aw hQ))
noncomputable def Itl(K:ap)(a:aO):It:=
 #[λi H=>∃xs x,SqL K H a xs/\xs[i]?=aa x,λi H x H'=>H'=H/\∀xs,SqL K H a xs->xs[i]?=aa x,λi H=>∃xs,SqL K H a xs/\xs.length<=i]
noncomputable def Itt(K:ap)(a:aO):It:=
 #[λi H=>∃xs x,SqT K H a xs/\xs[i]?=aa x,λi H x H'=>H'=H/\∀xs,SqT K H a xs->xs[i]?=aa x,λi H=>∃xs,SqT K H a xs/\xs.length<=i]
noncomputable def Itr(lo:Int)(n:Nat):It:=#[λi _=>i<n,λi H x H'=>H'=H/\x=.int (lo+i),λi _=>n<=i]
def jB{K:ap}(a it):Turn P w K tg (Itl K a) [it] it (λi h=>h.IsListIter it a i) where
 mem:=by simp
 obj:=λi h st b hb=>by
  have e:b=it:=by simpa using hb
  subst e;obtain⟨o,e,c,d⟩:=st;exact#[o,e,λv z=>by rw[d]at z;cases z]
 keep:=λi h h' st k=>st.at λo e=>k it #[2] o e
 item:=by
  intro X hP hw hK hc i pq s Z H E I hf st hg;subst hP hw hK;obtain⟨xs,x,hq,hx⟩:=hg;obtain⟨its,rv,p,hz⟩:=I.list hq;obtain⟨u,hu,ru⟩:=rv.get hx;obtain⟨f0,f1,f2,f3,f4,f5⟩:=hf it #[2]
  refine mm st p.isList (by simpa using hu) λh' st' sb=>?_
  obtain⟨o,e,c,d⟩:=id st';exact#[u,rfl,Zdp e c d #[1] #[x,H,(I.turned (λb o hb e=>(sb.2 b hb).trans e) f0 f1 f3 f4 f5),ru,#[rfl,λys hy=>by rw[I.list_inj hy hq];exact hx],st',λb hb=>(hf b hb).1]]
 done:=by
  intro X hP hw hK hc i pq s Z H E I hf st hg;subst hP hw hK;obtain⟨xs,hq,hx⟩:=hg;obtain⟨its,rv,p,hz⟩:=I.list hq;obtain⟨f0,f1,f2,f3,f4,f5⟩:=hf it #[2]
  have hl:=rv.length;exact mM (I.ok.hd hc) st p.isList (by simp;lia) λh' eb=>#[rfl,I.turned (λb o hb e=>eb b o hb e) f0 f1 f3 f4 f5]
 self:=λ_ _ _ _ _ st h=>wpAny_pyIter_listiter st h
def vi{K:ap}(a it):Turn P w K tg (Itt K a) [it] it (λi h=>h.IsTupleIter it a i) where
 mem:=by simp
 obj:=λi h st b hb=>by
  have e:b=it:=by simpa using hb
  subst e;obtain⟨o,e,c,d⟩:=st;exact#[o,e,λv z=>by rw[d]at z;cases z]
 keep:=λi h h' st k=>st.at λo e=>k it #[2] o e
 item:=by
  intro X hP hw hK hc i pq s Z H E I hf st hg;subst hP hw hK;obtain⟨xs,x,hq,hx⟩:=hg;obtain⟨its,rv,p,hz⟩:=I.tuple hq;obtain⟨u,hu,ru⟩:=rv.get hx;obtain⟨f0,f1,f2,f3,f4,f5⟩:=hf it #[2]
  refine wpAny_pyNext_tuple_item st (p) (by simpa using hu) λh' st' sb=>?_
  obtain⟨o,e,c,d⟩:=id st';exact#[u,rfl,Zdp e c d #[1] #[x,H,(I.turned (λb o hb e=>(sb.2 b hb).trans e) f0 f1 f3 f4 f5),ru,#[rfl,λys hy=>by rw[I.tuple_inj hy hq];exact hx],st',λb hb=>(hf b hb).1]]
 done:=by
  intro X hP hw hK hc i pq s Z H E I hf st hg;subst hP hw hK;obtain⟨xs,hq,hx⟩:=hg;obtain⟨its,rv,p,hz⟩:=I.tuple hq;obtain⟨f0,f1,f2,f3,f4,f5⟩:=hf it #[2]
  have hl:=rv.length;exact wpAny_pyNext_tuple_end (I.ok.hd hc) st (p) (by simp;lia) λh' eb=>#[rfl,I.turned (λb o hb e=>eb b o hb e) f0 f1 f3 f4 f5]
 self:=λ_ _ _ _ _ st h=>wpAny_pyIter_tupleiter st h
def vM{K:ap}(it lo n):Turn P w K tg (Itr lo n) [it] it (λi h=>IsRangeIter h it (lo+(i:Nat)*1) ((n:Int)-(i:Nat)) 1) where
 mem:=by simp
 obj:=λi h st b hb=>by
  have e:b=it:=by simpa using hb
  subst e;exact#[_,st,λv z=>by
   cases z]
 keep:=λi h h' st k=>k it #[2] _ st
 item:=by
  intro X hP hw hK hc i pq s Z H E I hf st hg;obtain⟨f0,f1,f2,f3,f4,f5⟩:=hf it #[2]
  refine(Walks.range (I.ok.hd hc) it lo 1 n).item i s _ _ hg st λv h' tk hv st' kk=>?_
  obtain⟨t,rfl⟩:=hv;have I1:Inv X pq Z H {s with heap:=h',toks:=tk}:=I.turned (λb o hb e=>kk b o (by simpa using hb) e) f0 f1 f3 f4 f5
  refine#[_,rfl,Zdp st' rfl rfl #[1] #[.int<|lo+i,H,I1,#[t,?_],#[rfl,rfl],st',λb hb=>(hf b hb).1]]
  rw[pC]
 done:=by
  intro X hP hw hK hc i pq s Z H E I hf st hg;obtain⟨f0,f1,f2,f3,f4,f5⟩:=hf it #[2]
  exact wpAny_pyNext_range_end (I.ok.hd hc) st (by have:n<=i:=hg;lia) λh' eb=>#[rfl,I.turned (λb o hb e=>eb b o hb e) f0 f1 f3 f4 f5]
 self:=λ_ _ _ _ _ st h=>wpAny_pyIter_rangeiter st h
section
variable{X:Cx}{tg:Expr}
theorem wz{H:Hp}{lo hi:Int}(I:Inv X pq Z H s)(h1:-(2^62)<=lo)(h2:lo<2^62)(h3:-(2^62)<=hi)(h4:hi<2^62)
  (q:R (Itr lo (hi-lo).toNat) H):aY #[10] X.A (nO<|.ref s.heap.objs.size) (PIE X pq Z tg R) E {s with heap:=s.heap.push {cls:=.type "range",data:=.fields [.int lo t,.int hi u,.int 1 v].toArray},toks:=tk}:=by
 refine wpAny_pyIter_range (IsRange.new ..) (small_one h1 h2 h3 h4) ?_;have I1:Inv X pq Z H {s with heap:=s.heap.push {cls:=.type "range",data:=.fields [.int lo t,.int hi u,.int 1 v].toArray},toks:=tk}:=I.kept λb o e=>au _ e
 refine#[(s.heap.push {cls:=.type "range",data:=.fields [.int lo t,.int hi u,.int 1 v].toArray}).objs.size,[(s.heap.push {cls:=.type "range",data:=.fields [.int lo t,.int hi u,.int 1 v].toArray}).objs.size],_,_,H,rfl,
  I1.kept λb o e=>au _ e,vM _ lo (hi-lo).toNat,?_,λb hb=>?_,q]
 .have e1:lo+((0:Nat):Int)*1=lo:=by simp
  have e2:(((hi-lo).toNat:Nat):Int)-((0:Nat):Int)=dM.Range.rangeSize lo hi 1:=by rw[rangeSize_one];split<;>lia
  rw[e1,e2];exact aH _ rfl
 .have e:b=(s.heap.push {cls:=.type "range",data:=.fields [.int lo t,.int hi u,.int 1 v].toArray}).objs.size:=by simpa using hb
  subst e;exact I1.fpOk (aJ _)<|I1.hok.fresh<|aJ _
def ZiK(ta:TA):TI:=λZ H R=>ta Z H λvs H1=>∃j:Int,vs=[.int j]/\-(2^62)<=j/\j<2^62/\R (Itr 0 j.toNat) H1
def Zih(ta:TA):TI:=λZ H R=>ta Z H λvs H1=>∃i j:Int,vs=[.int i,.int j]/\(-(2^62)<=i/\i<2^62/\-(2^62)<=j/\j<2^62)/\R (Itr i (j-i).toNat) H1
theorem jW{a:Expr}{ta:TA}{p pos:iV}(hg:Gl X "range")(hm:X.mg "range" = ai)(ha:PA X [a] ta)(hs:aE [a] X.env=[(aj,cR a X.env)]:=by rfl):PI X tg (.Call (.Name "range" p) [a] [] pos) (ZiK ta):=by
 intro pq s Z H R I h;refine Call_<|XF I hg hm boot_range<|c9 (thn (ha pos pq s Z H _ I h) λus s1 #[vs,H1,I1,r1,q1]=>?_) hs rfl
 obtain⟨j,e,q1,q2,q⟩:=q1;subst e;cases r1 with
 |cons r rr=>
  cases rr;obtain⟨t,rfl⟩:=r;exact call_range_1<|wz I1 #[0] #[0] q1 q2 (by simpa using q)
def j5{a b:Expr}{ta:TA}{p pos:iV}(hg:Gl X "range")(hm:X.mg "range" = ai)(ha:PA X [a,b] ta)(hs:aE [a,b] X.env=[(aj,cR a X.env),(aj,cR b X.env)]:=by rfl)(hs2:aE [b] X.env=[(aj,cR b X.env)]:=by rfl) :
  PI X tg (.Call (.Name "range" p) [a,b] [] pos) (Zih ta):=by
 intro pq s Z H R I h;refine Call_<|XF I hg hm boot_range<|c9 (thn (ha pos pq s Z H _ I h) λus s1 #[vs,H1,I1,r1,q1]=>?_) (by rw[hs,hs2]) (by rw[hs2];rfl)
 obtain⟨i,j,e,⟨q1,q2,q3,q4⟩,q⟩:=q1;subst e;cases r1 with
 |cons r rr=>
  cases rr with
  |cons r' rr=>
   cases rr;obtain⟨t,rfl⟩:=r;obtain⟨t',rfl⟩:=r';exact call_range_2<|wz I1 q1 q2 q3 q4 q
def Zjy(wi:TI)(g:TG)(tb:TS):TS:=λD Z H=>wi Z H λJ H1=>∃W:Nat->Nat->St->Hp->Prop,(∃m,W 0 m Z H1)/\∀i m Z H,W i m Z H->
 (J.stop i H/\D.nx Z H)\/(J.go i H/\∃N:St->Hp->Prop,(∀σ' H',N σ' H'->∃m',m'<m/\W (i+1) m' σ' H')/\∀x H',J.yld i H x H'->g x Z H' λσ2 H2=>tb {D with nx:=N,ct:=N,bk:=D.nx} σ2 H2)
noncomputable def Qq(fp:List aO)(h:cQ):List (aO×gf):=fp.filterMap λb=>(h.get? b).map λo=>(b,o)
def X0(hb:b∈fp)(e:h.get? b=aa o):(b,o)∈Qq fp h:=nP.mpr #[b,hb,by rw[e];rfl]
def jq(hp:p∈Qq fp h):p.1∈fp/\h.get? p.1=aa p.2:=by
 obtain⟨b,hb,e⟩:=nP.mp hp;cases q:h.get? b with
 |none=>rw[q]at e;cases e
 |some o=>
  rw[q]at e;have e':=aq e;subst e';exact#[hb,q]
def Inv.pinned(I:Inv X pq Z H s)(hf:∀b∈fp,Ug X pq H b)(ho:∀b∈fp,∃o,s.heap.get? b=aa o/\∀v,o.data≠.cell v):Inv X (pq++Qq fp s.heap) Z H s:=
 I.pins_of λp hp=>(bU.mp hp).elim (λz=>I.pin p<|bq _ z) λz=>by
  obtain⟨hb,e⟩:=jq z;obtain⟨f0,f1,f2,_⟩:=hf p.1 hb;obtain⟨o,e',d⟩:=ho p.1 hb;rw[e]at e';cases e';exact#[e,f0,f1,f2,d]
def Inv.unpinned(I:Inv X (pq++pl) Z H s):Inv X pq Z H s:=I.pins_of λp hp=>I.pin p<|bq _<|cT _ hp
def Zbj{g:TG}(hp:nq #[10] X.A X.env X.xe)(hc:X.calm=ao)(hi:PI X tg iter wi)(hg:PG X tg g)(hb:PSs X body tb)
  (hs:∀x,dL iter X.env x=cX x:=by intro _;rfl):PS X (.For tg iter body [] pos) (Zjy wi g tb):=by
 intro pq s Z H D I h;refine wpAny_For (thn (hi pq s Z H _ I h) λv s1 h1=>thn h1 λitv s2 h2=>?_) hs
 obtain⟨it,fp,tn,J,H2,e,I2,T,st2,f2,W,⟨m0,w0⟩,turn⟩:=h2;subst e;have stat:∀{H':Hp},(∀b∈fp,H' b=ai)->∀b∈fp,Ug X pq H' b:=λhn b hb=>#[hn b hb,(f2 b hb).2]
 refine codeAny_forLoop_any (λn s'=>∃i σ' H',Inv X pq σ' H' s'/\tn i s'.heap/\(∀b∈fp,H' b=ai)/\W i n σ' H') ?_ m0 #[0,Z,H2,I2,st2,λb hb=>(f2 b hb).1,w0]
 rintro n s3 ⟨i,σ3,H3,I3,st3,fr3,w3⟩
 rcases turn i n σ3 H3 w3 with⟨stop,qn⟩|⟨go,N,hN,step⟩
 .refine eW hp (thn (T.done X rfl rfl rfl hc i pq s3 σ3 H3 X.xe I3 (stat fr3) st3 stop) λr s4 #[hr,I4]=>?_)
  subst hr;exact fU #[σ3,H3,I4,qn]
 .refine eW hp (thn (T.item X rfl rfl rfl hc i pq s3 σ3 H3 X.xe I3 (stat fr3) st3 go) λr s4 #[u,hr,h4]=>?_)
  subst hr;refine eW hp<|thn h4 λ_ s5 #[x,H5,I5,r5,y5,st5,fr5]=>?_
  refine eW hp<|thn (hg _ s5 σ3 H5 x u _ (I5.pinned (stat fr5)<|T.obj _ _ st5) r5<|step x H5 y5) λ_ s6 #[σ6,H6,I6,q6]=>?_
  refine eW hp<|thn (hb _ s6 σ6 H6 _ I6 q6) λf s7 q7=>?_
  have sw:∀{σ7:St}{H7:Hp},Inv X (pq++Qq fp s5.heap) σ7 H7 s7->N σ7 H7->∃m,m<n/\∃i σ' H',Inv X pq σ' H' s7/\tn i s7.heap/\(∀b∈fp,H' b=ai)/\W i m σ' H':=λ{σ7 H7} I7 n7=>by
   obtain⟨m',hm,w7⟩:=hN σ7 H7 n7;refine#[m',hm,i+1,σ7,H7,I7.unpinned,T.keep _ _ _ st5 λb hb o e=>(I7.pin (b,o)<|bq _<|bq _<|X0 hb e).1,λb hb=>?_,w7]
   obtain⟨o,e,d⟩:=T.obj _ _ st5 b hb;exact(I7.pin (b,o)<|bq _<|bq _<|X0 hb e).2.1
  cases f with|next=>obtain⟨σ7,H7,I7,n7⟩:=q7;exact sw I7 n7|cont=>obtain⟨σ7,H7,I7,n7⟩:=q7;exact sw I7 n7|brk=>obtain⟨σ7,H7,I7,q7⟩:=q7;exact#[σ7,H7,I7.unpinned,q7]|ret v=>obtain⟨x7,σ7,H7,I7,r7,q7⟩:=q7;exact#[x7,σ7,H7,I7.unpinned,r7,q7]
end
abbrev R2:=V->V->Hp->VK->Prop
def OpR(X:Cx)(f:aB->aB->pX aB)(r:R2):Prop:=
 ∀pq s Z H x y v u Q,Inv X pq Z H s->ZA x v->ZA y u->r x y H Q->
  aY #[10] X.A (f v u) (EP X pq Z Q) X.xe s
def UnR(X:Cx)(f:aB->pX aB)(r:V->Hp->VK->Prop):Prop:=
 ∀pq s Z H x v Q,Inv X pq Z H s->ZA x v->r x H Q->
  aY #[10] X.A (f v) (EP X pq Z Q) X.xe s
def ZG(X:Cx)(f:aB)(r:List V->Hp->VK->Prop):Prop:=
 ∀pq s Z H xs us Q,Inv X pq Z H s->Vals xs us->r xs H Q->
  aY #[10] X.A (call f us) (EP X pq Z Q) X.xe s
def Zji(X:Cx)(r:V->Hp->(Bool->Hp->Prop)->Prop):Prop:=
 ∀pq s Z H x v Q,Inv X pq Z H s->ZA x v->r x H Q->
  aY #[10] X.A (sf v) (TP X pq Z Q) X.xe s
def tOp(r:R2)(ta tb:TE):TE:=λZ H Q=>ta Z H λx H1=>tb Z H1 λy H2=>r x y H2 Q
def tUn(r:V->Hp->VK->Prop)(ta:TE):TE:=λZ H Q=>ta Z H λx H1=>r x H1 Q
def rI(C:Int->Int->Prop)(g:Int->Int->V):R2:=λx y H Q=>∃i j,x=.int i/\y=.int j/\C i j/\Q (g i j) H
def rI0(g:Int->Int->V):R2:=λx y H Q=>∃i j,x=.int i/\y=.int j/\Q (g i j) H
def rU(g:Int->V):V->Hp->VK->Prop:=λx H Q=>∃i,x=.int i/\Q (g i) H
def Zgr(ha:PE X a ta)(hb:PE X b tb){R:V->V->Hp->Prop}(I:Inv X pq Z H s)
  (h:ta Z H λx H1=>tb Z H1 λy H2=>R x y H2){f:aB->aB->pX aB}
  (hf:∀v u s2 x y H2,Inv X pq Z H2 s2->ZA x v->ZA y u->R x y H2->aY #[10] X.A (f v u) Q X.xe s2) :
  aY #[10] X.A (cR a X.env) (λv s₁=>aY #[10] X.A (cR b X.env) (λu s₂=>aY #[10] X.A (f v u) Q X.xe s₂) X.xe s₁) X.xe s:=by
 refine thn (ha pq s Z H _ I h) λv s1 #[x,H1,I1,r1,q1]=>?_
 refine thn (hb pq s1 Z H1 _ I1 q1) λu s2 #[y,H2,I2,r2,q2]=>?_
 exact hf v u s2 x y H2 I2 r1 r2 q2
def UL(ho:OpR X (eX op) r)(ha:PE X a ta)(hb:PE X b tb):PE X (.BinOp a op b pos) (tOp r ta tb):=by
 intro pq s Z H Q I h;exact wpAny_BinOp<|Zgr ha hb I h λv u s2 x y H2 I2 rx ry q=>ho pq s2 Z H2 x y v u Q I2 rx ry q
def Zf4(ho:UnR X (unaryOp op) r)(ha:PE X a ta):PE X (.UnaryOp op a pos) (tUn r ta):=by
 intro pq s Z H Q I h;exact UnaryOp_<|thn (ha pq s Z H _ I h)<|by rintro v s1 ⟨x,H1,I1,r1,q1⟩;exact ho pq s1 Z H1 x v Q I1 r1 q1
def opI{g:Int->Int->Int}
  (oY:∀i j t u s Q E,C i j->Q (.int (g i j) s.toks) {s with toks:=s.toks+1}->aY #[10] X.A (f (.int i t)<|.int j u) Q E s) :
  OpR X f (rI C λi j=>.int<|g i j):=by
 intro pq s Z H x y v u Q I rx ry h;obtain⟨i,j,rfl,rfl,hc,q⟩:=h;obtain⟨t,rfl⟩:=rx;obtain⟨t',rfl⟩:=ry;exact oY i j t t' s _ _ hc #[.int<|g i j,H,I.tok _,#[_,rfl],q]
def Zg7{g:Int->Int->Int}
  (oY:∀i j t u s Q E,Q (.int (g i j) s.toks) {s with toks:=s.toks+1}->aY #[10] X.A (f (.int i t)<|.int j u) Q E s) :
  OpR X f (rI0 λi j=>.int<|g i j):=by
 intro pq s Z H x y v u Q I rx ry h;obtain⟨i,j,rfl,rfl,q⟩:=h;obtain⟨t,rfl⟩:=rx;obtain⟨t',rfl⟩:=ry;exact oY i j t t' s _ _ #[.int<|g i j,H,I.tok _,#[_,rfl],q]
def Zew{g:Int->Int->Bool}
  (oY:∀i j t u s Q E,Q (.bool<|g i j) s->aY #[10] X.A (f (.int i t)<|.int j u) Q E s) :
  OpR X f (rI0 λi j=>.bl<|g i j):=by
 intro pq s Z H x y v u Q I rx ry h;obtain⟨i,j,rfl,rfl,q⟩:=h;obtain⟨t,rfl⟩:=rx;obtain⟨t',rfl⟩:=ry;exact oY i j t t' s _ _ #[.bl<|g i j,H,I,rfl,q]
def CPow(i j:Int):Prop:=0<=j/\j<=1000000/\i.natAbs<2^64
def Zgh:OpR X (eX .Add) (rI0 λi j=>.int<|i+j):=Zg7 λ_ _ _ _ _ _ _ q=>add_int q
def ZgZ:OpR X (eX .Sub) (rI0 λi j=>.int<|i-j):=Zg7 λ_ _ _ _ _ _ _ q=>sub_int q
def ZgM:OpR X (eX .Mod) (rI (λ_ j=>0<j) λi j=>.int<|i%j):=opI λi j _ _ _ _ _ hc q=>by
 have h1:=hc;exact mod_int' #[0] (by rw[Int.fmod_eq_emod_of_nonneg i #[0]];exact q)
def Zhn:OpR X (eX .Pow) (rI CPow λi j=>.int<|i^j.toNat):=opI λ_ _ _ _ _ _ _ hc q=>pow_int_small hc.1 hc.2.1 hc.2.2 q
def ZdP:OpR X (inplaceOp .Add) (rI0 λi j=>.int<|i+j):=Zg7 λ_ _ _ _ _ _ _ q=>iadd_int q
def unI{g:Int->Int}
  (oY:∀i t s Q E,Q (.int (g i) s.toks) {s with toks:=s.toks+1}->aY #[10] X.A (f<|.int i t) Q E s) :
  UnR X f (rU λi=>.int<|g i):=by
 intro pq s Z H x v Q I rx h;obtain⟨i,rfl,q⟩:=h;obtain⟨t,rfl⟩:=rx;exact oY i t s _ _ #[.int<|g i,H,I.tok _,#[_,rfl],q]
def Zbq:UnR X (unaryOp .USub) (rU λi=>.int<|-i):=unI λ_ _ _ _ _ q=>neg_int q
noncomputable def scal:V->V->Bool
 |.non,.non=>ao|.non,.int _=>ao|.int _,.non=>ao|.non,.bl _=>ao|.bl _,.non=>ao|.non,.str _=>ao|.str _,.non=>ao
 |.int _,.int _=>ao|.bl _,.bl _=>ao|.str _,.str _=>ao
 |.int _,.str _=>ao|.str _,.int _=>ao|.bl _,.str _=>ao|.str _,.bl _=>ao
 |_,_=>aj
def rEq:R2:=λx y H Q=>scal x y=ao/\Q (.bl<|ag<|x=y) H
def rNe:R2:=λx y H Q=>scal x y=ao/\Q (.bl<|!decide (x=y)) H
def qc :ag (V.int i=V.int j)=(i == j):=by
 rw[cL];simp
def Zay :ag (V.bl i=V.bl j)=(i == j):=by
 rw[cL];simp
def uz :ag (V.str i=V.str j)=(i == j):=by
 rw[cL];simp
section
variable{X:Cx}{a b c:Expr}{ta tb tc:TE}{pos:iV}
def ZI(I:Inv X pq Z H s)(q:Q (.bl k) H)(e:k=k'):EP X pq Z Q (.bool k') s:=by
 subst e;exact#[.bl k,H,I,rfl,q]
def ZiE:OpR X (cM .Eq) rEq:=by
 intro pq s Z H x y v u Q I rx ry h;obtain⟨hs,q⟩:=h;cases x with
 |non=>
  cases rx;cases y with|non=>cases ry;exact PySem.EqNone.eq_none_none<|ZI I q #[2]|bl j=>cases ry;exact PySem.EqNone.eq_none_bool<|ZI I q #[2]|int j=>obtain⟨t',rfl⟩:=ry;exact PySem.EqNone.eq_none_int<|ZI I q #[2]|str j=>obtain⟨t',rfl⟩:=ry;exact PySem.EqNone.eq_none_str<|ZI I q #[2]|_=>exact T7 (hs) aT
 |bl i=>
  cases rx;cases y with|non=>cases ry;exact PySem.EqNone.eq_bool_none<|ZI I q #[2]|bl j=>cases ry;exact eq_bool<|ZI I q Zay|str j=>obtain⟨t',rfl⟩:=ry;exact PySem.EqMixed.eq_bool_str<|ZI I q #[2]|_=>exact T7 (hs) aT
 |int i=>
  obtain⟨t,rfl⟩:=rx;cases y with|non=>cases ry;exact PySem.EqNone.eq_int_none<|ZI I q #[2]|int j=>obtain⟨t',rfl⟩:=ry;exact eq_int<|ZI I q qc|str j=>obtain⟨t',rfl⟩:=ry;exact PySem.EqMixed.eq_int_str<|ZI I q #[2]|_=>exact T7 (hs) aT
 |str i=>
  obtain⟨t,rfl⟩:=rx;cases y with|non=>cases ry;exact PySem.EqNone.eq_str_none<|ZI I q #[2]|bl j=>cases ry;exact PySem.EqMixed.eq_str_bool<|ZI I q #[2]|int j=>obtain⟨t',rfl⟩:=ry;exact PySem.EqMixed.eq_str_int<|ZI I q #[2]|str j=>obtain⟨t',rfl⟩:=ry;exact eq_str<|ZI I q uz|_=>exact T7 (hs) aT
 |_=>cases y<;>exact T7 (hs) aT
def ZiD:OpR X (cM .NotEq) rNe:=by
 intro pq s Z H x y v u Q I rx ry h;obtain⟨hs,q⟩:=h;cases x with
 |non=>
  cases rx;cases y with|non=>cases ry;exact PySem.EqNone.ne_none_none<|ZI I q #[2]|bl j=>cases ry;exact PySem.EqNone.ne_none_bool<|ZI I q #[2]|int j=>obtain⟨t',rfl⟩:=ry;exact PySem.EqNone.ne_none_int<|ZI I q #[2]|str j=>obtain⟨t',rfl⟩:=ry;exact PySem.EqNone.ne_none_str<|ZI I q #[2]|_=>exact T7 (hs) aT
 |bl i=>
  cases rx;cases y with|non=>cases ry;exact PySem.EqNone.ne_bool_none<|ZI I q #[2]|bl j=>cases ry;exact ne_bool<|ZI I q<|congrArg not Zay|str j=>obtain⟨t',rfl⟩:=ry;exact PySem.EqMixed.ne_bool_str<|ZI I q #[2]|_=>exact T7 (hs) aT
 |int i=>
  obtain⟨t,rfl⟩:=rx;cases y with|non=>cases ry;exact PySem.EqNone.ne_int_none<|ZI I q #[2]|int j=>obtain⟨t',rfl⟩:=ry;exact ne_int<|ZI I q<|congrArg not qc|str j=>obtain⟨t',rfl⟩:=ry;exact PySem.EqMixed.ne_int_str<|ZI I q #[2]|_=>exact T7 (hs) aT
 |str i=>
  obtain⟨t,rfl⟩:=rx;cases y with|non=>cases ry;exact PySem.EqNone.ne_str_none<|ZI I q #[2]|bl j=>cases ry;exact PySem.EqMixed.ne_str_bool<|ZI I q #[2]|int j=>obtain⟨t',rfl⟩:=ry;exact PySem.EqMixed.ne_str_int<|ZI I q #[2]|str j=>obtain⟨t',rfl⟩:=ry;exact ne_str<|ZI I q<|congrArg not uz|_=>exact T7 (hs) aT
 |_=>cases y<;>exact T7 (hs) aT
def Zim:OpR X (cM .Lt) (rI0 λi j=>.bl<|ag<|i<j):=Zew λ_ _ _ _ _ _ _ q=>lt_int q
def ZiL:OpR X (cM .LtE) (rI0 λi j=>.bl<|ag<|i<=j):=Zew λ_ _ _ _ _ _ _ q=>le_int q
def Zi1:OpR X (cM .Gt) (rI0 λi j=>.bl<|ag<|j<i):=Zew λ_ _ _ _ _ _ _ q=>gt_int q
def Zip:OpR X (cM .GtE) (rI0 λi j=>.bl<|ag<|j<=i):=Zew λ_ _ _ _ _ _ _ q=>ge_int q
def Zh1:OpR X (cM .Is) (λx y H Q=>y=.non/\Q (.bl<|ag<|x=.non) H):=by
 intro pq s Z H x y v u Q I rx ry h;obtain⟨rfl,q⟩:=h;cases ry;refine is_none_gen<|ZI I q ?_;cases x<;>first
  |(cases rx;rfl)
  |(obtain⟨t,rfl⟩:=rx;rfl)
def Zfc:OpR X (cM .IsNot) (λx y H Q=>y=.non/\Q (.bl<|!decide (x=.non)) H):=by
 intro pq s Z H x y v u Q I rx ry h;obtain⟨rfl,q⟩:=h;cases ry;refine isnot_none_gen<|ZI I q ?_;cases x<;>first
  |(cases rx;rfl)
  |(obtain⟨t,rfl⟩:=rx;rfl)
def OpR.or(h:OpR X f r)(h':OpR X f r'):OpR X f (λx y H Q=>r x y H Q\/r' x y H Q):=by
 intro pq s Z H x y v u Q I rx ry q;rcases q with q|q
 .exact h pq s Z H x y v u Q I rx ry q
 .exact h' pq s Z H x y v u Q I rx ry q
def ZgJ(b)(h:op≠.In:=by decide)(h2:op≠.NotIn:=by decide):eC op b=aj:=by
 have e1:(op == CmpOp.In)=aj:=by cases op<;>first|rfl|exact T7 rfl h
 have e2:(op == CmpOp.NotIn)=aj:=by cases op<;>first|rfl|exact T7 rfl h2
 cases b<;>simp[eC,e1,e2]
def ZeQ(ho:OpR X (cM op) r)(ha:PE X a ta)(hb:PE X b tb)(hm:eC op b=aj):PE X (.Compare a [op] [b] pos) (tOp r ta tb):=by
 intro pq s Z H Q I h;exact wpAny_Compare1 (Zgr ha hb I h λv u s2 x y H2 I2 rx ry q=>ho pq s2 Z H2 x y v u Q I2 rx ry q) hm
def Zic(t:TE):TT:=λZ H Q=>t Z H λx H'=>∃k,x=.bl k/\Q k H'
def Zdy(ho:OpR X (cM op) r)(ha:PE X a ta)(hb:PE X b tb)(hm:eC op b=aj):PT X (.Compare a [op] [b] pos) (Zic<|tOp r ta tb):=by
 intro pq s Z H Q I h;refine mL (thn (ha pq s Z H _ I h) λv s1 #[x,H1,I1,r1,q1]=>thn (hb pq s1 Z H1 _ I1 q1) λu s2 #[y,H2,I2,r2,q2]=>
  thn (ho pq s2 Z H2 x y v u _ I2 r1 r2 q2) λc s3 #[z,H3,I3,r3,k,e,q3]=>?_) hm
 subst e;cases r3;exact d6 #[H3,I3,q3]
def ZgW(r r':R2)(ta tb tc:TE):TE:=λZ H Q=>ta Z H λx H1=>tb Z H1 λy H2=>r x y H2 λz H3=>∃k,z=.bl k/\
 (if k=ao then tc Z H3 λw' H4=>r' y w' H4 Q else Q (.bl aj) H3)
def ZbL(ho:OpR X (cM op) r)(ho':OpR X (cM op') r')(ha:PE X a ta)(hb:PE X b tb)(hc:PE X c tc)
  (hm:lastMarks [op,op'] [b,c]=aj:=by with_unfolding_all rfl):PE X (.Compare a [op,op'] [b,c] pos) (ZgW r r' ta tb tc):=by
 intro pq s Z H Q I h;refine Compare_chain (thn (ha pq s Z H _ I h) λv s1 #[x,H1,I1,r1,q1]=>chain_link (thn (hb pq s1 Z H1 _ I1 q1) λu s2 #[y,H2,I2,r2,q2]=>
  thn (ho pq s2 Z H2 x y v u _ I2 r1 r2 q2) λd s3 #[z,H3,I3,r3,k,e,q3]=>?_)) hm
 subst e;cases r3;refine d6 ?_;cases k with|false=>exact ite_ff #[.bl aj,H3,I3,rfl,q3]|true=>exact ite_tt<|chain_last<|thn (hc pq s3 Z H3 _ I3 q3)<|by rintro w' s4 ⟨z',H4,I4,r4,q4⟩;exact ho' pq s4 Z H4 y z' u w' Q I4 r2 r4 q4
def Ze0(K:ap)(x:V)(H:Hp)(k:Bool):Prop:=
 match x with
 |.non=>k=aj
 |.bl b=>k=b
 |.int i=>k=(i != 0)
 |.str y=>y.length<=a9/\k=((y.length:Int) != 0)
 |.ref p=>(∃xs,SqL K H p xs/\k = !xs.isEmpty)\/(∃xs,SqT K H p xs/\k = !xs.isEmpty)\/∃kvs,H p=aa (.dK kvs)/\k = !kvs.isEmpty
 |_=>False
def vq{κ:Type}{kvs:List (κ×V)}{vs:List (κ×aB)}(r:KV kvs vs):(!vs.isEmpty) = !kvs.isEmpty:=by
 cases r<;>rfl
def QD(r:Vals xs its):(!its.toArray.isEmpty) = !xs.isEmpty:=by
 cases r<;>simp
def zI:(a9:Nat)<2^63:=by rw[dg];decide
theorem ZbT:Zji X (λx H Q=>∃k,Ze0 X.K x H k/\Q k H):=by
 intro pq s Z H x v Q I rx h;obtain⟨k,e,q⟩:=h;have hs:=dg;cases x with
 |non=>
  cases rx;have e':=e;subst e';exact truthy_none #[H,I,q]
 |bl b=>
  cases rx;have e':=e;subst e';exact d6 #[H,I,q]
 |int i=>
  obtain⟨t,rfl⟩:=rx;have e':=e;subst e';exact nQ #[H,I,q]
 |str y=>
  obtain⟨t,rfl⟩:=rx;obtain⟨hy,e'⟩:=e;subst e';exact PySem.P.truthy_str #[0] #[H,I.tok _,q]
 |ref p=>
  cases rx;have e':=e;rcases e' with⟨xs,hx,e'⟩|⟨xs,hx,e'⟩|⟨kvs,hx,e'⟩
  .subst e'
   obtain⟨its,r,pl,hz⟩:=I.list hx;have hlen:=r.length;exact wpAny_truthy_list pl.isList (by simp;lia) #[H,I.tok _,by rw[QD r];exact q]
  .subst e'
   obtain⟨its,r,pl,hz⟩:=I.tuple hx;have hlen:=r.length;exact truthy_tuple pl (by simp;lia) #[H,I.tok _,by rw[QD r];exact q]
  .subst e'
   obtain⟨hz,hS,vs,r,m⟩:=I.hok p _ hx;have hlen:=Paired.length r;exact wpAny_truthy_dict hS m #[0] #[H,I.tok _,by rw[vq r];exact q]
 |_=>exact(e).elim
def Zb0(ha:PE X a ta)(he:∀whole,isTrue a X.env whole=(do let v <-whole;ou a.pos;lg [v] (sf v))) :
  PT X a (λZ H Q=>ta Z H λx H'=>∃k,Ze0 X.K x H' k/\Q k H'):=by
 intro pq s Z H Q I h;exact isTrue_plain (thn (ha pq s Z H _ I h)<|by rintro v s1 ⟨x,H1,I1,r1,q1⟩;exact ZbT pq s1 Z H1 x v Q I1 r1 q1)<|he _
def X9(r:Vals [x] us):∃u,us=[u]/\ZA x u:=by
 cases r with|cons r1 r2=>cases r2;exact#[_,rfl,r1]
def ZcY(r:Vals [x,y] us):∃u w',us=[u,w']/\ZA x u/\ZA y w':=by
 cases r with
 |cons r1 r2=>
  cases r2 with|cons r3 r4=>cases r4;exact#[_,_,rfl,r1,r3]
def jt(hc:X.calm=ao):ZG X (.builtin "max") (λxs H Q=>∃i j,xs=[.int i,.int j]/\Q (.int (if j>i then j else i)) H):=by
 intro pq s Z H xs us Q I r h;obtain⟨i,j,rfl,q⟩:=h;obtain⟨u,w',rfl,⟨t,rfl⟩,⟨t',rfl⟩⟩:=ZcY r;refine max_two_ints (I.ok.hd hc) λh' tk k=>#[_,H,I.kept k,?_,q]
 by_cases hj:j>i
 .rw[T9 hj,T9 hj];exact#[_,rfl]
 .rw[T8 hj,T8 hj];exact#[_,rfl]
def jL(hc:X.calm=ao):ZG X (.builtin "min") (λxs H Q=>∃i j,xs=[.int i,.int j]/\Q (.int (if j<i then j else i)) H):=by
 intro pq s Z H xs us Q I r h;obtain⟨i,j,rfl,q⟩:=h;obtain⟨u,w',rfl,⟨t,rfl⟩,⟨t',rfl⟩⟩:=ZcY r;refine min_two_ints (I.ok.hd hc) λh' tk k=>#[_,H,I.kept k,?_,q]
 by_cases hj:j<i
 .rw[T9 hj,T9 hj];exact#[_,rfl]
 .rw[T8 hj,T8 hj];exact#[_,rfl]
def js:ZG X (.type "int") (λxs H Q=>(∃i,xs=[.int i]/\Q (.int i) H)\/∃k,xs=[.bl k]/\Q (.int (if k then 1 else 0)) H):=by
 intro pq s Z H xs us Q I r h;rcases h with⟨i,rfl,q⟩|⟨k,rfl,q⟩
 .obtain⟨u,rfl,t,rfl⟩:=X9 r
  exact call_int_int #[.int i,H,I,#[_,rfl],q]
 .obtain⟨u,rfl,r1⟩:=X9 r
  cases r1;exact call_int_bool #[.int (if k then 1 else 0),H,I.tok _,#[_,rfl],q]
end
structure ObjM(h:cQ)(x dx C:aO)(mA:bR->Option aB):Prop where
 obj:h.get? x=aa (PySem.W.instObj C dx)
 ns:h.Ns1 dx mA
 ne:dx≠x
structure Cls(K:ap)(C:aO):Prop where
 pg:oZ K C bR.empty=ao
 hd:PySem.W.hasDictIn K C=ao
 po:PySem.W.plainOver K C=ao
 sa:PySem.W.findIn K (.ref C) "__setattr__" = aa (aa<|.builtin "object.__setattr__")
def Cls.get{K:ap}(c:Cls K C)(f):oZ K C f=ao:=c.pg
section
variable{X:Cx}{pq:List (aO×gf)}{Z:St}{H:Hp}{s:aM}{A:cz}{E:aB->aM->Prop}{Q:aB->aM->Prop}{c:aB}{b:Bool}
inductive TyOf(K:ap)(H:Hp):V->aB->Prop where
 |non:TyOf K H .non (.type "NoneType")
 |bl (x:Bool):TyOf K H (.bl x) (.type "bool")
 |int (i:Int):TyOf K H (.int i) (.type "int")
 |str (x:bR):TyOf K H (.str x) (.type "str")
 |lst {a:aO} {xs:List V} (e:H a=aa (.lst xs)):TyOf K H (.ref a) (.type "list")
 |frz {a:aO} {o:gf} {xs:List V} (e:H a=aa (.frz o<|.lst xs)):TyOf K H (.ref a) (.type "list")
 |tup {a:aO} {xs:List V} (e:H a=aa (.tup xs)):TyOf K H (.ref a) (.type "tuple")
 |dK {a:aO} {kvs:List (Key×V)} (e:H a=aa (.dK kvs)):TyOf K H (.ref a) (.type "dict")
 |dT {a:aO} {kvs:List (List Key×V)} (e:H a=aa (.dT kvs)):TyOf K H (.ref a) (.type "dict")
def qT(I:Inv X pq Z H s)(rx:ZA x u)(ty:TyOf X.K H x t)(e:gq X.K t c=aa b)(h:∀tk,Q (.bool b) {s with toks:=tk}) :
  aY #[10] A (call (.builtin "isinstance") [u,c]) Q E s:=by
 cases ty with
 |non=>cases(rx);exact dD PySem.W.kitx_none I.kIn fv e (λz=>nomatch z) h
 |bl y=>cases(rx);exact dD PySem.W.kitx_bool I.kIn fv e (λz=>nomatch z) h
 |int i=>obtain⟨t,q⟩:=(rx);cases q;exact dD PySem.W.kitx_int I.kIn fv e (λz=>nomatch z) h
 |str y=>obtain⟨t,q⟩:=(rx);cases q;exact dD PySem.W.kitx_str I.kIn fv e (λz=>nomatch z) h
 |@lst a xs ea=>
  cases(rx)
  obtain⟨_,_,n,_,h1⟩:=(I.hok a _ ea)
  exact dD oy I.kIn #[_,h1,rfl] e (λz=>nomatch z) h
 |@frz a ob xs ea=>
  cases(rx)
  obtain⟨_,_,_,n,_,h1⟩:=(I.hok a _ ea)
  exact dD oy I.kIn #[_,h1,rfl] e (λz=>nomatch z) h
 |@tup a xs ea=>
  cases(rx)
  obtain⟨_,_,_,p⟩:=(I.hok a _ ea)
  obtain⟨o,h1,h2,_⟩:=p;exact dD PySem.W.kitx_tuple I.kIn #[o,h1,h2] e (λz=>nomatch z) h
 |@dK a kvs ea=>
  cases(rx)
  obtain⟨_,_,vs,_,p⟩:=(I.hok a _ ea)
  obtain⟨o,es,ep,h1,h2,_⟩:=p;exact dD oz I.kIn #[o,h1,h2.1] e (λz=>nomatch z) h
 |@dT a kvs ea=>
  cases(rx)
  obtain⟨_,_,xs,_,o,es,ep,h1,h2,_⟩:=(I.hok a _ ea)
  exact dD oz I.kIn #[o,h1,h2.1] e (λz=>nomatch z) h
end
structure Room(k:Nat)(A:cz):Prop where
 hd:A.handled=ai
 dp:A.depth+3*k+5<recursionLimit
 un:A.units+16*k+200<dJ
 gd:A.guards=aa []
def Room.mono(r:Room k A)(h:j<=k):Room j A:=#[r.hd,by have:=r.dp;lia,by have:=r.un;lia,r.gd]
theorem Room.deeper(r:Room (k+1) A)(env):Room k (A.deeper env):=
 #[r.hd,by have:=r.dp;show A.depth+1+3*k+5<_;lia,by have:=r.un;show A.units+3+16*k+200<_;lia,r.gd]
theorem Room.depth(r:Room k A):A.depth<recursionLimit:=by have:=r.dp;lia
def wG:TA:=λ_ H Q=>Q [] H
def Xo(ta:TE)(tr:TA):TA:=λZ H Q=>ta Z H λx H1=>tr Z H1 λxs H2=>Q (x::xs) H2
section
variable{X:Cx}{e:Expr}{es:List Expr}{te:TE}{t:TA}{pos:iV}
def Xb:PA X [] wG:=λ_ _ _ _ H Q I h=>Calls.spliced_nil #[[],H,I,.nil,h]
def ZS(ha:PE X e te)(hr:PA X es t)(hs:aE (e::es) X.env=#[27]::aE es X.env:=by rfl):PA X (e::es) (Xo te t):=by
 intro pos pq s Z H Q I h;rw[hs];refine Calls.spliced_cons<|thn (ha pq s Z H _ I h) λu s1 #[x,H1,I1,r1,q1]=>?_
 exact thn (hr pos pq s1 Z H1 _ I1 q1)<|by rintro us s2 ⟨xs,H2,I2,r2,q2⟩;exact #[x::xs,H2,I2,.cons r1 r2,q2]
def Zjn(t:TA):TE:=λZ H Q=>t Z H λxs H1=>xs.length<=a9/\∀p,H1 p=ai->Q (.ref p) (upd H1 p<|.tup xs)
def ZeB(t:TA):TE:=λZ H Q=>t Z H λxs H1=>xs.length<=a9/\∀p,H1 p=ai->Q (.ref p) (upd H1 p<|.lst xs)
def Zgo{x1}(h:PA X es t):PE X (.Tuple es x1 pos) (Zjn t):=by
 intro pq s Z H Q I hq;refine wpAny_Tuple_spliced<|thn (h pos pq s Z H _ I hq) λus s1 #[xs,H1,I1,r,z,q]=>#[by rw[<-r.length];exact z,?_]
 have hf:=I1.hok.fresh<|aJ _;refine#[.ref s1.heap.objs.size,upd H1 s1.heap.objs.size<|.tup xs,I1.laid (t':=s1.toks) (λb u e=>au _ e) (aJ _) ?_,rfl,q _ hf]
 exact#[z,us,r,#[_,aH _ rfl,rfl,_,rfl]]
def G0(h:PA X es t):PE X (.List es pos) (ZeB t):=by
 intro pq s Z H Q I hq;refine wpAny_List_spliced<|thn (h pos pq s Z H _ I hq) λus s1 #[xs,H1,I1,r,z,q]=>#[by rw[<-r.length];exact z,?_]
 have hf:=I1.hok.fresh<|aJ _;refine#[.ref s1.heap.objs.size,upd H1 s1.heap.objs.size<|.lst xs,I1.laid (t':=s1.toks) (λb u e=>au _ e) (aJ _) ?_,rfl,q _ hf]
 exact#[z,us,0,r,aH _ rfl]
end
abbrev Sp:=List V->Hp->VK->XK->Prop
abbrev CXT:=List Env->Hp->aM->XK->aB->aM->Prop
structure Env0(P:bP)(w:b9)(K:ap)(mg:bR->Option aB)(base:cQ)(A:cz)(outer:List Env)(s:aM)(H:Hp):Prop where
 frames:A.frames=aa outer
 mod:Mod K mg base
 bs:∀b o,base.get? b=aa o->s.heap.get? b=aa o/\H b=ai
 bsz:base.objs.size<=s.heap.objs.size
 funs:s.heap.FunFrames base outer
 frf:∀b∈frs outer,H b=ai
 hok:HOk P w H s.heap
 bare:iQ s.gens
def CE(outer:List Env)(P:bP)(w:b9)(H:Hp)(s:aM)(Q:VK)(u:aB)(s':aM):Prop:=
 ∃v H',s'.os=s.os/\iQ s'.gens/\Un (frs outer) [] H H' s.heap s'.heap/\HOk P w H' s'.heap/\ZA v u/\Q v H'
def CR(CX:CXT)(outer:List Env)(P:bP)(w:b9)(H:Hp)(s:aM)(Q:VK)(E:XK)(r:si)(s':aM):Prop:=
 match r with
 |.ok (.ret u)=>CE outer P w H s Q u s'
 |.ok _=>False
 |.error e=>CX outer H s E e s'
structure FnOk(P:bP)(w:b9)(K:ap)(mg:bR->Option aB)(base:cQ)(CX:CXT)(k:Nat)(f:aO)(fd:dB)(ps:List bR)(sp:Sp):Prop where
 len:∀vs H Q E,sp vs H Q E->vs.length=ps.length
 run:∀(A:cz)(outer:List Env)(s:aM)(H:Hp)(args:Args)(us:List aB)(vs:List V)(Q:VK)(E:XK),Room k A->Env0 P w K mg base A outer s H->nr s fd args (ps.zip us)->Vals vs us->sp vs H Q E->
  gC (aW P w) A (.call (.ref f) args) (CR CX outer P w H s Q E) s
section
variable{X:Cx}{pq:List (aO×gf)}{Z:St}{H:Hp}{s s':aM}
def Inv.env0(I:Inv X pq Z H s):Env0 X.prog X.w X.K X.mg X.base X.A X.stack s H:=
 #[I.ok.frames,I.ok.mod,I.bs,bV I.ok.bsz I.sz,I.stack,I.stkFree,I.hok,I.bare]
def Inv.after(I:Inv X pq Z H s)(h:CE X.stack X.prog X.w H s Q u s'):EP X pq Z Q u s':=by
 obtain⟨v,H',os,bare,un,hok,r,q⟩:=h;obtain⟨hh,g,d,t,os'⟩:=s';obtain rfl:os'=s.os:=os;exact#[v,H',I.call (h':=hh) (t':=t) un hok bare (λb z=>T7 z #[2]),r,q]
end
def ZfW(sp:Sp)(dvs:List V)(E:XK)(t:TA):TE:=λZ H Q=>t Z H λvs H1=>sp (vs++dvs) H1 Q E
def UC(K:ap)(fd:dB)(ps:List bR)(ds:List aB):Prop:=
 ∀(s:aM)(us:List aB),K.In s.heap->(us++ds).length=ps.length->nr s fd #[us,[]] (ps.zip<|us++ds)
def UC.all{K:ap}(h:∀us,us.length=ps.length->mV fd #[us,[]]=cX (ps.zip us)):UC K fd ps []:=λs us _ hl=>by
 rw[cr]at hl ⊢;exact .of_eq<|h us hl
def Q5(CX:CXT)(X:Cx)(E:XK):Prop:=∀(pq:List (aO×gf))(Z:St)(H:Hp)(s:aM)(e:aB)(s':aM),Inv X pq Z H s->CX X.stack H s E e s'->X.xe e s'
section
variable{X:Cx}{CX:CXT}{k:Nat}{f C:aO}{fd:dB}{ps:List bR}{sp:Sp}{dvs:List V}{ds:List aB}{E:XK}{x m:bR}{p pos apos:iV}{e o:Expr}{es:List Expr}{ta:TE}{t:TA}
def ZhW(F:FnOk X.prog X.w X.K X.mg X.base CX k f fd ps sp)(hr:Room k X.A)(hb:UC X.K fd ps ds)(hd:Vals dvs ds)(hx:Q5 CX X E)
  (I:Inv X pq Z H s)(r:Vals vs us)(h:sp (vs++dvs) H Q E):aY #[10] X.A (call (.ref f) us) (EP X pq Z Q) X.xe s:=by
 have r2:=r.append hd;have hl:(us++ds).length=ps.length:=by rw[<-r2.length];exact F.len _ _ _ _ h
 refine nS<|fK (F.run X.A X.stack s H #[us,[]] (us++ds) (vs++dvs) Q E hr I.env0 (hb s us I.kIn hl) r2 h) λr s' hq=>?_
 cases r with
 |error e=>exact hx pq Z H s e s' I hq
 |ok fl=>
  cases fl with|ret u=>exact I.after hq|next=>exact False.elim hq|brk=>exact False.elim hq|cont=>exact False.elim hq
def uA(F:FnOk X.prog X.w X.K X.mg X.base CX k f fd ps sp)(hr:Room k X.A)(hg:Gl X x)(hm:X.mg x=aa (.ref f))(hk:gu X.K (.ref f)=ao)(hb:UC X.K fd ps ds)(hd:Vals dvs ds)(hx:Q5 CX X E)
  (ha:PA X (e::es) t)(hdb:(x == #[11])=aj:=by decide)(he:aE (e::es) X.env=#[27]::aE es X.env:=by rfl)(hpl:(dS pos<|aE es X.env).any (·.1)=aj:=by rfl) :
  PE X #[26] (ZfW sp dvs E t):=by
 intro pq s Z H Q I h;refine dE<|V5 I hg hm ?_ hdb;refine nU I.ok.mod.kin hk (thn (ha pos pq s Z H _ I h) λus s1 #[vs,H1,I1,r,q]=>#[I1.kIn,?_]) he hpl
 exact ZhW F hr hb hd hx I1 r q
end
structure FnScope(N P:List bR)(sc:gI):Prop where
 kind:sc.kind=.function
 co:sc.isCoroutine=aj
 gen:sc.isGenerator=aj
 nd:N.Nodup
 pre:N.take P.length=P
 par:∀x∈P,sc.names.lookup x=aa .local\/sc.names.lookup x=aa .cell
 nofree:∀y∈sc.names,y.2≠.free
theorem Gd{kindOf:bR->Option iX}:∀{binds:List (bR×aB)}{m:bR->Option aB},(∀v,(x,v)∉binds)->rX kindOf binds m x=m x
 |[],_,_=>rfl
 |(n,v)::r,m,h=>by
  unfold rX;rw[Gd λw hw=>h w<|am _ hw]
  split
  .have:x≠n:=by rintro rfl;exact h v ak
   simp[this]
  .rfl
theorem GF{kindOf:bR->Option iX}:∀{binds:List (bR×aB)}{m:bR->Option aB},(∀v,(x,v)∉binds)->rY kindOf binds m x=m x
 |[],_,_=>rfl
 |(n,v)::r,m,h=>by
  unfold rY;rw[GF λw hw=>h w<|am _ hw]
  split
  .rfl
  .have:x≠n:=by rintro rfl;exact h v ak
   simp[this]
theorem J9{kindOf:bR->Option iX}:∀{P:List bR}{vs:List aB}{i:Nat}{m:bR->Option aB},P.Nodup->P[i]?=aa x->vs[i]?=aa v->kindOf x=aa .local->
  rX kindOf (P.zip vs) m x=aa v
 |[],_,_,_,_,h,_,_=>by simp at h
 |_::_,[],_,_,_,_,h,_=>by simp at h
 |p::P,w::vs,0,m,nd,h1,h2,hk=>by
  simp at h1 h2;subst h1;subst h2;show rX kindOf ((p,w)::P.zip vs) m p=_;unfold rX;rw[Gd λv hv=>(dq.mp nd).1 (gW hv).1,T9 hk]
  simp
 |p::P,w::vs,i+1,m,nd,h1,h2,hk=>by
  unfold rX;exact J9 (dq.mp nd).2 (by simpa using h1) (by simpa using h2) hk
theorem Gb{kindOf:bR->Option iX}:∀{P:List bR}{vs:List aB}{i:Nat}{m:bR->Option aB},P.Nodup->P[i]?=aa x->vs[i]?=aa v->kindOf x≠aa .local->
  rY kindOf (P.zip vs) m x=aa v
 |[],_,_,_,_,h,_,_=>by simp at h
 |_::_,[],_,_,_,_,h,_=>by simp at h
 |p::P,w::vs,0,m,nd,h1,h2,hk=>by
  simp at h1 h2;subst h1;subst h2;show rY kindOf ((p,w)::P.zip vs) m p=_;unfold rY;rw[GF λv hv=>(dq.mp nd).1 (gW hv).1,T8 hk]
  simp
 |p::P,w::vs,i+1,m,nd,h1,h2,hk=>by
  unfold rY;exact Gb (dq.mp nd).2 (by simpa using h1) (by simpa using h2) hk
noncomputable def start(N:List bR)(vs:List V):St:=vs.map aa++ax (N.length-vs.length) ai
noncomputable def Wf(CX:CXT)(P:bP)(w:b9)(K:ap)(mg:bR->Option aB)(base:cQ)(N:List bR)(qual:bR)(scope:gI)(f:aO)(cd:aB)(A:cz)(outer:List Env)(s:aM)(H:Hp)(E:XK):Cx where
 prog:=P
 w:=w
 K:=K
 mg:=mg
 base:=base
 A:=A.deeper<|dU qual scope s.heap.objs.size f cd
 N:=N
 s₀:=s
 H₀:=H
 env:=dU qual scope s.heap.objs.size f cd
 outer:=outer
 stack:=dU qual scope s.heap.objs.size f cd::outer
 ex:=[]
 calm:=ao
 fn:=λ_=>ao
 pn:=[]
 xe:=λe s'=>aY (aW P w) (A.deeper<|dU qual scope s.heap.objs.size f cd) (leaving (dU qual scope s.heap.objs.size f cd) e) (λ_ s''=>CX outer H s E e s'') (λe' s''=>CX outer H s E e' s'') s'
def Jz{sc:gI}(h:sc.names.lookup x=aa .cell):∃c,(dz n sc.names []).lookup x=aa c:=by
 exact bQ.mp<|iz sc.names n []<|.inl h
def GJ{CX:CXT}{w:b9}{K:ap}{qual:bR}{f:aO}{cd:aB}{A:cz}{H:Hp}{E:XK}{vs:List V}
  (S:FnScope N ps scope)(hd:A.handled=ai)(e0:Env0 P w K mg base A outer s H)(hl:vs.length=ps.length)(r:Vals vs us)
  (x:InCallC s s.heap.objs.size (rX (dU qual scope s.heap.objs.size f cd).kindOf (ps.zip us) λ_=>ai) (dz (s.heap.objs.size+1) scope.names []) (rY (dU qual scope s.heap.objs.size f cd).kindOf (ps.zip us) λ_=>ai) s1) :
  Inv (Wf CX P w K mg base N qual scope f cd A outer s H E) [] (start N vs) H s1:=by
 have hpl:ps.length<=N.length:=by have:=congrArg ig S.pre;rw[bS]at this;lia
 obtain⟨h1,tk,rfl,hk⟩:=x.done;have noA:∀b:aO,b∉(Wf CX P w K mg base N qual scope f cd A outer s H E).ex:=λb z=>T7 (show b∈([]:List aO)from z) #[2]
 refine#[#[e0.mod,S.kind,rfl,rfl,aJ _,λy z c h1 h2=>?_,λy hy=>?_,λy c _ h=>?_,λ_=>hd,mW e0.frames,.inr #[rfl,rfl],λb z=>T7 z<|noA b,e0.bs,e0.bsz,λb _ _=>noA b,λb z=>T7 z<|noA b,e0.funs,e0.frf],
  rfl,e0.bare,Un.kept hk,#[_,x.toInCall.ns,λi y v h1 h2 h3=>?_],λy c h=>#[_,x.cell y c h],e0.hok.fresh<|aJ _,λy c h=>?_,λp hp=>T7 (show p∈([]:List (aO×gf))from hp) #[2],e0.hok.kept hk,?_]
 .exact name_of_addr x.apart (dO h1)<|dO h2
 .have hy:=hy
  rcases hy with hy|hy
  .exact Jz hy
  .exact T7 rfl<|S.nofree _<|dO hy
 .exact gA<|x.above y c<|dO h
 .have hi:i<vs.length:=by
   unfold start at h2;by_cases hi:i<vs.length
   .exact hi
   .rw[cu<|by simpa using hi]at h2
    rw[cO]at h2;split at h2<;>cases h2
  have ha:vs[i]?=aa v:=by
   unfold start at h2;rw[bW (by simpa using hi),aK]at h2
   cases e:vs[i]? with|none=>rw[e]at h2;cases h2|some a=>rw[e]at h2;cases h2;rfl
  obtain⟨u,hu,rv⟩:=r.get ha;have hp:ps[i]?=aa y:=by
   rw[<-S.pre,List.getElem?_take_of_lt #[0]];exact h1
  have ndP:ps.Nodup:=by rw[<-S.pre];exact S.nd.sublist<|oA _ _
  refine#[u,rv,?_];rcases S.par y (cU hp)with k|k
  .exact .inl #[k,J9 ndP hp hu k]
  .obtain⟨c,e⟩:=Jz k
   refine .inr #[.inl k,c,e,?_];have q:=x.cell y c e;rw[Gb ndP hp hu<|by show scope.names.lookup y≠_;rw[k];decide]at q
   exact q
 .exact e0.hok.fresh<|gA<|x.above y c<|dO h
 .unfold start
  show _=N.length;rw[aU,av,bO];lia
def ZfF{CX:CXT}{w:b9}{K:ap}{base:cQ}{k:Nat}{f:aO}{dV kV doc pm cdv ct oc:aB}
    {sp:Sp}(lk:K.lookup f=aa #[oc,od,.func<|eA name qual params body scope dV kV doc pm an cdv ct,osl])(hcd:kA K cdv qual=ao)(S:FnScope N ps scope)
  (len:∀vs H Q E,sp vs H Q E->vs.length=ps.length)
  (hbody:∀(A:cz)(outer:List Env)(s:aM)(H:Hp)(vs:List V)(Q:VK)(E:XK),Room k (A.deeper<|dU qual scope s.heap.objs.size f cdv)->sp vs H Q E->
   ∃t,PSs (Wf CX P w K mg base N qual scope f cdv A outer s H E) body t/\t {nx:=λ_ H'=>Q .non H',rt:=Q} (start N vs) H) :
  FnOk P w K mg base CX (k+1) f (eA name qual params body scope dV kV doc pm an cdv ct) ps sp:=by
 refine#[len,λA outer s H args us vs Q E hr e0 hb r hsp=>?_]
 have hl:=len _ _ _ _ hsp;have KX:=e0.mod.kin.keeps λb o e=>(e0.bs b o e).1
 have lim:=e0.mod.nolimit.keeps λb o e=>(e0.bs b o e).1
 have hkind:∀y∈ps.zip us,scope.names.lookup y.1=aa .local\/(scope.names.lookup y.1=aa .cell/\((dz (s.heap.objs.size+1) scope.names []).lookup y.1).isSome=ao):=by
  rintro ⟨n,v⟩ hy;rcases S.par n (gW hy).1 with q|q
  .exact .inl q
  .exact .inr #[q,iz _ _ _<|.inl q]
 refine mO hr.depth (KX _ _ lk) rfl S.co S.gen rfl (nV KX hcd)<|hb _ _ _ _ ?_;refine kB S.kind hkind λenv he s1 x=>?_
 subst he;refine#[lim.keeps x.toInCall.keep,codeAny_func ?_];obtain⟨t,ht,hq⟩:=hbody A outer s H vs Q E (hr.deeper _) hsp;have I:Inv (Wf CX P w K mg base N qual scope f cdv A outer s H E) [] (start N vs) H s1:=GJ S hr.hd e0 hl r x;refine dy (ht [] s1 (start N vs) H _ I hq) (λfl s' hs=>?_) λe s' hs=>hs
 have fin:∀{σ':St}{H':Hp}{v:V}{u:aB},Inv (Wf CX P w K mg base N qual scope f cdv A outer s H E) [] σ' H' s'->ZA v u->Q v H'->CE outer P w H s Q u s':=
  λ{σ' H' v u} J rv q=>#[v,H',J.os,J.bare,J.base,J.hok,rv,q]
 cases fl with
 |ret u=>
  obtain⟨v,σ',H',J,rv,q⟩:=hs;exact fin J rv q
 |next=>
  obtain⟨σ',H',J,q⟩:=hs;exact fin (v:=V.non) J rfl q
 |brk=>
  obtain⟨_,_,_,q⟩:=hs;exact False.elim q
 |cont=>
  obtain⟨_,_,_,q⟩:=hs;exact False.elim q
section
variable{X:Cx}{x:bR}{p pos:iV}{e:Expr}{es:List Expr}{t:TA}{id T:String}{r:List V->Hp->VK->Prop}
def tCB(r:List V->Hp->VK->Prop)(t:TA):TE:=λZ H Q=>t Z H λvs H1=>r vs H1 Q
def Wl(hc:ZG X (.builtin id) r)(hg:Gl X x)(hm:X.mg x=ai)(hv:d4 x=aa (.builtin id))(ha:PA X (e::es) t)(hn:x≠"__name__":=by decide)(hdb:(x == #[11])=aj:=by decide)
  (he:aE (e::es) X.env=#[27]::aE es X.env:=by rfl)(hpl:(dS pos<|aE es X.env).any (·.1)=aj:=by rfl):PE X #[26] (tCB r t):=by
 intro pq s Z H Q I h;refine dE<|XF I hg hm hv ?_ hn hdb;exact iL (thn (ha pos pq s Z H _ I h)<|by rintro us s1 ⟨vs,H1,I1,r1,q1⟩;exact hc pq s1 Z H1 vs us Q I1 r1 q1) he hpl
def GH(hc:ZG X (.type T) r)(hg:Gl X x)(hm:X.mg x=ai)(hv:d4 x=aa (.type T))(ha:PA X (e::es) t)(hn:x≠"__name__":=by decide)(hdb:(x == #[11])=aj:=by decide)
  (he:aE (e::es) X.env=#[27]::aE es X.env:=by rfl)(hpl:(dS pos<|aE es X.env).any (·.1)=aj:=by rfl):PE X #[26] (tCB r t):=by
 intro pq s Z H Q I h;refine dE<|XF I hg hm hv ?_ hn hdb;exact c9 (thn (ha pos pq s Z H _ I h)<|by rintro us s1 ⟨vs,H1,I1,r1,q1⟩;exact hc pq s1 Z H1 vs us Q I1 r1 q1) he hpl
end
end L2
namespace HT
open PySem PyProof.Rows
section
variable{prog:bP}{w:b9}{A:cz}{E:aB->aM->Prop}{s:aM}
def Zem(ht:ot s.heap t vs.toArray)(hb:ot s.heap b ws.toArray)(hv:vs≠[])
  (h1:ws=[]->Q (.ref t) s)(h2:ws≠[]->Q #[29] {s with heap:=s.heap.push {cls:=.type "tuple",data:=.seq (vs++ws).toArray}})
  (hsz:vs.length+ws.length<=a9):aY #[8] A (eX .Add (.ref t)<|.ref b) Q E s:=by
 obtain⟨⟨cls,dd,data,sl⟩,ho,hc,n,hd⟩:=id ht;obtain⟨⟨cls2,dd2,data2,sl2⟩,ho2,hc2,n2,hd2⟩:=id hb;subst hc hd hc2 hd2;have e:vs.toArray++ws.toArray=(vs++ws).toArray:=by simp
 by_cases hw:ws=[]
 .exact oB #[_,ho,rfl] #[_,ho2,rfl] lW nD iA im (gM _ _)
   (tuple_addW1 t b vs.toArray ws.toArray n n2 dd dd2 sl sl2 (by simpa using hv)<|by simp[hw]) #[ho,ho2,h1 hw]
 .refine oB #[_,ho,rfl] #[_,ho2,rfl] lW nD iA im (gM _ _)
   (tuple_addW2 t b vs.toArray ws.toArray n n2 dd dd2 sl sl2 (by simpa using hv) (by simpa using hw)<|by rw[aD];exact hsz) #[ho,ho2,?_]
  rw[e];exact h2 hw
noncomputable def sIx(n d:Nat):Option Int->Nat
 |none=>d
 |some v=>if v<0 then(v+(n:Int)).toNat else sC v.toNat n
theorem um(v)(n d:Nat):(if v<0 then max (v+(n:Int)) 0 else sC v (n:Int))=((sIx n d (aa v):Nat):Int):=by
 show(if v<0 then max (v+(n:Int)) 0 else sC v (n:Int))=(((if v<0 then(v+(n:Int)).toNat else sC v.toNat n):Nat):Int)
 by_cases hv:v<0
 .lia
 .lia
def wM(lo hi)(n:Nat):k7 lo hi 1 (n:Int)=(((sIx n 0 lo:Nat):Int),((sIx n n hi:Nat):Int)):=by
 refine Prod.ext ?_ ?_
 .cases lo with|none=>rfl|some v=>exact um v n 0
 .cases hi with|none=>rfl|some v=>exact um v n n
theorem wJ(i j:Nat):cW (i:Int) (j:Int) 1=j-i:=by
 unfold cW
 split<;>lia
def Vi(p:kC v o)(h:Q o s):aY #[8] A (dM.Slice.slicePartIndex v) Q E s:=by
 cases p with|none=>exact kD h|int i t=>exact slicePart_int h
def XM{lo hi:Option Int}{n:Nat}(hs:s.heap.IsSliceOf sl vl vu .none)(pl:kC vl lo)(pu:kC vu hi)
  (h:Q (((sIx n 0 lo:Nat):Int),1,sIx n n hi-sIx n 0 lo) s):aY #[8] A (kF (.ref sl)<|cX (n:Int)) Q E s:=by
 obtain⟨os,hos,hcs,hds⟩:=id hs;refine ae<|ae<|cV hos hds rfl<|ae<|cV hos hds rfl<|ae<|cV hos hds rfl<|aw ?_;refine ae<|kD ?_;show aY _ _ (if((1:Int) == 0)=ao then _ else _) _ _ s
 rw[T8 #[1]]
 refine ae<|Vi pl<|ae<|Vi pu<|ae<|aw ?_;show aY _ _ (match k7 lo hi 1 (n:Int)with|(lo,hi)=>cX (lo,(1:Int),cW lo hi 1)) _ _ s
 rw[wM lo hi n];show aY _ _ (cX (((sIx n 0 lo:Nat):Int),(1:Int),cW ((sIx n 0 lo:Nat):Int) ((sIx n n hi:Nat):Int) 1)) _ _ s;rw[wJ];exact aw h
theorem ZaL(xs:Array aB)(i k:Nat):((aC k).filterMap λ(m:Nat)=>xs[((i:Int)+(m:Int)*1).toNat]?).toArray=((xs.toList.drop i).take k).toArray:=by
 have e:(λ(m:Nat)=>xs[((i:Int)+(m:Int)*1).toNat]?)=λm=>xs[i+m]?:=by
  funext m
  have:((i:Int)+(m:Int)*1).toNat=i+m:=by lia
  rw[this]
 rw[e];have:=pick_run xs i k;rw[nY]at this;have e2:((λx=>xs[x]?)∘λx=>i+x)=λm=>xs[i+m]?:=rfl
 rw[e2]at this;rw[this]
theorem V0{lo hi:Option Int}(ht:ot s.heap t items)(hs:s.heap.IsSliceOf sl vl vu .none)(pl:kC vl lo)(pu:kC vu hi)
  (hw:¬(sIx items.size 0 lo=0/\sIx items.size items.size hi=items.size))
  (h:Q #[29] {s with heap:=s.heap.push {cls:=.type "tuple",data:=.seq ((items.toList.drop<|sIx items.size 0 lo).take<|sIx items.size items.size hi-sIx items.size 0 lo).toArray}})
  (hsz:items.size<=a9):aY #[8] A (lh (.ref t)<|.ref sl) Q E s:=by
 have htake:sizeOk (.seq ((items.toList.drop<|sIx items.size 0 lo).take<|sIx items.size items.size hi-sIx items.size 0 lo).toArray):=by
  show((items.toList.drop<|sIx items.size 0 lo).take<|sIx items.size items.size hi-sIx items.size 0 lo).toArray.size<=a9;rw[aD,bS,bH,aS];lia
 obtain⟨os,hos,hcs,hds⟩:=id hs;have hTs:s.TypeIs (.ref sl) "slice":=#[os,hos,hcs];unfold lh
 try with_reducible refine bM ?_
 first|refine ae<|aw ?_|skip
 refine ae<|lj ht.typeIs #[1] ?_
 refine ae (cw ht.typeIs cF
  (cq cF ht.typeIs km ?_<|kG _ _))
 show aY _ _ (gv (.ref t) >>= _) _ _ s;refine ae<|nE ht ?_;refine ae<|fM hTs ?_;rw[T9 #[1]]
 refine ae<|XM hs pl pu ?_;have hno:¬((((sIx items.size 0 lo:Nat):Int) == 0&&(1:Int) == 1&&(sIx items.size items.size hi-sIx items.size 0 lo) == items.size)=ao):=by
  intro q;rw[aA,aA]at q;have q1:=fD q.1.1;have q2:=fD q.2;exact hw #[by lia,by lia]
 show aY _ _ (if(((sIx items.size 0 lo:Nat):Int) == 0&&(1:Int) == 1&&(sIx items.size items.size hi-sIx items.size 0 lo) == items.size)=ao then _ else _) _ _ s
 rw[T8 hno,ZaL]
 first
  |exact ae<|bu (aw #[_,rfl,aw h]) htake
  |exact ae<|bu (ae<|aw<|aw #[_,rfl,aw h]) htake
  |exact ae<|ae<|bu (aw<|aw #[_,rfl,aw h]) htake
  |exact ae<|ae<|bu (aw #[_,rfl,aw h]) htake
end
end HT
namespace L2
open PySem PySem.Spec PyProof.Rows
abbrev TO:=St->Hp->(Option Int->Hp->Prop)->Prop
def PO(X:Cx)(e:Option Expr)(t:TO):Prop:=
 ∀pq s Z H Q,Inv X pq Z H s->t Z H Q->
  aY #[10] X.A (evalPart e X.env) (λu s'=>∃o H',Inv X pq Z H' s'/\kC u o/\Q o H') X.xe s
def ZeG:TO:=λ_ H Q=>Q ai H
def Zir(t:TE):TO:=λZ H Q=>t Z H λx H1=>∃i,x=.int i/\Q (aa i) H1
section
variable{X:Cx}{e:Expr}{te:TE}{lo hi:Option Expr}{tl th:TO}{pos p2:iV}
def Zfd:PO X ai ZeG:=by
 intro pq s Z H Q I h;rw[nF];exact aw #[ai,H,I,.none,h]
def ZW(h:PE X e te):PO X (aa e) (Zir te):=by
 intro pq s Z H Q I hw;rw[evalPart_some];refine thn (h pq s Z H _ I hw) λu s1 #[x,H1,I1,r1,q1]=>?_
 obtain⟨i,rfl,q⟩:=q1;obtain⟨t,rfl⟩:=r1;exact#[aa i,H1,I1,.int i t,q]
def SlR(X:Cx)(r:V->Option Int->Option Int->Hp->VK->Prop):Prop:=
 ∀pq s Z H x v vl vu lo hi sl Q,Inv X pq Z H s->ZA x v->s.heap.IsSliceOf sl vl vu .none->kC vl lo->kC vu hi->r x lo hi H Q->
  ∃T id,kH (.type T) "__getitem__" = cX (aa<|.builtin id)/\s.TypeIs v T/\aY #[10] X.A (lh v<|.ref sl) (EP X pq Z Q) X.xe s
def SlR.or(h:SlR X r)(h':SlR X r'):SlR X (λx lo hi H Q=>r x lo hi H Q\/r' x lo hi H Q):=by
 intro pq s Z H x v vl vu lo hi sl Q I rx hs pl pu q;rcases q with q|q
 .exact h pq s Z H x v vl vu lo hi sl Q I rx hs pl pu q
 .exact h' pq s Z H x v vl vu lo hi sl Q I rx hs pl pu q
def tSl(r:V->Option Int->Option Int->Hp->VK->Prop)(te:TE)(tl th:TO):TE:=λZ H Q=>te Z H λx H1=>tl Z H1 λl H2=>th Z H2 λu H3=>r x l u H3 Q
def Zde{r:V->Option Int->Option Int->Hp->VK->Prop}(hr:SlR X r)(he:PE X e te)(hl:PO X lo tl)(hu:PO X hi th):PE X (.Subscript e (.Slice lo hi ai p2) pos) (tSl r te tl th):=by
 intro pq s Z H Q I h;refine re<|thn (he pq s Z H _ I h) λv s1 #[x,H1,I1,r1,q1]=>?_
 refine wpAny_Slice<|thn (hl pq s1 Z H1 _ I1 q1) λvl s2 #[l,H2,I2,pl,q2]=>thn (hu pq s2 Z H2 _ I2 q2) λvu s3 #[u,H3,I3,pu,q3]=>?_
 rw[nF];refine aw ?_;have I4:Inv X pq Z H3 {s3 with heap:=s3.heap.push {cls:=.type "slice",data:=.fields [vl,vu,.none].toArray}}:=I3.kept λb ob q=>au _ q
 obtain⟨T,id,hT,ht,hg⟩:=hr pq {s3 with heap:=s3.heap.push {cls:=.type "slice",data:=.fields [vl,vu,.none].toArray}} Z H3 x v vl vu l u s3.heap.objs.size Q I4 r1 (nZ ..) pl pu q3
 exact tail_any ht hT hg (by with_unfolding_all rfl)
def Yj(xs:List V)(lo hi:Option Int):List V:=(xs.drop<|HT.sIx xs.length 0 lo).take<|HT.sIx xs.length xs.length hi-HT.sIx xs.length 0 lo
theorem UK(xs lo hi):(Yj xs lo hi).length<=xs.length:=by
 unfold Yj;rw[bS,bH];lia
def Zjs(K:ap):V->Option Int->Option Int->Hp->VK->Prop:=λx lo hi H Q=>∃a xs,x=.ref a/\SqT K H a xs/\
 ¬(HT.sIx xs.length 0 lo=0/\HT.sIx xs.length xs.length hi=xs.length)/\∀p,H p=ai->Q (.ref p) (upd H p<|.tup<|Yj xs lo hi)
def ZgH:SlR X (Zjs X.K):=by
 intro pq s Z H x v vl vu lo hi sl Q I rx hs pl pu h;obtain⟨a,xs,rfl,hx,hw,q⟩:=h;cases rx;obtain⟨its,r,ht,hz⟩:=I.tuple hx;have hlen:its.toArray.size=xs.length:=by rw[aD];exact r.length.symm
 refine#["tuple",_,cF.lookup,ht.typeIs,?_];refine HT.V0 ht hs pl pu (by rw[hlen];exact hw) ?_ (by rw[hlen];exact hz)
 rw[hlen];refine#[.ref s.heap.objs.size,_,I.laid (t':=s.toks) (λb ob q=>au _ q) (aJ _) ?_,rfl,q _<|I.hok.fresh<|aJ _]
 exact#[bV (UK xs lo hi) hz,_,(r.drop<|HT.sIx xs.length 0 lo).take<|HT.sIx xs.length xs.length hi-HT.sIx xs.length 0 lo,ku _ _]
def ZfS(K:ap):R2:=λx y H Q=>∃a b xs ys,x=.ref a/\y=.ref b/\SqT K H a xs/\SqT K H b ys/\xs≠[]/\xs.length+ys.length<=a9/\
 (ys=[]->Q (.ref a) H)/\(ys≠[]->∀p,H p=ai->Q (.ref p) (upd H p<|.tup<|xs++ys))
def Vals.nil_iff(r:Vals xs us):us=[]↔xs=[]:=by
 cases r with|nil=>simp|cons _ _=>simp
def ZdC:OpR X (eX .Add) (ZfS X.K):=by
 intro pq s Z H x y v u Q I rx ry h;obtain⟨a,b,xs,ys,rfl,rfl,ha,hb,hx,hz,q1,q2⟩:=h;cases rx;cases ry;obtain⟨its,r1,p1,_⟩:=I.tuple ha;obtain⟨its2,r2,p2,_⟩:=I.tuple hb;refine HT.Zem p1 p2 (λz=>hx<|r1.nil_iff.mp z) (λz=>#[.ref a,H,I,rfl,q1<|r2.nil_iff.mp z]) (λz=>?_) (by rw[<-r1.length,<-r2.length];exact hz)
 refine#[.ref s.heap.objs.size,_,I.laid (t':=s.toks) (λb ob q=>au _ q) (aJ _) ?_,rfl,q2 (λw=>z<|r2.nil_iff.mpr w) _<|I.hok.fresh<|aJ _]
 exact#[by rw[aU];exact hz,_,r1.append r2,ku _ _]
end
noncomputable def ixN(n:Nat)(i:Int):Option Nat:=if 0<=i then(if i<n then aa i.toNat else ai)else if -(n:Int)<=i then aa (i+n).toNat else ai
def atI{B:Type}(xs:List B)(i:Int):Option B:=(ixN xs.length i).bind λj=>xs[j]?
def uk(h:ixN n i=aa j):seqIndex? i n=aa j/\j<n/\-(n:Int)<=i/\i<n:=by
 unfold ixN at h;by_cases h0:0<=i
 .rw[T9 h0]at h
  by_cases h1:i<n
  .rw[T9 h1]at h
   exact#[by rw[pD h0 h1,(aq h)],by lia,by lia,h1]
  .rw[T8 h1]at h;cases h
 .rw[T8 h0]at h
  by_cases h1:-(n:Int)<=i
  .rw[T9 h1]at h
   exact#[by rw[oC #[0] h1,(aq h)],by lia,h1,by lia]
  .rw[T8 h1]at h;cases h
def qm{B:Type}{xs:List B}{v:B}(h:atI xs i=aa v):∃j,seqIndex? i xs.length=aa j/\xs[j]?=aa v/\j<xs.length/\-(xs.length:Int)<=i/\i<xs.length:=by
 unfold atI at h;cases e:ixN xs.length i with
 |none=>rw[e]at h;cases h
 |some j=>
  rw[e]at h;obtain⟨h1,h2,h3,h4⟩:=uk e;exact#[j,h1,h,h2,h3,h4]
def uI(b:Expr):Prop:=∀o i,subscripted b aj o i=operate [o,i] (lh o i)
def IxR(X:Cx)(r:R2):Prop:=
 ∀(value slice:Expr)(pq:List (aO×gf))(s:aM)(Z:St)(H:Hp)(x y:V)(v u:aB)(Q:VK),Inv X pq Z H s->ZA x v->ZA y u->r x y H Q->
  subscripted slice aj v u=operate [v,u] (lh v u)->aY #[10] X.A (subscriptTail value slice v u) (EP X pq Z Q) X.xe s
def MtR(X:Cx)(id:String)(r:V->List V->Hp->VK->Prop):Prop:=
 ∀pq s Z H x xs v us Q,Inv X pq Z H s->ZA x v->Vals xs us->r x xs H Q->
  aY #[10] X.A (call (.builtin id) (v::us)) (EP X pq Z Q) X.xe s
section
variable{X:Cx}{a b:Expr}{ta tb:TE}{pos:iV}
def IxR.or(h:IxR X r)(h':IxR X r'):IxR X (λx y H Q=>r x y H Q\/r' x y H Q):=by
 intro value slice pq s Z H x y v u Q I rx ry q hs;rcases q with q|q
 .exact h value slice pq s Z H x y v u Q I rx ry q hs
 .exact h' value slice pq s Z H x y v u Q I rx ry q hs
def Zbc(hr:IxR X r)(ha:PE X a ta)(hb:PE X b tb)(hs:uI b):PE X (.Subscript a b pos) (tOp r ta tb):=by
 intro pq s Z H Q I h;exact re<|Zgr ha hb I h λv u s2 x y H2 I2 rx ry q=>hr a b pq s2 Z H2 x y v u Q I2 rx ry q<|hs _ _
def ZjG(K:ap):R2:=λx y H Q=>∃p xs i v,x=.ref p/\y=.int i/\SqL K H p xs/\atI xs i=aa v/\Q v H
def Zjp(K:ap):R2:=λx y H Q=>∃p xs i v,x=.ref p/\y=.int i/\SqT K H p xs/\atI xs i=aa v/\Q v H
theorem zd:IxR X (ZjG X.K):=by
 intro value slice pq s Z H x y v u Q I rx ry h hs;obtain⟨p,xs,i,z,rfl,rfl,hq,he,q⟩:=h;cases rx;obtain⟨t,rfl⟩:=ry;obtain⟨its,r,pl,hz⟩:=I.list hq;obtain⟨j,h1,h2,h3,h4,h5⟩:=qm he;obtain⟨w,ew,rw'⟩:=r.get h2;have hl:=r.length;have hn:=zI;have fin:EP X pq Z Q w s:=#[z,H,I,rw',q];by_cases h0:0<=i
 .have hj:i.toNat=j:=by
   rw[pD h0 h5]at h1;exact aq h1
  exact item_listR pl.isList h0 #[0] (by rw[hj];simpa using ew) fin hs
 .have hj:(i+(its.toArray.size:Int)).toNat=j:=by
   rw[oC #[0] h4]at h1
   rw[aD,<-hl];exact aq h1
  exact mn pl.isList.typeIs slot_list_getitem.lookup
   (wpAny_getItem_list_neg pl.isList #[0] (by rw[aD]<;>lia) #[0] (by rw[hj];simpa using ew) #[rfl,fin]) hs
theorem Zib:IxR X (Zjp X.K):=by
 intro value slice pq s Z H x y v u Q I rx ry h hs;obtain⟨p,xs,i,z,rfl,rfl,hq,he,q⟩:=h;cases rx;obtain⟨t,rfl⟩:=ry;obtain⟨its,r,pl,hz⟩:=I.tuple hq;obtain⟨j,h1,h2,h3,h4,h5⟩:=qm he;obtain⟨w,ew,rw'⟩:=r.get h2;have hn:=zI;have fin:EP X pq Z Q w s:=#[z,H,I,rw',q];exact mn pl.typeIs slot_tuple_getitem.lookup
  (getItem_tuple pl #[0] #[0] (by rw[aD,<-r.length];exact h1) (by simpa using ew) #[rfl,fin]) hs
def vN(its:List aB)(n j u):fw (·.setIfInBounds j u) {cls:=.type "list",data:=.seq its.toArray n}={cls:=.type "list",data:=.seq (its.set j u).toArray n}:=by
 simp[fw]
theorem Inv.lst{pq:List (aO×gf)}{Z:St}{H:Hp}{s:aM}{p:aO}{xs:List V}(I:Inv X pq Z H s)(h:H p=aa (.lst xs)) :
  ∃(its:List aB)(n:Nat),Vals xs its/\s.heap.get? p=aa {cls:=.type "list",data:=.seq its.toArray n}/\xs.length<=a9:=by
 obtain⟨z,its,n,r,e⟩:=I.hok p _ h;exact#[its,n,r,e,z]
def Inv.lstUpd{H:Hp}{its its':List aB}(I:Inv X pq Z H s)(h:H p=aa (.lst xs))
  (ho:s.heap.get? p=aa {cls:=.type "list",data:=.seq its.toArray n})(hf:f {cls:=.type "list",data:=.seq its.toArray n}={cls:=.type "list",data:=.seq its'.toArray n' })(r:Vals ys its')(hz:ys.length<=a9)(t:Nat) :
  Inv X pq Z (upd H p<|.lst ys) {s with heap:=s.heap.update p f,toks:=t}:=by
 have e:(s.heap.update p f).get? p=aa {cls:=.type "list",data:=.seq its'.toArray n' }:=by
  rw[dA f ho (by rw[hf]<;>rfl),hf]
 refine I.write (by rw[h];trivial) (.inl rfl) (λb u hb q=>(mq _ _<|Ne.symm hb).trans q) #[_,e] ?_
 exact#[hz,its',n',r,e]
def Ziq:V->V->V->Hp->(Hp->Prop)->Prop:=λo i v H Q=>∃p xs k j,o=.ref p/\i=.int k/\H p=aa (.lst xs)/\ixN xs.length k=aa j/\Q (upd H p<|.lst<|xs.set j v)
theorem ZcX:PSet X Ziq:=by
 intro pq s Z H o i v ov iv u Q I ro ri rv h;obtain⟨p,xs,k,j,rfl,rfl,hp,hj,q⟩:=h;cases ro;obtain⟨t,rfl⟩:=ri;obtain⟨its,n,r,ho,hz⟩:=I.lst hp;obtain⟨h1,h2,h3,h4⟩:=uk hj;have hl:=r.length;have hn:=zI;have I':=
  I.lstUpd hp ho (vN its n j u) (r.set rv j) (by rw[bD];exact hz) s.toks
 by_cases h0:0<=k
 .have hk:k.toNat=j:=by
   rw[pD h0 h4]at h1;exact aq h1
  exact PySem.W.ki_setAt ho h0 #[0] (by rw[aD,<-hl];exact h4) (by rw[hk];exact#[_,I',q])
 .have hk:(k+(its.toArray.size:Int)).toNat=j:=by
   rw[oC #[0] h3]at h1
   rw[aD,<-hl];exact aq h1
  exact PySem.W.ki_setBack ho #[0] (by rw[aD,<-hl];exact h3) #[0] (by rw[hk];exact#[_,I',q])
theorem zh(lo hi n):(io lo hi ai n).1=((HT.sIx n 0 lo:Nat):Int)/\(io lo hi ai n).2.1=((HT.sIx n n hi:Nat):Int)/\(io lo hi ai n).2.2=1:=by
 refine#[?_,?_,rfl]
 .cases lo with
  |none=>simp[io,HT.sIx]
  |some i=>
   simp[io,HT.sIx]
   by_cases h:i<0
   .simp[h]<;>lia
   .simp[h]<;>lia
 .cases hi with
  |none=>simp[io,HT.sIx]
  |some i=>
   simp[io,HT.sIx]
   by_cases h:i<0
   .simp[h]<;>lia
   .simp[h]<;>lia
def JK(its:List aB)(lo hi):slicePick its.toArray lo hi ai=((its.drop<|HT.sIx its.length 0 lo).take<|HT.sIx its.length its.length hi-HT.sIx its.length 0 lo).toArray:=by
 obtain⟨h1,h2,h3⟩:=zh lo hi its.toArray.size;unfold slicePick;rw[h1,h2,h3];simp only[sliceRange_one,pick_run]<;>rfl
def ZjH(K:ap):V->Option Int->Option Int->Hp->VK->Prop:=λx lo hi H Q=>∃a xs,x=.ref a/\SqL K H a xs/\∀p,H p=ai->Q (.ref p) (upd H p<|.lst<|Yj xs lo hi)
theorem Zfg:SlR X (ZjH X.K):=by
 intro pq s Z H x v vl vu lo hi sl Q I rx hs pl pu h;obtain⟨a,xs,rfl,hx,q⟩:=h;cases rx;obtain⟨its,r,ht,hz⟩:=I.list hx;have hlen:=r.length;refine#["list",_,slot_list_getitem.lookup,ht.isList.typeIs,?_];refine wpAny_getItem_list_slice ht.isList hs pl pu .none #[2] ?_ (by rw[aD]<;>lia)
 rw[JK,<-hlen];refine#[.ref s.heap.objs.size,_,I.laid (t':=s.toks) (λb ob q=>au _ q) (aJ _) ?_,rfl,q _<|I.hok.fresh<|aJ _]
 exact#[bV (UK xs lo hi) hz,_,0,(r.drop<|HT.sIx xs.length 0 lo).take<|HT.sIx xs.length xs.length hi-HT.sIx xs.length 0 lo,aH _ rfl]
noncomputable def uG:V->Bool
 |.non=>ao
 |.bl _=>ao
 |.int _=>ao
 |.str _=>ao
 |_=>aj
noncomputable def eqV:V->V->Bool
 |.non,.non=>ao
 |.bl a,.bl b=>a == b
 |.bl a,.int b=>(if a then 1 else 0) == b
 |.int a,.bl b=>a == (if b then 1 else 0)
 |.int a,.int b=>a == b
 |.str a,.str b=>a == b
 |_,_=>aj
def Zhd(ry:ZA y u)(rx:ZA x v)(fy:uG y=ao)(fx:uG x=ao):kI A s u v (eqV y x):=by
 cases y with
 |non=>
  cases ry;cases x with|non=>cases rx;exact mG _|bl b=>cases rx;exact kI.none_bool b|int b=>obtain⟨t,rfl⟩:=rx;exact kI.none_int b t|str b=>obtain⟨t,rfl⟩:=rx;exact kI.none_str b t|_=>exact T7 (fx) aT
 |bl a=>
  cases ry;cases x with|non=>cases rx;exact kI.bool_none a|bl b=>cases rx;exact kI.bool_bool a b|int b=>obtain⟨t,rfl⟩:=rx;exact kI.bool_int a b t|str b=>obtain⟨t,rfl⟩:=rx;exact kI.bool_str a b t|_=>exact T7 (fx) aT
 |int a=>
  obtain⟨t',rfl⟩:=ry;cases x with|non=>cases rx;exact kI.int_none a t'|bl b=>cases rx;exact kI.int_bool a t' b|int b=>obtain⟨t,rfl⟩:=rx;exact kI.int_int a t' b t|str b=>obtain⟨t,rfl⟩:=rx;exact nJ a t' b t|_=>exact T7 (fx) aT
 |str a=>
  obtain⟨t',rfl⟩:=ry;cases x with|non=>cases rx;exact kI.str_none a t'|bl b=>cases rx;exact kI.str_bool a t' b|int b=>obtain⟨t,rfl⟩:=rx;exact nK a t' b t|str b=>obtain⟨t,rfl⟩:=rx;exact kI.str_str a t' b t|_=>exact T7 (fx) aT
 |_=>exact T7 (fy) aT
theorem zr:ZG X (.builtin "len") (λxs H Q=>∃p ys,xs=[.ref p]/\(SqL X.K H p ys\/SqT X.K H p ys)/\Q (.int ys.length) H):=by
 intro pq s Z H xs us Q I r h;obtain⟨p,ys,rfl,hq,q⟩:=h;obtain⟨u,rfl,rx⟩:=X9 r;cases rx;have hn:=zI;rcases hq with hq|hq
 .obtain⟨its,r',pl,hz⟩:=I.list hq
  have hlen:=r'.length;exact Calls.call_len_list pl.isList (by simp only[aD]<;>lia) #[.int ys.length,H,I.tok _,#[s.toks+1,by rw[aD,hlen]],q]
 .obtain⟨its,r',pl,hz⟩:=I.tuple hq
  have hlen:=r'.length;exact len_tuple pl (by simp only[aD]<;>lia) #[.int ys.length,H,I.tok _,#[s.toks+1,by rw[aD,hlen]],q]
theorem zB:ZG X (.type "list") (λxs H Q=>∃p ys,xs=[.ref p]/\(SqL X.K H p ys\/SqT X.K H p ys)/\∀l,H l=ai->Q (.ref l) (upd H l<|.lst ys)):=by
 intro pq s Z H xs us Q I r h;obtain⟨p,ys,rfl,hq,q⟩:=h;obtain⟨u,rfl,rx⟩:=X9 r;cases rx;have fin:∀its,Vals ys its->ys.length<=a9->∀h' c',(∀b o',s.heap.get? b=aa o'->h'.get? b=aa o')->
   h'.get? s.heap.objs.size=aa {cls:=.type "list",dict:=ai,data:=.seq its.toArray c',slots:=#[]}->EP X pq Z Q #[29] {s with heap:=h' }:=λits r' hz h' c' kp e=>
  #[.ref s.heap.objs.size,_,I.laid kp (aJ _) (show Z7 X.prog X.w _ h' _ (.lst ys)from#[hz,its,c',r',e]),rfl,q _<|I.hok.fresh<|aJ _]
 rcases hq with hq|hq
 .obtain⟨its,r',pl,hz⟩:=I.list hq
  have hlen:=r'.length;obtain⟨o,ho,hc,n,hd⟩:=pl.isList;exact call_list_seq p (.inl rfl) ho hc hd (λh' c' kp e=>fin its r' hz h' c' kp e) (by simp<;>lia)
 .obtain⟨its,r',pl,hz⟩:=I.tuple hq
  have hlen:=r'.length;obtain⟨o,ho,hc,n,hd⟩:=pl;exact call_list_seq p (.inr rfl) ho hc hd (λh' c' kp e=>fin its r' hz h' c' kp e) (by simp<;>lia)
theorem JD:ZG X (.type "tuple") (λxs H Q=>∃p ys,xs=[.ref p]/\((SqL X.K H p ys/\∀l,H l=ai->Q (.ref l) (upd H l<|.tup ys))\/(SqT X.K H p ys/\Q (.ref p) H))):=by
 intro pq s Z H xs us Q I r h;obtain⟨p,ys,rfl,h⟩:=h;obtain⟨u,rfl,rx⟩:=X9 r;cases rx;rcases h with⟨hq,q⟩|⟨hq,q⟩
 .obtain⟨its,r',pl,hz⟩:=I.list hq
  have hlen:=r'.length;refine call_tuple_list pl.isList (λh' kp=>?_) (by simp<;>lia)
  have I1:=I.kept (t':=s.toks) kp
  have I2:=
   I1.laid (t':=s.toks) (λb o e=>au _ e) (aJ _) (show Z7 X.prog X.w _ _ _ (.tup ys)from#[hz,its,r',ku _ _])
  exact#[.ref h'.objs.size,_,I2,rfl,q _<|I1.hok.fresh<|aJ _]
 .obtain⟨its,r',pl,hz⟩:=I.tuple hq
  exact call_tuple_same pl #[.ref p,H,I,rfl,q]
def tyV(K:ap)(T:String)(x:V)(H:Hp):Prop:=match x with
 |.str _=>T = "str"
 |.int _=>T = "int"
 |.ref p=>(T = "list"/\∃xs,SqL K H p xs)\/(T = "tuple"/\∃o,K.lookup p=aa o/\o.cls=.type "tuple"/\o.dict=ai)\/
   (T = "dict"/\((∃kvs,H p=aa (.dK kvs))\/∃kvs,H p=aa (.dT kvs)))
 |_=>False
def Zhm(I:Inv X pq Z H s)(r:ZA x v)(ty:tyV X.K T x H) :
  s.TypeIs v T/\∀a,v=.ref a->∃ob,s.heap.get? a=aa ob/\ob.dict=ai:=by
 cases x with
 |str z=>
  obtain⟨t,rfl⟩:=r;cases(ty)
  exact#[typeIs_str s z t,λ_ e=>nomatch e]
 |int i=>
  obtain⟨t,rfl⟩:=r;cases(ty)
  exact#[mr s i t,λ_ e=>nomatch e]
 |ref p=>
  cases r;rcases ty with⟨rfl,xs,hq⟩|⟨rfl,o,hk,hc,hd⟩|⟨rfl,hk⟩
  .obtain⟨its,_,pl,_⟩:=I.list hq
   refine#[pl.isList.typeIs,λa e=>?_]
   cases e;obtain⟨o,n,e,c,hd,_⟩:=pl;exact#[o,e,hd]
  .refine#[#[o,I.kIn p o hk,hc],λa e=>?_]
   cases e;exact#[o,I.kIn _ o hk,hd]
  .have z:∃o,s.heap.get? p=aa o/\o.ExactDict:=by
    rcases hk with⟨kvs,hk⟩|⟨kvs,hk⟩
    .obtain⟨_,_,_,_,o,_,_,e,ex,_⟩:=I.hok p _ hk
     exact#[o,e,ex]
    .obtain⟨_,_,_,_,o,_,_,e,ex,_⟩:=I.hok p _ hk
     exact#[o,e,ex]
   obtain⟨o,e,ex⟩:=z;refine#[#[o,e,ex.1],λa e2=>?_]
   cases e2;exact#[o,e,ex.2.1]
 |_=>exact False.elim ty
def tBM(K:ap)(T:String)(r:V->List V->Hp->VK->Prop)(to:TE)(t:TA):TE:=λZ H Q=>to Z H λx H1=>tyV K T x H1/\t Z H1 λxs H2=>r x xs H2 Q
variable{o e:Expr}{es:List Expr}{to:TE}{t:TA}{name:bR}{apos cpos:iV}{T id:String}{r:V->List V->Hp->VK->Prop}
def Zcp(pa:PlainAttrs T)(slot:Slot T name id)(hty:typeOf (.builtin id)=cX (.type "method_descriptor"))(hm:MtR X id r)(ho:PE X o to)(ha:PA X (e::es) t)
  (hbase:attributeBase o name X.env (cR o X.env)=cR o X.env:=by rfl)
  (hfew:((dS cpos<|aE (e::es) X.env).all (λx=>!x.1)&&(backToKw cpos<|keywordEach [] X.env).all (λx=>x.1.isSome)
   && ag ((e::es).length+([]:List sj).length+(if([]:List sj).isEmpty then 0 else 1)<30))=ao:=by rfl)
  (hline:(apos.endLine == cpos.line)=ao:=by rfl)(hs:aE (e::es) X.env=#[27]::aE es X.env:=by rfl)(hplain:(dS cpos<|aE es X.env).any (·.1)=aj:=by rfl) :
  PE X (.Call (.Attribute o name apos) (e::es) [] cpos) (tBM X.K T r to t):=by
 intro pq s Z H Q I h;refine wpAny_Call_method_late hbase hfew hline rfl<|thn (ho pq s Z H _ I h) λv s1 #[x,H1,I1,r1,ty,q1]=>?_
 obtain⟨h1,h2⟩:=Zhm I1 r1 ty;refine#[T,id,pa,slot,hty,h1,h2,?_];have hA:=ha cpos pq s1 Z H1 _ I1 q1;rw[hs]at hA ⊢;refine Calls.callWith_builtin (by show(aj||(dS cpos<|aE es X.env).any (·.1))=aj;rw[hplain]<;>rfl)<|Calls.evalArgs_plain ?_
 exact thn hA<|by rintro us s2 ⟨vs,H2,I2,r2,q2⟩;exact hm pq s2 Z H2 x vs v us Q I2 r1 r2 q2
end
def MtM(X:Cx)(id:String)(r:V->List V->Hp->VK->Prop):Prop:=
 ∀pq s Z H x xs v us Q,Inv X pq Z H s->ZA x v->Vals xs us->r x xs H Q->
  aY #[10] X.A (call (.builtin id) (v::us)) (EP X pq Z Q) X.xe s
def Vals.one:∀{x:V}{us:List aB},Vals [x] us->∃u,us=[u]/\ZA x u
 |_,_,.cons r .nil=>#[_,rfl,r]
theorem Vals.reverse(h:Vals xs us):Vals xs.reverse us.reverse:=by
 induction h with|nil=>exact .nil|cons r t ih=>rw[eY,eY];exact Vals.append ih<|.cons r .nil
theorem Vals.rep(h:Vals xs us):∀k,Vals (ax k xs).flatten (ax k us).flatten
 |0=>.nil
 |k+1=>by
  rw[cI];exact Vals.append h<|Vals.rep h k
theorem Um(its:List aB):∀k acc,
  List.foldl (λx1 x2=>x1++x2) acc.toArray (ax k its.toArray)=(acc++(ax k its).flatten).toArray
 |0,acc=>by simp
 |k+1,acc=>by
  have e:acc.toArray++its.toArray=(acc++its).toArray:=by simp
  have e2:(acc++its)++(ax k its).flatten=acc++(ax (k+1) its).flatten:=by
   rw[cI,eZ,bG]
  rw[<-e2,<-Um its k (acc++its),<-e,cI,du]
section
variable{X:Cx}{pq:List (aO×gf)}{Z:St}{H:Hp}{s:aM}{l b:aO}{xs ys zs:List V}
def Inv.lset{its its':List aB}(I:Inv X pq Z H s)(hH:H l=aa (.lst xs))
  (e:s.heap.get? l=aa {cls:=.type "list",data:=.seq its.toArray n})(hf:f its.toArray=its'.toArray)(hv:Vals ys its')(hz:ys.length<=a9) :
  Inv X pq Z (upd H l<|.lst ys) {s with heap:=s.heap.update l<|fw f,toks:=t' }:=by
 have q:=PySem.IsL.update e f;rw[hf]at q;refine I.write (by rw[hH];exact trivial) (.inl rfl) (λb' u hb hu=>(mq s.heap (fw f)<|Ne.symm hb).trans hu) #[_,q] ?_
 exact#[hz,its',_,hv,q]
def Inv.lnew(I:Inv X pq Z H s)(hv:Vals ys its)(hz:ys.length<=a9) :
  Inv X pq Z (upd H s.heap.objs.size<|.lst ys) {s with heap:=s.heap.push {cls:=.type "list",data:=.seq its.toArray},toks:=t' }:=
 I.laid (λ_ _ q=>au _ q) (aJ _) #[hz,its,0,hv,aH _ rfl]
theorem Inv.fresh(I:Inv X pq Z H s):H s.heap.objs.size=ai:=I.hok.fresh<|aJ _
def Inv.lstM(I:Inv X pq Z H s)(hH:H l=aa (.lst xs)):xs.length<=a9/\∃(its:List aB)(n:Nat),Vals xs its/\xs.length=its.length/\s.heap.get? l=aa {cls:=.type "list",data:=.seq its.toArray n}:=by
 obtain⟨z,its,n,r,e⟩:=I.hok l _ hH;exact#[z,its,n,r,r.length,e]
end
section
variable{X:Cx}
def qp:V->List V->Hp->VK->Prop:=λx vs H Q=>∃l xs y,x=.ref l/\vs=[y]/\H l=aa (.lst xs)/\xs.length<a9/\Q .non (upd H l<|.lst<|xs++[y])
theorem Uo:MtM X "list.append" qp:=by
 intro pq s Z H x vs v us Q I rx rv h;obtain⟨l,xs,y,rfl,rfl,hH,hz,q⟩:=h;cases rx;obtain⟨u,rfl,ru⟩:=rv.one;obtain⟨z,its,n,r,hl,e⟩:=I.lstM hH;refine hV F.slot_list_append #[_,e,rfl] F.entry_list_append (F.args_list_append_2 _ _) (PySem.list_append l its.toArray n u<|by rw[aD];lia) #[e,?_]
 refine#[.non,_,I.lset (its':=its++[u]) hH e #[2] (r.append<|.cons ru .nil) ?_,rfl,q]
 rw[aU,fZ];lia
def ZeF:R2:=λx y H Q=>∃l b xs zs,x=.ref l/\y=.ref b/\H l=aa (.lst xs)/\H b=aa (.lst zs)/\xs.length+zs.length<=a9/\∀p,H p=ai->Q (.ref p) (upd H p<|.lst<|xs++zs)
theorem vK:OpR X (eX .Add) ZeF:=by
 intro pq s Z H x y v u Q I rx ry h;obtain⟨l,b,xs,zs,rfl,rfl,hH,hB,hz,q⟩:=h;cases rx;cases ry;obtain⟨z,its,n,r,hl,e⟩:=I.lstM hH;obtain⟨z2,its2,n2,r2,hl2,e2⟩:=I.lstM hB;refine PySem.P.add_list e e2 ?_ (by rw[aD,aD];lia)
 have ea:its.toArray++its2.toArray=(its++its2).toArray:=by simp
 rw[ea];exact#[.ref _,_,I.lnew (t':=s.toks) (r.append r2) (by rw[aU];lia),rfl,q _ I.fresh]
def G6{B:Type}(xs:List B)(k):(ax k xs).flatten.length=k*xs.length:=by
 induction k with|zero=>simp|succ k ih=>rw[cI,eZ,aU,ih,Nat.succ_mul,kq]
end
end L2
namespace Att
open PySem PySem.W PySem.Calls PyProof.Rows
def UW :∀ns vs,WellAll P h vs (ns.map WData.int)->iS vs ns:=by
 intro ns
 induction ns with
 |nil=>
  intro vs w;rw[List.map_nil]at w;cases w;exact .nil
 |cons n ns ih=>
  intro vs w;rw[ba]at w;cases w with
  |cons a b=>
   cases a;exact .cons _ _<|ih _ b
def jG{l:OpenLaw}(hn:l.most=aa n) 
  (hpre:l.row.toRowW.claim.pre args=ao)(hwl:WellAll P h vals args) :
  ∃a vs ns,vals=[cZ a]/\args=[WData.list<|ns.map WData.int]/\h.get? a=aa {cls:=.type "list",data:=.seq vs.toArray}/\iS vs ns/\ns.length<=n:=by
 obtain⟨d,r,rfl,h1,h2⟩:=hasAllW_cons<|(pre_splitW hpre).1;obtain rfl:=hasAllW_nil h2;obtain⟨xs,rfl,h3⟩:=hasW_list h1;obtain⟨ns,rfl⟩:=items_int h3;have hlen:ns.length<=n:=by
  have h4:(WTm.not<|.lt (.lit<|.int (n:Int))<|.len<|.arg 0).holds [] {args:=[.list<|ns.map .int]}=ao:=by
   have h4:=(holds_andW<|(pre_splitW hpre).2).1;rwa[hn]at h4
  have h5:=condW_of h4<|w_not<|w_lt w_lit<|w_len_list<|w_arg rfl;rw[av]at h5;refine dW λq=>?_
  first
   |(rw[T5 q']at h5;exact T7 h5 #[1])
   |(simp at h5;lia)
 cases hwl with
 |cons w1 w2=>
  cases w2;cases w1 with|list ho hall=>exact#[_,_,ns,rfl,rfl,ho,UW ns _ hall,hlen]
def qU(l:OpenLaw)(args):l.row.toRowW.claim.post args (.bool ao) args=ao:=
 postW_of
  (by first|rfl|decide|simp)
  (w_eq_bool (w_res rfl) w_lit) rfl
def wy{l:OpenLaw}{n:Nat}
  (hn:l.most=aa n)(hdf:d.params.defaults=[])
  (call:∀w s₀ s₁ mg mb fa o pm cd doc a vs ns,
   Ground q loose [] XP w s₀ mg mb s₁.heap->YP w s₁.heap->
   s₁.heap.get? fa=aa o->o.data=.func (docDef d.name d.params d.body d.scope pm cd doc)->s₁.heap.CodeRec cd d.name->mg d.name=aa (.ref fa)->
   s₁.heap.get? a=aa {cls:=.type "list",data:=.seq vs.toArray}->iS vs ns->ns.length<=n->s₁.gens = #[]->
   gC (aW l.prog w) nt (.call (.ref fa) #[[.ref a],[]]) (λr s'=>r=.ok (.ret<|.bool ao)/\OldK s₁.heap s'.heap/\s'.os=s₁.os/\iQ s'.gens) s₁) :
  WalkO q loose XP YP l.row.toRowW d [] (λf vs=>rg f vs):=by
 intro w s₀ s₁ mg mb G Y fa o pm cd doc dV kV ho hd hcd hD hmg hg args vals as hpre hlay hrd hwl hlo;obtain rfl:dV=.none:=Dflts.none hD hdf;obtain rfl:kV=.none:=Dflts.noKw hD;obtain⟨a,vs,ns,rfl,rfl,hobj,hints,hlen⟩:=jG hn hpre hwl;refine enter_call<|fK (call w s₀ s₁ mg mb fa o pm cd doc a vs ns G Y ho (fd_plain hd) hcd hmg hobj hints hlen hg) λr s' hq=>?_
 obtain⟨rfl,h2,h3,h4⟩:=hq;exact#[.inl #[.bool ao,.bool ao,[],rfl,λ_=>rfl,.bool ao,qU l _,λ_=>#[lq,λ_ hm=>(nomatch hm)]],h2,h3,h4]
end Att
namespace L2
open PySem PySem.Spec PyProof.Rows
theorem GC:∀{vs:List aB}{ns:List Int},iS vs ns->Vals (ns.map V.int) vs
 |_,_,.nil=>.nil
 |_,_,.cons n t h=>.cons #[t,rfl]<|GC h
noncomputable def Xs(s:fB):Arguments:=match s with
 |.FunctionDef _ a _ _ _ _ _ _ _ _=>a
 |_=>{posonlyargs:=[],args:=[],vararg:=ai,kwonlyargs:=[],kw_defaults:=[],kwarg:=ai,defaults:=[]}
noncomputable def ZE(s:fB):List fB:=match s with
 |.FunctionDef _ _ b _ _ _ _ _ _ _=>b
 |_=>[]
noncomputable def Zg(s:fB):gI:=match s with
 |.FunctionDef _ _ _ _ _ _ sc _ _ _=>sc
 |_=>{kind:=.function,names:=[],isGenerator:=aj,isCoroutine:=aj}
noncomputable abbrev E0:XK:=λ_ _ _=>False
structure Fun(K:ap)(x qual:bR)(st:fB)(f:aO)(fd:dB):Prop where
 ex:∃(oc:aB)(od:Option aO)(kV doc pm:aB)(an:Option aO)(cdv ct:aB)(osl:Array (Option aB)),
  fd=eA x qual (Xs st) (ZE st) (Zg st) .none kV doc pm an cdv ct/\K.lookup f=aa #[oc,od,.func fd,osl]/\kA K cdv qual=ao
 kp:gu K (.ref f)=ao
section
variable{P:bP}{w:b9}{K:ap}{mg:bR->Option aB}{base:cQ}
def Fun.binds{st:fB}(F:Fun K x qual st f fd)
  (h:∀kV doc pm an cdv ct us,us.length=ps.length->mV (eA x qual (Xs st) (ZE st) (Zg st) .none kV doc pm an cdv ct) #[us,[]]=cX (ps.zip us)):UC K fd ps []:=by
 obtain⟨oc,od,kV,doc,pm,an,cdv,ct,osl,rfl,lk,hcd⟩:=F.ex;exact .all<|h kV doc pm an cdv ct
def ZgR{st:fB}{kV doc pm cdv ct:aB}(l:K.lookup f=aa #[oc,od,.func<|eA x qual (Xs st) (ZE st) (Zg st) .none kV doc pm an cdv ct,osl])
  (c:kA K cdv qual=ao)(k:gu K (.ref f)=ao):Fun K x qual st f (eA x qual (Xs st) (ZE st) (Zg st) .none kV doc pm an cdv ct):=#[#[oc,od,kV,doc,pm,an,cdv,ct,osl,rfl,l,c],k]
end
section
variable{κ:Type}[DecidableEq κ]
noncomputable def UV(kvs:List (κ×V))(k:κ):Option V:=(kvs.find? λkv=>ag<|kv.1=k).map (·.2)
noncomputable def Vl(kvs:List (κ×V))(k:κ)(v:V):List (κ×V):=
 if(kvs.any λkv=>ag<|kv.1=k)=ao then kvs.map (λkv=>if kv.1=k then(kv.1,v)else kv)else kvs++[(k,v)]
def QJ{k:κ}(e:p.1=k):UV (p::r) k=aa p.2:=by simp[UV,e]
def Jr{k:κ}(e:¬p.1=k):UV (p::r) k=UV r k:=by simp[UV,e]
theorem Wu(k:κ):∀kvs,(kvs.any λkv=>ag<|kv.1=k)=(UV kvs k).isSome
 |[]=>rfl
 |p::r=>by
  rw[fz];by_cases e:p.1=k
  .simp[QJ e,T5 e]
  .rw[Jr e,T4 e];exact Wu k r
theorem UO(kvs)(k:κ)(v):(Vl kvs k v).length<=kvs.length+1:=by
 unfold Vl;split
 .rw[av];lia
 .rw[aU,aQ,List.length_nil];lia
def Zbd{k:κ}(v)(h:UV kvs k=ai):Vl kvs k v=kvs++[(k,v)]:=by
 unfold Vl;rw[Wu,h];exact T8 #[1]
def ZdF.isSome_eq(r:ZdF o u):o.isSome=u.isSome:=by
 cases o with
 |none=>cases u with|none=>rfl|some _=>exact(r).elim
 |some _=>cases u with|none=>exact(r).elim|some _=>rfl
def KV.val(r:KV kvs vs)(k:κ):ZdF (UV kvs k) (oD vs k):=by
 induction r with
 |nil=>exact fv
 |@cons p q ps qs h t ih=>
  obtain⟨h1,h2⟩:=h;by_cases e:p.1=k
  .have e':=h1.symm.trans e
   have b:oD (q::qs) k=aa q.2:=by simp[oD,e']
   rw[QJ e,b];exact h2
  .have e':¬q.1=k:=λz=>e (h1.trans z)
   have b:oD (q::qs) k=oD qs k:=by simp[oD,e']
   rw[Jr e,b];exact ih
theorem KV.any(r:KV kvs vs)(k:κ):(kvs.any λkv=>ag<|kv.1=k)=vs.any λkv=>ag (kv.1=k):=by
 induction r with|nil=>rfl|cons h t ih=>rw[fz,fz,ih,h.1]
def KV.repl(r:KV kvs vs)(k:κ)(ry:ZA y u) :
  KV (kvs.map λkv=>if kv.1=k then(kv.1,y)else kv) (vs.map λkv=>if kv.1=k then(kv.1,u)else kv):=by
 induction r with
 |nil=>exact .nil
 |@cons p q ps qs h t ih=>
  rw[ba,ba];refine .cons ?_ ih;obtain⟨h1,h2⟩:=h;by_cases e:p.1=k
  .rw[T9 e,T9<|h1.symm.trans e];exact#[h1,ry]
  .rw[T8 e,T8 λz=>e<|h1.trans z];exact#[h1,h2]
def KV.put(r:KV kvs vs)(k:κ)(ry:ZA y u):KV (Vl kvs k y) (stored vs k u):=by
 unfold Vl stored;rw[r.any k];by_cases e:(vs.any λkv=>ag<|kv.1=k)=ao
 .rw[T9 e,T9 e];exact r.repl k ry
 .rw[T8 e,T8 e];exact Paired.snoc r #[rfl,ry]
theorem KV.length(r:KV kvs vs):kvs.length=vs.length:=Paired.length r
end
def u9(r:ZA (kV k) u):(ZU P w).is k u=ao:=by
 cases k with|inl i=>obtain⟨t,e⟩:=(r);subst e;exact yN P w i t|inr x=>obtain⟨t,e⟩:=(r);subst e;exact yZ P w x t
theorem J8 :∀{ks:List Key}{us:List aB},Vals (ks.map kV) us->ItemsAre (ZU P w) ks us
 |[],_,r=>by rw[List.map_nil]at r;cases r;exact .nil
 |k::ks,_,r=>by
  rw[ba]at r;cases r with|cons h t=>exact .cons (u9 h)<|J8 t
abbrev KT(H:Hp):List (List Key×V)->List (List Key×aO×aB)->Prop:=Paired λp q=>p.1=q.1/\H q.2.1=aa (.tup<|p.1.map kV)/\ZA p.2 q.2.2
def KT.val(r:KT H kvs xs)(k):ZdF (UV kvs k) ((oE xs k).map (·.2)):=by
 induction r with
 |nil=>exact fv
 |@cons p q ps qs h t ih=>
  obtain⟨h1,_,h2⟩:=h;by_cases e:p.1=k
  .have e':=h1.symm.trans e
   have b:oE (q::qs) k=aa q.2:=by simp[oE,e']
   rw[QJ e,b];exact h2
  .have e':¬q.1=k:=λz=>e (h1.trans z)
   have b:oE (q::qs) k=oE qs k:=by simp[oE,e']
   rw[Jr e,b];exact ih
def KT.repl(r:KT H kvs xs)(k)(ry:ZA y u) :
  KT H (kvs.map λkv=>if kv.1=k then(kv.1,y)else kv) (xs.map<|putAt k u):=by
 induction r with
 |nil=>exact .nil
 |@cons p q ps qs h t ih=>
  rw[ba];refine .cons ?_ ih;obtain⟨h1,h2,h3⟩:=h;unfold putAt;by_cases e:p.1=k
  .rw[T9 e,T9<|h1.symm.trans e];exact#[h1,h2,ry]
  .rw[T8 e,T8 λz=>e<|h1.trans z];exact#[h1,h2,h3]
def KT.put(r:KT H kvs xs)(k)(hb:H b=aa (.tup<|k.map kV))(ry:ZA y u) :
  KT H (Vl kvs k y) (storedH xs k b u):=by
 have e:(kvs.any λkv=>ag<|kv.1=k)=(oE xs k).isSome:=by
  rw[Wu,(r.val k).isSome_eq,lv]
 unfold Vl storedH;rw[e];by_cases q:(oE xs k).isSome=ao
 .rw[T9 q,T9 q];exact r.repl k ry
 .rw[T8 q,T8 q];exact Paired.snoc r #[rfl,hb,ry]
def KT.keeps(r:KT H kvs xs)(ht:∀b ys,H b=aa (.tup ys)->H' b=aa (.tup ys)):KT H' kvs xs:=
 Paired.mapP r λ_ _ z=>#[z.1,ht _ _ z.2.1,z.2.2]
def ZfN(ok:HOk P w H h)(e:Rd H a u):Z7 P w H h a u:=e.ok ok
def ZcO(ok:HOk P w H h)(e:Rd H a (.dK kvs)):kvs.length<=a9/\(a == db)=aj/\∃vs,KV kvs vs/\h.DictOf (ZU P w) a vs:=
 ZfN ok e
def Zjb(ok:HOk P w H h)(e:H a=aa (.dK kvs)):kvs.length<=a9/\(a == db)=aj/\∃vs,KV kvs vs/\h.DictOf (ZU P w) a vs:=ZcO ok<|.inl e
def Uw(ok:HOk P w H h)(e:H a=aa (.tup<|ks.map kV)):(dR<|ZU P w).is h ks a:=by
 obtain⟨_,its,r,o,h1,h2,n,h3⟩:=(ok a _ e)
 exact#[o,its.toArray,n,h1,h2,h3,by simpa using J8 r]
def Zcm(ok:HOk P w H h)(e:Rd H a (.dT kvs)):kvs.length<=a9/\(a == db)=aj/\
  ∃xs,KT H kvs xs/\h.DictOfH (dR<|ZU P w) a xs:=by
 obtain⟨z,y,xs,r,o,es,ep,h1,h2,h3,h4,h5⟩:=(ZfN ok e)
 refine#[z,y,xs,r,o,es,ep,h1,h2,h3,h4,λx hx=>?_,h5]
 have all:∀{l:List (List Key×V)}{m:List (List Key×aO×aB)},KT H l m->∀x∈m,(dR<|ZU P w).is h x.1 x.2.1:=by
  intro l m q
  induction q with
  |nil=>intro x hx;exact nomatch hx
  |@cons p q ps qs hq t ih=>
   intro x hx;rcases ay.mp hx with e|hx
   .subst e
    exact Uw ok (by rw[<-hq.1];exact hq.2.1)
   .exact ih x hx
 exact all r x hx
def ZfA(ok:HOk P w H h)(e:H a=aa (.dT kvs)):kvs.length<=a9/\(a == db)=aj/\
  ∃xs,KT H kvs xs/\h.DictOfH (dR<|ZU P w) a xs:=Zcm ok<|.inl e
def DGet(H:Hp)(a:aO)(y:V)(r:Option V):Prop:=
 (∃kvs k,Rd H a (.dK kvs)/\y=kV k/\r=UV kvs k)\/∃kvs k b,Rd H a (.dT kvs)/\y=.ref b/\H b=aa (.tup<|k.map kV)/\r=UV kvs k
def DPut(H:Hp)(a:aO)(y v:V)(H':Hp):Prop:=
 (∃kvs k,H a=aa (.dK kvs)/\y=kV k/\kvs.length<a9/\H'=upd H a (.dK<|Vl kvs k v))\/
 ∃kvs k b,H a=aa (.dT kvs)/\y=.ref b/\H b=aa (.tup<|k.map kV)/\kvs.length<a9/\H'=upd H a (.dT<|Vl kvs k v)
def DPut.t(e:H a=aa (.dT kvs))(eb:H b=aa (.tup<|k.map kV))(hl:kvs.length<a9) :
  DPut H a (.ref b) v (upd H a<|.dT<|Vl kvs k v):=.inr #[kvs,k,b,e,rfl,eb,hl,rfl]
def Inv.big(I:Inv X pq Z H s):db<s.heap.objs.size:=by
 exact dv #[1]<|(I.mod.glob.keeps I.bk).lt
def Zjt{Q:aB->aM->Prop}(hu:A.units+1<dJ)(I:Inv X pq Z H s)(g:DGet H a y o)(ry:ZA y u)(h:∀s',Inv X pq Z H s'->Q (.bool o.isSome) s') :
  aY #[10] A (cM .In u<|.ref a) Q E s:=by
 rcases g with⟨kvs,k,e,ey,l⟩|⟨kvs,k,b,e,ey,eb,l⟩
 .subst ey
  obtain⟨z,hd,vs,rel,dd⟩:=ZcO I.hok e;refine wpAny_in_of (u9 ry) hd dd.mapOf ?_;rw[<-(rel.val k).isSome_eq,<-l];exact h _<|I.tok _
 .subst ey
  cases(ry)
  obtain⟨z,hd,xs,rel,dd⟩:=Zcm I.hok e;refine wpAny_in_heap (hZ hu) (Uw I.hok eb) hd dd ?_;have q:=(rel.val k).isSome_eq;rw[lv]at q;rw[<-q,<-l];exact h _<|I.tok _
def Ze1{Q:aB->aM->Prop}(hu:A.units+1<dJ)(I:Inv X pq Z H s)(g:DGet H a y o)(ry:ZA y u)(h:∀s',Inv X pq Z H s'->Q (.bool<|!o.isSome) s') :
  aY #[10] A (cM .NotIn u<|.ref a) Q E s:=by
 rcases g with⟨kvs,k,e,ey,l⟩|⟨kvs,k,b,e,ey,eb,l⟩
 .subst ey
  obtain⟨z,hd,vs,rel,dd⟩:=ZcO I.hok e;refine wpAny_notIn_of (u9 ry) hd dd.mapOf ?_;rw[<-(rel.val k).isSome_eq,<-l];exact h _<|I.tok _
 .subst ey
  cases(ry)
  obtain⟨z,hd,xs,rel,dd⟩:=Zcm I.hok e;refine wpAny_notIn_heap (hZ hu) (Uw I.hok eb) hd dd ?_;have q:=(rel.val k).isSome_eq;rw[lv]at q;rw[<-q,<-l];exact h _<|I.tok _
def zt(I:Inv X pq Z H s)(mu:Mut (H a))(hs:ei a s.heap h')(he:∃q,h'.get? a=aa q)(new:Z7 X.prog X.w (upd H a ob) h' a ob) :
  Inv X pq Z (upd H a ob) {s with heap:=h',toks:=t' }:=
 I.write mu (.inl rfl) (λb q hb z=>(hs.2 b hb).trans z) he new
def ZhK(z:kvs.length<=a9)(hd:(a == db)=aj)(rel:KV kvs vs)(dd:h'.DictOf (ZU P w) a vs) :
  Z7 P w H' h' a (.dK kvs):=#[z,hd,vs,rel,dd]
def qI{H':Hp}{Q:Unit->aM->Prop}(hu:A.units+1<dJ)(I:Inv X pq Z H s)(g:DPut H a y v H')(ry:ZA y u)(rv:ZA v r)(h:∀s',Inv X pq Z H' s'->Q () s') :
  aY #[10] A (sh (.ref a) u r) Q E s:=by
 rcases g with⟨kvs,k,e,ey,l,eH⟩|⟨kvs,k,b,e,ey,eb,l,eH⟩
 .subst ey eH
  obtain⟨z,hd,vs,rel,dd⟩:=Zjb I.hok e;have hz:vs.length<=a9:=by rw[<-rel.length];exact z
  have hl:(Vl kvs k v).length<=a9:=by have:=UO kvs k v;lia
  refine wpAny_setItem_pairs (hsz:=hz) (u9 ry) dd λh' dd' hs=>h _ ?_
  have he:∃q,h'.get? a=aa q:=let #[q,_,_,hq,_]:=dd';#[q,hq];exact zt I (by rw[e];exact fv) hs he<|ZhK hl hd (rel.put k rv) dd'
 .subst ey eH
  cases(show u=cZ b from ry)
  obtain⟨z,hd,xs,rel,dd⟩:=ZfA I.hok e;have hz:xs.length<=a9:=by rw[<-Paired.length rel];exact z
  have hl:(Vl kvs k v).length<=a9:=by have:=UO kvs k v;lia
  refine wpAny_setItem_heap (hZ hu) (Uw I.hok eb) dd λh' dd' hs=>h _ ?_
  obtain⟨q,es,ep,hq,h2,h3,h4,_,h5⟩:=dd';refine zt I (by rw[e];exact fv) hs #[q,hq] #[hl,hd,_,(rel.put k eb rv).keeps λc ys ec=>?_,q,es,ep,hq,h2,h3,h4,h5]
  rw[Zk (Zf1 ec e (λz=>nomatch z))]
  exact ec
def Ziz(td ty tv:TE):TS:=λD Z H=>tv Z H λv H1=>td Z H1 λx H2=>ty Z H2 λy H3=>∃a H4,x=.ref a/\DPut H3 a y v H4/\D.nx Z H4
section
variable{X:Cx}{o i e value:Expr}{pos pos' tpos:iV}{td ty tv:TE}
def Zez(hu:X.A.units+1<dJ)(ho:PE X o td)(hi:PE X i ty)(hv:PE X value tv)(hs:eV value (aa<|.Subscript o i pos') pos.line X.env=cX aj) :
  PS X (.Assign [.Subscript o i pos'] value pos) (Ziz td ty tv):=by
 intro pq s Z H D I h;refine wpAny_Assign_Subscript (thn (hv pq s Z H _ I h) λr s1 #[v,H1,I1,rv,q1]=>thn (ho pq s1 Z H1 _ I1 q1) λu s2 #[x,H2,I2,rx,q2]=>thn (hi pq s2 Z H2 _ I2 q2) λiv s3 #[y,H3,I3,ry,a,H4,ex,g,q3]=>?_) hs
 subst ex;obtain rfl:u=cZ a:=rx;exact qI hu I3 g ry rv λs4 I4=>#[Z,H4,I4,q3]
end
def ZbM(h:cQ)(hb:db<h.objs.size):Z7 P w H (h.push {cls:=.type "dict",data:=.dict #[]}) h.objs.size (.dK []):=
 #[c7 _,beq_eq_false_iff_ne.mpr<|Ne.symm<|a8 hb,[],.nil,cQ.DictOf.new h]
def ZcD(h:cQ)(hb:db<h.objs.size):Z7 P w H (h.push {cls:=.type "dict",data:=.dict #[]}) h.objs.size (.dT []):=
 #[c7 _,beq_eq_false_iff_ne.mpr<|Ne.symm<|a8 hb,[],.nil,_,#[],0,aH _ rfl,#[rfl,rfl,rfl],rfl,rfl,mX]
def ZgY:TE:=λ_ H Q=>∀p,H p=ai->Q (.ref p) (upd H p<|.dK [])
section
variable{X:Cx}{pos:iV}
def ZaV:PE X (.Dict [] [] pos) ZgY:=λpq s Z H Q I h=>
 wpAny_Dict_empty #[.ref s.heap.objs.size,_,I.laid (t':=s.toks) (λ_ _ q=>au _ q) (aJ _)<|ZbM s.heap I.big,rfl,h _<|I.hok.fresh<|aJ _]
end
def vx:List (TE×TE)->St->Hp->(List (V×V)->Hp->Prop)->Prop
 |[],_,H,Q=>Q [] H
 |(tk,tv)::r,Z,H,Q=>tk Z H λx H1=>tv Z H1 λy H2=>vx r Z H2 λps H3=>Q ((x,y)::ps) H3
abbrev VV:List (V×V)->List (aB×aB)->Prop:=Paired λp q=>ZA p.1 q.1/\ZA p.2 q.2
def PPs(X:Cx)(pos:iV)(keys:List (Option Expr))(values:List Expr)(trs:List (TE×TE)):Prop:=
 ∀pq s Z H Q,Inv X pq Z H s->vx trs Z H Q->
  aY #[10] X.A (evalPairs<|pairTrees keys values X.env pos) (λvs s'=>∃ps H',Inv X pq Z H' s'/\VV ps vs/\Q ps H') X.xe s
def Ze9 :PPs X pos [] [] []:=λpq s Z H Q I h=>pairTrees_nil_walk #[[],H,I,.nil,h]
def Za4(hk:PE X k tk)(hv:PE X v tv)(hr:PPs X pos ks vs trs) :
  PPs X pos (aa k::ks) (v::vs) ((tk,tv)::trs):=λpq s Z H Q I h=>
 pairTrees_cons_walk (thn (hk pq s Z H _ I h) λu s1 #[x,H1,I1,rx,q1]=>thn (hv pq s1 Z H1 _ I1 q1) λw2 s2 #[y,H2,I2,ry,q2]=>
  thn (hr pq s2 Z H2 _ I2 q2)<|by rintro ws s3 ⟨ps,H3,I3,rel,q3⟩;exact #[(x,y)::ps,H3,I3,.cons #[rx,ry] rel,q3])
end L2
namespace Pv
open PySem (Str)
inductive V where
 |non|bl (b:Bool)|int (i:Int)|str (x:bR)|tup (xs:List V)|lst (xs:List V)|drw|dct (ks:Sum (List<|Int×Int) (List<|List Int))|scr (ns:List Int)
 |dow (ks:List (List Int))
 deriving Inhabited
end Pv
namespace Ev
open PySem (Str)
def nos{B:Type}{P:Prop}{b:B}(h:ai=aa b):P:=by cases h
noncomputable def lim:Nat:=16777216
inductive Bop where|add|sub|mul|fdiv|mod|pow
 deriving DecidableEq
inductive Cop where|eq|ne|lt|le|gt|ge|is|isn|inn|nin
 deriving DecidableEq
inductive Ty where|int|bool|str|tuple|list|dict|cls (c:Nat)
 deriving DecidableEq
inductive Bf where|len|max2|min2|toInt|tuple|list|all|any|sum|sortedR|dictP|listD|sortedD|sortedS|index|rangeL
 deriving DecidableEq
inductive So where|join|split|find|ix
 deriving DecidableEq
inductive Mf where|append|index
 deriving DecidableEq
mutual
inductive E where
 |c (d:Pv.V)|v (i:Nat)
 |tup (es:List E)|lst (es:List E)|dnew
 |bin (op:Bop) (a b:E)|neg (a:E)|not (a:E)|and (a b:E)|or (a b:E)|ite (t a b:E)
 |cmp (op:Cop) (a b:E)|chain (o p:Cop) (a b d:E)
 |ix (a i:E)|sl (a:E) (lo hi:Option E)|rev (a:E)
 |call (f:Nat) (as:List E)|blt (f:Bf) (as:List E)|mt (m:Mf) (o:E) (as:List E)
 |isi (a:E) (ts:List Ty)
 |comp1 (cap:List Nat) (nl:Nat) (t:List Nat) (it:W) (ifs:List E) (elt:E)
 |refu (w:Bool) (e:E)
 |dix (a:E) (k:Bool)
inductive W where
 |of (e:E)|rng1 (a:E)|rng2 (a b:E)|zip (a b:E)|enum (a:E)
end
abbrev E.n(i:Int):E:=.c<|.int i
inductive Sm where
 |asg (t:List Nat) (e:E)|aug (i:Nat) (op:Bop) (e:E)|dput (o i e:E)
 |ret (e:E)|ex (e:E)|ite (t:E) (a b:List Sm)|forr (t:List Nat) (it:W) (b:List Sm)|whl (t:E) (b:List Sm)
 |raise (c:Nat) (as:List E)
 |dset (i:Nat) (e:E)|cel (i f:Nat) (as:List E) (b:List Sm)
 |dnw (i:Nat) (k:E)|forF (t:List Nat) (e:E) (b:List Sm)
noncomputable def b2i(b:Bool):Int:=if b then 1 else 0
noncomputable def Zz:Nat:=6
noncomputable def ixN(n:Nat)(i:Int):Option Nat:=if 0<=i then(if i<n then aa i.toNat else ai)else if -(n:Int)<=i then aa (i+n).toNat else ai
def at'{B:Type}(xs:List B)(i:Int):Option B:=(ixN xs.length i).bind λj=>xs[j]?
noncomputable def sIx(n d:Nat):Option Int->Nat
 |none=>d
 |some i=>if i<0 then(i+n).toNat else sC i.toNat n
noncomputable def fits(i:Int):Bool:=ag<|i.natAbs<2^8000
noncomputable def big:Int:=2^8000
def Zb9(h:b<1073741824):b<big:=Int.lt_trans h #[24]
noncomputable def ltI:List Int->List Int->Bool
 |[],[]=>aj
 |[],_::_=>ao
 |_::_,[]=>aj
 |a::x,b::y=>if a=b then ltI x y else ag (a<b)
def YH(x:List Int):List #[28]->List #[28]
 |[]=>[x]
 |y::r=>if ltI x y then x::y::r else y::YH x r
def Zr:List #[28]->List #[28]
 |[]=>[]
 |x::r=>YH x<|Zr r
noncomputable def JF{B:Type}(lt:B->B->Bool)(x:B):List B->List B
 |[]=>[x]
 |y::r=>if lt x y then x::y::r else y::JF lt x r
def Wh{B:Type}(lt:B->B->Bool):List B->List B
 |[]=>[]
 |x::r=>JF lt x<|Wh lt r
def ltP:List #[28]->List #[28]->Bool
 |[],[]=>aj
 |[],_::_=>ao
 |_::_,[]=>aj
 |a::x,b::y=>if a=b then ltP x y else ltI a b
noncomputable def Zcw(is:List Int):Bool:=ag (is.length<=1000)&&is.all λi=>ag<|-1099511627776<=i/\i<=1099511627776
noncomputable def Yd(rs:List #[28]):Bool:=ag (rs.length<=100000)&&decide rs.Nodup&&rs.all λr=>!r.isEmpty
noncomputable def Y4(ps:List (List<|List Int)):Bool:=ag (ps.length<=100000)&&decide ps.Nodup&&(ag (ps.length<=1)||ps.all λP=>!P.isEmpty)
def Jc(ks:List #[28]):Bool:=ag (ks.length<=lim)&&decide ks.Nodup
noncomputable def Va(i:Int):Bool:=ag<|-(2^62)<=i/\i<2^62
noncomputable def few(i:Int):Bool:=ag<|0<=i/\i<=1000
noncomputable def xX:Nat:=1000
noncomputable def spcs:List (Nat×Nat):=[(2,1),(2,2),(2,3),(2,4),(3,1),(3,2),(3,3),(5,1),(5,2),(2,5),(2,6),(3,4),(5,3)]
def ZiW(rs:List #[28]):Bool:=Yd rs&&(ag (rs.length<=300)&&spcs.any λq=>rs.all λr=>ag (r.length=q.2)&&r.all λa=>ag<|0<=a/\a<(q.1:Int))
noncomputable def Zja(P:List #[28]):Int:=o0<|iI<|P.map λr=>o0<|iI<|r.map PySem.hashInt
def ZhZ(ps:List (List<|List Int)):Bool:=Y4 ps&&(ag (ps.length<=1399)&&ag (ps.map Zja).Nodup)
structure Fn where
 ps:Nat
 ns:Nat
 body:List Sm
end Ev
namespace Pv
open Ev
open PySem (Str)
noncomputable abbrev DS:=Int×Bool
inductive PR(B:Type) where
 |ok (a:B) (s:DS)|ex (c:Nat) (s:DS)|no
noncomputable def PR.bind{B β:Type}(r:PR B)(f:B->DS->PR β):PR β:=match r with
 |.ok a s=>f a s
 |.ex c s=>.ex c s
 |.no=>.no
noncomputable def PR.nox{B:Type}(r:PR B):PR B:=match r with
 |.ex _ _=>.no
 |r=>r
noncomputable def po{B:Type}(o:Option B)(s:DS):PR B:=match o with
 |some a=>.ok a s
 |none=>.no
abbrev Env:=List<|Option V
mutual
noncomputable def V.flat:V->Bool
 |.tup xs=>Wd xs
 |.lst _=>aj
 |.drw=>aj
 |.dct _=>aj
 |.dow _=>aj
 |_=>ao
noncomputable def Wd:List V->Bool
 |[]=>ao
 |x::xs=>x.flat&&Wd xs
end
mutual
noncomputable def ofD:V->Option V
 |.non=>aa .non
 |.bl b=>aa<|.bl b
 |.int i=>aa<|.int i
 |.str x=>aa<|.str x
 |.tup xs=>(Zit xs).map .tup
 |_=>ai
noncomputable def Zit:List V->Option (List V)
 |[]=>aa []
 |x::xs=>match ofD x,Zit xs with
  |some a,aa b=>aa (a::b)
  |_,_=>ai
end
noncomputable def Zy:V->Option Bool
 |.non=>aa aj
 |.bl b=>aa b
 |.int i=>aa<|ag<|i≠0
 |.tup xs=>aa<|!xs.isEmpty
 |.lst xs=>aa<|!xs.isEmpty
 |_=>ai
noncomputable def YG(f:V->V->Option Bool):List V->List V->Option Bool
 |[],[]=>aa ao
 |x::xs,y::ys=>match f x y,YG f xs ys with
  |some a,aa b=>aa<|a&&b
  |_,_=>ai
 |_,_=>aa aj
def eqV:Nat->V->V->Option Bool
 |0,_,_=>ai
 |k+1,x,y=>match x with
  |.non=>match y with
   |.non=>aa ao
   |.bl _|.int _|.str _=>aa aj
   |_=>ai
  |.bl a=>match y with
   |.bl b=>aa<|ag<|a=b
   |.int b=>aa<|ag<|b2i a=b
   |.non|.str _=>aa aj
   |_=>ai
  |.int a=>match y with
   |.int b=>aa<|ag<|a=b
   |.bl b=>aa<|ag<|a=b2i b
   |.non|.str _=>aa aj
   |_=>ai
  |.str a=>match y with
   |.str b=>aa<|ag<|a=b
   |.non|.bl _|.int _=>aa aj
   |_=>ai
  |.tup xs=>match y with
   |.tup ys=>YG (eqV k) xs ys
   |_=>ai
  |.lst xs=>match y with
   |.lst ys=>if xs.length=ys.length then YG (eqV k) xs ys else aa aj
   |_=>ai
  |_=>ai
def X4(x:V):List V->Option Bool
 |[]=>aa aj
 |y::ys=>match eqV Zz y x,X4 x ys with
  |some a,aa b=>aa (a||b)
  |_,_=>ai
def Zjw(x:V)(xs:List V):Option Nat:=if X4 x xs=aa ao then xs.findIdx? λy=>eqV Zz y x == aa ao else ai
noncomputable def Wc:V->Ty->Option Bool
 |.non,_=>aa aj
 |.bl _,t=>aa<|ag<|t=.bool\/t=.int
 |.int _,t=>aa<|ag<|t=.int
 |.str _,t=>aa<|ag<|t=.str
 |.tup _,t=>aa<|ag<|t=.tuple
 |.lst _,t=>aa<|ag<|t=.list
 |.dct (.inl _),t=>aa<|ag<|t=.dict
 |_,_=>ai
def Yz(x:V):List Ty->Option Bool
 |[]=>aa aj
 |t::ts=>match Wc x t with
  |some ao=>aa ao
  |some aj=>Yz x ts
  |none=>ai
def Yj(xs:List V)(lo hi:Option Int):List V:=(xs.drop<|sIx xs.length 0 lo).take<|sIx xs.length xs.length hi-sIx xs.length 0 lo
def UX(op:Bop)(a b:Int)(s:DS):PR V:=match op with
 |.add=>.ok (.int<|a+b) s
 |.sub=>.ok (.int<|a-b) s
 |.mul=>if(fits a&&fits b)=ao then .ok (.int<|a*b) s else .no
 |.fdiv=>if 0<b/\b<Ev.big then .ok (.int<|a / b) s else .no
 |.mod=>if 0<b then .ok (.int<|a%b) s else .no
 |.pow=>if 0<=b/\b<=1000/\a.natAbs<2^64 then .ok (.int<|a^b.toNat) s else .no
def Wg(op:Bop)(x y:V)(s:DS):PR V:=match x with
 |.int a=>match y with
  |.int b=>UX op a b s
  |_=>.no
 |.tup a=>match y with
  |.tup b=>match op with
   |.add=>if a.length+b.length<=lim then .ok (.tup<|a++b) s else .no
   |_=>.no
  |.int b=>match op with
   |.mul=>if 0<=b/\b<1000/\a.length<=1000 then .ok (.tup (ax b.toNat a).flatten) s else .no
   |_=>.no
  |_=>.no
 |.lst a=>match y with
  |.lst b=>match op with
   |.add=>if a.length+b.length<=lim then .ok (.lst<|a++b) s else .no
   |_=>.no
  |.int b=>match op with
   |.mul=>if 0<=b/\b<1000/\a.length<=1000 then .ok (.lst (ax b.toNat a).flatten) s else .no
   |_=>.no
  |_=>.no
 |_=>.no
def ZiP(op:Bop)(x y:V)(s:DS):PR V:=match x,y with
 |.int _,.int _=>Wg op x y s
 |_,_=>.no
noncomputable def intsV:List V->Option #[28]
 |[]=>aa []
 |.int i::r=>(intsV r).map (i :: ·)
 |_::_=>ai
def UG(x y:V):Option Bool:=match y with
 |.tup ys=>X4 x ys
 |.lst ys=>X4 x ys
 |.dct (.inr ks)=>match x with
  |.tup k=>(intsV k).map λk=>ks.contains k
  |_=>ai
 |.dow ks=>match x with
  |.tup k=>(intsV k).map λk=>ks.contains k
  |_=>ai
 |_=>ai
noncomputable def UB:V->Bool
 |.non=>ao
 |_=>aj
noncomputable def Zb(r:List Int):V:=.tup<|r.map .int
def YE:List V->Option (List<|List Int)
 |[]=>aa []
 |.tup x::r=>match intsV x,YE r with
  |some a,aa b=>aa (a::b)
  |_,_=>ai
 |_::_=>ai
noncomputable def int2(x y:V):Option (Int×Int):=match x with
 |.int a=>match y with
  |.int b=>aa (a,b)
  |_=>ai
 |_=>ai
def isV(x y:V):Option Bool:=match y with
 |.non=>aa<|UB x
 |.bl b=>match x with
  |.bl a=>aa<|ag<|a=b
  |_=>ai
 |_=>ai
def Y3(op:Cop)(x y:V):Option V:=match op with
 |.eq=>(eqV Zz x y).map .bl
 |.ne=>(eqV Zz x y).map λb=>.bl !b
 |.lt=>(int2 x y).map λz=>.bl<|ag<|z.1<z.2
 |.gt=>(int2 x y).map λz=>.bl<|ag<|z.2<z.1
 |.le=>(int2 x y).map λz=>.bl<|ag<|z.1<=z.2
 |.ge=>(int2 x y).map λz=>.bl<|ag<|z.2<=z.1
 |.is=>(isV x y).map .bl
 |.isn=>(isV x y).map λb=>.bl !b
 |.inn=>(UG x y).map .bl
 |.nin=>(UG x y).map λb=>.bl !b
def ixV(x y:V):Option V:=match x,y with
 |.tup xs,.int i=>at' xs i
 |.lst xs,.int i=>at' xs i
 |.scr xs,.int i=>(at' xs i).map .int
 |_,_=>ai
def slV(x:V)(lo hi:Option Int):Option V:=match x with
 |.tup xs=>aa<|.tup<|Yj xs lo hi
 |.lst xs=>aa<|.lst<|Yj xs lo hi
 |_=>ai
noncomputable def Ziv:V->Option V
 |.tup xs=>aa<|.tup xs.reverse
 |_=>ai
noncomputable def Qj:V->Option Bool
 |.non=>aa aj
 |.bl b=>aa b
 |.int i=>aa<|ag<|i≠0
 |_=>ai
def Z2:List V->Option (List Bool)
 |[]=>aa []
 |x::xs=>match Qj x,Z2 xs with
  |some b,aa bs=>aa (b::bs)
  |_,_=>ai
def Zh(P:List #[28]):V:=.tup<|P.map Zb
noncomputable def YJ:V->Option (List V)
 |.tup xs=>aa xs
 |.lst xs=>aa xs
 |.scr ns=>aa<|ns.map .int
 |_=>ai
noncomputable def Yb(lo:Int)(n:Nat):List V:=(aC n).map λ(k:Nat)=>.int<|lo+(k:Int)
def Zgb:V->Option #[28]
 |.tup [.tup k,.bl b]=>if b=ao then intsV k else ai
 |_=>ai
def Ve:List V->Option (List<|List Int)
 |[]=>aa []
 |v::r=>(Zgb v).bind λa=>(Ve r).map (a :: ·)
noncomputable def Vq:List V->Option (List Nat)
 |[]=>aa []
 |.int i::r=>if 0<=i/\i<6 then(Vq r).map (i.toNat :: ·)else ai
 |_=>ai
mutual
noncomputable def pdV:V->Option PySem.PyData
 |.non=>aa .none
 |.bl b=>aa<|.bool b
 |.int i=>aa<|.int i
 |.str x=>aa<|.str x
 |.tup xs=>(Zge xs).map .tuple
 |.lst xs=>(Zge xs).map .list
 |.dct (.inl kvs)=>aa<|.dict<|kvs.map λp=>(.int p.1,.int p.2)
 |_=>ai
noncomputable def Zge:List V->Option (List PySem.PyData)
 |[]=>aa []
 |x::xs=>(pdV x).bind λa=>(Zge xs).map (a :: ·)
end
mutual
noncomputable def noL:V->Bool
 |.lst _=>aj
 |.tup xs=>Zi0 xs
 |_=>ao
noncomputable def Zi0:List V->Bool
 |[]=>ao
 |x::xs=>noL x&&Zi0 xs
end
def blt1(f:Bf)(x:V):Option V:=match f with
 |.len=>(YJ x).map λxs=>.int xs.length
 |.toInt=>match x with
  |.int a=>aa<|.int a
  |.bl b=>aa<|.int<|b2i b
  |_=>ai
 |.tuple=>(YJ x).map .tup
 |.list=>(YJ x).map .lst
 |.all=>match x with
  |.lst xs=>(Z2 xs).map λbs=>.bl<|bs.all id
  |_=>ai
 |.any=>(YJ x).bind λxs=>(Z2 xs).map λbs=>.bl<|bs.any id
 |.sum=>match x with
  |.lst xs=>(intsV xs).bind λis=>if Zcw is=ao then aa (.int is.sum)else ai
  |_=>ai
 |.sortedR=>match x with
  |.lst xs=>(YE xs).bind λrs=>if Yd rs=ao then aa (.lst<|(Zr rs).reverse.map Zb)else ai
  |_=>ai
 |.rangeL=>match x with
  |.int i=>if few i then aa (.lst<|Yb 0 i.toNat)else ai
  |_=>ai
 |.listD=>match x with
  |.dow ks=>aa<|.lst<|ks.map Zb
  |_=>ai
 |.sortedD=>match x with
  |.dow ks=>if Yd ks=ao then aa (.lst<|(Zr ks).map Zb)else ai
  |_=>ai
 |.sortedS=>match x with
  |.lst xs=>(Vq xs).map λks=>.lst (((aC 6).filter ks.contains).map λk:Nat=>.int k)
  |_=>ai
 |.dictP=>match x with
  |.lst xs=>(Ve xs).bind λks=>if Jc ks=ao then aa (.dct<|.inr ks)else ai
  |_=>ai
 |_=>ai
noncomputable def jh:V->Option Int
 |.int a=>aa a
 |_=>ai
noncomputable def Zjl:V->Option (List V)
 |.lst a=>aa a
 |_=>ai
def blt2(f:Bf)(x y:V):Option V:=match f with
 |.index=>(Zjl x).bind λxs=>(Zjw y xs).map λj:Nat=>.int j
 |.max2=>(jh x).bind λa=>(jh y).bind λb=>aa<|.int (if b>a then b else a)
 |.min2=>(jh x).bind λa=>(jh y).bind λb=>aa<|.int (if b<a then b else a)
 |_=>ai
def Jk :blt1 .len x=(YJ x).map λxs=>.int xs.length:=rfl
def VY :Wg op (.int a) (.int b) s=UX op a b s:=rfl
def Zc3 :eqV (k+1) .non .non=aa ao:=rfl
def ZbH{a:Int}:eqV (k+1) (.int a) .non=aa aj:=rfl
def uh(h:jh x=aa a):x=.int a:=by cases x<;>first|exact Ev.nos h|(cases h;rfl)
def X3(f:Bf)(as:List V):Option V:=match as with
 |[x]=>blt1 f x
 |[x,y]=>blt2 f x y
 |_=>ai
noncomputable def XR:List Nat->List V->Env->Option Env
 |[],[],U=>aa U
 |i::t,x::xs,U=>XR t xs<|U.set i<|aa x
 |_,_,_=>ai
noncomputable def ZbK:V->Option (List V)
 |.tup xs=>aa xs
 |.lst xs=>aa xs
 |_=>ai
def Zq(t:List Nat)(x:V)(U:Env):Option Env:=match t with
 |[i]=>aa<|U.set i<|aa x
 |t=>match ZbK x with
  |some xs=>XR t xs U
  |none=>ai
abbrev ZN:=Nat->List V->DS->PR V
noncomputable def Z9(cap:List Nat)(nl:Nat)(U:Env):Env:=ax nl ai++cap.map λi=>(U[i]?).join
def mapP(f:V->DS->PR (List V)):List V->DS->PR (List V)
 |[],s=>.ok [] s
 |x::xs,s=>match f x s with
  |.ok ys s=>match mapP f xs s with
   |.ok zs s=>.ok (ys++zs) s
   |_=>.no
  |_=>.no
noncomputable def Zbx(w:Bool)(c:Nat):V:=.int c
def ZiF(w:Bool):PR V->PR V
 |.ok _ s=>.ok .non s
 |.ex c s=>if 1<=c/\c<=10 then .ok (Zbx w<|c-1) s else .no
 |.no=>.no
noncomputable def own(nl:Nat)(t:List Nat):Bool:=t.all λi=>ag<|i<nl
mutual
noncomputable def pv(C:ZN)(e:E)(U:Env)(s:DS):PR V:=match e with
 |.c d=>po (ofD d) s
 |.v i=>po (U[i]?).join s
 |.tup es=>(pvs C es U s).bind λxs s=>if xs.length<=lim then .ok (.tup xs) s else .no
 |.lst es=>(pvs C es U s).bind λxs s=>if xs.length<=lim then .ok (.lst xs) s else .no
 |.dnew=>.ok (.dct<|.inl []) s
 |.bin op a b=>(pv C a U s).bind λx s=>(pv C b U s).bind λy s=>Wg op x y s
 |.neg a=>(pv C a U s).bind λx s=>match x with
  |.int i=>.ok (.int<|-i) s
  |_=>.no
 |.not a=>(pv C a U s).bind λx s=>(po (Zy x) s).bind λb s=>.ok (.bl !b) s
 |.and a b=>(pv C a U s).bind λx s=>match x with
  |.bl c=>if c then pv C b U s else .ok (.bl aj) s
  |_=>.no
 |.or a b=>(pv C a U s).bind λx s=>match x with
  |.bl c=>if c then .ok (.bl ao) s else pv C b U s
  |_=>.no
 |.ite t a b=>(pv C t U s).bind λx s=>(po (Zy x) s).bind λc s=>if c then pv C a U s else pv C b U s
 |.cmp op a b=>(pv C a U s).bind λx s=>(pv C b U s).bind λy s=>po (Y3 op x y) s
 |.chain o p a b d=>(pv C a U s).bind λx s=>(pv C b U s).bind λy s=>(po (Y3 o x y) s).bind λz s=>match z with
  |.bl c=>if c then(pv C d U s).bind λw s=>po (Y3 p y w) s else .ok (.bl aj) s
  |_=>.no
 |.ix a i=>(pv C a U s).bind λx s=>(pv C i U s).bind λy s=>po (ixV x y) s
 |.sl a lo hi=>(pv C a U s).bind λx s=>(pvo C lo U s).bind λl s=>(pvo C hi U s).bind λh s=>po (slV x l h) s
 |.rev a=>(pv C a U s).bind λx s=>po (Ziv x) s
 |.call f as=>(pvs C as U s).bind λxs s=>C f xs s
 |.blt f as=>(pvs C as U s).bind λxs s=>po (X3 f xs) s
 |.mt _ _ _=>.no
 |.isi a ts=>(pv C a U s).bind λx s=>(po (Yz x ts) s).bind λb s=>.ok (.bl b) s
 |.comp1 cap nl t it ifs elt=>if own nl t=ao then(pvw C it U s).bind λw s=>
   ((mapP (λx s=>(po (Zq t x<|Z9 cap nl U) s).bind λZ s=>(pvt C ifs Z s).bind λb s=>if b then(pv C elt Z s).bind λy s=>.ok [y] s else .ok [] s) w s).bind
    λys s=>if ys.length<=lim then .ok (.lst ys) s else .no).nox
  else .no
 |.refu w e=>ZiF w<|pv C e U s
 |.dix a k=>(pv C a U s).bind λx s=>match x with
  |.drw=>.ok (if k then .bl s.2 else .int s.1) s
  |_=>.no
noncomputable def pvs(C:ZN)(es:List E)(U:Env)(s:DS):PR (List V):=match es with
 |[]=>.ok [] s
 |e::es=>(pv C e U s).bind λx s=>(pvs C es U s).bind λxs s=>.ok (x::xs) s
noncomputable def pvo(C:ZN)(o:Option E)(U:Env)(s:DS):PR (Option Int):=match o with
 |none=>.ok ai s
 |some e=>(pv C e U s).bind λx s=>match x with
  |.int i=>.ok (aa i) s
  |_=>.no
noncomputable def pvt(C:ZN)(es:List E)(U:Env)(s:DS):PR Bool:=match es with
 |[]=>.ok ao s
 |e::es=>(pv C e U s).bind λx s=>(po (Zy x) s).bind λb s=>if b then pvt C es U s else .ok aj s
noncomputable def pvw(C:ZN)(w:W)(U:Env)(s:DS):PR (List V):=match w with
 |.rng1 a=>(pv C a U s).bind λx s=>match x with
  |.int i=>if Va i then .ok (Yb 0 i.toNat) s else .no
  |_=>.no
 |.rng2 a b=>(pv C a U s).bind λx s=>(pv C b U s).bind λy s=>match x,y with
  |.int i,.int j=>if(Va i&&Va j)=ao then .ok (Yb i (j-i).toNat) s else .no
  |_,_=>.no
 |.zip a b=>(pv C a U s).bind λx s=>(pv C b U s).bind λy s=>match YJ x,YJ y with
  |some v,aa w=>.ok ((v.zip w).map λp=>.tup [p.1,p.2]) s
  |_,_=>.no
 |.enum a=>(pv C a U s).bind λx s=>match YJ x with
  |some w=>.ok (((Yb 0 w.length).zip w).map λp=>.tup [p.1,p.2]) s
  |none=>.no
 |.of e=>(pv C e U s).bind λx s=>po (YJ x) s
end
section
variable(C:ZN)(U:Env)(s:DS)
def pE1(d):=@id (pv C (.c d) U s=po _ _) rfl
def pE2(i):=@id (pv C (.v i) U s=po _ _) rfl
def pE3(es):=@id (pv C (.tup es) U s=.bind _ _) rfl
def pE4(es):=@id (pv C (.lst es) U s=.bind _ _) rfl
def pE5:=@id (pv C .dnew U s=.ok _ _) rfl
def pE7(op a b):=@id (pv C (.bin op a b) U s=.bind _ _) rfl
def pE8(a):=@id (pv C (.neg a) U s=.bind _ _) rfl
def pE9(a):=@id (pv C (.not a) U s=.bind _ _) rfl
def Zcz(a b):=@id (pv C (.and a b) U s=.bind _ _) rfl
def Zey(a b):=@id (pv C (.or a b) U s=.bind _ _) rfl
def Yi(op a b):=@id (pv C (.cmp op a b) U s=.bind _ _) rfl
def ZjI(o p a b d):=@id (pv C (.chain o p a b d) U s=.bind _ _) rfl
def XZ(a i):=@id (pv C (.ix a i) U s=.bind _ _) rfl
def ZhQ(a lo hi):=@id (pv C (.sl a lo hi) U s=.bind _ _) rfl
def ZiZ(a):=@id (pv C (.rev a) U s=.bind _ _) rfl
def Zc7(f as):=@id (pv C (.call f as) U s=.bind _ _) rfl
def Yq(f as):=@id (pv C (.blt f as) U s=.bind _ _) rfl
def Zix(a ts):=@id (pv C (.isi a ts) U s=.bind _ _) rfl
def j8(cap nl t it ifs elt):=@id (pv C (.comp1 cap nl t it ifs elt) U s=ite (own nl t=ao) _ _) rfl
def ZhL(w e):=@id (pv C (.refu w e) U s=ZiF _ _) rfl
def ZdS(a k):=@id (pv C (.dix a k) U s=.bind _ _) rfl
def wE1(a):=@id (pvw C (.rng1 a) U s=.bind _ _) rfl
def wE2(a b):=@id (pvw C (.rng2 a b) U s=.bind _ _) rfl
def wE5(a b):=@id (pvw C (.zip a b) U s=.bind _ _) rfl
def wE6(a):=@id (pvw C (.enum a) U s=.bind _ _) rfl
def wE7(e):=@id (pvw C (.of e) U s=.bind _ _) rfl
end
inductive FlV where|nx (U:Env) (os:List Nat)|ret (v:V)
noncomputable def hide(os:List Nat)(U:Env):Env:=U.mapIdx λi o=>if os.contains i then ai else o
noncomputable def fresh:E->Bool
 |.lst _=>ao
 |.comp1 .. => ao
 |.bin .mul (.lst _) _=>ao
 |.blt .list _=>ao
 |.blt .rangeL _=>ao
 |.blt .listD _=>ao
 |.blt .sortedD _=>ao
 |.blt .sortedS _=>ao
 |_=>aj
def v7:V->Bool
 |.lst xs=>Wd xs
 |_=>aj
def pvA(C:ZN)(e:E)(U:Env)(os:List Nat)(s:DS):PR V:=match os with
 |[]=>pv C e U s
 |os=>match pv C e (hide os U) s with
  |.ok v s=>.ok v s
  |.ex c s=>.ex c s
  |.no=>(pv C e U s).bind λv s=>if(v.flat||fresh e&&v7 v)=ao then .ok v s else .no
def YS(C:ZN)(e:E)(U:Env)(s:DS):PR Bool:=(pv C e U s).bind λx s=>po (Zy x) s
def Xm(body:V->Env->List Nat->DS->PR FlV):List V->Env->List Nat->DS->PR FlV
 |[],U,os,s=>.ok (.nx U os) s
 |x::xs,U,os,s=>(body x U os s).bind λf s=>match f with
  |.nx U os=>Xm body xs U os s
  |.ret v=>.ok (.ret v) s
def YZ(test:Env->DS->PR Bool)(body:Env->List Nat->DS->PR FlV):Nat->Env->List Nat->DS->PR FlV
 |0,_,_,_=>.no
 |n+1,U,os,s=>(test U s).bind λb s=>if b then(body U os s).bind λf s=>match f with
  |.nx U os=>YZ test body n U os s
  |.ret v=>.ok (.ret v) s
  else .ok (.nx U os) s
noncomputable def okS(x:Int)(b:Bool):Bool:=ag (0<=x)&&(b||decide (x<2147483647))
def Jt:V->Option DS
 |.lst [.int a,.bl b]=>if okS a b=ao then aa (a,b)else ai
 |_=>ai
def JT(o:Option V):Option V:=o.filter V.flat
def V3(i:Nat)(U:Env):Env:=(U.take i).map JT++ax (U.length-i) ai
noncomputable def ZiS:Option (Option V)->Option (List<|List Int)
 |some (aa<|.dow ks)=>aa ks
 |_=>ai
noncomputable def YW(ks:List #[28])(k:List Int):List #[28]:=if ks.contains k then ks else ks++[k]
def Zg3:V->Option #[28]
 |.tup k=>intsV k
 |_=>ai
noncomputable def isT:V->Bool
 |.bl ao=>ao
 |_=>aj
noncomputable def ZcP:Option (Option V)->Option (List V)
 |some (aa<|.lst xs)=>aa xs
 |_=>ai
mutual
noncomputable def rv(C:ZN)(ms:List Nat)(m:Sm)(U:Env)(os:List Nat)(s:DS):PR FlV:=match m with
 |.asg [i] e=>(pvA C e U os s).bind λv s=>if(ms.contains i&&fresh e)=ao then match v with
   |.lst xs=>if Wd xs=ao/\i<U.length then .ok (.nx (U.set i<|aa v) (i::os.filter (· != i))) s else .no
   |_=>.no
  else .ok (.nx (U.set i<|aa v) (os.filter (· != i))) s
 |.asg t e=>(pvA C e U os s).bind λv s=>if(t.any os.contains)=ao then .no else(po (Zq t v U) s).bind λU s=>.ok (.nx U os) s
 |.aug i op e=>if os.contains i then .no else(po (U[i]?).join s).bind λx s=>(pv C e U s).bind λy s=>(ZiP op x y s).bind λz s=>.ok (.nx (U.set i<|aa z) os) s
 |.dput (.v i) k e=>if os.contains i then(pv C e U s).bind λv s=>if isT v=ao then(po (ZiS U[i]?) s).bind λks s=>(pv C k U s).bind λy s=>(po (Zg3 y) s).bind λr s=>if ks.length<lim then .ok (.nx (U.set i<|aa<|.dow<|YW ks r) os) s else .no
  else .no else .no
 |.dput _ _ _=>.no
 |.ret e=>(pv C e U s).bind λv s=>.ok (.ret v) s
 |.ex (.mt .append (.v i) [e])=>if os.contains i then(po (ZcP U[i]?) s).bind λxs s=>(pv C e U s).bind λv s=>if v.flat=ao/\xs.length<lim then .ok (.nx (U.set i<|aa<|.lst<|xs++[v]) os) s else .no else .no
 |.ex e=>(pv C e U s).bind λ_ s=>.ok (.nx U os) s
 |.ite t a b=>(YS C t U s).bind λc s=>if c then rvs C ms a U os s else rvs C ms b U os s
 |.forr t it b=>(pvw C it (hide os U) s).bind λw s=>Xm (λx U os s=>if(t.any os.contains)=ao then .no else(po (Zq t x U) s).bind λU s=>rvs C ms b U os s) w U os s
 |.whl t b=>YZ (YS C t) (rvs C ms b) xX U os s
 |.raise c as=>(pvs C as U s).bind λ_ s=>.ex c s
 |.dset i e=>(pv C e U s).bind λv s=>match v with
  |.int x=>if okS x s.2=ao then match(U[i]?).join with
   |some .drw=>.ok (.nx U os) (x,s.2)
   |_=>.no
   else .no
  |_=>.no
 |.cel i f as b=>if os.isEmpty=ao then(pvs C as U s).bind λxs s=>(C f xs s).bind λv s=>(po (Jt v) s).bind λd s=>match rvs C ms b ((V3 i U).set i<|aa .drw) [] d with
  |.ok (.nx U _) _=>.ok (.nx (U.map JT) []) s
  |.ok (.ret v) _=>if v.flat=ao then .ok (.ret v) s else .no
  |_=>.no
  else .no
 |.dnw i k=>(pv C k U s).bind λy s=>(po (Zg3 y) s).bind λr s=>if i<U.length then .ok (.nx (U.set i<|aa<|.dow [r]) (i::os.filter (· != i))) s else .no
 |.forF t e b=>(pvA C e U os s).bind λv s=>match v with
  |.lst w=>Xm (λx U os s=>if(t.any os.contains)=ao then .no else(po (Zq t x U) s).bind λU s=>rvs C ms b U os s) w U os s
  |_=>.no
noncomputable def rvs(C:ZN)(ms:List Nat)(m:List Sm)(U:Env)(os:List Nat)(s:DS):PR FlV:=match m with
 |[]=>.ok (.nx U os) s
 |m::ss=>(rv C ms m U os s).bind λf s=>match f with
  |.nx U os=>rvs C ms ss U os s
  |f=>.ok f s
end
section
variable(C:ZN)(U:Env)(s:DS)(ms os:List Nat)
def rE1(i e):=@id (rv C ms (.asg [i] e) U os s=.bind _ _) rfl
def rE4(i op e):=@id (rv C ms (.aug i op e) U os s=ite (os.contains i) _ _) rfl
def rE7(i k e):=@id (rv C ms (.dput (.v i) k e) U os s=ite (os.contains i) _ _) rfl
def rE9(e):=@id (rv C ms (.ret e) U os s=.bind _ _) rfl
def Zdx(i e):=@id (rv C ms (.ex<|.mt .append (.v i) [e]) U os s=ite (os.contains i) _ _) rfl
def ZhG(f as):=@id (rv C ms (.ex<|.call f as) U os s=.bind _ _) rfl
def zc(t a b):=@id (rv C ms (.ite t a b) U os s=.bind _ _) rfl
def JL(t it b):=@id (rv C ms (.forr t it b) U os s=.bind _ _) rfl
def Zhb(t b):=@id (rv C ms (.whl t b) U os s=YZ _ _ _ _ _ _) rfl
def ZjC(c as):=@id (rv C ms (.raise c as) U os s=.bind _ _) rfl
def ZgN(i e):=@id (rv C ms (.dset i e) U os s=.bind _ _) rfl
def Zis(i f as b):=@id (rv C ms (.cel i f as b) U os s=ite (os.isEmpty=ao) _ _) rfl
def Zig(i k):=@id (rv C ms (.dnw i k) U os s=.bind _ _) rfl
def ZiV(t e b):=@id (rv C ms (.forF t e b) U os s=.bind _ _) rfl
def rE2(t e)(h:∀i,t=[i]->False):rv C ms (.asg t e) U os s=(pvA C e U os s).bind λv s=>if(t.any os.contains)=ao then .no else(po (Zq t v U) s).bind λU s=>.ok (.nx U os) s:=by
 match t,h with
 |[],_=>rfl
 |[i],h=>exact(h i rfl).elim
 |_::_::_,_=>rfl
end
mutual
noncomputable def y8:Sm->List Nat
 |.ex (.mt .append (.v i) _)=>[i]
 |.ite _ a b=>muts a++muts b
 |.forr _ _ b=>muts b
 |.whl _ b=>muts b
 |.cel _ _ _ b=>muts b
 |.dput (.v i) _ _=>[i]
 |.forF _ _ b=>muts b
 |_=>[]
noncomputable def muts:List Sm->List Nat
 |[]=>[]
 |m::ss=>y8 m++muts ss
end
def yh:muts []=[]:=rfl
def JR{m:Sm}:muts (m::ss)=y8 m++muts ss:=rfl
def Zbv{e:E}:y8 (.asg t e)=[]:=rfl
def Zbl :y8 (.ret e)=[]:=rfl
def Zbu{e:E}:y8 (.ite e a b)=muts a++muts b:=rfl
noncomputable def ZQ(n:Nat)(xs:List V):Env:=xs.map aa++ax (n-xs.length) ai
noncomputable def Wx(s:DS)(m:Int):Int×DS:=
 if s.2 then(s.1%m,(s.1 / m,ao))else
  let x:=(s.1*48271+29)%2147483647
  let y:=(x*x+39373*x+7)%2147483629
  let z:=(y*y+16807*y)%2147483587
  (z / 8%m,(x,aj))
def ZfV(vs:List V)(s:DS):PR V:=match vs with
 |[.drw,.int m]=>if 0<m/\m<1073741824 then .ok (.int (Wx s m).1) (Wx s m).2 else .no
 |_=>.no
def Zl(F:List Fn)(tk:Nat):Nat->ZN
 |0,_,_,_=>.no
 |d+1,f,xs,s=>if f=tk then ZfV xs s else match F[f]? with
  |some fn=>if xs.length=fn.ps then(rvs (Zl F tk d) (muts fn.body) fn.body (ZQ fn.ns xs) [] s).bind λf s=>match f with
    |.ret v=>.ok v s
    |.nx _ _=>.ok .non s
   else .no
  |none=>.no
end Pv
namespace Sd
open PySem PySem.Spec PyProof.Rows L2
section
open Ev (E Sm Fn Bop Cop Ty Bf Mf)
noncomputable abbrev D:=Pv.V
abbrev ZO:=Pv.DS
noncomputable abbrev Lc:=Pv.Env
noncomputable abbrev R:=Pv.PR
noncomputable abbrev Calls:=Pv.ZN
structure Mx where
 K:ap
 n0:Option aO
 X:aO->Prop
 xz:∀a,n0=aa a->X a
def Scr(K:ap)(H:Hp)(a:aO)(ns:List Int):Prop:=
 (∃o,H a=aa (.frz o<|.lst<|ns.map V.int))\/
  ∃(o:gf)(its:Array aB)(n:Nat),K.lookup a=aa o/\o.cls=.type "list"/\o.dict=ai/\o.data=.seq its n/\its.size<=a9/\Vals (ns.map V.int) its.toList
def Scr.sq{K:ap}(h:Scr K H a ns):SqL K H a (ns.map V.int):=by
 rcases h with⟨o,h⟩|h
 .exact .inl<|.inr #[o,h]
 .exact .inr h
def Dct(H:Hp)(a:aO):Sum (List<|Int×Int) (List<|List Int)->Prop
 |.inl kvs=>H a=aa (.dK<|kvs.map λp=>(cY p.1,V.int p.2))
 |.inr ks=>∃o vs,H a=aa (.frz o<|.dT vs)/\vs.map (·.1)=ks.map (·.map cY)
mutual
def Rep(U:Mx)(H:Hp):D->V->Prop
 |.non,v=>v=.non
 |.bl b,v=>v=.bl b
 |.int i,v=>v=.int i
 |.str x,v=>v=.str x
 |.tup ds,v=>∃a xs,v=.ref a/\H a=aa (.tup xs)/\Rq U H ds xs
 |.lst ds,v=>∃a xs,v=.ref a/\H a=aa (.lst xs)/\¬U.X a/\Rq U H ds xs
 |.drw,v=>∃a,v=.ref a/\U.n0=aa a
 |.dct o,v=>∃a,v=.ref a/\Dct H a o
 |.scr ns,v=>∃a,v=.ref a/\Scr U.K H a ns
 |.dow ks,v=>∃a vs,v=.ref a/\H a=aa (.dT vs)/\¬U.X a/\vs.map (·.1)=ks.map (·.map cY)
def Rq(U:Mx)(H:Hp):List D->List V->Prop
 |[],xs=>xs=[]
 |d::ds,xs=>∃v vs,xs=v::vs/\Rep U H d v/\Rq U H ds vs
end
structure Fut(U:Mx)(H:Hp)(ρ':Mx)(H':Hp):Prop where
 eq:ρ'=U
 keep:∀a o,H a=aa o->H' a=aa o\/(U.n0=aa a/\∃xs,o=.lst xs)\/((∃ps,o=.tbl ps)/\∃ps,H' a=aa (.tbl ps))
def Fut.refl(U H):Fut U H U H:=#[rfl,λ_ _ h=>.inl h]
def Fut.trans(a:Fut U H ρ1 H1)(b:Fut ρ1 H1 ρ2 H2):Fut U H ρ2 H2:=by
 obtain⟨rfl,f⟩:=a;obtain⟨rfl,g⟩:=b;refine#[rfl,λa o h=>(f a o h).elim (λh=>g a o h) λz=>z.elim (λz=>.inr<|.inl z) λ#[e,ps,h]=>?_]
 rcases g a _ h with q|⟨_,xs,q⟩|⟨_,q⟩
 .exact .inr<|.inr #[e,ps,q]
 .cases q
 .exact .inr<|.inr #[e,q]
def Fut.there(f:Fut U H ρ' H')(n:U.n0≠.some a)(h:H a≠ai):H' a≠ai:=by
 obtain⟨o,e⟩:=kJ.mp h;rcases f.keep a o e with q|q|⟨_,_,q⟩
 .rw[q];intro z;cases z
 .exact T7 q.1 n
 .rw[q];intro z;cases z
def Fut.new(f:Fut U H ρ' H')(h:H' a=ai)(xd:∀a,U.X a->H' a≠ai):H a=ai:=by
 cases q:H a with
 |none=>rfl
 |some o=>
  rcases f.keep a o q with e|e|⟨_,_,e⟩
  .rw[h]at e;cases e
  .exact T7 h<|xd a<|U.xz a e.1
  .rw[h]at e;cases e
structure Lat(U:Mx)(H:Hp)(ρ':Mx)(H':Hp):Prop where
 K:ρ'.K=U.K
 n0:ρ'.n0=U.n0
 keep':∀a o,H a=aa o->(∀xs,o=.lst xs->¬U.X a)->(∀ps,o≠.tbl ps)->(∀vs,o=.dT vs->¬U.X a)->H' a=aa o
 X:∀a,H a≠ai->ρ'.X a->U.X a
def Lat.keep(f:Lat U H ρ' H')(a o)(h:H a=aa o)(x:∀xs,o=.lst xs->¬U.X a)(n:∀ps,o≠.tbl ps:=by intro _ z;cases z)(m:∀vs,o=.dT vs->¬U.X a:=by intro _ z;cases z):H' a=aa o:=f.keep' a o h x n m
mutual
theorem Rep.lat(f:Lat U H ρ' H'):∀{d:D}{v:V},Rep U H d v->Rep ρ' H' d v
 |.non,_,h|.bl _,_,h|.int _,_,h|.str _,_,h=>by unfold Rep at h ⊢;exact h
 |.tup ds,v,h=>by
  unfold Rep at h ⊢;obtain⟨a,xs,e,t,r⟩:=h;exact#[a,xs,e,f.keep a _ t (λ_ z=>by cases z),r.lat f]
 |.lst ds,v,h=>by
  unfold Rep at h ⊢;obtain⟨a,xs,e,t,x,r⟩:=h;exact#[a,xs,e,f.keep a _ t λ_ _=>x,λz=>x (f.X a (by rw[t];intro z;cases z) z),r.lat f]
 |.drw,v,h=>by unfold Rep at h ⊢;rw[f.n0];exact h
 |.dct o,v,h=>by
  obtain⟨a,e,t⟩:=h;refine#[a,e,?_];cases o with|inl kvs=>exact f.keep a _ t λ_ z=>by cases z|inr ks=>obtain⟨o,vs,t,q⟩:=t;exact#[o,vs,f.keep a _ t (λ_ z=>by cases z),q]
 |.scr ns,v,h=>by
  unfold Rep at h ⊢;obtain⟨a,e,t⟩:=h;rw[f.K];refine#[a,e,?_];rcases t with⟨o,t⟩|t
  .exact .inl #[o,f.keep a _ t λ_ z=>by cases z]
  .exact .inr t
 |.dow ks,v,h=>by
  obtain⟨a,vs,e,t,x,q⟩:=h;exact#[a,vs,e,f.keep a _ t (λ_ z=>by cases z) (by intro _ z;cases z) λ_ _=>x,λz=>x (f.X a (by rw[t];intro z;cases z) z),q]
theorem Rq.lat(f:Lat U H ρ' H'):∀{ds:List D}{xs:List V},Rq U H ds xs->Rq ρ' H' ds xs
 |[],_,h=>by exact h
 |d::ds,xs,h=>by
  obtain⟨v,vs,e,r,rs⟩:=h;exact#[v,vs,e,r.lat f,rs.lat f]
end
noncomputable def Y1:bR:="law.<locals>.<lambda>"
def Tb(H:Hp):Prop:=∀(P:aO)(ps:Array aB),H P=aa (.tbl ps)->o4 ps.toList/\∀(pos:iV)(cv:aB),kw pos ps.toList=aa cv->
 ∃(c:aO)(oc:gf)(vs:Array aB)(t:Tok),cv=.ref c/\H c=aa (.frz oc<|.own c)/\oc.data=.fields vs/\vs[1]?=aa (.str Y1 t)
theorem Tb.upd(h:Tb H)(hp:∀ob u,H p≠aa (.frz ob u))(ho:∀ps,o≠.tbl ps):Tb (upd H p o):=λP ps e=>by
 by_cases z:P=p
 .subst z;rw[Zm]at e;cases e;exact T7 rfl<|ho ps
 .rw[Zk z]at e
  obtain⟨a,b⟩:=h P ps e;refine#[a,λpos cv q=>?_]
  obtain⟨c,oc,vs,t,e1,e2,e3⟩:=b pos cv q;exact#[c,oc,vs,t,e1,by rw[Zk λz=>hp oc (.own c) (by rw[<-z];exact e2)];exact e2,e3]
structure St3(K:ap)(U:Mx)(S:ZO)(H:Hp):Prop where
 hk:U.K=K
 xd:∀a,U.X a->H a≠ai
 dw:∀a,U.n0=aa a->H a=aa (.lst [.int S.1,.bl S.2])/\Pv.okS S.1 S.2=ao
 tb:Tb H
def Fut.lat(f:Fut U H ρ' H'):Lat U H ρ' H':=by
 obtain⟨rfl,f⟩:=f;exact#[rfl,rfl,λa o h x n _=>(f a o h).elim id λz=>z.elim (λz=>T7 (ρ'.xz a z.1) (let #[xs,e]:=z.2;x xs e))<|by rintro ⟨⟨ps,e⟩,_⟩;exact T7 e<|n ps,λ_ _ h=>h]
def Rep.mono(f:Fut U H ρ' H')(h:Rep U H d v):Rep ρ' H' d v:=h.lat f.lat
def Rq.mono(f:Fut U H ρ' H')(h:Rq U H d v):Rq ρ' H' d v:=h.lat f.lat
section
variable{U:Mx}{H:Hp}{v:V}
def Rq.nil:Rq U H [] []:=by rfl
def Rq.cons{d:D}{v:V}{ds:List D}{vs:List V}(r:Rep U H d v)(rs:Rq U H ds vs):Rq U H (d::ds) (v::vs):=by
 exact#[v,vs,rfl,r,rs]
theorem Rq.length:∀{ds:List D}{xs:List V},Rq U H ds xs->xs.length=ds.length
 |[],_,h=>by rw[h];rfl
 |d::ds,xs,h=>by
  obtain⟨v,vs,rfl,_,rs⟩:=h;rw[aQ,aQ,Rq.length rs]
theorem Rq.append:∀{ds es:List D}{xs ys:List V},Rq U H ds xs->Rq U H es ys->Rq U H (ds++es) (xs++ys)
 |[],_,_,_,h,r=>by rw[h];exact r
 |d::ds,_,_,_,h,r=>by
  obtain⟨v,vs,rfl,a,rs⟩:=h;exact Rq.cons a<|Rq.append rs r
theorem Rq.take:∀{ds:List D}{xs:List V}k,Rq U H ds xs->Rq U H (ds.take k) (xs.take k)
 |_,_,0,_=>Rq.nil
 |[],_,k+1,h=>by rw[h];exact Rq.nil
 |d::ds,_,k+1,h=>by
  obtain⟨v,vs,rfl,a,rs⟩:=h;exact Rq.cons a<|Rq.take k rs
theorem Rq.drop:∀{ds:List D}{xs:List V}k,Rq U H ds xs->Rq U H (ds.drop k) (xs.drop k)
 |_,_,0,h=>h
 |[],_,k+1,h=>by rw[h];exact Rq.nil
 |d::ds,_,k+1,h=>by
  obtain⟨v,vs,rfl,a,rs⟩:=h;exact Rq.drop k rs
theorem Rq.get:∀{ds:List D}{xs:List V}{i:Nat}{d:D},Rq U H ds xs->ds[i]?=aa d->∃v,xs[i]?=aa v/\Rep U H d v
 |[],_,_,_,_,e=>by simp at e
 |d::ds,_,0,_,h,e=>by
  obtain⟨v,vs,rfl,a,rs⟩:=h;simp at e;subst e;exact#[v,rfl,a]
 |d::ds,_,i+1,_,h,e=>by
  obtain⟨v,vs,rfl,a,rs⟩:=h;obtain⟨u,q,r⟩:=Rq.get rs (by simpa using e)
  exact#[u,by simpa using q,r]
theorem Rq.reverse:∀{ds:List D}{xs:List V},Rq U H ds xs->Rq U H ds.reverse xs.reverse
 |[],_,h=>by rw[h];exact Rq.nil
 |d::ds,_,h=>by
  obtain⟨v,vs,rfl,a,rs⟩:=h;rw[eY,eY];exact Rq.append (Rq.reverse rs)<|Rq.cons a Rq.nil
theorem Rq.rep(h:Rq U H ds xs):∀k,Rq U H (ax k ds).flatten (ax k xs).flatten
 |0=>Rq.nil
 |k+1=>by
  rw[cI];exact Rq.append h<|Rq.rep h k
theorem Rq.ints:∀ns:List Int,Rq U H (ns.map Pv.V.int) (ns.map V.int)
 |[]=>Rq.nil
 |n::ns=>Rq.cons #[7]<|Rq.ints ns
def Rep.int'(h:Rep U H (.int i) v):v=.int i:=by exact h
def Rep.bl'(h:Rep U H (.bl b) v):v=.bl b:=by exact h
def Rep.non'(h:Rep U H .non v):v=.non:=by exact h
def Rep.str'(h:Rep U H (.str x) v):v=.str x:=by exact h
def Rep.tup'(h:Rep U H (.tup ds) v):∃a xs,v=.ref a/\H a=aa (.tup xs)/\Rq U H ds xs:=by exact h
def Rep.lst'(h:Rep U H (.lst ds) v):∃a xs,v=.ref a/\H a=aa (.lst xs)/\¬U.X a/\Rq U H ds xs:=by exact h
def Rep.drw'(h:Rep U H .drw v):∃a,v=.ref a/\U.n0=aa a:=by exact h
def Rep.dct'(h:Rep U H (.dct o) v):∃a,v=.ref a/\Dct H a o:=by unfold Rep at h;exact h
def Rep.scr'(h:Rep U H (.scr ns) v):∃a,v=.ref a/\Scr U.K H a ns:=by exact h
def Rep.dow'(h:Rep U H (.dow ks) v):∃a vs,v=.ref a/\H a=aa (.dT vs)/\¬U.X a/\vs.map (·.1)=ks.map (·.map cY):=by exact h
def ZT(i):Rep U H (.int i) (.int i):=by rfl
def Yn(b):Rep U H (.bl b) (.bl b):=by rfl
def Ql:Rep U H .non .non:=by rfl
def ZeR(x):Rep U H (.str x) (.str x):=by rfl
def Xn(h:H a=aa (.tup xs))(r:Rq U H ds xs):Rep U H (.tup ds) (.ref a):=by exact#[a,xs,rfl,h,r]
def W3(h:H a=aa (.lst xs))(x:¬U.X a)(r:Rq U H ds xs):Rep U H (.lst ds) (.ref a):=by exact#[a,xs,rfl,h,x,r]
def Rep.seq(h:Rep U H x v)(e:Pv.YJ x=aa ds):∃p xs,v=.ref p/\(SqL U.K H p xs\/SqT U.K H p xs)/\Rq U H ds xs:=by
 cases x with|tup es=>cases e;obtain⟨p,xs,rfl,h,r⟩:=h.tup';exact#[p,xs,rfl,.inr<|SqT.of h,r]|lst es=>cases e;obtain⟨p,xs,rfl,h,_,r⟩:=h.lst';exact#[p,xs,rfl,.inl<|SqL.of h,r]|scr ns=>cases e;obtain⟨p,e,q⟩:=h.scr';exact#[p,_,e,.inl q.sq,Rq.ints ns]|_=>cases e
end
structure LocR(U:Mx)(H:Hp)(l:Lc)(Z:L2.St):Prop where
 len:l.length=Z.length
 val:∀(i:Nat)(d:D),l[i]?=aa (aa d)->∃v,Z[i]?=aa (aa v)/\Rep U H d v
theorem LocR.mono(f:Fut U H ρ' H')(r:LocR U H l Z):LocR ρ' H' l Z:=
 #[r.len,λi d e=>let #[v,q,h]:=r.val i d e;#[v,q,h.mono f]]
theorem LocR.set(r:LocR U H l Z)(i)(h:Rep U H d v):LocR U H (l.set i<|aa d) (Z.set i<|aa v):=
 #[by rw[bD,bD];exact r.len,λj e q=>by
  rw[oF]at q ⊢;split at q
  .rename_i hij
   subst hij;split at q
   .rename_i hl
    cases q;rw[T9 rfl,T9 (by rw[<-r.len];exact hl)]
    exact#[v,rfl,h]
   .cases q
  .rename_i hij
   rw[T8 hij];exact r.val j e q]
def End{B β:Type}(K:ap)(xw:Nat->Hp->Prop)(rep:Mx->Hp->B->β->Prop)(U:Mx)(H:Hp)(Q:β->Hp->Prop):R B->Prop
 |.ok d S=>∀ρ' H' v,Fut U H ρ' H'->St3 K ρ' S H'->rep ρ' H' d v->Q v H'
 |.ex c S=>∀ρ' H',Fut U H ρ' H'->St3 K ρ' S H'->xw c H'
 |.no=>False
section
variable{K:ap}{xw:Nat->Hp->Prop}{U ρ':Mx}{H H':Hp}{B β α' β':Type}{rep:Mx->Hp->B->β->Prop}{rep':Mx->Hp->α'->β'->Prop}
def End.mono{Q:β->Hp->Prop}(f:Fut U H ρ' H')(h:End K xw rep U H Q r):End K xw rep ρ' H' Q r:=by
 cases r with|ok d S=>exact λρ2 H2 v g st r=>h ρ2 H2 v (f.trans g) st r|ex c S=>exact λρ2 H2 g st=>h ρ2 H2 (f.trans g) st|no=>exact h
theorem End.bind(h:End K xw rep' U H Q (r.bind f))
  (k:∀d S ρ1 H1 v,Fut U H ρ1 H1->St3 K ρ1 S H1->rep ρ1 H1 d v->End K xw rep' ρ1 H1 Q (f d S)->Q1 v H1):End K xw rep U H Q1 r:=by
 cases r with|ok d S=>exact λρ1 H1 v g st r=>k d S ρ1 H1 v g st r<|End.mono g h|ex c S=>exact h|no=>exact h
theorem End.ok(h:End K xw rep U H Q (.ok a S))(st:St3 K U S H)(r:rep U H a v):Q v H:=h U H v (Fut.refl U H) st r
def End.ob(h:End K xw rep' U H Q ((Pv.po o S).bind f)):∃a,o=aa a/\End K xw rep' U H Q (f a S):=by
 cases o with|none=>exact h.elim|some a=>exact#[a,rfl,h]
theorem End.po(h:End K xw rep U H Q (Pv.po o S)):∃a,o=aa a/\End K xw rep U H Q (.ok a S):=by
 cases o with|none=>exact h.elim|some a=>exact#[a,rfl,h]
theorem End.map(h:End K xw rep U H Q (Pv.po (o.map f) S)):∃a,o=aa a/\End K xw rep U H Q (.ok (f a) S):=by
 cases o with|none=>exact h.elim|some a=>exact#[a,rfl,h]
def End.ite{c:Prop}[Decidable c](h:End K xw rep U H Q (if c then a else b)):(c/\End K xw rep U H Q a)\/(¬c/\End K xw rep U H Q b):=by
 split at h
 .exact .inl #[‹_›,h]
 .exact .inr #[‹_›,h]
def End.guard{c:Prop}[Decidable c](h:End K xw rep U H Q (if c then a else .no)):c/\End K xw rep U H Q a:=by
 rcases h.ite with h|⟨_,h⟩
 .exact h
 .exact h.elim
end
abbrev nx:Nat->Hp->Prop:=λ_ _=>False
theorem End.nox{B β:Type}{K:ap}{rep:Mx->Hp->B->β->Prop}{Q:β->Hp->Prop}{r:R B}(h:End K xw rep U H Q r.nox):End K nx rep U H Q r:=by
 cases r with|ok d S=>exact h|ex c S=>exact h.elim|no=>exact h
def QE(_:Mx)(_:Hp)(a b:Bool):Prop:=a=b
def Zju(_:Mx)(_:Hp)(a b:Option Int):Prop:=a=b
section
variable(X:Cx)(xw:Nat->Hp->Prop)
def tE(f:Lc->ZO->R D):TE:=λZ H Q=>∃U l S,St3 X.K U S H/\LocR U H l Z/\End X.K xw Rep U H Q (f l S)
def tA(f:Lc->ZO->R (List D)):TA:=λZ H Q=>∃U l S,St3 X.K U S H/\LocR U H l Z/\End X.K xw Rq U H Q (f l S)
def tB3(f:Lc->ZO->R Bool):TT:=λZ H Q=>∃U l S,St3 X.K U S H/\LocR U H l Z/\End X.K xw QE U H Q (f l S)
def tO(f:Lc->ZO->R (Option Int)):TO:=λZ H Q=>∃U l S,St3 X.K U S H/\LocR U H l Z/\End X.K xw Zju U H Q (f l S)
variable(C:Calls)
structure CE(e:Expr)(i:E):Prop where
 h:PE X e (tE X xw<|Pv.pv C i)
structure CT(e:Expr)(i:E):Prop where
 h:PT X e (tB3 X xw<|Pv.YS C i)
structure CA(es:List Expr)(is:List E):Prop where
 h:PA X es (tA X xw<|Pv.pvs C is)
structure CO(e:Option Expr)(i:Option E):Prop where
 h:PO X e (tO X xw<|Pv.pvo C i)
end
def PE.imp(h:PE X e t)(k:∀Z H Q,t' Z H Q->t Z H Q):PE X e t':=λpq s Z H Q I q=>h pq s Z H Q I<|k Z H Q q
def PT.imp(h:PT X e t)(k:∀Z H Q,t' Z H Q->t Z H Q):PT X e t':=λpq s Z H Q I q=>h pq s Z H Q I<|k Z H Q q
def PA.imp(h:PA X e t)(k:∀Z H Q,t' Z H Q->t Z H Q):PA X e t':=λpos pq s Z H Q I q=>h pos pq s Z H Q I<|k Z H Q q
def PO.imp(h:PO X e t)(k:∀Z H Q,t' Z H Q->t Z H Q):PO X e t':=λpq s Z H Q I q=>h pq s Z H Q I<|k Z H Q q
section
variable{K:ap}{U ρ':Mx}{S:ZO}{H H':Hp}{a p:aO}
def ZB(hp:H p=ai):Fut U H U (upd H p o):=#[rfl,λb u h=>.inl (by rw[Zk<|Yu h hp];exact h)]
def St3.fresh(st:St3 K U S H)(hp:H p=ai)(ho:∀ps,o≠.tbl ps:=by intro _ z;cases z):St3 K U S (upd H p o):=
 have n:∀b,H b≠ai->b≠p:=λb h z=>h (by rw[z];exact hp)
 #[st.hk,λb h=>by rw[Zk<|n b<|st.xd b h];exact st.xd b h,λb h=>by
  have:=st.dw b h;rw[Zk<|n b (by rw[this.1];intro z;cases z)];exact this,st.tb.upd (λob u z=>by rw[hp]at z;cases z) ho]
def St3.nx(st:St3 K U S H)(hp:H p=ai):¬U.X p:=λz=>st.xd p z hp
end
def zy:Ev.lim=a9:=by rw[dg];rfl
section
variable{K:ap}{xw:Nat->Hp->Prop}{U:Mx}{H:Hp}{S:ZO}{Q:VK}
def End.newT(h:End K xw Rep U H Q (.ok (.tup ds) S))(st:St3 K U S H)(r:Rq U H ds xs):∀p,H p=ai->Q (.ref p) (upd H p<|.tup xs):=λp hp=>
 h U _ _ (ZB hp) (st.fresh hp) (Xn Zm<|r.mono<|ZB hp)
def End.newL(h:End K xw Rep U H Q (.ok (.lst ds) S))(st:St3 K U S H)(r:Rq U H ds xs):∀p,H p=ai->Q (.ref p) (upd H p<|.lst xs):=λp hp=>
 h U _ _ (ZB hp) (st.fresh hp) (W3 Zm (st.nx hp)<|r.mono<|ZB hp)
end
section
variable{X:Cx}{xw:Nat->Hp->Prop}{C:Calls}{e a b c:Expr}{i j k:E}{pos:iV}
def Zgm{q}:CE X xw C (.Constant (.int n) q pos) (.c<|.int n):=.mk <| PE.imp QW<|by left;exact End.ok h st<|ZT n
def Ziu{q}:CE X xw C (.Constant (.bool n) q pos) (.c<|.bl n):=.mk <| PE.imp uJ<|by left;exact End.ok h st<|Yn n
def Zhs{q}:CE X xw C (.Constant .none q pos) (.c .non):=.mk <| PE.imp vm<|by left;exact End.ok h st Ql
def Zgq{q}:CE X xw C (.Constant (.str x) q pos) (.c<|.str x):=.mk <| PE.imp Zcg<|by left;exact End.ok h st<|ZeR x
def Zjz(n)(hN:X.N[n]?=aa x)(hv:Vis X.env.scope x)(hd:(x == #[11])=aj)
  (hcd:(x == #[23])=aj):CE X xw C (.Name x pos) (.v n):=.mk <| PE.imp (YY hN hv hd hcd)<|by
 left;rw[Pv.pE2]at h;cases q:l[n]? with
 |none=>rw[q]at h;exact h.elim
 |some o=>
  cases o with
  |none=>rw[q]at h;exact h.elim
  |some d=>
   rw[q]at h;obtain⟨v,q2,r⟩:=lr.val n d q;exact#[v,q2,End.ok h st r]
def Zh7:CA X xw C [] []:=.mk <| PA.imp Xb<|by
 left;rw[Pv.pvs]at h;exact End.ok h st Rq.nil
def ZdB(ha:CE X xw C e i)(hr:CA X xw C es is)(hs:aE (e::es) X.env=#[27]::aE es X.env):CA X xw C (e::es) (i::is):=.mk <|
 PA.imp (ZS ha.h hr.h hs)<|by
  left;rw[Pv.pvs]at h;exact#[U,l,S,st,lr,h.bind λx S1 ρ1 H1 v f1 st1 r1 h1=>#[ρ1,l,S1,st1,lr.mono f1,h1.bind λxs S2 ρ2 H2 vs f2 st2 r2 h2=>h2.ok st2<|Rq.cons (r1.mono f2) r2]]
def Zhi{es:List Expr}{is:List E}{q}(h:CA X xw C es is):CE X xw C (.Tuple es q pos) (.tup is):=.mk <| PE.imp (Zgo h.h)<|by
 left;rw[Pv.pE3]at h;refine#[U,l,S,st,lr,h.bind λxs S1 ρ1 H1 vs f1 st1 r1 h1=>?_]
 obtain⟨hl,h1⟩:=h1.guard;exact#[by rw[r1.length];exact hl,h1.newT st1 r1]
def Wt{g:D->D->ZO->R D}(hg:∀{U H S x y v u Q},St3 X.K U S H->Rep U H x v->Rep U H y u->End X.K xw Rep U H Q (g x y S)->r v u H Q) :
  ∀Z H Q,tE X xw (λl S=>(Pv.pv C i l S).bind λx S=>(Pv.pv C j l S).bind λy S=>g x y S) Z H Q->tOp r (tE X xw<|Pv.pv C i) (tE X xw<|Pv.pv C j) Z H Q:=λZ H Q #[U,l,S,st,lr,h]=>
 #[U,l,S,st,lr,h.bind λx S1 ρ1 H1 v f1 st1 r1 h1=>#[ρ1,l,S1,st1,lr.mono f1,h1.bind λy S2 ρ2 H2 u f2 st2 r2 h2=>hg st2 (r1.mono f2) r2 h2]]
end
def Zb4(K:ap):R2:=λx y H Q=>∃a b ys,x=.ref a/\y=.ref b/\SqT K H a []/\SqT K H b ys/\Q (.ref b) H
def Zc5:OpR X (eX .Add) (Zb4 X.K):=by
 intro pq s Z H x y v u Q I rx ry h;obtain⟨a,b,ys,rfl,rfl,ha,hb,q⟩:=h;cases rx;cases ry;obtain⟨its,r1,p1,_⟩:=I.tuple ha;obtain⟨its2,r2,p2,_⟩:=I.tuple hb;obtain⟨⟨cls,dd,data,sl⟩,ho,hc,n,hd⟩:=id p1;obtain⟨⟨cls2,dd2,data2,sl2⟩,ho2,hc2,n2,hd2⟩:=id p2;subst hc hd hc2 hd2;exact oB #[_,ho,rfl] #[_,ho2,rfl] lW nD iA im (gM _ _)
   (tuple_addW0 a b its.toArray its2.toArray n n2 dd dd2 sl sl2<|by rw[(r1.nil_iff.mpr rfl)];rfl) #[ho,ho2,#[.ref b,H,I,rfl,q]]
def Zjx(K:ap):V->Option Int->Option Int->Hp->VK->Prop:=λx lo hi H Q=>∃a xs,x=.ref a/\SqT K H a xs/\
 (HT.sIx xs.length 0 lo=0/\HT.sIx xs.length xs.length hi=xs.length)/\Q (.ref a) H
def W6{w:b9}{A:cz}{E:aB->aM->Prop}{s:aM}{t sl:aO}{vl vu:aB}{lo hi:Option Int}(ht:ot s.heap t items)(hs:s.heap.IsSliceOf sl vl vu .none)(pl:kC vl lo)(pu:kC vu hi)
  (hw:HT.sIx items.size 0 lo=0/\HT.sIx items.size items.size hi=items.size)(h:Q (.ref t) s):aY #[8] A (lh (.ref t)<|.ref sl) Q E s:=by
 obtain⟨os,hos,hcs,hds⟩:=id hs;have hTs:s.TypeIs (.ref sl) "slice":=#[os,hos,hcs];unfold lh
 try with_reducible refine bM ?_
 first|refine ae<|aw ?_|skip
 refine ae<|lj ht.typeIs #[1] ?_
 refine ae (cw ht.typeIs cF
  (cq cF ht.typeIs km ?_<|kG _ _))
 show aY _ _ (gv (.ref t) >>= _) _ _ s;refine ae<|nE ht ?_;refine ae<|fM hTs ?_;rw[T9 #[1]]
 refine ae<|HT.XM hs pl pu ?_;have hyes:((((HT.sIx items.size 0 lo:Nat):Int) == 0&&(1:Int) == 1&&(HT.sIx items.size items.size hi-HT.sIx items.size 0 lo) == items.size)=ao):=by
  rw[hw.1,hw.2];simp
 show aY _ _ (if(((HT.sIx items.size 0 lo:Nat):Int) == 0&&(1:Int) == 1&&(HT.sIx items.size items.size hi-HT.sIx items.size 0 lo) == items.size)=ao then _ else _) _ _ s
 rw[T9 hyes];refine ae<|ae<|fM ht.typeIs<|aw ?_;rw[T9 #[1]]
 exact ae<|gw<|aw #[_,rfl,aw h]
def Zdg:SlR X (Zjx X.K):=by
 intro pq s Z H x v vl vu lo hi sl Q I rx hs pl pu h;obtain⟨a,xs,rfl,hx,hw,q⟩:=h;cases rx;obtain⟨its,r,ht,hz⟩:=I.tuple hx;have hlen:its.toArray.size=xs.length:=by rw[aD];exact r.length.symm
 refine#["tuple",_,cF.lookup,ht.typeIs,?_];exact W6 ht hs pl pu (by rw[hlen];exact hw) #[.ref a,H,I,rfl,q]
def vS(h:Ev.fits i=ao):ny i<=2^20:=by
 unfold ny;split
 .exact c7 _
 .rename_i hz
  have hne:i.natAbs≠0:=by intro z;exact hz (by simp[Int.natAbs_eq_zero.mp z])
  have:=(Nat.log2_lt hne).mpr<|T6 h
  omega
def Zdh:OpR X (eX .FloorDiv) (rI (λ_ j=>0<j/\j<Ev.big) λi j=>.int<|i / j):=opI λi j _ _ _ _ _ hc q=>by
 have hne:j.natAbs≠0:=by omega
 have h3:j.natAbs<2^8000:=by
  have e:(j.natAbs:Int)=j:=Int.natAbs_of_nonneg #[3]
  have h4:(j.natAbs:Int)<((2^8000:Nat):Int):=by rw[e];exact hc.2
  exact Int.ofNat_lt.mp h4
 have h5:=(Nat.log2_lt hne).mpr h3;exact floordiv_int #[3] (by rw[Int.fdiv_eq_ediv_of_nonneg i #[3]];exact q)<|.inl<|PyProof.noPylong_of_log2 #[3]
def Zd8:OpR X (eX .Mult) (rI (λi j=>Ev.fits i=ao/\Ev.fits j=ao) λi j=>.int<|i*j):=opI λ_ _ _ _ _ _ _ hc q=>mul_int q<|IntMulOk.of_bits (vS hc.1)<|vS hc.2
def Zgx:OpR X (cM .Is) (λx y H Q=>∃a b,x=.bl a/\y=.bl b/\Q (.bl<|ag<|a=b) H):=by
 intro pq s Z H x y v u Q I rx ry h;obtain⟨a,b,rfl,rfl,q⟩:=h;cases rx;cases ry;cases a<;>cases b<;>exact aw #[.bl _,H,I,rfl,q]
def Ze2:OpR X (cM .IsNot) (λx y H Q=>∃a b,x=.bl a/\y=.bl b/\Q (.bl<|ag<|a≠b) H):=by
 intro pq s Z H x y v u Q I rx ry h;obtain⟨a,b,rfl,rfl,q⟩:=h;cases rx;cases ry;cases a<;>cases b<;>exact aw #[.bl _,H,I,rfl,q]
def JC:fillsNumberSlot (.type "tuple") "mul" = cX aj:=
 PySem.fillsNumberSlot_seq l0.lookup #[24] F.slot_tuple_rmul.lookup #[24]
def GY:seqRepeat? (.type "tuple")=cX (aa<|.builtin "tuple.__mul__"):=by
 unfold seqRepeat?
 rw[PySem.seqSlot_of (name:="__mul__") l0.lookup #[24]]
 rfl
def QP(a t l items)(n:Nat)(dd sl) :
  sA (dM.«int.__rmul__» #[[.int a t,.ref l],[]]) (λ_ R s=>s.heap.get? l=aa {cls:=.type "tuple",dict:=dd,data:=.seq items n,slots:=sl}/\R (.ok<|.ret aB.notImplemented) s):=
 .of_wp λprog w A R s h=>by obtain⟨hp,g,d,tk,os⟩:=s;obtain⟨hl,h⟩:=h;wp_walk;exact#[_,rfl,h]
def zG(l:aO)(items)(n:Nat)(dd:Option aO)(sl)(x:Int)(u:Tok)(h0:¬(x < -(2^63)||x>=2^63)=ao)(hc:(items.isEmpty||x == 1)=ao) :
  sA (dM.«tuple.__mul__» #[[.ref l,.int x u],[]]) (λ_ R s=>s.heap.get? l=aa {cls:=.type "tuple",dict:=dd,data:=.seq items n,slots:=sl}/\R (.ok<|.ret<|cZ l) {s with heap:=s.heap,toks:=s.toks}):=
 .of_wp λprog w A R s h=>by obtain⟨hp,g,d,tk,os⟩:=s;obtain⟨hl,h⟩:=h;have f1:=lZ;have f2:=gN;wp_walk;rw[T8 h0];wp_walk using dZ hl;exact#[_,rfl,h]
def z5(l:aO)(items)(n:Nat)(dd:Option aO)(sl)(x:Int)(u:Tok)(h0:¬(x < -(2^63)||x>=2^63)=ao)(hc:¬(items.isEmpty||x == 1)=ao)(h1:(x<=0||items.isEmpty)=ao) :
  sA (dM.«tuple.__mul__» #[[.ref l,.int x u],[]]) (λ_ R s=>s.heap.get? l=aa {cls:=.type "tuple",dict:=dd,data:=.seq items n,slots:=sl}/\R (.ok<|.ret<|cZ s.heap.objs.size) {s with heap:=s.heap.push {cls:=.type "tuple",data:=.seq #[]},toks:=s.toks}):=
 .of_wp λprog w A R s h=>by obtain⟨hp,g,d,tk,os⟩:=s;obtain⟨hl,h⟩:=h;have f1:=lZ;have f2:=gN;wp_walk;rw[T8 h0];wp_walk using dZ hl;exact#[_,rfl,h]
def yi(l:aO)(items:Array aB)(n:Nat)(dd:Option aO)(sl:Array (Option aB))(x:Int)(u:Tok)(h0:¬(x < -(2^63)||x>=2^63)=ao)(hc:¬(items.isEmpty||x == 1)=ao)(h1:¬(x<=0||items.isEmpty)=ao)
  (h2:¬(items.size*x>(2^63-1) / 8))(h3:¬kK (items.size*x)=ao)(hsz:((ax x.toNat items).foldl (·++·) #[]).size<=a9) :
  sA (dM.«tuple.__mul__» #[[.ref l,.int x u],[]]) (λ_ R s=>s.heap.get? l=aa {cls:=.type "tuple",dict:=dd,data:=.seq items n,slots:=sl}/\R (.ok<|.ret<|cZ s.heap.objs.size) {s with heap:=s.heap.push {cls:=.type "tuple",data:=.seq ((ax x.toNat items).foldl (·++·) #[])},toks:=s.toks}):=
 .of_wp λprog w A R s h=>by obtain⟨hp,g,d,tk,os⟩:=s;obtain⟨hl,h⟩:=h;have f1:=lZ;have f2:=gN;wp_walk;rw[T8 h0];wp_walk using dZ hl;rw[T8 h2];wp_walk using dZ hl;exact#[_,rfl,h]
def ZfJ(K:ap):R2:=λx y H Q=>∃a k xs,x=.ref a/\y=.int k/\SqT K H a xs/\(0<=k/\k<1000/\xs.length<=1000)/\
 ((xs=[]\/k=1)->Q (.ref a) H)/\(¬(xs=[]\/k=1)->∀p,H p=ai->Q (.ref p) (upd H p<|.tup (ax k.toNat xs).flatten))
def Ze3 :OpR X (eX .Mult) (ZfJ X.K):=by
 intro pq s Z H x y v u Q I rx ry h;obtain⟨a,k,xs,rfl,rfl,hx,⟨k0,k1,hz⟩,q1,q2⟩:=h;cases rx;obtain⟨t,rfl⟩:=ry;obtain⟨its,r,pt,_⟩:=I.tuple hx;have hl:=r.length;obtain⟨⟨cls,dd,data,sl⟩,ho,hc,n,hd⟩:=id pt;simp only at hc hd;subst hc hd;have h0:¬(ag (k < -(2^63))||decide (k>=2^63))=ao:=by
  rw[T4 #[0],T4 #[0]];exact aT
 refine k8 #[1] #[_,ho,rfl] (λs'=>mr s' k t) JC pP kc GY F.slot_int_index.lookup
  (hV kc (mr s k t) o5 (oG _ _) (QP k t a its.toArray n dd sl) #[ho,rfl,#[_,ho,rfl],?_])
 have hnil:=r.nil_iff;by_cases c:xs=[]\/k=1
 .have c':(its.toArray.isEmpty||k == 1)=ao:=by
   rcases c with c|c
   .rw[hnil.mpr c];rfl
   .rw[c];simp
  exact hV l0 #[_,ho,rfl] lw (kL _ _) (zG a its.toArray n dd sl k t h0 c') #[ho,#[.ref a,H,I,rfl,q1 c]]
 .have ne:=λz=>c (.inl<|hnil.mp z)
  have k1:k≠1:=λz=>c<|.inr z
  have c':¬(its.toArray.isEmpty||k == 1)=ao:=by
   rw[beq_eq_false_iff_ne.mpr k1,Bool.or_false,iY];cases its with|nil=>exact T7 rfl ne|cons _ _=>exact aT
  have fin:∀arr:List aB,arr=(ax k.toNat its).flatten->EP X pq Z Q (cZ s.heap.objs.size) {s with heap:=s.heap.push {cls:=.type "tuple",data:=.seq arr.toArray}}:=λarr e=>by
   subst e;refine#[.ref s.heap.objs.size,_,I.laid (t':=s.toks) (λb ob q=>au _ q) (aJ _) ?_,rfl,q2 c _<|I.hok.fresh<|aJ _]
   refine#[?_,_,r.rep k.toNat,ku _ _];rw[G6,dg];have:k.toNat*xs.length<=1000*1000:=mY #[0] hz
   lia
  by_cases z:k=0
  .have h1:(ag (k<=0)||its.toArray.isEmpty)=ao:=by rw[z];rfl
   refine hV l0 #[_,ho,rfl] lw (kL _ _) (z5 a its.toArray n dd sl k t h0 c' h1) #[ho,?_];exact fin [] (by rw[z];rfl)
  .have h1:¬(ag (k<=0)||its.toArray.isEmpty)=ao:=by
    rw[T4 #[0],lE,iY]
    cases its with|nil=>exact T7 rfl ne|cons _ _=>exact aT
   have hm:(its.toArray.size:Int)*k<=1000*1000:=by
    rw[aD,<-hl];exact Int.mul_le_mul #[0] #[0] k0 #[0]
   have joined:(ax k.toNat its.toArray).foldl (·++·) #[]=(ax k.toNat its).flatten.toArray:=by
    have:=Um its k.toNat [];rw[fV]at this;exact this
   have hsz:((ax k.toNat its.toArray).foldl (·++·) #[]).size<=a9:=by
    rw[joined,aD,G6,dg,<-hl];have:k.toNat*xs.length<=1000*1000:=mY #[0] hz
    lia
   refine hV l0 #[_,ho,rfl] lw (kL _ _) (yi a its.toArray n dd sl k t h0 c' h1 #[0] (by
    unfold kK;rw[T4 (by rw[dg];lia)]
    exact aT) hsz) #[ho,?_]
   rw[joined];exact fin _ rfl
def ZfI:R2:=λx y H Q=>∃a k xs,x=.ref a/\y=.int k/\H a=aa (.lst xs)/\(0<=k/\k<1000/\xs.length<=1000)/\∀p,H p=ai->Q (.ref p) (upd H p<|.lst (ax k.toNat xs).flatten)
def Zft :OpR X (eX .Mult) ZfI:=by
 intro pq s Z H x y v u Q I rx ry h;obtain⟨a,k,xs,rfl,rfl,hx,⟨k0,k1,hz⟩,q2⟩:=h;cases rx;obtain⟨t,rfl⟩:=ry;obtain⟨its,r,pl,_⟩:=I.list<|SqL.of hx;have hl:=r.length;obtain⟨⟨cls,dd,data,sl⟩,n,ho,hc,hd2,hd⟩:=id pl;simp only at hc hd hd2;subst hc hd;have hm:k.toNat*its.length<=1000*1000:=mY #[0] #[0]
 have hm2:its.length*k.toNat<=1000*1000:=by rw[oH];exact hm
 refine k8 #[1] #[_,ho,rfl] (λs'=>mr s' k t) noFill_list_mul pP kc repeat_list F.slot_int_index.lookup
  (hV kc (mr s k t) o5 (oG _ _) (lm_int_rmul_list_any k t a its.toArray n dd sl) #[ho,rfl,#[_,ho,rfl],
   hV F.slot_list_mul #[_,ho,rfl] F.entry_list_mul (F.args_list_mul_2 _ _) (lm_list_mul_any a its.toArray n dd sl k t (by simp[dM.List.listFitsIndex];lia) (by rw[aD];lia)<|by rw[aD];simp[dM.List.listTooLong,a9];lia) #[ho,?_]])
 have joined:(ax (if its.toArray.isEmpty=ao then 0 else k.toNat) its.toArray).foldl (λx1 x2=>x1++x2) #[]=(ax k.toNat its).flatten.toArray:=by
  have h0:=Um its k.toNat [];rw[fV]at h0;by_cases z:its=[]
  .subst z
   have e:∀m:Nat,(ax m ([]:List aB)).flatten=[]:=λm=>by induction m with|zero=>rfl|succ m ih=>rw[cI,eZ,ih];rfl
   rw[e];rfl
  .rw[T8 (by rw[iY];cases its with|nil=>exact T7 rfl z|cons _ _=>exact aT)]
   exact h0
 rw[joined];refine#[.ref s.heap.objs.size,_,I.laid (t':=s.toks) (λb ob q=>au _ q) (aJ _) ?_,rfl,q2 _<|I.hok.fresh<|aJ _]
 refine#[?_,_,0,r.rep k.toNat,aH _ rfl];rw[G6,dg];rw[hl];lia
section
variable{X:Cx}{xw:Nat->Hp->Prop}{C:Calls}{e a b c:Expr}{i j k:E}{pos:iV}
variable{U:Mx}{H:Hp}{S:ZO}{x y:D}{v u:V}{Q:VK}{K:ap}
def ZfR(K:ap):R2:=λx y H Q=>rI0 (λi j=>.int<|i+j) x y H Q\/(ZfS K x y H Q\/(Zb4 K x y H Q\/ZeF x y H Q))
def Zfx:OpR X (eX .Add) (ZfR X.K):=Zgh.or<|ZdC.or<|Zc5.or vK
def ZhH(st:St3 K U S H)(rx:Rep U H x v)(ry:Rep U H y u)(h:End K xw Rep U H Q (Pv.Wg .add x y S)):ZfR K v u H Q:=by
 cases x with
 |int i=>cases y with|int j=>exact .inl #[i,j,rx.int',ry.int',End.ok h st<|ZT _]|_=>exact False.elim h
 |tup ds=>cases y with
  |tup es=>
   obtain⟨hl,h⟩:=End.guard h;obtain⟨p,xs,rfl,hp,r1⟩:=rx.tup';obtain⟨q,ys,rfl,hq,r2⟩:=ry.tup';have l1:=r1.length;have l2:=r2.length;by_cases z:xs=[]
   .subst z
    have e1:=d7.mp l1.symm;subst e1;exact .inr<|.inr<|.inl #[p,q,ys,rfl,rfl,SqT.of hp,SqT.of hq,End.ok h st<|Xn hq r2]
   .refine .inr (.inl #[p,q,xs,ys,rfl,rfl,SqT.of hp,SqT.of hq,z,by rw[l1,l2];exact hl,λz2=>?_,λ_=>h.newT st<|r1.append r2])
    subst z2;have e2:=d7.mp l2.symm;subst e2;refine End.ok h st ?_;rw[cr];exact Xn hp r1
  |_=>exact False.elim h
 |lst ds=>cases y with
  |lst es=>
   obtain⟨hl,h⟩:=End.guard h;obtain⟨p,xs,rfl,hp,_,r1⟩:=rx.lst';obtain⟨q,ys,rfl,hq,_,r2⟩:=ry.lst';exact .inr<|.inr<|.inr #[p,q,xs,ys,rfl,rfl,hp,hq,by rw[r1.length,r2.length];exact hl,h.newL st<|r1.append r2]
  |_=>exact False.elim h
 |_=>cases y<;>exact False.elim h
def ZgU(st:St3 K U S H)(rx:Rep U H x v)(ry:Rep U H y u)(h:End K xw Rep U H Q (Pv.Wg .sub x y S)):rI0 (λi j=>.int<|i-j) v u H Q:=by
 cases x with
 |int i=>cases y with|int j=>exact#[i,j,rx.int',ry.int',End.ok h st<|ZT _]|_=>exact False.elim h
 |_=>cases y<;>exact False.elim h
def ZfC(K:ap):R2:=λx y H Q=>rI (λi j=>Ev.fits i=ao/\Ev.fits j=ao) (λi j=>.int<|i*j) x y H Q\/(ZfJ K x y H Q\/ZfI x y H Q)
def Zfq:OpR X (eX .Mult) (ZfC X.K):=Zd8.or<|Ze3.or Zft
def Zht(st:St3 K U S H)(rx:Rep U H x v)(ry:Rep U H y u)(h:End K xw Rep U H Q (Pv.Wg .mul x y S)):ZfC K v u H Q:=by
 cases x with
 |int i=>cases y with
  |int j=>
   obtain⟨hc,h⟩:=End.guard h;exact .inl #[i,j,rx.int',ry.int',(aA _ _).mp hc,End.ok h st<|ZT _]
  |_=>exact False.elim h
 |tup ds=>cases y with
  |int k=>
   obtain⟨⟨h0,h1,h2⟩,h⟩:=End.guard h;obtain⟨p,xs,rfl,hp,r1⟩:=rx.tup';have l1:=r1.length;refine .inr <| .inl #[p,k,xs,rfl,ry.int',SqT.of hp,#[h0,h1,by rw[l1];exact h2],λz=>?_,λ_=>h.newT st<|r1.rep k.toNat]
   refine End.ok h st<|Xn hp ?_;rcases z with z|z
   .subst z
    have e1:=d7.mp l1.symm;subst e1;have:∀m,(ax m ([]:List D)).flatten=[]:=λm=>by induction m with|zero=>rfl|succ m ih=>rw[cI,eZ,ih];rfl
    rw[this];exact Rq.nil
   .subst z
    show Rq U H (ax 1 ds).flatten xs;rw[cI,List.replicate_zero,eZ,List.flatten_nil,cr];exact r1
  |_=>exact False.elim h
 |lst ds=>cases y with
  |int k=>
   obtain⟨⟨h0,h1,h2⟩,h⟩:=End.guard h;obtain⟨p,xs,rfl,hp,_,r1⟩:=rx.lst';exact .inr<|.inr #[p,k,xs,rfl,ry.int',hp,#[h0,h1,by rw[r1.length];exact h2],h.newL st<|r1.rep k.toNat]
  |_=>exact False.elim h
 |_=>cases y<;>exact False.elim h
def ZeA(st:St3 K U S H)(rx:Rep U H x v)(ry:Rep U H y u)(h:End K xw Rep U H Q (Pv.Wg .fdiv x y S)):rI (λ_ j=>0<j/\j<Ev.big) (λi j=>.int<|i / j) v u H Q:=by
 cases x with
 |int i=>cases y with
  |int j=>
   obtain⟨hc,h⟩:=End.guard h;exact#[i,j,rx.int',ry.int',hc,End.ok h st<|ZT _]
  |_=>exact False.elim h
 |_=>cases y<;>exact False.elim h
def Zhj(st:St3 K U S H)(rx:Rep U H x v)(ry:Rep U H y u)(h:End K xw Rep U H Q (Pv.Wg .mod x y S)):rI (λ_ j=>0<j) (λi j=>.int<|i%j) v u H Q:=by
 cases x with
 |int i=>cases y with
  |int j=>
   obtain⟨hc,h⟩:=End.guard h;exact#[i,j,rx.int',ry.int',hc,End.ok h st<|ZT _]
  |_=>exact False.elim h
 |_=>cases y<;>exact False.elim h
theorem Zha(st:St3 K U S H)(rx:Rep U H x v)(ry:Rep U H y u)(h:End K xw Rep U H Q (Pv.Wg .pow x y S)):rI CPow (λi j=>.int<|i^j.toNat) v u H Q:=by
 cases x with
 |int i=>cases y with
  |int j=>
   obtain⟨hc,h⟩:=End.guard h;exact#[i,j,rx.int',ry.int',#[hc.1,by lia,hc.2.2],End.ok h st<|ZT _]
  |_=>exact False.elim h
 |_=>cases y<;>exact False.elim h
def ZgK(ha:CE X xw C a i)(hb:CE X xw C b j):CE X xw C (.BinOp a .Add b pos) (.bin .add i j):=.mk <| PE.imp (UL Zfx ha.h hb.h) (Wt λst rx ry h=>ZhH st rx ry h)
def Zgn(ha:CE X xw C a i)(hb:CE X xw C b j):CE X xw C (.BinOp a .Sub b pos) (.bin .sub i j):=.mk <| PE.imp (UL ZgZ ha.h hb.h) (Wt λst rx ry h=>ZgU st rx ry h)
def ZgC(ha:CE X xw C a i)(hb:CE X xw C b j):CE X xw C (.BinOp a .Mult b pos) (.bin .mul i j):=.mk <| PE.imp (UL Zfq ha.h hb.h) (Wt λst rx ry h=>Zht st rx ry h)
def Zdv(ha:CE X xw C a i)(hb:CE X xw C b j):CE X xw C (.BinOp a .FloorDiv b pos) (.bin .fdiv i j):=.mk <| PE.imp (UL Zdh ha.h hb.h) (Wt λst rx ry h=>ZeA st rx ry h)
def ZhI(ha:CE X xw C a i)(hb:CE X xw C b j):CE X xw C (.BinOp a .Mod b pos) (.bin .mod i j):=.mk <| PE.imp (UL ZgM ha.h hb.h) (Wt λst rx ry h=>Zhj st rx ry h)
def Zhg(ha:CE X xw C a i)(hb:CE X xw C b j):CE X xw C (.BinOp a .Pow b pos) (.bin .pow i j):=.mk <| PE.imp (UL Zhn ha.h hb.h) (Wt λst rx ry h=>Zha st rx ry h)
def Zg0(ha:CE X xw C a i):CE X xw C (.UnaryOp .USub a pos) (.neg i):=.mk <| PE.imp (Zf4 Zbq ha.h)<|by
 left;refine#[U,l,S,st,lr,End.bind (h) λx S1 ρ1 H1 v f1 st1 r1 h1=>?_]
 cases x with|int n=>exact#[n,r1.int',End.ok h1 st1<|ZT _]|_=>exact False.elim h1
def yK(st:St3 K U S H)(rx:Rep U H x v)(h:Pv.Zy x=aa n):Ze0 K v H n:=by
 cases x with
 |non=>rw[rx.non'];exact(aq h).symm
 |bl b=>rw[rx.bl'];exact(aq h).symm
 |int i=>
  rw[rx.int'];rw[<-(aq h)];by_cases z:i=0
  .subst z;rfl
  .rw[T5 z];exact(bne_iff_ne.mpr z).symm
 |tup ds=>
  obtain⟨p,xs,rfl,hp,r⟩:=rx.tup';refine .inr<|.inl #[xs,SqT.of hp,?_];rw[<-(aq h)];have:=r.length;cases ds<;>cases xs<;>first|rfl|(simp at this)
 |lst ds=>
  obtain⟨p,xs,rfl,hp,_,r⟩:=rx.lst';refine .inl #[xs,SqL.of hp,?_];rw[<-aq h];have:=r.length;cases ds<;>cases xs<;>first|rfl|(simp at this)
 |_=>cases h
def Zhx(ha:CE X xw C a i)(he:∀whole,isTrue a X.env whole=(do let v <-whole;ou a.pos;lg [v] (sf v))):CT X xw C a i:=.mk <|
 PT.imp (Zb0 ha.h he)<|by
  left;refine#[U,l,S,st,lr,End.bind (h) λx S1 ρ1 H1 v f1 st1 r1 h1=>?_]
  cases q:Pv.Zy x with|none=>rw[q]at h1;exact False.elim h1|some n=>rw[q]at h1;exact#[n,yK st1 r1 q,End.ok h1 st1 rfl]
def ZgE(ha:CT X xw C a i):CT X xw C (.UnaryOp .Not a pos) (.not i):=.mk <| PT.imp (Zah ha.h)<|by
 left;refine#[U,l,S,st,lr,?_];have h':End X.K xw QE U H Q (((Pv.pv C i l S).bind λx S=>(Pv.po (Pv.Zy x) S).bind λb S=>.ok (.bl !b) S).bind λx S=>Pv.po (Pv.Zy x) S):=h
 show End X.K xw QE U H (λc H1=>Q (!c) H1) ((Pv.pv C i l S).bind λx S=>Pv.po (Pv.Zy x) S)
 cases q:Pv.pv C i l S with
 |no=>rwa[q]at h'
 |ex c S1=>rwa[q]at h'
 |ok x S1=>
  rw[q]at h';show End X.K xw QE U H _ (Pv.po (Pv.Zy x) S1);have h2:End X.K xw QE U H Q (((Pv.po (Pv.Zy x) S1).bind λb S=>.ok (.bl !b) S).bind λx S=>Pv.po (Pv.Zy x) S):=h'
  cases t:Pv.Zy x with
  |none=>rwa[t]at h2
  |some n=>
   rw[t]at h2;intro ρ1 H1 w f1 st1 e;exact h2 ρ1 H1 (!w) f1 st1 (by rw[<-(e)];rfl)
def Zhz(ha:CE X xw C a i):CE X xw C (.UnaryOp .Not a pos) (.not i):=.mk <| by
 intro pq s Z H Q I hq;obtain⟨U,l,S,st,lr,h⟩:=hq;have h':=h
 refine UnaryOp_<|thn (ha.h pq s Z H (λv H1=>∃k,Ze0 X.K v H1 k/\Q (.bl !k) H1) I #[U,l,S,st,lr,End.bind h' λx S1 ρ1 H1 v f1 st1 r1 h1=>?_]) λv s1 #[x,H1,I1,r1,q1]=>?_
 .cases q:Pv.Zy x with|none=>rw[q]at h1;exact False.elim h1|some n=>rw[q]at h1;exact#[n,yK st1 r1 q,End.ok h1 st1<|Yn _]
 .obtain⟨k,tk,q2⟩:=q1
  refine not_of<|thn (ZbT pq s1 Z H1 x v (λk' H'=>Q (.bl !k') H') I1 r1 #[k,tk,q2]) λk' s2 #[H2,I2,q3]=>?_
  exact#[.bl<|!k',H2,I2,rfl,q3]
def Zhh(ha:CE X xw C a i)(hb:CE X xw C (.BoolOp .And (b::rest) pos) j):CE X xw C (.BoolOp .And (a::b::rest) pos) (.and i j):=.mk <| PE.imp (Zgk ha.h hb.h)<|by
 left;refine#[U,l,S,st,lr,End.bind (h) λx S1 ρ1 H1 v f1 st1 r1 h1=>?_]
 cases x with
 |bl c=>
  refine#[c,r1.bl',?_];cases c with|true=>exact#[ρ1,l,S1,st1,lr.mono f1,h1]|false=>exact End.ok h1 st1<|Yn _
 |_=>exact False.elim h1
def Zhq{op}(ha:CE X xw C a i):CE X xw C (.BoolOp op [a] pos) i:=.mk <| Zgv ha.h
structure CWh(X:Cx)(xw:Nat->Hp->Prop)(C:Calls)(e:Expr)(i:E):Prop where
 h:PW X e (tB3 X xw<|Pv.YS C i)
def CWh.ct(h:CWh X xw C e i):CT X xw C e i:=.mk <| PW.pt h.h
def PW.imp(h:PW X e t)(k:∀Z H Q,t' Z H Q->t Z H Q):PW X e t':=λwh pq s Z H Q I q=>h wh pq s Z H Q I<|k Z H Q q
def ZdZ(ha:CT X xw C a i):CWh X xw C (.BoolOp .And [a] pos) i:=.mk <| ZeJ ha.h
def ZgQ(ha:CT X xw C a i):CWh X xw C (.BoolOp .Or [a] pos) i:=.mk <| ZbR ha.h
def ZaG(ha:CT X xw C a i)(hb:CWh X xw C (.BoolOp .And (b::rest) pos) j):CWh X xw C (.BoolOp .And (a::b::rest) pos) (.and i j):=.mk <| PW.imp (Zhv ha.h hb.h)<|by
 left;have h':End X.K xw QE U H Q (((Pv.pv C i l S).bind λx S=>match x with|.bl c=>if c then Pv.pv C j l S else .ok (.bl aj) S|_=>.no).bind λx S=>Pv.po (Pv.Zy x) S):=h
 refine#[U,l,S,st,lr,?_];show End X.K xw QE U H _ ((Pv.pv C i l S).bind λx S=>Pv.po (Pv.Zy x) S)
 cases q:Pv.pv C i l S with
 |no=>rwa[q]at h'
 |ex c S1=>rwa[q]at h'
 |ok x S1=>
  rw[q]at h';cases x with
  |bl n=>
   intro ρ1 H1 w f1 st1 e;subst e;cases n with|true=>exact#[ρ1,l,S1,st1,lr.mono f1,End.mono f1 (h')]|false=>exact(h') ρ1 H1 aj f1 st1 rfl
  |_=>exact False.elim h'
def Zf6(ha:CT X xw C a i)(hb:CWh X xw C (.BoolOp .Or (b::rest) pos) j):CWh X xw C (.BoolOp .Or (a::b::rest) pos) (.or i j):=.mk <| PW.imp (Zfz ha.h hb.h)<|by
 left;have h':End X.K xw QE U H Q (((Pv.pv C i l S).bind λx S=>match x with|.bl c=>if c then .ok (.bl ao) S else Pv.pv C j l S|_=>.no).bind λx S=>Pv.po (Pv.Zy x) S):=h
 refine#[U,l,S,st,lr,?_];show End X.K xw QE U H _ ((Pv.pv C i l S).bind λx S=>Pv.po (Pv.Zy x) S)
 cases q:Pv.pv C i l S with
 |no=>rwa[q]at h'
 |ex c S1=>rwa[q]at h'
 |ok x S1=>
  rw[q]at h';cases x with
  |bl n=>
   intro ρ1 H1 w f1 st1 e;subst e;cases n with|false=>exact#[ρ1,l,S1,st1,lr.mono f1,End.mono f1 (h')]|true=>exact(h') ρ1 H1 ao f1 st1 rfl
  |_=>exact False.elim h'
end
theorem Qo(hf:∀x y v b,Rep U H x v->Rep U H y v->f x y=aa b->b=ao):∀{ds es:List D}{xs:List V}{b:Bool},Rq U H ds xs->Rq U H es xs->Pv.YG f ds es=aa b->b=ao
 |[],[],_,b,_,_,h=>(aq h).symm
 |d::ds,e::es,_,b,r1,r2,h=>by
  obtain⟨v,vs,rfl,a1,b1⟩:=r1;obtain⟨v',vs',e',a2,b2⟩:=r2;cases e';unfold Pv.YG at h;cases q1:f d e with
  |none=>rw[q1]at h;cases h
  |some p=>
   cases q2:Pv.YG f ds es with
   |none=>rw[q1,q2]at h;cases h
   |some q=>
    rw[q1,q2]at h;rw[<-(aq h),hf d e v p a1 a2 q1,Qo hf b1 b2 q2];rfl
 |[],_::_,_,b,r1,r2,h=>by
  have l2:=r2.length;rw[r1.length]at l2;simp at l2
 |_::_,[],_,b,r1,r2,h=>by
  have l2:=r2.length;rw[r1.length]at l2;simp at l2
def Rep.sc(r1:Rep U H x v)(r2:Rep U H y v)(h:∀a,v≠.ref a):x=y:=by
 cases x<;>cases y<;>unfold Rep at r1 r2<;>subst_vars<;>first
  |rfl
  |(cases r2;rfl)
  |(cases r1;rfl)
  |(obtain⟨a,z,_⟩:=r1;exact T7 z<|h a)
  |(obtain⟨a,z,_⟩:=r2;exact T7 z<|h a)
  |(obtain⟨a,_,z,_⟩:=r1;exact T7 z<|h a)
  |(obtain⟨a,_,z,_⟩:=r2;exact T7 z<|h a)
  |cases r1
  |cases r2
def Zb2(r:Rep U H x v)(hv:∀a,v≠.ref a)(h:Pv.eqV (k+1) x x=aa b):b=ao:=by
 cases x<;>first
  |exact(aq h).symm
  |(rw[<-aq h];exact T5 rfl)
  |exact Ev.nos h
  |(obtain⟨a,_,z,_⟩:=r.tup';exact T7 z<|hv a)
  |(obtain⟨a,_,z,_⟩:=r.lst';exact T7 z<|hv a)
theorem Rep.ref(r:Rep U H x (.ref p))(h:Pv.eqV (k+1) x y=aa b\/Pv.eqV (k+1) y x=aa b):(∃ds es,x=.tup ds/\y=.tup es)\/∃ds es,x=.lst ds/\y=.lst es:=by
 cases x with
 |tup ds=>cases y<;>first|exact .inl #[_,_,rfl,rfl]|(rcases h with h|h<;>exact Ev.nos h)
 |lst ds=>cases y<;>first|exact .inr #[_,_,rfl,rfl]|(rcases h with h|h<;>exact Ev.nos h)
 |non=>cases r.non'
 |bl _=>cases r.bl'
 |int _=>cases r.int'
 |str _=>cases r.str'
 |_=>cases y<;>rcases h with h|h<;>exact Ev.nos h
theorem VX:∀(k:Nat)(x y:D)(v:V)(b:Bool),Rep U H x v->Rep U H y v->Pv.eqV k x y=aa b->b=ao
 |0,_,_,_,_,_,_,h=>by cases h
 |k+1,x,y,v,b,r1,r2,h=>by
  by_cases hv:∃a,v=.ref a
  .obtain⟨p,rfl⟩:=hv
   rcases r1.ref (.inl h)with⟨ds,es,rfl,rfl⟩|⟨ds,es,rfl,rfl⟩
   .obtain⟨_,_,z,e1,q1⟩:=r1.tup'
    cases z;obtain⟨_,_,z,e2,q2⟩:=r2.tup';cases z;rw[e1]at e2;cases e2;exact Qo (λx y v b=>VX k x y v b) q1 q2 h
   .obtain⟨_,_,z,e1,_,q1⟩:=r1.lst'
    cases z;obtain⟨_,_,z,e2,_,q2⟩:=r2.lst';cases z;rw[e1]at e2;cases e2;have h:(if ds.length=es.length then Pv.YG (Pv.eqV k) ds es else aa aj)=aa b:=h
    rw[T9<|by rw[<-q1.length,q2.length]]at h
    exact Qo (λx y v b=>VX k x y v b) q1 q2 h
  .have hv:=λa z=>hv #[a,z]
   cases r1.sc r2 hv;exact Zb2 r1 hv h
noncomputable def eAt(f:D->D->Option Bool)(ds es:List D)(j:Nat):Bool:=match ds[j]?,es[j]? with
 |some x,aa y=>(f x y).getD aj
 |_,_=>aj
theorem Xp :∀{ds es:List D}{b:Bool},Pv.YG f ds es=aa b->
  ((aC<|sC ds.length es.length).all (eAt f ds es)&&ds.length == es.length)=b/\∀j x y,ds[j]?=aa x->es[j]?=aa y->f x y=aa (eAt f ds es j)
 |[],[],b,h=>#[aq h,λj x y e=>by simp at e]
 |[],_::es,b,h=>#[by rw[<-aq h];simp,λj x y e=>by simp at e]
 |_::ds,[],b,h=>#[by rw[<-aq h];simp,λj x y _ e=>by simp at e]
 |d::ds,e::es,b,h=>by
  unfold Pv.YG at h;cases q1:f d e with
  |none=>rw[q1]at h;cases h
  |some p=>
   cases q2:Pv.YG f ds es with
   |none=>rw[q1,q2]at h;cases h
   |some q=>
    rw[q1,q2]at h;obtain⟨ih,ih2⟩:=Xp q2;have e0:eAt f (d::ds) (e::es) 0=p:=by simp[eAt,q1]
    have es':∀j,eAt f (d::ds) (e::es) (j+1)=eAt f ds es j:=λj=>by simp[eAt]
    refine#[?_,λj x y hx hy=>?_]
    .rw[<-(aq h),<-ih,aQ,aQ,Nat.succ_min_succ,iB,fY,e0,kr]
     rw[Bool.and_assoc]
     congr 2
     simp
    .cases j with
     |zero=>
      simp at hx hy;subst hx hy;rw[e0];exact q1
     |succ j=>
      rw[es' j];exact ih2 j x y (by simpa using hx) (by simpa using hy)
def Y7{A:cz}(h:A.units+(k+1)<dJ):A.in1.units+k<dJ:=by
 lia
theorem vF(I:Inv X pq Z H s):∀(k:Nat) A (x y:D) (v u:V) (vv uu:aB) (b:Bool),A.units+k<dJ->Rep U H x v->Rep U H y u->ZA v vv->ZA u uu->Pv.eqV k x y=aa b->kI A s vv uu b
 |0,_,_,_,_,_,_,_,_,_,_,_,_,_,h=>by cases h
 |k+1,A,x,y,v,u,vv,uu,b,hu,r1,r2,e1,e2,h=>by
  have flat:uG v=ao->uG u=ao->eqV v u=b->kI A s vv uu b:=λf1 f2 e=>by rw[<-e];exact Zhd e1 e2 f1 f2
  have bb:∀{a c:Bool},(a == c)=ag (a=c):=λ{a c}=>by cases a<;>cases c<;>rfl
  have ii:∀{a c:Int},(a == c)=ag (a=c):=λ{a c}=>by rw[cL];simp
  have ss:∀{a c:bR},(a == c)=ag (a=c):=λ{a c}=>by rw[cL];simp
  have item:∀{ds es:List D}{xs ys:List V}(j:Nat)(its its2:List aB)(j1:j<its.toArray.size)(j2:j<its2.toArray.size),its.toArray.size=ds.length->its2.toArray.size=es.length->Vals xs its->Vals ys its2->Rq U H ds xs->Rq U H es ys->(∀j x y,ds[j]?=aa x->es[j]?=aa y->Pv.eqV k x y=aa (eAt (Pv.eqV k) ds es j))->kI A.in1 s its.toArray[j] its2.toArray[j] (eAt (Pv.eqV k) ds es j):=λ{ds es xs ys} j its its2 j1 j2 n1 n2 v1 v2 q1 q2 ea=>by
   have d1:ds[j]?=aa ds[j]:=af #[0]
   have d2:es[j]?=aa es[j]:=af #[0]
   obtain⟨w1,g1,z1⟩:=q1.get d1;obtain⟨w2,g2,z2⟩:=q2.get d2;obtain⟨m1,k1,y1⟩:=v1.get g1;obtain⟨m2,k2,y2⟩:=v2.get g2;have o1:its.toArray[j]=m1:=by simpa using(aN.mp k1).2
   have o2:its2.toArray[j]=m2:=by simpa using(aN.mp k2).2
   rw[o1,o2];exact vF I k A.in1 ds[j] es[j] w1 w2 m1 m2 _ (Y7 hu) z1 z2 y1 y2<|ea j _ _ d1 d2
  cases x with
  |non=>
   cases r1.non';cases y with|non=>cases r2.non';exact flat rfl rfl<|aq h|bl _=>cases r2.bl';exact flat rfl rfl<|aq h|int _=>cases r2.int';exact flat rfl rfl<|aq h|str _=>cases r2.str';exact flat rfl rfl<|aq h|_=>exact Ev.nos h
  |bl i=>
   cases r1.bl';cases y with|non=>cases r2.non';exact flat rfl rfl<|aq h|bl _=>cases r2.bl';exact flat rfl rfl<|bb.trans<|aq h|int _=>cases r2.int';exact flat rfl rfl<|ii.trans<|aq h|str _=>cases r2.str';exact flat rfl rfl<|aq h|_=>exact Ev.nos h
  |int i=>
   cases r1.int';cases y with|non=>cases r2.non';exact flat rfl rfl<|aq h|bl _=>cases r2.bl';exact flat rfl rfl<|ii.trans<|aq h|int _=>cases r2.int';exact flat rfl rfl<|ii.trans<|aq h|str _=>cases r2.str';exact flat rfl rfl<|aq h|_=>exact Ev.nos h
  |str i=>
   cases r1.str';cases y with|non=>cases r2.non';exact flat rfl rfl<|aq h|bl _=>cases r2.bl';exact flat rfl rfl<|aq h|int _=>cases r2.int';exact flat rfl rfl<|aq h|str _=>cases r2.str';exact flat rfl rfl<|ss.trans<|aq h|_=>exact Ev.nos h
  |tup ds=>
   obtain⟨p,xs,rfl,hp,q1⟩:=r1.tup';cases e1;cases y with
   |tup es=>
    obtain⟨p',ys,rfl,hp',q2⟩:=r2.tup';cases e2;by_cases hpp:p=p'
    .subst hpp
     rw[VX (k+1) (.tup ds) (.tup es) (.ref p) b r1 r2 h];exact mG _
    .obtain⟨its,v1,t1,_⟩:=I.tuple (SqT.of hp)
     obtain⟨its2,v2,t2,_⟩:=I.tuple<|SqT.of hp';obtain⟨ev,ea⟩:=Xp h;have n1:its.toArray.size=ds.length:=by rw[aD,<-v1.length,q1.length]
     have n2:its2.toArray.size=es.length:=by rw[aD,<-v2.length,q2.length]
     refine n4 hpp ?_;rw[<-ev,<-n1,<-n2];exact oI t1 t2 #[0] λj j1 j2=>item j its its2 j1 j2 n1 n2 v1 v2 q1 q2 ea
   |_=>exact Ev.nos h
  |lst ds=>
   obtain⟨p,xs,rfl,u1,_,q1⟩:=r1.lst';cases e1;cases y with
   |lst es=>
    obtain⟨p',ys,rfl,u2,_,q2⟩:=r2.lst';cases e2;by_cases hpp:p=p'
    .subst hpp
     rw[VX (k+1) (.lst ds) (.lst es) (.ref p) b r1 r2 h];exact mG _
    .obtain⟨its,v1,p1,_⟩:=I.list (SqL.of u1)
     obtain⟨its2,v2,p2,_⟩:=I.list<|SqL.of u2;have n1:its.toArray.size=ds.length:=by rw[aD,<-v1.length,q1.length]
     have n2:its2.toArray.size=es.length:=by rw[aD,<-v2.length,q2.length]
     refine n4 hpp ?_;have h2:(if ds.length=es.length then Pv.YG (Pv.eqV k) ds es else aa aj)=aa b:=h
     by_cases hl:ds.length=es.length
     .rw[T9 hl]at h2
      obtain⟨ev,ea⟩:=Xp h2;have ev':(aC ds.length).all (eAt (Pv.eqV k) ds es)=b:=by
       rw[<-ev,<-hl,Nat.min_self];simp
      rw[<-ev',<-n1];exact o6 p1.isList p2.isList #[0] #[0] λj j1 j2=>item j its its2 j1 j2 n1 n2 v1 v2 q1 q2 ea
     .rw[T8 hl]at h2
      rw[<-aq h2];exact lG p1.isList p2.isList (bne_iff_ne.mpr<|by lia) #[0]
   |_=>exact Ev.nos h
  |_=>exact Ev.nos h
def V2(I:Inv X pq Z H s){k:Nat}{A:cz}{xs ys:List V}{b:Bool}(hu:A.units+(k+1)<dJ)
  (q1:Rq U H ds xs)(q2:Rq U H es ys)(v1:Vals xs its)(v2:Vals ys its2)(h:Pv.YG (Pv.eqV k) ds es=aa b) :
  ∀j h1 (h2:j<its2.toArray.size),kI A.in1 s its.toArray[j] its2.toArray[j] (eAt (Pv.eqV k) ds es j):=λj j1 j2=>by
 obtain⟨_,ea⟩:=Xp h;have n1:its.toArray.size=ds.length:=by rw[aD,<-v1.length,q1.length]
 have n2:its2.toArray.size=es.length:=by rw[aD,<-v2.length,q2.length]
 have d1:ds[j]?=aa ds[j]:=af #[0]
 have d2:es[j]?=aa es[j]:=af #[0]
 obtain⟨w1,g1,z1⟩:=q1.get d1;obtain⟨w2,g2,z2⟩:=q2.get d2;obtain⟨m1,k1,y1⟩:=v1.get g1;obtain⟨m2,k2,y2⟩:=v2.get g2;have o1:its.toArray[j]=m1:=by
  have:=aN.mp k1
  simpa using this.2
 have o2:its2.toArray[j]=m2:=by
  have:=aN.mp k2
  simpa using this.2
 rw[o1,o2];exact vF I k A.in1 ds[j] es[j] w1 w2 m1 m2 _ (Y7 hu) z1 z2 y1 y2<|ea j _ _ d1 d2
def Zfi(K:ap)(xw:Nat->Hp->Prop)(op:Cop):R2:=λv u H Q=>∃U S x y,St3 K U S H/\Rep U H x v/\Rep U H y u/\End K xw Rep U H Q (Pv.po (Pv.Y3 op x y) S)
def Zgf :∀Z H Q,tE X xw (Pv.pv C<|.cmp op i j) Z H Q->tOp (Zfi X.K xw op) (tE X xw<|Pv.pv C i) (tE X xw<|Pv.pv C j) Z H Q:=λZ H Q h=>
 Wt (λ{U H S x y v u Q} st rx ry h=>#[U,S,x,y,st,rx,ry,h]) Z H Q h
def dI{a c:Int}:(a == c)=ag (a=c):=by rw[cL];simp
def qg{H:Hp}(rx:Rep U H x v)(ry:Rep U H y u)(hb:Pv.eqV (k+1) x y=aa b):(scal v u=ao/\ag (v=u)=b)\/(∃i j,v=.bl i/\u=.int j/\ag (Ev.b2i i=j)=b)\/(∃i j,v=.int i/\u=.bl j/\ag (i=Ev.b2i j)=b)\/(∃ds es,x=.tup ds/\y=.tup es/\Pv.YG (Pv.eqV k) ds es=aa b)\/∃ds es,x=.lst ds/\y=.lst es/\(if ds.length=es.length then Pv.YG (Pv.eqV k) ds es else aa aj)=aa b:=by
 cases x with
 |non=>cases rx.non';cases y with|non=>cases ry.non';exact .inl #[rfl,aq hb▸by simp]|bl _=>cases ry.bl';exact .inl #[rfl,aq hb]|int _=>cases ry.int';exact .inl #[rfl,aq hb]|str _=>cases ry.str';exact .inl #[rfl,aq hb]|_=>exact Ev.nos hb
 |bl i=>cases rx.bl';cases y with|non=>cases ry.non';exact .inl #[rfl,aq hb]|bl j=>cases ry.bl';exact .inl #[rfl,aq hb▸by simp]|int j=>cases ry.int';exact .inr<|.inl #[i,j,rfl,rfl,aq hb]|str _=>cases ry.str';exact .inl #[rfl,aq hb]|_=>exact Ev.nos hb
 |int i=>cases rx.int';cases y with|non=>cases ry.non';exact .inl #[rfl,aq hb]|bl j=>cases ry.bl';exact .inr<|.inr<|.inl #[i,j,rfl,rfl,aq hb]|int _=>cases ry.int';exact .inl #[rfl,aq hb▸by simp]|str _=>cases ry.str';exact .inl #[rfl,aq hb]|_=>exact Ev.nos hb
 |str i=>cases rx.str';cases y with|non=>cases ry.non';exact .inl #[rfl,aq hb]|bl _=>cases ry.bl';exact .inl #[rfl,aq hb]|int _=>cases ry.int';exact .inl #[rfl,aq hb]|str _=>cases ry.str';exact .inl #[rfl,aq hb▸by simp]|_=>exact Ev.nos hb
 |tup ds=>cases y with|tup es=>exact .inr<|.inr<|.inr<|.inl #[ds,es,rfl,rfl,hb]|_=>exact Ev.nos hb
 |lst ds=>cases y with|lst es=>exact .inr<|.inr<|.inr<|.inr #[ds,es,rfl,rfl,hb]|_=>exact Ev.nos hb
 |_=>exact Ev.nos hb
def ZhE(hu:X.A.units+6<dJ):OpR X (cM .Eq) (Zfi X.K xw .eq):=by
 intro pq s Z H v u vv uu Q I e1 e2 h;obtain⟨U,S,x,y,st,rx,ry,h⟩:=h;obtain⟨b,hb,h1⟩:=End.map h;have q:=End.ok h1 st<|Yn b;rcases qg rx ry hb with⟨hs,e⟩|⟨i,j,rfl,rfl,e⟩|⟨i,j,rfl,rfl,e⟩|⟨ds,es,rfl,rfl,hb'⟩|⟨ds,es,rfl,rfl,h2⟩
 .exact ZiE pq s Z H v u vv uu Q I e1 e2 #[hs,by rw[e];exact q]
 .cases e1
  obtain⟨t,rfl⟩:=e2;refine EqBoolInt.eq_bool_int #[.bl b,H,I,?_,q];show bF ((if i then 1 else 0) == j)=bF b
  rw[dI];exact congrArg bF e
 .cases e2
  obtain⟨t,rfl⟩:=e1;refine EqBoolInt.eq_int_bool #[.bl b,H,I,?_,q];show bF (i == (if j then 1 else 0))=bF b
  rw[dI];exact congrArg bF e
 ·
  obtain⟨p,xs,rfl,hp,q1⟩:=rx.tup';cases e1;obtain⟨p',ys,rfl,hp',q2⟩:=ry.tup';cases e2;obtain⟨its,v1,t1,_⟩:=I.tuple<|SqT.of hp;obtain⟨its2,v2,t2,_⟩:=I.tuple<|SqT.of hp';obtain⟨ev,_⟩:=Xp hb';have n1:its.toArray.size=ds.length:=by rw[aD,<-v1.length,q1.length]
  have n2:its2.toArray.size=es.length:=by rw[aD,<-v2.length,q2.length]
  refine oI t1 t2 #[0] (V2 I hu q1 q2 v1 v2 hb') X.prog X.w X.xe _ ?_
  rw[n1,n2,ev];exact#[.bl b,H,I,rfl,q]
 ·
  obtain⟨p,xs,rfl,u1,_,q1⟩:=rx.lst';cases e1;obtain⟨p',ys,rfl,u2,_,q2⟩:=ry.lst';cases e2;obtain⟨its,v1,p1,_⟩:=I.list<|SqL.of u1;obtain⟨its2,v2,p2,_⟩:=I.list<|SqL.of u2;have n1:its.toArray.size=ds.length:=by rw[aD,<-v1.length,q1.length]
  have n2:its2.toArray.size=es.length:=by rw[aD,<-v2.length,q2.length]
  by_cases hl:ds.length=es.length
  .rw[T9 hl]at h2
   obtain⟨ev,_⟩:=Xp h2;have ev':(aC ds.length).all (eAt (Pv.eqV 5) ds es)=b:=by
    rw[<-ev,<-hl];simp
   refine o6 p1.isList p2.isList #[0] #[0] (V2 I hu q1 q2 v1 v2 h2) X.prog X.w X.xe _ ?_
   rw[n1,ev'];exact#[.bl b,H,I,rfl,q]
  .rw[T8 hl]at h2
   refine lG p1.isList p2.isList (bne_iff_ne.mpr<|by lia) #[0] X.prog X.w X.xe _ ?_
   exact#[.bl b,H,I,congrArg bF<|aq h2,q]
def Zhk(hu:X.A.units+6<dJ):OpR X (cM .NotEq) (Zfi X.K xw .ne):=by
 intro pq s Z H v u vv uu Q I e1 e2 h;obtain⟨U,S,x,y,st,rx,ry,h⟩:=h;obtain⟨b,hb,h1⟩:=End.map h;have q:=End.ok h1 st<|Yn _;rcases qg rx ry hb with⟨hs,e⟩|⟨i,j,rfl,rfl,e⟩|⟨i,j,rfl,rfl,e⟩|⟨ds,es,rfl,rfl,hb'⟩|⟨ds,es,rfl,rfl,h2⟩
 .exact ZiD pq s Z H v u vv uu Q I e1 e2 #[hs,by rw[e];exact q]
 .cases e1
  obtain⟨t,rfl⟩:=e2;refine EqBoolInt.ne_bool_int #[.bl !b,H,I,?_,q];show bF (!((if i then 1 else 0) == j))=bF !b
  rw[dI];exact congrArg (λz=>bF !z) e
 .cases e2
  obtain⟨t,rfl⟩:=e1;refine EqBoolInt.ne_int_bool #[.bl !b,H,I,?_,q];show bF (!(i == (if j then 1 else 0)))=bF !b
  rw[dI];exact congrArg (λz=>bF !z) e
 ·
  obtain⟨p,xs,rfl,hp,q1⟩:=rx.tup';cases e1;obtain⟨p',ys,rfl,hp',q2⟩:=ry.tup';cases e2;obtain⟨its,v1,t1,_⟩:=I.tuple<|SqT.of hp;obtain⟨its2,v2,t2,_⟩:=I.tuple<|SqT.of hp';obtain⟨ev,_⟩:=Xp hb';have n1:its.toArray.size=ds.length:=by rw[aD,<-v1.length,q1.length]
  have n2:its2.toArray.size=es.length:=by rw[aD,<-v2.length,q2.length]
  refine SeqAt.RcNeAt.tuples t1 t2 #[0] (V2 I hu q1 q2 v1 v2 hb') X.prog X.w X.xe _ ?_
  rw[n1,n2,ev];exact#[.bl !b,H,I,rfl,q]
 ·
  obtain⟨p,xs,rfl,u1,_,q1⟩:=rx.lst';cases e1;obtain⟨p',ys,rfl,u2,_,q2⟩:=ry.lst';cases e2;obtain⟨its,v1,p1,_⟩:=I.list<|SqL.of u1;obtain⟨its2,v2,p2,_⟩:=I.list<|SqL.of u2;have n1:its.toArray.size=ds.length:=by rw[aD,<-v1.length,q1.length]
  have n2:its2.toArray.size=es.length:=by rw[aD,<-v2.length,q2.length]
  by_cases hl:ds.length=es.length
  .rw[T9 hl]at h2
   obtain⟨ev,_⟩:=Xp h2;have ev':(aC ds.length).all (eAt (Pv.eqV 5) ds es)=b:=by
    rw[<-ev,<-hl];simp
   refine SeqAt.RcNeAt.lists p1.isList p2.isList #[0] #[0] (V2 I hu q1 q2 v1 v2 h2) X.prog X.w X.xe _ ?_
   rw[n1,ev'];exact#[.bl !b,H,I,rfl,q]
  .rw[T8 hl]at h2
   refine SeqAt.RcNeAt.lists_lengths p1.isList p2.isList (bne_iff_ne.mpr<|by lia) #[0] X.prog X.w X.xe _ ?_
   exact#[.bl !b,H,I,congrArg (λz=>bF !z)<|aq h2,q]
theorem GP(hf:∀x x' y v b b',Rep U H x v->Rep U H x' v->f x y=aa b->f x' y=aa b'->b=b') :
  ∀{ds ds' es:List D}{xs:List V}{b b':Bool},Rq U H ds xs->Rq U H ds' xs->Pv.YG f ds es=aa b->Pv.YG f ds' es=aa b'->b=b'
 |[],[],[],_,b,b',_,_,h,h'=>(aq h).symm.trans<|aq h'
 |[],[],_::_,_,b,b',_,_,h,h'=>(aq h).symm.trans<|aq h'
 |_::_,_::_,[],_,b,b',_,_,h,h'=>(aq h).symm.trans<|aq h'
 |d::ds,d'::ds',e::es,_,b,b',r1,r2,h,h'=>by
  obtain⟨v,vs,rfl,a1,b1⟩:=r1;obtain⟨v',vs',e',a2,b2⟩:=r2;cases e';unfold Pv.YG at h h';cases q1:f d e with
  |none=>rw[q1]at h;cases h
  |some p=>
   cases q2:Pv.YG f ds es with
   |none=>rw[q1,q2]at h;cases h
   |some q=>
    cases q3:f d' e with
    |none=>rw[q3]at h';cases h'
    |some p'=>
     cases q4:Pv.YG f ds' es with
     |none=>rw[q3,q4]at h';cases h'
     |some q'=>
      rw[q1,q2]at h;rw[q3,q4]at h';rw[<-(aq h),<-(aq h'),hf d d' e v p p' a1 a2 q1 q3,GP hf b1 b2 q2 q4]
 |[],_::_,_,_,b,b',r1,r2,_,_=>by
  have l2:=r2.length;rw[r1.length]at l2;simp at l2
 |_::_,[],_,_,b,b',r1,r2,_,_=>by
  have l2:=r2.length;rw[r1.length]at l2;simp at l2
theorem G4:∀k x x' y v b b',Rep U H x v->Rep U H x' v->Pv.eqV k x y=aa b->Pv.eqV k x' y=aa b'->b=b'
 |0,_,_,_,_,_,_,_,_,h,_=>by cases h
 |k+1,x,x',y,v,b,b',r1,r2,h,h'=>by
  by_cases hv:∃a,v=.ref a
  .obtain⟨p,rfl⟩:=hv
   rcases r1.ref (.inl h)with⟨ds,es,rfl,rfl⟩|⟨ds,es,rfl,rfl⟩<;>rcases r2.ref (.inl h')with⟨ds',es',rfl,z⟩|⟨ds',es',rfl,z⟩<;>cases z
   .obtain⟨_,_,z,e1,q1⟩:=r1.tup'
    cases z;obtain⟨_,_,z,e2,q2⟩:=r2.tup';cases z;rw[e1]at e2;cases e2;exact GP (λx x' y v b b'=>G4 k x x' y v b b') q1 q2 h h'
   .obtain⟨_,_,z,e1,_,q1⟩:=r1.lst'
    cases z;obtain⟨_,_,z,e2,_,q2⟩:=r2.lst';cases z;rw[e1]at e2;cases e2;have l:ds'.length=ds.length:=by rw[<-q1.length,q2.length]
    have h:(if ds.length=es.length then Pv.YG (Pv.eqV k) ds es else aa aj)=aa b:=h
    have h':(if ds'.length=es.length then Pv.YG (Pv.eqV k) ds' es else aa aj)=aa b':=h'
    rw[l]at h';by_cases c:ds.length=es.length
    .rw[T9 c]at h h'
     exact GP (λx x' y v b b'=>G4 k x x' y v b b') q1 q2 h h'
    .rw[T8 c]at h h'
     exact aq<|h.symm.trans h'
  .cases r1.sc r2 λa z=>hv #[a,z]
   exact aq<|h.symm.trans h'
theorem zK :∀{ds:List D}{b:Bool},Pv.X4 x ds=aa b->∀d∈ds,∃c,Pv.eqV Ev.Zz d x=aa c
 |[],_,_,d,hd=>by cases hd
 |y::ys,b,h,d,hd=>by
  unfold Pv.X4 at h;cases q1:Pv.eqV Ev.Zz y x with
  |none=>rw[q1]at h;cases h
  |some p=>
   cases q2:Pv.X4 x ys with
   |none=>rw[q1,q2]at h;cases h
   |some q=>
    rcases ay.mp hd with rfl|hd
    .exact#[p,q1]
    .exact zK q2 d hd
theorem qh :∀{ds:List D}{b:Bool},Pv.X4 x ds=aa b->(ds.any λd=>(Pv.eqV Ev.Zz d x).getD aj)=b
 |[],_,h=>aq h
 |y::ys,b,h=>by
  unfold Pv.X4 at h;cases q1:Pv.eqV Ev.Zz y x with
  |none=>rw[q1]at h;cases h
  |some p=>
   cases q2:Pv.X4 x ys with
   |none=>rw[q1,q2]at h;cases h
   |some q=>
    rw[q1,q2]at h;rw[fz,qh q2,q1,<-aq h];rfl
open Classical in
def VP(I:Inv X pq Z H s)(hu:A.units+6<dJ)(rx:Rep U H x v)(ex:ZA v vv)
  (q:Rq U H ds xs)(vs:Vals xs its)(h:Pv.X4 x ds=aa b):∃e,(∀u,u∈its.toArray->kI A s u vv (e u))/\its.toArray.any e=b:=by
 refine#[λu=>ag (∃d∈ds,∃w,Rep U H d w/\ZA w u/\Pv.eqV Ev.Zz d x=aa ao),λu hu'=>?_,?_]
 .have hu2:u∈its:=by simpa using hu'
  obtain⟨j,hj,e⟩:=bY hu2;have hl:j<ds.length:=by rw[<-q.length,vs.length];exact hj
  obtain⟨w,g,r⟩:=q.get<|af hl;obtain⟨u',g',r'⟩:=vs.get g;have eu:u'=u:=by
   rw[af hj]at g';exact(aq g').symm.trans e
  subst eu;obtain⟨c,hc⟩:=zK h ds[j]<|aR hl;have ec:ag (∃d∈ds,∃w,Rep U H d w/\ZA w u'/\Pv.eqV Ev.Zz d x=aa ao)=c:=by
   cases c with
   |true=>exact T5 #[ds[j],aR hl,w,r,r',hc]
   |false=>
    refine T4 ?_
    rintro ⟨d,hd,w',a1,a2,a3⟩
    cases a2.inj r';exact T7 (G4 6 d ds[j] x w ao aj a1 r a3 hc) #[1]
  dsimp only
  rw[ec];exact vF I 6 A ds[j] x w v u' vv c hu r rx r' ex hc
 .rw[<-qh h,List.any_toArray,cL,gD,gD]
  constructor
  .rintro ⟨u,hu1,h1⟩
   obtain⟨d,hd,w,a1,a2,a3⟩:=T6 h1;exact#[d,hd,by rw[a3];rfl]
  .rintro ⟨d,hd,h1⟩
   obtain⟨j,hj,e⟩:=bY hd;subst e;obtain⟨w,g,r⟩:=q.get<|af hj;obtain⟨u,g',r'⟩:=vs.get g;refine#[u,cU g',T5 #[ds[j],hd,w,r,r',?_]];obtain⟨c,hc⟩:=zK h ds[j] hd;rw[hc]at h1 ⊢;exact congrArg aa h1
section
variable{X:Cx}{xw:Nat->Hp->Prop}{C:Calls}{e a b c:Expr}{i j k:E}{pos p p':iV}
def ZhS(hu:X.A.units+7<dJ):OpR X (cM .In) (λv u H Q=>∃U S x ds b,St3 X.K U S H/\Rep U H x v/\(Rep U H (.tup ds) u\/Rep U H (.lst ds) u)/\Pv.X4 x ds=aa b/\Q (.bl b) H):=by
 intro pq s Z H v u vv uu Q I e1 e2 h;obtain⟨U,S,x,ds,b,st,rx,ry,hb,q⟩:=h;rcases ry with ry|ry
 .obtain⟨p,xs,rfl,hp,q1⟩:=ry.tup'
  cases e2;obtain⟨its,v1,t1,_⟩:=I.tuple<|SqT.of hp;obtain⟨f,h1,h2⟩:=VP I (Y7 hu) rx e1 q1 v1 hb;exact SeqAt.in_tupleAt f t1 h1 (by rw[h2];exact#[.bl b,H,I,rfl,q])
 .obtain⟨p,xs,rfl,hx,_,q1⟩:=ry.lst'
  cases e2;obtain⟨its,v1,t1,_⟩:=I.list<|SqL.of hx;obtain⟨f,h1,h2⟩:=VP I (Y7 hu) rx e1 q1 v1 hb;exact SeqAt.in_listAt f t1.isList h1 (by rw[h2];exact#[.bl b,H,I,rfl,q])
def ZdI(hu:X.A.units+7<dJ):OpR X (cM .NotIn) (λv u H Q=>∃U S x ds b,St3 X.K U S H/\Rep U H x v/\(Rep U H (.tup ds) u\/Rep U H (.lst ds) u)/\Pv.X4 x ds=aa b/\Q (.bl !b) H):=by
 intro pq s Z H v u vv uu Q I e1 e2 h;obtain⟨U,S,x,ds,b,st,rx,ry,hb,q⟩:=h;rcases ry with ry|ry
 .obtain⟨p,xs,rfl,hp,q1⟩:=ry.tup'
  cases e2;obtain⟨its,v1,t1,_⟩:=I.tuple<|SqT.of hp;obtain⟨f,h1,h2⟩:=VP I (Y7 hu) rx e1 q1 v1 hb;exact SeqAt.notIn_tupleAt f t1 h1 (by rw[h2];exact#[.bl !b,H,I,rfl,q])
 .obtain⟨p,xs,rfl,hx,_,q1⟩:=ry.lst'
  cases e2;obtain⟨its,v1,t1,_⟩:=I.list<|SqL.of hx;obtain⟨f,h1,h2⟩:=VP I (Y7 hu) rx e1 q1 v1 hb;exact SeqAt.notIn_listAt f t1.isList h1 (by rw[h2];exact#[.bl !b,H,I,rfl,q])
variable{U:Mx}{H:Hp}{S:ZO}{x y:D}{v u:V}{Q:VK}{K:ap}
def ZeT(h:Pv.int2 x y=aa z):x=.int z.1/\y=.int z.2:=by
 cases x<;>first|exact Ev.nos h|(cases y<;>first|exact Ev.nos h|(cases h;exact#[rfl,rfl]))
def zb{f:Int×Int->Bool}(st:St3 K U S H)(rx:Rep U H x v)(ry:Rep U H y u)(h:End K xw Rep U H Q (Pv.po ((Pv.int2 x y).map λz=>.bl<|f z) S)):rI0 (λi j=>.bl<|f (i,j)) v u H Q:=by
 obtain⟨z,hz,h⟩:=End.map h;obtain⟨rfl,rfl⟩:=ZeT hz;exact#[_,_,rx.int',ry.int',End.ok h st<|Yn _]
end
section
variable{X:Cx}{xw:Nat->Hp->Prop}{C:Calls}{e a b c:Expr}{i j k:E}{pos p p':iV}
def Wy{B β γ:Type}(r:R B)(f)(g:β->ZO->R γ):(r.bind f).bind g=r.bind λa S=>(f a S).bind g:=by cases r<;>rfl
def Zg4{B:Type}{o:Option B}{f:B->Bool}(h:o.map (λa=>Pv.V.bl<|f a)=aa z):∃b,z=.bl b:=by
 obtain⟨a,_,rfl⟩:=bK.mp h;exact#[_,rfl]
def Zav{o:Cop}{x y:D}{S S':ZO}{z:D}(h:Pv.po (Pv.Y3 o x y) S=.ok z S'):∃b,z=.bl b:=by
 have h:Pv.Y3 o x y=aa z:=by
  cases q:Pv.Y3 o x y<;>rw[q]at h<;>cases h;rfl
 cases o<;>exact Zg4 h
def Xu(X:Cx)(xw:Nat->Hp->Prop)(op:CmpOp)(o:Cop):Prop:=OpR X (cM op)<|Zfi X.K xw o
def OpR.imp(h:OpR X f r)(k:∀v u H Q,r' v u H Q->r v u H Q):OpR X f r':=λpq s Z H x y v u Q I e1 e2 q=>h pq s Z H x y v u Q I e1 e2<|k x y H Q q
theorem Zck(hu:X.A.units+7<dJ):Xu X xw .Eq .eq:=ZhE #[0]
theorem Za0(hu:X.A.units+7<dJ):Xu X xw .NotEq .ne:=Zhk #[0]
def Gq(hu:X.A.units+7<dJ):Xu X xw .LtE .le:=OpR.imp ZiL<|by rintro v u H Q ⟨U,S,x,y,st,rx,ry,h⟩;exact zb st rx ry h
def Zc9(hu:X.A.units+7<dJ):Xu X xw .Gt .gt:=OpR.imp Zi1<|by rintro v u H Q ⟨U,S,x,y,st,rx,ry,h⟩;exact zb st rx ry h
def ZbB(hu:X.A.units+7<dJ):Xu X xw .GtE .ge:=OpR.imp Zip<|by rintro v u H Q ⟨U,S,x,y,st,rx,ry,h⟩;exact zb st rx ry h
def Zdn{b:Bool}(rx:Rep U H x v)(ry:Rep U H y u)(h:Pv.isV x y=aa b):(u=.non/\ag (v=.non)=b)\/∃i j,v=.bl i/\u=.bl j/\ag (i=j)=b:=by
 cases y with
 |non=>
  refine .inl #[ry.non',?_];rw[<-aq h];cases x<;>unfold Rep at rx<;>first
   |(subst rx;rfl)
   |(obtain⟨_,z,_⟩:=rx;subst z;rfl)
   |(obtain⟨_,_,z,_⟩:=rx;subst z;rfl)
 |bl j=>cases x with|bl i=>exact .inr #[i,j,rx.bl',ry.bl',aq h]|_=>exact Ev.nos h
 |_=>exact Ev.nos h
def Zcj(hu:X.A.units+7<dJ):Xu X xw .Is .is:=OpR.imp (Zh1.or Zgx)<|by
 rintro v u H Q ⟨U,S,x,y,st,rx,ry,h⟩;obtain⟨b,hb,h⟩:=End.map h;have q:=End.ok h st<|Yn b;rcases Zdn rx ry hb with⟨e,z⟩|⟨i,j,e,e2,z⟩
 .exact .inl #[e,by rw[z];exact q]
 .exact .inr #[i,j,e,e2,by rw[z];exact q]
def wD(hu:X.A.units+7<dJ):Xu X xw .IsNot .isn:=OpR.imp (Zfc.or Ze2)<|by
 rintro v u H Q ⟨U,S,x,y,st,rx,ry,h⟩;obtain⟨b,hb,h⟩:=End.map h;have q:=End.ok h st<|Yn !b;rcases Zdn rx ry hb with⟨e,z⟩|⟨i,j,e,e2,z⟩
 .exact .inl #[e,by rw[z];exact q]
 .exact .inr #[i,j,e,e2,by rw[decide_not,z];exact q]
def xx{u:V}{b:Bool}(ry:Rep U H y u)(h:Pv.UG x y=aa b) :
  (∃ds,(Rep U H (.tup ds) u\/Rep U H (.lst ds) u)/\Pv.X4 x ds=aa b)\/
  (∃(l:List #[28])(k:List D)(ks:List Int),(∃(p:aO)(vs:List (List Key×V)),u=.ref p/\Rd H p (.dT vs)/\vs.map (·.1)=l.map (·.map cY))/\x=.tup k/\Pv.intsV k=aa ks/\l.contains ks=b):=by
 cases y with
 |tup ys=>exact .inl #[ys,.inl ry,h]
 |lst ys=>exact .inl #[ys,.inr ry,h]
 |dct o=>
  cases o with
  |inl _=>exact Ev.nos h
  |inr l=>
   cases x with
   |tup k=>
    obtain⟨ks,e,z⟩:=bK.mp h;obtain⟨p,e1,o,vs,e2,e3⟩:=ry.dct';exact .inr #[l,k,ks,#[p,vs,e1,.inr #[o,e2],e3],rfl,e,z]
   |_=>exact Ev.nos h
 |dow l=>
  cases x with
  |tup k=>
   obtain⟨ks,e,z⟩:=bK.mp h;obtain⟨p,vs,e1,e2,_,e3⟩:=ry.dow';exact .inr #[l,k,ks,#[p,vs,e1,.inl e2,e3],rfl,e,z]
  |_=>exact Ev.nos h
 |_=>exact Ev.nos h
def Xw(hc:Xu X xw op o)(ha:CE X xw C a i)(hb:CE X xw C b j)(hm:eC op b=aj):CE X xw C (.Compare a [op] [b] pos) (.cmp o i j):=.mk <|
 PE.imp (ZeQ hc ha.h hb.h hm) (Zgf)
def XD(hc:Xu X xw op o)(ha:CE X xw C a i)(hb:CE X xw C b j)(hm:eC op b=aj):CT X xw C (.Compare a [op] [b] pos) (.cmp o i j):=.mk <|
 PT.imp (Zdy hc ha.h hb.h hm)<|by
  left;have h':End X.K xw QE U H Q (((Pv.pv C i l S).bind λx S=>(Pv.pv C j l S).bind λy S=>Pv.po (Pv.Y3 o x y) S).bind λx S=>Pv.po (Pv.Zy x) S):=h
  simp only[Wy]at h';refine#[U,l,S,st,lr,h'.bind λx S1 ρ1 H1 v f1 st1 r1 h1=>#[ρ1,l,S1,st1,lr.mono f1,h1.bind λy S2 ρ2 H2 u f2 st2 r2 h2=>#[ρ2,S2,x,y,st2,r1.mono f2,r2,?_]]]
  have h3:∀{r:R D},(∀z S',r=.ok z S'->∃b,z=.bl b)->End X.K xw QE ρ2 H2 Q (r.bind λx S=>Pv.po (Pv.Zy x) S)->End X.K xw Rep ρ2 H2 (λx H'=>∃k,x=V.bl k/\Q k H') r:=λ{r} hr h=>by
   cases r with
   |no=>exact h
   |ex _ _=>exact h
   |ok z S3=>
    obtain⟨b,rfl⟩:=hr z S3 rfl;exact λρ3 H3 w f3 st3 r3=>#[b,r3.bl',h ρ3 H3 b f3 st3 rfl]
  exact h3 (λz S' e=>Zav e) h2
def xO(hc:Xu X xw op o)(hc':Xu X xw op' o')(ha:CE X xw C a i)(hb:CE X xw C b j)(hd:CE X xw C d k)
  (hm:lastMarks [op,op'] [b,d]=aj):CE X xw C (.Compare a [op,op'] [b,d] pos) (.chain o o' i j k):=.mk <|
 PE.imp (ZbL hc hc' ha.h hb.h hd.h hm)<|by
  left;refine#[U,l,S,st,lr,End.bind (h) λx S1 ρ1 H1 v f1 st1 r1 h1=>#[ρ1,l,S1,st1,lr.mono f1,h1.bind λy S2 ρ2 H2 u f2 st2 r2 h2=>#[ρ2,S2,x,y,st2,r1.mono f2,r2,h2.bind λz S3 ρ3 H3 w f3 st3 r3 h3=>?_]]]
  cases z with
  |bl n=>
   refine#[n,r3.bl',?_];cases n with|true=>exact#[ρ3,l,S3,st3,((lr.mono f1).mono f2).mono f3,End.bind (h3) λt S4 ρ4 H4 t' f4 st4 r4 h4=>#[ρ4,S4,y,t,st4,(r2.mono f3).mono f4,r4,h4]]|false=>exact End.ok h3 st3<|Yn _
  |_=>exact False.elim h3
end
section
variable{X:Cx}{xw:Nat->Hp->Prop}{C:Calls}{e a b c:Expr}{i j k:E}{pos p p' p2:iV}
variable{U:Mx}{H:Hp}{S:ZO}{x y:D}{v u:V}{Q:VK}{K:ap}
def V6{k:List Int}(h:Pv.intsV (d::ks)=aa k):∃n r,d=.int n/\Pv.intsV ks=aa r/\k=n::r:=by
 cases d<;>first|exact Ev.nos h|(obtain⟨r,e,z⟩:=bK.mp h;exact#[_,r,rfl,e,z.symm])
theorem XI:∀{ks:List D}{k:List Int}{xs:List V},Pv.intsV ks=aa k->Rq U H ks xs->xs=(k.map (cY:Int->Key)).map kV
 |[],k,xs,h,r=>by cases h;rw[r];rfl
 |d::ks,k,xs,h,r=>by
  obtain⟨v,vs,rfl,a1,b1⟩:=r;obtain⟨n,r,rfl,e,rfl⟩:=V6 h;rw[a1.int',XI e b1];rfl
theorem G9:∀{k k':List Int},k.map (cY:Int->Key)=k'.map cY->k=k'
 |[],[],_=>rfl
 |[],_::_,h=>by simp at h
 |_::_,[],h=>by simp at h
 |a::k,b::k',h=>by
  rw[ba]at h;injection h with h1 h2
  rw[cY.inj h1,G9 h2]
def Uy{k:List Int}{l:List #[28]}(h:vs.map (·.1)=l.map (·.map (cY:Int->Key))):(UV vs<|k.map cY).isSome=l.contains k:=by
 rw[<-Wu,show(vs.any λkv=>ag<|kv.1=k.map cY)=(vs.map (·.1)).any λy=>ag (y=k.map cY) by rw[List.any_map];rfl,h,List.any_map,List.contains_eq_any_beq]
 congr 1
 funext y
 show ag (y.map cY=k.map cY)=(k == y);by_cases z:y=k
 .subst z;simp
 .rw[T4 λw=>z<|G9 w,beq_eq_false_iff_ne.mpr<|Ne.symm z]
theorem Zgl(hu:X.A.units+7<dJ):OpR X (cM .In) (λv u H Q=>∃a y o,u=.ref a/\v=y/\DGet H a y o/\Q (.bl o.isSome) H):=by
 intro pq s Z H v u vv uu Q I e1 e2 h;obtain⟨a,y,o,rfl,rfl,g,q⟩:=h;cases e2;exact Zjt #[0] I g e1 λs' I'=>#[.bl o.isSome,H,I',rfl,q]
theorem ZdY(hu:X.A.units+7<dJ):OpR X (cM .NotIn) (λv u H Q=>∃a y o,u=.ref a/\v=y/\DGet H a y o/\Q (.bl !o.isSome) H):=by
 intro pq s Z H v u vv uu Q I e1 e2 h;obtain⟨a,y,o,rfl,rfl,g,q⟩:=h;cases e2;exact Ze1 #[0] I g e1 λs' I'=>#[.bl !o.isSome,H,I',rfl,q]
def ZcV(hu:X.A.units+7<dJ):Xu X xw .In .inn:=OpR.imp ((ZhS hu).or<|Zgl hu)<|by
 rintro v u H Q ⟨U,S,x,y,st,rx,ry,h⟩;obtain⟨b,hb,h⟩:=End.map h;have q:=End.ok h st<|Yn _;rcases xx ry hb with⟨ds,hy,hb⟩|⟨l,k,ks,hy,rfl,hk,e⟩
 .exact .inl #[U,S,x,ds,b,st,rx,hy,hb,q]
 .obtain⟨p,vs,rfl,hx,r⟩:=hy
  obtain⟨a,xs,rfl,ha,r2⟩:=rx.tup';refine .inr #[p,.ref a,_,rfl,rfl,.inr #[vs,_,a,hx,rfl,by rw[ha,XI hk r2],rfl],?_]
  rw[Uy r,e];exact q
def vt(hu:X.A.units+7<dJ):Xu X xw .NotIn .nin:=OpR.imp ((ZdI hu).or<|ZdY hu)<|by
 rintro v u H Q ⟨U,S,x,y,st,rx,ry,h⟩;obtain⟨b,hb,h⟩:=End.map h;have q:=End.ok h st<|Yn _;rcases xx ry hb with⟨ds,hy,hb⟩|⟨l,k,ks,hy,rfl,hk,e⟩
 .exact .inl #[U,S,x,ds,b,st,rx,hy,hb,q]
 .obtain⟨p,vs,rfl,hx,r⟩:=hy
  obtain⟨a,xs,rfl,ha,r2⟩:=rx.tup';refine .inr #[p,.ref a,_,rfl,rfl,.inr #[vs,_,a,hx,rfl,by rw[ha,XI hk r2],rfl],?_]
  rw[Uy r,e];exact q
def ZgO(r:Rq U H ds xs)(q:Ev.at' ds n=aa d):∃w,atI xs n=aa w/\Rep U H d w:=by
 obtain⟨m,q2,q⟩:=cx.mp q;obtain⟨w,g,rw'⟩:=r.get q;refine#[w,?_,rw'];unfold atI;rw[r.length,show ixN ds.length n=aa m from q2]
 exact g
def ZiQ(ha:CE X xw C a i)(hb:CE X xw C b j)(hs:uI b):CE X xw C (.Subscript a b pos) (.ix i j):=.mk <| PE.imp (Zbc (zd.or Zib) ha.h hb.h hs) (Wt λ{U H S x y v u Q} st rx ry h=>by
 obtain⟨d,hd,g0⟩:=End.po h;have k:∃ds n,Pv.YJ x=aa ds/\y=.int n/\Ev.at' ds n=aa d:=by
  cases y with
  |int n=>
   cases x with
   |tup ds=>exact#[ds,n,rfl,rfl,hd]
   |lst ds=>exact#[ds,n,rfl,rfl,hd]
   |scr ns=>
    obtain⟨z,e,rfl⟩:=bK.mp hd;obtain⟨m,q2,q⟩:=cx.mp e;refine#[_,n,rfl,rfl,?_];unfold Ev.at';rw[av,q2];show(ns.map Pv.V.int)[m]?=_;rw[aK,q];rfl
   |_=>exact Ev.nos hd
  |_=>cases x<;>exact Ev.nos hd
 obtain⟨ds,n,e,rfl,hn⟩:=k;obtain⟨p,xs,rfl,hp,r⟩:=rx.seq e;obtain⟨w,g,rw'⟩:=ZgO r hn;rw[st.hk]at hp;have q:=End.ok g0 st rw';rcases hp with hp|hp
 .exact .inl #[p,xs,n,w,rfl,ry.int',hp,g,q]
 .exact .inr #[p,xs,n,w,rfl,ry.int',hp,g,q])
def Zel:CO X xw C ai ai:=.mk <| PO.imp Zfd<|by left;exact End.ok h st rfl
def ZeK(h:CE X xw C e i):CO X xw C (aa e) (aa i):=.mk <| PO.imp (ZW h.h)<|by
 left;refine#[U,l,S,st,lr,End.bind (h) λx S1 ρ1 H1 v f1 st1 r1 h1=>?_]
 cases x with|int n=>exact#[n,r1.int',End.ok h1 st1 rfl]|_=>exact False.elim h1
def ZbP(n d o):Ev.sIx n d o=HT.sIx n d o:=by
 cases o with
 |none=>rfl
 |some i=>first|rfl|(rfl)
def uH(r:Rq U H ds xs)(lo hi):Rq U H (Pv.Yj ds lo hi) (Yj xs lo hi):=by
 unfold Pv.Yj Yj;rw[r.length];exact(r.drop _).take _
def Zie{lo hi:Option Expr}{il ih:Option E}(ha:CE X xw C a i)(hl:CO X xw C lo il)(hh:CO X xw C hi ih):CE X xw C (.Subscript a (.Slice lo hi ai p2) pos) (.sl i il ih):=.mk <|
 PE.imp (Zde (ZgH.or<|Zdg.or Zfg) ha.h hl.h hh.h)<|by
  left;refine#[U,l,S,st,lr,End.bind (h) λx S1 ρ1 H1 v f1 st1 r1 h1=>#[ρ1,l,S1,st1,lr.mono f1,h1.bind λy S2 ρ2 H2 u f2 st2 r2 h2=>#[ρ2,l,S2,st2,(lr.mono f1).mono f2,h2.bind λz S3 ρ3 H3 w f3 st3 r3 h3=>?_]]]
  subst r2 r3;have r0:=(r1.mono f2).mono f3;cases x with
  |tup ds=>
   obtain⟨p,xs,rfl,hp,r⟩:=r0.tup';have h':=h3;by_cases hw:HT.sIx xs.length 0 y=0/\HT.sIx xs.length xs.length z=xs.length
   .refine .inr (.inl #[p,xs,rfl,SqT.of hp,hw,End.ok h' st3 ?_])
    have ew:Pv.Yj ds y z=ds:=by
     unfold Pv.Yj;rw[ZbP,ZbP,<-r.length,hw.1,hw.2,kM,Nat.sub_zero,r.length,gE]
    rw[ew];exact Xn hp r
   .exact .inl #[p,xs,rfl,SqT.of hp,hw,h'.newT st3<|uH r y z]
  |lst ds=>
   obtain⟨p,xs,rfl,hp,_,r⟩:=r0.lst';exact .inr<|.inr #[p,xs,rfl,SqL.of hp,End.newL (h3) st3<|uH r y z]
  |_=>exact False.elim h3
def UT(K:ap)(xw:Nat->Hp->Prop)(f:Bf):List V->Hp->VK->Prop:=λvs H Q=>∃U S ds,St3 K U S H/\Rq U H ds vs/\End K xw Rep U H Q (Pv.po (Pv.X3 f ds) S)
def ZG.imp(h:ZG X f r)(k:∀vs H Q,r' vs H Q->r vs H Q):ZG X f r':=λpq s Z H xs us Q I e q=>h pq s Z H xs us Q I e<|k xs H Q q
def Zdf :∀Z H Q,tE X xw (Pv.pv C<|.blt f is) Z H Q->tCB (UT X.K xw f) (tA X xw<|Pv.pvs C is) Z H Q:=λZ H Q #[U,l,S,st,lr,h]=>
 #[U,l,S,st,lr,End.bind (h) λxs S1 ρ1 H1 vs f1 st1 r1 h1=>#[ρ1,S1,xs,st1,r1,h1]]
def ZaN(r:Rq U H [d] vs):∃v,vs=[v]/\Rep U H d v:=by
 obtain⟨v,ws,rfl,a1,b1⟩:=r;exact#[v,by rw[b1],a1]
def yt{d e:D}(r:Rq U H [d,e] vs):∃v w,vs=[v,w]/\Rep U H d v/\Rep U H e w:=by
 obtain⟨v,ws,rfl,a1,b1⟩:=r;obtain⟨w,rfl,b2⟩:=ZaN b1;exact#[v,w,rfl,a1,b2]
def Wi(h:End K xw rep U H Q (Pv.po (Pv.X3 f ds) S))(r:Rq U H ds vs)(h1:f≠.max2:=by decide)(h2:f≠.min2:=by decide)(h3:f≠.index:=by decide):∃d v z,vs=[v]/\Rep U H d v/\Pv.blt1 f d=aa z/\End K xw rep U H Q (.ok z S):=by
 obtain⟨z,hz,g⟩:=End.po h
 match ds,hz with
 |[d],hz=>obtain⟨v,rfl,rv⟩:=ZaN r;exact#[d,v,z,rfl,rv,hz,g]
 |[x,y],hz=>
  cases f<;>first|exact Ev.nos hz|contradiction
def Zf7(h:End K xw Rep U H Q (Pv.po (Pv.X3 f ds) S))(r:Rq U H ds vs)(h1:∀d,Pv.blt1 f d=ai)(h3:f≠.index:=by decide):∃m n z,vs=[.int m,.int n]/\Pv.blt2 f (.int m) (.int n)=aa z/\End K xw Rep U H Q (.ok z S):=by
 obtain⟨z,hz,g⟩:=End.po h
 match ds,hz with
 |[d],hz=>exact Ev.nos<|(h1 d).symm.trans hz
 |[x,y],hz=>
  have:∃a b,x=.int a/\y=.int b:=by
   cases f<;>first|exact Ev.nos hz|contradiction|(obtain⟨a,ha,q⟩:=cx.mp hz;obtain⟨b,hb,_⟩:=cx.mp q;exact#[a,b,Pv.uh ha,Pv.uh hb])
  obtain⟨a,b,rfl,rfl⟩:=this;obtain⟨v,w,rfl,r1,r2⟩:=yt r;exact#[_,_,z,by rw[r1.int',r2.int'],hz,g]
def vX:ZG X (.builtin "len") (UT X.K xw .len):=ZG.imp zr<|by
 rintro vs H Q ⟨U,S,ds,st,r,h⟩;obtain⟨d,v,z,rfl,rv,hz,h⟩:=Wi h r;obtain⟨xs,hx,rfl⟩:=bK.mp hz;obtain⟨p,ys,rfl,hq,r2⟩:=rv.seq hx;refine#[p,ys,rfl,by rw[<-st.hk];exact hq,?_]
 rw[r2.length];exact End.ok h st<|ZT _
def ub(hc:X.calm=ao):ZG X (.builtin "max") (UT X.K xw .max2):=ZG.imp (jt hc)<|by
 rintro vs H Q ⟨U,S,ds,st,r,h⟩;obtain⟨m,n,z,rfl,hz,h⟩:=Zf7 h r λ_=>rfl
 cases hz;exact#[m,n,rfl,End.ok h st<|ZT _]
def qC(hc:X.calm=ao):ZG X (.builtin "min") (UT X.K xw .min2):=ZG.imp (jL hc)<|by
 rintro vs H Q ⟨U,S,ds,st,r,h⟩;obtain⟨m,n,z,rfl,hz,h⟩:=Zf7 h r λ_=>rfl
 cases hz;exact#[m,n,rfl,End.ok h st<|ZT _]
def ux:ZG X (.type "int") (UT X.K xw .toInt):=ZG.imp js<|by
 rintro vs H Q ⟨U,S,ds,st,r,h⟩;obtain⟨d,v,z,rfl,r1,hz,h⟩:=Wi h r;cases d with|int m=>cases hz;exact .inl #[m,by rw[r1.int'],End.ok h st<|ZT _]|bl m=>cases hz;exact .inr #[m,by rw[r1.bl'],End.ok h st<|ZT _]|_=>exact Ev.nos hz
def Gh:ZG X (.type "tuple") (UT X.K xw .tuple):=ZG.imp JD<|by
 rintro vs H Q ⟨U,S,ds,st,r,h⟩;obtain⟨d,v,z,rfl,r1,hz,h⟩:=Wi h r;cases d with|tup ds=>cases hz;obtain⟨p,xs,rfl,hp,r2⟩:=r1.tup';exact#[p,xs,rfl,.inr #[SqT.of hp,End.ok h st r1]]|lst ds=>cases hz;obtain⟨p,xs,rfl,hp,_,r2⟩:=r1.lst';exact#[p,xs,rfl,.inl #[SqL.of hp,h.newT st r2]]|scr ns=>cases hz;obtain⟨p,rfl,hp⟩:=r1.scr';rw[st.hk]at hp;exact#[p,_,rfl,.inl #[hp.sq,h.newT st<|Rq.ints ns]]|_=>exact Ev.nos hz
def WX{id:String}{x:bR}(hc:ZG X (.builtin id) (UT X.K xw f))(hm:X.mg x=ai)(ha:CA X xw C (e::es) is)(hg:Gl X x)(hv:d4 x=aa (.builtin id))(hn:x≠"__name__")(hdb:(x == #[11])=aj)
  (he:aE (e::es) X.env=#[27]::aE es X.env)(hpl:(dS pos<|aE es X.env).any (·.1)=aj):CE X xw C #[26] (.blt f is):=.mk <|
 PE.imp (Wl hc hg hm hv ha.h hn hdb he hpl) Zdf
def zu{id:String}{x:bR}(hc:ZG X (.type id) (UT X.K xw f))(hm:X.mg x=ai)(ha:CA X xw C (e::es) is)(hg:Gl X x)(hv:d4 x=aa (.type id))(hn:x≠"__name__")(hdb:(x == #[11])=aj)
  (he:aE (e::es) X.env=#[27]::aE es X.env)(hpl:(dS pos<|aE es X.env).any (·.1)=aj):CE X xw C #[26] (.blt f is):=.mk <|
 PE.imp (GH hc hg hm hv ha.h hn hdb he hpl) Zdf
end
section
variable{X:Cx}{xw:Nat->Hp->Prop}{C:Calls}{e a b c:Expr}{i j k:E}{pos p p' p2:iV}
theorem Vc:∀{ds:List D}{bs:List Bool},Pv.Z2 ds=aa bs->bs.length=ds.length/\∀j d,ds[j]?=aa d->Pv.Qj d=aa (bs.getD j aj)
 |[],bs,h=>by cases h;exact#[rfl,λj d e=>by simp at e]
 |d::ds,bs,h=>by
  unfold Pv.Z2 at h;cases q1:Pv.Qj d with
  |none=>rw[q1]at h;cases h
  |some b=>
   cases q2:Pv.Z2 ds with
   |none=>rw[q1,q2]at h;cases h
   |some cs=>
    rw[q1,q2]at h;cases h;obtain⟨l,ih⟩:=Vc q2;refine#[by rw[aQ,aQ,l],λj d' e=>?_]
    cases j with|zero=>simp at e;subst e;simpa using q1|succ j=>simpa using ih j d' (by simpa using e)
def qO(bs:List Bool):(aC bs.length).all (λj=>bs.getD j aj)=bs.all id:=by
 rw[cL,aV,aV]
 constructor
 .intro h b hb
  obtain⟨j,hj,e⟩:=bY hb;have:=h j<|aI.mpr hj
  simpa[af hj,e]using this
 .intro h j hj
  have hj':=aI.mp hj
  simpa[af hj']using h bs[j]<|aR hj'
def jP(bs:List Bool):(aC bs.length).any (λj=>bs.getD j aj)=bs.any id:=by
 rw[cL,gD,gD]
 constructor
 .rintro ⟨j,hj,h⟩
  have hj':=aI.mp hj;exact#[bs[j],aR hj',by simpa[af hj']using h]
 .rintro ⟨b,hb,h⟩
  obtain⟨j,hj,e⟩:=bY hb;exact#[j,aI.mpr hj,by simpa[af hj,e]using h]
def VG(r:Rep U H d v)(e:ZA v u)(h:Pv.Qj d=aa n)(s Q E)(q:Q n s) :
  aY #[8] A (sf u) Q E s:=by
 cases d with
 |non=>cases r.non';cases e;cases h;exact truthy_none q
 |bl b=>cases r.bl';cases e;cases h;exact d6 q
 |int m=>
  cases r.int';obtain⟨t,rfl⟩:=e;refine nQ ?_;have:(m != 0)=n:=by
   rw[<-(aq h)];by_cases z:m=0
   .subst z;rfl
   .rw[T5 z];exact bne_iff_ne.mpr z
  rw[this];exact q
 |_=>cases h
def qZ(hc:X.calm=ao):ZG X (.builtin "all") (λvs H Q=>∃U ds v bs,vs=[v]/\Rep U H (.lst ds) v/\Pv.Z2 ds=aa bs/\Q (.bl<|bs.all id) H):=by
 intro pq s Z H vs us Q I r h;obtain⟨U,ds,v,bs,rfl,rs,hb,q⟩:=h;obtain⟨p,xs,rfl,hx,_,rx⟩:=rs.lst';obtain⟨u,rfl,ru⟩:=X9 r;cases ru;obtain⟨its,rv,pl,hz⟩:=I.list<|SqL.of hx;obtain⟨lb,tb⟩:=Vc hb;have hlt:p<s.heap.objs.size:=by obtain⟨_,e,_⟩:=pl.isList;exact aG e
 have hlen:its.toArray.size=bs.length:=by rw[aD,<-rv.length,rx.length,lb]
 refine call_all_walk<|fb pl.isList #[s.heap.objs.size,[s.heap.objs.size,p],[s.heap.objs.size],its.toArray.size,(λi v=>its.toArray[i]?=aa v),(λi h=>h.IsListIter s.heap.objs.size p i/\h.IsList p its.toArray),λj=>bs.getD j aj,rfl,rh (A:=X.A.in1) (I.ok.hd hc) s.heap.objs.size p (a8 hlt) its.toArray,#[#[_,aH _ rfl,rfl,rfl],pl.isList.push _],?_,?_]
 .intro j v s' Q' E' hv hQ'
  have hj:its[j]?=aa v:=by simpa using hv
  have jl:j<ds.length:=by
   have:=(aN.mp hj).1;rw[<-rv.length,rx.length]at this;exact this
  obtain⟨w',g,r'⟩:=rx.get<|af jl;obtain⟨u',g',ru'⟩:=rv.get g;rw[hj]at g';cases g';exact VG r' ru' (tb j _<|af jl) s' Q' E' hQ'
 .intro h' tk hk
  rw[hlen,qO];have kp:=λb o e=>hk b o (λhm=>by
   have:b=s.heap.objs.size:=by simpa using hm
   exact T7 (this▸aG e)<|bv _)<|au _ e
  exact#[.bl<|bs.all id,H,I.kept (t':=tk) kp,rfl,q]
def vZ(hc:X.calm=ao):ZG X (.builtin "all") (UT X.K xw .all):=ZG.imp (qZ hc)<|by
 rintro vs H Q ⟨U,S,ds,st,r,h⟩;obtain⟨d,v,z,rfl,r1,hz,h⟩:=Wi h r;cases d with|lst ds=>obtain⟨bs,hb,rfl⟩:=bK.mp hz;exact#[U,ds,v,bs,rfl,r1,hb,End.ok h st<|Yn _]|_=>exact Ev.nos hz
noncomputable def zo:Ty->String
 |.int=>"int" | .bool=>"bool" | .str=>"str" | .tuple=>"tuple" | .list=>"list" | .dict=>"dict" | .cls _=>""
def Zhl{K:ap}{x:D}{v:V}{t:Ty}(rx:Rep U H x v)(ht:∀m,t≠.cls m)(h:Pv.Wc x t=aa n) :
  ∃tv,TyOf K H v tv/\gq K tv (.type<|zo t)=aa n:=by
 cases x with
 |non=>rw[rx.non'];refine#[_,.non,?_];cases h;cases t<;>first|rfl|exact T7 rfl<|ht _
 |bl b=>rw[rx.bl'];refine#[_,.bl b,?_];cases h;cases t<;>first|rfl|exact T7 rfl<|ht _
 |int b=>rw[rx.int'];refine#[_,.int b,?_];cases h;cases t<;>first|rfl|exact T7 rfl<|ht _
 |str b=>rw[rx.str'];refine#[_,.str b,?_];cases h;cases t<;>first|rfl|exact T7 rfl<|ht _
 |tup ds=>
  obtain⟨p,xs,rfl,hp,_⟩:=rx.tup';refine#[_,.tup hp,?_];cases h;cases t<;>first|rfl|exact T7 rfl<|ht _
 |lst ds=>
  obtain⟨p,xs,rfl,hp,_⟩:=rx.lst';refine#[_,.lst hp,?_];cases h;cases t<;>first|rfl|exact T7 rfl<|ht _
 |dct o=>
  cases o with
  |inr _=>exact Ev.nos h
  |inl _=>
   obtain⟨p,rfl,e⟩:=rx.dct';refine#[_,.dK e,?_];cases h;cases t<;>first|rfl|exact T7 rfl<|ht _
 |_=>exact Ev.nos h
def Zb7(T):ZG X (.builtin "isinstance") (λvs H Q=>∃v tv n,vs=[v,.ty T]/\TyOf X.K H v tv/\gq X.K tv (.type T)=aa n/\Q (.bl n) H):=by
 intro pq s Z H vs us Q I r h;obtain⟨v,tv,n,rfl,ty,e,q⟩:=h;obtain⟨u,w',rfl,r1,r2⟩:=ZcY r;cases r2;exact qT I r1 ty e λtk=>#[.bl n,H,I.tok tk,rfl,q]
def Qr{t:Ty}(ht:∀m,t≠.cls m)(hm:X.mg "isinstance" = ai)(hmT:X.mg T=ai)(ha:CE X xw C a i)(hg:Gl X "isinstance")(hgT:Gl X T)(hvT:d4 T=aa (.type<|zo t))(hnT:T≠"__name__")(hdT:(T == #[11])=aj)
  (hs1:aE [a,.Name T p2] X.env=(aj,cR a X.env)::aE [.Name T p2] X.env)(hs2:aE [.Name T p2] X.env=(aj,cR (.Name T p2) X.env)::aE [] X.env)(hpl:(dS pos<|aE [.Name T p2] X.env).any (·.1)=aj) :
  CE X xw C (.Call (.Name "isinstance" p) [a,.Name T p2] [] pos) (.isi i [t]):=.mk <|
 PE.imp (Wl (Zb7<|zo t) hg hm #[7] (ZS ha.h (ZS (ua (v:=.ty<|zo t) hgT hmT hvT rfl hnT hdT) Xb hs2) hs1) #[1] #[1] hs1 hpl)<|by
  left;refine#[U,l,S,st,lr,End.bind (h) λx S1 ρ1 H1 v f1 st1 r1 h1=>?_]
  obtain⟨n,hn,h2⟩:=End.ob h1;have hn':Pv.Wc x t=aa n:=by
   unfold Pv.Yz at hn;cases q:Pv.Wc x t with|none=>rw[q]at hn;cases hn|some m=>rw[q]at hn;cases m<;>exact hn
  obtain⟨tv,ty,e⟩:=Zhl r1 ht hn';exact#[v,tv,n,rfl,ty,e,End.ok h2 st1<|Yn _]
def Zii(P:bP)(w:b9)(K:ap)(a:aO)(tab:List (Int×Int)):Prop:=(a == db)=aj/\∃f:Int->Option aB,(∀h:cQ,K.In h->h.MapOf (gX P w) a f)/\∀k,(tab.lookup k=ai->f k=ai)/\∀j,tab.lookup k=aa j->∃t,f k=aa (.int j t)
def ZdG:CE X xw C (.Dict [] [] pos) .dnew:=.mk <| PE.imp ZaV λZ H Q #[U,l,S,st,lr,h]=>λp hp=>
 (h) U _ _ (ZB hp) (st.fresh hp) (by unfold Rep;exact#[p,rfl,Zm])
def Wq(fr:Bool)(H0:Hp)(U:Mx)(H:Hp)(d:D)(v:V):Prop:=Rep U H d v/\(fr=ao->∀ds,d=.lst ds->∃a,v=.ref a/\H0 a=ai)
theorem End.fr{K:ap}{Q:VK}{fr:Bool}(h:End K xw Rep U H Q r):End K xw (Wq fr H0) U H Q r:=by
 cases r with|ok d S=>exact λρ' H' v f st r=>h ρ' H' v f st r.1|_=>exact h
end
abbrev Own:=Nat->Option aO
noncomputable def Mx.ex(U:Mx)(W:Own):Mx:=#[U.K,U.n0,λa=>U.X a\/∃i,W i=aa a,λa h=>.inl<|U.xz a h]
mutual
theorem Rep.flat(hk:ρ'.K=U.K)(k:∀a o,H a=aa o->(∀xs,o≠.lst xs)->(∀vs,o≠.dT vs)->H' a=aa o):∀{d:D}{v:V},d.flat=ao->Rep U H d v->Rep ρ' H' d v
 |.non,_,_,h|.bl _,_,_,h|.int _,_,_,h|.str _,_,_,h=>by exact h
 |.tup ds,v,f,h=>by
  obtain⟨a,xs,e,t,r⟩:=h;exact#[a,xs,e,k a _ t (λ_ z=>by cases z) (λ_ z=>by cases z),r.flat hk k (by exact f)]
 |.scr ns,v,_,h=>by
  unfold Rep at h ⊢;obtain⟨a,e,t⟩:=h;rw[hk];refine#[a,e,?_];rcases t with⟨o,t⟩|t
  .exact .inl #[o,k a _ t (λ_ z=>by cases z) λ_ z=>by cases z]
  .exact .inr t
 |.lst _,_,f,_|.drw,_,f,_|.dct _,_,f,_|.dow _,_,f,_=>by cases f
theorem Rq.flat(hk:ρ'.K=U.K)(k:∀a o,H a=aa o->(∀xs,o≠.lst xs)->(∀vs,o≠.dT vs)->H' a=aa o):∀{ds:List D}{xs:List V},Pv.Wd ds=ao->Rq U H ds xs->Rq ρ' H' ds xs
 |[],_,_,h=>by exact h
 |d::ds,xs,f,h=>by
  obtain⟨v,vs,e,r,rs⟩:=h;have f:=(aA _ _).mp f;exact#[v,vs,e,r.flat hk k f.1,rs.flat hk k f.2]
end
def Wa(U:Mx)(H:Hp)(a:aO):D->Prop
 |.lst xs=>∃us,H a=aa (.lst us)/\Rq U H xs us
 |.dow ks=>∃vs,H a=aa (.dT vs)/\vs.map (·.1)=ks.map (·.map cY)
 |_=>False
def Wa.ob(h:Wa U H a d):(∃us,H a=aa (.lst us))\/∃vs,H a=aa (.dT vs):=by
 cases d with|lst xs=>obtain⟨us,e,_⟩:=h;exact .inl #[us,e]|dow ks=>obtain⟨vs,e,_⟩:=h;exact .inr #[vs,e]|_=>exact h.elim
def Wa.ne(h:Wa U H a d):H a≠ai:=by
 rcases h.ob with⟨_,z⟩|⟨_,z⟩<;>(rw[z];intro q;cases q)
def Wa.rep(h:Wa U H a d)(x:¬U.X a):Rep U H d (.ref a):=by
 cases d with|lst xs=>obtain⟨us,e,r⟩:=h;exact W3 e x r|dow ks=>obtain⟨vs,e,q⟩:=h;exact#[a,vs,rfl,e,x,q]|_=>exact h.elim
theorem Wa.lat(h:Wa U H a d)(f:Lat U H ρ' H')(e:H' a=H a):Wa ρ' H' a d:=by
 cases d with|lst xs=>obtain⟨us,q,r⟩:=h;exact#[us,e.trans q,r.lat f]|dow ks=>obtain⟨vs,q,r⟩:=h;exact#[vs,e.trans q,r]|_=>exact h
def Lat.own(x:U.X b)(hb:(∃us,H b=aa (.lst us))\/∃vs,H b=aa (.dT vs)):Lat U H U (upd H b o'):=#[rfl,rfl,λc u z nx _ nd=>by
 rw[Zk (λq=>by
  rw[q]at z;rcases hb with⟨_,e⟩|⟨_,e⟩<;>(rw[e]at z;cases z)
  .exact nx _ rfl<|q▸x
  .exact nd _ rfl<|q▸x)]
 exact z,λ_ _ z=>z]
structure Eu(U:Mx)(H0:Hp)(W:Own)(l:Lc)(os:List Nat)(Z:L2.St)(H:Hp):Prop where
 fut:Fut U H0 U H
 xd:∀a,U.X a->H0 a≠ai
 len:l.length=Z.length
 osW:∀i,os.contains i=(W i).isSome
 inj:∀i j a,W i=aa a->W j=aa a->i=j
 new:∀i a,W i=aa a->H0 a=ai
 own:∀i a,W i=aa a->∃d,l[i]?=aa (aa d)/\Z[i]?=aa (aa<|.ref a)/\Wa (U.ex W) H a d
 val:∀(i:Nat)(d:D),l[i]?=aa (aa d)->W i=ai->∃v,Z[i]?=aa (aa v)/\Rep (U.ex W) H d v
section
variable{K:ap}{U:Mx}{H0 H H':Hp}{W W':Own}{l:Lc}{os:List Nat}{Z:L2.St}{S:ZO}
def Lat.unex:Lat (U.ex W) H U H:=#[rfl,rfl,λ_ _ h _ _ _=>h,λ_ _ x=>.inl x]
theorem Fut.ex(f:Fut U H U H'):Fut (U.ex W) H (U.ex W) H':=#[rfl,f.keep]
def St3.unex(st:St3 K (U.ex W) S H):St3 K U S H:=#[st.hk,λa x=>st.xd a<|.inl x,st.dw,st.tb]
def Eu.nx(h:Eu U H0 W l os Z H)(e:W i=aa a):¬U.X a:=λz=>h.xd a z<|h.new i a e
theorem Eu.st(h:Eu U H0 W l os Z H)(st:St3 K U S H):St3 K (U.ex W) S H:=
 #[st.hk,λa x=>x.elim (st.xd a) λ#[i,e]=>(let #[_,_,_,z]:=h.own i a e;z.ne),st.dw,st.tb]
def qv(f:Fut U H U H')(x:¬U.X a)(h:H a=aa o)(n:∀ps,o≠.tbl ps:=by intro _ z;cases z):H' a=aa o:=(f.keep a o h).elim id λz=>z.elim (λz=>T7 (U.xz a z.1) x)<|by rintro ⟨⟨ps,e⟩,_⟩;exact T7 e<|n ps
def Eu.all(h:Eu U H0 W l os Z H):LocR U H l Z:=#[h.len,λi v e=>by
 cases q:W i with
 |none=>obtain⟨d,a,b⟩:=h.val i v e q;exact#[d,a,b.lat Lat.unex]
 |some n=>
  obtain⟨d,a,c,r⟩:=h.own i n q;rw[a]at e;cases e;exact#[_,c,(r.lat Lat.unex rfl).rep<|h.nx q]]
def ZbU(e:(Pv.hide os l)[i]?=aa (aa v)):l[i]?=aa (aa v)/\os.contains i=aj:=by
 unfold Pv.hide at e;rw[iZ]at e;cases q:l[i]? with
 |none=>rw[q]at e;cases e
 |some o=>
  rw[q]at e;have e':(if os.contains i=ao then ai else o)=aa v:=aq e
  by_cases c:os.contains i=ao
  .rw[T9 c]at e';cases e'
  .rw[T8 c]at e';exact#[by rw[e'],by simpa using c]
def hide_nil:Pv.hide [] l=l:=by
 unfold Pv.hide;refine cc λi=>?_
 rw[iZ];cases l[i]?<;>rfl
def Eu.nW(h:Eu U H0 W l os Z H)(b:os.contains i=aj):W i=ai:=by
 rw[h.osW]at b;cases q:W i with|none=>rfl|some _=>rw[q]at b;cases b
def Eu.hid(h:Eu U H0 W l os Z H):LocR (U.ex W) H (Pv.hide os l) Z:=#[by unfold Pv.hide;rw[List.length_mapIdx];exact h.len,λi v e=>by
 obtain⟨a,b⟩:=ZbU e;exact h.val i v a<|h.nW b]
theorem Eu.mono(h:Eu U H0 W l os Z H)(f:Fut U H U H'):Eu U H0 W l os Z H':=
 #[h.fut.trans f,h.xd,h.len,h.osW,h.inj,h.new,λi a q=>by
  obtain⟨d,p,c,r⟩:=h.own i a q;exact#[d,p,c,r.lat f.ex.lat (by rcases r.ob with⟨_,e⟩|⟨_,e⟩<;>rw[qv f (h.nx q) e,e])],λi v a b=>by
  obtain⟨d,c,r⟩:=h.val i v a b;exact#[d,c,r.mono f.ex]]
def ya{B:Type}{l:List (Option B)}{o:Option B}{v:B}(e:(l.set i o)[j]?=aa (aa v)):(i=j/\o=aa v/\i<l.length)\/(i≠j/\l[j]?=aa (aa v)):=by
 rw[oF]at e;by_cases c:i=j
 .rw[T9 c]at e
  by_cases z:i<l.length
  .rw[T9 z]at e;exact .inl #[c,aq e,z]
  .rw[T8 z]at e;cases e
 .rw[T8 c]at e;exact .inr #[c,e]
theorem Eu.set(h:Eu U H0 W l os Z H)(hi:os.contains i=aj)(r:∀d,o=aa d->Rep (U.ex W) H d v):Eu U H0 W (l.set i o) os (Z.set i<|aa v) H:=by
 have hw:=h.nW hi;refine#[h.fut,h.xd,by rw[bD,bD];exact h.len,h.osW,h.inj,h.new,λj n q=>?_,λj w e q=>?_]
 .obtain⟨d,a,c,e⟩:=h.own j n q
  have ij:i≠j:=λz=>by rw[z,q]at hw;cases hw
  exact#[d,by rw[bc ij];exact a,by rw[bc ij];exact c,e]
 .rcases ya e with⟨rfl,z,hl⟩|⟨c,z⟩
  .exact#[v,bg (by rw[<-h.len];exact hl),r w z]
  .rw[bc c];exact h.val j w z q
noncomputable def Q7:List Nat->List V->L2.St->L2.St
 |i::t,x::xs,Z=>Q7 t xs<|Z.set i<|aa x
 |_,_,Z=>Z
theorem Eu.fill:∀{t:List Nat}{vs:List D}{us:List V}{l l':Lc}{Z:L2.St},Eu U H0 W l os Z H->(t.any os.contains)=aj->Rq (U.ex W) H vs us->Pv.XR t vs l=aa l'->us.length=t.length/\Eu U H0 W l' os (Q7 t us Z) H
 |[],[],_,l,l',Z,h,_,r,e=>by rw[r];cases e;exact#[rfl,h]
 |[],_::_,_,_,_,_,_,_,_,e=>by cases e
 |_::_,[],_,_,_,_,_,_,_,e=>by cases e
 |i::t,v::vs,_,l,l',Z,h,ht,r,e=>by
  obtain⟨d,ds,rfl,a,b⟩:=r;rw[fz,Bool.or_eq_false_iff]at ht;obtain⟨z,q⟩:=Eu.fill (h.set ht.1 λ_ z=>by cases z;exact a) ht.2 b e
  exact#[by rw[aQ,aQ,z],q]
def tGU(K:ap)(t:List Nat):TG:=λv Z H Q=>match t with
 |[i]=>Q (Z.set i<|aa v) H
 |t=>∃a xs,v=.ref a/\(SqT K H a xs\/H a=aa (.lst xs))/\xs.length=t.length/\Q (Q7 t xs Z) H
def Eu.assign{Q:L2.St->Hp->Prop}(h:Eu U H0 W l os Z H)(ht:(t.any os.contains)=aj)(r:Rep (U.ex W) H d v)(e:Pv.Zq t d l=aa l')(q:∀σ',Eu U H0 W l' os σ' H->Q σ' H):tGU K t v Z H Q:=by
 have gen:∀t,(t.any os.contains)=aj->(match Pv.ZbK d with
   |some xs=>Pv.XR t xs l
   |none=>ai)=aa l'->∃a xs,v=.ref a/\(SqT K H a xs\/H a=aa (.lst xs))/\xs.length=t.length/\Q (Q7 t xs Z) H:=by
  intro t ht e;cases d with|tup vs=>obtain⟨p,ds,rfl,hp,rs⟩:=r.tup';obtain⟨z,y⟩:=h.fill ht rs e;exact#[p,ds,rfl,.inl<|SqT.of hp,z,q _ y]|lst vs=>obtain⟨p,ds,rfl,hp,_,rs⟩:=r.lst';obtain⟨z,y⟩:=h.fill ht rs e;exact#[p,ds,rfl,.inr hp,z,q _ y]|_=>cases e
 match t,ht,e with
 |[i],ht,e=>cases e;exact q _<|h.set (by simpa using ht) λ_ z=>by cases z;exact r
 |[],ht,e=>exact gen [] ht e
 |i::j::t,ht,e=>exact gen (i::j::t) ht e
noncomputable def noW(W:Own)(i:Nat):Own:=λj=>if j=i then ai else W j
def WU(z:noW W i j=aa a):j≠i/\W j=aa a:=by
 unfold noW at z;by_cases c:j=i
 .rw[T9 c]at z;cases z
 .rw[T8 c]at z;exact#[c,z]
theorem Lat.noW{i:Nat}:Lat (U.ex W) H (U.ex<|noW W i) H:=#[rfl,rfl,λ_ _ h _ _ _=>h,λ_ _ x=>x.elim .inl λ#[j,e]=>.inr #[j,(WU e).2]]
def Qp(h:∀i,os.contains i=(W i).isSome)(j):(os.filter (· != i)).contains j=(noW W i j).isSome:=by
 unfold noW;by_cases c:j=i
 .simp[c]
 .simp[c]
  rw[<-h j];simp
def Eu.drop{i:Nat}{v:V}(h:Eu U H0 W l os Z H)(r:∀d,o=aa d->Rep (U.ex<|noW W i) H d v):Eu U H0 (noW W i) (l.set i o) (os.filter (· != i)) (Z.set i<|aa v) H:=by
 refine#[h.fut,h.xd,by rw[bD,bD];exact h.len,Qp h.osW,λa b n x y=>h.inj a b n (WU x).2 (WU y).2,λj n z=>h.new j n (WU z).2,λj n z=>?_,λj w e z=>?_]
 .obtain⟨d,a,c,e⟩:=h.own j n (WU z).2
  have ij:=Ne.symm (WU z).1;exact#[d,by rw[bc ij];exact a,by rw[bc ij];exact c,e.lat Lat.noW rfl]
 .rcases ya e with⟨rfl,e,hl⟩|⟨c,e⟩
  .exact#[v,bg (by rw[<-h.len];exact hl),r w e]
  .rw[bc c]
   unfold Sd.noW at z;rw[T8<|Ne.symm c]at z;obtain⟨d',a,b⟩:=h.val j w e z;exact#[d',a,b.lat Lat.noW]
noncomputable def zW(W:Own)(i:Nat)(a:aO):Own:=λj=>if j=i then aa a else W j
def Eu.takeO{i:Nat}{d:D}(h:Eu U H0 W l os Z H)(hd:∀a,U.X a->H a≠ai)(f:Fut U H U H')(hn:H a=ai)(hx:¬(U.ex W).X a)(r:Wa (U.ex<|zW W i a) H' a d)(hi:i<l.length) :
  Eu U H0 (zW W i a) (l.set i<|aa d) (i::os.filter (· != i)) (Z.set i<|aa<|.ref a) H':=by
 have get:∀{j m},zW W i a j=aa m->(j=i/\a=m)\/(j≠i/\W j=aa m):=λ{j m} z=>by
  unfold zW at z;by_cases c:j=i
  .rw[T9 c]at z;exact .inl #[c,aq z]
  .rw[T8 c]at z;exact .inr #[c,z]
 have na:=h.fut.new hn hd;have lt:Lat (U.ex W) H (U.ex<|zW W i a) H':=#[rfl,rfl,f.ex.lat.keep',λb hb x=>by
  rcases x with x|⟨j,x⟩
  .exact .inl x
  .rcases get x with⟨_,z⟩|⟨_,z⟩
   .exact T7 hn<|z▸hb
   .exact .inr #[j,z]]
 refine#[(h.mono f).fut,h.xd,by rw[bD,bD];exact h.len,λj=>?_,λp q m x y=>?_,λj m z=>?_,λj m z=>?_,λj w q z=>?_]
 .have:=Qp (i:=i) h.osW j
  unfold zW;by_cases c:j=i
  .simp[c]
  .unfold noW at this
   rw[T8 c]at this ⊢;rw[n5,this,beq_eq_false_iff_ne.mpr c,lE]
 .rcases get x with⟨x1,x2⟩|⟨x1,x2⟩<;>rcases get y with⟨y1,y2⟩|⟨y1,y2⟩
  .rw[x1,y1]
  .exact T7 (.inr #[q,x2▸y2]) hx
  .exact T7 (.inr #[p,y2▸x2]) hx
  .exact h.inj p q m x2 y2
 .rcases get z with⟨_,z⟩|⟨_,z⟩
  .exact z▸na
  .exact h.new j m z
 .rcases get z with⟨z1,z2⟩|⟨z1,z2⟩
  .subst z1 z2
   exact#[d,bg hi,bg (by rw[<-h.len];exact hi),r]
  .obtain⟨d',p,c,q⟩:=h.own j m z2
   exact#[d',by rw[bc<|Ne.symm z1];exact p,by rw[bc<|Ne.symm z1];exact c,q.lat lt (by rcases q.ob with⟨_,e⟩|⟨_,e⟩<;>rw[qv f (h.nx z2) e,e])]
 .unfold zW at z
  by_cases c:j=i
  .rw[T9 c]at z;cases z
  .rw[T8 c]at z
   rw[bc<|Ne.symm c]at q ⊢;obtain⟨d,p,b⟩:=h.val j w q z;exact#[d,p,b.lat lt]
def Eu.take(h:Eu U H0 W l os Z H)(hd:∀a,U.X a->H a≠ai)(f:Fut U H U H')(hn:H a=ai)(hf:Pv.Wd xs=ao)(r:Rep (U.ex W) H' (.lst xs) (.ref a))(hi:i<l.length) :
  Eu U H0 (zW W i a) (l.set i<|aa<|.lst xs) (i::os.filter (· != i)) (Z.set i<|aa<|.ref a) H':=by
 obtain⟨_,us,en,hs,hx,rs⟩:=r.lst';cases en;exact h.takeO hd f hn hx #[us,hs,rs.flat (U:=U.ex W) (ρ':=U.ex<|zW W i a) rfl (λ_ _ z _ _=>z) hf] hi
def Eu.mutO{i:Nat}{d':D}(h:Eu U H0 W l os Z H)(hw:W i=aa a)(r:Wa (U.ex W) (upd H a o') a d'):Eu U H0 W (l.set i<|aa d') os Z (upd H a o'):=by
 obtain⟨d,p,c,e⟩:=h.own i a hw;have lt:Lat (U.ex W) H (U.ex W) (upd H a o'):=Lat.own (o7 #[i,hw]) e.ob
 refine#[#[rfl,λb o z=>?_],h.xd,by rw[bD];exact h.len,h.osW,h.inj,h.new,λj m z=>?_,λj w q z=>?_]
 .rw[Zk λq=>by rw[q,h.new i a hw]at z;cases z]
  exact h.fut.keep b o z
 .by_cases k:i=j
  .subst k
   rw[hw]at z;cases z;exact#[d',bg<|(aN.mp p).1,c,r]
  .obtain⟨d2,a',c',e'⟩:=h.own j m z
   exact#[d2,by rw[bc k];exact a',c',e'.lat lt<|Zk λq:m=a=>k<|h.inj i j a hw<|q▸z]
 .have k:i≠j:=λk=>by rw[<-k,hw]at z;cases z
  rw[bc k]at q;obtain⟨d,a',b'⟩:=h.val j w q z;exact#[d,a',b'.lat lt]
def Eu.mut(h:Eu U H0 W l os Z H)(hw:W i=aa a)(r:Rq (U.ex W) H ys us):Eu U H0 W (l.set i<|aa<|.lst ys) os Z (upd H a<|.lst us):=by
 obtain⟨d,p,c,e⟩:=h.own i a hw;exact h.mutO hw (d':=.lst ys) #[us,Zm,r.lat<|Lat.own (o7 #[i,hw]) e.ob]
def St3.mut(st:St3 K U S H)(h:Eu U H0 W l os Z H)(hw:W i=aa a)(ht:∀ps,o'≠.tbl ps:=by intro _ z;cases z):St3 K U S (upd H a o'):=by
 obtain⟨d,p,c,e⟩:=h.own i a hw;have ne:∀b,U.X b->b≠a:=λb x z=>h.nx hw<|z▸x
 exact#[st.hk,λb x=>by rw[Zk<|ne b x];exact st.xd b x,λb x=>by rw[Zk<|ne b<|U.xz b x];exact st.dw b x,st.tb.upd (λo u z=>by rcases e.ob with⟨_,e⟩|⟨_,e⟩<;>(rw[e]at z;cases z)) ht]
structure Base(U:Mx)(H0 H1:Hp):Prop where
 fut:Fut U H0 U H1
 dom:∀a,H1 a=ai->H0 a=ai
def Eu.rebase(b:Base U H0 H1)(x:∀a,U.X a->H0 a≠ai)(h:Eu U H1 W l os Z H):Eu U H0 W l os Z H:=#[b.fut.trans h.fut,x,h.len,h.osW,h.inj,λi a e=>b.dom a<|h.new i a e,h.own,h.val]
open Classical in
noncomputable def JE(H:Hp)(W:Own):Hp:=λa=>if ∃i,W i=aa a then ai else H a
def Eu.off(h:Eu U H0 W l os Z H)(hd:∀a,U.X a->H a≠ai):Base U H0 (JE H W)/\Eu U (JE H W) W l os Z H:=by
 have nw:∀a,H0 a≠ai->JE H W a=H a:=λa z=>T8 λ#[i,e]=>z<|h.new i a e
 refine#[#[#[rfl,λa o e=>?_],λa e=>?_],#[rfl,λa o e=>.inl ?_],λa x=>?_,h.len,h.osW,h.inj,λi a e=>T9 #[i,e],h.own,h.val]
 .rw[nw a (by rw[e];intro z;cases z)];exact h.fut.keep a o e
 .cases q:H0 a with
  |none=>rfl
  |some o=>
   rw[nw a<|by rw[q];intro z;cases z]at e
   rw[h.fut.new e hd]at q;cases q
 .unfold JE at e
  split at e
  .cases e
  .exact e
 .rw[nw a<|h.xd a x];exact hd a x
def Eu.walk(h:Eu U H0 W l os Z H)(h':Eu U (JE H W) W' l' os' σ' H'):Lat (U.ex W) H (U.ex W') H':=by
 refine#[rfl,rfl,λa o e x n nd=>?_,λa e x=>?_]
 .have nw:¬∃i,W i=aa a:=by
   rintro ⟨i,w⟩;obtain⟨_,_,_,z⟩:=h.own i a w;rcases z.ob with⟨us,z⟩|⟨us,z⟩<;>rw[e]at z
   .exact x us (aq z)<|.inr #[i,w]
   .exact nd us (aq z)<|.inr #[i,w]
  rcases h'.fut.keep a o (by unfold JE;rw[T8 nw];exact e)with z|⟨z,xs,q⟩|⟨⟨ps,q⟩,_⟩
  .exact z
  .exact T7 (.inl<|U.xz a z)<|x xs q
  .exact T7 q<|n ps
 .rcases x with x|⟨i,x⟩
  .exact .inl x
  .have:=h'.new i a x
   unfold JE at this;split at this
   .exact .inr ‹_›
   .exact T7 this e
end
section
variable(X:Cx)(xw:Nat->Hp->Prop)(C:Calls)
def tF(f:Lc->ZO->R D):TE:=λZ H Q=>∃U l S,St3 X.K U S H/\LocR U H l Z/\End X.K xw (Wq ao H) U H Q (f l S)
structure CF(e:Expr)(i:E):Prop where
 h:PE X e (tF X xw<|Pv.pv C i)
end
def CF.ce(h:CF X xw C e i):CE X xw C e i:=.mk <| PE.imp h.h<|by left;exact #[U,l,S,st,lr,h.fr]
def End.newF{K:ap}(h:End K xw (Wq ao H0) U H Q (.ok (.lst ds) S))(f:Fut U H0 U H)(s0:St3 K U S0 H0)(st:St3 K U S H)(r:Rq U H ds xs):∀p,H p=ai->Q (.ref p) (upd H p<|.lst xs):=λp hp=>
 h U _ _ (ZB hp) (st.fresh hp) #[W3 Zm (st.nx hp)<|r.mono<|ZB hp,λ_ _ _=>#[p,rfl,f.new hp st.xd]]
def GI(K:ap)(xw:Nat->Hp->Prop)(f:Bf):List V->Hp->VK->Prop:=λvs H Q=>∃U S ds,St3 K U S H/\Rq U H ds vs/\∃H0 S0,Fut U H0 U H/\St3 K U S0 H0/\End K xw (Wq ao H0) U H Q (Pv.po (Pv.X3 f ds) S)
def u6 :∀Z H Q,tF X xw (Pv.pv C<|.blt f is) Z H Q->tCB (GI X.K xw f) (tA X xw<|Pv.pvs C is) Z H Q:=λZ H Q #[U,l,S,st,lr,h]=>
 #[U,l,S,st,lr,End.bind (h) λxs S1 ρ1 H1 vs f1 st1 r1 h1=>by cases f1.eq;exact#[U,S1,xs,st1,r1,H,S,f1,st,h1]]
def ZeN{f:Bf}{id:String}(hc:ZG X (.builtin id) (GI X.K xw f))(hm:X.mg x=ai)(ha:CA X xw C (e::es) is)(hg:Gl X x)(hv:d4 x=aa (.builtin id))(hn:x≠"__name__")(hdb:(x == #[11])=aj)
  (he:aE (e::es) X.env=#[27]::aE es X.env)(hpl:(dS pos<|aE es X.env).any (·.1)=aj):CF X xw C #[26] (.blt f is):=.mk <|
 PE.imp (Wl hc hg hm hv ha.h hn hdb he hpl) u6
def u5{f:Bf}{id:String}(hc:ZG X (.type id) (GI X.K xw f))(hm:X.mg x=ai)(ha:CA X xw C (e::es) is)(hg:Gl X x)(hv:d4 x=aa (.type id))(hn:x≠"__name__")(hdb:(x == #[11])=aj)
  (he:aE (e::es) X.env=#[27]::aE es X.env)(hpl:(dS pos<|aE es X.env).any (·.1)=aj):CF X xw C #[26] (.blt f is):=.mk <|
 PE.imp (GH hc hg hm hv ha.h hn hdb he hpl) u6
def yW{xw:Nat->Hp->Prop}:ZG X (.type "list") (GI X.K xw .list):=ZG.imp zB<|by
 rintro vs H Q ⟨U,S,ds,st,r,H0,S0,f0,s0,h⟩;obtain⟨d,v,z,rfl,r1,hz,h⟩:=Wi h r;obtain⟨xs,hx,rfl⟩:=bK.mp hz;obtain⟨p,ys,rfl,hq,r2⟩:=r1.seq hx;exact#[p,ys,rfl,by rw[<-st.hk];exact hq,h.newF f0 s0 st r2]
def ZF(fr:Bool)(K:ap)(xw:Nat->Hp->Prop)(U:Mx)(H0:Hp)(D:Ends):R Pv.FlV->Prop
 |.ok (.nx l os) S=>∀H' σ' W',St3 K U S H'->Eu U H0 W' l os σ' H'->D.nx σ' H'
 |.ok (.ret d) S=>∀H' v,Fut U H0 U H'->St3 K U S H'->Wq fr H0 U H' d v->D.rt v H'
 |.ex c S=>∀H',Fut U H0 U H'->St3 K U S H'->xw c H'
 |.no=>False
section
variable{fr:Bool}{K:ap}{xw:Nat->Hp->Prop}{U:Mx}{H0 H:Hp}{B β:Type}{rep:Mx->Hp->B->β->Prop}{D:Ends}{W:Own}{l:Lc}{os:List Nat}{Z:L2.St}{S:ZO}
theorem ZF.bind(he:Eu U H0 W l os Z H)(h:ZF fr K xw U H0 D (r.bind f))
  (k:∀d S H1 v,Fut U H U H1->St3 K U S H1->rep U H1 d v->ZF fr K xw U H0 D (f d S)->Q1 v H1):End K xw rep U H Q1 r:=by
 cases r with|ok d S=>exact λρ1 H1 v g st r=>by cases g.eq;exact k d S H1 v g st r h|ex c S=>exact λρ1 H1 g st=>by cases g.eq;exact h H1 (he.fut.trans g) st|no=>exact h
def ZF.bindW(he:Eu U H0 W l os Z H)(h:ZF fr K xw U H0 D (r.bind f))
  (k:∀d S H1 v,Fut U H U H1->St3 K U S H1->rep (U.ex W) H1 d v->ZF fr K xw U H0 D (f d S)->Q1 v H1):End K xw rep (U.ex W) H Q1 r:=by
 cases r with|ok d S=>exact λρ1 H1 v g st r=>by cases g.eq;exact k d S H1 v #[rfl,g.keep] st.unex r h|ex c S=>exact λρ1 H1 g st=>by cases g.eq;exact h H1 (he.fut.trans #[rfl,g.keep]) st.unex|no=>exact h
def ZF.ob(h:ZF fr K xw U H0 D ((Pv.po o S).bind f)):∃a,o=aa a/\ZF fr K xw U H0 D (f a S):=by
 cases o with|none=>exact h.elim|some a=>exact#[a,rfl,h]
def ZF.guard{c:Prop}[Decidable c](h:ZF fr K xw U H0 D (if c then a else .no)):c/\ZF fr K xw U H0 D a:=by
 split at h
 .exact#[‹_›,h]
 .exact h.elim
def ZF.guardN{c:Prop}[Decidable c](h:ZF fr K xw U H0 D (if c then .no else a)):¬c/\ZF fr K xw U H0 D a:=by
 split at h
 .exact h.elim
 .exact#[‹_›,h]
theorem ZF.rebase(b:Base U H0 H1)(x:∀a,U.X a->H0 a≠ai)(h:ZF fr K xw U H0 D r):ZF fr K xw U H1 D r:=by
 cases r with
 |ok f S=>
  cases f with|nx l os=>exact λH' σ' W' st e=>h H' σ' W' st<|e.rebase b x|ret d=>exact λH' v f st r=>h H' v (b.fut.trans f) st #[r.1,λz ds y=>let #[a,e,q]:=r.2 z ds y;#[a,e,b.dom a q]]
 |ex c S=>exact λH' f st=>h H' (b.fut.trans f) st
 |no=>exact h
end
section
variable(X:Cx)(xw:Nat->Hp->Prop)(fr:Bool)
def tS3(f:Lc->List Nat->ZO->R Pv.FlV):TS:=λD Z H=>∃U H0 W l os S,St3 X.K U S H/\Eu U H0 W l os Z H/\ZF fr X.K xw U H0 D (f l os S)
variable(C:Calls)(ms:List Nat)
structure CS(st:fB)(s:Sm):Prop where
 h:PS X st (tS3 X xw fr<|Pv.rv C ms s)
structure CSs(st:List fB)(s:List Sm):Prop where
 h:PSs X st (tS3 X xw fr<|Pv.rvs C ms s)
structure CG(tg:Expr)(t:List Nat):Prop where
 h:PG X tg (tGU X.K t)
def Zjr(t:List Nat):TGs:=λvs Z H Q=>vs.length=t.length/\Q (Q7 t vs Z) H
structure CGs(tgs:List Expr)(t:List Nat):Prop where
 h:PGs X tgs (Zjr t)
end
def PS.imp(h:PS X e t)(k:∀D Z H,t' D Z H->t D Z H):PS X e t':=λpq s Z H D I q=>h pq s Z H D I<|k D Z H q
def PSs.imp(h:PSs X e t)(k:∀D Z H,t' D Z H->t D Z H):PSs X e t':=λpq s Z H D I q=>h pq s Z H D I<|k D Z H q
def PG.imp(h:PG X e t)(k:∀v Z H Q,t' v Z H Q->t v Z H Q):PG X e t':=λpq s Z H v u Q I r q=>h pq s Z H v u Q I r<|k v Z H Q q
def PGs.imp(h:PGs X e t)(k:∀v Z H Q,t' v Z H Q->t v Z H Q):PGs X e t':=λpq s Z H v u Q I r q=>h pq s Z H v u Q I r<|k v Z H Q q
section
variable{X:Cx}{xw:Nat->Hp->Prop}{fr:Bool}{C:Calls}{ns:List Nat}{e a b c:Expr}{i j k:E}{pos p p' p2:iV}{s0:fB}{ss:List fB}{m0:Sm}{ms ms':List Sm}
def ZhU{is:List E}(h:CA X xw C es is):CF X xw C (.List es pos) (.lst is):=.mk <| PE.imp (G0 h.h)<|by
 left;rw[Pv.pE4]at h;refine#[U,l,S,st,lr,h.bind λxs S1 ρ1 H1 vs f1 st1 r1 h1=>?_]
 obtain⟨hl,h1⟩:=h1.guard;cases f1.eq;exact#[by rw[r1.length,<-zy];exact hl,h1.newF f1 st st1 r1]
def ZgA:CSs X xw fr C ns [] []:=.mk <| PSs.imp zm<|by rintro D Z H ⟨U,H0,W,l,os,S,st,he,h⟩;exact h H Z W st he
def ZdR(h1:CS X xw fr C ns s0 m0)(h2:CSs X xw fr C ns ss ms):CSs X xw fr C ns (s0::ss) (m0::ms):=.mk <| PSs.imp (YU h1.h h2.h)<|by
 rintro D Z H ⟨U,H0,W,l,os,S,st,he,h⟩;refine#[U,H0,W,l,os,S,st,he,?_];rw[Pv.rvs]at h;cases q:Pv.rv C ns m0 l os S with
 |no=>rwa[q]at h
 |ex c S1=>rwa[q]at h
 |ok fl S1=>
  rw[q]at h;cases fl with|nx l1 os1=>exact λH1 σ1 W1 st1 he1=>#[U,H0,W1,l1,os1,S1,st1,he1,h]|_=>exact h
def Zh8(he:CE X xw C e i):CS X xw aj C ns (.Return (aa e) pos) (.ret i):=.mk <| PS.imp (Q6 he.h)<|by
 right;rw[Pv.rE9]at h;exact#[U,l,S,st,en.all,ZF.bind en h λx S1 H1 v f1 st1 r1 h1=>h1 H1 v (en.fut.trans f1) st1 #[r1,λz=>by cases z]]
def yI{K:ap}{os:List Nat}{a:aO}(en:Eu U H0 W l os Z H)(st:St3 K U S H)(h:H a=ai):H0 a=ai:=en.fut.new h st.xd
def ZeH(he:CF X xw C e i):CS X xw fr C ns (.Return (aa e) pos) (.ret i):=.mk <| PS.imp (Q6 he.h)<|by
 right;rw[Pv.rE9]at h;exact#[U,l,S,st,en.all,ZF.bind en h λx S1 H1 v f1 st1 r1 h1=>h1 H1 v (en.fut.trans f1) st1 #[r1.1,λ_ ds y=>let #[a,e,q]:=r1.2 rfl ds y;#[a,e,yI en st q]]]
def Zdw{is:List E}(he:CE X xw C e (.call n is))(hs:eV e ai pos.line X.env=cX aj):CS X xw fr C ns (.Expr e pos) (.ex<|.call n is):=.mk <| PS.imp (zk he.h hs) λD Z H #[U,H0,W,l,os,S,st,en,h]=>
 #[U,l,S,st,en.all,ZF.bind en (h) λx S1 H1 v f1 st1 r1 h1=>h1 H1 Z W st1<|en.mono f1]
def ZiR{sa sb:List fB}(hc:CT X xw C c k)(ha:CSs X xw fr C ns sa ms)(hb:CSs X xw fr C ns sb ms'):CS X xw fr C ns (.If c sa sb pos) (.ite k ms ms'):=.mk <| PS.imp (Zb3 hc.h ha.h hb.h)<|by
 right;rw[Pv.zc]at h;refine#[U,l,S,st,en.all,ZF.bind en h λx S1 H1 v f1 st1 r1 h1=>?_]
 have e1:=r1;subst e1;cases x with|true=>exact#[U,H0,W,l,os,S1,st1,en.mono f1,h1]|false=>exact#[U,H0,W,l,os,S1,st1,en.mono f1,h1]
def ZdV(hN:X.N.Nodup)(hi:X.N[n]?=aa x)(hx:L2.Loc X.env.scope x)(hf:X.fn x=ao\/X.env.scope.names.lookup x=aa .local):CG X (.Name x pos) [n]:=.mk <|
 PG.imp (zR hN hi hx hf) λv Z H Q q=>q
def Zet:CGs X [] []:=.mk <| PGs.imp ZeO<|by
 rintro vs Z H Q ⟨h,q⟩;cases vs with|nil=>exact#[rfl,q]|cons _ _=>cases h
def Zcf(hN:X.N.Nodup)(h2:CGs X tgs t)(hi:X.N[n]?=aa x)(hx:L2.Loc X.env.scope x)(hf:X.fn x=ao\/X.env.scope.names.lookup x=aa .local)
  (hs:(cD (.Name x pos::tgs) X.env).map (·.2)=eB (.Name x pos) X.env::(cD tgs X.env).map (·.2)):CGs X (.Name x pos::tgs) (n::t):=.mk <|
 PGs.imp (Zbz (zR hN hi hx hf) h2.h hs)<|by
  rintro vs Z H Q ⟨h,q⟩;cases vs with|nil=>cases h|cons v vs=>exact#[v,vs,rfl,sB.inj h,q]
theorem Gp{E:aB->aM->Prop}(hne:t≠it):∀n i s Q,s.heap.IsListIter it t i->s.heap.IsList t items->i+n<=items.size->
  (∀h',cQ.IsListIter h' it t (i+n)->ei it s.heap h'->Q ((items.toList.drop i).take n) {s with heap:=h' })->aY #[8] A (draw (.ref it) n) Q E s
 |0,i,s,Q,hit,_,_,hQ=>by
  exact aw (by simpa using hQ s.heap hit<|oJ ..)
 |n+1,i,s,Q,hit,ht,hle,hQ=>by
  have hlt:i<items.size:=by lia
  refine ae<|mm hit ht (x:=items[i]) #[2] λh₁ hit₁ hs₁=>?_
  refine ae<|bM<|Gp hne n (i+1) _ _ hit₁ (ht.extBut hs₁.extBut hne) #[0] λh₂ hit₂ hs₂=>aw ?_
  have hd:items.toList.drop i=items[i]::items.toList.drop (i+1):=by simp[cg,hlt]
  have:=hQ h₂ (by rw[show i+(n+1)=i+1+n by lia];exact hit₂)<|hs₁.trans hs₂
  rwa[hd,List.take_succ_cons]at this
theorem wn{E:aB->aM->Prop}{x1}(hh:A.handled=ai)(ht:s.heap.IsList t items)
  (hn:(cD elts env).length=items.size)(hstar:(cD elts env).findIdx? (·.1)=ai)
  (h:∀h',fH s.heap.objs.size s.heap h'->aY #[8] A (assignInOrder ((cD elts env).map (·.2)) items.toList) Q E {s with heap:=h' }) :
  aY #[8] A (eB (.Tuple elts x1 pos) env<|.ref t) Q E s:=by
 rw[assign_Tuple];refine ae<|iR ?_;have hlt:t≠s.heap.objs.size:=by obtain⟨o,ho,_⟩:=ht;exact a8<|aG ho
 unfold unpack;rw[hn,hstar];refine ae<|bM ?_;refine ae <| wpAny_bind (wpAny_specialOf ht.typeIs slot_list_iter.lookup ?_);refine aw <| wpAny_bind (bM<|fb ht ?_);refine ae<|bM<|Gp hlt items.size 0 _ _ #[_,aH _ rfl,rfl,rfl] (ht.push _) #[0] λh₁ hit₁ hs₁=>?_
 have hall:rZ items.size (sd 0 items.toList)=items.toList:=by
  rw[kM];exact cA #[2]
 rw[hall];rw[T8 #[2]]
 refine ae<|bM<|mM hh hit₁ ((ht.push _).extBut hs₁.extBut hlt) #[2] λh₂ he₂=>?_
 exact aw<|h h₂ λb o hb e=>he₂ b o hb<|hs₁.extBut b o hb<|au _ e
def gTL(K:ap)(n:Nat)(t:TGs):TG:=λv Z H Q=>∃a xs,v=.ref a/\(SqT K H a xs\/H a=aa (.lst xs))/\xs.length=n/\t xs Z H Q
def Zi7{k:Nat}(hc:X.calm=ao)(h:PGs X es t)
  (hn:(cD es X.env).length=n:=by rfl)(hst:(cD es X.env).findIdx? (·.1)=ai:=by rfl):PG X (.Tuple es k pos) (gTL X.K n t):=by
 intro pq s Z H v u Q I r hw;obtain⟨a,xs,e1,hq|hq,hl,hw⟩:=hw
 .exact ZhN hc h hn hst pq s Z H v u Q I r #[a,xs,e1,hq,hl,hw]
 .subst e1
  cases r;obtain⟨its,rv,pl,hz⟩:=I.list<|SqL.of hq;refine wn (I.ok.hd hc) pl.isList (by simp[hn,<-hl,rv.length]) hst λh' hx=>?_
  exact h pq _ Z H xs _ Q (I.kept λb o e=>hx b o (a8<|aG e) e) (by simpa using rv) hw
def ZhA(hc:X.calm=ao)(h:CGs X tgs (n::m::r))(hn:(cD tgs X.env).length=(n::m::r).length)(hst:(cD tgs X.env).findIdx? (·.1)=ai):CG X (.Tuple tgs q2 pos) (n::m::r):=.mk <|
 PG.imp (Zi7 hc h.h hn hst)<|by rintro v Z H Q ⟨a,xs,e,hp,hl,q⟩;exact #[a,xs,e,hp,hl,hl,q]
def ZF.evA{D:Ends}{K:ap}{l:Lc}{os:List Nat}{Q1:VK}(z:Bool)(hz:Pv.fresh i=ao->z=ao)(st:St3 K U S H)(en:Eu U H0 W l os Z H)(h:ZF fr K xw U H0 D ((Pv.pvA C i l os S).bind f))
  (k:∀d S1 H1 v,Fut U H U H1->St3 K U S1 H1->Wq z H (U.ex W) H1 d v->ZF fr K xw U H0 D (f d S1)->Q1 v H1):∃ρ' l' S,St3 K ρ' S H/\LocR ρ' H l' Z/\End K xw (Wq z H) ρ' H Q1 (Pv.pv C i l' S):=by
 have hid:ZF fr K xw U H0 D ((Pv.pv C i (Pv.hide os l) S).bind f)->∃ρ' l' S,St3 K ρ' S H/\LocR ρ' H l' Z/\End K xw (Wq z H) ρ' H Q1 (Pv.pv C i l' S):=λh=>#[U.ex W,Pv.hide os l,S,en.st st,en.hid,ZF.bindW en h k]
 cases os with
 |nil=>exact hid (by rw[hide_nil];exact h)
 |cons o os=>
  have h:ZF fr K xw U H0 D (Pv.PR.bind (match Pv.pv C i (Pv.hide (o::os) l) S with
   |.ok v s=>.ok v s
   |.ex c s=>.ex c s
   |.no=>(Pv.pv C i l S).bind λv s=>if(v.flat||Pv.fresh i&&Pv.v7 v)=ao then .ok v s else .no) f):=h
  cases q:Pv.pv C i (Pv.hide (o::os) l) S with
  |ok v s=>rw[q]at h;exact hid (by rw[q];exact h)
  |ex c s=>rw[q]at h;exact hid (by rw[q];exact h)
  |no=>
   rw[q]at h;have h:=h
   rw[Wy]at h;refine#[U,l,S,st,en.all,ZF.bind en h λd S1 H1 v f1 st1 r1 h1=>?_]
   by_cases c:(d.flat||Pv.fresh i&&Pv.v7 d)=ao
   case neg=>rw[T8 c]at h1;exact h1.elim
   rw[T9 c]at h1;refine k d S1 H1 v f1 st1 #[?_,r1.2] h1;rcases(gY _ _).mp c with c|c
   .exact Rep.flat (U:=U) (ρ':=U.ex W) rfl (λ_ _ z _ _=>z) c r1.1
   .obtain⟨c1,c2⟩:=(aA _ _).mp c
    cases d with
    |lst xs=>
     obtain⟨a,rfl,ha⟩:=r1.2 (hz c1) xs rfl;obtain⟨_,us,e,hs,hx,rs⟩:=r1.1.lst';cases e;exact W3 hs (λx=>x.elim hx λ#[i,w]=>let #[_,_,_,z]:=en.own i a w;T7 ha z.ne)<|rs.flat (U:=U) (ρ':=U.ex W) rfl (λ_ _ z _ _=>z) c2
    |_=>cases c2
def End.unfr{K:ap}(h:End K xw (Wq aj H0) U H Q r):End K xw Rep U H Q r:=by
 cases r with|ok d S=>exact λρ' H' v f st r=>h ρ' H' v f st #[r,λz=>by cases z]|_=>exact h
def ZeZ(he:CE X xw C e i)(hg:CG X tg [n])(hf:Pv.fresh i=aj)(hs:fm [tg] e pos.line X.env=cX aj)(hw:fq [tg] e X.env=cX ai)
  (h1:(cD [tg] X.env).map (·.2)=[eB tg X.env]):CS X xw fr C ns (.Assign [tg] e pos) (.asg [n] i):=.mk <| PS.imp (Uk he.h hg.h hs hw h1)<|by
 right;rw[Pv.rE1]at h;obtain⟨ρ',l',S',a,b,c⟩:=ZF.evA aj (λz=>by rw[hf]at z;cases z) st en h λd S1 H1 v f1 st1 r1 h1=>by
  rw[hf,mZ,T8 aT]at h1;exact h1 H1 _ _ st1<|(en.mono f1).drop λ_ z=>by cases z;exact r1.1.lat Lat.noW
 exact#[ρ',l',S',a,b,c.unfr]
def ZiY{D:Ends}{os:List Nat}(st:St3 X.K U S H)(en:Eu U H0 W l os Z H)(h:ZF fr X.K xw U H0 D (Pv.rv C ns (.asg [n] i) l os S)):tF X xw (Pv.pv C i) Z H λx H1=>D.nx (Z.set n<|aa x) H1:=by
 rw[Pv.rE1]at h;refine ZF.evA ao (λ_=>rfl) st en h λd S1 H1 v f1 st1 r1 h1=>?_
 by_cases c:(ns.contains n&&Pv.fresh i)=ao
 .rw[T9 c]at h1
  cases d with
  |lst xs=>
   obtain⟨⟨hf,hl⟩,h1⟩:=ZF.guard h1;obtain⟨a,rfl,ha⟩:=r1.2 rfl xs rfl;exact h1 H1 _ _ st1<|en.take st.xd f1 ha hf r1.1 hl
  |_=>exact h1.elim
 .rw[T8 c]at h1
  exact h1 H1 _ _ st1<|(en.mono f1).drop λ_ z=>by cases z;exact r1.1.lat Lat.noW
def Zd9(he:CF X xw C e i)(hg:CG X tg [n])(hs:fm [tg] e pos.line X.env=cX aj)(hw:fq [tg] e X.env=cX ai)
  (h1:(cD [tg] X.env).map (·.2)=[eB tg X.env]):CS X xw fr C ns (.Assign [tg] e pos) (.asg [n] i):=.mk <| PS.imp (Uk he.h hg.h hs hw h1)<|by right;exact ZiY st en h
def ZgT{n m:Nat}{t:List Nat}{tg:Expr}(he:CE X xw C e i)(hg:CG X tg (n::m::t))(hf:Pv.fresh i=aj)(hs:fm [tg] e pos.line X.env=cX aj)(hw:fq [tg] e X.env=cX ai)
  (h1:(cD [tg] X.env).map (·.2)=[eB tg X.env]):CS X xw fr C ns (.Assign [tg] e pos) (.asg (n::m::t) i):=.mk <| PS.imp (Uk he.h hg.h hs hw h1)<|by
 right;rw[Pv.rE2]at h
 .obtain⟨ρ',l',S',a,b,c⟩:=ZF.evA (Q1:=λx H1=>tGU X.K (n::m::t) x Z H1 D.nx) aj (λz=>by rw[hf]at z;cases z) st en h λd S1 H1 v f1 st1 r1 h1=>by
   obtain⟨ht,h1⟩:=h1.guardN;obtain⟨l',hl,h1⟩:=ZF.ob h1;exact(en.mono f1).assign (by simpa using ht) r1.1 hl λσ' e'=>h1 H1 σ' W st1 e'
  exact#[ρ',l',S',a,b,c.unfr]
 .intro _ z;cases z
end
theorem Eu.at{os:List Nat}(h:Eu U H0 W l os Z H)(hi:os.contains i=ao)(hx:Pv.ZcP l[i]?=aa xs):∃a,W i=aa a/\Z[i]?=aa (aa<|.ref a)/\∃us,H a=aa (.lst us)/\Rq (U.ex W) H xs us:=by
 rw[h.osW]at hi;obtain⟨a,w⟩:=bQ.mp hi;obtain⟨d,p,c,r⟩:=h.own i a w;rw[p]at hx;cases d with|lst ys=>cases hx;exact#[a,w,c,r]|_=>cases hx
section
variable{X:Cx}{xw:Nat->Hp->Prop}{fr:Bool}{C:Calls}{ns:List Nat}{e a b c:Expr}{i j k:E}{pos p p' p2:iV}{s0:fB}{ms ms':List Sm}{n:Nat}{x:bR}
def jV{apos cpos:iV}(he:CE X xw C e i)(hN:X.N[n]?=aa x)(hv:Vis X.env.scope x)(hd:(x == #[11])=aj)
  (hcd:(x == #[23])=aj)
  (hbase:attributeBase (.Name x p) "append" X.env (cR (.Name x p) X.env)=cR (.Name x p) X.env)
  (hfew:((dS cpos<|aE [e] X.env).all (λx=>!x.1)&&(backToKw cpos<|keywordEach [] X.env).all (λx=>x.1.isSome)
   && ag (([e]:List Expr).length+([]:List sj).length+(if([]:List sj).isEmpty then 0 else 1)<30))=ao)
  (hline:(apos.endLine == cpos.line)=ao)(hs:aE [e] X.env=#[27]::aE [] X.env)(hplain:(dS cpos<|aE [] X.env).any (·.1)=aj)
  (hw:eV (.Call (.Attribute (.Name x p) "append" apos) [e] [] cpos) ai pos.line X.env=cX aj) :
  CS X xw fr C ns (.Expr (.Call (.Attribute (.Name x p) "append" apos) [e] [] cpos) pos) (.ex<|.mt .append (.v n) [i]):=.mk <|
 PS.imp (zk (Zcp ip lH lI Uo (YY hN hv hd hcd) (ZS he.h Xb hs) hbase hfew hline hs hplain) hw)<|by
 right;rw[Pv.Zdx]at h;obtain⟨c,h⟩:=h.guard;obtain⟨xs,hx,h⟩:=ZF.ob h;obtain⟨a,ha,q,us,e1,_⟩:=en.at c hx;refine#[.ref a,q,.inl #[rfl,us,SqL.of e1],U,l,S,st,en.all,ZF.bind en h λy S1 H1 v f1 st1 r1 h1=>?_]
 obtain⟨⟨hf,hl⟩,h1⟩:=h1.guard;have en1:=en.mono f1;obtain⟨a',ha',_,us,e2,r'⟩:=en1.at c hx;rw[ha]at ha';cases ha';exact#[a,us,v,rfl,rfl,e2,by rw[r'.length,<-zy];exact hl,h1 _ _ W (st1.mut en1 ha)<|en1.mut ha<|r'.append<|Rq.cons (Rep.flat (U:=U) (ρ':=U.ex W) rfl (λ_ _ z _ _=>z) hf r1) Rq.nil]
structure AugOk(X:Cx)(op:Operator)(o:Bop):Prop where
 h:∃t:TIp,PIp X op t/\∀(xw:Nat->Hp->Prop) U S H n m Q,St3 X.K U S H->End X.K xw Rep U H Q (Pv.Wg o (.int n) (.int m) S)->t (.int n) (.int m) H Q
def Zaz:AugOk X .Add .add:=#[_,ZdP,λxw U S H n m Q st h=>#[n,m,rfl,rfl,End.ok h st<|ZT _]]
def Zc6{a b:Int}(h:Pv.UX o a b S=.ok z S'):∃y,z=.int y:=by
 unfold Pv.UX at h;cases o<;>simp only at h<;>first
  |(cases h;exact#[_,rfl])
  |(split at h<;>cases h;exact#[_,rfl])
def ZhY(ho:AugOk X op o)(hN:X.N.Nodup)(he:CE X xw C e i)(hi:X.N[n]?=aa x)(hx:L2.Loc X.env.scope x)(hf:X.fn x=ao\/X.env.scope.names.lookup x=aa .local) :
  CS X xw fr C ns (.AugAssign (.Name x p) op e pos) (.aug n o i):=.mk <| by
 obtain⟨t,ht,hq⟩:=ho.h;refine PS.imp (Zgg hN hi hx he.h ht hf) λD Z H #[U,H0,W,l,os,S,st,en,h]=>?_
 rw[Pv.rE4]at h;obtain⟨c,h⟩:=h.guardN;obtain⟨d,hd,h1⟩:=ZF.ob h;obtain⟨v,hv,rv⟩:=en.all.val n d (by cases q:l[n]?<;>rw[q]at hd<;>cases hd;rfl)
 refine#[v,hv,U,l,S,st,en.all,ZF.bind en h1 λy S1 H1 u f1 st1 r1 h2=>?_]
 cases d with
 |int m=>cases y with
  |int m'=>
   rw[rv.int',r1.int'];have h2:ZF fr X.K xw U H0 D ((Pv.UX o m m' S1).bind λz S=>.ok (.nx (l.set n<|aa z) os) S):=h2
   refine hq xw U S1 H1 m m' _ st1 (show End X.K xw Rep U H1 _ (Pv.UX o m m' S1)from ?_)
   have en1:=en.mono f1;cases q:Pv.UX o m m' S1 with
   |no=>rwa[q]at h2
   |ex c S2=>rw[q]at h2;exact λρ1 H2 g s2=>by cases g.eq;exact h2 H2 (en1.fut.trans g) s2
   |ok z S2=>
    rw[q]at h2;obtain⟨y,rfl⟩:=Zc6 q;exact λρ1 H2 w g s2 r2=>by
     cases g.eq;cases r2.int';exact h2 H2 _ W s2<|(en1.mono g).set (by simpa using c) λ_ z=>by cases z;exact ZT _
  |_=>exact False.elim h2
 |_=>exact False.elim h2
def ZaO(hp:nq #[10] X.A X.env X.xe)(hc:CT X xw C c k)(hb:CSs X xw fr C ns body ms):CS X xw fr C ns (.While c body [] pos) (.whl k ms):=.mk <| PS.imp (Zbo hp hc.h hb.h)<|by
 right;refine#[λm σ' H'=>∃W' l' os' S',St3 X.K U S' H'/\Eu U H0 W' l' os' σ' H'/\ZF fr X.K xw U H0 D (Pv.YZ (Pv.YS C k) (Pv.rvs C ns ms) m l' os' S'),#[Ev.xX,W,l,os,S,st,en,h],?_]
 rintro m σ' H' ⟨W',l',os',S',st',en',e'⟩
 cases m with
 |zero=>exact False.elim e'
 |succ m=>
  rw[Pv.YZ]at e';refine#[U,l',S',st',en'.all,ZF.bind en' e' λb S1 H1 b' f1 st1 r1 h1=>?_]
  subst r1;cases b with
  |false=>
   rw[T8 aT]at h1 ⊢;exact h1 H1 σ' W' st1<|en'.mono f1
  |true=>
   rw[T9 rfl]at h1 ⊢;refine#[λσ2 H2=>∃W2 l2 os2 S2,St3 X.K U S2 H2/\Eu U H0 W2 l2 os2 σ2 H2/\ZF fr X.K xw U H0 D (Pv.YZ (Pv.YS C k) (Pv.rvs C ns ms) m l2 os2 S2),λσ2 H2 w=>#[m,fE m,w],U,H0,W',l',os',S1,st1,en'.mono f1,?_]
   cases q:Pv.rvs C ns ms l' os' S1 with
   |no=>rwa[q]at h1
   |ex c S2=>rwa[q]at h1
   |ok fl S2=>
    rw[q]at h1;cases fl with|nx l3 os3=>exact λH4 σ4 W4 st4 lr4=>#[W4,l3,os3,S2,st4,lr4,h1]|ret d=>exact h1
end
structure WRel(K:ap)(U:Mx)(H:Hp)(w:List D)(J:It):Prop where
 go:∀(i:Nat) ρ' S' H',Lat U H ρ' H'->St3 K ρ' S' H'->i<w.length->J.go i H'/\∀x H'',J.yld i H' x H''->Fut ρ' H' ρ' H''/\St3 K ρ' S' H''/\∀d,w[i]?=aa d->Rep ρ' H'' d x
 stop:∀ρ' S' H',Lat U H ρ' H'->St3 K ρ' S' H'->J.stop w.length H'
section
variable(X:Cx)(xw:Nat->Hp->Prop)
def tW3(f:Lc->ZO->R (List D)):TI:=λZ H Q=>∃U l S,St3 X.K U S H/\LocR U H l Z/\End X.K xw (WRel X.K) U H Q (f l S)
structure CW(C:Calls)(tg it:Expr)(w:Ev.W):Prop where
 h:PI X tg it (tW3 X xw<|Pv.pvw C w)
end
def PI.imp(h:PI X tg it t)(k:∀Z H Q,t' Z H Q->t Z H Q):PI X tg it t':=λpq s Z H R I q=>h pq s Z H R I<|k Z H R q
section
variable{X:Cx}{xw:Nat->Hp->Prop}{C:Calls}{e a b c tg it:Expr}{i j k:E}{pos p p' p2:iV}
def ZjD(K:ap)(tl:TE):TI:=λZ H R=>tl Z H λx H1=>∃a,x=.ref a/\(((∃xs,SqL K H1 a xs)/\R (Itl K a) H1)\/((∃xs,SqT K H1 a xs)/\R (Itt K a) H1))
def ZaQ(hl:PE X l tl):PI X tg l (ZjD X.K tl):=by
 intro pq s Z H R I h;refine thn (hl pq s Z H _ I h) λv s1 #[x,H1,I1,r1,a,e,q]=>?_
 subst e;cases r1;rcases q with⟨⟨xs,hq⟩,q⟩|⟨⟨xs,hq⟩,q⟩
 .obtain⟨its,rv,p,hz⟩:=I1.list hq
  refine fb p.isList <| #[s1.heap.objs.size,[s1.heap.objs.size],_,_,H1,rfl,I1.kept λb o e=>au _ e,jB a _,#[_,aH _ rfl,rfl,rfl],λb hb=>?_,q]
  have e:b=s1.heap.objs.size:=by simpa using hb
  subst e;exact I1.fpOk (aJ _)<|I1.hok.fresh<|aJ _
 .obtain⟨its,rv,p,hz⟩:=I1.tuple hq
  refine h8 (p) <| #[s1.heap.objs.size,[s1.heap.objs.size],_,_,H1,rfl,I1.kept (t':=s1.toks) λb o e=>au _ e,vi a _,#[_,aH _ rfl,rfl,rfl],λb hb=>?_,q]
  have e:b=s1.heap.objs.size:=by simpa using hb
  subst e;exact I1.fpOk (aJ _)<|I1.hok.fresh<|aJ _
def Ux{K:ap}(r:Rq U H ds xs)(hg:∀ρ' H',Lat U H ρ' H'->(∀i x,xs[i]?=aa x->J.go i H'/\∀y H'',J.yld i H' y H''->H''=H'/\y=x)/\∀n,n=xs.length->J.stop n H'):WRel K U H ds J where
 go:=λi ρ' S' H' f st hi=>by
  obtain⟨v,g,r'⟩:=(r.lat f).get<|af hi;obtain⟨a,b⟩:=(hg ρ' H' f).1 i v g;refine#[a,λx H'' y=>?_]
  obtain⟨rfl,rfl⟩:=b x H'' y;exact#[Fut.refl _ _,st,λd hd=>by rw[af hi]at hd;cases hd;exact r']
 stop:=λρ' S' H' f st=>(hg ρ' H' f).2 _ r.length.symm
def ZbN{K K':ap}{U:Mx}{H:Hp}{ds:List D}{a:aO}{xs:List V}(hp:H a=aa (.tup xs))(r:Rq U H ds xs):WRel K U H ds (Itt K' a):=Ux r λρ' H' f=>by
 have h:=SqT.of (K:=K')<|f.keep a _ hp λ_ z=>by cases z
 exact#[λi x g=>#[#[xs,x,h,g],λy H'' z=>#[z.1,by have:=z.2 xs h;rw[g]at this;exact(aq this).symm]],λn e=>#[xs,h,by omega]]
def zS{K K':ap}{U:Mx}{H:Hp}{a:aO}(hp:∀ρ' H',Lat U H ρ' H'->SqL K' H' a xs)(r:Rq U H ds xs):WRel K U H ds (Itl K' a):=Ux r λρ' H' f=>by
 have h:=hp ρ' H' f;exact#[λi x g=>#[#[xs,x,h,g],λy H'' z=>#[z.1,by have:=z.2 xs h;rw[g]at this;exact(aq this).symm]],λn e=>#[xs,h,by omega]]
def JX(lo n):(Pv.Yb lo n).length=n:=by unfold Pv.Yb;rw[av,bf]
theorem Gu(lo):∀(l:List Nat),Rq U H (l.map λ(k:Nat)=>Pv.V.int<|lo+(k:Int)) (l.map λ(k:Nat)=>V.int<|lo+(k:Int))
 |[]=>Rq.nil
 |_::l=>Rq.cons (ZT _)<|Gu lo l
def xh{K:ap}{U:Mx}{H:Hp}{lo:Int}{n:Nat}:WRel K U H (Pv.Yb lo n) (Itr lo n):=Ux (Gu lo<|aC n) λρ' H' f=>by
 refine#[λi x g=>?_,λm e=>?_]
 .have hi:i<n:=by have:=(aN.mp g).1;simpa using this
  rw[aK,bZ hi]at g;exact#[hi,λy H'' z=>#[z.1,z.2.trans<|aq g]]
 .rw[av,bf]at e;show n<=m;omega
def Zik(he:CE X xw C e i):CW X xw C tg e (.of i):=.mk <| PI.imp (ZaQ he.h)<|by
 left;rw[Pv.wE7]at h;refine#[U,l,S,st,lr,h.bind λx S1 ρ1 H1 v f1 st1 r1 h1=>?_]
 obtain⟨ds,hd,h1⟩:=End.po h1;have q:∀{J},WRel X.K ρ1 H1 ds J->Q J H1:=λw=>End.ok (rep:=WRel X.K) h1 st1 w
 cases x with
 |tup ds=>cases hd;obtain⟨a,xs,rfl,hp,r⟩:=r1.tup';exact#[a,rfl,.inr #[#[xs,SqT.of hp],q<|ZbN hp r]]
 |lst ds=>cases hd;obtain⟨a,xs,rfl,hp,hx,r⟩:=r1.lst';exact#[a,rfl,.inl #[#[xs,SqL.of hp],q<|zS (λρ' H' f=>SqL.of<|f.keep a _ hp λ_ _=>hx) r]]
 |scr ns=>
  cases hd;obtain⟨a,rfl,hp⟩:=r1.scr';rw[st1.hk]at hp;refine#[a,rfl,.inl #[#[_,hp.sq],q<|zS (λρ' H' f=>?_)<|Rq.ints ns]]
  rcases hp with⟨o,hp⟩|hp
  .exact .inl<|.inr #[o,f.keep a _ hp λ_ z=>by cases z]
  .exact .inr hp
 |_=>exact Ev.nos hd
def ZfM{B β:Type}{rep:Mx->Hp->B->β->Prop}{Q:β->Hp->Prop}{g:D->ZO->R B}(st:St3 X.K U S H)(lr:LocR U H l Z)(h:End X.K xw rep U H Q ((Pv.pv C i l S).bind g))
  (k:∀x S1 ρ1 H1 v,St3 X.K ρ1 S1 H1->Rep ρ1 H1 x v->End X.K xw rep ρ1 H1 Q (g x S1)->Q1 [v] H1):tA X xw (Pv.pvs C [i]) Z H Q1:=by
 refine#[U,l,S,st,lr,?_];show End X.K xw Rq U H _ ((Pv.pv C i l S).bind λx S=>.ok [x] S)
 cases q:Pv.pv C i l S with
 |no=>rwa[q]at h
 |ex c S1=>rwa[q]at h
 |ok x S1=>
  rw[q]at h;intro ρ1 H1 vs f1 st1 r1;obtain⟨v,rfl,r⟩:=ZaN r1;exact k x S1 ρ1 H1 v st1 r<|End.mono f1 h
def ZfP{B β:Type}{rep:Mx->Hp->B->β->Prop}{H:Hp}{Q:β->Hp->Prop}{g:D->D->ZO->R B}(st:St3 X.K U S H)(lr:LocR U H l Z)(h:End X.K xw rep U H Q ((Pv.pv C i l S).bind λx S=>(Pv.pv C j l S).bind λy S=>g x y S))
  (k:∀x y S1 ρ1 H1 v u,St3 X.K ρ1 S1 H1->Rep ρ1 H1 x v->Rep ρ1 H1 y u->End X.K xw rep ρ1 H1 Q (g x y S1)->Q1 [v,u] H1):tA X xw (Pv.pvs C [i,j]) Z H Q1:=by
 refine#[U,l,S,st,lr,?_];show End X.K xw Rq U H _ ((Pv.pv C i l S).bind λx S=>((Pv.pv C j l S).bind λy S=>.ok [y] S).bind λxs S=>.ok (x::xs) S)
 cases q:Pv.pv C i l S with
 |no=>rwa[q]at h
 |ex c S1=>rwa[q]at h
 |ok x S1=>
  rw[q]at h;have h:End X.K xw rep U H Q ((Pv.pv C j l S1).bind λy S=>g x y S):=h
  show End X.K xw Rq U H _ (((Pv.pv C j l S1).bind λy S=>.ok [y] S).bind λxs S=>.ok (x::xs) S)
  cases q2:Pv.pv C j l S1 with
  |no=>rwa[q2]at h
  |ex c S2=>rwa[q2]at h
  |ok y S2=>
   rw[q2]at h;intro ρ1 H1 vs f1 st1 r1;obtain⟨v,u,rfl,rv,ru⟩:=yt r1;exact k x y S2 ρ1 H1 v u st1 rv ru<|End.mono f1 h
def XO(h:Ev.Va n=ao):-(2^62)<=n/\n<2^62:=T6 h
def Zd3(hm:X.mg "range" = ai)(ha:CA X xw C [a] [i])(hg:Gl X "range")(hs:aE [a] X.env=[(aj,cR a X.env)]):CW X xw C tg (.Call (.Name "range" p) [a] [] pos) (.rng1 i):=.mk <|
 PI.imp (jW hg hm ha.h hs) λZ H Q #[U,l,S,st,lr,h]=>ZfM st lr h λx S1 ρ1 H1 v st1 r h1=>by
  cases x with
  |int n=>
   obtain⟨hs,h2⟩:=End.guard h1;exact#[n,by rw[r.int'],(XO hs).1,(XO hs).2,End.ok h2 st1 xh]
  |_=>exact False.elim h1
def Zdr(hm:X.mg "range" = ai)(ha:CA X xw C [a,b] [i,j])(hg:Gl X "range")(hs:aE [a,b] X.env=[(aj,cR a X.env),(aj,cR b X.env)])(hs2:aE [b] X.env=[(aj,cR b X.env)]) :
  CW X xw C tg (.Call (.Name "range" p) [a,b] [] pos) (.rng2 i j):=.mk <|
 PI.imp (j5 hg hm ha.h hs hs2) λZ H Q #[U,l,S,st,lr,h]=>ZfP st lr h λx y S1 ρ1 H1 v u st1 rv ru h1=>by
  cases x with
  |int n=>cases y with
   |int m=>
    obtain⟨hs,h3⟩:=End.guard h1;obtain⟨s1,s2⟩:=(aA _ _).mp hs;exact#[n,m,by rw[rv.int',ru.int'],#[(XO s1).1,(XO s1).2,(XO s2).1,(XO s2).2],End.ok h3 st1 xh]
   |_=>exact False.elim h1
  |_=>exact False.elim h1
def qz{D:Ends}{U:Mx}{W:Own}{l:Lc}{os:List Nat}{S1:ZO}{J:It}{fr:Bool}(st1:St3 X.K U S1 H1)(en:Eu U H0 W l os Z H1)(r1:WRel X.K (U.ex W) H1 wk J)
  (h1:ZF fr X.K xw U H0 D (Pv.Xm (λx U os s=>if(t.any<|lJ os)=ao then(.no:Pv.PR Pv.FlV)else(Pv.po (Pv.Zq t x U) s).bind λU s=>Pv.rvs C ns ms U os s) wk l os S1)):∃W:Nat->Nat->L2.St->Hp->Prop,(∃m,W 0 m Z H1)/\∀i m Z H,W i m Z H->
   (J.stop i H/\D.nx Z H)\/(J.go i H/\∃N,(∀σ' H',N σ' H'->∃m',m'<m/\W (i+1) m' σ' H')/\∀x H',J.yld i H x H'->tGU X.K t x Z H' λσ2 H2=>tS3 X xw fr (Pv.rvs C ns ms) {D with nx:=N,ct:=N,bk:=D.nx} σ2 H2):=by
 obtain⟨bs,en1⟩:=en.off st1.xd;have h1:=h1.rebase bs en.xd;generalize hB:(λx U os s=>if(t.any<|lJ os)=ao then(.no:Pv.PR Pv.FlV)else(Pv.po (Pv.Zq t x U) s).bind λU s=>Pv.rvs C ns ms U os s)=B at h1
 let I:=λn σ' H'=>∃W' l' os' S',St3 X.K U S' H'/\Eu U (JE H1 W) W' l' os' σ' H'/\ZF fr X.K xw U (JE H1 W) D (Pv.Xm B (wk.drop n) l' os' S')
 refine#[λn m σ' H'=>m=wk.length-n/\n<=wk.length/\I n σ' H',#[wk.length,rfl,c7 _,W,l,os,S1,st1,en1,h1],?_]
 rintro n m σ' H' ⟨rfl,hn,W',l',os',S',st',en',e'⟩
 have lat:=en.walk en';by_cases hlt:n<wk.length
 .refine .inr ?_
  rw[cg hlt,Pv.Xm]at e';obtain⟨go,yl⟩:=r1.go n _ S' H' lat (en'.st st') hlt;refine#[go,I<|n+1,λσ2 H2 q=>#[wk.length-(n+1),i5 _ _ hlt,rfl,hlt,q],λx H3 y=>?_]
  obtain⟨f3,st3,rp⟩:=yl x H3 y;have f3:Fut U H' U H3:=#[rfl,f3.keep];have hBn:B wk[n] l' os' S'=if(t.any<|lJ os')=ao then(.no:Pv.PR Pv.FlV)else(Pv.po (Pv.Zq t wk[n] l') S').bind λU s=>Pv.rvs C ns ms U os' s:=by rw[<-hB]
  rw[hBn]at e';by_cases c:(t.any<|lJ os')=ao
  .rw[T9 c]at e';exact e'.elim
  rw[T8 c]at e';cases ha:Pv.Zq t wk[n] l' with
  |none=>rw[ha]at e';exact e'.elim
  |some l2=>
   rw[ha]at e';refine(en'.mono f3).assign (by simpa using c) (rp _<|af hlt) ha λσ2 e2=>#[U,_,W',l2,os',S',st3.unex,e2,?_]
   have e':ZF fr X.K xw U (JE H1 W) D ((Pv.rvs C ns ms l2 os' S').bind _):=e';cases q:Pv.rvs C ns ms l2 os' S' with
   |no=>rwa[q]at e'
   |ex c S2=>rwa[q]at e'
   |ok fl S2=>
    rw[q]at e';cases fl with|nx l3 os3=>exact λH4 σ4 W4 st4 lr4=>#[W4,l3,os3,S2,st4,lr4,e']|ret d=>exact e'
 .refine .inl ?_
  have en2:n=wk.length:=by omega
  subst en2;rw[eD]at e';exact#[r1.stop _ S' H' lat<|en'.st st',e' H' σ' W' st' en']
def ZhO(hp:nq #[10] X.A X.env X.xe)(hc:X.calm=ao)(hw:CW X xw C tg it w)(hg:CG X tg t)(hb:CSs X xw fr C ns body ms)
  (hs:∀x,dL it X.env x=cX x):CS X xw fr C ns (.For tg it body [] pos) (.forr t w ms):=.mk <| PS.imp (Zbj hp hc hw.h hg.h hb.h hs)<|by
 right;rw[Pv.JL]at h;refine#[U.ex W,Pv.hide os l,S,en.st st,en.hid,ZF.bindW en h λwk S1 H1 J f1 st1 r1 h1=>qz st1 (en.mono f1) r1 h1]
def ZeU(hp:nq #[10] X.A X.env X.xe)(hc:X.calm=ao)(he:CF X xw C it i)(hg:CG X tg t)(hb:CSs X xw fr C ns body ms)
  (hs:∀x,dL it X.env x=cX x):CS X xw fr C ns (.For tg it body [] pos) (.forF t i ms):=.mk <| PS.imp (Zbj hp hc (ZaQ he.h) hg.h hb.h hs)<|by
 right;rw[Pv.ZiV]at h;refine ZF.evA ao (λ_=>rfl) st en h λd S1 H1 v f1 st1 r1 h1=>?_
 cases d with|lst ds=>obtain⟨a,xs,rfl,hp,hx,r⟩:=r1.1.lst';exact#[a,rfl,.inl #[#[xs,SqL.of hp],qz st1 (en.mono f1) (zS (λρ' H' f=>SqL.of<|f.keep a _ hp λ_ _=>hx) r) h1]]|_=>exact h1.elim
end
end
section
noncomputable def jM(env:Env):List (bR×iX)->List (bR×aO)->List (bR×aO)
 |[],acc=>acc
 |x::r,acc=>jM env r (if(x.2 == bJ)=ao then(x.1,(env.cells.lookup x.1).getD 0)::acc else acc)
theorem QO{f:bR×iX->List (bR×aO)->pX (ForInStep<|List<|bR×aO)}:∀names acc,
  (∀x∈names,∀c,f x c=cX (.yield (if(x.2 == bJ)=ao then(x.1,(env.cells.lookup x.1).getD 0)::c else c)))->m5 names acc f=cX (jM env names acc)
 |[],acc,_=>rfl
 |x::r,acc,h=>by
  rw[mH,h x ak];exact QO r _ λy hy=>h y<|am _ hy
theorem xJ :∀names acc,(jM env names acc).lookup x=aa c->acc.lookup x=aa c\/(∃y∈names,y.1=x/\y.2=.free/\c=(env.cells.lookup x).getD 0)
 |[],acc,h=>.inl h
 |y::r,acc,h=>by
  rcases xJ r _ h with h|⟨z,hz,e⟩
  .by_cases hf:(y.2 == bJ)=ao
   .rw[T9 hf,bT]at h
    cases q:(x == y.1)with
    |true=>
     rw[q]at h;have e:=fD q;exact .inr #[y,ak,e.symm,fD hf,by rw[e];exact(aq h).symm]
    |false=>rw[q]at h;exact .inl h
   .rw[T8 hf]at h;exact .inl h
  .exact .inr #[z,am _ hz,e]
theorem wt :∀names acc,(acc.lookup x).isSome=ao->((jM env names acc).lookup x).isSome=ao
 |[],acc,h=>h
 |y::r,acc,h=>by
  refine wt r _ ?_;split
  .rw[bT]
   cases(x == y.1)with|true=>rfl|false=>exact h
  .exact h
theorem yv :∀names acc,(x,bJ)∈names->((jM env names acc).lookup x).isSome=ao
 |[],acc,h=>by cases h
 |y::r,acc,h=>by
  rcases ay.mp h with h|h
  .subst h
   refine wt r _ ?_;rw[T9 #[7],bT,beq_self_eq_true]
   rfl
  .exact yv r _ h
def Vo(h:∀y∈scope.names,y.2=.free->∃c,env.cells.lookup y.1=aa c) :
  ∃cl,iM scope env=cX cl/\(∀x c,cl.lookup x=aa c->env.cells.lookup x=aa c)/\∀x,(x,bJ)∈scope.names->∃c,cl.lookup x=aa c:=by
 refine#[jM env scope.names [],?_,λx c e=>?_,λx hx=>bQ.mp<|yv _ _ hx]
 .simp only[iM]
  rw[QO (env:=env) scope.names [] (λx hx c=>by
   obtain⟨n,kind⟩:=x;by_cases hk:(kind == bJ)=ao
   .obtain⟨a,ha⟩:=h (n,kind) hx (fD hk)
    simp[hk,cellOf,ha]
   .simp only[hk]
    rfl),pure_bind]
 .rcases xJ _ _ e with e|⟨y,hy,e1,e2,e3⟩
  .cases e
  .obtain⟨a,ha⟩:=h y hy e2
   rw[e1]at ha;rw[e3,ha];rfl
theorem V8{lo:Nat}:∀names h acc,lo<=h.objs.size->(dz h.objs.size names acc).lookup x=aa c->
  ((x,c6)∉names/\acc.lookup x=aa c)\/((x,c6)∈names/\lo<=c/\(o8 h names).IsCell c ai)
 |[],h,acc,_,e=>.inl #[by simp,e]
 |(name,kind)::r,h,acc,hlo,e=>by
  unfold dz at e;unfold o8;split at e
  .rename_i hk
   rw[T9 hk];have hk:=fD hk;subst hk;rw[<-cP h {cls:=.type "cell",data:=.cell ai}]at e;rcases V8 r (h.push {cls:=.type "cell",data:=.cell ai}) ((name,h.objs.size)::acc) (bV hlo<|by rw[cP];exact lx _) e with⟨e1,e2⟩|⟨e1,e2⟩
   .rw[bT]at e2
    cases hb:x == name with
    |true=>
     rw[hb]at e2;cases e2;have:=fD hb;subst this;exact .inr #[ak,hlo,_,mI _ _ _ _<|aH _ rfl,rfl]
    |false=>
     rw[hb]at e2;refine .inl #[λhm=>?_,e2]
     rcases ay.mp hm with q|q
     .cases q
      rw[beq_self_eq_true]at hb;cases hb
     .exact e1 q
   .exact .inr #[am _ e1,e2]
  .rename_i hk
   rw[T8 hk];rcases V8 r _ _ hlo e with⟨e1,e2⟩|⟨e1,e2⟩
   .refine .inl #[λhm=>?_,e2]
    rcases ay.mp hm with q|q
    .cases q
     exact hk rfl
    .exact e1 q
   .exact .inr #[am _ e1,e2]
theorem Uj:∀names n acc,(∀x c,acc.lookup x=aa c->c<n)->(∀x y c,acc.lookup x=aa c->acc.lookup y=aa c->x=y)->
  ∀x y c,(dz n names acc).lookup x=aa c->(dz n names acc).lookup y=aa c->x=y
 |[],n,acc,_,h=>h
 |(name,kind)::r,n,acc,hl,h=>by
  unfold dz;split
  .refine Uj r (n+1) _ (λx c e=>?_) λx y c e1 e2=>?_
   .rw[bT]at e
    split at e
    .cases e;exact fE _
    .exact cB<|hl x c e
   .rw[bT]at e1 e2
    cases p:x == name<;>cases q:y == name<;>rw[p]at e1<;>rw[q]at e2
    .exact h x y c e1 e2
    .cases e2;exact T7 (hl x _ e1)<|bv _
    .cases e1;exact T7 (hl y _ e2)<|bv _
    .rw[fD p,fD q]
  .exact Uj r n acc hl h
theorem Us :∀names n acc,(∃c,acc.lookup x=aa c)\/(x,c6)∈names->∃c,(dz n names acc).lookup x=aa c
 |[],n,acc,h=>h.elim (λh=>h) λh=>by cases h
 |(name,kind)::r,n,acc,h=>by
  unfold dz;split
  .refine Us r _ _ ?_
   cases hb:x == name with
   |true=>exact .inl #[n,by rw[bT,hb]]
   |false=>
    rcases h with⟨c,e⟩|h
    .exact .inl #[c,by rw[bT,hb];exact e]
    .rcases ay.mp h with q|q
     .cases q
      rw[beq_self_eq_true]at hb;cases hb
     .exact .inr q
  .rename_i hk
   refine Us r _ _<|h.imp (λh=>h) λh=>?_
   rcases ay.mp h with q|q
   .cases q
    exact T7 rfl hk
   .exact q
def vc 
  (h:Q (newEnv scope s.heap.objs.size g (dz (s.heap.objs.size+1) scope.names cl) q ai .none (aa env) nM) {s with heap:=o8 (s.heap.push {cls:=.type "dict",data:=.dict #[]}) scope.names}) :
  aY M A (newFunctionEnv scope g cl [] q ai .none<|aa env) Q E s:=by
 refine ae<|pE ?_;refine ae<|wpAny_layCells _ (λname kind cells=>by cases hkc:kind == c6<;>simp[hkc]) _ _ _ _ ?_
 rw[cP ..]
 exact aw h
def cxC(X:Cx)(N:List bR)(scope:gI)(cl:List (bR×aO))(s:aM)(H:Hp)(fp:List aO):Cx:=
 {X with N:=N,s₀:=s,H₀:=H,env:=compEnvC scope cl s.heap.objs.size X.env,outer:=X.stack,ex:=fp,fn:=λx=>scope.names.any λy=>y.2 == .cell&&y.1 == x,pn:=[],xe:=λ_ _=>False}
def PTs(X:Cx)(ifs:List Expr)(t:TT):Prop:=
 ∀(pq:List (aO×gf))(s:aM)(Z:L2.St)(H:Hp)(Q:Bool->Hp->Prop),Inv X pq Z H s->t Z H Q->
  aY #[10] X.A (m5 ifs ao λc r=>if r=ao then do let ok <-isTrue c X.env (cR c X.env);cX (ke ok)else cX (ke r)) (TP X pq Z Q) X.xe s
def Zfo :PTs X [] (λZ H Q=>Q ao H):=λpq s Z H Q I h=>wpAny_tests_nil #[H,I,h]
def ZdH(h:PT X c t):PTs X [c] t:=λpq s Z H Q I hq=>wpAny_tests_one<|h pq s Z H Q I hq
structure CompScope(sc:gI)(N0:List bR)(scope:gI)(N:List bR)(cap:List Nat)(nl:Nat):Prop where
 kind:scope.kind=.function
 cell:∀y∈scope.names,y.2=.cell->(y.1,bJ)∉scope.names
 names:∀y∈scope.names,y.2=.local->scope.names.lookup y.1=aa .local
 free:∀y∈scope.names,y.2=.free->sc.names.lookup y.1=aa .cell\/sc.names.lookup y.1=aa .free
 apart:∀y∈scope.names,y.2=.free->scope.names.lookup y.1≠aa .local
 len:N.length=nl+cap.length
 cap:∀p∈cap.zipIdx,N[nl+p.2]?=N0[p.1]?/\(N0[p.1]?).map (λx=>ag<|(x,bJ)∈scope.names)=aa ao
def CompScope.capt{cap:List Nat}(h:CompScope sc N0 scope N cap nl)(i j)(e:cap[i]?=aa j):∃x,N[nl+i]?=aa x/\N0[j]?=aa x/\(x,bJ)∈scope.names:=by
 have hm:(j,i)∈cap.zipIdx:=by
  rw[kf];exact e
 obtain⟨h1,h2⟩:=h.cap (j,i) hm;cases q:N0[j]? with
 |none=>rw[q]at h2;cases h2
 |some x=>
  rw[q]at h1 h2
  exact#[x,h1,rfl,T6<|aq h2]
noncomputable def XE(cap:List Nat)(nl:Nat)(Z:L2.St):L2.St:=ax nl ai++cap.map λi=>(Z[i]?).join
section
variable{X:Cx}{pq:List (aO×gf)}{Z:L2.St}{H:Hp}{s:aM}
theorem V4{env:Env}{x:bR}:∀{names:List (bR×iX)},(names.map λ(n,k)=>if(k == bJ&&env.scope.kind == .function&&env.kindOf n == aa .cell)then(n,c6)else(n,k)).lookup x=aa .cell\/
  (names.map λ(n,k)=>if(k == bJ&&env.scope.kind == .function&&env.kindOf n == aa .cell)then(n,c6)else(n,k)).lookup x=aa .free->(x,bJ)∈names\/(x,c6)∈names
 |[],h=>by rcases h with h|h<;>cases h
 |(n,k)::r,h=>by
  rw[ba]at h;by_cases e:x=n
  .subst e
   by_cases c:(k == bJ&&env.scope.kind == .function&&env.kindOf x == aa .cell)=ao
   .have:=(aA _ _).mp c
    rw[fD ((aA _ _).mp this.1).1];exact .inl ak
   .simp only[T8 c,bT,beq_self_eq_true,Option.some.injEq]at h
    rcases h with h|h
    .rw[h];exact .inr ak
    .rw[h];exact .inl ak
  .have hb:=beq_eq_false_iff_ne.mpr e
   refine((@V4 env x r) ?_).imp (am _)<|am _;by_cases c:(k == bJ&&env.scope.kind == .function&&env.kindOf n == aa .cell)=ao
   .simpa only[T9 c,bT,hb]using h
   .simpa only[T8 c,bT,hb]using h
theorem ZcI{N:List bR}{nl:Nat}{tk:Nat}(I:Inv X pq Z H s)(CS:CompScope X.env.scope X.N scope N cap nl)(hN:X.N.Nodup)
  (c1:∀x c,cl.lookup x=aa c->((x,c6)∉scope.names/\X.env.cells.lookup x=aa c)\/((x,c6)∈scope.names/\s.heap.objs.size<=c/\h1.IsCell c ai))(c2:∀x,(x,bJ)∈scope.names\/(x,c6)∈scope.names->∃c,cl.lookup x=aa c)
  (c3:∀x y c,cl.lookup x=aa c->cl.lookup y=aa c->x=y)(hf:∀b∈fp,Ug X pq H b)(hb:∀b∈fp,∃o,s.heap.get? b=aa o)(hns:∃m,h1.Ns s.heap.objs.size m)(hk:∀b o,s.heap.get? b=aa o->h1.get? b=aa o) :
  Inv #[18] [] (XE cap nl Z) H {s with heap:=h1,toks:=tk}:=by
 have bne:∀b∈fp,b≠s.heap.objs.size:=λb hb' e=>by
  obtain⟨o,ho⟩:=hb b hb';exact T7 (aG ho) (by rw[e];exact bv _)
 refine#[#[I.ok.mod,CS.kind,I.ok.glob,I.ok.blt,aJ _,c3,λx hx=>c2 x<|V4 hx,λx c h e=>?_,I.ok.hd,I.ok.frames,.inl rfl,
  λb hb'=>#[bne b hb',λx c e=>(c1 x c e).elim (λq=>(hf b hb').2.2.2.2.1 x c q.2) λq z=>?_],I.bs,bV I.ok.bsz I.sz,λb o e hb'=>?_,λb hb' hm=>?_,I.stack,I.stkFree],
  rfl,I.bare,Un.kept hk,?_,λx c e=>?_,I.hok.fresh<|aJ _,λx c e=>(c1 x c e).elim (λq=>I.freeC x c q.2) λq=>I.hok.fresh q.2.1,λp hp=>T7 hp (by simp[cxC]),I.hok.kept hk,?_]
 .rcases c1 x c e with q|q
  .obtain⟨y,hy,e⟩:=gD.mp h
   obtain⟨e1,e2⟩:=(aA _ _).mp e;obtain⟨y,k⟩:=y;have a1:=fD e1;have a2:y=x:=fD e2;subst a1 a2;exact T7 hy q.1
  .exact q.2.1
 .obtain⟨o,ho⟩:=hb b hb'
  have:=aG ho;rw[<-z]at this;exact T7 q.2.1<|Nat.not_le.mpr this
 .rcases(hf b hb').2.2.2.1 with z|z
  .exact I.ok.noex b o e z
  .exact T7 (aG e)<|Nat.not_lt.mpr<|bV I.ok.bsz z
 .rcases ay.mp (I.stkSub b hm)with e|e
  .exact(hf b hb').2.1 e
  .exact(hf b hb').2.2.1 e
 .obtain⟨m1,hm1⟩:=hns
  refine#[m1,hm1,λi x v e1 e2 e3=>?_]
  obtain⟨m,hm,hl⟩:=I.loc;have hi:nl<=i:=by
   by_cases hi:nl<=i
   .exact hi
   .have z:(XE cap nl Z)[i]?=aa ai:=by
     unfold XE;rw[bW (by simp;lia),cO,T9 #[0]]
    rw[z]at e2;cases e2
  have e2':(cap.map λi=>(Z[i]?).join)[i-nl]?=aa (aa v):=by
   have:=e2;unfold XE at this
   rwa [cu (by simp;exact hi),bO]at this
  rw[aK]at e2';cases hj:cap[i-nl]? with
  |none=>rw[hj]at e2';cases e2'
  |some j=>
   rw[hj]at e2';have hv:Z[j]?=aa (aa v):=by
    have:(Z[j]?).join=aa v:=aq e2';cases q:Z[j]? with
    |none=>rw[q]at this;cases this
    |some o=>rw[q]at this;cases o with|none=>cases this|some w=>cases this;rfl
   obtain⟨x',n1,n2,fr⟩:=CS.capt _ _ hj;have ex:x'=x:=by
    have:N[nl+(i-nl)]?=aa x:=by rw[show nl+(i-nl)=i by lia];exact e1
    rw[n1]at this;exact aq this
   subst ex;have kd:=CS.free _ fr rfl;have vis:Vis X.env.scope x':=by
    rcases kd with z|z
    .exact .inr<|.inl z
    .exact .inr<|.inr z
   obtain⟨u,r,lk⟩:=hl j x' v n2 hv vis;refine#[u,r,?_];rcases lk with⟨k,_⟩|⟨k,c,ec,hc⟩
   .have k':X.env.scope.names.lookup x'=aa .local:=k
    rcases kd with z|z<;>(rw[z]at k';cases k')
   .obtain⟨c',ec'⟩:=c2 x' (.inl fr)
    have ecc:c'=c:=by
     have:=(c1 x' c' ec').elim (λq=>q.2) λq=>T7 fr<|CS.cell _ q.1 rfl
     rw[ec]at this;exact(aq this).symm
    subst ecc;refine .inr #[?_,c',ec',?_]
    .rcases e3 with z|z|z
     .have z':=z
      exfalso
      have:∀(names:List (bR×iX)),(∀y∈names,y.2=iX.local->y.1≠x')->(names.map λ(n,k)=>if(k == bJ&&X.env.scope.kind == .function&&X.env.kindOf n == aa .cell)then(n,c6)else(n,k)).lookup x'≠aa .local:=by
       intro names
       induction names with
       |nil=>intro _ h;cases h
       |cons y r ih=>
        obtain⟨n,k⟩:=y;intro hy h;rw[ba]at h;by_cases e:x'=n
        .subst e
         by_cases c:(k == bJ&&X.env.scope.kind == .function&&X.env.kindOf x' == aa .cell)=ao
         .simp only[T9 c,bT,beq_self_eq_true]at h;cases h
         .simp only[T8 c,bT,beq_self_eq_true]at h
          exact hy (x',k) ak (aq h) rfl
        .have hb:=beq_eq_false_iff_ne.mpr e
         refine ih (λy hy'=>hy y<|am _ hy') ?_
         by_cases c:(k == bJ&&X.env.scope.kind == .function&&X.env.kindOf n == aa .cell)=ao
         .simp only[T9 c,bT,hb]at h;exact h
         .simp only[T8 c,bT,hb]at h;exact h
      refine this scope.names (λy hy hl e=>?_) z'
      have l1:=CS.names y hy hl;rw[e]at l1;exact CS.apart (x',.free) fr rfl l1
     .exact .inl z
     .exact .inr z
    .obtain⟨o,ho,hd⟩:=hc
     exact#[o,hk c' o ho,hd]
 .rcases c1 x c e with q|q
  .obtain⟨v,o,ho,hd⟩:=I.cell x c q.2
   exact#[v,o,hk c o ho,hd]
  .exact#[ai,q.2.2]
 .unfold XE
  show _=N.length;rw[aU,bO,av,CS.len]
end
abbrev TEm:=L2.St->Hp->(L2.St->Hp->Prop)->Prop
def Zbf(X:Cx)(act:pX Fin->pX Fin)(te:TEm):Prop:=
 ∀(pq:List (aO×gf))(s:aM)(Z:L2.St)(H:Hp)(Q:L2.St->Hp->Prop)(k:pX Fin)(QF:Fin->aM->Prop)(EE:aB->aM->Prop),Inv X pq Z H s->te Z H Q->(∀s' σ' H',Inv X pq σ' H' s'->Q σ' H'->aY #[10] X.A k QF EE s')->
  aY #[10] X.A (act k) QF EE s
noncomputable def xZ(ipos:iV)(tg:Expr)(ifs:List Expr)(act:pX Fin->pX Fin)(it:aB)(env:Env)(c:Code):pX Fin:=do
 ou ipos
 match <-ml it with
 |none=>cX<|.done .next
 |some v=>
  mF tg it v
  assign tg env v
  let mut ok:=ao
  for c in ifs do
   if ok then ok <-isTrue c env (cR c env)
  if ok then act (sw c)else sw c
def ZcZ(J:It)(g:TG)(tt:TT)(te:TEm)(W:Nat->Nat->L2.St->Hp->Prop)(Q:L2.St->Hp->Prop):Prop:=∀i m σ' H',W i m σ' H'->
  (J.stop i H'/\Q σ' H')\/(J.go i H'/\∀x H'',J.yld i H' x H''->g x σ' H'' λσ2 H2=>tt σ2 H2 λok H3=>if ok=ao then te σ2 H3 λσ3 H4=>∃m',m'<m/\W (i+1) m' σ3 H4 else ∃m',m'<m/\W (i+1) m' σ2 H3)
def jf 
  (hc:Y.calm=ao)(hx:∀a b,Y.xe a b->False)(hT:compTurn e depth (.ref it) acc Y.env=xZ ipos tg ifs act (.ref it) Y.env (.compLoop e depth (.ref it) acc Y.env))(hquiet:(rR e depth (.ref it) acc Y.env).isFrame=aj)
  (hq:(rR e depth (.ref it) acc Y.env).quiet=ao)(T:Turn Y.prog Y.w Y.K tg J fp it tn)(hg:PG Y tg g)(ht:PTs Y ifs tt)(he:Zbf Y act te)(stat:∀{H':Hp},(∀b∈fp,H' b=ai)->∀b∈fp,Ug Y pq H' b)
  (turn:ZcZ J g tt te W Q)(fin:∀Z H s,Inv Y pq Z H s->Q Z H->Rr (.ok .next) s)
  (I0:Inv Y pq Z H s)(st0:tn 0 s.heap)(fr0:∀b∈fp,H b=ai)(w0:W 0 m Z H)(hden:(aW Y.prog Y.w).den (.compLoop e depth (.ref it) acc Y.env)=(compTurn e depth (.ref it) acc Y.env).onRaise (λx=>do noteFrame x Y.env;theTreesLotGoes x))
  (hund:Y.A.under (.compLoop e depth (.ref it) acc Y.env)=Y.A):gC (aW Y.prog Y.w) Y.A (.compLoop e depth (.ref it) acc Y.env) Rr s:=by
 refine codeAny_loop hq (λn s'=>∃i σ' H',Inv Y pq σ' H' s'/\tn i s'.heap/\(∀b∈fp,H' b=ai)/\W i n σ' H') (λn s5 hI=>?_) m #[0,Z,H,I0,st0,fr0,w0]
 rw[hund,hden,hT];refine wpAny_noted ?_;obtain⟨i,σ5,H5,I5,st5,fr5,w5⟩:=hI;refine ae<|iR<|ae ?_;rcases turn i n σ5 H5 w5 with⟨stop,qn⟩|⟨go,step⟩
 .refine dy (T.done Y rfl rfl rfl hc i pq s5 σ5 H5 (λ_ _=>False) I5 (stat fr5) st5 stop) (λr s6 #[hr,I6]=>?_) λ_ _ h'=>h'.elim
  subst hr;exact aw<|fin σ5 H5 s6 I6 qn
 .refine dy (T.item Y rfl rfl rfl hc i pq s5 σ5 H5 (λ_ _=>False) I5 (stat fr5) st5 go) (λr s6 #[u,hr,h6]=>?_) λ_ _ h'=>h'.elim
  subst hr;refine ae<|dy h6 (λ_ s7 #[x,H7,I7,r7,y7,st7,fr7]=>?_) λ_ _ h'=>h'.elim
  have back:∀{σ8:L2.St}{H8:Hp}{s8:aM}{m':Nat},Inv Y (pq++Qq fp s7.heap) σ8 H8 s8->m'<n->W (i+1) m' σ8 H8->∃m,m<n/\∃i σ' H',Inv Y pq σ' H' s8/\tn i s8.heap/\(∀b∈fp,H' b=ai)/\W i m σ' H':=λ{σ8 H8 s8 m'} I8 hm w8=>by
   refine#[m',hm,i+1,σ8,H8,I8.unpinned,T.keep _ _ _ st7 λb hb' o e=>(I8.pin (b,o)<|bq _<|bq _<|X0 hb' e).1,λb hb'=>?_,w8]
   obtain⟨o,e,d⟩:=T.obj _ _ st7 b hb';exact(I8.pin (b,o)<|bq _<|bq _<|X0 hb' e).2.1
  refine ae<|dy (hg _ s7 σ5 H7 x u _ (I7.pinned (stat fr7)<|T.obj _ _ st7) r7<|step x H7 y7) (λ_ s8 #[σ8,H8,I8,q8]=>?_) λ_ _ h'=>(hx _ _ h').elim
  refine ae<|dy (ht _ s8 σ8 H8 _ I8 q8) (λok s9 #[H9,I9,q9]=>?_) λ_ _ h'=>(hx _ _ h').elim
  cases ok with
  |false=>
   rw[T8 aT]at q9;obtain⟨m',hm,w9⟩:=q9;exact aw #[rfl,back I9 hm w9]
  |true=>
   rw[T9 rfl]at q9;exact he _ s9 σ8 H9 _ _ _ _ I9 q9<|by rintro s10 σ10 H10 I10 ⟨m',hm,w10⟩;exact aw #[rfl,back I10 hm w10]
def xn{D:aO}(hx:∀a b,Y.xe a b->False)(he:PE Y elt te):Zbf Y (λk=>(do let _ <-call (.builtin "list.append") [.ref D,<-cR elt Y.env]:pX Unit) >>= λ_=>k) (λZ H Q=>te Z H λy H4=>∃ys,H4 D=aa (.lst ys)/\ys.length<a9/\Q Z (upd H4 D<|.lst<|ys++[y])):=by
 intro pq s Z H Q k QF EE I h hk;refine ae <| wpAny_bind (dy (he pq s Z H _ I h) (λxv s10 #[y,H10,I10,r10,ys,hDy,hz,q]=>?_) λ_ _ h'=>(hx _ _ h').elim)
 refine ae<|dy (Uo pq s10 Z H10 (.ref D) [y] (.ref D) [xv] (λv H'=>v=.non/\H'=upd H10 D (.lst<|ys++[y])) I10 rfl (.cons r10 .nil) #[D,ys,y,rfl,rfl,hDy,hz,rfl,rfl]) (λ_ s11 #[v11,H11,I11,_,_,eH]=>?_) λ_ _ h'=>(hx _ _ h').elim
 subst eH;exact aw<|hk _ _ _ I11 q
def Zhc(wi:TI)(g:TG)(tt:TT)(te:aO->TEm)(cap:List Nat)(nl:Nat):TE:=λZ H Q=>wi Z H λJ H1=>∀D,H1 D=ai->∃W:Nat->Nat->L2.St->Hp->Prop,(∃m,W 0 m (XE cap nl Z)<|upd H1 D<|.lst [])/\ZcZ J g tt (te D) W λ_ H'=>Q (.ref D) H'
def Zcq(wi:TI)(g:TG)(tt:TT)(te:TE)(cap:List Nat)(nl:Nat):TE:=λZ H Q=>wi Z H λJ H1=>∀D,H1 D=ai->∃W:Nat->Nat->L2.St->Hp->Prop,(∃m,W 0 m (XE cap nl Z)<|upd H1 D<|.lst [])/\∀i m σ' H',W i m σ' H'->
  (J.stop i H'/\Q (.ref D) H')\/(J.go i H'/\∀x H'',J.yld i H' x H''->g x σ' H'' λσ2 H2=>tt σ2 H2 λok H3=>if ok=ao then te σ2 H3 λy H4=>∃ys,H4 D=aa (.lst ys)/\ys.length<a9/\∃m',m'<m/\W (i+1) m' σ2 (upd H4 D<|.lst<|ys++[y])else ∃m',m'<m/\W (i+1) m' σ2 H3)
structure Gone(X:Cx)(pq:List (aO×gf))(H:Hp)(s:aM)(C:aO):Prop where
 free:H C=ai
 ns:∃m,s.heap.Ns C m
 loc:C≠X.env.locals
 big:X.s₀.heap.objs.size<=C
 cel:∀x c,X.env.cells.lookup x=aa c->c≠C
 pin:∀p∈X.pn++pq,p.1≠C
def J2{ifs:List Expr}{scope:gI}{N:List bR}{nl:Nat}{wi:TI}{g:TG}{tt:TT}{act:aB->Env->pX Fin->pX Fin}{s:aM}{Z:L2.St}{H:Hp}{Q:VK}{QQ:aB->aM->Prop}(hc:X.calm=ao)(hN:X.N.Nodup)(CS:CompScope X.env.scope X.N scope N cap nl)(hi:PI X tg iter wi)
  (hT:∀it acc env,compTurn (.ListComp elt (#[tg,iter,ifs,0]::rest) scope pos) 0 it acc env=xZ iter.pos tg ifs (act acc env) it env (.compLoop (.ListComp elt (#[tg,iter,ifs,0]::rest) scope pos) 0 it acc env))
  (hb:∀cl s H fp,PG #[18] tg g/\PTs #[18] ifs tt/\∀D,Zbf #[18] (act (.ref D) (cxC X N scope cl s H fp).env)<|te D)
  (hs:∀x,dL iter X.env x=cX x)(I:Inv X pq Z H s)(h:Zhc wi g tt te cap nl Z H Q)
  (fin:∀D C H5 s6,Inv X pq Z H5 s6->Gone X pq H5 s6 C->Q (.ref D) H5->compPost #[10] X.A X.xe use QQ (.ref D) C (.ok .next) s6) :
  aY #[10] X.A (comprehension (.ListComp elt (#[tg,iter,ifs,0]::rest) scope pos) scope X.env fpos (newList []) aj (cR iter X.env) use) QQ X.xe s:=by
 obtain⟨cl,hcl,c1,c2⟩:=Vo λy hy hf=>I.ok.has y.1<|CS.free y hy hf
 refine wpAny_comprehension_free rfl hs hcl CS.kind CS.names ?_;refine thn (hi pq s Z H _ I h) λv s1 h1=>thn h1 λitv s2 h2=>?_
 obtain⟨it,fp,tn,J,H2,rfl,I2,T,st2,f2,q2⟩:=h2;obtain⟨W,⟨m0,w0⟩,turn⟩:=q2 s2.heap.objs.size<|I2.hok.fresh<|aJ _;refine bu<|vc ?_
 dsimp only
 have I3:Inv X pq Z (upd H2 s2.heap.objs.size<|.lst []) {s2 with heap:=s2.heap.push {cls:=.type "list",dict:=ai,data:=.seq ([]:List aB).toArray},toks:=s2.toks}:=
  I2.laid (λb u e=>au _ e) (aJ _) #[c7 _,[],0,.nil,aH _ rfl]
 generalize hD:s2.heap.objs.size=D at I3 w0 turn ⊢;generalize hs3:({s2 with heap:=s2.heap.push {cls:=.type "list",dict:=ai,data:=.seq ([]:List aB).toArray},toks:=s2.toks}:aM)=s3 at I3
 have hh3:s2.heap.push {cls:=.type "list",dict:=ai,data:=.seq ([]:List aB).toArray}=s3.heap:=by rw[<-hs3]
 rw[hh3];have old:∀b o,s2.heap.get? b=aa o->s3.heap.get? b=aa o:=λb o e=>by rw[<-hh3];exact au _ e
 have neD:∀b∈fp,b≠D:=λb hb' e=>by
  obtain⟨o,ho,_⟩:=T.obj _ _ st2 b hb';exact T7 (aG ho) (by rw[e,<-hD];exact bv _)
 have f3:∀b∈fp,Ug X pq (upd H2 D<|.lst []) b:=λb hb'=>#[by rw[Zk<|neD b hb'];exact(f2 b hb').1,(f2 b hb').2]
 generalize hh4:o8 (s3.heap.push {cls:=.type "dict",data:=.dict #[]}) scope.names=h₁;have keep4:∀b o,s3.heap.get? b=aa o->h₁.get? b=aa o:=λb o e=>by rw[<-hh4];exact mI _ _ b o<|au _ e
 have hns₁:∃m,h₁.Ns s3.heap.objs.size m:=#[_,by rw[<-hh4];exact(cQ.Ns.new s3.heap<|.type "dict").keeps<|mI _ _]
 have lt3:∀x c,cl.lookup x=aa c->c<s3.heap.objs.size+1:=λx c e=>by
  obtain⟨v,q⟩:=I3.cell x c<|c1 x c e;exact cB q.lt
 have c3:=Uj scope.names _ cl lt3 λx y c h1 h2=>I.ok.inj x y c (c1 x c h1)<|c1 y c h2
 have c2':∀x,(x,bJ)∈scope.names\/(x,c6)∈scope.names->∃c,(dz (s3.heap.objs.size+1) scope.names cl).lookup x=aa c:=λx hx=>Us _ _ _<|hx.imp (c2 x) λh=>h
 have c1':∀x c,(dz (s3.heap.objs.size+1) scope.names cl).lookup x=aa c->((x,c6)∉scope.names/\X.env.cells.lookup x=aa c)\/((x,c6)∈scope.names/\s3.heap.objs.size<=c/\h₁.IsCell c ai):=λx c e=>by
  rw[<-cP s3.heap {cls:=.type "dict",data:=.dict #[]}]at e;refine(V8 _ _ _ (by rw[cP];exact lx _) e).imp (λq=>#[q.1,c1 x c q.2]) λq=>?_
  rw[hh4]at q;exact q
 generalize dz (s3.heap.objs.size+1) scope.names cl=cl at c1' c2' c3;have I4:=ZcI (tk:=s2.toks) I3 CS hN c1' c2' c3 f3 (λb hb'=>let #[o,ho,_]:=T.obj _ _ st2 b hb';#[o,old b o ho]) hns₁ keep4
 have e4:({s3 with heap:=h₁,toks:=s2.toks}:aM)={s2 with heap:=h₁,toks:=s2.toks}:=by rw[<-hs3]
 rw[e4]at I4;obtain⟨hg,ht,he⟩:=hb cl s3 (upd H2 D<|.lst []) fp;generalize hY:cxC X N scope cl s3 (upd H2 D<|.lst []) fp=Y at I4 hg ht he;have yP:Y.prog=X.prog:=by rw[<-hY];rfl
 have stat:∀{H':Hp},(∀b∈fp,H' b=ai)->∀b∈fp,Ug Y [] H' b:=λhn b hb'=>by
  subst hY;refine#[hn b hb',λe=>?_,λhm=>?_,.inl hb',λx c e=>(c1' x c e).elim (λq=>(f3 b hb').2.2.2.2.1 x c q.2) λq z=>?_,λp hp=>T7 hp (by simp[cxC])]
  .obtain⟨o,ho,_⟩:=T.obj _ _ st2 b hb'
   have:=aG<|old b o ho;rw[e]at this;exact T7 this<|bv _
  .rcases ay.mp (I3.stkSub b hm)with e|e
   .exact(f3 b hb').2.1 e
   .exact(f3 b hb').2.2.1 e
  .obtain⟨o,ho,_⟩:=T.obj _ _ st2 b hb'
   have:=aG<|old b o ho;rw[<-z]at this;exact T7 q.2.1<|Nat.not_le.mpr this
 subst hY
 let Y:=cxC X N scope cl s3 (upd H2 D<|.lst []) fp
 have st4:=T.keep _ _ _ st2 λb hb' o e=>keep4 b o<|old b o e
 have fr4:=λb hb'=>(f3 b hb').1
 have loop:gC #[10] X.A (.compLoop (.ListComp elt (#[tg,iter,ifs,0]::rest) scope pos) 0 (.ref it) (.ref D)<|compEnvC scope cl s3.heap.objs.size X.env)
   (compPost #[10] X.A X.xe use QQ (.ref D) s3.heap.objs.size) {s2 with heap:=h₁,toks:=s2.toks}:=by
  refine jf (Y:=cxC X N scope cl s3 (upd H2 D<|.lst []) fp) hc (λ_ _ z=>z) (hT _ _ _) rfl rfl T hg ht (he D) stat turn (λσ5 H5 s6 I6 qn=>?_) I4 st4 fr4 w0 rfl rfl
  obtain⟨m6,hn6,_⟩:=I6.loc;have u:=I6.base;have IX:=Inv.call' (s':=s6) I3 I6.os #[u.keep,u.slot,u.free,u.there,u.tups,u.frzs,u.tbls] I6.hok I6.bare λb hb'=>#[(f3 b hb').2.2.2.1,(f3 b hb').2.1,(f3 b hb').2.2.2.2.1,λp hp e=>(f3 b hb').2.2.2.2.2 p hp e]
  refine fin D s3.heap.objs.size H5 s6 IX #[I6.free,#[m6,hn6],Ne.symm<|a8 I3.lt,I3.sz,λx c e z=>?_,λp hp z=>?_] qn
  .obtain⟨v,q⟩:=I3.cell x c e
   exact T7 q.lt (by rw[z];exact bv _)
  .exact T7 (aG (I3.pin p hp).1) (by rw[z];exact bv _)
 subst hs3;exact codeAny_compStart_list loop<|T.self _ 0 _ _ _ st4 loop
def Gone.inv(G:Gone X pq H s C)(I:Inv X pq Z H s)(hsb:ei C s.heap h'):Inv X pq Z H {s with heap:=h' }:=
 I.turned (λb o hb e=>(hsb.2 b hb).trans e) G.free G.loc (.inr G.big) G.cel G.pin
def ZjJ(te:TE)(D:aO):TEm:=λZ H Q=>te Z H λy H4=>∃ys,H4 D=aa (.lst ys)/\ys.length<a9/\Q Z (upd H4 D<|.lst<|ys++[y])
def Zdz(hc:X.calm=ao)(hN:X.N.Nodup)(CS:CompScope X.env.scope X.N scope N cap nl)(hi:PI X tg iter wi)
  (hb:∀cl s H fp,PG #[18] tg g/\PTs #[18] ifs tt/\PE #[18] elt te)
  (hs:∀x,dL iter X.env x=cX x:=by intro _;rfl):PE X (.ListComp elt [#[tg,iter,ifs,0]] scope pos) (Zcq wi g tt te cap nl):=by
 intro pq s Z H Q I h;rw[eval_ListComp];refine J2 (act:=λacc env k=>(do let _ <-call (.builtin "list.append") [acc,<-cR elt env]:pX Unit) >>= λ_=>k) hc hN CS hi (λ_ _ _=>rfl) (λcl s H fp=>#[(hb cl s H fp).1,(hb cl s H fp).2.1,λD=>xn (λ_ _ z=>z) (hb cl s H fp).2.2]) hs I h λD C H5 s6 I6 G q=>?_
 obtain⟨m6,hn6⟩:=G.ns;exact#[m6,hn6,λh' hsb=>#[.ref D,H5,G.inv I6 hsb,rfl,q]]
def Zat(hc:X.calm=ao)(hN:X.N.Nodup)(CS:CompScope X.env.scope X.N scope N cap nl)(hi:PI X tg iter wi)
  (hb:∀cl s H fp,PG #[18] tg g/\PTs #[18] ifs tt/\PE #[18] elt te)
  (hsw:eV (.ListComp elt [#[tg,iter,ifs,0]] scope pos) (aa<|.Name y py) spos.line X.env=cX ao)
  (hy:X.N[i]?=aa y)(hx:L2.Loc X.env.scope y)(hf:X.fn y=ao\/X.env.scope.names.lookup y=aa .local)
  (hs:∀x,dL iter X.env x=cX x:=by intro _;rfl):PS X (.Assign [.Name y py] (.ListComp elt [#[tg,iter,ifs,0]] scope pos) spos) (λD Z H=>Zcq wi g tt te cap nl Z H λv H1=>D.nx (Z.set i<|aa v) H1):=by
 intro pq s Z H D I h;rw[exec_Assign_Name_used _ _ _ _ hsw];refine ae<|iR<|ae ?_;refine ae<|dy (J2 (Q:=λv H1=>D.nx (Z.set i<|aa v) H1) (act:=λacc env k=>(do let _ <-call (.builtin "list.append") [acc,<-cR elt env]:pX Unit) >>= λ_=>k) hc hN CS hi (λ_ _ _=>rfl) (λcl s H fp=>#[(hb cl s H fp).1,(hb cl s H fp).2.1,λD=>xn (λ_ _ z=>z) (hb cl s H fp).2.2]) hs I h λA C H5 s6 I6 G q=>?_) (λ_ s' hq=>aw<|aw hq) λ_ _ e=>e
 refine ox<|GA (v:=V.ref A) I6 hN hy hx rfl (λs7 I7 #[a,hsb,ha]=>?_) hf
 have hCa:C≠a:=by
  rcases ha with e|e
  .rw[e];exact G.loc
  .exact Ne.symm<|G.cel y a e
 obtain⟨m6,hn6⟩:=G.ns;have G7:Gone X pq H5 s7 C:=#[G.free,#[m6,hn6.sameBut hsb hCa],G.loc,G.big,G.cel,G.pin];exact#[m6,hn6.sameBut hsb hCa,λh' hs'=>#[Z.set i<|aa<|.ref A,H5,G7.inv I7 hs',q]]
open Ev (E Sm Fn Bop Cop Ty Bf Mf)
section
variable{X:Cx}{xw:Nat->Hp->Prop}{C:Calls}{e a b c tg it:Expr}{i j k:E}{pos p p' p2:iV}
structure CTs(X:Cx)(xw:Nat->Hp->Prop)(C:Calls)(ifs:List Expr)(is:List E):Prop where
 h:PTs X ifs (tB3 X xw<|Pv.pvt C is)
def PTs.imp{e:List Expr}(h:PTs X e t)(k:∀Z H Q,t' Z H Q->t Z H Q):PTs X e t':=λpq s Z H Q I q=>h pq s Z H Q I<|k Z H Q q
def ZeC:CTs X xw C [] []:=.mk <| PTs.imp Zfo<|by left;exact End.ok (h) st rfl
def Zd0(Z S):Pv.pvt C [i] Z S=Pv.YS C i Z S:=by
 show((Pv.pv C i Z S).bind λx S=>(Pv.po (Pv.Zy x) S).bind λb S=>if b then Pv.pvt C [] Z S else .ok aj S)=(Pv.pv C i Z S).bind λx S=>Pv.po (Pv.Zy x) S
 congr 1
 funext x S
 cases Pv.Zy x with|none=>rfl|some b=>cases b<;>rfl
def ZdN(h:CT X xw C c i):CTs X xw C [c] [i]:=.mk <| PTs.imp (ZdH h.h)<|by left;exact #[U,l,S,st,lr,by rw[<-Zd0];exact h]
def LocR.caught(lr:LocR U H l Z)(cap nl):LocR U H (Pv.Z9 cap nl l) (XE cap nl Z):=by
 refine#[by unfold Pv.Z9 XE;simp,λn d e=>?_]
 unfold Pv.Z9 at e;by_cases hn:n<nl
 .rw[bW (by simp;exact hn),cO,T9 hn]at e
  cases e
 .rw[cu (by simp;omega),bO,aK]at e
  unfold XE;rw[cu (by simp;omega),bO,aK]
  cases q:cap[n-nl]? with
  |none=>rw[q]at e;cases e
  |some m=>
   rw[q]at e;have e':(l[m]?).join=aa d:=aq e;have:l[m]?=aa (aa d):=by
    cases z:l[m]? with
    |none=>rw[z]at e';cases e'
    |some o=>rw[z]at e';cases o with|none=>cases e'|some w=>cases e';rfl
   obtain⟨v,hv,r⟩:=lr.val m d this;exact#[v,by show aa ((Z[m]?).join)=_;rw[hv];rfl,r]
noncomputable def Mx.at(U:Mx)(A:aO):Mx:=#[U.K,U.n0,λa=>U.X a\/a=A,λa h=>.inl<|U.xz a h]
def We(U:Mx)(A:aO)(H H':Hp):Prop:=∀a o,a≠A->H a=aa o->H' a=aa o\/(U.n0=aa a/\∃xs,o=.lst xs)\/((∃ps,o=.tbl ps)/\∃ps,H' a=aa (.tbl ps))
def We.trans(f:We U A H H1)(g:We U A H1 H2):We U A H H2:=λa o n h=>(f a o n h).elim (g a o n) λz=>z.elim (λz=>.inr<|.inl z)<|by
 rintro ⟨e,ps,h⟩;rcases g a _ n h with q|⟨_,xs,q⟩|⟨_,q⟩
 .exact .inr<|.inr #[e,ps,q]
 .cases q
 .exact .inr<|.inr #[e,q]
def We.of(f:Fut (U.at A) H ρ' H1):We U A H H1:=λa o _ h=>f.keep a o h
structure CI(K:ap)(U:Mx)(A:aO)(acc:List D)(l:Lc)(Z:L2.St)(H:Hp)(S:ZO):Prop where
 st:St3 K (U.at A) S H
 lr:LocR (U.at A) H l Z
 ac:∃us,H A=aa (.lst us)/\Rq (U.at A) H acc us
section
variable{K:ap}{U:Mx}{A:aO}{acc:List D}{l l':Lc}{Z:L2.St}{H H':Hp}{S S':ZO}
def We.lat(f:We U A H H')(ha:H A=aa (.lst us)):Lat (U.at A) H (U.at A) H':=#[rfl,rfl,λa o h x n _=>by
 by_cases c:a=A
 .subst c;rw[ha]at h;cases h;exact T7 (.inr rfl)<|x us rfl
 .rcases f a o c h with z|⟨z,xs,e⟩|⟨⟨ps,e⟩,_⟩
  .exact z
  .exact T7 (.inl<|U.xz a z)<|x xs e
  .exact T7 e<|n ps,λ_ _ x=>x]
theorem CI.mono(h:CI K U A acc l Z H S)(na:U.n0≠aa A)(f:Fut (U.at A) H ρ' H')(st:St3 K (U.at A) S' H'):CI K U A acc l Z H' S':=by
 obtain⟨us,e,r⟩:=h.ac;cases f.eq;exact#[st,h.lr.mono f,us,(f.keep A _ e).elim id λz=>z.elim (λz=>T7 z.1 na)<|by rintro ⟨⟨_,z⟩,_⟩;exact (by cases z),r.mono f]
def ZhV(lr:LocR U H l Z)(r:Rep U H d v)(e:Pv.Zq t d l=aa l')(q:∀σ',LocR U H l' σ'->Q σ' H):tGU K t v Z H Q:=by
 have fill:∀{t:List Nat}{vs:List D}{us:List V}{l l':Lc}{Z:L2.St},LocR U H l Z->Rq U H vs us->Pv.XR t vs l=aa l'->us.length=t.length/\LocR U H l' (Q7 t us Z):=λ{t}=>by
  induction t with
  |nil=>intro vs us l l' Z h r e;cases vs with|nil=>rw[r];cases e;exact#[rfl,h]|cons _ _=>cases e
  |cons i t ih=>intro vs us l l' Z h r e;cases vs with
   |nil=>cases e
   |cons v vs=>
    obtain⟨d,ds,rfl,a,b⟩:=r;obtain⟨z,q⟩:=ih (h.set i a) b e;exact#[by rw[aQ,aQ,z],q]
 have gen:∀t,(match Pv.ZbK d with
   |some xs=>Pv.XR t xs l
   |none=>ai)=aa l'->∃a xs,v=.ref a/\(SqT K H a xs\/H a=aa (.lst xs))/\xs.length=t.length/\Q (Q7 t xs Z) H:=by
  intro t e;cases d with|tup vs=>obtain⟨p,ds,rfl,hp,rs⟩:=r.tup';obtain⟨z,y⟩:=fill lr rs e;exact#[p,ds,rfl,.inl<|SqT.of hp,z,q _ y]|lst vs=>obtain⟨p,ds,rfl,hp,_,rs⟩:=r.lst';obtain⟨z,y⟩:=fill lr rs e;exact#[p,ds,rfl,.inr hp,z,q _ y]|_=>cases e
 match t,e with
 |[i],e=>cases e;exact q _<|lr.set i r
 |[],e=>exact gen [] e
 |i::j::t,e=>exact gen (i::j::t) e
theorem JN:∀{t:List Nat}{vs:List D}{l l':Lc},Pv.XR t vs l=aa l'->l'.length=l.length/\∀j,j∉t->l'[j]?=l[j]?
 |[],[],l,l',h=>by cases h;exact#[rfl,λ_ _=>rfl]
 |[],_::_,_,_,h=>by cases h
 |_::_,[],_,_,h=>by cases h
 |i::t,v::vs,l,l',h=>by
  obtain⟨a,b⟩:=JN (t:=t) h;exact#[by rw[a,bD],λj hj=>by rw[b j λz=>hj<|am _ z,bc λz=>hj (by rw[z];exact ak ..)]]
def yJ(e:Pv.Zq t v l=aa l'):l'.length=l.length/\∀j,j∉t->l'[j]?=l[j]?:=by
 have gen:∀t,(match Pv.ZbK v with
   |some xs=>Pv.XR t xs l
   |none=>ai)=aa l'->l'.length=l.length/\∀j,j∉t->l'[j]?=l[j]?:=λt e=>by
  cases q:Pv.ZbK v with|none=>rw[q]at e;cases e|some xs=>rw[q]at e;exact JN e
 match t,e with
 |[i],e=>cases e;exact#[bD ..,λj hj=>bc λz=>hj (by rw[z];exact ak ..)]
 |[],e=>exact gen [] e
 |i::j::t,e=>exact gen (i::j::t) e
def LocR.back(e:Pv.Zq t v l=aa l')(hn:∀i∈t,∀d,l[i]?≠aa (aa d))(lr:LocR U H l' Z):LocR U H l Z:=by
 obtain⟨a,b⟩:=yJ e;exact#[by rw[<-a];exact lr.len,λi d q=>lr.val i d (by rw[b i λz=>hn i z d q];exact q)]
end
def Zgd(C:Calls)(t:List Nat)(is:List E)(G:Lc->ZO->R (List D))(l:Lc)(x:D)(S:ZO):R (List D):=(Pv.po (Pv.Zq t x l) S).bind λl S=>(Pv.pvt C is l S).bind λb S=>if b then G l S else .ok [] S
def z8{B β:Type}{r:R B}{f:B->ZO->R β}{b:β}(h:r.bind f=.ok b S):∃a S1,r=.ok a S1/\f a S1=.ok b S:=by
 cases r with|ok a S1=>exact#[a,S1,rfl,h]|ex _ _=>cases h|no=>cases h
def jN(h:Pv.mapP f (x::w) S=.ok rs S2):∃y S1 zs,f x S=.ok y S1/\Pv.mapP f w S1=.ok zs S2/\rs=y++zs:=by
 rw[Pv.mapP]at h;split at h
 .split at h
  .cases h;exact#[_,_,_,‹_›,‹_›,rfl]
  .cases h
 .cases h
def ZiA(K:ap)(U:Mx)(A:aO)(P:Lc->Prop)(te:TEm)(G:Lc->ZO->R (List D)):Prop:=∀acc l Z H S ys S2 QQ,P l->CI K U A acc l Z H S->G l S=.ok ys S2->(acc++ys).length<=Ev.lim->(∀σ3 H3,We U A H H3->CI K U A (acc++ys) l σ3 H3 S2->QQ σ3 H3)->te Z H QQ
def ZcR{A:aO}{Hw:Hp}{w:List D}{J:It}(r:WRel X.K ρw Hw w J)(na:U.n0≠aa A){te:TEm}(em:ZiA X.K U A P te G){l:Lc}(hn:∀i∈t,∀d,l[i]?≠aa (aa d))(hP:∀x l2,Pv.Zq t x l=aa l2->P l2){Z:L2.St}{H:Hp}
  (hl:∀H',We U A H H'->Lat ρw Hw (U.at A) H')(c:CI X.K U A acc l Z H S)(h:Pv.mapP (Zgd C t is G l) w S=.ok ys S2)(hz:(acc++ys).length<=Ev.lim)(k:∀σ3 H3,We U A H H3->CI X.K U A (acc++ys) l σ3 H3 S2->QQ σ3 H3) :
  ∃W,(∃m,W 0 m Z H)/\ZcZ J (tGU X.K t) (tB3 X nx<|Pv.pvt C is) te W QQ:=by
 refine#[λn m σ' H'=>m=w.length-n/\n<=w.length/\We U A H H'/\∃ac rs S',ac++rs=acc++ys/\Pv.mapP (Zgd C t is G l) (w.drop n) S'=.ok rs S2/\CI X.K U A ac l σ' H' S',#[w.length,rfl,c7 _,λ_ _ _ h=>.inl h,acc,ys,S,rfl,h,c],?_]
 rintro n m σ' H' ⟨rfl,hn',ff,ac,rs,S',ea,e',c'⟩
 have lat:=hl H' ff;by_cases hlt:n<w.length
 .refine .inr ?_
  rw[cg hlt]at e';obtain⟨y1,S1,r1,q1,q2,rfl⟩:=jN e';obtain⟨go,yl⟩:=r.go n _ S' H' lat c'.st hlt;refine#[go,λx H3 y=>?_]
  obtain⟨f3,st3,rp⟩:=yl x H3 y;have rx:=rp _<|af hlt;obtain⟨l2,Sa,ha,q1⟩:=z8 q1;obtain⟨b,Sb,hb,q1⟩:=z8 q1;have hal:Pv.Zq t w[n] l=aa l2/\Sa=S':=by
   cases z:Pv.Zq t w[n] l<;>rw[z]at ha<;>cases ha;exact#[rfl,rfl]
  obtain⟨hal,rfl⟩:=hal;have c3:=c'.mono na f3 st3;refine ZhV c3.lr rx hal λσ2 lr2=>#[U.at A,l2,Sa,st3,lr2,?_]
  rw[hb];intro ρ4 H4 b' f4 st4 eb;have eb:b=b':=eb;subst eb;cases f4.eq;have ff4:=(ff.trans<|We.of f3).trans<|We.of f4;have c4:=c3.mono na f4 st4;cases b with
  |false=>
   rw[T8 aT]at q1 ⊢;cases q1;exact#[w.length-(n+1),i5 _ _ hlt,rfl,hlt,ff4,ac,r1,_,ea,q2,c4.st,(lr2.mono f4).back hal hn,c4.ac]
  |true=>
   rw[T9 rfl]at q1 ⊢;refine em ac l2 σ2 H4 Sb y1 S1 _ (hP _ _ hal) #[c4.st,lr2.mono f4,c4.ac] q1 ?_ λσ3 H5 f5 c5=>#[w.length-(n+1),i5 _ _ hlt,rfl,hlt,ff4.trans f5,ac++y1,r1,S1,by rw[bG];exact ea,q2,c5.st,c5.lr.back hal hn,c5.ac]
   rw[<-ea]at hz;simp only[aU]at hz ⊢;omega
 .refine .inl ?_
  have en:n=w.length:=by omega
  subst en;rw[eD]at e';cases e';rw[cr]at ea;subst ea;exact#[r.stop _ _ H' lat c'.st,k σ' H' ff c']
def Zh9(na:U.n0≠aa A)(ie):ZiA X.K U A (λ_=>True) (ZjJ (tE X nx<|Pv.pv C ie) A) (λl S=>(Pv.pv C ie l S).bind λy S=>.ok [y] S):=λacc l Z H S ys S2 QQ _ c h hz k=>by
 obtain⟨y,S1,hy,h⟩:=z8 h;cases h;refine#[U.at A,l,S,c.st,c.lr,?_];rw[hy];intro ρ4 H4 v f4 st4 r4;cases f4.eq;have c4:=c.mono na f4 st4;obtain⟨us,e,r⟩:=c4.ac;rw[aU]at hz;have hz:acc.length+1<=Ev.lim:=hz;have fa:We U A H4 (upd H4 A<|.lst<|us++[v]):=λa o n h=>.inl (by rw[Zk n];exact h)
 have lt:=fa.lat e;refine#[us,e,by rw[r.length,<-zy];omega,k Z _ ((We.of f4).trans fa) #[#[st4.hk,λb x=>?_,λb x=>?_,st4.tb.upd (λo u z=>by rw[e]at z;cases z) λ_ z=>by cases z],#[c4.lr.len,λi d q=>let #[u,a,b]:=c4.lr.val i d q;#[u,a,b.lat lt]],_,Zm,(r.lat lt).append<|Rq.cons (r4.lat lt) Rq.nil]]
 .by_cases z:b=A
  .rw[z,Zm];intro q;cases q
  .rw[Zk z];exact st4.xd b x
 .rw[Zk λz=>na (by rw[<-z];exact x)];exact st4.dw b x
def Zec(st:St3 X.K U S H)(lr:LocR U H l Z)(hA:H A=ai):U.n0≠aa A/\CI X.K U A [] l Z (upd H A<|.lst []) S/\∀H',We U A (upd H A<|.lst []) H'->Fut U H U H'/\Lat U H (U.at A) H':=by
 have ne:∀a,H a≠ai->a≠A:=λa h z=>h<|z▸hA
 have f:∀H',We U A (upd H A<|.lst []) H'->Fut U H U H'/\Lat U H (U.at A) H':=λH' g=>by
  have f:Fut U H U H':=#[rfl,λa o h=>g a o (ne a<|by rw[h];intro z;cases z) (by rw[Zk<|ne a (by rw[h];intro z;cases z)];exact h)]
  exact#[f,rfl,rfl,f.lat.keep',λa h x=>x.elim id λz=>T7 z<|ne a h]
 have s:=st.fresh (o:=.lst []) hA;obtain⟨f1,lt⟩:=f _ λ_ _ _ h=>.inl h
 refine#[λz=>st.xd A (U.xz A z) hA,#[#[s.hk,λb x=>x.elim (s.xd b) λz=>(by rw[z,Zm];intro q;cases q),s.dw,s.tb],#[lr.len,λi d q=>let #[u,a,b]:=lr.val i d q;#[u,a,b.lat lt]],[],Zm,Rq.nil],f]
def jn{nl i:Nat}(h:i<nl)(v):(Pv.Z9 cap nl l)[i]?≠aa (aa v):=by
 unfold Pv.Z9;rw[bW (by simpa using h),cO,T9 h]
 intro z;cases z
def ZaP(f0:Fut U H0 U H)(hA:H A=ai)(st:St3 X.K U S H)(f:Fut U H U H')(c:CI X.K U A ys l Z H' S')(h:End X.K nx (Wq ao H0) U H Q (.ok (.lst ys) S')):Q (.ref A) H':=by
 obtain⟨us,e,r⟩:=c.ac;have lt:Lat (U.at A) H' U H':=#[rfl,rfl,λ_ _ h _ _ _=>h,λ_ _ x=>.inl x]
 refine h U H' _ f #[c.st.hk,λb x=>c.st.xd b<|.inl x,c.st.dw,c.st.tb] #[W3 e (st.nx hA)<|r.lat lt,λ_ _ _=>#[A,rfl,f0.new hA st.xd]]
def ZcU{K:ap}{rep:Mx->Hp->D->V->Prop}{r:R (List D)}(h:End K xw rep U H Q (r.bind λys s=>if ys.length<=Ev.lim then Pv.PR.ok (.lst ys) s else .no).nox):∃ys S,r=.ok ys S/\ys.length<=Ev.lim/\End K nx rep U H Q (.ok (.lst ys) S):=by
 cases r with
 |no=>exact h.elim
 |ex c S=>exact h.elim
 |ok ys S=>
  have h:=End.nox h
  obtain⟨hl,h⟩:=End.guard h;exact#[ys,S,rfl,hl,h]
def yo(hyp:tF X xw (Pv.pv C<|.comp1 cap nl t w is ie) Z H Q):Zcq (tW3 X xw<|Pv.pvw C w) (tGU X.K t) (tB3 X nx<|Pv.pvt C is) (tE X nx<|Pv.pv C ie) cap nl Z H Q:=by
 obtain⟨U,l,S,st,lr,h⟩:=hyp;rw[Pv.j8]at h;obtain⟨ho,h⟩:=End.guard h;refine#[U,l,S,st,lr,h.bind λwk S1 ρ1 H1 J f1 st1 r1 h1=>λA hA=>?_]
 cases f1.eq;obtain⟨ys,S2,hm,hl,h1⟩:=ZcU h1;obtain⟨na,ci,ft⟩:=Zec st1 ((lr.mono f1).caught cap nl) hA;exact ZcR r1 na (Zh9 na ie) (λi hi d=>jn (T6<|aV.mp ho i hi) d) (λ_ _ _=>fv) (λH' f=>(ft H' f).2) ci hm hl λσ3 H3 f3 c3=>ZaP f1 hA st1 (ft H3 f3).1 c3 h1
def Zba(hc:X.calm=ao)(hN:X.N.Nodup)(CSc:CompScope X.env.scope X.N scope N cap nl)(hi:CW X xw C tg it w)
  (hb:∀cl s H fp,CG #[18] tg t/\CTs #[18] nx C ifs is/\CE #[18] nx C elt ie)
  (hs:∀x,dL it X.env x=cX x):CF X xw C (.ListComp elt [#[tg,it,ifs,0]] scope pos) (.comp1 cap nl t w is ie):=.mk <|
 PE.imp (Zdz hc hN CSc hi.h (λcl s H fp=>have#[a,b,c]:=hb cl s H fp;#[a.h,b.h,c.h]) hs) λZ H Q hyp=>yo hyp
def Zcv{fr:Bool}{ie:E}{nl:Nat}{w:Ev.W}{n:Nat}{y:bR}(hc:X.calm=ao)(hN:X.N.Nodup)(CSc:CompScope X.env.scope X.N scope N cap nl)(hi:CW X xw C tg it w)
  (hb:∀cl s H fp,CG #[18] tg t/\CTs #[18] nx C ifs is/\CE #[18] nx C elt ie)
  (hsw:eV (.ListComp elt [#[tg,it,ifs,0]] scope pos) (aa<|.Name y py) spos.line X.env=cX ao)
  (hy:X.N[n]?=aa y)(hx:L2.Loc X.env.scope y)(hf:X.fn y=ao\/X.env.scope.names.lookup y=aa .local)
  (hs:∀x,dL it X.env x=cX x):CS X xw fr C ns (.Assign [.Name y py] (.ListComp elt [#[tg,it,ifs,0]] scope pos) spos) (.asg [n]<|.comp1 cap nl t w is ie):=.mk <|
 PS.imp (Zat hc hN CSc hi.h (λcl s H fp=>have#[a,b,c]:=hb cl s H fp;#[a.h,b.h,c.h]) hsw hy hx hf hs)<|by right;exact yo<|ZiY st en h
end
theorem LocR.start(r:Rq U H ds vs)(N)(n:Nat)(hn:n=N.length):LocR U H (Pv.ZQ n ds) (L2.start N vs):=by
 subst hn;have hl:=r.length;refine#[by unfold Pv.ZQ L2.start;simp[hl],λi d e=>?_]
 unfold Pv.ZQ at e;by_cases hi:i<ds.length
 .rw[bW (by simpa using hi),aK]at e
  cases q:ds[i]? with
  |none=>rw[q]at e;cases e
  |some d'=>
   rw[q]at e;cases e;obtain⟨v,hv,r'⟩:=r.get q;refine#[v,?_,r'];unfold L2.start;rw[bW (by simp;lia),aK,hv]
   rfl
 .rw[cu (by simp;lia),cO]at e
  split at e<;>cases e
theorem Eu.start{K:ap}{U:Mx}{H:Hp}{S:ZO}(st:St3 K U S H)(r:Rq U H ds vs)(N:List bR)(n:Nat)(hn:n=N.length):Eu U H (λ_=>ai) (Pv.ZQ n ds) [] (L2.start N vs) H:=by
 have lr:=LocR.start r N n hn;refine#[Fut.refl _ _,st.xd,lr.len,λ_=>rfl,λ_ _ _ h=>?_,λ_ _ h=>?_,λ_ _ h=>?_,λi d e _=>?_]
 .cases h
 .cases h
 .cases h
 .obtain⟨v,a,b⟩:=lr.val i d e
  exact#[v,a,Rep.lat (U:=U) (ρ':=U.ex λ_=>ai) #[rfl,rfl,λ_ _ h _ _ _=>h,λ_ _ x=>Or.elim x id λ#[_,z]=>by cases z] b]
section
variable{P:bP}{w:b9}{K:ap}{mg:bR->Option aB}{base:cQ}
def yd(C:Calls)(fn:Fn)(ds:List D)(S:ZO):R D:=if ds.length=fn.ps then(Pv.rvs C (Pv.muts fn.body) fn.body (Pv.ZQ fn.ns ds) [] S).bind λf S=>match f with
  |.ret x=>.ok x S
  |.nx _ _=>.ok .non S
 else .no
def wu{C:Calls}{fn:Fn}{fr:Bool}{U:Mx}{H:Hp}{S:ZO}{Q:VK}{E:L2.Ends}(hE:∀v H',Q v H'->E.rt v H')(hN:∀Z H',Q .non H'->E.nx Z H')(h:End K xw (Wq fr H) U H Q (yd C fn ds S)):ZF fr K xw U H E (Pv.rvs C (Pv.muts fn.body) fn.body (Pv.ZQ fn.ns ds) [] S):=by
 obtain⟨_,h⟩:=End.guard h;cases q:Pv.rvs C (Pv.muts fn.body) fn.body (Pv.ZQ fn.ns ds) [] S with
 |no=>rwa[q]at h
 |ex c S2=>rw[q]at h;exact λH' f st=>h U H' f st
 |ok fl S2=>
  rw[q]at h;cases fl with|ret x=>exact λH' v f st r=>hE v H'<|h U H' v f st r|nx l os=>exact λH' σ' W' st en=>hN σ' H'<|h U H' .non en.fut st #[Ql,λ_ _ z=>by cases z]
end
section
variable{prog:bP}{w:b9}{A:cz}{E:aB->aM->Prop}{s:aM}
theorem qG(n:Nat):cW ((n:Int)-1) (-1) (-1)=n:=by
 unfold cW;have h1:¬((-1:Int)>0):=by decide
 rw[T8 h1];by_cases h:(n:Int)-1 > -1
 .rw[T9 h]
  lia
 .rw[T8 h]
  lia
def V9{n:Nat}(hs:s.heap.IsSliceOf sl .none .none vk)(pk:kC vk (aa<|-1))
  (h:Q ((n:Int)-1,-1,n) s):aY #[8] A (kF (.ref sl)<|cX (n:Int)) Q E s:=by
 obtain⟨os,hos,hcs,hds⟩:=id hs;refine ae<|ae<|cV hos hds rfl<|ae<|cV hos hds rfl<|ae<|cV hos hds rfl<|aw ?_;refine ae<|HT.Vi pk ?_;show aY _ _ (if((-1:Int) == 0)=ao then _ else _) _ _ s
 rw[T8 #[1]]
 refine ae<|kD<|ae<|kD<|ae<|aw ?_;show aY _ _ (cX ((n:Int)-1,(-1:Int),cW ((n:Int)-1) (-1)<|-1)) _ _ s;rw[qG];exact aw h
theorem Zbr(xs:Array aB):((aC xs.size).filterMap λ(k:Nat)=>xs[((xs.size:Int)-1+(k:Int) * -1).toNat]?).toArray=xs.toList.reverse.toArray:=by
 congr 1
 have e:(aC xs.size).filterMap (λ(k:Nat)=>xs[((xs.size:Int)-1+(k:Int) * -1).toNat]?)=((aC xs.size).map λk=>xs.size-1-k).filterMap (xs[·]?):=by
  rw[nY]
  congr 1
  funext k
  have:((xs.size:Int)-1+(k:Int) * -1).toNat=xs.size-1-k:=by lia
  rw[this];rfl
 rw[e,PySem.W.krv_range,List.filterMap_reverse,PySem.W.krv_all]
def Vw(ht:ot s.heap t items)(hs:s.heap.IsSliceOf sl .none .none vk)(pk:kC vk (aa<|-1))
  (h:Q #[29] {s with heap:=s.heap.push {cls:=.type "tuple",data:=.seq items.toList.reverse.toArray}})
  (hsz:items.size<=a9):aY #[8] A (lh (.ref t)<|.ref sl) Q E s:=by
 have htake:sizeOk (.seq items.toList.reverse.toArray):=by
  show items.toList.reverse.toArray.size<=a9;rw[aD,fC];exact hsz
 obtain⟨os,hos,hcs,hds⟩:=id hs;have hTs:s.TypeIs (.ref sl) "slice":=#[os,hos,hcs];unfold lh
 try with_reducible refine bM ?_
 first|refine ae<|aw ?_|skip
 refine ae<|lj ht.typeIs #[1] ?_
 refine ae (cw ht.typeIs cF
  (cq cF ht.typeIs km ?_<|kG _ _))
 show aY _ _ (gv (.ref t) >>= _) _ _ s;refine ae<|nE ht ?_;refine ae<|fM hTs ?_;rw[T9 #[1]]
 refine ae<|V9 hs pk ?_;have hno:¬(((items.size:Int)-1 == 0&&(-1:Int) == 1&&items.size == items.size)=ao):=by
  intro q;rw[aA,aA]at q;exact T7 q.1.2 #[1]
 show aY _ _ (if((items.size:Int)-1 == 0&&(-1:Int) == 1&&items.size == items.size)=ao then _ else _) _ _ s
 rw[T8 hno,Zbr]
 first
  |exact ae<|bu (aw #[_,rfl,aw h]) htake
  |exact ae<|bu (ae<|aw<|aw #[_,rfl,aw h]) htake
  |exact ae<|ae<|bu (aw<|aw #[_,rfl,aw h]) htake
  |exact ae<|ae<|bu (aw #[_,rfl,aw h]) htake
end
section
variable{X:Cx}{xw:Nat->Hp->Prop}{C:Calls}{e a b c tg it:Expr}{i j k:E}{pos p p' p2 p3:iV}{q1:Option bR}
def Zia(ha:CE X xw C a i)(h1:CE X xw C e1 (.neg<|.n 1)):CE X xw C (.Subscript a (.Slice ai ai (aa e1) p2) pos) (.rev i):=.mk <| by
 intro pq s Z H Q I hq;obtain⟨U,l,S,st,lr,h⟩:=hq;have h':=h
 refine re<|thn (ha.h pq s Z H (λx H1=>∃ρ1 S1 d,St3 X.K ρ1 S1 H1/\LocR ρ1 H1 l Z/\Rep ρ1 H1 d x/\End X.K xw Rep ρ1 H1 Q (Pv.po (Pv.Ziv d) S1)) I #[U,l,S,st,lr,h'.bind λd S1 ρ1 H1 v f1 st1 r1 h1=>#[ρ1,S1,d,st1,lr.mono f1,r1,h1]]) λv s1 #[x,H1,I1,r1,ρ1,S1,d,st1,lr1,rd,h2]=>?_
 refine wpAny_Slice ?_;rw[nF];refine aw<|aw ?_;rw[evalPart_some];refine thn (h1.h pq s1 Z H1 (λy H2=>y=.int (-1)/\∃ρ2,Fut ρ1 H1 ρ2 H2/\St3 X.K ρ2 S1 H2) I1 #[ρ1,l,S1,st1,lr1,λρ2 H2 y f2 st2 ry=>#[ry.int',ρ2,f2,st2]]) λvk s2 #[y,H2,I2,ry,ey,ρ2,f2,st2]=>?_
 subst ey;obtain⟨t,rfl⟩:=ry;have h3:=End.mono f2 h2;cases d with
 |tup ds=>
  obtain⟨q,xs,rfl,hp,rs⟩:=(rd.mono f2).tup';cases r1;have I4:Inv X pq Z H2 {s2 with heap:=s2.heap.push {cls:=.type "slice",data:=.fields [.none,.none,.int (-1) t].toArray}}:=I2.kept (t':=s2.toks) λb ob q=>au _ q
  obtain⟨its,r,ht,hz⟩:=I4.tuple<|SqT.of hp;have hlen:its.toArray.size=xs.length:=by rw[aD];exact r.length.symm
  refine tail_any ht.typeIs cF.lookup ?_ (by with_unfolding_all rfl)
  refine Vw ht (nZ ..) (kC.int _ _) ?_ (by rw[hlen];exact hz)
  refine#[.ref _,_,I4.laid (o:=.tup xs.reverse) (λb ob q=>au _ q) (aJ _) #[by rw[fC];exact hz,_,r.reverse,ku _ _],rfl,h3.newT st2 rs.reverse _<|I4.hok.fresh<|aJ _]
 |_=>exact False.elim h3
end
def yB{a b c}:aE (.Constant a b c::es) env=(aj,cR (.Constant a b c) env)::aE es env:=rfl
def uM{a b}:aE (.Name a b::es) env=(aj,cR (.Name a b) env)::aE es env:=rfl
def Zdc{a b c}:aE (.Tuple a b c::es) env=(aj,cR (.Tuple a b c) env)::aE es env:=rfl
def Zby{a b}:aE (.List a b::es) env=(aj,cR (.List a b) env)::aE es env:=rfl
def ur{a b c}:aE (.Dict a b c::es) env=(aj,cR (.Dict a b c) env)::aE es env:=rfl
def Za9{a b c d}:aE (.BinOp a b c d::es) env=(aj,cR (.BinOp a b c d) env)::aE es env:=rfl
def Zgc{a b c}:aE (.UnaryOp a b c::es) env=(aj,cR (.UnaryOp a b c) env)::aE es env:=rfl
def ZcA{a b c d}:aE (.Compare a b c d::es) env=(aj,cR (.Compare a b c d) env)::aE es env:=rfl
def Zaq{a b c}:aE (.Subscript a b c::es) env=(aj,cR (.Subscript a b c) env)::aE es env:=rfl
def vW{a b c d}:aE (.Call a b c d::es) env=(aj,cR (.Call a b c d) env)::aE es env:=rfl
def qo{a b c d}:aE (.ListComp a b c d::es) env=(aj,cR (.ListComp a b c d) env)::aE es env:=rfl
def Xv:List iq->List (Int×Int)->Prop
 |[],[]=>True
 |e::r,(k,j)::q=>(∃t,e.key=.int k t)/\e.hash=se k/\(∃u,e.val=.int j u)/\Xv r q
 |_,_=>False
theorem Xv.mem :∀{es:List iq}{tab:List (Int×Int)},Xv es tab->∀e∈es,∃k,(gX P w).is k e.key=ao/\e.hash=(gX P w).hash k
 |[],_,_,e,h=>by cases h
 |e::r,[],h,_,_=>h.elim
 |e::r,(k,j)::q,h,x,hx=>by
  obtain⟨⟨t,h1⟩,h2,_,h4⟩:=h;rcases ay.mp hx with rfl|hx
  .exact#[k,by rw[h1];exact iN P w k t,h2]
  .exact Xv.mem h4 x hx
theorem Xv.find(k):∀{es:List iq}{tab:List (Int×Int)},Xv es tab->(tab.lookup k=ai->(es.find? λe=>(gX P w).is k e.key)=ai)/\∀j,tab.lookup k=aa j->∃e t,(es.find? λe=>(gX P w).is k e.key)=aa e/\e.val=.int j t
 |[],[],_=>#[λ_=>rfl,λj h=>by cases h]
 |[],_::_,h=>h.elim
 |e::r,[],h=>h.elim
 |e::r,(k',j')::q,h=>by
  obtain⟨⟨t,h1⟩,h2,⟨u,h3⟩,h4⟩:=h;obtain⟨i1,i2⟩:=Xv.find k h4;rw[bT,List.find?_cons];have hd:(gX P w).is k e.key=ag (k=k'):=KeyKind.is_eq_decide (by rw[h1];exact iN P w k' t) k
  rw[hd];by_cases z:k=k'
  .subst z
   rw[beq_self_eq_true,T5 rfl];exact#[λz=>(by cases z),λj z=>(by cases z;exact#[e,u,rfl,h3])]
  .rw[beq_eq_false_iff_ne.mpr z,T4 z]
   exact#[i1,i2]
def Ze7{K:ap}(hl:K.lookup a=aa #[.type "dict",ai,.dict es n,#[]])(ht:Xv es.toList tab)(ha:(a == db)=aj):Zii P w K a tab:=by
 refine#[ha,λk=>findBy (gX P w).is es k,λh X=>#[_,es,n,X _ _ hl,#[rfl,rfl,rfl],rfl,λe he=>ht.mem e<|Array.mem_toList_iff.mpr he,λ_=>rfl],λk=>?_]
 obtain⟨l⟩:=es;obtain⟨i1,i2⟩:=Xv.find k ht;refine#[λz=>?_,λj z=>?_]
 .show((l.toArray.find? λe=>(gX P w).is k e.key).map (·.val))=ai
  rw[n6,i1 z];rfl
 .obtain⟨e,t,q1,q2⟩:=i2 j z
  refine#[t,?_];show((l.toArray.find? λe=>(gX P w).is k e.key).map (·.val))=_
  rw[n6,q1];exact congrArg aa q2
def hu7(hr:Room k A):A.units+7<dJ:=Nat.lt_of_le_of_lt #[0] hr.un
end
section
def Src(b:Bool)(h:cQ)(it l:aO)(k:Nat):Prop:=match b with
 |true=>h.IsListIter it l k
 |false=>h.IsTupleIter it l k
def Y2(b:Bool)(h:cQ)(l:aO)(xs:Array aB):Prop:=match b with
 |true=>h.IsList l xs
 |false=>h.IsTuple l xs
def Src.ext(x:Src b h it l k)(e:fH c h h')(n:it≠c):Src b h' it l k:=by
 cases b
 .exact cQ.IsTupleIter.extBut x e n
 .exact cQ.IsListIter.extBut x e n
def Src.keep(x:Src b h it l k)(e:∀o,h.get? it=aa o->h'.get? it=aa o):Src b h' it l k:=by
 cases b
 .obtain⟨o,ho,r⟩:=x;exact#[o,e o ho,r]
 .obtain⟨o,ho,r⟩:=x;exact#[o,e o ho,r]
def Src.obj(x:Src b h it l k):∃o,h.get? it=aa o/\∀v,o.data≠.cell v:=by
 cases b
 .obtain⟨o,ho,_,d⟩:=x;exact#[o,ho,λv z=>by rw[d]at z;cases z]
 .obtain⟨o,ho,_,d⟩:=x;exact#[o,ho,λv z=>by rw[d]at z;cases z]
def Y2.keep(x:Y2 b h l xs)(e:∀o,h.get? l=aa o->h'.get? l=aa o):Y2 b h' l xs:=by
 cases b
 .obtain⟨o,ho,r⟩:=x;exact#[o,e o ho,r]
 .obtain⟨o,ho,r⟩:=x;exact#[o,e o ho,r]
def Zak(hit:s.heap.IsTupleIter it t i)(ht:s.heap.IsTuple t items)(hx:items[i]?=aa x)
  (hQ:∀h',h'.IsTupleIter it t (i+1)->ei it s.heap h'->Q x {s with heap:=h' }):aY #[8] A (eT<|.ref it) Q E s:=by
 obtain⟨o,ho,hc,hd⟩:=id hit;obtain⟨ol,hol,_,nl,hdl⟩:=ht;refine ae<|cw hit.typeIs eJ<|cq eJ hit.typeIs kt ?_<|kg _;show aY _ _ (field (.ref it) 0 >>= _) _ _ s;refine ae<|cV ho hd rfl ?_;show aY _ _ (if(cZ t == bw)=ao then _ else _) _ _ s
 rw[T8 (by exact aT)];refine ae<|cV ho hd rfl ?_
 refine ae<|eK hol hdl ?_;simp[hx];refine ae<|fF ho hd #[2]<|aw #[x,rfl,aw<|hQ _ #[_,dA _ ho<|eO<|dk hd _,(gh ..).trans hc,?_]<|cJ ..]
 rw[dk hd];simp[fu]
def zi(hh:A.handled=ai)(hit:s.heap.IsTupleIter it t i)(ht:s.heap.IsTuple t items)(hx:items[i]?=ai)
  (hE:∀h' e,fH it s.heap h'->(∃o,h'.get? e=aa o/\o.cls=.type "StopIteration")->E (.ref e) {s with heap:=h' }):aY #[8] A (eT<|.ref it) Q E s:=by
 obtain⟨o,ho,hc,hd⟩:=id hit;obtain⟨ol,hol,_,nl,hdl⟩:=ht;refine ae<|cw hit.typeIs eJ<|cq eJ hit.typeIs kt ?_<|kg _;show aY _ _ (field (.ref it) 0 >>= _) _ _ s;refine ae<|cV ho hd rfl ?_;show aY _ _ (if(cZ t == bw)=ao then _ else _) _ _ s
 rw[T8 (by exact aT)];refine ae<|cV ho hd rfl ?_
 refine ae<|eK hol hdl ?_;simp[hx];refine ae<|gw<|ae<|fF ho hd #[2] ?_;show aY _ _ (newExc (.type "StopIteration") [] >>= _) _ _ _
 refine ae <| wpAny_bind (bu ?_ (by size_fits))
 refine ae (fI (by first|rfl|(simp only;rfl))<|bu ?_ (by size_fits))
 refine ae<|nG ?_;first|rw[hh]|rw[hh]
 exact ae<|aw<|pG<|hE _ _ (((cJ ..).extBut.push _).push _) #[_,aH _ rfl,rfl]
def Vs(hit:Src b s.heap it l k)(hl:Y2 b s.heap l xs)(hx:xs[k]?=aa x)
  (hQ:∀h',Src b h' it l (k+1)->ei it s.heap h'->Q x {s with heap:=h' }):aY #[8] A (eT<|.ref it) Q E s:=by
 cases b
 .exact Zak hit hl hx hQ
 .exact wpAny_nextOf_list_item hit hl hx hQ
def yc(hh:A.handled=ai)(hit:Src b s.heap it l k)(hl:Y2 b s.heap l xs)(hx:xs[k]?=ai)
  (hE:∀h' e,fH it s.heap h'->(∃o,h'.get? e=aa o/\o.cls=.type "StopIteration")->E (.ref e) {s with heap:=h' }):aY #[8] A (eT<|.ref it) Q E s:=by
 cases b
 .exact zi hh hit hl hx hE
 .exact wpAny_nextOf_list_end hh hit hl hx hE
noncomputable def YL(b:Bool)(l:aO):gf:={cls:=.type (if b then "list_iterator" else "tuple_iterator"),data:=.fields [.ref l,.int 0 0].toArray}
def VJ(hl:Y2 b s.heap l xs)(h:Q #[29] {s with heap:=s.heap.push (YL b l)}):aY #[8] A (nO<|.ref l) Q E s:=by
 cases b
 .exact h8 hl h
 .exact fb hl h
structure ZipSt(b1 b2:Bool)(z TI TO i1 i2 l1 l2:aO)(k:Nat)(f0:aB)(h:cQ):Prop where
 zp:pH h z TI TO f0
 ti:mv h TI (.ref i1) (.ref i2)
 to:∃a b,mv h TO a b
 s1:Src b1 h i1 l1 k
 s2:Src b2 h i2 l2 k
def Zb1{z TI TO i1 i2 l1 l2:aO}{k:Nat}{x y:aB}{Q:aB->aM->Prop}(D:m7 z TI TO i1 i2 l1 l2)(Z:ZipSt b1 b2 z TI TO i1 i2 l1 l2 k .none s.heap)(hl1:Y2 b1 s.heap l1 xs)(hl2:Y2 b2 s.heap l2 ys)(hx:xs[k]?=aa x)(hy:ys[k]?=aa y)
  (hQ:∀h',ZipSt b1 b2 z TI TO i1 i2 l1 l2 (k+1) (fu s.heap.objs.size) h'->mv h' s.heap.objs.size x y->(∀c o,c∉[z,TO,i1,i2]->s.heap.get? c=aa o->h'.get? c=aa o)->Q #[29] {s with heap:=h' }) :
  aY #[8] A (dM.«zip.__next__» #[[.ref z],[]]) (λfin s'=>∃v,fin=.done (.ret v)/\Q v s') E s:=by
 obtain⟨hz,hTI,⟨a,b,hTO⟩,h1,h2⟩:=Z;show aY _ _ (field (.ref z) 2 >>= _) _ _ _;refine ae<|cV hz rfl rfl ?_;refine ae<|cV hz rfl rfl<|ae<|eK hTI rfl ?_;refine ae ?_;refine ae<|cV hz rfl rfl<|aw ?_;simp only[if_true];refine ae<|gw<|ae<|cV hz rfl rfl<|ae<|eL hz #[2] λh₁ hz₁ hs₁=>?_
 replace hz₁:pH h₁ z TI TO .ellipsis:=by exact hz₁
 refine ae ?_;refine ae<|ae<|lK ?_;refine ae<|Vs (h1.ext hs₁.extBut D.i1z) (hl1.keep λo e=>hs₁.extBut _ o D.l1z e) hx λh₂ h1₂ hs₂=>aw ?_
 have hTO₂:mv h₂ TO a b:=by exact hs₂.extBut _ _ D.TOi1<|hs₁.extBut _ _ D.TOz hTO
 refine ae<|eK hTO₂ rfl<|ae<|i6 hTO₂ λh₃ hTO₃ hs₃=>?_
 replace hTO₃:mv h₃ TO x b:=by exact hTO₃
 refine ae<|pI<|aw<|ae<|ae<|lK ?_;have to3:∀c o,c≠z->c≠TO->c≠i1->s.heap.get? c=aa o->h₃.get? c=aa o:=λc o c1 c2 c3 e=>hs₃.extBut _ _ c2<|hs₂.extBut _ _ c3<|hs₁.extBut _ _ c1 e
 refine ae<|Vs (h2.keep λo e=>to3 _ o D.i2z D.TOi2.symm D.i12.symm e) (hl2.keep λo e=>to3 _ o D.l2z D.l2TO D.l2i1 e) hy λh₄ h2₄ hs₄=>aw ?_
 have hTO₄:mv h₄ TO x b:=by exact hs₄.extBut _ _ D.TOi2 hTO₃
 refine ae<|eK hTO₄ rfl<|ae<|i6 hTO₄ λh₅ hTO₅ hs₅=>?_
 replace hTO₅:mv h₅ TO x y:=by exact hTO₅
 refine ae<|pI<|aw<|aw<|ae<|eK hTO₅ rfl<|ae<|wpAny_newTuple ?_;have hsz:h₅.objs.size=s.heap.objs.size:=by rw[hs₅.1,hs₄.1,hs₃.1,hs₂.1,hs₁.1]
 have to5:=λc o c1 c2 c3 c4 e=>hs₅.extBut _ _ c2<|hs₄.extBut _ _ c4<|to3 c o c1 c2 c3 e
 have hz₅:pH h₅ z TI TO .ellipsis:=by exact hs₅.extBut _ _ D.TOz.symm<|hs₄.extBut _ _ D.i2z.symm<|hs₃.extBut _ _ D.TOz.symm<|hs₂.extBut _ _ D.i1z.symm hz₁
 have zl:=aG hz₅;refine ae ?_;have hz₆:pH (h₅.push {cls:=.type "tuple",data:=.seq [x,y].toArray}) z TI TO .ellipsis:=by exact au _ hz₅
 refine ae<|eL hz₆ #[2] λh₇ hz₇ hs₇=>?_
 replace hz₇:pH h₇ z TI TO (fu h₅.objs.size):=by exact hz₇
 refine eL hz₇ #[2] λh₈ hz₈ hs₈=>aw #[_,rfl,?_]
 replace hz₈:pH h₈ z TI TO (fu h₅.objs.size):=by exact hz₈
 have up:∀c o,c≠z->h₅.get? c=aa o->h₈.get? c=aa o:=λc o c1 e=>by exact hs₈.extBut _ _ c1<|hs₇.extBut _ _ c1<|au _ e
 have hT₈:mv h₈ h₅.objs.size x y:=by exact hs₈.extBut _ _ (ek zl)<|hs₇.extBut _ _ (ek zl)<|aH _ rfl
 rw[hsz]at hz₈ hT₈ ⊢;refine hQ h₈ #[hz₈,up _ _ D.TIz<|to5 _ _ D.TIz D.TITO D.TIi1 D.TIi2 hTI,#[x,y,up _ _ D.TOz hTO₅],(((h1₂.ext hs₃.extBut D.TOi1.symm).ext hs₄.extBut D.i12).ext hs₅.extBut D.TOi1.symm).keep λo e=>up _ o D.i1z e,(h2₄.ext hs₅.extBut D.TOi2.symm).keep λo e=>up _ o D.i2z e] hT₈ λc o hc e=>?_
 simp only[ay,bx,or_false,not_or]at hc;exact up c o hc.1<|to5 c o hc.1 hc.2.1 hc.2.2.1 hc.2.2.2 e
def JI{b1 b2:Bool}{z TI TO i1 i2 l1 l2:aO}{k:Nat}{xs ys:Array aB}{Q:Fin->aM->Prop}(hh:A.handled=ai)(D:m7 z TI TO i1 i2 l1 l2)(Z:ZipSt b1 b2 z TI TO i1 i2 l1 l2 k .none s.heap)(hl1:Y2 b1 s.heap l1 xs)(hl2:Y2 b2 s.heap l2 ys)(hend:xs[k]?=ai\/ys[k]?=ai)
  (hE:∀h' e,(∀c o,c∉[z,TO,i1,i2]->s.heap.get? c=aa o->h'.get? c=aa o)->(∃o,h'.get? e=aa o/\o.cls=.type "StopIteration")->E (.ref e) {s with heap:=h' }) :
  aY #[8] A (dM.«zip.__next__» #[[.ref z],[]]) Q E s:=by
 obtain⟨hz,hTI,⟨a,b,hTO⟩,h1,h2⟩:=Z;have hk:∀{c:aO},c∉[z,TO,i1,i2]->c≠z/\c≠TO/\c≠i1/\c≠i2:=λhc=>by
  simp only[ay,bx,or_false,not_or]at hc;exact hc
 show aY _ _ (field (.ref z) 2 >>= _) _ _ _;refine ae<|cV hz rfl rfl ?_;refine ae<|cV hz rfl rfl<|ae<|eK hTI rfl ?_;refine ae ?_;refine ae<|cV hz rfl rfl<|aw ?_;simp only[if_true];refine ae<|gw<|ae<|cV hz rfl rfl<|ae<|eL hz #[2] λh₁ hz₁ hs₁=>?_
 replace hz₁:pH h₁ z TI TO .ellipsis:=by exact hz₁
 refine ae ?_;simp only[o9,List.zipIdx_nil,mH,rj];refine ae<|ae<|lK ?_;have l1₁:=hl1.keep λo e=>hs₁.extBut _ o D.l1z e
 cases hx:xs[k]? with
 |none=>
  refine ae<|yc hh (h1.ext hs₁.extBut D.i1z) l1₁ hx λh₂ e hs₂ he=>?_
  obtain⟨oe,hoe,hce⟩:=he;have hz₂:pH h₂ z TI TO .ellipsis:=by exact hs₂ _ _ D.i1z.symm hz₁
  have hez:e≠z:=λx=>by subst x;rw[hz₂]at hoe;cases hoe;simp at hce
  exact eL hz₂ #[2] λh₃ _ hs₃=>hE h₃ e (λc o hc x=>hs₃.extBut _ _ (hk hc).1<|hs₂ _ _ (hk hc).2.2.1<|hs₁.extBut _ _ (hk hc).1 x) #[oe,hs₃.extBut _ _ hez hoe,hce]
 |some x=>
  have hy:ys[k]?=ai:=by rcases hend with q|q;rw[hx]at q;cases q;exact q
  refine ae<|Vs (h1.ext hs₁.extBut D.i1z) l1₁ hx λh₂ h1₂ hs₂=>aw ?_
  have hTO₂:mv h₂ TO a b:=by exact hs₂.extBut _ _ D.TOi1<|hs₁.extBut _ _ D.TOz hTO
  refine ae<|eK hTO₂ rfl<|ae<|i6 hTO₂ λh₃ hTO₃ hs₃=>?_
  refine ae<|pI<|aw<|ae<|ae<|lK ?_;have to3:∀c o,c≠z->c≠TO->c≠i1->s.heap.get? c=aa o->h₃.get? c=aa o:=λc o c1 c2 c3 e=>hs₃.extBut _ _ c2<|hs₂.extBut _ _ c3<|hs₁.extBut _ _ c1 e
  refine ae<|yc hh (h2.keep λo e=>to3 _ o D.i2z D.TOi2.symm D.i12.symm e) (hl2.keep λo e=>to3 _ o D.l2z D.l2TO D.l2i1 e) hy λh₄ e hs₄ he=>?_
  obtain⟨oe,hoe,hce⟩:=he;have hz₄:pH h₄ z TI TO .ellipsis:=by exact hs₄ _ _ D.i2z.symm<|hs₃.extBut _ _ D.TOz.symm<|hs₂.extBut _ _ D.i1z.symm hz₁
  have hez:e≠z:=λx=>by subst x;rw[hz₄]at hoe;cases hoe;simp at hce
  exact eL hz₄ #[2] λh₅ _ hs₅=>hE h₅ e (λc o hc x=>hs₅.extBut _ _ (hk hc).1<|hs₄ _ _ (hk hc).2.2.2<|to3 c o (hk hc).1 (hk hc).2.1 (hk hc).2.2.1 x) #[oe,hs₅.extBut _ _ hez hoe,hce]
def wR{b1 b2:Bool}{z TI TO i1 i2 l1 l2:aO}{k:Nat}{x y:aB}(D:m7 z TI TO i1 i2 l1 l2)(Z:ZipSt b1 b2 z TI TO i1 i2 l1 l2 k .none s.heap)(hl1:Y2 b1 s.heap l1 xs)(hl2:Y2 b2 s.heap l2 ys)(hx:xs[k]?=aa x)(hy:ys[k]?=aa y)
  (hQ:∀h',ZipSt b1 b2 z TI TO i1 i2 l1 l2 (k+1) (fu s.heap.objs.size) h'->mv h' s.heap.objs.size x y->(∀c o,c∉[z,TO,i1,i2]->s.heap.get? c=aa o->h'.get? c=aa o)->Q (aa<|.ref s.heap.objs.size) {s with heap:=h' }) :
  aY #[8] A (ml<|.ref z) Q E s:=by
 have hT:s.TypeIs (.ref z) "zip":=#[_,Z.zp,rfl];exact ae<|gO<|cw hT kh<|cq kh hT pb (Zb1 D Z hl1 hl2 hx hy λh' a1 a2 a3=>aw<|hQ h' a1 a2 a3)<|oK _
def Q9{b1 b2:Bool}{z TI TO i1 i2 l1 l2:aO}{k:Nat}{xs ys:Array aB}(hh:A.handled=ai)(D:m7 z TI TO i1 i2 l1 l2)(Z:ZipSt b1 b2 z TI TO i1 i2 l1 l2 k .none s.heap)(hl1:Y2 b1 s.heap l1 xs)(hl2:Y2 b2 s.heap l2 ys)(hend:xs[k]?=ai\/ys[k]?=ai)
  (hQ:∀h',(∀c o,c∉[z,TO,i1,i2]->s.heap.get? c=aa o->h'.get? c=aa o)->Q ai {s with heap:=h' }):aY #[8] A (ml<|.ref z) Q E s:=by
 have hT:s.TypeIs (.ref z) "zip":=#[_,Z.zp,rfl];refine ae<|gO<|cw hT kh<|cq kh hT pb (JI hh D Z hl1 hl2 hend λh' e hk he=>?_)<|oK _
 obtain⟨o,ho,hc⟩:=he;exact ae<|eE #[o,ho,hc] m8<|aw<|hQ _ hk
def zH1(h:cQ)(b1:Bool)(l1:aO):cQ:=h.push<|YL b1 l1
def zH2(h:cQ)(b1 b2:Bool)(l1 l2:aO):cQ:=(zH1 h b1 l1).push<|YL b2 l2
def zH3(h:cQ)(b1 b2:Bool)(l1 l2:aO):cQ:=(zH2 h b1 b2 l1 l2).push {cls:=.type "tuple",data:=.seq [.ref h.objs.size,.ref (zH1 h b1 l1).objs.size].toArray}
def zH4(h:cQ)(b1 b2:Bool)(l1 l2:aO):cQ:=(zH3 h b1 b2 l1 l2).push {cls:=.type "tuple",data:=.seq [.none,.none].toArray}
def zH5(h:cQ)(b1 b2:Bool)(l1 l2:aO):cQ:=(zH4 h b1 b2 l1 l2).push {cls:=.type "zip",data:=.fields [.none,.bool aj,.bool aj,.ref (zH2 h b1 b2 l1 l2).objs.size,.ref (zH3 h b1 b2 l1 l2).objs.size].toArray}
def ZdJ(b1 b2)(l1 l2:aO)(xs ys) :
  sA (dM.«zip.__new__» #[[.type "zip",.ref l1,.ref l2],[]]) (λ_ R s=>Y2 b1 s.heap l1 xs/\Y2 b2 s.heap l2 ys/\R (.ok<|.ret<|.ref (zH4 s.heap b1 b2 l1 l2).objs.size) {s with heap:=zH5 s.heap b1 b2 l1 l2}):=
 .of_wp λprog w A R s h=>by
  obtain⟨hp,g,d,tk,os⟩:=s;obtain⟨hl1,hl2,h⟩:=h;have hsub:=sub_zip;have hL2:Y2 b2 (aM.heap #[hp.push<|YL b1 l1,g,d,tk,os]) l2 ys:=hl2.keep λo e=>au _ e
  wp_walk using VJ hl1,VJ hL2
  exact#[_,rfl,h]
def Zcc{Q:aB->aM->Prop}(hl1:Y2 b1 s.heap l1 xs)(hl2:Y2 b2 s.heap l2 ys)
  (h:∀h' n,n=s.heap.objs.size->ZipSt b1 b2 (n+4) (n+2) (n+3) n (n+1) l1 l2 0 .none h'->(∀c o,s.heap.get? c=aa o->h'.get? c=aa o)->Q (.ref<|n+4) {s with heap:=h' }) :
  aY #[8] A (call (.type "zip") [.ref l1,.ref l2]) Q E s:=by
 refine callType_new F.called_zip #[1] (F.typeCall_zip_2 _ _) (F.newCall_zip_2 _ _) (λobj=>F.args_object_init_3 obj _ _) F.entry_zip_new (ZdJ b1 b2 l1 l2 xs ys) #[hl1,hl2,?_]
 have z1:(zH1 s.heap b1 l1).objs.size=s.heap.objs.size+1:=cP ..;have z2:(zH2 s.heap b1 b2 l1 l2).objs.size=s.heap.objs.size+2:=by unfold zH2;rw[cP,z1]
 have z3:(zH3 s.heap b1 b2 l1 l2).objs.size=s.heap.objs.size+3:=by unfold zH3;rw[cP,z2]
 have z4:(zH4 s.heap b1 b2 l1 l2).objs.size=s.heap.objs.size+4:=by unfold zH4;rw[cP,z3]
 have g5:(zH5 s.heap b1 b2 l1 l2).get? (zH4 s.heap b1 b2 l1 l2).objs.size=aa {cls:=.type "zip",data:=.fields [.none,.bool aj,.bool aj,.ref (zH2 s.heap b1 b2 l1 l2).objs.size,.ref (zH3 s.heap b1 b2 l1 l2).objs.size].toArray}:=aH _ rfl;have k4:∀c o,(zH4 s.heap b1 b2 l1 l2).get? c=aa o->(zH5 s.heap b1 b2 l1 l2).get? c=aa o:=λc o e=>au _ e
 have k3:=λc o e=>k4 c o<|au _ e
 have k2:=λc o e=>k3 c o<|au _ e
 have k1:=λc o e=>k2 c o<|au _ e
 have g4:=k4 _ _<|aH (zH3 s.heap b1 b2 l1 l2) rfl;have g3:=k3 _ _<|aH (zH2 s.heap b1 b2 l1 l2) rfl;have g2:=k2 _ _<|aH (zH1 s.heap b1 l1) rfl;have g1:=k1 _ _<|aH s.heap rfl;rw[z2,z3,z4]at g5;rw[z1,z2]at g3;rw[z3]at g4;rw[z1]at g2;rw[z4];have src:∀b l it,(zH5 s.heap b1 b2 l1 l2).get? it=aa (YL b l)->Src b (zH5 s.heap b1 b2 l1 l2) it l 0:=λb l it e=>by
  cases b
  .exact#[_,e,rfl,rfl]
  .exact#[_,e,rfl,rfl]
 exact#[#[_,g5,rfl],h _ _ rfl #[g5,g3,#[_,_,g4],src b1 l1 _ g1,src b2 l2 _ g2] λc o e=>k1 c o<|au _ e]
open Ev (E Sm Fn Bop Cop Ty Bf Mf)
def WW{X:Cx}{H:Hp}{ch:List aO}(I:Inv X pq Z H s)(k:∀b o,b∉ch->s.heap.get? b=aa o->h'.get? b=aa o)(hf:∀b∈ch,Ug X pq H b):Inv X pq Z H {s with heap:=h',toks:=t' }:=by
 have nit:∀b u,H b=aa u->b∉ch:=λb u e z=>by have:=(hf b z).1;rw[e]at this;cases this
 refine I.step (λb hb=>?_) (λb o _ _ hc e _=>k b o hc e) (λb o _ _ hc e _=>#[o.slots,k b o hc e]) (λ_ _ _ _ n=>n) (λb o hc e=>#[o,k b o hc e]) (λ_ _ e=>e) (λ_ _ _ e=>e) (λb ps e=>#[#[],by rw[e];simp]) (λm hm=>?_) (λb u e=>?_) I.bare
 .exact#[(hf b hb).2.2.2.1,(hf b hb).2.1,(hf b hb).2.2.2.2.1,(hf b hb).2.2.2.2.2]
 .obtain⟨o,es,ep,ho,r⟩:=hm
  exact#[o,es,ep,k _ o (λz=>(hf _ z).2.1 rfl) ho,r]
 .refine(I.hok b u e).stay (λc v hc q=>k c v ?_ q) (λ_ q=>q) λ_ _ q=>q
  rcases hc with z|z
  .rw[z];exact nit b u e
  .exact nit c _ z
def J1{h:cQ}(e:(h.push o').get? b=aa o)(n:b≠h.objs.size):h.get? b=aa o:=by
 unfold cQ.get? cQ.push at *;simp[Array.getElem?_push]at e;rwa[T8 n]at e
def Wo{a b:Nat}(h:a<b\/b<a):(a:aO)≠b:=λe=>by
 omega
def Sq(b:Bool)(K:ap)(H:Hp)(l:aO)(xs:List V):Prop:=match b with
 |true=>SqL K H l xs
 |false=>SqT K H l xs
def Xi(I:Inv X pq Z H s)(h:Sq b X.K H l xs):∃its,Vals xs its/\Y2 b s.heap l its.toArray:=by
 cases b
 .obtain⟨its,r,p,_⟩:=I.tuple h;exact#[its,r,p]
 .obtain⟨its,r,p,_⟩:=I.list h;exact#[its,r,p.isList]
def wX(I:Inv X pq Z H s)(h:Sq b X.K H l xs)(h':Sq b X.K H l ys):xs=ys:=by
 cases b
 .exact I.tuple_inj h h'
 .exact I.list_inj h h'
def VS(x:Y2 b h l xs):l<h.objs.size:=by
 cases b
 .obtain⟨o,ho,_⟩:=x;exact aG ho
 .obtain⟨o,ho,_⟩:=x;exact aG ho
def Itz(K:ap)(b1 b2:Bool)(l1 l2:aO):It:=
 #[λi H=>∃xs ys x y,Sq b1 K H l1 xs/\Sq b2 K H l2 ys/\xs[i]?=aa x/\ys[i]?=aa y,
  λi H v H'=>∃T x y,(∀xs,Sq b1 K H l1 xs->xs[i]?=aa x)/\(∀ys,Sq b2 K H l2 ys->ys[i]?=aa y)/\H T=ai/\H'=upd H T (.tup [x,y])/\v=.ref T,
  λi H=>∃xs ys,Sq b1 K H l1 xs/\Sq b2 K H l2 ys/\(xs.length<=i\/ys.length<=i)]
def ZbX{w:b9}{K:ap}{elts:List Expr}{kk:Nat}{tp:iV}{z TI TO i1 i2 l1 l2:aO}(D:m7 z TI TO i1 i2 l1 l2) :
  Turn P w K (.Tuple elts kk tp) (Itz K b1 b2 l1 l2) [z,TI,TO,i1,i2] z (λi h=>ZipSt b1 b2 z TI TO i1 i2 l1 l2 i .none h) where
 mem:=by simp
 obj:=λi h st b hb=>by
  simp only[ay,bx,or_false]at hb;obtain⟨a,c,hTO⟩:=st.to;rcases hb with e|e|e|e|e<;>subst e
  .exact#[_,st.zp,λv q=>by cases q]
  .exact#[_,st.ti,λv q=>by cases q]
  .exact#[_,hTO,λv q=>by cases q]
  .exact st.s1.obj
  .exact st.s2.obj
 keep:=λi h h' st k=>by
  obtain⟨a,c,hTO⟩:=st.to;exact#[k z #[2] _ st.zp,k TI #[2] _ st.ti,#[a,c,k TO #[2] _ hTO],st.s1.keep λo e=>k i1 #[2] o e,st.s2.keep λo e=>k i2 #[2] o e]
 item:=by
  intro X hP hw hK hc i pq s Z H E I hf st hg;subst hP hw hK;obtain⟨xs,ys,x,y,hq1,hq2,hx,hy⟩:=hg;obtain⟨its,rv,o1⟩:=Xi I hq1;obtain⟨its2,rv2,o2⟩:=Xi I hq2;obtain⟨u,hu,ru⟩:=rv.get hx;obtain⟨u2,hu2,ru2⟩:=rv2.get hy;refine wR D st o1 o2 (by simpa using hu) (by simpa using hu2) λh' Z' hT hk=>?_
  have ltz:∀b∈[z,TI,TO,i1,i2],b≠s.heap.objs.size:=λb hb e=>by
   simp only[ay,bx,or_false]at hb;obtain⟨a,c,hTO⟩:=st.to;rcases hb with q|q|q|q|q<;>subst q
   .exact T7 (aG st.zp) (by rw[e];exact bv _)
   .exact T7 (aG st.ti) (by rw[e];exact bv _)
   .exact T7 (aG hTO) (by rw[e];exact bv _)
   .obtain⟨o,ho,_⟩:=st.s1.obj;exact T7 (aG ho) (by rw[e];exact bv _)
   .obtain⟨o,ho,_⟩:=st.s2.obj;exact T7 (aG ho) (by rw[e];exact bv _)
  have IA:Inv X pq Z (upd H s.heap.objs.size<|.tup [x,y]) {s with heap:=s.heap.push {cls:=.type "tuple",data:=.seq [u,u2].toArray},toks:=s.toks}:=
   I.laid (λb o e=>au _ e) (aJ _) #[by show 2<=a9;decide,[u,u2],.cons ru<|.cons ru2 .nil,ku _ _]
  have hf2:∀b∈[z,TI,TO,i1,i2],Ug X pq (upd H s.heap.objs.size<|.tup [x,y]) b:=λb hb=>#[by rw[Zk<|ltz b hb];exact(hf b hb).1,(hf b hb).2]
  have IB:Inv X pq Z (upd H s.heap.objs.size<|.tup [x,y]) {s with heap:=h',toks:=s.toks}:=by
   refine WW (s:={s with heap:=s.heap.push {cls:=.type "tuple",data:=.seq [u,u2].toArray},toks:=s.toks}) (ch:=[z,TO,i1,i2]) IA (λb o hb e=>?_) λb hb=>hf2 b (by simp only[ay,bx,or_false]at hb ⊢;rcases hb with q|q|q|q<;>simp[q])
   by_cases hbs:b=s.heap.objs.size
   .subst hbs
    have e':=e;rw[aH _ rfl]at e';cases e';exact hT
   .refine hk b o hb ?_
    have e':=e;have hlt:=aG e';rw[cP]at hlt;exact J1 e' hbs
  refine#[.ref s.heap.objs.size,rfl,wpAny_letOwnedTupleGo_zip Z'.zp λh2 hz2 hs2=>?_]
  have IC:Inv X pq Z (upd H s.heap.objs.size<|.tup [x,y]) {s with heap:=h2,toks:=s.toks}:=WW (s:={s with heap:=h',toks:=s.toks}) (ch:=[z]) IB (λb o hb e=>(hs2.2 b<|by simpa using hb).trans e) λb hb=>hf2 b (by simp only[aZ]at hb;simp[hb])
  obtain⟨a,c,hTO⟩:=Z'.to;refine#[.ref s.heap.objs.size,_,IC,rfl,#[_,x,y,λzs hz=>by rw[wX I hz hq1];exact hx,λzs hz=>by rw[wX I hz hq2];exact hy,(I.hok.fresh<|aJ _),rfl,rfl],?_,λb hb=>(hf2 b hb).1]
  exact#[hz2,hs2.extBut _ _ D.TIz Z'.ti,#[a,c,hs2.extBut _ _ D.TOz hTO],Z'.s1.ext hs2.extBut D.i1z,Z'.s2.ext hs2.extBut D.i2z]
 done:=by
  intro X hP hw hK hc i pq s Z H E I hf st hg;subst hP hw hK;obtain⟨xs,ys,hq1,hq2,hend⟩:=hg;obtain⟨its,rv,o1⟩:=Xi I hq1;obtain⟨its2,rv2,o2⟩:=Xi I hq2;have e1:=rv.length;have e2:=rv2.length;refine Q9 (I.ok.hd hc) D st o1 o2 (by rcases hend with q|q;exact .inl (by simp;omega);exact .inr<|by simp;omega) λh' hk=>#[rfl,WW I (λb o hb e=>hk b o hb e) λb hb=>hf b (by simp only[ay,bx,or_false]at hb ⊢;rcases hb with q|q|q|q<;>simp[q])]
 self:=λ_ _ _ _ _ st h=>wpAny_pyIter_zip st.zp h
def Zjk(K:ap)(ta:TA):TI:=λZ H R=>ta Z H λvs H1=>∃b1 b2 l1 l2,vs=[.ref l1,.ref l2]/\(∃xs,Sq b1 K H1 l1 xs)/\(∃ys,Sq b2 K H1 l2 ys)/\R (Itz K b1 b2 l1 l2) H1
def ZgP{ta:TA}(hg:Gl X "zip")(hm:X.mg "zip" = ai)(ha:PA X [a,b] ta)(hs:aE [a,b] X.env=[(aj,cR a X.env),(aj,cR b X.env)]:=by rfl)(hs2:aE [b] X.env=[(aj,cR b X.env)]:=by rfl) :
  PI X (.Tuple elts kk tp) (.Call (.Name "zip" p) [a,b] [] pos) (Zjk X.K ta):=by
 intro pq s Z H R I h;refine Call_<|XF I hg hm #[7]<|c9 (thn (ha pos pq s Z H _ I h) λus s1 #[vs,H1,I1,r1,q1]=>?_) (by rw[hs,hs2]) (by rw[hs2];rfl)
 obtain⟨b1,b2,l1,l2,e,⟨xs,hq1⟩,⟨ys,hq2⟩,q⟩:=q1;subst e;cases r1 with
 |cons r rr=>
  cases rr with
  |cons r' rr=>
   cases rr;cases r;cases r';obtain⟨its,rv,o1⟩:=Xi I1 hq1;obtain⟨its2,rv2,o2⟩:=Xi I1 hq2;refine Zcc o1 o2 λh' n hn Y hk=>?_
   have q1:(l1:Nat)<n:=by rw[hn];exact(VS o1)
   have q2:(l2:Nat)<n:=by rw[hn];exact(VS o2)
   have D:m7 (n+4) (n+2) (n+3) n (n+1) l1 l2:=by constructor<;>first|exact Wo #[3]|exact Wo<|.inl<|bn q1<|dF n _|exact Wo<|.inl<|bn q2<|dF n _|exact Wo<|.inl q1|exact Wo<|.inl q2
   refine wpAny_pyIter_zip Y.zp #[n+4,[n+4,n+2,n+3,n,n+1],_,_,H1,rfl,(I1.kept hk),ZbX D,Y,λb hb=>?_,q]
   have hbn:s1.heap.objs.size<=b:=by
    rw[<-hn];simp only[ay,bx,or_false]at hb;rcases hb with e|e|e|e|e<;>rw[e]
    .exact dF n 4
    .exact dF n 2
    .exact dF n 3
    .exact aJ n
    .exact dF n 1
   exact I1.fpOk hbn<|I1.hok.fresh hbn
def Side(K:ap)(U:Mx)(H:Hp)(wk:List D)(b:Bool)(l:aO):Prop:=∀ρ' H',Lat U H ρ' H'->∃vs,Sq b K H' l vs/\Rq ρ' H' wk vs
def zL{K:ap}(hk:U.K=K)(r:Rep U H x v)(h:Pv.YJ x=aa wk):∃b l,v=.ref l/\(∃xs,Sq b K H l xs)/\Side K U H wk b l:=by
 cases x with
 |tup ds=>
  obtain⟨a,xs,rfl,hp,rs⟩:=r.tup';cases h;exact#[aj,a,rfl,#[xs,SqT.of hp],λρ' H' f=>#[xs,SqT.of (f.keep a _ hp λ_ z=>by cases z),rs.lat f]]
 |lst ds=>
  obtain⟨a,xs,rfl,hp,hx,rs⟩:=r.lst';cases h;exact#[ao,a,rfl,#[xs,SqL.of hp],λρ' H' f=>#[xs,SqL.of<|f.keep a _ hp λ_ _=>hx,rs.lat f]]
 |scr ns=>
  obtain⟨a,rfl,hp⟩:=r.scr';cases h;rw[hk]at hp;refine#[ao,a,rfl,#[_,hp.sq],λρ' H' f=>#[_,?_,Rq.ints ns]]
  rcases hp with⟨o,hp⟩|hp
  .exact .inl<|.inr #[o,f.keep a _ hp λ_ z=>by cases z]
  .exact .inr hp
 |_=>exact Ev.nos h
def ZbW{K:ap}{H:Hp}(h1:Side K U H v b1 l1)(h2:Side K U H w b2 l2):WRel K U H ((v.zip w).map λp=>.tup [p.1,p.2]) (Itz K b1 b2 l1 l2) where
 go:=λi ρ' S' H' f st hi=>by
  obtain⟨xs,q1,r1⟩:=h1 ρ' H' f;obtain⟨ys,q2,r2⟩:=h2 ρ' H' f;have hi':i<sC v.length w.length:=by simpa using hi
  have ha:=(n8.mp hi').1;have hb:=(n8.mp hi').2;obtain⟨x,g1,rx⟩:=r1.get<|af ha;obtain⟨y,g2,ry⟩:=r2.get<|af hb;refine#[#[xs,ys,x,y,q1,q2,g1,g2],λu H'' #[T,x',y',e1,e2,hT,eH,eu]=>?_]
  subst eH eu;cases((e1 xs q1).symm.trans g1);cases((e2 ys q2).symm.trans g2);refine#[ZB hT,st.fresh hT,λd hd=>?_]
  have hz:(v.zip w)[i]?=aa (v[i],w[i]):=gJ.mpr #[af ha,af hb];rw[aK,hz]at hd;cases hd;exact Xn Zm<|Rq.cons (rx.mono<|ZB hT)<|Rq.cons (ry.mono<|ZB hT) Rq.nil
 stop:=λρ' S' H' f st=>by
  obtain⟨xs,q1,r1⟩:=h1 ρ' H' f;obtain⟨ys,q2,r2⟩:=h2 ρ' H' f;refine#[xs,ys,q1,q2,?_];show xs.length<=((v.zip w).map λp=>Pv.V.tup [p.1,p.2]).length\/_
  rw[r1.length,r2.length,av,gZ];omega
section
variable{X:Cx}{xw:Nat->Hp->Prop}{C:Calls}{a b:Expr}{i j:E}{pos p tp:iV}{elts:List Expr}{kk:Nat}
def Zgy(hm:X.mg "zip" = ai)(ha:CA X xw C [a,b] [i,j])(hg:Gl X "zip")(hs:aE [a,b] X.env=[(aj,cR a X.env),(aj,cR b X.env)])(hs2:aE [b] X.env=[(aj,cR b X.env)]) :
  CW X xw C (.Tuple elts kk tp) (.Call (.Name "zip" p) [a,b] [] pos) (.zip i j):=.mk <|
 PI.imp (ZgP hg hm ha.h hs hs2) λZ H Q #[U,l,S,st,lr,h]=>ZfP st lr h λx y S1 ρ1 H1 v u st1 rv ru h1=>by
  cases e1:Pv.YJ x with
  |none=>rw[e1]at h1;exact False.elim h1
  |some v1=>
   cases e2:Pv.YJ y with
   |none=>rw[e1,e2]at h1;exact False.elim h1
   |some v2=>
    rw[e1,e2]at h1;obtain⟨b1,l1,rfl,s1,d1⟩:=zL st1.hk rv e1;obtain⟨b2,l2,rfl,s2,d2⟩:=zL st1.hk ru e2;exact#[b1,b2,l1,l2,rfl,s1,s2,End.ok h1 st1<|ZbW d1 d2]
end
def J5(hh:A.handled=ai)(b it l)(hne:l≠it)(xs) :
  Draws prog w A it [it,l] xs.size (λi v=>xs[i]?=aa v) (λi h=>Src b h it l i/\Y2 b h l xs) where
 live:=λ_ _ st=>let #[o,ho,_]:=st.1.obj;#[o,ho]
 frame:=λ_ _ _ st hk=>#[st.1.keep λo e=>hk it #[2] o e,st.2.keep λo e=>hk l #[2] o e]
 item:=λi s Q E hi st hQ=>Vs st.1 st.2 (bp hi) λh' hit' hs'=>hQ _ h' s.toks (bp hi) #[hit',st.2.keep λo e=>hs'.extBut _ o hne e] hs'
 done:=λs Q E st hE=>yc hh st.1 st.2 (iC<|aJ _) hE
def Ite(K:ap)(b:Bool)(l:aO):It:=
 #[λi H=>∃xs x,Sq b K H l xs/\xs[i]?=aa x,
  λi H v H'=>∃T x,(∀xs,Sq b K H l xs->xs[i]?=aa x)/\H T=ai/\H'=upd H T (.tup [.int i,x])/\v=.ref T,
  λi H=>∃xs,Sq b K H l xs/\xs.length=i]
def jI{P:bP}{w:b9}{K:ap}{elts:List Expr}{kk:Nat}{tp:iV}{b:Bool}{e it l:aO}(hei:e≠it)(hle:l≠e)(hli:l≠it) :
  Turn P w K (.Tuple elts kk tp) (Ite K b l) [e,it] e (λi h=>(∃old,IsEnum h e it i old)/\Src b h it l i) where
 mem:=by simp
 obj:=λi h st c hc=>by
  simp only[ay,bx,or_false]at hc;obtain⟨⟨old,he⟩,hs⟩:=st;rcases hc with q|q<;>subst q
  .exact#[_,he,λv q=>by cases q]
  .exact hs.obj
 keep:=λi h h' st k=>by
  obtain⟨⟨old,he⟩,hs⟩:=st;exact#[#[old,k e #[2] _ he],hs.keep λo q=>k it #[2] o q]
 item:=by
  intro X hP hw hK hc i pq s Z H E I hf st hg;subst hP hw hK;obtain⟨xs,x,hq,hx⟩:=hg;obtain⟨its,rv,o1⟩:=Xi I hq;obtain⟨⟨old,he⟩,hs⟩:=st;obtain⟨u,hu,ru⟩:=rv.get hx;have hlt:i<its.toArray.size:=by
   have:=(aN.mp hu).1
   simpa using this
  have hh:X.A.in1.handled=ai:=I.ok.hd hc;refine wpAny_pyNext_enum_itemD (J5 hh b it l hli its.toArray) he #[hs,o1] hlt hei (by simp only[ay,bx,or_false,not_or];exact#[hei,Ne.symm hle]) λx' h' tk hP ho hst hT hsz hk=>?_
  have ex:x'=u:=by
   have:its.toArray[i]?=aa u:=by simpa using hu
   rw[this]at hP;exact(aq hP).symm
  subst ex;have hfree:=I.hok.fresh<|aJ _;have ltz:∀c∈[e,it],c≠s.heap.objs.size:=λc hc q=>by
   simp only[ay,bx,or_false]at hc;rcases hc with z|z<;>subst z
   .exact T7 (aG he) (by rw[q];exact bv _)
   .obtain⟨o,ho,_⟩:=hs.obj;exact T7 (aG ho) (by rw[q];exact bv _)
  have IA:Inv X pq Z (upd H s.heap.objs.size<|.tup [.int i,x]) {s with heap:=s.heap.push {cls:=.type "tuple",data:=.seq [.int i tk,x'].toArray},toks:=tk+1}:=
   I.laid (λc o q=>au _ q) (aJ _) #[by show 2<=a9;decide,[.int i tk,x'],.cons #[tk,rfl]<|.cons ru .nil,ku _ _]
  have hf2:∀c∈[e,it],Ug X pq (upd H s.heap.objs.size<|.tup [.int i,x]) c:=λc hc=>#[by rw[Zk<|ltz c hc];exact(hf c hc).1,(hf c hc).2]
  have IB:Inv X pq Z (upd H s.heap.objs.size<|.tup [.int i,x]) {s with heap:=h',toks:=tk+1}:=by
   refine WW (s:={s with heap:=s.heap.push {cls:=.type "tuple",data:=.seq [.int i tk,x'].toArray},toks:=tk+1}) IA (λc o hc q=>?_) hf2
   by_cases hcs:c=s.heap.objs.size
   .subst hcs
    have q':=q;rw[aH _ rfl]at q';cases q';exact hT
   .simp only[ay,bx,or_false,not_or]at hc
    exact hk c o hc.1 hc.2<|J1 q hcs
  refine#[.ref s.heap.objs.size,rfl,wpAny_letOwnedTupleGo_enum ho λh2 he2 hs2=>?_]
  have IC:Inv X pq Z (upd H s.heap.objs.size<|.tup [.int i,x]) {s with heap:=h2,toks:=tk+1}:=WW (s:={s with heap:=h',toks:=tk+1}) (ch:=[e]) IB (λc o hc q=>(hs2.2 c<|by simpa using hc).trans q) λc hc=>hf2 c (by simp only[aZ]at hc;simp[hc])
  refine#[.ref s.heap.objs.size,_,IC,rfl,#[_,x,λzs hz=>by rw[wX I hz hq];exact hx,hfree,rfl,rfl],#[#[x',by simpa using he2],hst.1.ext hs2.extBut<|Ne.symm hei],λc hc=>(hf2 c hc).1]
 done:=by
  intro X hP hw hK hc i pq s Z H E I hf st hg;subst hP hw hK;obtain⟨xs,hq,hend⟩:=hg;obtain⟨its,rv,o1⟩:=Xi I hq;obtain⟨⟨old,he⟩,hs⟩:=st;have e1:=rv.length;have hh:X.A.in1.handled=ai:=I.ok.hd hc;have en:i=its.toArray.size:=by simp;lia
  subst en;exact wpAny_pyNext_enum_endD (J5 hh b it l hli its.toArray) he #[hs,o1] λh' hx=>#[rfl,WW (t':=s.toks) I (λc o hc q=>hx c o (λz=>hc<|by simp[z]) q) hf]
 self:=λ_ _ _ _ _ st h=>by
  obtain⟨⟨old,he⟩,_⟩:=st;exact oM he h
section
variable{prog:bP}{w:b9}{A:cz}{E:aB->aM->Prop}{s:aM}
def Zdm(l:aO)(items)(n:Nat)(dct sl) :
  sA (dM.«enumerate.__new__» #[[.type "enumerate",.ref l],[]]) (λ_ R s=>s.heap.get? l=aa {cls:=.type "tuple",dict:=dct,data:=.seq items n,slots:=sl}/\
   R (.ok<|.ret<|.ref (s.heap.push<|YL aj l).objs.size) {s with heap:=(s.heap.push<|YL aj l).push {cls:=.type "enumerate",data:=.fields [.none,.bool aj,.ref s.heap.objs.size,fu 0,.none,.none].toArray}}):=
 .of_wp λprog w A R s h=>by
  obtain⟨hp,g,d,tk,os⟩:=s;obtain⟨hl,h⟩:=h;have hsub:=sub_enumerate;have hL:cQ.IsTuple (aM.heap #[hp,g,d,tk,os]) l items:=#[_,hl,rfl,n,rfl]
  wp_walk using gR hl;refine wpAny_stack_any λst=>aw ?_;split
  .rename_i c _ _ _ _ _;cases(c == nL "enumerate")<;>(wp_walk using gR hl,h8 hL;exact#[_,rfl,h])
  .wp_walk using gR hl,h8 hL;exact#[_,rfl,h]
def jm(hL:Y2 b s.heap l xs)
  (h:∀h' n,n=s.heap.objs.size->IsEnum h' (n+1) n 0 .none->Src b h' n l 0->(∀c o,s.heap.get? c=aa o->h'.get? c=aa o)->Q (.ref<|n+1) {s with heap:=h' }):aY #[8] A (call (.type "enumerate") [.ref l]) Q E s:=by
 cases b with
 |true=>exact call_enumerate_list hL λh' a1 a2 _ a4=>h h' _ rfl a1 a2 a4
 |false=>
  obtain⟨⟨c,dct,dt,sl⟩,hl,hc,n,hd⟩:=hL;simp only at hc hd;subst hc hd;refine callType_new F.called_enumerate #[1] (F.typeCall_enumerate_1 _) (F.newCall_enumerate_1 _) (λobj=>F.args_object_init_2 obj _) F.entry_enumerate_new (Zdm l xs n dct sl) #[hl,?_]
  have hz:(s.heap.push<|YL aj l).objs.size=s.heap.objs.size+1:=cP ..;have g2:=aH (s.heap.push<|YL aj l) (o:={cls:=.type "enumerate",data:=.fields [.none,.bool aj,.ref s.heap.objs.size,fu 0,.none,.none].toArray}) rfl;have g1:((s.heap.push<|YL aj l).push {cls:=.type "enumerate",data:=.fields [.none,.bool aj,.ref s.heap.objs.size,fu 0,.none,.none].toArray}).get? s.heap.objs.size=aa (YL aj l):=au _<|aH _ rfl;rw[hz]at g2 ⊢;exact#[#[_,g2,rfl],h _ _ rfl g2 #[_,g1,rfl,rfl] λc o q=>au _<|au _ q]
end
def Zio(K:ap)(ta:TA):TI:=λZ H R=>ta Z H λvs H1=>∃b l,vs=[.ref l]/\(∃xs,Sq b K H1 l xs)/\R (Ite K b l) H1
def Zeh{a:Expr}{ta:TA}{p pos:iV}(hg:Gl X "enumerate")(hm:X.mg "enumerate" = ai)(ha:PA X [a] ta)(hs:aE [a] X.env=[(aj,cR a X.env)]:=by rfl):PI X (.Tuple elts kk tp) (.Call (.Name "enumerate" p) [a] [] pos) (Zio X.K ta):=by
 intro pq s Z H R I h;refine Call_<|XF I hg hm #[7]<|c9 (thn (ha pos pq s Z H _ I h) λus s1 #[vs,H1,I1,r1,q1]=>?_) hs rfl
 obtain⟨b,l,e,⟨xs,hq⟩,q⟩:=q1;subst e;cases r1 with
 |cons r rr=>
  cases rr;cases r;obtain⟨its,rv,o1⟩:=Xi I1 hq;refine jm o1 λh' n hn he hs' hk=>?_
  have I2:=I1.kept (t':=s1.toks) hk
  have q1:(l:Nat)<n:=by rw[hn];exact(VS o1)
  refine oM he #[n+1,[n+1,n],_,_,H1,rfl,I2,jI (Wo<|.inr<|fE n) (Wo<|.inl<|cB q1)<|Wo<|.inl q1,#[#[_,he],hs'],λc hc=>?_,q]
  have hbn:s1.heap.objs.size<=c:=by
   rw[<-hn];simp only[ay,bx,or_false]at hc;rcases hc with e|e<;>rw[e]
   .exact lx n
   .exact aJ n
  exact I1.fpOk hbn<|I1.hok.fresh hbn
def ZaE{lo:Int}(h:i<n):(Pv.Yb lo n)[i]?=aa (.int<|lo+i):=by
 unfold Pv.Yb;rw[aK,bZ h];rfl
def jz{K:ap}{U:Mx}{H:Hp}{b:Bool}{l:aO}(h1:Side K U H w b l):WRel K U H (((Pv.Yb 0 w.length).zip w).map λp=>.tup [p.1,p.2]) (Ite K b l) where
 go:=λi ρ' S' H' f st hi=>by
  obtain⟨xs,q1,r1⟩:=h1 ρ' H' f;have hi':i<w.length:=by
   rw[av,gZ,JX]at hi;lia
  obtain⟨x,g1,rx⟩:=r1.get<|af hi';refine#[#[xs,x,q1,g1],λu H'' #[T,x',e1,hT,eH,eu]=>?_]
  subst eH eu;cases((e1 xs q1).symm.trans g1);refine#[ZB hT,st.fresh hT,λd hd=>?_]
  have hz:((Pv.Yb 0 w.length).zip w)[i]?=aa (.int<|0+i,w[i]):=gJ.mpr #[ZaE hi',af hi'];rw[aK,hz]at hd;cases hd;refine Xn Zm<|Rq.cons ?_<|Rq.cons (rx.mono<|ZB hT) Rq.nil;rw[show((0:Int)+i)=i by lia]
  exact ZT _
 stop:=λρ' S' H' f st=>by
  obtain⟨xs,q1,r1⟩:=h1 ρ' H' f;refine#[xs,q1,?_];show xs.length=(((Pv.Yb 0 w.length).zip w).map λp=>Pv.V.tup [p.1,p.2]).length
  rw[av,gZ,JX,r1.length];lia
section
variable{X:Cx}{xw:Nat->Hp->Prop}{C:Calls}{a b:Expr}{i j:E}{pos p tp:iV}{elts:List Expr}{kk:Nat}
def ZeL(hm:X.mg "enumerate" = ai)(ha:CA X xw C [a] [i])(hg:Gl X "enumerate")(hs:aE [a] X.env=[(aj,cR a X.env)]) :
  CW X xw C (.Tuple elts kk tp) (.Call (.Name "enumerate" p) [a] [] pos) (.enum i):=.mk <|
 PI.imp (Zeh hg hm ha.h hs) λZ H Q #[U,l,S,st,lr,h]=>ZfM st lr h λx S1 ρ1 H1 v st1 r h1=>by
  cases e1:Pv.YJ x with
  |none=>rw[e1]at h1;exact False.elim h1
  |some wk=>
   rw[e1]at h1;obtain⟨b1,l1,rfl,s1,d1⟩:=zL st1.hk r e1;exact#[b1,l1,rfl,s1,End.ok h1 st1<|jz d1]
end
def Ub(hh:A.handled=ai)(b it l)(hne:l≠it)(xs) :
  Walks prog w A it [it,l] [it] xs.size (λi v=>xs[i]?=aa v) (λi h=>Src b h it l i/\Y2 b h l xs):=by
 cases b
 .exact Walks.tuple hh it l hne xs
 .exact rh hh it l hne xs
def zf{h:cQ}:Src b (h.push<|YL b l) h.objs.size l 0:=by
 cases b
 .exact#[_,aH _ rfl,rfl,rfl]
 .exact#[_,aH _ rfl,rfl,rfl]
def Zif{K:ap}(h:SqL K H p xs\/SqT K H p xs):∃b,Sq b K H p xs:=by
 rcases h with h|h
 .exact#[ao,h]
 .exact#[aj,h]
def qK(hc:X.calm=ao):ZG X (.builtin "any") (λvs H Q=>∃U ds x v bs,U.K=X.K/\vs=[v]/\Rep U H x v/\Pv.YJ x=aa ds/\Pv.Z2 ds=aa bs/\Q (.bl<|bs.any id) H):=by
 intro pq s Z H vs us Q I r h;obtain⟨U,ds,x,v,bs,hk,rfl,r1,hl,hb,q⟩:=h;obtain⟨l,xs,rfl,hsq,rx⟩:=r1.seq hl;rw[hk]at hsq;obtain⟨kb,hq⟩:=Zif hsq;obtain⟨u,rfl,ru⟩:=X9 r;cases ru;obtain⟨its,rv,o1⟩:=Xi I hq;obtain⟨lb,tb⟩:=Vc hb;have hlen:its.toArray.size=bs.length:=by rw[aD,<-rv.length,rx.length,lb]
 refine call_any_walk<|VJ o1 #[s.heap.objs.size,[s.heap.objs.size,l],[s.heap.objs.size],its.toArray.size,_,_,λj=>bs.getD j aj,rfl,Ub (A:=X.A.in1) (I.ok.hd hc) kb s.heap.objs.size l (a8<|VS o1) its.toArray,#[zf,o1.keep λo q=>au _ q],?_,?_]
 .intro j v s' Q' E' hv hQ'
  have hj:its[j]?=aa v:=by simpa using hv
  have jl:j<ds.length:=by
   have:=(aN.mp hj).1;rwa[<-rv.length,rx.length]at this
  obtain⟨w',g,r'⟩:=rx.get<|af jl;obtain⟨u',g',ru'⟩:=rv.get g;rw[hj]at g';cases g';exact VG r' ru' (tb j _<|af jl) s' Q' E' hQ'
 .intro h' tk hk
  rw[hlen,jP];exact#[.bl<|bs.any id,H,I.kept λb o e=>hk b o (λhm=>by
   have:b=s.heap.objs.size:=by simpa using hm
   exact T7 (this▸aG e)<|bv _)<|au _ e,rfl,q]
def u0(hc:X.calm=ao):ZG X (.builtin "any") (UT X.K xw .any):=ZG.imp (qK hc)<|by
 rintro vs H Q ⟨U,S,ds,st,r,h⟩;obtain⟨d,v,z,rfl,r1,hz,h⟩:=Wi h r;obtain⟨xs,hx,hz⟩:=cx.mp hz;obtain⟨bs,hb,rfl⟩:=bK.mp hz;exact#[U,xs,d,v,bs,st.hk,rfl,r1,hx,hb,End.ok h st<|Yn _]
theorem Js :∀{ds:List D}{is:List Int}{xs:List V},Pv.intsV ds=aa is->Rq U H ds xs->xs=is.map V.int
 |[],is,xs,h,r=>by cases h;rw[r];rfl
 |d::ds,is,xs,h,r=>by
  obtain⟨v,vs,rfl,a1,b1⟩:=r;obtain⟨n,r,rfl,e,rfl⟩:=V6 h;rw[a1.int',Js e b1];rfl
def Qt(f n):pc f (n+1)=pc f n+f n:=rfl
def yu:∀(is:List Int),pc (λj=>is.getD j 0) is.length=is.sum:=by
 have gen:∀(is:List Int) n,n<=is.length->pc (λj=>is.getD j 0) n=(is.take n).sum:=by
  intro is n
  induction n with
  |zero=>intro _;rfl
  |succ n ih=>
   intro h;rw[Qt,ih #[0],ly,List.sum_append]
   have:is[n]?=aa is[n]:=af #[0]
   simp[this]
 intro is;rw[gen is is.length<|aJ _,gE]
theorem Vt(h:∀j,-M<=f j/\f j<=M)(hM:0<=M):∀n,-(M*n)<=pc f n/\pc f n<=M*n
 |0=>by rw[show pc f 0=0 from rfl];simp
 |n+1=>by
  obtain⟨a,b⟩:=Vt h hM n;obtain⟨c,d⟩:=h n;rw[Qt];have:M*((n+1:Nat):Int)=M*n+M:=by rw[pQ,Int.mul_add];simp
  rw[this];lia
def qX(hc:X.calm=ao):ZG X (.builtin "sum") (λvs H Q=>∃U ds v is,vs=[v]/\Rep U H (.lst ds) v/\Pv.intsV ds=aa is/\Ev.Zcw is=ao/\Q (.int is.sum) H):=by
 intro pq s Z H vs us Q I r h;obtain⟨U,ds,v,is,rfl,r1,hb,hok,q⟩:=h;obtain⟨l,xs,rfl,hx,_,rx⟩:=r1.lst';obtain⟨u,rfl,ru⟩:=X9 r;cases ru;have hq:Sq ao X.K H l xs:=SqL.of hx;obtain⟨its,rv,o1⟩:=Xi I hq;have hlt:=VS o1;have ex:=Js hb rx;subst ex;have hlen:its.toArray.size=is.length:=by rw[aD,<-rv.length,av]
 obtain⟨k1,k2⟩:=(aA _ _).mp hok;have bd:∀j,-1099511627776<=is.getD j 0/\is.getD j 0<=1099511627776:=λj=>by
  cases e:is[j]? with
  |none=>rw[az,e];simp
  |some y=>
   have:=T6<|aV.mp k2 y<|cU e;rw[az,e];exact this
 refine call_sum_walk<|VJ o1 #[s.heap.objs.size,[s.heap.objs.size,l],[s.heap.objs.size],its.toArray.size,_,_,λj=>is.getD j 0,rfl,Ub (A:=X.A.in1) (I.ok.hd hc) ao s.heap.objs.size l (a8 hlt) its.toArray,#[zf,o1.keep λo q=>au _ q],λb hb=>?_,λj v hv=>?_,λj hj=>?_,?_]
 .rw[cP]
  simp at hb;rcases hb with q|q<;>rw[q]
  .exact fE _
  .exact cB hlt
 .have hj:its[j]?=aa v:=by simpa using hv
  have jl:j<is.length:=by
   have:=(aN.mp hj).1;rwa[<-rv.length,av]at this
  obtain⟨u',g',ru'⟩:=rv.get (by rw[aK,af jl];rfl)
  rw[hj]at g';cases g';obtain⟨t,e⟩:=ru';exact#[t,by rw[e];show fX is[j] t=fX (is.getD j 0) t;rw[az,af jl];rfl]
 .have b1:=bd j
  have b2:=Vt bd #[0]<|j+1
  refine#[?_,?_]<;>(unfold InLong;lia)
 .intro h' tk t' hk
  rw[hlen,yu];exact#[.int is.sum,H,I.kept λb o e=>hk b o (λhm=>by
   have:b=s.heap.objs.size:=by simpa using hm
   exact T7 (this▸aG e)<|bv _)<|au _ e,#[t',rfl],q]
def uY(hc:X.calm=ao):ZG X (.builtin "sum") (UT X.K xw .sum):=ZG.imp (qX hc)<|by
 rintro vs H Q ⟨U,S,ds,st,r,h⟩;obtain⟨d,v,z,rfl,r1,hz,h⟩:=Wi h r;cases d with
 |lst ds=>
  obtain⟨is,hb,hz⟩:=cx.mp hz;split at hz
  .cases hz;exact#[U,ds,v,is,rfl,r1,hb,‹_›,End.ok h st<|ZT _]
  .cases hz
 |_=>exact Ev.nos hz
end
end Sd
namespace Tq
open PySem PyProof.Rows
noncomputable def Yy:Bool->cG->Array cG->Nat->Nat->Nat->StateT eM pX (Option Nat):=sortPriv% PySem.Builtin.gallop
def vL(lf k ar bs n hn):Yy lf k ar bs n hn=(do
 let bd (i:Nat):StateT eM pX (Option Bool):=do
  let x <-gK ar (bs+i)
  if lf then lt' x k else return (<-lt' k x).map (!·)
 let mut la:=0
 let mut of:=1
 let mut lo:=0
 let mut hi:=0
 let aa rt <-bd hn|return ai
 if rt then
  let mx:=n-hn
  for _ in [0:n] do
   if of>=mx then break
   let aa mo <-bd (hn+of)|return ai
   if !mo then break
   la:=of
   of:=2*of+1
  lo:=hn+la+1
  hi:=hn+sC of mx
 else
  let mx:=hn+1
  for _ in [0:n] do
   if of>=mx then break
   let aa fo <-bd (hn-of)|return ai
   if fo then break
   la:=of
   of:=2*of+1
  lo:=hn+1-sC of mx
  hi:=hn-la
 for _ in [0:n] do
  if lo>=hi then break
  let m:=lo+(hi-lo) / 2
  let aa mo <-bd m|return ai
  if mo then lo:=m+1 else hi:=m
 return aa hi):=rfl
noncomputable abbrev BT:=Option (Option Nat)×Nat×Nat
def mid{lo hi:Nat}(c:lo<hi):lo+(hi-lo) / 2<hi:=by omega
def Zb5{F:Nat->BT->StateT eM pX (ForInStep BT)}{n:Nat}{τ:eM}{B:Nat->Bool}{Q:BT->eM->Prop}
  (hF:∀i lo hi (Q:ForInStep BT->eM->Prop),hi<=n->(lo>=hi->Q (.done (ai,lo,hi)) τ)->(lo<hi->Q (.yield (ai,if B (lo+(hi-lo) / 2)=ao then(lo+(hi-lo) / 2+1,hi)else(lo,lo+(hi-lo) / 2))) τ)->mU #[8] A E s (F i (ai,lo,hi)) Q τ)
  (mono:∀i j,i<=j->j<n->B j=ao->B i=ao)(hq:∀r,r<=n->(∀i,i<n->(B i=ao↔i<r))->Q (ai,r,r) τ){lo hi:Nat}(h1:lo<=hi)(h2:hi<=n)(h3:∀i,i<lo->B i=ao)(h4:∀i,hi<=i->i<n->B i=aj) :
  mU #[8] A E s (m5 [0:n] ((ai,lo,hi):BT) F) Q τ:=by
 have fin:∀lo,lo<=n->(∀i,i<lo->B i=ao)->(∀i,lo<=i->i<n->B i=aj)->Q (ai,lo,lo) τ:=λlo a2 a4 a5=>hq _ a2 λi hi=>by
  refine#[λhB=>?_,a4 i]
  by_cases c:i<lo
  .exact c
  .rw[a5 i #[3] hi]at hB;cases hB
 refine cK
  (I:=λi c st'=>st'=τ/\c.1=ai/\c.2.1<=c.2.2/\c.2.2<=n/\c.2.2+i<=n+c.2.1/\(∀i,i<c.2.1->B i=ao)/\∀i,c.2.2<=i->i<n->B i=aj) ?_ ?_ #[rfl,rfl,h1,h2,by dsimp only;omega,h3,h4]
 .rintro i ⟨r,lo,hi⟩ st' hi0 hin ⟨rfl,rfl,a1,a2,a3,a4,a5⟩
  dsimp only at a1 a2 a3 a4 a5 ⊢
  refine hF i lo hi _ a2 (λc=>?_) λc=>?_
  .have e:lo=hi:=by omega
   subst e;exact fin lo a2 a4 a5
  .have m1:=dF lo ((hi-lo) / 2)
   have m2:=mid c;generalize lo+(hi-lo) / 2=m at *;cases hm:B m with
   |true=>
    simp only[if_true];exact#[trivial,trivial,by omega,a2,by omega,λj hj=>mono j _ #[3] #[3] hm,a5]
   |false=>
    simp only[fN,if_false];refine#[trivial,trivial,by omega,by omega,by omega,a4,λj hj hn=>?_]
    cases hj2:B j with|false=>rfl|true=>rw[mono _ j hj hn hj2]at hm;cases hm
 .rintro ⟨r,lo,hi⟩ st' ⟨rfl,rfl,a1,a2,a3,a4,a5⟩
  dsimp only at a1 a2 a3 a4 a5 ⊢
  have e:lo=hi:=by omega
  subst e;exact fin lo a2 a4 a5
def Zg8{k:cG}{B:Nat->Bool}(hh:hn<n)
  (hb:∀i,i<n->∀Q,Q (aa<|B i) τ->mU #[8] A E s (do
   let x <-gK ar (bs+i)
   if lf then lt' x k else return (<-lt' k x).map (!·)) Q τ)
  (mono:∀i j,i<=j->j<n->B j=ao->B i=ao)(hq:∀r,r<=n->(∀i,i<n->(B i=ao↔i<r))->Q (aa r) τ):mU #[8] A E s (Yy lf k ar bs n hn) Q τ:=by
 have no:∀{i j},i<=j->j<n->B i=aj->B j=aj:=λ{i j} h hj hi=>by
  cases q:B j with|false=>rfl|true=>rw[mono i j h hj q]at hi;cases hi
 rw[vL]
 dsimp only
 refine aP<|hb hn hh _ ?_
 dsimp only
 cases h0:B hn with
 |true=>
  rw[T9 rfl];refine aP (fc (cK
   (I:=λi (c:BT) st'=>st'=τ/\c.1=ai/\c.2.1<c.2.2/\i<c.2.2/\hn+c.2.1<n/\B (hn+c.2.1)=ao)
   (Q:=λ(c:BT) st'=>st'=τ/\c.1=ai/\c.2.1<c.2.2/\hn+c.2.1<n/\B (hn+c.2.1)=ao/\(n<=hn+c.2.2\/B (hn+c.2.2)=aj)) ?_ ?_ #[rfl,rfl,by decide,by decide,hh,h0]) ?_)
  .rintro i ⟨r,la,f⟩ st' _ hin ⟨rfl,rfl,a1,a2,a3,a4⟩
   dsimp only at a1 a2 a3 a4 ⊢
   by_cases c:f>=n-hn
   .rw[T9 c]
    exact aX #[rfl,rfl,a1,a3,a4,.inl (by dsimp only;omega)]
   .rw[T8 c]
    refine aP<|hb _ #[3] _ ?_
    dsimp only
    cases hm:B (hn+f)with|true=>exact aX #[rfl,rfl,by dsimp only;omega,by dsimp only;omega,by dsimp only;omega,hm]|false=>exact aX #[rfl,rfl,a1,a3,a4,.inr hm]
  .rintro ⟨r,la,f⟩ st' ⟨rfl,rfl,a1,a2,a3,a4⟩
   exact#[rfl,rfl,a1,a3,a4,.inl #[3]]
  .rintro ⟨r,la,f⟩ st' ⟨rfl,rfl,a1,a3,a4,a5⟩
   refine aP (Zb5 (n:=n) (B:=B) (λi lo hi Q h1 h2 h3=>by
    by_cases c:lo>=hi
    .simp only[T9 c];exact aX<|h2 c
    .simp only[T8 c]
     have c:=pe c;refine aP<|hb _ (bn (mid c) h1) _ ?_;have h3:=h3 c;cases hm:B (lo+(hi-lo) / 2)<;>(rw[hm]at h3;exact aX h3)) mono (λr hr hB=>aX<|hq r hr hB) #[3] #[3] (λi hi=>mono i _ #[3] a3 a4) λi h1 h2=>?_)
   rcases a5 with a5|a5
   .omega
   .exact no #[3] h2 a5
 |false=>
  rw[T8 #[2]]
  refine aP (fc (cK
   (I:=λi (c:BT) st'=>st'=τ/\c.1=ai/\c.2.1<c.2.2/\i<c.2.2/\c.2.1<=hn/\B (hn-c.2.1)=aj)
   (Q:=λ(c:BT) st'=>st'=τ/\c.1=ai/\c.2.1<c.2.2/\c.2.1<=hn/\B (hn-c.2.1)=aj/\(hn<c.2.2\/B (hn-c.2.2)=ao)) ?_ ?_ #[rfl,rfl,by decide,by decide,c7 _,h0]) ?_)
  .rintro i ⟨r,la,f⟩ st' _ hin ⟨rfl,rfl,a1,a2,a3,a4⟩
   dsimp only at a1 a2 a3 a4 ⊢
   by_cases c:f>=hn+1
   .rw[T9 c]
    exact aX #[rfl,rfl,a1,a3,a4,.inl (by dsimp only;omega)]
   .rw[T8 c]
    refine aP<|hb _ #[3] _ ?_
    dsimp only
    cases hm:B (hn-f)with|true=>exact aX #[rfl,rfl,a1,a3,a4,.inr hm]|false=>exact aX #[rfl,rfl,by dsimp only;omega,by dsimp only;omega,by dsimp only;omega,hm]
  .rintro ⟨r,la,f⟩ st' ⟨rfl,rfl,a1,a2,a3,a4⟩
   exact#[rfl,rfl,a1,a3,a4,.inl #[3]]
  .rintro ⟨r,la,f⟩ st' ⟨rfl,rfl,a1,a3,a4,a5⟩
   dsimp only at a1 a3 a4 a5 ⊢
   refine aP (Zb5 (n:=n) (B:=B) (λi lo hi Q h1 h2 h3=>by
    by_cases c:lo>=hi
    .simp only[T9 c];exact aX<|h2 c
    .simp only[T8 c]
     have c:=pe c;refine aP<|hb _ (bn (mid c) h1) _ ?_;have h3:=h3 c;cases hm:B (lo+(hi-lo) / 2)<;>(rw[hm]at h3;exact aX h3)) mono (λr hr hB=>aX<|hq r hr hB) #[3] #[3] (λi hi=>?_) λi h1 h2=>no h1 h2 a4)
   rcases a5 with a5|a5
   .omega
   .exact mono i _ #[3] #[3] a5
abbrev Srt(R:B->B->Prop)(l:List B):Prop:=l.Pairwise R
abbrev lr(rk:B->Nat):B->B->Prop:=λx y=>rk x<rk y
abbrev gr(rk:B->Nat):B->B->Prop:=λx y=>rk y<rk x
structure ML(R:B->B->Prop)(T o ra rb:List B):Prop where
 perm:(o++ra++rb).Perm T
 so:Srt R o
 sa:Srt R ra
 sb:Srt R rb
 lt:∀x∈o,∀y,y∈ra\/y∈rb->R x y
def ML.as(h:ML R T o (xs++ra) rb)(hx:∀x∈xs,∀y∈rb,R x y):ML R T (o++xs) ra rb:=by
 obtain⟨s1,s2,s3⟩:=fe.mp h.sa;refine#[by simpa[bG]using h.perm,fe.mpr #[h.so,s1,λx hx y hy=>h.lt x hx y<|.inl<|cT _ hy],s2,h.sb,λx hx2 y hy=>?_]
 rcases bU.mp hx2 with z|z
 .exact h.lt x z y<|hy.imp (bq _) id
 .rcases hy with hy|hy
  .exact s3 x z y hy
  .exact hx x z y hy
def ML.swap(h:ML R T o ra rb):ML R T o rb ra:=by
 refine#[List.Perm.trans ?_ h.perm,h.so,h.sb,h.sa,λx hx y hy=>h.lt x hx y hy.symm]
 rw[bG,bG];exact List.perm_append_comm.append_left _
def ML.bs(h:ML R T o ra (xs++rb))(hx:∀x∈xs,∀y∈ra,R x y):ML R T (o++xs) ra rb:=(h.swap.as hx).swap
def ML.fin(h:ML R T o ra []):(o++ra).Perm T/\Srt R (o++ra):=by
 have h':=ML.as (ra:=[]) (by simpa using h) λx _ y hy=>by cases hy
 exact#[by simpa using h'.perm,h'.so]
def ML.ne(h:ML R T o ra rb)(hT:(T.map rk).Nodup)(hx:x∈ra)(hy:y∈rb):rk x≠rk y:=by
 have n:=((h.perm.map rk).nodup_iff).mpr hT;rw[bE,fg]at n;exact n.2.2 _ (dP<|bq _ hx) _<|dP hy
structure Od(prog:bP)(w:b9)(A:cz)(E:aB->aM->Prop)(s:aM)(κ:gS)(In:cG->Prop)(rk:cG->Nat):Prop where
 ask:∀{x y:cG}{τ:eM}{Q:Option Bool->eM->Prop},In x->In y->kindOf τ=κ->Q (aa<|ag<|rk x<rk y) τ->mU (aW prog w) A E s (lt' x y) Q τ
def Sg(τ st':eM):Prop:=kindOf st'=kindOf τ/\bh st'=bh τ/\bi st'=bi τ/\gT st'=gT τ
section
variable{In:cG->Prop}
def ZL(h:ar[i]?=aa x)(hq:Q x τ):mU #[8] A E s (gK ar i) Q τ:=by
 rw[elem'_eq,h];exact aX hq
def WP(hq:Q () τ):mU #[8] A E s (liftM (oY t):StateT eM pX Unit) Q τ:=wpS_lift<|gw #[rfl,hq]
theorem v9(O:Od prog w A E s κ In rk)(hk:kindOf τ=κ)(ik:In k)(hh:h0<n)(hn:i+n<=ar.size)(ia:∀x∈ar.toList,In x)
  (so:Srt (lr rk) ((ar.toList.drop i).take n))(ne:∀x∈(ar.toList.drop i).take n,rk x≠rk k)
  (hq:∀r,r<=n->(∀x∈((ar.toList.drop i).take n).take r,rk x<rk k)->(∀x∈((ar.toList.drop i).take n).drop r,rk k<rk x)->Q (aa r) τ):mU #[8] A E s (Yy lf k ar i n h0) Q τ:=by
 generalize hl:(ar.toList.drop i).take n=l at so ne hq;have ll:l.length=n:=by rw[<-hl,bS,bH,aS];lia
 have at_:∀j (hj:j<n),ar[i+j]?=aa (l[j]'#[0]):=λj hj=>by
  have:ar.toList[i+j]?=aa (l[j]'#[0]):=by
   subst hl;rw[gj,gn];exact af _
  simpa using this
 have mem:∀j (hj:j<n),In (l[j]'#[0]):=λj hj=>ia _ (by
  have h2:∀x∈l,x∈ar.toList:=λx hx=>by rw[<-hl]at hx;exact cp<|dm hx
  exact h2 _<|aR _)
 have hB:∀j (hj:j<n),((l[j]?).any λx=>ag<|rk x<rk k)=ag (rk (l[j]'#[0])<rk k):=λj hj=>by
  rw[af #[0]];rfl
 refine Zg8 (B:=λj=>(l[j]?).any λx=>ag<|rk x<rk k) hh (λj hj Q hQ=>?_) (λa b hab hb h=>?_) λr hr hr2=>hq r hr (λx hx=>?_) λx hx=>?_
 .rw[hB j hj]at hQ
  refine aP<|ZL (at_ j hj) ?_;cases lf with
  |true=>exact O.ask (mem j hj) ik hk hQ
  |false=>
   refine aP<|O.ask ik (mem j hj) hk<|aX ?_;have e:(!decide (rk k<rk (l[j]'#[0])))=ag (rk (l[j]'#[0])<rk k):=by
    have:=ne _<|aR (n:=j) #[0]
    by_cases c:rk k<rk (l[j]'#[0])
    .rw[T5 c,T4 #[0]];rfl
    .rw[T4 c,T5 #[0]];rfl
   show Q (aa<|!decide (rk k<rk (l[j]'#[0]))) τ
   rw[e];exact hQ
 .rw[hB b hb]at h
  rw[hB a #[0]]
  rcases Nat.lt_or_eq_of_le hab with c|c
  .have:=bN.mp so a b #[0] #[0] c
   exact T5 #[0]
  .subst c;exact h
 .obtain⟨j,hj,rfl⟩:=bY hx
  rw[bS]at hj;have:=(hr2 j<|by lia).mpr #[0]
  rw[hB j<|by lia]at this
  rw[gj];exact T6 this
 .obtain⟨j,hj,rfl⟩:=bY hx
  rw[bH]at hj;rw[gn];have h1:=hr2 (r+j) #[0]
  rw[hB _<|by lia]at h1
  have h2:=ne _<|aR (n:=r+j) #[0]
  lia
end
noncomputable abbrev KA:=Array cG
noncomputable abbrev SM:=StateT eM pX
noncomputable def QM:KA->KA->SM KA:=sortPriv% PySem.Builtin.mergeLo
noncomputable def Gm:Nat->SM Unit:=sortPriv% PySem.Builtin.setMinGallop
def Za8(g):Gm g=modify λs=>rm (kindOf s) (bh s) (bi s) g (gT s):=rfl
noncomputable abbrev dn(a b o:KA)(i j:Nat):KA:=o++a.extract i a.size++b.extract j b.size
noncomputable abbrev ls(a b o:KA)(i j:Nat):KA:=o++b.extract j b.size++a.extract i a.size
abbrev T2:=Option KA×KA×Nat×Nat×Nat×Nat
abbrev T3:=Option KA×KA×Nat×Nat×Nat×Nat×Nat
abbrev T1:=Option KA×KA×Nat×Nat×Nat
def F1(a b:KA)(g:Nat)(c:T2):SM (ForInStep T2):=do
 let o:=c.2.1
 let i:=c.2.2.1
 let j:=c.2.2.2.1
 let ca:=c.2.2.2.2.1
 let cb:=c.2.2.2.2.2
 let aa t <-lt' (<-gK b j) (<-gK a i)|return .done (aa<|dn a b o i j,o,i,j,ca,cb)
 if t then
  let o:=o.push<|<-gK b j
  let j:=j+1
  if j == b.size then return .done (aa<|dn a b o i j,o,i,j,0,cb+1)
  if cb+1>=g then return .done (ai,o,i,j,0,cb+1)
  return .yield (ai,o,i,j,0,cb+1)
 else
  let o:=o.push<|<-gK a i
  let i:=i+1
  if i+1 == a.size then return .done (aa<|ls a b o i j,o,i,j,ca+1,0)
  if ca+1>=g then return .done (ai,o,i,j,ca+1,0)
  return .yield (ai,o,i,j,ca+1,0)
def G3(a b:KA)(g ca cb i:Nat)(o:KA)(j:Nat):SM (ForInStep T3):=do
 let o:=o.push<|<-gK a i
 let i:=i+1
 if i+1 == a.size then return .done (aa<|ls a b o i j,o,i,j,g,ca,cb)
 if ca<7&&cb<7 then return .done (ai,o,i,j,g,ca,cb)
 return .yield (ai,o,i,j,g,ca,cb)
def G2(a b:KA)(g ca cb j:Nat)(o:KA)(i:Nat):SM (ForInStep T3):=do
 let o:=o.push<|<-gK b j
 let j:=j+1
 if j == b.size then return .done (aa<|dn a b o i j,o,i,j,g,ca,cb)
 let aa k <-Yy ao (<-gK a i) b j (b.size-j) 0|return .done (aa<|dn a b o i j,o,i,j,g,ca,cb)
 if k>0 then
  let o:=o++b.extract j (j+k)
  let j:=j+k
  if j == b.size then return .done (aa<|dn a b o i j,o,i,j,g,ca,k)
  else G3 a b g ca k i o j
 else G3 a b g ca k i o j
def G1(a b:KA)(o:KA)(i j ca cb g:Nat):SM (ForInStep T3):=do
 Gm g
 let aa k <-Yy aj (<-gK b j) a i (a.size-i) 0|return .done (aa<|dn a b o i j,o,i,j,g,ca,cb)
 if k>0 then
  let o:=o++a.extract i (i+k)
  let i:=i+k
  if i+1 == a.size then return .done (aa<|ls a b o i j,o,i,j,g,k,cb)
  else if i == a.size then return .done (aa<|dn a b o i j,o,i,j,g,k,cb)
  else G2 a b g k cb j o i
 else G2 a b g k cb j o i
def F2(a b:KA)(c:T3):SM (ForInStep T3):=
 if c.2.2.2.2.1>1 then G1 a b c.2.1 c.2.2.1 c.2.2.2.1 c.2.2.2.2.2.1 c.2.2.2.2.2.2 (c.2.2.2.2.1-1)
 else G1 a b c.2.1 c.2.2.1 c.2.2.2.1 c.2.2.2.2.2.1 c.2.2.2.2.2.2 c.2.2.2.2.1
def F0(a b:KA)(c:T1):SM (ForInStep T1):=do
 let d <-m5 [0:a.size+b.size] ((ai,c.2.1,c.2.2.1,c.2.2.2.1,0,0):T2) λ_ d=>F1 a b c.2.2.2.2 d
 kN d.1 (λ_=>do
  oY "list.sort.gallop"
  let e <-m5 [0:a.size+b.size] ((ai,d.2.1,d.2.2.1,d.2.2.2.1,c.2.2.2.2+1,d.2.2.2.2.1,d.2.2.2.2.2):T3) λ_ d=>F2 a b d
  kN e.1 (λ_=>do
   Gm (e.2.2.2.2.1+1)
   cX (.yield (ai,e.2.1,e.2.2.1,e.2.2.2.1,e.2.2.2.2.1+1))) λr=>cX<|.done (aa r,e.2.1,e.2.2.1,e.2.2.2.1,e.2.2.2.2.1)) λr=>cX<|.done (aa r,d.2.1,d.2.2.1,d.2.2.2.1,c.2.2.2.2)
def yz(a b):QM a b=(do
 oY "list.sort.merge-lo"
 let y <-gK b 0
 if 1 == b.size then return dn a b #[y] 0 1
 if 0+1 == a.size then return ls a b #[y] 0 1
 let τ <-get
 let c <-m5 [0:a.size+b.size] ((ai,#[y],0,1,gallopOf τ):T1) λ_ c=>F0 a b c
 kN c.1 (λ_=>pK "internal:list.sort.merge-bound") λr=>cX r):=rfl
def W5(a:KA)(i):(a.extract i a.size).toList=a.toList.drop i:=by
 rw[i7];exact cA (by rw[bH];exact aJ _)
def uD(a:KA)(i k):(a.extract i<|i+k).toList=(a.toList.drop i).take k:=by
 rw[i7,List.extract_eq_take_drop,cf]
def Yf{a:KA}(h):a.toList.drop i=a[i]::a.toList.drop (i+1):=by
 rw[cg (by simpa using h)];rfl
def td{B:Type}(l:List B)(n r):(l.drop n).take r++l.drop (n+r)=l.drop n:=by rw[<-kO,cH]
def ZV{a:KA}{i:Nat}(h):a[i]?=aa a[i]:=bp h
section
variable{prog:bP}{w:b9}{A:cz}{E:aB->aM->Prop}{s:aM}{κ:gS}{In:cG->Prop}{rk:cG->Nat}
def ZJ{B:Type}{c:Prop}[Decidable c]{x y:SM B}{Q:B->eM->Prop}(h1:c->mU #[8] A E s x Q τ)(h2:¬c->mU #[8] A E s y Q τ):mU #[8] A E s (if c then x else y) Q τ:=by
 by_cases h:c
 .rw[T9 h];exact h1 h
 .rw[T8 h];exact h2 h
theorem qd(O:Od prog w A E s κ In rk)(hk:kindOf τ=κ)(ik:In k)(hi:i<ar.size)(ia:∀x∈ar.toList,In x)(so:Srt (lr rk) (ar.toList.drop i))(ne:∀x∈ar.toList.drop i,rk x≠rk k)
  (hq:∀r,i+r<=ar.size->(∀x∈(ar.toList.drop i).take r,rk x<rk k)->(∀x∈ar.toList.drop (i+r),rk k<rk x)->Q (aa r) τ):mU #[8] A E s (Yy lf k ar i (ar.size-i) 0) Q τ:=by
 have e:(ar.toList.drop i).take (ar.size-i)=ar.toList.drop i:=cA (by rw[bH];exact aJ _)
 refine v9 O hk ik (Nat.sub_pos_of_lt hi) (mw<|nz<|gA hi) ia (e.symm▸so) (e.symm▸ne) λr h1 h2 h3=>?_
 rw[e]at h2 h3;rw[kO]at h3;exact hq r #[0] h2 h3
structure Mg(κ:gS)(In:cG->Prop)(rk:cG->Nat)(a b:KA)(T:List cG):Prop where
 nd:(T.map rk).Nodup
 ia:∀x∈a.toList,In x
 ib:∀x∈b.toList,In x
 last:∀y∈b.toList,∀x∈a.toList.drop (a.size-1),rk y<rk x
def Res(rk:cG->Nat)(T:List cG)(r:KA):Prop:=r.toList.Perm T/\Srt (lr rk) r.toList
abbrev Lo(rk:cG->Nat)(a b:KA)(T:List cG)(o:KA)(i j:Nat):Prop:=ML (lr rk) T o.toList (a.toList.drop i)<|b.toList.drop j
structure Iv(rk:cG->Nat)(a b:KA)(T:List cG)(o:KA)(i j:Nat):Prop where
 m:Lo rk a b T o i j
 hi:i+1<a.size
 hj:j<b.size
 z:o.size=i+j
variable{a b:KA}{T:List cG}
def GZ(h:Lo rk a b T o i j)(hj:(j == b.size)=ao):Res rk T (dn a b o i j):=by
 have hj:=beq_iff_eq.mp hj;unfold Lo at h;rw[hj,<-aS,eD]at h;have:=h.fin;unfold Res dn;rw[ck,ck,W5,W5,hj,<-aS,eD,cr];exact this
def ZdQ(h:Lo rk a b T o i j)(hi:(i == a.size)=ao):Res rk T (dn a b o i j):=by
 have hi:=beq_iff_eq.mp hi;unfold Lo at h;rw[hi,<-aS,eD]at h;have:=h.swap.fin;unfold Res dn;rw[ck,ck,W5,W5,hi,<-aS,eD,cr];exact this
theorem yg(G:Mg κ In rk a b T)(h:Lo rk a b T o i j)(hi:(i+1 == a.size)=ao):Res rk T (ls a b o i j):=by
 have e:a.size-1=i:=by lia
 have:=(ML.bs (by rw[cr];exact h) λy hy x hx=>G.last y (cp hy) x<|by rw[e];exact hx).fin
 unfold Res ls;rw[ck,ck,W5,W5];exact this
def Zar(h:Lo rk a b T o i j)(hj:j<b.size)(hy:∀x∈a.toList.drop i,rk b[j]<rk x):Lo rk a b T (o.push b[j]) i (j+1):=by
 unfold Lo at h ⊢;rw[Yf hj]at h;rw[fj];exact ML.bs h λx hx y hy'=>by rw[aZ.mp hx];exact hy y hy'
def ZfQ(h:Lo rk a b T o i j)(hi:i<a.size)(hx:∀y∈b.toList.drop j,rk a[i]<rk y):Lo rk a b T (o.push a[i]) (i+1) j:=by
 unfold Lo at h ⊢;rw[Yf hi]at h;rw[fj];exact ML.as h λx hx' y hy'=>by rw[aZ.mp hx'];exact hx y hy'
def uw(h:Srt (lr rk) (x::l))(hx:rk y<rk x):∀z∈x::l,rk y<rk z:=λz hz=>by
 rcases ay.mp hz with rfl|hz
 .exact hx
 .exact dv hx<|(bo.mp h).1 z hz
def Jw(h:m<n)(q:¬(m+1 == n)=ao):m+1<n:=fO h λz=>q<|beq_iff_eq.mpr z
theorem Zjd(O:Od prog w A E s κ In rk)(G:Mg κ In rk a b T)(hk:kindOf τ=κ)(I:Iv rk a b T o i j)
  (hd:∀r c,Res rk T r->Q (.done (aa r,c)) τ)(hb:∀o' i' j' ca cb,Iv rk a b T o' i' j'->o'.size=o.size+1->Q (.done (ai,o',i',j',ca,cb)) τ/\Q (.yield (ai,o',i',j',ca,cb)) τ):mU #[8] A E s (F1 a b g (r0,o,i,j,ca,cb)) Q τ:=by
 have hi:=d8 I.hi;have ha:a[i]∈a.toList.drop i:=by rw[Yf hi];exact ak ..
 have hb':b[j]'I.hj∈b.toList.drop j:=by rw[Yf I.hj];exact ak ..
 have sa:=I.m.sa;have sb:=I.m.sb;rw[Yf hi]at sa;rw[Yf I.hj]at sb;refine aP<|ZL (ZV I.hj)<|aP<|ZL (ZV hi)<|aP<|O.ask (G.ib _<|cp hb') (G.ia _<|cp ha) hk ?_;by_cases c:rk (b[j]'I.hj)<rk a[i]
 .rw[T5 c]
  refine aP<|ZL (ZV I.hj) ?_;have m:=Zar I.m I.hj (by rw[Yf hi];exact uw sa c)
  have z:(o.push<|b[j]'I.hj).size=o.size+1:=eg ..;refine ZJ (λq=>aX<|hd _ _<|GZ m q) λq=>?_
  have h:=hb _ _ _ 0 (cb+1) #[m,I.hi,Jw I.hj q,by rw[z,I.z];lia] z
  exact ZJ (λ_=>aX h.1) λ_=>aX h.2
 .rw[T4 c]
  refine aP<|ZL (ZV hi) ?_;have m:=ZfQ I.m hi (by rw[Yf I.hj];exact uw sb<|fO (dW c)<|I.m.ne G.nd ha hb')
  have z:(o.push a[i]).size=o.size+1:=eg ..;refine ZJ (λq=>aX<|hd _ _<|yg G m q) λq=>?_
  have h:=hb _ _ _ (ca+1) 0 #[m,Jw I.hi q,I.hj,by rw[z,I.z];lia] z
  exact ZJ (λ_=>aX h.1) λ_=>aX h.2
theorem Sg.trans(h:Sg s1 s2)(k:Sg s2 s3):Sg s1 s3:=#[k.1.trans h.1,k.2.1.trans h.2.1,k.2.2.1.trans h.2.2.1,k.2.2.2.trans h.2.2.2]
def Qc(h:∀st',Sg τ st'->Q () st'):mU #[8] A E s (Gm g) Q τ:=by
 rw[Za8];exact fP<|h _ #[rfl,rfl,rfl,rfl]
section
variable(O:Od prog w A E s κ In rk)(G:Mg κ In rk a b T)
include O G
theorem ZfK{g ca cb:Nat}{τ:eM}(m:Lo rk a b T o i j)(hi:i+1<a.size)(hj:j<b.size)(z:o.size=i+j)(hx:∀y∈b.toList.drop j,rk a[i]<rk y)
  (hd:∀r c,Res rk T r->Q (.done (aa r,c)) τ)(hb:∀o' i' j' g ca cb,Iv rk a b T o' i' j'->o'.size=o.size+1->Q (.done (ai,o',i',j',g,ca,cb)) τ/\Q (.yield (ai,o',i',j',g,ca,cb)) τ):mU #[8] A E s (G3 a b g ca cb i o j) Q τ:=by
 have hi':=d8 hi;refine aP<|ZL (ZV hi') ?_;have m:=ZfQ m hi' hx;have z':(o.push a[i]).size=o.size+1:=eg ..;refine ZJ (λq=>aX<|hd _ _<|yg G m q) λq=>?_
 have h:=hb _ _ _ g ca cb #[m,Jw hi q,hj,by rw[z'];lia] z'
 exact ZJ (λ_=>aX h.1) λ_=>aX h.2
theorem ZfH{g ca cb:Nat}{τ:eM}(hk:kindOf τ=κ)(m:Lo rk a b T o i j)(hi:i+1<a.size)(hj)(z:o.size=i+j)(hy:∀x∈a.toList.drop i,rk b[j]<rk x)
  (hd:∀r c,Res rk T r->Q (.done (aa r,c)) τ)(hb:∀o' i' j' g ca cb,Iv rk a b T o' i' j'->o.size<o'.size->Q (.done (ai,o',i',j',g,ca,cb)) τ/\Q (.yield (ai,o',i',j',g,ca,cb)) τ):mU #[8] A E s (G2 a b g ca cb j o i) Q τ:=by
 have hi':=d8 hi;refine aP<|ZL (ZV hj) ?_;have m:=Zar m hj hy;have z':(o.push b[j]).size=o.size+1:=eg ..;refine ZJ (λq=>aX<|hd _ _<|GZ m q) λq=>?_
 have hj:=Jw hj q;have ha:a[i]∈a.toList.drop i:=by rw[Yf hi'];exact ak ..
 refine aP<|ZL (ZV hi')<|aP<|qd O hk (G.ia _<|cp ha) hj G.ib m.sb (λy hy=>(m.ne G.nd ha hy).symm) λr hr h1 h2=>?_
 refine ZJ (λ_=>?_) λc=>?_
 .have m2:Lo rk a b T (o.push b[j]++b.extract (j+1) (j+1+r)) i (j+1+r):=by
   unfold Lo;rw[ck,uD];refine ML.bs ?_ λy hy x hx=>?_
   .rw[td];exact m
   .have sa:=m.sa
    rw[Yf hi']at sa hx;exact uw sa (h1 y hy) x hx
  have z2:(o.push b[j]++b.extract (j+1) (j+1+r)).size=o.size+1+r:=by rw[iD,z',fA #[0],cf]
  refine ZJ (λq=>aX<|hd _ _<|GZ m2 q) λq=>?_
  have hj2:j+1+r<b.size:=fO hr λz=>q<|beq_iff_eq.mpr z
  exact ZfK O G m2 hi hj2 (by rw[z2];lia) h2 hd λo' i' j' g ca cb I e=>hb o' i' j' g ca cb I #[0]
 .have e:r=0:=by lia
  subst e;exact ZfK O G m hi hj (by rw[z'];lia) h2 hd λo' i' j' g ca cb I e=>hb o' i' j' g ca cb I #[0]
theorem ZfY{g ca cb:Nat}(hk:kindOf τ=κ)(I:Iv rk a b T o i j)
  (hd:∀r c st',Sg τ st'->Res rk T r->Q (.done (aa r,c)) st')(hb:∀o' i' j' g ca cb st',Sg τ st'->Iv rk a b T o' i' j'->o.size<o'.size->Q (.done (ai,o',i',j',g,ca,cb)) st'/\Q (.yield (ai,o',i',j',g,ca,cb)) st'):mU #[8] A E s (G1 a b o i j ca cb g) Q τ:=by
 obtain⟨m,hi,hj,z⟩:=I;have hb':b[j]∈b.toList.drop j:=by rw[Yf hj];exact ak ..
 refine aP<|Qc λst' sg=>aP<|ZL (ZV hj)<|aP<|qd O (sg.1.trans hk) (G.ib _<|cp hb') (d8 hi) G.ia m.sa (λx hx=>m.ne G.nd hx hb') λr hr h1 h2=>?_
 refine ZJ (λ_=>?_) λc=>?_
 .have m2:Lo rk a b T (o++a.extract i (i+r)) (i+r) j:=by
   unfold Lo;rw[ck,uD];refine ML.as ?_ λx hx y hy=>?_
   .rw[td];exact m
   .have sb:=m.sb
    rw[Yf hj]at sb hy;exact uw sb (h1 x hx) y hy
  have z2:(o++a.extract i (i+r)).size=o.size+r:=by rw[iD,fA #[0],cf]
  refine ZJ (λq=>aX<|hd _ _ st' sg<|yg G m2 q) λq=>ZJ (λq=>aX<|hd _ _ st' sg<|ZdQ m2 q) λq2=>?_
  exact ZfH O G (sg.1.trans hk) m2 (Jw #[0] q) hj (by rw[z2];lia) h2 (λr c=>hd r c st' sg) λo' i' j' g ca cb I e=>hb o' i' j' g ca cb st' sg I #[0]
 .have e:r=0:=by lia
  subst e;exact ZfH O G (sg.1.trans hk) m hi hj z h2 (λr c=>hd r c st' sg) λo' i' j' g ca cb I e=>hb o' i' j' g ca cb st' sg I #[0]
theorem Zi4(hk:kindOf τ=κ)(I:Iv rk a b T o i j)
  (hd:∀r c st',Sg τ st'->Res rk T r->Q (.done (aa r,c)) st')(hb:∀o' i' j' g ca cb st',Sg τ st'->Iv rk a b T o' i' j'->o.size<o'.size->Q (.done (ai,o',i',j',g,ca,cb)) st'/\Q (.yield (ai,o',i',j',g,ca,cb)) st'):mU #[8] A E s (F2 a b (r0,o,i,j,g,ca,cb)) Q τ:=by
 exact ZJ (λ_=>ZfY O G hk I hd hb) λ_=>ZfY O G hk I hd hb
theorem ZiM{Q:ForInStep T1->eM->Prop}(hk:kindOf τ=κ)(I:Iv rk a b T o i j)
  (hd:∀r c st',Sg τ st'->Res rk T r->Q (.done (aa r,c)) st')(hy:∀o' i' j' g st',Sg τ st'->Iv rk a b T o' i' j'->o.size<o'.size->Q (.yield (ai,o',i',j',g)) st'):mU #[8] A E s (F0 a b (r0,o,i,j,g)) Q τ:=by
 refine aP (fc (cK
  (I:=λx c st'=>st'=τ/\c.1=ai/\Iv rk a b T c.2.1 c.2.2.1 c.2.2.2.1/\o.size+x<=c.2.1.size)
  (Q:=λc st'=>st'=τ/\((∃r,c.1=aa r/\Res rk T r)\/c.1=ai/\Iv rk a b T c.2.1 c.2.2.1 c.2.2.2.1/\o.size<c.2.1.size)) ?_ ?_ #[rfl,rfl,I,aJ _]) ?_)
 .rintro x ⟨r,o',i',j',ca,cb⟩ st' _ _ ⟨rfl,rfl,I',hz⟩
  exact Zjd O G hk I' (λr c h=>#[rfl,.inl #[r,rfl,h]]) λo2 i2 j2 ca cb I2 e=>#[#[rfl,.inr #[rfl,I2,by dsimp only at hz ⊢;lia]],rfl,rfl,I2,by dsimp only at hz ⊢;lia]
 .rintro ⟨r,o',i',j',ca,cb⟩ st' ⟨rfl,rfl,I',hz⟩
  have:=I'.hi;have:=I'.hj;lia
 .rintro ⟨r,o',i',j',ca,cb⟩ st' ⟨rfl,⟨r',rfl,h⟩|⟨rfl,I',hz⟩⟩
  .exact aX<|hd _ _ _ #[rfl,rfl,rfl,rfl] h
  .dsimp only at I' hz
   refine aP (WP (aP (fc (cK
    (I:=λx (c:T3) st''=>Sg st' st''/\c.1=ai/\Iv rk a b T c.2.1 c.2.2.1 c.2.2.2.1/\o'.size+x<=c.2.1.size)
    (Q:=λc st''=>Sg st' st''/\((∃r,c.1=aa r/\Res rk T r)\/c.1=ai/\Iv rk a b T c.2.1 c.2.2.1 c.2.2.2.1/\o'.size<c.2.1.size)) ?_ ?_ #[#[rfl,rfl,rfl,rfl],rfl,I',aJ _]) ?_)))
   .rintro x ⟨r,o2,i2,j2,g,ca,cb⟩ st2 _ _ ⟨sg,rfl,I2,hz2⟩
    exact Zi4 O G (sg.1.trans hk) I2 (λr c st3 s3 h=>#[sg.trans s3,.inl #[r,rfl,h]]) λo3 i3 j3 g ca cb st3 s3 I3 e=>#[#[sg.trans s3,.inr #[rfl,I3,by dsimp only;lia]],sg.trans s3,rfl,I3,by dsimp only;lia]
   .rintro ⟨r,o2,i2,j2,g,ca,cb⟩ st2 ⟨sg,rfl,I2,hz2⟩
    have:=I2.hi;have:=I2.hj;have:=I2.z;lia
   .rintro ⟨r,o2,i2,j2,g,ca,cb⟩ st2 ⟨sg,⟨r',rfl,h⟩|⟨rfl,I2,hz2⟩⟩
    .exact aX<|hd _ _ _ sg h
    .exact aP<|Qc λst3 s3=>aX<|hy _ _ _ _ _ (sg.trans s3) I2<|dv hz hz2
theorem vn(hk:kindOf τ=κ)(ha:0<a.size)(hb)(sa:Srt (lr rk) a.toList)(sb:Srt (lr rk) b.toList)(hT:(a.toList++b.toList).Perm T)(h0:∀x∈a.toList,rk b[0]<rk x)
  (hq:∀r st',Sg τ st'->Res rk T r->Q r st'):mU #[8] A E s (QM a b) Q τ:=by
 rw[yz];refine aP<|WP<|aP<|ZL (ZV hb) ?_;have m0:Lo rk a b T #[] 0 0:=#[by simpa using hT,.nil,by simpa using sa,by simpa using sb,λx hx=>by cases hx]
 have m:=Zar m0 hb (by simpa using h0)
 have sg0:Sg τ τ:=#[rfl,rfl,rfl,rfl];refine ZJ (λq=>aX<|hq _ _ sg0<|GZ m q) λq1=>ZJ (λq=>aX<|hq _ _ sg0<|yg G m q) λq2=>aP (iE (aP (fc (cK
  (I:=λx c st''=>Sg τ st''/\c.1=ai/\Iv rk a b T c.2.1 c.2.2.1 c.2.2.2.1/\x<=c.2.1.size)
  (Q:=λc st''=>Sg τ st''/\∃r,c.1=aa r/\Res rk T r) ?_ ?_ #[sg0,rfl,#[m,Jw ha q2,Jw hb q1,rfl],c7 _]) ?_)))
 .rintro x ⟨r,o,i,j,g⟩ st2 _ _ ⟨sg,rfl,I,hz⟩
  exact ZiM O G (sg.1.trans hk) I (λr c st3 s3 h=>#[sg.trans s3,r,rfl,h]) λo3 i3 j3 g st3 s3 I3 e=>#[sg.trans s3,rfl,I3,by dsimp only;lia]
 .rintro ⟨r,o,i,j,g⟩ st2 ⟨sg,rfl,I,hz⟩
  have:=I.hi;have:=I.hj;have:=I.z;lia
 .rintro ⟨r,o,i,j,g⟩ st2 ⟨sg,r',rfl,h⟩
  exact aX<|hq _ _ sg h
end
end
noncomputable def Jd:KA->KA->SM KA:=sortPriv% PySem.Builtin.mergeHi
noncomputable abbrev dh(a b o:KA)(i j:Nat):KA:=a.extract 0 i++b.extract 0 j++o.reverse
noncomputable abbrev fh(a b o:KA)(i j:Nat):KA:=b.extract 0 j++a.extract 0 i++o.reverse
abbrev U1:=Option KA×Nat×Nat×KA×Nat
abbrev U2:=Option KA×Nat×Nat×KA×Nat×Nat
abbrev U3:=Option KA×Nat×Nat×KA×Nat×Nat×Nat
def H1(a b:KA)(g:Nat)(c:U2):SM (ForInStep U2):=do
 let i:=c.2.1
 let j:=c.2.2.1
 let o:=c.2.2.2.1
 let ca:=c.2.2.2.2.1
 let cb:=c.2.2.2.2.2
 let aa t <-lt' (<-gK b (j-1)) (<-gK a (i-1))|return .done (aa<|dh a b o i j,i,j,o,ca,cb)
 if t then
  let i:=i-1
  let o:=o.push<|<-gK a i
  if i == 0 then return .done (aa<|dh a b o i j,i,j,o,ca+1,0)
  if ca+1>=g then return .done (ai,i,j,o,ca+1,0)
  return .yield (ai,i,j,o,ca+1,0)
 else
  let j:=j-1
  let o:=o.push<|<-gK b j
  if j == 1 then return .done (aa<|fh a b o i j,i,j,o,0,cb+1)
  if cb+1>=g then return .done (ai,i,j,o,0,cb+1)
  return .yield (ai,i,j,o,0,cb+1)
def K3(a b:KA)(g ca cb i:Nat)(o:KA)(j:Nat):SM (ForInStep U3):=do
 let i:=i-1
 let o:=o.push<|<-gK a i
 if i == 0 then return .done (aa<|dh a b o i j,i,j,o,g,ca,cb)
 if ca<7&&cb<7 then return .done (ai,i,j,o,g,ca,cb)
 return .yield (ai,i,j,o,g,ca,cb)
def K2(a b:KA)(g ca cb j:Nat)(o:KA)(i:Nat):SM (ForInStep U3):=do
 let j:=j-1
 let o:=o.push<|<-gK b j
 if j == 1 then return .done (aa<|fh a b o i j,i,j,o,g,ca,cb)
 let aa t <-Yy ao (<-gK a (i-1)) b 0 j (j-1)|return .done (aa<|dh a b o i j,i,j,o,g,ca,cb)
 if j-t>0 then
  let o:=o++(b.extract t j).reverse
  if t == 1 then return .done (aa<|fh a b o i t,i,t,o,g,ca,j-t)
  else if t == 0 then return .done (aa<|dh a b o i t,i,t,o,g,ca,j-t)
  else K3 a b g ca (j-t) i o t
 else K3 a b g ca (j-t) i o j
def K1(a b:KA)(o:KA)(i j ca cb g:Nat):SM (ForInStep U3):=do
 Gm g
 let aa t <-Yy aj (<-gK b (j-1)) a 0 i (i-1)|return .done (aa<|dh a b o i j,i,j,o,g,ca,cb)
 if i-t>0 then
  let o:=o++(a.extract t i).reverse
  if t == 0 then return .done (aa<|dh a b o t j,t,j,o,g,i-t,cb)
  else K2 a b g (i-t) cb j o t
 else K2 a b g (i-t) cb j o i
def H2(a b:KA)(c:U3):SM (ForInStep U3):=
 if c.2.2.2.2.1>1 then K1 a b c.2.2.2.1 c.2.1 c.2.2.1 c.2.2.2.2.2.1 c.2.2.2.2.2.2 (c.2.2.2.2.1-1)
 else K1 a b c.2.2.2.1 c.2.1 c.2.2.1 c.2.2.2.2.2.1 c.2.2.2.2.2.2 c.2.2.2.2.1
def TT(n:Nat)(f1:Nat->U2->SM (ForInStep U2))(f2:U3->SM (ForInStep U3))(c:U1):SM (ForInStep U1):=do
 let d <-m5 [0:n] ((ai,c.2.1,c.2.2.1,c.2.2.2.1,0,0):U2) λ_ d=>f1 c.2.2.2.2 d
 kN d.1 (λ_=>do
  oY "list.sort.gallop"
  let e <-m5 [0:n] ((ai,d.2.1,d.2.2.1,d.2.2.2.1,c.2.2.2.2+1,d.2.2.2.2.1,d.2.2.2.2.2):U3) λ_ d=>f2 d
  kN e.1 (λ_=>do
   Gm (e.2.2.2.2.1+1)
   cX (.yield (ai,e.2.1,e.2.2.1,e.2.2.2.1,e.2.2.2.2.1+1))) λr=>cX<|.done (aa r,e.2.1,e.2.2.1,e.2.2.2.1,e.2.2.2.2.1)) λr=>cX<|.done (aa r,d.2.1,d.2.2.1,d.2.2.2.1,c.2.2.2.2)
def wv(a b):Jd a b=(do
 oY "list.sort.merge-hi"
 let x <-gK a (a.size-1)
 if a.size-1 == 0 then return dh a b #[x] (a.size-1) b.size
 if b.size == 1 then return fh a b #[x] (a.size-1) b.size
 let τ <-get
 let c <-m5 [0:a.size+b.size] ((ai,a.size-1,b.size,#[x],gallopOf τ):U1) λ_ c=>TT (a.size+b.size) (H1 a b) (H2 a b) c
 kN c.1 (λ_=>pK "internal:list.sort.merge-bound") λr=>cX r):=rfl
def ZaH{a:KA}:(a.extract t i).toList=(a.toList.take i).drop t:=by
 rw[i7,List.drop_take]
noncomputable abbrev rv(a:KA)(i:Nat):List cG:=(a.toList.take i).reverse
def Vu(h:0<i)(h2:i<=a.size):rv a i=a[i-1]::rv a (i-1):=by
 obtain⟨k,rfl⟩:∃k,i=k+1:=#[i-1,by lia]
 show(a.toList.take<|k+1).reverse=_;rw[List.take_succ_eq_append_getElem (by rw[aS];exact h2),nA];rfl
def Zda{a:KA}(h:t<=i):rv a i=((a.toList.take i).drop t).reverse++rv a t:=by
 rw[<-nA];have:=cH t<|a.toList.take i;rw[rn,g7 h]at this;rw[this]
section
variable{prog:bP}{w:b9}{A:cz}{E:aB->aM->Prop}{s:aM}{κ:gS}{In:cG->Prop}{rk:cG->Nat}{a b:KA}{T:List cG}
abbrev Hi(rk:cG->Nat)(a b:KA)(T:List cG)(o:KA)(i j:Nat):Prop:=ML (gr rk) T o.toList (rv a i)<|rv b j
structure Ih(rk:cG->Nat)(a b:KA)(T:List cG)(o:KA)(i j:Nat):Prop where
 m:Hi rk a b T o i j
 i0:0<i
 i1:i<=a.size
 j0:1<j
 j1:j<=b.size
 z:o.size+i+j=a.size+b.size
def G5(h:l.Perm T/\Srt (gr rk) l)(e:r.toList=l.reverse):Res rk T r:=by
 unfold Res;rw[e];exact#[(d9 l).trans h.1,eR.mpr h.2]
def Zfu(h:Hi rk a b T o i j)(hi:(i == 0)=ao):Res rk T (dh a b o i j):=by
 cases beq_iff_eq.mp hi;refine G5 (ML.fin h.swap) ?_;simp
def ZjF(h:Hi rk a b T o i j)(hj:(j == 0)=ao):Res rk T (dh a b o i j):=by
 cases beq_iff_eq.mp hj;refine G5 (ML.fin h) ?_;simp
def zQ(fs:∀x∈a.toList,∀y∈b.toList.take 1,rk y<rk x)(h:Hi rk a b T o i j)(hj:(j == 1)=ao):Res rk T (fh a b o i j):=by
 cases beq_iff_eq.mp hj;have:=(ML.as (by rw[cr];exact h) λx hx y hy=>fs x (dm<|eF.mp hx) y<|eF.mp hy).swap.fin
 refine G5 this ?_;simp
def ZaT(h:Hi rk a b T o i j)(i0:0<i)(i1:i<=a.size)(hx:∀y∈rv b j,rk y<rk a[i-1]):Hi rk a b T (o.push a[i-1]) (i-1) j:=by
 unfold Hi at h ⊢;rw[Vu i0 i1]at h;rw[fj];exact ML.as h λx hx' y hy'=>by rw[aZ.mp hx'];exact hx y hy'
def ZfT(h:Hi rk a b T o i j)(j0:0<j)(j1:j<=b.size)(hx:∀y∈rv a i,rk y<rk b[j-1]):Hi rk a b T (o.push b[j-1]) i (j-1):=by
 unfold Hi at h ⊢;rw[Vu j0 j1]at h;rw[fj];exact ML.bs h λx hx' y hy'=>by rw[aZ.mp hx'];exact hx y hy'
def u8{x y:cG}(h:Srt (gr rk) (x::l))(hx:rk x<rk y):∀z∈x::l,rk z<rk y:=λz hz=>by
 rcases ay.mp hz with rfl|hz
 .exact hx
 .exact dv ((bo.mp h).1 z hz) hx
theorem u7(O:Od prog w A E s κ In rk){n:Nat}(hk:kindOf τ=κ)(ik:In k)(hn:0<n)(h1:n<=ar.size)(ia:∀x∈ar.toList,In x)(so:Srt (gr rk) (rv ar n))(ne:∀x∈rv ar n,rk x≠rk k)
  (hq:∀r,r<=n->(∀x∈rv ar r,rk x<rk k)->(∀x∈((ar.toList.take n).drop r).reverse,rk k<rk x)->Q (aa r) τ):mU #[8] A E s (Yy lf k ar 0 n<|n-1) Q τ:=by
 refine v9 O hk ik (Nat.sub_lt hn Nat.one_pos) #[0] ia (eR.mp so) (λx hx=>ne x<|eF.mpr hx) λr h2 h3 h4=>hq r h2 (λx hx=>h3 x ?_) λx hx=>h4 x<|eF.mp hx
 rw[rn,g7 h2];exact(eF.mp hx)
def U0{a:KA}(i0:0<i)(i1:i<=a.size):a[i-1]∈rv a i:=by rw[Vu i0 i1];exact ak ..
def yC(h:x∈rv a i):x∈a.toList:=dm<|eF.mp h
section
variable(O:Od prog w A E s κ In rk)(G:Mg κ In rk a b T)(fs:∀x∈a.toList,∀y∈b.toList.take 1,rk y<rk x)
include O G fs
theorem Zi3{g ca cb:Nat}{τ:eM}(hk:kindOf τ=κ)(I:Ih rk a b T o i j)
  (hd:∀r c,Res rk T r->Q (.done (aa r,c)) τ)(hb:∀o' i' j' ca cb,Ih rk a b T o' i' j'->o'.size=o.size+1->Q (.done (ai,i',j',o',ca,cb)) τ/\Q (.yield (ai,i',j',o',ca,cb)) τ):mU #[8] A E s (H1 a b g (r0,i,j,o,ca,cb)) Q τ:=by
 obtain⟨m,i0,i1,j0,j1,z⟩:=I;have j0':=d8 j0;have hja:j-1<b.size:=by lia
 have hia:i-1<a.size:=by lia
 have ha:=U0 i0 i1;have hb':=U0 j0' j1;have sa:=m.sa;have sb:=m.sb;rw[Vu i0 i1]at sa;rw[Vu j0' j1]at sb;refine aP<|ZL (ZV hja)<|aP<|ZL (ZV hia)<|aP<|O.ask (G.ib _<|yC hb') (G.ia _<|yC ha) hk ?_;by_cases c:rk b[j-1]<rk a[i-1]
 .rw[T5 c]
  refine aP<|ZL (ZV hia) ?_;have m:=ZaT m i0 i1 (by rw[Vu j0' j1];exact u8 sb c)
  have z':(o.push a[i-1]).size=o.size+1:=eg ..;refine ZJ (λq=>aX<|hd _ _<|Zfu m q) λq=>?_
  have q:i-1≠0:=λz=>q<|beq_iff_eq.mpr z
  have h:=hb _ _ _ (ca+1) 0 #[m,by lia,by lia,j0,j1,by lia] z'
  exact ZJ (λ_=>aX h.1) λ_=>aX h.2
 .rw[T4 c]
  refine aP<|ZL (ZV hja) ?_;have c':=fO (dW c)<|m.ne G.nd ha hb';have m:=ZfT m j0' j1 (by rw[Vu i0 i1];exact u8 sa c')
  have z':(o.push b[j-1]).size=o.size+1:=eg ..;refine ZJ (λq=>aX<|hd _ _<|zQ fs m q) λq=>?_
  have h:=hb _ _ _ 0 (cb+1) #[m,i0,i1,by lia,by lia,by lia] z'
  exact ZJ (λ_=>aX h.1) λ_=>aX h.2
theorem Zf3(I:Ih rk a b T o i j)(hx:∀y∈rv b j,rk y<rk (a[i-1]'(by have:=I.i0;have:=I.i1;lia)))
  (hd:∀r c,Res rk T r->Q (.done (aa r,c)) τ)(hb:∀o' i' j' g ca cb,Ih rk a b T o' i' j'->o'.size=o.size+1->Q (.done (ai,i',j',o',g,ca,cb)) τ/\Q (.yield (ai,i',j',o',g,ca,cb)) τ):mU #[8] A E s (K3 a b g ca cb i o j) Q τ:=by
 obtain⟨m,i0,i1,j0,j1,z⟩:=I;refine aP<|ZL (ZV<|by lia) ?_
 have m:=ZaT m i0 i1 hx;have z':(o.push a[i-1]).size=o.size+1:=eg ..;refine ZJ (λq=>aX<|hd _ _<|Zfu m q) λq=>?_
 have h:=hb _ _ _ g ca cb #[m,by lia,by lia,j0,j1,by lia] z'
 exact ZJ (λ_=>aX h.1) λ_=>aX h.2
theorem ZfU{τ:eM}(hk:kindOf τ=κ)(I:Ih rk a b T o i j)(hy:∀y∈rv a i,rk y<rk (b[j-1]'(by have:=I.j0;have:=I.j1;lia)))
  (hd:∀r c,Res rk T r->Q (.done (aa r,c)) τ)(hb:∀o' i' j' g ca cb,Ih rk a b T o' i' j'->o.size<o'.size->Q (.done (ai,i',j',o',g,ca,cb)) τ/\Q (.yield (ai,i',j',o',g,ca,cb)) τ):mU #[8] A E s (K2 a b g ca cb j o i) Q τ:=by
 obtain⟨m,i0,i1,j0,j1,z⟩:=I;unfold K2;refine aP<|ZL (ZV<|by lia) ?_
 have m:=ZfT m (d8 j0) j1 hy;have z':(o.push b[j-1]).size=o.size+1:=eg ..;refine ZJ (λq=>aX<|hd _ _<|zQ fs m q) λq=>?_
 have ha:=U0 i0 i1;refine aP<|ZL (ZV<|by lia)<|aP<|u7 O hk (G.ia _<|yC ha) #[0] #[0] G.ib m.sb (λy hy=>(m.ne G.nd ha hy).symm) λr hr h1 h2=>?_
 refine ZJ (λc=>?_) λc=>?_
 .have m2:Hi rk a b T (o.push b[j-1]++(b.extract r<|j-1).reverse) i r:=by
   unfold Hi;rw[ck,m9,ZaH];refine ML.bs ?_ λy hy x hx=>?_
   .rw[<-Zda hr];exact m
   .have sa:=m.sa
    rw[Vu i0 i1]at sa hx;exact u8 sa (h2 y hy) x hx
  have z2:(o.push b[j-1]++(b.extract r<|j-1).reverse).size=o.size+1+(j-1-r):=by rw[iD,z',oa,fA #[0]]
  refine ZJ (λq=>aX<|hd _ _<|zQ fs m2 q) λq1=>ZJ (λq=>aX<|hd _ _<|ZjF m2 q) λq2=>?_
  have q1:=λz=>q1<|beq_iff_eq.mpr z
  exact Zf3 O G fs #[m2,i0,i1,by lia,by lia,by lia] h1 hd λo' i' j' g ca cb I e=>hb o' i' j' g ca cb I #[0]
 .have e:r=j-1:=by lia
  subst e;exact Zf3 O G fs #[m,i0,i1,by lia,by lia,by lia] h1 hd λo' i' j' g ca cb I e=>hb o' i' j' g ca cb I #[0]
theorem Zf2{g ca cb:Nat}{τ:eM}(hk:kindOf τ=κ)(I:Ih rk a b T o i j)
  (hd:∀r c st',Sg τ st'->Res rk T r->Q (.done (aa r,c)) st')(hb:∀o' i' j' g ca cb st',Sg τ st'->Ih rk a b T o' i' j'->o.size<o'.size->Q (.done (ai,i',j',o',g,ca,cb)) st'/\Q (.yield (ai,i',j',o',g,ca,cb)) st'):mU #[8] A E s (K1 a b o i j ca cb g) Q τ:=by
 obtain⟨m,i0,i1,j0,j1,z⟩:=I;have j0':=d8 j0;have hb':=U0 j0' j1;refine aP<|Qc λst' sg=>aP<|ZL (ZV<|by lia)<|aP<|u7 O (sg.1.trans hk) (G.ib _<|yC hb') i0 i1 G.ia m.sa (λx hx=>m.ne G.nd hx hb') λr hr h1 h2=>?_
 refine ZJ (λc=>?_) λc=>?_
 .have m2:Hi rk a b T (o++(a.extract r i).reverse) r j:=by
   unfold Hi;rw[ck,m9,ZaH];refine ML.as ?_ λx hx y hy=>?_
   .rw[<-Zda hr];exact m
   .have sb:=m.sb
    rw[Vu j0' j1]at sb hy;exact u8 sb (h2 x hx) y hy
  have z2:(o++(a.extract r i).reverse).size=o.size+(i-r):=by rw[iD,oa,fA #[0]]
  refine ZJ (λq=>aX<|hd _ _ st' sg<|Zfu m2 q) λq=>?_
  have q:=λz=>q<|beq_iff_eq.mpr z
  exact ZfU O G fs (sg.1.trans hk) #[m2,by lia,by lia,j0,j1,by lia] h1 (λr c=>hd r c st' sg) λo' i' j' g ca cb I e=>hb o' i' j' g ca cb st' sg I #[0]
 .have e:r=i:=by lia
  subst e;exact ZfU O G fs (sg.1.trans hk) #[m,i0,i1,j0,j1,z] h1 (λr c=>hd r c st' sg) λo' i' j' g ca cb I e=>hb o' i' j' g ca cb st' sg I #[0]
theorem Zi8(hk:kindOf τ=κ)(I:Ih rk a b T o i j)
  (hd:∀r c st',Sg τ st'->Res rk T r->Q (.done (aa r,c)) st')(hb:∀o' i' j' g ca cb st',Sg τ st'->Ih rk a b T o' i' j'->o.size<o'.size->Q (.done (ai,i',j',o',g,ca,cb)) st'/\Q (.yield (ai,i',j',o',g,ca,cb)) st'):mU #[8] A E s (H2 a b (r0,i,j,o,g,ca,cb)) Q τ:=by
 exact ZJ (λ_=>Zf2 O G fs hk I hd hb) λ_=>Zf2 O G fs hk I hd hb
theorem Zi9{τ:eM}(hk:kindOf τ=κ)(I:Ih rk a b T o i j)
  (hd:∀r c st',Sg τ st'->Res rk T r->Q (.done (aa r,c)) st')(hy:∀o' i' j' g st',Sg τ st'->Ih rk a b T o' i' j'->o.size<o'.size->Q (.yield (ai,i',j',o',g)) st'):mU #[8] A E s (TT (a.size+b.size) (H1 a b) (H2 a b) (r0,i,j,o,g)) Q τ:=by
 refine aP (fc (cK
  (I:=λx (c:U2) st'=>st'=τ/\c.1=ai/\Ih rk a b T c.2.2.2.1 c.2.1 c.2.2.1/\o.size+x<=c.2.2.2.1.size)
  (Q:=λ(c:U2) st'=>st'=τ/\((∃r,c.1=aa r/\Res rk T r)\/c.1=ai/\Ih rk a b T c.2.2.2.1 c.2.1 c.2.2.1/\o.size<c.2.2.2.1.size)) ?_ ?_ #[rfl,rfl,I,aJ _]) ?_)
 .rintro x ⟨r,i',j',o',ca,cb⟩ st' _ _ ⟨rfl,rfl,I',hz⟩
  exact Zi3 O G fs hk I' (λr c h=>#[rfl,.inl #[r,rfl,h]]) λo2 i2 j2 ca cb I2 e=>#[#[rfl,.inr #[rfl,I2,by dsimp only at hz ⊢;lia]],rfl,rfl,I2,by dsimp only at hz ⊢;lia]
 .rintro ⟨r,i',j',o',ca,cb⟩ st' ⟨rfl,rfl,I',hz⟩
  have:=I'.i0;have:=I'.j0;have:=I'.z;lia
 .rintro ⟨r,i',j',o',ca,cb⟩ st' ⟨rfl,⟨r',rfl,h⟩|⟨rfl,I',hz⟩⟩
  .exact aX<|hd _ _ _ #[rfl,rfl,rfl,rfl] h
  .dsimp only at I' hz
   refine aP (WP (aP (fc (cK
    (I:=λx (c:U3) st''=>Sg st' st''/\c.1=ai/\Ih rk a b T c.2.2.2.1 c.2.1 c.2.2.1/\o'.size+x<=c.2.2.2.1.size)
    (Q:=λ(c:U3) st''=>Sg st' st''/\((∃r,c.1=aa r/\Res rk T r)\/c.1=ai/\Ih rk a b T c.2.2.2.1 c.2.1 c.2.2.1/\o'.size<c.2.2.2.1.size)) ?_ ?_ #[#[rfl,rfl,rfl,rfl],rfl,I',aJ _]) ?_)))
   .rintro x ⟨r,i2,j2,o2,g,ca,cb⟩ st2 _ _ ⟨sg,rfl,I2,hz2⟩
    exact Zi8 O G fs (sg.1.trans hk) I2 (λr c st3 s3 h=>#[sg.trans s3,.inl #[r,rfl,h]]) λo3 i3 j3 g ca cb st3 s3 I3 e=>#[#[sg.trans s3,.inr #[rfl,I3,by dsimp only;lia]],sg.trans s3,rfl,I3,by dsimp only;lia]
   .rintro ⟨r,i2,j2,o2,g,ca,cb⟩ st2 ⟨sg,rfl,I2,hz2⟩
    have:=I2.i0;have:=I2.j0;have:=I2.z;lia
   .rintro ⟨r,i2,j2,o2,g,ca,cb⟩ st2 ⟨sg,⟨r',rfl,h⟩|⟨rfl,I2,hz2⟩⟩
    .exact aX<|hd _ _ _ sg h
    .exact aP<|Qc λst3 s3=>aX<|hy _ _ _ _ _ (sg.trans s3) I2<|dv hz hz2
theorem vp{Q:KA->eM->Prop}(hk:kindOf τ=κ)(ha:0<a.size)(hb:0<b.size)(sa:Srt (lr rk) a.toList)(sb:Srt (lr rk) b.toList)(hT:(a.toList++b.toList).Perm T)
  (hq:∀r st',Sg τ st'->Res rk T r->Q r st'):mU #[8] A E s (Jd a b) Q τ:=by
 rw[wv];refine aP<|WP<|aP<|ZL (ZV<|by lia) ?_
 have ea:rv a a.size=a.toList.reverse:=by show(a.toList.take a.size).reverse=_;rw[<-aS,gE]
 have eb:rv b b.size=b.toList.reverse:=by show(b.toList.take b.size).reverse=_;rw[<-aS,gE]
 have m0:Hi rk a b T #[] a.size b.size:=by
  unfold Hi;rw[ea,eb];exact#[by simpa using((d9 _).append<|d9 _).trans hT,.nil,eR.mpr sa,eR.mpr sb,λx hx=>by cases hx]
 have m:=ZaT m0 ha (aJ _) λy hy=>G.last y (yC hy) _ (by rw[Yf #[0]];exact ak ..)
 have sg0:Sg τ τ:=#[rfl,rfl,rfl,rfl];refine ZJ (λq=>aX<|hq _ _ sg0<|Zfu m q) λq1=>ZJ (λq=>aX<|hq _ _ sg0<|zQ fs m q) λq2=>?_
 refine aP (iE (aP (fc (cK
  (I:=λx (c:U1) st''=>Sg τ st''/\c.1=ai/\Ih rk a b T c.2.2.2.1 c.2.1 c.2.2.1/\x<=c.2.2.2.1.size)
  (Q:=λ(c:U1) st''=>Sg τ st''/\∃r,c.1=aa r/\Res rk T r) ?_ ?_ #[sg0,rfl,#[m,by dsimp only;lia,by dsimp only;lia,by dsimp only;lia,aJ _,by show 1+(a.size-1)+b.size=_;lia],c7 _]) ?_)))
 .rintro x ⟨r,i,j,o,g⟩ st2 _ _ ⟨sg,rfl,I,hz⟩
  dsimp only at I hz
  exact Zi9 O G fs (sg.1.trans hk) I (λr c st3 s3 h=>#[sg.trans s3,r,rfl,h]) λo3 i3 j3 g st3 s3 I3 e=>#[sg.trans s3,rfl,I3,by dsimp only;lia]
 .rintro ⟨r,i,j,o,g⟩ st2 ⟨sg,rfl,I,hz⟩
  have:=I.i0;have:=I.j0;have:=I.z;lia
 .rintro ⟨r,i,j,o,g⟩ st2 ⟨sg,r',rfl,h⟩
  exact aX<|hq _ _ sg h
end
end
noncomputable def Kr(rk:cG->Nat)(xs:Array cG)(i:Nat):Nat:=match xs[i]? with
 |some p=>rk p
 |none=>0
def VZ(h:xs[i]?=ys[j]?):Kr rk xs i=Kr rk ys j:=by unfold Kr;rw[h]
structure Sb(κ:gS)(a₀:Array cG)(P:Array (Nat×Nat×Nat))(lo:Nat)(L:List cG)(τ:eM):Prop where
 kd:kindOf τ=κ
 pm:(bh τ).Perm a₀
 fl:gT τ=ai
 pd:bi τ=P
 ah:(bh τ).toList.take lo=L
def Up(rk:cG->Nat)(xs:Array cG)(lo m:Nat):Prop:=∀i j,lo<=i->i<j->j<lo+m->Kr rk xs i<Kr rk xs j
def Dn(rk:cG->Nat)(xs:Array cG)(lo m:Nat):Prop:=∀i j,lo<=i->i<j->j<lo+m->Kr rk xs j<Kr rk xs i
section
variable{κ:gS}{a₀:Array cG}{P:Array (Nat×Nat×Nat)}{lo:Nat}{L:List cG}{τ:eM}{In:cG->Prop}{rk:cG->Nat}
theorem Sb.size(h:Sb κ a₀ P lo L τ):(bh τ).size=a₀.size:=h.pm.size_eq
def Sb.in(h:Sb κ a₀ P lo L τ)(ia:∀x∈a₀.toList,In x):∀x∈(bh τ).toList,In x:=λx hx=>ia x<|(bB.mp h.pm).mem_iff.mp hx
def yX(hi):Kr rk xs i=rk xs[i]:=by unfold Kr;rw[bp hi]
theorem Sb.ne(h:Sb κ a₀ P lo L τ)(nd:(a₀.toList.map rk).Nodup)(hi:i<a₀.size)(hj:j<a₀.size)(e:Kr rk (bh τ) i=Kr rk (bh τ) j):i=j:=by
 have hs:=h.size;have g:∀k,k<a₀.size->((bh τ).toList.map rk)[k]?=aa (Kr rk (bh τ) k):=λk hk=>by
  rw[aK,br,bp #[0],yX #[0]];rfl
 exact(iF (by rw[av,aS];lia)<|(((bB.mp h.pm).map rk).nodup_iff).mpr nd).mp (by rw[g i hi,g j hj,e])
def Sb.setA(h:Sb κ a₀ P lo L τ)(hp:xs.Perm (bh τ))(hf:∀k,k<lo->xs[k]?=(bh τ)[k]?):Sb κ a₀ P lo L (sk τ xs):=
 #[h.kd,hp.trans h.pm,h.fl,h.pd,by
  rw[<-h.ah];refine cc λk=>?_
  rw[cE,cE];split
  .rw[br,br];exact hf k ‹_›
  .rfl]
variable{prog:bP}{w:b9}{A:cz}{E:aB->aM->Prop}{s:aM}
theorem GN(O:Od prog w A E s κ In rk)(h:Sb κ a₀ P lo L τ)(ia:∀x∈a₀.toList,In x)(hi:i<a₀.size)(hj:j<a₀.size)(q:Q (aa<|ag<|Kr rk (bh τ) i<Kr rk (bh τ) j) τ):mU #[8] A E s (ltAt' i j) Q τ:=by
 have hs:=h.size;have m:∀k (hk:k<(bh τ).size),In (bh τ)[k]:=λk hk=>h.in ia _ #[2]
 rw[ltAt'_eq];refine aP<|iE ?_;refine aP<|ZL (ZV<|by lia)<|aP<|ZL (ZV<|by lia) ?_
 rw[yX #[0],yX<|by lia]at q
 exact O.ask (m i _) (m j _) h.kd q
theorem ZhB(xs):Up rk xs lo 1:=λi j a b c=>by lia
theorem Zd4(h1:1<=m)(u:Up rk xs lo m)(c:Kr rk xs (lo+m-1)<Kr rk xs (lo+m)):Up rk xs lo (m+1):=λi j a b d=>by
 by_cases z:j=lo+m
 .subst z
  by_cases y:i=lo+m-1
  .rw[y];exact c
  .exact dv (u i (lo+m-1) a #[0]<|by lia) c
 .exact u i j a b #[0]
theorem Zes(h1:1<=m)(u:Dn rk xs lo m)(c:Kr rk xs (lo+m)<Kr rk xs (lo+m-1)):Dn rk xs lo (m+1):=λi j a b d=>by
 by_cases z:j=lo+m
 .subst z
  by_cases y:i=lo+m-1
  .rw[y];exact c
  .exact dv c<|u i (lo+m-1) a #[0] #[0]
 .exact u i j a b #[0]
theorem ZaC(O:Od prog w A E s κ In rk)(ia:∀x∈a₀.toList,In x)(nd:(a₀.toList.map rk).Nodup) 
  (hF:∀i m Q,1<=m->m<nrem->(Kr rk (bh τ) (lo+m)<Kr rk (bh τ) (lo+m-1)->Q (.done (ai,m)) τ)->(¬Kr rk (bh τ) (lo+m)<Kr rk (bh τ) (lo+m-1)->Q (.yield (ai,m+1)) τ)->mU #[8] A E s (F i (ai,m)) Q τ)
  (hn:lo+nrem<=a₀.size)(h1:1<=n0)(hl:n0<=nrem)(hB:Sb κ a₀ P lo L τ)(u:Up rk (bh τ) lo n0)
  (q:∀m,n0<=m->m<=nrem->Up rk (bh τ) lo m->(m<nrem->Kr rk (bh τ) (lo+m)<Kr rk (bh τ) (lo+m-1))->Q (ai,m) τ):mU #[8] A E s (m5 [n0:nrem] ((ai,n0):AscSt) F) Q τ:=by
 refine cK (I:=λi c st'=>st'=τ/\c=(ai,i)/\Up rk (bh τ) lo i) ?_ ?_ #[rfl,rfl,u]
 .rintro i c st' ha hb ⟨rfl,rfl,u⟩
  refine hF i i _ #[0] hb (λc=>q i ha #[0] u λ_=>c) λc=>#[rfl,rfl,Zd4 #[0] u ?_]
  have:Kr rk (bh st') (lo+i-1)≠Kr rk (bh st') (lo+i):=λe=>by
   have:=hB.ne nd #[0] #[0] e
   lia
  lia
 .rintro c st' ⟨rfl,rfl,u⟩
  have e:max n0 nrem=nrem:=l4 #[0]
  rw[e]at u ⊢;exact q nrem hl (aJ _) u λz=>T7 z<|bv _
theorem ZcL(O:Od prog w A E s κ In rk)(ia:∀x∈a₀.toList,In x)(nd:(a₀.toList.map rk).Nodup)(hn:lo+nrem<=a₀.size)(h1:1<=nrem)(hB:Sb κ a₀ P lo L τ)
  (q:∀m st',Sb κ a₀ P lo L st'->1<=m->m<=nrem->Up rk (bh st') lo m->Q (aa m) st'):mU #[8] A E s (countRun' lo nrem) Q τ:=by
 rw[countRun'_eq];refine aP<|ZaC O ia nd (λi m Q a b k1 k2=>?_) hn (aJ _) h1 hB (ZhB _) λm m1 m2 u c=>?_
 .refine aP (GN O hB ia (by dsimp only;lia) (by dsimp only;lia) ?_)
  dsimp only
  split
  .exact aX<|k1<|T6 ‹_›
  .exact aX<|k2 λz=>‹¬_› (T5 z)
 dsimp only
 by_cases e:m=nrem
 .rw[T9 (by simpa using e)]
  exact aX<|q m τ hB m1 m2 u
 rw[T8 (by simpa using e)]
 by_cases c1:m>1
 .rw[T9 c1]
  refine aP<|GN O hB ia #[0] #[0] ?_
  dsimp only
  rw[T9<|T5<|u lo (lo+m-1) (aJ _) #[0] #[0]]
  exact aX<|q m τ hB m1 m2 u
 rw[T8 c1];obtain rfl:m=1:=by lia
 refine aP<|WP ?_;have nl:∀i j,i<a₀.size->j<a₀.size->i≠j->¬Kr rk (bh τ) i<Kr rk (bh τ) j->Kr rk (bh τ) j<Kr rk (bh τ) i:=λi j hi hj ne c=>by
  have:Kr rk (bh τ) i≠Kr rk (bh τ) j:=λe=>ne<|hB.ne nd hi hj e
  lia
 have d2:Dn rk (bh τ) lo 2:=λi j a b d=>by
  obtain⟨rfl,rfl⟩:i=lo/\j=lo+1:=by lia
  exact c #[0]
 refine aP<|fc (cK (I:=λi c st'=>st'=τ/\c=(ai,i,0)/\Dn rk (bh τ) lo i) (Q:=λc st'=>st'=τ/\∃i,c=(ai,i,0)/\2<=i/\i<=nrem/\Dn rk (bh τ) lo i) ?_ ?_ #[rfl,rfl,d2]) ?_
 .rintro i c st' ha hb ⟨rfl,rfl,u⟩
  refine aP<|GN O hB ia #[0] #[0] ?_
  dsimp only
  split
  .rw[T8<|bv 0]
   exact aX #[rfl,rfl,Zes #[0] u<|T6 ‹_›]
  .refine aP (GN O hB ia #[0] #[0] ?_)
   dsimp only
   rw[T9<|T5<|nl (lo+i) (lo+i-1) #[0] #[0] #[0] λz=>‹¬_› (T5 z)]
   exact aX #[rfl,i,rfl,by lia,by lia,u]
 .rintro c st' ⟨rfl,rfl,u⟩
  have e:max (1+1) nrem=nrem:=l4 #[0]
  rw[e]at u ⊢;exact#[rfl,nrem,rfl,by lia,aJ _,u]
 .rintro c st' ⟨rfl,i,rfl,h2,hi,u⟩
  dsimp only
  rw[T8<|bv 0];refine aP<|wpS_reverse ?_;have hs:=hB.size;have gm:=λk=>getElem?_mirror_all (xs:=bh st') (i:=lo) (j:=lo+i) #[0] k
  have hB2:=hB.setA (mirror_perm ..) λk hk=>by
   rw[gm k,T8 #[0]]
  have u2:Up rk (mirror (bh st') lo (lo+i)<|(lo+i-lo) / 2) lo i:=λa b h1 h2 h3=>by
   have e:∀k,lo<=k->k<lo+i->Kr rk (mirror (bh st') lo (lo+i)<|(lo+i-lo) / 2) k=Kr rk (bh st') (lo+(lo+i-1-k)):=λk ka kb=>VZ (by rw[gm k,T9 #[ka,kb],Nat.sub_sub,Nat.sub_sub,Nat.add_sub_assoc #[0]])
   rw[e a h1 #[0],e b #[0] h3]
   exact u _ _ (dF ..) (Nat.add_lt_add_left (Nat.sub_lt_sub_left (bn h2<|Nat.le_sub_one_of_lt h3) h2) _) #[0]
  refine aP<|ZaC O ia nd (τ:=sk st'<|mirror (bh st') lo (lo+i)<|(lo+i-lo) / 2) (λi m Q a b k1 k2=>?_) hn #[0] hi hB2 u2 λm m1 m2 u c=>?_
  .refine aP (GN O hB2 ia (by dsimp only;lia) (by dsimp only;lia) ?_)
   dsimp only
   split
   .exact aX<|k1<|T6 ‹_›
   .exact aX<|k2 λz=>‹¬_› (T5 z)
  .exact aX<|q m _ hB2 #[0] m2 u
theorem ZdW(O:Od prog w A E s κ In rk)(ia:∀x∈a₀.toList,In x)(nd:(a₀.toList.map rk).Nodup)(hn:lo+n<=a₀.size)(h1:1<=ok)(hok:ok<=n)(hB:Sb κ a₀ P lo L τ)(u:Up rk (bh τ) lo ok)
  (q:∀st',Sb κ a₀ P lo L st'->Up rk (bh st') lo n->Q ao st'):mU #[8] A E s (binarySort' lo n ok) Q τ:=by
 rw[binarySort'_eq];refine aP<|fc (cK (I:=λk c st'=>c=(ai,())/\Sb κ a₀ P lo L st'/\Up rk (bh st') lo k) (Q:=λc st'=>c=(ai,())/\Sb κ a₀ P lo L st'/\Up rk (bh st') lo n) ?_ ?_ #[rfl,hB,by rw[pR h1];exact u]) ?_
 .rintro k c st' ha hb ⟨rfl,B,u⟩
  have hs:=B.size;refine aP (fc (cK (I:=λx c st2=>st2=st'/\∃l r,c=(ai,l,r)/\l<=r/\r<=k/\r+x<=k+l/\(∀i,i<l->Kr rk (bh st') (lo+i)<Kr rk (bh st') (lo+k))/\∀i,r<=i->i<k->Kr rk (bh st') (lo+k)<Kr rk (bh st') (lo+i))
   (Q:=λc st2=>st2=st'/\∃l r,c=(ai,l,r)/\l<=k/\(∀i,i<l->Kr rk (bh st') (lo+i)<Kr rk (bh st') (lo+k))/\∀i,l<=i->i<k->Kr rk (bh st') (lo+k)<Kr rk (bh st') (lo+i)) ?_ ?_ #[rfl,0,k,rfl,by lia,by lia,by lia,λi hi=>by lia,λi a b=>by lia]) ?_)
  .rintro x c st2 _ hx ⟨rfl,l,r,rfl,g1,g2,g3,g4,g5⟩
   by_cases c:l>=r
   .rw[T9 c]
    exact aX #[rfl,l,r,rfl,by lia,g4,λi a b=>g5 i #[0] b]
   .rw[T8 c]
    have m1:l<=(l+r) / 2:=by lia
    have m2:(l+r) / 2<r:=by lia
    generalize (l+r) / 2=m at *;refine aP<|GN O B ia #[0] #[0] ?_
    dsimp only
    split
    .have cm:=T6 ‹_›
     refine aX #[rfl,l,m,rfl,by lia,by lia,by lia,g4,λi a b=>?_]
     by_cases y:i=m
     .rw[y];exact cm
     .exact dv cm<|u _ _ #[0] #[0] #[0]
    .have cm:Kr rk (bh st2) (lo+m)<Kr rk (bh st2) (lo+k):=by
      have:Kr rk (bh st2) (lo+k)≠Kr rk (bh st2) (lo+m):=λe=>by
       have:=B.ne nd #[0] #[0] e
       lia
      lia
     refine aX #[rfl,m+1,r,rfl,by lia,by lia,by lia,λi a=>?_,g5]
     by_cases y:i=m
     .rw[y];exact cm
     .exact dv (u _ _ #[0] #[0]<|by lia) cm
  .rintro c st2 ⟨rfl,l,r,rfl,g1,g2,g3,g4,g5⟩
   exact#[rfl,l,r,rfl,by lia,g4,λi a b=>g5 i #[0] b]
  .rintro c st2 ⟨rfl,l,r,rfl,g2,g4,g5⟩
   dsimp only
   rw[moveDown'_eq];refine aP<|fP<|aX ?_;have gb:=λi=>getElem?_bubble (xs:=bh st2) (src:=lo+k) #[0] (lo+k-(lo+l)) #[0] i
   rw[Nat.sub_sub_self<|Nat.add_le_add_left g2 lo]at gb;refine#[rfl,B.setA (bubble_perm ..) λi hi=>?_,λi j a b d=>?_]
   .rw[gb i,T8 #[0],T8 #[0]]
   .have e:∀i,Kr rk (bubble (bh st2) (lo+k)<|lo+k-(lo+l)) i=if i=lo+l then Kr rk (bh st2) (lo+k)else if lo+l<i/\i<=lo+k then Kr rk (bh st2) (i-1)else Kr rk (bh st2) i:=λi=>by
     have h:=gb i;split at h
     .rw[T9 ‹_›];exact VZ h
     .rw[T8 ‹_›]
      split at h
      .rw[T9 ‹_›];exact VZ h
      .rw[T8 ‹_›];exact VZ h
    show Kr rk (bubble _ _ _) i<Kr rk (bubble _ _ _) j;rw[e i,e j];have low:∀x,lo<=x->x<lo+l->Kr rk (bh st2) x<Kr rk (bh st2) (lo+k):=λx a b=>by
     obtain⟨y,rfl⟩:=l6 a;exact g4 y<|k9 b
    have high:∀x,lo+l<=x->x<lo+k->Kr rk (bh st2) (lo+k)<Kr rk (bh st2) x:=λx a b=>by
     obtain⟨y,rfl⟩:=l6<|Nat.le_of_add_right_le a;exact g5 y (Nat.le_of_add_le_add_left a)<|k9 b
    by_cases ci:i=lo+l
    .rw[T9 ci,T8 #[0],T9 #[0]]
     exact high _ #[0] #[0]
    .rw[T8 ci]
     by_cases cj:j=lo+l
     .rw[T9 cj,T8 #[0]]
      exact low _ a #[0]
     .rw[T8 cj]
      by_cases di:lo+l<i/\i<=lo+k
      .rw[T9 di,T9 #[0]];exact u _ _ #[0] #[0] #[0]
      .rw[T8 di]
       by_cases dj:lo+l<j/\j<=lo+k
       .obtain⟨m,rfl⟩:=l7 dj.1
        rw[T9 dj];exact u _ (lo+l+m) a #[0] #[0]
       .rw[T8 dj];exact u _ _ a b #[0]
 .rintro c st' ⟨rfl,B,u⟩
  have e:max (max ok 1) n=n:=by rw[pR h1,l4 hok]
  rw[e]at u;exact#[rfl,B,u]
 .rintro c st' ⟨rfl,B,u⟩
  exact aX<|q st' B u
end
def xI(i):mergeAt' i=(do
 let t <-get
 let (aa (ia,ma,pw),aa (ib,mb,_)):=((bi t)[i]?,(bi t)[i+1]?)|unsupported "internal:list.sort.pending"
 set (h9 t<|((bi t).setIfInBounds i (ia,ma+mb,pw)).eraseIdxIfInBounds<|i+1)
 let aa r <-Yy aj (<-gK (bh t) ib) (bh t) ia ma 0|return aj
 let (ja,la):=(ia+r,ma-r)
 if la == 0 then return ao
 let aa lb <-Yy ao (<-gK (bh t) (ja+la-1)) (bh t) ib mb (mb-1)|return aj
 if lb == 0 then return ao
 let u:=(bh t).extract ja ib
 let v:=(bh t).extract ib<|ib+lb
 let mg <-if la<=lb then QM u v else Jd u v
 modify λt=>sk t<|mg.toList.zipIdx.foldl (λa (p,j)=>a.setIfInBounds (ja+j) p)<|bh t
 return (gT<|<-get).isNone):=rfl
theorem xo(b):∀m j (a:Array cG),b+j+m.length<=a.size->((m.zipIdx j).foldl (λa q=>a.setIfInBounds (b+q.2) q.1) a).toList=a.toList.take (b+j)++m++a.toList.drop (b+j+m.length)
 |[],j,a,h=>by simp
 |x::r,j,a,h=>by
  rw[aQ]at h;rw[o9,du,xo b r (j+1) _ (by rw[Array.size_setIfInBounds];lia)]
  rw[kP,<-d5 b j 1,ly,List.take_set_of_le<|aJ _,bg (by simpa using(by lia:b+j<a.size)),List.drop_set_of_lt #[0]]
  simp[d5,kq 1]
def Runs(rk:cG->Nat):List (Nat×Nat)->Nat->Nat->List cG->Prop
 |[],a,b,_=>a=b
 |(i,n)::r,a,b,l=>i=a/\1<=n/\Srt (lr rk) ((l.drop a).take n)/\Runs rk r (a+n) b l
section
theorem Runs.le:∀{r:List (Nat×Nat)}{a b:Nat}{l:List cG},Runs rk r a b l->a+r.length<=b
 |[],a,b,l,h=>mw h
 |(i,n)::r,a,b,l,#[_,h1,_,h]=>by have:=h.le;rw[aQ];lia
theorem Runs.app:∀{r q:List (Nat×Nat)}{a b:Nat}{l:List cG},Runs rk (r++q) a b l↔∃c,Runs rk r a c l/\Runs rk q c b l
 |[],q,a,b,l=>#[λh=>#[a,rfl,h],λ#[c,h1,h2]=>by cases h1;exact h2]
 |(i,n)::r,q,a,b,l=>by
  constructor
  .rintro ⟨h1,h2,h3,h4⟩
   obtain⟨c,h5,h6⟩:=Runs.app.mp h4;exact#[c,#[h1,h2,h3,h5],h6]
  .rintro ⟨c,⟨h1,h2,h3,h4⟩,h5⟩
   exact#[h1,h2,h3,Runs.app.mpr #[c,h4,h5]]
theorem Runs.congr:∀{r:List (Nat×Nat)}{a b:Nat}{l l':List cG},Runs rk r a b l->(∀k,a<=k->k<b->l'[k]?=l[k]?)->Runs rk r a b l'
 |[],a,b,l,l',h,_=>h
 |(i,n)::r,a,b,l,l',#[h1,h2,h3,h4],e=>by
  have:=h4.le;refine#[h1,h2,?_,h4.congr λk ha hb=>e k #[0] hb]
  have:(l'.drop a).take n=(l.drop a).take n:=cc λk=>by
   rw[cE,cE,eN,eN];split
   .exact e _ #[0] #[0]
   .rfl
  rw[this];exact h3
def zV(hx:Srt (lr rk) x)(hy:Srt (lr rk) y)(h:∀a∈x,∀b∈y,rk a<rk b):Srt (lr rk) (x++y):=fe.mpr #[hx,hy,h]
structure Sc(κ:gS)(a₀:Array cG)(τ:eM):Prop where
 kd:kindOf τ=κ
 pm:(bh τ).Perm a₀
 fl:gT τ=ai
variable{In:cG->Prop}
theorem vB(O:Od prog w A E s κ In rk)(ia:∀x∈a₀.toList,In x)(nd:(a₀.toList.map rk).Nodup)(h:Sc κ a₀ τ)(h1:(bi τ)[i]?=aa (a,na,pw))(h2:(bi τ)[i+1]?=aa (a+na,nb,qw))
  (hl:(bh τ).toList=U++(X++(Y++Z)))(lU:U.length=a)(lX:X.length=na)(lY:Y.length=nb)(xa:1<=na)(yb:1<=nb)(sx:Srt (lr rk) X)(sy:Srt (lr rk) Y)
  (q:∀st' M,Sc κ a₀ st'->bi st'=((bi τ).setIfInBounds i (a,na+nb,pw)).eraseIdxIfInBounds (i+1)->(bh st').toList=U++(M++Z)->M.length=na+nb->Srt (lr rk) M->Q ao st'):mU #[8] A E s (mergeAt' i) Q τ:=by
 have hp:=bB.mp h.pm;have ial:=λx hx=>ia x<|hp.mem_iff.mp hx
 have ndl:=((hp.map rk).nodup_iff).mpr nd;have hsz:(bh τ).size=a+(na+(nb+Z.length)):=by rw[<-aS,hl];simp[lU,lX,lY]
 have dX:((bh τ).toList.drop a).take na=X:=by rw[hl,<-lU,kQ,<-lX,kR]
 have dY:((bh τ).toList.drop<|a+na).take nb=Y:=by rw[hl,<-bG,<-lU,<-lX,<-aU,kQ,<-lY,kR]
 have ndXY:∀x∈X,∀y∈Y,rk x≠rk y:=λx hx y hy e=>by
  rw[hl,bE,fg,bE,fg]at ndl;exact ndl.2.1.2.2 _ (dP hx) _ (by rw[bE];exact cT _<|dP hy) e
 have inX:∀x∈X,In x:=λx hx=>ial x (by rw[hl];simp[hx])
 have inY:∀y∈Y,In y:=λy hy=>ial y (by rw[hl];simp[hy])
 obtain⟨y0,Y',rfl⟩:∃y0 Y',Y=y0::Y':=by cases Y with|nil=>simp at lY;lia|cons y Y'=>exact#[y,Y',rfl]
 have e0:(bh τ)[a+na]?=aa y0:=by
  rw[<-br,hl,<-bG,cu (by simp;lia)]
  simp[lU,lX]
 rw[xI];refine aP<|iE ?_;rw[h1,h2]
 dsimp only
 refine aP<|fP (f:=λ_=>h9 τ<|((bi τ).setIfInBounds i (a,na+nb,pw)).eraseIdxIfInBounds<|i+1) ?_
 generalize hst:h9 τ (((bi τ).setIfInBounds i (a,na+nb,pw)).eraseIdxIfInBounds<|i+1)=st1;have S1:Sc κ a₀ st1:=by rw[<-hst];exact#[h.kd,h.pm,h.fl]
 have P1:bi st1=((bi τ).setIfInBounds i (a,na+nb,pw)).eraseIdxIfInBounds (i+1):=by rw[<-hst]
 have A1:bh st1=bh τ:=by rw[<-hst]
 refine aP<|ZL e0<|aP<|v9 O S1.kd (inY y0<|ak ..) xa #[0] ial (by rw[dX];exact sx) (by rw[dX];exact λx hx=>ndXY x hx y0<|ak ..) λr hr r1 r2=>?_
 rw[dX]at r1 r2
 dsimp only
 have lowY:∀x∈X.take r,∀y∈y0::Y',rk x<rk y:=λx hx y hy=>by
  rcases ay.mp hy with rfl|hy
  .exact r1 x hx
  .exact dv (r1 x hx)<|(bo.mp sy).1 y hy
 by_cases c:na-r=0
 .rw[T9 (by simpa using c)]
  have:X.take r=X:=cA #[0]
  rw[this]at lowY;exact aX<|q st1 (X++y0::Y') S1 P1 (by rw[A1,hl,bG]) (by rw[aU,lX,lY])<|zV sx sy lowY
 rw[T8 (by simpa using c)]
 obtain⟨d,hd⟩:=l7<|Nat.lt_of_sub_ne_zero c;have n9:na-r=d+1:=by rw[hd,d5,cf]
 rw[n9];have hd':r+d<X.length:=by lia
 have exl:(bh τ)[a+r+(d+1)-1]?=X[r+d]?:=by
  show(bh τ)[a+r+d]?=_;rw[<-br,hl,<-lU,d5,cu<|dF ..,cf,bW hd']
 have xl:X[r+d]?=aa (X[r+d]'hd'):=af _;generalize hx0:X[r+d]'hd'=x0 at xl;have mx0:x0∈X:=cU xl;have mx1:x0∈X.drop r:=cU (i:=d) (by rw[eN,<-xl])
 have maxX:∀x∈X,x=x0\/rk x<rk x0:=λx hx=>by
  obtain⟨k,hk,rfl⟩:=ng.mp hx;by_cases z:k=r+d
  .subst z;exact .inl hx0
  .refine .inr ?_;rw[<-hx0];exact bN.mp sx k (r+d) hk hd' #[0]
 refine aP<|ZL (exl.trans xl)<|aP<|v9 O S1.kd (inX x0 mx0) #[0] #[0] ial (by rw[dY];exact sy) (by rw[dY];exact λy hy=>Ne.symm<|ndXY x0 mx0 y hy) λt ht t1 t2=>?_
 rw[dY]at t1 t2
 dsimp only
 have t0:t≠0:=λz=>by
  subst z;have a1:=r2 x0 mx1;have a2:=t2 y0<|ak ..;lia
 rw[T8 (by simpa using t0)]
 generalize hY:y0::Y'=Y at *;have eu:((bh τ).extract (a+r)<|a+na).toList=X.drop r:=by
  have:a+na=(a+r)+(d+1):=by lia
  rw[this,uD,<-kO,hl,<-lU,kQ,i8 #[0]]
  rw[show d+1=(X.drop r).length by rw[bH,lX,n9],kR]
 have ev:((bh τ).extract (a+na)<|a+na+t).toList=Y.take t:=by
  rw[uD,hl,<-bG,<-lU,<-lX,<-aU,kQ,i9 #[0]]
 generalize hu:(bh τ).extract (a+r) (a+na)=u at *;generalize hv:(bh τ).extract (a+na) (a+na+t)=v at *;have ul:u.size=d+1:=by rw[<-aS,eu,bH,lX,n9]
 clear n9;have vl:v.size=t:=by rw[<-aS,ev,fQ #[0]]
 have su:Srt (lr rk) u.toList:=by rw[eu];exact sx.sublist<|List.drop_sublist ..
 have sv:Srt (lr rk) v.toList:=by rw[ev];exact sy.sublist<|oA ..
 have v0:∀x∈u.toList,rk (v[0]'#[0])<rk x:=λx hx=>by
  have:v.toList[0]?=aa y0:=by
   rw[ev,<-hY];obtain⟨t',rfl⟩:=Nat.exists_eq_succ_of_ne_zero t0;rfl
  have e:v[0]'#[0]=y0:=by
   rw[br,bp<|by lia]at this
   exact aq this
  rw[e];exact r2 x (by rw[<-eu];exact hx)
 have G:Mg κ In rk u v (u.toList++v.toList):=by
  refine#[?_,λx hx=>inX x<|cp<|eu▸hx,λy hy=>inY y<|dm<|ev▸hy,λy hy x hx=>?_]
  .rw[bE,fg]
   have nx:∀{z:List cG},Srt (lr rk) z->(z.map rk).Nodup:=λ{z} hz=>cS.mpr<|hz.imp λhab=>a8 hab
   refine#[nx su,nx sv,λp hp p' hp' e=>?_]
   obtain⟨x,hx,rfl⟩:=aF.mp hp;obtain⟨y,hy,rfl⟩:=aF.mp hp';exact ndXY x (cp<|eu▸hx) y (dm<|ev▸hy) e
  .have hx:x=x0:=by
    rw[eu,ul,kO,oh,cg hd',show r+d+1=X.length by lia,eD,aZ]at hx
    rw[hx];exact hx0
   rw[hx];exact t1 y (by rw[<-ev];exact hy)
 have fin:∀r' st',Sg st1 st'->Res rk (u.toList++v.toList) r'->mU #[8] A E s (do
   modify λt=>sk t<|r'.toList.zipIdx.foldl (λz (p,j)=>z.setIfInBounds (a+r+j) p)<|bh t
   return (gT<|<-get).isNone) Q st':=λr' st' sg hr'=>by
  obtain⟨g1,g2,g3,g4⟩:=sg;obtain⟨k1,k2⟩:=hr';have rl:r'.toList.length=(d+1)+t:=by rw[k1.length_eq,aU,aS,aS,ul,vl]
  refine aP<|fP<|aP<|iE<|aX ?_;have fo:=xo (a+r) r'.toList 0 (bh τ) #[0]
  have el:((r'.toList.zipIdx.foldl (λz (q:cG×Nat)=>z.setIfInBounds (a+r+q.2) q.1)<|bh τ).toList)=U++((X.take r++(r'.toList++Y.drop t))++Z):=by
   rw[fo,Nat.add_zero,hl,<-lU,List.take_append,pf,rl];have e2:U.length+r+(d+1+t)-U.length=na+t:=by rw[d5,cf,hd,<-d5,<-d5]
   rw[cf,e2,cA #[0],my #[0],fV,i9 #[0],<-lX,pf,my #[0],fV,cf,i8 #[0]]
   simp[bG]
  have hX:X.take r++X.drop r=X:=cH ..;have hYt:Y.take t++Y.drop t=Y:=cH ..;have pM:(X.take r++(r'.toList++Y.drop t)).Perm (X++Y):=by
   rw[eu,ev]at k1;have:(X.take r++(r'.toList++Y.drop t)).Perm (X.take r++((X.drop r++Y.take t)++Y.drop t)):=(k1.append_right _).append_left _;refine this.trans<|pS ?_;rw[bG<|X.drop r,hYt,<-bG,hX]
  rw[g4,S1.fl];refine q (sk st'<|r'.toList.zipIdx.foldl (λz (q:cG×Nat)=>z.setIfInBounds (a+r+q.2) q.1)<|bh st') (X.take r++(r'.toList++Y.drop t)) #[g1.trans S1.kd,?_,g4.trans S1.fl] (g3.trans P1) (by rw[<-el,<-A1,<-g2]) (by rw[pM.length_eq,aU,lX,lY]) ?_
  .refine(bB.mpr ?_).trans h.pm
   rw[g2,A1,el,hl,<-bG X Y Z];exact(pM.append_right _).append_left _
  .have memR:∀z∈r'.toList,z∈X.drop r\/z∈Y.take t:=λz hz=>by
    have:=k1.mem_iff.mp hz;rw[eu,ev]at this;exact bU.mp this
   have sX:=fe.mp<|hX.symm▸sx;have sY:=fe.mp<|hYt.symm▸sy;refine zV sX.1 (zV k2 sY.2.1 λp hp y hy=>?_) λx hx z hz=>?_
   .rcases memR p hp with m|m
    .have:=t2 y hy
     rcases maxX p (cp m)with rfl|m
     .exact this
     .exact dv m this
    .exact sY.2.2 p m y hy
   .rcases bU.mp hz with m|m
    .rcases memR z m with m|m
     .exact sX.2.2 x hx z m
     .exact lowY x hx z<|dm m
    .exact lowY x hx z<|cp m
 by_cases cl:d+1<=t
 .rw[T9 cl]
  exact aP<|vn O G S1.kd #[0] #[0] su sv (cC _) v0 λr' st' sg hr'=>fin r' st' sg hr'
 .rw[T8 cl]
  have fs:∀x∈u.toList,∀y∈v.toList.take 1,rk y<rk x:=λx hx y hy=>by
   have e:=Yf (a:=v) (i:=0) #[0]
   rw[kM]at e;rw[e]at hy;rw[aZ.mp hy];exact v0 x hx
  exact aP<|vp O G fs S1.kd #[0] #[0] su sv (cC _) λr' st' sg hr'=>fin r' st' sg hr'
end
section
variable{In:cG->Prop}
noncomputable abbrev g2(q:Nat×Nat×Nat):Nat×Nat:=(q.1,q.2.1)
def pl(τ:eM):List (Nat×Nat):=(bi τ).toList.map g2
def cut2{B:Type}{l:List B}{x y:B}(h1:l[i]?=aa x)(h2:l[i+1]?=aa y):l=l.take i++(x::y::l.drop (i+2)):=by
 obtain⟨a,e1⟩:=aN.mp h1;obtain⟨b,e2⟩:=aN.mp h2
 conv=>lhs;rw[<-cH i l,cg a,cg b,e1,e2]
theorem Vp(O:Od prog w A E s κ In rk)(ia:∀x∈a₀.toList,In x)(nd:(a₀.toList.map rk).Nodup)(h:Sc κ a₀ τ)(hi:i+1<(bi τ).size)(hb:b<=a₀.size)(hr:Runs rk (pl τ++R3) 0 b (bh τ).toList)
  (q:∀st',Sc κ a₀ st'->(bi st').size=(bi τ).size-1->Runs rk (pl st'++R3) 0 b (bh st').toList->Q ao st'):mU #[8] A E s (mergeAt' i) Q τ:=by
 obtain⟨⟨a,na,pw⟩,h1⟩:∃x,(bi τ)[i]?=aa x:=#[_,bp #[0]]
 obtain⟨⟨b1,nb,qw⟩,h2⟩:∃x,(bi τ)[i+1]?=aa x:=#[_,bp hi];have e:=cut2 (l:=(bi τ).toList) (by rw[br];exact h1) (by rw[br];exact h2)
 generalize hA:(bi τ).toList.take i=RA at e;generalize hC:(bi τ).toList.drop (i+2)=RC at e;have lA:RA.length=i:=by rw[<-hA,bS,aS];lia
 unfold pl at hr;rw[e,bE,bG]at hr;obtain⟨c,r1,r2⟩:=Runs.app.mp hr;obtain⟨z1,n1,s1,z2,n2,s2,r3⟩:=r2
 subst z1 z2;have hle:=r3.le;have hsz:(bh τ).toList.length=a₀.size:=by rw[aS];exact h.pm.size_eq
 generalize hl:(bh τ).toList=l at *;have el:l=l.take a++((l.drop a).take na++((l.drop<|a+na).take nb++l.drop (a+na+nb))):=by
  rw[td,td,cH]
 have lU:(l.take a).length=a:=fQ #[0]
 refine vB O ia nd h h1 h2 (hl.trans el) lU (fQ<|by rw[bH];exact mP<|by lia) (fQ<|by rw[bH];exact mP<|by lia) n1 n2 s1 s2 λst' M S' hp' hl' lM sM=>?_
 have hpl:(bi st').toList=RA++((a,na+nb,pw)::RC):=by
  rw[hp',Array.toList_eraseIdxIfInBounds,kP,e,List.set_append_right _ _ #[0],lA,Nat.sub_self]
  rw[List.eraseIdx_append_of_length_le #[0],lA,cf]
  rfl
 refine q st' S' ?_ ?_
 .rw[<-aS,hpl,<-aS,e]
  simp
 .have at_:∀k,(k<a\/a+na+nb<=k)->(bh st').toList[k]?=l[k]?:=λk hk=>by
   rw[hl'];rcases hk with hk|hk
   .rw[bW<|lU.symm▸hk,cE,T9 hk]
   .obtain⟨d,rfl⟩:=Nat.le.dest hk
    have e1:(l.take a++M).length=a+na+nb:=by rw[aU,lU,lM,d5]
    rw[<-bG,cu<|e1▸hk,e1,cf,eN]
  unfold pl;rw[hpl,bE,bG];refine Runs.app.mpr #[a,r1.congr λk _ hk=>at_ k<|.inl hk,rfl,by dsimp[g2];lia,?_,?_]
  .show Srt (lr rk) (((bh st').toList.drop a).take<|na+nb)
   rw[hl',<-lM,List.drop_left' lU,kR];exact sM
  .show Runs rk _ (a+(na+nb)) b _
   rw[<-d5];exact r3.congr λk hk _=>at_ k<|.inr hk
theorem ZbS{lo n:Nat}{xs:Array cG}(hn:lo+n<=xs.size)(u:Up rk xs lo n):Srt (lr rk) ((xs.toList.drop lo).take n):=by
 refine bN.mpr λi j hi hj hij=>?_
 rw[bS,bH,aS]at hi hj;have g:∀k (hk:k<((xs.toList.drop lo).take n).length),((xs.toList.drop lo).take n)[k]=xs[lo+k]'(by rw[bS,bH,aS]at hk;lia):=λk hk=>by
  rw[gj,gn,Array.getElem_toList]
 rw[g,g];have:=u (lo+i) (lo+j) #[0] #[0] #[0]
 rw[yX #[0],yX<|by lia]at this
 exact this
def GK{P:Array (Nat×Nat×Nat)}:(P.modify k λq=>(q.1,q.2.1,pw)).toList.map g2=P.toList.map g2:=by
 refine cc λi=>?_
 rw[aK,aK,br,br,Array.getElem?_modify];split
 .cases P[i]?<;>rfl
 .rfl
theorem sort_ok(O:Od prog w A E s κ In rk)(ia:∀x∈a₀.toList,In x)(nd:(a₀.toList.map rk).Nodup)(hk:kindOf τ=κ)(ha:bh τ=a₀)(hp:bi τ = #[])(hf:gT τ=ai)(h1:1<=a₀.size)
  (q:∀st',(bh st').Perm a₀->gT st'=ai->Srt (lr rk) (bh st').toList->Q () st'):mU #[8] A E s sortRuns' Q τ:=by
 rw[sortRuns'_eq];refine aP<|iE ?_;rw[ha]
 dsimp only
 have S0:Sc κ a₀ τ:=#[hk,by rw[ha],hf]
 refine aP (fc (cK
  (I:=λx c st'=>∃lo,c=(ai,lo)/\x<=lo/\lo<=a₀.size/\Sc κ a₀ st'/\Runs rk (pl st') 0 lo (bh st').toList)
  (Q:=λc st'=>c=(ai,a₀.size)/\Sc κ a₀ st'/\Runs rk (pl st') 0 a₀.size (bh st').toList) ?_ ?_ #[0,rfl,aJ _,c7 _,S0,by unfold pl;rw[hp];rfl]) ?_)
 .rintro x c st1 _ hx ⟨lo,rfl,g1,g2',S1,R1⟩
  dsimp only
  by_cases c:lo>=a₀.size
  .rw[T9 c]
   obtain rfl:lo=a₀.size:=by lia
   exact aX #[rfl,S1,R1]
  rw[T8 c];have B1:Sb κ a₀ (bi st1) lo ((bh st1).toList.take lo) st1:=#[S1.kd,S1.pm,S1.fl,rfl,rfl];refine aP<|ZcL O ia nd #[0] #[0] B1 λm st2 B2 m1 m2 u2=>?_
  dsimp only
  have done:∀n st3,1<=n->lo+n<=a₀.size->Sc κ a₀ st3->Runs rk (pl st3++[(lo,n)]) 0 (lo+n) (bh st3).toList->∃lo',((ai,lo+n):Option PUnit×Nat)=(ai,lo')/\x+1<=lo'/\lo'<=a₀.size/\Sc κ a₀ (h9 st3<|(bi st3).push (lo,n,0))/\Runs rk (pl<|h9 st3<|(bi st3).push (lo,n,0)) 0 lo' (bh st3).toList:=λn st3 n1 n2 S3 R3=>
   #[lo+n,rfl,by lia,n2,#[S3.kd,S3.pm,S3.fl],by
    have:pl (h9 st3<|(bi st3).push (lo,n,0))=pl st3++[(lo,n)]:=by
     show rA g2 ((bi st3).push (lo,n,0)).toList=_;rw[fj,bE];rfl
    rw[this];exact R3]
  by_cases c2:m<sm a₀.size a₀.size 0
  .rw[T9 c2]
   refine aP<|WP<|aP<|ZdW O ia nd #[0] m1 #[0] B2 u2 λst5 B u=>?_
   have n1:1<=sC (a₀.size-lo) (sm a₀.size a₀.size 0):=by lia
   have n2:lo+sC (a₀.size-lo) (sm a₀.size a₀.size 0)<=a₀.size:=by lia
   generalize sC (a₀.size-lo) (sm a₀.size a₀.size 0)=n at *;clear B2 u2;refine aP<|iE ?_;have S5:Sc κ a₀ st5:=#[B.kd,B.pm,B.fl];have hz:=B.size;have R5:Runs rk (pl st5++[(lo,n)]) 0 (lo+n) (bh st5).toList:=Runs.app.mpr #[lo,by
    unfold pl at R1 ⊢;rw[B.pd];refine R1.congr λk _ hk=>?_
    have e:=congrArg (λl=>l[k]?) B.ah
    rwa[cE,cE,T9 hk,T9 hk]at e,rfl,n1,ZbS #[0] u,rfl]
   cases hbk:(bi st5).back? with
   |none=>
    exact aP<|fP<|aX<|done n st5 n1 n2 S5 R5
   |some q5=>
    obtain⟨x1,x2,x3⟩:=q5
    dsimp only
    refine aP<|fc (cK (I:=λ_ c st3=>c=(ai,())/\Sc κ a₀ st3/\Runs rk (pl st3++[(lo,n)]) 0 (lo+n) (bh st3).toList) ?_ (λc st3 h=>h) #[rfl,S5,R5]) ?_
    .rintro x c st3 _ _ ⟨rfl,S3,R3⟩
     refine aP<|iE ?_;by_cases c:(bi st3).size>1
     .rw[T9 c,bp #[0]]
      dsimp only
      split
      .exact aX #[rfl,S3,R3]
      .refine aP (Vp O ia nd S3 #[0] n2 R3 λst4 S4 _ R4=>?_)
       exact aX #[rfl,S4,R4]
     .rw[T8 c]
      exact aX #[rfl,S3,R3]
    .rintro c st3 ⟨rfl,S3,R3⟩
     dsimp only
     exact aP (fP (aP (fP (aX (done n (h9 st3 _) n1 n2 #[S3.kd,S3.pm,S3.fl] (by
      show Runs rk (rA g2 (Array.modify _ _ _).toList++_) _ _ _;rw[GK];exact R3))))))
  .rw[T8 c2]
   have n2:lo+m<=a₀.size:=by lia
   refine aP<|iE ?_;have S5:Sc κ a₀ st2:=#[B2.kd,B2.pm,B2.fl];have hz:=B2.size;have R5:Runs rk (pl st2++[(lo,m)]) 0 (lo+m) (bh st2).toList:=Runs.app.mpr #[lo,by
    unfold pl at R1 ⊢;rw[B2.pd];refine R1.congr λk _ hk=>?_
    have e:=congrArg (λl=>l[k]?) B2.ah
    rw[cE,cE,T9 hk,T9 hk]at e;exact e,rfl,m1,ZbS #[0] u2,rfl]
   cases hbk:(bi st2).back? with
   |none=>
    exact aP<|fP<|aX<|done m st2 m1 n2 S5 R5
   |some q5=>
    obtain⟨x1,x2,x3⟩:=q5
    dsimp only
    refine aP<|fc (cK (I:=λ_ c st3=>c=(ai,())/\Sc κ a₀ st3/\Runs rk (pl st3++[(lo,m)]) 0 (lo+m) (bh st3).toList) ?_ (λc st3 h=>h) #[rfl,S5,R5]) ?_
    .rintro x c st3 _ _ ⟨rfl,S3,R3⟩
     refine aP<|iE ?_;by_cases c:(bi st3).size>1
     .rw[T9 c,bp<|show(bi st3).size-2<(bi st3).size by lia]
      dsimp only
      split
      .exact aX #[rfl,S3,R3]
      .refine aP (Vp O ia nd S3 #[0] n2 R3 λst4 S4 _ R4=>?_)
       simp only[rS,fN,if_false];exact aX #[rfl,S4,R4]
     .rw[T8 c]
      exact aX #[rfl,S3,R3]
    .rintro c st3 ⟨rfl,S3,R3⟩
     dsimp only
     exact aP (fP (aP (fP (aX (done m (h9 st3 _) m1 n2 #[S3.kd,S3.pm,S3.fl] (by
      show Runs rk (rA g2 (Array.modify _ _ _).toList++_) _ _ _;rw[GK];exact R3))))))
 .rintro c st1 ⟨lo,rfl,g1,g2',S1,R1⟩
  obtain rfl:lo=a₀.size:=by lia
  exact#[rfl,S1,R1]
 .rintro c st1 ⟨rfl,S1,R1⟩
  dsimp only
  have len1:=R1.le;refine aP (fc (cK
   (I:=λx c st2=>c=(ai,())/\Sc κ a₀ st2/\Runs rk (pl st2) 0 a₀.size (bh st2).toList/\(bi st2).size<=max 1 (a₀.size-x))
   (Q:=λc st2=>c=(ai,())/\Sc κ a₀ st2/\Runs rk (pl st2) 0 a₀.size (bh st2).toList/\(bi st2).size<=1) ?_ ?_ #[rfl,S1,R1,by unfold pl at len1;rw[av,aS]at len1;lia]) ?_)
  .rintro x c st2 _ hx ⟨rfl,S2,R2,l2⟩
   refine aP<|iE ?_;by_cases c:(bi st2).size<=1
   .rw[T9 c]
    exact aX #[rfl,S2,R2,c]
   rw[T8 c];generalize hj:(if(Option.any (λx=>ag<|x<((bi st2)[(bi st2).size-2+1]?).elim 0 λx=>x.2.1)<|if(bi st2).size-2>0 then Option.map (λx=>x.2.1) (bi st2)[(bi st2).size-2-1]? else ai)=ao then(bi st2).size-2-1 else(bi st2).size-2)=j
   have hj1:j+1<(bi st2).size:=by
    have g:∀b:Bool,(if b=ao then(bi st2).size-2-1 else(bi st2).size-2)+1<(bi st2).size:=λb=>by cases b<;>simp<;>lia
    rw[<-hj];exact g _
   refine aP<|Vp (R3:=[]) O ia nd S2 hj1 (aJ _) (by rw[cr];exact R2) λst3 S3 l3 R3=>?_
   rw[cr]at R3;exact aX #[rfl,S3,R3,by lia]
  .rintro c st2 ⟨rfl,S2,R2,l2⟩
   exact#[rfl,S2,R2,by lia]
  .rintro c st2 ⟨rfl,S2,R2,l2⟩
   dsimp only
   refine aX<|q st2 S2.pm S2.fl ?_;have hz:(bh st2).toList.length=a₀.size:=by rw[aS];exact S2.pm.size_eq
   unfold pl at R2
   match hP:(bi st2).toList,R2 with
   |[],R2=>exact T7 (show 0=a₀.size from R2) #[0]
   |[(i,n,pw)],R2=>
    obtain⟨_,_,z,e⟩:=R2;have e:0+n=a₀.size:=e;rw[kM,cA<|by dsimp only[g2];lia]at z
    exact z
   |_::_::_,_=>rw[<-aS,hP]at l2;simp at l2
end
end Tq
namespace Sq
open PySem PySem.W PyProof.Rows
structure Ord(n:Nat)(lt:Nat->Nat->Bool):Prop where
 tot:∀i j,i<n->j<n->i≠j->lt i j=aj->lt j i=ao
 asy:∀i j,i<n->j<n->lt i j=ao->lt j i=aj
 tr:∀i j k,i<n->j<n->k<n->lt i j=ao->lt j k=ao->lt i k=ao
noncomputable abbrev g(p:Array Nat)(i:Nat):Nat:=p.getD i 0
def Pm(n:Nat)(p:Array Nat):Prop:=p.Perm<|da<|aC n
theorem Pm.size(h:Pm n p):p.size=n:=by have:=Array.Perm.size_eq h;simpa using this
def ZeY(h:i<p.size):p[i]?=aa (g p i):=by simp[h]
def Pm.lt(h:Pm n p)(hi:i<n):g p i<n:=by
 have hs:=h.size;have h1:g p i∈p.toList:=by
  have:p.toList[i]?=aa (g p i):=by rw[br];exact ZeY #[0]
  exact cU this
 have h2:p.toList.Perm (aC n):=by simpa using bB.mp h
 exact aI.mp<|h2.mem_iff.mp h1
def Up(lt:Nat->Nat->Bool)(p:Array Nat)(m:Nat):Prop:=∀i j,i<j->j<m->lt (g p i) (g p j)=ao
theorem Gw{B:Type}{p q:B->Bool}:∀{l:List B},(∀x∈l,p x=ao->q x=ao)->(∃x∈l,q x=ao/\p x=aj)->l.countP p<l.countP q
 |[],_,#[x,hx,_]=>by cases hx
 |y::l,h,#[x,hx,h1,h2]=>by
  have hm:=List.countP_mono_left λz hz=>h z<|am _ hz
  rw[pi,pi];rcases ay.mp hx with rfl|hx
  .rw[h2];lia
  .have:=Gw (λz hz=>h z<|am _ hz) #[x,hx,h1,h2]
   cases e:p y with|false=>rw[T8 aT];lia|true=>rw[(h y<|ak ..) e];lia
noncomputable def rank(n:Nat)(lt:Nat->Nat->Bool)(i:Nat):Nat:=(aC n).countP λj=>lt j i
def Qh(O:Ord n lt)(hi:i<n)(hj:j<n):ag (rank n lt i<rank n lt j)=lt i j:=by
 have irr:∀k,k<n->lt k k=aj:=λk hk=>by
  cases e:lt k k with|false=>rfl|true=>rw[<-e];exact O.asy k k hk hk e
 have up:=λ{a b} ha hb e=>
  Gw (λx hx h=>O.tr x a b (aI.mp hx) ha hb h e) #[a,aI.mpr ha,e,irr a ha]
 cases e:lt i j with
 |true=>exact T5<|up hi hj e
 |false=>
  refine T4 λh=>?_
  by_cases z:i=j
  .subst z;exact bv _ h
  .exact Nat.lt_asymm h<|up hj hi<|O.tot i j hi hj z e
section
open Classical
noncomputable def idx(vs:List aB)(v:aB):Nat:=if h:∃i:Nat,vs[i]?=aa v then choose h else 0
def w4(nd:vs.Nodup)(h:vs[i]?=aa v):idx vs v=i:=by
 have hx:∃i,vs[i]?=aa v:=#[i,h];unfold idx;rw[dif_pos hx];have e:=choose_spec hx;exact(iF ((aN.mp e).1) nd).mp<|e.trans h.symm
end
def Zhr{vs:List aB}(nd:vs.Nodup)(h1:1<=vs.length)(O:Ord vs.length lt)
  (ask:∀i j,i<vs.length->j<vs.length->∀C E,C (lt i j) s->aY #[8] A (keyLt' κ (vs.getD i bw)<|vs.getD j bw) C E s) :
  aY #[8] A ((sortRuns').run<|rm κ (vs.toArray.zip vs.toArray) #[] 7 ai) (λr s'=>s'=s/\∃p,Pm vs.length p/\Up lt p vs.length/\gT r.2=ai/\(bh r.2).map (·.2)=da (p.toList.map λi=>vs.getD i bw)) E s:=by
 have hz:(vs.toArray.zip vs.toArray).toList=vs.map λv=>(v,v):=by
  rw[ksk_zip];clear ask O h1 nd
  induction vs with|nil=>rfl|cons v l ih=>rw[d3,ih];rfl
 let rk:cG->Nat:=λx=>rank vs.length lt<|idx vs x.1
 let In:cG->Prop:=λx=>∃i:Nat,vs[i]?=aa x.1/\x=(x.1,x.1)
 have atI:∀{x:cG},In x->idx vs x.1<vs.length/\vs.getD (idx vs x.1) bw=x.1:=λ{x} #[i,e,_]=>by
  rw[w4 nd e];exact#[(aN.mp e).1,by rw[az,e];rfl]
 have od:Tq.Od prog w A E s κ In rk:=⟨λ{x y τ Q} ix iy hk q=>by
  obtain⟨a1,a2⟩:=atI ix;obtain⟨b1,b2⟩:=atI iy;rw[lt'_eq];refine aP<|iE ?_;rw[hk];have:=ask _ _ a1 b1 (λb s'=>s'=s/\b=lt (idx vs x.1) (idx vs y.1)) (λ_ _=>False) #[rfl,rfl]
  rw[a2,b2]at this;refine aP<|wpS_lift<|gO<|dy this (λb s' h=>?_) λ_ _ h=>h.elim
  obtain⟨rfl,rfl⟩:=h;refine#[rfl,aX ?_];rw[<-Qh O a1 b1];exact q⟩
 have ia:∀x∈(vs.toArray.zip vs.toArray).toList,In x:=λx hx=>by
  rw[hz]at hx;obtain⟨v,hv,rfl⟩:=aF.mp hx;obtain⟨i,hi,e⟩:=ng.mp hv;exact#[i,by rw[af hi,e],rfl]
 have rks:(vs.toArray.zip vs.toArray).toList.map rk=(aC vs.length).map (rank vs.length lt):=by
  rw[hz,bL];refine cc λi=>?_
  rw[aK,aK];by_cases h:i<vs.length
  .rw[bZ h,af h]
   exact congrArg (λk=>aa<|rank vs.length lt k)<|w4 nd<|af h
  .rw[bI #[0],bI (by rw[bf];lia)];rfl
 have ndr:((vs.toArray.zip vs.toArray).toList.map rk).Nodup:=by
  rw[rks];refine cS.mpr<|lL ?_ l8;intro a b ha hb ne e;have ha:=aI.mp ha;have hb:=aI.mp hb;have h1:=Qh O ha hb;have h2:=Qh O hb ha;rw[e,T4<|bv _]at h1 h2;exact T7 (O.tot a b ha hb ne h1.symm) (by rw[<-h2];simp)
 have sz:(vs.toArray.zip vs.toArray).size=vs.length:=by rw[<-aS,hz,av]
 refine Tq.sort_ok (Q:=λ_ st'=>∃p,Pm vs.length p/\Up lt p vs.length/\gT st'=ai/\(bh st').map (·.2)=da (p.toList.map λi=>vs.getD i bw)) od ia ndr rfl rfl rfl rfl #[0] λst' pm fl so=>?_
 have pl:=bB.mp pm;have inS:=λx hx=>ia x<|pl.mem_iff.mp hx
 have pp:((bh st').toList.map λx=>idx vs x.1).Perm (aC vs.length):=by
  refine(pl.map _).trans<|pS ?_;rw[hz,bL];refine cc λi=>?_
  rw[aK];by_cases h:i<vs.length
  .rw[bZ h,af h]
   exact congrArg aa<|w4 nd<|af h
  .rw[bI #[0],bI (by rw[bf];lia)];rfl
 have sl:(bh st').toList.length=vs.length:=by rw[pl.length_eq,hz,av]
 refine#[da<|(bh st').toList.map λx=>idx vs x.1,bB.mpr pp,λi j hij hj=>?_,fl,?_]
 .have gk:∀k hk,g (da<|(bh st').toList.map λx=>idx vs x.1) k=idx vs ((bh st').toList[k]).1:=λk hk=>by
   show((da<|(bh st').toList.map λx=>idx vs x.1).getD k 0)=_
   rw[Array.getD_eq_getD_getElem?,List.getElem?_toArray,aK,af hk];rfl
  rw[gk i #[0],gk j #[0]]
  have:=bN.mp so i j #[0] #[0] hij
  rw[<-Qh O (atI<|inS _<|aR _).1 (atI<|inS _<|aR _).1];exact T5 this
 .apply iO.mp
  rw[pj,bL];refine cn λx hx=>?_
  have hi:=inS x hx;show x.2=vs.getD (idx vs x.1) bw;rw[(atI hi).2];obtain⟨_,_,e⟩:=hi;rw[e]
open PySem.Calls
def Lat(h h':cQ):Prop:=∀b o,h.get? b=aa o->h'.get? b=aa o
structure Asks(prog:bP)(w:b9)(A:cz)(h:cQ)(vs:List aB)(κ:gS)(lt:Nat->Nat->Bool):Prop where
 kind:2<=vs.length->∀(s':aM)(E:aB->aM->Prop)(Q:gS->aM->Prop),Lat h s'.heap->Q κ s'->aY (aW prog w) A (keyKind' vs.toArray) Q E s'
 nd:vs.Nodup
 cmp:∀i j,i<vs.length->j<vs.length->∀(s':aM)(C:Bool->aM->Prop)(E:aB->aM->Prop),Lat h s'.heap->C (lt i j) s'->aY (aW prog w) A (keyLt' κ (vs.getD i bw)<|vs.getD j bw) C E s'
noncomputable def ltR(b:Bool)(n:Nat)(lt:Nat->Nat->Bool):Nat->Nat->Bool:=λi j=>if b=ao then lt (n-1-i) (n-1-j)else lt i j
def ZdE(O:Ord n lt):Ord n (ltR b n lt):=by
 cases b
 .exact O
 .exact#[λi j hi hj ne h=>O.tot _ _ #[0] #[0] #[0] h,λi j hi hj h=>O.asy _ _ #[0] #[0] h,λi j k hi hj hk h1 h2=>O.tr _ _ _ #[0] #[0] #[0] h1 h2]
def xE(hi:i<vs.length):(lN b vs).getD i bw=vs.getD (if b=ao then vs.length-1-i else i) bw:=by
 cases b
 .rfl
 .show vs.reverse.getD i bw=vs.getD (vs.length-1-i) bw
  simp;rw[mQ hi]
def jo(vs):(aC vs.length).map (λi=>vs.getD i bw)=vs:=by
 apply cc
 intro i;rw[aK];by_cases h:i<vs.length
 .rw[bZ h];simp[h]
 .simp[dW h]
def list_sort_rev(ho:s.heap.get? a=aa (fR "list" vs.toArray n))(h64:vs.length<=100000)
  (h00:∀b o,h0.get? b=aa o->b≠a/\s.heap.get? b=aa o)(O:Ord vs.length lt)(K:Asks prog w A h0 vs κ lt)
  (h:∀p,Pm vs.length p->Up (ltR b vs.length lt) p vs.length->P (.done<|.ret .none) {s with heap:=sortedHeap s.heap a vs (da<|lN b<|p.toList.map λi=>(lN b vs).getD i bw)}) :
  aY #[8] A (dM.«list.sort» #[[.ref a],[(oN "reverse",.bool b)]]) P E s:=by
 rw[kS];have ha:=aG ho;refine ae<|listItems_at ho rfl ?_;refine ae<|nH ho rfl ?_;obtain⟨e1,ho1⟩:∃e1,(s.heap.update a<|fw λ_=>#[]).get? a=aa (fR "list" #[] e1):=#[_,get?_update_seq ho λ_=>#[]]
 refine ae<|pL ho1 rfl ?_;refine ae<|wpAny_newTuple ?_;refine ae<|lO ?_;refine bM ?_;have ho6:(((s.heap.update a<|fw λ_=>#[]).push<|fR "tuple" vs.toArray 0).push<|fR "list" #[] 0).get? a=aa (fR "list" #[] e1):=by
  rw[iG _ _ _ (by rw[oj,l9];exact a8<|cB ha),iG _ _ _ (by rw[l9];exact a8 ha)]
  exact ho1
 have lat:Lat h0 (((s.heap.update a<|fw λ_=>#[]).push<|fR "tuple" vs.toArray 0).push<|fR "list" #[] 0):=λb o e=>by
  obtain⟨nb,e⟩:=h00 b o e;exact au _<|au _ (by rw[nB _ _ _ _ nb];exact e)
 generalize hs':((s.heap.update a<|fw λ_=>#[]).push<|fR "tuple" vs.toArray 0).push (fR "list" #[] 0)=h1 at ho6 lat ⊢
 dsimp only
 have step:∀t:pX PySem.Fin,aY #[8] A t P E {s with heap:=h1}->aY #[8] A (if b=ao then(do let _ <-oY "list.sort.reverse";t)else t) P E {s with heap:=h1}:=by
  intro t ht;split
  .exact ae<|gw ht
  .exact ht
 refine step _ ?_;have hrl:=pY b vs;have fin:∀out:List aB,out.length=vs.length->(∃p,Pm vs.length p/\Up (ltR b vs.length lt) p vs.length/\out=p.toList.map λi=>(lN b vs).getD i bw)->
   P (.done<|.ret .none) {s with heap:=h1.update a (fw λ_=>da<|lN b out)}:=by
  rintro out _ ⟨p,h1',h2',rfl⟩
  subst hs';exact h p h1' h2'
 by_cases h2:vs.toArray.size<2
 .rw[T9 h2,T9 h2]
  refine ae<|aw ?_;rw[StateT.run_pure];refine ae<|aw ?_
  dsimp only
  have hz:((bh<|rm general' (if b=ao then(vs.toArray.zip vs.toArray).reverse else vs.toArray.zip vs.toArray) #[] 7 ai).map (·.2))=da (lN b vs):=by
   rw[kat_pairs b rfl];apply iO.mp;rw[pj,ksk_zip];exact List.map_snd_zip<|aJ _
  rw[hz];refine ae<|pL ho6 rfl ?_;rw[kat_outs];refine ae<|nH ho6 rfl ?_ (hsz2:=by rw[aD];(try rw[pY]);(try rw[pY]);rw[dg];lia)
  simp only[bne_self_eq_false,fN,if_false];refine aw<|fin (lN b vs) (pY b vs) #[da<|aC vs.length,Array.Perm.refl _,λi j a1 a2=>by rw[aD]at h2;lia,?_]
  rw[<-hrl];exact(jo _).symm
 .rw[T8 h2,T8 h2]
  have l2:2<=vs.length:=by rw[aD]at h2;lia
  refine ae<|K.kind l2 _ _ _ lat ?_;rw[kat_pairs b rfl];have ndR:(lN b vs).Nodup:=by
   cases b
   .exact K.nd
   .exact(d9 vs).nodup_iff.mpr K.nd
  refine ae (dy (Zhr ndR #[0] (by rw[hrl];exact ZdE (b:=b) O) (by
    rw[hrl];intro i j hi hj C E hC;rw[xE hi,xE hj];cases b
    .exact K.cmp i j hi hj _ _ _ lat hC
    .exact K.cmp _ _ (by simp only[if_true];lia) (by simp only[if_true];lia) _ _ _ lat hC)) ?_ λ_ _ x=>x)
  rintro ⟨⟨⟩,st'⟩ s' ⟨rfl,p,e2,e3,hf,har⟩
  rw[hrl]at e2 e3
  dsimp only
  rw[har];have hl:(p.toList.map λi=>(lN b vs).getD i bw).length=vs.length:=by rw[av,aS,e2.size]
  refine ae<|pL ho6 rfl ?_;rw[kat_outs];refine ae<|nH ho6 rfl ?_ (hsz2:=by rw[aD];(try rw[pY]);rw[hl,dg];lia)
  rw[hf];simp only[bne_self_eq_false,fN,if_false];exact aw<|fin _ hl #[p,e2,e3,rfl]
def va{l:aO}{vs:List aB}{b:Bool}{κ:gS}{lt:Nat->Nat->Bool}(hl:s.heap.IsList l vs.toArray)(h64:vs.length<=100000)(O:Ord vs.length lt)(K:Asks prog w A.in1.in1 s.heap vs κ lt)
  (h:∀p,Pm vs.length p->Up (ltR b vs.length lt) p vs.length->Q (.ref<|s.heap.objs.size+1) {s with heap:=sortedAll s.heap vs (da<|lN b<|p.toList.map λi=>(lN b vs).getD i bw)}) :
  aY #[8] A (call (.builtin "sorted") [.ref l] [(oN "reverse",.bool b)]) Q E s:=by
 refine call_function_entry_kw pN oO oP (args_sorted_rev _ _) ?_;unfold dM.«sorted»;refine ae<|aw ?_;refine ae<|collect_list hl ?_;refine ae<|lO ?_;have hsz:((s.heap.push<|fR "list" #[] 0).update s.heap.objs.size (fw (·++vs.toArray))).objs.size=s.heap.objs.size+1:=by
  rw[l9,oj]
 have hoL:(((s.heap.push<|fR "list" #[] 0).update s.heap.objs.size (fw (·++vs.toArray))).push<|fR "list" vs.toArray 0).get? (s.heap.objs.size+1)=aa (fR "list" vs.toArray 0):=by
  rw[<-hsz];exact aH _ rfl
 rw[hsz];refine ae<|bM<|wpAny_call_entry_kw ni #[_,hoL,rfl] mJ (list_sort_rev hoL h64 (λb o e=>?_) O K  λp a1 a2=>#[_,rfl,?_])<|args_list_sort_rev _ _
 .have hlt:b<s.heap.objs.size:=aG e
  refine#[a8<|cB hlt,?_];rw[iG _ _ _ (by rw[hsz];exact a8<|cB hlt),nB _ _ _ _<|a8 hlt,iG _ _ _<|a8 hlt]
  exact e
 .exact aw #[_,rfl,h p a1 a2]
def J3(a):dM.«list.sort» #[[.ref a],[]]=dM.«list.sort» #[[.ref a],[(oN "reverse",.bool aj)]]:=by
 rw[kS];rfl
end Sq
namespace Sd
open PySem PySem.Spec PyProof.Rows L2
open Ev (E Sm Fn Bop Cop Ty Bf Mf)
end Sd
namespace Sd
open Ev (ltI YH Zr)
theorem zC:∀{x y:List Int},x≠y->ltI x y=aj->ltI y x=ao
 |[],[],h,_=>T7 rfl h
 |[],_::_,_,h=>by cases h
 |_::_,[],_,_=>rfl
 |a::x,b::y,h,e=>by
  unfold ltI at e ⊢;by_cases c:a=b
  .subst c
   rw[T9 rfl]at e ⊢;exact zC (λz=>h<|by rw[z]) e
  .rw[T8 c]at e
   rw[T8<|Ne.symm c];have:=of_decide_eq_false e;exact T5 #[3]
theorem Qa:∀{x y:List Int},ltI x y=ao->ltI y x=aj
 |[],[],h=>by cases h
 |[],_::_,_=>rfl
 |_::_,[],h=>by cases h
 |a::x,b::y,e=>by
  unfold ltI at e ⊢;by_cases c:a=b
  .subst c
   rw[T9 rfl]at e ⊢;exact Qa e
  .rw[T8 c]at e
   rw[T8<|Ne.symm c];have:=T6 e;exact T4 #[3]
theorem wH:∀{x y z:List Int},ltI x y=ao->ltI y z=ao->ltI x z=ao
 |[],[],_,h,_=>by cases h
 |_::_,[],_,h,_=>by cases h
 |_,_::_,[],_,h=>by cases h
 |[],_::_,_::_,_,_=>rfl
 |a::x,b::y,c::z,e,f=>by
  unfold ltI at e f ⊢;by_cases h1:a=b
  .subst h1
   rw[T9 rfl]at e;by_cases h2:a=c
   .subst h2
    rw[T9 rfl]at f ⊢;exact wH e f
   .rw[T8 h2]at f ⊢;exact f
  .rw[T8 h1]at e
   have e':=T6 e;by_cases h2:b=c
   .subst h2
    rw[T8 h1];exact e
   .rw[T8 h2]at f
    have f':=T6 f;rw[T8 #[3]]
    exact T5 #[3]
theorem Uv(x):∀l,(YH x l).Perm (x::l)
 |[]=>cC _
 |y::r=>by
  unfold YH;split
  .exact cC _
  .exact((Uv x r).cons y).trans<|kT x y r
theorem Xf:∀l,(Zr l).Perm l
 |[]=>cC _
 |x::r=>(Uv x<|Zr r).trans<|(Xf r).cons x
theorem UD(x):∀{l:List #[28]},(∀y∈l,x≠y)->l.Pairwise (λa b=>ltI a b=ao)->(YH x l).Pairwise (λa b=>ltI a b=ao)
 |[],_,_=>by exact md ..
 |y::r,hn,h=>by
  rw[bo]at h;unfold YH;split
  .rename_i c
   rw[bo,bo];refine#[λz hz=>?_,h]
   rcases ay.mp hz with rfl|hz
   .exact c
   .exact wH c<|h.1 z hz
  .rename_i c
   rw[bo];refine#[λz hz=>?_,UD x (λy hy=>hn y<|am _ hy) h.2]
   rcases ay.mp ((Uv x r).mem_iff.mp hz)with rfl|hz
   .exact zC (hn y<|ak ..) (by simpa using c)
   .exact h.1 z hz
theorem XU:∀{l:List #[28]},l.Nodup->(Zr l).Pairwise (λa b=>ltI a b=ao)
 |[],_=>lq
 |x::r,h=>by
  rw[dq]at h;exact UD x (λy hy e=>h.1<|by rw[e];exact(Xf r).mem_iff.mp hy)<|XU h.2
theorem WA:∀{a b:List #[28]},a.Perm b->a.Pairwise (λx y=>ltI x y=ao)->b.Pairwise (λx y=>ltI x y=ao)->a=b
 |[],b,p,_,_=>(List.Perm.nil_eq p)
 |x::a,[],p,_,_=>by have:=p.length_eq;simp at this
 |x::a,y::b,p,ha,hb=>by
  rw[bo]at ha hb;have e:x=y:=by
   rcases ay.mp (p.mem_iff.mp<|ak ..)with h|h
   .exact h
   .rcases ay.mp (p.mem_iff.mpr (ak))with h2|h2
    .exact h2.symm
    .have z1:=hb.1 x h
     have z2:=ha.1 y h2;rw[Qa z1]at z2;cases z2
  subst e;rw[WA (List.perm_cons x |>.mp p) ha.2 hb.2]
open PySem PySem.Spec PyProof.Rows L2
open Ev (E Sm Fn Bop Cop Ty Bf Mf Yd JF Wh ltP Y4)
noncomputable def vz(fin:Bool):List Int->List Int->Bool
 |[],_=>fin
 |_::_,[]=>fin
 |a::x,b::y=>if a=b then vz fin x y else ag (a<b)
theorem uB:∀x y,vz (ag<|x.length<y.length) x y=ltI x y
 |[],[]=>rfl
 |[],_::_=>by unfold vz ltI;simp
 |_::_,[]=>by unfold vz ltI;simp
 |a::x,b::y=>by
  unfold vz ltI;have:ag ((a::x).length<(b::y).length)=ag (x.length<y.length):=by simp
  rw[this,uB x y]
theorem wm :∀{x y:List Int}{u v:List aB}{i:Nat},Vals (x.map V.int) u->Vals (y.map V.int) v->C (vz fin x y) s->PySem.W.KatLex prog w A b fin C (u.zip v) i s
 |[],_,_,_,_,.nil,_,h=>by rw[List.zip_nil_left];exact pT h
 |_::_,[],_,_,_,_,.nil,h=>by rw[List.zip_nil_right];exact pT h
 |a::x,c::y,_,_,i,.cons ra ta,.cons rb tb,h=>by
  obtain⟨t,rfl⟩:=ra;obtain⟨t',rfl⟩:=rb;rw[d3];refine PySem.W.kat_cons<|wpAny_eqBool_int ?_;unfold vz at h;by_cases e:a=c
  .rw[T9 e]at h
   rw[beq_iff_eq.mpr e];exact PySem.W.kat_yes<|wm ta tb h
  .rw[T8 e]at h
   rw[beq_eq_false_iff_ne.mpr e];refine PySem.W.kat_no ?_;cases q:(b&&i == 0)with|true=>exact oneLt_int h|false=>exact PySem.W.kat_one _ _<|lt_int h
inductive RowsAt(h:cQ):List (List Int)->List aB->Prop where
 |nil:RowsAt h [] []
 |cons {r:List Int} {rs:List (List Int)} {vs:List aB} {a:aO} {o:gf} {us:List aB} {m:Nat} (ho:h.get? a=aa o) (hc:o.cls=.type "tuple") (hd:o.data=.seq us.toArray m) (hv:Vals (r.map V.int) us) (t:RowsAt h rs vs):RowsAt h (r::rs) (.ref a::vs)
theorem Q8:∀{ks:List D}{k:List Int},Pv.intsV ks=aa k->ks=k.map Pv.V.int
 |[],k,h=>by cases h;rfl
 |d::ks,k,h=>by
  obtain⟨n,r,rfl,e,rfl⟩:=V6 h;rw[Q8 e];rfl
def qS(h:Pv.YE (d::ds)=aa rs):∃a b,d=Pv.Zb a/\Pv.YE ds=aa b/\rs=a::b:=by
 cases d with
 |tup x=>
  have h:(match Pv.intsV x,Pv.YE ds with
   |some a,aa b=>aa (a::b)
   |_,_=>ai)=aa rs:=h
  cases q1:Pv.intsV x with
  |none=>rw[q1]at h;cases h
  |some a=>
   cases q2:Pv.YE ds with
   |none=>rw[q1,q2]at h;cases h
   |some b=>
    rw[q1,q2]at h;exact#[a,b,congrArg Pv.V.tup<|Q8 q1,rfl,(aq h).symm]
 |_=>exact Ev.nos h
theorem Rq.intsV:∀{r:List Int}{xs:List V},Rq U H (r.map Pv.V.int) xs->xs=r.map V.int
 |[],xs,h=>by exact h
 |n::r,xs,h=>by
  obtain⟨v,vs,rfl,a,b⟩:=h;rw[a.int',Rq.intsV b];rfl
theorem zE(I:Inv X pq Z H s):∀{ds:List D}{rs:List #[28]}{xs:List V}{its:List aB},Pv.YE ds=aa rs->Rq U H ds xs->Vals xs its->RowsAt s.heap rs its/\ds=rs.map Pv.Zb
 |[],rs,xs,its,h,r,v=>by
  subst r;cases v;cases h;exact#[.nil,rfl]
 |d::ds,rs,xs,its,h,r,v=>by
  obtain⟨x,xs',rfl,r1,r2⟩:=r;cases v with
  |cons v1 v2=>
   obtain⟨a,b,rfl,q2,rfl⟩:=qS h;obtain⟨t,e⟩:=zE I q2 r2 v2;obtain⟨p,ys,rfl,hp,ry⟩:=r1.tup';have ey:=Rq.intsV ry;subst ey;cases v1;obtain⟨us,rv,⟨o,ho,hc,m,hd⟩,_⟩:=I.tuple<|SqT.of hp;exact#[.cons ho hc hd rv t,by rw[e];rfl]
theorem RowsAt.length :∀{rs:List #[28]}{vs:List aB},RowsAt h rs vs->rs.length=vs.length
 |_,_,.nil=>rfl
 |_,_,.cons _ _ _ _ t=>by rw[aQ,aQ,RowsAt.length t]
theorem RowsAt.at :∀{rs:List #[28]}{vs:List aB}i,RowsAt h rs vs->i<vs.length->∃a o us m,vs.getD i bw=.ref a/\h.get? a=aa o/\o.data=.seq us.toArray m/\Vals ((rs.getD i []).map V.int) us
 |_,_,_,.nil,hi=>by simp at hi
 |_,_,0,.cons ho hc hd hv t,_=>#[_,_,_,_,rfl,ho,hd,hv]
 |_,_,i+1,.cons ho hc hd hv t,hi=>by
  obtain⟨a,o,us,m,e1,e2,e3,e4⟩:=RowsAt.at i t (by simpa using hi)
  exact#[a,o,us,m,by simpa using e1,e2,e3,by simpa using e4]
theorem RowsAt.tups(k:Sq.Lat h h'):∀{rs:List #[28]}{vs:List aB},RowsAt h rs vs->(∀r∈rs,r≠[])->∃fs,PySem.W.KatTups h' vs fs/\fs.length=vs.length/\∀v∈fs,∃n t,v=fX n t
 |_,_,.nil,_=>#[[],.nil,rfl,λv hv=>by cases hv]
 |_,_,.cons (r:=r) ho hc hd hv t,hn=>by
  obtain⟨fs,t1,t2,t3⟩:=RowsAt.tups k t λr hr=>hn r<|am _ hr
  have hr:=hn r<|ak ..;cases r with
  |nil=>exact T7 rfl hr
  |cons n r=>
   obtain⟨u,g,rel⟩:=hv.get (i:=0) rfl;refine#[u::fs,.cons (k _ _ ho) hc hd (by simpa using g) t1,by rw[aQ,aQ,t2],λv hv=>?_]
   rcases ay.mp hv with rfl|hv
   .obtain⟨tk,e⟩:=rel
    exact#[n,tk,e]
   .exact t3 v hv
theorem xU:∀{x y:List Int}{us:List aB},Vals (x.map V.int) us->Vals (y.map V.int) us->x=y
 |[],[],_,_,_=>rfl
 |[],_::_,_,.nil,h=>by cases h
 |_::_,[],_,h,.nil=>by cases h
 |a::x,b::y,_,.cons r t,.cons r' t'=>by
  obtain⟨k,rfl⟩:=r;obtain⟨k',e⟩:=r';cases e;rw[xU t t']
def ZbO{B:Type}{df:B}{rs:List B}{vs:List aB}(hl:rs.length=vs.length)(nd:rs.Nodup)(h:∀i j,i<vs.length->j<vs.length->vs.getD i bw=vs.getD j bw->rs.getD i df=rs.getD j df):vs.Nodup:=by
 refine bN.mpr λi j hi hj hij e=>?_
 have:=h i j hi hj (by simp[hi,hj,e])
 simp[af (show i<rs.length by lia),af (show j<rs.length by lia)]at this
 exact bN.mp nd i j #[0] #[0] hij this
def Gf(R:RowsAt h rs vs)(nd:rs.Nodup)(hn:∀r∈rs,r≠[]):Sq.Asks prog w A h vs (tuples' ao) (λi j=>ltI (rs.getD i [])<|rs.getD j []):=by
 refine#[λh2 s' E Q k q=>?_,ZbO (df:=[]) R.length nd λi j hi hj e=>?_,λi j hi hj s' C E k q=>?_]
 .obtain⟨fs,t1,t2,t3⟩:=R.tups k hn
  exact PySem.W.kat_kind (T:=.type "int") t1 #[0] (λv hv=>by obtain⟨n,t,rfl⟩:=t3 v hv;exact PySem.W.Looks.of_pure rfl) rfl q
 .obtain⟨a,o,us,m,e1,e2,e3,e4⟩:=R.at i hi
  obtain⟨a',o',us',m',f1,f2,f3,f4⟩:=R.at j hj;rw[e1,f1]at e;cases e;rw[e2]at f2;cases f2;rw[e3]at f3;cases f3;exact xU e4 f4
 .obtain⟨a,o,us,m,e1,e2,e3,e4⟩:=R.at i hi
  obtain⟨a',o',us',m',f1,f2,f3,f4⟩:=R.at j hj;rw[e1,f1];refine PySem.W.kat_lt (k _ _ e2) e3 (k _ _ f2) f3<|wm e4 f4 ?_;have l1:us.toArray.size=(rs.getD i []).length:=by rw[aD,<-e4.length,av]
  have l2:us'.toArray.size=(rs.getD j []).length:=by rw[aD,<-f4.length,av]
  rw[l1,l2,uB];exact q
def xj{rs:List #[28]}(hn:rs.Nodup)(hl:rs.length=n):Sq.Ord n (λi j=>ltI (rs.getD i [])<|rs.getD j []):=by
 have hd:∀i j,i<n->j<n->i≠j->rs.getD i []≠rs.getD j []:=λi j hi hj ne e=>by
  simp at e;have hi':i<rs.length:=by lia
  have hj':j<rs.length:=by lia
  refine ne<|(iF hi' hn).mp ?_;rw[af hi',af hj']at e ⊢;exact congrArg aa e
 exact#[λi j hi hj ne e=>zC (hd i j hi hj ne) e,λi j _ _ e=>Qa e,λi j k _ _ _ e f=>wH e f]
def Qw{B β:Type}(b)(f:B->β)(l):bC b (l.map f)=(bC b l).map f:=by
 cases b
 .rfl
 .exact pz.symm
def wc{B:Type}(b)(l:List B):(bC b l).Perm l:=by
 cases b
 .exact cC _
 .exact d9 l
def UF{B:Type}{d:B}{vs:List B}(hi:i<vs.length):(bC b vs).getD i d=vs.getD (if b=ao then vs.length-1-i else i) d:=by
 cases b
 .rfl
 .show vs.reverse.getD i d=vs.getD (vs.length-1-i) d
  simp;rw[mQ hi]
def yO(hn:rs.Nodup)(h1:Sq.Pm rs.length p)(h2:Sq.Up (Sq.ltR b rs.length λi j=>ltI (rs.getD i [])<|rs.getD j []) p rs.length) :
  (p.toList.map λi=>(bC b rs).getD i [])=Zr rs:=by
 have hp:p.toList.Perm (aC rs.length):=by simpa using bB.mp h1
 have hl:p.toList.length=rs.length:=by rw[hp.length_eq,bf]
 refine WA ?_ ?_<|XU hn
 .refine((hp.map _).trans ?_).trans (Xf rs).symm
  have e:(aC rs.length).map (λi=>(bC b rs).getD i [])=bC b rs:=by
   apply cc
   intro i;rw[aK];by_cases h:i<rs.length
   .have:i<(bC b rs).length:=by rw[g8];exact h
    rw[bZ h];simp[this]
   .have:(bC b rs).length<=i:=by rw[g8];lia
    simp[dW h,this]
  rw[e];exact wc b rs
 .rw[cS,bN]
  intro i j hi hj hij;have g1:p.toList[i]=Sq.g p i:=by
   have:=Sq.ZeY (by simpa using hi)
   rw[<-br,af hi]at this;exact aq this
  have g2:p.toList[j]=Sq.g p j:=by
   have:=Sq.ZeY (by simpa using hj)
   rw[<-br,af hj]at this;exact aq this
  rw[g1,g2,UF (h1.lt #[0]),UF<|h1.lt #[0]]
  have:=h2 i j hij #[0]
  cases b
  .exact this
  .exact this
def xT{F:List Nat}{rs:List #[28]}(h:Rq U H (rs.map Pv.Zb) xs)(hF:∀i∈F,i<rs.length):Rq U H ((F.map λi=>rs.getD i []).map Pv.Zb) (F.map λi=>xs.getD i V.non):=by
 induction F with
 |nil=>exact Rq.nil
 |cons i F ih=>
  refine Rq.cons ?_<|ih λj hj=>hF j<|am _ hj
  have hi:=hF i<|ak ..;obtain⟨v,g,r⟩:=h.get (by rw[aK,af hi];rfl)
  show Rep U H (Pv.Zb<|rs.getD i []) (xs.getD i V.non);rw[az,az,g,af hi];exact r
def xi{F:List Nat}(h:Vals xs us)(hF:∀i∈F,i<xs.length):Vals (F.map λi=>xs.getD i V.non) (F.map λi=>us.getD i bw):=by
 induction F with
 |nil=>exact .nil
 |cons i F ih=>
  refine .cons ?_<|ih λj hj=>hF j<|am _ hj
  have hi:=hF i<|ak ..;obtain⟨u,g,r⟩:=h.get<|af hi;show ZA (xs.getD i V.non) (us.getD i bw);rw[az,az,g,af hi];exact r
def xP(h:Rq U H ds xs):Rq U H (bC b ds) (bC b xs):=by
 cases b
 .exact h
 .exact h.reverse
def xu :∀{xs:List V}{us:List aB},Vals xs us->Vals (bC b xs) (bC b us):=by
 cases b
 .exact λh=>h
 .have snoc:∀{xs:List V}{us:List aB}{x:V}{u:aB},Vals xs us->ZA x u->Vals (xs++[x]) (us++[u]):=by
   intro xs us x u h r
   induction h with|nil=>exact .cons r .nil|cons a _ ih=>exact .cons a ih
  intro xs us h;show Vals xs.reverse us.reverse
  induction h with|nil=>exact .nil|cons r t ih=>rw[eY,eY];exact snoc ih r
def Zga(b:Bool):List V->Hp->VK->Prop:=λvs H Q=>∃U ds rws v,vs=[v]/\Rep U H (.lst ds) v/\Pv.YE ds=aa rws/\Yd rws=ao/\∀ys,Rq U H ((if b then(Zr rws).reverse else Zr rws).map Pv.Zb) ys->∀p,H p=ai->Q (.ref p) (upd H p<|.lst ys)
def Zac{s:aM}{Z:L2.St}{H:Hp}{vs:List V}{Q:VK}{b:Bool}(I:Inv X pq Z H s)(r:Vals vs us)(h:Zga b vs H Q) :
  ∃(l:aO)(its:List aB)(rs:List #[28]),us=[.ref l]/\s.heap.IsList l its.toArray/\its.length<=100000/\rs.length=its.length/\Sq.Ord its.length (λi j=>ltI (rs.getD i [])<|rs.getD j [])/\(∀A,Sq.Asks X.prog X.w A s.heap its (tuples' ao) λi j=>ltI (rs.getD i [])<|rs.getD j [])/\
   ∀p,Sq.Pm its.length p->Sq.Up (Sq.ltR b its.length λi j=>ltI (rs.getD i [])<|rs.getD j []) p its.length->
    EP X pq Z Q (.ref<|s.heap.objs.size+1) {s with heap:=sortedAll s.heap its (da<|bC b<|p.toList.map λi=>(bC b its).getD i bw)}:=by
 obtain⟨U,ds,rws,v,rfl,r1,hrw,hok,h3⟩:=h;obtain⟨l,xs,rfl,hx,_,rx⟩:=r1.lst';obtain⟨u,rfl,ru⟩:=X9 r;cases ru;obtain⟨its,rv,pl,hz⟩:=I.list<|SqL.of hx;obtain⟨RA,ed⟩:=zE I hrw rx rv;obtain⟨hok1,hok3⟩:=(aA _ _).mp hok;obtain⟨hok1,hok2⟩:=(aA _ _).mp hok1;have h64:=T6 hok1;have hnd:=T6 hok2;have hne:∀r∈rws,r≠[]:=λr hr e=>by
  have:=aV.mp hok3 r hr;rw[e]at this;cases this
 have hlen:=RA.length;refine#[l,its,rws,rfl,pl.isList,by lia,hlen,xj hnd hlen,λA=>Gf RA hnd hne,λp hp hu=>?_]
 rw[<-hlen]at hp hu;have out:=yO hnd hp hu;have hmem:∀i∈p.toList,i<rws.length:=λi hi=>by
  have hp':p.toList.Perm (aC rws.length):=by simpa using bB.mp hp
  exact aI.mp<|hp'.mem_iff.mp hi
 subst ed;have xl:xs.length=rws.length:=by rw[rx.length,av]
 have rx1:Rq U H ((bC b rws).map Pv.Zb) (bC b xs):=by rw[<-Qw];exact xP rx
 have rx2:=xT rx1 (by rw[g8];exact hmem)
 rw[out]at rx2;have rx3:=xP (b:=b) rx2;have rv2:=xu (b:=b)<|xi (xu (b:=b) rv) (by rw[g8,xl];exact hmem)
 have eb:(if b=ao then(Zr rws).reverse else Zr rws)=bC b (Zr rws):=rfl
 rw[eb,<-Qw]at h3;obtain⟨ep,he⟩:=sortedAll_at s.heap its<|da<|bC b<|p.toList.map λi=>(bC b its).getD i bw
 refine#[.ref<|s.heap.objs.size+1,_,I.laid (t':=s.toks) (λb ob q=>sortedAll_old q) (lx _) ?_,rfl,h3 _ rx3 _<|I.hok.fresh<|lx _]
 refine#[?_,_,ep,rv2,he];rw[g8,av,aS,hp.size,dg];lia
def vG{q0}(hm:X.mg "sorted" = ai)(ha:CA X xw C [e] [i])(hg:Gl X "sorted")
  (he:dS pos (aE [e] X.env)=#[27]::dS pos (aE [] X.env))(hpl:(dS pos<|aE [e] X.env).any (·.1)=aj) :
  CE X xw C (.Call (.Name "sorted" p) [e] [#[aa "reverse",.Constant (.bool ao) q0 kp,kp2]] pos) (.blt .sortedR [i]):=.mk <| by
 intro pq s Z H Q I hq;obtain⟨U,l,S,st,lr,h⟩:=hq;refine dE<|XF I hg hm (rfl) ?_ #[1] #[1]
 refine callWith_kw (thn (ha.h pos pq s Z H (λvs H1=>Zga ao vs H1 Q) I ?_) λus s1 #[vs,H1,I1,r1,q1]=>?_) he hpl rfl rfl
 .refine#[U,l,S,st,lr,End.bind (h) λxs S1 ρ1 H1 vs f1 st1 r1 h1=>?_]
  obtain⟨d,v,z,rfl,r1,hz,h1⟩:=Wi h1 r1;cases d with
  |lst ds=>
   obtain⟨rws,hr,hz⟩:=cx.mp hz;split at hz
   .cases hz;exact#[ρ1,ds,rws,v,rfl,r1,hr,‹_›,λys r=>h1.newL st1 r]
   .cases hz
  |_=>exact Ev.nos hz
 .refine kws_cons (thn (uJ pq s1 Z H1 (λv H2=>v=.bl ao/\H2=H1) I1 #[rfl,rfl]) λu s2 #[x,H2,I2,r2,e1,e2]=>kws_nil ?_)
  subst e1 e2;cases r2;obtain⟨l,its,rs,rfl,h1,h2,h3,h4,h5,h6⟩:=Zac I2 r1 q1;exact Sq.va h1 h2 h4 (h5 _) λp a b=>h6 p a b
open PySem.SeqAt PySem.MeetsSeq PySem.MeetsSeq2 PySem.MeetsSeq3 PySem.SeqRoads2
open PySem.AutoSeq1 (wpAny_loadPart')
end Sd
namespace Sd
open Ev (ltI ltP JF Wh)
open PySem PySem.Spec PyProof.Rows L2
def Zjf(h:cQ)(r:List Int)(v:aB):Prop:=∃a o us m,v=.ref a/\h.get? a=aa o/\o.cls=.type "tuple"/\o.data=.seq us.toArray m/\Vals (r.map V.int) us
inductive RowsIn(h:cQ):List (List Int)->List aB->Prop where
 |nil:RowsIn h [] []
 |cons {r:List Int} {rs:List (List Int)} {v:aB} {vs:List aB} (a:Zjf h r v) (t:RowsIn h rs vs):RowsIn h (r::rs) (v::vs)
open Ev (E Sm Fn Bop Cop Ty Bf Mf YH Zr Yd Y4)
section
variable{X:Cx}{pq:List (aO×gf)}{Z:L2.St}{H:Hp}{s:aM}{U:Mx}
theorem RowsAt.ins{h:cQ}:∀{rs:List #[28]}{vs:List aB},RowsAt h rs vs->RowsIn h rs vs
 |_,_,.nil=>.nil
 |_,_,.cons ho hc hd hv t=>.cons #[_,_,_,_,rfl,ho,hc,hd,hv]<|RowsAt.ins t
end
open PySem.SeqAt PySem.MeetsSeq PySem.MeetsSeq2 PySem.MeetsSeq3 PySem.SeqRoads2
open PySem.AutoSeq1 (wpAny_loadPart')
def ut(hu:X.A.units+7<dJ):Xu X xw .Lt .lt:=OpR.imp Zim<|by rintro v u H Q ⟨U,S,x,y,st,rx,ry,h⟩;exact zb (f:=λz=>ag<|z.1<z.2) st rx ry h
end Sd
namespace Sd
open PySem PySem.Spec PyProof.Rows L2
open Ev (E Sm Fn Bop Cop Ty Bf Mf)
section
variable{prog:bP}{w:b9}{A:cz}{E:aB->aM->Prop}{s:aM}{it d:aO}{i n ep:Nat}{od:gf}{es:Array iq}
def jv(hd:(d == db)=aj)(ho:s.heap.get? d=aa od)(hc:od.ExactDict)(hdat:od.data=.dict es ep)
  (hQ:Q #[29] {s with heap:=s.heap.push {cls:=.type "dict_keyiterator",data:=.fields [.ref d,.int 0 0,.int es.size 0,.int ep 0].toArray}}) :
  aY #[8] A (nO<|.ref d) Q E s:=by
 have hT:s.TypeIs (.ref d) "dict":=#[_,ho,hc.1];refine lz hT pA<|cq pA hT F.entry_dict_iter ?_<|F.args_dict_iter_1 _;refine ae <| wpAny_bind (mR hT<|aw (show aY _ _ (mS d >>= _) _ _ s from ?_))
 unfold mS;rw[T8 (by rw[hd];exact aT)]
 refine ae<|aw<|ae<|oQ ho hdat<|ae<|wpAny_dictEpoch ho hdat ?_;refine ae<|bu<|aw #[_,rfl,"dict_keyiterator",_,#[_,aH _ rfl,rfl],ki.lookup,?_]
 simpa[fu]using hQ
theorem JQ(hit:s.heap.IsKeyIter it d i es.size ep)(ho:s.heap.get? d=aa od)(hdat:od.data=.dict es ep)
  (h1:∀(hlt:i<es.size) h',h'.IsKeyIter it d (i+1) es.size ep->ei it s.heap h'->Q (aa es[i].key) {s with heap:=h' })
  (h2:es.size<=i->A.handled=ai/\∀h',fH it s.heap h'->Q ai {s with heap:=h' }):aY #[8] A (ml<|.ref it) Q E s:=by
 obtain⟨o,hi,hc,hd⟩:=id hit;unfold ml;refine ae (gO (cw hit.typeIs ki
  (cq ki hit.typeIs F.entry_dict_keyiterator_next ?_<|F.args_dict_keyiterator_next_1 _)))
 refine ae<|aw<|ae<|ae ?_
 first|refine ae<|fJ hit.typeIs<|aw ?_|refine ae<|gU hit.typeIs<|aw ?_
 refine ae<|wpAny_fieldsOf hi hd ?_;have hown:dM.Dict_items.ownsTuple "dict_keyiterator" = aj:=by decide
 show aY _ _ (if(cZ d == bw)=ao then _ else _) _ _ s
 rw[T8<|show¬((cZ d == bw)=ao)from aT]
 refine ae<|aw<|ae<|oQ ho hdat ?_;rw[T8 #[2]]
 refine ae<|aw<|ae<|wpAny_dictEpoch ho hdat ?_;rw[T8 #[2]]
 refine aw ?_;by_cases hlt:i<es.size
 .simp only[by omega,if_false,dN,bp hlt]
  refine ae ?_
  first|refine ae<|fJ hit.typeIs<|aw ?_|refine ae<|gU hit.typeIs<|aw ?_
  refine ae<|mT hit.typeIs (show aY _ _ (setField (.ref it) 1 (fu<|(i:Int)+1) >>= _) _ _ s from ae<|fF hi hd #[2] ?_)
  have hit':(s.heap.update it (nI (·.setIfInBounds 1 (fu<|(i:Int)+1)))).IsKeyIter it d (i+1) es.size ep:=
   #[_,dA _ hi<|eO<|dk hd _,(gh ..).trans hc,by rw[dk hd];simp[fu]]
  refine ae<|bM<|ae<|mT hit'.typeIs ?_
  exact aw<|aw #[_,rfl,aw<|h1 hlt _ hit'<|cJ ..]
 .obtain⟨hh,hQ⟩:=h2 #[0]
  simp only[by omega,if_false,dN,iC (show es.size<=i by lia)]
  refine ae ?_
  first|refine ae<|fJ hit.typeIs<|aw ?_|refine ae<|gU hit.typeIs<|aw ?_
  show aY _ _ (setField (.ref it) 0 .none >>= _) _ _ s;refine ae<|fF hi hd #[2]<|ae ?_
  simp only[newExc,newTuple];refine ae<|bu ?_ (by size_fits)
  refine ae (fI (by first|rfl|(simp only[firstArgMember];rfl))<|bu ?_ (by size_fits))
  simp only[raiseNew];refine ae<|nG ?_;rw[hh]
  refine ae<|aw<|pG ?_;refine ae<|eE (b:=ao) #[_,aH _ rfl,rfl] m8 ?_;exact aw<|hQ _<|((cJ ..).extBut.push _).push _
end
theorem GM{B β:Type}{F:B->β->Prop}:∀{l:List B}{m:List β}{i:Nat}{p:B},Paired F l m->l[i]?=aa p->∃q,m[i]?=aa q/\F p q
 |_,_,_,_,.nil,e=>by simp at e
 |_,_,0,_,.cons r t,e=>by simp at e;subst e;exact#[_,rfl,r]
 |_,_,i+1,_,.cons r t,e=>by
  obtain⟨q,h1,h2⟩:=GM t (by simpa using e)
  exact#[q,by simpa using h1,h2]
def GV:kH (.type "list") "keys" = cX ai:=by rw[kj];kernel_rfl
def wZ:isSubtype (.type "AttributeError") (.type "AttributeError")=cX ao:=by rw[kU];kernel_rfl
section
variable{prog:bP}{w:b9}{A:cz}{E:aB->aM->Prop}{s:aM}{a:aO}{B:Type}{name msg:bR}
def jJ(he:s.heap.get? e=aa {cls:=.type "AttributeError",data:=.fields vs})(h6:vs[6]?=aa unsetMember)(h7:vs[7]?=aa unsetMember)
  (hQ:∀h',fH e s.heap h'->(∃ob,h'.get? e=aa ob/\ob.cls=.type "AttributeError")->Q () {s with heap:=h' }):aY #[8] A (noteAttr (.ref e) ov nm) Q E s:=by
 have hT:s.TypeIs (.ref e) "AttributeError":=#[_,he,rfl];refine ae<|ae<|eE hT wZ ?_;simp only[rS,fN,if_false];refine ae<|kz he ?_;simp only[h6,h7];rw[T8 #[1],T8 #[1]]
 refine aw ?_;simp only[if_true];refine ae<|gw<|ae<|fM hT ?_;simp only[layMembers];refine ae<|kz he<|wpAny_update he<|hQ _ (cJ ..).extBut #[_,dA _ he<|eO<|dk rfl _,gh ..]
theorem vA{Q:B->aM->Prop}(hh:A.handled=ai)(hm:msg.length<=a9)(hq:∀h' t' e,(∀b o,s.heap.get? b=aa o->h'.get? b=aa o)->(∃ob,h'.get? e=aa ob/\ob.cls=.type "AttributeError")->E (.ref e) {s with heap:=h',toks:=t' }):aY #[8] A (raiseAttrError (.ref a) name msg:pX B) Q E s:=by
 refine ae<|wpAny_mkStr ?_ hm;simp only[newExc,newTuple];refine ae<|ae<|bu ?_ (by size_fits)
 refine ae (fI (by first|rfl|(simp only;rfl)) ?_)
 refine bu ?_ (by size_fits)
 refine ae<|wpAny_mkText<|ae<|jJ (aH _ rfl) rfl rfl λh' eb ob=>?_
 refine wpAny_raiseNew_none hh<|hq _ _ _ (λb o e=>eb b o (λz=>?_)<|au _<|au _ e) ob
 subst z;exact T7 (aG e) (by show¬(s.heap.push _).objs.size<s.heap.objs.size;rw[cP];lia)
end
section
variable{prog:bP}{w:b9}{A:cz}{E:aB->aM->Prop}{h:cQ}{g:Array GenState}{d:Drawn}{t:Nat}{os:OsState}{a:aO}{its:Array aB}{n:Nat}
def vf{Q:Fin->aM->Prop}(hx:h.get? a=aa {cls:=.type "list",data:=.seq its n})(hh:A.handled=ai)(hq:∀h' t' e,(∀b o,h.get? b=aa o->h'.get? b=aa o)->(∃ob,h'.get? e=aa ob/\ob.cls=.type "AttributeError")->E (.ref e) #[h',g,d,t',os]) :
  aY #[8] A (dM.«object.__getattribute__» #[[.ref a,.str "keys" tk],[]]) Q E #[h,g,d,t,os]:=by
 have f4:=GV
 repeat(any_goals (first|assumption|wp_step))
 exact vA hh #[24] hq
def j6{R:si->aM->Prop}(hx:h.get? a=aa {cls:=.type "list",data:=.seq its n})(hh:A.handled=ai)(hq:∀h' t' e,(∀b o,h.get? b=aa o->h'.get? b=aa o)->(∃ob,h'.get? e=aa ob/\ob.cls=.type "AttributeError")->R (.error<|.ref e) #[h',g,d,t',os]) :
  gC #[8] A (.call (.builtin "list.__getattribute__") #[[.ref a,.str "keys" tk],[]]) R #[h,g,d,t,os]:=
 gy F.slot_list_getattribute.plain F.entry_list_ga (F.slot_list_getattribute.check _ _ _ _ _ _ _ _ (#[_,hx,rfl]) (F.args_list_getattribute_2 _ _)<|vf hx hh hq)
def Zer(hx:h.get? a=aa {cls:=.type "list",data:=.seq its n})(hh:A.handled=ai)(hq:∀h' t' e,(∀b o,h.get? b=aa o->h'.get? b=aa o)->(∃ob,h'.get? e=aa ob/\ob.cls=.type "AttributeError")->E (.ref e) #[h',g,d,t',os]):aY #[8] A (getAttrBy (.ref a) (.str "keys" tk) aj) Q E #[h,g,d,t,os]:=by
 have f2:=F.slot_list_getattribute.lookup;have f3:=F.slot_list_getattribute.bind<|.ref a
 repeat(any_goals (first|assumption|wp_step))
 refine j6 hx hh λh' t' e k ob=>?_
 have hTe:(#[h',g,d,t',os]:aM).TypeIs (.ref e) "AttributeError":=ob;have f9:kH (.type "list") "__getattr__" = cX ai:=by rw[kj,builtinLookup_eq_fast];kernel_rfl
 have hE:=hq h' t' e k ob
 repeat(any_goals (first|assumption|with_reducible apply eE hTe wZ|wp_step))
def Zae{Q:Option aB->aM->Prop}(hx:h.get? a=aa {cls:=.type "list",data:=.seq its n})(hh:A.handled=ai)(hq:∀h' t',(∀b o,h.get? b=aa o->h'.get? b=aa o)->Q ai #[h',g,d,t',os]):aY #[8] A (getAttr? (.ref a) "keys") Q E #[h,g,d,t,os]:=by
 refine ae<|wpAny_mkText<|ae<|gO<|Zer hx hh λh' t' e k ob=>?_
 exact ae<|eE (ob) wZ<|aw<|hq h' t' k
end
def WQ:plainId "dict.update.loop" = ao:=by decide +kernel
def JP:rB table "dict.update.loop" = aa dM.«dict.update.loop»:=entryFor_of_tree (by kernel_rfl)
section
variable{prog:bP}{w:b9}{A:cz}{E:aB->aM->Prop}
def wT(hp:ot s.heap p its)(h:Q its.toList s):aY #[8] A (dM.Dict.pairItems<|.ref p) Q E s:=by
 obtain⟨o,ho,hc,n,hd⟩:=hp;refine ae<|fM #[_,ho,hc] ?_;rw[T9 #[1]]
 refine ae<|ae<|kz ho ?_;rw[hd];exact aw<|aw h
def qq{K:Type}[DecidableEq K]{knd:KeyKind prog w K}{k:List K}(x:(dR knd).is h k a)(hk:∀o,h.get? a=aa o->h'.get? a=aa o):(dR knd).is h' k a:=by
 obtain⟨o,its,n,h1,r⟩:=x;exact#[o,its,n,hk _ h1,r]
def Vf{K:Type}[DecidableEq K]{knd:KeyKind prog w K}{h h':cQ}{d:aO}{xs:List (List K×aO×aB)}(x:h.DictOfH (dR knd) d xs)(hd:∀o,h.get? d=aa o->h'.get? d=aa o)(hx:∀x∈xs,∀o,h.get? x.2.1=aa o->h'.get? x.2.1=aa o):h'.DictOfH (dR knd) d xs:=by
 obtain⟨o,es,ep,h1,h2,h3,h4,h5,h6⟩:=x;exact#[o,es,ep,hd _ h1,h2,h3,h4,λy hy=>qq (h5 y hy)<|hx y hy,h6]
abbrev Pr:=List Key×aO×aO
theorem Zco{I d:aO}{fp wr:List aO}{its:Array aB}{St:Nat->cQ->Prop}{R:si->aM->Prop}{h0:cQ}{ps:List Pr}{res:aB}(W:Walks prog w A.in1 I fp wr its.size (λi v=>its[i]?=aa v) St)(hu:A.units+2<dJ)(hf:d∉fp)
  (hl:ps.length=its.size)(hi:∀(i:Nat)(p:Pr),ps[i]?=aa p->its[i]?=aa (cZ p.2.2))
  (hp:∀p∈ps,ot h0 p.2.2 [cZ p.2.1,bF ao].toArray/\(dR<|ZU prog w).is h0 p.1 p.2.1/\p.2.2∉wr/\p.2.2≠d/\p.2.1∉wr/\p.2.1≠d)(hn:(ps.map (·.1)).Nodup)(hz:ps.length<=a9) :
  ∀(k i:Nat)(s:aM),i+k=its.size->i<=its.size->St i s.heap->(∀b o,b∉wr->b≠d->h0.get? b=aa o->s.heap.get? b=aa o)->
  s.heap.DictOfH (dR<|ZU prog w) d ((ps.take i).map λp=>(p.1,p.2.1,bF ao))->
  (∀h' tk,(∀b o,b∉wr->b≠d->h0.get? b=aa o->h'.get? b=aa o)->h'.DictOfH (dR<|ZU prog w) d (ps.map λp=>(p.1,p.2.1,bF ao))->R (.ok<|.ret res) {s with heap:=h',toks:=tk})->
  gC #[8] A (.builtin "dict.update.loop" #[[.ref d,.ref I,fu i,res],[]]) R s:=by
 intro k
 induction k with
 |zero=>
  intro i s hk hi' hst kp dd hR;subst hk;refine dQ JP ?_;rw[dG WQ _];refine ae<|W.done s _ _ hst λh' tk hk'=>?_
  refine ae<|aw<|aw<|hR h' tk (λb o hb hd z=>hk' b o hb<|kp b o hb hd z) ?_
  rw[cA<|by lia]at dd
  exact Vf dd (λo e=>hk' _ o (λz=>hf<|W.sub _ z) e) λx hx o e=>by
   obtain⟨y,hy,rfl⟩:=aF.mp hx;exact hk' _ o (hp y hy).2.2.2.2.1 e
 |succ k ih=>
  intro i s hk hi' hst kp dd hR;have hlt:i<its.size:=by lia
  have hp':=hp _<|aR (l:=ps) (n:=i) #[0]
  have hv:=hi i _<|af (l:=ps) (i:=i) #[0]
  refine dQ JP ?_;rw[dG WQ _];show aY _ A.in1 (ml (.ref I) >>= _) _ _ s;refine ae<|W.item i s _ _ hlt hst λv h' tk hP hst' hk'=>?_
  rw[hv]at hP;cases hP;obtain⟨p1,p2,p3,p4,p5,p6⟩:=hp';have kp2:∀b o,b∉wr->b≠d->h0.get? b=aa o->h'.get? b=aa o:=λb o hb hd z=>hk' b o hb<|kp b o hb hd z
  have dd2:h'.DictOfH (dR<|ZU prog w) d ((ps.take i).map λp=>(p.1,p.2.1,bF ao)):=Vf dd (λo e=>hk' _ o (λz=>hf<|W.sub _ z) e) λx hx o e=>by
   obtain⟨y,hy,rfl⟩:=aF.mp hx;exact hk' _ o (hp y<|dm hy).2.2.2.2.1 e
  obtain⟨po,g1,g2,pn,g3⟩:=p1;refine ae<|bM<|ae<|wpAny_tryCatch<|wT (its:=[cZ ps[i].2.1,bF ao].toArray) #[po,kp2 _ _ p3 p4 g1,g2,pn,g3] ?_;have hsz:((ps.take i).map λp=>(p.1,p.2.1,bF ao)).length<=a9:=by rw[av,bS];exact bV (Nat.min_le_right ..) hz
  refine bM<|om (hsz:=hsz) (hZ<|by lia) (qq p2 λo e=>kp2 _ o p5 p6 e) dd2 λh2 dd3 sb=>?_
  refine aw #[iT WQ _,ih (i+1) _ #[0] hlt (W.frame _ _ _ hst' λb hb o e=>(sb.2 b λz=>hf<|z▸hb).trans e) (λb o hb hd z=>(sb.2 b hd).trans<|kp2 b o hb hd z) ?_ hR]
  have hnew:oE ((ps.take i).map λp=>(p.1,p.2.1,bF ao)) ps[i].1=ai:=by
   unfold oE;rw[mz,on];intro x hx z;obtain⟨y,hy,rfl⟩:=aF.mp hx;have hn2:=hn;rw[<-cH i ps,bE,fg,cg<|by lia]at hn2
   exact hn2.2.2 _ (dP hy) _ (dP ak)<|T6 z
  rw[storedH_new hnew]at dd3;rw[ly,af #[0],bE]
  exact dd3
theorem wI{s:aM}{l:aO}{its:Array aB}{n:Nat}{ps:List Pr}{Q:aB->aM->Prop}(hh:A.handled=ai)(hu:A.units+3<dJ)(hx:s.heap.get? l=aa {cls:=.type "list",data:=.seq its n})
  (hl:ps.length=its.size)(hi:∀(i:Nat)(p:Pr),ps[i]?=aa p->its[i]?=aa (cZ p.2.2))
  (hp:∀p∈ps,ot s.heap p.2.2 [cZ p.2.1,bF ao].toArray/\(dR<|ZU prog w).is s.heap p.1 p.2.1)(hn:(ps.map (·.1)).Nodup)(hz:ps.length<=a9)
  (h:∀h' tk,(∀b o,s.heap.get? b=aa o->h'.get? b=aa o)->h'.DictOfH (dR<|ZU prog w) s.heap.objs.size (ps.map λp=>(p.1,p.2.1,bF ao))->Q #[29] {s with heap:=h',toks:=tk}) :
  aY #[8] A (call (.type "dict") [.ref l]) Q E s:=by
 refine callType_codes (Q₁:=λobj s₁=>obj=.ref s.heap.objs.size/\s₁={s with heap:=s.heap.push {cls:=.type "dict",data:=.dict #[]}}) F.kt_called_dict (F.kt_typeCall_dict_1 _) F.entry_dict_init (kt_code_dict_new _ #[rfl,rfl]) ?_
 rintro obj s₁ ⟨rfl,rfl⟩
 have hnew:(s.heap.push {cls:=.type "dict",data:=.dict #[]}).DictOfH (dR<|ZU prog w) s.heap.objs.size []:=cQ.DictOfH.new s.heap;have hx':=au {cls:=.type "dict",data:=.dict #[]} hx;refine#[hnew.typeIs (s:={s with heap:=_}),F.args_dict_init_2 _ _,?_]
 unfold dM.«dict.__init__»;refine ae ?_;unfold dM.Dict.selfAndRest;refine ae<|mR (hnew.typeIs (s:={s with heap:=_})) ?_
 refine aw ?_;show aY _ _ (me "dict.__init__" s.heap.objs.size (.ref l) [] .none) _ _ _;unfold me;refine ae<|fM (T:="list") #[_,hx',rfl] ?_;rw[T9 #[1]]
 refine ae<|Zae hx' hh λh1 t1 k1=>?_
 rw[T9<|show(ai:Option aB).isNone=ao from rfl]
 have hx1:=k1 _ _ hx';obtain⟨od,es,ep,g1,g2⟩:=id hnew;have hd1:s.heap.objs.size<h1.objs.size:=aG<|k1 _ _ g1;have hl0:l<s.heap.objs.size:=aG hx;refine ae<|gw<|ae<|fb (items:=its) #[_,hx1,rfl,n,rfl]<|aw #[iT WQ _,?_];have lt:∀{b:aO}{o:gf},s.heap.get? b=aa o->b∉[h1.objs.size]/\b≠s.heap.objs.size:=λ{b o} e=>by
  have q:=aG e;exact#[λz=>T7 (aZ.mp z)<|a8<|dv q hd1,a8 q]
 refine Zco (A:=A.in1) (h0:=s.heap) (ps:=ps) (i:=0) (s:={s with heap:=h1.push<|YL ao l,toks:=t1}) (Ub (A:=A.in1.in1) hh ao h1.objs.size l (a8<|dv hl0 hd1) its) (by show A.units+1+2<dJ;lia) (λz=>?_) hl hi (λp hq=>?_) hn hz _ (oR _) (c7 _) #[zf,?_] (λb o _ _ e=>au _<|k1 _ _<|au _ e) ?_ λh' tk kp dd=>#[rfl,h h' tk (λb o e=>kp b o (lt e).1 (lt e).2 e) dd]
 .simp only[ay,bx,or_false]at z
  rcases z with z|z
  .exact a8 hd1 z
  .exact ek hl0 z
 .obtain⟨x1,x2⟩:=hp p hq
  obtain⟨_,y1,_⟩:=id x1;obtain⟨_,_,_,y2,_⟩:=id x2;exact#[x1,x2,(lt y1).1,(lt y1).2,(lt y2).1,(lt y2).2]
 .exact#[_,au _ hx1,rfl,n,rfl]
 .exact Vf hnew (λo e=>au _<|k1 _ _ e) λx hx=>by cases hx
end
section
variable{X:Cx}{xw:Nat->Hp->Prop}{U:Mx}{H:Hp}
theorem yA:∀{ds:List D}{ks:List #[28]}{ys:List V},Pv.Ve ds=aa ks->Rq U H ds ys->∃ps:List Pr,ps.map (·.1)=ks.map (·.map cY)/\ps.length=ys.length/\
  ∀(i:Nat) p,ps[i]?=aa p->ys[i]?=aa (.ref p.2.2)/\H p.2.2=aa (.tup [.ref p.2.1,.bl ao])/\H p.2.1=aa (.tup<|p.1.map kV)
 |[],ks,ys,h,r=>by
  cases h;subst r;exact#[[],rfl,rfl,λi p e=>by simp at e]
 |d::ds,ks,ys,h,r=>by
  obtain⟨v,vs,rfl,r1,r2⟩:=r;obtain⟨a,e1,h⟩:=cx.mp (h)
  obtain⟨b,e2,rfl⟩:=bK.mp h;obtain⟨ps,h1,h2,h3⟩:=yA e2 r2;unfold Pv.Zgb at e1;split at e1
  .split at e1
   .rename_i k b hb
    subst hb;obtain⟨p,zs,rfl,hp,rz⟩:=r1.tup';obtain⟨u,u2,rfl,ru,ru2⟩:=yt rz;rw[ru2.bl']at hp;obtain⟨q,ws,rfl,hq,rw'⟩:=ru.tup';rw[XI e1 rw']at hq;refine#[(a.map cY,q,p)::ps,by rw[ba,h1];rfl,by simp[h2],λi y hy=>?_]
    cases i with|zero=>simp at hy;subst hy;exact#[rfl,hp,hq]|succ i=>exact h3 i y (by simpa using hy)
   .cases e1
  .cases e1
theorem JW(hc:X.calm=ao)(hu:X.A.units+7<dJ):ZG X (.type "dict") (UT X.K xw .dictP):=by
 intro pq s Z H vs us Q I r h;obtain⟨U,S,ds,st,rs,h⟩:=h;obtain⟨d,v,z,rfl,r1,hz,h3⟩:=Wi h rs;have hd:∃ds ks,d=.lst ds/\Pv.Ve ds=aa ks/\Ev.Jc ks=ao/\z=.dct (.inr ks):=by
  cases d with
  |lst ds=>
   obtain⟨ks,hk,hz⟩:=cx.mp hz;split at hz
   .cases hz;exact#[ds,ks,rfl,hk,‹_›,rfl]
   .cases hz
  |_=>exact Ev.nos hz
 obtain⟨ds,ks,rfl,hk,hok,rfl⟩:=hd;obtain⟨l,ys,rfl,hl,_,ry⟩:=r1.lst';obtain⟨u,rfl,ru⟩:=X9 r;cases ru;obtain⟨ps,p1,p2,p3⟩:=yA hk ry;obtain⟨_,its,c,rv,hg⟩:=(I.hok l _ hl)
 obtain⟨k1,k2⟩:=(aA _ _).mp hok;have hn:(ps.map (·.1)).Nodup:=by
  rw[p1];exact List.Pairwise.map _ (λa b ne e=>ne<|G9 e)<|T6 k2
 have hlen:ps.length=ks.length:=by have:=congrArg ig p1;simpa using this
 have hz:ps.length<=a9:=by rw[hlen,<-zy];exact T6 k1
 have hp0:H s.heap.objs.size=ai:=I.hok.fresh<|aJ _;refine wI (I.ok.hd hc) #[0] hg (by rw[p2,rv.length,aD]) (λi p e=>?_) (λp hp=>?_) hn hz λh' tk kp dd=>?_
 .obtain⟨w',g',ru'⟩:=rv.get (p3 i p e).1
  rw[ru']at g'
  simpa using g'
 .obtain⟨i,hi,e⟩:=bY hp
  obtain⟨_,a2,a3⟩:=p3 i p (by rw[<-e];exact af hi)
  obtain⟨_,zs,rz,tz⟩:=(I.hok _ _ a2)
  refine#[?_,Uw I.hok a3];cases rz with
  |cons x rz=>cases rz with
   |cons y rz=>
    cases rz;cases(x)
    cases(show _=bF ao from y)
    exact tz
 .obtain⟨od,es,ep,g1,g2,g3,g4,g5,g6⟩:=dd
  have hb:=beq_eq_false_iff_ne.mpr<|ek I.big;have hpr:∀{l:List Pr},(∀p∈l,H p.2.1=aa (.tup<|p.1.map kV))->Paired (λ(p:List Key×V) (q:List Key×aO×aB)=>p.1=q.1/\upd H s.heap.objs.size (.frz od<|.dT<|ps.map λp=>(p.1,V.bl ao)) q.2.1=aa (.tup<|p.1.map kV)/\ZA p.2 q.2.2) (l.map λp=>(p.1,V.bl ao)) (l.map λp=>(p.1,p.2.1,bF ao)):=λ{l}=>by
   induction l with|nil=>intro _;exact .nil|cons p l ih=>intro hl;exact .cons #[rfl,by rw[Zk<|Yu (hl p ak) hp0];exact hl p ak,rfl]<|ih λq hq=>hl q<|am _ hq
  refine#[.ref s.heap.objs.size,upd H s.heap.objs.size<|.frz od<|.dT<|ps.map λp=>(p.1,V.bl ao),I.laid (t':=tk) kp (aJ _) (show Z7 X.prog X.w _ h' _ (.frz od<|.dT<|ps.map λp=>(p.1,V.bl ao))from#[g1,by rw[av];exact hz,hb,ps.map λp=>(p.1,p.2.1,bF ao),hpr λp hp=>?_,od,es,ep,g1,g2,g3,g4,g6]),rfl,?_]
  .obtain⟨i,hi,e⟩:=bY hp
   exact(p3 i p<|by rw[<-e];exact af hi).2.2
  .exact h3 U _ _ (ZB hp0) (st.fresh hp0) (by unfold Rep;exact#[_,rfl,od,_,Zm,by rw[bL];exact p1])
end
section
variable{X:Cx}{xw:Nat->Hp->Prop}{fr:Bool}{C:Calls}{ns:List Nat}{e a:Expr}{i:E}{pos p p' p2:iV}{n:Nat}{x:bR}{q:Option bR}
def ZdA{q}(ha:CE X xw C a i):CE X xw C (.Subscript a (.Constant (.int 0) q p2) pos) (.dix i aj):=.mk <| PE.imp (Zbc zd ha.h QW<|by intro _ _;with_unfolding_all rfl)<|by
 left;rw[Pv.ZdS]at h;refine#[U,l,S,st,lr,h.bind λx S1 ρ1 H1 v f1 st1 r1 h1=>?_]
 cases x with|drw=>obtain⟨p,rfl,hn⟩:=r1.drw';exact#[p,_,0,_,rfl,rfl,SqL.of (st1.dw p hn).1,rfl,End.ok h1 st1<|ZT _]|_=>exact h1.elim
def ZeM{q}(ha:CE X xw C a i):CE X xw C (.Subscript a (.Constant (.int 1) q p2) pos) (.dix i ao):=.mk <| PE.imp (Zbc zd ha.h QW<|by intro _ _;with_unfolding_all rfl)<|by
 left;rw[Pv.ZdS]at h;refine#[U,l,S,st,lr,h.bind λx S1 ρ1 H1 v f1 st1 r1 h1=>?_]
 cases x with|drw=>obtain⟨p,rfl,hn⟩:=r1.drw';exact#[p,_,1,_,rfl,rfl,SqL.of (st1.dw p hn).1,rfl,End.ok h1 st1<|Yn _]|_=>exact h1.elim
def Zfv{q}(he:CE X xw C e i)(hN:X.N[n]?=aa x)(hv:Vis X.env.scope x)(hd:(x == #[11])=aj)
  (hcd:(x == #[23])=aj)
  (ha:∀v,eB (.Subscript (.Name x p') (.Constant (.int 0) q p2) p) X.env v=(do
   let ov <-lg [v] (cR (.Name x p') X.env)
   let iv <-lg [v,ov] (cR (.Constant (.int 0) q p2) X.env)
   ou p
   lg [v,ov,iv] (sh ov iv v)
   release [v,ov,iv] []))(hs:fm [.Subscript (.Name x p') (.Constant (.int 0) q p2) p] e pos.line X.env=cX aj)(hw:fq [.Subscript (.Name x p') (.Constant (.int 0) q p2) p] e X.env=cX ai)
  (h1:(cD [.Subscript (.Name x p') (.Constant (.int 0) q p2) p] X.env).map (·.2)=[eB (.Subscript (.Name x p') (.Constant (.int 0) q p2) p) X.env]):CS X xw fr C ns (.Assign [.Subscript (.Name x p') (.Constant (.int 0) q p2) p] e pos) (.dset n i):=.mk <|
 PS.imp (Uk he.h (ZgF (YY hN hv hd hcd) QW (ZcX) ha) hs hw h1)<|by
 right;rw[Pv.ZgN]at h;refine#[U,l,S,st,en.all,ZF.bind en h λy S1 H1 v f1 st1 r1 h1=>?_]
 cases y with
 |int y=>
  obtain⟨hk,h1⟩:=h1.guard;have hx:l[n]?=aa (aa .drw):=by
   cases z:l[n]? with
   |none=>rw[z]at h1;exact h1.elim
   |some o=>cases o with
    |none=>rw[z]at h1;exact h1.elim
    |some d=>cases d<;>rw[z]at h1<;>first|rfl|exact h1.elim
  rw[hx]at h1;obtain⟨u,hu,r⟩:=(en.mono f1).all.val n .drw hx;obtain⟨a,rfl,hn⟩:=r.drw';obtain⟨e1,_⟩:=st1.dw a hn;refine#[.ref a,hu,a,_,0,0,rfl,rfl,e1,rfl,?_];rw[r1.int'];have f2:Fut U H1 U (upd H1 a<|.lst [.int y,.bl S1.2]):=#[rfl,λb o z=>by
   by_cases c:b=a
   .subst c;rw[e1]at z;cases z;exact .inr<|.inl #[hn,_,rfl]
   .exact .inl (by rw[Zk c];exact z)]
  refine h1 _ Z W #[st1.hk,λb x=>?_,λb x=>?_,st1.tb.upd (λo u z=>by rw[e1]at z;cases z) λ_ z=>by cases z]<|(en.mono f1).mono f2
  .by_cases c:b=a
   .rw[c];rw[Zm];intro z;cases z
   .rw[Zk c];exact st1.xd b x
  .rw[hn]at x
   cases x;exact#[Zm,hk]
 |_=>exact h1.elim
end
open Ev in
noncomputable def Vd:Fn:=#[2,4,
 [.ite (.dix (.v 0) ao) [.asg [2]<|.bin .mod (.dix (.v 0) aj)<|.v 1,
  .dset 0 (.bin .fdiv (.dix (.v 0) aj)<|.v 1),
  .ret (.v 2)] [],
  .dset 0 (.bin .mod (.bin .add (.bin .mul (.dix (.v 0) aj)<|.n 48271)<|.n 29)<|.n 2147483647),
  .asg [3] (.bin .mod (.bin .add (.bin .add (.bin .mul (.dix (.v 0) aj)<|.dix (.v 0) aj)<|.bin .mul (.n 39373)<|.dix (.v 0) aj)<|.n 7)<|.n 2147483629),
  .asg [3] (.bin .mod (.bin .add (.bin .mul (.v 3)<|.v 3)<|.bin .mul (.n 16807)<|.v 3)<|.n 2147483587),
  .ret (.bin .mod (.bin .fdiv (.v 3)<|.n 8)<|.v 1)]]
open Ev Pv in
def WR(h0:0<=a)(h:a<4294967296):fits a=ao:=by
 refine T5 ?_;have h1:a.natAbs<2^32:=by lia
 exact bn h1<|dH #[1] #[1]
open Ev Pv in
def YA{s:ZO}{m:Int}(h:okS s.1 s.2=ao)(m0:0<m)(m1:m<1073741824):yd C Vd [.drw,.int m] s=.ok (.int (Wx s m).1) (Wx s m).2:=by
 obtain⟨a,b⟩:=s;unfold okS at h;have hm:muts Vd.body=[]:=rfl;unfold yd;rw[hm];have ha:0<=a:=T6 ((aA _ _).mp h).1;have lt8:(8:Int)<big:=Zb9 #[1]
 cases b with
 |true=>
  have o2:okS (a / m) ao=ao:=by simp[okS];exact Int.ediv_nonneg ha #[0]
  simp[Vd,Wx,rvs,rE1,rE9,zc,ZgN,pvA,pE1,pE2,pE7,ZdS,YS,PR.bind,po,Zy,ZQ,ofD,VY,Pv.UX,m0,m1,Zb9 m1,o2,hide]
 |false=>
  have x0:0<=(a*48271+29)%2147483647:=by lia
  have x1:(a*48271+29)%2147483647<2147483647:=by lia
  generalize hxx:(a*48271+29)%2147483647=x at x0 x1;have y0:0<=(x*x+39373*x+7)%2147483629:=by lia
  have y1:(x*x+39373*x+7)%2147483629<2147483629:=by lia
  generalize hyy:(x*x+39373*x+7)%2147483629=y at y0 y1;have f1:=WR x0 #[0]
  have f3:fits 48271=ao:=WR #[0] #[0]
  have f4:fits 39373=ao:=WR #[0] #[0]
  have f5:fits 16807=ao:=WR #[0] #[0]
  have o2:okS x aj=ao:=by simp[okS,x0,x1]
  simp[Vd,Wx,rvs,rE1,rE9,zc,ZgN,pvA,pE1,pE2,pE7,ZdS,YS,PR.bind,po,Zy,ZQ,ofD,VY,Pv.UX,m0,m1,lt8,(WR ha #[0]),hxx,hyy,f1,(WR y0 #[0]),f3,f4,f5,o2,hide]
def ZdT{K:ap}:∀U S H ds vs,St3 K U S H->Rq U H ds vs->Pv.Zl F tk (d+1) tk ds S=.no\/Pv.Zl F tk (d+1) tk ds S=yd (Pv.Zl F tk d) Vd ds S:=λU S H ds vs st r=>by
 rw[Pv.Zl,T9 rfl];unfold Pv.ZfV;split
 .rename_i m
  obtain⟨v,u,rfl,r1,_⟩:=yt r;obtain⟨a,_,hn⟩:=r1.drw';split
  .rename_i hm
   exact .inr (YA (st.dw a hn).2 hm.1 hm.2).symm
  .exact .inl rfl
 .exact .inl rfl
def qi{K:ap}(hn:n≠tk)(hf:F[n]?=aa fn):∀U S H ds vs,St3 K U S H->Rq U H ds vs->Pv.Zl F tk (d+1) n ds S=.no\/Pv.Zl F tk (d+1) n ds S=yd (Pv.Zl F tk d) fn ds S:=λU S H ds vs st r=>by
 rw[Pv.Zl,T8 hn,hf]
 all_goals exact .inr rfl
def Zed(h:Pv.Jt v=aa d):v=.lst [.int d.1,.bl d.2]/\Pv.okS d.1 d.2=ao:=by
 unfold Pv.Jt at h;split at h
 .split at h
  .cases h;exact#[rfl,‹_›]
  .cases h
 .cases h
def yk{l:Lc}{i:Nat}(h:(l.map Pv.JT)[i]?=aa (aa d)):l[i]?=aa (aa d)/\d.flat=ao:=by
 rw[aK]at h;cases q:l[i]? with
 |none=>rw[q]at h;cases h
 |some o=>
  rw[q]at h;obtain⟨a,b⟩:=Option.filter_eq_some_iff.mp<|aq h;exact#[by rw[a],b]
def Zan{l:Lc}{i:Nat}{d:D}(h:(Pv.V3 n l)[i]?=aa (aa d)):l[i]?=aa (aa d)/\d.flat=ao:=by
 unfold Pv.V3 at h;rw[List.getElem?_append]at h;split at h
 .obtain⟨a,b⟩:=yk h
  rw[cE]at a;split at a
  .exact#[a,b]
  .cases a
 .rw[cO]at h
  split at h<;>cases h
def xL :(Pv.V3 n l).length=l.length:=by
 unfold Pv.V3;rw[aU,av,bS,bO];omega
def tCl(X:Cx)(xw:Nat->Hp->Prop)(C:Calls)(fi:Nat)(is:List E):TE:=λZ H Q=>tA X xw (Pv.pvs C is) Z H λvs H1=>∃U ds S,St3 X.K U S H1/\Rq U H1 ds vs/\End X.K xw (Wq ao H1) U H1 Q (C fi ds S)
def ZhD{fi:Nat}{y:bR}{is:List E}{ss:List fB}{B:List Sm}(hc:PE X (.Call (.Name y p') (e::es) [] p) (tCl X xw C fi is))(hB:CSs X xw fr C ns ss B)(hN:X.N.Nodup)
  (hi:X.N[n]?=aa x:=by rfl)(hx:L2.Loc X.env.scope x:=by first|exact Or.inl rfl|exact o7 rfl)(hf:X.fn x=ao\/X.env.scope.names.lookup x=aa .local:=by first|exact .inl rfl|exact .inr rfl)
  (hs:fm [.Name x px] (.Call (.Name y p') (e::es) [] p) pos.line X.env=cX aj:=by rfl)(hw:fq [.Name x px] (.Call (.Name y p') (e::es) [] p) X.env=cX ai:=by rfl)
  (h1:(cD [.Name x px] X.env).map (·.2)=[eB (.Name x px) X.env]:=by rfl) :
  CSs X xw fr C ns (.Assign [.Name x px] (.Call (.Name y p') (e::es) [] p) pos::ss) [.cel n fi is B]:=.mk <|
 PSs.imp (YU (Uk hc (zR hN hi hx hf) hs hw h1) hB.h)<|by
 right;have h:ZF fr X.K xw U H0 D (Pv.rv C ns (.cel n fi is B) l os S):=by
  rw[Pv.rvs]at h;cases q:Pv.rv C ns (.cel n fi is B) l os S with|no=>rw[q]at h;exact h|ex c s=>rw[q]at h;exact h|ok g s=>rw[q]at h;cases g<;>exact h
 rw[Pv.Zis]at h;obtain⟨ho,h⟩:=h.guard;refine#[U,l,S,st,en.all,ZF.bind en h λxs S1 H1 vs f1 st1 r1 h1=>?_]
 refine#[U,xs,S1,st1,r1,ZF.bind (en.mono f1) h1 λv S2 H2 u f2 st2 r2 h2=>?_]
 obtain⟨d,hd,h3⟩:=ZF.ob h2;obtain⟨rfl,hok⟩:=Zed hd;obtain⟨a,rfl,na⟩:=r2.2 rfl _ rfl;obtain⟨_,us,z,ea,_,ru⟩:=r2.1.lst';cases z;obtain⟨u1,u2,rfl,q1,q2⟩:=yt ru;cases q1.int';cases q2.bl';have en2:=(en.mono f1).mono f2;have nX:∀q,U.X q->q≠a:=λq x z=>st1.xd q x<|z▸na
 let ρ':Mx:=#[U.K,aa a,λq=>U.X q\/q=a,λq h=>.inr (aq h).symm]
 have st':St3 X.K ρ' d H2:=#[st2.hk,λq x=>x.elim (st2.xd q) λz=>(by rw[z,ea];intro w;cases w),λq x=>(by cases x;exact#[ea,hok]),st2.tb]
 have en':Eu ρ' H2 (λ_=>ai) ((Pv.V3 n l).set n<|aa .drw) [] (Z.set n<|aa<|.ref a) H2:=by
  refine#[Fut.refl _ _,st'.xd,by rw[bD,bD,xL];exact en.len,λ_=>rfl,λ_ _ _ z=>?_,λ_ _ z=>?_,λ_ _ z=>?_,λi w q _=>?_]
  .cases z
  .cases z
  .cases z
  .rcases ya q with⟨rfl,z,hl⟩|⟨c,z⟩
   .cases z
    exact#[.ref a,bg (by rw[<-en.len,<-xL (n:=n)];exact hl),by unfold Rep;exact#[a,rfl,rfl]]
   .obtain⟨z,hfl⟩:=Zan z
    obtain⟨v,hv,r⟩:=en2.all.val i w z;exact#[v,by rw[bc c];exact hv,Rep.flat (U:=U) (ρ':=ρ'.ex λ_=>ai) rfl (λ_ _ z _ _=>z) hfl r]
 have n0:∀{b},b≠a->ρ'.n0≠aa b:=λc w=>T7 (aq w).symm c
 have keep:∀{H'},Fut ρ' H2 ρ' H'->∀b o,b≠a->H2 b=aa o->(∀ps,o≠.tbl ps)->H' b=aa o:=λ{H'} f b o c z n=>(f.keep b o z).elim id λw=>w.elim (λw=>T7 w.1<|n0 c) λ#[#[ps,e],_]=>T7 e<|n ps
 have back:∀{H':Hp}{s:ZO},Fut ρ' H2 ρ' H'->St3 X.K ρ' s H'->St3 X.K U S2 H'/\Fut U H0 U H':=λ{H' s} f w=>by
  refine#[#[st2.hk,λq x=>?_,λq x=>?_,w.tb],rfl,λb o z=>?_]
  .exact f.there (n0<|nX q x)<|st2.xd q x
  .obtain⟨e1,e2⟩:=st2.dw q x
   exact#[keep f q _ (nX q<|U.xz q x) e1 (by intro _ z;cases z),e2]
  .have ne:b≠a:=λc=>by rw[c,yI (en.mono f1) st1 na]at z;cases z
   rcases en2.fut.keep b o z with y|y|⟨e,ps,y⟩
   .rcases f.keep b o y with q|q|q
    .exact .inl q
    .exact T7 q.1<|n0 ne
    .exact .inr<|.inr q
   .exact .inr<|.inl y
   .rcases f.keep b _ y with q|⟨_,xs,q⟩|⟨_,q⟩
    .exact .inr<|.inr #[e,ps,q]
    .cases q
    .exact .inr<|.inr #[e,q]
 have backE:∀{H':Hp}{s:ZO}{W':Own}{l':Lc}{os':List Nat}{σ':L2.St},Eu ρ' H2 W' l' os' σ' H'->St3 X.K ρ' s H'->St3 X.K U S2 H'/\Eu U H0 (λ_=>ai) (l'.map Pv.JT) [] σ' H':=λ{H' s W' l' os' σ'} g w=>by
  obtain⟨a1,a2⟩:=back g.fut w;refine#[a1,a2,en.xd,by rw[av];exact g.len,λ_=>rfl,λ_ _ _ z=>?_,λ_ _ z=>?_,λ_ _ z=>?_,λi w q _=>?_]
  .cases z
  .cases z
  .cases z
  .obtain⟨z,hfl⟩:=yk q
   obtain⟨v,hv,r⟩:=g.all.val i w z;exact#[v,hv,Rep.flat (U:=ρ') (ρ':=U.ex λ_=>ai) rfl (λ_ _ z _ _=>z) hfl r]
 refine#[ρ',H2,λ_=>ai,_,[],d,st',en',?_]
 cases q:Pv.rvs C ns B ((Pv.V3 n l).set n<|aa .drw) [] d with
 |no=>rw[q]at h3;exact h3
 |ex c s=>rw[q]at h3;exact h3.elim
 |ok g s=>
  rw[q]at h3;cases g with
  |nx l' os'=>exact λH' σ' W' w g=>let #[a1,a2]:=backE g w;h3 H' σ' _ a1 a2
  |ret v=>
   obtain⟨hfl,h3⟩:=ZF.guard h3;exact λH' v' f w r=>let #[a1,a2]:=back f w;h3 H' v' a2 a1 #[Rep.flat (U:=ρ') (ρ':=U) rfl (λ_ _ z _ _=>z) hfl r.1,λ_ ds z=>by rw[z]at hfl;cases hfl]
open Ev (ltI YH Zr Yd)
section
variable{prog:bP}{w:b9}{A:cz}{E:aB->aM->Prop}{s:aM}{d:aO}{ep:Nat}{od:gf}{es:Array iq}
theorem qx(lo:(d == db)=aj)(hc:od.ExactDict)(hdat:od.data=.dict es ep):kW prog w "dict" d d es.size (λi v=>(es[i]?).map (·.key)=aa v) (λh=>h.get? d=aa od) where
 type:=λ_ hm=>#[_,hm,hc.1]
 there:=λ_ hm=>#[aG hm,aG hm]
 keep:=λ_ _ hm hk=>hk d (.inl rfl) _ hm
 notList:=by decide
 notTuple:=by decide
 hint:=λ_ _ _ _ hm hq=>PySem.W.kdl_hint_dict #[_,hm,hc.1] hq
 iter:=λA s hh hm=>by
  refine#[_,λi h=>h.IsKeyIter s.heap.objs.size d i es.size ep/\h.get? d=aa od,λE Q hq=>jv lo hm hc hdat hq,?_,#[_,aH _ rfl,rfl,rfl],au _ hm]
  exact{
   sub:=λb hb=>by simp at hb;simp[hb]
   frame:=λ_ _ _ st hk=>#[st.1.at λo e=>hk _ #[2] o e,hk d #[2] _ st.2]
   item:=λi s' Q E hi st hQ=>JQ st.1 st.2 hdat (λhlt h' hit' sb=>hQ _ h' s'.toks (by simp[hlt]) #[hit',sb.extBut _ _ (a8<|aG hm) st.2] λb o hb e=>sb.extBut b o (λz=>hb<|by simp[z]) e) λz=>T7 hi #[0]
   done:=λs' Q E st hQ=>JQ st.1 st.2 hdat (λhlt _ _ _=>T7 hlt<|by lia) λ_=>#[hh,λh' eb=>hQ h' s'.toks λb o hb e=>eb b o (λz=>hb<|by simp[z]) e]
   self:=λ_ _ _ _ st hQ=>wpAny_pyIter_keyiter st.1 hQ}
theorem vT(h:sr (λi v=>(es[i]?).map (·.key)=aa v) acc es.size):acc.toList=es.toList.map (·.key):=by
 refine cc λi=>?_
 by_cases hi:i<es.size
 .have hl:i<acc.size:=by rw[h.1];exact hi
  have:=h.2 i acc[i]<|bp hl;rw[aK,br,br,this,bp hl]
 .rw[bI (by rw[aS,h.1];lia),bI (by simp;lia)]
def we{R:List aB->aM->Prop}(K:kW prog w T r d n P OK)(hh:A.handled=ai)(hok:OK s.heap)(hn:n<=a9)
  (h:∀h' tk acc,(∀b o,s.heap.get? b=aa o->h'.get? b=aa o)->s.heap.objs.size<=h'.objs.size->sr P acc n->R acc.toList {s with heap:=h',toks:=tk}):aY #[8] A (collect<|.ref r) R E s:=by
 obtain⟨l1,l2⟩:=K.there _ hok
 let S:=s.heap.objs.size
 have hS:(s.heap.push {cls:=.type "list",data:=.seq #[]}).get? S=aa {cls:=.type "list",data:=.seq #[]}:=aH _ rfl;have fin:∀{h':cQ}{tk c:Nat}{acc:Array aB},(∀b o,b≠S->(s.heap.push {cls:=.type "list",data:=.seq #[]}).get? b=aa o->h'.get? b=aa o)->h'.get? S=aa {cls:=.type "list",dict:=ai,data:=.seq acc c,slots:=#[]}->sr P acc n->R acc.toList {s with heap:=h',toks:=tk}:=
  λk e i=>h _ _ _ (λb o z=>k b o (a8<|aG z)<|au _ z) (gA<|aG e) i
 refine ae<|wpAny_runValue<|dQ entry_proto_collect' ?_;rw[dG PySem.F.plain_proto_collect _];refine ae<|bu<|aw #[iT mf _,dQ entry_list_iadd' ?_];rw[dG mf _];refine dy (PySem.W.kdl_extend (R:=λq s'=>∃h' tk acc c,q=.ok (.ret<|.ref S)/\s'={s with heap:=h',toks:=tk}/\h'.get? S=aa {cls:=.type "list",dict:=ai,data:=.seq acc c,slots:=#[]}/\R acc.toList s') K hh (K.keep _ _ hok λb _ o e=>au _ e) S (ek l1) (ek l2) _ 0 hS (λh' tk acc c k e i=>#[h',tk,acc,c,rfl,rfl,e,fin k e i]) hn) (λf s' x=>?_) λe s' x=>?_
 .cases f with
  |done f=>
   obtain⟨h',tk,acc,c,z,rfl,e,q⟩:=x;cases z;exact ae<|kz e<|aw q
  |again c'=>
   refine#[x.1,fK x.2 λy s2 z=>?_]
   obtain⟨h',tk,acc,c,rfl,rfl,e,q⟩:=z;exact ae<|kz e<|aw q
 .obtain⟨_,_,_,_,z,_⟩:=x
  cases z
theorem wA(hh:A.handled=ai)(lo:(d == db)=aj)(ho:s.heap.get? d=aa od)(hc:od.ExactDict)(hdat:od.data=.dict es ep)(hv:es.toList.map (·.key)=vs)(h64:vs.length<=100000)
  (O:Sq.Ord vs.length lt)(K:Sq.Asks prog w A.in1.in1 s.heap vs κ lt)
  (h:∀p h' tk D n,Sq.Pm vs.length p->Sq.Up (Sq.ltR aj vs.length lt) p vs.length->(∀b o,s.heap.get? b=aa o->h'.get? b=aa o)->s.heap.objs.size<=D->h'.get? D=aa (fR "list" (da<|bC aj<|p.toList.map λi=>(bC aj vs).getD i bw) n)->Q (.ref D) {s with heap:=h',toks:=tk}) :
  aY #[8] A (call (.builtin "sorted") [.ref d]) Q E s:=by
 have hl:vs.length=es.size:=by rw[<-hv];simp
 refine Calls.call_function_entry pN oO oP (args_sorted1 _) ?_;unfold dM.«sorted»;refine ae<|aw ?_;refine ae<|we (qx lo hc hdat) hh ho (by rw[dg];lia) λh1 tk acc hk big hacc=>?_
 rw[vT hacc,hv];refine ae<|lO ?_ (by rw[dg];lia)
 have hoL:(h1.push<|fR "list" vs.toArray 0).get? h1.objs.size=aa (fR "list" vs.toArray 0):=aH _ rfl;refine ae (bM (cq ni #[_,hoL,rfl] mJ (by
  rw[Sq.J3];exact Sq.list_sort_rev hoL h64 (λb o e=>by
   have hlt:=aG<|hk b o e;exact#[a8 hlt,au _<|hk b o e]) O K λp a1 a2=>#[_,rfl,aw #[_,rfl,by
    obtain⟨n,hn⟩:=sortedHeap_at hoL;exact h p _ tk _ n a1 a2 (λb o e=>by
     have hlt:=aG<|hk b o e;rw[sortedHeap_old (a8 hlt) (by rw[oj];exact cB hlt)]
     exact au _<|hk b o e) big hn]])<|args_list_sort _))
end
def Zgj(tk tv:TE):TE:=λZ H Q=>∀p,H p=ai->vx [(tk,tv)] Z (upd H p<|.dT []) λps H2=>∃b r z,ps=[(.ref b,z)]/\H2 b=aa (.tup<|r.map kV)/\H2 p=aa (.dT [])/\Q (.ref p) (upd H2 p<|.dT [(r,z)])
def Zbe(hu:X.A.units+7<dJ)(hk:PE X k tk)(hv:PE X v tv):PE X (.Dict [aa k] [v] pos) (Zgj tk tv):=by
 intro pq s Z H Q I h;have I1:=I.laid (t':=s.toks) (λ_ _ q=>au _ q) (aJ _)<|ZcD s.heap I.big
 rw[arm_eval_Dict,zip_pairTrees [aa k] [v] X.env pos rfl rfl,dictDisplay_pairs (pairTrees [aa k] [v] X.env pos) (by simp[pairTrees]) (by rw[pairTrees_length _ _ _ _ rfl rfl];show 1<17;lia)]
 refine ae<|iR<|ae ?_;refine ae<|pE<|ae<|bM ?_;rw[T9 (by rw[pairTrees_length _ _ _ _ rfl rfl];show 1<=15;lia)]
 refine ae<|thn (Za4 hk hv Ze9 pq _ Z _ _ I1<|h _<|I.hok.fresh<|aJ s.heap.objs.size) λws s2 #[ps,H2,I2,rel,b,r,z,e,hb,hp,q]=>?_
 subst e;cases rel with
 |@cons _ y _ ys h1 t=>
  cases t;obtain⟨u,x⟩:=y;obtain⟨h1,h2⟩:=h1;cases(h1);obtain⟨zz,hd,xs,rl,dd⟩:=ZfA I2.hok hp;cases rl;refine bM ?_;rw[mH];refine ae (ae<|ae<|om ((show X.A.units<dJ by lia)) (Uw I2.hok hb) dd λh' dd' hs=>aw ?_)
  show aY _ _ (m5 [] _ _) _ _ _;rw[rj];refine aw<|aw<|aw<|aw #[.ref s.heap.objs.size,_,?_,rfl,q];obtain⟨o,es,ep,hq,g2,g3,g4,_,g5⟩:=dd';refine zt I2 (by rw[hp];exact fv) hs #[o,hq] #[by show 1<=a9;decide,hd,[(r,b,x)],.cons #[rfl,?_,h2] .nil,o,es,ep,hq,g2,g3,g4,g5]
  rw[Zk (Zf1 hb hp (λz=>nomatch z))]
  exact hb
def xq(h:Rep U H d v)(e:Pv.Zg3 d=aa r):∃b,v=.ref b/\H b=aa (.tup<|(r.map (cY:Int->Key)).map kV):=by
 cases d with|tup ks=>obtain⟨b,xs,rfl,hb,rs⟩:=h.tup';exact#[b,rfl,by rw[hb,XI e rs]]|_=>exact Ev.nos e
def Zfn(h:Rep U H d v)(e:Pv.isT d=ao):v=.bl ao:=by
 cases d with
 |bl b=>cases b with|true=>exact h.bl'|false=>cases e
 |_=>cases e
def jH(h:vs.map (·.1)=ks.map (·.map (cY:Int->Key))):(Vl vs (r.map cY) v).map (·.1)=(Pv.YW ks r).map (·.map cY):=by
 have hv:=Uy (k:=r) h;unfold Pv.YW;cases c:ks.contains r with
 |true=>
  rw[c]at hv;unfold Vl;rw[Wu,hv,T9 rfl,bL,T9 rfl,<-h];refine cn λx _=>?_
  show(if x.1=_ then(x.1,v)else x).1=x.1
  split<;>rfl
 |false=>
  rw[c]at hv;rw[Zbd v (by simpa using hv),bE,h,T8 aT,bE]
  rfl
section
variable{X:Cx}{xw:Nat->Hp->Prop}{fr:Bool}{C:Calls}{ns:List Nat}{e a b c tg:Expr}{i j k:E}{pos p p' p2 dp:iV}{n:Nat}{x:bR}
def ZgV{q:Nat}(hu:X.A.units+7<dJ)(he:CE X xw C e i)(hg:CG X tg [n])(hs:fm [tg] (.Dict [aa e] [.Constant (.bool ao) q p] dp) pos.line X.env=cX aj)(hw:fq [tg] (.Dict [aa e] [.Constant (.bool ao) q p] dp) X.env=cX ai)
  (h1:(cD [tg] X.env).map (·.2)=[eB tg X.env]):CS X xw fr C ns (.Assign [tg] (.Dict [aa e] [.Constant (.bool ao) q p] dp) pos) (.dnw n i):=.mk <| PS.imp (Uk (Zbe hu he.h uJ) hg.h hs hw h1) λD Z H #[U,H0,W,l,os,S,st,en,h]=>λa ha=>by
 rw[Pv.Zig]at h;have f0:Fut U H U (upd H a<|.dT []):=ZB ha;have en0:=en.mono f0;refine#[U,l,S,st.fresh ha,en0.all,ZF.bind en0 h λy S1 H1 v f1 st1 r1 h1=>?_]
 obtain⟨r,hr,h1⟩:=ZF.ob h1;obtain⟨hl,h1⟩:=h1.guard;obtain⟨b,rfl,hb⟩:=xq r1 hr;have nx:=st.nx ha;have hp:=qv f1 nx Zm;have hx:¬(U.ex W).X a:=λz=>z.elim nx λ#[j,w]=>let #[_,_,_,z]:=en.own j a w;T7 ha z.ne
 have f2:Fut U H U (upd H1 a<|.dT [(r.map cY,.bl ao)]):=#[rfl,λc o z=>by
  have ne:c≠a:=λq=>by rw[q,ha]at z;cases z
  rw[Zk ne];exact(f0.trans f1).keep c o z]
 refine#[b,r.map cY,.bl ao,rfl,hb,hp,h1 _ _ _ ?_<|en.takeO st.xd f2 ha hx #[_,Zm,rfl] hl];exact#[st1.hk,λc z=>by rw[Zk λq:c=a=>nx (by rw[<-q];exact z)];exact st1.xd c z,λc z=>by rw[Zk λq:c=a=>nx (by rw[<-q];exact U.xz c z)];exact st1.dw c z,st1.tb.upd (λo u z=>by rw[hp]at z;cases z) λ_ z=>by cases z]
theorem ZdU{ix:Expr}{ii:E}(hu:X.A.units+7<dJ)(hi:CE X xw C ix ii)(he:CE X xw C e i)(hN:X.N[n]?=aa x)(hv:Vis X.env.scope x)(hd:(x == #[11])=aj)(hcd:(x == #[23])=aj)
  (hs:eV e (aa<|.Subscript (.Name x p') ix p) pos.line X.env=cX aj):CS X xw fr C ns (.Assign [.Subscript (.Name x p') ix p] e pos) (.dput (.v n) ii i):=.mk <| PS.imp (Zez #[0] (YY hN hv hd hcd) hi.h he.h hs)<|by
 right;rw[Pv.rE7]at h;obtain⟨c,h⟩:=h.guard;refine#[U,l,S,st,en.all,ZF.bind en h λy S1 H1 v f1 st1 r1 h1=>?_]
 obtain⟨ht,h1⟩:=h1.guard;obtain⟨ks,hk,h1⟩:=ZF.ob h1;have en1:=en.mono f1;obtain⟨a,ha⟩:=bQ.mp<|(en.osW n).symm.trans c;have own:∀{H2},Eu U H0 W l os Z H2->Z[n]?=aa (aa<|.ref a)/\∃vs,H2 a=aa (.dT vs)/\vs.map (·.1)=ks.map (·.map cY):=λ{H2} en=>by
  obtain⟨d,p,q,r⟩:=en.own n a ha;rw[p]at hk;cases d with|dow ks'=>cases hk;exact#[q,r]|_=>cases hk
 refine#[.ref a,(own en1).1,U,l,S1,st1,en1.all,ZF.bind en1 h1 λz S2 H2 w f2 st2 r2 h2=>?_]
 obtain⟨r,hr,h2⟩:=ZF.ob h2;obtain⟨hl,h2⟩:=h2.guard;have en2:=en1.mono f2;obtain⟨b,rfl,hb⟩:=xq r2 hr;obtain⟨_,vs,e2,e3⟩:=own en2;have hz:vs.length<a9:=by
  have:=congrArg ig e3;rw[av,av]at this;rw[this];exact hl
 rw[Zfn r1 ht];exact#[a,_,rfl,DPut.t e2 hb hz,h2 _ _ W (st2.mut en2 ha)<|en2.mutO ha #[_,Zm,jH e3]]
def Zje{a:aO}(ok:HOk P w H h)(e:H a=aa (.dT kvs)):(a == db)=aj/\kvs.length<=a9/\
  ∃(o:gf)(es:Array iq)(ep:Nat),h.get? a=aa o/\o.ExactDict/\o.data=.dict es ep/\es.size=kvs.length/\∃qs:List aO,es.toList.map (·.key)=qs.map cZ/\qs.length=kvs.length/\∀(i:Nat) p,kvs[i]?=aa p->∃q,qs[i]?=aa q/\H q=aa (.tup<|p.1.map kV):=by
 obtain⟨z,y,xs,r,o,es,ep,h1,h2,h3,h4,h5⟩:=(ok a _ e);have hl:es.size=kvs.length:=by
  have:=congrArg ig h4;rw[av,<-Paired.length r]at this
  simpa using this
 refine#[y,z,o,es,ep,h1,h2,h3,hl,xs.map (·.2.1),?_,by rw[av,<-Paired.length r],λi p hp=>?_]
 .rw[h4,bL,bL];rfl
 .obtain⟨q,hq,e1,e2,e3⟩:=GM r hp
  exact#[q.2.1,by rw[aK,hq];rfl,e2]
theorem J6 :∀{ks:List #[28]}{qs:List aO},qs.length=ks.length->(∀(i:Nat) k,ks[i]?=aa k->∃q,qs[i]?=aa q/\H q=aa (.tup<|k.map V.int))->Rq U H (ks.map Pv.Zb) (qs.map V.ref)
 |[],[],_,_=>Rq.nil
 |k::ks,q::qs,hl,h=>by
  obtain⟨q',e,hq⟩:=h 0 k rfl;cases e;exact Rq.cons (Xn hq<|Rq.ints k)<|J6 (by simpa using hl) λi k e=>h (i+1) k e
 |[],_::_,hl,_=>by cases hl
 |_::_,[],hl,_=>by cases hl
theorem Uc:∀qs:List aO,Vals (qs.map V.ref) (qs.map cZ)
 |[]=>.nil
 |q::qs=>.cons rfl<|Uc qs
theorem wp:∀ks,Pv.YE (ks.map Pv.Zb)=aa ks
 |[]=>rfl
 |k::ks=>by
  have hi:∀k,Pv.intsV (k.map Pv.V.int)=aa k:=λk=>by
   induction k with|nil=>rfl|cons n k ih=>show(Pv.intsV<|k.map Pv.V.int).map (n :: ·)=_;rw[ih];rfl
  show(match Pv.intsV (k.map Pv.V.int),Pv.YE (ks.map Pv.Zb)with|some a,aa b=>aa (a::b)|_,_=>ai)=_
  rw[hi,wp ks]
theorem ZaU{v:V}(I:Inv X pq Z H s)(r:Rep U H (.dow ks) v):∃(a:aO)(o:gf)(es:Array iq)(ep:Nat)(qs:List aO),v=.ref a/\(a == db)=aj/\ks.length<=a9/\s.heap.get? a=aa o/\o.ExactDict/\o.data=.dict es ep/\es.size=ks.length/\es.toList.map (·.key)=qs.map cZ/\qs.length=ks.length/\Rq U H (ks.map Pv.Zb) (qs.map V.ref):=by
 obtain⟨a,vs,e,ha,_,hk⟩:=r.dow';obtain⟨lo,hz,o,es,ep,g1,g2,g3,hl,qs,e1,e2,e3⟩:=Zje I.hok ha;have hn:vs.length=ks.length:=by have:=congrArg ig hk;simpa using this
 refine#[a,o,es,ep,qs,e,lo,by lia,g1,g2,g3,by lia,e1,by lia,J6 #[0] λi k q=>?_]
 have e4:=congrArg (·[i]?) hk
 simp only[aK,q]at e4;obtain⟨p,e5,e6⟩:=bK.mp e4;obtain⟨q',e7,e8⟩:=e3 i p e5;rw[e6,bL]at e8;exact#[q',e7,e8]
theorem ji(hc:X.calm=ao):ZG X (.type "list") (GI X.K xw .listD):=by
 intro pq s Z H vs us Q I r h;obtain⟨U,S,ds,st,rs,H0,S0,f0,s0,h⟩:=h;obtain⟨d,v,z,rfl,r1,hz,h⟩:=Wi h rs;cases d with
 |dow ks=>
  cases hz;obtain⟨a,o,es,ep,qs,rfl,lo,hn,g1,g2,g3,g4,g5,g6,rq⟩:=ZaU I r1;obtain⟨u,rfl,ru⟩:=X9 r;cases ru;refine PySem.W.kdl_call (qx lo g2 g3) (I.ok.hd hc) g1 #[0] λh' tk acc c' kp hL hacc=>?_
  refine#[.ref _,_,I.laid (o:=.lst<|qs.map V.ref) kp (aJ _) #[by rw[av];lia,acc.toList,c',by rw[vT hacc,g5];exact Uc qs,hL],rfl,h.newF f0 s0 st rq _<|I.hok.fresh<|aJ _]
 |_=>exact Ev.nos hz
theorem yT(hc:X.calm=ao):ZG X (.builtin "sorted") (GI X.K xw .sortedD):=by
 intro pq s Z H vs us Q I r h;obtain⟨U,S,ds,st,rs,H0,S0,f0,s0,h⟩:=h;obtain⟨d,v,z,rfl,r1,hz,h⟩:=Wi h rs;cases d with
 |dow ks=>
  have hz:(if Yd ks=ao then aa (Pv.V.lst<|(Zr ks).map Pv.Zb)else ai)=aa z:=hz
  split at hz
  case isFalse=>cases hz
  rename_i hok
  cases hz;obtain⟨a,o,es,ep,qs,rfl,lo,hn,g1,g2,g3,g4,g5,g6,rq⟩:=ZaU I r1;obtain⟨u,rfl,ru⟩:=X9 r;cases ru;have rv:=Uc qs;obtain⟨RA,_⟩:=zE I (wp ks) rq rv;obtain⟨hok1,hok3⟩:=(aA _ _).mp hok;obtain⟨hok1,hok2⟩:=(aA _ _).mp hok1;have h64:=T6 hok1;have hnd:=T6 hok2;have hne:∀r∈ks,r≠[]:=λr hr e=>by
   have:=aV.mp hok3 r hr;rw[e]at this;cases this
  have hlen:=RA.length;refine wA (I.ok.hd hc) lo g1 g2 g3 g5 #[0] (xj hnd hlen) (Gf RA hnd hne) λp h' tk D n hp hu kp hD hL=>?_
  rw[<-hlen]at hp hu;have out:=yO hnd hp hu;have hmem:∀i∈p.toList,i<ks.length:=λi hi=>by
   have hp':p.toList.Perm (aC ks.length):=by simpa using bB.mp hp
   exact aI.mp<|hp'.mem_iff.mp hi
  have rx2:=xT rq hmem;have out:(p.toList.map λi=>ks.getD i [])=Zr ks:=out
  rw[out]at rx2;have rv2:=xi rv (by rw[av,g6];exact hmem)
  refine#[.ref D,_,I.laid (o:=.lst<|p.toList.map λi=>(qs.map V.ref).getD i V.non) kp hD #[?_,_,n,rv2,hL],rfl,h.newF f0 s0 st rx2 _<|I.hok.fresh hD]
  rw[av,aS,hp.size];exact hn
 |_=>exact Ev.nos hz
end
end Sd
namespace Sd
open PySem PySem.Spec PyProof.Rows
section
noncomputable def pl(b:Nat):List Nat:=(aC 6).filter b.testBit
def tbl(b:Nat)(led:Bool):SetTable:={mask:=if 5<=(pl b).length then 31 else 7,place:=(pl b).toArray,dummies:=#[],finger:=0,led,moves:=if 5<=(pl b).length then 1 else 0,plain:=ao}
def Zbi(b k:Nat):Nat:=(pl b).countP (· < k)
def GU(b k:Nat)(led:Bool):Bool:=
 b.testBit k||(
  let b':=b ||| 2^k
  let t':=((tbl b led).put k).1
  let n:=(pl b').length
  decide ((tbl b led).freeSlot k=aa (k,aj))&&ag (((tbl b led).put k).2=Zbi b k)&&ag (fk (pl b).toArray (Zbi b k) k=(pl b').toArray)&&t'.fits n&&t'.plain &&
  (if t'.tooFull then ag (t'.relaid ((pl b').map kx).toArray (rC n)=aa (tbl b' led,pO n))&&coversAll (pO n) n&&(tbl b' led).fits n else ag (t'=tbl b' led))&&ag (b'<64))
def ZaX:(aC 64).all (λb=>(aC 6).all λk=>GU b k ao&&GU b k aj)=ao:=by decide +kernel
def ZeD(hb:b<64)(hk:k<6):GU b k led=ao:=by
 obtain⟨h1,h2⟩:=(aA _ _).mp<|aV.mp (aV.mp ZaX b<|aI.mpr hb) k<|aI.mpr hk;cases led
 .exact h2
 .exact h1
def Z5(b:Nat)(tg:Nat->Nat):Array (Int×aB):=((pl b).map λk:Nat=>(((k:Nat):Int),fX k<|tg k)).toArray
def zU{B β:Type}(f:B->β)(xs p)(x:B):fk (xs.map f) p (f x)=(fk xs p x).map f:=by
 unfold fk;simp
def ZiJ(h:k∈pl b):k<6:=aI.mp (bX.mp h).1
def wP(hk:k<6):k∈pl b↔b.testBit k=ao:=#[λh=>(bX.mp h).2,λh=>bX.mpr #[aI.mpr hk,h]]
def Zgu{b k u:Nat}(hk:k<6)(hn:b.testBit k=aj)(h:fk (pl b).toArray (Zbi b k) k=(pl (b ||| 2^k)).toArray) :
  fk (Z5 b tg) (Zbi b k) ((k:Int),fX k u)=Z5 (b ||| 2^k) λi=>if i=k then u else tg i:=by
 have e:Z5 b tg=(pl b).toArray.map λi:Nat=>((i:Int),fX i (if i=k then u else tg i)):=by
  unfold Z5;rw[mh]
  congr 1
  refine cn λi hi=>?_
  rw[T8]
  rintro rfl
  rw[wP hk,hn]at hi;cases hi
 have:=zU (λi:Nat=>((i:Int),fX i (if i=k then u else tg i))) (pl b).toArray (Zbi b k) k
 rw[<-e,h,T9 rfl]at this;rw[this,mh];rfl
def Yt(b tg):(Z5 b tg).size=(pl b).length:=by simp[Z5]
def uN(b tg):(Z5 b tg).map (·.1)=((pl b).map kx).toArray:=by
 unfold Z5;rw[mh,bL];rfl
def ZeV{b k u:Nat}{led:Bool}(hb:b<64)(hk:k<6)(hn:b.testBit k=aj):∃t',layNew (tbl b led) (Z5 b tg) (k:Int) (.int k u)=(Z5 (b ||| 2^k) λi=>if i=k then u else tg i,t',aj,aj)/\t'.plain=ao/\t'.fits (pl (b ||| 2^k)).length=ao/\b ||| 2^k<64/\
  (if t'.tooFull=ao then relayAll t' (Z5 (b ||| 2^k) λi=>if i=k then u else tg i) (rC (pl (b ||| 2^k)).length)=(Z5 (b ||| 2^k) λi=>if i=k then u else tg i,tbl (b ||| 2^k) led,aj)else t'=tbl (b ||| 2^k) led):=by
 have h:=ZeD (led:=led) hb hk;unfold GU at h;rw[hn,lE]at h;simp only[aA,T0]at h;obtain⟨⟨⟨⟨⟨⟨h1,h2⟩,h3⟩,h4⟩,h5⟩,h6⟩,h7⟩:=h;refine#[((tbl b led).put k).1,?_,h5,h4,h7,?_]
 .unfold layNew
  rw[h1]
  dsimp only
  rw[h2,Zgu hk hn h3,Yt];unfold SetTable.orStandIn;rw[h4];rfl
 .cases q:((tbl b led).put k).1.tooFull with
  |false=>
   rw[q]at h6;rw[T8 #[2]]
   rw[T8<|by simp]at h6
   exact T6 h6
  |true=>
   rw[q,T9 rfl]at h6;simp only[aA,T0]at h6;obtain⟨⟨a1,a2⟩,a3⟩:=h6;rw[T9 rfl];unfold relayAll;rw[uN,a1]
   dsimp only
   have e:(pO (pl (b ||| 2^k)).length).filterMap (λx=>(Z5 (b ||| 2^k) λi=>if i=k then u else tg i)[x]?)=Z5 (b ||| 2^k) λi=>if i=k then u else tg i:=by
    refine iO.mp ?_;rw[Array.toList_filterMap,Array.toList_range,<-Yt (b ||| 2^k) λi=>if i=k then u else tg i]
    exact filterMap_getElem?_range _
   rw[e,Yt,a2,a3];rfl
def Zds:(aC 64).all (λb=>(aC 6).all λk=>!b.testBit k||decide (b ||| 2^k=b))=ao:=by decide +kernel
def ZiT(hb:b<64)(hk:k<6)(h:b.testBit k=ao):b ||| 2^k=b:=by
 have:=aV.mp (aV.mp Zds b<|aI.mpr hb) k<|aI.mpr hk;rw[h]at this;exact T6 (by simpa using this)
def Zfp:(aC 64).all (λb=>(tbl b ao).fits (pl b).length&&(tbl b aj).fits (pl b).length)=ao:=by decide +kernel
def VE(hb:b<64):(tbl b led).fits (Z5 b tg).size=ao:=by
 rw[Yt];obtain⟨h1,h2⟩:=(aA _ _).mp<|aV.mp Zfp b<|aI.mpr hb;cases led
 .exact h2
 .exact h1
def ZfX:∀k,k<6->se ((k:Nat):Int)=k:=by decide
def zN(b):(pl b).length<=6:=bV (eS _ _) #[1]
def Za3(prog w b tg):ElemsOf (gX prog w) (Z5 b tg).toList:=λe he=>by
 obtain⟨k,hk,rfl⟩:=aF.mp he;exact#[#[k,iN _ _ _ _,(ZfX k<|ZiJ hk).symm],rfl]
def XT(h:cQ)(a:aO)(b:Nat)(led:Bool):Prop:=∃o ep tg,h.get? a=aa o/\o.ExactSet/\o.data=.set (Z5 b tg) ep (tbl b led)
def XT.keep(S:XT h a b led)(k:∀o,h.get? a=aa o->h'.get? a=aa o):XT h' a b led:=
 let #[o,ep,tg,ho,r]:=S;#[o,ep,tg,k o ho,r]
def XT.store{h:cQ}(ho:h.get? a=aa o)(hd:o.data=.set es ep t):(h.update a<|rE es' t').get? a=aa {o with data:=.set es' (ep+1) t' }:=by
 have:=dA (rE es' t') ho (by rw[putSet_of es' t' hd];rfl)
 rwa [putSet_of es' t' hd]at this
section
variable{prog:bP}{w:b9}{A:cz}{E:aB->aM->Prop}{s:aM}{a:aO}{b k u:Nat}{led:Bool}
def Ze4(hb:b<64)(hk:k<6)(hS:XT s.heap a b led)(h:∀r h',ei a s.heap h'->XT h' a (b ||| 2^k) led->b ||| 2^k<64->Q r {s with heap:=h' }) :
  aY #[8] A (setAddHashed a (.int k u)<|se k) Q E s:=by
 obtain⟨o,ep,tg,ho,hex,hd⟩:=hS;have hf:=VE (led:=led) (tg:=tg) hb;have hel:=Za3 prog w b tg;have hsz:(Z5 b tg).size<scanBound:=by rw[Yt];have:=zN b;unfold scanBound;omega
 refine bM<|ae<|iH ho hd hf ?_
 dsimp only
 rw[byScan_of rfl hsz hel];refine ae<|ae<|gw<|ae<|wpAny_setScan_of (iN _ _ _ _) ho hd hf hel ?_;cases hr:List.findIdx? (λe:Int×aB=>(gX prog w).is (k:Int) e.2) (Z5 b tg).toList with
 |some j=>
  obtain⟨hj,hp,_⟩:=List.findIdx?_eq_some_iff_getElem.mp hr;have hm:=aR hj;generalize (Z5 b tg).toList[j]=e at hm hp;obtain⟨i,hi,rfl⟩:=aF.mp hm;have:=(gX prog w).inj _ _ _ hp<|iN _ _ _ _;have:=kx.inj this;subst this;have hin:=ZiT hb hk<|(wP hk).mp hi;exact aw<|aw<|h aj s.heap (oJ a s.heap) (by rw[hin];exact#[o,ep,tg,ho,hex,hd]) (by rw[hin];exact hb)
 |none=>
  have hn:b.testBit k=aj:=by
   cases q:b.testBit k with
   |false=>rfl
   |true=>
    have hm:(((k:Nat):Int),fX k<|tg k)∈(Z5 b tg).toList:=aF.mpr #[k,(wP hk).mpr q,rfl];have:=List.findIdx?_eq_none_iff.mp hr _ hm;rw[iN]at this;cases this
  obtain⟨t',e1,pn,ft,b64,e2⟩:=ZeV hb hk hn;have b6:=zN (b ||| 2^k);rw[ZfX k hk,e1]
  dsimp only
  generalize hes:(Z5 (b ||| 2^k) λi=>if i=k then u else tg i)=es' at e2
  have hz:es'.size=(pl (b ||| 2^k)).length:=by rw[<-hes,Yt]
  have hz':es'.size<=a9:=by rw[hz,dg];omega
  refine ae<|aw ?_;rw[T9 pn,hashByValue_scannable 8 rfl];refine ae<|aw ?_;rw[T9 (show plainKind (.int (k:Int) u)=ao from rfl)]
  refine ae<|oS ho hd ?_ hz';have g1:=XT.store (es':=es') (t':=t') ho hd;have sb1:=cJ s.heap a<|rE es' t';rw[<-hz]at e2;cases q:t'.tooFull with
  |false=>
   rw[q]at e2;subst e2;exact aw<|aw<|h ao _ sb1 #[_,ep+1,λi=>if i=k then u else tg i,g1,hex,by rw[hes]] b64
  |true=>
   rw[q]at e2;rw[e2];refine ae<|aw<|ae<|oS g1 rfl ?_ hz';exact aw<|aw<|h ao _ (sb1.trans<|cJ _ a _) #[_,ep+1+1,λi=>if i=k then u else tg i,XT.store g1 rfl,hex,by rw[hes]] b64
end
noncomputable def bt(v:Nat->Nat):Nat->Nat
 |0=>0
 |i+1=>bt v i ||| 2^v i
def Zcx(led:Bool)(tg):Data.set #[] 0 (.fresh 0 0 led)=.set (Z5 0 tg) 0 (tbl 0 led):=by
 have:pl 0=[]:=by decide
 unfold Z5 tbl;rw[this];rfl
noncomputable def Y0(w:b9):Bool:=!w.params.followText "set-order"
section
variable{prog:bP}{w:b9}{A:cz}{E:aB->aM->Prop}{s:aM}
def ZbI{R:si->aM->Prop}{I:aO}{fp wr:List aO}{n:Nat}{P:Nat->aB->Prop}{St:Nat->cQ->Prop}{led:Bool}(W:Walks prog w A.in1 I fp wr n P St)(S:aO)(hSf:S∉fp)(v:Nat->Nat)(hv:∀i x,P i x->v i<6/\∃t,x=.int (v i) t) :
  ∀(k i:Nat)(s:aM),n-i=k->i<=n->St i s.heap->bt v i<64->XT s.heap S (bt v i) led->
   (∀h' tk,(∀b o,b∉S::wr->s.heap.get? b=aa o->h'.get? b=aa o)->XT h' S (bt v n) led->R (.ok<|.ret .none) {s with heap:=h',toks:=tk})->gC #[8] A (.builtin "set.update.loop" #[[.ref S,.ref I],[]]) R s:=by
 have hSw:=λz=>hSf<|W.sub _ z
 intro k
 induction k with
 |zero=>
  intro i s hk hi st hb hS hR;obtain rfl:i=n:=by omega
  refine dQ mi ?_;rw[dG iu _];exact ae<|W.done s _ _ st λh' tk kp=>aw<|hR h' tk (λb o z e=>kp b o (λy=>z<|am _ y) e)<|hS.keep λo e=>kp S o hSw e
 |succ k ih=>
  intro i s hk hi st hb hS hR;have lt:i<n:=by omega
  refine dQ mi ?_;rw[dG iu _];refine ae<|W.item i s _ _ lt st λx h1 tk hP st1 kp=>?_
  obtain⟨h6,t,rfl⟩:=hv i x hP;refine ae<|bM ?_;refine bM<|ae<|(gX prog w).pyHash (iN _ _ _ _) ?_;refine Ze4 hb h6 (hS.keep λo e=>kp S o hSw e) λr h2 sb hS2 b64=>?_
  refine aw #[iT iu _,ih (i+1) _ #[3] lt (W.frame _ _ _ st1 λb z o e=>?_) b64 hS2 λh3 tk3 kp3 hS3=>hR h3 tk3 (λb o z e=>kp3 b o z ?_) hS3]
  .rw[sb.2 b λy=>hSf<|y▸z];exact e
  .rw[sb.2 b λy=>z (by rw[y];exact ak)];exact kp b o (λy=>z<|am _ y) e
def Zex(a:aB)(h:Q #[29] {s with heap:=s.heap.push {cls:=.type "set",dict:=ai,data:=.set #[] 0 (.fresh 0 0<|Y0 w)}}) :
  gC #[8] A (.call (.builtin "set.__new__") #[[.type "set",a],[]]) (wants Q E) s:=by
 refine codeAny_of_tree ?_;refine ae<|fI (F.newCall_set_1 a)<|aw #[iT pU _,dQ F.entry_set_new ?_];rw[dG pU _];unfold dM.«set.__new__» dM.Frozenset.newClass;have hsub:=sub_set_self;obtain⟨hp,g,d,tk,os⟩:=s
 wp_walk
 refine gF<|aw ?_;dsimp only;simp only[newObj];exact ae<|pE<|aw<|aw h
set_option maxHeartbeats 3200000 in
def ZcC{l:aO}{items:Array aB}{v:Nat->Nat}{Q:aB->aM->Prop}(hh:A.handled=ai)(hl:s.heap.IsList l items)(hv:∀i x,items[i]?=aa x->v i<6/\∃t,x=.int (v i) t)
  (h:∀h' tk,XT h' s.heap.objs.size (bt v items.size) (Y0 w)->(∀b o,s.heap.get? b=aa o->h'.get? b=aa o)->Q #[29] {s with heap:=h',toks:=tk}):aY #[8] A (call (.type "set") [.ref l]) Q E s:=by
 obtain⟨c,tl,hmro⟩:=F.called_set.mro;have hmade:=F.called_set.made;have hsub:=F.called_set.sub;refine nS<|codeAny_of_tree ?_;show aY _ _ (callAny (.type "set") _) _ _ _;refine aw #[oo _ #[24],dQ F.entry_type_call ?_];rw[cz.under_plain (weight_type_call_type "set" [.ref l] []) rfl]
 have h1:=F.called_set.notType;have h2:=F.called_set.canCreate;have hct:=F.typeCall_set_1<|.ref l
 repeat(any_goals (first|assumption|wp_step))
 let so:gf:={cls:=.type "set",dict:=ai,data:=.set #[] 0 (.fresh 0 0<|Y0 w)}
 refine fK (Zex (.ref l) (E:=E) (Q:=λobj s1=>obj=.ref s.heap.objs.size/\s1={s with heap:=s.heap.push so}) #[rfl,rfl]) λr s1 hr=>?_
 cases r with
 |error e=>exact hr
 |ok fl=>
  cases fl with
  |ret obj=>
   obtain⟨rfl,rfl⟩:=hr;have hS:(s.heap.push so).get? s.heap.objs.size=aa so:=aH _ rfl;have hT:aM.TypeIs {s with heap:=s.heap.push so} #[29] "set":=#[_,hS,rfl]
   have hli:=F.called_set.init.lookup;have hbi:=F.called_set.init.bind<|.ref s.heap.objs.size
   repeat(any_goals (first|assumption|wp_step))
   refine fK (gy (R:=wants (λr s2=>r=.none/\∃h' tk,s2={s with heap:=h',toks:=tk}/\XT h' s.heap.objs.size (bt v items.size) (Y0 w)/\∀b o,s.heap.get? b=aa o->h'.get? b=aa o) E) F.called_set.init.plain F.entry_set_init<|check_set_init_1 hT ?_) λr2 s2 hr2=>?_
   .obtain⟨⟨ocls,odict,odata,oslots⟩,hol,hcl,nl,hdl⟩:=hl
    simp only at hcl hdl;subst hcl hdl;have hol':(s.heap.push so).get? l=aa {cls:=.type "list",dict:=odict,data:=.seq items nl,slots:=oslots}:=au _ hol;have hsls:=F.sub_list_set;have hslf:=F.sub_list_frozenset;have hne:(nL "list" == nL "dict")=aj:=by decide
    have hl1:(s.heap.push so).IsList l items:=#[_,hol',rfl,nl,rfl];unfold dM.«set.__init__» noKeywords dM.Frozenset.updateFrom;generalize hPI:nO=PI
    wp_walk
    subst hPI;refine fb hl1<|ae<|wpAny_runValue ?_;have hlS:=aG hol;have sz:(s.heap.push so).objs.size=s.heap.objs.size+1:=cP ..;have hh3:A.in1.in1.in1.handled=ai:=by simp[hh]
    refine ZbI (rh hh3 _ l (by rw[sz];exact a8<|cB hlS) items) s.heap.objs.size (by rw[sz];intro z;rcases ay.mp z with z|z;exact T7 z<|a8<|fE _;exact T7 (aZ.mp z)<|ek hlS) v hv (items.size-0) 0 _ #[3] (c7 _) #[#[_,aH _ rfl,rfl,rfl],hl1.push _] (show 0<64 by decide) #[so,0,λ_=>0,au _ hS,#[rfl,rfl,rfl],Zcx _ _] λh' tk kp hS'=>?_
    refine aw ?_;show aY _ _ (rP bw) _ _ _;refine aw #[rfl,h',tk,rfl,hS',λb o e=>kp b o ?_<|au _<|au _ e]
    have:=aG e;rw[sz];intro z;rcases ay.mp z with z|z;exact T7 z<|a8 this;exact T7 (aZ.mp z)<|a8<|cB this
   .cases r2 with
    |error e=>exact hr2
    |ok fl2=>
     cases fl2 with
     |ret r=>
      obtain⟨rfl,h',tk,rfl,hS',hk'⟩:=hr2
      repeat(any_goals (first|assumption|wp_step))
      exact h _ _ hS' hk'
     |_=>exact hr2.elim
  |_=>exact hr.elim
end
def VT:Slot "set_iterator" "__next__" "set_iterator.__next__":=.of (owner:="set_iterator") (n:="__next__") (by rw[kj];kernel_rfl) #[24] #[24] #[24] (by first|(refine .inl ?_;decide +kernel)|(refine .inr ?_;decide +kernel)) (by rw[kU];kernel_rfl)
def yy:Slot "set_iterator" "__iter__" "set_iterator.__iter__":=.of (owner:="set_iterator") (n:="__iter__") (by rw[kj];kernel_rfl) #[24] #[24] #[24] (by first|(refine .inl ?_;decide +kernel)|(refine .inr ?_;decide +kernel)) (by rw[kU];kernel_rfl)
def jD:rB table "set_iterator.__next__" = aa dM.«set_iterator.__next__»:=entryFor_of_tree (by kernel_rfl)
def qM:rB table "set_iterator.__iter__" = aa dM.«dict_keyiterator.__iter__»:=entryFor_alias (id':="dict_keyiterator.__iter__") (by kernel_rfl) rfl #[24] (by kernel_rfl)
def wW:rB table "set.__iter__" = aa dM.«frozenset.__iter__»:=entryFor_alias (id':="frozenset.__iter__") (by kernel_rfl) rfl #[24] (by kernel_rfl)
def ZcM:Manifest.owners.lookup (String.ofList ['r','o','t','a','r','e','t','i','_','t','e','s'].reverse)=aa Manifest.sig_set_iterator:=by kernel_rfl
def ZaS(a):argsOk "set_iterator.__next__" #[[a],[]]:=by unfold argsOk;rw[signature?_of (n:=['_','_','t','x','e','n','_','_']) (by kernel_rfl) ZcM];kernel_rfl
def Zdo(a):argsOk "set_iterator.__iter__" #[[a],[]]:=by unfold argsOk;rw[signature?_of (n:=['_','_','r','e','t','i','_','_']) (by kernel_rfl) ZcM];kernel_rfl
theorem qr{B:Type}{nx:Nat->Nat}:∀(n k:Nat)(l:List B)(out:Array B),l.length=n->(oU nx n k l out).toList.Perm (out.toList++l)
 |0,k,l,out,h=>by
  cases l with|nil=>simp[oU]|cons=>cases h
 |n+1,k,l,out,h=>by
  have hj:nx k%l.length<l.length:=Nat.mod_lt _ #[0]
  unfold oU;rw[af hj];refine(qr n (k+1) _ _<|by rw[List.length_eraseIdx_of_lt hj];lia).trans ?_
  rw[fj,bG];refine List.Perm.append_left _ ?_;rw[List.eraseIdx_eq_take_drop_succ];have e:=cH (nx k%l.length) l;rw[cg hj]at e;have p:(rZ (nx k%l.length) l++l[nx k%l.length]::sd (nx k%l.length+1) l).Perm (l[nx k%l.length]::(rZ (nx k%l.length) l++sd (nx k%l.length+1) l)):=List.perm_middle;exact p.symm.trans (by rw[e])
noncomputable def W8(w:b9)(a:aO)(ep:Nat)(es:Array (Int×aB)):Array (Int×aB):=if w.params.followText "set-order" = ao then pickOrder (w.params.setOrder a ep) es else es
def xt :(W8 w a ep es).toList.Perm es.toList:=by
 unfold W8;split
 .unfold pickOrder
  simpa using qr es.size 0 es.toList #[] #[2]
 .exact cC _
def xN :(W8 w a ep es).size=es.size:=by
 rw[<-aS,xt.length_eq,aS]
def xH(b i:Nat):Nat:=if i=0 then 0 else(pl b).getD (i-1) 0+1
def Xj(w:b9)(b i:Nat):Nat:=if w.params.followText "set-order" = ao then 0 else xH b i
def jR:(aC 64).all (λb=>(aC<|(pl b).length+1).all λi=>ag<|rF (pl b).toArray (xH b i)=i)=ao:=by decide +kernel
def ZbF(hb:b<64)(hi:i<=(pl b).length):rF (pl b).toArray (xH b i)=i:=
 T6 (aV.mp (aV.mp jR b<|aI.mpr hb) i<|aI.mpr<|Nat.lt_succ_of_le hi)
section
variable{prog:bP}{w:b9}{A:cz}{E:aB->aM->Prop}{s:aM}{a it:aO}{b i ep:Nat}{o:gf}{tg:Nat->Nat}
theorem vD(hb:b<64)(hi:i<=(pl b).length)(ho:s.heap.get? a=aa o)(hd:o.data=.set (Z5 b tg) ep (tbl b<|Y0 w))(h:Q (((W8 w a ep<|Z5 b tg)[i]?).map λe=>(e.2,Xj w b<|i+1)) s) :
  aY #[8] A (setNext a (Xj w b i) i ep) Q E s:=by
 have hf:=VE (led:=Y0 w) (tg:=tg) hb;unfold setNext;refine ae<|iH ho hd hf ?_
 dsimp only
 refine ae<|ae<|gF<|aw ?_;unfold W8 Xj at h;unfold Xj;show aY _ _ (if w.params.followText "set-order" = ao then _ else _) _ _ _
 by_cases c:w.params.followText "set-order" = ao
 .rw[T9 c]
  rw[T9 c,T9 c]at h;rw[T8 #[2]]
  refine ae<|ae<|iH ho hd hf ?_
  dsimp only
  refine ae<|ae<|gF<|aw ?_;show aY _ _ (if w.params.followText "set-order" = ao then _ else _) _ _ _
  rw[T9 c];refine ae<|gF<|aw<|aw ?_;rw[T9 c];exact h
 .rw[T8 c]
  rw[T8 c,T8 c]at h;have hl:Y0 w=ao:=by unfold Y0;simp[c]
  rw[hl];have bl:=ZbF hb hi;split
  .rename_i z
   exact T7 (show(!true&&ag ((Z5 b tg).size>1))=ao from z) #[2]
  .refine ae (fI (a:=()) rfl<|aw ?_)
   rw[show(tbl b ao).place=(pl b).toArray from rfl,bl]
   by_cases lt:i<(pl b).length
   .have e1:(Z5 b tg)[i]?=aa ((((pl b)[i]:Nat):Int),fX (pl b)[i]<|tg (pl b)[i]):=by unfold Z5;simp[lt]
    have e2:(pl b).toArray[i]?=aa (pl b)[i]:=by simp[lt]
    rw[e1]at h;rw[e1,e2];have e3:xH b (i+1)=(pl b)[i]+1:=by unfold xH;simp[List.getD,lt]
    rw[e3]at h;exact h
   .have e1:(Z5 b tg)[i]?=ai:=iC (by rw[Yt];lia)
    rw[e1]at h;rw[e1];exact h
def X1(w:b9)(h:cQ)(it a:aO)(b i ep:Nat):Prop:=∃o,h.get? it=aa o/\o.cls=.type "set_iterator"/\o.data=.fields [.int (Xj w b i) 0,.int i 0,.ref a,.int (pl b).length 0,.int ep 0].toArray
def Zbk{Q:aB->aM->Prop}(hb:b<64)(ho:s.heap.get? a=aa o)(hex:o.ExactSet)(hd:o.data=.set (Z5 b tg) ep (tbl b<|Y0 w))
  (hQ:Q #[29] {s with heap:=s.heap.push {cls:=.type "set_iterator",data:=.fields [.int (Xj w b 0) 0,.int 0 0,.ref a,.int (pl b).length 0,.int ep 0].toArray}}):aY #[8] A (nO<|.ref a) Q E s:=by
 have hf:=VE (led:=Y0 w) (tg:=tg) hb;have hT:s.TypeIs (.ref a) "set":=#[_,ho,hex.1];refine lz hT pV<|cq pV hT wW ?_<|F.args_set_iter_1 _;refine ae<|fI rfl<|ae<|ae<|nC ho hd hf<|aw ?_;refine ae<|ae<|iH ho hd hf<|ae<|ae<|gF<|aw<|aw ?_;have nd:∀x:Bool,(!x&&(!(tbl b<|Y0 w).plain&&ag ((Z5 b tg).size>1)))=aj:=λx=>by rw[show(tbl b<|Y0 w).plain=ao from rfl];simp
 split
 .rename_i z
  exact T7 ((nd _).symm.trans z) #[2]
 .refine ae (aw<|ae<|wpAny_setEpoch_of ho hd hf ?_)
  refine ae<|bu<|aw #[_,rfl,"set_iterator",_,#[_,aH _ rfl,rfl],VT.lookup,?_];have z0:Xj w b 0=0:=by unfold Xj;split<;>rfl
  rw[z0]at hQ;rw[Yt]
  simpa[fu]using hQ
def ZbV(hit:X1 w s.heap it a b i ep)(h:Q (.ref it) s):aY #[8] A (nO<|.ref it) Q E s:=by
 have hT:s.TypeIs (.ref it) "set_iterator":=let #[o,h1,h2,_]:=hit;#[o,h1,h2];refine lz hT yy<|cq yy hT qM (aw #[_,rfl,"set_iterator",_,hT,VT.lookup,h])<|Zdo _
theorem yD{Q:Option aB->aM->Prop}(hb:b<64)(hi:i<=(pl b).length)(hit:X1 w s.heap it a b i ep)(ho:s.heap.get? a=aa o)(hd:o.data=.set (Z5 b tg) ep (tbl b<|Y0 w))
  (h1:∀e,(W8 w a ep<|Z5 b tg)[i]?=aa e->∀h',X1 w h' it a b (i+1) ep->ei it s.heap h'->Q (aa e.2) {s with heap:=h' })
  (h2:i=(pl b).length->A.handled=ai/\∀h',fH it s.heap h'->Q ai {s with heap:=h' }):aY #[8] A (ml<|.ref it) Q E s:=by
 have hf:=VE (led:=Y0 w) (tg:=tg) hb;obtain⟨oi,hq,hc,hdi⟩:=id hit;have hT:s.TypeIs (.ref it) "set_iterator":=#[oi,hq,hc];unfold ml;refine ae<|gO<|cw hT VT<|cq VT hT jD ?_<|ZaS _;unfold dM.«set_iterator.__next__» slotArgs;refine ae<|fI rfl<|ae<|wpAny_fieldsOf hq hdi ?_
 dsimp only
 refine ae<|nC ho hd hf ?_;rw[Yt,T8 #[2]]
 simp only[dN];refine ae<|vD hb hi ho hd ?_;cases q:(W8 w a ep<|Z5 b tg)[i]? with
 |some e=>
  refine ae<|fF hq hdi #[2] ?_
  have g1:=dA (nI (·.setIfInBounds 0 (fu ((Xj w b (i+1):Nat):Int)))) hq<|eO<|dk hdi _
  have d1:=dk hdi (·.setIfInBounds 0 (fu ((Xj w b (i+1):Nat):Int)))
  refine ae<|fF g1 d1 #[2] ?_
  have g2:=dA (nI (·.setIfInBounds 1 (fu<|(i:Int)+1))) g1<|eO<|dk d1 _
  refine aw #[_,rfl,aw<|h1 e q _ #[_,g2,?_,?_]<|(cJ ..).trans<|cJ ..]
  .exact(gh ..).trans<|(gh ..).trans hc
  .rw[dk d1];simp[fu]
 |none=>
  have hn:i=(pl b).length:=by
   have:=Array.getElem?_eq_none_iff.mp q;rw[xN,Yt]at this;lia
  obtain⟨hh,hQ⟩:=h2 hn;refine ae<|fF hq hdi #[2]<|ae ?_
  simp only[newExc,newTuple];refine ae<|bu ?_ (by size_fits);refine ae (fI (by first|rfl|(simp only[firstArgMember];rfl))<|bu ?_ (by size_fits))
  simp only[raiseNew];refine ae<|nG ?_;rw[hh];refine ae<|aw<|pG ?_;refine ae<|eE (b:=ao) #[_,aH _ rfl,rfl] m8 ?_;exact aw<|hQ _<|((cJ ..).extBut.push _).push _
def X1.at(hit:X1 w h it a b i ep)(k:∀o,h.get? it=aa o->h'.get? it=aa o):X1 w h' it a b i ep:=
 let #[o,h1,r]:=hit;#[o,k o h1,r]
def ZbG(hT:s.TypeIs (.ref a) "set")(h:Q aj s):aY #[8] A (dM.List.listLengthHint<|.ref a) Q E s:=by
 refine ae<|wpAny_specialOf hT F.slot_set_len.lookup ?_;generalize hid:("set.__len__" : String)=id0
 wp_delta
 rw[show splitId id0=aa ("set","__len__")from by subst hid;decide +kernel];subst hid
 refine ae<|eE (b:=ao) hT (by rw[kU];kernel_rfl) ?_;refine wpAny_ite_split (λz=>T7 z<|by decide) (λ_=>wpAny_ite_split (λ_=>ae<|fM hT<|aw h) λz=>T7 #[24] z)
theorem Zfl(hb:b<64)(hex:o.ExactSet)(hd:o.data=.set (Z5 b tg) ep (tbl b<|Y0 w)):kW prog w "set" a a (pl b).length (λi v=>((W8 w a ep<|Z5 b tg)[i]?).map (·.2)=aa v) (λh=>h.get? a=aa o) where
 type:=λ_ hm=>#[_,hm,hex.1]
 there:=λ_ hm=>#[aG hm,aG hm]
 keep:=λ_ _ hm hk=>hk a (.inl rfl) _ hm
 notList:=by decide
 notTuple:=by decide
 hint:=λ_ _ _ _ hm hq=>ZbG #[_,hm,hex.1] hq
 iter:=λA s hh hm=>by
  refine#[{cls:=.type "set_iterator",data:=.fields [.int (Xj w b 0) 0,.int 0 0,.ref a,.int (pl b).length 0,.int ep 0].toArray},λi h=>i<=(pl b).length/\X1 w h s.heap.objs.size a b i ep/\h.get? a=aa o,λE Q hq=>?_,?_,c7 _,#[_,aH _ rfl,rfl,rfl],au _ hm]
  .exact Zbk hb hm hex hd hq
  .exact{
    sub:=λb hb=>by simp at hb;simp[hb]
    frame:=λ_ _ _ st hk=>#[st.1,st.2.1.at λo e=>hk _ #[2] o e,hk a #[2] _ st.2.2]
    item:=λi s' Q E hi st hQ=>yD hb st.1 st.2.1 st.2.2 hd (λe q h' hit' sb=>hQ _ h' s'.toks (by rw[q];rfl) #[hi,hit',sb.extBut _ _ (a8<|aG hm) st.2.2] λb o hb e=>sb.extBut b o (λz=>hb<|by simp[z]) e) λz=>T7 hi #[0]
    done:=λs' Q E st hQ=>yD hb st.1 st.2.1 st.2.2 hd (λe q _ _ _=>T7 (Array.getElem?_eq_some_iff.mp q).1<|by rw[xN,Yt];lia) λ_=>#[hh,λh' eb=>hQ h' s'.toks λb o hb e=>eb b o (λz=>hb<|by simp[z]) e]
    self:=λ_ _ _ _ st hQ=>ZbV st.2.1 hQ}
end
open L2
section
variable{prog:bP}{w:b9}{A:cz}{E:aB->aM->Prop}{s:aM}{d:aO}
theorem vy{T:String}{n:Nat}{κ:gS}(src:kW prog w T d d n P OK)(hh:A.handled=ai)(hok:OK s.heap)(hv:∀acc,sr P acc n->acc.toList=vs)(hn:n<=100000)(hl:vs.length=n)
  (O:Sq.Ord vs.length lt)(K:Sq.Asks prog w A.in1.in1 s.heap vs κ lt)
  (h:∀p h' tk D n,Sq.Pm vs.length p->Sq.Up (Sq.ltR aj vs.length lt) p vs.length->(∀b o,s.heap.get? b=aa o->h'.get? b=aa o)->s.heap.objs.size<=D->h'.get? D=aa (fR "list" (da<|bC aj<|p.toList.map λi=>(bC aj vs).getD i bw) n)->Q (.ref D) {s with heap:=h',toks:=tk}) :
  aY #[8] A (call (.builtin "sorted") [.ref d]) Q E s:=by
 refine Calls.call_function_entry pN oO oP (args_sorted1 _) ?_;unfold dM.«sorted»;refine ae<|aw ?_;refine ae<|we src hh hok (by rw[dg];lia) λh1 tk acc hk big hacc=>?_
 rw[hv acc hacc];refine ae<|lO ?_ (by rw[dg];lia)
 have hoL:(h1.push<|fR "list" vs.toArray 0).get? h1.objs.size=aa (fR "list" vs.toArray 0):=aH _ rfl;refine ae (bM (cq ni #[_,hoL,rfl] mJ (by
  rw[Sq.J3];exact Sq.list_sort_rev hoL #[0] (λb o e=>by
   have hlt:=aG<|hk b o e;exact#[a8 hlt,au _<|hk b o e]) O K λp a1 a2=>#[_,rfl,aw #[_,rfl,by
    obtain⟨n,hn⟩:=sortedHeap_at hoL;exact h p _ tk _ n a1 a2 (λb o e=>by
     have hlt:=aG<|hk b o e;rw[sortedHeap_old (a8 hlt) (by rw[oj];exact cB hlt)]
     exact au _<|hk b o e) big hn]])<|args_list_sort _))
theorem j9(hi:iS vs ns)(nd:ns.Nodup):Sq.Asks prog w A h vs oneType' (λi j=>ag<|ns.getD i 0<ns.getD j 0):=by
 have hl:=iS.length hi;refine#[λh2 s' E Q k q=>fI (ksk_kind (by simpa using hi)<|by simpa using h2) q,?_,λi j hi' hj s' C E k q=>?_]
 .refine bN.mpr λi j h1 h2 hij e=>?_
  obtain⟨t1,e1⟩:=hi.int_at i vs[i]<|af h1;obtain⟨t2,e2⟩:=hi.int_at j vs[j]<|af h2;rw[e1,e2]at e;have e:=(fX.inj e).1;have g1:i<ns.length:=by lia
  have g2:j<ns.length:=by lia
  rw[az,az,af g1,af g2]at e;exact T7 e<|bN.mp nd i j g1 g2 hij
 .have g1:vs[i]?=aa (vs.getD i bw):=by simp[hi']
  have g2:vs[j]?=aa (vs.getD j bw):=by simp[hj]
  obtain⟨t1,e1⟩:=hi.int_at i _ g1;obtain⟨t2,e2⟩:=hi.int_at j _ g2;rw[e1,e2];exact oneLt_int q
theorem Zdl{ns:List Int}(nd:ns.Nodup)(hl:ns.length=n):Sq.Ord n (λi j=>ag<|ns.getD i 0<ns.getD j 0):=by
 refine#[λi j hi hj ne e=>?_,λi j _ _ e=>?_,λi j k _ _ _ e f=>?_]
 .have:ns.getD i 0≠ns.getD j 0:=λe=>by
   simp at e;have hi':i<ns.length:=by lia
   have hj':j<ns.length:=by lia
   refine ne<|(iF hi' nd).mp ?_;rw[af hi',af hj']at e ⊢;exact congrArg aa e
  have e:=of_decide_eq_false e;exact T5 #[0]
 .have e:=T6 e
  exact T4 #[0]
 .have e:=T6 e
  have f:=T6 f;exact T5 #[0]
theorem Zaw{ns l:List Int}(hp:l.Perm ns)(hs:l.Pairwise (· < ·))(h1:Sq.Pm ns.length p)(h2:Sq.Up (Sq.ltR aj ns.length λi j=>ag<|ns.getD i 0<ns.getD j 0) p ns.length):(p.toList.map λi=>ns.getD i 0)=l:=by
 have hq:p.toList.Perm (aC ns.length):=by simpa using bB.mp h1
 have hl:p.toList.length=ns.length:=by rw[hq.length_eq,bf]
 refine List.Perm.eq_of_pairwise (λa b _ _ x y=>by lia) ?_ hs ?_
 .rw[cS,bN]
  intro i j hi hj hij;have g:=λk hk=>by
   have:=Sq.ZeY (p:=p) (i:=k) (by simpa using hk)
   rw[<-br,af hk]at this;exact aq this
  rw[g i hi,g j hj];exact T6<|h2 i j hij #[0]
 .refine((hq.map _).trans ?_).trans hp.symm
  have e:(aC ns.length).map (λi=>ns.getD i 0)=ns:=by
   refine cc λi=>?_
   rw[aK];by_cases h:i<ns.length
   .rw[bZ h];simp[h]
   .simp[dW h]
  rw[e]
def j4:(aC 64).all (λb=>ag (((pl b).map kx).Pairwise (· < ·)))=ao:=by decide +kernel
theorem VR:∀{l:List (Int×aB)},(∀e∈l,∃t,e.2=.int e.1 t)->iS (l.map (·.2)) (l.map (·.1))
 |[],_=>.nil
 |(n,v)::l,h=>by
  obtain⟨t,e⟩:=h (n,v) ak;have e:v=.int n t:=e;subst e;exact .cons n t<|VR λe he=>h e<|am _ he
theorem Gk(hi:iS vs ns):∀{l:List Nat},(∀i∈l,i<vs.length)->iS (l.map λi=>vs.getD i bw) (l.map λi=>ns.getD i 0)
 |[],_=>.nil
 |i::l,h=>by
  obtain⟨t,e⟩:=hi.int_at i (vs.getD i bw) (by simp[h i ak])
  rw[ba,e];exact .cons _ t<|Gk hi λj hj=>h j<|am _ hj
theorem wN{b:Nat}(hh:A.handled=ai)(hb:b<64)(S:XT s.heap d b (Y0 w))
  (h:∀h' tk D n us,iS us ((pl b).map kx)->(∀b o,s.heap.get? b=aa o->h'.get? b=aa o)->s.heap.objs.size<=D->h'.get? D=aa (fR "list" us.toArray n)->Q (.ref D) {s with heap:=h',toks:=tk}) :
  aY #[8] A (call (.builtin "sorted") [.ref d]) Q E s:=by
 obtain⟨o,ep,tg,ho,hex,hd⟩:=S;have pm:(W8 w d ep<|Z5 b tg).toList.Perm (Z5 b tg).toList:=xt;generalize hsq:W8 w d ep (Z5 b tg)=sq at pm;have hI:=VR λe he=>by
  have:=pm.mem_iff.mp he;obtain⟨k,_,rfl⟩:=aF.mp this;exact#[tg k,rfl]
 have hP:((pl b).map kx).Perm (sq.toList.map (·.1)):=by
  have:=pm.map (·.1)
  have e:(Z5 b tg).toList.map (·.1)=(pl b).map kx:=by
   have:=congrArg ow<|uN b tg
   simpa using this
  rw[e]at this;exact this.symm
 have hS:=T6<|aV.mp j4 b<|aI.mpr hb;have hnd:=hP.nodup_iff.mp<|hS.imp λh e=>by lia
 have hlen:(sq.toList.map (·.2)).length=(pl b).length:=by
  rw[av,pm.length_eq,aS,Yt]
 have hl2:(sq.toList.map (·.1)).length=(sq.toList.map (·.2)).length:=by simp
 refine vy (Zfl hb hex hd) hh ho (λacc ha=>?_) (by have:=zN b;lia) hlen (Zdl hnd hl2) (j9 hI hnd) λp h' tk D n h1 h2 kp hD hL=>?_
 .rw[hsq]at ha
  refine cc λi=>?_
  by_cases hi:i<(pl b).length
  .have hl:i<acc.size:=by rw[ha.1];exact hi
   have:=ha.2 i acc[i]<|bp hl;rw[aK,br,br,this,bp hl]
  .rw[bI (by rw[aS,ha.1];lia),bI (by rw[hlen];lia)]
 .have hq:p.toList.Perm (aC (sq.toList.map (·.2)).length):=by simpa using bB.mp h1
  have out:=Gk hI λi hi=>aI.mp<|hq.mem_iff.mp hi
  rw[<-hl2]at h1 h2;rw[Zaw hP hS h1 h2]at out;exact h h' tk D n _ out kp hD hL
end
def Zjh(te:TE):TE:=λZ H Q=>te Z H λv H1=>∃(a:aO)(ks:List Nat),v=.ref a/\H1 a=aa (.lst (ks.map λk:Nat=>V.int k))/\(∀k∈ks,k<6)/\∀D,H1 D=ai->Q (.ref D) (upd H1 D (.lst ((pl (bt (ks.getD · 0) ks.length)).map λk:Nat=>V.int k)))
theorem ZfZ :∀{n:Nat},(∀i,i<n->v i<6)->bt v n<64
 |0,_=>by show 0<64;decide
 |n+1,h=>Nat.or_lt_two_pow (ZfZ λi hi=>h i<|by lia)<|gz #[1]<|h n #[0]
theorem Ju :∀{ns:List Nat},iS us (ns.map kx)->Vals (ns.map λk:Nat=>V.int k) us
 |[],h=>by cases h;exact .nil
 |n::ns,h=>by
  cases h with|cons _ t h=>exact .cons #[t,rfl]<|Ju h
def wB{X:Cx}{e:Expr}{te:TE}{p p2 p3 pos:iV}(hc:X.calm=ao)(he:PE X e te)(hm1:X.mg "sorted" = ai)(hm2:X.mg "set" = ai)(hg1:Gl X "sorted")(hg2:Gl X "set")
  (hs1:aE [e] X.env=#[27]::aE [] X.env)(hs2:aE [.Call (.Name "set" p2) [e] [] p3] X.env=(aj,cR (.Call (.Name "set" p2) [e] [] p3) X.env)::aE [] X.env) :
  PE X (.Call (.Name "sorted" p) [.Call (.Name "set" p2) [e] [] p3] [] pos) (Zjh te):=by
 intro pq s Z H Q I h;refine dE<|XF I hg1 hm1 #[7] ?_ #[1] #[1]
 refine iL ?_ hs2 rfl;rw[hs2];refine Calls.spliced_cons ?_;refine dE<|XF I hg2 hm2 #[7] ?_ #[1] #[1]
 refine c9 ?_ hs1 rfl;rw[hs1];refine Calls.spliced_cons<|thn (he pq s Z H _ I h) λu s1 #[x,H1,I1,r1,a,ks,ex,ha,h6,q1]=>Calls.spliced_nil ?_
 subst ex;cases(r1);obtain⟨hz,us,n,rel,ho⟩:=I1.hok a _ ha;have hlen:us.length=ks.length:=by rw[<-rel.length,av]
 have hh:=I1.ok.hd hc;have h6':∀i,i<ks.length->ks.getD i 0<6:=λi hi=>by
  rw[az,af hi];exact h6 _<|aR hi
 refine ZcC (v:=(ks.getD · 0)) hh #[_,ho,rfl,n,rfl] (λi x hx=>?_) λh2 tk2 hS k2=>?_
 .have hx':us[i]?=aa x:=by simpa using hx
  have hi:=(aN.mp hx').1;refine#[h6' i #[0],?_]
  obtain⟨y,hy,ry⟩:=rel.get (x:=V.int<|ks.getD i 0) (by rw[aK,af (show i<ks.length by lia),az,af #[0]];rfl)
  rw[hx']at hy;cases hy;exact ry
 .refine Calls.spliced_nil ?_
  have b64:bt (ks.getD · 0) us.toArray.size<64:=ZfZ λi hi=>h6' i (by simpa[hlen]using hi)
  refine wN hh b64 hS λh3 tk3 D m vs hI k3 hD hL=>?_
  have sz:us.toArray.size=ks.length:=by simpa using hlen
  rw[sz]at hI;have le:s1.heap.objs.size<=D:=by
   obtain⟨o,_,_,hg,_⟩:=hS;exact bV (gA<|aG hg) hD
  refine#[.ref D,_,I1.laid (o:=.lst ((pl (bt (ks.getD · 0) ks.length)).map λk:Nat=>V.int k)) (λb o e=>k3 b o<|k2 b o e) le #[?_,vs,m,Ju hI,hL],rfl,q1 D<|I1.hok.fresh le]
  rw[av,dg];have:=zN (bt (ks.getD · 0) ks.length)
  lia
theorem Zai :∀{n:Nat},(bt v n).testBit k=((aC n).map v).contains k
 |0=>by simp[bt]
 |n+1=>by
  show(bt v n ||| 2^v n).testBit k=_;rw[Nat.testBit_or,Zai,pW,Nat.testBit_two_pow];simp[eq_comm]
def ZiU{ks:List Nat}:pl (bt (ks.getD · 0) ks.length)=(aC 6).filter ks.contains:=by
 refine List.filter_congr λk _=>?_
 rw[Zai];have e:(aC ks.length).map (λi=>ks.getD i 0)=ks:=by
  refine cc λi=>?_
  rw[aK];by_cases h:i<ks.length
  .rw[bZ h];simp[h]
  .simp[dW h]
 rw[e]
open Ev (E Sm Fn Bop Cop Ty Bf Mf)
theorem Jg :∀{ds:List D}{ks:List Nat}{vs:List V},Pv.Vq ds=aa ks->Rq U H ds vs->vs=ks.map (λk:Nat=>V.int k)/\∀k∈ks,k<6
 |[],ks,vs,e,h=>by
  cases e;exact#[h,λ_ z=>by cases z]
 |x::r,ks,vs,e,h=>by
  obtain⟨v,us,rfl,h1,h2⟩:=h;cases x with
  |int i=>
   have e:(if 0<=i/\i<6 then(Pv.Vq r).map (i.toNat :: ·)else ai)=aa ks:=e
   split at e
   .rename_i hi
    obtain⟨ks',e1,rfl⟩:=bK.mp e;obtain⟨rfl,h6⟩:=Jg e1 h2;refine#[by rw[h1.int',ba,kn hi.1],λk hk=>?_]
    rcases ay.mp hk with rfl|hk
    .omega
    .exact h6 k hk
   .cases e
  |_=>exact Ev.nos e
theorem JY :∀l:List Nat,Rq U H (l.map λk:Nat=>Pv.V.int k) (l.map λk:Nat=>V.int k)
 |[]=>Rq.nil
 |k::l=>Rq.cons (ZT (k:Int))<|JY l
def vw{X:Cx}{C:Calls}{e:Expr}{i:E}(hc:X.calm=ao)(he:CE X xw C e i)(hm1:X.mg "sorted" = ai)(hm2:X.mg "set" = ai)(hg1:Gl X "sorted")(hg2:Gl X "set")
  (hs1:aE [e] X.env=#[27]::aE [] X.env)(hs2:aE [.Call (.Name "set" p2) [e] [] p3] X.env=(aj,cR (.Call (.Name "set" p2) [e] [] p3) X.env)::aE [] X.env) :
  CF X xw C (.Call (.Name "sorted" p) [.Call (.Name "set" p2) [e] [] p3] [] pos) (.blt .sortedS [i]):=.mk <| PE.imp (wB hc he.h hm1 hm2 hg1 hg2 hs1 hs2)<|by
 left;rw[Pv.Yq,Pv.pvs,Wy]at h;refine#[U,l,S,st,lr,h.bind λx S1 ρ1 H1 v f1 st1 r1 h1=>?_]
 cases f1.eq;rw[Pv.pvs]at h1;obtain⟨z,hz,h1⟩:=End.po h1;cases x with
 |lst ds=>
  obtain⟨ks,e1,rfl⟩:=bK.mp hz;obtain⟨a,us,rfl,ha,_,rs⟩:=r1.lst';obtain⟨rfl,h6⟩:=Jg e1 rs;exact#[a,ks,rfl,ha,h6,by rw[ZiU];exact h1.newF f1 st st1<|JY _]
 |_=>exact Ev.nos hz
end
section
open L2
end
section
open L2
open Ev (ltI YH Zr)
open Ev (E Sm Fn Bop Cop Ty Bf Mf spcs ZiW Yd)
end
end Sd
namespace Sd
open PySem PyProof.Rows L2 Ev
variable{X:Cx}{xw:Nat->Hp->Prop}{C:Calls}{ns:List Nat}{e:Expr}{i:E}{pos:iV}
end Sd
namespace Sd
open PySem PySem.Spec PyProof.Rows L2
open Ev (ltP JF Wh)
open Ev (E Sm Fn Bop Cop Ty Bf Mf ZhZ Y4)
open Ev (So)
open PySem.Builtin.Str (occurrences partsBetween strKind)
end Sd
namespace Gn
open PySem PySem.Spec PyProof.Rows L2
open Ev (E Sm Fn Bop Cop Ty Bf Mf)
open Sd (Calls CompScope cxC hu7)
structure FR where
 x:bR
 st:fB
 N:List bR
 k:Nat
noncomputable def FR.ps(r:FR):List bR:=r.N.take r.k
noncomputable def scB(N:List bR)(k:Nat)(sc:gI):Bool:=
 (match sc.kind with|.function=>ao|_=>aj)&&(!sc.isCoroutine&&(!sc.isGenerator&&(decide N.Nodup&&((N.take k).all (λx=>ag (sc.names.lookup x=aa .local)||decide (sc.names.lookup x=aa .cell))&&sc.names.all λy=>ag<|y.2≠.free))))
def Uh(h:scB N k sc=ao):FnScope N (N.take k) sc:=by
 unfold scB at h;simp only[aA,lB,T0,aV,gY]at h;obtain⟨h1,h2,h3,h4,h5,h6⟩:=h;refine#[?_,h2,h3,h4,?_,h5,h6]
 .cases e:sc.kind<;>rw[e]at h1<;>first|rfl|cases h1
 .rw[bS]
  by_cases hk:k<=N.length
  .rw[g7 hk]
  .rw[Nat.min_eq_right #[3],gE,cA #[3]]
inductive Gv where
 |int (n:Int)|tab (t:List (Int×Int))|str (x:bR)
 deriving DecidableEq
def Zil(K:ap)(mg:bR->Option aB)(x:bR):Gv->Prop
 |.int n=>∃t:Tok,mg x=aa (.int n t)
 |.str z=>∃t:Tok,mg x=aa (.str z t)
 |.tab t=>∃tb:aO,(∀P w,Sd.Zii P w K tb t)/\mg x=aa (.ref tb)
structure Top(K:ap)(mg:bR->Option aB)(fs:List FR)(zs:List bR)(gs:List (bR×Gv))(f:Nat->aO)(fd:Nat->dB):Prop where
 d:∀i r,fs[i]?=aa r->Fun K r.x r.x r.st (f i) (fd i)
 b:∀i r,fs[i]?=aa r->UC K (fd i) r.ps []
 m:∀i r,fs[i]?=aa r->mg r.x=aa (.ref<|f i)
 z:∀x∈zs,mg x=ai
 g:∀y∈gs,Zil K mg y.1 y.2
def GE(r:FR):Prop:=∀(kV doc pm:aB)(an:Option aO)(cdv ct:aB)(us:List aB),us.length=r.ps.length->mV (eA r.x r.x (Xs r.st) (ZE r.st) (Zg r.st) .none kV doc pm an cdv ct) #[us,[]]=cX (r.ps.zip us)
section
variable{x:bR}{st:fB}
abbrev bA(x:bR)(st:fB)(kV doc pm:aB)(an:Option aO)(cdv ct:aB)(us:List aB):=mV (eA x x (Xs st) (ZE st) (Zg st) .none kV doc pm an cdv ct) #[us,[]]
def bd1(h:∀kV doc pm an cdv ct a0,bA x st kV doc pm an cdv ct [a0]=cX ((N.take n).zip [a0]))(hl:(N.take n).length=1:=by rfl):GE #[x,st,N,n]:=λkV doc pm an cdv ct us e=>match us,e.trans hl with|[a0],_=>h kV doc pm an cdv ct a0
def bd2(h:∀kV doc pm an cdv ct a0 a1,bA x st kV doc pm an cdv ct [a0,a1]=cX ((N.take n).zip [a0,a1]))(hl:(N.take n).length=2:=by rfl):GE #[x,st,N,n]:=λkV doc pm an cdv ct us e=>match us,e.trans hl with|[a0,a1],_=>h kV doc pm an cdv ct a0 a1
def bd3(h:∀kV doc pm an cdv ct a0 a1 a2,bA x st kV doc pm an cdv ct [a0,a1,a2]=cX ((N.take n).zip [a0,a1,a2]))(hl:(N.take n).length=3:=by rfl):GE #[x,st,N,n]:=λkV doc pm an cdv ct us e=>match us,e.trans hl with|[a0,a1,a2],_=>h kV doc pm an cdv ct a0 a1 a2
def bd4(h:∀kV doc pm an cdv ct a0 a1 a2 a3,bA x st kV doc pm an cdv ct [a0,a1,a2,a3]=cX ((N.take n).zip [a0,a1,a2,a3]))(hl:(N.take n).length=4:=by rfl):GE #[x,st,N,n]:=λkV doc pm an cdv ct us e=>match us,e.trans hl with|[a0,a1,a2,a3],_=>h kV doc pm an cdv ct a0 a1 a2 a3
end
inductive FnsAt(K:ap):List FR->List aO->List dB->Prop
 |nil:FnsAt K [] [] []
 |cons {x:bR} {st:fB} {N:List bR} {n:Nat} {a:aO} {rs:List FR} {as:List aO} {fds:List dB} {oc kV dc pm cd ct:aB} {od an:Option aO} {sl:Array (Option aB)}
   (h1:gG K bz x=aa (aa<|.ref a)) (h2:K.lookup a=aa #[oc,od,.func<|eA x x (Xs st) (ZE st) (Zg st) .none kV dc pm an cd ct,sl])
   (h3:kA K cd x=ao) (h4:gu K (.ref a)=ao) (h5:GE #[x,st,N,n]) (t:FnsAt K rs as fds) :
   FnsAt K (#[x,st,N,n]::rs) (a::as) (eA x x (Xs st) (ZE st) (Zg st) .none kV dc pm an cd ct::fds)
inductive ZsAt(K:ap):List bR->Prop
 |nil:ZsAt K []
 |cons {x:bR} {zs:List bR} (h:gG K bz x=aa ai) (t:ZsAt K zs):ZsAt K (x::zs)
inductive GsAt(K:ap):List (bR×Gv)->Prop
 |nil:GsAt K []
 |cons {x:bR} {n:Int} {u:Tok} {gs:List (bR×Gv)} (h:gG K bz x=aa (aa<|.int n u)) (t:GsAt K gs):GsAt K ((x,.int n)::gs)
 |tab {x:bR} {a:aO} {es:Array iq} {n:Nat} {tb:List (Int×Int)} {gs:List (bR×Gv)} (h:gG K bz x=aa (aa<|.ref a)) (h2:K.lookup a=aa #[.type "dict",ai,.dict es n,#[]]) (h3:Sd.Xv es.toList tb) (h4:(a == db)=aj) (t:GsAt K gs):GsAt K ((x,.tab tb)::gs)
 |str {x z:bR} {u:Tok} {gs:List (bR×Gv)} (h:gG K bz x=aa (aa<|.str z u)) (t:GsAt K gs):GsAt K ((x,.str z)::gs)
theorem GsAt.get{K:ap}(X:K.In h)(G:h.Ns bz mg):∀{gs:List (bR×Gv)},GsAt K gs->∀y∈gs,Zil K mg y.1 y.2
 |_,.nil,x,h=>by simp at h
 |_,.cons h t,x,m=>by
  rcases ay.mp m with rfl|m
  .exact#[_,iU X G h]
  .exact t.get X G x m
 |_,.str h t,x,m=>by
  rcases ay.mp m with rfl|m
  .exact#[_,iU X G h]
  .exact t.get X G x m
 |_,.tab h h2 h3 h4 t,x,m=>by
  rcases ay.mp m with rfl|m
  .exact#[_,λP w=>Sd.Ze7 h2 h3 h4,iU X G h]
  .exact t.get X G x m
theorem FnsAt.get{K:ap}:∀{fs:List FR}{as:List aO}{fds:List dB},FnsAt K fs as fds->∀i r,fs[i]?=aa r->
  gG K bz r.x=aa (aa<|.ref<|as.getD i 0)/\Fun K r.x r.x r.st (as.getD i 0) (fds.getD i fd0)/\GE r
 |_,_,_,.nil,i,r,e=>by simp at e
 |_,_,_,.cons h1 h2 h3 h4 h5 t,0,r,e=>by
  simp at e;subst e;exact#[h1,ZgR h2 h3 h4,h5]
 |_,_,_,.cons h1 h2 h3 h4 h5 t,i+1,r,e=>by
  obtain⟨a,b,c⟩:=t.get i r (by simpa using e)
  exact#[by simpa using a,by simpa using b,c]
theorem ZsAt.get{K:ap}:∀{zs:List bR},ZsAt K zs->∀x∈zs,gG K bz x=aa ai
 |_,.nil,x,h=>by simp at h
 |_,.cons h t,x,m=>by
  rcases ay.mp m with rfl|m
  .exact h
  .exact t.get x m
def Top.no{K:ap}(T:Top K mg fs zs gs f fd)(h:zs.contains x=ao):mg x=ai:=T.z x (by simpa using h)
noncomputable def csB(sc:gI)(N0:List bR)(scope:gI)(N:List bR)(cap:List Nat)(nl:Nat):Bool:=
 ((N.take nl).all (λx=>ag (scope.names.lookup x=aa .local)||decide (scope.names.lookup x=aa .cell))&&(ag (N.length=nl+cap.length)&&(cap.zipIdx.all (λp=>ag (N[nl+p.2]?=N0[p.1]?)&&ag ((N0[p.1]?).map (λx=>ag<|(x,bJ)∈scope.names)=aa ao)) &&
  ((match scope.kind with|.function=>ao|_=>aj)&&scope.names.all λy=>(!decide (y.2=.cell) || !decide ((y.1,bJ)∈scope.names))&&((!decide (y.2=.local)||decide (scope.names.lookup y.1=aa .local))&&(!decide (y.2=.free)||((ag (sc.names.lookup y.1=aa .cell)||decide (sc.names.lookup y.1=aa .free))&&ag (scope.names.lookup y.1≠aa .local))))))))
def Zh4(h:csB sc N0 scope N cap nl=ao):CompScope sc N0 scope N cap nl:=by
 unfold csB at h;simp only[aA,gY,lB,T0,decide_eq_false_iff_not,aV]at h;obtain⟨_,h1,h2,h3,h4⟩:=h;refine#[?_,λy hy z=>(h4 y hy).1.resolve_left λq=>q z,λy hy z=>?_,λy hy z=>?_,λy hy z=>?_,h1,h2]
 .cases e:scope.kind<;>rw[e]at h3<;>first|rfl|cases h3
 .rcases(h4 y hy).2.1 with q|q
  .exact T7 z q
  .exact q
 .rcases(h4 y hy).2.2 with q|q
  .exact T7 z q
  .exact q.1
 .rcases(h4 y hy).2.2 with q|q
  .exact T7 z q
  .exact q.2
noncomputable def cN(scope:gI)(nl:Nat)(cap:List Nat)(N0:List bR):List bR:=((scope.names.drop 1).take nl).map (·.1)++cap.map λi=>N0.getD i ""
def Zc1(h:csB sc N0 scope (cN scope nl cap N0) cap nl=ao):CompScope sc N0 scope (cN scope nl cap N0) cap nl:=Zh4 h
end Gn
namespace Sd
open PySem PySem.Spec PyProof.Rows L2
def Fly(h:cQ)(e T C:aO):Prop:=
 ∃(oe:gf)(vs:Array aB)(a0:aB)(oT:gf)(ts:Array aB),h.get? e=aa oe/\(oe.cls=.ref C/\vs[0]?=aa a0)/\oe.data=.fields vs/\vs[1]?=aa (.ref T)/\T≠e/\h.get? T=aa oT/\oT.data=.fields ts/\ts[3]?=aa .none
def CX1(P:bP)(w:b9):CXT:=λouter H s E e s'=>
 ∃(a T C:aO)(H':Hp),e=.ref a/\s'.os=s.os/\iQ s'.gens/\Un (frs outer) [] H H' s.heap s'.heap/\HOk P w H' s'.heap/\Fly s'.heap a T C/\s.heap.get? a=ai/\s.heap.get? T=ai/\H' a=ai/\H' T=ai/\E (.ref C) ai H'
def Z7.there(x:Z7 P w H h a o):∃u,h.get? a=aa u:=by
 cases o with|lst xs=>obtain⟨_,_,_,_,e⟩:=x;exact#[_,e]|tup xs=>obtain⟨_,_,_,_,e,_⟩:=x;exact#[_,e]|dK kvs=>obtain⟨_,_,_,_,o,_,_,e,_⟩:=x;exact#[_,e]|dT kvs=>obtain⟨_,_,_,_,o,_,_,e,_⟩:=x;exact#[_,e]|own y=>obtain⟨_,e⟩:=x;exact#[_,e]|frz ob u=>obtain⟨e,_⟩:=x;exact#[_,e]|tbl ps=>exact#[_,(x)]
theorem FunFrames.rebase{h h' base base':cQ}:∀{l:List Env},h.FunFrames base l->(∀b∈frs l,∀o,h.get? b=aa o->∃sl,h'.get? b=aa {o with slots:=sl})->(∀b∈frs l,base'.get? b=ai)->h'.FunFrames base' l
 |[],_,_,_=>trivial
 |env::l,#[hk,#[L,o,hf,hn,ho,hd],hr],k,n=>by
  have hm:L∈frs (env::l):=by unfold frs;rw[cy,hf];exact ak ..
  obtain⟨sl,e⟩:=k L hm o ho;refine#[hk,#[L,_,hf,n L hm,e,hd],FunFrames.rebase hr (λb hb=>k b ?_) λb hb=>n b ?_]
  all_goals unfold frs at hb ⊢;rw[cy,hf];exact am _ hb
structure DefX(X:Cx)(E:XK):Prop where
 xe:X.xe=λe s'=>aY (aW X.prog X.w) X.A (leaving X.env e) (λ_ s''=>CX1 X.prog X.w X.outer X.H₀ X.s₀ E e s'') (λe' s''=>CX1 X.prog X.w X.outer X.H₀ X.s₀ E e' s'') s'
 st:X.stack=X.env::X.outer
 fr:X.env.frame=aa X.env.locals
 ex:X.ex=[]
section
variable{X:Cx}{E:XK}{pq:List (aO×gf)}{Z:L2.St}{H H':Hp}{s s':aM}
def Inv.outside(D:DefX X E)(I:Inv X pq Z H s)(un:Un (frs X.stack) [] H H' s.heap s'.heap)(hos:s'.os=s.os)(bare:iQ s'.gens)(hok:HOk X.prog X.w H' s'.heap)(na:s.heap.get? a=ai)(Ha:H' a=ai)
   (hh:∀b∈hid,b∈frs X.stack\/(s.heap.get? b=ai/\H' b=ai))(st:(eU s'.heap hid).StaysIn h')(up:s'.heap.UpToSlots h')(fl:Fly h' a T C)(hT:(eU s'.heap hid).get? T=ai)(hE:E (.ref C) ai H') :
  CX1 X.prog X.w X.outer X.H₀ X.s₀ E (.ref a) {s' with heap:=h' }:=by
 have U1:=I.base;rw[D.ex]at U1;have sub:∀b∈frs X.outer,b∈frs X.stack:=λb hb=>by
  rw[D.st];unfold frs at hb ⊢;rw[cy,D.fr];exact am _ hb
 have own:∀b o,X.s₀.heap.get? b=aa o->b∈frs X.stack->b∈frs X.outer:=λb o e hb=>by
  rw[D.st]at hb;unfold frs at hb ⊢;rw[cy,D.fr]at hb;rcases ay.mp hb with z|z
  .exact T7 (aG e) (by rw[z];exact mj I.ok.above)
  .exact z
 have nx:∀b,b∉([]:List aO):=λb=>by simp
 have frN:∀b∈frs X.stack,H' b=ai:=λb hb=>by
  obtain⟨_,o,ho,_⟩:=I.stack.mem hb;exact un.free b o ho (I.stkFree b hb)<|nx b
 have hidN:∀b∈hid,H' b=ai:=λb hb=>by
  rcases hh b hb with z|z
  .exact frN b z
  .exact z.2
 have old:∀b o,s.heap.get? b=aa o->b∉frs X.stack->b∉hid:=λb o e hb hm=>by
  rcases hh b hm with z|z
  .exact hb z
  .rw[e]at z;cases z.1
 have keep:=λb u e n=>st b u<|gL _ e n
 have nof:∀b∈frs X.stack,∀o,s'.heap.get? b=aa o->∀vs,o.data≠.fields vs:=λb hb o e=>by
  obtain⟨_,o1,ho,hd⟩:=I.stack.mem hb;obtain⟨sl,e1⟩:=un.any ho (I.stkFree b hb)<|nx b;rw[e]at e1;cases e1;exact hd
 have frS:=λb hb o e=>up b o e<|nof b hb o e
 have trk:∀b u,H' b=aa u->b∉hid:=λb u e hm=>by rw[hidN b hm]at e;cases e
 have hT2:∀o,s'.heap.get? T=aa o->H' T=ai/\s.heap.get? T=ai\/False:=λo e=>by
  by_cases hm:T∈hid
  .rcases hh T hm with z|z
   .obtain⟨oe,vs,a0,oT,ts,_,_,_,_,_,g1,g2,_⟩:=fl
    obtain⟨sl,e2⟩:=frS T z o e;rw[g1]at e2;cases e2;exact T7 g2<|nof T z o e ts
   .exact .inl #[z.2,z.1]
  .rw[gL _ e hm]at hT;cases hT
 refine#[a,T,C,H',rfl,hos.trans I.os,bare,#[λb o e n hb _=>?_,λb o e n hb _=>?_,λb o e n _=>?_,λb o e _=>?_,λb xs e=>un.tups b xs<|U1.tups b xs e,λb o u e=>un.frzs b o u<|U1.frzs b o u e,λb ps e=>?_],λc o e=>?_,fl,?_,?_,Ha,?_,hE]
 .have e1:=U1.keep b o e n hb (nx b)
  have hn:=λz=>hb<|own b o e z
  exact keep b o (un.keep b o e1 (U1.free b o e n<|nx b) hn<|nx b)<|old b o e1 hn
 .obtain⟨sl,e1⟩:=U1.slot b o e n hb (nx b)
  obtain⟨sl2,e2⟩:=un.slot b _ e1 (U1.free b o e n<|nx b) (sub b hb)<|nx b;obtain⟨sl3,e3⟩:=frS b (sub b hb) _ e2;exact#[sl3,e3]
 .obtain⟨o1,e1⟩:=U1.there b o e (nx b)
  exact un.free b o1 e1 (U1.free b o e n<|nx b)<|nx b
 .obtain⟨o1,e1⟩:=U1.there b o e (nx b)
  obtain⟨o2,e2⟩:=un.there b o1 e1<|nx b;by_cases hm:b∈frs X.stack
  .obtain⟨sl,e3⟩:=frS b hm o2 e2
   exact#[_,e3]
  .exact#[o2,keep b o2 e2<|old b o1 e1 hm]
 .obtain⟨m1,e1⟩:=U1.tbls b ps e
  obtain⟨m2,e2⟩:=un.tbls b _ e1;exact#[m1++m2,by rw[e2,nN]]
 .refine(hok c o e).stay (λb u hb q=>?_) (λ_ q=>q) λ_ _ q=>q
  rcases hb with rfl|hb
  .exact keep _ u q<|trk _ _ e
  .exact keep _ u q<|trk _ _ hb
 .cases q:X.s₀.heap.get? a with
  |none=>rfl
  |some o=>
   obtain⟨o1,e1⟩:=U1.there a o q<|nx a;rw[na]at e1;cases e1
 .cases q:X.s₀.heap.get? T with
  |none=>rfl
  |some o=>
   obtain⟨o1,e1⟩:=U1.there T o q<|nx T;obtain⟨o2,e2⟩:=un.there T o1 e1<|nx T;rcases hT2 o2 e2 with z|z
   .rw[e1]at z;cases z.2
   .exact z.elim
 .cases q:H' T with
  |none=>rfl
  |some u=>
   obtain⟨o,e⟩:=Z7.there<|hok T u q;rcases hT2 o e with z|z
   .rw[q]at z;cases z.1
   .exact z.elim
def Zf0(D:DefX X E):Q5 (CX1 X.prog X.w) X E:=by
 rintro pq Z H s e s' I ⟨a,T,C,H',rfl,os,bare,un,hok,fly,na,nT,Ha,HT,hE⟩
 rw[D.xe];have nx:∀b:aO,b∉([]:List aO):=λb=>by simp
 have hfr:X.A.frames=aa (X.env::X.outer):=by rw[<-D.st];exact I.ok.frames
 let hid:=frs X.stack++[a,T]
 have hin:∀b∈frs X.stack,b∈hid:=λb hb=>cT _ hb
 have FF:s'.heap.FunFrames (eU s'.heap hid) (X.env::X.outer):=by
  rw[<-D.st];exact FunFrames.rebase I.stack (λb hb o e=>un.any e (I.stkFree b hb)<|nx b) λb hb=>de _<|hin b hb
 obtain⟨oe,vs,a0,oT,ts,f1,f2,f3,f4,f5,f6,f7,f8⟩:=fly;refine wpAny_leaves_onW hfr D.fr #[λb o e=>hJ _ e,de _<|bq _<|ak ..,FF,oe,vs,T,oT,ts,f1,f2,f3,f4,de _<|bq _<|am _<|ak ..,f5,f6,f7,f8] λh' fl' up=>?_
 obtain⟨g1,_,_,oe',vs',T',oT',ts',e1,e2,e3,e4,e5,e6,e7,e8,e9⟩:=fl';refine Inv.outside D I un os bare hok na Ha (λb hb=>?_) g1 up #[oe',vs',a0,oT',ts',e1,e2,e3,e4,e6,e7,e8,e9] e5 hE
 rcases bU.mp hb with z|z
 .exact .inl z
 .rcases ay.mp z with rfl|z
  .exact .inr #[na,Ha]
  .rw[aZ.mp z];exact .inr #[nT,HT]
end
open Ev (E Sm Fn Bop Cop Ty Bf Mf)
noncomputable abbrev veM:List aB:=[.type "ValueError",.type "Exception",.type "BaseException",.type "object"]
structure Cls1(h:cQ)(S C:aO):Prop where
 ob:∃bm N nm q bs hdct sn sub ab col dd k0 k1 k2 k3 k5 mN,h.get? C=aa (excClassObj nm q C N bs bm hdct sn sub ab col dd k0 k1 k2 k3 k5 "ValueError.__new__")/\h.Ns N mN/\mN "__init__" = ai/\OwnTail h veM bm
section
variable{X:Cx}{E:XK}{S C:aO}{x:bR}{np cpos pos:iV}{e:Expr}{es:List Expr}{t:TA}
def Zh0(C:aO)(E:XK)(t:TA):TS:=λ_ Z H=>t Z H λvs H'=>vs.length<=a9/\E (.ref C) ai H'
def ZaD(D:DefX X E)(hc:X.calm=ao)(O:Cls1 X.base S C)(hg:Gl X x)(hm:X.mg x=aa (.ref C))(ha:PA X (e::es) t)(hd:(x == #[11])=aj)
  (he:aE (e::es) X.env=#[27]::aE es X.env)(hpl:(dS cpos<|aE es X.env).any (·.1)=aj) :
  PS X (.Raise (aa<|.Call (.Name x np) (e::es) [] cpos) ai pos) (Zh0 C E t):=by
 intro pq s Z H Dn I h;obtain⟨bm,N,nm,q,bs,hdct,sn,sub,ab,col,dd,k0,k1,k2,k3,k5,mN,hC,hN,hi,tl⟩:=O.ob;refine wpAny_Raise_call_subT (nm:=nm) (q:=q) (N:=N) (bs:=bs) (hdct:=hdct) (sn:=sn) (sub:=sub) (ab:=ab) (col:=col) (dd:=dd) (k0:=k0) (k1:=k1) (k2:=k2) (k3:=k3) (k5:=k5)
  PySem.F.excBase_ValueError (tl.hasType PySem.F.excBase_ValueError.hasBase) (I.ok.hd hc) (by rw[he];show(aj||(dS cpos<|aE es X.env).any (·.1))=aj;rw[hpl];rfl) hi (V5 I hg hm #[rfl,?_] hd)
 have ha':=ha cpos pq s Z H _ I h;rw[he]at ha' ⊢;refine Calls.evalArgs_plain<|dy ha' (λus s2 #[vs,H2,I2,r2,hl,hE]=>#[rfl,by rw[<-r2.length];exact hl,I2.bk _ _ hC,hN.keeps I2.bk,tl.keeps I2.bk,λh' a hx=>?_]) λ_ _ y=>y
 rw[D.xe];have hfr:X.A.frames=aa (X.env::X.outer):=by rw[<-D.st];exact I2.ok.frames
 let hid:=frs X.stack
 have FF:s2.heap.FunFrames (eU s2.heap hid) (X.env::X.outer):=by
  rw[<-D.st];exact FunFrames.rebase I2.stack (λb hb o e=>#[o.slots,e]) λb hb=>de _ hb
 refine wpAny_leaves_madeW hfr D.fr (λb o e=>hJ _ e) FF hx λh2 t fl _ _ up=>?_
 obtain⟨g1,_,_,oe,vs',T,oT,ts,e1,e2,e3,e4,e5,e6,e7,e8,e9⟩:=fl;have na:=hx.new;have Ha:H2 a=ai:=by
  cases q:H2 a with
  |none=>rfl
  |some u=>
   obtain⟨o,e⟩:=Z7.there<|I2.hok a u q;rw[na]at e;cases e
 exact Inv.outside (s':=s2) (H':=H2) D I2 (Un.kept λb o e=>e) rfl I2.bare I2.hok na Ha (λb hb=>.inl hb) g1
  ((cQ.UpToSlots.of_keeps hx.keeps).trans up) #[oe,vs',.ref t,oT,ts,e1,e2,e3,e4,e6,e7,e8,e9] e5 hE
end
def xwE(cl:List aO)(E:XK):Nat->Hp->Prop:=λc H=>∃C,cl[c]?=aa C/\E (.ref C) ai H
def End.ex_mono{B β:Type}{K:ap}{rep:Mx->Hp->B->β->Prop}{Q:β->Hp->Prop}{r:R B}(k:∀c H,xw c H->xw' c H)(h:End K xw rep U H Q r):End K xw' rep U H Q r:=by
 cases r with|ok d S=>exact h|ex c S=>exact λρ' H' f st=>k c H'<|h ρ' H' f st|no=>exact h
section
variable{X:Cx}{E:XK}{S C:aO}{x:bR}{np cpos pos jp p:iV}{e v1 v2:Expr}{es rest:List Expr}{xw:Nat->Hp->Prop}{cl:List aO}{Cc:Calls}{fr:Bool}{ns:List Nat}{n m:Nat}{is:List Ev.E}{i:Ev.E}
def Zca(D:DefX X E)(hc:X.calm=ao)(O:Cls1 X.base S C)(hn:cl[n]?=aa C)(hg:Gl X x)(hm:X.mg x=aa (.ref C))(hd:(x == #[11])=aj)
  (he:aE [.Constant (.str y) j p] X.env=(aj,cR (.Constant (.str y) j p) X.env)::aE [] X.env)(hpl:(dS cpos<|aE [] X.env).any (·.1)=aj) :
  CS X (xwE cl E) fr Cc ns (.Raise (aa<|.Call (.Name x np) [.Constant (.str y) j p] [] cpos) ai pos) (.raise n []):=.mk <|
 PS.imp (ZaD D hc O hg hm (ZS Zcg Xb he) hd he hpl)<|by
  rintro Dn Z H ⟨U,H0,W,l,os,S,st,en,h⟩;refine#[by show 1<=a9;decide,?_]
  obtain⟨C',e1,e2⟩:=h H en.fut st;rw[hn]at e1;cases e1;exact e2
def spX(K:ap)(cl:List aO)(C:Calls)(fr:Bool)(n:Nat):Sp:=λvs H Q E=>∃U ds S,St3 K U S H/\Rq U H ds vs/\End K (xwE cl E) (Wq fr H) U H Q (C n ds S)
def wj{f:aO}{fd:dB}{ps:List bR}(F:FnOk X.prog X.w X.K X.mg X.base (CX1 X.prog X.w) kk f fd ps (spX X.K cl Cc fr n))(hr:Room kk X.A)(hx:Q5 (CX1 X.prog X.w) X E)(hw:∀c H,xw c H->xwE cl E c H)(hm:X.mg x=aa (.ref f))(hk:gu X.K (.ref f)=ao)(hb:UC X.K fd ps [])
  (ha:CA X xw Cc (e::es) is)(hg:Gl X x)(hdb:(x == #[11])=aj)(he:aE (e::es) X.env=#[27]::aE es X.env)(hpl:(dS pos<|aE es X.env).any (·.1)=aj) :
  CE X xw Cc #[26] (.call n is):=.mk <|
 PE.imp (uA F hr hg hm hk hb .nil hx ha.h hdb he hpl) λZ H Q #[U,l,S,st,lr,h]=>
  #[U,l,S,st,lr,End.bind (h) λxs S1 ρ1 H1 vs f1 st1 r1 h1=>by
   rw[cr];exact#[ρ1,xs,S1,st1,r1,(End.ex_mono hw h1).fr]]
end
section
variable{P:bP}{w:b9}{K:ap}{mg:bR->Option aB}{base:cQ}{cl:List aO}
def ym{n:Nat}{fn:Fn}{fr:Bool}{x qual:bR}{st:fB}{f:aO}{k:Nat}(hF:∀U S H ds vs,St3 K U S H->Rq U H ds vs->C' n ds S=.no\/C' n ds S=yd C fn ds S)(hns:fn.ns=N.length)(hps:fn.ps=ps.length)(Fu:Fun K x qual st f fd)(S:FnScope N ps (Zg st))
  (hb:∀(cdv:aB)(A:cz)(outer:List Env)(s:aM)(H:Hp)(E:XK),Room k (A.deeper<|dU qual (Zg st) s.heap.objs.size f cdv)->
   CSs (Wf (CX1 P w) P w K mg base N qual (Zg st) f cdv A outer s H E) (xwE cl E) fr C (Pv.muts fn.body) (ZE st) fn.body) :
  FnOk P w K mg base (CX1 P w) (k+1) f fd ps (spX K cl C' fr n):=by
 have eq:∀{U S H ds vs Q E},St3 K U S H->Rq U H ds vs->End K (xwE cl E) (Wq fr H) U H Q (C' n ds S)->End K (xwE cl E) (Wq fr H) U H Q (yd C fn ds S):=λ{U S H ds vs Q E} st r h=>by
  rcases hF U S H ds vs st r with e|e
  .rw[e]at h;exact h.elim
  .rwa[e]at h
 obtain⟨oc,od,kV,doc,pm,an,cdv,ct,osl,rfl,lk,hcd⟩:=Fu.ex;refine ZfF lk hcd S (λvs H Q E #[U,ds,S,st,r,h]=>?_) λA outer s H vs Q E hr #[U,ds,S',st,r,h]=>#[_,(hb cdv A outer s H E hr).h,U,H,λ_=>ai,Pv.ZQ fn.ns ds,[],S',st,Eu.start st r N fn.ns hns,wu (λ_ _ q=>q) (λ_ _ q=>q)<|eq st r h]
 have h:=eq st r h;obtain⟨hl,_⟩:=End.guard h;rw[r.length,hl,hps]
def ZaA :FnOk P w K mg base (CX1 P w) k f fd ps (spX K cl (Pv.Zl F tk 0) fr n):=
 #[λvs H Q E #[U,ds,S,st,r,h]=>False.elim h,by rintro A outer s H args us vs Q E hr e0 hb r ⟨U,ds,S,st,r',h⟩;exact False.elim h]
def Zc4{E:XK}:DefX (Wf (CX1 P w) P w K mg base N qual sc f cdv A outer s H E) E:=#[rfl,rfl,rfl,rfl]
def Zij :Q5 (CX1 X.prog X.w) X E0:=by rintro pq Z H s e s' I ⟨_,_,_,_,_,_,_,_,_,_,_,_,_,_,z⟩;exact z.elim
end
end Sd
namespace Sd
open PySem PySem.Spec PyProof.Rows L2 PySem.W
structure ExK(K:Frag)(C:aO):Prop where
 cd:(clsIn K C).isSome=ao
 ga:rG K (.ref C) "__getattribute__" = aa (aa<|.builtin "BaseException.__getattribute__")
 gx:rG K (.ref C) "__getattr__" = aa ai
 gc:rG K (.ref C) "__class__" = aa (aa<|.builtin "object.__class__")
 be:mroIn K C (.type "BaseException")=aa ao
 ob:mroIn K C (.type "object")=aa ao
section
variable{prog:bP}{w:b9}{A:cz}{E:aB->aM->Prop}{h:cQ}{g:Array GenState}{d:Drawn}{t:Nat}{os:OsState}{a C:aO}{o:gf}{K:Frag}
def Zfe{R:si->aM->Prop}(X:K.In h)(k:ExK K C)(hx:h.get? a=aa o)(hc:o.cls=.ref C)(hq:R (.ok<|.ret<|.ref C) #[h,g,d,t,os]) :
  gC #[8] A (.call (.builtin "getset_descriptor.__get__") #[[.builtin "object.__class__",.ref a,.ref C],[]]) R #[h,g,d,t,os]:=by
 have hT5:=iK;have L1:Looks #[8] h (isSubtype (.ref C)<|.type<|".".intercalate ("object.__class__".cutAt '.').dropLast) ao:=by
  rw[F.owner_object_class];exact looks_mroIn X k.ob
 refine gy F.slot_gs_get.plain F.entry_gs_get<|F.slot_gs_get.check _ _ _ _ _ _ _ _ hT5 (F.args_gs_get _ _ _) ?_
 repeat(any_goals (first|assumption|(with_reducible refine gp hx ?_;rw[hc])|with_reducible refine L1.at ?_|wp_step))
 refine#[oo _ #[24],dQ F.entry_object_class ?_]
 repeat(any_goals (first|assumption|(with_reducible refine gp hx ?_;rw[hc])|wp_step))
def qD{Q:Unit->aM->Prop}(X:K.In h)(k:ExK K C)(hx:h.get? a=aa o)(hc:o.cls=.ref C)(hq:Q () #[h,g,d,t,os]) :
  aY M A (checkBuiltinCall "BaseException.__getattribute__" #[[.ref a,nameV],[]]) Q E #[h,g,d,t,os]:=by
 have hk:builtinKind "BaseException.__getattribute__" = aa .slot:=by decide +kernel
 have hsplit:splitId "BaseException.__getattribute__" = aa ("BaseException","__getattribute__"):=by decide +kernel
 have L1:Looks M h (isSubtype (.ref C)<|.type "BaseException") ao:=looks_mroIn X k.be;have ha:=F.args_bexc_ga (.ref a) nameV;simp only[checkBuiltinCall,hk,hsplit];refine ae ?_;unfold isInstance
 repeat(first|(with_reducible refine gp hx ?_;rw[hc])|with_reducible refine L1.at ?_|wp_step)
 exact hq
def j7{Q:Fin->aM->Prop}(X:K.In h)(k:ExK K C)(hx:h.get? a=aa o)(hc:o.cls=.ref C)(hq:Q (.done<|.ret<|.ref C) #[h,g,d,t,os]) :
  aY #[8] A (dM.«object.__getattribute__» #[[.ref a,.str "__class__" tk],[]]) Q E #[h,g,d,t,os]:=by
 have hT5:=iK;have f5:=iK;have f6:=F.slot_gs_get.lookup;have f7:=F.slot_gs_set.lookup;have L1:Looks #[8] h (kH (.ref C) "__class__") (aa<|.builtin "object.__class__"):=oV X k.gc
 repeat(any_goals (first|assumption|(with_reducible refine gp hx ?_;rw[hc])|with_reducible refine L1.at ?_|wp_step))
 refine Zfe X k hx hc ?_
 repeat(any_goals (first|assumption|wp_step))
def Zhw{Q:aB->aM->Prop}(X:K.In h)(k:ExK K C)(hx:h.get? a=aa o)(hc:o.cls=.ref C)(hq:Q (.ref C) #[h,g,d,t,os]) :
  aY #[8] A (getAttrBy (.ref a) (.str "__class__" tk) aj) Q E #[h,g,d,t,os]:=by
 have f3:=PySem.F.excAttr_ValueError.ga.bind<|.ref a;have hx2:(lQ "BaseException.__getattribute__" == lQ "object.__getattribute__")=aj:=by decide +kernel
 have hx1:(onTheHeap (cZ C)&&lQ "BaseException.__getattribute__" == lQ "object.__getattribute__")=aj:=by rw[hx2];rfl
 have L1:Looks #[8] h (kH (.ref C) "__getattribute__") (aa<|.builtin "BaseException.__getattribute__"):=oV X k.ga;have L2:Looks #[8] h (kH (.ref C) "__getattr__") ai:=oV X k.gx
 repeat(any_goals (first|assumption|(with_reducible refine gp hx ?_;rw[hc])|with_reducible refine L1.at ?_|with_reducible refine L2.at ?_|wp_step))
 refine gy PySem.F.excAttr_ValueError.ga.plain F.entry_bexc_ga<|qD X k hx hc<|j7 X k hx hc ?_
 repeat(any_goals (first|assumption|wp_step))
def qF{Q:Option aB->aM->Prop}(X:K.In h)(k:ExK K C)(hx:h.get? a=aa o)(hc:o.cls=.ref C)(hq:Q (aa<|.ref C) #[h,g,d,t+1,os]) :
  aY #[8] A (getAttr? (.ref a) "__class__") Q E #[h,g,d,t,os]:=by
 unfold getAttr? getAttrBy?
 repeat(any_goals (first|assumption|with_reducible apply Zhw X k hx hc|wp_step))
end
def Zbg{K:Frag}{a C:aO}(k:ExK K C):KitX K (.ref a) (.ref C) (λh=>∃o,h.get? a=aa o/\o.cls=.ref C) where
 ty:=λ_ _ _ #[o,hx,hc]=>hc▸(Looks.ld hx).andThen .now
 it:=λ_ _ X _=>by
  have hcD:=k.cd;unfold clsIn at hcD;split at hcD
  .rename_i c' d' cd' sl' ho
   intro A' Q' E' s' kk q;exact ae<|wpAny_loadPart (kk _ _<|X _ _ ho)<|aw q
  .cases hcD
 ne:=λh tp dd its n sl X htp=>by
  have hcD:=k.cd;refine Bool.eq_false_iff.mpr λq=>?_
  have e:=cZ.inj<|beq_iff_eq.mp q;subst e;unfold clsIn at hcD;split at hcD
  .rename_i c' d' cd' sl' ho
   have z:=(X _ _ ho).symm.trans htp;cases z
  .cases hcD
 ca:=λ{_ _ _ _ _ s} X #[o,hx,hc] q=>by obtain⟨h,g,d,t,os⟩:=s;exact qF X k hx hc q
end Sd
namespace Sd
open PySem PySem.Spec PyProof.Rows L2
section
def Inv.slots(D:DefX X E)(I:L2.Inv X pq Z H s)(hh:∀b∈hid,b∈frs X.stack\/(X.s₀.heap.get? b=ai/\H b=ai/\∀p∈X.pn++pq,p.1≠b))
  (st:(eU s.heap hid).StaysIn h')(up:s.heap.UpToSlots h'):L2.Inv X pq Z H {s with heap:=h' }:=by
 have keep:=λb u e n=>st b u<|gL _ e n
 have nof:∀b∈frs X.stack,∀o,s.heap.get? b=aa o->∀vs,o.data≠.fields vs:=λb hb o e=>by
  obtain⟨_,o1,ho,hd⟩:=I.stack.mem hb;rw[e]at ho;cases ho;exact hd
 have frS:=λb hb o e=>up b o e<|nof b hb o e
 have sub:∀b∈X.fs,b∈frs X.stack:=λb hb=>by
  change b∈frs X.outer at hb
  rw[D.st];unfold frs at hb ⊢;rw[cy,D.fr];exact am _ hb
 have own:∀b o,X.s₀.heap.get? b=aa o->b∈frs X.stack->b∈X.fs:=λb o e hb=>by
  rw[D.st]at hb;show b∈frs X.outer;unfold frs at hb ⊢;rw[cy,D.fr]at hb;rcases ay.mp hb with z|z
  .exact T7 (aG e) (by rw[z];exact mj I.ok.above)
  .exact z
 have hidN:=λb hb=>(hh b hb).elim (I.stkFree b) λz=>z.2.1
 have old:∀b o,X.s₀.heap.get? b=aa o->b∉X.fs->b∉hid:=λb o e hb hm=>by
  rcases hh b hm with z|z
  .exact hb<|own b o e z
  .rw[e]at z;cases z.1
 have U:=I.base;refine#[I.ok,I.os,I.bare,#[λb o e n hb hx=>keep b o (U.keep b o e n hb hx)<|old b o e hb,λb o e n hb hx=>?_,U.free,λb o e hx=>?_,U.tups,U.frzs,U.tbls],?_,λy c e=>?_,I.free,I.freeC,λp hp=>?_,λc o e=>?_,I.len]
 .obtain⟨sl,e1⟩:=U.slot b o e n hb hx
  obtain⟨sl2,e2⟩:=frS b (sub b hb) _ e1;exact#[sl2,e2]
 .obtain⟨o1,e1⟩:=U.there b o e hx
  by_cases hm:b∈frs X.stack
  .obtain⟨sl,e2⟩:=frS b hm o1 e1
   exact#[_,e2]
  .refine#[o1,keep b o1 e1 λz=>?_]
   rcases hh b z with q|q
   .exact hm q
   .rw[e]at q;cases q.1
 .obtain⟨m,hn,hl⟩:=I.loc
  refine#[m,up.ns hn,λi x v e1 e2 e3=>?_]
  obtain⟨u,r,q⟩:=hl i x v e1 e2 e3;refine#[u,r,?_];rcases q with q|⟨k,c,e,z⟩
  .exact .inl q
  .refine .inr #[k,c,e,?_]
   obtain⟨o,ho,hd⟩:=z;obtain⟨sl,e2⟩:=up c o ho λvs q=>by rw[hd]at q;cases q
   exact#[_,e2,hd]
 .obtain⟨v,o,ho,hd⟩:=I.cell y c e
  obtain⟨sl,e2⟩:=up c o ho λvs q=>by rw[hd]at q;cases q
  exact#[v,_,e2,hd]
 .obtain⟨e,n,ne,nf,d⟩:=I.pin p hp
  refine#[keep _ _ e λz=>?_,n,ne,nf,d]
  rcases hh p.1 z with q|q
  .rw[D.st]at q;unfold frs at q;rw[cy,D.fr]at q
   rcases ay.mp q with q|q
   .exact ne q
   .exact nf q
  .exact q.2.2 p hp rfl
 .refine(I.hok c o e).stay (λb u hb q=>?_) (λ_ q=>q) λ_ _ q=>q
  have nh:∀b u,H b=aa u->b∉hid:=λb u e hm=>by rw[hidN b hm]at e;cases e
  rcases hb with rfl|hb
  .exact keep _ u q<|nh _ _ e
  .exact keep _ u q<|nh _ _ hb
def Inv.freeze(I:L2.Inv X pq Z H s)(ha:s.heap.get? a=aa o)(Ha:H a=ai)(n0:X.s₀.heap.get? a=ai)(hl:a≠X.env.locals)(hc:∀x c,X.env.cells.lookup x=aa c->c≠a)(hp:∀p∈X.pn++pq,p.1≠a) :
  L2.Inv X pq Z (upd H a<|.frz o<|.own a) s:=by
 have nu:∀b u,H b=aa u->upd H a (.frz o<|.own a) b=aa u:=λb u e=>by rw[Zk λz=>by rw[z,Ha]at e;cases e];exact e
 have nn:∀b,b≠a->H b=ai->upd H a (.frz o<|.own a) b=ai:=λb z e=>by rw[Zk z];exact e
 have U:=I.base;refine#[I.ok,I.os,I.bare,#[U.keep,U.slot,λb o e n hx=>nn b (λz=>by rw[z,n0]at e;cases e)<|U.free b o e n hx,U.there,λb xs e=>nu _ _<|U.tups b xs e,λb o u e=>nu _ _<|U.frzs b o u e,λb ps e=>?_],I.loc,I.cell,nn _ (Ne.symm hl) I.free,λx c e=>nn _ (hc x c e)<|I.freeC x c e,λp hp'=>?_,λc u e=>?_,I.len]
 .obtain⟨more,e1⟩:=U.tbls b ps e
  exact#[more,nu _ _ e1]
 .obtain⟨e,n,r⟩:=I.pin p hp'
  exact#[e,nn _ (hp p hp') n,r]
 .by_cases z:c=a
  .subst z
   rw[Zm]at e;cases e;exact#[ha,_,ha]
  .rw[Zk z]at e
   exact(I.hok c u e).stay (λb v hb q=>q) (λ_ q=>nu _ _ q) λ_ _ q=>nu _ _ q
def ZdD(I:L2.Inv X pq Z H s)(hN:X.N.Nodup)(hi:X.N[i]?=aa n)(hk:X.env.kindOf n=aa .local)
  (h:∀s',L2.Inv X pq (Z.set i ai) H s'->Q () s'):aY M A (do bindName X.env n .none;unbindBehindTheSuite X.env n pos) Q E s:=by
 obtain⟨m,hn,hl⟩:=id I.loc;have hcls:(X.env.scope.kind == .class||(X.env.scope.kind == .module&&X.env.locals != X.env.globals))=aj:=by rw[I.ok.kind];rfl
 have hiσ:i<Z.length:=by rw[I.len];exact(aN.mp hi).1
 refine wpAny_nameGoes_keeps hk hn hcls λh' v hn' hs=>?_
 obtain⟨oL,_,_,hoL,_⟩:=id hn;have ab:∀b o,X.s₀.heap.get? b=aa o->b≠X.env.locals:=λb o e=>a8<|bn (aG e) I.ok.above
 have U:=I.base;refine h _ #[I.ok,I.os,I.bare,#[λb o e n hb hx=>(hs.2 b<|ab b o e).trans<|U.keep b o e n hb hx,λb o e n hb hx=>?_,U.free,λb o e hx=>?_,U.tups,U.frzs,U.tbls],#[_,hn',λj y v' e1 e2 e3=>?_],λy c e=>?_,I.free,I.freeC,λp hp=>?_,λc o e=>?_,by simpa using I.len]
 .obtain⟨sl,e1⟩:=U.slot b o e n hb hx
  exact#[sl,(hs.2 b<|ab b o e).trans e1]
 .obtain⟨o',e1⟩:=U.there b o e hx
  exact#[o',(hs.2 b<|ab b o e).trans e1]
 .by_cases hj:j=i
  .subst hj
   rw[bg hiσ]at e2;cases e2
  .rw[bc<|Ne.symm hj]at e2
   obtain⟨u',r',q⟩:=hl j y v' e1 e2 e3;refine#[u',r',?_];rcases q with⟨k,e⟩|⟨k,c,e,z⟩
   .refine .inl #[k,?_]
    have:y≠n:=λe=>hj<|QC hN e1<|e▸hi
    simp[this,e]
   .exact .inr #[k,c,e,z.sameBut hs<|I.cne y c e]
 .obtain⟨w',z⟩:=I.cell y c e
  exact#[w',z.sameBut hs<|I.cne y c e]
 .obtain⟨e,n,ne,nf,d⟩:=I.pin p hp
  exact#[(hs.2 p.1 ne).trans e,n,ne,nf,d]
 .refine(I.hok c o e).stay (λb u hb q=>(hs.2 b λz=>?_).trans q) (λ_ q=>q) λ_ _ q=>q
  subst z;rcases hb with rfl|hb
  .rw[I.free]at e;cases e
  .rw[I.free]at hb;cases hb
noncomputable abbrev Cx.held(X:Cx)(a:aO):Cx:={X with A:=X.A.mark<|aa<|.ref a,calm:=aj,xe:=λ_ _=>False}
theorem Inv.held(I:L2.Inv X pq Z H s):L2.Inv (Cx.held X a) pq Z H s:=
 #[#[I.ok.mod,I.ok.kind,I.ok.glob,I.ok.blt,I.ok.above,I.ok.inj,I.ok.has,I.ok.cab,(λz=>by cases z),I.ok.frames,I.ok.stk,I.ok.exf,I.ok.bs,I.ok.bsz,I.ok.noex,I.ok.exfs,I.ok.funs,I.ok.frf],I.os,I.bare,I.base,I.loc,I.cell,I.free,I.freeC,I.pin,I.hok,I.len]
def Inv.unheld(ok:X.Ok)(I:L2.Inv (Cx.held X a) pq Z H s):L2.Inv X pq Z H s:=
 #[ok,I.os,I.bare,I.base,I.loc,I.cell,I.free,I.freeC,I.pin,I.hok,I.len]
def Zg1{i:Nat}(I:L2.Inv X pq Z H s)(hi:X.N[i]?=aa x)(hv:Vis X.env.scope x)(e:Z[i]?=aa (aa v))(h:∀u,ZA v u->Q u s)
  (hd:(x == #[11])=aj)(hcd:(x == #[23])=aj):aY M A (cR (.Name x pos) X.env) Q E s:=by
 obtain⟨m,hn,hl⟩:=I.loc;obtain⟨u,r,l⟩:=hl i x v hi e hv;rcases l with⟨hk,hm⟩|⟨hk,c,hc,hcell⟩
 .exact ky (iW I.ok.kind hk hn hm<|h u r) hd
 .rcases hk with hk|hk
  .exact ky (kl I.ok.kind hk hc hcell<|h u r) hd
  .exact ky (nv I.ok.kind hk hc hcell (h u r) hcd) hd
def ZdM{Dn:Ends}{E1:XK}{g S:aO}{ic ie ir:Nat}(D:DefX X E)(I:L2.Inv X pq Z H s)(hN:X.N.Nodup)
  (hic:X.N[ic]?=aa xc)(hvc:Vis X.env.scope xc)(hsc:Z[ic]?=aa (aa<|.ref g))(hie:X.N[ie]?=aa n)(hke:X.env.scope.names.lookup n=aa .local)(hir:X.N[ir]?=aa xr)(hlr:X.env.scope.names.lookup xr=aa .local)
  (hgS:Gl X xS)(hmS:X.mg xS=aa (.ref S))(hg:PySem.W.FnAt g s.heap)
  (run:gC #[10] X.A (.call (.ref g) #[[],[]]) (CR (CX1 X.prog X.w) X.stack X.prog X.w H s (λ_ H'=>Dn.nx Z H') E1) s)
  (hE1:∀C H',E1 (.ref C) ai H'->rH X.K (.ref C) (.ref S)=aa ao/\∀a oe,H' a=ai->oe.cls=.ref C->Dn.nx (((Z.set ie<|aa<|.ref a).set ir<|aa<|.ref a).set ie ai) (upd H' a<|.frz oe<|.own a))
  (hd1:(xc == #[11])=aj)(hd2:(xc == #[23])=aj)(hd3:(n == #[11])=aj)(hd4:(n == #[23])=aj)(hd5:(xS == #[11])=aj)
  (hs1:eV (.Call (.Name xc p1) [] [] p2) ai p3.line X.env=cX aj)(hs2:eV (.Name n p6) (aa<|.Name xr p5) p7.line X.env=cX aj) :
  aY #[10] X.A (exec (.Try [.Expr (.Call (.Name xc p1) [] [] p2) p3] [.ExceptHandler (aa<|.Name xS p4) (aa n) [.Assign [.Name xr p5] (.Name n p6) p7] p8] [] [] p9) X.env) (SP X pq Dn) X.xe s:=by
 refine wpAny_Try_except<|gB<|wpAny_Expr_any ?_ I.quiet hs1;refine dE ?_;refine Zg1 I hic hvc hsc (λu r=>?_) hd1 hd2
 obtain rfl:u=cZ g:=r;refine PySem.W.callWith_F0 hg<|nS<|fK run λr s' hq=>?_
 cases r with
 |ok fl=>
  cases fl with
  |ret u=>
   obtain⟨v,H',I',r',q'⟩:=I.after hq;exact fU<|fU #[Z,H',I',q']
  |next=>exact False.elim hq
  |brk=>exact False.elim hq
  |cont=>exact False.elim hq
 |error e=>
  obtain⟨a,T,C,H',rfl,os,bare,un,hok,fly,na,nT,Ha,HT,hE⟩:=hq;obtain⟨exm,fin⟩:=hE1 C H' hE;have nx:∀b:aO,b∉([]:List aO):=λb=>by simp
  have hfr:X.A.frames=aa (X.env::X.outer):=by rw[<-D.st];exact I.ok.frames
  have I1:L2.Inv X pq Z H' s':=by
   obtain⟨hh,gg,d,t,os'⟩:=s';obtain rfl:os'=s.os:=os;exact I.call (h':=hh) (g':=gg) (d':=d) (t':=t) un hok bare (λb z=>T7 z #[2])
  let hid:=frs X.stack++[a,T]
  have hin:∀b∈frs X.stack,b∈hid:=λb hb=>cT _ hb
  have old0:∀b,s.heap.get? b=ai->X.s₀.heap.get? b=ai:=λb e=>by
   cases q:X.s₀.heap.get? b with
   |none=>rfl
   |some o=>
    have U1:=I.base;rw[D.ex]at U1;obtain⟨o1,e1⟩:=U1.there b o q<|nx b;rw[e]at e1;cases e1
  have pn:∀b,s.heap.get? b=ai->∀p∈X.pn++pq,p.1≠b:=λb e p hp z=>by
   have:=(I.pin p hp).1;rw[z,e]at this;cases this
  have hhid:∀b∈hid,b∈frs X.stack\/(X.s₀.heap.get? b=ai/\H' b=ai/\∀p∈X.pn++pq,p.1≠b):=λb hb=>by
   rcases bU.mp hb with z|z
   .exact .inl z
   .rcases ay.mp z with rfl|z
    .exact .inr #[old0 _ na,Ha,pn _ na]
    .rw[aZ.mp z];exact .inr #[old0 _ nT,HT,pn _ nT]
  have FF:s'.heap.FunFrames (eU s'.heap hid) (X.env::X.outer):=by
   rw[<-D.st];exact FunFrames.rebase I1.stack (λb hb o e=>#[o.slots,e]) λb hb=>de _<|hin b hb
  obtain⟨oe,vs,a0,oT,ts,f1,f2,f3,f4,f5,f6,f7,f8⟩:=fly;refine wpAny_looks_onW hfr D.fr #[λb o e=>hJ _ e,de _<|bq _<|ak ..,FF,oe,vs,T,oT,ts,f1,f2,f3,f4,de _<|bq _<|am _<|ak ..,f5,f6,f7,f8] λh1 held up1=>?_
  refine wpAny_landsW held λh2 fly2 up2=>?_
  have I2:=Inv.slots D I1 hhid fly2.1<|up1.trans up2
  obtain⟨oe2,ge2,ce2⟩:=fly2.there;have K2:=I2.kIn;refine wpAny_handleBy_cons (codeAny_handlers_test<|V5 (Inv.held I2) hgS hmS ?_ hd5) (by intro q;cases q)
  refine(PySem.W.exm_one K2 (ce2▸(PySem.W.Looks.ld ge2).andThen .now) exm).here ?_;refine codeAny_handlers_suite_as ?_;obtain⟨k1,k2,k3,k4⟩:=fly2;refine wpAny_setFlight_noneW k1 k3 k4 λh3 m1 m2 m3 m4=>?_
  have I3:=Inv.slots D I1 hhid m1<|(up1.trans up2).trans λb o e hn=>#[o.slots,m4 b o e hn]
  obtain⟨oe3,vs3,T3,oT3,ts3,ge3,⟨ce3,_⟩,de3,_⟩:=m3;have I4:=Inv.freeze I3 ge3 Ha (old0 _ na)
   (λz=>by
    obtain⟨m,⟨o,es,ep,ho,hd,_⟩,_⟩:=I3.loc;have e1:=ho;rw[<-z,ge3]at e1;cases e1;rw[de3]at hd;cases hd)
   (λx c e z=>by
    obtain⟨v,o,ho,hd⟩:=I3.cell x c e;have e1:=ho;rw[z,ge3]at e1;cases e1;rw[de3]at hd;cases hd) (pn _ na)
  refine VN I4 hN hie (.inl hke) (v:=.ref a) rfl (λs4 I5=>?_)<|.inr hke
  have hiσ:ie<Z.length:=by rw[I.len];exact(aN.mp hie).1
  refine dy ((U5<|Q3 (X:=Cx.held X a) (pos':=p5) hN hir (.inl hlr) (YY hie (.inl hke) hd3 hd4) hs2<|.inr hlr) pq s4 _ _
   {nx:=λσ' H1=>σ'=(Z.set ie<|aa<|.ref a).set ir (aa<|.ref a)/\H1=upd H' a (.frz oe3<|.own a),rt:=λ_ _=>False} (Inv.held I5) #[.ref a,bg hiσ,rfl,rfl]) (λf s5 hsp=>?_) λ_ _ z=>False.elim z
  cases f with
  |next=>
   obtain⟨σ',H1,J,rfl,rfl⟩:=hsp;exact ZdD (Inv.unheld I.ok J) hN hie hke λs6 I6=>#[_,_,I6,fin a oe3 Ha ce3]
  |ret u=>obtain⟨_,_,_,_,_,z⟩:=hsp;exact z.elim
  |brk=>obtain⟨_,_,_,z⟩:=hsp;exact False.elim z
  |cont=>obtain⟨_,_,_,z⟩:=hsp;exact False.elim z
open Ev (E Sm Fn Bop Cop Ty Bf Mf)
structure Gr(H H':Hp):Prop where
 k:∀b u,H b=aa u->(∀ps,u≠.tbl ps)->H' b=aa u
 t:∀b ps,H b=aa (.tbl ps)->∃qs,H' b=aa (.tbl qs)
def Gr.fut(g:Gr H H'):Fut U H U H':=#[rfl,λa o e=>by
 cases o with
 |tbl ps=>exact .inr<|.inr #[#[ps,rfl],g.t a ps e]
 |_=>exact .inl<|g.k a _ e λps z=>by cases z]
def St3.grow{K:ap}(st:St3 K U S H)(g:Gr H H')(tb:Tb H'):St3 K U S H':=
 #[st.hk,λa x=>by
  obtain⟨o,e⟩:=kJ.mp<|st.xd a x;rcases(g.fut).keep a o e with q|⟨h,_⟩|⟨_,_,q⟩
  .rw[q];intro z;cases z
  .rw[g.k a _ (st.dw a h).1 λps z=>by cases z];intro z;cases z
  .rw[q];exact Option.some_ne_none _,λa h=>#[g.k a _ (st.dw a h).1 λps z=>(by cases z),(st.dw a h).2],tb]
def wC(l)(h:o4 l)(e:kw q (l++[fu a,fu b,c])=aa cv):kw q l=aa cv\/cv=c:=by
 fun_induction o4 l with
 |case1=>
  simp only[fV,kw,fu]at e;split at e
  .cases e;exact .inr rfl
  .cases e
 |case2 a' t b' u x rest ih=>
  simp[kw]at e ⊢;split at e
  .rename_i z;rw[T9 z];exact .inl e
  .rename_i z;rw[T8 z];exact ih h e
 |case3 l h1 h2=>exact h.elim
section
variable{X:Cx}{E:aB->aM->Prop}{pq:List (aO×gf)}{Z:L2.St}{H:Hp}{s:aM}
theorem Inv.grow(I:L2.Inv X pq Z H s){tk:Tok}{P:aO}(hP:H P=aa (.tbl ps))(hx:fH P s.heap h')(hT:h'.get? P=aa {cls:=.none,data:=.fields (ps++more)}){new:List (aO×gf)}
  (hn:∀p∈new,s.heap.objs.size<=p.1/\h'.get? p.1=aa p.2)(nd:(new.map (·.1)).Nodup) :
  let H':=new.foldl (λG p=>upd G p.1<|.frz p.2<|.own p.1)<|upd H P<|.tbl<|ps++more
  L2.Inv X pq Z H' {s with heap:=h',toks:=tk}/\Gr H H'/\(∀p∈new,H' p.1=aa (.frz p.2<|.own p.1))/\H' P=aa (.tbl<|ps++more)/\∀b qs,H' b=aa (.tbl qs)->(b=P/\qs=ps++more)\/H b=aa (.tbl qs):=by
 intro H';have H0:∀b,(∀p∈new,p.1≠b)->H' b=upd H P (.tbl<|ps++more) b:=by
  have gen:∀(l:List (aO×gf))(G:Hp)(b:aO),(∀p∈l,p.1≠b)->l.foldl (λG p=>upd G p.1<|.frz p.2<|.own p.1) G b=G b:=by
   intro l
   induction l with
   |nil=>intro G b _;rfl
   |cons p l ih=>
    intro G b h;rw[du,ih _ b λq hq=>h q<|am _ hq,Zk<|Ne.symm<|h p<|ak ..]
  exact λb h=>gen new _ b h
 have H1:∀p∈new,H' p.1=aa (.frz p.2<|.own p.1):=by
  have gen:∀(l:List (aO×gf))(G:Hp),(l.map (·.1)).Nodup->∀p∈l,l.foldl (λG p=>upd G p.1<|.frz p.2<|.own p.1) G p.1=aa (.frz p.2<|.own p.1):=by
   intro l
   induction l with
   |nil=>intro G _ p hp;simp at hp
   |cons q l ih=>
    intro G hd p hp;rw[ba,dq]at hd;rw[du];rcases ay.mp hp with rfl|hp
    .have rest:∀(l:List (aO×gf))(G:Hp)(b:aO),b∉l.map (·.1)->l.foldl (λG p=>upd G p.1<|.frz p.2<|.own p.1) G b=G b:=by
      intro l
      induction l with
      |nil=>intro G b _;rfl
      |cons p l ih=>
       intro G b h;rw[ba,ay,not_or]at h;rw[du,ih _ b h.2,Zk h.1]
     rw[rest l _ _ hd.1,Zm]
    .exact ih _ hd.2 p hp
  exact gen new _ nd
 have new0:∀b,b<s.heap.objs.size->∀p∈new,p.1≠b:=λb hb p hp z=>by have q:=(hn p hp).1;rw[z]at q;lia
 have old:∀b u,H b=aa u->b≠P->H' b=aa u:=λb u e z=>by
  rw[H0 b<|new0 b<|Z7.lt<|I.hok b u e,Zk z];exact e
 have HP:H' P=aa (.tbl<|ps++more):=by rw[H0 P<|new0 P<|Z7.lt<|I.hok P _ hP,Zm]
 have cases':∀b u,H' b=aa u->(∃p∈new,p.1=b/\u=.frz p.2 (.own p.1))\/(b=P/\u=.tbl (ps++more))\/(b≠P/\H b=aa u):=λb u e=>by
  by_cases q:∃p∈new,p.1=b
  .obtain⟨p,hp,rfl⟩:=q
   rw[H1 p hp]at e;cases e;exact .inl #[p,hp,rfl,rfl]
  .rw[H0 b λp hp z=>q #[p,hp,z]]at e
   by_cases z:b=P
   .subst z;rw[Zm]at e;cases e;exact .inr<|.inl #[rfl,rfl]
   .rw[Zk z]at e;exact .inr<|.inr #[z,e]
 have gr:Gr H H':=#[λb u e n=>old b u e λz=>(by rw[z,hP]at e;cases e;exact n ps rfl),λb qs e=>by
  by_cases z:b=P
  .subst z;exact#[_,HP]
  .exact#[qs,old b _ e z]]
 refine#[I.un #[λb o e n _ _=>hx b o (λz=>by rw[z,hP]at n;cases n) e,λb o e n _ _=>#[o.slots,hx b o (λz=>by rw[z,hP]at n;cases n) e],λb o e n _=>?_,λb o e _=>?_,λb xs e=>gr.k b _ e (λps z=>by cases z),λb o u e=>gr.k b _ e (λps z=>by cases z),λb qs e=>?_] λb u e=>?_,gr,H1,HP,λb qs e=>?_]
 .rw[H0 b<|new0 b<|aG e,Zk λz=>by rw[z,hP]at n;cases n];exact n
 .by_cases z:b=P
  .subst z;exact#[_,hT]
  .exact#[o,hx b o z e]
 .by_cases z:b=P
  .subst z;rw[hP]at e;cases e;exact#[more,HP]
  .exact#[#[],by rw[old b _ e z];simp]
 .rcases cases' b u e with⟨p,hp,rfl,rfl⟩|⟨rfl,rfl⟩|⟨z,e0⟩
  .exact#[(hn p hp).2,_,(hn p hp).2]
  .exact hT
  .refine(I.hok b u e0).stay (λc v hc q=>hx c v ?_ q) (λc q=>gr.k c _ q λps z=>by cases z) λc xs q=>gr.k c _ q λps z=>by cases z
   rcases hc with rfl|hc
   .exact z
   .intro y;rw[y,hP]at hc;cases hc
 .rcases cases' b _ e with⟨p,hp,rfl,z⟩|⟨rfl,z⟩|⟨z,e0⟩
  .cases z
  .cases z;exact .inl #[rfl,rfl]
  .exact .inr e0
def Tb.grow(tb:Tb H)(g:Gr H H')(hb:∀b rs,H' b=aa (.tbl rs)->(b=P/\rs=qs)\/H b=aa (.tbl rs))(ht:o4 qs.toList)
  (hc:∀pos cv,kw pos qs.toList=aa cv->∃(c:aO)(oc:gf)(vs:Array aB)(t:Tok),cv=.ref c/\H' c=aa (.frz oc<|.own c)/\oc.data=.fields vs/\vs[1]?=aa (.str Y1 t)):Tb H':=λb rs e=>by
 rcases hb b rs e with⟨_,rfl⟩|e0
 .exact#[ht,hc]
 .obtain⟨h1,h2⟩:=tb b rs e0
  refine#[h1,λpos cv q=>?_]
  obtain⟨c,oc,vs,t,e1,e2,e3⟩:=h2 pos cv q;exact#[c,oc,vs,t,e1,g.k c _ e2 (λps z=>by cases z),e3]
def ZbA{P c:aO}{body:Expr}{pos:iV}(I:L2.Inv X pq Z H s)(tb:Tb H)(hP:H P=aa (.tbl ps))(hcode:X.env.code=.ref c)(C:dC X.base c P)(hB:X.base.BuiltinsAt X.mg P)(hgP:bz≠P)
  (hq:X.env.qual++"<lambda>" = Y1)(hcl:iM scope X.env=cX clos)(hdef:defaultsOf params X.env=([],[]))
  (h:∀(g c':aO)(oc:gf) vs (t:Tok) (pm ctv:aB) (H':Hp) (s':aM),L2.Inv X pq Z H' s'->Gr H H'->Tb H'->(∃ps',H' P=aa (.tbl ps'))->H' g=aa (.frz (fW "<lambda>" Y1 params body scope clos pm c' ctv)<|.own g)->
   H' c'=aa (.frz oc<|.own c')->oc.data=.fields vs->vs[1]?=aa (.str Y1 t)->Q (.ref g) s') :
  aY #[10] X.A (cR (.Lambda params body scope pos) X.env) Q E s:=by
 refine PySem.W.kla_eval hdef ?_;rw[hq];have hPo:=I.hok P _ hP;obtain⟨ht,hcs⟩:=tb P ps hP;have hg:=I.ok.mod.glob.keeps I.bk;have hBs:s.heap.BuiltinsAt X.mg P:=by
  obtain⟨bm,o,b1,b2,b3,b4,b5,b6⟩:=hB;exact#[bm,o,b1,b2,b3,b4,I.bk _ _ b5,b6]
 cases q:kw pos ps.toList with
 |some cv=>
  obtain⟨c',oc,vs,t,rfl,e2,e3,e4⟩:=hcs pos cv q;refine PySem.W.kla_makeFunctionHit hcl I.ok.glob hg hcode (C.keeps I.bk) hPo ht q hBs λctv h' tk hk hz=>?_
  have kp:∀b o,s.heap.get? b=aa o->(h'.push<|fW "<lambda>" Y1 params body scope clos ((X.mg "__name__").getD .none) c' ctv).get? b=aa o:=λb o e=>au _<|hk b o e
  obtain⟨I',gr,n1,hP',tbs⟩:=Inv.grow I hP (λb o _ e=>kp b o e) (by rw[kX];exact kp _ _ hPo)
   (new:=[(h'.objs.size,fW "<lambda>" Y1 params body scope clos ((X.mg "__name__").getD .none) c' ctv)]) (λp hp=>by
    rw[aZ.mp hp];exact#[hz,aH _ rfl]) #[2]
  refine h _ c' oc vs t _ ctv _ _ I' gr (tb.grow gr tbs (by rw[kX];exact ht) λpos' cv' q'=>?_) #[_,hP'] (n1 _<|ak ..) (gr.k _ _ e2 λps z=>by cases z) e3 e4
  rw[kX]at q';obtain⟨c2,oc2,vs2,t2,f1,f2,f3⟩:=hcs pos' cv' q';exact#[c2,oc2,vs2,t2,f1,gr.k _ _ f2 (λps z=>by cases z),f3]
 |none=>
  refine PySem.W.kla_makeFunction hcl I.ok.glob hg hcode (C.keeps I.bk) hPo ht q hgP hBs λc' ctv h' tk hx hge hlt hrec htb=>?_
  obtain⟨c2,oc,vs,t,e2,hoc,hd,hv⟩:=hrec;cases e2;have kp:fH P s.heap (h'.push<|fW "<lambda>" Y1 params body scope clos ((X.mg "__name__").getD .none) c' ctv):=λb o hb e=>au _<|hx b o hb e
  have hsz:=bV hge<|gA hlt;obtain⟨I',gr,n1,hP',tbs⟩:=Inv.grow I hP kp (au _ htb)
   (new:=[(c',oc),(h'.objs.size,fW "<lambda>" Y1 params body scope clos ((X.mg "__name__").getD .none) c' ctv)]) (λp hp=>by
    rcases ay.mp hp with rfl|hp
    .exact#[hge,au _ hoc]
    .rw[aZ.mp hp];exact#[hsz,aH _ rfl]) (dq.mpr #[λz=>T7 (aZ.mp z)<|a8 hlt,dq.mpr #[by simp,mX]])
  refine h _ c' oc vs t _ ctv _ _ I' gr (tb.grow gr tbs (by rw[ck];exact TriplesOk_snoc _ _ _ _ ht) λpos' cv' q'=>?_) #[_,hP'] (n1 _<|am _<|ak ..) (n1 _<|ak ..) hd hv
  rw[ck]at q';rcases wC _ ht q' with z|rfl
  .obtain⟨c2,oc2,vs2,t2,f1,f2,f3⟩:=hcs pos' cv' z
   exact#[c2,oc2,vs2,t2,f1,gr.k _ _ f2 (λps z=>by cases z),f3]
  .exact#[c',oc,vs,t,rfl,n1 _<|ak ..,hd,hv]
end
end
section
def cxL(P:bP)(w:b9)(K:ap)(mg:bR->Option aB)(base:cQ)(N:List bR)(scope:gI)(g:aO)(cd:aB)(clos:List (bR×aO))(A:cz)(outer:List Env)(s:aM)(H:Hp)(E:XK):Cx where
 prog:=P
 w:=w
 K:=K
 mg:=mg
 base:=base
 A:=A.deeper<|fS Y1 scope s.heap.objs.size g cd clos
 N:=N
 s₀:=s
 H₀:=H
 env:=fS Y1 scope s.heap.objs.size g cd clos
 outer:=outer
 stack:=fS Y1 scope s.heap.objs.size g cd clos::outer
 ex:=[]
 calm:=ao
 fn:=λ_=>aj
 pn:=[]
 xe:=λe s'=>aY (aW P w) (A.deeper<|fS Y1 scope s.heap.objs.size g cd clos) (leaving (fS Y1 scope s.heap.objs.size g cd clos) e) (λ_ s''=>CX1 P w outer H s E e s'') (λe' s''=>CX1 P w outer H s E e' s'') s'
section
variable{P:bP}{w:b9}{K:ap}{mg:bR->Option aB}{base:cQ}{N:List bR}{scope:gI}{g c':aO}{clos:List (bR×aO)}{A:cz}{outer:List Env}{s:aM}{H:Hp}{E:XK}
def ZjB :DefX (cxL P w K mg base N scope g cd clos A outer s H E) E:=#[rfl,rfl,rfl,rfl]
structure LamS(scope:gI)(clos:List (bR×aO)):Prop where
 kind:scope.kind=.function
 co:scope.isCoroutine=aj
 gen:scope.isGenerator=aj
 nc:∀x∈scope.names,x.2≠.cell
 vis:∀x,Vis scope x->scope.names.lookup x=aa .free
 has:∀x,scope.names.lookup x=aa .free->∃c,clos.lookup x=aa c
 inj:∀x y c,clos.lookup x=aa c->clos.lookup y=aa c->x=y
def Zcl(hr:Room (k+1) A)(e0:Env0 P w K mg base A outer s H)(L:LamS scope clos)
  (hg:s.heap.get? g=aa (fW "<lambda>" Y1 params body scope clos pm c' ctv))(hcd:s.heap.CodeRec (.ref c') Y1)(hbind:mV (rJ "<lambda>" Y1 params body scope clos pm (.ref c') ctv) #[[],[]]=cX [])
  (hcell:∀x c,clos.lookup x=aa c->(∃v,s.heap.IsCell c v)/\H c=ai)(hlen:Z.length=N.length)
  (hval:∀(i:Nat) x v,N[i]?=aa x->Z[i]?=aa (aa v)->scope.names.lookup x=aa .free->∃u c,ZA v u/\clos.lookup x=aa c/\s.heap.IsCell c (aa u))
  (hb:PE (cxL P w K mg base N scope g (.ref c') clos A outer s H E) body t)(ht:t Z H Q) :
  gC (aW P w) A (.call (.ref g) #[[],[]]) (CR (CX1 P w) outer P w H s Q E) s:=by
 refine PySem.W.kla_callFunE hr.depth hg rfl L.co L.gen rfl hcd ?_;rw[hbind];refine aw<|wpAny_newFunctionEnv L.nc (λx hx=>by simp at hx) (λh1 hns hsb=>?_) L.kind
 have hk1:=λb o e=>hsb.extBut b o (a8<|aG e)<|au _ e
 refine#[(e0.mod.nolimit.keeps λb o e=>(e0.bs b o e).1).keeps hk1,?_];have noA:∀b,b∉(cxL P w K mg base N scope g (.ref c') clos A outer s H E).ex:=λb z=>T7 (show b∈([]:List aO)from z) #[2]
 have I:L2.Inv (cxL P w K mg base N scope g (.ref c') clos A outer s H E) [] Z H {s with heap:=h1,toks:=s.toks+([]:List (bR×aB)).length}:=by
  refine#[#[e0.mod,L.kind,rfl,rfl,aJ _,L.inj,λx hx=>?_,λx c z=>(by cases z),λ_=>hr.hd,mW e0.frames,.inr #[rfl,rfl],λb z=>T7 z<|noA b,e0.bs,e0.bsz,λb _ _=>noA b,λb z=>T7 z<|noA b,e0.funs,e0.frf],
   rfl,e0.bare,Un.kept hk1,#[_,hns,λi x v e1 e2 e3=>?_],λx c e=>?_,e0.hok.fresh<|aJ _,λx c e=>(hcell x c e).2,λp hp=>T7 (show p∈([]:List (aO×gf))from hp) #[2],e0.hok.kept hk1,hlen]
  .have hx:=hx
   rcases hx with z|z
   .exact T7 rfl<|L.nc _<|dO z
   .exact L.has x z
  .have fr:=L.vis x e3
   obtain⟨u,c,r,e,z⟩:=hval i x v e1 e2 fr;refine#[u,r,.inr #[.inr fr,c,e,?_]];obtain⟨o,ho,hd⟩:=z;exact#[o,hk1 _ _ ho,hd]
  .obtain⟨⟨v,o,ho,hd⟩,_⟩:=hcell x c e
   exact#[v,o,hk1 _ _ ho,hd]
 exact PySem.W.kla_codeExpr<|dy (hb [] _ Z H Q I ht) (by rintro u s' ⟨v,H',J,r,q⟩;exact #[v,H',J.os,J.bare,J.base,J.hok,r,q]) λ_ _ y=>y
end
def Zid(K:ap):List V->Hp->VK->Prop:=λvs H Q=>∃a oe C Dv u b,vs=[.ref a,Dv]/\ZA Dv u/\(∀u',ZA Dv u'->u'=u)/\H a=aa (.frz oe<|.own a)/\oe.cls=.ref C/\ExK K C/\gq K (.ref C) u=aa b/\Q (.bl b) H
def wg:ZG X (.builtin "isinstance") (Zid X.K):=by
 intro pq s Z H xs us Q I r h;obtain⟨a,oe,C,Dv,u,b,rfl,ru,uq,Ha,ce,k,e,q⟩:=h;cases r with
 |cons ra r=>
  cases r with
  |cons rD r=>
   cases r;cases ra;obtain rfl:=uq _ rD;obtain⟨ge,_⟩:=I.hok a _ Ha;exact dD (Zbg k) I.kIn #[oe,ge,ce] e (by intro q;cases q) λtk=>#[.bl b,H,I.tok tk,rfl,q]
def ue:V->List V->Hp->VK->Prop:=λx vs H Q=>∃(l:aO)(bs:List Bool)(j:Nat),x=.ref l/\vs=[.bl ao]/\H l=aa (.lst<|bs.map .bl)/\bs[j]?=aa ao/\(∀m,m<j->bs[m]?=aa aj)/\Q (.int j) H
theorem qt:∀{bs:List Bool}{us:List aB},Vals (bs.map V.bl) us->us=bs.map bF
 |[],_,.nil=>rfl
 |b::bs,_,.cons r t=>by cases r;rw[qt t];rfl
def ZbC:MtM X "list.index" ue:=by
 intro pq s Z H x vs v us Q I rx rv h;obtain⟨l,bs,j,rfl,rfl,hH,hj,hno,q⟩:=h;cases rx;obtain⟨u,rfl,ru⟩:=rv.one;cases ru;obtain⟨z,its,n,r,hl,e⟩:=I.lstM hH;obtain rfl:=qt r;have hjl:=(aN.mp hj).1;have hsz:(bs.map bF).toArray.size=bs.length:=by simp
 have get:∀m (hm:m<(bs.map bF).toArray.size),(bs.map bF).toArray[m]=bF (bs[m]'(by rwa[hsz]at hm)):=λm hm=>by simp
 refine hV F.slot_list_index #[_,e,rfl] F.entry_list_index (F.args_list_index_2 _ _) (PySem.SeqAt.list_indexAt l (bs.map bF).toArray n ai #[] (.bool ao) (λy=>y == .bool ao) j (by rw[hsz];exact hjl) (by
  rw[av]at z;have:a9=16777216:=rfl;lia) (by rw[get];rw[(aN.mp hj).2];rfl) λm hm hmj=>by
   rw[get];have:=aN.mp<|hno m hmj;rw[this.2];rfl) #[e,λy hy=>?_,?_]
 .obtain⟨b,_,rfl⟩:=aF.mp (List.mem_toArray.mp hy)
  cases b
  .exact kY aj ao
  .exact kY ao ao
 .exact#[.int j,H,I.tok _,#[_,rfl],q]
def ZiX{CX:CXT}{P:bP}{w:b9}{K:ap}{base:cQ}{k:Nat}{f:aO}{x qual:bR}{st:fB}{fd:dB}{N ps:List bR}{A:cz}{outer:List Env}{s:aM}{H:Hp}{args:Args}{us:List aB}{vs:List V}{Q:VK}{E:XK}
  (Fu:Fun K x qual st f fd)(S:FnScope N ps (Zg st))(hr:Room (k+1) A)(e0:Env0 P w K mg base A outer s H)(hb:nr s fd args (ps.zip us))(r:Vals vs us)(hl:vs.length=ps.length)
  (hbody:∀(cdv:aB)(s1:aM),Room k (A.deeper<|dU qual (Zg st) s.heap.objs.size f cdv)->L2.Inv (Wf CX P w K mg base N qual (Zg st) f cdv A outer s H E) [] (start N vs) H s1->
   aY (aW P w) (A.deeper<|dU qual (Zg st) s.heap.objs.size f cdv) (execs (ZE st)<|dU qual (Zg st) s.heap.objs.size f cdv) (SP (Wf CX P w K mg base N qual (Zg st) f cdv A outer s H E) [] {nx:=λ_ H'=>Q .non H',rt:=Q}) (Wf CX P w K mg base N qual (Zg st) f cdv A outer s H E).xe s1) :
  gC (aW P w) A (.call (.ref f) args) (CR CX outer P w H s Q E) s:=by
 obtain⟨oc,od,kV,doc,pm,an,cdv,ct,osl,rfl,lk,hcd⟩:=Fu.ex;have KX:=e0.mod.kin.keeps λb o e=>(e0.bs b o e).1
 have lim:=e0.mod.nolimit.keeps λb o e=>(e0.bs b o e).1
 have hkind:∀y∈ps.zip us,(Zg st).names.lookup y.1=aa .local\/((Zg st).names.lookup y.1=aa .cell/\((dz (s.heap.objs.size+1) (Zg st).names []).lookup y.1).isSome=ao):=by
  rintro ⟨n,v⟩ hy;rcases S.par n (gW hy).1 with q|q
  .exact .inl q
  .exact .inr #[q,iz _ _ _<|.inl q]
 refine mO hr.depth (KX _ _ lk) rfl S.co S.gen rfl (nV KX hcd)<|hb _ _ _ _ ?_;refine kB S.kind hkind λenv he s1 x=>?_
 subst he;refine#[lim.keeps x.toInCall.keep,codeAny_func ?_];have I:=GJ (CX:=CX) (E:=E) S hr.hd e0 hl r x;refine dy (hbody cdv s1 (hr.deeper _) I) (λfl s' hs=>?_) λe s' hs=>hs
 cases fl with
 |ret u=>
  obtain⟨v,σ',H',J,rv,q⟩:=hs;exact#[v,H',J.os,J.bare,J.base,J.hok,rv,q]
 |next=>
  obtain⟨σ',H',J,q⟩:=hs;exact#[.non,H',J.os,J.bare,J.base,J.hok,rfl,q]
 |brk=>
  obtain⟨_,_,_,q⟩:=hs;exact False.elim q
 |cont=>
  obtain⟨_,_,_,q⟩:=hs;exact False.elim q
def uy(Pt:aO)(H:Hp):Prop:=H Pt=aa (.tbl #[])/\∀b,b≠Pt->H b=ai\/∃o xs,H b=aa (.frz o<|.lst xs)
def jK{P:bP}{w:b9}{K:ap}{CX:CXT}{k:Nat}{fa a c Pt:aO}{fd:dB}{x:bR}{sp:Sp}{s₁:aM}{vs:List aB}{ns:List Int}
  (KX:K.In s₁.heap)(hns:s₁.heap.Ns bz mg)(hb:s₁.heap.Ns nM mb)(hbb:∀x:bR,x≠"__name__"->mb x=d4 x)(hlim:s₁.heap.NoLimit)(hg:s₁.gens = #[])
  (hC:dC s₁.heap c Pt)(hPt:s₁.heap.get? Pt=aa (rK #[]))(hK:nj K=ao)(hB:s₁.heap.BuiltinsAt mg Pt)
  (ha:s₁.heap.get? a=aa {cls:=.type "list",data:=.seq vs.toArray})(hi:iS vs ns)(hl:ns.length<=a9)(hr:Room k nt)
  (F:∀base:cQ,K.In base->base.Ns bz mg->dC base c Pt->base.BuiltinsAt mg Pt->bz≠Pt->FnOk P w K mg base CX k fa fd [x] sp)(hbind:∀(s:aM)(u:aB),nr s fd #[[u],[]] [(x,u)])
  (hsp:∀H:Hp,uy Pt H->SqL K H a (ns.map V.int)->sp [.ref a] H (λv _=>v=.bl ao) λ_ _ _=>False)
  (hCX:∀H e s',CX [] H s₁ (λ_ _ _=>False) e s'->False) :
  gC (aW P w) nt (.call (.ref fa) #[[.ref a],[]]) (λr s'=>r=.ok (.ret<|.bool ao)/\OldK s₁.heap s'.heap/\s'.os=s₁.os/\iQ s'.gens) s₁:=by
 have rv:=GC hi;have lenV:=hi.length;have hPa:Pt≠a:=λz=>by rw[z,ha]at hPt;cases hPt
 have hKP:K.lookup Pt=ai:=by
  cases q:K.lookup Pt with
  |none=>rfl
  |some o=>
   have e:=KX Pt o q;rw[hPt]at e;cases e;have h2:=aV.mp hK (Pt,rK #[])<|PySem.W.mem_of_lookupK q;exact T7 (h2) aT
 have core:∀H:Hp,uy Pt H->SqL K H a (ns.map V.int)->HOk P w H s₁.heap->(∀b,H b≠ai->b=a\/b=Pt)->(H a≠ai->K.lookup a=ai)->
   gC (aW P w) nt (.call (.ref fa) #[[.ref a],[]]) (λr s'=>r=.ok (.ret<|.bool ao)/\OldK s₁.heap s'.heap/\s'.os=s₁.os/\iQ s'.gens) s₁:=by
  intro H hO hS hok hA hK;have base_of:∀{b:aO}{o:gf},s₁.heap.get? b=aa o->H b=ai->(JG s₁.heap H).get? b=aa o:=λe n=>ZcN e n
  have noT:∀{b:aO}{o:gf},s₁.heap.get? b=aa o->b≠a->b≠Pt->H b=ai:=λ{b o} e z1 z2=>by
   cases q:H b with|none=>rfl|some u=>exact((hA b<|by rw[q];simp).elim z1 z2).elim
  have noA:∀{b:aO}{o:gf}{es:Array iq}{ep:Nat},s₁.heap.get? b=aa o->o.data=.dict es ep->H b=ai:=λ{b o es ep} e d=>
   noT e (λz=>by subst z;rw[ha]at e;cases e;cases d) λz=>by subst z;rw[hPt]at e;cases e;cases d
  have nsK:∀{b:aO}{m:bR->Option aB},s₁.heap.Ns b m->(JG s₁.heap H).Ns b m:=λ{b m} #[o,es,ep,e,d,r]=>#[o,es,ep,base_of e<|noA e d,d,r]
  have hKb:=λb o e=>base_of (KX b o e) (by
   cases q:H b with
   |none=>rfl
   |some u=>
    rcases hA b (by rw[q];simp)with z|z
    .subst z;rw[hK<|by rw[q];simp]at e;cases e
    .subst z;rw[hKP]at e;cases e)
  have hM:Mod K mg (JG s₁.heap H):=#[hKb,nsK hns,#[mb,nsK hb,hbb],let #[mc,h1,h2]:=hlim;#[mc,nsK h1,h2]];have e0:Env0 P w K mg (JG s₁.heap H) nt [] s₁ H:=#[rfl,hM,λb o e=>ZeI e,mw<|jw _ _,trivial,λb hb=>T7 (show b∈([]:List aO)from hb) #[2],hok,.of_eq hg]
  have hCb:dC (JG s₁.heap H) c Pt:=by
   obtain⟨o,vs',file,tf,flags,tg,inF,text,tt,e1,r1,r⟩:=hC;refine#[o,vs',file,tf,flags,tg,inF,text,tt,base_of e1<|noT e1 (λz=>?_) λz=>?_,r1,r]
   .subst z;rw[ha]at e1;cases e1;exact T7 (rM r1) #[1]
   .subst z;rw[hPt]at e1;cases e1;cases r1
  have hBb:(JG s₁.heap H).BuiltinsAt mg Pt:=by
   obtain⟨bm,o,b1,b2,b3,b4,b5,b6,b7,b8⟩:=hB;refine#[bm,o,b1,b2,b3,b4,base_of b5<|noT b5 (λz=>?_) b4,b6,b7,b8]
   subst z;rw[ha]at b5;cases b5;exact T7 (rM b6) #[1]
  have hgP:bz≠Pt:=λz=>by
   obtain⟨o,es,ep,e,d,_⟩:=hns;rw[z,hPt]at e;cases e;cases d
  refine fK ((F _ hKb (nsK hns) hCb hBb hgP).run nt [] s₁ H #[[.ref a],[]] [.ref a] [.ref a] _ _ hr e0 (hbind s₁<|.ref a) (.cons rfl .nil)<|hsp H hO hS) λr s' h=>?_
  cases r with
  |error e=>exact(hCX H e s' h).elim
  |ok fl=>
   cases fl with
   |next=>exact False.elim h
   |brk=>exact False.elim h
   |cont=>exact False.elim h
   |ret u=>
    obtain⟨v,H',os,bare,un,hok',r',q⟩:=h;have q':=q;subst q';obtain rfl:u=bF ao:=r';have keep:=λb o z e=>by
     cases q:H b with
     |none=>exact un.keep b o e q (by intro z;exact T7 (show b∈([]:List aO)from z)<|by simp) #[2]
     |some u=>
      rcases hO.2 b z with z|⟨ob,xs,z⟩
      .rw[q]at z;cases z
      .have z2:=un.frzs b ob _ z
       obtain⟨e1,_⟩:=hok b _ z;obtain⟨e2,_⟩:=hok' b _ z2;rw[e]at e1;cases e1;exact e2
    obtain⟨more,hm⟩:=un.tbls Pt #[] hO.1;have hT':=hok' Pt _ hm;refine#[rfl,#[λb o e=>?_,λb o e=>?_],os,bare]
    .by_cases z:b=Pt
     .subst z
      rw[hPt]at e;cases e;exact .inr<|.inl #[(hC.tab hPt).isCodeTable,rfl,#[],more,rfl,hT']
     .exact .inl<|keep b o z e
    .by_cases z:b=Pt
     .subst z;exact#[_,hT']
     .exact#[o,keep b o z e]
 have tbOk:=hPt
 cases hk:K.lookup a with
 |some o=>
  have e:=KX a o hk;rw[ha]at e;cases e;refine core (upd (λ_=>ai) Pt<|.tbl #[]) #[Zm,λb z=>.inl<|Zk z] (.inr #[_,vs.toArray,_,hk,rfl,rfl,rfl,by rw[aD,lenV];exact hl,by simpa using rv]) (λb u z=>?_) (λb z=>?_) λz=>T7 (Zk<|Ne.symm hPa) z
  .by_cases q:b=Pt
   .subst q;rw[Zm]at z;cases z;exact hPt
   .rw[Zk q]at z;cases z
  .by_cases q:b=Pt
   .exact .inr q
   .exact T7 (Zk q) z
 |none=>
  refine core (upd (λb=>if b=a then aa (.frz {cls:=.type "list",data:=.seq vs.toArray}<|.lst<|ns.map V.int)else ai) Pt<|.tbl #[]) #[Zm,λb z=>?_] (.inl<|.inr #[{cls:=.type "list",data:=.seq vs.toArray},by rw[Zk<|Ne.symm hPa];exact T9 rfl]) (λb u z=>?_) (λb z=>?_) λ_=>hk
  .rw[Zk z]
   by_cases hb:b=a
   .exact .inr #[_,_,T9 hb]
   .exact .inl<|T8 hb
  .by_cases q:b=Pt
   .subst q;rw[Zm]at z;cases z;exact hPt
   .rw[Zk q]at z
    by_cases hb:b=a
    .have z':=(T9 hb).symm.trans z
     cases z';subst hb;exact#[ha,by rw[av];exact hl,vs,_,rv,ha]
    .have z':=(T8 hb).symm.trans z
     cases z'
  .by_cases q:b=Pt
   .exact .inr q
   .rw[Zk q]at z
    by_cases hb:b=a
    .exact .inl hb
    .exact T7 (T8 hb) z
def ZbD{l:mK}{n k:Nat}{q:bP}{loose:List bR}{d:DefRec}{K:Params->ap}{CX:b9->CXT}{sp:b9->aO->Sp}{x:bR}{c Pt:aO}{dr:DefRec}
  (hn:l.most=aa n)(hn2:n<=a9)(hdf:d.params.defaults=[])(hr:Room k nt)
  (hY:∀(w:b9)(h:cQ),YP w h->(K w.params).In h)(hrec:(recsOf q).find? (λe=>e.name == d.name)=aa dr)(ht:∀w:b9,rT (K w.params) d.name=aa (c,Pt))(hK:∀w:b9,nj (K w.params)=ao)
  (F:∀(w:b9) mg (fa:aO) (h:cQ),(K w.params).In h->h.Ns bz mg->mg d.name=aa (.ref fa)->
   ∃fd:dB,(∀(s:aM)(u:aB),nr s fd #[[u],[]] [(x,u)])/\
    ∀base:cQ,(K w.params).In base->base.Ns bz mg->dC base c Pt->base.BuiltinsAt mg Pt->bz≠Pt->FnOk l.prog w (K w.params) mg base (CX w) k fa fd [x] (sp w Pt))
  (hsp:∀(w:b9)(H:Hp)(a:aO)(ns:List Int),ns.length<=n->uy Pt H->SqL (K w.params) H a (ns.map V.int)->sp w Pt [.ref a] H (λv _=>v=.bl ao) λ_ _ _=>False)
  (hCX:∀(w:b9)(H:Hp)(s:aM)(e:aB)(s':aM),CX w [] H s (λ_ _ _=>False) e s'->False) :
  rV q loose XP YP l.row.toRowW d [] (λf vs=>rg f vs):=by
 refine Att.wy hn hdf λw s₀ s₁ mg mb fa o pm cd doc a vs ns G Y ho hd hcd hmg hobj hints hlen hg=>?_
 have KX:=hY w _ Y;obtain⟨fd,hb,hF⟩:=F w mg fa _ KX G.T.g hmg;obtain⟨hC,hPt⟩:=PySem.W.tab_of G.T KX hrec<|ht w;obtain⟨bm,ob,b1,b2,b3,b4,b5,b6⟩:=G.T.bmain;have hbP:bm≠Pt:=λz=>by rw[z,hPt]at b3;cases b3;cases b4
 have hbG:bm≠bz:=λz=>by
  obtain⟨o,es,ep,e,hd,_⟩:=G.T.g;rw[z,e]at b3;cases b3;rw[hd]at b6;cases b6
 exact jK KX G.T.g G.T.b G.T.builtins G.T.nolimit hg hC hPt (hK w) #[bm,ob,b1,b2,hbG,hbP,b3,b4,b5,b6] hobj hints (bV hlen hn2) hr hF hb (λH hO hS=>hsp w H a ns hlen hO hS) λH e s'=>hCX w H s₁ e s'
open Ev (E Sm Fn Bop Cop Ty Bf Mf)
noncomputable def Xk:List bR:=["SpaceError","NoRow","NoPart","NoNumber","NoHeads","NotBeside","NotIn","NoTurn","NoLot","TooMany","BadNote"]
structure Errs(K:ap)(mg:bR->Option aB)(cl:List aO):Prop where
 len:cl.length=11
 nm:∀(j:Nat)(C:aO)(x:bR),cl[j]?=aa C->Xk[j]?=aa x->mg x=aa (.ref C)
 exk:∀(j:Nat)(C:aO),cl[j+1]?=aa C->ExK K C
 one:∀(i j:Nat)(C D:aO),cl[i+1]?=aa C->cl[j+1]?=aa D->gq K (.ref C) (.ref D)=aa (ag<|i=j)
 ve:∀(i:Nat)(C:aO),cl[i+1]?=aa C->gq K (.ref C) (.type "ValueError")=aa ao
 exm:∀(i:Nat)(C S:aO),cl[i+1]?=aa C->cl[0]?=aa S->rH K (.ref C) (.ref S)=aa ao
def tIs(K:ap)(ir:Nat)(Dv:V):TE:=tCB (Zid K)<|Xo (vj ir)<|Xo (tC Dv) wG
structure ErAt(K:ap)(cl:List aO)(ir c:Nat)(Z:L2.St)(H:Hp):Prop where
 ex:∃a oe C,Z[ir]?=aa (aa<|.ref a)/\H a=aa (.frz oe<|.own a)/\oe.cls=.ref C/\cl[c+1]?=aa C
theorem ErAt.upd{K:ap}(e:ErAt K cl ir c Z H)(hq:H q=ai):ErAt K cl ir c Z (L2.upd H q o):=by
 obtain⟨a,oe,C,h1,h2,h3⟩:=e.ex;exact#[a,oe,C,h1,by rw[Zk λz=>by rw[z,hq]at h2;cases h2];exact h2,h3]
def ErAt.wr{K:ap}(e:ErAt K cl ir c Z H)(hq:H q=aa (.lst xs)):ErAt K cl ir c Z (L2.upd H q o):=by
 obtain⟨a,oe,C,h1,h2,h3⟩:=e.ex;exact#[a,oe,C,h1,by rw[Zk λz=>by rw[z,hq]at h2;cases h2];exact h2,h3]
theorem ErAt.set{K:ap}(e:ErAt K cl ir c Z H)(hj:ir≠j):ErAt K cl ir c (Z.set j<|aa v) H:=by
 obtain⟨a,oe,C,h1,h2⟩:=e.ex;exact#[a,oe,C,by rw[bc<|Ne.symm hj];exact h1,h2]
def XA{K:ap}(R:Errs K mg cl)(e:ErAt K cl ir c Z H)(hj:cl[j+1]?=aa Dj)(q:Q (.bl<|ag<|c=j) H):tIs K ir (.ref Dj) Z H Q:=by
 obtain⟨a,oe,C,h1,h2,h3,h4⟩:=e.ex;exact#[.ref a,h1,a,oe,C,.ref Dj,.ref Dj,ag<|c=j,rfl,rfl,λu' r=>r,h2,h3,R.exk c C h4,R.one c j C Dj h4 hj,q]
def ZgI{K:ap}(R:Errs K mg cl)(e:ErAt K cl ir c Z H)(q:Q (.bl ao) H):tIs K ir (.ty "ValueError") Z H Q:=by
 obtain⟨a,oe,C,h1,h2,h3,h4⟩:=e.ex;exact#[.ref a,h1,a,oe,C,.ty "ValueError",.type "ValueError",ao,rfl,rfl,λu' r=>r,h2,h3,R.exk c C h4,R.ve c C h4,q]
def Zi6(hi:X.N[ir]?=aa xr)(hv:Vis X.env.scope xr)(hg0:Gl X "isinstance")(hm0:X.mg "isinstance" = ai)(hg:Gl X x)(hm:X.mg x=aa (.ref Dj))(hd1:(xr == #[11])=aj)(hd2:(xr == #[23])=aj)(hd3:(x == #[11])=aj)
  (hs:aE [.Name xr p1,.Name x p2] X.env=(aj,cR (.Name xr p1) X.env)::aE [.Name x p2] X.env:=by rfl)(hs2:aE [.Name x p2] X.env=(aj,cR (.Name x p2) X.env)::aE [] X.env:=by rfl)(hpl:(dS pos<|aE [.Name x p2] X.env).any (·.1)=aj:=by rfl) :
  PE X (.Call (.Name "isinstance" p) [.Name xr p1,.Name x p2] [] pos) (tIs X.K ir<|.ref Dj):=
 Wl wg hg0 hm0 rfl (ZS (YY hi hv hd1 hd2) (ZS (ZeW hg hm rfl hd3) Xb hs2) hs) #[1] #[1] hs hpl
def Zhp(hi:X.N[ir]?=aa xr)(hv:Vis X.env.scope xr)(hg0:Gl X "isinstance")(hm0:X.mg "isinstance" = ai)(hg:Gl X "ValueError")(hm:X.mg "ValueError" = ai)(hd1:(xr == #[11])=aj)(hd2:(xr == #[23])=aj)
  (hs:aE [.Name xr p1,.Name "ValueError" p2] X.env=(aj,cR (.Name xr p1) X.env)::aE [.Name "ValueError" p2] X.env:=by rfl)(hs2:aE [.Name "ValueError" p2] X.env=(aj,cR (.Name "ValueError" p2) X.env)::aE [] X.env:=by rfl)(hpl:(dS pos<|aE [.Name "ValueError" p2] X.env).any (·.1)=aj:=by rfl) :
  PE X (.Call (.Name "isinstance" p) [.Name xr p1,.Name "ValueError" p2] [] pos) (tIs X.K ir<|.ty "ValueError"):=
 Wl wg hg0 hm0 rfl (ZS (YY hi hv hd1 hd2) (ZS (ua hg hm rfl rfl) Xb hs2) hs) #[1] #[1] hs hpl
def VH(K:ap)(ir is:Nat)(cl:List aO)(ts:TT)(rb:TE)(fin:TS):TS:=
 let I:=λj=>tIs K ir<|.ref<|cl.getD (j+1) 0
 vO (Zh3 (tB<|Zjc<|vj ir) (Zd6<|tC .non) Zc0) (vO (Zap (ZeB<|Xo (I 0)<|Xo (I 1)<|Xo (I 2) wG)<|xY is)
  (vO (Zap (tOp ZeF (vj is)<|ZeB<|Xo (I 3)<|Xo (I 4)<|Xo (I 5) wG)<|xY is) (vO (Zap (tOp ZeF (vj is)<|ZeB<|Xo (I 6)<|Xo (I 7)<|Xo (I 8) wG)<|xY is)
   (vO (ZfE<|tBM K "list" qp (vj is)<|Xo (I 9) wG)<|vO (Zh3 (tOr (Zi5<|tB<|tIs K ir<|.ty "ValueError") ts) (Zd6 rb) Zc0) fin))))
def vI{K:ap}(h:Z[ir]?=aa (aa .non))(q:Dn.rt .non H):VH K ir is cl ts rb fin Dn Z H:=by
 refine#[.non,h,ao,rfl,?_]
 change (if ao=ao then _ else _)
 rw[T9 rfl];exact q
def xy(xs):∀ps,HO.lst xs≠.tbl ps:=λ_ z=>by cases z
noncomputable def Yc(c:Nat):List Bool:=(aC 10).map λj=>ag<|c=j
def Zgt:∀c,c<10->(Yc c)[c]?=aa ao:=by decide
def Zg2:∀c,c<10->∀m,m<c->(Yc c)[m]?=aa aj:=by decide
theorem uj :∀(bs:List Bool),Rq U H (bs.map Pv.V.bl) (bs.map V.bl)
 |[]=>Rq.nil
 |b::bs=>Rq.cons (Yn b)<|uj bs
def upd2 :upd (upd H p o) p u=upd H p u:=by
 funext b
 by_cases z:b=p
 .subst z;rw[Zm,Zm]
 .rw[Zk z,Zk z,Zk z]
def jZ{K:ap}{mg:bR->Option aB}{ts:TT}{rb:TE}{fi:TS}{Dn:Ends}{c:Nat}{U:Mx}{S:ZO}(R:Errs K mg cl)(hc:c<10)(e:ErAt K cl ir c Z H)(hne:ir≠is)(hsl:is<Z.length)(st:St3 K U S H)
  (hts:∀(σ':L2.St)(H':Hp)(p:aO)(Q':Bool->Hp->Prop),σ'[is]?=aa (aa<|.ref p)->H' p=aa (.lst<|(Yc c).map .bl)->¬U.X p->St3 K U S H'->(∀H2,Fut U H' U H2->St3 K U S H2->Q' aj H2)->ts σ' H' Q')
  (fin:∀(σ':L2.St)(H':Hp)(q:aO),σ'[is]?=aa (aa<|.ref q)->σ'.length=Z.length->H' q=aa (.lst<|(Yc c).map .bl)->Fut U H U H'->St3 K U S H'->fi Dn σ' H'):VH K ir is cl ts rb fi Dn Z H:=by
 have cj:∀j,j<10->cl[j+1]?=aa (cl.getD (j+1) 0):=λj hj=>by
  have hl:j+1<cl.length:=by rw[R.len];lia
  rw[af hl,az,af hl];rfl
 obtain⟨a,oe,C,h1,h2,h3,h4⟩:=id e.ex;refine#[.ref a,h1,aj,rfl,?_]
 change (if aj=ao then _ else _)
 rw[T8 aT]
 let A1:HO:=.lst [.bl<|ag<|c=0,.bl<|ag<|c=1,.bl<|ag<|c=2]
 let A2:HO:=.lst [.bl<|ag<|c=3,.bl<|ag<|c=4,.bl<|ag<|c=5]
 let A3:HO:=.lst [.bl<|ag<|c=0,.bl<|ag<|c=1,.bl<|ag<|c=2,.bl<|ag<|c=3,.bl<|ag<|c=4,.bl<|ag<|c=5]
 let A4:HO:=.lst [.bl<|ag<|c=6,.bl<|ag<|c=7,.bl<|ag<|c=8]
 let L5:List Bool:=[ag<|c=0,ag<|c=1,ag<|c=2,ag<|c=3,ag<|c=4,ag<|c=5,ag<|c=6,ag<|c=7,ag<|c=8]
 let A5:HO:=.lst<|L5.map .bl
 let A6:HO:=.lst<|(Yc c).map .bl
 have neq:∀{G:Hp}{b d:aO}{u:HO},G b=aa u->G d=ai->b≠d:=λh1 h2 z=>by rw[z,h2]at h1;cases h1
 refine XA R e (cj 0<|by lia)<|XA R e (cj 1<|by lia)<|XA R e (cj 2<|by lia) #[by show 3<=a9;decide,λq1 hq1=>?_]
 have e1:=(e.upd (o:=A1) hq1).set (v:=.ref q1) hne;have st1:=st.fresh (o:=A1) hq1<|xy _;have f1:Fut U H U (upd H q1 A1):=ZB hq1;have g1:upd H q1 A1 q1=aa A1:=Zm;have l1:(Z.set is<|aa<|.ref q1).length=Z.length:=bD;refine#[.ref q1,bg hsl,?_];refine XA R e1 (cj 3<|by lia)<|XA R e1 (cj 4<|by lia)<|XA R e1 (cj 5<|by lia) #[by show 3<=a9;decide,λq2 hq2=>?_]
 have g2:upd (upd H q1 A1) q2 A2 q1=aa A1:=by rw[Zk<|neq g1 hq2];exact g1
 have st2:=st1.fresh (o:=A2) hq2<|xy _;have f2:Fut U H U (upd (upd H q1 A1) q2 A2):=f1.trans<|ZB hq2;refine#[q1,q2,_,_,rfl,rfl,g2,Zm,by show 6<=a9;decide,λq3 hq3=>?_]
 let H3:=upd (upd (upd H q1 A1) q2 A2) q3 A3
 have e3:=((e1.upd hq2).upd (o:=A3) hq3).set (v:=.ref q3) hne;have st3:=st2.fresh (o:=A3) hq3<|xy _;have f3:Fut U H U H3:=f2.trans<|ZB hq3;have g3:H3 q3=aa A3:=Zm;have l3:((Z.set is<|aa<|.ref q1).set is<|aa<|.ref q3).length=Z.length:=by rw[bD,l1]
 refine#[.ref q3,bg (by rw[l1];exact hsl),?_]
 refine XA R e3 (cj 6<|by lia)<|XA R e3 (cj 7<|by lia)<|XA R e3 (cj 8<|by lia) #[by show 3<=a9;decide,λq4 hq4=>?_]
 have g4:upd H3 q4 A4 q3=aa A3:=by rw[Zk<|neq g3 hq4];exact g3
 have st4:=st3.fresh (o:=A4) hq4<|xy _;have f4:Fut U H U (upd H3 q4 A4):=f3.trans<|ZB hq4;refine#[q3,q4,_,_,rfl,rfl,g4,Zm,by show 9<=a9;decide,λq5 hq5=>?_]
 let H5:=upd (upd H3 q4 A4) q5 A5
 let σ5:=((Z.set is<|aa<|.ref q1).set is<|aa<|.ref q3).set is<|aa<|.ref q5
 have e5:=((e3.upd (o:=A4) hq4).upd (o:=A5) hq5).set (j:=is) (v:=.ref q5) hne;have l5:σ5.length=Z.length:=by rw[bD,l3]
 have v5:σ5[is]?=aa (aa<|.ref q5):=bg (by rw[l3];exact hsl)
 have g5:H5 q5=aa A5:=Zm;refine#[.ref q5,v5,.inl #[rfl,_,SqL.of g5],?_];refine XA R e5 (cj 9<|by lia) #[q5,_,_,rfl,rfl,g5,by show 9<a9;decide,?_]
 let H6:=upd H5 q5 A6
 have h6:H6=upd (upd H3 q4 A4) q5 A6:=upd2;have st6:St3 K U S H6:=by rw[h6];exact st4.fresh (o:=A6) hq5<|xy _
 have f6:Fut U H U H6:=by rw[h6];exact f4.trans<|ZB hq5
 have e6:ErAt K cl ir c σ5 H6:=e5.wr g5;have g6:H6 q5=aa A6:=Zm;have nx5:=st4.nx hq5;refine ZgI R e6 #[ao,rfl,?_]
 change (if aj=ao then _ else _)
 rw[T8 aT];refine hts σ5 H6 q5 _ v5 g6 nx5 st6 λH7 f7 st7=>?_
 change (if aj=ao then _ else _)
 rw[T8 aT];exact fin σ5 H7 q5 v5 l5 (qv f7 nx5 g6) (f6.trans f7) st7
def rbI:TE:=tUn (rU λi=>.int<|-i)<|tC<|.int 1
def Zgz(K:ap)(is:Nat):TS:=Zd6<|tBM K "list" ue (vj is)<|Xo (tC<|.bl ao) wG
def ZeP{K:ap}(hc:c<10)(v:Z[is]?=aa (aa<|.ref q))(h:H q=aa (.lst<|(Yc c).map .bl))(k:Dn.rt (.int c) H):Zgz K is Dn Z H:=
 #[.ref q,v,.inl #[rfl,_,SqL.of h],q,Yc c,c,rfl,rfl,h,Zgt c hc,Zg2 c hc,k]
structure LamIn(X:Cx)(scope:gI)(clos:List (bR×aO)):Prop where
 S:LamS scope clos
 cl:∀x c,clos.lookup x=aa c->X.env.cells.lookup x=aa c
 kd:∀x,scope.names.lookup x=aa .free->X.env.scope.names.lookup x=aa .cell
section
variable{X:Cx}{E:XK}{cl:List aO}{Cc:Calls}{i:Ev.E}{xw:Nat->Hp->Prop}
noncomputable def vR(w:Bool)(c:Nat):V:=.int c
def Zg9(w:Bool)(c:Nat):Rep U H (Pv.Zbx w c) (vR w c):=rfl
theorem Zfj{wd:Bool}{rb:TE}{fi:TS}{k:Nat}{f P c S0:aO}{fd:dB}{xf xc xr n xS:bR}{st:fB}{Nr:List bR}{ic ie ir is:Nat}{params:Arguments}{body:Expr}{scope:gI}{j0:Nat}{rest:List fB}{ts:Cx->TT}
  (D:DefX X E)(hfn:∀x,X.fn x=ao)(hr:Room (k+2) X.A)(R:Errs X.K X.mg cl)(hS0:cl[0]?=aa S0)
  (hP:∃ps,X.H₀ P=aa (.tbl ps))(hcode:X.env.code=.ref c)(C:dC X.base c P)(hB:X.base.BuiltinsAt X.mg P)(hgP:bz≠P)(hq:X.env.qual++"<lambda>" = Y1)(hcl:iM scope X.env=cX clos)(hdef:defaultsOf params X.env=([],[]))(L:LamIn X scope clos)
  (hbind0:∀pm c' ctv,mV (rJ "<lambda>" Y1 params body scope clos pm (.ref c') ctv) #[[],[]]=cX [])
  (hbody:∀(g:aO)(c':aO)(A:cz)(outer:List Env)(s:aM)(H:Hp)(E1:XK),Room k (A.deeper<|fS Y1 scope s.heap.objs.size g (.ref c') clos)->CE (cxL X.prog X.w X.K X.mg X.base X.N scope g (.ref c') clos A outer s H E1) (xwE cl E1) Cc body i)
  (hg:Gl X xf)(hm:X.mg xf=aa (.ref f))(hk:gu X.K (.ref f)=ao)(Fu:Fun X.K xf xf st f fd)(Sc:FnScope Nr [xc] (Zg st))(hb:UC X.K fd [xc] [])(hdb:(xf == #[11])=aj)
  (he:aE [.Lambda params body scope lp] X.env=(aj,cR (.Lambda params body scope lp) X.env)::aE [] X.env)(hpl:(dS pos<|aE [] X.env).any (·.1)=aj)
  (hst:ZE st=.Assign [.Name xr p0] (.Constant .none j0 q0) q1 :: .Try [.Expr (.Call (.Name xc p1) [] [] p2) p3] [.ExceptHandler (aa<|.Name xS p4) (aa n) [.Assign [.Name xr p5] (.Name n p6) p7] p8] [] [] p9::rest)
  (hN:Nr.Nodup)(hic:Nr[ic]?=aa xc)(hic0:ic=0)(hie:Nr[ie]?=aa n)(hir:Nr[ir]?=aa xr)(his:is<Nr.length)(hne:ir≠is)(hne2:ir≠ie)(hne3:ir≠0)
  (hkc:(Zg st).names.lookup xc=aa .local)(hke:(Zg st).names.lookup n=aa .local)(hkr:(Zg st).names.lookup xr=aa .local)(hkS:∀L f cdv,(dU xf (Zg st) L f cdv).kindOf xS=aa .globalImplicit)(hmS:X.mg xS=aa (.ref S0))
  (hd1:(xc == #[11])=aj)(hd2:(xc == #[23])=aj)(hd3:(n == #[11])=aj)(hd4:(n == #[23])=aj)(hd5:(xS == #[11])=aj)
  (hs0:∀L f cdv,eV (.Constant .none j0 q0) (aa<|.Name xr p0) q1.line (dU xf (Zg st) L f cdv)=cX aj)(hs1:∀L f cdv,eV (.Call (.Name xc p1) [] [] p2) ai p3.line (dU xf (Zg st) L f cdv)=cX aj)
  (hs2:∀L f cdv,eV (.Name n p6) (aa<|.Name xr p5) p7.line (dU xf (Zg st) L f cdv)=cX aj)
  (hrest:∀(cdv:aB)(A:cz)(outer:List Env)(s:aM)(H:Hp),Room (k+1) (A.deeper<|dU xf (Zg st) s.heap.objs.size f cdv)->
   PSs (Wf (CX1 X.prog X.w) X.prog X.w X.K X.mg X.base Nr xf (Zg st) f cdv A outer s H E0) rest (VH X.K ir is cl (ts<|Wf (CX1 X.prog X.w) X.prog X.w X.K X.mg X.base Nr xf (Zg st) f cdv A outer s H E0) rb fi))
  (hts:∀(Y:Cx)(U:Mx)(S:ZO)(e:Nat)(σ':L2.St)(H':Hp)(q:aO)(Q':Bool->Hp->Prop),Y.K=X.K->e<10->σ'[is]?=aa (aa<|.ref q)->H' q=aa (.lst<|(Yc e).map .bl)->¬U.X q->St3 X.K U S H'->(∀H2,Fut U H' U H2->St3 X.K U S H2->Q' aj H2)->ts Y σ' H' Q')
  (hfi:∀(Dn:Ends)(σ':L2.St)(U:Mx)(H':Hp)(S:ZO)(e:Nat)(q:aO),e<10->σ'[is]?=aa (aa<|.ref q)->σ'.length=Nr.length->H' q=aa (.lst<|(Yc e).map .bl)->St3 X.K U S H'->(∀H2,Fut U H' U H2->St3 X.K U S H2->Dn.rt (vR wd e) H2)->fi Dn σ' H') :
  CE X xw Cc (.Call (.Name xf p) [.Lambda params body scope lp] [] pos) (.refu wd i):=.mk <| by
 rintro pq s Z H Q I ⟨U,l,S,st0,lr,h⟩
 obtain⟨ps0,hP0⟩:=hP;obtain⟨more,hPH⟩:=I.base.tbls P ps0 hP0;refine dE<|V5 I hg hm ?_ hdb;refine nU (h₀:=X.base) I.ok.mod.kin hk ?_ he hpl;rw[he];refine Calls.spliced_cons<|ZbA I st0.tb hPH hcode C hB hgP hq hcl hdef λg c' oc vs t pm ctv H1 s1 I1 gr tb1 _ hg1 hc1 d1 v1=>Calls.spliced_nil #[I1.kIn,?_]
 have nx:∀b:aO,b∉([]:List aO):=λb=>by simp
 have hbd:=hb s1 [.ref g] I1.kIn rfl;have st1:=st0.grow gr tb1;have f1:Fut U H U H1:=gr.fut;refine nS<|fK (ZiX (CX:=CX1 X.prog X.w) (k:=k+1) (Q:=Q) (E:=E0) (us:=[.ref g]) (vs:=[.ref g]) Fu Sc hr I1.env0 (by simpa using hbd) (.cons rfl .nil) rfl λcdv s2 hrm I2=>?_) λr s' hq=>?_
 rotate_left
 .cases r with
  |error e=>obtain⟨_,_,_,_,_,_,_,_,_,_,_,_,_,_,z⟩:=hq;exact z.elim
  |ok fl=>
   cases fl with|ret u=>exact I1.after hq|next=>exact False.elim hq|brk=>exact False.elim hq|cont=>exact False.elim hq
 rw[hst]
 let Xr:=Wf (CX1 X.prog X.w) X.prog X.w X.K X.mg X.base Nr xf (Zg st) f cdv X.A X.stack s1 H1 E0
 let D0:Ends:={nx:=λ_ H'=>Q .non H',rt:=Q}
 let σ2:L2.St:=(start Nr [.ref g]).set ir<|aa .non
 have b0:=Q3 (X:=Xr) (pos:=q1) (pos':=p0) hN hir (.inl hkr) (vm (j:=j0) (pos:=q0)) (hs0 _ _ _)<|.inr hkr;refine gB<|thn (b0 [] s2 _ H1 {nx:=λσ' H'=>σ'=σ2/\H'=H1,rt:=λ_ _=>False} I2 #[rfl,rfl]) λfl s3 hq3=>?_
 cases fl with
 |ret v=>obtain⟨_,_,_,_,_,z⟩:=hq3;exact z.elim
 |brk=>obtain⟨_,_,_,z⟩:=hq3;exact False.elim z
 |cont=>obtain⟨_,_,_,z⟩:=hq3;exact False.elim z
 |next=>
 obtain⟨σx,Hx,I3,z1,z2⟩:=hq3;rw[z1,z2]at I3
 let E1:XK:=λCv _ H'=>∃e Ce S' ρ',Cv=.ref Ce/\cl[e]?=aa Ce/\Pv.pv Cc i l S=.ex e S'/\Fut U H1 ρ' H'/\St3 X.K ρ' S' H'
 have hl0:0<Nr.length:=by have:=(aN.mp hic).1;lia
 have hσl:=I3.len;have hirl:ir<σ2.length:=by rw[hσl];exact(aN.mp hir).1
 have hσ0:σ2[ic]?=aa (aa<|.ref g):=by
  rw[hic0,bc hne3];rfl
 have hσr:σ2[ir]?=aa (aa .non):=bg (by simpa[σ2]using hirl)
 have og:=(I3.hok g _ hg1).1;have oc':=(I3.hok c' _ hc1).1;have notin:∀x c0,X.env.cells.lookup x=aa c0->c0∉frs X.stack:=λx c0 hx hb=>by
  rw[D.st]at hb;unfold frs at hb;rw[cy,D.fr]at hb;rcases ay.mp hb with z|z
  .exact I1.cne x c0 hx z
  .obtain⟨_,o,ho,_⟩:=I1.ok.funs.mem z
   exact T7 (aG ho)<|mj<|I1.ok.cab x c0 (hfn x) hx
 have cellKeep:∀x c0 v,X.env.cells.lookup x=aa c0->s1.heap.IsCell c0 v->s3.heap.IsCell c0 v:=λx c0 v hx #[o,ho,hd]=>
  #[o,I3.base.keep c0 o ho (I1.freeC x c0 hx) (notin x c0 hx)<|nx c0,hd]
 have hEnd:End X.K (xwE cl E1) Rep U H1 (λ_ H'=>VH X.K ir is cl (ts Xr) rb fi D0 σ2 H') (Pv.pv Cc i l S):=by
  have h:End X.K xw Rep U H Q (match Pv.pv Cc i l S with
   |.ok _ S=>.ok .non S
   |.ex c S=>if 1<=c/\c<=10 then .ok (Pv.Zbx wd<|c-1) S else .no
   |.no=>.no):=by
   have h0:=h;rw[Pv.ZhL]at h0;exact h0
  cases q:Pv.pv Cc i l S with
  |no=>rw[q]at h;exact h.elim
  |ok d S'=>
   rw[q]at h;exact λρ' H' v f st' r=>vI hσr<|h ρ' H' .non (f1.trans f) st' Ql
  |ex e S'=>
   rw[q]at h;have hg:=(End.guard h).1;intro ρ' H' f st';have he:e<cl.length:=by rw[R.len];lia
   exact#[cl[e],af he,e,cl[e],S',ρ',rfl,af he,q,f,st']
 refine gB<|thn (ZdM (X:=Xr) (E:=E0) (Dn:={nx:=λσ' H'=>VH X.K ir is cl (ts Xr) rb fi D0 σ' H',rt:=λ_ _=>False}) (E1:=E1) (S:=S0) (ic:=ic) (ie:=ie) (ir:=ir) Zc4 I3 hN hic (.inl hkc) hσ0 hie hke hir hkr (hkS _ _ _) hmS #[_,_,_,_,og] ?run ?e1 hd1 hd2 hd3 hd4 hd5 (hs1 _ _ _)<|hs2 _ _ _) λfl s4 hq4=>?_
 case run=>
  exact Zcl (k:=k) (N:=X.N) (Z:=Z) hrm I3.env0 L.S og #[c',oc,vs,t,rfl,oc',d1,v1] (hbind0 pm c' ctv) (λx c0 e=>#[let #[v,z]:=I1.cell x c0<|L.cl x c0 e;#[v,cellKeep x c0 v (L.cl x c0 e) z],I1.freeC x c0<|L.cl x c0 e]) I1.len
   (λj x v e1 e2 fr=>by
    obtain⟨m,hn,hl⟩:=I1.loc;obtain⟨u,r,lk⟩:=hl j x v e1 e2<|.inr<|.inl<|L.kd x fr;obtain⟨c1,hc1⟩:=L.S.has x fr;rcases lk with⟨k1,_⟩|⟨_,c0,hc0,z⟩
    .have k1:X.env.scope.names.lookup x=aa .local:=k1
     rw[L.kd x fr]at k1;cases k1
    .have:=L.cl x c1 hc1
     rw[hc0]at this;cases this;exact#[u,c1,r,hc1,cellKeep x c1 _ hc0 z])
   (hbody g c' Xr.A Xr.stack s3 H1 E1<|hrm.deeper _).h #[U,l,S,st1,lr.mono f1,hEnd]
 case e1=>
  rintro Ce H' ⟨e,Ce',S',ρ',z,hce,hev,f,st'⟩
  cases z;have h2:End X.K xw Rep U H Q (if 1<=e/\e<=10 then .ok (Pv.Zbx wd<|e-1) S' else .no):=by
   have h0:=h;rw[Pv.ZhL,hev]at h0;exact h0
  obtain⟨hge,h3⟩:=End.guard h2;obtain⟨e',rfl⟩:∃e',e=e'+1:=#[e-1,by lia]
  refine#[R.exm e' Ce S0 hce hS0,λa oe Ha ce=>?_]
  have stA:=st'.fresh (o:=.frz oe<|.own a) Ha;have er:ErAt X.K cl ir e' (((σ2.set ie<|aa<|.ref a).set ir<|aa<|.ref a).set ie ai) (upd H' a<|.frz oe<|.own a):=
   #[a,oe,Ce,by rw[bc<|Ne.symm hne2,bg (by rw[bD];exact hirl)],Zm,ce,hce]
  have len':(((σ2.set ie<|aa<|.ref a).set ir<|aa<|.ref a).set ie ai).length=Nr.length:=by rw[bD,bD,bD];exact hσl
  refine jZ R #[0] er hne (by rw[len'];exact his) stA (λσ' H2 q Q' a1 a2 a3 a4 a5=>hts Xr ρ' S' e' σ' H2 q Q' rfl #[0] a1 a2 a3 a4 a5) λσ' H2 q b1 b2 b3 f2 st2=>?_
  refine hfi D0 σ' ρ' H2 S' e' q #[0] b1 (b2.trans len') b3 st2 λH3 f3 st3=>?_
  exact h3 ρ' H3 (vR wd e') (f1.trans<|f.trans<|(ZB Ha).trans<|f2.trans f3) st3 (by rw[oh];exact Zg9 wd e')
 cases fl with
 |ret v=>obtain⟨_,_,_,_,_,z⟩:=hq4;exact z.elim
 |brk=>obtain⟨_,_,_,z⟩:=hq4;exact False.elim z
 |cont=>obtain⟨_,_,_,z⟩:=hq4;exact False.elim z
 |next=>
  obtain⟨σ4,H4,I4,q4⟩:=hq4;exact hrest cdv X.A X.stack s1 H1 hrm [] s4 σ4 H4 D0 I4 q4
end
noncomputable def ksum(is:Nat):Ev.E:=.cmp .ne (.blt .sum [.comp1 [] 1 [0] (.of<|.v is) []<|.blt .toInt [.v 0]])<|.n 1
theorem qk:∀(bs:List Bool),Pv.mapP (λx s=>(Pv.po (Pv.Zq [0] x<|Pv.Z9 [] 1 l) s).bind λZ s=>(Pv.pvt Cc [] Z s).bind λb s=>if b then(Pv.pv Cc (.blt .toInt [.v 0]) Z s).bind λy s=>.ok [y] s else .ok [] s) (bs.map .bl) S=.ok (bs.map λb=>.int<|Ev.b2i b) S
 |[]=>rfl
 |b::bs=>by
  rw[ba,Pv.mapP,show((Pv.po (Pv.Zq [0] (Pv.V.bl b)<|Pv.Z9 [] 1 l) S).bind λZ s=>(Pv.pvt Cc [] Z s).bind λb s=>if b then(Pv.pv Cc (.blt .toInt [.v 0]) Z s).bind λy s=>.ok [y] s else .ok [] s)=Pv.PR.ok [Pv.V.int<|Ev.b2i b] S from rfl]
  dsimp only
  rw[qk bs];rfl
theorem yw:∀(bs:List Bool),Pv.intsV (bs.map λb=>Pv.V.int<|Ev.b2i b)=aa (bs.map Ev.b2i)
 |[]=>rfl
 |b::bs=>by rw[ba,Pv.intsV,yw bs];rfl
def uf:∀e,e<10->((Yc e).map Ev.b2i).sum=1/\Ev.Zcw ((Yc e).map Ev.b2i)=ao:=by decide
def Zff{e:Nat}(he:e<10)(hl:l[is]?=aa (aa<|.lst<|(Yc e).map .bl)):Pv.YS Cc (ksum is) l S=.ok aj S:=by
 have w:Pv.pvw Cc (.of<|.v is) l S=.ok ((Yc e).map .bl) S:=by
  rw[Pv.wE7,Pv.pE2,hl];rfl
 have c1:Pv.pv Cc (.comp1 [] 1 [0] (.of<|.v is) []<|.blt .toInt [.v 0]) l S=.ok (.lst<|(Yc e).map λb=>.int<|Ev.b2i b) S:=by
  rw[Pv.j8,w]
  rw[show ∀a (s:Pv.DS) f,(Pv.PR.ok a s).bind f=f a s from λ_ _ _=>rfl,qk]
  rfl
 have c2:Pv.pv Cc (.blt .sum [.comp1 [] 1 [0] (.of<|.v is) []<|.blt .toInt [.v 0]]) l S=.ok (.int 1) S:=by
  rw[Pv.Yq,Pv.pvs,c1];show Pv.po (Pv.X3 .sum [.lst<|(Yc e).map λb=>.int<|Ev.b2i b]) S=_
  unfold Pv.X3 Pv.blt1;simp only[yw,Option.bind,(uf e he).2,if_true,(uf e he).1];rfl
 unfold Pv.YS ksum;rw[Pv.Yi,c2];rfl
def Zgw(he:e<10)(h1:σ'[is]?=aa (aa<|.ref q))(h2:H' q=aa (.lst<|(Yc e).map .bl))(h3:¬U.X q)(st:St3 Y.K U S H')
  (hQ:∀H2,Fut U H' U H2->St3 Y.K U S H2->Q' aj H2):tB3 Y xw (Pv.YS Cc<|ksum is) σ' H' Q':=by
 have hl:=(aN.mp h1).1;refine#[U,(ax σ'.length ai).set is<|aa<|.lst<|(Yc e).map .bl,S,st,#[by simp,λi d e1=>?_],?_]
 .by_cases z:i=is
  .subst z
   rw[bg<|by simpa using hl]at e1
   cases e1;exact#[.ref q,h1,W3 h2 h3<|uj _]
  .rw[bc<|Ne.symm z,cO]at e1
   split at e1<;>cases e1
 .rw[Zff he<|bg (by simpa using hl)]
  exact λρ2 H2 v f s2 r=>by
   have r:=r;subst r;obtain rfl:=f.eq;exact hQ H2 f s2
def Zfr{xr xs:bR}{ts:TT}{rb:TE}{fi:TS}{badE:Expr}{last:List fB}{sumE:Expr}{P:Nat->iV}{J:Nat->Nat}(R:Errs X.K X.mg cl)(hN:X.N.Nodup)(hi:X.N[ir]?=aa xr)(hv:X.env.scope.names.lookup xr=aa .local)(hj:X.N[is]?=aa xs)(hw:X.env.scope.names.lookup xs=aa .local)
  (g0:Gl X "isinstance")(m0:X.mg "isinstance" = ai)(g1:Gl X "ValueError")(m1:X.mg "ValueError" = ai)(gc:∀x∈Xk,Gl X x)
  (r1:(xr == #[11])=aj)(r2:(xr == #[23])=aj)(s1:(xs == #[11])=aj)(s2:(xs == #[23])=aj)(hs:PT X sumE ts)
  (l1:((P 30).endLine == (P 31).line)=ao)(hbad:PE X badE rb)(hlast:PSs X last fi) :
  PSs X (.If (.Compare (.Name xr<|P 0) [.Is] [.Constant .none (J 0)<|P 1]<|P 2) [.Return (aa<|.Constant .none (J 1)<|P 3)<|P 4] [] (P 5) ::
   .Assign [.Name xs<|P 6] (.List [.Call (.Name "isinstance"<|P 40) [.Name xr<|P 41,.Name "NoRow"<|P 42] []<|P 43,.Call (.Name "isinstance"<|P 44) [.Name xr<|P 45,.Name "NoPart"<|P 46] []<|P 47,.Call (.Name "isinstance"<|P 48) [.Name xr<|P 49,.Name "NoNumber"<|P 50] []<|P 51]<|P 7) (P 8) ::
   .Assign [.Name xs<|P 9] (.BinOp (.Name xs<|P 10) .Add (.List [.Call (.Name "isinstance"<|P 52) [.Name xr<|P 53,.Name "NoHeads"<|P 54] []<|P 55,.Call (.Name "isinstance"<|P 56) [.Name xr<|P 57,.Name "NotBeside"<|P 58] []<|P 59,.Call (.Name "isinstance"<|P 60) [.Name xr<|P 61,.Name "NotIn"<|P 62] []<|P 63]<|P 11)<|P 12) (P 13) ::
   .Assign [.Name xs<|P 14] (.BinOp (.Name xs<|P 15) .Add (.List [.Call (.Name "isinstance"<|P 64) [.Name xr<|P 65,.Name "NoTurn"<|P 66] []<|P 67,.Call (.Name "isinstance"<|P 68) [.Name xr<|P 69,.Name "NoLot"<|P 70] []<|P 71,.Call (.Name "isinstance"<|P 72) [.Name xr<|P 73,.Name "TooMany"<|P 74] []<|P 75]<|P 16)<|P 17) (P 18) ::
   .Expr (.Call (.Attribute (.Name xs<|P 19) "append"<|P 30) [.Call (.Name "isinstance"<|P 76) [.Name xr<|P 77,.Name "BadNote"<|P 78] []<|P 79] []<|P 31) (P 20) ::
   .If (.BoolOp .Or [.UnaryOp .Not (.Call (.Name "isinstance"<|P 80) [.Name xr<|P 81,.Name "ValueError"<|P 82] []<|P 83)<|P 21,sumE]<|P 22) [.Return (aa badE)<|P 25] [] (P 26) ::
   last) (VH X.K ir is cl ts rb fi):=by
 have cj:∀j (x:bR),j<11->Xk[j]?=aa x->X.mg x=aa (.ref<|cl.getD j 0):=λj x hj e=>by
  have hl:j<cl.length:=by rw[R.len];exact hj
  exact R.nm j _ x (by rw[af hl,az,af hl];rfl) e
 have vr:Vis X.env.scope xr:=.inl hv;have vs:Vis X.env.scope xs:=.inl hw;have is:∀{a b c d:iV}(j:Nat)(x:bR),j<11->Xk[j]?=aa x->(x == #[11])=aj->PE X (.Call (.Name "isinstance" a) [.Name xr b,.Name x c] [] d) (tIs X.K ir<|.ref<|cl.getD j 0):=λj x h e hd=>
  Zi6 hi vr g0 m0 (gc x<|cU e) (cj j x h e) r1 r2 hd
 unfold VH
 dsimp only
 refine YU (Zb3 (Zg5<|ZgS<|YY hi vr r1 r2) (U5<|Q6 vm) zm) ?_;refine YU (Q3 hN hj (.inl hw) (G0<|ZS (is 1 "NoRow" #[1] rfl<|by decide)<|ZS (is 2 "NoPart" #[1] rfl<|by decide)<|ZS (is 3 "NoNumber" #[1] rfl<|by decide) Xb) rfl<|.inr hw) ?_
 refine YU (Q3 hN hj (.inl hw) (UL vK (YY hj vs s1 s2)<|G0<|ZS (is 4 "NoHeads" #[1] rfl<|by decide)<|ZS (is 5 "NotBeside" #[1] rfl<|by decide)<|ZS (is 6 "NotIn" #[1] rfl<|by decide) Xb) rfl<|.inr hw) ?_
 refine YU (Q3 hN hj (.inl hw) (UL vK (YY hj vs s1 s2)<|G0<|ZS (is 7 "NoTurn" #[1] rfl<|by decide)<|ZS (is 8 "NoLot" #[1] rfl<|by decide)<|ZS (is 9 "TooMany" #[1] rfl<|by decide) Xb) rfl<|.inr hw) ?_
 refine YU (zk (Zcp ip lH lI Uo (YY hj vs s1 s2) (ZS (is 10 "BadNote" #[1] rfl<|by decide) Xb) rfl rfl l1 rfl rfl) rfl) ?_
 exact YU (Zb3 (PW.pt<|Zfz (Zah<|Zhf<|Zhp hi vr g0 m0 g1 m1 r1 r2)<|ZbR hs) (U5<|Q6 hbad) zm) hlast
def ZiI{P:Nat->iV}{J:Nat->Nat}(hj:X.N[is]?=aa xs)(hw:X.env.scope.names.lookup xs=aa .local)(s1:(xs == #[11])=aj)(s2:(xs == #[23])=aj)(l2:((P 32).endLine == (P 33).line)=ao) :
  PSs X [.Return (aa<|.Call (.Attribute (.Name xs<|P 27) "index"<|P 32) [.Constant (.bool ao) (J 3)<|P 28] []<|P 33)<|P 29] (Zgz X.K is):=
 U5 (Q6<|Zcp ip PySem.F.slot_list_index PySem.F.type_list_index ZbC (YY hj (.inl hw) s1 s2) (ZS uJ Xb) rfl rfl l2 rfl rfl)
def Zjm{P:Nat->iV}{J:Nat->Nat}:PE X (.UnaryOp .USub (.Constant (.int 1) (J 2)<|P 23)<|P 24) rbI:=Zf4 Zbq QW
structure BSs(X:Cx)(s:List fB)(t:TS):Prop where
 h:PSs X s t
end
end Sd
namespace Gn
open PySem PySem.Spec PyProof.Rows L2
section
open Ev (E Sm Fn Bop Cop Ty Bf Mf)
open Sd (hu7 Calls CX1 spX xwE Errs Cls1 DefX)
structure Cls(K:ap)(mg:bR->Option aB)(base:cQ)(cl:List aO):Prop where
 er:Errs K mg cl
 rs:∀(c:Nat)(S C:aO),cl[0]?=aa S->cl[c+1]?=aa C->Cls1 base S C
def vh(P:bP)(w:b9)(K:ap)(mg:bR->Option aB)(base:cQ)(cl:List aO)(fs:List FR)(F:List Fn)(tk:Nat)(sn:List Nat)(f:Nat->aO)(fd:Nat->dB)(d:Nat):Prop:=
 ∀i r,fs[i]?=aa r->FnOk P w K mg base (CX1 P w) d (f i) (fd i) r.ps (spX K cl (Pv.Zl F tk d) (sn.contains i) i)
def BdX(fs:List FR)(zs:List bR)(gs:List (bR×Gv))(F:List Fn)(tk:Nat)(sn:List Nat)(i:Nat)(r:FR)(fn:Fn):Prop:=
 ∀(P:bP)(w:b9)(K:ap)(mg:bR->Option aB)(base:cQ)(cl:List aO)(f:Nat->aO)(fd:Nat->dB)(d:Nat),Top K mg fs zs gs f fd->Cls K mg base cl->vh P w K mg base cl fs F tk sn f fd d->r.N.Nodup->
  ∀(cdv:aB)(A:cz)(outer:List Env)(s:aM)(H:Hp)(E:XK),Room d (A.deeper<|dU r.x (Zg r.st) s.heap.objs.size (f i) cdv)->(A.deeper<|dU r.x (Zg r.st) s.heap.objs.size (f i) cdv).units+7<dJ->
   Sd.CSs (Wf (CX1 P w) P w K mg base r.N r.x (Zg r.st) (f i) cdv A outer s H E) (xwE cl E) (sn.contains i) (Pv.Zl F tk d) (Pv.muts fn.body) (ZE r.st) fn.body
def OkX(fs:List FR)(zs:List bR)(gs:List (bR×Gv))(F:List Fn)(tk:Nat)(sn:List Nat):Nat->List FR->List Fn->Prop
 |_,[],[]=>True
 |i,r::rs,fn::fns=>(fn.ns=r.N.length/\fn.ps=r.ps.length/\scB r.N r.k (Zg r.st)=ao/\BdX fs zs gs F tk sn i r fn)/\OkX fs zs gs F tk sn (i+1) rs fns
 |_,_,_=>False
theorem OkX.get :∀{rs:List FR}{fns:List Fn}{i0:Nat},OkX fs zs gs F tk sn i0 rs fns->∀i r,rs[i]?=aa r->∃fn,fns[i]?=aa fn/\fn.ns=r.N.length/\fn.ps=r.ps.length/\scB r.N r.k (Zg r.st)=ao/\BdX fs zs gs F tk sn (i0+i) r fn
 |[],_,_,_,i,r,e=>by simp at e
 |_::_,[],_,h,_,_,_=>h.elim
 |r::rs,fn::fns,i0,h,0,r',e=>by
  simp at e;subst e;exact#[fn,rfl,h.1.1,h.1.2.1,h.1.2.2.1,h.1.2.2.2]
 |r::rs,fn::fns,i0,h,i+1,r',e=>by
  obtain⟨g,a,b,c,d,q⟩:=OkX.get h.2 i r' (by simpa using e)
  exact#[g,by simpa using a,b,c,d,by rwa[d5,kq 1 i]at q]
theorem uZ{w:b9}{K:ap}{base:cQ}{tk:Nat}(O:OkX fs zs gs F tk sn 0 fs G)(hG:∀(i:Nat)(fn:Fn),G[i]?=aa fn->F[i]?=aa fn)(hT:F[tk]?=aa Sd.Vd)(T:Top K mg fs zs gs f fd)(L:Cls K mg base cl):∀d,vh P w K mg base cl fs F tk sn f fd d
 |0=>λi r h=>Sd.ZaA
 |d+1=>λi r h=>by
  obtain⟨fn,a,b,c,e,q⟩:=O.get i r h;rw[oR]at q;have S:=Uh e;have a:=hG i fn a;have hb:=λcdv A outer s H E hr=>(q P w K mg base cl f fd d T L (uZ O hG hT T L d) S.nd cdv A outer s H E hr<|hu7 hr)
  by_cases ht:i=tk
  .subst ht
   rw[hT]at a;cases a;exact Sd.ym Sd.ZdT b c (T.d i r h) S hb
  .exact Sd.ym (Sd.qi ht a) b c (T.d i r h) S hb
def Zc2{E:XK}(D:DefX X E)(T:Top X.K X.mg fs zs gs f fd)(h:vh X.prog X.w X.K X.mg X.base cl fs F tk sn f fd d)(hr:Room d X.A)(ha:Sd.CA X (xwE cl E) (Pv.Zl F tk d) (e::es) is)(hx:(fs[n]?).map FR.x=aa x)(hg:Gl X x)(hdb:(x == #[11])=aj)
  (he:aE (e::es) X.env=#[27]::aE es X.env)(hpl:(dS pos<|aE es X.env).any (·.1)=aj):Sd.CE X (xwE cl E) (Pv.Zl F tk d) #[26] (.call n is):=by
 cases e0:fs[n]? with
 |none=>rw[e0]at hx;cases hx
 |some r=>
  rw[e0]at hx;obtain rfl:r.x=x:=aq hx;exact Sd.wj (h n r e0) hr (Sd.Zf0 D) (λ_ _ z=>z) (T.m n r e0) (T.d n r e0).kp (T.b n r e0) ha hg hdb he hpl
def Zh2(T:Top X.K X.mg fs zs gs f fd)(h:vh X.prog X.w X.K X.mg X.base cl fs F tk sn f fd d)(hr:Room d X.A)(ha:Sd.CA X Sd.nx (Pv.Zl F tk d) (e::es) is)(hx:(fs[n]?).map FR.x=aa x)(hg:Gl X x)(hdb:(x == #[11])=aj)
  (he:aE (e::es) X.env=#[27]::aE es X.env)(hpl:(dS pos<|aE es X.env).any (·.1)=aj):Sd.CE X Sd.nx (Pv.Zl F tk d) #[26] (.call n is):=by
 cases e0:fs[n]? with
 |none=>rw[e0]at hx;cases hx
 |some r=>
  rw[e0]at hx;obtain rfl:r.x=x:=aq hx;exact Sd.wj (h n r e0) hr Sd.Zij (λ_ _ z=>z.elim) (T.m n r e0) (T.d n r e0).kp (T.b n r e0) ha hg hdb he hpl
def Zhe{x y:bR}{n k:Nat}{B:List Sm}{E:XK}(D:DefX X E)(T:Top X.K X.mg fs zs gs f fd)(h:vh X.prog X.w X.K X.mg X.base cl fs F tk sn f fd d)(hr:Room d X.A)(ha:Sd.CA X (xwE cl E) (Pv.Zl F tk d) (e::es) is)(hB:Sd.CSs X (xwE cl E) fr (Pv.Zl F tk d) ns ss B)(hN:X.N.Nodup)(hx:(fs[k]?).map FR.x=aa y)(hk:sn.contains k=ao)
  (hg:Gl X y)(hdb:(y == #[11])=aj)(he:aE (e::es) X.env=#[27]::aE es X.env)(hpl:(dS p<|aE es X.env).any (·.1)=aj)(hi:X.N[n]?=aa x)(hl:L2.Loc X.env.scope x)(hf:X.fn x=ao\/X.env.scope.names.lookup x=aa .local)
  (hs:fm [.Name x px] (.Call (.Name y p') (e::es) [] p) pos.line X.env=cX aj)(hw:fq [.Name x px] (.Call (.Name y p') (e::es) [] p) X.env=cX ai)(h1:(cD [.Name x px] X.env).map (·.2)=[eB (.Name x px) X.env]) :
  Sd.CSs X (xwE cl E) fr (Pv.Zl F tk d) ns (.Assign [.Name x px] (.Call (.Name y p') (e::es) [] p) pos::ss) [.cel n k is B]:=by
 cases e0:fs[k]? with
 |none=>rw[e0]at hx;cases hx
 |some r=>
  rw[e0]at hx;obtain rfl:r.x=y:=aq hx;have q:=h k r e0;rw[hk]at q;refine Sd.ZhD (Sd.PE.imp (uA q hr hg (T.m k r e0) (T.d k r e0).kp (T.b k r e0) .nil (Sd.Zf0 D) ha.h hdb he hpl) λZ H Q z=>?_) hB hN hi hl hf hs hw h1
  unfold ZfW;simp only[cr];exact z
def ZiH{E:XK}(D:DefX X E)(hc:X.calm=ao)(L:Cls X.K X.mg X.base cl)(hx:Sd.Xk[c+1]?=aa x)(hg:Gl X x)(hd:(x == #[11])=aj)
  (he:aE [.Constant (.str y) k p] X.env=(aj,cR (.Constant (.str y) k p) X.env)::aE [] X.env)(hpl:(dS cpos<|aE [] X.env).any (·.1)=aj) :
  Sd.CS X (xwE cl E) fr C ns (.Raise (aa<|.Call (.Name x np) [.Constant (.str y) k p] [] cpos) ai pos) (.raise (c+1) []):=by
 have hl:c+1<cl.length:=by rw[L.er.len];have:=(aN.mp hx).1;exact this
 have h0:0<cl.length:=by lia
 exact Sd.Zca D hc (L.rs c _ _ (af h0)<|af hl) (af hl) hg (L.er.nm (c+1) _ x (af hl) hx) hd he hpl
open Sd (St3 End Rep Rq LocR Ql)
def spL(Pt:aO)(K:ap)(cl:List aO)(C:Calls)(n:Nat):Sp:=λvs H Q E=>(∃ps,H Pt=aa (.tbl ps))/\spX K cl C aj n vs H Q E
section
variable{P:bP}{w:b9}{K:ap}{mg:bR->Option aB}{base:cQ}{cl:List aO}
def Zdq{n:Nat}{fn:Fn}{st:fB}{k:Nat}(hF:∀U S H ds vs,St3 K U S H->Rq U H ds vs->C' n ds S=.no\/C' n ds S=Sd.yd C fn ds S)(hns:fn.ns=N.length)(hps:fn.ps=ps.length)(Fu:Fun K x qual st f fd)(S:FnScope N ps (Zg st))(hcd:fd.code=.ref c)
  (hb:∀(A:cz)(outer:List Env)(s:aM)(H:Hp)(E:XK),(∃ps,H Pt=aa (.tbl ps))->Room k (A.deeper<|dU qual (Zg st) s.heap.objs.size f<|.ref c)->
   Sd.CSs (Wf (CX1 P w) P w K mg base N qual (Zg st) f (.ref c) A outer s H E) (xwE cl E) aj C (Pv.muts fn.body) (ZE st) fn.body) :
  FnOk P w K mg base (CX1 P w) (k+1) f fd ps (spL Pt K cl C' n):=by
 have eq:∀{U S H ds vs Q E},St3 K U S H->Rq U H ds vs->End K (xwE cl E) (Sd.Wq aj H) U H Q (C' n ds S)->End K (xwE cl E) (Sd.Wq aj H) U H Q (Sd.yd C fn ds S):=λ{U S H ds vs Q E} st r h=>by
  rcases hF U S H ds vs st r with e|e
  .rw[e]at h;exact h.elim
  .rwa[e]at h
 obtain⟨oc,od,kV,doc,pm,an,cdv,ct,osl,rfl,lk,hcode⟩:=Fu.ex;obtain rfl:cdv=.ref c:=hcd;refine ZfF lk hcode S (λvs H Q E #[_,U,ds,S,st,r,h]=>?_) λA outer s H vs Q E hr #[hP,U,ds,S',st,r,h]=>#[_,(hb A outer s H E hP hr).h,U,H,λ_=>ai,Pv.ZQ fn.ns ds,[],S',st,Sd.Eu.start st r N fn.ns hns,Sd.wu (λ_ _ q=>q) (λ_ _ q=>q)<|eq st r h]
 have h:=eq st r h;obtain⟨hl,_⟩:=Sd.End.guard h;rw[r.length,hl,hps]
def Zfm(hO:Sd.uy Pt H)(hS:SqL K H a (ns.map V.int))(h:∀s,∃S',C n [.scr ns] s=.ok (.bl ao) S'):spL Pt K cl C n [.ref a] H (λv _=>v=.bl ao) λ_ _ _=>False:=by
 obtain⟨S',e⟩:=h (0,aj);have sc:Sd.Scr K H a ns:=by
  rcases hS with(hS|hS)|hS
  .by_cases z:a=Pt
   .rw[z,hO.1]at hS;cases hS
   .rcases hO.2 a z with z|⟨o,xs,z⟩
    .rw[z]at hS;cases hS
    .rw[z]at hS;cases hS
  .exact .inl hS
  .exact .inr hS
 refine#[#[_,hO.1],#[K,ai,λ_=>False,λ_ h=>by cases h],[.scr ns],(0,aj),#[rfl,λ_ h=>h.elim,λ_ h=>(by cases h),λQ ps e=>?_],Sd.Rq.cons (by exact#[a,rfl,sc]) Sd.Rq.nil,?_]
 .by_cases z:Q=Pt
  .subst z
   rw[hO.1]at e;cases e;exact#[trivial,λpos cv q=>by cases q]
  .rcases hO.2 Q z with z|⟨_,_,z⟩<;>(rw[z]at e;cases e)
 .rw[e]
  exact λρ' H' v _ _ r=>r.1.bl'
end
def BdL(fs:List FR)(zs:List bR)(gs:List (bR×Gv))(F:List Fn)(tk:Nat)(sn:List Nat)(r:FR)(fn:Fn):Prop:=
 ∀(P:bP)(w:b9)(K:ap)(mg:bR->Option aB)(base:cQ)(cl:List aO)(f:Nat->aO)(fd:Nat->dB)(fL c Pt:aO)(d:Nat),Top K mg fs zs gs f fd->Cls K mg base cl->vh P w K mg base cl fs F tk sn f fd d->r.N.Nodup->
  dC base c Pt->base.BuiltinsAt mg Pt->bz≠Pt->
  ∀(A:cz)(outer:List Env)(s:aM)(H:Hp)(E:XK),(∃ps,H Pt=aa (.tbl ps))->Room (d+2) (A.deeper<|dU r.x (Zg r.st) s.heap.objs.size fL<|.ref c)->(A.deeper<|dU r.x (Zg r.st) s.heap.objs.size fL<|.ref c).units+7<dJ->
   Sd.CSs (Wf (CX1 P w) P w K mg base r.N r.x (Zg r.st) fL (.ref c) A outer s H E) (xwE cl E) aj (Pv.Zl F tk d) (Pv.muts fn.body) (ZE r.st) fn.body
open PySem.W
open Sd (ExK Xk veM)
def Zei(K:Frag)(cl:List aO)(i:Nat)(C:aO):Bool:=
 excIn K C veM "ValueError.__new__" && ((clsIn K C).isSome&&(rG K (.ref C) "__getattribute__" == aa (aa<|.builtin "BaseException.__getattribute__")&&(rG K (.ref C) "__getattr__" == aa ai &&
  (rG K (.ref C) "__class__" == aa (aa<|.builtin "object.__class__")&&(mroIn K C (.type "BaseException") == aa ao&&(mroIn K C (.type "object") == aa ao&&(kitOne K (.ref C) (.type "ValueError") == aa ao &&
   (exmOne K (.ref C) (.ref<|cl.getD 0 0) == aa ao&&(cl.drop 1).zipIdx.all λq=>kitOne K (.ref C) (.ref q.1) == aa (ag<|i=q.2)))))))))
def Gc(K:Frag)(cl:List aO):Bool:=
 decide (cl.length=11)&&((cl.zip Xk).all (λq=>nsIn K bz q.2 == aa (aa<|.ref q.1))&&(cl.drop 1).zipIdx.all λq=>Zei K cl q.2 q.1)
def Q0{B:Type}{l:List B}{f:B×Nat->Bool}(h:l.zipIdx.all f=ao){a:B}(e:l[i]?=aa a):f (a,i)=ao:=by
 refine aV.mp h (a,i) ?_;rw[kf];exact e
section
variable{K:Frag}{cl:List aO}
def yj(h:Gc K cl=ao){C:aO}(e:cl[i+1]?=aa C):Zei K cl i C=ao:=by
 unfold Gc at h;rw[aA,aA]at h;have e1:(cl.drop 1)[i]?=aa C:=by rw[eN,kq];exact e
 exact Q0 h.2.2 e1
def Ze6(X:K.In hh)(G:hh.Ns bz mg)(h:Gc K cl=ao):Errs K mg cl:=by
 have h0:=h;unfold Gc at h0;rw[aA,aA,T0]at h0;obtain⟨hl,hn,_⟩:=h0;have parts:∀{i:Nat}{C:aO},cl[i+1]?=aa C->_:=λ{i C} e=>by
  have:=yj h e;unfold Zei at this;simp only[aA,beq_iff_eq]at this;exact this
 refine#[hl,λj C x e1 e2=>?_,λj C e=>?_,λi j C D e1 e2=>?_,λi C e=>?_,λi C S e1 e2=>?_]
 .have:=aV.mp hn (C,x) (cU (by rw[gJ];exact#[e1,e2]))
  exact mg_of X G<|beq_iff_eq.mp this
 .obtain⟨_,a,b,c,d,e5,e6,_⟩:=parts e
  exact#[a,b,c,d,e5,e6]
 .obtain⟨_,_,_,_,_,_,_,_,_,z⟩:=parts e1
  have e3:(cl.drop 1)[j]?=aa D:=by rw[eN,kq];exact e2
  exact beq_iff_eq.mp<|Q0 z e3
 .obtain⟨_,_,_,_,_,_,_,z,_⟩:=parts e
  exact z
 .obtain⟨_,_,_,_,_,_,_,_,z,_⟩:=parts e1
  have:cl.getD 0 0=S:=by rw[az,e2];rfl
  rwa[this]at z
def Zh5(X:K.In base)(q:excIn K C veM "ValueError.__new__" = ao):Cls1 base S C:=by
 unfold excIn at q;split at q
 case h_2=>cases q
 case h_1 d0 k sl lk=>
  split at q
  case h_2=>cases q
  case h_1 c0 rest s0 s1 s2 s3 made s5 em es=>
   repeat rw[aA]at q
   obtain⟨⟨⟨⟨⟨y1,y2⟩,y3⟩,y4⟩,y5⟩,y6⟩:=q;cases beq_iff_eq.mp y1;cases beq_iff_eq.mp y2;have y3:k.hasDel=aj:=by simpa using y3
   cases k;cases em;cases y3;cases(iO.mp es);exact#[rest,_,_,_,_,_,_,_,_,_,d0,s0,s1,s2,s3,s5,_,X _ _ lk,.of_isNs<|isNs_of_in X y5,nsMap_none_of_in X y5<|beq_iff_eq.mp y6,tail_of_in X y4]
def Zek(X:K.In hh)(G:hh.Ns bz mg)(XB:K.In base)(h:Gc K cl=ao):Cls K mg base cl:=by
 refine#[Ze6 X G h,λc S C e0 e1=>Zh5 XB ?_]
 have:=yj h e1;unfold Zei at this;rw[aA]at this;exact this.1
end
end
section
open Ev (E Sm Fn Bop Cop Ty Bf Mf)
open Sd (Calls CX1)
def Zef{l:mK}{w:b9}{K:ap}{h:cQ}{fs:List FR}{zs:List bR}{F G:List Fn}{tk L:Nat}{sn:List Nat}{fnL:Fn}{fdL:dB}{st:fB}{N:List bR}{as cl:List aO}
  (X:K.In h)(Gs:h.Ns bz mg)(hfa:mg "law" = aa (.ref fa))(O:OkX fs zs gs F tk sn 0 fs G)(hG:∀(i:Nat)(fn:Fn),G[i]?=aa fn->F[i]?=aa fn)(hT:F[tk]?=aa Sd.Vd)(hLt:L≠tk)(A:FnsAt K fs as fds)(Z:ZsAt K zs)(Y:GsAt K gs)(Er:Gc K cl=ao)
  (AL:FnsAt K [#["law",st,"_law_script" :: N,1]] [aL] [fdL])(hFL:F[L]?=aa fnL)(h1:fnL.ns=N.length+1)(h2:fnL.ps=1)(hsc:scB ("_law_script" :: N) 1 (Zg st)=ao)(B:BdL fs zs gs F tk sn #["law",st,"_law_script" :: N,1] fnL)(hcode:fdL.code=.ref c) :
  ∃fd:dB,(∀(s:aM)(v:aB),nr s fd #[[v],[]] [("_law_script",v)])/\∀base:cQ,K.In base->base.Ns bz mg->dC base c Pt->base.BuiltinsAt mg Pt->bz≠Pt->FnOk l.prog w K mg base (CX1 l.prog w) 65 fa fd ["_law_script"] (spL Pt K cl (Pv.Zl F tk 63) L):=by
 have T:Top K mg fs zs gs (λi=>as.getD i 0) (λi=>fds.getD i fdL):=
  #[λi r e=>(A.get i r e).2.1,λi r e=>by
   obtain⟨_,F,B⟩:=A.get i r e;exact F.binds B,λi r e=>iU X Gs (A.get (fd0:=fdL) i r e).1,λx hx=>PySem.W.mg_none_of X Gs<|Z.get x hx,λy hy=>Y.get X Gs y hy]
 obtain⟨hn,Fu,Bn⟩:=AL.get (fd0:=fdL) 0 _ rfl;have e:=hfa.symm.trans<|iU X Gs hn;cases e;have S:=Uh hsc;refine#[fdL,λs v=>?_,λbase XB GB hC hB hP=>?_]
 .obtain⟨oc,od,kV,doc,pm,an,cdv,ct,osl,e,lk,hcd⟩:=Fu.ex
  have e:fdL=_:=e;rw[e];exact .of_eq<|Bn kV doc pm an cdv ct [v] rfl
 .have Lc:=Zek X Gs XB Er
  exact Zdq (N:="_law_script" :: N) (Sd.qi hLt hFL) h1 h2 Fu S hcode λA outer s H E hp hr=>(B l.prog w K mg base cl _ _ _ c Pt 62 T Lc (uZ O hG hT T Lc 62) S.nd hC hB hP A outer s H E hp hr<|Sd.hu7 hr)
theorem ZbD{l:mK}{q:bP}{loose:List bR}{d:DefRec}{K:Params->ap}{F:List Fn}{tk L:Nat}{c Pt:aO}{dr:DefRec}{cl:b9->List aO}(hok:∀(ns:List Int) s,∃S,Pv.Zl F tk 63 L [.scr ns] s=.ok (.bl ao) S)(hn:l.most=aa 63)(hdf:d.params.defaults=[])
  (hY:∀(w:b9)(h:cQ),YP w h->(K w.params).In h)(hrec:(recsOf q).find? (λe=>e.name == d.name)=aa dr)(ht:∀w:b9,rT (K w.params) d.name=aa (c,Pt))(hK:∀w:b9,nj (K w.params)=ao)
  (hF:∀(w:b9) mg (fa:aO) (h:cQ),(K w.params).In h->h.Ns bz mg->mg d.name=aa (.ref fa)->
   ∃fd:dB,(∀(s:aM)(u:aB),nr s fd #[[u],[]] [("_law_script",u)])/\∀base:cQ,(K w.params).In base->base.Ns bz mg->dC base c Pt->base.BuiltinsAt mg Pt->bz≠Pt->FnOk l.prog w (K w.params) mg base (CX1 l.prog w) 65 fa fd ["_law_script"] (spL Pt (K w.params) (cl w) (Pv.Zl F tk 63) L)) :
  rV q loose XP YP l.row.toRowW d [] (λf vs=>rg f vs):=
 Sd.ZbD (n:=63) (k:=65) (sp:=λw Pt=>spL Pt (K w.params) (cl w) (Pv.Zl F tk 63) L) hn #[1] hdf #[rfl,by decide,by decide,rfl] hY hrec ht hK hF (λw H a ns hl hO hS=>Zfm hO hS<|hok ns)<|by rintro _ _ _ _ _ ⟨_,_,_,_,_,_,_,_,_,_,_,_,_,_,z⟩;exact z
end
end Gn
namespace Sd
open PySem PySem.Spec PyProof.Rows L2
open Ev (E Sm Fn Bop Cop Ty Bf Mf)
end Sd
namespace Gn
open PySem PySem.Spec PyProof.Rows L2
open Ev (E Sm Fn Bop Cop Ty Bf Mf)
open Sd (Calls CX1 spX xwE Errs Cls1 DefX LamS LamIn VH tB3 ksum Y1 Xk)
theorem Vn :∀(l:List (bR×iX)) acc,(∀y∈l,y.2=.free->(env.cells.lookup y.1).isSome=ao)->(∀x c,(x,c)∈acc->env.cells.lookup x=aa c)->
  ∃cs,(m5 l acc (λy r=>if y.2 == .free then do let a <-cellOf env y.1;cX (ke ((y.1,a)::r))else cX (ke r)):pX _)=cX cs/\(∀x c,(x,c)∈cs->env.cells.lookup x=aa c)/\(∀x c,(x,c)∈acc->(x,c)∈cs)/\∀x,(x,bJ)∈l->∃c,(x,c)∈cs
 |[],acc,_,ha=>#[acc,rfl,ha,λ_ _ h=>h,λx h=>by simp at h]
 |(x,k)::l,acc,hl,ha=>by
  by_cases e:k=.free
  .subst e
   obtain⟨c,hc⟩:=bQ.mp<|hl (x,.free) #[2] rfl;obtain⟨cs,e1,h1,h2,h3⟩:=Vn l ((x,c)::acc) (λy hy=>hl y<|by simp[hy]) (λy d hd=>by
    rcases ay.mp hd with z|z
    .cases z;exact hc
    .exact ha y d z)
   refine#[cs,?_,h1,λy d hd=>h2 y d (by simp[hd]),λy hy=>?_]
   .rw[<-e1]
    unfold cellOf;simp[hc]
   .rcases ay.mp hy with z|z
    .cases z;exact#[c,h2 x c #[2]]
    .exact h3 y z
  .obtain⟨cs,e1,h1,h2,h3⟩:=Vn l acc (λy hy=>hl y<|by simp[hy]) ha
   refine#[cs,?_,h1,h2,λy hy=>?_]
   .rw[<-e1]
    simp[e]
   .rcases ay.mp hy with z|z
    .cases z;exact T7 rfl e
    .exact h3 y z
def Vo(hl:∀y∈scope.names,y.2=.free->(env.cells.lookup y.1).isSome=ao):∃cs,iM scope env=cX cs/\(∀x c,(x,c)∈cs->env.cells.lookup x=aa c)/\∀x,(x,bJ)∈scope.names->∃c,(x,c)∈cs:=by
 obtain⟨cs,e,h1,_,h3⟩:=Vn scope.names [] hl (λx c h=>by simp at h)
 refine#[cs,?_,h1,h3];rw[<-e];unfold iM;simp
theorem WH:∀names n acc,(acc.Pairwise λx y=>x.2≠y.2)->(∀y∈acc,y.2<n)->(dz n names acc).Pairwise λx y=>x.2≠y.2
 |[],_,_,h,_=>h
 |(x,k)::r,n,acc,h,hn=>by
  unfold dz;split
  .refine WH r (n+1) _ (bo.mpr #[λy hy z=>?_,h]) λy hy=>?_
   .have:=hn y hy
    exact T7 (z)<|ek this
   .rcases ay.mp hy with rfl|hy
    .exact fE n
    .exact cB<|hn y hy
  .exact WH r n acc h hn
def Yw{B:Type}{l:List (bR×B)}{a:B}(h:l.lookup x=aa a):(x,a)∈l:=dO h
def Zad{l:List (bR×aO)}(h:l.Pairwise λx y=>x.2≠y.2)(h1:(x,c)∈l)(h2:(y,c)∈l):x=y:=by
 induction h with
 |nil=>simp at h1
 |cons hd _ ih=>
  rcases ay.mp h1 with z1|z1<;>rcases ay.mp h2 with z2|z2
  .exact congrArg Prod.fst<|z1.trans z2.symm
  .rw[<-z1]at hd;exact T7 rfl<|hd (y,c) z2
  .rw[<-z2]at hd;exact T7 rfl<|hd (x,c) z1
  .exact ih z1 z2
def JJ{l:List (bR×aO)}(h:(x,c)∈l):∃d,l.lookup x=aa d:=by
 induction l with
 |nil=>simp at h
 |cons p l ih=>
  obtain⟨y,d⟩:=p;rw[bT];by_cases e:x=y
  .subst e;exact#[d,by simp]
  .rcases ay.mp h with z|z
   .cases z;exact T7 rfl e
   .have:(x == y)=aj:=by simpa using e
    rw[this];exact ih z
noncomputable def ZhJ(sc scope:gI):Bool:=
 (match scope.kind with|.function=>ao|_=>aj)&&(!scope.isCoroutine&&(!scope.isGenerator&&scope.names.all λy=>ag (y.2≠.cell)&&(ag (y.2≠.local)&&(!decide (y.2=.free)||decide (sc.names.lookup y.1=aa .cell)))))
def ZgL(hs:X.env.scope=sc)(hc:X.env.cells=dz n sc.names [])(h:ZhJ sc scope=ao):∃clos,iM scope X.env=cX clos/\LamIn X scope clos:=by
 unfold ZhJ at h;simp only[aA,lB,T0,aV,gY,decide_eq_false_iff_not]at h;obtain⟨h1,h2,h3,h4⟩:=h;have fr:∀x,(x,bJ)∈scope.names->sc.names.lookup x=aa .cell:=λx hx=>by
  rcases(h4 _ hx).2.2 with z|z
  .exact T7 rfl z
  .exact z
 obtain⟨cs,e,c1,c2⟩:=Vo λy hy z=>by
  obtain⟨x,k⟩:=y;cases z;obtain⟨c,q⟩:=L2.Jz<|fr x hy;rw[hc,q];rfl
 have lk:=λx c q=>c1 x c<|Yw q
 refine#[cs,e,#[?_,h2,h3,λy hy=>(h4 y hy).1,λx v=>?_,λx q=>?_,λx y c q1 q2=>?_],lk,λx q=>?_]
 .cases e:scope.kind<;>rw[e]at h1<;>first|rfl|cases h1
 .rcases v with v|v|v
  .exact T7 rfl (h4 _<|Yw v).2.1
  .exact T7 rfl (h4 _<|Yw v).1
  .exact v
 .obtain⟨c,q⟩:=c2 x (Yw q)
  exact JJ q
 .have a1:=Yw (lk x c q1)
  have a2:=Yw<|lk y c q2;rw[hc]at a1 a2;exact Zad (WH sc.names n [] #[2]<|by simp) a1 a2
 .rw[hs]
  exact fr x<|Yw q
noncomputable abbrev rN(wd:Bool):List bR:=["_law_call","_law_error","e","_law_sorts"]
noncomputable def ZiG(wd:Bool)(P:Nat->iV):Expr:=.UnaryOp .USub (.Constant (.int 1) 0<|P 23)<|P 24
noncomputable def ZfO(wd:Bool)(P:Nat->iV):List fB:=[.Return (aa<|.Call (.Attribute (.Name "_law_sorts"<|P 27) "index"<|P 32) [.Constant (.bool ao) 0<|P 28] []<|P 33)<|P 29]
def rbR(wd:Bool):TE:=Sd.rbI
def fiR(K:ap)(wd:Bool):TS:=Sd.Zgz K 3
def u4(wd:Bool)(P:Nat->iV)(sumE:Expr):List fB:=
 let n:="_law_error"
 let s:="_law_sorts"
 let i:=λ(x:bR) (k:Nat)=>Expr.Call (.Name "isinstance"<|P k) [.Name n<|P<|k+1,.Name x<|P<|k+2] []<|P<|k+3
 .If (.Compare (.Name n<|P 0) [.Is] [.Constant .none 0<|P 1]<|P 2) [.Return (aa<|.Constant .none 0<|P 3)<|P 4] [] (P 5) ::
   .Assign [.Name s<|P 6] (.List [i "NoRow" 40,i "NoPart" 44,i "NoNumber" 48]<|P 7) (P 8) ::
   .Assign [.Name s<|P 9] (.BinOp (.Name s<|P 10) .Add (.List [i "NoHeads" 52,i "NotBeside" 56,i "NotIn" 60]<|P 11)<|P 12) (P 13) ::
   .Assign [.Name s<|P 14] (.BinOp (.Name s<|P 15) .Add (.List [i "NoTurn" 64,i "NoLot" 68,i "TooMany" 72]<|P 16)<|P 17) (P 18) ::
   .Expr (.Call (.Attribute (.Name s<|P 19) "append"<|P 30) [i "BadNote" 76] []<|P 31) (P 20) ::
   .If (.BoolOp .Or [.UnaryOp .Not (i "ValueError" 80)<|P 21,sumE]<|P 22) [.Return (aa<|ZiG wd P)<|P 25] [] (P 26)::ZfO wd P
noncomputable def uC(P:Nat->iV):List fB:=
 [.Assign [.Name "_law_error"<|P 90] (.Constant .none 0<|P 91)<|P 92,.Try [.Expr (.Call (.Name "_law_call"<|P 93) [] []<|P 94)<|P 95] [.ExceptHandler (aa<|.Name "SpaceError"<|P 96) (aa "e") [.Assign [.Name "_law_error"<|P 97] (.Name "e"<|P 98)<|P 99]<|P 100] [] []<|P 101]
noncomputable def uv(b:List fB):Expr:=match b.getD 7 (.Pass #[0,0,0,0])with
 |.If (.BoolOp _ [_,e] _) _ _ _=>e
 |_=>.Constant .none 0 #[0,0,0,0]
def Zdk(wd:Bool)(P:Nat->iV)(sc:gI):Bool:=
 (rN wd).all (λx=>ag<|sc.names.lookup x=aa .local)&&(((["isinstance","ValueError"]:List bR)++Xk).all (λx=>ag<|sc.names.lookup x=aa .globalImplicit)&&((P 30).endLine == (P 31).line&&(P 32).endLine == (P 33).line))
abbrev cxR(wd:Bool)(P:bP)(w:b9)(K:ap)(mg:bR->Option aB)(base:cQ)(st:fB)(f:aO)(cdv:aB)(A:cz)(outer:List Env)(s:aM)(H:Hp):Cx:=Wf (CX1 P w) P w K mg base (rN wd) "_law_refused" (Zg st) f cdv A outer s H E0
def Zct(wd:Bool)(P:bP)(w:b9)(K:ap)(mg:bR->Option aB)(base:cQ)(cl:List aO)(C:Calls)(d:Nat)(st:fB)(f:aO):Prop:=
 ∀(cdv:aB)(A:cz)(outer:List Env)(s:aM)(H:Hp),Room (d+1) (A.deeper<|dU "_law_refused" (Zg st) s.heap.objs.size f cdv)->
  PSs (cxR wd P w K mg base st f cdv A outer s H) ((ZE st).drop 2) (VH K 1 3 cl (tB3 (cxR wd P w K mg base st f cdv A outer s H) Sd.nx<|Pv.YS C<|ksum 3) (rbR wd)<|fiR K wd)
section
variable{wd:Bool}{P:bP}{w:b9}{K:ap}{mg:bR->Option aB}{base:cQ}{cl:List aO}{fs:List FR}{zs:List bR}{gs:List (bR×Gv)}{F:List Fn}{f:Nat->aO}{fd:Nat->dB}{d nR:Nat}{st:fB}{Pp:Nat->iV}{C:Calls}
def uP(h:Zdk wd Pp sc=ao):(∀x∈rN wd,sc.names.lookup x=aa .local)/\(∀x∈(["isinstance","ValueError"]:List bR)++Xk,sc.names.lookup x=aa .globalImplicit)/\((Pp 30).endLine == (Pp 31).line)=ao/\((Pp 32).endLine == (Pp 33).line)=ao:=by
 unfold Zdk at h;simp only[aA,aV,T0]at h;exact#[h.1,h.2.1,h.2.2.1,h.2.2.2]
def ZgX(T:Top K mg fs zs gs f fd)(L:Cls K mg base cl)(hst:(ZE st).drop 2=u4 wd Pp (uv<|ZE st))(hB:Zdk wd Pp (Zg st)=ao)(hsc:scB (rN wd) 1 (Zg st)=ao)(hz:zs.contains "isinstance" = ao)(hz2:zs.contains "ValueError" = ao)
  (hsum:∀(cdv:aB)(A:cz)(outer:List Env)(s:aM)(H:Hp),(A.deeper<|dU "_law_refused" (Zg st) s.heap.objs.size (f nR) cdv).units+7<dJ->Sd.CT (cxR wd P w K mg base st (f nR) cdv A outer s H) Sd.nx C (uv<|ZE st) (ksum 3)) :
  Zct wd P w K mg base cl C d st (f nR):=by
 intro cdv A outer s H hr;obtain⟨b1,b2,b3,b4⟩:=uP hB;rw[hst];have gl:=λx hx=>b2 x hx
 have nd:=(Uh hsc).nd;have hs:=(hsum cdv A outer s H<|Sd.hu7 hr).h;have hl:Sd.BSs (cxR wd P w K mg base st (f nR) cdv A outer s H) (ZfO wd Pp) (fiR K wd):=by
  exact⟨Sd.ZiI (J:=λ_=>0) rfl (b1 _<|by simp[rN]) rfl rfl b4⟩
 have hb:PE (cxR wd P w K mg base st (f nR) cdv A outer s H) (ZiG wd Pp) (rbR wd):=by
  exact Sd.Zjm (J:=λ_=>0)
 have hir:(rN wd)[1]?=aa ("_law_error" : bR):=rfl
 have his:(rN wd)[3]?=aa ("_law_sorts" : bR):=rfl
 have mem:∀x∈[("_law_error" : bR),"_law_sorts"],x∈rN wd:=by simp[rN]
 exact Sd.Zfr (J:=λ_=>0) L.er nd hir (b1 _<|mem _<|by simp) his (b1 _<|mem _<|by simp) (gl _<|by simp) (T.no hz) (gl _<|by simp) (T.no hz2) (λx hx=>gl x<|by simp[hx]) rfl rfl rfl rfl hs b3 hb hl.h
def Zg6(he:e<10)(v:σ'[3]?=aa (aa<|.ref q))(hl:σ'.length=(rN wd).length)(h:H' q=aa (.lst<|(Sd.Yc e).map .bl))(st:Sd.St3 K U S H')(k:∀H2,Sd.Fut U H' U H2->Sd.St3 K U S H2->Dn.rt (Sd.vR wd e) H2):fiR K wd Dn σ' H':=by
 exact Sd.ZeP he v h<|k H' (Sd.Fut.refl _ _) st
def Ziw{X:Cx}{E:XK}{sc:gI}{n:Nat}{c Pt:aO}{i:Ev.E}{xw:Nat->Hp->Prop}{body:Expr}{scope:gI}{lp p pos:iV}
  (D:DefX X E)(hr:Room (d+2) X.A)(T:Top X.K X.mg fs zs gs f fd)(L:Cls X.K X.mg X.base cl)(RA:Zct wd X.prog X.w X.K X.mg X.base cl C d st (f nR))(hx:fs[nR]?=aa #["_law_refused",st,rN wd,1])
  (hst:(ZE st).take 2=uC Pp)(hB:Zdk wd Pp (Zg st)=ao)(hsc:scB (rN wd) 1 (Zg st)=ao)
  (hP:∃ps,X.H₀ Pt=aa (.tbl ps))(CH:dC X.base c Pt)(hBi:X.base.BuiltinsAt X.mg Pt)(hgP:bz≠Pt)
  (hfn:X.fn=λ_=>ao)(hcode:X.env.code=.ref c)(hs:X.env.scope=sc)(hc:X.env.cells=dz n sc.names [])(hq:X.env.qual++"<lambda>" = Y1)(hl:ZhJ sc scope=ao)(hg:Gl X "_law_refused")
  (hbody:∀(g:aO)(c':aO)(clos:List (bR×aO))(A:cz)(outer:List Env)(s:aM)(H:Hp)(E1:XK),LamS scope clos->Room d (A.deeper<|fS Y1 scope s.heap.objs.size g (.ref c') clos)->(A.deeper<|fS Y1 scope s.heap.objs.size g (.ref c') clos).units+7<dJ->Sd.CE (Sd.cxL X.prog X.w X.K X.mg X.base X.N scope g (.ref c') clos A outer s H E1) (xwE cl E1) C body i) :
  Sd.CE X xw C (.Call (.Name "_law_refused" p) [.Lambda #[[],[],ai,[],[],ai,[]] body scope lp] [] pos) (.refu wd i):=by
 obtain⟨b1,b2,b3,b4⟩:=uP hB;obtain⟨clos,hcl,LI⟩:=ZgL hs hc hl;have hl0:0<cl.length:=by rw[L.er.len];decide
 have h0:=af hl0;have hst:ZE st=uC Pp++(ZE st).drop 2:=by rw[<-hst,cH]
 have hic:(rN wd)[0]?=aa ("_law_call" : bR):=rfl
 have hie:(rN wd)[2]?=aa ("e" : bR):=rfl
 have hir:(rN wd)[1]?=aa ("_law_error" : bR):=rfl
 have hil:3<(rN wd).length:=show 3<4 by decide
 have mem:∀x∈[("_law_call" : bR),"_law_error","e"],x∈rN wd:=by simp[rN]
 have pr:(#["_law_refused",st,rN wd,1]:FR).ps=[("_law_call" : bR)]:=rfl
 have hbn:=T.b nR _ hx;rw[pr]at hbn;have hsc1:=Uh hsc;have tk:(rN wd).take 1=[("_law_call" : bR)]:=rfl
 rw[tk]at hsc1;exact Sd.Zfj (ts:=λY=>tB3 Y Sd.nx<|Pv.YS C<|ksum 3) D (λx=>by rw[hfn]) hr L.er h0 hP hcode CH hBi hgP hq hcl rfl LI (λpm c' ctv=>rfl)
  (λg c' A outer s H E1 hr=>(hbody g c' clos A outer s H E1 LI.S hr<|Sd.hu7 hr)) hg (T.m nR _ hx) (T.d nR _ hx).kp (T.d nR _ hx) hsc1 hbn rfl rfl rfl hst (Uh hsc).nd hic rfl hie hir hil #[1] #[1] #[1]
  (b1 _<|mem _<|by simp) (b1 _<|mem _<|by simp) (b1 _<|mem _<|by simp) (λ_ _ _=>b2 _<|by simp[Xk]) (L.er.nm 0 _ _ h0 rfl) rfl rfl rfl rfl rfl (λ_ _ _=>rfl) (λ_ _ _=>rfl) (λ_ _ _=>rfl) RA
  (λY U S e σ' H' q Q' hK he h1 h2 h3 st' hQ=>Sd.Zgw he h1 h2 h3 (hK▸st') λH2 f2 s2=>hQ H2 f2<|hK▸s2)
  (λDn σ' ρ' H' S e q he v hl h st k=>Zg6 he v hl h st k)
end
def Zch :BdX fs zs gs F tk sn i r #[a,b,[.asg []<|.c .non]]:=λP w K mg base cl f fd d T L h hn cdv A outer s H E hr hu=>
 ⟨by
  rintro pq s Z H D I ⟨U,H0,W,l,os,S,st,en,h⟩;cases os<;>exact False.elim h⟩
def Zi2(wd:Bool)(fs:List FR)(zs:List bR)(gs:List (bR×Gv))(F:List Fn)(tk nR:Nat)(st:fB):Prop:=
 ∀(P:bP)(w:b9)(K:ap)(mg:bR->Option aB)(base:cQ)(f:Nat->aO)(fd:Nat->dB)(d:Nat),Top K mg fs zs gs f fd->(rN wd).Nodup->∀(cdv:aB)(A:cz)(outer:List Env)(s:aM)(H:Hp),(A.deeper<|dU "_law_refused" (Zg st) s.heap.objs.size (f nR) cdv).units+7<dJ->Sd.CT (cxR wd P w K mg base st (f nR) cdv A outer s H) Sd.nx (Pv.Zl F tk d) (uv<|ZE st) (ksum 3)
def BdR(wd:Bool)(fs:List FR)(zs:List bR)(gs:List (bR×Gv))(F:List Fn)(tk:Nat)(sn:List Nat)(nR:Nat)(st:fB)(r:FR)(fn:Fn):Prop:=
 ∀(P:bP)(w:b9)(K:ap)(mg:bR->Option aB)(base:cQ)(cl:List aO)(f:Nat->aO)(fd:Nat->dB)(fL c Pt:aO)(d:Nat),Top K mg fs zs gs f fd->Cls K mg base cl->vh P w K mg base cl fs F tk sn f fd d->Zct wd P w K mg base cl (Pv.Zl F tk d) d st (f nR)->r.N.Nodup->
  dC base c Pt->base.BuiltinsAt mg Pt->bz≠Pt->
  ∀(A:cz)(outer:List Env)(s:aM)(H:Hp)(E:XK),(∃ps,H Pt=aa (.tbl ps))->Room (d+2) (A.deeper<|dU r.x (Zg r.st) s.heap.objs.size fL<|.ref c)->Room d (A.deeper<|dU r.x (Zg r.st) s.heap.objs.size fL<|.ref c)->(A.deeper<|dU r.x (Zg r.st) s.heap.objs.size fL<|.ref c).units+7<dJ->
   Sd.CSs (Wf (CX1 P w) P w K mg base r.N r.x (Zg r.st) fL (.ref c) A outer s H E) (xwE cl E) aj (Pv.Zl F tk d) (Pv.muts fn.body) (ZE r.st) fn.body
def Zgp{st:fB}{r:FR}{fn:Fn}(S:Zi2 wd fs zs gs F tk nR st)(B:BdR wd fs zs gs F tk sn nR st r fn)(hst:(ZE st).drop 2=u4 wd Pp (uv<|ZE st))(hB:Zdk wd Pp (Zg st)=ao)(hsc:scB (rN wd) 1 (Zg st)=ao)(hz:zs.contains "isinstance" = ao)(hz2:zs.contains "ValueError" = ao):BdL fs zs gs F tk sn r fn:=
 λP w K mg base cl f fd fL c Pt d T L h hn hC hBi hP A outer s H E hp hr hu=>
  B P w K mg base cl f fd fL c Pt d T L h (ZgX T L hst hB hsc hz hz2<|S P w K mg base f fd d T (Uh hsc).nd) hn hC hBi hP A outer s H E hp hr (hr.mono<|by lia) hu
end Gn
namespace K75
open Ev
noncomputable def Je:Fn:=#[2,2,
 [.ite (.cmp .lt (.v 1)<|.blt .len [(.v 0)]) [.ret<|.ix (.v 0)<|.v 1] [],
  .ret (.n 0)]]
noncomputable def G8:Fn:=#[2,3,
 [.asg [2]<|.call 0 #[16],
  .ite (.cmp .ge (.v 2)<|.bin .pow (.n 10)<|.n 18) [.ret<|.lst [(.bin .sub (.v 2)<|.bin .pow (.n 10)<|.n 18),(.c<|.bl ao)]] [],
  .ret (.lst [(.bin .mod (.v 2)<|.n 2147483647),(.c<|.bl aj)])]]
noncomputable def wf:Fn:=#[2,4,
 [.ite (.dix (.v 0) ao) [.asg [2]<|.bin .mod (.dix (.v 0) aj)<|.v 1,
  .dset 0 (.bin .fdiv (.dix (.v 0) aj)<|.v 1),
  .ret (.v 2)] [],
  .dset 0 (.bin .mod (.bin .add (.bin .mul (.dix (.v 0) aj)<|.n 48271)<|.n 29)<|.n 2147483647),
  .asg [3] (.bin .mod (.bin .add (.bin .add (.bin .mul (.dix (.v 0) aj)<|.dix (.v 0) aj)<|.bin .mul (.n 39373)<|.dix (.v 0) aj)<|.n 7)<|.n 2147483629),
  .asg [3] (.bin .mod (.bin .add (.bin .mul (.v 3)<|.v 3)<|.bin .mul (.n 16807)<|.v 3)<|.n 2147483587),
  .ret (.bin .mod (.bin .fdiv (.v 3)<|.n 8)<|.v 1)]]
noncomputable def X6:Fn:=#[2,3,
 [.asg [2]<|.lst [(.tup [(.n 2),(.n 1)]),(.tup [(.n 2),(.n 2)]),(.tup [(.n 2),(.n 3)]),(.tup [(.n 2),(.n 4)]),(.tup [(.n 3),(.n 1)]),(.tup [(.n 3),(.n 2)]),(.tup [(.n 3),(.n 3)]),(.tup [(.n 5),(.n 1)]),(.tup [(.n 5),(.n 2)]),(.tup [(.n 2),(.n 3)]),(.tup [(.n 2),(.n 4)]),(.tup [(.n 3),(.n 3)])],
  .ite (.cmp .gt (.v 1)<|.n 27) [.asg [2]<|.bin .add (.v 2)<|.lst [(.tup [(.n 2),(.n 5)]),(.tup [(.n 2),(.n 6)]),(.tup [(.n 3),(.n 4)]),(.tup [(.n 5),(.n 3)])]] [],
  .ret (.ix (.v 2)<|.call 2 [(.v 0),(.blt .len [(.v 2)])])]]
noncomputable def UR:Fn:=#[1,1,
 [.ret<|.ix (.bin .add (.comp1 [0] 1 [0] (.rng1<|.blt .len [(.v 0)]) [(.cmp .ne (.ix (.v 1)<|.v 0)<|.n 0)]<|.v 0)<|.lst [(.blt .len [(.v 0)])])<|.n 0]]
def Wk:Fn:=#[2,6,
 [.asg [2]<|.blt .sortedS [(.comp1 [] 1 [0] #[30] [(.blt .any [(.v 0)])]<|.call 4 [(.v 0)])],
  .asg [3] (.lst []),
  .forr [4] (.of<|.v 2) [.forr [5] #[30] [.ite (.and (.cmp .eq (.ix (.v 5)<|.v 4)<|.n 1)<|.cmp .eq (.call 4 [(.v 5)])<|.v 4) [.ite (.cmp .eq (.comp1 [4,5] 1 [0] (.of<|.v 2) [(.and (.cmp .ne (.v 0)<|.v 1)<|.cmp .ne (.ix (.v 2)<|.v 0)<|.n 0)]<|.v 0)<|.lst []) [.ex<|.mt .append (.v 3) [(.v 5)]] []] []]],
  .ret (.blt .tuple [(.v 3)])]]
noncomputable def Vh:Fn:=#[2,3,
 [.asg [2]<|.bin .mul (.call 2 [(.v 0),(.bin .add (.ix (.v 1)<|.n 1)<|.n 1)])<|.blt .toInt [(.cmp .eq (.call 2 [(.v 0),(.n 3)])<|.n 0)],
  .ret (.bin .add (.bin .mul #[22]<|.v 2)<|.blt .tuple [(.comp1 [0,1] 1 [0] (.rng1<|.bin .sub (.ix (.v 1)<|.n 1)<|.v 2) []<|.call 2 [(.v 1),(.ix (.v 2)<|.n 0)])])]]
noncomputable def wa:Fn:=#[4,4,
 [.ret<|.blt .tuple [(.comp1 [1,2,3,0] 1 [0] (.rng1<|.ix (.v 0)<|.n 1) []<|.bin .mod (.bin .add (.ix (.v 1)<|.v 0)<|.bin .mul (.v 2)<|.ix (.v 3)<|.v 0)<|.ix (.v 4)<|.n 0)]]]
noncomputable def yH:Fn:=#[2,6,
 [.dnw 2<|.bin .mul #[22]<|.ix (.v 0)<|.n 1,
  .forr [3] #[30] [.ite (.cmp .nin (.v 3)<|.v 2) [.forF [4] (.blt .listD [(.v 2)]) [.forr [5] (.rng2 (.n 1)<|.ix (.v 0)<|.n 0) [.dput (.v 2) (.call 7 [(.v 0),(.v 4),(.v 5),(.v 3)])<|.c<|.bl ao]]] []],
  .ret (.blt .sortedD [(.v 2)])]]
noncomputable def Wv:Fn:=#[2,3,
 [.asg [2]<|.comp1 [0,1] 1 [0] (.rng1<|.call 2 [(.v 0),(.bin .add (.ix (.v 1)<|.n 1)<|.n 1)]) []<|.call 6 [(.v 1),(.v 2)],
  .ret (.call 5 [(.v 1),(.call 8 [(.v 1),(.v 2)])])]]
noncomputable def Vb:Fn:=#[3,5,
 [.asg [3]<|.bin .mul #[22]<|.ix (.v 0)<|.n 1,
  .forr [4] (.rng1<|.ix (.v 0)<|.n 1) [.asg [3]<|.call 7 [(.v 0),(.v 3),(.ix (.v 2)<|.v 4),(.ix (.v 1)<|.v 4)]],
  .ret (.v 3)]]
noncomputable def US:Fn:=#[3,3,
 [.ret<|.call 5 [(.v 0),(.call 8 [(.v 0),(.comp1 [0,1] 1 [0] (.of<|.v 2) []<|.call 10 [(.v 1),(.v 2),(.v 0)])])]]]
noncomputable def YX:Fn:=#[3,6,
 [.asg [3]<|.call 2 [(.v 0),(.bin .add (.blt .len [(.v 2)])<|.n 1)],
  .asg [4] (.ix (.lst [(.ix (.v 1)<|.n 0),(.neg<|.n 1),(.c<|.bl ao),(.c<|.bl aj),(.c .non),(.c<|.str<|kZ "0"),#[22],(.bin .pow (.n 10)<|.n 29),(.n 0),(.n 1),(.bin .sub (.ix (.v 1)<|.n 0)<|.n 1)])<|.call 2 [(.v 0),(.n 11)]),
  .asg [5] (.lst [(.bin .add (.bin .add #[14]<|.tup [(.v 4)])<|.sl (.v 2) #[31] ai),(.bin .add (.bin .add #[14]<|.tup [(.v 4)])<|.sl (.v 2) (aa<|.v 3) ai),(.bin .add #[14]<|.sl (.v 2) #[31] ai),(.blt .list [(.v 2)])]),
  .ret (.ix (.bin .add (.v 5)<|.lst [(.rev<|.v 2),(.c .non),.dnew,(.lst [(.v 4)]),(.tup [(.v 2)])])<|.ix (.lst [(.n 0),(.n 0),(.n 0),(.n 0),(.n 1),(.n 2),(.n 3),(.n 4),(.n 5),(.n 6),(.n 7),(.n 8)])<|.call 2 [(.v 0),(.n 12)])]]
noncomputable def Wn:Fn:=#[3,8,
 [.asg [3]<|.call 2 [(.v 0),(.bin .add (.blt .len [(.v 2)])<|.n 1)],
  .asg [4] (.ix (.bin .add (.v 2)<|.tup [(.bin .add (.tup [(.n 1)])<|.bin .mul #[22]<|.bin .sub (.ix (.v 1)<|.n 1)<|.n 1)])<|.v 3),
  .asg [5] (.call 12 [(.v 0),(.v 1),(.v 4)]),
  .asg [6] (.call 7 [(.v 1),(.v 4),(.bin .add (.n 1)<|.call 2 [(.v 0),(.n 2)]),(.ix (.bin .add (.v 2)<|.tup [(.v 4)])<|.call 2 [(.v 0),(.bin .add (.blt .len [(.v 2)])<|.n 1)])]),
  .asg [7] (.lst [(.bin .add (.bin .add #[14]<|.tup [(.v 5)])<|.sl (.v 2) #[31] ai),(.bin .add (.bin .add #[14]<|.tup [(.v 6)])<|.sl (.v 2) #[31] ai),(.bin .add (.bin .add #[14]<|.tup [(.v 4)])<|.sl (.v 2) (aa<|.v 3) ai)]),
  .asg [7] (.bin .add (.v 7)<|.lst [(.bin .add (.bin .add #[14]<|.tup [(.call 6 #[16])])<|.sl (.v 2) (aa<|.v 3) ai),(.rev<|.v 2),(.blt .list [(.v 2)]),(.c .non),.dnew,(.tup [(.v 2)])]),
  .asg [7] (.bin .add (.v 7)<|.lst [(.bin .add #[14]<|.sl (.v 2) #[31] ai),(.lst [(.v 5)]),(.bin .add (.sl (.v 2) (aa<|.v 3) ai)<|.sl (.v 2) ai<|aa<|.v 3)]),
  .ret (.ix (.v 7)<|.ix (.lst [(.n 0),(.n 0),(.n 0),(.n 1),(.n 1),(.n 2),(.n 3),(.n 3),(.n 4),(.n 5),(.n 6),(.n 7),(.n 8),(.n 9),(.n 10),(.n 11)])<|.call 2 [(.v 0),(.n 16)])]]
noncomputable def YB:Fn:=#[3,3,
 [.ret<|.and (.isi (.v 0) [.int])<|.and (.not<|.isi (.v 0) [.bool])<|.chain .le .le (.v 1) (.v 0)<|.v 2]]
noncomputable def JH:Fn:=#[2,2,
 [.ite (.or #[21]<|.cmp .ne #[25]<|.ix (.v 0)<|.n 1) #[12] [],
  .ret (.blt .all [(.comp1 [0] 1 [0] #[30] []<|.call 14 [(.v 0),(.n 0),(.bin .sub (.ix (.v 1)<|.n 0)<|.n 1)])])]]
noncomputable def QZ:Fn:=#[2,3,
 [.ite (.or #[21]<|.cmp .gt #[25]<|.ix (.v 0)<|.n 1) #[12] [],
  .forr [2] #[30] [.ite #[33] #[12] []],
  .ret (.cmp .eq (.call 5 [(.v 0),(.call 8 #[16])])<|.v 1)]]
noncomputable def Xh:Fn:=#[2,4,
 [.forr [2] (.rng1<|.n 8) [.asg [3]<|.call 13 [(.v 0),(.v 1),(.call 9 #[16])],
  .ite (.not<|.call 16 [(.v 1),(.v 3)]) [.ret<|.v 3] []],
  .ret (.ix (.lst [(.c .non),(.lst [(.tup [])]),(.tup [(.bin .mul #[22]<|.ix (.v 1)<|.n 1)]),(.tup [(.bin .mul (.tup [(.n 2)])<|.ix (.v 1)<|.n 1)])])<|.call 2 [(.v 0),(.n 3)])]]
noncomputable def qL:Fn:=#[1,3,
 [.forr [1,2] (.enum<|.v 0) [.ite (.cmp .ne (.v 2)<|.n 0) [.ret<|.v 1] []],
  .ret (.c .non)]]
noncomputable def UE:Fn:=#[1,1,
 [.ret<|.blt .all [(.comp1 [] 2 [0,1] (.zip (.v 0)<|.sl (.v 0) (aa<|.n 1) ai) []<|.cmp .lt (.v 0)<|.v 1)]]]
noncomputable def Vz:Fn:=#[2,2,
 [.ret<|.blt .all [(.comp1 [1] 1 [0] (.of<|.v 0) []<|.cmp .eq (.ix (.v 0)<|.v 1)<|.n 0)]]]
noncomputable def WD:Fn:=#[3,3,
 [.ret<|.and (.cmp .eq (.ix (.ix (.v 0)<|.v 1)<|.v 2)<|.n 1)<|.call 20 [(.bin .add (.sl (.v 0) ai<|aa<|.v 1)<|.sl (.v 0) (aa<|.bin .add (.v 1)<|.n 1) ai),(.v 2)]]]
noncomputable def Xg:Fn:=#[3,3,
 [.ret<|.and (.isi (.v 0) [.int])<|.and (.not<|.isi (.v 0) [.bool])<|.chain .le .le (.v 1) (.v 0)<|.v 2]]
noncomputable def yQ:Fn:=#[2,4,
 [.asg [2,3]<|.v 0,
  .ite (.or #[21]<|.cmp .ne #[25]<|.v 3) #[12] [],
  .ret (.blt .all [(.comp1 [2] 1 [0] #[30] []<|.call 22 [(.v 0),(.n 0),(.bin .sub (.v 1)<|.n 1)])])]]
noncomputable def Ud:Fn:=#[2,3,
 [.ite (.or #[21]<|.not<|.blt .all [(.comp1 [0] 1 [0] #[30] []<|.call 23 [(.v 1),(.v 0)])]) #[12] [],
  .asg [2] (.comp1 [] 1 [0] #[30] []<|.call 18 [(.v 0)]),
  .ite (.or (.cmp .inn (.c .non)<|.v 2)<|.not<|.call 19 [(.v 2)]) #[12] [],
  .ret (.blt .all [(.comp1 [1] 2 [0,1] (.enum<|.v 2) []<|.call 21 [(.v 2),(.v 0),(.v 1)])])]]
noncomputable def WB:Fn:=#[2,2,
 [.ite (.not<|.call 24 #[16]) [.raise 2 []] []]]
def X8:Fn:=#[3,3,
 [.ex<|.call 25 #[16],
  .ex (.call 25 [(.v 0),(.v 2)])]]
noncomputable def VM:Fn:=#[4,4,
 [.ret<|.blt .tuple [(.comp1 [3,0] 2 [0,1] (.zip (.v 1)<|.v 2) []<|.bin .mod (.bin .add (.v 0)<|.bin .mul (.v 2)<|.v 1)<|.v 3)]]]
noncomputable def XV:Fn:=#[3,8,
 [.asg [3,4]<|.v 0,
  .asg [5] (.bin .mul #[22]<|.v 4),
  .forr [6,7] (.zip (.v 2)<|.v 1) [.asg [5]<|.call 27 [(.v 3),(.v 5),(.v 7),(.v 6)]],
  .ret (.v 5)]]
noncomputable def XH:Fn:=#[3,3,
 [.ret<|.blt .tuple [(.comp1 [0,2] 1 [0] #[30] []<|.call 28 [(.v 1),(.v 2),(.v 0)])]]]
noncomputable def J0:Fn:=#[4,4,
 [.ret<|.call 27 [(.v 0),(.v 1),(.v 2),(.neg<|.ix (.v 1)<|.v 3)]]]
noncomputable def wb:Fn:=#[3,7,
 [.asg [3,4]<|.v 0,
  .asg [5] (.v 2),
  .forr [6] #[30] [.asg [5]<|.call 30 [(.v 3),(.v 5),(.v 6),(.call 18 [(.v 6)])]],
  .ret (.v 5)]]
noncomputable def zZ:Fn:=#[3,3,
 [.ret<|.blt .tuple [(.comp1 [2,0] 1 [0] #[30] []<|.bin .mod (.bin .mul (.v 1)<|.v 0)<|.v 2)]]]
noncomputable def Ga:Fn:=#[2,3,
 [.asg [2]<|.n 1,
  .whl (.cmp .ne (.bin .mod (.bin .mul (.v 2)<|.v 1)<|.v 0)<|.n 1) [.aug 2 .add<|.n 1],
  .ret (.v 2)]]
noncomputable def WY:Fn:=#[3,9,
 [.asg [3,4]<|.v 0,
  .asg [5] (.call 31 [(.v 0),(.v 1),(.v 2)]),
  .asg [6] (.call 18 [(.v 5)]),
  .ite (.cmp .is (.v 6)<|.c .non) [.ret<|.v 1] [],
  .asg [7] (.call 32 [(.v 3),(.v 5),(.call 33 [(.v 3),(.ix (.v 5)<|.v 6)])]),
  .asg [8] (.comp1 [3,7,6] 1 [0] #[30] []<|.call 30 [(.v 1),(.v 0),(.v 2),(.v 3)]),
  .ret (.blt .tuple [(.blt .sortedR [(.bin .add (.v 8)<|.lst [(.v 7)])])])]]
noncomputable def Yk:Fn:=#[3,5,
 [.asg [3]<|.v 1,
  .forr [4] (.of<|.v 2) [.asg [3]<|.call 34 [(.v 0),(.v 3),(.v 4)]],
  .ret (.v 3)]]
noncomputable def jk:Fn:=#[2,4,
 [.asg [2,3]<|.v 0,
  .ite (.or #[21]<|.cmp .ne #[25]<|.v 3) #[12] [],
  .ret (.and (.blt .all [(.comp1 [0] 1 [0] #[30] []<|.call 23 [(.v 1),(.v 0)])])<|.cmp .eq (.blt .len [(.call 35 [(.v 0),(.tup []),(.v 1)])])<|.v 3)]]
noncomputable def WG:Fn:=#[2,2,
 [.ite (.not<|.call 36 #[16]) [.raise 7 []] []]]
noncomputable def Qx:Fn:=#[2,2,
 [.ret<|.bin .add (.bin .add (.bin .mul #[22]<|.v 1)<|.tup [(.n 1)])<|.bin .mul #[22]<|.bin .sub (.bin .sub (.v 0)<|.v 1)<|.n 1]]
noncomputable def Wb:Fn:=#[2,5,
 [.asg [2,3]<|.v 0,
  .asg [4] (.comp1 [] 1 [0] #[30] []<|.call 18 [(.v 0)]),
  .ret (.bin .add (.v 1)<|.blt .tuple [(.comp1 [3,4] 1 [0] (.rng1<|.v 3) [(.cmp .nin (.v 0)<|.v 2)]<|.call 38 [(.v 1),(.v 0)])])]]
def Xz:Fn:=#[2,5,
 [.asg [2]<|.call 39 [(.v 0),(.tup [])],
  .asg [3] (.lst [(.v 2)]),
  .asg [4] (.v 1),
  .whl (.cmp .ne (.v 4)<|.v 2) [.ex<|.mt .append (.v 3) [(.v 4)],
  .asg [4] (.call 29 [(.v 0),(.v 4),(.v 1)])],
  .ret (.v 3)]]
def vH:Fn:=#[2,2,
 [.ex<|.call 37 #[16],
  .ret (.ix (.call 40 #[16])<|.neg<|.n 1)]]
def Xt:Fn:=#[3,3,
 [.ex<|.call 26 [(.v 0),(.v 1),(.v 2)],
  .ite (.cmp .ne #[25]<|.blt .len [(.v 2)]) [.ret<|.c .non] [],
  .ret (.call 29 [(.v 0),(.call 41 [(.v 0),(.call 39 #[16])]),(.call 39 [(.v 0),(.v 2)])])]]
noncomputable def z7:Fn:=#[1,1,
 [.ret<|.comp1 [0] 1 [0] (.rng1<|.ix (.v 0)<|.n 1) []<|.blt .tuple [(.comp1 [0] 1 [0] (.rng1<|.ix (.v 1)<|.n 1) []<|.blt .toInt [(.cmp .eq (.v 0)<|.v 1)])]]]
noncomputable def Wp:Fn:=#[2,8,
 [.asg [2]<|.tup [],
  .asg [3] (.lst [(.bin .mul #[22]<|.ix (.v 1)<|.n 1)]),
  .asg [4] (.call 8 [(.v 1),(.call 43 [(.v 1)])]),
  .forr [5] (.rng1<|.ix (.v 1)<|.n 1) [.asg [6]<|.blt .dictP [(.comp1 [] 1 [0] (.of<|.v 3) []<|.tup [(.v 0),(.c<|.bl ao)])],
  .asg [7] (.comp1 [6] 1 [0] (.of<|.v 4) [(.cmp .nin (.v 0)<|.v 1)]<|.v 0),
  .asg [2] (.bin .add (.v 2)<|.tup [(.ix (.v 7)<|.call 2 [(.v 0),(.blt .len [(.v 7)])])]),
  .asg [3] (.call 8 [(.v 1),(.v 2)])],
  .ret (.v 2)]]
noncomputable def QG:Fn:=#[2,3,
 [.ite (.or #[21]<|.cmp .ne #[25]<|.ix (.v 0)<|.n 1) #[12] [],
  .forr [2] #[30] [.ite #[33] #[12] []],
  .ret (.cmp .eq (.blt .len [(.call 8 #[16])])<|.blt .len [(.call 8 [(.v 0),(.call 43 [(.v 0)])])])]]
noncomputable def Jf:Fn:=#[1,4,
 [.asg []<|.c .non]]
noncomputable def Zf8:Fn:=#[1,10,
 [.forr [1] (.rng1<|.blt .max2 [(.n 1),(.blt .min2 [(.blt .len [(.v 0)]),(.n 8)])]) [.cel 2 1 #[16]
  [.asg [3]<|.call 3 [(.v 2),(.ix (.lst [(.n 27),(.n 125)])<|.blt .toInt [(.cmp .eq (.v 1)<|.n 0)])],
  .asg [4] (.call 9 [(.v 2),(.v 3)]),
  .asg [5] (.call 11 [(.v 3),(.call 44 [(.v 2),(.v 3)]),(.v 4)]),
  .forr [6] (.of<|.lst [(.v 5),(.call 9 [(.v 2),(.v 3)]),(.v 4)]) [.asg [7]<|.call 42 [(.v 3),(.v 4),(.v 6)],
  .ite (.or (.cmp .ne (.call 42 [(.v 3),(.v 4),(.v 6)])<|.v 7)<|.cmp .ne (.cmp .is (.v 7)<|.c .non)<|.cmp .ne (.blt .len [(.v 4)])<|.blt .len [(.v 6)]) #[12] [],
  .ite (.cmp .isn (.v 7)<|.c .non) [.ite (.or (.not<|.call 45 [(.v 3),(.v 7)])<|.cmp .ne (.call 11 [(.v 3),(.v 7),(.v 4)])<|.v 6) #[12] []] []],
  .asg [8] (.call 17 [(.v 2),(.v 3)]),
  .forr [9] (.of<|.lst [(.tup [(.v 8),(.v 4)]),(.tup [(.v 4),(.v 8)]),(.tup [(.v 8),(.c .non)])]) [.ite (.cmp .ne (.refu aj<|.call 42 [(.v 3),(.ix (.v 9)<|.n 0),(.ix (.v 9)<|.n 1)])<|.n 1) #[12] []]]],
  .ret (.cmp .is (.call 42 [(.tup [(.n 2),(.n 1)]),(.tup []),(.tup [(.tup [(.n 1)])])])<|.c .non)]]
def fns:List Fn:=[Je,G8,wf,X6,UR,Wk,Vh,wa,yH,Wv,Vb,US,YX,Wn,YB,JH,QZ,Xh,qL,UE,Vz,WD,Xg,yQ,Ud,WB,X8,VM,XV,XH,J0,wb,zZ,Ga,WY,Yk,jk,WG,Qx,Wb,Xz,vH,Xt,z7,Wp,QG,Jf,Zf8]
noncomputable abbrev tk:Nat:=2
noncomputable abbrev sn:List Nat:=[1]
end K75
namespace La
variable{F:Type}[ko F]
noncomputable abbrev Vec(F:Type):=Nat->F
abbrev Pt(F:Type):=List<|Nat×Vec F
def pr:Pt F->Vec F->Vec F
 |[],_,_=>0
 |a::P,v,j=>v a.1*a.2 j+pr P v j
structure Rf(P:Pt F):Prop where
 inc:P.Pairwise λa b=>a.1<b.1
 low:∀a∈P,∀j,j<a.1->a.2 j=0
 one:∀a∈P,a.2 a.1=1
 zer:∀a∈P,∀b∈P,a.1≠b.1->b.2 a.1=0
def Mem(P:Pt F)(v:Vec F):Prop:=∀j,v j=pr P v j
theorem ZgB(P u v)(c:F)(j):pr P (λj=>u j+c*v j) j=pr P u j+c*pr P v j:=by
 induction P with|nil=>show(0:F)=0+c*0;grind|cons a P ih=>show(u a.1+c*v a.1)*a.2 j+pr P _ j=(u a.1*a.2 j+pr P u j)+c*(v a.1*a.2 j+pr P v j);grind
theorem zg(P u v)(c:F)(j):pr P (λj=>u j-c*v j) j=pr P u j-c*pr P v j:=by
 induction P with|nil=>show(0:F)=0-c*0;grind|cons a P ih=>show(u a.1-c*v a.1)*a.2 j+pr P _ j=(u a.1*a.2 j+pr P u j)-c*(v a.1*a.2 j+pr P v j);grind
def yU{P:Pt F}(h:∀b∈P,u b.1=v b.1)(j):pr P u j=pr P v j:=by
 induction P with
 |nil=>rfl
 |cons a P ih=>
  show u a.1*a.2 j+pr P u j=v a.1*a.2 j+pr P v j;rw[h a<|ak ..,ih λb hb=>h b<|am _ hb]
theorem XX{P:Pt F}(h:∀b∈P,v b.1*b.2 j=0):pr P v j=0:=by
 induction P with
 |nil=>rfl
 |cons a P ih=>
  show v a.1*a.2 j+pr P v j=0;rw[h a<|ak ..];grind
theorem uQ{P:Pt F}(inc:P.Pairwise λa b=>a.1<b.1)(ha:a∈P)(h:∀b∈P,b.1≠a.1->v b.1*b.2 j=0):pr P v j=v a.1*a.2 j:=by
 induction P with
 |nil=>cases ha
 |cons b P ih=>
  rw[bo]at inc;show v b.1*b.2 j+pr P v j=_;rcases ay.mp ha with e|hm
  .subst e
   rw[XX λc hc=>h c (am _ hc) (by have:=inc.1 c hc;lia)];grind
  .rw[h b (ak ..) (by have:=inc.1 a hm;lia)];grind
def Rf.tail{P:Pt F}(h:Rf (a::P)):Rf P:=
 #[(bo.mp h.inc).2,λb hb=>h.low b<|am _ hb,λb hb=>h.one b<|am _ hb,λb hb c hc=>h.zer b (am _ hb) c<|am _ hc]
def Rf.nil:Rf ([]:Pt F):=#[lq,λ_ h=>(by cases h),λ_ h=>(by cases h),λ_ h=>(by cases h)]
theorem v6(h:Rf P)(ha:a∈P)(v:Vec F):pr P v a.1=v a.1:=by
 rw[uQ h.inc ha λb hb ne=>by rw[h.zer a ha b hb<|Ne.symm ne];grind,h.one a ha];grind
theorem X5{P:Pt F}(h:Rf P)(ha:a∈P):Mem P a.2:=λj=>by
 rw[uQ h.inc ha λb hb ne=>by rw[h.zer b hb a ha ne];grind,h.one a ha];grind
def YO(c:F)(hu:Mem P u)(hv:Mem P v):Mem P λj=>u j+c*v j:=λj=>by
 rw[ZgB,<-hu j,<-hv j]
def zx(c:F)(hu:Mem P u)(hv:Mem P v):Mem P λj=>u j-c*v j:=λj=>by
 rw[zg,<-hu j,<-hv j]
theorem YD{P:Pt F}:Mem P λ_=>0:=λj=>(XX λb _=>by grind).symm
def Za1(h:Rf P)(v:Vec F):Mem P (pr P v):=λj=>yU (λb hb=>(v6 h hb v).symm) j
def Zeo{v:Vec F}:Mem ([]:Pt F) v↔∀j,v j=0:=Iff.rfl
theorem Zbh{v:Vec F}(h:Mem P v)(z:∀b∈P,v b.1=0)(j:Nat):v j=0:=by
 rw[h j];exact XX λb hb=>by rw[z b hb];grind
theorem yq{P:Pt F}(h:Rf P)(hv:Mem P v)(hk:v k≠0)(hl:∀j,j<k->v j=0):∃a∈P,a.1=k:=by
 have inc:=h.inc;have low:=h.low;have gen:∀Q,Q.Pairwise (λa b=>a.1<b.1)->(∀a∈Q,∀j,j<a.1->a.2 j=0)->(∀j,v j=pr Q v j)->∃a∈Q,v a.1≠0/\∀j,j<a.1->v j=0:=by
  intro Q
  induction Q with
  |nil=>intro _ _ e;exact T7 (e k) hk
  |cons a Q ih=>
   intro inc low e;rw[bo]at inc;by_cases c:v a.1=0
   .obtain⟨b,hb,r⟩:=ih inc.2 (λb hb=>low b<|am _ hb) λj=>by
     have:v j=v a.1*a.2 j+pr Q v j:=e j;rw[c]at this;grind
    exact#[b,am _ hb,r]
   .refine#[a,ak ..,c,λj hj=>?_]
    have e1:v j=v a.1*a.2 j+pr Q v j:=e j;have e2:pr Q v j=0:=XX λb hb=>by rw[low b (am _ hb) j (by have:=inc.1 b hb;lia)];grind
    rw[e1];grind
 obtain⟨a,ha,h1,h2⟩:=gen P inc low hv;refine#[a,ha,?_];by_cases c:a.1<k
 .exact T7 (hl _ c) h1
 .by_cases c2:k<a.1
  .exact T7 (h2 _ c2) hk
  .lia
def J7{P Q:Pt F}(one0:(1:F)≠0)(hP:Rf P)(hQ:Rf Q)(h:∀v,Mem P v->Mem Q v):∀a∈P,∃b∈Q,b.1=a.1:=λa ha=>
 yq hQ (h _<|X5 hP ha) (by rw[hP.one a ha];exact one0) (hP.low a ha)
theorem zH:∀{a b:List Nat},a.Pairwise (· < ·)->b.Pairwise (· < ·)->(∀x,x∈a↔x∈b)->a=b
 |[],[],_,_,_=>rfl
 |[],y::b,_,_,h=>by have:=(h y).mpr<|ak ..;cases this
 |x::a,[],_,_,h=>by have:=(h x).mp<|ak ..;cases this
 |x::a,y::b,ha,hb,h=>by
  rw[bo]at ha hb;have e:x=y:=by
   rcases ay.mp ((h x).mp<|ak ..)with e|e
   .exact e
   .rcases ay.mp ((h y).mpr<|ak ..)with e'|e'
    .exact e'.symm
    .have:=hb.1 x e;have:=ha.1 y e';lia
  subst e;rw[zH ha.2 hb.2 λz=>?_]
  constructor
  .intro hz
   rcases ay.mp ((h z).mp<|am _ hz)with e|e
   .have:=ha.1 z hz;lia
   .exact e
  .intro hz
   rcases ay.mp ((h z).mpr<|am _ hz)with e|e
   .have:=hb.1 z hz;lia
   .exact e
theorem zq:∀{a b:List Nat},a.Pairwise (· < ·)->b.Pairwise (· < ·)->(∀x∈a,x∈b)->a.length<=b.length/\(a.length=b.length->a=b)
 |[],b,_,_,_=>#[c7 _,λe=>(d7.mp e.symm).symm]
 |x::a,[],_,_,h=>by have:=h x<|ak ..;cases this
 |x::a,y::b,ha,hb,h=>by
  have ha':=ha;rw[bo]at ha hb;by_cases e:x=y
  .subst e
   obtain⟨h1,h2⟩:=zq ha.2 hb.2 λz hz=>by
    rcases ay.mp (h z<|am _ hz)with e|e
    .have:=ha.1 z hz;lia
    .exact e
   refine#[by simp only[aQ];lia,λe=>?_]
   rw[h2 (by simpa using e)]
  .have hxb:x∈b:=by
    rcases ay.mp (h x<|ak ..)with e'|e'
    .exact T7 e' e
    .exact e'
   have:=hb.1 x hxb;obtain⟨h1,h2⟩:=zq ha' hb.2 λz hz=>by
    rcases ay.mp (h z hz)with e'|e'
    .rcases ay.mp hz with e2|e2
     .lia
     .have:=ha.1 z e2;lia
    .exact e'
   simp only[aQ]at h1 ⊢;exact#[by lia,λe=>by lia]
def Rf.heads{P:Pt F}(h:Rf P):(P.map (·.1)).Pairwise (· < ·):=cS.mpr h.inc
theorem uniq{P Q:Pt F}(one0:(1:F)≠0)(hP:Rf P)(hQ:Rf Q)(h:∀v,Mem P v↔Mem Q v):P=Q:=by
 have eh:=zH hP.heads hQ.heads λx=>by
  constructor
  .intro hx
   obtain⟨a,ha,rfl⟩:=aF.mp hx;obtain⟨b,hb,e⟩:=J7 one0 hP hQ (λv=>(h v).mp) a ha
   exact aF.mpr #[b,hb,e]
  .intro hx
   obtain⟨a,ha,rfl⟩:=aF.mp hx;obtain⟨b,hb,e⟩:=J7 one0 hQ hP (λv=>(h v).mpr) a ha
   exact aF.mpr #[b,hb,e]
 have ev:∀a∈P,∀b∈Q,a.1=b.1->a.2=b.2:=by
  intro a ha b hb e;have hd:=zx 1 (X5 hP ha)<|(h _).mpr<|X5 hQ hb
  funext j
  have:=Zbh hd (λc hc=>by
   have:c.1∈Q.map (·.1):=by rw[<-eh];exact aF.mpr #[c,hc,rfl]
   obtain⟨c',hc',ec⟩:=aF.mp this;by_cases z:c.1=a.1
   .rw[z,hP.one a ha,e,hQ.one b hb];grind
   .rw[hP.zer c hc a ha z,<-ec,hQ.zer c' hc' b hb #[0]];grind) j
  grind
 clear h hP hQ
 induction P generalizing Q with
 |nil=>cases Q with|nil=>rfl|cons b Q=>cases eh
 |cons a P ih=>cases Q with
  |nil=>cases eh
  |cons b Q=>
   rw[ba]at eh;injection eh with e1 e2
   rw[ih e2 λx hx y hy=>ev x (am _ hx) y<|am _ hy]
   rw[Prod.ext e1<|ev a (ak ..) b (ak ..) e1]
def ins(x:Nat×Vec F):Pt F->Pt F
 |[]=>[x]
 |y::P=>if x.1<y.1 then x::y::P else y::ins x P
theorem YT(x):∀P:Pt F,(ins x P).Perm (x::P)
 |[]=>cC _
 |y::P=>by
  unfold ins;split
  .exact cC _
  .exact((YT x P).cons y).trans<|kT x y P
theorem uV(x):∀{P:Pt F},P.Pairwise (λa b=>a.1<b.1)->(∀a∈P,a.1≠x.1)->(ins x P).Pairwise λa b=>a.1<b.1
 |[],_,_=>by exact md ..
 |y::P,h,hn=>by
  have h':=bo.mp h;unfold ins;split
  .rename_i c
   refine bo.mpr #[λz hz=>?_,h]
   rcases ay.mp hz with rfl|hz
   .exact c
   .have:=h'.1 z hz;lia
  .rename_i c
   refine bo.mpr #[λz hz=>?_,uV x h'.2 λa ha=>hn a<|am _ ha]
   rcases ay.mp ((YT x P).mem_iff.mp hz)with rfl|hz
   .have:=hn y<|ak ..;lia
   .exact h'.1 z hz
theorem Zdb(x v j):∀P:Pt F,pr (ins x P) v j=v x.1*x.2 j+pr P v j
 |[]=>rfl
 |y::P=>by
  unfold ins;split
  .rfl
  .show v y.1*y.2 j+pr (ins x P) v j=v x.1*x.2 j+(v y.1*y.2 j+pr P v j)
   rw[Zdb x v j P];grind
noncomputable def off(h:Nat)(l:Vec F)(a:Nat×Vec F):Nat×Vec F:=(a.1,λj=>a.2 j-a.2 h*l j)
def wid(P:Pt F)(h:Nat)(l:Vec F):Pt F:=ins (h,l)<|P.map<|off h l
theorem ZbQ(h l v j):∀P:Pt F,pr (P.map<|off h l) v j=pr P v j-pr P v h*l j
 |[]=>by show(0:F)=0-0*l j;grind
 |a::P=>by
  show v a.1*(a.2 j-a.2 h*l j)+pr (P.map<|off h l) v j=(v a.1*a.2 j+pr P v j)-(v a.1*a.2 h+pr P v h)*l j;rw[ZbQ h l v j P];grind
structure Lead(P:Pt F)(h:Nat)(l:Vec F):Prop where
 one:l h=1
 low:∀j,j<h->l j=0
 zer:∀a∈P,l a.1=0
def Lead.ne{P:Pt F}(one0:(1:F)≠0)(L:Lead P h l)(ha:a∈P):a.1≠h:=λe=>by
 have:=L.zer a ha;rw[e,L.one]at this;exact one0 this
theorem Zgi{P:Pt F}(one0:(1:F)≠0)(hP:Rf P)(L:Lead P h l):Rf (wid P h l):=by
 have mem:∀{x},x∈wid P h l->x=(h,l)\/∃a∈P,x=off h l a:=λ{x} hx=>by
  rcases ay.mp ((YT _ _).mem_iff.mp hx)with e|e
  .exact .inl e
  .obtain⟨a,ha,e⟩:=aF.mp e
   exact .inr #[a,ha,e.symm]
 refine#[uV _ ?_ ?_,λx hx j hj=>?_,λx hx=>?_,λx hx y hy ne=>?_]
 .exact cS.mpr hP.inc
 .intro a ha
  obtain⟨b,hb,rfl⟩:=aF.mp ha;exact L.ne (a:=b) one0 hb
 .rcases mem hx with rfl|⟨a,ha,rfl⟩
  .exact L.low j hj
  .show a.2 j-a.2 h*l j=0
   rw[hP.low a ha j hj];by_cases c:h<a.1
   .rw[hP.low a ha h c];grind
   .have:j<a.1:=hj
    rw[L.low j (by have:=L.ne one0 ha;lia)];grind
 .rcases mem hx with rfl|⟨a,ha,rfl⟩
  .exact L.one
  .show a.2 a.1-a.2 h*l a.1=1
   rw[hP.one a ha,L.zer a ha];grind
 .rcases mem hx with rfl|⟨a,ha,rfl⟩
  .rcases mem hy with rfl|⟨b,hb,rfl⟩
   .exact T7 rfl ne
   .show b.2 h-b.2 h*l h=0
    rw[L.one];grind
  .rcases mem hy with rfl|⟨b,hb,rfl⟩
   .exact L.zer a ha
   .show b.2 a.1-b.2 h*l a.1=0
    rw[hP.zer a ha b hb ne,L.zer a ha];grind
def zY(P:Pt F)(h l):(wid P h l).length=P.length+1:=by
 have:=(YT (h,l)<|P.map<|off h l).length_eq;rwa[aQ,av]at this
theorem Zeg(hP:Rf P)(L:Lead P h l)(u:Vec F):Mem (wid P h l) u↔∃c,Mem P λj=>u j-c*l j:=by
 have e:∀j,pr (wid P h l) u j=u h*l j+(pr P u j-pr P u h*l j):=λj=>by
  unfold wid;rw[Zdb,ZbQ]
 have pl:∀j,pr P l j=0:=λj=>XX λb hb=>by rw[L.zer b hb];grind
 constructor
 .intro hu
  refine#[u h-pr P u h,λj=>?_]
  rw[zg];have:=hu j;rw[e j]at this;show u j-(u h-pr P u h)*l j=_
  grind
 .rintro ⟨c,hc⟩ j
  rw[e j];have h1:=hc j;have h2:u h-c*l h=_:=hc h;rw[zg]at h1 h2;rw[L.one]at h2
  grind
def rest(P:Pt F)(v:Vec F):Vec F:=λj=>v j-pr P v j
theorem ZaR(hP:Rf P)(v:Vec F)(ha:a∈P):rest P v a.1=0:=by
 unfold rest;rw[v6 hP ha];grind
theorem Qs{P:Pt F}:(∀j,rest P v j=0)↔Mem P v:=by
 constructor
 .intro h j;have:=h j;unfold rest at this;grind
 .intro h j;have:=h j;unfold rest;grind
theorem uL(hP:Rf P){i:F}(hi:i*rest P v h=1)(hl:∀j,j<h->rest P v j=0):Lead P h λj=>i*rest P v j:=
 #[hi,λj hj=>by rw[hl j hj];grind,λa ha=>by rw[ZaR hP v ha];grind]
theorem Za5(hP:Rf P){i:F}(hi:i*rest P v h=1)(hl:∀j,j<h->rest P v j=0)(u) :
  Mem (wid P h λj=>i*rest P v j) u↔∃c,Mem P λj=>u j-c*v j:=by
 rw[Zeg hP<|uL hP hi hl]
 constructor
 .rintro ⟨c,hc⟩
  refine#[c*i,?_];have:=zx (c*i) hc<|Za1 hP v;have e:(λj=>(u j-c*(i*rest P v j))-c*i*pr P v j)=λj=>u j-c*i*v j:=by funext j;unfold rest;grind
  rwa[e]at this
 .rintro ⟨c,hc⟩
  refine#[c*rest P v h,?_];have:=YO c hc<|Za1 hP v;have e:(λj=>(u j-c*v j)+c*pr P v j)=λj=>u j-c*rest P v h*(i*rest P v j):=by funext j;unfold rest at hi ⊢;grind
  rwa[e]at this
theorem Zcs(hv:Mem P v)(u:Vec F):Mem P u↔∃c,Mem P λj=>u j-c*v j:=by
 constructor
 .intro h;exact#[0,by have:=zx 0 h hv;exact this]
 .rintro ⟨c,hc⟩
  have:=YO c hc hv;have e:(λj=>(u j-c*v j)+c*v j)=u:=by funext j;grind
  rw[e]at this;exact this
def UU(P:Pt F):List (Vec F)->Vec F->Prop
 |[],u=>Mem P u
 |v::vs,u=>∃c,UU P vs λj=>u j-c*v j
theorem Uf(h:∀u,Mem P' u↔∃c,Mem P λj=>u j-c*v j):∀vs (u:Vec F),UU P' vs u↔UU P (v::vs) u
 |[],u=>h u
 |w::vs,u=>by
  constructor
  .rintro ⟨d,hd⟩
   obtain⟨c,hc⟩:=(Uf h vs _).mp hd;refine#[c,d,?_];have e:(λj=>u j-c*v j-d*w j)=λj=>u j-d*w j-c*v j:=by funext j;grind
   rw[e];exact hc
  .rintro ⟨c,d,hc⟩
   refine#[d,(Uf h vs _).mpr #[c,?_]];have e:(λj=>u j-d*w j-c*v j)=λj=>u j-c*v j-d*w j:=by funext j;grind
   rw[e];exact hc
theorem je(hQ:Rf Q)(u:Vec F):UU P (Q.map (·.2)) u↔∃q,Mem Q q/\Mem P λj=>u j-q j:=by
 constructor
 .have gen:∀ws u,(∀w∈ws,Mem Q w)->UU P ws u->∃q,Mem Q q/\Mem P λj=>u j-q j:=by
   intro ws
   induction ws with
   |nil=>intro u _ h;exact#[λ_=>0,YD,by
    have e:(λj=>u j-0)=u:=by funext j;grind
    rw[e];exact h]
   |cons w ws ih=>
    rintro u hw ⟨c,h⟩
    obtain⟨q,hq,hp⟩:=ih _ (λx hx=>hw x<|am _ hx) h
    refine#[λj=>q j+c*w j,YO c hq<|hw w<|ak ..,?_]
    have e:(λj=>u j-(q j+c*w j))=λj=>u j-c*w j-q j:=by funext j;grind
    rw[e];exact hp
  exact gen _ u λw hw=>by obtain⟨a,ha,rfl⟩:=aF.mp hw;exact X5 hQ ha
 .rintro ⟨q,hq,hp⟩
  have gen:∀R u,(Mem P λj=>u j-pr R q j)->UU P (R.map (·.2)) u:=by
   intro R
   induction R with
   |nil=>
    intro u h;have e:(λj=>u j-pr [] q j)=u:=by funext j;show u j-0=u j;grind
    rwa[e]at h
   |cons a R ih=>
    intro u h;refine#[q a.1,ih _ ?_];have e:(λj=>u j-q a.1*a.2 j-pr R q j)=λj=>u j-pr (a::R) q j:=by funext j;show _=u j-(q a.1*a.2 j+pr R q j);grind
    rw[e];exact h
  refine gen Q u ?_;have e:(λj=>u j-pr Q q j)=λj=>u j-q j:=by funext j;rw[<-hq j]
  rw[e];exact hp
variable{F:Type}[ko F][DecidableEq F]
def Supp(n:Nat)(v:Vec F):Prop:=∀j,n<=j->v j=0
structure Pn(n:Nat)(P:Pt F):Prop where
 rf:Rf P
 lt:∀a∈P,a.1<n
 sp:∀a∈P,Supp n a.2
theorem Pn.nil :Pn n ([]:Pt F):=#[Rf.nil,λ_ h=>(by cases h),λ_ h=>(by cases h)]
def QV{n:Nat}{P:Pt F}(h:Pn n P):P.length<=n:=by
 have:=(zq h.rf.heads (mB (n:=n)) λx hx=>by
  obtain⟨a,ha,rfl⟩:=aF.mp hx;exact aI.mpr<|h.lt a ha).1
 rwa [av,bf]at this
theorem Zdu(h:Pn n P)(v:Vec F):Supp n (pr P v):=λj hj=>XX λb hb=>by rw[h.sp b hb j hj];grind
noncomputable def hdV(n:Nat)(v:Vec F):Option Nat:=(aC n).find? λj=>ag<|v j≠0
theorem Zcb{v:Vec F}(hs:Supp n v)(h:hdV n v=ai)(j):v j=0:=by
 by_cases c:j<n
 .have:=on.mp h j (aI.mpr c)
  simpa using this
 .exact hs j #[0]
def ww{v:Vec F}(h:hdV n v=aa k):k<n/\v k≠0/\∀j,j<k->v j=0:=by
 unfold hdV at h;rw[lT]at h;obtain⟨h1,h2,h3⟩:=h;refine#[aI.mp h2,by simpa using h1,λj hj=>?_]
 have:=h3 j hj
 simpa using this
def vb{v:Vec F}(hk:k<n)(h1:v k≠0)(h2:∀j,j<k->v j=0):hdV n v=aa k:=by
 unfold hdV;rw[lT];exact#[by simpa using h1,aI.mpr hk,λj hj=>by simpa using h2 j hj]
structure Fld(inv:F->F):Prop where
 inv:∀a,a≠0->inv a*a=1
 one0:(1:F)≠0
section
variable{inv:F->F}{n:Nat}
def more(inv:F->F)(n:Nat)(P:Pt F)(v:Vec F):Pt F:=match hdV n (rest P v)with
 |none=>P
 |some h=>wid P h λj=>inv (rest P v h)*rest P v j
structure Grow(n:Nat)(P:Pt F)(v:Vec F)(P':Pt F):Prop where
 pn:Pn n P'
 mem:∀u,Mem P' u↔∃c,Mem P λj=>u j-c*v j
 same:Mem P v->P'=P
 len:¬Mem P v->P'.length=P.length+1
theorem WJ(f:Fld inv)(hP:Pn n P)(hv:Supp n v):Grow n P v (more inv n P v):=by
 have hs:Supp n (rest P v):=λj hj=>by unfold rest;rw[hv j hj,Zdu hP v j hj];grind
 cases q:hdV n (rest P v)with
 |none=>
  have e:more inv n P v=P:=by unfold more;rw[q]
  have hm:=Qs.mp<|Zcb hs q;rw[e];exact#[hP,Zcs hm,λ_=>rfl,λh=>T7 hm h]
 |some h=>
  have e:more inv n P v=wid P h λj=>inv (rest P v h)*rest P v j:=by unfold more;rw[q]
  obtain⟨h1,h2,h3⟩:=ww q;have hi:=f.inv _ h2;rw[e];refine#[#[Zgi f.one0 hP.rf<|uL hP.rf hi h3,λa ha=>?_,λa ha=>?_],Za5 hP.rf hi h3,λhm=>T7 (Qs.mpr hm h) h2,λ_=>zY ..]
  .rcases ay.mp ((YT _ _).mem_iff.mp ha)with e|e
   .rw[e];exact h1
   .obtain⟨b,hb,rfl⟩:=aF.mp e
    exact hP.lt b hb
  .rcases ay.mp ((YT _ _).mem_iff.mp ha)with e|e
   .rw[e];intro j hj
    show inv (rest P v h)*rest P v j=0;rw[hs j hj];grind
   .obtain⟨b,hb,rfl⟩:=aF.mp e
    intro j hj;show b.2 j-b.2 h*(inv (rest P v h)*rest P v j)=0;rw[hP.sp b hb j hj,hs j hj];grind
def uE(inv:F->F)(n:Nat)(P:Pt F)(vs:List (Vec F)):Pt F:=vs.foldl (more inv n) P
theorem VL(f:Fld inv):∀vs {P:Pt F},Pn n P->(∀v∈vs,Supp n v)->Pn n (uE inv n P vs)/\∀u,Mem (uE inv n P vs) u↔UU P vs u
 |[],P,hP,_=>#[hP,λu=>Iff.rfl]
 |v::vs,P,hP,hv=>by
  have g:=WJ f hP<|hv v<|ak ..;obtain⟨a,b⟩:=VL f vs g.pn λw hw=>hv w<|am _ hw
  exact#[a,λu=>(b u).trans<|Uf g.mem vs u]
def join(inv:F->F)(n:Nat)(P Q:Pt F):Pt F:=uE inv n P (Q.map (·.2))
def QB(f:Fld inv)(hP:Pn n P)(hQ:Pn n Q)(u):Mem (join inv n P Q) u↔∃q,Mem Q q/\Mem P λj=>u j-q j:=
 ((VL f _ hP λv hv=>by obtain⟨a,ha,rfl⟩:=aF.mp hv;exact hQ.sp a ha).2 u).trans (je hQ.rf u)
def ZiB(f:Fld inv){P Q:Pt F}(hP:Pn n P)(hQ:Pn n Q)(h:∀v,Mem P v↔Mem Q v):P=Q:=uniq f.one0 hP.rf hQ.rf h
theorem sub_self(u:Vec F):(λj=>u j-u j)=λ_=>0:=by funext j;grind
def vC(f:Fld inv)(hP:Pn n P)(hQ:Pn n Q)(h:Mem Q u):Mem (join inv n P Q) u:=
 (QB f hP hQ u).mpr #[u,h,by rw[sub_self];exact YD]
theorem wY(f:Fld inv)(hP:Pn n P)(hQ:Pn n Q)(h1:∀u,Mem P u->Mem R u)(h2:∀u,Mem Q u->Mem R u)(h:Mem (join inv n P Q) u):Mem R u:=by
 obtain⟨q,a,b⟩:=(QB f hP hQ u).mp h;have:=YO 1 (h1 _ b)<|h2 _ a;have e:(λj=>u j-q j+1*q j)=u:=by funext j;grind
 rwa[e]at this
def sl:List Nat->(Nat->F)->F
 |[],_=>0
 |k::L,g=>g k+sl L g
def V1{L:List Nat}{g g':Nat->F}(h:∀k∈L,g k=g' k):sl L g=sl L g':=by
 induction L with|nil=>rfl|cons k L ih=>show g k+sl L g=g' k+sl L g';rw[h k<|ak ..,ih λj hj=>h j<|am _ hj]
theorem Zhu(L:List Nat)(g g':Nat->F)(c:F):sl L (λj=>g j-c*g' j)=sl L g-c*sl L g':=by
 induction L with|nil=>show(0:F)=0-c*0;grind|cons k L ih=>show(g k-c*g' k)+sl L _=(g k+sl L g)-c*(g' k+sl L g');rw[ih];grind
theorem zw{L:List Nat}{g:Nat->F}(h:∀k∈L,g k=0):sl L g=0:=by
 induction L with|nil=>rfl|cons k L ih=>show g k+sl L g=0;rw[h k<|ak ..,ih λj hj=>h j<|am _ hj];grind
theorem Zau{L:List Nat}{g:Nat->F}{k:Nat}(hn:L.Nodup)(hk:k∈L)(h:∀j∈L,j≠k->g j=0):sl L g=g k:=by
 induction L with
 |nil=>cases hk
 |cons m L ih=>
  rw[dq]at hn;show g m+sl L g=_;rcases ay.mp hk with e|e
  .subst e
   rw[zw λj hj=>h j (am _ hj) λz=>hn.1<|z▸hj];grind
  .rw[ih hn.2 e λj hj=>h j<|am _ hj,h m (ak ..) λz=>hn.1<|z▸e];grind
end
end La
namespace Rw
open La
open Ev (ltI YH Zr)
section
variable{p:Nat}[NeZero p]
noncomputable def ph(p:Nat)[NeZero p](a:Int):Fin p:=Fin.ofNat p (a%p).toNat
theorem ppos:(0:Int)<p:=by have:=NeZero.ne p;lia
theorem YK(a):((ph p a).val:Int)=a%p:=by
 have h:=ppos (p:=p);have h0:=g9 a (by lia:(p:Int)≠0)
 show((((a%p).toNat)%p:Nat):Int)=a%p;rw[Nat.mod_eq_of_lt<|(Int.toNat_lt h0).mpr<|fT a h];exact kn h0
theorem WL{x y:Fin p}(h:(x.val:Int)=y.val):x=y:=Fin.ext #[0]
def Zcr(a b):ph p (a+b)=ph p a+ph p b:=WL (by
 rw[YK];show(a+b)%p=(((ph p a).val+(ph p b).val:Nat):Int)%p;rw[pQ,YK,YK,<-Int.add_emod])
def ZbJ(a b):ph p (a*b)=ph p a*ph p b:=WL (by
 rw[YK];show(a*b)%p=(((ph p a).val*(ph p b).val:Nat):Int)%p;rw[Int.natCast_mul,YK,YK,<-Int.mul_emod])
def ZcG(a:Int):ph p (a%p)=ph p a:=WL (by rw[YK,YK,Int.emod_emod])
def WS:ph p 0=0:=WL (by rw[YK];simp)
theorem Ur(a):ph p (-a) = - ph p a:=by
 have h:ph p (-a+a)=ph p (-a)+ph p a:=Zcr _ _;rw[show -a+a=0 by lia,WS]at h
 grind
def vJ{a b:Int}(ha:0<=a/\a<p)(hb:0<=b/\b<p)(h:ph p a=ph p b):a=b:=by
 have:=congrArg (λx:Fin p=>(x.val:Int)) h
 simp[YK]at this;rwa[ee ha.1 ha.2,ee hb.1 hb.2]at this
theorem Ziy{a:Int}(ha:0<=a/\a<p):ph p a=0↔a=0:=by
 constructor
 .intro h;exact vJ ha #[by lia,ppos] (by rw[h,WS])
 .rintro rfl;exact WS
end
abbrev Row:=List Int
def Zd(p n:Nat)(r:Row):Prop:=r.length=n/\∀a∈r,0<=a/\a<(p:Int)
noncomputable def gt(r:Row)(j:Nat):Int:=r.getD j 0
def XS{p n:Nat}(h0:(0:Int)<p)(h:Zd p n r)(j):0<=gt r j/\gt r j<p:=by
 unfold gt;rw[az];cases q:r[j]? with|none=>exact#[Int.le_refl _,h0]|some a=>exact h.2 a<|cU q
def zF(h:r.length<=j):gt r j=0:=by unfold gt;rw[az,bI h];rfl
def Zdd(hl:r.length=s.length)(h:∀j,gt r j=gt s j):r=s:=by
 apply eG hl;intro j h1 h2;have:=h j;unfold gt at this;rwa[az,az,af h1,af h2]at this
noncomputable def hdI:Row->Option Nat
 |[]=>ai
 |a::r=>if a≠0 then aa 0 else(hdI r).map (· + 1)
theorem Z4:∀{r:Row}{k:Nat},hdI r=aa k->gt r k≠0/\k<r.length/\∀j,j<k->gt r j=0
 |[],k,h=>by cases h
 |a::r,k,h=>by
  unfold hdI at h;by_cases c:a≠0
  .rw[T9 c]at h;cases h;exact#[c,by simp,λj hj=>by lia]
  .rw[T8 c]at h
   cases q:hdI r with
   |none=>rw[q]at h;cases h
   |some m=>
    rw[q]at h;have e:=aq h;subst e;obtain⟨h1,h2,h3⟩:=Z4 q;refine#[h1,by simp;lia,λj hj=>?_]
    cases j with|zero=>exact oW.mp c|succ j=>exact h3 j #[0]
theorem Xa:∀{r:Row},hdI r=ai->∀j,gt r j=0
 |[],_,j=>zF<|c7 _
 |a::r,h,j=>by
  unfold hdI at h;by_cases c:a≠0
  .rw[T9 c]at h;cases h
  .rw[T8 c]at h
   cases j with|zero=>exact oW.mp c|succ j=>exact Xa (mz.mp h) j
section
variable{p n:Nat}[NeZero p]
def toV(p:Nat)[NeZero p](r:Row):Vec (Fin p):=λj=>ph p<|gt r j
def YC{r s:Row}(hr:Zd p n r)(hs:Zd p n s)(h:toV p r=toV p s):r=s:=
 Zdd (by rw[hr.1,hs.1]) λj=>vJ (XS ppos hr j) (XS ppos hs j)<|congrFun h j
def Yr(hr:Zd p n r):Supp n (toV p r):=λj hj=>by unfold toV;rw[zF (by rw[hr.1];exact hj),WS]
def Z8{r:Row}(hr:Zd p n r) :toV p r j=0↔gt r j=0:=Ziy<|XS ppos hr j
def wS(hr:Zd p n r):hdV n (toV p r)=hdI r:=by
 cases q:hdI r with
 |none=>
  cases q2:hdV n (toV p r)with|none=>rfl|some k=>exact T7 ((Z8 hr).mpr<|Xa q k) (ww q2).2.1
 |some k=>
  obtain⟨a,b,c⟩:=Z4 q;exact vb (by rw[<-hr.1];exact b) (λz=>a<|(Z8 hr).mp z) λj hj=>(Z8 hr).mpr<|c j hj
noncomputable def Zw(p:Nat)(r o:Row)(k:Int):Row:=List.zipWith (λa b=>(a+k*b)%p) r o
noncomputable def WF(p:Nat)(r:Row)(k:Int):Row:=r.map λa=>k*a%p
theorem ZhX(hl:r.length=o.length)(h0:f 0 0=0)(j):gt (List.zipWith f r o) j=f (gt r j) (gt o j):=by
 unfold gt;simp;rw[List.getElem?_zipWith];by_cases c:j<r.length
 .rw[af c,af #[0]];rfl
 .rw[bI #[0],bI #[0]];exact h0.symm
theorem Zp(hr:Zd p n r)(ho:Zd p n o):Zd p n (Zw p r o k):=by
 refine#[by unfold Zw;rw[List.length_zipWith,hr.1,ho.1];simp,λa ha=>?_]
 unfold Zw at ha;rw[<-iJ]at ha;obtain⟨⟨x,y⟩,_,rfl⟩:=aF.mp ha;exact#[g9 _ (by have:=ppos (p:=p);lia),fT _ ppos]
def WM(hr:Zd p n r)(ho:Zd p n o)(j):gt (Zw p r o k) j=(gt r j+k*gt o j)%p:=by
 unfold Zw;rw[ZhX (by rw[hr.1,ho.1]) #[2]]
def ZX(hr:Zd p n r)(ho:Zd p n o):toV p (Zw p r o k)=λj=>toV p r j+ph p k*toV p o j:=by
 funext j
 unfold toV;rw[WM hr ho,ZcG,Zcr,ZbJ]
def ZcS(j):gt (WF p r k) j=k*gt r j%p:=by
 unfold WF gt;simp;cases r[j]?<;>simp
theorem Gy(hr:Zd p n r):Zd p n (WF p r k):=by
 refine#[by unfold WF;rw[av,hr.1],λa ha=>?_]
 obtain⟨x,_,rfl⟩:=aF.mp ha;exact#[g9 _ (by have:=ppos (p:=p);lia),fT _ ppos]
def jg :toV p (WF p r k)=λj=>ph p k*toV p r j:=by
 funext j
 unfold toV;rw[ZcS,ZcG,ZbJ]
def toP(p:Nat)[NeZero p](P:List Row):Pt (Fin p):=P.map λr=>((hdI r).getD 0,toV p r)
structure pZ(p n:Nat)[NeZero p](P:List Row):Prop where
 row:∀r∈P,Zd p n r
 pn:Pn n (toP p P)
theorem pZ.nil:pZ p n []:=#[λ_ h=>(by cases h),Pn.nil]
def Yl(h:r∈P):((hdI r).getD 0,toV p r)∈toP p P:=aF.mpr #[r,h,rfl]
def pZ.head(one0:(1:Fin p)≠0)(h:pZ p n P)(hr:r∈P):∃k,hdI r=aa k/\k<n/\toV p r k=1:=by
 have h1:=h.pn.rf.one _<|Yl hr;cases q:hdI r with
 |none=>
  rw[q]at h1;have:toV p r 0=1:=h1;rw[((Z8<|h.row r hr).mpr<|Xa q 0)]at this;exact T7 this.symm one0
 |some k=>
  rw[q]at h1;have h2:=h.pn.lt _<|Yl hr;rw[q]at h2;exact#[k,rfl,h2,h1]
def vY(hP:∀r∈P,Zd p n r)(hQ:∀r∈Q,Zd p n r)(h:toP p P=toP p Q):P=Q:=by
 induction P generalizing Q with
 |nil=>cases Q with|nil=>rfl|cons b Q=>cases h
 |cons a P ih=>cases Q with
  |nil=>cases h
  |cons b Q=>
   injection h with e1 e2
   rw[YC (hP a<|ak ..) (hQ b<|ak ..)<|congrArg Prod.snd e1,ih (λr hr=>hP r<|am _ hr) (λr hr=>hQ r<|am _ hr) e2]
def ZeS(P):(toP p P).map (·.2)=P.map (toV p):=by unfold toP;rw[bL];rfl
def Qk(P):(toP p P).length=P.length:=by unfold toP;rw[av]
def clr(p:Nat)(r o:Row)(h:Nat):Row:=Zw p r o<|-(gt r h)
def Zn(p:Nat)(P:List Row)(r:Row):Row:=P.foldl (λs o=>clr p s o<|(hdI o).getD 0) r
theorem ye(hr:Zd p n r)(ho:Zd p n o):toV p (clr p r o h)=λj=>toV p r j-toV p r h*toV p o j:=by
 unfold clr;rw[ZX hr ho]
 funext j
 rw[Ur];show toV p r j+(- toV p r h)*toV p o j=_
 grind
theorem U6:∀{P:List Row}{r:Row},(∀o∈P,Zd p n o)->Rf (toP p P)->Zd p n r->Zd p n #[13]/\toV p #[13]=rest (toP p P) (toV p r)
 |[],r,_,_,hr=>#[hr,by funext j;show toV p r j=toV p r j-0;grind]
 |o::P,r,hP,hf,hr=>by
  have ho:=hP o<|ak ..;have hc:Zd p n (clr p r o<|(hdI o).getD 0):=Zp hr ho;obtain⟨a,b⟩:=U6 (λo h=>hP o<|am _ h) hf.tail hc
  refine#[a,?_];show toV p (Zn p P<|clr p r o<|(hdI o).getD 0)=_;rw[b,ye hr ho];have z:∀j,pr (toP p P) (toV p o) j=0:=λj=>XX λc hc=>by
   have:toV p o c.1=0:=by
    have h1:c∈toP p (o::P):=am _ hc;have h2:((hdI o).getD 0,toV p o)∈toP p (o::P):=ak ..;have h3:=(bo.mp hf.inc).1 c hc;exact hf.zer c h1 _ h2 (by simp only at h3 ⊢;lia)
   rw[this];grind
  funext j
  unfold rest;rw[zg,z];show toV p r j-toV p r ((hdI o).getD 0)*toV p o j-(pr (toP p P) (toV p r) j-_*0)=toV p r j-(toV p r ((hdI o).getD 0)*toV p o j+pr (toP p P) (toV p r) j)
  grind
def Zdj(hP:pZ p n P)(hr:Zd p n r):hdI #[13]=ai↔Mem (toP p P) (toV p r):=by
 obtain⟨a,b⟩:=U6 hP.row hP.pn.rf hr;rw[<-Qs,<-b]
 constructor
 .intro h j;exact(Z8 a).mpr<|Xa h j
 .intro h
  cases q:hdI (Zn p P r)with|none=>rfl|some k=>exact T7 ((Z8 a).mp<|h k) (Z4 q).1
end
noncomputable def Qz(p:Nat)(a:Int):Int:=if a=1 then 1 else if p=3 then 2 else if a=2 then 3 else if a=3 then 2 else 4
def GR(p:Nat)[NeZero p](x:Fin p):Fin p:=ph p<|Qz p x.val
class Base(p:Nat):Prop where
 b:p=2\/p=3\/p=5
instance(p:Nat)[h:Base p]:NeZero p:=⟨by rcases h.b with e|e|e<;>lia⟩
section
variable{p n:Nat}[Base p]
def fld2:∀a,a≠0->GR 2 a*a=1:=by decide
def fld3:∀a,a≠0->GR 3 a*a=1:=by decide
def fld5:∀a,a≠0->GR 5 a*a=1:=by decide
def one2:(1:Fin 2)≠0:=by decide
def one3:(1:Fin 3)≠0:=by decide
def one5:(1:Fin 5)≠0:=by decide
def fld:Fld (GR p):=by
 rcases(inferInstance:Base p).b with e|e|e<;>subst e
 .exact#[fld2,one2]
 .exact#[fld3,one3]
 .exact#[fld5,one5]
def Zep(h:0<=a/\a<(p:Int)):((ph p a).val:Int)=a:=by rw[YK,ee h.1 h.2]
def lead(p:Nat)(s:Row)(h:Nat):Row:=WF p s<|Qz p<|gt s h
def XQ(p:Nat)(P:List Row)(r:Row):List Row:=match hdI (Zn p P r)with
 |none=>P
 |some h=>(Zr<|P.map (λo=>clr p o #[19] h)++[lead p #[13] h]).reverse
def wL(h:Nat)(x:Row):List Row->List Row
 |[]=>[x]
 |y::P=>if h<(hdI y).getD 0 then x::y::P else y::wL h x P
theorem Ui(h x):∀P,(wL h x P).Perm (x::P)
 |[]=>cC _
 |y::P=>by
  unfold wL;split
  .exact cC _
  .exact((Ui h x P).cons y).trans<|kT x y P
theorem yV(hx:hdI x=aa h):∀P,toP p (wL h x P)=ins (h,toV p x) (toP p P)
 |[]=>by show[((hdI x).getD 0,toV p x)]=_;rw[hx];rfl
 |y::P=>by
  show toP p (if h<(hdI y).getD 0 then _ else _)=(if h<(hdI y).getD 0 then _ else _)
  split
  .show((hdI x).getD 0,toV p x)::_=_;rw[hx];rfl
  .show((hdI y).getD 0,toV p y)::toP p (wL h x P)=_;rw[yV hx P];rfl
theorem ZaB:∀{a b:Row}{h:Nat},a.length=b.length->(∀j,j<h->gt a j=gt b j)->gt b h<gt a h->h<a.length->ltI b a=ao
 |[],_,_,_,_,_,hl=>by simp at hl
 |x::a,[],_,e,_,_,_=>by simp at e
 |x::a,y::b,0,_,_,hlt,_=>by
  have:y<x:=hlt;unfold ltI;rw[T8 #[0]]
  exact T5 this
 |x::a,y::b,h+1,e,hj,hlt,hl=>by
  have:x=y:=hj 0 #[0]
  unfold ltI;rw[T9 this.symm];exact ZaB (by simpa using e) (λj h'=>hj (j+1)<|by lia) hlt (by simpa using hl)
theorem Zcu(ha:Zd p n a)(hb:Zd p n b)(h1:hdI a=aa h)(h2:hdI b=aa k)(hk:h<k):ltI b a=ao:=by
 obtain⟨a1,a2,a3⟩:=Z4 h1;obtain⟨b1,b2,b3⟩:=Z4 h2;refine ZaB (by rw[ha.1,hb.1]) (λj hj=>by rw[a3 j hj,b3 j<|by lia]) ?_ a2
 rw[b3 h hk];have:=(XS ppos ha h).1;lia
def pZ.falls{P:List Row}(hP:pZ p n P):P.Pairwise λa b=>ltI b a=ao:=by
 have inc:P.Pairwise λa b=>(hdI a).getD 0<(hdI b).getD 0:=by
  have:=hP.pn.rf.inc;unfold toP at this;rwa[cS]at this
 refine lL (λ{a b} ha hb hab=>?_) inc
 obtain⟨h,e1,_⟩:=hP.head fld.one0 ha;obtain⟨k,e2,_⟩:=hP.head fld.one0 hb;rw[e1,e2]at hab;exact Zcu (hP.row a ha) (hP.row b hb) e1 e2 hab
def Uz{P:List Row}(h:P.Pairwise λa b=>ltI b a=ao):P.Nodup:=List.Pairwise.imp (λ{a b} hab e=>by
 rw[e]at hab;have:=Sd.Qa hab;rw[hab]at this;cases this) h
def Zej(hp:Q.Perm P)(h:Q.Pairwise λa b=>ltI b a=ao):(Zr P).reverse=Q:=by
 rw[(Sd.WA ((Sd.Xf P).trans<|hp.symm.trans (d9 Q).symm) (Sd.XU<|(hp.nodup_iff).mp<|Uz h)<|eR.mpr h),List.reverse_reverse]
def Ww(hP:pZ p n P)(hr:Zd p n r):pZ p n (XQ p P r)/\toP p (XQ p P r)=more (GR p) n (toP p P) (toV p r):=by
 obtain⟨s1,s2⟩:=U6 hP.row hP.pn.rf hr;have eh:=wS s1;rw[s2]at eh;have g:=WJ fld hP.pn<|Yr hr;unfold XQ;cases q:hdI (Zn p P r)with
 |none=>
  rw[q]at eh;exact#[hP,by unfold more;rw[eh]]
 |some h=>
  rw[q]at eh;have em:more (GR p) n (toP p P) (toV p r)=wid (toP p P) h (toV p<|lead p #[13] h):=by
   unfold more;rw[eh];show wid _ h _=_
   congr 1
   unfold lead;rw[jg,s2]
   funext j
   congr 1
   rw[<-s2];show ph p (Qz p<|(ph p<|gt #[13] h).val)=_;rw[Zep<|XS ppos s1 h]
  have hl:Zd p n #[19]:=Gy s1;rw[em]at g;have mem:=λx hx=>vb (g.pn.lt x hx) (by rw[g.pn.rf.one x hx];exact fld.one0)<|g.pn.rf.low x hx
  have hx:hdI #[19]=aa h:=by
   rw[<-wS hl];exact mem (h,toV p<|lead p #[13] h)<|(YT _ _).mem_iff.mpr<|ak ..
  have e1:toP p (P.map λo=>clr p o #[19] h)=(toP p P).map (off h<|toV p<|lead p #[13] h):=by
   unfold toP;rw[bL,bL];refine cn λo ho=>?_
   have ho':=hP.row o ho;have hc:Zd p n (clr p o #[19] h):=Zp ho' hl;have ev:toV p (clr p o #[19] h)=(off h (toV p<|lead p #[13] h) ((hdI o).getD 0,toV p o)).2:=ye ho' hl;show((hdI<|clr p o #[19] h).getD 0,toV p<|clr p o #[19] h)=off h _ ((hdI o).getD 0,toV p o);have:=mem (off h (toV p<|lead p #[13] h) ((hdI o).getD 0,toV p o))<|(YT _ _).mem_iff.mpr<|am _<|aF.mpr #[_,Yl ho,rfl];rw[<-ev,wS hc]at this;rw[this,ev];rfl
  have e2:toP p (wL h #[19]<|P.map λo=>clr p o #[19] h)=wid (toP p P) h (toV p<|lead p #[13] h):=by
   rw[yV hx,e1];rfl
  have hQ:pZ p n (wL h #[19]<|P.map λo=>clr p o #[19] h):=by
   refine#[λx hx=>?_,by rw[e2];exact g.pn]
   rcases ay.mp ((Ui _ _ _).mem_iff.mp hx)with e|e
   .rw[e];exact hl
   .obtain⟨o,ho,rfl⟩:=aF.mp e
    exact Zp (hP.row o ho) hl
  show pZ p n (Zr _).reverse/\toP p (Zr _).reverse=_;rw[(Zej ((Ui h #[19]<|P.map λo=>clr p o #[19] h).trans (List.perm_append_singleton _ _).symm) hQ.falls)];exact#[hQ,by rw[e2,em]]
def ZY(p:Nat)(P:List Row)(rs:List Row):List Row:=rs.foldl (XQ p) P
theorem UY:∀{rs:List Row}{P:List Row},pZ p n P->(∀r∈rs,Zd p n r)->pZ p n (ZY p P rs)/\toP p (ZY p P rs)=uE (GR p) n (toP p P) (rs.map<|toV p)
 |[],P,hP,_=>#[hP,rfl]
 |r::rs,P,hP,hr=>by
  obtain⟨a,b⟩:=Ww hP<|hr r<|ak ..;obtain⟨c,d⟩:=UY a λx hx=>hr x<|am _ hx
  refine#[c,?_];show toP p (ZY p (XQ p P r) rs)=_;rw[d,b];rfl
def Vy(hP:pZ p n P)(hQ:pZ p n Q):pZ p n (ZY p P Q)/\toP p (ZY p P Q)=join (GR p) n (toP p P) (toP p Q):=by
 obtain⟨a,b⟩:=UY hP hQ.row;exact#[a,by rw[b];unfold join;rw[ZeS]]
def Zt(P:List Row):List Nat:=P.map λr=>(hdI r).getD 0
def XG(P):(toP p P).map (·.1)=Zt P:=by unfold toP Zt;rw[bL];rfl
abbrev Mm(p:Nat)[NeZero p](P:List Row)(u:Vec (Fin p)):Prop:=Mem (toP p P) u
def eqP(hA:pZ p n A)(hB:pZ p n B)(h:∀u,Mm p A u↔Mm p B u):A=B:=vY hA.row hB.row<|ZiB fld hA.pn hB.pn h
def Ze8{P Q:List Row}(hP:pZ p n P)(hQ:pZ p n Q)(u:Vec (Fin p)):Mm p (ZY p P Q) u↔∃q,Mm p Q q/\Mm p P λj=>u j-q j:=by
 unfold Mm;rw[(Vy hP hQ).2];exact QB fld hP.pn hQ.pn u
def ZbZ(hP:pZ p n P)(hQ:pZ p n Q)(h:Mm p Q u):Mm p (ZY p P Q) u:=by
 unfold Mm;rw[(Vy hP hQ).2];exact vC fld hP.pn hQ.pn h
def ZaK(hP:pZ p n P)(hQ:pZ p n Q)(h1:∀u,Mm p P u->Mm p R u)(h2:∀u,Mm p Q u->Mm p R u)(h:Mm p (ZY p P Q) u):Mm p R u:=by
 unfold Mm at h;rw[(Vy hP hQ).2]at h;exact wY fld hP.pn hQ.pn h1 h2 h
def pJ(hP:pZ p n P)(hQ:pZ p n Q):pZ p n (ZY p P Q):=(Vy hP hQ).1
def Zcd{P Q:List Row}(hP:pZ p n P)(hQ:pZ p n Q)(h:∀u,Mm p P u->Mm p Q u):ZY p P Q=Q:=eqP (pJ hP hQ) hQ λu=>
 #[ZaK hP hQ h λ_ h=>h,ZbZ hP hQ]
theorem Uq{P:List Row}(hP:pZ p n P):ZY p [] P=P:=eqP (pJ pZ.nil hP) hP λu=>(Ze8 pZ.nil hP u).trans #[by
 rintro ⟨q,h1,h2⟩;have e:u=q:=funext λj=>by have:u j-q j=0:=h2 j;grind
 rwa [e],λh=>#[u,h,λj=>by show u j-u j=0;grind]]
def Ym(p:Nat)(P:List Row)(r:Row):Bool:=(hdI<|Zn p P r).isNone
def ZK(hP:pZ p n P)(hr:Zd p n r):Ym p P r=ao↔Mm p P (toV p r):=by
 unfold Mm;rw[<-Zdj hP hr];unfold Ym;cases hdI #[13]<;>simp
theorem VF(hP:pZ p n P)(hQ:pZ p n Q):P.all (Ym p Q)=ao↔∀u,Mm p P u->Mm p Q u:=by
 rw[aV]
 constructor
 .intro h u hu
  have gen:∀R:Pt (Fin p),(∀a∈R,Mm p Q a.2)->Mm p Q (pr R u):=by
   intro R
   induction R with
   |nil=>intro _;exact YD
   |cons a R ih=>
    intro hR;have:=YO (u a.1) (ih λb hb=>hR b<|am _ hb)<|hR a<|ak ..
    have e:(λj=>pr R u j+u a.1*a.2 j)=pr (a::R) u:=by funext j;show _=u a.1*a.2 j+pr R u j;grind
    rw[e]at this;exact this
  have:=gen (toP p P) λa ha=>by
   obtain⟨r,hr,rfl⟩:=aF.mp ha;exact(ZK hQ<|hP.row r hr).mp<|h r hr
  have e:=funext λj=>(hu j).symm
  rw[e]at this;exact this
 .intro h r hr
  exact(ZK hQ<|hP.row r hr).mpr<|h _<|X5 hP.pn.rf<|Yl hr
end
end Rw
namespace Pv
open Ev
open Rw
def Za{B β:Type}{a:B}{s:DS}{f:B->DS->PR β}:(PR.ok a s).bind f=f a s:=rfl
def UN(hf:F[f]?=aa fn)(hne:f≠tk)(hl:vs.length=fn.ps):Zl F tk (d+1) f vs s=(rvs (Zl F tk d) (muts fn.body) fn.body (ZQ fn.ns vs) [] s).bind λg s=>match g with
  |.ret v=>.ok v s
  |.nx _ _=>.ok .non s:=by
 rw[Zl,T8 hne,hf];show(if vs.length=fn.ps then _ else _)=_
 rw[T9 hl]
 all_goals rfl
def Za6(s)(h:0<m):0<=(Wx s m).1/\(Wx s m).1<m:=by
 unfold Wx;split
 .exact#[g9 _ #[0],fT _ h]
 .exact#[g9 _ #[0],fT _ h]
def UI(s)(h0:0<m)(h1:m<1073741824):∃v s',Zl F tk (d+1) tk [.drw,.int m] s=.ok (.int v) s'/\0<=v/\v<m:=by
 refine#[(Wx s m).1,(Wx s m).2,?_,Za6 s h0];rw[Zl,T9 rfl];show(if 0<m/\m<1073741824 then _ else _)=_
 rw[T9 #[h0,h1]]
theorem yF{B:Type}{e:B->V}{g:B->V}:∀{l:List B},(∀x∈l,f (e x) s=.ok [g x] s)->mapP f (l.map e) s=.ok (l.map g) s
 |[],_=>rfl
 |x::l,h=>by
  rw[ba,mapP,h x<|ak ..];show(match mapP f (l.map e) s with|.ok zs s=>PR.ok ([g x]++zs) s|_=>.no)=_
  rw[yF λy hy=>h y<|am _ hy];rfl
theorem UH{B:Type}{e:B->V}{g:B->V}{q:B->Bool}:∀{l:List B},(∀x∈l,f (e x) s=.ok (if q x=ao then[g x]else[]) s)->mapP f (l.map e) s=.ok ((l.filter q).map g) s
 |[],_=>rfl
 |x::l,h=>by
  rw[ba,mapP,h x<|ak ..];show(match mapP f (l.map e) s with|.ok zs s=>PR.ok ((if q x=ao then[g x]else[])++zs) s|_=>.no)=_
  rw[UH λy hy=>h y<|am _ hy,gH]
  cases q x<;>rfl
theorem Ua{Q:V->Prop}(h:∀x s,∃y s',f x s=.ok [y] s'/\Q y):∀l s,∃ys s',mapP f l s=.ok ys s'/\ys.length=l.length/\∀y∈ys,Q y
 |[],s=>#[[],s,rfl,rfl,λ_ h=>by cases h]
 |x::l,s=>by
  obtain⟨y,s1,e1,q1⟩:=h x s;obtain⟨ys,s2,e2,l2,q2⟩:=Ua h l s1;refine#[y::ys,s2,?_,by rw[aQ,aQ,l2],λz hz=>?_]
  .rw[mapP,e1]
   show(match mapP f l s1 with|.ok zs s=>PR.ok ([y]++zs) s|_=>.no)=_
   rw[e2];rfl
  .rcases ay.mp hz with rfl|hz
   .exact q1
   .exact q2 z hz
theorem Gg{Z B:Type}{U:Z->Option V->Env}{step:Z->B->Z}{e:B->V}(I:Z->Prop):∀{l:List B}{st:Z}{o:Option V},I st->(∀x∈l,∀st o,I st->I (step st x)/\∃o',body (e x) (U st o) os s=.ok (.nx (U (step st x) o') os) s)->∃o',I (l.foldl step st)/\Xm body (l.map e) (U st o) os s=.ok (.nx (U (l.foldl step st) o') os) s
 |[],st,o,hI,_=>#[o,hI,rfl]
 |x::l,st,o,hI,h=>by
  obtain⟨h1,o1,e1⟩:=h x (ak ..) st o hI;obtain⟨o2,h2,e2⟩:=Gg I h1 λy hy=>h y<|am _ hy
  refine#[o2,h2,?_];rw[ba,Xm,e1];exact e2
noncomputable def Vj:Option Nat->V
 |none=>.non
 |some k=>.int k
noncomputable def spV(p n:Nat):V:=.tup [.int p,.int n]
def Ya(h:-4294967296<a)(h':a<4294967296):fits a=ao:=by
 refine T5 ?_;have h1:a.natAbs<2^32:=by lia
 exact bn h1<|dH #[1] #[1]
def XY{B:Type}{xs:List B}{k:Nat}{x:B}(h:xs[k]?=aa x):at' xs (k:Int)=aa x:=by
 unfold at' ixN;rw[T9<|Int.ofNat_lt.mpr<|(aN.mp h).1];exact h
def QL{r:Row}(hk:k<r.length):at' (r.map V.int) (k:Int)=aa (.int<|gt r k):=by
 refine XY ?_;rw[aK];unfold gt;rw[az,af hk];rfl
theorem Yx{B:Type}{g:B->Bool}:∀l:List B,Z2 (l.map λx=>.bl<|g x)=aa (l.map g)
 |[]=>rfl
 |x::l=>by rw[ba,Z2,Yx l];rfl
theorem QI{B:Type}{e:B->V}{d:B->B->Bool}(hd:∀a b,d a b=ao↔a=b)(h:∀a b,f (e a) (e b)=aa (d a b)):∀a b:List B,∃c,YG f (a.map e) (b.map e)=aa c/\(c=ao↔a=b)
 |[],[]=>#[ao,rfl,by simp]
 |[],_::_=>#[aj,rfl,by simp]
 |_::_,[]=>#[aj,rfl,by simp]
 |x::a,y::b=>by
  obtain⟨c,e1,e2⟩:=QI hd h a b;refine#[d x y&&c,?_,?_]
  .rw[ba,ba,YG,h,e1]
  .rw[aA,hd,e2];simp
def ZdL(k:Nat)(a b:Row):eqV (k+2) (Zb a) (Zb b)=aa (ag<|a=b):=by
 show YG (eqV<|k+1) (a.map .int) (b.map .int)=_;obtain⟨c,e1,e2⟩:=QI (f:=eqV<|k+1) (e:=V.int) (λa b=>by simp) (λa b=>rfl) a b
 rw[e1,show c=ag (a=b) by rw[cL,e2];simp]
def xQ(k:Nat)(a b:List Row):eqV (k+3) (Zh a) (Zh b)=aa (ag<|a=b):=by
 show YG (eqV<|k+2) (a.map Zb) (b.map Zb)=_;obtain⟨c,e1,e2⟩:=QI (λa b=>by simp) (λa b=>ZdL k a b) a b
 rw[e1,show c=ag (a=b) by rw[cL,e2];simp]
theorem xD:∀(r o:Row),((r.map V.int).zip<|o.map V.int).map (λq=>V.tup [q.1,q.2])=(r.zip o).map λq=>V.tup [.int q.1,.int q.2]
 |[],_=>rfl
 |_::_,[]=>rfl
 |a::r,b::o=>by rw[ba,ba,d3,ba,d3,ba,xD r o]
theorem YM:∀r,intsV (r.map V.int)=aa r
 |[]=>rfl
 |a::r=>by show(intsV<|r.map V.int).map (a :: ·)=_;rw[YM r];rfl
theorem YI:∀P,YE (P.map Zb)=aa P
 |[]=>rfl
 |r::P=>by
  show(match intsV (r.map V.int),YE (P.map Zb)with|some a,aa b=>aa (a::b)|_,_=>ai)=_
  rw[YM,YI P]
theorem Jj:∀r:Row,Wd (r.map V.int)=ao
 |[]=>rfl
 |a::r=>Jj r
def Zeb(n):Yb 0 n=(aC n).map λ(k:Nat)=>V.int (k:Int):=by
 refine cn λk _=>?_
 simp
def ZW{B:Type}{a:B}{s:DS}:po (aa a) s=.ok a s:=rfl
section
variable{C:ZN}{cap:List Nat}{nl:Nat}{t:List Nat}{it:W}{elt tst:E}{U:Env}{s:DS}{B:Type}
def ZM{l:List B}(hw:pvw C it U s=.ok (l.map e) s)(hl:l.length<=lim)(h:∀x∈l,∃Z,Zq t (e x) (Z9 cap nl U)=aa Z/\pv C elt Z s=.ok (g x) s)(ho:own nl t=ao:=by rfl):pv C (.comp1 cap nl t it [] elt) U s=.ok (.lst<|l.map g) s:=by
 rw[j8,T9 ho,hw,Za,yF λx hx=>by
  obtain⟨Z,e1,e2⟩:=h x hx;rw[e1,ZW,Za,pvt,Za];rw[e2];rfl]
 rw[Za,T9 (by rw[av];exact hl)];rfl
def YV{l:List B}(hw:pvw C it U s=.ok (l.map e) s)(hl:l.length<=lim)(h:∀x∈l,∃Z v,Zq t (e x) (Z9 cap nl U)=aa Z/\pv C tst Z s=.ok v s/\Zy v=aa (q x)/\(q x=ao->pv C elt Z s=.ok (g x) s))(ho:own nl t=ao:=by rfl):pv C (.comp1 cap nl t it [tst] elt) U s=.ok (.lst<|(l.filter q).map g) s:=by
 rw[j8,T9 ho,hw,Za,UH (q:=q) λx hx=>by
  obtain⟨Z,v,e1,e2,e3,e4⟩:=h x hx;rw[e1,ZW,Za,pvt,e2,Za,e3,ZW,Za];cases c:q x with
  |true=>
   rw[T9 rfl,pvt,Za,e4 c];rfl
  |false=>rw[T8 #[2],Za,T8 #[2],T8 #[2]]]
 rw[Za,T9 (by rw[av];exact bV (eS ..) hl)];rfl
def jY{Q:V->Prop}(hw:pvw C it U s=.ok (Yb 0 k) s)(hl:k<=lim)(h:∀x s,∃Z y s',Zq t x (Z9 cap nl U)=aa Z/\pv C elt Z s=.ok y s'/\Q y)(ho:own nl t=ao:=by rfl) :
  ∃ys s',pv C (.comp1 cap nl t it [] elt) U s=.ok (.lst ys) s'/\ys.length=k/\∀y∈ys,Q y:=by
 obtain⟨ys,s',e1,e2,e3⟩:=Ua (f:=λx s=>(po (Zq t x<|Z9 cap nl U) s).bind λZ s=>(pvt C [] Z s).bind λb s=>if b then(pv C elt Z s).bind λy s=>.ok [y] s else .ok [] s) (λx s=>by
  obtain⟨Z,y,s',f1,f2,f3⟩:=h x s;refine#[y,s',?_,f3];rw[f1,ZW,Za,pvt,Za];rw[f2];rfl) (Yb 0 k) s
 have hk:(Yb 0 k).length=k:=by unfold Yb;simp
 refine#[ys,s',?_,by rw[e2,hk],e3]
 rw[j8,T9 ho,hw,Za,e1,Za,T9 (by rw[e2,hk];exact hl)];rfl
end
def Zgs{k:Nat}(h:k<=xs.length):Yj xs ai (aa (k:Int))=xs.take k:=by
 show(xs.drop 0).take ((if(k:Int)<0 then((k:Int)+xs.length).toNat else sC (k:Int).toNat xs.length)-0)=_
 rw[T8<|Int.not_lt.mpr<|Int.natCast_nonneg k,show sC (k:Int).toNat xs.length-0=k from g7 h];rfl
def yR{i:Int}{k:Nat}(hi:i=k)(h:k<=xs.length):Yj xs (aa i) ai=xs.drop k:=by
 subst hi;show(xs.drop<|if(k:Int)<0 then((k:Int)+xs.length).toNat else sC (k:Int).toNat xs.length).take (xs.length-(if(k:Int)<0 then((k:Int)+xs.length).toNat else sC (k:Int).toNat xs.length))=_
 rw[show sC (k:Int).toNat xs.length=k from g7 h]
 exact cA<|mw bH
def ZaW :Yj xs (aa 1) ai=xs.tail:=by
 cases xs with|nil=>rfl|cons x xs=>exact yR rfl #[2]
noncomputable def Zs(k:Nat):V:=.int k
def zn(n):Yb 0 n=(aC n).map Zs:=by rw[Zeb];rfl
def QS(h0:0<=i)(h1:i<1000000):Va i=ao:=by
 unfold Va;have e:(2:Int)^62=4611686018427387904:=by decide
 rw[e];exact T5 #[by lia,by lia]
def Zo(hf:F[f]?=aa fn)(hne:f≠tk)(hl:vs.length=fn.ps)(h:rvs (Zl F tk d) (muts fn.body) fn.body (ZQ fn.ns vs) [] s=.ok (.ret v) s'):Zl F tk (d+1) f vs s=.ok v s':=by
 rw[UN hf hne hl,h];rfl
def yf(hf:F[f]?=aa fn)(hne:f≠tk)(hl:vs.length=fn.ps)(h:rvs (Zl F tk d) (muts fn.body) fn.body (ZQ fn.ns vs) [] s=.ok (.nx U os) s'):Zl F tk (d+1) f vs s=.ok .non s':=by
 rw[UN hf hne hl,h];rfl
def Zi(h:rv C ms m U os s=.ok (.nx ρ' os') s'):rvs C ms (m::l) U os s=rvs C ms l ρ' os' s':=by rw[rvs,h];rfl
def Zj(h:rv C ms m U os s=.ok (.ret v) s'):rvs C ms (m::l) U os s=.ok (.ret v) s':=by rw[rvs,h];rfl
def Zx(h:pv C e U s=.ok v s'):rv C ms (.ret e) U os s=.ok (.ret v) s':=by rw[rE9,h];rfl
def ud(h:pv C (.call f as) U s=.ok v s'):rv C ms (.ex<|.call f as) U os s=.ok (.nx U os) s':=by
 have:rv C ms (.ex<|.call f as) U os s=(pv C (.call f as) U s).bind λ_ s=>.ok (.nx U os) s:=by
  rw[ZhG]
  all_goals(intro _ _ z;cases z)
 rw[this,h];rfl
def XJ(h:YS C t U s=.ok b s'):rv C ms (.ite t x y) U os s=if b=ao then rvs C ms x U os s' else rvs C ms y U os s':=by rw[zc,h];rfl
def Yv(h:pv C t U s=.ok v s')(hb:Zy v=aa b):YS C t U s=.ok b s':=by unfold YS;rw[h,Za,hb];rfl
def Zu(h:pvs C as U s=.ok vs s1)(hc:C f vs s1=.ok v s'):pv C (.call f as) U s=.ok v s':=by rw[Zc7,h];exact hc
def Zf:pvs C [] U s=.ok [] s:=by rw[pvs]
def Zc(h:pv C e U s=.ok v s1)(h2:pvs C es U s1=.ok vs s'):pvs C (e::es) U s=.ok (v::vs) s':=by rw[pvs,h,Za,h2];rfl
def Ze(h:U[i]?=aa (aa v)):pv C (.v i) U s=.ok v s:=by rw[pE2,h];rfl
def ZC(h:pv C e U s=.ok v s')(hm:(ms.contains i&&fresh e)=aj):rv C ms (.asg [i] e) U [] s=.ok (.nx (U.set i<|aa v) []) s':=by
 rw[rE1];show(pv C e U s).bind _=_;rw[h,Za,T8 (by rw[hm];simp)];rfl
def Zbm{Z B:Type}{L:List B}{e:B->V}{step:Z->B->Z}{U:Z->Option V->Env}{st:Z}(I:Z->Prop)(hw:pvw C it (hide os<|U st o) s=.ok (L.map e) s)(hI:I st)(ht:(t.any os.contains)=aj)
  (h:∀x∈L,∀st o,I st->I (step st x)/\(os.isEmpty||(e x).flat)=ao/\∃ρ1 o',Zq t (e x) (U st o)=aa ρ1/\rvs C ms b ρ1 os s=.ok (.nx (U (step st x) o') os) s) :
  ∃o',I (L.foldl step st)/\rv C ms (.forr t it b) (U st o) os s=.ok (.nx (U (L.foldl step st) o') os) s:=by
 obtain⟨o',h1,h2⟩:=Gg (body:=λx U os s=>if(t.any os.contains)=ao then .no else(po (Zq t x U) s).bind λU s=>rvs C ms b U os s) I hI (λx hx st o hI=>by
  obtain⟨a,f,ρ1,o',b1,b2⟩:=h x hx st o hI;refine#[a,o',?_];rw[T8 (by rw[ht];simp),b1,ZW,Za,b2])
 refine#[o',h1,?_];rw[JL,hw];exact h2
def YR{n:Nat}(h:pv C e U s=.ok (.int n) s')(hn:n<1000000):pvw C (.rng1 e) U s=.ok ((aC n).map Zs) s':=by
 rw[wE1,h,Za];show(if Va (n:Int)=ao then PR.ok (Yb 0 (n:Int).toNat) s' else .no)=_
 rw[T9 (QS #[0] #[0]),dN,zn]
def Qe{B:Type}{L:List B}{e:B->V}(I:List B->Env->Prop)(hw:pvw C it (hide os U) s=.ok (L.map e) s)(hI:I L U)(ht:(t.any os.contains)=aj)
  (h:∀x l U,I (x::l) U->(os.isEmpty||(e x).flat)=ao/\∃ρ1 ρ',Zq t (e x) U=aa ρ1/\rvs C ms b ρ1 os s=.ok (.nx ρ' os) s/\I l ρ') :
  ∃ρ',I [] ρ'/\rv C ms (.forr t it b) U os s=.ok (.nx ρ' os) s:=by
 rw[JL,hw,Za];clear hw
 induction L generalizing U with
 |nil=>exact#[U,hI,rfl]
 |cons x L ih=>
  obtain⟨f,ρ1,ρ',b1,b2,b3⟩:=h x L U hI;obtain⟨ρ2,c1,c2⟩:=ih b3;refine#[ρ2,c1,?_];rw[ba,Xm,T8 (by rw[ht];simp),b1,ZW,Za,b2]
  exact c2
def uo{Z B:Type}{L:List B}{e:B->V}{step:Z->B->Z}{U:Z->Option V->Env}{st:Z}(I:List B->Z->Prop)(hw:pvw C it (hide os<|U st o) s=.ok (L.map e) s)(hI:I L st)(ht:(t.any os.contains)=aj)
  (h:∀x l st o,I (x::l) st->I l (step st x)/\(os.isEmpty||(e x).flat)=ao/\∃ρ1 o',Zq t (e x) (U st o)=aa ρ1/\rvs C ms b ρ1 os s=.ok (.nx (U (step st x) o') os) s) :
  ∃o',I [] (L.foldl step st)/\rv C ms (.forr t it b) (U st o) os s=.ok (.nx (U (L.foldl step st) o') os) s:=by
 rw[JL,hw,Za];clear hw
 induction L generalizing st o with
 |nil=>exact#[o,hI,rfl]
 |cons x L ih=>
  obtain⟨a,f,ρ1,o',b1,b2⟩:=h x L st o hI;obtain⟨o2,c1,c2⟩:=ih a;refine#[o2,c1,?_];rw[ba,Xm,T8 (by rw[ht];simp),b1,ZW,Za,b2]
  exact c2
def pvF:(∀a,fresh (.lst a)=ao)/\(∀a b,fresh (.bin .mul (.lst a) b)=ao)/\(∀b,Zy (.bl b)=aa b)/\(∀i,Zy (.int i)=aa (ag<|i≠0))/\(∀xs,Zy (.tup xs)=aa (!xs.isEmpty))/\(∀xs,Zy (.lst xs)=aa (!xs.isEmpty))/\(Zy .non=aa aj)/\(∀xs i,ixV (.tup xs) (.int i)=at' xs i)/\(∀xs i,ixV (.lst xs) (.int i)=at' xs i)/\(∀xs,YJ (.tup xs)=aa xs)/\(∀xs,YJ (.lst xs)=aa xs)/\(∀x,X3 .len [x]=(YJ x).map λxs=>.int xs.length)/\(∀x,X3 .tuple [x]=(YJ x).map .tup)/\(∀x,X3 .list [x]=(YJ x).map .lst)/\(∀xs,X3 .all [.lst xs]=(Z2 xs).map λbs=>.bl<|bs.all id)/\(∀a b,X3 .max2 [.int a,.int b]=aa (.int (if b>a then b else a)))/\(∀a b,X3 .min2 [.int a,.int b]=aa (.int (if b<a then b else a)))/\(∀a,X3 .toInt [.int a]=aa (.int a))/\(∀a,X3 .toInt [.bl a]=aa (.int<|b2i a))/\(∀xs,X3 .sortedR [.lst xs]=(YE xs).bind λrs=>if Yd rs=ao then aa (.lst<|(Zr rs).reverse.map Zb)else ai)/\(∀a b s,Wg .add (.int a) (.int b) s=.ok (.int<|a+b) s)/\(∀a b s,Wg .sub (.int a) (.int b) s=.ok (.int<|a-b) s)/\(∀a b s,Wg .mul (.int a) (.int b) s=if(fits a&&fits b)=ao then .ok (.int<|a*b) s else .no)/\(∀a b s,Wg .mod (.int a) (.int b) s=if 0<b then .ok (.int<|a%b) s else .no)/\(∀a b s,Wg .add (.tup a) (.tup b) s=if a.length+b.length<=lim then .ok (.tup<|a++b) s else .no)/\(∀a b s,Wg .mul (.tup a) (.int b) s=if 0<=b/\b<1000/\a.length<=1000 then .ok (.tup (ax b.toNat a).flatten) s else .no)/\(∀a b s,Wg .mul (.lst a) (.int b) s=if 0<=b/\b<1000/\a.length<=1000 then .ok (.lst (ax b.toNat a).flatten) s else .no)/\(∀a b s,Wg .add (.lst a) (.lst b) s=if a.length+b.length<=lim then .ok (.lst<|a++b) s else .no)/\(∀x y,Y3 .eq x y=(eqV Zz x y).map .bl)/\(∀x y,Y3 .ne x y=(eqV Zz x y).map λb=>.bl !b)/\(∀a b,Y3 .lt (.int a) (.int b)=aa (.bl<|ag<|a<b))/\(∀a b,Y3 .gt (.int a) (.int b)=aa (.bl<|ag<|b<a))/\(∀a b,Y3 .le (.int a) (.int b)=aa (.bl<|ag<|a<=b))/\(∀a b,Y3 .ge (.int a) (.int b)=aa (.bl<|ag<|b<=a))/\(∀x,Y3 .is x .non=aa (.bl<|UB x))/\(∀x,Y3 .isn x .non=aa (.bl !(UB x)))/\(∀a b,Y3 .is (.bl a) (.bl b)=aa (.bl<|ag<|a=b))/\(∀a b,Y3 .isn (.bl a) (.bl b)=aa (.bl !(ag<|a=b)))/\(∀x y,Y3 .inn x y=(UG x y).map .bl)/\(∀x y,Y3 .nin x y=(UG x y).map λb=>.bl !b)/\(UB .non=ao)/\(∀b,UB (.bl b)=aj)/\(∀b,UB (.int b)=aj)/\(∀b,UB (.tup b)=aj)/\(∀b,UB (.lst b)=aj)/\(ofD .non=aa .non)/\(∀b,ofD (.bl b)=aa (.bl b))/\(∀b,ofD (.int b)=aa (.int b))/\(∀U,XR [] [] U=aa U)/\(∀i t x xs U,XR (i::t) (x::xs) U=XR t xs (U.set i<|aa x))/\(∀i x U,Zq [i] x U=aa (U.set i<|aa x))/\(∀i j t xs U,Zq (i::j::t) (.tup xs) U=XR (i::j::t) xs U)/\(∀i j t xs U,Zq (i::j::t) (.lst xs) U=XR (i::j::t) xs U)/\(∀k a b,eqV (k+1) (.int a) (.int b)=aa (ag<|a=b))/\(∀k a b,eqV (k+1) (.bl a) (.bl b)=aa (ag<|a=b))/\(∀k a b,eqV (k+1) (.tup a) (.tup b)=YG (eqV k) a b)/\(∀k a b,eqV (k+1) (.lst a) (.lst b)=if a.length=b.length then YG (eqV k) a b else aa aj):=
 #[λ_=>rfl,λ_ _=>rfl,λ_=>rfl,λ_=>rfl,λ_=>rfl,λ_=>rfl,rfl,λ_ _=>rfl,λ_ _=>rfl,λ_=>rfl,λ_=>rfl,λ_=>rfl,λ_=>rfl,λ_=>rfl,λ_=>rfl,λ_ _=>rfl,λ_ _=>rfl,λ_=>rfl,λ_=>rfl,λ_=>rfl,λ_ _ _=>rfl,λ_ _ _=>rfl,λ_ _ _=>rfl,λ_ _ _=>rfl,λ_ _ _=>rfl,λ_ _ _=>rfl,λ_ _ _=>rfl,λ_ _ _=>rfl,λ_ _=>rfl,λ_ _=>rfl,λ_ _=>rfl,λ_ _=>rfl,λ_ _=>rfl,λ_ _=>rfl,λ_=>rfl,λ_=>rfl,λ_ _=>rfl,λ_ _=>rfl,λ_ _=>rfl,λ_ _=>rfl,rfl,λ_=>rfl,λ_=>rfl,λ_=>rfl,λ_=>rfl,rfl,λ_=>rfl,λ_=>rfl,λ_=>rfl,λ_ _ _ _ _=>rfl,λ_ _ _=>rfl,λ_ _ _ _ _=>rfl,λ_ _ _ _ _=>rfl,λ_ _ _=>rfl,λ_ _ _=>rfl,λ_ _ _=>rfl,λ_ _ _=>rfl]
def pvE:=bj (bj (bj (bj (bj pvF<|bj @Za @ZW)<|bj @YS.eq_1<|bj @ZQ.eq_1 @hide.eq_1)<|bj (bj @Z9.eq_1<|bj @Option.join.eq_1.{0} @lim.eq_1)<|bj (bj @rvs.eq_1 @rvs.eq_2)<|bj @pvA.eq_1 @pvA.eq_2)<|bj (bj (bj @pvs.eq_1<|bj @pvs.eq_2 @pvo.eq_1)<|bj @pvo.eq_2<|bj @pvt.eq_1 @pvt.eq_2)<|bj (bj @pE1<|bj @pE2 @pE3)<|bj (bj @pE4 @pE5)<|bj @pE7 @pE8)<|bj (bj (bj (bj @pE9<|bj @Zcz @Zey)<|bj @Yi<|bj @ZjI @XZ)<|bj (bj @ZhQ<|bj @ZiZ @Zc7)<|bj (bj @Yq @Zix)<|bj @rE1 @rE2)<|bj (bj (bj @rE4<|bj @rE7 @rE9)<|bj (bj @Zdx @ZhG)<|bj @zc @JL)<|bj (bj @Zhb<|bj @ZjC @wE1)<|bj (bj @wE2 @wE5)<|bj @wE6 @wE7
end Pv
namespace K75
open Ev Pv Rw La
abbrev CV(d:Nat):ZN:=Zl fns 2 d
theorem GL(C:ZN)(s:DS)(v:V):∀(r:Row)(k:Nat)(a b:Option V),∃a' b',Xm (λx U os s=>if(([1,2]:List Nat).any os.contains)=ao then .no else(po (Zq [1,2] x U) s).bind λU s=>rvs C [] [.ite (.cmp .ne (.v 2)<|.n 0) [.ret<|.v 1] []] U os s)
   (((Yb k r.length).zip<|r.map V.int).map λp=>V.tup [p.1,p.2]) [aa v,a,b] [] s=match hdI r with
    |some m=>.ok (.ret<|.int (k+m:Nat)) s
    |none=>.ok (.nx [aa v,a',b'] []) s
 |[],k,a,b=>#[a,b,rfl]
 |x::r,k,a,b=>by
  have er:Yb k (x::r).length=.int k::Yb (k+1:Nat) r.length:=by
   unfold Yb;rw[aQ,iB,ba,bL];refine List.cons_eq_cons.mpr #[by simp,?_]
   .refine cn λj _=>?_
    show V.int ((k:Int)+((j+1:Nat):Int))=V.int (((k+1:Nat):Int)+(j:Int))
    congr 1
    lia
  obtain⟨a',b',ih⟩:=GL C s v r (k+1) (aa<|.int k)<|aa<|.int x;refine#[a',b',?_];rw[er,ba,d3,ba,Xm];by_cases c:x=0
  .subst c
   have e0:hdI (0::r)=(hdI r).map (· + 1):=by rw[hdI,T8 #[2]]
   have e1:(if(([1,2]:List Nat).any ([]:List Nat).contains)=ao then(.no:PR FlV)else(po (Zq [1,2] (V.tup [.int k,.int 0]) [aa v,a,b]) s).bind λU s=>rvs C [] [.ite (.cmp .ne (.v 2)<|.n 0) [.ret<|.v 1] []] U [] s)=.ok (.nx [aa v,aa<|.int k,aa<|.int 0] []) s:=by
    simp[pvE,Zz]
   rw[e1,Za,e0];show Xm _ _ [aa v,aa<|.int k,aa<|.int 0] [] s=_;rw[ih];cases hdI r with|none=>rfl|some m=>show PR.ok (FlV.ret<|.int ((k+1+m:Nat):Int)) s=PR.ok (FlV.ret<|.int ((k+(m+1):Nat):Int)) s;congr 3;lia
  .have e0:hdI (x::r)=aa 0:=by rw[hdI,T9 c]
   have e1:(if(([1,2]:List Nat).any ([]:List Nat).contains)=ao then(.no:PR FlV)else(po (Zq [1,2] (V.tup [.int k,.int x]) [aa v,a,b]) s).bind λU s=>rvs C [] [.ite (.cmp .ne (.v 2)<|.n 0) [.ret<|.v 1] []] U [] s)=.ok (.ret<|.int k) s:=by
    simp[pvE,Zz,c]
   rw[e1,Za,e0];rfl
def U9(d:Nat)(r:Row)(s:DS):CV (d+1) 18 [Zb r] s=.ok (Vj<|hdI r) s:=by
 rw[CV,UN rfl #[1] rfl]
 obtain⟨a,b,e⟩:=GL (Zl fns 2 d) s (Zb r) r 0 ai ai;show((rv _ [] (.forr [1,2] (.enum<|.v 0) _) [aa<|Zb r,ai,ai] [] s).bind _).bind _=_;have e2:rv (Zl fns 2 d) [] (.forr [1,2] (.enum<|.v 0) [.ite (.cmp .ne (.v 2)<|.n 0) [.ret<|.v 1] []]) [aa<|Zb r,ai,ai] [] s=match hdI r with
    |some m=>.ok (.ret<|.int (m:Nat)) s
    |none=>.ok (.nx [aa<|Zb r,a,b] []) s:=by
  rw[JL];have ew:pvw (Zl fns 2 d) (.enum<|.v 0) (hide [] [aa<|Zb r,ai,ai]) s=.ok (((Yb 0 r.length).zip<|r.map V.int).map λp=>V.tup [p.1,p.2]) s:=by
   simp[pvE,Zb]
  rw[ew,Za];simp only[oR,Int.natCast_zero]at e;exact e
 rw[e2];cases hdI r with|none=>rfl|some m=>rfl
section
variable{p n:Nat}[Base p]
def Wr:(p:Int)<=5/\(2:Int)<=p:=by rcases(inferInstance:Base p).b with e|e|e<;>subst e<;>decide
theorem QH(d:Nat){r o:Row}{k:Int}(s:DS)(hn:n<=6)(hr:Zd p n r)(ho:Zd p n o)(hk:-1000<k/\k<1000):CV (d+1) 27 [.int p,Zb r,Zb o,.int k] s=.ok (Zb<|Zw p r o k) s:=by
 rw[CV,UN rfl #[1] rfl]
 have hp:=Wr (p:=p);have hc:=ZM (C:=Zl fns 2 d) (cap:=[3,0]) (nl:=2) (t:=[0,1]) (it:=.zip (.v 1)<|.v 2) (elt:=.bin .mod (.bin .add (.v 0)<|.bin .mul (.v 2)<|.v 1)<|.v 3) (U:=[aa<|.int p,aa<|Zb r,aa<|Zb o,aa<|.int k]) (s:=s) (l:=r.zip o) (e:=λq=>V.tup [.int q.1,.int q.2]) (g:=λq=>V.int<|(q.1+k*q.2)%p)
  (by simp[pvE,Zb,xD]) (by rw[gZ,hr.1,ho.1];unfold lim;lia) (λq hq=>by
   have h2:=ho.2 q.2 (gW hq).2;refine#[_,rfl,?_];have f1:=Ya (a:=k) #[0] #[0]
   have f2:=Ya (a:=q.2) #[0] #[0]
   have hp0:0<p:=by lia
   simp[pvE,f1,f2,hp0])
 have e:(r.zip o).map (λq=>V.int<|(q.1+k*q.2)%p)=(Zw p r o k).map V.int:=by
  unfold Zw;rw[<-iJ,bL];rfl
 simp[VM,pvE,hc,e];rfl
theorem v4(d:Nat){r o:Row}{h:Nat}(s:DS)(hn:n<=6)(hr:Zd p n r)(ho:Zd p n o)(hh:h<n):CV (d+2) 30 [.int p,Zb r,Zb o,.int h] s=.ok (Zb<|clr p r o h) s:=by
 rw[CV,UN rfl #[1] rfl]
 have hg:=XS ppos hr h;have hp:=Wr (p:=p);have e:=QH d (k:=-(gt r h)) s hn hr ho #[by lia,by lia]
 have e2:=QL (by rw[hr.1];exact hh)
 simp only[CV]at e;simp[J0,pvE,Zb,e2];simp only[Zb]at e;rw[e];simp[pvE,clr]
theorem ZiN(d:Nat){r:Row}{k:Int}(s:DS)(hn:n<=6)(hr:Zd p n r)(hk:-1000<k/\k<1000):CV (d+1) 32 [.int p,Zb r,.int k] s=.ok (Zb<|WF p r k) s:=by
 rw[CV,UN (fn:=zZ) rfl #[1] rfl]
 have hp:=Wr (p:=p);have hc:=ZM (C:=Zl fns 2 d) (cap:=[2,0]) (nl:=1) (t:=[0]) (it:=.of<|.v 1) (elt:=.bin .mod (.bin .mul (.v 1)<|.v 0)<|.v 2) (U:=[aa<|.int p,aa<|Zb r,aa<|.int k]) (s:=s) (l:=r) (e:=V.int) (g:=λq=>V.int<|k*q%p)
  (by simp[pvE,Zb]) (by rw[hr.1];unfold lim;lia) (λq hq=>by
   have h2:=hr.2 q hq;refine#[_,rfl,?_];have f1:=Ya (a:=k) #[0] #[0]
   have f2:=Ya (a:=q) #[0] #[0]
   have hp0:0<p:=by lia
   simp[pvE,f1,f2,hp0])
 simp[zZ,pvE,hc];simp[Zb,WF]
def zP(C:ZN)(m:Nat){q a k:Int}(s:DS)(hq:0<q)(f1:fits a=ao)(f2:fits k=ao):YZ (YS C<|.cmp .ne (.bin .mod (.bin .mul (.v 2)<|.v 1)<|.v 0)<|.n 1) (rvs C [] [.aug 2 .add<|.n 1]) (m+1) [aa<|.int q,aa<|.int a,aa<|.int k] [] s =
  if k*a%q=1 then .ok (.nx [aa<|.int q,aa<|.int a,aa<|.int k] []) s else YZ (YS C<|.cmp .ne (.bin .mod (.bin .mul (.v 2)<|.v 1)<|.v 0)<|.n 1) (rvs C [] [.aug 2 .add<|.n 1]) m [aa<|.int q,aa<|.int a,aa<|.int<|k+1] [] s:=by
 rw[YZ];by_cases c:k*a%q=1<;>simp[pvE,f1,f2,hq,Zz,c,ZiP]
theorem Zfs(d:Nat){a:Int}(s:DS)(ha:0<a/\a<p):CV (d+1) 33 [.int p,.int a] s=.ok (.int<|Qz p a) s:=by
 rw[CV,UN (fn:=Ga) rfl #[1] rfl]
 generalize Zl fns 2 d=C;have fs:∀k:Int,0<=k->k<=5->fits k=ao:=λk h0 h1=>Ya #[0] #[0]
 have hp:=Wr (p:=p);have fa:=fs a #[0] #[0]
 have key:YZ (YS C<|.cmp .ne (.bin .mod (.bin .mul (.v 2)<|.v 1)<|.v 0)<|.n 1) (rvs C [] [.aug 2 .add<|.n 1]) (996+1+1+1+1) [aa<|.int p,aa<|.int a,aa<|.int 1] [] s=.ok (.nx [aa<|.int p,aa<|.int a,aa<|.int<|Qz p a] []) s:=by
  rw[zP C _ s #[0] fa (fs 1 #[0] #[0]),zP C _ s #[0] fa (fs (1+1) #[0] #[0]),zP C _ s #[0] fa (fs (1+1+1) #[0] #[0]),zP C _ s #[0] fa<|fs (1+1+1+1) #[0] #[0]]
  rcases(inferInstance:Base p).b with e|e|e<;>subst e
  .have:a=1:=by lia
   subst this;rfl
  .have:a=1\/a=2:=by lia
   rcases this with e|e<;>subst e<;>rfl
  .have:a=1\/a=2\/a=3\/a=4:=by lia
   rcases this with e|e|e|e<;>subst e<;>rfl
 have e:rv C [] (.whl (.cmp .ne (.bin .mod (.bin .mul (.v 2)<|.v 1)<|.v 0)<|.n 1) [.aug 2 .add<|.n 1]) [aa<|.int p,aa<|.int a,aa<|.int 1] [] s=.ok (.nx [aa<|.int p,aa<|.int a,aa<|.int<|Qz p a] []) s:=by
  rw[Zhb];exact key
 show((rvs C [] (.asg [2] (.n 1) :: .whl _ _ :: .ret (.v 2)::[]) [aa<|.int p,aa<|.int a,ai] [] s).bind _)=_;have e1:rv C [] (.asg [2]<|.n 1) [aa<|.int p,aa<|.int a,ai] [] s=.ok (.nx [aa<|.int p,aa<|.int a,aa<|.int 1] []) s:=by simp[pvE]
 rw[rvs,e1,Za];show((rvs C [] (.whl _ _ :: .ret (.v 2)::[]) [aa<|.int p,aa<|.int a,aa<|.int 1] [] s).bind _)=_;rw[rvs,e,Za];simp[pvE]
def Y8(C:ZN)(ms:List Nat){i j:Nat}{U:Env}{os:List Nat}{s:DS}{e:E}(h:pvA C e U os s=.ok (spV p n) s)(ho:os.contains i=aj/\os.contains j=aj):rv C ms (.asg [i,j] e) U os s=.ok (.nx ((U.set i<|aa<|.int p).set j<|aa<|.int n) os) s:=by
 rw[rE2,h,Za,T8 (by simpa using ho)]
 .rfl
 .simp
def jr(d:Nat){P:List Row}{r:Row}(s:DS)(hn:n<=6)(hP:pZ p n P)(hr:Zd p n r):CV (d+3) 31 [spV p n,Zh P,Zb r] s=.ok (Zb<|Zn p P r) s:=by
 refine Zo rfl #[1] rfl ?_
 show rvs #[17] [] (.asg [3,4] (.v 0) :: .asg [5] (.v 2) :: .forr [6] #[30] [.asg [5]<|.call 30 [(.v 3),(.v 5),(.v 6),(.call 18 [(.v 6)])]] :: .ret (.v 5)::[]) [aa<|spV p n,aa<|Zh P,aa<|Zb r,ai,ai,ai,ai] [] s=_;rw[Zi<|Y8 (p:=p) (n:=n) _ _ (by simp[pvE]) #[2]]
 rw[Zi (ρ':=[aa<|spV p n,aa<|Zh P,aa<|Zb r,aa<|.int p,aa<|.int n,aa<|Zb r,ai]) (os':=[]) (s':=s) (by simp[pvE])]
 obtain⟨o',hI,e⟩:=Zbm (C:=CV<|d+2) (ms:=[]) (t:=[6]) (it:=.of<|.v 1) (b:=[.asg [5]<|.call 30 [(.v 3),(.v 5),(.v 6),(.call 18 [(.v 6)])]]) (L:=P) (e:=Zb) (step:=λst o=>clr p st o<|(hdI o).getD 0) (U:=λst o=>[aa<|spV p n,aa<|Zh P,aa<|Zb r,aa<|.int p,aa<|.int n,aa<|Zb st,o]) (os:=[]) (s:=s) (Zd p n) (by simp[pvE,Zh]) hr rfl (λx hx st o hst=>by
  have hx':=hP.row x hx;obtain⟨k,hk,hkn,_⟩:=hP.head fld.one0 hx;refine#[Zp hst hx',rfl,_,aa<|Zb x,rfl,?_];have e1:=U9 (d+1) x s;have e2:=v4 d s hn hst hx' hkn;rw[hk]at e1;simp only[Vj]at e1;have e3:=e1;simp[pvE,e3,e2,hk])
 rw[Zi e];exact Zj<|Zx (by simp[pvE,Zn])
def dsum{P:List Row}(hP:pZ p n P):P.length<=n:=by
 rw[<-Qk (p:=p)];exact QV hP.pn
theorem Ze5(d:Nat){P:List Row}{r:Row}(s:DS)(hn:n<=6)(hP:pZ p n P)(hr:Zd p n r):CV (d+4) 34 [spV p n,Zh P,Zb r] s=.ok (Zh<|XQ p P r) s:=by
 refine Zo (fn:=WY) rfl #[1] rfl ?_
 show rvs (CV<|d+3) [] WY.body [aa<|spV p n,aa<|Zh P,aa<|Zb r,ai,ai,ai,ai,ai,ai] [] s=_
 dsimp only[WY]
 obtain⟨l1,l2⟩:=U6 hP.row hP.pn.rf hr;have hw:=(Ww hP hr).1;rw[Zi<|Y8 (p:=p) (n:=n) _ _ (by simp[pvE]) #[2]]
 have e1:=jr d s hn hP hr;rw[Zi (ρ':=[aa<|spV p n,aa<|Zh P,aa<|Zb r,aa<|.int p,aa<|.int n,aa<|Zb<|Zn p P r,ai,ai,ai]) (os':=[]) (s':=s) (by simp[pvE,e1])]
 have e2:=U9 (d+2) #[13] s;rw[Zi (ρ':=[aa<|spV p n,aa<|Zh P,aa<|Zb r,aa<|.int p,aa<|.int n,aa<|Zb<|Zn p P r,aa<|Vj<|hdI<|Zn p P r,ai,ai]) (os':=[]) (s':=s) (by simp[pvE,e2])]
 cases q:hdI (Zn p P r)with
 |none=>
  refine Zj ?_;have:XQ p P r=P:=by unfold XQ;rw[q]
  simp[pvE,Vj,this]
 |some h=>
  obtain⟨h1,h2,h3⟩:=Z4 q;rw[l1.1]at h2;have hg:=XS ppos l1 h;have hp:=Wr (p:=p);have hwid:XQ p P r=(Zr<|P.map (λo=>clr p o #[19] h)++[lead p #[13] h]).reverse:=by unfold XQ;rw[q]
  rw[Zi (ρ':=[aa<|spV p n,aa<|Zh P,aa<|Zb r,aa<|.int p,aa<|.int n,aa<|Zb<|Zn p P r,aa<|.int h,ai,ai]) (os':=[]) (s':=s) (by simp[pvE,Vj])]
  have e3:=Zfs (p:=p) (d+2) (a:=gt #[13] h) s #[by lia,hg.2]
  have hi:-1000<Qz p (gt #[13] h)/\Qz p (gt #[13] h)<1000:=by
   unfold Qz
   repeat' split
   all_goals lia
  have e4:=ZiN (p:=p) (d+2) s hn l1 hi;have e5:=QL (r:=Zn p P r) (k:=h) (by rw[l1.1];exact h2)
  have hl:Zd p n #[19]:=Gy l1;rw[Zi (ρ':=[aa<|spV p n,aa<|Zh P,aa<|Zb r,aa<|.int p,aa<|.int n,aa<|Zb<|Zn p P r,aa<|.int h,aa<|Zb<|lead p #[13] h,ai]) (os':=[]) (s':=s) (by
   have e6:pv (CV<|d+3) (.call 32 [(.v 3),(.v 5),(.call 33 [(.v 3),(.ix (.v 5)<|.v 6)])]) [aa<|spV p n,aa<|Zh P,aa<|Zb r,aa<|.int p,aa<|.int n,aa<|Zb<|Zn p P r,aa<|.int h,ai,ai] s=.ok (Zb<|lead p #[13] h) s:=by
    refine Zu (vs:=[.int p,Zb<|Zn p P r,.int<|Qz p<|gt #[13] h]) (s1:=s) ?_ e4;have e7:pv (CV<|d+3) (.call 33 [(.v 3),(.ix (.v 5)<|.v 6)]) [aa<|spV p n,aa<|Zh P,aa<|Zb r,aa<|.int p,aa<|.int n,aa<|Zb<|Zn p P r,aa<|.int h,ai,ai] s=.ok (.int<|Qz p<|gt #[13] h) s:=by
     refine Zu (vs:=[.int p,.int<|gt #[13] h]) (s1:=s) ?_ e3;simp[pvE,Zb,e5]
    exact Zc #[9]<|Zc #[9]<|Zc e7 Zf
   rw[rE1];show(pv _ _ _ _).bind _=_;rw[e6];rfl)]
  have hc:=ZM (C:=CV<|d+3) (cap:=[3,7,6]) (nl:=1) (t:=[0]) (it:=.of<|.v 1) (elt:=.call 30 [(.v 1),(.v 0),(.v 2),(.v 3)]) (U:=[aa<|spV p n,aa<|Zh P,aa<|Zb r,aa<|.int p,aa<|.int n,aa<|Zb<|Zn p P r,aa<|.int h,aa<|Zb<|lead p #[13] h,ai]) (s:=s) (l:=P) (e:=Zb) (g:=λo=>Zb<|clr p o #[19] h)
   (by simp[pvE,Zh]) (by have:=dsum hP;unfold lim;lia) (λo ho=>#[_,rfl,by
    have:=v4 (p:=p) (d+1) (h:=h) s hn (hP.row o ho) hl h2;simp[pvE,this]])
  rw[Zi (ρ':=[aa<|spV p n,aa<|Zh P,aa<|Zb r,aa<|.int p,aa<|.int n,aa<|Zb<|Zn p P r,aa<|.int h,aa<|Zb<|lead p #[13] h,aa<|.lst<|P.map λo=>Zb<|clr p o #[19] h]) (os':=[]) (s':=s) (by simp[pvE,hc])]
  refine Zj<|Zx ?_;have ea:(P.map λo=>Zb<|clr p o #[19] h)++[Zb<|lead p #[13] h]=((P.map λo=>clr p o #[19] h)++[lead p #[13] h]).map Zb:=by rw[bE,bL];rfl
  have hs:Yd ((P.map λo=>clr p o #[19] h)++[lead p #[13] h])=ao:=by
   have hlen:((P.map λo=>clr p o #[19] h)++[lead p #[13] h]).length=P.length+1:=by simp
   have hnd:((P.map λo=>clr p o #[19] h)++[lead p #[13] h]).Nodup:=by
    have h5:=Uz hw.falls;rw[hwid]at h5;exact((Sd.Xf _).nodup_iff).mp<|((d9 _).nodup_iff).mp h5
   have hd:=dsum hP;unfold Yd;rw[T5 (by rw[hlen];lia),T5 hnd]
   rw[aA];refine#[rfl,aV.mpr λx hx=>?_]
   have:x.length=n:=by
    rcases bU.mp hx with z|z
    .obtain⟨o,ho,rfl⟩:=aF.mp z
     exact(Zp (hP.row o ho) hl).1
    .rw[aZ.mp z];exact hl.1
   cases x with|nil=>simp at this;lia|cons _ _=>rfl
  have hlen2:P.length+1<=16777216:=by have:=dsum hP;lia
  simp[pvE,hlen2];rw[ea,YI];simp[pvE,hs,hwid,Zh,pz]
def Ja(d:Nat){P R:List Row}{v:V}(s:DS)(hn:n<=6)(hP:pZ p n P)(hR:∀r∈R,Zd p n r)(hv:YJ v=aa (R.map Zb)):CV (d+5) 35 [spV p n,Zh P,v] s=.ok (Zh<|ZY p P R) s:=by
 refine Zo (fn:=Yk) rfl #[1] rfl ?_
 show rvs (CV<|d+4) [] Yk.body [aa<|spV p n,aa<|Zh P,aa v,ai,ai] [] s=_
 dsimp only[Yk]
 rw[Zi (ρ':=[aa<|spV p n,aa<|Zh P,aa v,aa<|Zh P,ai]) (os':=[]) (s':=s) (by simp[pvE])]
 obtain⟨o',hI,e⟩:=Zbm (C:=CV<|d+4) (ms:=[]) (t:=[4]) (it:=.of<|.v 2) (b:=[.asg [3]<|.call 34 [(.v 0),(.v 3),(.v 4)]]) (L:=R) (e:=Zb) (step:=XQ p) (U:=λst o=>[aa<|spV p n,aa<|Zh P,aa v,aa<|Zh st,o]) (st:=P) (o:=ai) (os:=[]) (s:=s) (pZ p n) (by show pvw (CV<|d+4) (.of<|.v 2) [aa<|spV p n,aa<|Zh P,aa v,aa<|Zh P,ai] s=_;rw[wE7,pE2];show po (YJ v) s=_;rw[hv];rfl) hP rfl (λx hx st o hst=>by
  have hx':=hR x hx;refine#[(Ww hst hx').1,rfl,_,aa<|Zb x,rfl,?_];have e2:=Ze5 d s hn hst hx';simp[pvE,e2])
 rw[Zi e];exact Zj<|Zx (by simp[pvE,ZY])
end
end K75
namespace Rw
open La
open Ev (ltI YH Zr)
section
variable{p n:Nat}[Base p]
theorem JS:∀l:List Row,(Zr l).length=l.length
 |[]=>rfl
 |x::r=>by
  show(YH x<|Zr r).length=_;have:∀l:List Row,(YH x l).length=l.length+1:=λl=>by
   induction l with
   |nil=>rfl
   |cons y l ih=>
    unfold YH;split
    .rfl
    .rw[aQ,ih];rfl
  rw[this,JS r];rfl
def zY(P:List Row)(r:Row):P.length<=(XQ p P r).length:=by
 unfold XQ;split
 .exact aJ _
 .rw[fC,JS,aU,av];simp
theorem xb:∀(rs P:List Row),P.length<=(ZY p P rs).length
 |[],P=>aJ _
 |r::rs,P=>bV (zY P r)<|xb rs<|XQ p P r
def Zfk{P Q:List Row}(hP:pZ p n P)(hQ:pZ p n Q)(h:P.all (Ym p Q)=ao):P.length<=Q.length:=by
 have e:=Zcd hP hQ<|(VF hP hQ).mp h;have:=xb (p:=p) Q P;rw[e]at this;exact this
end
end Rw
namespace Rw
open Ev (ltP Wh Y4)
open La
section
variable{p n:Nat}[Base p]
def U8(hW:pZ p n W)(hr:Zd p n r)(h:∀i,gt r i=0):Ym p W r=ao:=by
 rw[ZK hW hr];have e:toV p r=λ_=>0:=by funext k;exact(Z8 hr).mpr<|h k
 rw[e];exact YD
def zM(hW:pZ p n W)(hr:r∈W):Ym p W r=ao:=by
 rw[ZK hW<|hW.row r hr];exact X5 hW.pn.rf<|Yl hr
structure Spans(p n:Nat)[NeZero p](R P:List Row):Prop where
 part:pZ p n P
 holds:∀r∈R,Ym p P r=ao
 least:∀W,pZ p n W->(∀r∈R,Ym p W r=ao)->∀r∈P,Ym p W r=ao
end
noncomputable def rise(hs:List Nat):Bool:=(hs.zip hs.tail).all λq=>ag<|q.1<q.2
theorem Jv:∀{hs:List Nat},rise hs=ao↔hs.Pairwise (· < ·)
 |[]=>by simp[rise]
 |[a]=>by simp[rise]
 |a::b::l=>by
  have ih:=Jv (hs:=b::l);unfold rise at ih ⊢;rw[rO,d3,fY,aA,T0];rw[rO]at ih
  constructor
  .intro#[h1,h2]
   have h3:=ih.mp h2;refine bo.mpr #[λx hx=>?_,h3]
   rcases ay.mp hx with rfl|hx
   .exact h1
   .exact dv h1<|(bo.mp h3).1 x hx
  .intro h
   obtain⟨h1,h2⟩:=bo.mp h;exact#[h1 b<|ak ..,ih.mpr h2]
def X7(R:List Row)(i k:Nat):Bool:=ag (gt (R.getD i []) k=1)&&(R.take i++R.drop (i+1)).all λr=>ag<|gt r k=0
def Wz(R:List Row):Bool:=(R.all λr=>(hdI r).isSome)&&(rise (Zt R)&&(aC R.length).all λi=>X7 R i<|(Zt R).getD i 0)
section
variable{p n:Nat}[Base p]
def VI{R:List Row}(hi):R.getD i []=R[i]:=by rw[az,af hi];rfl
def Vv(hi):(Zt R).getD i 0=(hdI R[i]).getD 0:=by
 unfold Zt;rw[az,aK,af hi];rfl
def Zbs{R:List Row}(hj)(h:j≠i):R[j]∈R.take i++R.drop (i+1):=by
 by_cases c:j<i
 .refine cT _ ?_
  have hl:j<(R.take i).length:=by rw[bS];exact n8.mpr #[c,hj]
  rw[<-gj];exact aR hl
 .refine bq _ ?_
  have c:=fO (dW c)<|Ne.symm h;have hl:j-(i+1)<(R.drop<|i+1).length:=by rw[bH];exact Nat.sub_lt_sub_right c hj
  have e:(R.drop<|i+1)[j-(i+1)]=R[j]:=by rw[gn];congr 1;exact nz c
  rw[<-e];exact aR hl
def JU{R:List Row}(h:r∈R.take i++R.drop (i+1)):∃j,∃hj,j≠i/\R[j]=r:=by
 rcases bU.mp h with z|z
 .obtain⟨j,hj,e⟩:=bY z
  rw[bS]at hj;have hj:=n8.mp hj;exact#[j,hj.2,a8 hj.1,by rw[<-e,gj]]
 .obtain⟨j,hj,e⟩:=bY z
  rw[bH]at hj;exact#[i+1+j,Nat.add_lt_of_lt_sub' hj,by omega,by rw[<-e,gn]]
def Qy:ph p 1=1:=by
 rcases(inferInstance:Base p).b with e|e|e<;>subst e<;>rfl
def Qi(hr:Zd p n r):toV p r k=1↔gt r k=1:=by
 have hb:=(inferInstance:Base p).b
 constructor
 .intro h
  refine vJ (XS ppos hr k) #[by omega,by omega] ?_
  rw[Qy];exact h
 .intro h
  unfold toV;rw[h,Qy]
def Y6(hR:∀r∈R,Zd p n r):Wz R=ao↔pZ p n R:=by
 unfold Wz;simp only[aA,aV,aI]
 constructor
 .intro#[h1,h2,h3]
  have hd:∀i hi,∃k,hdI R[i]=aa k/\gt R[i] k=1/\∀j (hj:j<R.length),j≠i->gt R[j] k=0:=λi hi=>by
   obtain⟨k,hk⟩:=bQ.mp<|h1 _<|aR hi;have a:=h3 i hi;unfold X7 at a;rw[Vv hi,VI hi,hk,aA,T0,aV]at a;exact#[k,hk,a.1,λj hj ne=>T6<|a.2 _<|Zbs hj ne]
  have inc:=Jv.mp h2;have memP:∀a∈toP p R,∃i,∃(hi:i<R.length),a=((hdI R[i]).getD 0,toV p R[i]):=λa ha=>by
   obtain⟨r,hr,rfl⟩:=aF.mp ha;obtain⟨i,hi,rfl⟩:=bY hr;exact#[i,hi,rfl]
  refine#[hR,#[#[?_,λa ha j hj=>?_,λa ha=>?_,λa ha b hb ne=>?_],λa ha=>?_,λa ha=>?_]]
  .rw[<-XG (p:=p)]at inc
   exact cS.mp inc
  .obtain⟨i,hi,rfl⟩:=memP a ha
   obtain⟨k,hk,_,_⟩:=hd i hi;rw[hk]at hj;exact(Z8<|hR _<|aR hi).mpr<|(Z4 hk).2.2 j hj
  .obtain⟨i,hi,rfl⟩:=memP a ha
   obtain⟨k,hk,h,_⟩:=hd i hi;rw[hk];exact(Qi<|hR _<|aR hi).mpr h
  .obtain⟨i,hi,rfl⟩:=memP a ha
   obtain⟨j,hj,rfl⟩:=memP b hb;obtain⟨k,hk,_,h⟩:=hd i hi;rw[hk];refine(Z8<|hR _<|aR hj).mpr<|h j hj λe=>?_
   subst e;exact ne rfl
  .obtain⟨i,hi,rfl⟩:=memP a ha
   obtain⟨k,hk,_,_⟩:=hd i hi;rw[hk,<-(hR _<|aR hi).1];exact(Z4 hk).2.1
  .obtain⟨i,hi,rfl⟩:=memP a ha
   exact Yr<|hR _<|aR hi
 .intro hP
  have hk:∀r∈R,∃k,hdI r=aa k/\k<n/\toV p r k=1:=λr hr=>hP.head fld.one0 hr
  refine#[λr hr=>?_,Jv.mpr ?_,λi hi=>?_]
  .obtain⟨k,e,_⟩:=hk r hr
   rw[e];rfl
  .rw[<-XG (p:=p)];exact hP.pn.rf.heads
  .obtain⟨k,e,_,h1⟩:=hk _ (aR hi)
   unfold X7;rw[Vv hi,VI hi,e,aA,T0,aV];refine#[(Qi<|hR _<|aR hi).mp h1,λr hr=>?_]
   obtain⟨j,hj,ne,rfl⟩:=JU hr;refine T5 ?_;obtain⟨k2,e2,_,_⟩:=hk _<|aR hj;have hh:((hdI R[i]).getD 0,toV p R[i]).1≠((hdI R[j]).getD 0,toV p R[j]).1:=by
    have inc:(Zt R).Pairwise (· < ·):=by rw[<-XG (p:=p)];exact hP.pn.rf.heads
    have pw:=bN.mp inc;have li:(Zt R).length=R.length:=by unfold Zt;rw[av]
    have gi:∀m (hm:m<R.length),(Zt R)[m]'#[3]=(hdI R[m]).getD 0:=λm hm=>by unfold Zt;rw[iP]
    intro z;rcases Nat.lt_or_gt_of_ne ne with c|c
    .have:=pw j i #[3] #[3] c
     rw[gi j hj,gi i hi]at this;omega
    .have:=pw i j #[3] #[3] c
     rw[gi j hj,gi i hi]at this;omega
   have:=hP.pn.rf.zer _ (Yl<|aR hi) _ (Yl<|aR hj) hh;rw[e]at this;exact(Z8<|hR _<|aR hj).mp this
end
end Rw
namespace Ab
open Ev Pv
mutual
noncomputable def okV:V->Bool
 |.tup xs=>Yo xs
 |.lst xs=>Yo xs
 |.drw=>aj
 |.scr _=>aj
 |.dct (.inr _)=>aj
 |.dow _=>aj
 |_=>ao
noncomputable def Yo:List V->Bool
 |[]=>ao
 |x::xs=>okV x&&Yo xs
end
def Th(m:Nat)(x:V):Prop:=okV x=ao/\∀xs,x=.tup xs->xs.length<=m
end Ab
namespace K75
open Ev Pv Rw La
def U4(hf:F[f]?=aa fn)(hne:f≠tk)(hl:vs.length=fn.ps)(h:rvs (Zl F tk d) (muts fn.body) fn.body (ZQ fn.ns vs) [] s=.ex c s'):Zl F tk (d+1) f vs s=.ex c s':=by
 rw[UN hf hne hl,h];rfl
def wQ(h:rv C ms m U os s=.ex c s'):rvs C ms (m::l) U os s=.ex c s':=by rw[rvs,h];rfl
def VW(h:pvs C as U s=.ok vs s1)(hc:C f vs s1=.ex c s'):pv C (.call f as) U s=.ex c s':=by rw[Zc7,h];exact hc
def w6(h:pv C (.call f as) U s=.ex c s'):rv C ms (.ex<|.call f as) U os s=.ex c s':=by
 rw[ZhG,h]
 .rfl
 all_goals(intro i e z;cases z)
open Ab (okV Yo)
theorem Y9:∀{xs:List V},Yo xs=ao->∀x∈xs,okV x=ao
 |[],_,x,h=>by cases h
 |y::xs,h,x,m=>by
  obtain⟨h1,h2⟩:=(aA _ _).mp h;rcases ay.mp m with rfl|m
  .exact h1
  .exact Y9 h2 x m
noncomputable def isW(x:V)(lo hi:Int):Bool:=match x with
 |.int i=>ag (lo<=i)&&ag (i<=hi)
 |_=>aj
def Zb8(h:∀i,x≠.int i):isW x lo hi=aj:=by
 cases x with|int i=>exact T7 rfl<|h i|_=>rfl
def Zcn(hx:okV x=ao):(∃i,x=.int i)\/(∃b,x=.bl b)\/Yz x [.int]=aa aj/\∀i,x≠.int i:=by
 cases x with
 |int i=>exact .inl #[i,rfl]
 |bl b=>exact .inr<|.inl #[b,rfl]
 |drw=>cases hx
 |scr _=>cases hx
 |dow _=>cases hx
 |dct o=>cases o with|inl _=>exact .inr<|.inr #[rfl,nofun]|inr _=>cases hx
 |_=>exact .inr<|.inr #[rfl,nofun]
def Qv(hx:okV x=ao):(∃xs,x=.tup xs)\/Yz x [.tuple]=aa aj/\∀xs,x≠.tup xs:=by
 cases x with
 |tup xs=>exact .inl #[xs,rfl]
 |drw=>cases hx
 |scr _=>cases hx
 |dow _=>cases hx
 |dct o=>cases o with|inl _=>exact .inr #[rfl,nofun]|inr _=>cases hx
 |_=>exact .inr #[rfl,nofun]
def Zce(d )(s )(hx:okV x=ao):CV (d+1) 22 [x,.int lo,.int hi] s=.ok (.bl<|isW x lo hi) s:=by
 refine Zo rfl #[1] rfl ?_
 rcases Zcn hx with⟨i,rfl⟩|⟨b,rfl⟩|⟨ha,no⟩
 .by_cases h:lo<=i
  .simp[Xg,pvE,isW,Yz,Wc,h]
  .simp[Xg,pvE,isW,Yz,Wc,h]
 .simp[Xg,pvE,isW,Yz,Wc]
 .rw[Zb8 no]
  simp[Xg,pvE,ha]
def Zv(p n:Nat)(x:V):Bool:=match x with
 |.tup xs=>ag (xs.length=n)&&xs.all λv=>isW v 0<|(p:Int)-1
 |_=>aj
def ZhP(h:∀xs,x≠.tup xs):Zv p n x=aj:=by
 cases x with|tup xs=>exact T7 rfl<|h xs|_=>rfl
theorem VR  : ∀{xs:List V},(xs.all λv=>isW v 0<|(p:Int)-1)=ao->∃r:Row,xs=r.map .int/\∀a∈r,0<=a/\a<(p:Int)
 |[],_=>#[[],rfl,λ_ h=>by cases h]
 |x::xs,h=>by
  rw[fY,aA]at h;obtain⟨r,rfl,hr⟩:=VR h.2;cases x with
  |int i=>
   have:=h.1;simp[isW]at this;refine#[i::r,rfl,λa ha=>?_]
   rcases ay.mp ha with rfl|ha
   .lia
   .exact hr a ha
  |_=>cases h.1
def GX(h:Zv p n x=ao):∃r:Row,x=Zb r/\Zd p n r:=by
 cases x with
 |tup xs=>
  unfold Zv at h;rw[aA]at h;obtain⟨r,rfl,hr⟩:=VR h.2;exact#[r,rfl,by simpa using h.1,hr]
 |_=>cases h
def Zf9(hr:Zd p n r):Zv p n (Zb r)=ao:=by
 unfold Zv Zb;rw[aA,T0,av];refine#[hr.1,aV.mpr λv hv=>?_]
 obtain⟨a,ha,rfl⟩:=aF.mp hv;have:=hr.2 a ha;simp[isW];lia
theorem z9:∀r:Row,Yo (r.map .int)=ao
 |[]=>rfl
 |a::r=>z9 r
def zJ(r ):okV (Zb r)=ao:=z9 r
section
variable{p n:Nat}[Base p]
theorem uX(d:Nat){x:V}(s:DS)(hn:n<=6)(hx:okV x=ao):CV (d+2) 23 [spV p n,x] s=.ok (.bl<|Zv p n x) s:=by
 refine Zo rfl #[1] rfl ?_
 dsimp only[yQ]
 rw[Zi<|Y8 (p:=p) (n:=n) _ _ (by simp[pvE]) #[2]]
 rcases Qv hx with⟨xs,rfl⟩|⟨ha,no⟩
 ·
  by_cases hl:xs.length=n
  .rw[Zi (ρ':=[aa<|spV p n,aa<|.tup xs,aa<|.int p,aa<|.int n]) (os':=[]) (s':=s) (by simp[pvE,Yz,Wc,Zz,hl])]
   refine Zj<|Zx ?_;have hc:=ZM (C:=CV<|d+1) (cap:=[2]) (nl:=1) (t:=[0]) (it:=.of<|.v 1) (elt:=.call 22 [(.v 0),(.n 0),(.bin .sub (.v 1)<|.n 1)]) (U:=[aa<|spV p n,aa<|.tup xs,aa<|.int p,aa<|.int n]) (s:=s) (l:=xs) (e:=id) (g:=λv=>V.bl<|isW v 0<|(p:Int)-1)
    (by simp[pvE]) #[20] (λv hv=>#[_,rfl,by
     simp[pvE,(Zce d (lo:=0) s<|Y9 hx v hv)]])
   have ht:=Yx (g:=λv:V=>isW v 0<|(p:Int)-1) xs
   simp[pvE,hc,ht,Zv,hl]
  .refine Zj ?_
   simp[pvE,Yz,Wc,Zz,Zv,hl];lia
 .rw[ZhP no]
  exact Zj (by simp[pvE,ha])
theorem jO(d:Nat)(s:DS)(hl:hs.length<=1000):CV (d+1) 19 [.lst<|hs.map Zs] s=.ok (.bl<|rise hs) s:=by
 refine Zo rfl #[1] rfl ?_
 have ez:∀(a b:List Nat),((a.map Zs).zip<|b.map Zs).map (λq=>V.tup [q.1,q.2])=(a.zip b).map λq=>V.tup [Zs q.1,Zs q.2]:=by
  intro a
  induction a with
  |nil=>intro b;rfl
  |cons x a ih=>intro b;cases b with|nil=>rfl|cons y b=>simp only[ba,d3];rw[ih]
 have hc:=ZM (C:=CV d) (cap:=[]) (nl:=2) (t:=[0,1]) (it:=.zip (.v 0)<|.sl (.v 0) (aa<|.n 1) ai) (elt:=.cmp .lt (.v 0)<|.v 1) (U:=[aa<|.lst<|hs.map Zs]) (s:=s) (l:=hs.zip hs.tail) (g:=λq=>V.bl<|ag<|q.1<q.2)
  (by
   have e1:Yj (hs.map Zs) (aa 1) ai=hs.tail.map Zs:=by rw[ZaW,rW]
   simp[pvE,slV,e1];rw[<-rW,ez]) (by rw[gZ];unfold lim;lia) (λq hq=>#[_,rfl,by simp[pvE,Zs]])
 simp[UE,pvE,hc,(Yx<|hs.zip hs.tail),rise]
theorem wE(d:Nat){k:Nat}(s:DS)(hl:R.length<=1000)(hk:∀r∈R,k<r.length):CV (d+1) 20 [Zh R,.int k] s=.ok (.bl<|R.all λr=>ag<|gt r k=0) s:=by
 refine Zo rfl #[1] rfl ?_
 have hc:=ZM (C:=CV d) (cap:=[1]) (nl:=1) (t:=[0]) (it:=.of<|.v 0) (elt:=.cmp .eq (.ix (.v 0)<|.v 1)<|.n 0) (U:=[aa<|Zh R,aa<|.int k]) (s:=s) (l:=R) (e:=Zb) (g:=λr=>V.bl<|ag<|gt r k=0)
  (by simp[pvE,Zh]) #[20] (λr hr=>#[_,rfl,by
   have:=QL<|hk r hr;simp[pvE,Zb,this,Zz]])
 simp[Vz,pvE,hc,(Yx R)]
theorem GS(d:Nat){R:List Row}{i k:Nat}(s:DS)(hR:∀r∈R,Zd p n r)(hl:R.length<=1000)(hi:i<R.length)(hk:k<n):CV (d+2) 21 [Zh R,Zs i,Zs k] s=.ok (.bl<|X7 R i k) s:=by
 refine Zo rfl #[1] rfl ?_
 show rvs #[15] [] WD.body [aa<|Zh R,aa<|.int i,aa<|.int k] [] s=_;have e1:at' (R.map Zb) (i:Int)=aa (Zb R[i]):=XY (by rw[aK,af hi];rfl)
 have e2:=QL (by rw[(hR _<|aR hi).1];exact hk)
 have e3:=wE d (R:=R.take i++R.drop (i+1)) s (by rw[aU,bS,bH];lia) (λr hr=>by
  obtain⟨j,hj,ne,rfl⟩:=JU hr;rw[(hR _<|aR hj).1];exact hk)
 have c1:Yj (R.map Zb) ai (aa (i:Int))=(R.take i).map Zb:=by rw[Zgs (by rw[av];lia),List.map_take]
 have c2:Yj (R.map Zb) (aa<|(i:Int)+1) ai=(R.drop<|i+1).map Zb:=by rw[yR (k:=i+1) #[0] (by rw[av];lia),List.map_drop]
 have g0:pv #[15] (.ix (.ix (.v 0)<|.v 1)<|.v 2) [aa<|Zh R,aa<|.int i,aa<|.int k] s=.ok (.int<|gt R[i] k) s:=by
  rw[XZ,XZ,Ze rfl,Za,Ze rfl,Za];show((po (at' (R.map Zb) (i:Int)) s).bind _)=_;rw[e1,ZW,Za,Ze rfl,Za];show po (at' (R[i].map V.int) (k:Int)) s=_;rw[e2];rfl
 have g1:pv #[15] (.cmp .eq (.ix (.ix (.v 0)<|.v 1)<|.v 2)<|.n 1) [aa<|Zh R,aa<|.int i,aa<|.int k] s=.ok (.bl<|ag<|gt R[i] k=1) s:=by
  rw[Yi,g0,Za];simp[pvE,ofD,Zz]
 have g2:pv #[15] (.bin .add (.sl (.v 0) ai<|aa<|.v 1)<|.sl (.v 0) (aa<|.bin .add (.v 1)<|.n 1) ai) [aa<|Zh R,aa<|.int i,aa<|.int k] s=.ok (Zh<|R.take i++R.drop (i+1)) s:=by
  have c3:(R.take i).length+(R.drop<|i+1).length<=16777216:=by rw[bS,bH];lia
  rw[bS,bH]at c3;simp[pvE,Zh,slV,c1,c2,c3]
 have g3:=Zu (Zc g2<|Zc (Ze (i:=2) rfl) Zf) e3;refine Zj<|Zx ?_;rw[Zcz,g1,Za];unfold X7;rw[VI hi];cases ag (gt R[i] k=1)with|true=>exact g3|false=>rfl
theorem v8:∀R:List Row,X4 .non (R.map λr=>Vj<|hdI r)=aa (!(R.all λr=>(hdI r).isSome))
 |[]=>rfl
 |r::R=>by
  show(match eqV Zz (Vj<|hdI r) .non,X4 .non (R.map λr=>Vj<|hdI r)with|some a,aa b=>aa (a||b)|_,_=>ai)=_
  rw[v8 R,fY];cases hdI r with|none=>simp[Vj,Zc3,ZbH,Zz]|some k=>simp[Vj,Zc3,ZbH,Zz]
def yn(h:(R.all λr=>(hdI r).isSome)=ao):R.map (λr=>Vj<|hdI r)=(Zt R).map Zs:=by
 unfold Zt;rw[bL];refine cn λr hr=>?_
 obtain⟨k,hk⟩:=bQ.mp<|aV.mp h r hr;show Vj (hdI r)=Zs ((hdI r).getD 0);rw[hk];rfl
theorem Zax(d:Nat){R:List Row}(s:DS)(hn:n<=6)(hR:∀r∈R,Zd p n r)(hl:R.length<=1000):rvs #[17] [] (Ud.body.drop 1) [aa<|spV p n,aa<|Zh R,ai] [] s=.ok (.ret<|.bl<|Wz R) s:=by
 show rvs _ _ (.asg [2] (.comp1 [] 1 [0] #[30] []<|.call 18 [(.v 0)]) ::
  .ite (.or (.cmp .inn (.c .non)<|.v 2)<|.not<|.call 19 [(.v 2)]) #[12] [] ::
  .ret (.blt .all [(.comp1 [1] 2 [0,1] (.enum<|.v 2) []<|.call 21 [(.v 2),(.v 0),(.v 1)])])::[]) _ _ _=_
 have hc2:=ZM (C:=CV<|d+2) (cap:=[]) (nl:=1) (t:=[0]) (it:=.of<|.v 1) (elt:=.call 18 [(.v 0)]) (U:=[aa<|spV p n,aa<|Zh R,ai]) (s:=s) (l:=R) (e:=Zb) (g:=λr=>Vj<|hdI r)
  (by simp[pvE,Zh]) #[20] (λx hx=>#[_,rfl,by
   have e:=U9 (d+1) x s;simp[pvE,e]])
 rw[Zi (ρ':=[aa<|spV p n,aa<|Zh R,aa<|.lst<|R.map λr=>Vj<|hdI r]) (os':=[]) (s':=s) (by simp[pvE,hc2])]
 have hin:=v8 R;unfold Wz;cases hh:R.all λr=>(hdI r).isSome with
 |false=>
  rw[hh]at hin;exact Zj (by simp[pvE,UG,hin])
 |true=>
  rw[hh]at hin;rw[yn hh]at hin ⊢;have hln:(Zt R).length=R.length:=by unfold Zt;rw[av]
  have e3:=jO (d+1) (hs:=Zt R) s #[0]
  cases hr:rise (Zt R)with
  |false=>
   rw[hr]at e3;exact Zj (by simp[pvE,UG,hin,e3])
  |true=>
  rw[hr]at e3;rw[Zi (ρ':=[aa<|spV p n,aa<|Zh R,aa<|.lst<|(Zt R).map Zs]) (os':=[]) (s':=s) (by simp[pvE,UG,hin,e3])]
  refine Zj<|Zx ?_;have ew:((Yb 0 (Zt R).length).zip<|(Zt R).map Zs).map (λq=>V.tup [q.1,q.2])=(aC R.length).map λi=>V.tup [Zs i,Zs<|(Zt R).getD i 0]:=by
   apply eG
   .simp[Yb,hln]
   .intro i h1 h2
    have h3:i<R.length:=by simpa using h2
    have h4:i<(Zt R).length:=by lia
    simp[Yb,Zs,h4]
  have hc3:=ZM (cap:=[1]) (nl:=2) (t:=[0,1]) (elt:=.call 21 [(.v 2),(.v 0),(.v 1)]) (l:=aC R.length)
   (by
    have:pvw #[17] (.enum<|.v 2) [aa<|spV p n,aa<|Zh R,aa<|.lst<|(Zt R).map Zs] s=.ok (((Yb 0 ((Zt R).map Zs).length).zip<|(Zt R).map Zs).map λq=>V.tup [q.1,q.2]) s:=by simp[pvE]
    rw[this,av,ew]) (by rw[bf];unfold lim;lia) (λi hi=>#[_,rfl,by
    have hi':=aI.mp hi;have hk:(Zt R).getD i 0<n:=by
     rw[Vv hi'];obtain⟨k,hk⟩:=bQ.mp<|aV.mp hh _<|aR hi';rw[hk,<-(hR _<|aR hi').1];exact(Z4 hk).2.1
    exact Zu (Zc #[9]<|Zc #[9]<|Zc #[9] Zf)<|GS d s hR hl hi' hk])
  have ht3:=Yx (g:=λi:Nat=>X7 R i<|(Zt R).getD i 0)<|aC R.length
  rw[Yq,Zc hc3 Zf,Za];show po ((Z2 _).map λbs=>V.bl<|bs.all id) s=_
  rw[ht3];show PR.ok (V.bl<|(rA _ _).all id) s=_;rw[kr];rfl
def isP(p n:Nat)(x:V):Bool:=match x with
 |.tup xs=>xs.all (Zv p n)&&match YE xs with
  |some R=>Wz R
  |none=>aj
 |_=>aj
theorem WN:∀{xs:List V},xs.all (Zv p n)=ao->∃R:List Row,xs=R.map Zb/\∀r∈R,Zd p n r
 |[],_=>#[[],rfl,λ_ h=>by cases h]
 |x::xs,h=>by
  rw[fY,aA]at h;obtain⟨R,rfl,hR⟩:=WN h.2;obtain⟨r,rfl,hr⟩:=GX h.1;refine#[r::R,rfl,λa ha=>?_]
  rcases ay.mp ha with rfl|ha
  .exact hr
  .exact hR a ha
def Qb  : isP p n x=ao↔∃P,x=Zh P/\pZ p n P:=by
 constructor
 .intro h
  cases x with
  |tup xs=>
   unfold isP at h;rw[aA]at h;obtain⟨R,rfl,hR⟩:=WN h.1;have h2:=h.2;rw[YI]at h2;exact#[R,rfl,(Y6 hR).mp h2]
  |_=>cases h
 .rintro ⟨P,rfl,hP⟩
  show(_&&_)=ao;rw[aA,YI];refine#[aV.mpr λv hv=>?_,(Y6 hP.row).mpr hP]
  obtain⟨r,hr,rfl⟩:=aF.mp hv;exact Zf9<|hP.row r hr
def ZbE(h:∀xs,x≠.tup xs):isP p n x=aj:=by
 cases x with|tup xs=>exact T7 rfl<|h xs|_=>rfl
theorem ZcH(d:Nat){x:V}(s:DS)(hn:n<=6)(hx:okV x=ao)(hl:∀xs,x=.tup xs->xs.length<=1000):CV (d+3) 24 [spV p n,x] s=.ok (.bl<|isP p n x) s:=by
 refine Zo rfl #[1] rfl ?_
 show rvs #[17] [] (.ite (.or #[21]<|.not<|.blt .all [(.comp1 [0] 1 [0] #[30] []<|.call 23 [(.v 1),(.v 0)])]) #[12] []::Ud.body.drop 1) [aa<|spV p n,aa x,ai] [] s=_;rcases Qv hx with⟨xs,rfl⟩|⟨ha,no⟩
 ·
  have hl:=hl xs rfl;have hc1:=ZM (C:=CV<|d+2) (cap:=[0]) (nl:=1) (t:=[0]) (it:=.of<|.v 1) (elt:=.call 23 [(.v 1),(.v 0)]) (U:=[aa<|spV p n,aa<|.tup xs,ai]) (s:=s) (l:=xs) (e:=id) (g:=λv=>V.bl<|Zv p n v)
   (by simp[pvE]) #[20] (λv hv=>#[_,rfl,by
    simp[pvE,(uX (p:=p) d s hn<|Y9 hx v hv)]])
  have ht:=Yx (g:=λv:V=>Zv p n v) xs
  have hpt:Yz (.tup xs) [.tuple]=aa ao:=rfl;cases ha:xs.all (Zv p n)with
  |false=>
   have hf:(xs.map λv=>Zv p n v).all id=aj:=by rw[kr];exact ha
   refine Zj ?_;simp[pvE,hpt,hc1,ht,isP,ha,hf]
  |true=>
   have hf:(xs.map λv=>Zv p n v).all id=ao:=by rw[kr];exact ha
   rw[Zi (ρ':=[aa<|spV p n,aa<|.tup xs,ai]) (os':=[]) (s':=s) (by simp[pvE,hpt,hc1,ht,hf])]
   obtain⟨R,rfl,hR⟩:=WN ha;have eb:isP p n (.tup<|R.map Zb)=Wz R:=by
    show((R.map Zb).all (Zv p n)&&match YE (R.map Zb)with|some R=>Wz R|none=>aj)=_
    rw[ha,YI];rfl
   rw[eb];exact(Zax d s hn hR (by simpa using hl))
 .rw[ZbE no]
  exact Zj (by simp[pvE,ha])
theorem GW:∀P:List Row,Yo (P.map Zb)=ao
 |[]=>rfl
 |r::P=>by
  show(okV (Zb r)&&Yo (P.map Zb))=ao;rw[zJ,GW P];rfl
def Qf(P ):okV (Zh P)=ao:=GW P
def Vm(hP:pZ p n P):∀xs,Zh P=.tup xs->xs.length<=n:=λxs e=>by
 cases e;rw[av];exact dsum hP
def Vr(d )(s )(hn:n<=6)(hx:okV x=ao)(hl:∀xs,x=.tup xs->xs.length<=1000):CV (d+4) 25 [spV p n,x] s=if isP p n x=ao then .ok .non s else .ex 2 s:=by
 have e:=ZcH (p:=p) d s hn hx hl;cases h:isP p n x with
 |true=>
  rw[h]at e;refine yf (U:=[aa<|spV p n,aa x]) (os:=[]) rfl #[1] rfl ?_
  simp[WB,pvE,e]
 |false=>
  rw[h]at e;refine U4 rfl #[1] rfl ?_
  simp[WB,pvE,e];rfl
theorem Ge(d )(s )(hn:n<=6)(hP:pZ p n P):CV (d+4) 25 [spV p n,Zh P] s=.ok .non s:=by
 have e:=Vr (p:=p) d s hn (Qf P) λxs z=>by have:=Vm hP xs z;lia
 rw[T9<|Qb.mpr #[P,rfl,hP]]at e;exact e
def Q4(d:Nat){P Q:List Row}(s:DS)(hn:n<=6)(hP:pZ p n P)(hQ:pZ p n Q):CV (d+5) 26 [spV p n,Zh P,Zh Q] s=.ok .non s:=by
 have e1:=Ge d s hn hP;have e2:=Ge d s hn hQ;refine yf (U:=[aa<|spV p n,aa<|Zh P,aa<|Zh Q]) (os:=[]) rfl #[1] rfl ?_
 simp[X8,pvE,e1,e2]
def qV(hP:pZ p n P):P.map (λr=>Vj<|hdI r)=(Zt P).map Zs:=yn (aV.mpr λr hr=>by
 obtain⟨k,hk,_⟩:=hP.head fld.one0 hr;rw[hk];rfl)
end
end K75
namespace Rw
open La
open Ev (ltP Wh Y4)
section
variable{p n:Nat}[Base p]
variable{k:Nat}
theorem VD{B:Type}[BEq B][LawfulBEq B]:∀{L A:List B},L.Nodup->(∀x∈L,x∈A)->L.length<=A.length
 |[],_,_,_=>c7 _
 |x::L,A,h,hs=>by
  rw[dq]at h;have h1:=VD (L:=L) (A:=A.erase x) h.2 λy hy=>(List.mem_erase_of_ne (show y≠x from λe=>h.1<|by rw[<-e];exact hy)).mpr<|hs y<|am _ hy
  have h2:=hs x<|ak ..;have h3:=List.length_erase_of_mem h2;have h4:=mC h2;rw[aQ];omega
end
def UJ(p:Nat)(L:List Row)(o:Row):List Row:=(aC p).flatMap λ(k:Nat)=>L.map λr=>Zw p r o (k:Int)
def uK(p n:Nat)(P:List Row):List Row:=P.foldl (UJ p) [ax n 0]
def jc(L o):(UJ p L o).length=L.length*p:=by
 unfold UJ;rw[List.length_flatMap,show((aC p).map λ(k:Nat)=>(L.map λr=>Zw p r o (k:Int)).length)=ax p L.length from eG #[2] λi h1 h2=>by simp,List.sum_replicate_nat,oH]
def Zao(P):(uK p n P).length=p^P.length:=by
 unfold uK
 suffices ∀(P L:List Row),(P.foldl (UJ p) L).length=L.length*p^P.length by rw[this];simp
 intro P
 induction P with|nil=>intro L;simp|cons o P ih=>intro L;rw[du,ih,jc,aQ,Nat.pow_succ,Nat.mul_assoc,oH p]
section
variable{p n:Nat}[Base p]
theorem ZR:Zd p n (ax n 0):=#[bO,λa ha=>by
 have:=(inferInstance:Base p).b;rw[gV ha];lia]
def YN(j):gt (ax n 0) j=0:=by
 unfold gt;rw[az,cO];split<;>rfl
def qH(hL:∀r∈L,Zd p n r)(ho:Zd p n o):∀r∈UJ p L o,Zd p n r:=λr hr=>by
 obtain⟨k,_,h⟩:=eI.mp hr;obtain⟨q,hq,rfl⟩:=aF.mp h;exact Zp (hL q hq) ho
def Qd(hW:pZ p n W)(hr:Zd p n r)(ho:Zd p n o)(h1:Ym p W r=ao)(h2:Ym p W o=ao):Ym p W (Zw p r o k)=ao:=by
 rw[ZK hW<|Zp hr ho];rw[ZX hr ho];exact YO (ph p k) ((ZK hW hr).mp h1)<|(ZK hW ho).mp h2
theorem vU(hW:pZ p n W):∀{P L:List Row},(∀r∈P,r∈W)->(∀r∈L,Zd p n r/\Ym p W r=ao)->∀r∈P.foldl (UJ p) L,Zd p n r/\Ym p W r=ao
 |[],_,_,h=>h
 |o::P,L,hP,h=>by
  have ho:=hP o<|ak ..;refine vU hW (P:=P) (λr hr=>hP r<|am _ hr) λr hr=>?_
  obtain⟨k,_,h3⟩:=eI.mp hr;obtain⟨q,hq,rfl⟩:=aF.mp h3;exact#[Zp (h q hq).1<|hW.row o ho,Qd hW (h q hq).1 (hW.row o ho) (h q hq).2<|zM hW ho]
theorem uS:∀{P L:List Row}{a r:Row},(∀o∈P,Zd p n o)->a∈L->Zd p n a->Zd p n r->hdI (Zn p P<|Zw p r a<|-1)=ai->r∈P.foldl (UJ p) L
 |[],L,a,r,_,ha,h1,h2,h=>by
  have e:=YC h2 h1 (by
   funext j
   have z:=(Z8<|Zp h2 h1).mpr<|Xa h j;rw[ZX h2 h1,Ur,Qy]at z
   grind)
  rw[e];exact ha
 |o::P,L,a,r,hP,ha,h1,h2,h=>by
  have ho:=hP o<|ak ..
  let x:=Zw p r a<|-1
  have hx:Zd p n x:=Zp h2 h1;have hk:=XS ppos hx<|(hdI o).getD 0;have e:clr p x o ((hdI o).getD 0)=Zw p r (Zw p a o<|gt x<|(hdI o).getD 0) (-1):=YC (Zp hx ho) (Zp h2<|Zp h1 ho) (by
   rw[ye hx ho,ZX h2<|Zp h1 ho,ZX h1 ho]
   funext j
   show toV p (Zw p r a<|-1) j-toV p x ((hdI o).getD 0)*toV p o j=toV p r j+ph p (-1)*(toV p a j+toV p x ((hdI o).getD 0)*toV p o j);rw[ZX h2 h1,Ur,Qy]
   grind)
  refine uS (P:=P) (λq hq=>hP q<|am _ hq) (eI.mpr #[(gt x<|(hdI o).getD 0).toNat,aI.mpr #[0],aF.mpr #[a,ha,by rw[kn hk.1]]]) (Zp h1 ho) h2 ?_
  rw[<-e];exact h
theorem xW(hP:pZ p n P):r∈uK p n P↔Zd p n r/\Ym p P r=ao:=by
 constructor
 .exact vU hP (λ_ h=>h) (λq hq=>by rw[aZ.mp hq];exact#[ZR,U8 hP ZR YN]) r
 .intro#[h1,h2]
  refine uS hP.row (aZ.mpr rfl) ZR h1 ?_;have e:Zw p r (ax n 0) (-1)=r:=YC (Zp h1 ZR) h1 (by
   rw[ZX h1 ZR]
   funext j
   rw[(Z8 ZR).mpr<|YN j]
   grind)
  rw[e];exact Option.isNone_iff_eq_none.mp h2
theorem xA:∀{P L:List Row},(∀o∈P,Zd p n o/\gt o ((hdI o).getD 0)=1)->(P.Pairwise λo q=>gt o ((hdI q).getD 0)=0)->(∀r∈L,Zd p n r/\∀o∈P,gt r ((hdI o).getD 0)=0)->L.Nodup->(P.foldl (UJ p) L).Nodup
 |[],_,_,_,_,h=>h
 |o::P,L,hP,hz,hL,h=>by
  obtain⟨ho,h1⟩:=hP o<|ak ..;obtain⟨z1,z2⟩:=bo.mp hz;refine xA (P:=P) (λq hq=>hP q<|am _ hq) z2 (λr hr=>#[qH (λr hr=>(hL r hr).1) ho r hr,λq hq=>?_]) ?_
  .obtain⟨k,_,h3⟩:=eI.mp hr
   obtain⟨s,hs,rfl⟩:=aF.mp h3;rw[WM (hL s hs).1 ho,(hL s hs).2 q<|am _ hq,z1 q hq];simp
  .have at_:∀k r,k<p->r∈L->gt (Zw p r o (k:Int)) ((hdI o).getD 0)=k:=λk r hk hr=>by
    rw[WM (hL r hr).1 ho,(hL r hr).2 o<|ak ..,h1,Int.zero_add,pC,ee #[0] #[0]]
   refine List.pairwise_flatMap.mpr #[λk hk=>?_,?_]
   .refine cS.mpr (h.imp_of_mem λ{a b} ha hb ne e=>ne<|YC (hL a ha).1 (hL b hb).1 ?_)
    have q:=congrArg (toV p) e;rw[ZX (hL a ha).1 ho,ZX (hL b hb).1 ho]at q
    funext j
    have:=congrFun q j
    grind
   .refine l8.imp_of_mem λ{a b} ha hb ne x hx y hy e=>ne ?_
    obtain⟨r,hr,rfl⟩:=aF.mp hx;obtain⟨q,hq,rfl⟩:=aF.mp hy;have:=at_ a r (aI.mp ha) hr;rw[e,at_ b q (aI.mp hb) hq]at this;lia
def ZdX(hP:pZ p n P):(uK p n P).Nodup:=by
 have rf:=hP.pn.rf;refine xA (λo ho=>#[hP.row o ho,(Qi<|hP.row o ho).mp<|rf.one _<|Yl ho]) ?_ (λr hr=>?_)<|dq.mpr #[by simp,mX]
 .exact(cS.mp rf.inc).imp_of_mem λ{a b} ha hb lt=>(Z8<|hP.row a ha).mp<|rf.zer _ (Yl hb) _ (Yl ha)<|ek lt
 .rw[aZ.mp hr]
  exact#[ZR,λo _=>YN _]
end
open Pv (YW)
def Zam :x∈YW F r↔x∈F\/x=r:=by
 unfold YW;split
 .rename_i h
  exact#[.inl,λz=>z.elim id λe=>e▸(c8.mp h)]
 .simp
def Zd5(h:F.Nodup):(YW F r).Nodup:=by
 unfold YW;split
 .exact h
 .rename_i q
  refine fg.mpr #[h,by simp,λa ha b hb e=>q ?_]
  rw[aZ.mp hb]at e;exact c8.mpr<|e▸ha
theorem xg:∀{L F:List Row}{x:Row},x∈L.foldl YW F↔x∈F\/x∈L
 |[],F,x=>by simp
 |r::L,F,x=>by
  rw[du,xg,Zam,ay,or_assoc]
theorem qj:∀{L F:List Row},F.Nodup->(L.foldl YW F).Nodup
 |[],F,h=>h
 |r::L,F,h=>qj (L:=L)<|Zd5 h
def jx(p:Nat)(F:List Row)(r:Row):List Row:=F.flatMap λo=>(aC<|p-1).map λ(k:Nat)=>Zw p o r<|(k:Int)+1
def UQ(p:Nat)(F:List Row)(r:Row):List Row:=if F.contains r then F else(jx p F r).foldl YW F
def ZD(p n:Nat)(R:List Row):List Row:=R.foldl (UQ p) [ax n 0]
section
variable{p n:Nat}[Base p]
structure HasK(p n:Nat)[NeZero p](F P:List Row):Prop where
 part:pZ p n P
 nd:F.Nodup
 mem:∀x,x∈F↔Zd p n x/\Ym p P x=ao
theorem za(hP:pZ p n P)(hr:Zd p n r)(hu:Zd p n u):Ym p (XQ p P r) u=ao↔∃k,k<p/\Ym p P (Zw p u r<|-(k:Int))=ao:=by
 obtain⟨h1,h2⟩:=Ww hP hr;rw[ZK h1 hu,Mm,h2,(WJ (fld) hP.pn<|Yr hr).mem]
 constructor
 .rintro ⟨c,hc⟩
  refine#[c.val,c.isLt,(ZK hP<|Zp hu hr).mpr ?_];rw[ZX hu hr];have e:ph p (-(c.val:Int)) = -c:=by
   rw[Ur]
   congr 1
   exact WL (by rw[YK,ee #[0] (by have:=c.isLt;lia)])
  rw[e];have e2:(λj=>toV p u j + -c*toV p r j)=λj=>toV p u j-c*toV p r j:=by funext j;grind
  rw[e2];exact hc
 .rintro ⟨k,_,hk⟩
  refine#[ph p (k:Int),?_];have:=(ZK hP<|Zp hu hr).mp hk;rw[ZX hu hr,Ur]at this;have e2:(λj=>toV p u j-ph p (k:Int)*toV p r j)=λj=>toV p u j + -ph p (k:Int)*toV p r j:=by funext j;grind
  rw[e2];exact this
def ZcK(hP:pZ p n P)(hr:Zd p n r)(h:Ym p P r=ao):XQ p P r=P:=by
 obtain⟨h1,h2⟩:=Ww hP hr;exact vY h1.row hP.row<|h2.trans<|(WJ (fld) hP.pn<|Yr hr).same<|(ZK hP hr).mp h
def uF(hP:pZ p n P)(hr:Zd p n r)(h:Ym p P r=aj):(XQ p P r).length=P.length+1:=by
 obtain⟨h1,h2⟩:=Ww hP hr;have:=(WJ (fld) hP.pn<|Yr hr).len λq=>by rw[(ZK hP hr).mpr q]at h;cases h
 rwa[<-h2,Qk,Qk]at this
theorem WV(hu:Zd p n u)(hr:Zd p n r):Zw p (Zw p u r<|-k) r k=u:=by
 refine YC (Zp (Zp hu hr) hr) hu ?_;rw[ZX (Zp hu hr) hr,ZX hu hr,Ur]
 funext j;grind
theorem GG(hu:Zd p n u)(hr:Zd p n r):Zw p u r 0=u:=by
 refine YC (Zp hu hr) hu ?_;rw[ZX hu hr,WS]
 funext j;grind
theorem HasK.step(h:HasK p n F P)(hr:Zd p n r):HasK p n (UQ p F r) (XQ p P r):=by
 obtain⟨h1,h2⟩:=Ww h.part hr;unfold UQ;by_cases c:F.contains r=ao
 .rw[T9 c,ZcK h.part hr ((h.mem r).mp<|c8.mp c).2]
  exact h
 .rw[T8 c]
  refine#[h1,qj h.nd,λx=>?_]
  rw[xg]
  constructor
  .rintro (hx|hx)
   .obtain⟨a,b⟩:=(h.mem x).mp hx
    exact#[a,(za h.part hr a).mpr #[0,by have:=(inferInstance:NeZero p).ne;lia,by rw[show(-((0:Nat):Int))=0 from rfl,GG a hr];exact b]]
   .obtain⟨o,ho,hx⟩:=eI.mp hx
    obtain⟨k,hk,rfl⟩:=aF.mp hx;have hk:=aI.mp hk;obtain⟨a,b⟩:=(h.mem o).mp ho;refine#[Zp a hr,(za h.part hr<|Zp a hr).mpr #[k+1,by lia,?_]]
    have e:=WV (k:=-((k:Int)+1)) a hr;rw[Int.neg_neg]at e;rw[show(-((k+1:Nat):Int)) = -((k:Int)+1) by lia,e]
    exact b
  .rintro ⟨hx,hm⟩
   obtain⟨k,hk,hm⟩:=(za h.part hr hx).mp hm;have ho:=(h.mem _).mpr #[Zp hx hr,hm];have e:=WV (k:=(k:Int)) hx hr;cases k with
   |zero=>
    refine .inl ?_;rw[show(-((0:Nat):Int))=0 from rfl,GG hx hr]at ho
    exact ho
   |succ k=>
    exact .inr (eI.mpr #[_,ho,aF.mpr #[k,aI.mpr #[0],by rw[show((k:Int)+1)=((k+1:Nat):Int) by lia];exact e]])
theorem HasK.nil:HasK p n [ax n 0] []:=by
 refine#[pZ.nil,by simp,λx=>?_]
 rw[aZ]
 constructor
 .rintro rfl
  exact#[ZR,U8 pZ.nil ZR YN]
 .rintro ⟨hx,hm⟩
  refine Zdd (by rw[hx.1,bO]) λj=>?_
  rw[YN];unfold Ym Zn at hm;rw[List.foldl_nil]at hm;cases q:hdI x with|none=>exact Xa q j|some k=>rw[q]at hm;cases hm
theorem HasK.all:∀{R F P:List Row},HasK p n F P->(∀r∈R,Zd p n r)->HasK p n (R.foldl (UQ p) F) (ZY p P R)
 |[],F,P,h,_=>h
 |r::R,F,P,h,hR=>HasK.all (R:=R) (h.step<|hR r<|ak ..) λx hx=>hR x<|am _ hx
def Yh(hR:∀r∈R,Zd p n r):HasK p n (ZD p n R) (ZY p [] R):=HasK.nil.all hR
def HasK.len(h:HasK p n F P):F.length=p^P.length:=by
 rw[<-Zao P];refine Nat.le_antisymm (VD h.nd λx hx=>?_)<|VD (ZdX h.part) λx hx=>?_
 .exact(xW h.part).mpr<|(h.mem x).mp hx
 .exact(h.mem x).mpr<|(xW h.part).mp hx
theorem Zfa(h:p^a=p^b):a=b:=by
 have h2:1<p:=by rcases(inferInstance:Base p).b with e|e|e<;>lia
 rcases Nat.lt_trichotomy a b with q|q|q
 .have:=gz h2 q;lia
 .exact q
 .have:=gz h2 q;lia
end
noncomputable def Yg(n j:Nat):Row:=(aC n).map λi=>if i=j then 1 else 0
def units(n:Nat):List Row:=(aC n).map<|Yg n
def Zd2:∀n,n<=6->Wz (units n)=ao:=by
 intro n h
 match n,h with
 |0,_|1,_|2,_|3,_|4,_|5,_|6,_=>decide +kernel
def W0(n):(units n).length=n:=by unfold units;rw[av,bf]
section
variable{p n:Nat}[Base p]
theorem Z6:∀r∈units n,Zd p n r:=λr hr=>by
 obtain⟨j,_,rfl⟩:=aF.mp hr;have h2:1<p:=by rcases(inferInstance:Base p).b with e|e|e<;>lia
 unfold Yg;refine#[by rw[av,bf],λa ha=>?_]
 obtain⟨i,_,rfl⟩:=aF.mp ha;split<;>lia
def Xl(hn:n<=6):pZ p n (units n):=(Y6 Z6).mp<|Zd2 n hn
def GT(hn:n<=6):(ZD p n<|units n).length=p^n:=by
 have h:=(Yh (p:=p) (n:=n) Z6).len;rw[Uq<|Xl hn,W0]at h;exact h
def ZaZ(hn:n<=6){R:List Row}(hR:∀r∈R,Zd p n r):((ZD p n R).length=(ZD p n<|units n).length)↔(ZY p [] R).length=n:=by
 rw[GT hn,(Yh hR).len];exact#[Zfa,λe=>by rw[e]]
theorem Zeq(hn:n<=6)(hR:∀r∈R,Zd p n r)(h:(ZY p [] R).length<n):((ZD p n<|units n).filter λr=>!(ZD p n R).contains r)≠[]:=λe=>by
 have hl:=VD (Yh Z6).nd λx hx=>by
  have:=mD.mp e x hx
  simpa using this
 rw[GT hn,(Yh hR).len]at hl;have h2:1<p:=by rcases(inferInstance:Base p).b with e|e|e<;>lia
 have:=gz h2 h;lia
end
end Rw
namespace K75
open Ev Pv Rw La
def xB(h ):(ax h [V.int 0]).flatten=(ax h (0:Int)).map V.int:=by
 induction h with|zero=>rfl|succ h ih=>rw[cI,eZ,ih];rfl
def WC(r ):V.flat (Zb r)=ao:=Jj r
theorem Go:∀L:List Row,Wd (L.map Zb)=ao
 |[]=>rfl
 |r::L=>by
  show(V.flat (Zb r)&&Wd (L.map Zb))=ao;rw[WC,Go L];rfl
section
variable{p n:Nat}[Base p]
def ix0{s:DS}(h:U[i]?=aa (aa<|spV p n)):pv C (.ix (.v i)<|.n 0) U s=.ok (.int p) s:=by
 rw[XZ,Ze h];rfl
def ix1(h:U[i]?=aa (aa<|spV p n)):pv C (.ix (.v i)<|.n 1) U s=.ok (.int n) s:=by
 rw[XZ,Ze h];rfl
theorem U7(hn:n<=6)(h:U[i]?=aa (aa<|spV p n)):pv C (.bin .mul #[22]<|.ix (.v i)<|.n 1) U s=.ok (Zb<|ax n 0) s:=by
 have g:pv C #[22] U s=.ok (.tup [.int 0]) s:=by simp[pvE]
 rw[pE7,g,Za,ix1 h];show(if(0:Int)<=n/\(n:Int)<1000/\1<=1000 then PR.ok (V.tup (ax (n:Int).toNat [V.int 0]).flatten) s else .no)=_
 rw[T9 #[by lia,by lia,by lia],xB];rfl
def Ue(h:U[i]?=aa (aa<|Zb r))(hj:U[j]?=aa (aa<|Zs k))(hk:k<r.length):pv C (.ix (.v i)<|.v j) U s=.ok (.int<|gt r k) s:=by
 rw[XZ,Ze h,Za,Ze hj];show po (at' (r.map V.int) (k:Int)) s=_;rw[QL hk];rfl
theorem QX(d:Nat){r o:Row}{k:Int}(s:DS)(hn:n<=6)(hr:Zd p n r)(ho:Zd p n o)(hk:-1000<k/\k<1000):CV (d+1) 7 [spV p n,Zb r,.int k,Zb o] s=.ok (Zb<|Zw p r o k) s:=by
 have hp:=Wr (p:=p);refine Zo rfl #[1] rfl ?_
 show rvs (CV d) [] (.ret (.blt .tuple [(.comp1 [1,2,3,0] 1 [0] (.rng1<|.ix (.v 0)<|.n 1) []<|.bin .mod (.bin .add (.ix (.v 1)<|.v 0)<|.bin .mul (.v 2)<|.ix (.v 3)<|.v 0)<|.ix (.v 4)<|.n 0)])::[]) [aa<|spV p n,aa<|Zb r,aa<|.int k,aa<|Zb o] [] s=_;have hc:=ZM (cap:=[1,2,3,0]) (nl:=1) (t:=[0]) (it:=.rng1<|.ix (.v 0)<|.n 1) (elt:=.bin .mod (.bin .add (.ix (.v 1)<|.v 0)<|.bin .mul (.v 2)<|.ix (.v 3)<|.v 0)<|.ix (.v 4)<|.n 0) (U:=[aa<|spV p n,aa<|Zb r,aa<|.int k,aa<|Zb o])
  (YR (ix1 rfl)<|by lia) (by rw[bf];unfold lim;lia) (λj hj=>by
   have hj:=aI.mp hj;have h2:=XS #[0] ho j
   refine#[[aa<|Zs j,aa<|Zb r,aa<|.int k,aa<|Zb o,aa<|spV p n],rfl,?_];have e3:pv (CV d) (.bin .mul (.v 2)<|.ix (.v 3)<|.v 0) [aa<|Zs j,aa<|Zb r,aa<|.int k,aa<|Zb o,aa<|spV p n] s=.ok (.int<|k*gt o j) s:=by
    rw[pE7,Ze rfl,Za,(Ue (C:=CV d) (i:=3) (j:=0) (s:=s) rfl rfl (by rw[ho.1];exact hj)),Za]
    show(if(fits k&&fits (gt o j))=ao then PR.ok (V.int<|k*gt o j) s else .no)=_
    rw[T9 (by rw[Ya #[0] #[0],Ya #[0] #[0]];rfl)]
   rw[pE7,pE7,(Ue (C:=CV d) (i:=1) (j:=0) (s:=s) rfl rfl (by rw[hr.1];exact hj)),Za,e3,Za]
   show PR.bind (PR.ok (V.int<|gt r j+k*gt o j) s) _=_;rw[Za,ix0 rfl,Za];show(if(0:Int)<p then PR.ok (V.int<|(gt r j+k*gt o j)%p) s else .no)=_
   rw[T9 #[0]])
 have e:((aC n).map λj=>V.int<|(gt r j+k*gt o j)%p)=(Zw p r o k).map V.int:=by
  have hl:=(Zp (k:=k) hr ho).1;refine cc λi=>?_
  rw[aK,aK];by_cases hi:i<n
  .rw[bZ hi,af (by rw[hl];exact hi)]
   have g:=WM (k:=k) hr ho i;unfold gt at g;rw[az,af<|by rw[hl];exact hi]at g
   simp only[Option.map_some,pB]at g ⊢;rw[g];rfl
  .rw[bI (by rw[bf];lia),bI (by rw[hl];lia)];rfl
 refine Zj<|Zx ?_;rw[Yq,Zc hc Zf,e];rfl
theorem Zbw(d ){a5:Option V}(s:DS)(hn:n<=6)(hr:Zd p n r)(ho:Zd p n o)(hk:k<1000)(hl:F.length<lim) :
  rvs #[15] [2] [.dput (.v 2) (.call 7 [(.v 0),(.v 4),(.v 5),(.v 3)])<|.c<|.bl ao] [aa<|spV p n,aa v,aa<|.dow F,aa<|Zb r,aa<|Zb o,aa<|Zs k] [2] s=.ok (.nx [aa<|spV p n,aa v,aa<|.dow<|YW F<|Zw p o r (k:Int),aa<|Zb r,aa<|Zb o,aa<|Zs k] [2]) s:=by
 have e:pv #[15] (.call 7 [(.v 0),(.v 4),(.v 5),(.v 3)]) [aa<|spV p n,aa v,aa<|.dow F,aa<|Zb r,aa<|Zb o,aa<|Zs k] s=.ok (Zb<|Zw p o r (k:Int)) s:=
  Zu (Zc #[9]<|Zc #[9]<|Zc #[9]<|Zc #[9] Zf) (QX d s hn ho hr #[by lia,by lia])
 rw[Zi (ρ':=[aa<|spV p n,aa v,aa<|.dow<|YW F<|Zw p o r (k:Int),aa<|Zb r,aa<|Zb o,aa<|Zs k]) (by
  rw[rE7,T9<|show([2]:List Nat).contains 2=ao from rfl,pE1]
  show PR.bind (po (aa<|V.bl ao) s) _=_;rw[ZW,Za,T9 (show isT (.bl ao)=ao from rfl)]
  show PR.bind (po (aa F) s) _=_;rw[ZW,Za,e,Za];show PR.bind (po (intsV<|(Zw p o r (k:Int)).map V.int) s) _=_;rw[YM,ZW,Za,T9 hl];rfl),rvs]
theorem Zaf(d:Nat){v:V}(s:DS)(hn:n<=6)(hr:Zd p n r)(ho:Zd p n o)(hl:F.length+10<lim) :
  ∃b5,rvs #[15] [2] [.forr [5] (.rng2 (.n 1)<|.ix (.v 0)<|.n 0) [.dput (.v 2) (.call 7 [(.v 0),(.v 4),(.v 5),(.v 3)])<|.c<|.bl ao]] [aa<|spV p n,aa v,aa<|.dow F,aa<|Zb r,aa<|Zb o,a5] [2] s
   = .ok (.nx [aa<|spV p n,aa v,aa<|.dow<|((aC<|p-1).map λ(k:Nat)=>Zw p o r<|(k:Int)+1).foldl YW F,aa<|Zb r,aa<|Zb o,b5] [2]) s:=by
 have hp:=Wr (p:=p);obtain⟨b5,_,e5⟩:=uo (t:=[5]) (it:=.rng2 (.n 1)<|.ix (.v 0)<|.n 0) (e:=λk=>Zs<|k+1) (step:=λF k=>YW F<|Zw p o r<|(k:Int)+1) (U:=λF x=>[aa<|spV p n,aa v,aa<|.dow F,aa<|Zb r,aa<|Zb o,x]) (st:=F) (os:=[2])
  (λl F=>(∀k∈l,k<5)/\F.length+l.length<lim) (by
   show pvw #[15] _ [aa<|spV p n,aa v,ai,aa<|Zb r,aa<|Zb o,a5] s=_;rw[wE2,show pv #[15] (.n 1) [aa<|spV p n,aa v,ai,aa<|Zb r,aa<|Zb o,a5] s=.ok (.int 1) s by rw[pE1];rfl,Za,ix0 rfl,Za]
   show(if(Va 1&&Va (p:Int))=ao then PR.ok (Yb 1 ((p:Int)-1).toNat) s else .no)=_
   rw[T9 (by rw[QS #[0] #[0],QS #[0] #[0]];rfl),show((p:Int)-1).toNat=p-1 by lia]
   congr 1
   refine cn λk _=>?_
   rw[Int.add_comm];rfl) #[λk hk=>by have:=aI.mp hk;lia,by rw[bf];lia] rfl (λk l F x hI=>by
   obtain⟨h1,h2⟩:=hI;rw[aQ]at h2;have hk:=h1 k<|ak ..;have hl2:(YW F<|Zw p o r<|(k:Int)+1).length<=F.length+1:=by unfold YW;split<;>simp
   refine#[#[λq hq=>h1 q<|am _ hq,by lia],rfl,[aa<|spV p n,aa v,aa<|.dow F,aa<|Zb r,aa<|Zb o,aa<|Zs<|k+1],aa<|Zs<|k+1,rfl,?_]
   have:=Zbw d (a5:=ai) (v:=v) (k:=k+1) s hn hr ho (F:=F) #[0] #[0]
   rw[this];rfl)
 refine#[b5,?_];rw[Zi e5,rvs,List.foldl_map]
def jA(F )(o r ):jx p (o::F) r=((aC<|p-1).map λ(k:Nat)=>Zw p o r<|(k:Int)+1)++jx p F r:=rfl
theorem xm:∀(L F:List Row),(L.foldl YW F).length<=F.length+L.length
 |[],F=>aJ _
 |r::L,F=>by
  have h:=xm L<|YW F r;have hl2:(YW F r).length<=F.length+1:=by unfold YW;split<;>simp
  rw[du,aQ];lia
theorem yx(d )(s )(hn:n<=6)(hr:Zd p n r):∀L F {a4 a5:Option V},(∀o∈L,Zd p n o)->F.length+5*L.length+10<lim->
  ∃b4 b5,Xm (λx U os s=>if(([4]:List Nat).any os.contains)=ao then .no else(po (Zq [4] x U) s).bind λU s=>rvs #[15] [2] [.forr [5] (.rng2 (.n 1)<|.ix (.v 0)<|.n 0) [.dput (.v 2) (.call 7 [(.v 0),(.v 4),(.v 5),(.v 3)])<|.c<|.bl ao]] U os s) (L.map Zb) [aa<|spV p n,aa v,aa<|.dow F,aa<|Zb r,a4,a5] [2] s
   = .ok (.nx [aa<|spV p n,aa v,aa<|.dow<|(jx p L r).foldl YW F,aa<|Zb r,b4,b5] [2]) s
 |[],F,a4,a5,_,_=>#[a4,a5,rfl]
 |o::L,F,a4,a5,ho,hl=>by
  have hp:=Wr (p:=p);rw[aQ]at hl;obtain⟨b5,e⟩:=Zaf d (F:=F) s hn hr (ho o<|ak ..) #[0]
  have h1:=xm ((aC<|p-1).map λ(k:Nat)=>Zw p o r<|(k:Int)+1) F
  rw[av,bf]at h1;obtain⟨c4,c5,e2⟩:=yx d s hn hr L (((aC<|p-1).map λ(k:Nat)=>Zw p o r<|(k:Int)+1).foldl YW F) (λx hx=>ho x<|am _ hx) #[0]
  refine#[c4,c5,?_];rw[ba,Xm,T8 #[1],show Zq [4] (Zb o) [aa<|spV p n,aa v,aa<|.dow F,aa<|Zb r,a4,a5]=aa [aa<|spV p n,aa v,aa<|.dow F,aa<|Zb r,aa<|Zb o,a5]from rfl,ZW,Za,e]
  rw[jA,oX];exact e2
def Zh6(h:U[i]?=aa (aa<|Zb r))(hj:U[j]?=aa (aa<|.dow F)):pv C (.cmp .nin (.v i)<|.v j) U s=.ok (.bl<|!F.contains r) s:=by
 rw[Yi,Ze h,Za,Ze hj];show po (((intsV<|r.map V.int).map λk=>F.contains k).map λb=>V.bl !b) s=_
 rw[YM];rfl
theorem Xe(d:Nat){v:V}(s:DS)(hn:n<=6)(h1:1<=n)(hl:p^n<=1000)(hR:∀r∈R,Zd p n r)(hv:YJ v=aa (R.map Zb)):CV (d+2) 8 [spV p n,v] s=.ok (.lst<|(Zr<|ZD p n R).map Zb) s:=by
 have hp:=Wr (p:=p);have big:∀{F P:List Row},HasK p n F P->F.length<=1000:=λ{F P} h=>by
  rw[h.len];refine bV (dH #[0] ?_) hl
  exact dsum h.part
 refine Zo rfl #[1] rfl ?_
 show rvs #[15] [2] (.dnw 2 (.bin .mul #[22]<|.ix (.v 0)<|.n 1) ::
  .forr [3] #[30] [.ite (.cmp .nin (.v 3)<|.v 2) [.forF [4] (.blt .listD [(.v 2)]) [.forr [5] (.rng2 (.n 1)<|.ix (.v 0)<|.n 0) [.dput (.v 2) (.call 7 [(.v 0),(.v 4),(.v 5),(.v 3)])<|.c<|.bl ao]]] []] ::
  .ret (.blt .sortedD [(.v 2)])::[]) [aa<|spV p n,aa v,ai,ai,ai,ai] [] s=_
 rw[Zi (ρ':=[aa<|spV p n,aa v,aa<|.dow [ax n 0],ai,ai,ai]) (os':=[2]) (by
  rw[Zig,U7 hn rfl,Za];show PR.bind (po (intsV<|(ax n (0:Int)).map V.int) s) _=_;rw[YM,ZW,Za,T9 (by show 2<6;lia)];rfl)]
 obtain⟨ρ',hI,e⟩:=Qe (C:=CV<|d+1) (t:=[3]) (it:=.of<|.v 1) (b:=[.ite (.cmp .nin (.v 3)<|.v 2) [.forF [4] (.blt .listD [(.v 2)]) [.forr [5] (.rng2 (.n 1)<|.ix (.v 0)<|.n 0) [.dput (.v 2) (.call 7 [(.v 0),(.v 4),(.v 5),(.v 3)])<|.c<|.bl ao]]] []]) (os:=[2]) (s:=s)
  (λl U=>(∀r∈l,Zd p n r)/\∃F P a3 a4 a5,U=[aa<|spV p n,aa v,aa<|.dow F,a3,a4,a5]/\HasK p n F P/\l.foldl (UQ p) F=ZD p n R) (by
   rw[wE7,Ze rfl,Za,hv];rfl) #[hR,_,_,ai,ai,ai,rfl,HasK.nil,rfl] rfl (λr l U hI=>by
   obtain⟨hr,F,P,a3,a4,a5,rfl,hF,hf⟩:=hI;have hr0:=hr r<|ak ..;have hb:=big hF;refine#[by rw[WC];rfl,[aa<|spV p n,aa v,aa<|.dow F,aa<|Zb r,a4,a5],?_]
   have et:=Zh6 (C:=CV<|d+1) (i:=3) (j:=2) (U:=[aa<|spV p n,aa v,aa<|.dow F,aa<|Zb r,a4,a5]) (s:=s) rfl rfl;by_cases c:F.contains r=ao
   .refine#[[aa<|spV p n,aa v,aa<|.dow F,aa<|Zb r,a4,a5],rfl,?_,λx hx=>hr x<|am _ hx,F,P,_,_,_,rfl,hF,?_]
    .rw[Zi (by rw[XJ<|Yv et rfl,c,T8 #[1],rvs]),rvs]
    .rw[du]at hf
     unfold UQ at hf;rw[T9 c]at hf;exact hf
   .have c:F.contains r=aj:=by simpa using c
    obtain⟨b4,b5,e2⟩:=yx d s hn hr0 F F (λo ho=>((hF.mem o).mp ho).1) #[20]
    refine#[[aa<|spV p n,aa v,aa<|.dow<|(jx p F r).foldl YW F,aa<|Zb r,b4,b5],rfl,?_,λx hx=>hr x<|am _ hx,(jx p F r).foldl YW F,XQ p P r,_,_,_,rfl,?_,?_]
    .rw[Zi (by
      rw[XJ<|Yv et rfl,c,T9 #[1],Zi (by
       rw[ZiV];show PR.bind (match pv #[15] (.blt .listD [(.v 2)]) [aa<|spV p n,aa v,ai,aa<|Zb r,a4,a5] s with
        |.ok v s=>.ok v s
        |.ex c s=>.ex c s
        |.no=>(pv #[15] (.blt .listD [(.v 2)]) [aa<|spV p n,aa v,aa<|.dow F,aa<|Zb r,a4,a5] s).bind λw s=>if(w.flat||true&&v7 w)=ao then PR.ok w s else .no) _=_
       have g1:pv #[15] (.blt .listD [(.v 2)]) [aa<|spV p n,aa v,ai,aa<|Zb r,a4,a5] s=.no:=by rw[Yq,pvs,pE2];rfl
       have g2:pv #[15] (.blt .listD [(.v 2)]) [aa<|spV p n,aa v,aa<|.dow F,aa<|Zb r,a4,a5] s=.ok (.lst<|F.map Zb) s:=by rw[Yq,Zc #[9] Zf];rfl
       rw[g1,g2];show PR.bind (if(aj||true&&Wd (F.map Zb))=ao then PR.ok (V.lst<|F.map Zb) s else .no) _=_
       rw[Go,T9 (show(aj||true&&ao)=ao from rfl),Za]
       exact e2),rvs]),rvs]
    .have:=hF.step hr0
     unfold UQ at this;rw[T8<|by rw[c];decide]at this
     exact this
    .rw[du]at hf
     unfold UQ at hf;rw[T8<|by rw[c];decide]at hf
     exact hf)
 obtain⟨_,F,P,a3,a4,a5,rfl,hF,hf⟩:=hI;rw[Zi e];refine Zj<|Zx ?_;subst hf;rw[Yq,Zc #[9] Zf,Za];have hb:=big hF;have ho:Yd (ZD p n R)=ao:=by
  unfold Yd;rw[aA,aA];refine#[#[T5 #[0],T5 hF.nd],aV.mpr λr hr=>?_]
  have:=((hF.mem r).mp hr).1.1;cases r with|nil=>simp at this;lia|cons _ _=>rfl
 show po (if Yd (ZD p n R)=ao then aa (V.lst<|(Zr<|ZD p n R).map Zb)else ai) s=_
 rw[T9 ho];rfl
theorem JO(d )(s )(hn:n<=6):CV (d+1) 43 [spV p n] s=.ok (.lst<|(units n).map Zb) s:=by
 refine Zo rfl #[1] rfl ?_
 show rvs (CV d) [] (.ret (.comp1 [0] 1 [0] (.rng1<|.ix (.v 0)<|.n 1) []<|.blt .tuple [(.comp1 [0] 1 [0] (.rng1<|.ix (.v 1)<|.n 1) []<|.blt .toInt [(.cmp .eq (.v 0)<|.v 1)])])::[]) [aa<|spV p n] [] s=_;have hc:=ZM (cap:=[0]) (nl:=1) (t:=[0]) (it:=.rng1<|.ix (.v 0)<|.n 1) (elt:=.blt .tuple [(.comp1 [0] 1 [0] (.rng1<|.ix (.v 1)<|.n 1) []<|.blt .toInt [(.cmp .eq (.v 0)<|.v 1)])]) (U:=[aa<|spV p n]) (g:=λj=>Zb<|Yg n j)
  (YR (ix1 rfl)<|by lia) (by rw[bf];unfold lim;lia) (λj hj=>by
   refine#[[aa<|Zs j,aa<|spV p n],rfl,?_];have hc:=ZM (cap:=[0]) (nl:=1) (t:=[0]) (it:=.rng1<|.ix (.v 1)<|.n 1) (elt:=.blt .toInt [(.cmp .eq (.v 0)<|.v 1)]) (U:=[aa<|Zs j,aa<|spV p n]) (g:=λi=>V.int (if i=j then 1 else 0))
    (YR (ix1 rfl)<|by lia) (by rw[bf];unfold lim;lia) (λi hi=>by
     refine#[[aa<|Zs i,aa<|Zs j],rfl,?_];have e:pv (CV d) (.cmp .eq (.v 0)<|.v 1) [aa<|Zs i,aa<|Zs j] s=.ok (.bl<|ag<|(i:Int)=j) s:=by
      rw[Yi,Ze rfl,Za,Ze rfl];rfl
     rw[Yq,Zc e Zf,Za];by_cases c:i=j
     .rw[T9 c,T5 #[0]];rfl
     .rw[T8 c,T4 #[0]];rfl)
   rw[Yq,Zc hc Zf,Za];unfold Yg Zb;rw[bL];rfl)
 refine Zj<|Zx ?_;rw[hc];unfold units;rw[bL];rfl
end
open Ab (okV Yo)
section
variable{C:ZN}{U:Env}{s s1 s2:DS}{a b:E}{x y:V}{xs ys:List V}
def ZP{i:Int}:pv C (.c<|.int i) U s=.ok (.int i) s:=by rw[pE1];rfl
theorem pick{i:E}{v:Int}(h1:pv C a U s=.ok (.lst xs) s1)(h2:pv C i U s1=.ok (.int v) s2)(h0:0<=v)(hv:v<xs.length):∃x,x∈xs/\pv C (.ix a i) U s=.ok x s2:=by
 obtain⟨k,rfl⟩:∃k:Nat,v=k:=#[v.toNat,by lia]
 have hk:k<xs.length:=by lia
 refine#[xs[k],aR hk,?_];rw[XZ,h1,Za,h2,Za];show po (at' xs (k:Int)) s2=_;rw[XY<|af hk];rfl
theorem ZfB{i:E}{v:Int}(h1:pv C a U s=.ok (.tup xs) s1)(h2:pv C i U s1=.ok (.int v) s2)(h0:0<=v)(hv:v<xs.length):pv C (.ix a i) U s=.ok (xs.getD v.toNat .non) s2:=by
 obtain⟨k,rfl⟩:∃k:Nat,v=k:=#[v.toNat,by lia]
 have hk:k<xs.length:=by lia
 rw[XZ,h1,Za,h2,Za];show po (at' xs (k:Int)) s2=_;rw[XY<|af hk,az,dN,af hk];rfl
theorem YA(d:Nat)(s:DS){m:Int}{U:Env}{i:Nat}{e:E}(hd:U[i]?=aa (aa .drw))(he:pv #[15] e U s=.ok (.int m) s)(h0:0<m)(h1:m<1000):∃v s',pv #[15] (.call 2 [(.v i),e]) U s=.ok (.int v) s'/\0<=v/\v<m:=by
 obtain⟨v,s',e1,b⟩:=UI s h0 #[0]
 exact#[v,s',Zu (Zc (Ze hd)<|Zc he Zf) e1,b]
theorem Yp(h1:pv C a U s=.ok (.tup xs) s)(h2:pv C b U s=.ok (.tup ys) s)(h:xs.length+ys.length<=1000):pv C (.bin .add a b) U s=.ok (.tup<|xs++ys) s:=by
 rw[pE7,h1,Za,h2,Za];show(if xs.length+ys.length<=lim then _ else _)=_
 rw[T9 #[20]]
def qA(h1:pv C a U s=.ok (.tup xs) s){k:Int}(h2:pv C b U s=.ok (.int k) s):pv C (.sl a ai<|aa b) U s=.ok (.tup<|Yj xs ai<|aa k) s:=by
 rw[ZhQ,h1,Za,pvo,Za,pvo,h2,Za];rfl
def UZ(h1:pv C a U s=.ok (.tup xs) s){k:Int}(h2:pv C b U s=.ok (.int k) s):pv C (.sl a (aa b) ai) U s=.ok (.tup<|Yj xs (aa k) ai) s:=by
 rw[ZhQ,h1,Za,pvo,h2,Za];rw[Za,pvo,Za];rfl
theorem YQ{lo hi:Option Int}:(Yj xs lo hi).length<=xs.length:=by
 unfold Yj;rw[bS,bH];lia
def ZaY(h:∀x∈xs,okV x=ao):Yo xs=ao:=by
 induction xs with
 |nil=>rfl
 |cons x xs ih=>
  show(okV x&&Yo xs)=ao;rw[h x<|ak ..,ih λy hy=>h y<|am _ hy];rfl
def WE{lo hi:Option Int}(h:Yo xs=ao):Yo (Yj xs lo hi)=ao:=
 ZaY λx hx=>Y9 h x<|cp<|dm hx
def V7(h:Yo xs=ao)(h2:Yo ys=ao):Yo (xs++ys)=ao:=
 ZaY λx hx=>by
  rcases bU.mp hx with z|z
  .exact Y9 h x z
  .exact Y9 h2 x z
def Ye(h:pv C a U s=.ok x s):pv C (.tup [a]) U s=.ok (.tup [x]) s:=by
 rw[pE3,Zc h Zf];rfl
def qB{B:Type}{ms:List Nat}{i:Nat}{it:W}{b:List Sm}{L:List B}{e:B->V}{q:B->Bool}{v:V}{U:Option V->Env}(o:Option V)(hw:pvw C it (hide []<|U o) s=.ok (L.map e) s)(hs:∀o x,(U o).set i (aa x)=U (aa x))(hb:∀x∈L,rvs C ms b (U<|aa<|e x) [] s=if q x=ao then .ok (.ret v) s else .ok (.nx (U<|aa<|e x) []) s) :
  (L.any q=ao->rv C ms (.forr [i] it b) (U o) [] s=.ok (.ret v) s)/\(L.any q=aj->∃o',rv C ms (.forr [i] it b) (U o) [] s=.ok (.nx (U o') []) s):=by
 rw[JL,hw,Za];clear hw
 induction L generalizing o with
 |nil=>exact#[λh=>(by cases h),λ_=>#[o,rfl]]
 |cons x L ih=>
  have ih:=ih (aa<|e x) λy hy=>hb y<|am _ hy
  have h1:=hb x<|ak ..;have step:Xm (λx U os s=>if(([i]:List Nat).any os.contains)=ao then .no else(po (Zq [i] x U) s).bind λU s=>rvs C ms b U os s) ((x::L).map e) (U o) [] s=if q x=ao then .ok (.ret v) s else Xm (λx U os s=>if(([i]:List Nat).any os.contains)=ao then .no else(po (Zq [i] x U) s).bind λU s=>rvs C ms b U os s) (L.map e) (U<|aa<|e x) [] s:=by
   rw[ba,Xm,T8 #[2]]
   show((PR.ok ((U o).set i<|aa<|e x) s).bind λU s=>rvs C ms b U [] s).bind _=_
   rw[Za,hs o<|e x,h1];cases q x<;>rfl
  rw[step,fz];cases hq:q x with
  |true=>exact#[λ_=>rfl,λh=>(by cases h)]
  |false=>
   rw[T8 #[2],lE]
   exact ih
theorem zO{Q:V->Prop}:∀{es:List E},(∀e∈es,∃v,pv C e U s=.ok v s/\Q v)->∃vs,pvs C es U s=.ok vs s/\vs.length=es.length/\∀v∈vs,Q v
 |[],_=>#[[],Zf,rfl,λ_ h=>by cases h]
 |e::es,h=>by
  obtain⟨v,e1,q1⟩:=h e<|ak ..;obtain⟨vs,e2,l2,q2⟩:=zO λe he=>h e<|am _ he
  refine#[v::vs,Zc e1 e2,by rw[aQ,aQ,l2],λu hu=>?_]
  rcases ay.mp hu with rfl|hu
  .exact q1
  .exact q2 u hu
end
section
variable{C:ZN}{U:Env}{s:DS}{a b:E}
def Jp{c:Bool}(h1:pv C a U s=.ok (.bl aj) s)(h2:pv C b U s=.ok (.bl c) s):pv C (.or a b) U s=.ok (.bl c) s:=by rw[Zey,h1];exact h2
def ZaM{c c':Bool}(h1:pv C a U s=.ok (.bl c) s)(h2:pv C b U s=.ok (.bl c') s):pv C (.and a b) U s=.ok (.bl<|c&&c') s:=by
 rw[Zcz,h1];cases c
 .rfl
 .exact h2
def Jy{c:Bool}(h1:pv C a U s=.ok (.bl c) s):pv C (.not a) U s=.ok (.bl !c) s:=by rw[pE9,h1];rfl
def uc{P Q:List Row}(h1:pv C a U s=.ok (Zh P) s)(h2:pv C b U s=.ok (Zh Q) s):pv C (.cmp .ne a b) U s=.ok (.bl !decide (P=Q)) s:=by
 rw[Yi,h1,Za,h2,Za];show po ((eqV Zz (Zh P)<|Zh Q).map λb=>V.bl !b) s=_
 rw[Zz,xQ];rfl
def Zeu{P Q:List Row}(h1:pv C a U s=.ok (Zh P) s)(h2:pv C b U s=.ok (Zh Q) s):pv C (.cmp .eq a b) U s=.ok (.bl<|ag<|P=Q) s:=by
 rw[Yi,h1,Za,h2,Za];show po ((eqV Zz (Zh P)<|Zh Q).map V.bl) s=_;rw[Zz,xQ];rfl
def vQ{P Q:List Row}(h1:pv C a U s=.ok (Zh P) s)(h2:pv C b U s=.ok (Zh Q) s)(h:P=Q):pv C (.cmp .ne a b) U s=.ok (.bl aj) s:=by
 rw[uc h1 h2,T5 h];rfl
def ZfD{c c':Bool}(h1:pv C a U s=.ok (.bl c) s)(h2:pv C b U s=.ok (.bl c') s)(h:c=c'):pv C (.cmp .ne a b) U s=.ok (.bl aj) s:=by
 subst h;rw[Yi,h1,Za,h2,Za];cases c<;>rfl
def Ys{f:Nat}{x y:E}{v w r:V}(h1:pv C x U s=.ok v s)(h2:pv C y U s=.ok w s)(h:C f [v,w] s=.ok r s):pv C (.call f [x,y]) U s=.ok r s:=Zu (Zc h1<|Zc h2 Zf) h
def W7{f:Nat}{x y z:E}{v w u r:V}(h1:pv C x U s=.ok v s)(h2:pv C y U s=.ok w s)(h3:pv C z U s=.ok u s)(h:C f [v,w,u] s=.ok r s):pv C (.call f [x,y,z]) U s=.ok r s:=Zu (Zc h1<|Zc h2<|Zc h3 Zf) h
def guard{ms:List Nat}{t:E}{x l:List Sm}(h:pv C t U s=.ok (.bl aj) s):rvs C ms (.ite t x []::l) U [] s=rvs C ms l U [] s:=by
 rw[Zi<|(XJ<|Yv h rfl).trans (by rw[T8 #[2],rvs])]
def Xd{P:List Row}(h1:pv C a U s=.ok (Zh P) s):pv C (.blt .len [a]) U s=.ok (.int P.length) s:=by
 rw[Yq,Zc h1 Zf,Za];show po (aa<|V.int (P.map Zb).length) s=_;rw[av];rfl
def Jo{x y:Int}(h1:pv C a U s=.ok (.int x) s)(h2:pv C b U s=.ok (.int y) s):pv C (.bin .add a b) U s=.ok (.int<|x+y) s:=by
 rw[pE7,h1,Za,h2,Za];rfl
def ne_int{x y:Int}(h1:pv C a U s=.ok (.int x) s)(h2:pv C b U s=.ok (.int y) s)(h:x=y):pv C (.cmp .ne a b) U s=.ok (.bl aj) s:=by
 rw[Yi,h1,Za,h2,Za];show PR.ok (V.bl !decide (x=y)) s=_;rw[T5 h];rfl
def Ul{x y:List V}(h1:pv C a U s=.ok (.lst x) s)(h2:pv C b U s=.ok (.lst y) s)(h:x.length+y.length<=lim):pv C (.bin .add a b) U s=.ok (.lst<|x++y) s:=by
 rw[pE7,h1,Za,h2,Za];show(if x.length+y.length<=lim then _ else _)=_
 rw[T9 h]
end
def zA{C:ZN}{ms os:List Nat}{U:Env}{s:DS}{B:Type}{t:List Nat}{it:W}{b:List Sm}{L:List B}{e:B->V}(I:List B->Env->Prop){s0:DS}(hw:pvw C it (hide os U) s=.ok (L.map e) s0)(hI:I L U)(ht:(t.any os.contains)=aj)
  (h:∀x l U s,I (x::l) U->∃ρ1 ρ' s',Zq t (e x) U=aa ρ1/\rvs C ms b ρ1 os s=.ok (.nx ρ' os) s'/\I l ρ') :
  ∃ρ' s',I [] ρ'/\rv C ms (.forr t it b) U os s=.ok (.nx ρ' os) s':=by
 rw[JL,hw,Za];clear hw
 induction L generalizing U s0 with
 |nil=>exact#[U,s0,hI,rfl]
 |cons x L ih=>
  obtain⟨ρ1,ρ',s',b1,b2,b3⟩:=h x L U s0 hI;obtain⟨ρ2,s2,c1,c2⟩:=ih b3;refine#[ρ2,s2,c1,?_];rw[ba,Xm,T8 (by rw[ht];simp),b1,ZW,Za,b2,Za]
  exact c2
section
variable{p n:Nat}[Base p]
def ju(d )(s )(hx:okV x=ao):CV (d+1) 14 [x,.int lo,.int hi] s=.ok (.bl<|isW x lo hi) s:=by
 refine Zo rfl #[1] rfl ?_
 rcases Zcn hx with⟨i,rfl⟩|⟨b,rfl⟩|⟨ha,no⟩
 .by_cases h:lo<=i
  .simp[YB,pvE,isW,Yz,Wc,h]
  .simp[YB,pvE,isW,Yz,Wc,h]
 .simp[YB,pvE,isW,Yz,Wc]
 .rw[Zb8 no]
  simp[YB,pvE,ha]
def uU(h:U[i]?=aa (aa x))(hx:okV x=ao):pv C (.not<|.isi (.v i) [.tuple]) U s=.ok (.bl (!match x with|.tup _=>ao|_=>aj)) s:=by
 have g:pv C (.isi (.v i) [.tuple]) U s=.ok (.bl (match x with|.tup _=>ao|_=>aj)) s:=by
  rw[Zix,Ze h,Za];rcases Qv hx with⟨xs,rfl⟩|⟨ha,no⟩
  .rfl
  .rw[ha]
   cases x<;>first|rfl|exact T7 rfl<|no _
 exact Jy g
theorem JB(h:U[i]?=aa (aa x))(hx:okV x=ao)(he:pv C e U s=.ok (.int n) s):(∃xs,x=.tup xs/\xs.length=n/\rvs C ms (.ite (.or (.not<|.isi (.v i) [.tuple])<|.cmp .ne (.blt .len [(.v i)]) e) #[12] []::l) U [] s=rvs C ms l U [] s)\/
  ((∀xs,x=.tup xs->xs.length≠n)/\rvs C ms (.ite (.or (.not<|.isi (.v i) [.tuple])<|.cmp .ne (.blt .len [(.v i)]) e) #[12] []::l) U [] s=.ok (.ret<|.bl aj) s):=by
 have g:=uU (C:=C) (s:=s) h hx;have fin:pv C (.or (.not<|.isi (.v i) [.tuple])<|.cmp .ne (.blt .len [(.v i)]) e) U s=.ok (.bl ao) s->rvs C ms (.ite (.or (.not<|.isi (.v i) [.tuple])<|.cmp .ne (.blt .len [(.v i)]) e) #[12] []::l) U [] s=.ok (.ret<|.bl aj) s:=λq=>by
  refine Zj ?_;rw[XJ<|Yv q rfl];exact Zj<|Zx (by rw[pE1];rfl)
 rcases Qv hx with⟨xs,rfl⟩|⟨_,no⟩
 .have e1:pv C (.cmp .ne (.blt .len [(.v i)]) e) U s=.ok (.bl !decide ((xs.length:Int)=n)) s:=by
   have:pv C (.blt .len [(.v i)]) U s=.ok (.int xs.length) s:=by rw[Yq,Zc (Ze h) Zf];rfl
   rw[Yi,this,Za,he];rfl
  by_cases c:xs.length=n
  .refine .inl #[xs,rfl,c,guard<|Jp g ?_]
   rw[e1,T5 #[0]];rfl
  .refine .inr #[λys z=>by cases z;exact c,fin<|Jp g ?_]
   rw[e1,T4 #[0]];rfl
 .refine .inr #[λxs z=>T7 z<|no xs,fin ?_]
  rw[Zey,g];cases x<;>first|rfl|exact T7 rfl<|no _
theorem Jx(d )(s )(hn:n<=6)(hx:okV x=ao):CV (d+2) 15 [spV p n,x] s=.ok (.bl<|Zv p n x) s:=by
 refine Zo rfl #[1] rfl ?_
 show rvs #[15] [] (.ite (.or #[21]<|.cmp .ne #[25]<|.ix (.v 0)<|.n 1) #[12] [] ::
  .ret (.blt .all [(.comp1 [0] 1 [0] #[30] []<|.call 14 [(.v 0),(.n 0),(.bin .sub (.ix (.v 1)<|.n 0)<|.n 1)])])::[]) [aa<|spV p n,aa x] [] s=_
 rcases JB (i:=1) (U:=[aa<|spV p n,aa x]) (e:=.ix (.v 0)<|.n 1) rfl hx (ix1 rfl)with⟨xs,rfl,hl,e⟩|⟨no,e⟩
 .rw[e]
  refine Zj<|Zx ?_;have hc:=ZM (C:=CV<|d+1) (cap:=[0]) (nl:=1) (t:=[0]) (it:=.of<|.v 1) (elt:=.call 14 [(.v 0),(.n 0),(.bin .sub (.ix (.v 1)<|.n 0)<|.n 1)]) (U:=[aa<|spV p n,aa<|.tup xs]) (s:=s) (e:=id)
   (by rw[wE7,iw];rfl) #[20] (λv hv=>#[[aa v,aa<|spV p n],rfl,by
    have e2:pv #[15] (.bin .sub (.ix (.v 1)<|.n 0)<|.n 1) [aa v,aa<|spV p n] s=.ok (.int<|(p:Int)-1) s:=by
     rw[pE7,ix0 rfl,Za,ZP];rfl
    exact Zu (Zc #[9]<|Zc ZP<|Zc e2 Zf)<|ju d s<|Y9 hx v hv])
  rw[Yq,Zc hc Zf];show po ((Z2<|xs.map λv=>V.bl<|isW v 0<|(p:Int)-1).map λbs=>V.bl<|bs.all id) s=_
  rw[Yx];show PR.ok (V.bl<|(xs.map λv=>isW v 0<|(p:Int)-1).all id) s=_
  unfold Zv;simp[hl]
 .rw[e]
  have:Zv p n x=aj:=by
   cases x with|tup xs=>show(ag (xs.length=n)&&_)=aj;rw[T4<|no xs rfl];rfl|_=>rfl
  rw[this]
theorem Wm:∀{xs:List V},xs.all (Zv p n)=ao->∃R:List Row,xs=R.map Zb/\∀r∈R,Zd p n r
 |[],_=>#[[],rfl,λ_ h=>by cases h]
 |x::xs,h=>by
  rw[fY,aA]at h;obtain⟨R,rfl,hR⟩:=Wm h.2;obtain⟨r,rfl,hr⟩:=GX h.1;refine#[r::R,rfl,λy hy=>?_]
  rcases ay.mp hy with rfl|hy
  .exact hr
  .exact hR y hy
def Zag{R:List Row}(hR:∀r∈R,Zd p n r):(R.map Zb).all (Zv p n)=ao:=aV.mpr λv hv=>by
 obtain⟨r,hr,rfl⟩:=aF.mp hv;exact Zf9<|hR r hr
def Xq(p n:Nat)(x:V):Bool:=match x with
 |.tup xs=>ag (xs.length=n)&&(xs.all (Zv p n)&&ag ((ZY p []<|(YE xs).getD []).length=n))
 |_=>aj
def qe(h:∀xs,x=.tup xs->xs.length≠n):Xq p n x=aj:=by
 cases x with|tup xs=>show(ag (xs.length=n)&&_)=aj;rw[T4<|h xs rfl];rfl|_=>rfl
def WZ(hl:R.length=n)(hR:∀r∈R,Zd p n r):Xq p n (.tup<|R.map Zb)=ag ((ZY p [] R).length=n):=by
 show(ag ((R.map Zb).length=n)&&((R.map Zb).all (Zv p n)&&ag ((ZY p []<|(YE<|R.map Zb).getD []).length=n)))=_;rw[av,T5 hl,Zag hR,YI];rfl
theorem Zal(d )(s )(hn:n<=6)(hx:okV x=ao):CV (d+6) 36 [spV p n,x] s=.ok (.bl<|Xq p n x) s:=by
 refine Zo rfl #[1] rfl ?_
 show rvs (CV<|d+5) [] (.asg [2,3] (.v 0) :: .ite (.or #[21]<|.cmp .ne #[25]<|.v 3) #[12] [] ::
  .ret (.and (.blt .all [(.comp1 [0] 1 [0] #[30] []<|.call 23 [(.v 1),(.v 0)])])<|.cmp .eq (.blt .len [(.call 35 [(.v 0),(.tup []),(.v 1)])])<|.v 3)::[]) [aa<|spV p n,aa x,ai,ai] [] s=_
 rw[Zi<|Y8 (p:=p) (n:=n) _ _ (by simp[pvE]) #[2]]
 show rvs (CV<|d+5) [] _ [aa<|spV p n,aa x,aa<|.int p,aa<|.int n] [] s=_;rcases JB (i:=1) (U:=[aa<|spV p n,aa x,aa<|.int p,aa<|.int n]) (e:=.v 3) rfl hx (Ze rfl)with⟨xs,rfl,hl,e⟩|⟨no,e⟩
 .rw[e]
  refine Zj<|Zx ?_;have hc:=ZM (cap:=[0]) (nl:=1) (t:=[0]) (it:=.of<|.v 1) (elt:=.call 23 [(.v 1),(.v 0)]) (U:=[aa<|spV p n,aa<|.tup xs,aa<|.int p,aa<|.int n]) (e:=id)
   (by rw[wE7,Ze rfl,Za,iw];rfl) #[20] (λv hv=>#[[aa v,aa<|spV p n],rfl,Zu (Zc #[9]<|Zc #[9] Zf)<|uX (d+3) s hn<|Y9 hx v hv])
  have ha:pv (CV<|d+5) (.blt .all [(.comp1 [0] 1 [0] #[30] []<|.call 23 [(.v 1),(.v 0)])]) [aa<|spV p n,aa<|.tup xs,aa<|.int p,aa<|.int n] s=.ok (.bl<|xs.all<|Zv p n) s:=by
   rw[Yq,Zc hc Zf,Za];show po ((Z2<|xs.map λv=>V.bl<|Zv p n v).map λbs=>V.bl<|bs.all id) s=_
   rw[Yx];show PR.ok (V.bl<|(xs.map<|Zv p n).all id) s=_;rw[kr];rfl
  cases q:xs.all (Zv p n)with
  |false=>
   rw[q]at ha;rw[Zcz,ha];show PR.ok (V.bl aj) s=_;have:Xq p n (.tup xs)=aj:=by
    show(ag (xs.length=n)&&(xs.all (Zv p n)&&_))=aj;rw[q,k6,mZ]
   rw[this]
  |true=>
   rw[q]at ha;obtain⟨R,rfl,hR⟩:=Wm q;rw[av]at hl;have e2:pv (CV<|d+5) (.call 35 [(.v 0),(.tup []),(.v 1)]) [aa<|spV p n,aa<|.tup<|R.map Zb,aa<|.int p,aa<|.int n] s=.ok (Zh<|ZY p [] R) s:=
    Zu (Zc #[9]<|Zc (by rw[pE3,pvs];rfl)<|Zc #[9] Zf) (Ja d s hn pZ.nil hR rfl)
   rw[WZ hl hR,Zcz,ha];show pv (CV<|d+5) (.cmp .eq (.blt .len [(.call 35 [(.v 0),(.tup []),(.v 1)])])<|.v 3) _ s=_;rw[Yi,Xd e2,Za,Ze rfl,Za];show PR.ok (V.bl<|ag<|((ZY p [] R).length:Int)=n) s=_
   congr 2
   exact decide_eq_decide.mpr #[λz=>by lia,λz=>by lia]
 .rw[e,qe no]
def XN(L ):(Zr L).length=L.length:=by
 have ins:∀x l,(YH x l).length=l.length+1:=λx l=>by
  induction l with|nil=>rfl|cons y l ih=>unfold YH;split<;>simp[ih]
 induction L with|nil=>rfl|cons x L ih=>show(YH x<|Zr L).length=_;rw[ins,ih];rfl
def yp(d )(s:DS)(hn:n<=6)(h1:1<=n)(hp:p^n<=1000)(hx:okV x=ao):CV (d+3) 45 [spV p n,x] s=.ok (.bl<|Xq p n x) s:=by
 refine Zo rfl #[1] rfl ?_
 let l2:List Sm:=[.ret<|.cmp .eq (.blt .len [(.call 8 #[16])])<|.blt .len [(.call 8 [(.v 0),(.call 43 [(.v 0)])])]]
 let l1:=.forr [2] #[30] [.ite #[33] #[12] []]::l2
 show rvs #[17] [] (.ite (.or #[21]<|.cmp .ne #[25]<|.ix (.v 0)<|.n 1) #[12] []::l1) [aa<|spV p n,aa x,ai] [] s=_;rcases JB (i:=1) (U:=[aa<|spV p n,aa x,ai]) (e:=.ix (.v 0)<|.n 1) rfl hx (ix1 rfl)with⟨xs,rfl,hl,e⟩|⟨no,e⟩
 .rw[e]
  obtain⟨g1,g2⟩:=qB (C:=CV<|d+2) (ms:=[]) (i:=2) (it:=.of<|.v 1) (b:=[.ite #[33] #[12] []]) (v:=.bl aj) (U:=λo=>[aa<|spV p n,aa<|.tup xs,o]) (s:=s) ai
   (by
    rw[wE7,Ze rfl,Za,iw];rfl) (λ_ _=>rfl) (λv hv=>by
    have e3:pv #[17] #[33] [aa<|spV p n,aa<|.tup xs,aa v] s=.ok (.bl !Zv p n v) s:=Jy<|Ys #[9] #[9]<|Jx d s hn<|Y9 hx v hv;show rvs _ _ _ [aa<|spV p n,aa<|.tup xs,aa v] [] s=if(!Zv p n v)=ao then _ else PR.ok (.nx [aa<|spV p n,aa<|.tup xs,aa v] []) s
    cases q:(!Zv p n v)with
    |true=>
     rw[q]at e3;rw[T9 rfl];refine Zj ?_;rw[XJ<|Yv e3 rfl,T9 rfl];exact Zj<|Zx (by rw[pE1];rfl)
    |false=>rw[q]at e3;rw[T8 #[1],guard e3,rvs])
  cases q:xs.all (Zv p n)with
  |false=>
   have:(xs.any λv=>!Zv p n v)=ao:=by
    rw[fG];simp[q]
   rw[show l1=.forr [2] #[30] [.ite #[33] #[12] []]::l2 from rfl,Zj<|g1 this]
   have:Xq p n (.tup xs)=aj:=by
    show(ag (xs.length=n)&&(xs.all (Zv p n)&&_))=aj;rw[q,k6,mZ]
   rw[this]
  |true=>
   have:(xs.any λv=>!Zv p n v)=aj:=by
    rw[fG];simp[q]
   obtain⟨o',g2⟩:=g2 this;obtain⟨R,rfl,hR⟩:=Wm q;rw[av]at hl;rw[ Zi g2];refine Zj<|Zx ?_;have u1:pv #[17] (.call 8 #[16]) [aa<|spV p n,aa<|.tup<|R.map Zb,o'] s=.ok (.lst<|(Zr<|ZD p n R).map Zb) s:=Ys #[9] #[9]<|Xe d s hn h1 hp hR rfl;have u2:pv #[17] (.call 43 [(.v 0)]) [aa<|spV p n,aa<|.tup<|R.map Zb,o'] s=.ok (.lst<|(units n).map Zb) s:=Zu (Zc #[9] Zf)<|JO (d+1) s hn;have u3:pv #[17] (.call 8 [(.v 0),(.call 43 [(.v 0)])]) [aa<|spV p n,aa<|.tup<|R.map Zb,o'] s=.ok (.lst<|(Zr<|ZD p n<|units n).map Zb) s:=Ys #[9] u2<|Xe d s hn h1 hp Z6 rfl
   have len:∀{e:E}{L:List Row},pv #[17] e [aa<|spV p n,aa<|.tup<|R.map Zb,o'] s=.ok (.lst<|(Zr L).map Zb) s->pv #[17] (.blt .len [e]) [aa<|spV p n,aa<|.tup<|R.map Zb,o'] s=.ok (.int L.length) s:=λ{e L} h=>by
    rw[Yq,Zc h Zf];show PR.ok (V.int ((Zr L).map Zb).length) s=_;rw[av,XN]
   have e4:pv #[17] (.cmp .eq (.blt .len [(.call 8 #[16])])<|.blt .len [(.call 8 [(.v 0),(.call 43 [(.v 0)])])]) [aa<|spV p n,aa<|.tup<|R.map Zb,o'] s=.ok (.bl<|ag<|((ZD p n R).length:Int)=((ZD p n<|units n).length:Nat)) s:=by
    rw[Yi,len u1,Za,len u3,Za];rfl
   rw[WZ hl hR,e4,decide_eq_decide.mpr<|Iff.trans #[λz=>Int.ofNat_inj.mp z,λz=>by rw[z]]<|ZaZ hn hR]
 .rw[e,qe no]
end
end K75
namespace Rw
open La
def YF(r:Row):Nat:=(hdI r).getD r.length
def ZZ(E:List Row):List Nat:=(aC 6).filter ((E.filter λr=>(hdI r).isSome).map YF).contains
def JZ(E:List Row)(h:Nat)(r:Row):Bool:=(ag (gt r h=1)&&ag (YF r=h))&&(ZZ E).all λk=>ag (k=h)||decide (gt r k=0)
def ZfL(E:List Row):List Row:=(ZZ E).flatMap λh=>E.filter<|JZ E h
def wK{l:List Row}(hn:l.Nodup)(hr:r∈l)(h:∀x∈l,q x=ao↔x=r):l.filter q=[r]:=by
 have hm:∀x,x∈l.filter q↔x=r:=λx=>by
  rw[bX];exact#[λz=>(h x z.1).mp z.2,λe=>by subst e;exact#[hr,(h x hr).mpr rfl]]
 have hd:=hn.filter q;generalize l.filter q=m at hm hd
 match m,hm,hd with
 |[],hm,_=>exact T7 ((hm r).mpr rfl) #[2]
 |[x],hm,_=>rw[(hm x).mp #[2]]
 |x::y::m,hm,hd=>
  have e1:=(hm x).mp #[2]
  have e2:=(hm y).mp #[2]
  subst e1;subst e2;simp at hd
theorem J4 :∀{l:List Row},(∀r∈l,g r=[r])->l.flatMap g=l
 |[],_=>rfl
 |r::l,h=>by
  rw[lD,h r<|ak ..,J4 λx hx=>h x<|am _ hx];rfl
section
variable{p n:Nat}[Base p]
def WI(h:hdI r=aa k):YF r=k:=by unfold YF;rw[h];rfl
def ZdO(hn:n<=6)(h:HasK p n F P)(hE:E.Perm F):ZfL E=P:=by
 have hF:=λx=>hE.mem_iff.trans<|h.mem x
 have hP:=h.part;have hp:∀r∈P,r∈E/\∃k,hdI r=aa k/\k<n/\gt r k=1:=λr hr=>by
  obtain⟨k,h1,h2,h3⟩:=hP.head (fld).one0 hr;exact#[(hF r).mpr #[hP.row r hr,zM hP hr],k,h1,h2,(Qi<|hP.row r hr).mp h3]
 have hpl:ZZ E=Zt P:=by
  refine zH (mB.filter _) ?_ λk=>?_
  .have:=hP.pn.rf.heads
   rwa[XG]at this
  .unfold ZZ
   rw[bX,aI,c8,aF];unfold Zt;rw[aF]
   constructor
   .rintro ⟨_,r,hr,rfl⟩
    obtain⟨hr,hs⟩:=bX.mp hr;obtain⟨k,hk⟩:=bQ.mp hs;obtain⟨a,b⟩:=(hF r).mp hr;obtain⟨e1,_,e2⟩:=Z4 hk;obtain⟨c,hc,ec⟩:=yq hP.pn.rf ((ZK hP a).mp b) (λz=>e1<|(Z8 a).mp z) λj hj=>(Z8 a).mpr<|e2 j hj
    obtain⟨q,hq,rfl⟩:=aF.mp hc;exact#[q,hq,by rw[WI hk];exact ec]
   .rintro ⟨r,hr,rfl⟩
    obtain⟨h1,k,h2,h3,_⟩:=hp r hr;exact#[by rw[h2];show k<6;omega,r,bX.mpr #[h1,by rw[h2];rfl],by rw[WI h2,h2];rfl]
 unfold ZfL;have e:Zt P=P.map λr=>(hdI r).getD 0:=rfl
 rw[hpl,e,List.flatMap_map];refine J4 λr hr=>?_
 obtain⟨h1,k,h2,h3,h4⟩:=hp r hr;rw[h2];show E.filter (JZ E k)=[r];have ir:=hP.row r hr;have ra:=Yl (p:=p) hr;rw[h2]at ra;refine wK (hE.nodup_iff.mpr h.nd) h1 λx hx=>?_
 unfold JZ;rw[aA,aA,T0,T0,aV,hpl]
 constructor
 .rintro ⟨⟨g1,g2⟩,g3⟩
  obtain⟨a,b⟩:=(hF x).mp hx;refine YC a ir ?_
  funext j
  have hj:toV p r j=pr (toP p P) (toV p r) j:=X5 hP.pn.rf ra j;rw[((ZK hP a).mp b) j,hj];refine yU (λc hc=>?_) j
  obtain⟨q,hq,rfl⟩:=aF.mp hc;obtain⟨_,i,i2,i3,i4⟩:=hp q hq;rw[i2];show toV p x i=toV p r i;have hi:i∈Zt P:=aF.mpr #[q,hq,by rw[i2];rfl]
  rcases(gY _ _).mp (g3 i hi)with z|z
  .have z:=T6 z
   subst z;unfold toV;rw[g1,h4]
  .have z:=T6 z
   by_cases c:i=k
   .subst c;rw[g1]at z;cases z
   .have qa:=Yl (p:=p) hq
    rw[i2]at qa;have zz:toV p r i=0:=hP.pn.rf.zer _ qa _ ra λe=>c e
    rw[zz];exact(Z8 a).mpr z
 .rintro rfl
  refine#[#[h4,WI h2],λi hi=>?_]
  obtain⟨q,hq,rfl⟩:=aF.mp hi;obtain⟨_,i,i2,i3,i4⟩:=hp q hq;rw[i2];show(ag (i=k)||decide (gt x i=0))=ao;by_cases c:i=k
  .rw[T5 c];rfl
  .have qa:=Yl (p:=p) hq
   rw[i2]at qa;have zz:toV p x i=0:=hP.pn.rf.zer _ qa _ ra λe=>c e
   rw[T5<|(Z8 ir).mp zz,Bool.or_true]
def jy{E F P:List Row}(hn:n<=6)(h:HasK p n F P)(hE:E.Perm F):∀k∈ZZ E,k<n:=λk hk=>by
 obtain⟨_,hk⟩:=bX.mp hk;obtain⟨r,hr,rfl⟩:=aF.mp<|c8.mp hk;obtain⟨hr,hs⟩:=bX.mp hr;obtain⟨k,e⟩:=bQ.mp hs;have:=((h.mem r).mp<|hE.mem_iff.mp hr).1.1;rw[WI e];have:=(Z4 e).2.1;omega
def jd(hR:∀r∈R,Zd p n r):ZY p [] R=R↔pZ p n R:=
 #[λe=>by rw[<-e];exact(Yh hR).part,λh=>Uq h]
end
end Rw
namespace K75
open Ev Pv Rw La
open Ab (okV Yo)
theorem UM:∀r:Row,Z2 (r.map V.int)=aa (r.map λa=>ag<|a≠0)
 |[]=>rfl
 |a::r=>by rw[ba,Z2,UM r];rfl
theorem ZbY:∀r:Row,(r.map λa=>ag<|a≠0).any id=(hdI r).isSome
 |[]=>rfl
 |a::r=>by
  rw[ba,fz,ZbY r,hdI];by_cases c:a=0
  .subst c
   rw[T8 #[2]]
   cases hdI r<;>rfl
  .rw[T9 c,T5 c];rfl
def Zfb{C:ZN}{U:Env}{i:Nat}{r:Row}(s:DS)(h:U[i]?=aa (aa<|Zb r)):pv C (.blt .any [(.v i)]) U s=.ok (.bl (hdI r).isSome) s:=by
 rw[Yq,Zc (Ze h) Zf,Za];show po ((Z2<|r.map V.int).map λbs=>V.bl<|bs.any id) s=_
 rw[UM];show PR.ok (V.bl _) s=_;rw[ZbY]
def jC(r:Row):(((aC r.length).filter λk=>ag<|gt r k≠0)++[r.length])[0]?=aa (YF r):=by
 unfold YF;cases q:hdI r with
 |none=>
  rw[mD.mpr λk _=>by simp[Xa q k]];rfl
 |some k=>
  obtain⟨a,b,c⟩:=Z4 q;have f:(aC r.length).find? (λj=>ag<|gt r j≠0)=aa k:=vb b a c
  rw[<-List.head?_filter]at f;generalize (aC r.length).filter (λj=>ag<|gt r j≠0)=l at f
  cases l with|nil=>cases f|cons x l=>cases f;rfl
def xC(d:Nat){r:Row}(s:DS)(hl:r.length<=1000):CV (d+1) 4 [Zb r] s=.ok (Zs<|YF r) s:=by
 refine Zo rfl #[1] rfl ?_
 show rvs (CV d) [] UR.body [aa<|Zb r] [] s=_;have el:pv (CV d) (.blt .len [(.v 0)]) [aa<|Zb r] s=.ok (.int r.length) s:=by
  rw[Yq,Zc #[9] Zf,Za];show po (aa<|V.int (r.map V.int).length) s=_;rw[av];rfl
 have hc:=YV (cap:=[0]) (nl:=1) (t:=[0]) (tst:=.cmp .ne (.ix (.v 1)<|.v 0)<|.n 0) (elt:=.v 0) (q:=λk=>ag<|gt r k≠0)
  (YR el<|by lia) (by rw[bf];unfold lim;lia) (λk hk=>by
   have hk:=aI.mp hk;refine#[[aa<|Zs k,aa<|Zb r],.bl<|!decide (gt r k=0),rfl,?_,?_,λ_=>Ze rfl]
   .rw[Yi,Ue rfl rfl hk,Za,ZP,Za];rfl
   .simp[Zy])
 refine Zj<|Zx ?_;have e2:pv (CV d) (.lst [(.blt .len [(.v 0)])]) [aa<|Zb r] s=.ok (.lst [Zs r.length]) s:=by
  rw[pE4,Zc el Zf,Za];rfl
 rw[XZ,Ul hc e2 (by
  have:=eS (λk=>ag<|gt r k≠0)<|aC r.length
  rw[bf]at this;rw[av,fZ];unfold lim;lia),Za,ZP,Za]
 show po (at' _ ((0:Nat):Int)) s=_;rw[XY (by
  have:=jC r;rw[show[Zs r.length]=[r.length].map Zs from rfl,<-bE,aK,this];rfl)];rfl
theorem QU:∀l:List Nat,(∀k∈l,k<6)->Vq (l.map Zs)=aa l
 |[],_=>rfl
 |k::l,h=>by
  have hk:=h k<|ak ..;show(if 0<=(k:Int)/\(k:Int)<6 then(Vq<|l.map Zs).map ((k:Int).toNat :: ·)else ai)=_
  rw[T9 #[by lia,by lia],QU l λx hx=>h x<|am _ hx];rfl
def jb{q q':Nat->Bool}(l:List Nat)(h:∀k∈l,q' k = !q k):((l.filter q).map Zs).isEmpty=l.all q':=by
 induction l with
 |nil=>rfl
 |cons k l ih=>
  rw[fY,<-ih λx hx=>h x<|am _ hx,h k<|ak ..,gH]
  cases q k<;>rfl
def ZgG{C:ZN}{a:E}{U:Env}{s:DS}{xs:List V}(h:pv C a U s=.ok (.lst xs) s):pv C (.cmp .eq a<|.lst []) U s=.ok (.bl xs.isEmpty) s:=by
 have e2:pv C (.lst []) U s=.ok (.lst []) s:=by rw[pE4,Zf];rfl
 rw[Yi,h,Za,e2,Za];cases xs<;>rfl
theorem UA{q:Row->Bool}:∀(l F:List Row),l.foldl (λF r=>if q r=ao then F++[r]else F) F=F++l.filter q
 |[],F=>by simp
 |r::l,F=>by
  rw[du,UA l,gH];cases q r<;>simp
section
variable{p n:Nat}[Base p]
theorem Zaa(d:Nat){E F:List Row}{h:Nat}{r:Row}(s:DS)(hn:n<=6)(hr:Zd p n r)(hpl:∀k∈ZZ E,k<n)(hh:h<n)(hl:F.length<lim) :
  rvs #[15] [3] [.ite (.and (.cmp .eq (.ix (.v 5)<|.v 4)<|.n 1)<|.cmp .eq (.call 4 [(.v 5)])<|.v 4) [.ite (.cmp .eq (.comp1 [4,5] 1 [0] (.of<|.v 2) [(.and (.cmp .ne (.v 0)<|.v 1)<|.cmp .ne (.ix (.v 2)<|.v 0)<|.n 0)]<|.v 0)<|.lst []) [.ex<|.mt .append (.v 3) [(.v 5)]] []] []] [aa<|spV p n,aa<|.lst<|E.map Zb,aa<|.lst<|(ZZ E).map Zs,aa<|.lst<|F.map Zb,aa<|Zs h,aa<|Zb r] [3] s
   = .ok (.nx [aa<|spV p n,aa<|.lst<|E.map Zb,aa<|.lst<|(ZZ E).map Zs,aa<|.lst<|(if JZ E h r=ao then F++[r]else F).map Zb,aa<|Zs h,aa<|Zb r] [3]) s:=by
 generalize hρ:[aa<|spV p n,aa<|.lst<|E.map Zb,aa<|.lst<|(ZZ E).map Zs,aa<|.lst<|F.map Zb,aa<|Zs h,aa<|Zb r]=U;have g4:U[4]?=aa (aa<|Zs h):=by rw[<-hρ];rfl
 have g5:U[5]?=aa (aa<|Zb r):=by rw[<-hρ];rfl
 have a1:pv #[15] (.cmp .eq (.ix (.v 5)<|.v 4)<|.n 1) U s=.ok (.bl<|ag<|gt r h=1) s:=by
  rw[Yi,Ue g5 g4 (by rw[hr.1];exact hh),Za,ZP,Za];rfl
 have a2:pv #[15] (.cmp .eq (.call 4 [(.v 5)])<|.v 4) U s=.ok (.bl<|ag<|YF r=h) s:=by
  rw[Yi,Zu (Zc (Ze g5) Zf) (xC d s (by rw[hr.1];lia)),Za,Ze g4,Za]
  show PR.ok (V.bl<|ag<|(YF r:Int)=h) s=_
  congr 2
  exact decide_eq_decide.mpr #[λz=>by lia,λz=>by lia]
 have t1:=ZaM a1 a2;have hc:=YV (C:=CV<|d+1) (cap:=[4,5]) (nl:=1) (t:=[0]) (it:=.of<|.v 2) (tst:=.and (.cmp .ne (.v 0)<|.v 1)<|.cmp .ne (.ix (.v 2)<|.v 0)<|.n 0) (elt:=.v 0) (U:=U) (s:=s)
  (by rw[wE7,Ze (by rw[<-hρ];rfl)];rfl) (by
   have:=eS ((E.filter λr=>(hdI r).isSome).map YF).contains<|aC 6
   rw[bf]at this;unfold ZZ lim;lia) (λk hk=>by
   have hk:=hpl k hk;refine#[[aa<|Zs k,aa<|Zs h,aa<|Zb r],.bl<|!decide (k=h) && !decide (gt r k=0),by rw[<-hρ];rfl,?_,rfl,λ_=>Ze rfl]
   refine ZaM ?_ ?_
   .rw[Yi,Ze rfl,Za,Ze rfl,Za]
    show PR.ok (V.bl<|!decide ((k:Int)=h)) s=_
    congr 3
    exact decide_eq_decide.mpr #[λz=>by lia,λz=>by lia]
   .rw[Yi,Ue rfl rfl (by rw[hr.1];exact hk),Za,ZP,Za];rfl)
 have t2:=ZgG hc;rw[jb (q':=λk=>ag (k=h)||decide (gt r k=0)) _ λk _=>by simp]at t2
 have ef:JZ E h r=((ag (gt r h=1)&&ag (YF r=h))&&(ZZ E).all λk=>ag (k=h)||decide (gt r k=0)):=rfl
 have stay:∀{t:Ev.E}{x:List Sm},pv #[15] t U s=.ok (.bl aj) s->rvs #[15] [3] [.ite t x []] U [3] s=.ok (.nx U [3]) s:=λ{t x} z=>by
  rw[Zi (by rw[XJ<|Yv z rfl,T8 #[1],rvs]),rvs]
 have into:∀{t:Ev.E}{x:List Sm}{R:PR FlV},pv #[15] t U s=.ok (.bl ao) s->rvs #[15] [3] x U [3] s=R->rvs #[15] [3] [.ite t x []] U [3] s=R:=λ{t x R} z w=>by
  rw[rvs,XJ<|Yv z rfl,T9 rfl,w];cases R with|ok f s=>cases f<;>simp[PR.bind,rvs]|_=>rfl
 cases q1:(ag (gt r h=1)&&ag (YF r=h))with
 |false=>
  rw[q1]at t1;rw[ef,q1,k6,T8 #[1],hρ]
  exact stay t1
 |true=>
  rw[q1]at t1;rw[ef,q1,Bool.true_and];refine into t1 ?_;cases q2:(ZZ E).all λk=>ag (k=h)||decide (gt r k=0)with
  |false=>
   rw[q2]at t2;rw[T8 #[1],hρ]
   exact stay t2
  |true=>
   rw[q2]at t2;rw[T9 rfl];refine into t2 ?_;rw[Zi (ρ':=U.set 3<|aa<|.lst<|(F++[r]).map Zb) (by
    rw[Zdx,T9<|show([3]:List Nat).contains 3=ao from rfl,show ZcP U[3]?=aa (F.map Zb) by rw[<-hρ];rfl,ZW,Za,Ze g5,Za,T9 #[WC r,by rw[av];exact hl],bE];rfl),rvs,<-hρ]
   rfl
theorem Jm(d:Nat){E F P:List Row}(s:DS)(hn:n<=6)(hK:HasK p n F P)(hE:E.Perm F)(hl:E.length<=1000):CV (d+2) 5 [spV p n,.lst<|E.map Zb] s=.ok (Zh P) s:=by
 have hpl:=jy hn hK hE;have hR:=λr hr=>((hK.mem r).mp<|hE.mem_iff.mp hr).1
 have hF:=ZdO hn hK hE;refine Zo rfl #[1] rfl ?_
 show rvs #[15] [3] Wk.body [aa<|spV p n,aa<|.lst<|E.map Zb,ai,ai,ai,ai] [] s=_
 dsimp only[Wk]
 have hc:=YV (cap:=[]) (nl:=1) (t:=[0]) (it:=.of<|.v 1) (tst:=.blt .any [(.v 0)]) (elt:=.call 4 [(.v 0)]) (U:=[aa<|spV p n,aa<|.lst<|E.map Zb,ai,ai,ai,ai])
  (by rw[wE7,Ze rfl];rfl) #[20] (λr hr=>#[[aa<|Zb r],.bl (hdI r).isSome,rfl,Zfb s rfl,rfl,λ_=>Zu (Zc #[9] Zf)<|xC d s (by rw[(hR r hr).1];lia)])
 have e1:pv #[15] (.blt .sortedS [(.comp1 [] 1 [0] #[30] [(.blt .any [(.v 0)])]<|.call 4 [(.v 0)])]) [aa<|spV p n,aa<|.lst<|E.map Zb,ai,ai,ai,ai] s=.ok (.lst<|(ZZ E).map Zs) s:=by
  rw[Yq,Zc hc Zf,Za,show(E.filter λr=>(hdI r).isSome).map (λr=>Zs<|YF r)=((E.filter λr=>(hdI r).isSome).map YF).map Zs by rw[bL];rfl]
  show po ((Vq _).map λks=>V.lst (((aC 6).filter ks.contains).map λk:Nat=>.int k)) s=_
  rw[QU _ λk hk=>by
   obtain⟨r,hr,rfl⟩:=aF.mp hk;obtain⟨hr,hs⟩:=bX.mp hr;obtain⟨k,e⟩:=bQ.mp hs;rw[WI e];have:=(Z4 e).2.1;have:=(hR r hr).1;lia]
  rfl
 rw[Zi<|ZC e1 rfl];rw[Zi (ρ':=[aa<|spV p n,aa<|.lst<|E.map Zb,aa<|.lst<|(ZZ E).map Zs,aa<|.lst<|([]:List Row).map Zb,ai,ai]) (os':=[3]) (by
  rw[rE1];show PR.bind (pv _ (.lst []) _ s) _=_;rw[pE4,Zf];rfl)]
 have lP:P.length<=1000:=by have:=hK.part;have:=dsum this;lia
 obtain⟨ρ',hI,e⟩:=Qe (C:=CV<|d+1) (os:=[3]) (t:=[4]) (it:=.of<|.v 2) (s:=s)
  (λl U=>(∀k∈l,k<n)/\∃F a4 a5,U=[aa<|spV p n,aa<|.lst<|E.map Zb,aa<|.lst<|(ZZ E).map Zs,aa<|.lst<|F.map Zb,a4,a5]/\F++(l.flatMap λh=>E.filter<|JZ E h)=P) (by
   rw[wE7,Ze rfl];rfl) #[hpl,[],ai,ai,rfl,hF] rfl (λh l U hI=>by
   obtain⟨hh,F,a4,a5,rfl,hf⟩:=hI;have h0:=hh h<|ak ..;have lF:F.length<=1000:=by have:=congrArg ig hf;rw[aU]at this;lia
   obtain⟨b5,_,e5⟩:=uo (C:=CV<|d+1) (os:=[3]) (t:=[5]) (it:=.of<|.v 1) (U:=λF x=>[aa<|spV p n,aa<|.lst<|E.map Zb,aa<|.lst<|(ZZ E).map Zs,aa<|.lst<|F.map Zb,aa<|Zs h,x]) (st:=F) (s:=s)
    (λl F=>(∀r∈l,Zd p n r)/\F.length+l.length<lim) (by
     rw[wE7,Ze rfl];rfl) #[hR,by unfold lim;lia] rfl (λr l F x hI=>by
     obtain⟨i1,i2⟩:=hI;rw[aQ]at i2;refine#[#[λq hq=>i1 q<|am _ hq,?_],by rw[WC];rfl,[aa<|spV p n,aa<|.lst<|E.map Zb,aa<|.lst<|(ZZ E).map Zs,aa<|.lst<|F.map Zb,aa<|Zs h,aa<|Zb r],aa<|Zb r,rfl,Zaa d s hn (i1 r<|ak ..) hpl h0 #[0]]
     split
     .rw[aU,fZ];lia
     .lia)
   rw[UA]at e5;refine#[rfl,[aa<|spV p n,aa<|.lst<|E.map Zb,aa<|.lst<|(ZZ E).map Zs,aa<|.lst<|F.map Zb,aa<|Zs h,a5],_,rfl,by rw[Zi e5,rvs],λk hk=>hh k<|am _ hk,_,_,_,rfl,?_]
   rw[lD,<-bG]at hf;exact hf)
 obtain⟨_,F,a4,a5,rfl,hf⟩:=hI;rw[List.flatMap_nil,cr]at hf;subst hf;rw[Zi e];refine Zj<|Zx ?_;rw[Yq,Zc #[9] Zf];rfl
end
end K75
namespace Ab
open Ev Pv
end Ab
namespace Lv
open Ev Pv
noncomputable def Q2:Fn:=#[2,2,[.ite (.cmp .lt (.v 1)<|.blt .len [(.v 0)]) [.ret<|.ix (.v 0)<|.v 1] [],.ret<|.n 0]]
noncomputable def Qm(c:Nat):Fn:=#[2,3,[.asg [2]<|.call c #[16],.ite (.cmp .ge (.v 2)<|.bin .pow (.n 10)<|.n 18) [.ret<|.lst [(.bin .sub (.v 2)<|.bin .pow (.n 10)<|.n 18),(.c<|.bl ao)]] [],.ret<|.lst [(.bin .mod (.v 2)<|.n 2147483647),(.c<|.bl aj)]]]
noncomputable def vo(nn:Nat)(M:Int)(st:Nat)(B:List Sm)(r:E):Fn:=#[1,nn,[.forr [1] (.rng1<|.blt .max2 [(.n 1),(.blt .min2 [(.blt .len [(.v 0)]),(.c<|.int M)])]) [.cel 2 st #[16] B],.ret r]]
def Zd1(ht:ca≠tk)(hC:F[ca]?=aa Q2)(d)(k0:0<=k):∃c,Zl F tk (d+1) ca [.scr ns,.int k] s=.ok (.int c) s:=by
 by_cases c:k<ns.length
 .have hk:k.toNat<ns.length:=by lia
  refine#[ns[k.toNat],?_];simp[Zl,ht,hC,Q2,rvs,rE9,zc,pvs,pE1,pE2,Yi,XZ,Yq,YS,PR.bind,po,ZQ,Y3,int2,X3,Jk,YJ,Zy,ixV,at',ixN,k0,c,hk,ofD]
 .refine#[0,?_]
  simp[Zl,ht,hC,Q2,rvs,rE9,zc,pvs,pE1,pE2,Yi,XZ,Yq,YS,PR.bind,po,ZQ,Y3,int2,X3,Jk,YJ,Zy,ixV,at',ixN,k0,c,ofD]
def Zaj(ht:ca≠tk)(hts:st≠tk)(hC:F[ca]?=aa Q2)(hS:F[st]?=aa (Qm ca))(d:Nat)(k0:0<=k):∃v d0,Zl F tk (d+2) st [.scr ns,.int k] s=.ok v s/\Jt v=aa d0/\okS d0.1 d0.2=ao:=by
 obtain⟨c,e⟩:=Zd1 ht hC (s:=s) (ns:=ns) d k0;rw[Zl,T8 hts,hS]
 generalize Zl F tk (d+1)=C at e ⊢;by_cases h:10^18<=c
 .have h':(1000000000000000000:Int)<=c:=by simpa using h
  have o:okS (c-1000000000000000000) ao=ao:=by simp[okS];lia
  refine#[.lst [.int<|c-1000000000000000000,.bl ao],(c-1000000000000000000,ao),?_,by simp[Jt,o],o]
  simp[Qm,rvs,rE1,rE9,zc,pvA,pvs,pE1,pE2,pE4,pE7,Yi,Zc7,YS,PR.bind,po,ZQ,Y3,int2,Zy,ofD,VY,Pv.UX,e,h',yh,JR,Zbv,Zbl,Zbu,lim]
 .have h':¬(1000000000000000000:Int)<=c:=by simpa using h
  have o:okS (c%2147483647) aj=ao:=by simp[okS];lia
  refine#[.lst [.int<|c%2147483647,.bl aj],(c%2147483647,aj),?_,by simp[Jt,o],o]
  simp[Qm,rvs,rE1,rE9,zc,pvA,pvs,pE1,pE2,pE4,pE7,Yi,Zc7,YS,PR.bind,po,ZQ,Y3,int2,Zy,ofD,VY,Pv.UX,e,h',yh,JR,Zbv,Zbl,Zbu,lim]
theorem xR(P:Env->Prop):∀xs,(∀x∈xs,∀U s,P U->∃ρ' s',P ρ'/\body x U [] s=.ok (.nx ρ' []) s')->∀U s,P U->∃ρ' s',P ρ'/\Xm body xs U [] s=.ok (.nx ρ' []) s'
 |[],_,U,s,h=>#[U,s,h,rfl]
 |x::xs,hb,U,s,h=>by
  obtain⟨ρ1,s1,h1,e1⟩:=hb x (ak ..) U s h;obtain⟨ρ2,s2,h2,e2⟩:=xR P xs (λy hy=>hb y<|am _ hy) ρ1 s1 h1
  refine#[ρ2,s2,h2,?_];rw[Xm,e1];exact e2
def hide_nil :hide [] U=U:=by
 unfold hide;apply cc
 intro i;rw[iZ];cases U[i]?<;>rfl
def Zc8(h0:U[0]?=aa (aa<|.scr ns))(h1:U[1]?=aa (aa<|.int k))(hl:U.length=nn+3):(V3 2 U).set 2 (aa .drw)=aa (.scr ns)::aa (.int k)::aa .drw::ax nn ai:=by
 match U,h0,h1,hl with
 |a::b::l,h0,h1,hl=>
  cases h0;cases h1;have:l.length=nn+1:=by simpa using hl
  unfold V3;simp[JT,V.flat,this,cI]
def law_ofR{r:E}(d:Nat)(ht:ca≠tk)(hts:st≠tk)(htl:L≠tk)(hC:F[ca]?=aa Q2)(hS:F[st]?=aa (Qm ca))(hL:F[L]?=aa (vo (nn+3) M st B r))(hM:M<2^62)(hr:∀U s,pv (Zl F tk<|d+2) r U s=.ok (.bl ao) s)
  (hv:∀o (k:Nat) (s:DS),∃U os s',rvs (Zl F tk<|d+2) (muts B) B (o::aa (.int k)::aa .drw::ax nn ai) [] s=.ok (.nx U os) s'/\U[0]?=aa o/\U.length=nn+3)(ns:List Int)(s:DS) :
  ∃S,Zl F tk (d+3) L [.scr ns] s=.ok (.bl ao) S:=by
 rw[show d+3=(d+2)+1 from rfl,Zl,T8 htl,hL]
 have hst:=λk (k0:0<=k) s=>Zaj ht hts hC hS (s:=s) (ns:=ns) (k:=k) d k0
 generalize Zl F tk (d+2)=C at hv hst hr ⊢;have hR:=hr;clear hr;have hr:∃m,pvw C (.rng1<|.blt .max2 [(.n 1),(.blt .min2 [(.blt .len [(.v 0)]),(.c<|.int M)])]) (ZQ (nn+3) [.scr ns]) s=.ok (Yb 0 m) s:=by
  have e:pv C (.blt .max2 [(.n 1),(.blt .min2 [(.blt .len [(.v 0)]),(.c<|.int M)])]) (ZQ (nn+3) [.scr ns]) s=.ok (.int<|if(if M<(ns.length:Int)then M else(ns.length:Int))>1 then(if M<(ns.length:Int)then M else(ns.length:Int))else 1) s:=by
   simp[pE1,pE2,Yq,pvs,PR.bind,po,ZQ,ofD,X3,Jk,blt2,jh,YJ]
  rw[wE1,e];refine#[_,(T9 ?_ :)];unfold Va;refine T5 ?_;split<;>split<;>lia
 obtain⟨m,hr⟩:=hr;have hm:muts (vo (nn+3) M st B r).body=muts B:=(cr _).trans<|cr _;simp only[hm];show ∃S,(if 1=1 then _ else _)=_
 rw[T9 rfl];unfold vo;simp only;rw[rvs,JL,hide_nil,hr]
 let body:=λx U os s=>if([1].any os.contains)=ao then .no else(po (Zq [1] x U) s).bind λU s=>rvs C (muts B) [.cel 2 st #[16] B] U os s
 have hb:∀x∈Yb 0 m,∀U s,(U[0]?=aa (aa<|.scr ns)/\U.length=nn+3)->∃ρ' s',(ρ'[0]?=aa (aa<|.scr ns)/\ρ'.length=nn+3)/\body x U [] s=.ok (.nx ρ' []) s':=by
  intro x hx U s #[h0,hl];unfold Yb at hx;obtain⟨k,_,rfl⟩:=aF.mp hx;rw[Int.zero_add];obtain⟨v,d0,e1,e2,e3⟩:=hst (k:Int) #[0] s
  obtain⟨ρ2,os2,s2,e4,h2,l2⟩:=hv (aa<|.scr ns) k d0;have q0:(U.set 1<|aa<|.int (k:Int))[0]?=aa (aa<|.scr ns):=by rw[bc #[1]];exact h0
  have q1:(U.set 1<|aa<|.int (k:Int))[1]?=aa (aa<|.int (k:Int)):=bg #[0]
  have ql:(U.set 1<|aa<|V.int (k:Int)).length=nn+3:=by rw[bD];exact hl
  have a:pvs C #[16] (U.set 1<|aa<|.int (k:Int)) s=.ok [.scr ns,.int (k:Int)] s:=by
   simp only[pvs,pE2,q0,q1,PR.bind,po,Option.join];rfl
  refine#[ρ2.map JT,s,#[by rw[aK,h2];rfl,by rw[av];exact l2],?_]
  show(rvs C (muts B) [.cel 2 st #[16] B] (U.set 1<|aa<|.int (k:Int)) [] s)=_;rw[rvs,Zis,T9 #[7],a]
  show PR.bind (PR.bind (C st [.scr ns,.int (k:Int)] s) _) _=_;rw[e1];show PR.bind (PR.bind (po (Jt v) s) _) _=_;rw[e2];simp only[po,PR.bind,Zc8 q0 q1 ql,e4,rvs]
 obtain⟨U,s',h,e⟩:=xR (λU=>U[0]?=aa (aa<|.scr ns)/\U.length=nn+3) (Yb 0 m) hb (ZQ (nn+3) [.scr ns]) s #[rfl,by simp[ZQ]]
 refine#[s',?_];show PR.bind (PR.bind (Xm body (Yb 0 m) _ _ s) _) _=_;rw[e];show PR.bind (rvs C (muts B) [.ret r] U [] s') _=_;rw[rvs,rE9,hR];rfl
end Lv
namespace K75
open Ev Pv Rw La
open Ab (okV Yo)
noncomputable def JV:List (Nat×Nat):=[(2,1),(2,2),(2,3),(2,4),(3,1),(3,2),(3,3),(5,1),(5,2),(2,3),(2,4),(3,3)]
noncomputable def Zf5:List (Nat×Nat):=[(2,5),(2,6),(3,4),(5,3)]
def Xx:List (Nat×Nat):=JV++Zf5
def GO:∀q∈Xx,(q.1=2\/q.1=3\/q.1=5)/\1<=q.2/\q.2<=6/\q.1^q.2<=1000:=by decide
def qP(d:Nat){m:Int}(s:DS):∃q s',CV (d+2) 3 [.drw,.int m] s=.ok (spV q.1 q.2) s'/\q∈Xx:=by
 let L:=if m>27 then Xx else JV
 have hL:12<=L.length/\L.length<=16/\∀q∈L,q∈Xx:=by
  by_cases c:m>27
  .simp only[L,T9 c];exact#[by decide,by decide,λq hq=>hq]
  .simp only[L,T8 c];exact#[by decide,by decide,λq hq=>cT _ hq]
 obtain⟨v,s',f1,f2,f3⟩:=UI (m:=L.length) s #[0] #[0]
 obtain⟨k,rfl⟩:∃k:Nat,v=k:=#[v.toNat,by lia]
 have hk:k<L.length:=by lia
 refine#[L[k],s',Zo rfl #[1] rfl ?_,hL.2.2 _<|aR hk]
 show rvs #[15] [] X6.body [aa .drw,aa<|.int m,ai] [] s=_
 dsimp only[X6]
 rw[Zi (ρ':=[aa .drw,aa<|.int m,aa<|.lst<|JV.map λq=>spV q.1 q.2]) (os':=[]) (s':=s) (by simp[pvE,JV,spV])]
 have e0:pv #[15] (.cmp .gt (.v 1)<|.n 27) [aa .drw,aa<|.int m,aa<|.lst<|JV.map λq=>spV q.1 q.2] s=.ok (.bl<|ag<|27<m) s:=by
  rw[Yi,Ze rfl,Za,ZP,Za];rfl
 rw[Zi (ρ':=[aa .drw,aa<|.int m,aa<|.lst<|L.map λq=>spV q.1 q.2]) (by
  rw[XJ<|Yv e0 rfl];by_cases c:m>27
  .simp only[L,T9 c]
   rw[T5 c,T9 rfl];rw[Zi (ρ':=[aa .drw,aa<|.int m,aa<|.lst<|Xx.map λq=>spV q.1 q.2]) (os':=[]) (s':=s) (by simp[pvE,Xx,JV,Zf5,spV]),rvs]
  .simp only[L,T8 c]
   rw[T4 c,T8 #[1],rvs])]
 refine Zj<|Zx ?_;have e1:pv #[15] (.blt .len [(.v 2)]) [aa .drw,aa<|.int m,aa<|.lst<|L.map λq=>spV q.1 q.2] s=.ok (.int L.length) s:=by
  rw[Yq,Zc #[9] Zf,Za];show po (aa<|V.int (L.map λq=>spV q.1 q.2).length) s=_
  rw[av];rfl
 rw[XZ,Ze rfl,Za,Zu (Zc #[9]<|Zc e1 Zf) f1,Za];show po (at' (L.map λq=>spV q.1 q.2) (k:Int)) s'=_
 rw[XY (by rw[aK,af hk];rfl)];rfl
def wU{C:ZN}{cap:List Nat}{nl:Nat}{t:List Nat}{it:W}{elt:E}{U:Env}{s s0:DS}{k:Nat}{Q:V->Prop}(hw:pvw C it U s=.ok (Yb 0 k) s0)(hl:k<=lim)(h:∀(x:V)(s:DS),∃Z y s',Zq t x (Z9 cap nl U)=aa Z/\pv C elt Z s=.ok y s'/\Q y)(ho:own nl t=ao:=by rfl) :
  ∃ys s',pv C (.comp1 cap nl t it [] elt) U s=.ok (.lst ys) s'/\ys.length=k/\∀y∈ys,Q y:=by
 obtain⟨ys,s',e1,e2,e3⟩:=Ua (f:=λx s=>(po (Zq t x<|Z9 cap nl U) s).bind λZ s=>(pvt C [] Z s).bind λb s=>if b then(pv C elt Z s).bind λy s=>.ok [y] s else .ok [] s) (λx s=>by
  obtain⟨Z,y,s',f1,f2,f3⟩:=h x s;refine#[y,s',?_,f3];rw[f1,ZW,Za,pvt,Za];rw[f2];rfl) (Yb 0 k) s0
 have hk:(Yb 0 k).length=k:=by unfold Yb;simp
 refine#[ys,s',?_,by rw[e2,hk],e3]
 rw[j8,T9 ho,hw,Za,e1,Za,T9 (by rw[e2,hk];exact hl)];rfl
theorem JM{p n:Nat}:∀{ys:List V},(∀y∈ys,∃r:Row,y=Zb r/\Zd p n r)->∃R:List Row,ys=R.map Zb/\∀r∈R,Zd p n r
 |[],_=>#[[],rfl,λ_ h=>by cases h]
 |y::ys,h=>by
  obtain⟨R,rfl,hR⟩:=JM λz hz=>h z<|am _ hz
  obtain⟨r,rfl,hr⟩:=h y<|ak ..;refine#[r::R,rfl,λx hx=>?_]
  rcases ay.mp hx with rfl|hx
  .exact hr
  .exact hR x hx
theorem xG{p:Nat}:∀{ys:List V},(∀y∈ys,∃a:Int,y=.int a/\0<=a/\a<(p:Int))->∃r:Row,ys=r.map V.int/\∀a∈r,0<=a/\a<(p:Int)
 |[],_=>#[[],rfl,λ_ h=>by cases h]
 |y::ys,h=>by
  obtain⟨r,rfl,hr⟩:=xG λz hz=>h z<|am _ hz
  obtain⟨a,rfl,h3⟩:=h y<|ak ..;refine#[a::r,rfl,λx hx=>?_]
  rcases ay.mp hx with rfl|hx
  .exact h3
  .exact hr x hx
section
variable{p n:Nat}[Base p]
theorem Y5:∀L:List Row,(Zr L).Perm L
 |[]=>cC _
 |x::L=>by
  have ins:∀(x:Row)(l:List Row),(YH x l).Perm (x::l):=λx l=>by
   induction l with
   |nil=>exact cC _
   |cons y l ih=>
    unfold YH;split
    .exact cC _
    .exact(ih.cons y).trans<|kT ..
  exact(ins x<|Zr L).trans<|(Y5 L).cons x
theorem qf(d:Nat)(s:DS)(hn:n<=6):∃r s',CV (d+2) 6 [.drw,spV p n] s=.ok (Zb r) s'/\Zd p n r:=by
 have hp:=Wr (p:=p);obtain⟨v,s1,f1,f2,f3⟩:=UI (m:=(n:Int)+1) s #[0] #[0]
 obtain⟨w,s2,g1,g2,g3⟩:=UI (m:=3) s1 #[0] #[0]
 obtain⟨k,hk,e0⟩:∃k:Nat,k<=n/\pv (CV<|d+1) (.bin .mul (.call 2 [(.v 0),(.bin .add (.ix (.v 1)<|.n 1)<|.n 1)])<|.blt .toInt [(.cmp .eq (.call 2 [(.v 0),(.n 3)])<|.n 0)]) [aa .drw,aa<|spV p n,ai] s=.ok (Zs k) s2:=by
  have h1:pv #[15] (.bin .add (.ix (.v 1)<|.n 1)<|.n 1) [aa .drw,aa<|spV p n,ai] s=.ok (.int<|(n:Int)+1) s:=Jo (ix1 rfl) ZP;have h2:pv #[15] (.call 2 [(.v 0),(.bin .add (.ix (.v 1)<|.n 1)<|.n 1)]) [aa .drw,aa<|spV p n,ai] s=.ok (.int v) s1:=Zu (Zc #[9]<|Zc h1 Zf) f1;have h3:pv #[15] (.call 2 [(.v 0),(.n 3)]) [aa .drw,aa<|spV p n,ai] s1=.ok (.int w) s2:=Zu (Zc #[9]<|Zc ZP Zf) g1;have h4:pv #[15] (.blt .toInt [(.cmp .eq (.call 2 [(.v 0),(.n 3)])<|.n 0)]) [aa .drw,aa<|spV p n,ai] s1=.ok (.int<|b2i<|ag<|w=0) s2:=by
   have:pv #[15] (.cmp .eq (.call 2 [(.v 0),(.n 3)])<|.n 0) [aa .drw,aa<|spV p n,ai] s1=.ok (.bl<|ag<|w=0) s2:=by
    rw[Yi,h3,Za,ZP,Za];rfl
   rw[Yq,Zc this Zf];rfl
  by_cases c:w=0
  .refine#[v.toNat,by lia,?_]
   rw[pE7,h2,Za,h4,Za,T5 c];show(if(fits v&&fits 1)=ao then PR.ok (V.int<|v*1) s2 else .no)=_
   rw[T9 (by rw[Ya #[0] #[0]];rfl)]
   unfold Zs;rw[show v*1=((v.toNat:Nat):Int) by lia]
  .refine#[0,by lia,?_]
   rw[pE7,h2,Za,h4,Za,T4 c];show(if(fits v&&fits 0)=ao then PR.ok (V.int<|v*0) s2 else .no)=_
   rw[T9 (by rw[Ya #[0] #[0]];rfl),Int.mul_zero];rfl
 obtain⟨ys,s3,e1,e2,e3⟩:=jY (C:=CV<|d+1) (cap:=[0,1]) (nl:=1) (t:=[0]) (it:=.rng1<|.bin .sub (.ix (.v 1)<|.n 1)<|.v 2) (elt:=.call 2 [(.v 1),(.ix (.v 2)<|.n 0)]) (U:=[aa .drw,aa<|spV p n,aa<|Zs k]) (s:=s2) (k:=n-k) (Q:=λy=>∃a:Int,y=.int a/\0<=a/\a<(p:Int))
  (by
   rw[zn];refine YR ?_ #[0]
   rw[pE7,ix1 rfl,Za,Ze rfl,Za];show PR.ok (V.int<|(n:Int)-(k:Int)) s2=_;rw[show(n:Int)-(k:Int)=((n-k:Nat):Int) by lia]) #[20] (λx s=>by
   obtain⟨v,s',f1,f2,f3⟩:=UI (m:=p) s #[0] #[0]
   exact#[[aa x,aa .drw,aa<|spV p n],.int v,s',rfl,Zu (Zc #[9]<|Zc (ix0 rfl) Zf) f1,v,rfl,f2,f3])
 obtain⟨r,rfl,hr⟩:=xG e3;rw[av]at e2;refine#[ax k 0++r,s3,Zo rfl #[1] rfl ?_,by rw[aU,bO,e2];lia,λa ha=>?_]
 .show rvs #[15] [] Vh.body [aa .drw,aa<|spV p n,ai] [] s=_
  dsimp only[Vh]
  rw[Zi<|ZC e0 rfl];show rvs _ _ _ [aa .drw,aa<|spV p n,aa<|Zs k] [] s2=_;refine Zj<|Zx ?_;have g:pv #[15] #[22] [aa .drw,aa<|spV p n,aa<|Zs k] s2=.ok (.tup [.int 0]) s2:=Ye ZP;have g2:pv #[15] (.bin .mul #[22]<|.v 2) [aa .drw,aa<|spV p n,aa<|Zs k] s2=.ok (.tup<|(ax k (0:Int)).map V.int) s2:=by
   rw[pE7,g,Za,Ze rfl,Za];show(if(0:Int)<=k/\(k:Int)<1000/\1<=1000 then PR.ok (V.tup (ax (k:Int).toNat [V.int 0]).flatten) s2 else .no)=_
   rw[T9 #[by lia,by lia,by lia],dN,xB]
  have g3:pv #[15] (.blt .tuple [(.comp1 [0,1] 1 [0] (.rng1<|.bin .sub (.ix (.v 1)<|.n 1)<|.v 2) []<|.call 2 [(.v 1),(.ix (.v 2)<|.n 0)])]) [aa .drw,aa<|spV p n,aa<|Zs k] s2=.ok (.tup<|r.map V.int) s3:=by
   rw[Yq,Zc e1 Zf];rfl
  rw[pE7,g2,Za,g3,Za];show(if((ax k (0:Int)).map V.int).length+(r.map V.int).length<=lim then PR.ok (V.tup<|(ax k (0:Int)).map V.int++r.map V.int) s3 else .no)=_
  rw[T9 (by rw[av,av,bO];unfold lim;lia),<-bE];rfl
 .rcases bU.mp ha with ha|ha
  .rw[gV ha];lia
  .exact hr a ha
theorem QN(d:Nat)(s:DS)(hn:n<=6)(h1:1<=n)(hp:p^n<=1000):∃P s',CV (d+3) 9 [.drw,spV p n] s=.ok (Zh P) s'/\pZ p n P:=by
 obtain⟨v,s1,f1,f2,f3⟩:=UI (m:=(n:Int)+1) s #[0] #[0]
 obtain⟨k,rfl⟩:∃k:Nat,v=k:=#[v.toNat,by lia]
 obtain⟨ys,s2,e1,e2,e3⟩:=wU (cap:=[0,1]) (nl:=1) (t:=[0]) (it:=.rng1<|.call 2 [(.v 0),(.bin .add (.ix (.v 1)<|.n 1)<|.n 1)]) (elt:=.call 6 [(.v 1),(.v 2)]) (U:=[aa .drw,aa<|spV p n,ai]) (Q:=λy=>∃r:Row,y=Zb r/\Zd p n r)
  (by
   rw[zn];exact YR (Zu (Zc #[9]<|Zc (Jo (ix1 rfl) ZP) Zf) f1)<|by lia) #[20] (λx s=>by
   obtain⟨r,s',g1,g2⟩:=qf (p:=p) d s hn;exact#[[aa x,aa .drw,aa<|spV p n],Zb r,s',rfl,Zu (Zc #[9]<|Zc #[9] Zf) g1,r,rfl,g2])
 obtain⟨R,rfl,hR⟩:=JM e3;have hK:=Yh hR;have hl:(Zr<|ZD p n R).length<=1000:=by
  rw[XN,hK.len];have:=Wr (p:=p);exact bV (dH #[0]<|dsum hK.part) hp
 refine#[ZY p [] R,s2,Zo rfl #[1] rfl ?_,hK.part]
 show rvs #[17] [] Wv.body [aa .drw,aa<|spV p n,ai] [] s=_
 dsimp only[Wv]
 rw[Zi<|ZC e1 rfl];exact Zj<|Zx<|Ys #[9] (Ys #[9] #[9]<|Xe d s2 hn h1 hp hR rfl)<|Jm d s2 hn hK (Y5 _) hl
theorem wo(d:Nat){x:V}(s:DS)(hn:n<=6)(h1:1<=n)(hp:p^n<=1000)(hx:okV x=ao):CV (d+3) 16 [spV p n,x] s=.ok (.bl<|isP p n x) s:=by
 refine Zo rfl #[1] rfl ?_
 let l2:List Sm:=[.ret<|.cmp .eq (.call 5 [(.v 0),(.call 8 #[16])])<|.v 1]
 let l1:=.forr [2] #[30] [.ite #[33] #[12] []]::l2
 show rvs #[17] [] (.ite (.or #[21]<|.cmp .gt #[25]<|.ix (.v 0)<|.n 1) #[12] []::l1) [aa<|spV p n,aa x,ai] [] s=_;have g:=uU (C:=CV<|d+2) (U:=[aa<|spV p n,aa x,ai]) (s:=s) (i:=1) rfl hx;have fin:pv #[17] (.or #[21]<|.cmp .gt #[25]<|.ix (.v 0)<|.n 1) [aa<|spV p n,aa x,ai] s=.ok (.bl ao) s->rvs #[17] [] (.ite (.or #[21]<|.cmp .gt #[25]<|.ix (.v 0)<|.n 1) #[12] []::l1) [aa<|spV p n,aa x,ai] [] s=.ok (.ret<|.bl aj) s:=λq=>by
  refine Zj ?_;rw[XJ<|Yv q rfl,T9 rfl];exact Zj<|Zx (by rw[pE1];rfl)
 rcases Qv hx with⟨xs,rfl⟩|⟨_,no⟩
 .have e1:pv #[17] (.cmp .gt #[25]<|.ix (.v 0)<|.n 1) [aa<|spV p n,aa<|.tup xs,ai] s=.ok (.bl<|ag<|(n:Int)<xs.length) s:=by
   have:pv #[17] #[25] [aa<|spV p n,aa<|.tup xs,ai] s=.ok (.int xs.length) s:=by rw[Yq];rfl
   rw[Yi,this,Za,ix1 rfl,Za];rfl
  by_cases c:xs.length<=n
  .rw[T4<|by lia]at e1
   rw[guard<|Jp g e1];obtain⟨g1,g2⟩:=qB (C:=CV<|d+2) (ms:=[]) (i:=2) (it:=.of<|.v 1) (b:=[.ite #[33] #[12] []]) (v:=.bl aj) (U:=λo=>[aa<|spV p n,aa<|.tup xs,o]) (s:=s) ai
    (by
     rw[wE7,Ze rfl,Za,iw];rfl) (λ_ _=>rfl) (λv hv=>by
     have e3:pv #[17] #[33] [aa<|spV p n,aa<|.tup xs,aa v] s=.ok (.bl !Zv p n v) s:=Jy<|Ys #[9] #[9]<|Jx d s hn<|Y9 hx v hv;show rvs _ _ _ [aa<|spV p n,aa<|.tup xs,aa v] [] s=if(!Zv p n v)=ao then _ else PR.ok (.nx [aa<|spV p n,aa<|.tup xs,aa v] []) s
     cases q:(!Zv p n v)with
     |true=>
      rw[q]at e3;rw[T9 rfl];refine Zj ?_;rw[XJ<|Yv e3 rfl,T9 rfl];exact Zj<|Zx (by rw[pE1];rfl)
     |false=>rw[q]at e3;rw[T8 #[1],guard e3,rvs])
   cases q:xs.all (Zv p n)with
   |false=>
    have:(xs.any λv=>!Zv p n v)=ao:=by
     rw[fG];simp[q]
    rw[ Zj<|g1 this];have:isP p n (.tup xs)=aj:=by
     show(xs.all (Zv p n)&&_)=aj;rw[q,k6]
    rw[this]
   |true=>
    have:(xs.any λv=>!Zv p n v)=aj:=by
     rw[fG];simp[q]
    obtain⟨o',g2⟩:=g2 this;obtain⟨R,rfl,hR⟩:=WN q;rw[ Zi g2];refine Zj<|Zx ?_;have hK:=Yh hR;have hl:(Zr<|ZD p n R).length<=1000:=by
     rw[XN,hK.len];have:=Wr (p:=p);exact bV (dH #[0]<|dsum hK.part) hp
    rw[Zeu (Ys #[9] (Ys #[9] #[9]<|Xe d s hn h1 hp hR rfl)<|Jm d s hn hK (Y5 _) hl)<|Ze rfl];have eb:isP p n (.tup<|R.map Zb)=Wz R:=by
     show((R.map Zb).all (Zv p n)&&match YE (R.map Zb)with|some R=>Wz R|none=>aj)=_
     rw[q,YI];rfl
    rw[eb]
    congr 2
    rw[cL,T0,Y6 hR,jd hR]
  .rw[T5<|by lia]at e1
   rw[fin<|Jp g e1];have:isP p n (.tup xs)=aj:=by
    cases q:isP p n (.tup xs)with
    |false=>rfl
    |true=>
     obtain⟨P,e,hP⟩:=Qb.mp q;exact T7 (Vm hP xs e.symm) c
   rw[this]
 .rw[ZbE no]
  refine fin ?_;rw[Zey,g];cases x<;>first|rfl|exact T7 rfl<|no _
end
section
variable{C:ZN}{U:Env}{s s':DS}{a b e:E}{x y:V}{xs ys:List V}
theorem VQ{Q:V->Prop}(hl:es.length<=1000)(h:∀e∈es,∃v,pv C e U s=.ok v s/\Q v):∃vs,pv C (.lst es) U s=.ok (.lst vs) s/\vs.length=es.length/\∀v∈vs,Q v:=by
 obtain⟨vs,e,l,q⟩:=zO h;refine#[vs,?_,l,q];rw[pE4,e,Za,T9 #[20]]
def WO(h:pv C a U s=.ok (.int k) s):pv C (.bin .add a<|.n 1) U s=.ok (.int<|k+1) s:=Jo h ZP
theorem QR(ha:pv C a U s=.ok (.tup xs) s)(hlo:pv C lo U s=.ok (.int j) s)(hhi:pv C hi U s=.ok (.int k) s)(hb:pv C b U s=.ok x s)(hl:xs.length<=400)(ho:Yo xs=ao)(hx:okV x=ao):∃ys,pv C (.bin .add (.bin .add (.sl a ai<|aa lo)<|.tup [b])<|.sl a (aa hi) ai) U s=.ok (.tup ys) s/\Yo ys=ao/\ys.length<=1000:=by
 have l1:=YQ (xs:=xs) (lo:=ai) (hi:=aa j);have l2:=YQ (xs:=xs) (lo:=aa k) (hi:=ai);refine#[(Yj xs ai (aa j)++[x])++Yj xs (aa k) ai,Yp (Yp (qA ha hlo) (Ye hb)<|by simp;lia) (UZ ha hhi) (by simp;lia),V7 (V7 (WE ho) ?_)<|WE ho,by simp;lia]
 show(okV x&&ao)=ao;rw[hx];rfl
theorem qb(ha:pv C a U s=.ok (.tup xs) s)(hlo:pv C lo U s=.ok (.int j) s)(hhi:pv C hi U s=.ok (.int k) s)(hl:xs.length<=400)(ho:Yo xs=ao):∃ys,pv C (.bin .add (.sl a ai<|aa lo)<|.sl a (aa hi) ai) U s=.ok (.tup ys) s/\Yo ys=ao/\ys.length<=1000:=by
 have l1:=YQ (xs:=xs) (lo:=ai) (hi:=aa j);have l2:=YQ (xs:=xs) (lo:=aa k) (hi:=ai);exact#[_,Yp (qA ha hlo) (UZ ha hhi) #[0],V7 (WE ho)<|WE ho,by simp;lia]
def z6(h:pv C a U s=.ok (.tup xs) s):pv C (.bin .add (.blt .len [a])<|.n 1) U s=.ok (.int<|(xs.length:Int)+1) s:=WO (by rw[Yq,Zc h Zf];rfl)
def uR(h:pv C a U s=.ok (.tup xs) s):pv C (.rev a) U s=.ok (.tup xs.reverse) s:=by rw[ZiZ,h];rfl
def Zbb(h:Yo xs=ao):Yo xs.reverse=ao:=ZaY λx hx=>Y9 h x<|eF.mp hx
def xM(h:pv C a U s=.ok (.tup xs) s):pv C (.blt .list [a]) U s=.ok (.lst xs) s:=by rw[Yq,Zc h Zf];rfl
def Zbn:pv C (.c .non) U s=.ok .non s:=by rw[pE1];rfl
def UP(h1:okV x=ao)(h2:∀xs,x≠.tup xs):Ab.Th 1000 x:=#[h1,λxs e=>T7 e<|h2 xs]
def Uu(h:Yo xs=ao)(hl:xs.length<=1000):Ab.Th 1000 (.tup xs):=#[h,λys e=>by cases e;exact hl]
def QK(h:okV x=ao):Yo [x]=ao:=by show(okV x&&ao)=ao;rw[h];rfl
end
def ze(d:Nat){r:Row}(s:DS)(hq:q∈Xx)(hr:Zd q.1 q.2 r):∃v s',CV (d+2) 12 [.drw,spV q.1 q.2,Zb r] s=.ok v s'/\Ab.Th 1000 v:=by
 obtain⟨hb,_,hn,_⟩:=GO _ hq;obtain⟨p,n⟩:=q
 haveI:Base p:=⟨hb⟩
 have hn:=hn;have hl:=hr.1
 let U (a3 a4 a5:Option V):Env:=[aa .drw,aa<|spV p n,aa<|Zb r,a3,a4,a5]
 have op:=z9 r;have lp:(r.map V.int).length<=6:=by rw[av];lia
 have ep:∀a b c s,pv #[15] (.v 2) (U a b c) s=.ok (.tup<|r.map .int) s:=λ_ _ _ s=>Ze rfl
 obtain⟨j,s1,t1,t2,t3⟩:=YA d s (i:=0) rfl (z6<|ep ..) #[0] #[0]
 obtain⟨ods,m1,m2,m3⟩:=VQ (C:=CV<|d+1) (U:=U (aa<|.int j) ai ai) (s:=s1) (Q:=λv=>okV v=ao) (es:=[(.ix (.v 1)<|.n 0),(.neg<|.n 1),(.c<|.bl ao),(.c<|.bl aj),(.c .non),(.c<|.str<|kZ "0"),#[22],(.bin .pow (.n 10)<|.n 29),(.n 0),(.n 1),(.bin .sub (.ix (.v 1)<|.n 0)<|.n 1)]) #[1] (λe he=>by
  simp only[ay,bx,or_false]at he;rcases he with rfl|rfl|rfl|rfl|rfl|rfl|rfl|rfl|rfl|rfl|rfl
  .exact#[_,ix0 rfl,rfl]
  .exact#[.int<|-1,by rw[pE8,ZP];rfl,rfl]
  .exact#[.bl ao,by rw[pE1];rfl,rfl]
  .exact#[.bl aj,by rw[pE1];rfl,rfl]
  .exact#[_,Zbn,rfl]
  .exact#[.str<|kZ "0",by rw[pE1];rfl,rfl]
  .exact#[_,Ye ZP,rfl]
  .exact#[.int<|10^29,by simp[pvE,ofD,VY,UX],rfl]
  .exact#[_,ZP,rfl]
  .exact#[_,ZP,rfl]
  .exact#[.int<|(p:Int)-1,by rw[pE7,ix0 rfl,Za,ZP,Za];rfl,rfl])
 obtain⟨v2,s2,w1,w2,w3⟩:=YA d s1 (m:=11) (i:=0) (U:=U (aa<|.int j) ai ai) rfl ZP #[1] #[1]
 obtain⟨od,hod,e6⟩:=pick m1 w1 w2 (by rw[m2];exact w3)
 have ho:=m3 od hod;have e3:∀a s,pv #[15] (.v 3) (U (aa<|.int j) (aa od) a) s=.ok (.int j) s:=λ_ s=>Ze rfl
 have e4:∀a s,pv #[15] (.v 4) (U (aa<|.int j) (aa od) a) s=.ok od s:=λ_ s=>Ze rfl
 obtain⟨ra,a1,a2,a3⟩:=VQ (U:=U (aa<|.int j) (aa od) ai) (s:=s2) (es:=[(.bin .add (.bin .add #[14]<|.tup [(.v 4)])<|.sl (.v 2) #[31] ai),(.bin .add (.bin .add #[14]<|.tup [(.v 4)])<|.sl (.v 2) (aa<|.v 3) ai),(.bin .add #[14]<|.sl (.v 2) #[31] ai),(.blt .list [(.v 2)])]) #[1] (λe he=>by
  simp only[ay,bx,or_false]at he;rcases he with rfl|rfl|rfl|rfl
  .obtain⟨ys,g,h,l⟩:=QR (ep ..) (e3 ..) (WO<|e3 ..) (e4 ..) #[0] op ho
   exact#[_,g,Uu h l]
  .obtain⟨ys,g,h,l⟩:=QR (ep ..) (e3 ..) (e3 ..) (e4 ..) #[0] op ho
   exact#[_,g,Uu h l]
  .obtain⟨ys,g,h,l⟩:=qb (ep ..) (e3 ..) (WO<|e3 ..) #[0] op
   exact#[_,g,Uu h l]
  .exact#[_,xM<|ep ..,UP op λxs z=>by cases z])
 let ρ5:Env:=U (aa<|.int j) (aa od)<|aa<|.lst ra
 obtain⟨rb,b1,b2,b3⟩:=VQ (U:=ρ5) (s:=s2) (es:=[(.rev<|.v 2),(.c .non),.dnew,(.lst [(.v 4)]),(.tup [(.v 2)])]) #[1] (λe he=>by
  simp only[ay,bx,or_false]at he;rcases he with rfl|rfl|rfl|rfl|rfl
  .exact#[_,uR<|ep ..,Uu (Zbb op) (by rw[fC];lia)]
  .exact#[_,Zbn,UP rfl λxs z=>by cases z]
  .exact#[.dct<|.inl [],by rw[pE5],UP rfl λxs z=>by cases z]
  .exact#[.lst [od],by rw[pE4,Zc (e4 ..) Zf];rfl,UP (QK ho) λxs z=>by cases z]
  .exact#[_,Ye<|ep ..,Uu (QK op) (by show 1<=1000;decide)])
 obtain⟨v5,s5,c1,c2,c3⟩:=YA d s2 (m:=12) (i:=0) (U:=ρ5) rfl ZP #[1] #[1]
 obtain⟨ix,hix,c4⟩:=pick (a:=.lst [(.n 0),(.n 0),(.n 0),(.n 0),(.n 1),(.n 2),(.n 3),(.n 4),(.n 5),(.n 6),(.n 7),(.n 8)]) (xs:=[.int 0,.int 0,.int 0,.int 0,.int 1,.int 2,.int 3,.int 4,.int 5,.int 6,.int 7,.int 8]) (s:=s2) (by simp[pvE,ofD]) c1 c2 c3
 obtain⟨k,rfl,hk0,hk⟩:∃k:Int,ix=.int k/\0<=k/\k<9:=by
  simp at hix;rcases hix with rfl|rfl|rfl|rfl|rfl|rfl|rfl|rfl|rfl<;>exact#[_,rfl,by decide,by decide]
 obtain⟨one,hone,c5⟩:=pick (Ul (a:=.v 5) #[9] b1<|by rw[a2,b2];decide) c4 hk0 (by rw[aU,a2,b2];exact hk)
 refine#[one,s5,Zo rfl #[1] rfl ?_,(bU.mp hone).elim (a3 one)<|b3 one]
 show rvs #[15] [] YX.body (U ai ai ai) [] s=_
 dsimp only[YX]
 rw[Zi<|ZC t1 rfl];show rvs _ _ _ (U (aa<|.int j) ai ai) _ _=_;rw[Zi<|ZC e6 rfl];show rvs _ _ _ (U (aa<|.int j) (aa od) ai) _ _=_;rw[Zi<|ZC a1 rfl];exact Zj<|Zx c5
section
variable{p n:Nat}[Base p]
theorem Za2(d:Nat){P:List Row}(s:DS)(hq:(p,n)∈Xx)(hP:pZ p n P):∃v s',CV (d+3) 13 [.drw,spV p n,Zh P] s=.ok v s'/\Ab.Th 1000 v:=by
 obtain⟨_,h1,hn,_⟩:=GO _ hq;have hn:=hn;have h1:=h1;have hp:=Wr (p:=p);have hl:=dsum hP
 let U (a3 a4 a5 a6 a7:Option V):Env:=[aa .drw,aa<|spV p n,aa<|Zh P,a3,a4,a5,a6,a7]
 have op:=GW P;have lp:(P.map Zb).length<=6:=by rw[av];lia
 have ep:∀a b c e f s,pv #[17] (.v 2) (U a b c e f) s=.ok (.tup<|P.map Zb) s:=λ_ _ _ _ _ s=>Ze rfl
 obtain⟨j,s1,t1,t2,t3⟩:=YA (d+1) s (i:=0) rfl (z6<|ep ..) #[0] #[0]
 have hu:Zd p n (1::ax (n-1) 0):=#[by rw[aQ,bO];lia,λa ha=>by
  rcases ay.mp ha with rfl|ha
  .lia
  .rw[gV ha];lia]
 have eu:∀a s,pv #[17] (.bin .add (.tup [(.n 1)])<|.bin .mul #[22]<|.bin .sub (.ix (.v 1)<|.n 1)<|.n 1) (U a ai ai ai ai) s=.ok (Zb (1::ax (n-1) 0)) s:=λa s=>by
  have g:pv #[17] (.bin .sub (.ix (.v 1)<|.n 1)<|.n 1) (U a ai ai ai ai) s=.ok (.int ((n-1:Nat):Int)) s:=by
   rw[pE7,ix1 rfl,Za,ZP,Za,show((n-1:Nat):Int)=(n:Int)-1 by lia];rfl
  have g2:pv #[17] (.bin .mul #[22]<|.bin .sub (.ix (.v 1)<|.n 1)<|.n 1) (U a ai ai ai ai) s=.ok (.tup<|(ax (n-1) (0:Int)).map V.int) s:=by
   rw[pE7,Ye ZP,Za,g,Za];show(if(0:Int)<=((n-1:Nat):Int)/\((n-1:Nat):Int)<1000/\1<=1000 then PR.ok (V.tup (ax ((n-1:Nat):Int).toNat [V.int 0]).flatten) s else .no)=_
   rw[T9 #[by lia,by lia,by lia],dN,xB]
  rw[Yp (Ye ZP) g2 (by rw[av,bO];show 1+(n-1)<=1000;lia)];rfl
 have rows:∀{u:Row},Zd p n u->∀k:Int,0<=k->k<(P.map Zb++[Zb u]).length->∃r,(P.map Zb++[Zb u]).getD k.toNat .non=Zb r/\Zd p n r:=λ{u} hu k h0 hk=>by
  have hk':k.toNat<(P.map Zb++[Zb u]).length:=by lia
  rw[az,af hk',pB];have m:=aR hk';rcases bU.mp m with m|m
  .obtain⟨r,hr,e⟩:=aF.mp m
   exact#[r,e.symm,hP.row r hr]
  .exact#[u,aZ.mp m,hu]
 have la:∀{u:V},(P.map Zb++[u]).length=P.length+1:=λ{u}=>by rw[aU,av];rfl
 have lm:((P.map Zb).length:Int)=P.length:=by rw[av]
 have e4:=ZfB (Yp (ep (aa<|.int j) ai ai ai ai s1) (Ye<|eu (aa<|.int j) s1)<|by rw[av];show P.length+1<=1000;lia) (Ze (i:=3) rfl) t2 (by rw[la];lia)
 obtain⟨r,er,hr⟩:=rows hu j t2 (by rw[la];lia)
 rw[er]at e4;obtain⟨x,s2,e5,hx⟩:=ze d s1 hq hr
 let ρ5 (a6 a7:Option V):Env:=U (aa<|.int j) (aa<|Zb r) (aa x) a6 a7
 obtain⟨v1,s3,u1,u2,u3⟩:=YA (d+1) s2 (m:=2) (i:=0) (U:=ρ5 ai ai) rfl ZP #[1] #[1]
 obtain⟨v2,s4,w1,w2,w3⟩:=YA (d+1) s3 (i:=0) rfl (z6<|ep ..) #[0] #[0]
 have e7:=ZfB (Yp (ep (aa<|.int j) (aa<|Zb r) (aa x) ai ai s3) (Ye<|Ze (i:=4) rfl)<|by rw[av];show P.length+1<=1000;lia) w1 w2 (by rw[la];lia)
 obtain⟨o,eo,ho⟩:=rows hr v2 w2 (by rw[la];lia)
 rw[eo]at e7;have e8:=QX (d+1) (k:=1+v1) s4 hn hr ho #[0]
 have e9:pv #[17] (.call 7 [(.v 1),(.v 4),(.bin .add (.n 1)<|.call 2 [(.v 0),(.n 2)]),(.ix (.bin .add (.v 2)<|.tup [(.v 4)])<|.call 2 [(.v 0),(.bin .add (.blt .len [(.v 2)])<|.n 1)])]) (ρ5 ai ai) s2=.ok (Zb<|Zw p r o<|1+v1) s4:=by
  have g:pv #[17] (.bin .add (.n 1)<|.call 2 [(.v 0),(.n 2)]) (ρ5 ai ai) s2=.ok (.int<|1+v1) s3:=by
   rw[pE7,ZP,Za,u1,Za];rfl
  exact Zu (Zc #[9]<|Zc #[9]<|Zc g<|Zc e7 Zf) e8
 let m:V:=Zb<|Zw p r o<|1+v1
 let ρ6 (a7:Option V):Env:=ρ5 (aa m) a7
 have v3:∀a s,pv #[17] (.v 3) (ρ6 a) s=.ok (.int j) s:=λ_ s=>Ze rfl
 have ep6:∀a s,pv #[17] (.v 2) (ρ6 a) s=.ok (.tup<|P.map Zb) s:=λ_ s=>Ze rfl
 obtain⟨ra,a1,a2,a3⟩:=VQ (es:=[(.bin .add (.bin .add #[14]<|.tup [(.v 5)])<|.sl (.v 2) #[31] ai),(.bin .add (.bin .add #[14]<|.tup [(.v 6)])<|.sl (.v 2) #[31] ai),(.bin .add (.bin .add #[14]<|.tup [(.v 4)])<|.sl (.v 2) (aa<|.v 3) ai)]) #[1] (λe he=>by
  simp only[ay,bx,or_false]at he;rcases he with rfl|rfl|rfl
  .obtain⟨ys,g,h,l⟩:=QR (ep6 ..) (v3 ..) (WO<|v3 ..) (Ze (i:=5) rfl) #[0] op hx.1
   exact#[_,g,Uu h l]
  .obtain⟨ys,g,h,l⟩:=QR (ep6 ..) (v3 ..) (WO<|v3 ..) (Ze (i:=6) rfl) #[0] op (zJ _)
   exact#[_,g,Uu h l]
  .obtain⟨ys,g,h,l⟩:=QR (ep6 ..) (v3 ..) (v3 ..) (Ze (i:=4) rfl) #[0] op (zJ _)
   exact#[_,g,Uu h l])
 obtain⟨r2,s5,f1,f2⟩:=qf d (p:=p) s4 hn;have f3:pv #[17] (.bin .add (.bin .add #[14]<|.tup [(.call 6 #[16])])<|.sl (.v 2) (aa<|.v 3) ai) (ρ6<|aa<|.lst ra) s4=.ok (.tup<|(Yj (P.map Zb) ai (aa j)++[Zb r2])++Yj (P.map Zb) (aa j) ai) s5:=by
  have l1:=YQ (xs:=P.map Zb) (lo:=ai) (hi:=aa j);have l2:=YQ (xs:=P.map Zb) (lo:=aa j) (hi:=ai);have g1:pv #[17] (.tup [(.call 6 #[16])]) (ρ6<|aa<|.lst ra) s4=.ok (.tup [Zb r2]) s5:=by
   rw[pE3,Zc (Zu (Zc #[9]<|Zc #[9] Zf) f1) Zf];rfl
  have g2:pv #[17] (.bin .add #[14]<|.tup [(.call 6 #[16])]) (ρ6<|aa<|.lst ra) s4=.ok (.tup<|Yj (P.map Zb) ai (aa j)++[Zb r2]) s5:=by
   rw[pE7,qA (ep6 ..)<|v3 ..,Za,g1,Za];show(if(Yj (P.map Zb) ai<|aa j).length+1<=lim then _ else _)=_
   rw[T9 #[20]]
  rw[pE7,g2,Za,UZ (ep6 ..)<|v3 ..,Za];show(if(Yj (P.map Zb) ai (aa j)++[Zb r2]).length+(Yj (P.map Zb) (aa j) ai).length<=lim then _ else _)=_
  rw[T9 (by rw[aU];unfold lim;show _+1+_<=_;lia)]
 obtain⟨rb,b1,b2,b3⟩:=zO (U:=ρ6<|aa<|.lst ra) (s:=s5) (es:=[(.rev<|.v 2),(.blt .list [(.v 2)]),(.c .non),.dnew,(.tup [(.v 2)])]) (λe he=>by
  simp only[ay,bx,or_false]at he;rcases he with rfl|rfl|rfl|rfl|rfl
  .exact#[_,uR<|ep6 ..,Uu (Zbb op) (by rw[fC];lia)]
  .exact#[_,xM<|ep6 ..,UP op λxs z=>by cases z]
  .exact#[_,Zbn,UP rfl λxs z=>by cases z]
  .exact#[.dct<|.inl [],by rw[pE5],UP rfl λxs z=>by cases z]
  .exact#[_,Ye<|ep6 ..,Uu (QK op) (by show 1<=1000;decide)])
 let x4:V:=.tup<|(Yj (P.map Zb) ai (aa j)++[Zb r2])++Yj (P.map Zb) (aa j) ai
 have hx4:Ab.Th 1000 x4:=Uu (V7 (V7 (WE op)<|QK<|zJ r2)<|WE op) (by
  have l1:=YQ (xs:=P.map Zb) (lo:=ai) (hi:=aa j);have l2:=YQ (xs:=P.map Zb) (lo:=aa j) (hi:=ai);rw[aU,aU];show _+1+_<=_;lia)
 have b8:pv #[17] (.bin .add (.v 7)<|.lst [(.bin .add (.bin .add #[14]<|.tup [(.call 6 #[16])])<|.sl (.v 2) (aa<|.v 3) ai),(.rev<|.v 2),(.blt .list [(.v 2)]),(.c .non),.dnew,(.tup [(.v 2)])]) (ρ6<|aa<|.lst ra) s4=.ok (.lst (ra++x4::rb)) s5:=by
  have g:pv #[17] (.lst [(.bin .add (.bin .add #[14]<|.tup [(.call 6 #[16])])<|.sl (.v 2) (aa<|.v 3) ai),(.rev<|.v 2),(.blt .list [(.v 2)]),(.c .non),.dnew,(.tup [(.v 2)])]) (ρ6<|aa<|.lst ra) s4=.ok (.lst (x4::rb)) s5:=by
   rw[pE4,Zc f3 b1,Za,T9 (by rw[aQ,b2];decide)]
  rw[pE7,Ze rfl,Za,g,Za];show(if ra.length+(x4::rb).length<=lim then _ else _)=_
  rw[T9 (by rw[a2,show(x4::rb).length=6 from congrArg (· + 1) b2];decide)]
 let rc:List V:=ra++x4::rb
 have lc:rc.length=9:=by rw[aU,show ra.length=3 from a2,show(x4::rb).length=6 from congrArg (· + 1) b2]
 obtain⟨rd,g1,g2,g3⟩:=VQ (U:=ρ6<|aa<|.lst rc) (s:=s5) (es:=[(.bin .add #[14]<|.sl (.v 2) #[31] ai),(.lst [(.v 5)]),(.bin .add (.sl (.v 2) (aa<|.v 3) ai)<|.sl (.v 2) ai<|aa<|.v 3)]) #[1] (λe he=>by
  simp only[ay,bx,or_false]at he;rcases he with rfl|rfl|rfl
  .obtain⟨ys,g,h,l⟩:=qb (ep6 ..) (v3 ..) (WO<|v3 ..) #[0] op
   exact#[_,g,Uu h l]
  .exact#[.lst [x],by rw[pE4,Zc #[9] Zf];rfl,UP (QK hx.1) λxs z=>by cases z]
  .have l1:=YQ (xs:=P.map Zb) (lo:=aa j) (hi:=ai)
   have l2:=YQ (xs:=P.map Zb) (lo:=ai) (hi:=aa j);exact#[_,Yp (UZ (ep6 ..)<|v3 ..) (qA (ep6 ..)<|v3 ..) #[0],Uu (V7 (WE op)<|WE op) (by rw[aU];lia)])
 have g4:=Ul (a:=.v 7) #[9] g1 (by rw[lc,g2];decide)
 obtain⟨v5,s6,c1,c2,c3⟩:=YA (d+1) s5 (m:=16) (i:=0) (U:=ρ6<|aa<|.lst<|rc++rd) rfl ZP #[1] #[1]
 obtain⟨ix,hix,c4⟩:=pick (a:=.lst [(.n 0),(.n 0),(.n 0),(.n 1),(.n 1),(.n 2),(.n 3),(.n 3),(.n 4),(.n 5),(.n 6),(.n 7),(.n 8),(.n 9),(.n 10),(.n 11)]) (xs:=[.int 0,.int 0,.int 0,.int 1,.int 1,.int 2,.int 3,.int 3,.int 4,.int 5,.int 6,.int 7,.int 8,.int 9,.int 10,.int 11]) (s:=s5) (by simp[pvE,ofD]) c1 c2 c3
 obtain⟨k,rfl,hk0,hk⟩:∃k:Int,ix=.int k/\0<=k/\k<12:=by
  simp at hix;rcases hix with rfl|rfl|rfl|rfl|rfl|rfl|rfl|rfl|rfl|rfl|rfl|rfl<;>exact#[_,rfl,by decide,by decide]
 obtain⟨one,hone,c5⟩:=pick (a:=.v 7) #[9] c4 hk0 (by rw[aU,lc,g2];exact hk)
 have th1:Ab.Th 1000 one:=by
  rcases bU.mp hone with h|h
  .rcases bU.mp h with h|h
   .exact a3 one h
   .rcases ay.mp h with rfl|h
    .exact hx4
    .exact b3 one h
  .exact g3 one h
 refine#[one,s6,Zo rfl #[1] rfl ?_,th1]
 show rvs #[17] [] Wn.body (U ai ai ai ai ai) [] s=_
 dsimp only[Wn]
 rw[Zi<|ZC t1 rfl];show rvs _ _ _ (U (aa<|.int j) ai ai ai ai) _ _=_;rw[Zi<|ZC e4 rfl];rw[Zi<|ZC (Zu (Zc #[9]<|Zc #[9]<|Zc #[9] Zf) e5) rfl];show rvs _ _ _ (ρ5 ai ai) _ _=_;rw[Zi<|ZC e9 rfl];show rvs _ _ _ (ρ6 ai) _ _=_;rw[Zi<|ZC a1 rfl];show rvs _ _ _ (ρ6<|aa<|.lst ra) _ _=_;rw[Zi<|ZC b8 rfl];show rvs _ _ _ (ρ6<|aa<|.lst rc) _ _=_;rw[Zi<|ZC g4 rfl];exact Zj<|Zx c5
end
end K75
namespace Rw
open La
section
variable{p n:Nat}[Base p]
def GX{u:Vec (Fin p)}(hs:Supp n u):∃r,Zd p n r/\toV p r=u:=by
 refine#[(aC n).map λj=>((u j).val:Int),#[by simp,λa ha=>?_],funext λj=>?_]
 .obtain⟨j,_,rfl⟩:=aF.mp ha
  have:=(u j).isLt;omega
 .unfold toV gt
  by_cases h:j<n
  .have:=(u j).isLt
   rw[az,aK,bZ h];exact WL (by rw[YK];exact ee #[2] (by simp[this]))
  .rw[az,bI (by simpa using h),hs j #[3]]
   exact WS
theorem Gi{P:Pt (Fin p)}:∀vs,UU P vs λ_=>0
 |[]=>YD
 |v::vs=>#[0,by rw[show(λj=>0-0*v j)=λ_=>0 by funext j;grind];exact Gi vs]
theorem uO{P:Pt (Fin p)}{v:Vec (Fin p)}:∀{vs},v∈vs->UU P vs v
 |w::vs,h=>by
  rcases ay.mp h with rfl|h
  .exact#[1,by rw[show(λj=>v j-1*v j)=λ_=>0 by funext j;grind];exact Gi vs]
  .exact#[0,by rw[show(λj=>v j-0*w j)=v by funext j;grind];exact uO h]
theorem Qu{R:Pt (Fin p)}:∀{vs u},(∀v∈vs,Mem R v)->UU [] vs u->Mem R u
 |[],u,_,h=>by rw[show u=λ_=>0 from funext<|Zeo.mp h];exact YD
 |v::vs,u,hv,#[c,h]=>by
  have:=YO c (Qu (λw hw=>hv w<|am _ hw) h)<|hv v<|ak ..
  rw[show(λj=>u j-c*v j+c*v j)=u by funext j;grind]at this
  exact this
end
end Rw
namespace K75
open Ev Pv Rw La
open Ab (okV Yo)
section
variable{C:ZN}{ms os:List Nat}{U:Env}{s s':DS}{a b:E}
def ZdK(h:pv C e U s=.ex c s')(hc:1<=c/\c<=10):pv C (.refu w e) U s=.ok (Zbx w<|c-1) s':=by
 rw[ZhL,h];show(if 1<=c/\c<=10 then _ else _)=_
 rw[T9 hc]
def Zee(h:pvs C as U s=.ok vs s)(hc:C f vs s=.ex c s)(h1:1<=c/\c<=10)(hi:((c-1:Nat):Int)=i):pv C (.cmp .ne (.refu aj<|.call f as)<|.c<|.int i) U s=.ok (.bl aj) s:=
 ne_int (ZdK (VW h hc) h1) ZP hi
def uW(h:pv C e (hide (o::os) U) s=.ok v s')(hm:(ms.contains i&&fresh e)=aj):rv C ms (.asg [i] e) U (o::os) s=.ok (.nx (U.set i<|aa v) ((o::os).filter (· != i))) s':=by
 have h1:pvA C e U (o::os) s=.ok v s':=by unfold pvA;dsimp only;rw[h]
 rw[rE1,h1,Za,T8 (by rw[hm];simp)]
theorem ui:∀t:List Nat,(t.any ([]:List Nat).contains)=aj
 |[]=>rfl
 |i::t=>by rw[fz,ui t];rfl
def Zfh{b:List Sm}{L:List B}(Q:V->Prop)(I:Env->Prop)(hw:pvw C it (hide [] U) s=.ok (L.map e) s0)(hI:I U)
  (h:∀x U s,I U->∃ρ1,Zq t (e x) U=aa ρ1/\((∃v s',rvs C ms b ρ1 [] s=.ok (.ret v) s'/\Q v)\/∃ρ' s',rvs C ms b ρ1 [] s=.ok (.nx ρ' []) s'/\I ρ')) :
  (∃v s',rv C ms (.forr t it b) U [] s=.ok (.ret v) s'/\Q v)\/∃ρ' s',rv C ms (.forr t it b) U [] s=.ok (.nx ρ' []) s'/\I ρ':=by
 rw[JL,hw,Za];clear hw
 induction L generalizing U s0 with
 |nil=>exact .inr #[U,s0,rfl,hI]
 |cons x L ih=>
  obtain⟨ρ1,b1,b2⟩:=h x U s0 hI;rw[ba,Xm,T8 (by rw[(ui t)];simp),b1,ZW,Za]
  rcases b2 with⟨v,s',b2,b3⟩|⟨ρ',s',b2,b3⟩
  .exact .inl #[v,s',by rw[b2];rfl,b3]
  .rw[b2]
   exact ih b3
end
section
variable{p n:Nat}[Base p]
def yM(d:Nat){x y:V}(s:DS)(hn:n<=6)(hx:Ab.Th 1000 x)(hy:Ab.Th 1000 y)(h:isP p n x=aj\/isP p n x=ao/\isP p n y=aj):CV (d+5) 26 [spV p n,x,y] s=.ex 2 s:=by
 have e1:=Vr (p:=p) d s hn hx.1 hx.2;have e2:=Vr (p:=p) d s hn hy.1 hy.2;refine U4 rfl #[1] rfl ?_
 dsimp only[X8]
 rcases h with h|⟨h,h'⟩
 .rw[T8<|by rw[h];simp]at e1
  exact wQ<|w6<|VW (Zc #[9]<|Zc #[9] Zf) e1
 .rw[T9 h]at e1
  rw[T8<|by rw[h'];simp]at e2
  rw[Zi<|ud<|Ys #[9] #[9] e1];exact wQ<|w6<|VW (Zc #[9]<|Zc #[9] Zf) e2
def Zdt:isP p n (.tup [Zb<|ax n 0])=aj:=by
 cases h:isP p n (.tup [Zb<|ax n 0])with
 |false=>rfl
 |true=>
  obtain⟨P,e,hP⟩:=Qb.mp h;have e:[Zb<|ax n 0]=P.map Zb:=by injection e
  have l1:=congrArg ig e;rw[av]at l1;obtain⟨r,rfl⟩:=List.length_eq_one_iff.mp l1.symm;have e:Zb (ax n 0)=Zb r:=by injection e
  have e:(ax n (0:Int)).map V.int=r.map V.int:=by injection e
  obtain⟨k,hk,_⟩:=hP.head fld.one0<|List.mem_singleton_self r;have h1:=(Z4 hk).1;have e2:r=ax n 0:=by
   have:=congrArg (λl:List V=>l.map λv=>match v with|.int i=>i|_=>0) e
   simp[ Function.comp_def]at this;exact this.symm
  rw[e2]at h1;exact T7 (YN k) h1
theorem yG(d )(s )(hn:n<=6)(h1:1<=n)(hp:p^n<=1000)(hq:(p,n)∈Xx):∃v s',CV (d+4) 17 [.drw,spV p n] s=.ok v s'/\Ab.Th 1000 v/\isP p n v=aj:=by
 have key:∃v s',rvs (CV<|d+3) [] Xh.body [aa .drw,aa<|spV p n,ai,ai] [] s=.ok (.ret v) s'/\(Ab.Th 1000 v/\isP p n v=aj):=by
  dsimp [Xh]
  have hl:=Zfh (t:=[2]) (it:=.rng1<|.n 8) (L:=aC 8) (U:=[aa .drw,aa<|spV p n,ai,ai]) (s:=s) (λv=>Ab.Th 1000 v/\isP p n v=aj) (λU=>∃a2 a3,U=[aa .drw,aa<|spV p n,a2,a3]) (YR ZP<|by lia) #[_,_,rfl] (λx U s hI=>by
   obtain⟨a2,a3,rfl⟩:=hI;refine#[[aa .drw,aa<|spV p n,aa<|Zs x,a3],rfl,?_];obtain⟨P,s1,e1,hP⟩:=QN d s hn h1 hp;obtain⟨v,s2,e2,hv⟩:=Za2 d s1 hq hP;have e3:=wo d s2 hn h1 hp hv.1;have st:∀{r},rvs (CV<|d+3) [] [.ite (.not<|.call 16 [(.v 1),(.v 3)]) [.ret<|.v 3] []] [aa .drw,aa<|spV p n,aa<|Zs x,aa v] [] s2=r->rvs (CV<|d+3) [] [.asg [3]<|.call 13 [(.v 0),(.v 1),(.call 9 #[16])],
  .ite (.not<|.call 16 [(.v 1),(.v 3)]) [.ret<|.v 3] []] [aa .drw,aa<|spV p n,aa<|Zs x,a3] [] s=r:=λh=>
    (Zi<|ZC (Zu (Zc #[9]<|Zc #[9]<|Zc (Zu (Zc #[9]<|Zc #[9] Zf) e1) Zf) e2) rfl).trans h
   have e4:pv (CV<|d+3) (.not<|.call 16 [(.v 1),(.v 3)]) [aa .drw,aa<|spV p n,aa<|Zs x,aa v] s2=.ok (.bl !isP p n v) s2:=Jy<|Ys #[9] #[9] e3;cases h:isP p n v with
   |true=>
    rw[h]at e4;exact .inr #[_,s2,st (by rw[guard e4,rvs]),_,_,rfl]
   |false=>
    rw[h]at e4;refine .inl #[v,s2,st<|Zj ?_,hv,h];rw[XJ<|Yv e4 rfl];exact Zj<|Zx<|Ze rfl)
  rcases hl with⟨v,s',e,h⟩|⟨ρ',s',e,a2,a3,rfl⟩
  .exact#[v,s',Zj e,h]
  .rw[Zi e]
   obtain⟨i,s2,e2,i0,i3⟩:=UI (m:=3) s' #[0] #[0]
   have g2:pv (CV<|d+3) (.bin .mul (.tup [(.n 2)])<|.ix (.v 1)<|.n 1) [aa .drw,aa<|spV p n,a2,a3] s'=.ok (.tup (ax (n:Int).toNat [V.int 2]).flatten) s':=by
    rw[pE7];show(if(0:Int)<=n/\(n:Int)<1000/\1<=1000 then PR.ok (V.tup (ax (n:Int).toNat [V.int 2]).flatten) s' else .no)=_
    rw[T9 #[by lia,by lia,by lia]]
   have gl:pv (CV<|d+3) (.lst [(.c .non),(.lst [(.tup [])]),(.tup [(.bin .mul #[22]<|.ix (.v 1)<|.n 1)]),(.tup [(.bin .mul (.tup [(.n 2)])<|.ix (.v 1)<|.n 1)])]) [aa .drw,aa<|spV p n,a2,a3] s'=.ok (.lst [.non,.lst [.tup []],.tup [Zb<|ax n 0],.tup [.tup (ax (n:Int).toNat [V.int 2]).flatten]]) s':=by
    have n0:pv (CV<|d+3) (.c .non) [aa .drw,aa<|spV p n,a2,a3] s'=.ok .non s':=by rw[pE1];rfl
    have n1:pv (CV<|d+3) (.lst [(.tup [])]) [aa .drw,aa<|spV p n,a2,a3] s'=.ok (.lst [.tup []]) s':=by simp[pvE]
    rw[pE4,Zc n0<|Zc n1<|Zc (Ye<|U7 hn rfl)<|Zc (Ye g2) Zf];rfl
   have e3:=Zu (as:=[(.v 0),(.n 3)]) (U:=[aa .drw,aa<|spV p n,a2,a3]) (Zc #[9]<|Zc ZP Zf) e2;have th:∀v,okV v=ao->(∀xs,v=.tup xs->xs.length<=1000)->Ab.Th 1000 v:=λv a b=>#[a,b]
   obtain rfl|rfl|rfl:i=0\/i=1\/i=2:=by lia
   .exact#[.non,s2,Zj (Zx (by rw[XZ,gl,Za,e3];rfl)),#[rfl,λxs z=>by cases z],rfl]
   .exact#[.lst [.tup []],s2,Zj (Zx (by rw[XZ,gl,Za,e3,Za];rfl)),#[rfl,λxs z=>by cases z],rfl]
   .refine#[.tup [Zb<|ax n 0],s2,Zj (Zx (by rw[XZ,gl,Za,e3];rfl)),#[Qf [ax n 0],λxs z=>by cases z;show 1<=1000;lia],Zdt]
 obtain⟨v,s',e,h⟩:=key;exact#[v,s',Zo rfl #[1] rfl e,h]
end
theorem wl:∀L:List Row,Ve (L.map λr=>V.tup [Zb r,.bl ao])=aa L
 |[]=>rfl
 |r::L=>by
  show((intsV<|r.map V.int).bind λa=>(Ve<|L.map λr=>V.tup [Zb r,.bl ao]).map (a :: ·))=_
  rw[YM,wl L];rfl
section
variable{p n:Nat}[Base p]
theorem qE(d:Nat){R every:List Row}{a5 a6 a7:Option V}(s:DS)(hn:n<=6)(h1:1<=n)(hp:p^n<=1000)(hR:∀r∈R,Zd p n r)(hl:R.length<n)(hw:(ZY p [] R).length=R.length)(he:every.Perm (ZD p n R)) :
  ∃r b6 b7 s',Zd p n r/\(ZY p []<|R++[r]).length=R.length+1/\rvs #[17] [] [.asg [6]<|.blt .dictP [(.comp1 [] 1 [0] (.of<|.v 3) []<|.tup [(.v 0),(.c<|.bl ao)])],
   .asg [7] (.comp1 [6] 1 [0] (.of<|.v 4) [(.cmp .nin (.v 0)<|.v 1)]<|.v 0),
   .asg [2] (.bin .add (.v 2)<|.tup [(.ix (.v 7)<|.call 2 [(.v 0),(.blt .len [(.v 7)])])]),
   .asg [3] (.call 8 [(.v 1),(.v 2)])] [aa .drw,aa<|spV p n,aa<|.tup<|R.map Zb,aa<|.lst<|every.map Zb,aa<|.lst<|(Zr<|ZD p n<|units n).map Zb,a5,a6,a7] [] s
   = .ok (.nx [aa .drw,aa<|spV p n,aa<|.tup<|(R++[r]).map Zb,aa<|.lst<|(Zr<|ZD p n<|R++[r]).map Zb,aa<|.lst<|(Zr<|ZD p n<|units n).map Zb,a5,b6,b7] []) s':=by
 have hpp:=Wr (p:=p);have hK:=Yh hR;have hU:=Yh (p:=p) (n:=n) Z6;have le:every.length<=1000:=by
  rw[he.length_eq,hK.len];exact bV (dH #[0]<|by lia) hp
 have lu:(ZD p n<|units n).length<=1000:=by rw[GT hn];exact hp
 have hc:=ZM (C:=CV<|d+2) (cap:=[]) (nl:=1) (t:=[0]) (it:=.of<|.v 3) (elt:=.tup [(.v 0),(.c<|.bl ao)]) (U:=[aa .drw,aa<|spV p n,aa<|.tup<|R.map Zb,aa<|.lst<|every.map Zb,aa<|.lst<|(Zr<|ZD p n<|units n).map Zb,a5,a6,a7]) (s:=s)
  (by rw[wE7,Ze rfl];rfl) #[20] (λr _=>#[[aa<|Zb r],rfl,by
   have g:pv #[17] (.c<|.bl ao) [aa<|Zb r] s=.ok (.bl ao) s:=by rw[pE1];rfl
   rw[pE3,Zc #[9]<|Zc g Zf,Za,T9 (by show 2<=lim;unfold lim;lia)]])
 have hd:pv #[17] (.blt .dictP [(.comp1 [] 1 [0] (.of<|.v 3) []<|.tup [(.v 0),(.c<|.bl ao)])]) [aa .drw,aa<|spV p n,aa<|.tup<|R.map Zb,aa<|.lst<|every.map Zb,aa<|.lst<|(Zr<|ZD p n<|units n).map Zb,a5,a6,a7] s=.ok (.dct<|.inr every) s:=by
  rw[Yq,Zc hc Zf,Za];show po ((Ve<|every.map λr=>V.tup [Zb r,.bl ao]).bind λks=>if Jc ks=ao then aa (V.dct<|.inr ks)else ai) s=_
  rw[wl];show po (if Jc every=ao then aa (V.dct<|.inr every)else ai) s=_
  rw[T9 (by
   unfold Jc;rw[aA];exact#[T5 #[20],T5<|he.nodup_iff.mpr hK.nd])];rfl
 rw[Zi<|ZC hd rfl];show ∃r b6 b7 s',_/\_/\rvs _ _ _ [aa .drw,aa<|spV p n,aa<|.tup<|R.map Zb,aa<|.lst<|every.map Zb,aa<|.lst<|(Zr<|ZD p n<|units n).map Zb,a5,aa<|.dct<|.inr every,a7] [] s=_
 let S:=(Zr<|ZD p n<|units n).filter λr=>!every.contains r
 have hc2:=YV (C:=CV<|d+2) (cap:=[6]) (nl:=1) (t:=[0]) (it:=.of<|.v 4) (tst:=.cmp .nin (.v 0)<|.v 1) (elt:=.v 0) (U:=[aa .drw,aa<|spV p n,aa<|.tup<|R.map Zb,aa<|.lst<|every.map Zb,aa<|.lst<|(Zr<|ZD p n<|units n).map Zb,a5,aa<|.dct<|.inr every,a7]) (s:=s)
  (by rw[wE7,Ze rfl];rfl) (by rw[XN];unfold lim;lia) (λr _=>#[[aa<|Zb r,aa<|.dct<|.inr every],.bl<|!every.contains r,rfl,by
   rw[Yi,Ze rfl,Za,Ze rfl,Za];show po (((intsV<|r.map V.int).map λk=>every.contains k).map λb=>V.bl !b) s=_
   rw[YM];rfl,rfl,λ_=>Ze rfl])
 rw[Zi<|ZC hc2 rfl];show ∃r b6 b7 s',_/\_/\rvs _ _ _ [aa .drw,aa<|spV p n,aa<|.tup<|R.map Zb,aa<|.lst<|every.map Zb,aa<|.lst<|(Zr<|ZD p n<|units n).map Zb,a5,aa<|.dct<|.inr every,aa<|.lst<|S.map Zb] [] s=_;have hS:∀r,r∈S↔r∈ZD p n (units n)/\r∉ZD p n R:=λr=>by
  rw[bX,(Y5 _).mem_iff];refine and_congr_right λ_=>?_
  rw[<-he.mem_iff];simp
 have ne:0<S.length:=by
  have h:=Zeq hn hR #[0]
  obtain⟨x,hx⟩:=List.exists_mem_of_ne_nil _ h;rw[bX]at hx;exact mC<|(hS x).mpr #[hx.1,by simpa using hx.2]
 have lS:S.length<=1000:=bV (eS ..) (by rw[XN];exact lu)
 have el:pv #[17] (.blt .len [(.v 7)]) [aa .drw,aa<|spV p n,aa<|.tup<|R.map Zb,aa<|.lst<|every.map Zb,aa<|.lst<|(Zr<|ZD p n<|units n).map Zb,a5,aa<|.dct<|.inr every,aa<|.lst<|S.map Zb] s=.ok (.int S.length) s:=by
  rw[Yq,Zc #[9] Zf,Za];show po (aa<|V.int (S.map Zb).length) s=_;rw[av];rfl
 obtain⟨v,s1,f1,f2,f3⟩:=UI (m:=S.length) s #[0] #[0]
 obtain⟨k,rfl⟩:∃k:Nat,v=k:=#[v.toNat,by lia]
 have hk:k<S.length:=by lia
 obtain⟨m1,m2⟩:=(hS _).mp<|aR hk;have hr:=((hU.mem _).mp m1).1;have hm:Ym p (ZY p [] R) S[k]=aj:=by
  cases q:Ym p (ZY p [] R) S[k]with|false=>rfl|true=>exact T7 ((hK.mem _).mpr #[hr,q]) m2
 have hR2:∀r∈R++[S[k]],Zd p n r:=λr h=>by
  rcases bU.mp h with h|h
  .exact hR r h
  .rw[aZ.mp h];exact hr
 have ex:pv #[17] (.ix (.v 7)<|.call 2 [(.v 0),(.blt .len [(.v 7)])]) [aa .drw,aa<|spV p n,aa<|.tup<|R.map Zb,aa<|.lst<|every.map Zb,aa<|.lst<|(Zr<|ZD p n<|units n).map Zb,a5,aa<|.dct<|.inr every,aa<|.lst<|S.map Zb] s=.ok (Zb S[k]) s1:=by
  rw[XZ,Ze rfl,Za,Zu (Zc #[9]<|Zc el Zf) f1,Za];show po (at' (S.map Zb) (k:Int)) s1=_;rw[XY (by rw[aK,af hk];rfl)];rfl
 have et:pv #[17] (.bin .add (.v 2)<|.tup [(.ix (.v 7)<|.call 2 [(.v 0),(.blt .len [(.v 7)])])]) [aa .drw,aa<|spV p n,aa<|.tup<|R.map Zb,aa<|.lst<|every.map Zb,aa<|.lst<|(Zr<|ZD p n<|units n).map Zb,a5,aa<|.dct<|.inr every,aa<|.lst<|S.map Zb] s=.ok (.tup<|(R++[S[k]]).map Zb) s1:=by
  have g:pv #[17] (.tup [(.ix (.v 7)<|.call 2 [(.v 0),(.blt .len [(.v 7)])])]) [aa .drw,aa<|spV p n,aa<|.tup<|R.map Zb,aa<|.lst<|every.map Zb,aa<|.lst<|(Zr<|ZD p n<|units n).map Zb,a5,aa<|.dct<|.inr every,aa<|.lst<|S.map Zb] s=.ok (.tup [Zb S[k]]) s1:=by
   rw[pE3,Zc ex Zf,Za,T9 (by show 1<=lim;unfold lim;lia)]
  rw[pE7,Ze rfl,Za,g,Za];show(if(R.map Zb).length+1<=lim then PR.ok (V.tup<|R.map Zb++[Zb S[k]]) s1 else .no)=_
  rw[T9 (by rw[av];unfold lim;lia),bE];rfl
 refine#[S[k],aa<|.dct<|.inr every,aa<|.lst<|S.map Zb,s1,hr,?_,?_]
 .have:ZY p [] (R++[S[k]])=XQ p (ZY p [] R) S[k]:=by unfold ZY;rw[oX];rfl
  rw[this,uF hK.part hr hm,hw]
 .rw[Zi<|ZC et rfl]
  show rvs _ _ _ [aa .drw,aa<|spV p n,aa<|.tup<|(R++[S[k]]).map Zb,aa<|.lst<|every.map Zb,aa<|.lst<|(Zr<|ZD p n<|units n).map Zb,a5,aa<|.dct<|.inr every,aa<|.lst<|S.map Zb] [] s1=_;have e9:pv #[17] (.call 8 [(.v 1),(.v 2)]) [aa .drw,aa<|spV p n,aa<|.tup<|(R++[S[k]]).map Zb,aa<|.lst<|every.map Zb,aa<|.lst<|(Zr<|ZD p n<|units n).map Zb,a5,aa<|.dct<|.inr every,aa<|.lst<|S.map Zb] s1=.ok (.lst<|(Zr<|ZD p n<|R++[S[k]]).map Zb) s1:=Ys #[9] #[9]<|Xe d s1 hn h1 hp hR2 rfl;rw[Zi<|ZC e9 rfl,rvs];rfl
theorem Zcy(d:Nat)(s:DS)(hn:n<=6)(h1:1<=n)(hp:p^n<=1000):∃R s',CV (d+3) 44 [.drw,spV p n] s=.ok (.tup<|R.map Zb) s'/\R.length=n/\(∀r∈R,Zd p n r)/\(ZY p [] R).length=n:=by
 have e0:pv #[17] (.tup []) [aa .drw,aa<|spV p n,ai,ai,ai,ai,ai,ai] s=.ok (.tup []) s:=by rw[pE3,pvs];rfl
 have e1:pv #[17] (.lst [(.bin .mul #[22]<|.ix (.v 1)<|.n 1)]) [aa .drw,aa<|spV p n,aa<|.tup [],ai,ai,ai,ai,ai] s=.ok (.lst<|[ax n 0].map Zb) s:=by
  rw[pE4,Zc (U7 hn rfl) Zf];rfl
 have e2:pv #[17] (.call 8 [(.v 1),(.call 43 [(.v 1)])]) [aa .drw,aa<|spV p n,aa<|.tup [],aa<|.lst<|[ax n 0].map Zb,ai,ai,ai,ai] s=.ok (.lst<|(Zr<|ZD p n<|units n).map Zb) s:=
  Ys #[9] (Zu (Zc #[9] Zf)<|JO (d+1) s hn) (Xe d s hn h1 hp Z6 rfl)
 obtain⟨ρ',s',hI,e⟩:=zA (C:=CV<|d+2) (os:=[]) (t:=[5]) (it:=.rng1<|.ix (.v 1)<|.n 1) (U:=[aa .drw,aa<|spV p n,aa<|.tup [],aa<|.lst<|[ax n 0].map Zb,aa<|.lst<|(Zr<|ZD p n<|units n).map Zb,ai,ai,ai]) (s:=s)
  (λl U=>∃R every a5 a6 a7,U=[aa .drw,aa<|spV p n,aa<|.tup<|R.map Zb,aa<|.lst<|every.map Zb,aa<|.lst<|(Zr<|ZD p n<|units n).map Zb,a5,a6,a7]/\R.length+l.length=n/\(∀r∈R,Zd p n r)/\(ZY p [] R).length=R.length/\every.Perm (ZD p n R))
  (by
   exact YR (ix1 rfl)<|by lia) #[[],[ax n 0],ai,ai,ai,rfl,by rw[bf];simp,(λ_ h=>by cases h),rfl,cC _] rfl (λk l U s hI=>by
   obtain⟨R,every,a5,a6,a7,rfl,hl,hR,hw,he⟩:=hI;rw[aQ]at hl;obtain⟨r,b6,b7,s',hr,hw',e⟩:=qE d s hn h1 hp hR #[0] hw he
   refine#[_,_,s',rfl,e,R++[r],Zr<|ZD p n<|R++[r],_,_,_,rfl,by rw[aU,fZ];lia,λx hx=>?_,by rw[hw',aU];rfl,Y5 _]
   rcases bU.mp hx with hx|hx
   .exact hR x hx
   .rw[aZ.mp hx];exact hr)
 obtain⟨R,every,a5,a6,a7,rfl,hl,hR,hw,he⟩:=hI;refine#[R,s',Zo rfl #[1] rfl ?_,hl,hR,by rw[hw];exact hl]
 show rvs #[17] [] Wp.body [aa .drw,aa<|spV p n,ai,ai,ai,ai,ai,ai] [] s=_
 dsimp only[Wp]
 rw[Zi<|ZC e0 rfl];show rvs _ _ _ [aa .drw,aa<|spV p n,aa<|.tup [],ai,ai,ai,ai,ai] [] s=_;rw[Zi<|ZC e1 rfl];show rvs _ _ _ [aa .drw,aa<|spV p n,aa<|.tup [],aa<|.lst<|[ax n 0].map Zb,ai,ai,ai,ai] [] s=_;rw[Zi<|ZC e2 rfl];show rvs _ _ _ [aa .drw,aa<|spV p n,aa<|.tup [],aa<|.lst<|[ax n 0].map Zb,aa<|.lst<|(Zr<|ZD p n<|units n).map Zb,ai,ai,ai] [] s=_;rw[Zi e];exact Zj<|Zx<|Ze rfl
def VA(p n:Nat)(T:List Row)(r:Row):Row:=(aC n).foldl #[32]<|ax n 0
theorem ZaJ(hl:T.length=n)(hT:∀t∈T,Zd p n t):Zd p n (VA p n T r):=by
 have:∀(L:List Nat) acc,(∀k∈L,k<n)->Zd p n acc->Zd p n (L.foldl #[32] acc):=by
  intro L
  induction L with
  |nil=>exact λ_ _ h=>h
  |cons k L ih=>
   intro acc hk h;refine ih _ (λj hj=>hk j<|am _ hj)<|Zp h<|hT _ ?_
   have:=hk k<|ak ..;rw[az,af #[0]]
   exact aR _
 exact this _ _ (λk hk=>aI.mp hk) ZR
theorem yY{T:List Row}(hl:T.length=n)(hT:∀t∈T,Zd p n t)(hk:k<n):Zd p n (T.getD k []):=by
 rw[az,af #[0]]
 exact hT _<|aR _
theorem Zfy{T:List Row}(hl:T.length=n)(hr:r.length=n):((r.map V.int).zip<|T.map Zb).map (λq=>V.tup [q.1,q.2])=(aC n).map λk=>V.tup [.int<|gt r k,Zb<|T.getD k []]:=by
 refine eG (by simp;lia) λi h1 h2=>?_
 have hi:i<n:=by simpa using h2
 simp only[iP,List.getElem_zip,oq];rw[az,af #[0]]
 unfold gt;rw[az,af #[0]];rfl
theorem wO(d:Nat)(s:DS)(hn:n<=6)(hl:T.length=n)(hT:∀t∈T,Zd p n t)(hr:Zd p n r):CV (d+2) 28 [spV p n,.tup<|T.map Zb,Zb r] s=.ok (Zb<|VA p n T r) s:=by
 have hp:=Wr (p:=p);refine Zo rfl #[1] rfl ?_
 show rvs #[15] [] XV.body [aa<|spV p n,aa<|.tup<|T.map Zb,aa<|Zb r,ai,ai,ai,ai,ai] [] s=_
 dsimp only[XV]
 rw[Zi<|Y8 _ _ (by show pv _ _ _ _=_;exact Ze rfl) #[rfl,rfl]]
 show rvs _ _ _ [aa<|spV p n,aa<|.tup<|T.map Zb,aa<|Zb r,aa<|.int p,aa<|.int n,ai,ai,ai] [] s=_;have z:pv #[15] (.bin .mul #[22]<|.v 4) [aa<|spV p n,aa<|.tup<|T.map Zb,aa<|Zb r,aa<|.int p,aa<|.int n,ai,ai,ai] s=.ok (Zb<|ax n 0) s:=by
  rw[pE7,Ye ZP,Za,Ze rfl,Za];show(if(0:Int)<=n/\(n:Int)<1000/\1<=1000 then PR.ok (V.tup (ax (n:Int).toNat [V.int 0]).flatten) s else .no)=_
  rw[T9 #[by lia,by lia,by lia],dN,xB];rfl
 rw[Zi<|ZC z rfl];show rvs _ _ _ [aa<|spV p n,aa<|.tup<|T.map Zb,aa<|Zb r,aa<|.int p,aa<|.int n,aa<|Zb<|ax n 0,ai,ai] [] s=_;obtain⟨ρ',⟨_,acc,a6,a7,_,hf,rfl⟩,e⟩:=Qe (C:=CV<|d+1) (ms:=[]) (os:=[]) (t:=[6,7]) (it:=.zip (.v 2)<|.v 1) (b:=[.asg [5]<|.call 27 [(.v 3),(.v 5),(.v 7),(.v 6)]])
  (λl U=>(∀k∈l,k<n)/\∃acc a6 a7,Zd p n acc/\l.foldl #[32] acc=VA p n T r/\U=[aa<|spV p n,aa<|.tup<|T.map Zb,aa<|Zb r,aa<|.int p,aa<|.int n,aa<|Zb acc,a6,a7])
  (by
   rw[wE5,Ze rfl,Za,Ze rfl,Za];show PR.ok (((r.map V.int).zip<|T.map Zb).map λq=>V.tup [q.1,q.2]) s=_
   rw[Zfy hl hr.1]) #[λk hk=>aI.mp hk,_,ai,ai,ZR,rfl,rfl] rfl (λk l U hI=>by
   obtain⟨hk,acc,a6,a7,ha,hf,rfl⟩:=hI;have k0:=hk k<|ak ..;have ht:=yY hl hT k0;have g:=XS ppos hr k;refine#[rfl,[aa<|spV p n,aa<|.tup<|T.map Zb,aa<|Zb r,aa<|.int p,aa<|.int n,aa<|Zb acc,aa<|.int<|gt r k,aa<|Zb<|T.getD k []],[aa<|spV p n,aa<|.tup<|T.map Zb,aa<|Zb r,aa<|.int p,aa<|.int n,aa<|Zb<|Zw p acc (T.getD k [])<|gt r k,aa<|.int<|gt r k,aa<|Zb<|T.getD k []],rfl,?_,λj hj=>hk j<|am _ hj,_,_,_,Zp ha ht,hf,rfl]
   rw[Zi (ZC (Zu (Zc #[9]<|Zc #[9]<|Zc #[9]<|Zc #[9] Zf)<|QH d s hn ha ht<|by lia) rfl),rvs]
   rfl)
 rw[Zi e,show acc=VA p n T r from hf]
 exact Zj<|Zx<|Ze rfl
theorem Zd7(d:Nat)(s:DS)(hn:n<=6)(hl:T.length=n)(hT:∀t∈T,Zd p n t)(hr:Zd p n r):CV (d+2) 10 [spV p n,.tup<|T.map Zb,Zb r] s=.ok (Zb<|VA p n T r) s:=by
 have hp:=Wr (p:=p);refine Zo rfl #[1] rfl ?_
 show rvs #[15] [] Vb.body [aa<|spV p n,aa<|.tup<|T.map Zb,aa<|Zb r,ai,ai] [] s=_
 dsimp only[Vb]
 rw[Zi<|ZC (U7 hn rfl) rfl];show rvs _ _ _ [aa<|spV p n,aa<|.tup<|T.map Zb,aa<|Zb r,aa<|Zb<|ax n 0,ai] [] s=_;obtain⟨ρ',⟨_,acc,a4,_,hf,rfl⟩,e⟩:=Qe (C:=CV<|d+1) (ms:=[]) (t:=[4]) (it:=.rng1<|.ix (.v 0)<|.n 1) (b:=[.asg [3]<|.call 7 [(.v 0),(.v 3),(.ix (.v 2)<|.v 4),(.ix (.v 1)<|.v 4)]]) (s:=s)
  (λl U=>(∀k∈l,k<n)/\∃acc a4,Zd p n acc/\l.foldl #[32] acc=VA p n T r/\U=[aa<|spV p n,aa<|.tup<|T.map Zb,aa<|Zb r,aa<|Zb acc,a4])
  (by rw[Lv.hide_nil];exact YR (ix1 rfl)<|by lia) #[λk hk=>aI.mp hk,_,ai,ZR,rfl,rfl] rfl (λk l U hI=>by
   obtain⟨hk,acc,a4,ha,hf,rfl⟩:=hI;have k0:=hk k<|ak ..;have ht:=yY hl hT k0;have g:=XS ppos hr k;refine#[rfl,[aa<|spV p n,aa<|.tup<|T.map Zb,aa<|Zb r,aa<|Zb acc,aa<|Zs k],[aa<|spV p n,aa<|.tup<|T.map Zb,aa<|Zb r,aa<|Zb<|Zw p acc (T.getD k [])<|gt r k,aa<|Zs k],rfl,?_,λj hj=>hk j<|am _ hj,_,_,Zp ha ht,hf,rfl]
   have g1:pv #[15] (.ix (.v 2)<|.v 4) [aa<|spV p n,aa<|.tup<|T.map Zb,aa<|Zb r,aa<|Zb acc,aa<|Zs k] s=.ok (.int<|gt r k) s:=Ue rfl rfl (by rw[hr.1];exact k0)
   have g2:pv #[15] (.ix (.v 1)<|.v 4) [aa<|spV p n,aa<|.tup<|T.map Zb,aa<|Zb r,aa<|Zb acc,aa<|Zs k] s=.ok (Zb<|T.getD k []) s:=by
    rw[XZ,Ze rfl,Za,Ze rfl,Za];show po (at' (T.map Zb) (k:Int)) s=_;rw[XY (by rw[aK,af #[0]];rfl),az,af #[0]];rfl
   rw[Zi (ZC (Zu (Zc #[9]<|Zc #[9]<|Zc g1<|Zc g2 Zf)<|QX d s hn ha ht<|by lia) rfl),rvs]
   rfl)
 rw[Zi e,show acc=VA p n T r from hf]
 exact Zj<|Zx<|Ze rfl
def vP(d )(s )(hn:n<=6)(hx:okV x=ao):CV (d+7) 37 [spV p n,x] s=if Xq p n x=ao then .ok .non s else .ex 7 s:=by
 have e:=Zal (p:=p) d s hn hx;cases h:Xq p n x with
 |true=>
  rw[h]at e;refine yf (U:=[aa<|spV p n,aa x]) (os:=[]) rfl #[1] rfl ?_
  simp[WG,pvE,e]
 |false=>
  rw[h]at e;refine U4 rfl #[1] rfl ?_
  simp[WG,pvE,e];rfl
def ug(T:List Row):okV (.tup<|T.map Zb)=ao:=Qf T
def qR(d:Nat)(s:DS)(hn:n<=6)(hl:T.length=n)(hT:∀t∈T,Zd p n t)(hw:(ZY p [] T).length=n):CV (d+7) 37 [spV p n,.tup<|T.map Zb] s=.ok .non s:=by
 have e:=vP (p:=p) d s hn<|ug T;rw[WZ hl hT,T9<|T5 hw]at e;exact e
theorem VU(d )(s )(hn:n<=6)(h1:1<=n)(hp:p^n<=1000)(hl:T.length=n)(hT:∀t∈T,Zd p n t)(hP:pZ p n P):CV (d+3) 11 [spV p n,.tup<|T.map Zb,Zh P] s=.ok (Zh<|ZY p []<|P.map<|VA p n T) s:=by
 have lP:=dsum hP;have hpp:=Wr (p:=p);have hR:∀r∈P.map (VA p n T),Zd p n r:=λr hr=>by
  obtain⟨q,hq,rfl⟩:=aF.mp hr;exact ZaJ hl hT
 refine Zo rfl #[1] rfl ?_
 have hc:=ZM (cap:=[0,1]) (nl:=1) (t:=[0]) (it:=.of<|.v 2) (elt:=.call 10 [(.v 1),(.v 2),(.v 0)]) (U:=[aa<|spV p n,aa<|.tup<|T.map Zb,aa<|Zh P])
  (by rw[wE7,Ze rfl];rfl) #[20] (λr hr=>#[[aa<|Zb r,aa<|spV p n,aa<|.tup<|T.map Zb],rfl,W7 #[9] #[9] #[9]<|Zd7 d s hn hl hT<|hP.row r hr])
 have hK:=Yh hR;have hl2:(Zr<|ZD p n<|P.map<|VA p n T).length<=1000:=by
  rw[XN,hK.len];exact bV (dH #[0]<|dsum hK.part) hp
 have e5:=Xe d (v:=.lst<|P.map λr=>Zb<|VA p n T r) s hn h1 hp hR (by rw[bL];rfl)
 have e6:=Jm d s hn hK (Y5 _) hl2;exact Zj<|Zx<|Ys #[9] (Ys #[9] hc e5) e6
end
end K75
namespace Rw
open La
open Ev (ltI Zr)
section
variable{p n:Nat}[Base p]
def Gj{R:List Row}(hR:∀r∈R,Zd p n r):Spans p n R (ZY p [] R):=by
 obtain⟨hM,e⟩:=UY (P:=[]) pZ.nil hR;have hm:=(VL fld (R.map<|toV p) Pn.nil λv hv=>by
  obtain⟨r,h,rfl⟩:=aF.mp hv;exact Yr<|hR r h).2
 have h:∀u,Mm p (ZY p [] R) u↔UU [] (R.map<|toV p) u:=λu=>by
  unfold Mm;rw[e];exact hm u
 refine#[hM,λr hr=>(ZK hM<|hR r hr).mpr<|(h _).mpr<|uO<|dP hr,λW hW hw r hr=>?_]
 have hr':=hM.row r hr;have:=(h _).mp<|(ZK hM hr').mp<|zM hM hr;refine(ZK hW hr').mpr<|Qu (λv hv=>?_) this
 obtain⟨x,hx,rfl⟩:=aF.mp hv;exact(ZK hW<|hR x hx).mp<|hw x hx
def zj{P:List Row}(hP:pZ p n P):P.length<=n:=by
 rw[<-Qk (p:=p)];exact QV hP.pn
def ZcJ{P Q:List Row}(hP:pZ p n P)(hQ:pZ p n Q)(h:∀u,Mm p P u->Mm p Q u):P.length<=Q.length:=Zfk hP hQ<|(VF hP hQ).mpr h
def Za7(hn:n<=6){W:List Row}{r:Row}(hW:pZ p n W)(hl:W.length=n)(hr:Zd p n r):Ym p W r=ao:=by
 cases c:Ym p W r with
 |true=>rfl
 |false=>
  have:=uF hW hr c;have:=zj (Ww hW hr).1;omega
variable{P:List Row}
end
variable{p n:Nat}[Base p]
theorem zX{k j:Nat}(hk:k<n):gt (Yg n k) j=if j=k then 1 else 0:=by
 by_cases h:j<n
 .unfold gt Yg
  rw[az,aK,bZ h];rfl
 .rw[zF (by unfold Yg;rw[av,bf];lia),T8 #[0]]
def VB{k:Nat}(hk:k<n):Zd p n (Yg n k):=Z6 _<|aF.mpr #[k,aI.mpr hk,rfl]
theorem JA{W:List Row}{H:List Nat}(hW:pZ p n W)(hc:∀k,k<n->H.contains k=aj->Ym p W (Yg n k)=ao):∀(m:Nat)(v:Row),m<=n->Zd p n v->(∀j,m<=j->gt v j=0)->(∀j,H.contains j=ao->gt v j=0)->Ym p W v=ao
 |0,v,_,hv,h1,_=>U8 hW hv λi=>h1 i<|c7 _
 |m+1,v,hm,hv,h1,h2=>by
  cases c:H.contains m with
  |true=>exact JA hW hc m v #[0] hv (λj hj=>by
    by_cases e:j=m
    .rw[e];exact h2 m c
    .exact h1 j<|by lia) h2
  |false=>
   have hu:=VB (p:=p) (k:=m) (n:=n) #[0]
   have g:∀j,gt (Zw p v (Yg n m)<|-gt v m) j=if j=m then 0 else gt v j:=λj=>by
    rw[WM hv hu,zX #[0]]
    have:=XS (p:=p) (n:=n) (by rcases(inferInstance:Base p).b with e|e|e<;>lia) hv j
    by_cases e:j=m
    .rw[T9 e,T9 e,e,pC,Int.add_right_neg];rfl
    .rw[T8 e,T8 e,Int.mul_zero,Int.add_zero,ee this.1 this.2]
   have h:=JA hW hc m (Zw p v (Yg n m)<|-gt v m) #[0] (Zp hv hu) (λj hj=>by
    rw[g];by_cases e:j=m
    .rw[T9 e]
    .rw[T8 e];exact h1 j<|by lia) λj hj=>by
     rw[g,h2 j hj,ite_self]
   rw[<-WV (k:=gt v m) hv hu];exact Qd hW (Zp hv hu) hu h<|hc m #[0] c
def Qg{P:List Row}(hP:pZ p n P):P.map YF=Zt P:=cn λr hr=>by
 obtain⟨k,e,_⟩:=hP.head fld.one0 hr;unfold YF;rw[e];rfl
theorem ZcW{P:List Row}(hP:pZ p n P):((aC n).filter λk=>!(P.map YF).contains k).length+P.length=n:=by
 have h2:(aC n).filter (Zt P).contains=Zt P:=zH (List.Pairwise.filter _ mB) (by rw[<-XG (p:=p)];exact hP.pn.rf.heads) λx=>by
  rw[bX,aI,c8];refine#[λh=>h.2,λh=>#[?_,h]]
  obtain⟨r,hr,rfl⟩:=aF.mp h;obtain⟨k,e,hk,_⟩:=hP.head fld.one0 hr;rw[e];exact hk
 have gen:∀(q:Nat->Bool)(L:List Nat),(L.filter q).length+(L.filter λj=>!q j).length=L.length:=by
  intro q L
  induction L with
  |nil=>rfl
  |cons k L ih=>
   rw[gH,gH];cases q k<;>simp<;>lia
 have:=gen (Zt P).contains<|aC n;rw[h2,bf,Zt,av]at this;rw[Qg hP];unfold Zt;lia
theorem ZeX{P W:List Row}(hn:n<=6)(hP:pZ p n P)(hW:pZ p n W)(w1:∀o∈P,Ym p W o=ao)(hu:∀k,k<n->(P.map YF).contains k=aj->Ym p W (Yg n k)=ao):W.length=n:=by
 rw[Qg hP]at hu;have hB:=(Y6 hP.row).mpr hP;have:=ZcJ (p:=p) (n:=n) (Xl hn) hW ((VF (Xl hn) hW).mp (aV.mpr λu hu'=>by
  obtain⟨k,hk,rfl⟩:=aF.mp hu';have hk:=aI.mp hk;cases c:(Zt P).contains k with
  |false=>exact hu k hk c
  |true=>
   unfold Wz at hB;rw[aA,aA]at hB;have al:=aV.mp hB.2.2;have hd:∀i (hi:i<P.length),X7 P i ((hdI P[i]).getD 0)=ao:=λi hi=>by
    have:=al i<|aI.mpr hi
    rwa [Vv hi]at this
   obtain⟨i,hi,hik⟩:∃i,∃hi:i<P.length,(hdI P[i]).getD 0=k:=by
    unfold Zt at c;obtain⟨q,hq,e⟩:=aF.mp<|c8.mp c;obtain⟨i,hi,e2⟩:=bY hq;exact#[i,hi,by rw[e2];exact e]
   have hrow:=hP.row _<|aR hi;have hU:=VB (p:=p) hk;have hz:∀j,(Zt P).contains j=ao->gt (Zw p (Yg n k) P[i]<|-1) j=0:=λj hj=>by
    obtain⟨q,hq,e⟩:=aF.mp<|c8.mp hj;obtain⟨l,hl',e2⟩:=bY hq;rw[WM hU hrow,zX hk];have a:=hd l hl';rw[e2,e]at a;unfold X7 at a;rw[aA]at a;by_cases h:l=i
    .subst h
     have ej:j=k:=by rw[<-e,<-e2,hik]
     have:=T6 a.1;rw[VI hl']at this;rw[this,T9 ej];rfl
    .have:=T6 (aV.mp a.2 _<|Zbs hi λz=>h z.symm)
     rw[this];have:j≠k:=λz=>by
      have b:=hd i hi;rw[hik]at b;unfold X7 at b;rw[aA]at b;have b1:=T6 b.1;rw[VI hi,<-z]at b1;lia
     rw[T8 this];rfl
   have h:=JA hW hu n _ (aJ _) (Zp hU hrow) (λj hj=>zF<|by rw[(Zp hU hrow).1];exact hj) hz
   rw[<-WV (k:=1) hU hrow];exact Qd hW (Zp hU hrow) hrow h<|w1 _<|aR hi))
 rw[W0]at this;have:=zj hW;lia
end Rw
namespace La
section
variable{F:Type}[ko F]
structure Lin(n:Nat)(f:Vec F->Vec F):Prop where
 lin:∀(u v:Vec F)(c:F),f (λj=>u j+c*v j)=λj=>f u j+c*f v j
 sp:∀u,Supp n u->Supp n (f u)
def it(f:Vec F->Vec F):Nat->Vec F->Vec F
 |0,v=>v
 |k+1,v=>it f k<|f v
def comb(f:Vec F->Vec F):List F->Vec F->Vec F
 |[],_=>λ_=>0
 |a::c,v=>λj=>a*v j+comb f c (f v) j
variable{n:Nat}{f:Vec F->Vec F}
theorem Lin.comb(L:Lin n f):∀(c:List F)(u v:Vec F)(k:F),La.comb f c (λj=>u j+k*v j)=λj=>La.comb f c u j+k*La.comb f c v j
 |[],u,v,k=>by funext j;show(0:F)=0+k*0;grind
 |a::c,u,v,k=>by
  funext j
  show a*(u j+k*v j)+La.comb f c (f λj=>u j+k*v j) j=(a*u j+La.comb f c (f u) j)+k*(a*v j+La.comb f c (f v) j)
  rw[L.lin,Lin.comb L c];grind
theorem Lin.zero(L:Lin n f):f (λ_=>0)=λ_=>0:=by
 have h:=L.lin (λ_=>0) (λ_=>0)<|-1
 rw[show(λj:Nat=>(0:F) + -1*0)=λ_=>0 by funext j;grind]at h
 rw[h];funext j;grind
theorem zT(L:Lin n f):∀(c:List F)(v:Vec F),comb f c (f v)=f (comb f c v)
 |[],v=>L.zero.symm
 |a::c,v=>by
  have h:=L.lin (comb f c<|f v) v a;rw[show(λj=>comb f c (f v) j+a*v j)=comb f (a::c) v by funext j;show _=a*v j+comb f c (f v) j;grind]at h
  rw[h,<-zT L c (f v)]
  funext j
  show a*f v j+comb f c (f<|f v) j=_
  grind
theorem GD(L:Lin n f):∀(c d:List F)(v:Vec F),comb f c (comb f d v)=comb f d (comb f c v)
 |[],d,v=>by
  have h:=L.comb d (λ_=>0) (λ_=>0)<|-1
  rw[show(λj:Nat=>(0:F) + -1*0)=λ_=>0 by funext j;grind]at h
  show(λ_=>0)=comb f d λ_=>0
  rw[h];funext j;grind
 |a::c,d,v=>by
  have h:=L.comb d (comb f c<|f v) v a;rw[show(λj=>comb f c (f v) j+a*v j)=comb f (a::c) v by funext j;show _=a*v j+comb f c (f v) j;grind]at h
  rw[h]
  funext j
  show a*comb f d v j+comb f c (f<|comb f d v) j=_;rw[<-zT L d v,GD L c d];grind
theorem Xc:∀(c:List F)(a:F)(v:Vec F)(j:Nat),comb f (c++[a]) v j=comb f c v j+a*it f c.length v j
 |[],a,v,j=>by show a*v j+0=0+a*v j;grind
 |b::c,a,v,j=>by
  show b*v j+comb f (c++[a]) (f v) j=b*v j+comb f c (f v) j+a*it f c.length (f v) j;rw[Xc c a (f v) j];grind
theorem VC{P:Pt F}:∀{c:List F}{v:Vec F},(∀k,k<c.length->Mem P (it f k v))->Mem P (comb f c v)
 |[],v,_=>YD
 |a::c,v,h=>by
  have h1:=VC (c:=c) (v:=f v) λk hk=>h (k+1)<|Nat.succ_lt_succ hk
  have:=YO a h1<|h 0<|Nat.succ_pos _;rw[show comb f (a::c) v=λj=>comb f c (f v) j+a*it f 0 v j by funext j;show a*v j+_=_+a*v j;grind]
  exact this
theorem vE{P:Pt F}(hi:∀u,Mem P u->Mem P (f u)):∀(k:Nat){v:Vec F},Mem P v->Mem P (it f k v)
 |0,_,h=>h
 |k+1,_,h=>vE hi k<|hi _ h
theorem ZcE(L:Lin n f):∀(k:Nat){v:Vec F},Supp n v->Supp n (it f k v)
 |0,_,h=>h
 |k+1,_,h=>ZcE L k<|L.sp _ h
theorem ZcB(c:List F)(v:Vec F)(j:Nat):comb f (c.map λa=>-a) v j = - comb f c v j:=by
 induction c generalizing v with|nil=>show(0:F) = -0;grind|cons a c ih=>show -a*v j+_ = -(a*v j+_);rw[ih];grind
noncomputable def xp:List F->List F->List F
 |x::xs,y::ys=>(x+y)::xp xs ys
 |xs,[]=>xs
 |[],ys=>ys
theorem VO:∀{xs ys:List F},ys.length<=xs.length->(xp xs ys).length=xs.length
 |x::xs,y::ys,h=>by show(xp xs ys).length+1=_;rw[VO<|Nat.le_of_succ_le_succ h];rfl
 |[],[],_=>rfl
 |_::_,[],_=>rfl
 |[],_::_,h=>by cases h
theorem Ut:∀(xs ys:List F)(v:Vec F)(j:Nat),comb f (xp xs ys) v j=comb f xs v j+comb f ys v j
 |x::xs,y::ys,v,j=>by
  show(x+y)*v j+comb f (xp xs ys) (f v) j=(x*v j+comb f xs (f v) j)+(y*v j+comb f ys (f v) j);rw[Ut xs ys];grind
 |[],[],v,j=>by show(0:F)=0+0;grind
 |x::xs,[],v,j=>by show _=_+(0:F);show comb f (x::xs) v j=_;grind
 |[],y::ys,v,j=>by show _=(0:F)+_;show comb f (y::ys) v j=_;grind
theorem Gz(a:F)(c:List F)(v:Vec F)(j:Nat):comb f (c.map λb=>a*b) v j=a*comb f c v j:=by
 induction c generalizing v with|nil=>show(0:F)=a*0;grind|cons b c ih=>show a*b*v j+_=a*(b*v j+_);rw[ih];grind
theorem Zdi(L:Lin n f)(q:List F):∀C:List F,∃E:List F,E.length=C.length+q.length/\∀u,comb f (E++[1]) u=comb f (C++[1]) (comb f (q++[1]) u)
 |[]=>#[q,by simp,λu=>by funext j;show _=1*_+(0:F);grind]
 |a::C=>by
  obtain⟨E,h1,h2⟩:=Zdi L q C;refine#[xp (0::E)<|(q++[1]).map λb=>a*b,?_,λu=>?_]
  .rw[VO (by simp;lia),aQ,aQ,h1];lia
  .funext j
   have hl:(xp (0::E)<|(q++[1]).map λb=>a*b).length=E.length+1:=by rw[VO (by simp;lia)];rfl
   rw[Xc,hl,Ut,Gz];have e:=congrFun (h2<|f u) j;rw[Xc]at e;show(0*u j+comb f E (f u) j)+a*comb f (q++[1]) u j+1*it f E.length (f u) j=a*comb f (q++[1]) u j+comb f (C++[1]) (f<|comb f (q++[1]) u) j;rw[<-zT L,<-e];grind
structure Clb(n:Nat)(f:Vec F->Vec F)(P:Pt F)(v:Vec F)(i:Nat)(R:Pt F):Prop where
 pn:Pn n R
 len:R.length=P.length+i
 sub:∀u,Mem P u->Mem R u
 gen:∀k,k<i->Mem R (it f k v)
 dec:∀u,Mem R u->∃c:List F,c.length=i/\Mem P λj=>u j-comb f c v j
variable{inv:F->F}[DecidableEq F]
theorem ZfG(fl:Fld inv)(L:Lin n f){P:Pt F}{v:Vec F}(hv:Supp n v):∀(m i:Nat)(R:Pt F),n<=R.length+m->Clb n f P v i R->∃t R',i<=t/\Clb n f P v t R'/\Mem R' (it f t v)
 |m,i,R,hm,h=>by
  by_cases c:Mem R (it f i v)
  .exact#[i,R,aJ _,h,c]
  .have g:=WJ fl h.pn (ZcE L i hv)
   have gl:=g.len c;have:=QV g.pn
   match m,hm with
   |0,hm=>lia
   |m+1,hm=>
    have le:∀u,Mem R u->Mem (more inv n R<|it f i v) u:=λu hu=>(g.mem u).mpr #[0,by
     rw[show(λj=>u j-0*it f i v j)=u by funext j;grind];exact hu]
    obtain⟨t,R',a,b,d⟩:=ZfG fl L hv m (i+1) (more inv n R<|it f i v) #[0] #[g.pn,by rw[gl,h.len];lia,λu hu=>le u<|h.sub u hu,λk hk=>by
     by_cases e:k=i
     .rw[e]
      exact(g.mem _).mpr #[1,by rw[show(λj=>it f i v j-1*it f i v j)=λ_=>0 by funext j;grind];exact YD]
     .exact le _ (h.gen k #[0]),λu hu=>by
     obtain⟨c,hc⟩:=(g.mem u).mp hu;obtain⟨d,d1,d2⟩:=h.dec _ hc;refine#[d++[c],by rw[aU,d1];rfl,?_]
     rw[show(λj=>u j-comb f (d++[c]) v j)=λj=>u j-c*it f i v j-comb f d v j by funext j;rw[Xc,d1];grind]
     exact d2]
    exact#[t,R',by lia,b,d]
theorem ZeE(fl:Fld inv)(L:Lin n f){P:Pt F}{v:Vec F}(hP:Pn n P)(hi:∀u,Mem P u->Mem P (f u))(hv:Supp n v)(hn:¬Mem P v) :
  ∃(R:Pt F)(q:List F),Pn n R/\(∀u,Mem R u->Mem R (f u))/\R.length=P.length+q.length/\1<=q.length/\∀u,Mem R u->Mem P (comb f (q++[1]) u):=by
 obtain⟨t,R,_,h,ht⟩:=ZfG fl L hv n 0 P #[0] #[hP,rfl,λ_ h=>h,λk hk=>by lia,λu hu=>#[[],rfl,by
  rw[show(λj=>u j-comb f [] v j)=u by funext j;show u j-0=_;grind];exact hu]]
 obtain⟨c,c1,c2⟩:=h.dec _ ht;have hq:Mem P (comb f (c.map (λa=>-a)++[1]) v):=by
  rw[show comb f (c.map (λa=>-a)++[1]) v=λj=>it f t v j-comb f c v j by funext j;rw[Xc,av,c1,ZcB];grind]
  exact c2
 have split:∀u,Mem R u->∃d w,d.length=t/\Mem P w/\u=λj=>comb f d v j+w j:=λu hu=>by
  obtain⟨d,d1,d2⟩:=h.dec u hu;exact#[d,_,d1,d2,by funext j;grind]
 refine#[R,c.map λa=>-a,h.pn,λu hu=>?_,by rw[av,c1];exact h.len,?_,λu hu=>?_]
 .obtain⟨d,w,d1,d2,rfl⟩:=split u hu
  have:=L.lin (comb f d v) w 1;rw[show(λj=>comb f d v j+1*w j)=λj=>comb f d v j+w j by funext j;grind]at this
  rw[this,<-zT L];refine YO 1 (VC λk hk=>?_)<|h.sub _<|hi _ d2
  show Mem R (it f (k+1) v);by_cases e:k+1=t
  .rw[e];exact ht
  .exact h.gen _ #[0]
 .rw[av,c1]
  cases t with
  |zero=>
   have:=h.dec _ ht;exact T7 (by
    obtain⟨d,d1,d2⟩:=this;rw[d7.mp d1]at d2;rw[show(λj=>it f 0 v j-comb f [] v j)=v by funext j;show v j-0=_;grind]at d2
    exact d2) hn
  |succ t=>lia
 .obtain⟨d,w,d1,d2,rfl⟩:=split u hu
  have:=L.comb (c.map (λa=>-a)++[1]) (comb f d v) w 1
  rw[show(λj=>comb f d v j+1*w j)=λj=>comb f d v j+w j by funext j;grind]at this
  rw[this,GD L];exact YO 1 (VC λk _=>vE hi k hq)<|VC λk _=>vE hi k d2
theorem qy(fl:Fld inv)(L:Lin n f):∀(m:Nat)(P:Pt F)(D:List F),n<=P.length+m->Pn n P->(∀u,Mem P u->Mem P (f u))->D.length=P.length->(∀u,Mem P u->∀j,comb f (D++[1]) u j=0)->
  ∃D:List F,D.length<=n/\∀u,Supp n u->∀j,comb f (D++[1]) u j=0
 |m,P,D,hm,hP,hi,hl,hD=>by
  by_cases c:∃v,Supp n v/\¬Mem P v
  .obtain⟨v,hv,hn⟩:=c
   obtain⟨R,q,h1,h2,h3,h4,h5⟩:=ZeE fl L hP hi hv hn;have:=QV h1
   match m,hm with
   |0,hm=>lia
   |m+1,hm=>
    obtain⟨E,e1,e2⟩:=Zdi L q D;exact qy fl L m R E #[0] h1 h2 #[0] λu hu j=>by rw[e2];exact hD _ (h5 u hu) j
  .have:=QV hP
   exact#[D,by lia,λu hu j=>hD u (Classical.byContradiction λz=>c #[u,hu,z]) j]
theorem ZhM(fl:Fld inv)(L:Lin n f):∃D:List F,D.length=n/\∀u,Supp n u->∀j,comb f (D++[1]) u j=0:=by
 obtain⟨D,h1,h2⟩:=qy fl L n [] [] #[2] Pn.nil (λu hu=>by
  have:u=λ_=>0:=funext hu
  rw[this,L.zero];exact YD) rfl λu hu j=>by
   have:=hu j;show 1*u j+(0:F)=0;rw[this];show 1*(0:F)+0=0;grind
 have pad:∀m,∃E:List F,E.length=D.length+m/\∀u,Supp n u->∀j,comb f (E++[1]) u j=0:=λm=>by
  induction m with
  |zero=>exact#[D,rfl,h2]
  |succ m ih=>
   obtain⟨E,e1,e2⟩:=ih;exact#[0::E,by rw[aQ,e1];lia,λu hu j=>by
    show 0*u j+comb f (E++[1]) (f u) j=0;rw[e2 _ (L.sp u hu) j];grind]
 obtain⟨E,e1,e2⟩:=pad<|n-D.length;exact#[E,by lia,e2]
theorem xF(fl:Fld inv)(L:Lin n f)(hn:1<=n):∀k:Nat,∃c:List F,c.length=n/\∀u,Supp n u->it f k u=comb f c u
 |0=>#[1::ax (n-1) 0,by rw[aQ,bO];lia,λu _=>by
  have z:∀(m:Nat)(u:Vec F)(j:Nat),comb f (ax m 0) u j=0:=λm=>by
   induction m with|zero=>intro u j;rfl|succ m ih=>intro u j;show 0*u j+comb f (ax m 0) (f u) j=0;rw[ih];grind
  funext j
  show u j=1*u j+_;rw[z];grind]
 |k+1=>by
  obtain⟨D,d1,d2⟩:=ZhM fl L;obtain⟨c,c1,c2⟩:=xF fl L hn k;have hne:(0:F)::c≠[]:=by simp
  have e:(0:F)::c=((0:F)::c).dropLast++[((0:F)::c).getLast hne]:=(List.dropLast_concat_getLast hne).symm;generalize ((0:F)::c).getLast hne=l at e;have lc:((0:F)::c).dropLast.length=n:=by rw[List.length_dropLast,aQ];lia
  generalize ((0:F)::c).dropLast=c' at e lc;refine#[xp c'<|D.map λb=>-l*b,by rw[VO (by rw[av];lia),lc],λu hu=>?_]
  show it f k (f u)=_;rw[c2 _<|L.sp u hu]
  funext j
  have h1:comb f (0::c) u j=comb f c (f u) j:=by show 0*u j+_=_;grind
  rw[<-h1,e,Xc,Ut,Gz,lc];have h2:=d2 u hu j;rw[Xc,d1]at h2
  grind
noncomputable def QY{A:Type}(E:List A):Nat->List (List A)
 |0=>[[]]
 |n+1=>(QY E n).flatMap λl=>E.map (· :: l)
theorem QA{A:Type}(E:List A):∀n,(QY E n).length=E.length^n
 |0=>rfl
 |n+1=>by
  have h:=QA E n;have gen:∀L:List (List A),(L.flatMap λl=>E.map (· :: l)).length=L.length*E.length:=λL=>by
   induction L with|nil=>simp|cons l L ih=>rw[lD,aU,ih,av,aQ,Nat.succ_mul];lia
  show((QY E n).flatMap _).length=_;rw[gen,h,Nat.pow_succ]
theorem Qn{A:Type}{E:List A}(hE:∀a,a∈E):∀l:List A,l∈QY E l.length
 |[]=>aZ.mpr rfl
 |a::l=>eI.mpr #[l,Qn hE l,aF.mpr #[a,hE a,rfl]]
theorem Zas:∀(i m:Nat)(u:Vec F),it f (i+m) u=it f i (it f m u)
 |i,0,u=>rfl
 |i,m+1,u=>Zas i m<|f u
theorem ZaF(sur:∀w,Supp n w->∃u,Supp n u/\f u=w):∀(i:Nat){w:Vec F},Supp n w->∃u,Supp n u/\it f i u=w
 |0,w,h=>#[w,h,rfl]
 |i+1,w,h=>by
  obtain⟨x,hx,e⟩:=ZaF sur i h;obtain⟨u,hu,rfl⟩:=sur x hx;exact#[u,hu,e]
theorem ZcF(fl:Fld inv)(L:Lin n f)(hn:1<=n){E:List F}(hE:∀a,a∈E)(sur:∀w,Supp n w->∃u,Supp n u/\f u=w):∃m,1<=m/\m<=E.length^n/\∀u,Supp n u->it f m u=u:=by
 have h:=xF fl L hn
 let c:Nat->List F:=λk=>Classical.choose<|h k
 have hc:∀k,(c k).length=n/\∀u,Supp n u->it f k u=comb f (c k) u:=λk=>Classical.choose_spec<|h k
 by_cases z:∃i j,i<j/\j<=E.length^n/\c i=c j
 .obtain⟨i,j,h1,h2,e⟩:=z
  refine#[j-i,by lia,by lia,λu hu=>?_]
  obtain⟨x,hx,rfl⟩:=ZaF sur i hu;rw[<-Zas,show j-i+i=j by lia,(hc j).2 x hx,(hc i).2 x hx,e]
 .have nd:((aC<|E.length^n+1).map c).Nodup:=cS.mpr (mB.imp_of_mem λ{i j} _ hj hlt e=>z #[i,j,hlt,by have:=aI.mp hj;lia,e])
  have:=List.Nodup.length_le_of_subset nd (l₂:=QY E n) λx hx=>by
   obtain⟨k,_,rfl⟩:=aF.mp hx;have:=Qn hE<|c k
   rwa [(hc k).1]at this
  rw[av,bf,QA]at this;lia
end
end La
namespace Rw
open La
def XC(p n:Nat)(T:List Row)(r:Row):Row:=(aC n).foldl #[32]<|ax n 0
def itR(p n:Nat)(T:List Row):Nat->Row->Row
 |0,r=>r
 |k+1,r=>itR p n T k<|XC p n T r
section
variable{p n:Nat}[Base p]
def yr(p n:Nat)[NeZero p](T:List Row)(u:Vec (Fin p)):Vec (Fin p):=λj=>sl (aC n) λk=>u k*toV p (T.getD k []) j
theorem Zen(L:List Nat)(g g':Nat->Fin p)(c:Fin p):sl L (λj=>g j+c*g' j)=sl L g+c*sl L g':=by
 have:=Zhu L g g'<|-c;rw[show(λj=>g j - -c*g' j)=λj=>g j+c*g' j by funext j;grind]at this
 rw[this];grind
theorem XW{T:List Row}{k:Nat}(hl:T.length=n)(hT:∀t∈T,Zd p n t)(hk:k<n):Zd p n (T.getD k []):=by
 rw[az,af #[0]]
 exact hT _<|aR ..
theorem GQ{T:List Row}(hl:T.length=n)(hT:∀t∈T,Zd p n t):Lin n (yr p n T):=#[λu v c=>by
 funext j
 show sl _ _=sl _ _+c*sl _ _;rw[<-Zen];exact V1 λk _=>by grind,λu _ j hj=>zw λk hk=>by
 rw[Yr (XW hl hT<|aI.mp hk) j hj];grind]
theorem WK{T:List Row}{r:Row}(hl:T.length=n)(hT:∀t∈T,Zd p n t):Zd p n (XC p n T r)/\toV p (XC p n T r)=yr p n T (toV p r):=by
 have gen:∀(L:List Nat)(a:Row),(∀k∈L,k<n)->Zd p n a->Zd p n (L.foldl #[32] a)/\toV p (L.foldl #[32] a)=λj=>toV p a j+sl L λk=>toV p r k*toV p (T.getD k []) j:=λL=>by
  induction L with
  |nil=>exact λa _ ha=>#[ha,by funext j;show _=_+0;show toV p a j=_;grind]
  |cons k L ih=>
   intro a hL ha;have hk:=XW hl hT<|hL k<|ak ..;obtain⟨x,y⟩:=ih (Zw p a (T.getD k [])<|gt r k) (λk h=>hL k<|am _ h)<|Zp ha hk
   refine#[x,y.trans ?_]
   funext j
   rw[ZX ha hk];show toV p a j+ph p (gt r k)*toV p (T.getD k []) j+_=toV p a j+(toV p r k*toV p (T.getD k []) j+_);rw[show ph p (gt r k)=toV p r k from rfl];grind
 obtain⟨a,b⟩:=gen (aC n) (ax n 0) (λk hk=>aI.mp hk) ZR
 refine#[a,b.trans ?_]
 funext j
 rw[(Z8 ZR).mpr<|YN j];show 0+sl _ _=_;unfold yr;grind
theorem zD{T:List Row}(hl:T.length=n)(hT:∀t∈T,Zd p n t):∀(m:Nat){r:Row},Zd p n r->Zd p n (itR p n T m r)/\toV p (itR p n T m r)=it (yr p n T) m (toV p r)
 |0,r,hr=>#[hr,rfl]
 |m+1,r,hr=>by
  obtain⟨a,b⟩:=WK (r:=r) hl hT;obtain⟨c,d⟩:=zD hl hT m a;exact#[c,by rw[show itR p n T (m+1) r=itR p n T m (XC p n T r)from rfl,d,b];rfl]
theorem xK:∀(vs:List (Vec<|Fin p))(w:Vec (Fin p)),UU [] vs w->∃u:Vec (Fin p),Supp vs.length u/\w=λj=>sl (aC vs.length) λk=>u k*(vs.getD k λ_=>0) j
 |[],w,h=>#[λ_=>0,λ_ _=>rfl,by funext j;show w j=0;exact h j]
 |v::vs,w,#[c,h]=>by
  obtain⟨u,hu,e⟩:=xK vs _ h;refine#[λk=>match k with|0=>c|k+1=>u k,λk hk=>?_,?_]
  .rw[aQ]at hk
   match k,hk with
   |k+1,hk=>exact hu k #[0]
  .funext j
   have:=congrFun e j;rw[aQ,iB];have m:∀(L:List Nat)(g:Nat->Fin p),sl (L.map sB) g=sl L λk=>g (k+1):=λL g=>by
    induction L with|nil=>rfl|cons k L ih=>show g (k+1)+sl (L.map sB) g=_;rw[ih];rfl
   show w j=c*v j+sl ((aC vs.length).map sB) _;rw[m];have this:w j-c*v j=sl (aC vs.length) λk=>u k*(vs.getD k λ_=>0) j:=this
   have e2:(sl (aC vs.length) λk=>(match k+1 with|0=>c|k+1=>u k)*((v::vs).getD (k+1) λ_=>0) j)=sl (aC vs.length) λk=>u k*(vs.getD k λ_=>0) j:=V1 λk _=>rfl
   rw[e2,<-this];grind
theorem vd(hn:n<=6)(h1:1<=n){T:List Row}(hl:T.length=n)(hT:∀t∈T,Zd p n t)(hw:(ZY p [] T).length=n):∃m,1<=m/\m<=p^n/\∀r,Zd p n r->itR p n T m r=r:=by
 obtain⟨hP,e⟩:=UY (P:=[]) (pZ.nil (p:=p)) hT;obtain⟨m,m1,m2,m3⟩:=ZcF (inv:=GR p) fld (GQ hl hT) h1 (E:=List.finRange p) List.mem_finRange λw hs=>by
  obtain⟨r,hr,rfl⟩:=GX hs;have hm:=(ZK hP hr).mp<|Za7 hn hP hw hr;have hm:Mem (toP p<|ZY p [] T) (toV p r):=hm;rw[e]at hm;obtain⟨u,u1,u2⟩:=xK _ _ (((VL fld (T.map<|toV p) Pn.nil λv hv=>by
   obtain⟨t,ht,rfl⟩:=aF.mp hv;exact Yr<|hT t ht).2 _).mp hm)
  rw[av,hl]at u1 u2;refine#[u,u1,?_];rw[u2]
  funext j
  exact V1 λk hk=>by
   have hk:=aI.mp hk;rw[az,az,aK,af #[0]];rfl
 rw[List.length_finRange]at m2;refine#[m,m1,m2,λr hr=>?_]
 obtain⟨a,b⟩:=zD hl hT m hr;exact YC a hr<|b.trans<|m3 _<|Yr hr
end
def qu(n:Nat)(P:List Row):List Nat:=(aC n).filter λk=>!(Zt P).contains k
def ZH(n:Nat)(P:List Row):List Row:=P++(qu n P).map (Yg n)
section
variable{p n:Nat}[Base p]
structure Mp(p n:Nat)[NeZero p](h:Row->Row)(g:Vec (Fin p)->Vec (Fin p)):Prop where
 lin:Lin n g
 row:∀r,Zd p n r->Zd p n (h r)
 val:∀r,Zd p n r->toV p (h r)=g (toV p r)
def Ws{k:Nat}(hk:k<n)(j:Nat):toV p (Yg n k) j=if j=k then 1 else 0:=by
 unfold toV;rw[zX hk];split
 .exact Qy
 .have:=(Z8 (p:=p) (n:=n) (r:=ax n 0) ZR (j:=0)).mpr (YN 0)
  unfold toV at this
  rwa [YN]at this
theorem uT{g:Vec (Fin p)->Vec (Fin p)}(L:Lin n g)(u:Vec (Fin p))(v:Nat->Vec (Fin p)):∀l:List Nat,g (λj=>sl l λk=>u k*v k j)=λj=>sl l λk=>u k*g (v k) j
 |[]=>L.zero
 |k::l=>by
  have h:=L.lin (λj=>sl l λk=>u k*v k j) (v k)<|u k
  rw[show(λj=>(sl l λk=>u k*v k j)+u k*v k j)=λj=>sl (k::l) λk=>u k*v k j by funext j;show _=u k*v k j+_;grind,uT L u v l]at h
  rw[h]
  funext j
  show(sl l λk=>u k*g (v k) j)+u k*g (v k) j=u k*g (v k) j+_;grind
theorem jQ{u:Vec (Fin p)}(hs:Supp n u):(λj=>sl (aC n) λk=>u k*toV p (Yg n k) j)=u:=by
 funext j
 by_cases c:j<n
 .rw[Zau (k:=j) l8 (aI.mpr c) λk hk e=>by rw[Ws<|aI.mp hk,T8 λz=>e z.symm];grind]
  rw[Ws c,T9 rfl];grind
 .rw[hs j #[0]]
  exact zw λk hk=>by
   have:=aI.mp hk;rw[Ws this,T8 #[0]];grind
def Jb{B:Type}(h:Row->B)(a:B){k:Nat}(hk:k<n):((units n).map h).getD k a=h (Yg n k):=by
 unfold units;rw[bL,az,aK,bZ hk];rfl
def WT{h:Row->Row}{g:Vec (Fin p)->Vec (Fin p)}(M:Mp p n h g):∀t∈(units n).map h,Zd p n t:=λt ht=>by
 obtain⟨r,hr,rfl⟩:=aF.mp ht;exact M.row r<|Z6 r hr
def X2(h:Row->Row):((units n).map h).length=n:=by rw[av,W0]
def Vx{h:Row->Row}{g:Vec (Fin p)->Vec (Fin p)}(M:Mp p n h g){r:Row}(hr:Zd p n r):XC p n ((units n).map h) r=h r:=by
 obtain⟨a,b⟩:=WK (r:=r) (X2 h)<|WT M;refine YC a (M.row r hr)<|b.trans ?_;rw[M.val r hr];have e:=uT M.lin (toV p r) (λk=>toV p<|Yg n k)<|aC n
 rw[jQ<|Yr hr]at e;rw[e]
 funext j
 exact V1 λk hk=>by
  have hk:=aI.mp hk;rw[Jb h [] hk,M.val _<|VB hk]
def vV{T:List Row}(hl:T.length=n)(hT:∀t∈T,Zd p n t):Mp p n (XC p n T) (yr p n T):=
 #[GQ hl hT,λr _=>(WK hl hT).1,λr _=>(WK hl hT).2]
theorem Zci{f:Vec (Fin p)->Vec (Fin p)}(L:Lin n f):∀m,Lin n (it f m)
 |0=>#[λ_ _ _=>rfl,λ_ h=>h]
 |m+1=>#[λu v c=>by
  show it f m (f _)=_;rw[L.lin,(Zci L m).lin];rfl,λu h=>ZcE L (m+1) h]
def QT{T:List Row}(hl:T.length=n)(hT:∀t∈T,Zd p n t)(m:Nat):Mp p n (itR p n T m) (it (yr p n T) m):=
 #[Zci (GQ hl hT) m,λ_ hr=>(zD hl hT m hr).1,λ_ hr=>(zD hl hT m hr).2]
theorem Jh{T:List Row}(hl:T.length=n)(hT:∀t∈T,Zd p n t){k:Nat}(hk:k<n):XC p n T (Yg n k)=T.getD k []:=by
 refine YC (WK hl hT).1 (XW hl hT hk)<|(WK hl hT).2.trans ?_
 funext j
 show sl _ _=_;rw[Zau (k:=k) l8 (aI.mpr hk) λi _ e=>by rw[Ws hk,T8 e];grind]
 rw[Ws hk,T9 rfl];grind
def jU{T:List Row}(hl:T.length=n)(hT:∀t∈T,Zd p n t):(units n).map (XC p n T)=T:=by
 refine eG (by rw[X2,hl]) λk h1 h2=>?_
 have hk:k<n:=by rw[X2]at h1;exact h1
 have:=Jh hl hT hk;rw[az,af h2]at this;have e:=Jb (XC p n T) [] hk;rw[az,af h1]at e;exact e.trans this
theorem vg(T:List Row):∀(m:Nat)(r:Row),itR p n T m (XC p n T r)=XC p n T (itR p n T m r)
 |0,_=>rfl
 |m+1,r=>vg T m _
theorem wq{q:Nat->Prop}[DecidablePred q]:∀m,1<=m->q m->∃k,1<=k/\k<=m/\q k/\∀j,1<=j->j<k->¬q j
 |m,h1,h=>by
  by_cases c:∃j,1<=j/\j<m/\q j
  .obtain⟨j,a,b,d⟩:=c
   obtain⟨k,k1,k2,k3⟩:=wq j a d;exact#[k,k1,by lia,k3]
  .exact#[m,h1,aJ _,h,λj a b d=>c #[j,a,b,d]]
theorem xV(hn:n<=6)(h1:1<=n){T:List Row}(hl:T.length=n)(hT:∀t∈T,Zd p n t)(hw:(ZY p [] T).length=n) :
  ∃m,1<=m/\m<=p^n/\(∀r,Zd p n r->itR p n T m r=r)/\∀j,1<=j->j<m->(units n).map (itR p n T j)≠units n:=by
 obtain⟨m,m1,m2,m3⟩:=vd hn h1 hl hT hw;obtain⟨k,k1,k2,k3,k4⟩:=wq (q:=λj=>(units n).map (itR p n T j)=units n) m m1 (by
  have:(units n).map (itR p n T m)=(units n).map id:=cn λr hr=>m3 r<|Z6 r hr
  rw[this,iw])
 refine#[k,k1,by lia,λr hr=>?_,k4]
 have M:=QT hl hT k;rw[<-Vx M hr,k3];have I:Mp p n (λr=>r) (λu=>u):=#[#[λ_ _ _=>rfl,λ_ h=>h],λ_ h=>h,λ_ _=>rfl]
 have:=Vx I hr
 rwa [List.map_id' ]at this
theorem ZhF{T:List Row}{W:List Row}(hW:pZ p n W)(hl:T.length=n)(hT:∀t∈T,Zd p n t)(h:∀t∈T,Ym p W t=ao)(r:Row):Ym p W (XC p n T r)=ao:=by
 have gen:∀(L:List Nat)(a:Row),(∀k∈L,k<n)->Zd p n a->Ym p W a=ao->Ym p W (L.foldl #[32] a)=ao:=λL=>by
  induction L with
  |nil=>exact λa _ _ h=>h
  |cons k L ih=>
   intro a hL ha hm;have hk:=XW hl hT<|hL k<|ak ..;refine ih _ (λk h=>hL k<|am _ h) (Zp ha hk)<|Qd hW ha hk hm<|h _ ?_
   have:=hL k<|ak ..;rw[az,af #[0]]
   exact aR ..
 exact gen _ _ (λk hk=>aI.mp hk) ZR<|U8 hW ZR YN
theorem jX(hn:n<=6){h:Row->Row}{g:Vec (Fin p)->Vec (Fin p)}(M:Mp p n h g)(sur:∀w,Zd p n w->∃u,Zd p n u/\h u=w):(ZY p []<|(units n).map h).length=n:=by
 have sW:=Gj<|WT M;have:=ZcJ (p:=p) (n:=n) (Xl hn) sW.part ((VF (Xl hn) sW.part).mp (aV.mpr λu hu=>by
  obtain⟨x,hx,rfl⟩:=sur u<|Z6 u hu;rw[<-Vx M hx];exact ZhF sW.part (X2 h) (WT M) sW.holds x))
 rw[W0]at this;have:=zj sW.part;lia
def Z0{P:List Row}(hP:pZ p n P):∀t∈ZH n P,Zd p n t:=λt ht=>by
 rcases bU.mp ht with h|h
 .exact hP.row t h
 .obtain⟨k,hk,rfl⟩:=aF.mp h
  exact VB<|aI.mp (bX.mp hk).1
theorem Z1{P:List Row}(hP:pZ p n P):(ZH n P).length=n:=by
 have:=ZcW hP;rw[Qg hP]at this;unfold ZH qu;rw[aU,av];lia
def Vg(hn:n<=6){P:List Row}(hP:pZ p n P):(ZY p []<|ZH n P).length=n:=by
 have sW:=Gj<|Z0 hP;refine ZeX hn hP sW.part (λo ho=>sW.holds o<|cT _ ho) λk hk c=>sW.holds _<|bq _<|aF.mpr #[k,bX.mpr #[aI.mpr hk,?_],rfl]
 rw[Qg hP]at c;rw[c];rfl
def qN:ZH n []=units n:=by
 unfold ZH qu units;rw[fV];exact congrArg _<|List.filter_eq_self.mpr λk _=>rfl
def W9(p n:Nat)(P Q:List Row)(m:Nat)(r:Row):Row:=XC p n (ZH n Q)<|itR p n (ZH n P) (m-1) r
def Jq{P Q:List Row}(hP:pZ p n P)(hQ:pZ p n Q)(m:Nat):Mp p n (W9 p n P Q m) λu=>yr p n (ZH n Q) (it (yr p n<|ZH n P) (m-1) u):=by
 have A:=vV (Z1 hQ)<|Z0 hQ;have B:=QT (Z1 hP) (Z0 hP)<|m-1;exact#[#[λu v c=>by rw[B.lin.lin,A.lin.lin],λu h=>A.lin.sp _<|B.lin.sp _ h],λr hr=>A.row _<|B.row r hr,λr hr=>by rw[W9,A.val _<|B.row r hr,B.val r hr]]
theorem yE{P Q:List Row}{m:Nat}(hP:pZ p n P)(h1:1<=m)(hm:∀r,Zd p n r->itR p n (ZH n P) m r=r){r:Row}(hr:Zd p n r):W9 p n P Q m (XC p n (ZH n P) r)=XC p n (ZH n Q) r:=by
 unfold W9;have:=hm r hr;rw[show m=(m-1)+1 by lia]at this
 have e:itR p n (ZH n P) (m-1+1) r=itR p n (ZH n P) (m-1) (XC p n (ZH n P) r):=rfl;rw[<-e,this]
theorem qJ(hn:n<=6)(h1:1<=n){P Q:List Row}{m:Nat}(hP:pZ p n P)(hQ:pZ p n Q)(m1:1<=m)(hm:∀r,Zd p n r->itR p n (ZH n P) m r=r):(ZY p []<|(units n).map<|W9 p n P Q m).length=n:=by
 refine jX hn (Jq hP hQ m) λw hw=>?_
 obtain⟨k,k1,_,k3,_⟩:=xV hn h1 (Z1 hQ) (Z0 hQ)<|Vg hn hQ;have hy:=(QT (Z1 hQ) (Z0 hQ)<|k-1).row w hw;refine#[XC p n (ZH n P)<|itR p n (ZH n Q) (k-1) w,(vV (Z1 hP)<|Z0 hP).row _ hy,?_];rw[yE hP m1 hm hy,<-vg];have:=k3 w hw;rw[show k=(k-1)+1 by lia]at this
 exact this
theorem qW{P Q:List Row}{m:Nat}(hP:pZ p n P)(hQ:pZ p n Q)(m1:1<=m)(hm:∀r,Zd p n r->itR p n (ZH n P) m r=r)(hl:P.length=Q.length):P.map (XC p n<|(units n).map<|W9 p n P Q m)=Q:=by
 refine eG (by rw[av,hl]) λk h1 h2=>?_
 rw[av]at h1;have lP:=zj hP;have hk:k<n:=by lia
 rw[iP,Vx (Jq hP hQ m)<|hP.row _<|aR ..];have eP:=Jh (Z1 hP) (Z0 hP) hk;have eQ:=Jh (Z1 hQ) (Z0 hQ) hk;have gP:(ZH n P).getD k []=P[k]:=by
  unfold ZH;rw[az,bW h1,af h1];rfl
 have gQ:(ZH n Q).getD k []=Q[k]:=by
  unfold ZH;rw[az,bW h2,af h2];rfl
 rw[<-gP,<-eP,yE hP m1 hm<|VB hk,eQ,gQ]
end
end Rw
namespace K75
open Ev Pv Rw La
open Ab (okV Yo)
section
variable{p n:Nat}[Base p]
theorem Zb6(j ):∀hs:List Nat,X4 (Zs j) (hs.map Zs)=aa (hs.contains j)
 |[]=>rfl
 |h::hs=>by
  show(match eqV Zz (Zs h) (Zs j),X4 (Zs j) (hs.map Zs)with|some a,aa b=>aa (a||b)|_,_=>ai)=_
  rw[Zb6 j hs,n5];show aa (ag ((h:Int)=(j:Int))||hs.contains j)=_;rw[show ag ((h:Int)=(j:Int))=(j == h) by rw[cL];simp;lia]
theorem yS{k:Nat}(h:pv C e U s=.ok (.int k) s)(hk:k<=6):pv C (.bin .mul #[22] e) U s=.ok (Zb<|ax k 0) s:=by
 rw[pE7,Ye ZP,Za,h];show(if(0:Int)<=k/\(k:Int)<1000/\1<=1000 then PR.ok (V.tup (ax (k:Int).toNat [V.int 0]).flatten) s else .no)=_
 rw[T9 #[by lia,by lia,by lia],xB];rfl
theorem Zea(hk:k<n):(ax k (0:Int)++[1])++ax (n-k-1) 0=Yg n k:=by
 unfold Yg;refine eG (by simp;lia) λi h1 h2=>?_
 rw[av]at h2;rw[iP,oq];by_cases c:i<k
 .rw[lV (by simp;lia),lV (by simp;lia),mE,T8 #[0]]
 .by_cases e:i=k
  .subst e
   rw[ T9 rfl];simp
  .rw[List.getElem_append_right (by simp;lia),mE,T8 e]
def sub_int(h1:pv C a U s=.ok (.int x) s)(h2:pv C b U s=.ok (.int y) s):pv C (.bin .sub a b) U s=.ok (.int<|x-y) s:=by rw[pE7,h1,Za,h2];rfl
theorem ZhC(d:Nat){k:Nat}(s:DS)(hn:n<=6)(hk:k<n):CV (d+1) 38 [.int n,.int k] s=.ok (Zb<|Yg n k) s:=by
 refine Zo rfl #[1] rfl ?_
 show rvs (CV d) [] Qx.body [aa<|.int n,aa<|.int k] [] s=_
 dsimp only[Qx]
 have e2:=yS (C:=CV d) (e:=.bin .sub (.bin .sub (.v 0)<|.v 1)<|.n 1) (U:=[aa<|.int n,aa<|.int k]) (s:=s) (k:=n-k-1) (by
  rw[sub_int (sub_int #[9]<|Ze rfl) ZP,show(n:Int)-k-1=((n-k-1:Nat):Int) by lia]) #[0]
 refine Zj<|Zx ?_;rw[Yp (Yp (yS (e:=.v 1) (s:=s) #[9]<|by lia) (Ye ZP)<|by simp;lia) e2 (by simp;lia)]
 show PR.ok (V.tup<|((ax k (0:Int)).map V.int++[1].map V.int)++(ax (n-k-1) (0:Int)).map V.int) s=_;rw[<-bE,<-bE,Zea hk];rfl
theorem Xy(d:Nat){P:List Row}(s:DS)(hn:n<=6)(hP:pZ p n P):CV (d+2) 39 [spV p n,Zh P] s=.ok (.tup<|(ZH n P).map Zb) s:=by
 have lP:=dsum hP;have hG:=Z1 hP;refine Zo rfl #[1] rfl ?_
 dsimp only[Wb]
 rw[Zi<|Y8 (p:=p) (n:=n) _ _ (by show pv _ _ _ _=_;exact Ze rfl) #[rfl,rfl]]
 show rvs _ _ _ [aa<|spV p n,aa<|Zh P,aa<|.int p,aa<|.int n,ai] [] s=_;have hc:=ZM (cap:=[]) (nl:=1) (t:=[0]) (it:=.of<|.v 1) (elt:=.call 18 [(.v 0)]) (U:=[aa<|spV p n,aa<|Zh P,aa<|.int p,aa<|.int n,ai]) (s:=s) (l:=P) (e:=Zb)
  (by rw[wE7,Ze rfl];rfl) #[20] (λr _=>#[[aa<|Zb r],rfl,Zu (Zc #[9] Zf)<|U9 d r s])
 rw[qV hP]at hc;rw[Zi<|ZC hc rfl];show rvs _ _ _ [aa<|spV p n,aa<|Zh P,aa<|.int p,aa<|.int n,aa<|.lst<|(Zt P).map Zs] [] s=_;have hf:=YV (C:=CV<|d+1) (cap:=[3,4]) (nl:=1) (t:=[0]) (it:=.rng1<|.v 3) (tst:=.cmp .nin (.v 0)<|.v 2) (elt:=.call 38 [(.v 1),(.v 0)]) (U:=[aa<|spV p n,aa<|Zh P,aa<|.int p,aa<|.int n,aa<|.lst<|(Zt P).map Zs]) (s:=s) (e:=Zs)
  (YR #[9]<|by lia) (by rw[bf];unfold lim;lia) (λk hk=>#[[aa<|Zs k,aa<|.int n,aa<|.lst<|(Zt P).map Zs],.bl !(Zt P).contains k,rfl,by
   rw[Yi,Ze rfl,Za,Ze rfl,Za];show po ((X4 (Zs k)<|(Zt P).map Zs).map λb=>V.bl !b) s=_
   rw[Zb6];rfl,rfl,λ_=>Zu (Zc #[9]<|Zc #[9] Zf)<|ZhC d s hn<|aI.mp hk])
 have ht:pv #[15] (.blt .tuple [(.comp1 [3,4] 1 [0] (.rng1<|.v 3) [(.cmp .nin (.v 0)<|.v 2)]<|.call 38 [(.v 1),(.v 0)])]) [aa<|spV p n,aa<|Zh P,aa<|.int p,aa<|.int n,aa<|.lst<|(Zt P).map Zs] s=.ok (.tup<|(qu n P).map λk=>Zb<|Yg n k) s:=by
  rw[Yq,Zc hf Zf];rfl
 refine Zj<|Zx ?_;rw[Yp #[9] ht (by
  have h:=hG;unfold ZH at h;rw[aU,av]at h;rw[av,av];lia)]
 unfold ZH;rw[bE,bL];rfl
theorem Wj(d:Nat){T R:List Row}(s:DS)(hn:n<=6)(hl:T.length=n)(hT:∀t∈T,Zd p n t)(hR:∀r∈R,Zd p n r)(lR:R.length<=6):CV (d+3) 29 [spV p n,.tup<|R.map Zb,.tup<|T.map Zb] s=.ok (.tup<|(R.map<|XC p n T).map Zb) s:=by
 refine Zo rfl #[1] rfl ?_
 show rvs #[17] [] XH.body [aa<|spV p n,aa<|.tup<|R.map Zb,aa<|.tup<|T.map Zb] [] s=_;have hc:=ZM (cap:=[0,2]) (nl:=1) (t:=[0]) (it:=.of<|.v 1) (elt:=.call 28 [(.v 1),(.v 2),(.v 0)]) (U:=[aa<|spV p n,aa<|.tup<|R.map Zb,aa<|.tup<|T.map Zb]) (s:=s) (l:=R)
  (by rw[wE7,Ze rfl];rfl) #[20] (λr hr=>#[[aa<|Zb r,aa<|spV p n,aa<|.tup<|T.map Zb],rfl,W7 #[9] #[9] #[9]<|wO d s hn hl hT<|hR r hr])
 refine Zj<|Zx ?_;rw[Yq,Zc hc Zf,bL];rfl
abbrev Vk(p n:Nat)(T:List Row)(k:Nat):V:=.tup<|((units n).map<|itR p n T k).map Zb
abbrev rE_(p n:Nat)(T:List Row)(k:Nat):Env:=[aa<|spV p n,aa<|.tup<|T.map Zb,aa<|.tup<|(units n).map Zb,aa<|.lst<|(aC k).map<|Vk p n T,aa<|Vk p n T k]
theorem Jn:∀R:List Row,Wd (R.map Zb)=ao
 |[]=>rfl
 |r::R=>by
  show(V.flat (Zb r)&&Wd (R.map Zb))=ao;rw[WC r,Jn R];rfl
def xk(R:List Row):V.flat (.tup<|R.map Zb)=ao:=Jn R
theorem wx(d:Nat)(s:DS)(hn:n<=6)(hl:T.length=n)(hT:∀t∈T,Zd p n t){m:Nat}(hm:m<=999)(h0:(units n).map (itR p n T m)=units n)(h1:∀j,1<=j->j<m->(units n).map (itR p n T j)≠units n):∀(f k:Nat),1<=k->k<=m->m<k+f->
  YZ (YS (CV<|d+3)<|.cmp .ne (.v 4)<|.v 2) (rvs (CV<|d+3) [3] [.ex<|.mt .append (.v 3) [(.v 4)],.asg [4]<|.call 29 [(.v 0),(.v 4),(.v 1)]]) f (rE_ p n T k) [3] s=.ok (.nx (rE_ p n T m) [3]) s
 |0,k,_,a,b=>by lia
 |f+1,k,a,b,c=>by
  have e1:=uc (C:=CV<|d+3) (a:=.v 4) (b:=.v 2) (U:=rE_ p n T k) (s:=s) #[9]<|Ze rfl;rw[YZ];by_cases z:k=m
  .subst z
   rw[Yv e1 rfl,Za,T5 h0];rfl
  .rw[Yv e1 rfl,Za,T4<|h1 k a #[0]]
   have e2:rv (CV<|d+3) [3] (.ex<|.mt .append (.v 3) [(.v 4)]) (rE_ p n T k) [3] s=.ok (.nx [aa<|spV p n,aa<|.tup<|T.map Zb,aa<|.tup<|(units n).map Zb,aa<|.lst<|(aC<|k+1).map<|Vk p n T,aa<|Vk p n T k] [3]) s:=by
    rw[Zdx,T9 #[7]]
    show(PR.ok ((aC k).map<|Vk p n T) s).bind _=_;rw[Za,Ze rfl,Za,T9 #[xk _,by rw[av,bf];unfold lim;lia]]
    rw[pW,bE];rfl
   have M:=QT hl hT k;have e3:=Wj d (p:=p) s hn hl hT (WT M) (by rw[X2];exact hn)
   have e4:((units n).map<|itR p n T k).map (XC p n T)=(units n).map (itR p n T<|k+1):=by
    rw[bL];exact cn λr _=>(vg T k r).symm
   rw[e4]at e3;have e5:rvs (CV<|d+3) [3] [.ex<|.mt .append (.v 3) [(.v 4)],.asg [4]<|.call 29 [(.v 0),(.v 4),(.v 1)]] (rE_ p n T k) [3] s=.ok (.nx (rE_ p n T<|k+1) [3]) s:=by
    rw[Zi e2,Zi<|uW (W7 #[9] #[9] #[9] e3) rfl,rvs];rfl
   rw[e5,Za];exact wx d s hn hl hT hm h0 h1 f (k+1) #[0] #[0] #[0]
theorem yL(d:Nat)(s:DS)(hn:n<=6)(hl:T.length=n)(hT:∀t∈T,Zd p n t){m:Nat}(m1:1<=m)(hm:m<=999)(h0:(units n).map (itR p n T m)=units n)(h1:∀j,1<=j->j<m->(units n).map (itR p n T j)≠units n):CV (d+4) 40 [spV p n,.tup<|T.map Zb] s=.ok (.lst<|(aC m).map<|Vk p n T) s:=by
 refine Zo rfl #[1] rfl ?_
 show rvs (CV<|d+3) [3] Xz.body [aa<|spV p n,aa<|.tup<|T.map Zb,ai,ai,ai] [] s=_
 dsimp only[Xz]
 have g:=Xy (d+1) (p:=p) s hn<|pZ.nil (n:=n);rw[qN]at g;have t0:pv (CV<|d+3) (.tup []) [aa<|spV p n,aa<|.tup<|T.map Zb,ai,ai,ai] s=.ok (Zh []) s:=by rw[pE3,Zf];rfl
 rw[Zi<|ZC (Ys #[9] t0 g) rfl];have e0:(units n).map (itR p n T 0)=units n:=iw _;have e1:(units n).map (itR p n T 1)=T:=jU hl hT;rw[Zi (ρ':=[aa<|spV p n,aa<|.tup<|T.map Zb,aa<|.tup<|(units n).map Zb,aa<|.lst [Vk p n T 0],ai]) (by
  rw[rE1];show PR.bind (pv _ (.lst [(.v 2)]) [aa<|spV p n,aa<|.tup<|T.map Zb,aa<|.tup<|(units n).map Zb,ai,ai] s) _=_;rw[pE4,Zc #[9] Zf];unfold Vk;rw[e0];exact T9 #[by
   show(V.flat (V.tup<|(units n).map Zb)&&ao)=ao;rw[xk];rfl,by show 3<5;lia])]
 rw[Zi<|uW (v:=Vk p n T 1) (by unfold Vk;rw[e1];exact Ze rfl) rfl]
 rw[Zi (by rw[Zhb];exact wx d s hn hl hT hm h0 h1 1000 1 (aJ _) m1 #[0])]
 exact Zj (by rw[rE9];rfl)
theorem Zev(d:Nat)(s:DS)(hn:n<=6)(hl:T.length=n)(hT:∀t∈T,Zd p n t)(hw:(ZY p [] T).length=n){m:Nat}(m1:1<=m)(hm:m<=999)(h0:(units n).map (itR p n T m)=units n)(h1:∀j,1<=j->j<m->(units n).map (itR p n T j)≠units n):CV (d+8) 41 [spV p n,.tup<|T.map Zb] s=.ok (Vk p n T<|m-1) s:=by
 refine Zo rfl #[1] rfl ?_
 show rvs (CV<|d+7) [] vH.body [aa<|spV p n,aa<|.tup<|T.map Zb] [] s=_
 dsimp only[vH]
 rw[Zi<|ud<|Ys #[9] #[9]<|qR d s hn hl hT hw];refine Zj<|Zx ?_;have n1:pv (CV<|d+7) (.neg<|.n 1) [aa<|spV p n,aa<|.tup<|T.map Zb] s=.ok (.int<|-1) s:=by rw[pE8,ZP];rfl
 rw[XZ,(Ys (x:=.v 0) (y:=.v 1) #[9] #[9]<|yL (d+3) s hn hl hT m1 hm h0 h1),Za,n1,Za];show po (at' ((aC m).map<|Vk p n T)<|-1) s=_;have:at' ((aC m).map<|Vk p n T) (-1)=aa (Vk p n T<|m-1):=by
  unfold at' ixN;rw[av,bf,T8 #[0],T9 #[0]]
  show((aC m).map<|Vk p n T)[(-1+(m:Int)).toNat]?=_;rw[show(-1+(m:Int)).toNat=m-1 by lia,aK,bZ #[0]];rfl
 rw[this];rfl
def Zfw(h:∀r,Zd p n r->itR p n T m r=r):(units n).map (itR p n T m)=units n:=by
 have:(units n).map (itR p n T m)=(units n).map id:=cn λr hr=>h r<|Z6 r hr
 rw[this,iw]
theorem qQ(d ){P Q:List Row}(s:DS)(hn:n<=6)(h1:1<=n)(hp:p^n<=999)(hP:pZ p n P)(hQ:pZ p n Q)(hl:P.length=Q.length) :
  ∃m,1<=m/\(∀r,Zd p n r->itR p n (ZH n P) m r=r)/\CV (d+9) 42 [spV p n,Zh P,Zh Q] s=.ok (.tup<|((units n).map<|W9 p n P Q m).map Zb) s:=by
 obtain⟨m,m1,m2,m3,m4⟩:=xV hn h1 (Z1 hP) (Z0 hP)<|Vg hn hP;refine#[m,m1,m3,Zo rfl #[1] rfl ?_]
 dsimp [Xt]
 rw[Zi<|ud<|W7 #[9] #[9] #[9]<|Q4 (d+3) s hn hP hQ];rw[guard<|ne_int (Xd<|Ze rfl) (Xd<|Ze rfl) (by rw[hl])]
 have e3:=Wj (d+5) s hn (Z1 hQ) (Z0 hQ) (WT<|QT (Z1 hP) (Z0 hP)<|m-1) (by rw[X2];exact hn)
 have e4:((units n).map<|itR p n (ZH n P)<|m-1).map (XC p n<|ZH n Q)=(units n).map (W9 p n P Q m):=by rw[bL];rfl
 rw[e4]at e3;exact Zj<|Zx<|W7 #[9] (Ys #[9] (Ys #[9] #[9]<|Xy (d+6) s hn hP)<|Zev d s hn (Z1 hP) (Z0 hP) (Vg hn hP) m1 #[0] (Zfw m3) m4) (Ys #[9] #[9]<|Xy (d+6) s hn hQ) e3
theorem Jl(d )(s:DS)(hn:n<=6)(hP:pZ p n P)(hQ:pZ p n Q)(hl:P.length≠Q.length):CV (d+9) 42 [spV p n,Zh P,Zh Q] s=.ok .non s:=by
 refine Zo rfl #[1] rfl ?_
 show rvs (CV<|d+8) [] Xt.body [aa<|spV p n,aa<|Zh P,aa<|Zh Q] [] s=_
 dsimp [Xt]
 rw[Zi<|ud<|W7 #[9] #[9] #[9]<|Q4 (d+3) s hn hP hQ];have e:pv (CV<|d+8) (.cmp .ne #[25]<|.blt .len [(.v 2)]) [aa<|spV p n,aa<|Zh P,aa<|Zh Q] s=.ok (.bl ao) s:=by
  rw[Yi,Xd<|Ze rfl,Za,Xd<|Ze rfl,Za];show PR.ok (V.bl !decide ((P.length:Int)=Q.length)) s=_;rw[T4 #[0]];rfl
 refine Zj ?_;rw[XJ<|Yv e rfl,T9 rfl];exact Zj<|Zx (by rw[pE1];rfl)
def wV(d )(s )(hn:n<=6)(hx:Ab.Th 1000 x)(hy:Ab.Th 1000 y)(h:isP p n x=aj\/isP p n x=ao/\isP p n y=aj):CV (d+9) 42 [spV p n,x,y] s=.ex 2 s:=by
 refine U4 rfl #[1] rfl ?_
 exact wQ<|w6<|VW (Zc #[9]<|Zc #[9]<|Zc #[9] Zf)<|yM (d+3) s hn hx hy h
end
noncomputable def Ji:List Sm:=[.asg [7]<|.call 42 [(.v 3),(.v 4),(.v 6)],
  .ite (.or (.cmp .ne (.call 42 [(.v 3),(.v 4),(.v 6)])<|.v 7)<|.cmp .ne (.cmp .is (.v 7)<|.c .non)<|.cmp .ne (.blt .len [(.v 4)])<|.blt .len [(.v 6)]) #[12] [],
  .ite (.cmp .isn (.v 7)<|.c .non) [.ite (.or (.not<|.call 45 [(.v 3),(.v 7)])<|.cmp .ne (.call 11 [(.v 3),(.v 7),(.v 4)])<|.v 6) #[12] []] []]
noncomputable def noB:List Sm:=[.ite (.cmp .ne (.refu aj<|.call 42 [(.v 3),(.ix (.v 9)<|.n 0),(.ix (.v 9)<|.n 1)])<|.n 1) #[12] []]
def Zbt:List Sm:=[.asg [3]<|.call 3 [(.v 2),(.ix (.lst [(.n 27),(.n 125)])<|.blt .toInt [(.cmp .eq (.v 1)<|.n 0)])],
  .asg [4] (.call 9 [(.v 2),(.v 3)]),
  .asg [5] (.call 11 [(.v 3),(.call 44 [(.v 2),(.v 3)]),(.v 4)]),
  .forr [6] (.of<|.lst [(.v 5),(.call 9 [(.v 2),(.v 3)]),(.v 4)]) Ji,
  .asg [8] (.call 17 [(.v 2),(.v 3)]),
  .forr [9] (.of<|.lst [(.tup [(.v 8),(.v 4)]),(.tup [(.v 4),(.v 8)]),(.tup [(.v 8),(.c .non)])]) noB]
abbrev kE(o:Option V)(k p n:Nat)(P:List Row)(x5 x6 x7 x8 x9:Option V):Env:=[o,aa<|.int k,aa .drw,aa<|spV p n,aa<|Zh P,x5,x6,x7,x8,x9]
def ZaI:∀q∈Xx,q.1^q.2<=999:=by decide +kernel
def ixt{k:Nat}(h1:pv C a U s=.ok (.tup xs) s)(h2:pv C b U s=.ok (.int k) s)(hk:xs[k]?=aa v):pv C (.ix a b) U s=.ok v s:=by
 rw[XZ,h1,Za,h2];show po (at' xs (k:Int)) s=_;rw[XY hk];rfl
section
variable{p n:Nat}[Base p]
theorem jj(d:Nat){k:Nat}(s:DS)(hn:n<=6)(h1:1<=n)(hp:p^n<=999)(hP:pZ p n P)(hQ:pZ p n Q) :
  ∃y7,rvs (CV<|d+9) [] Ji (kE o k p n P x5 (aa<|Zh Q) x7 x8 x9) [] s=.ok (.nx (kE o k p n P x5 (aa<|Zh Q) y7 x8 x9) []) s:=by
 have ln:∀{y7:Option V},pv (CV<|d+9) (.cmp .ne (.blt .len [(.v 4)])<|.blt .len [(.v 6)]) (kE o k p n P x5 (aa<|Zh Q) y7 x8 x9) s=.ok (.bl !decide ((P.length:Int)=Q.length)) s:=by
  intro y7;rw[Yi,Xd (P:=P)<|Ze rfl,Za,Xd (P:=Q)<|Ze rfl,Za];rfl
 by_cases c:P.length=Q.length
 .obtain⟨m,m1,m2,e⟩:=qQ d s hn h1 hp hP hQ c
  have hF:=WT<|Jq (n:=n) hP hQ m;have lF:=X2 (n:=n)<|W9 p n P Q m;have wF:=qJ hn h1 hP hQ m1 m2;have pF:=qW hP hQ m1 m2 c;generalize (units n).map (W9 p n P Q m)=F at e hF lF wF pF;refine#[aa<|.tup<|F.map Zb,?_];have e7:∀{y7:Option V},pv (CV<|d+9) (.call 42 [(.v 3),(.v 4),(.v 6)]) (kE o k p n P x5 (aa<|Zh Q) y7 x8 x9) s=.ok (Zh F) s:=W7 #[9] #[9] #[9] e;have g1:pv (CV<|d+9) (.cmp .is (.v 7)<|.c .non) (kE o k p n P x5 (aa<|Zh Q) (aa<|.tup<|F.map Zb) x8 x9) s=.ok (.bl aj) s:=by
   rw[Yi,Ze rfl,Za,pE1];rfl
  have g2:pv (CV<|d+9) (.cmp .isn (.v 7)<|.c .non) (kE o k p n P x5 (aa<|Zh Q) (aa<|.tup<|F.map Zb) x8 x9) s=.ok (.bl ao) s:=by
   rw[Yi,Ze rfl,Za,pE1];rfl
  have t:=yp (d+6) (p:=p) s hn h1 #[0]<|ug F
  rw[WZ lF hF,T5 wF]at t;have l:=VU (d+6) s hn h1 #[0] lF hF hP
  rw[show P.map (VA p n F)=Q from pF,Uq hQ]at l
  unfold Ji;rw[Zi<|ZC e7 rfl];show rvs _ _ _ (kE o k p n P x5 (aa<|Zh Q) (aa<|.tup<|F.map Zb) x8 x9) [] s=_;rw[guard<|Jp (vQ e7 #[9] rfl)<|ZfD g1 ln (by rw[T5 #[0]];rfl)]
  rw[Zi (s':=s) (by
   rw[XJ<|Yv g2 rfl,T9 rfl,guard<|Jp (Jy<|Ys #[9] #[9] t)<|vQ (W7 #[9] #[9] #[9] l) #[9] rfl,rvs]),rvs]
 .have e:=Jl d s hn hP hQ c
  refine#[aa .non,?_];have e7:∀{y7:Option V},pv (CV<|d+9) (.call 42 [(.v 3),(.v 4),(.v 6)]) (kE o k p n P x5 (aa<|Zh Q) y7 x8 x9) s=.ok .non s:=W7 #[9] #[9] #[9] e;have g0:pv (CV<|d+9) (.cmp .ne (.call 42 [(.v 3),(.v 4),(.v 6)])<|.v 7) (kE o k p n P x5 (aa<|Zh Q) (aa .non) x8 x9) s=.ok (.bl aj) s:=by
   rw[Yi,e7,Za,Ze rfl,Za];rfl
  have g1:pv (CV<|d+9) (.cmp .is (.v 7)<|.c .non) (kE o k p n P x5 (aa<|Zh Q) (aa .non) x8 x9) s=.ok (.bl ao) s:=by
   rw[Yi,Ze rfl,Za,pE1];rfl
  have g2:pv (CV<|d+9) (.cmp .isn (.v 7)<|.c .non) (kE o k p n P x5 (aa<|Zh Q) (aa .non) x8 x9) s=.ok (.bl aj) s:=by
   rw[Yi,Ze rfl,Za,pE1];rfl
  unfold Ji;rw[Zi<|ZC e7 rfl];show rvs _ _ _ (kE o k p n P x5 (aa<|Zh Q) (aa .non) x8 x9) [] s=_;rw[guard (Jp g0<|ZfD g1 ln (by rw[T4 #[0]];rfl)),guard g2,rvs]
end
def ZcQ(d:Nat)(o:Option V)(k:Nat)(s:DS):∃U os s',rvs (CV<|d+9) [] Zbt (o::aa (.int k)::aa .drw::ax 7 ai) [] s=.ok (.nx U os) s'/\U[0]?=aa o/\U.length=10:=by
 have e0:∃m,pv (CV<|d+9) (.ix (.lst [(.n 27),(.n 125)])<|.blt .toInt [(.cmp .eq (.v 1)<|.n 0)]) (o::aa (.int k)::aa .drw::ax 7 ai) s=.ok (.int m) s:=by
  by_cases c:(k:Int)=0
  .have c':k=0:=by lia
   exact#[125,by simp[pvE,c',Zz,b2i,at',ixN]]
  .have c':k≠0:=by lia
   exact#[27,by simp[pvE,c',Zz,b2i,at',ixN]]
 obtain⟨m,e0⟩:=e0;obtain⟨⟨p,n⟩,s1,e1,hq⟩:=qP (d+7) s;obtain⟨hb,h1,hn,hp⟩:=GO _ hq
 haveI:Base p:=⟨hb⟩
 have hn:=hn;have h1:=h1;have hp:=hp;have hp9:=ZaI _ hq;obtain⟨P,s2,e2,hP⟩:=QN (d+6) (p:=p) (n:=n) s1 hn h1 hp;obtain⟨T,s3,e3,hl,hT,hw⟩:=Zcy (d+6) (p:=p) s2 hn h1 hp;have e4:=VU (d+6) s3 hn h1 hp hl hT hP;have hA:pZ p n (ZY p []<|P.map<|VA p n T):=(Yh λr hr=>by
  obtain⟨q,hq,rfl⟩:=aF.mp hr;exact ZaJ hl hT).part
 generalize ZY p [] (P.map<|VA p n T)=A at e4 hA;obtain⟨B,s5,e5,hB⟩:=QN (d+6) (p:=p) (n:=n) s3 hn h1 hp;obtain⟨ρ',s6,⟨_,x6,x7,rfl⟩,e6⟩:=zA (ms:=[]) (os:=[]) (t:=[6]) (it:=.of<|.lst [(.v 5),(.call 9 [(.v 2),(.v 3)]),(.v 4)]) (b:=Ji) (L:=[A,B,P]) (e:=Zh) (s:=s3) (s0:=s5) (U:=kE o k p n P (aa<|Zh A) ai ai ai ai)
  (λl U=>(∀Q∈l,pZ p n Q)/\∃x6 x7:Option V,U=kE o k p n P (aa<|Zh A) x6 x7 ai ai)
  (by
   rw[wE7,pE4,Zc #[9]<|Zc (Zu (Zc #[9]<|Zc #[9] Zf) e5)<|Zc #[9] Zf];rfl)
  #[λQ hQ=>by
   simp only[ay,bx,or_false]at hQ;rcases hQ with rfl|rfl|rfl
   .exact hA
   .exact hB
   .exact hP,ai,ai,rfl] rfl (λQ l U s hI=>by
   obtain⟨hQ,x6,x7,rfl⟩:=hI;obtain⟨y7,e⟩:=jj d (o:=o) (x7:=x7) (x8:=ai) (x9:=ai) (k:=k) s hn h1 hp9 hP<|hQ Q<|ak ..;exact#[kE o k p n P (aa<|Zh A) (aa<|Zh Q) x7 ai ai,_,s,rfl,e,λq h=>hQ q<|am _ h,_,_,rfl])
 obtain⟨y,s7,e7,hy,hy0⟩:=yG (d+5) (p:=p) (n:=n) s6 hn h1 hp hq;have hPt:Ab.Th 1000 (Zh P):=#[Qf P,λxs z=>by have:=Vm hP xs z;lia]
 have hPi:=Qb.mpr #[P,rfl,hP];have hN:Ab.Th 1000 .non:=#[rfl,λxs z=>by cases z]
 obtain⟨ρ',s8,⟨_,y9,rfl⟩,e8⟩:=zA (C:=CV<|d+9) (ms:=[]) (os:=[]) (t:=[9]) (it:=.of<|.lst [(.tup [(.v 8),(.v 4)]),(.tup [(.v 4),(.v 8)]),(.tup [(.v 8),(.c .non)])]) (b:=noB) (L:=[(y,Zh P),(Zh P,y),(y,V.non)]) (e:=λq=>V.tup [q.1,q.2]) (s:=s7) (s0:=s7)
  (λl U=>(∀q∈l,Ab.Th 1000 q.1/\Ab.Th 1000 q.2/\(isP p n q.1=aj\/isP p n q.1=ao/\isP p n q.2=aj))/\∃y9,U=kE o k p n P (aa<|Zh A) x6 x7 (aa y) y9)
  (by
   rw[wE7,pE4];rfl)
  #[λq hq=>by
   simp only[ay,bx,or_false]at hq;rcases hq with rfl|rfl|rfl
   .exact#[hy,hPt,.inl hy0]
   .exact#[hPt,hy,.inr #[hPi,hy0]]
   .exact#[hy,hN,.inl hy0],ai,rfl] rfl (λq l U s hI=>by
   obtain⟨hq,y9,rfl⟩:=hI;obtain⟨a,b,c⟩:=hq q<|ak ..;refine#[kE o k p n P (aa<|Zh A) x6 x7 (aa y)<|aa<|.tup [q.1,q.2],kE o k p n P (aa<|Zh A) x6 x7 (aa y)<|aa<|.tup [q.1,q.2],s,rfl,?_,λq h=>hq q<|am _ h,_,rfl]
   have as:pvs (CV<|d+9) [(.v 3),(.ix (.v 9)<|.n 0),(.ix (.v 9)<|.n 1)] (kE o k p n P (aa<|Zh A) x6 x7 (aa y)<|aa<|.tup [q.1,q.2]) s=.ok [spV p n,q.1,q.2] s:=Zc #[9]<|Zc (ixt (k:=0) #[9] ZP rfl)<|Zc (ixt (k:=1) #[9] ZP rfl) Zf;unfold noB;rw[guard (Zee (i:=1) as (wV d s hn a b c) #[by decide,by decide] rfl),rvs])
 refine#[kE o k p n P (aa<|Zh A) x6 x7 (aa y) y9,[],s8,?_,rfl,rfl];unfold Zbt;rw[Zi<|ZC (Zu (Zc #[9]<|Zc e0 Zf) e1) rfl];rw[Zi<|ZC (Zu (Zc #[9]<|Zc #[9] Zf) e2) rfl];rw[Zi<|ZC (Zu (Zc #[9]<|Zc (Zu (Zc #[9]<|Zc #[9] Zf) e3)<|Zc #[9] Zf) e4) rfl];show rvs _ _ _ (kE o k p n P (aa<|Zh A) ai ai ai ai) [] s3=_;rw[Zi e6,Zi<|ZC (Zu (Zc #[9]<|Zc #[9] Zf) e7) rfl];show rvs _ _ _ (kE o k p n P (aa<|Zh A) x6 x7 (aa y) ai) [] s7=_
 rw[Zi e8,rvs]
def Zbp(d )(U )(s ):pv (CV<|d+9) (.cmp .is (.call 42 [(.tup [(.n 2),(.n 1)]),(.tup []),(.tup [(.tup [(.n 1)])])])<|.c .non) U s=.ok (.bl ao) s:=by
 haveI:Base 2:=⟨.inl rfl⟩
 have sp:pv (CV<|d+9) (.tup [(.n 2),(.n 1)]) U s=.ok (spV 2 1) s:=by simp[pvE,spV]
 have t1:pv (CV<|d+9) (.tup []) U s=.ok (Zh []) s:=by simp[pvE,Zh]
 have t2:pv (CV<|d+9) (.tup [(.tup [(.n 1)])]) U s=.ok (Zh [[1]]) s:=by simp[pvE,Zh,Zb]
 have hP:pZ 2 1 [[1]]:=(Y6 λr hr=>by rw[aZ.mp hr];exact#[rfl,λa ha=>by simp at ha;lia]).mp #[24]
 rw[Yi,W7 sp t1 t2 (Jl d s #[0] pZ.nil hP #[1]),Za,pE1];rfl
def law_ok(ns )(s ):∃S,CV 63 47 [.scr ns] s=.ok (.bl ao) S:=
 Lv.law_ofR (B:=Zbt) 60 #[1] #[1] #[1] rfl rfl rfl #[1] (λU s=>Zbp 53 U s) (λo k s=>ZcQ 53 o k s) ns s
end K75
namespace K75
open PySem PySem.Spec PyProof.Rows L2 Sd Gn
open Sd (yB uM Zdc Zby ur Za9 Zgc ZcA Zaq vW qo Zck Za0 ut Gq Zc9 ZbB Zcj wD ZcV vt vX ub qC ux Gh yW vZ u0 uY JW Zaz)
def Zin(s:fB):bR:=match s with|.FunctionDef x _ _ _ _ _ _ _ _ _=>x|_=>""
def top(i:Nat):fB:=PySem.Challenge.pw_fewspaces_k75_some_turn.main.body.getD i<|.Pass #[0,0,0,0]
abbrev R(i m k:Nat):FR:=#[Zin<|top i,top i,((Zg<|top i).names.map (·.1)).take m,k]
abbrev r0:=R 41 2 2
abbrev r1:=R 42 3 2
abbrev r2:=R 43 4 2
abbrev r3:=R 45 3 2
abbrev r4:=R 49 1 1
abbrev r5:FR:=#["_law_form",top 50,["_law_space_here","_law_every","_law_places","_law_found","_law_head_here","_law_row_here"],2]
abbrev r6:=R 47 3 2
abbrev r7:=R 46 4 4
abbrev r8:=R 48 6 2
abbrev r9:=R 51 3 2
abbrev r10:=R 60 5 3
abbrev r11:=R 61 3 3
abbrev r12:=R 55 6 3
abbrev r13:=R 56 8 3
abbrev r14:=R 52 3 3
abbrev r15:=R 53 2 2
abbrev r16:=R 54 3 2
abbrev r17:=R 57 4 2
abbrev r18:=R 15 3 1
abbrev r19:=R 14 1 1
abbrev r20:=R 21 2 2
abbrev r21:=R 25 3 3
abbrev r22:=R 13 3 3
abbrev r23:=R 23 4 2
abbrev r24:=R 24 3 2
abbrev r25:=R 26 2 2
abbrev r26:=R 27 3 3
abbrev r27:=R 18 4 4
abbrev r28:=R 34 8 3
abbrev r29:=R 35 3 3
abbrev r30:=R 20 4 4
abbrev r31:=R 30 7 3
abbrev r32:=R 17 3 3
abbrev r33:=R 19 3 2
abbrev r34:=R 29 9 3
abbrev r35:=R 28 5 3
abbrev r36:=R 32 4 2
abbrev r37:=R 33 2 2
abbrev r38:=R 16 2 2
abbrev r39:=R 38 5 2
abbrev r40:=R 37 5 2
abbrev r41:=R 36 2 2
abbrev r42:=R 39 3 3
abbrev r43:=R 58 1 1
abbrev r44:=R 59 8 2
abbrev r45:=R 62 3 2
abbrev r46:=R 44 4 1
abbrev r47:FR:=#["law",top 65,["_law_script","_law_k","_law_state_here","_law_space_here","_law_one","_law_led_one","_law_other","_law_found","_law_none","_law_pair"],1]
noncomputable abbrev rL:FR:=r47
abbrev fs:List FR:=[r0,r1,r2,r3,r4,r5,r6,r7,r8,r9,r10,r11,r12,r13,r14,r15,r16,r17,r18,r19,r20,r21,r22,r23,r24,r25,r26,r27,r28,r29,r30,r31,r32,r33,r34,r35,r36,r37,r38,r39,r40,r41,r42,r43,r44,r45,r46]
abbrev zs:List bR:=["all","any","bool","dict","enumerate","int","isinstance","len","list","max","min","range","set","sorted","sum","tuple","zip","ValueError"]
abbrev gs:List (bR×Gv):=[]
noncomputable def pp(k:Nat):iV:=([#[152,7,152,17],#[152,21,152,25],#[152,7,152,25],#[153,15,153,19],#[153,8,153,19],#[152,4,153,19],#[154,4,154,14],#[154,17,154,114],#[154,4,154,114],#[155,4,155,14],#[155,17,155,27],#[155,30,155,129],#[155,17,155,129],#[155,4,155,129],#[156,4,156,14],#[156,17,156,27],#[156,30,156,126],#[156,17,156,126],#[156,4,156,126],#[157,4,157,14],#[157,4,157,54],#[158,7,158,45],#[158,7,158,101],#[159,16,159,17],#[159,15,159,17],#[159,8,159,17],#[158,4,159,17],#[160,11,160,21],#[160,28,160,32],#[160,4,160,33],#[157,4,157,21],#[157,4,157,54],#[160,11,160,27],#[160,11,160,33],#[0,0,0,0],#[0,0,0,0],#[0,0,0,0],#[0,0,0,0],#[0,0,0,0],#[0,0,0,0],#[154,18,154,28],#[154,29,154,39],#[154,41,154,46],#[154,18,154,47],#[154,49,154,59],#[154,60,154,70],#[154,72,154,78],#[154,49,154,79],#[154,81,154,91],#[154,92,154,102],#[154,104,154,112],#[154,81,154,113],#[155,31,155,41],#[155,42,155,52],#[155,54,155,61],#[155,31,155,62],#[155,64,155,74],#[155,75,155,85],#[155,87,155,96],#[155,64,155,97],#[155,99,155,109],#[155,110,155,120],#[155,122,155,127],#[155,99,155,128],#[156,31,156,41],#[156,42,156,52],#[156,54,156,60],#[156,31,156,61],#[156,63,156,73],#[156,74,156,84],#[156,86,156,91],#[156,63,156,92],#[156,94,156,104],#[156,105,156,115],#[156,117,156,124],#[156,94,156,125],#[157,22,157,32],#[157,33,157,43],#[157,45,157,52],#[157,22,157,53],#[158,11,158,21],#[158,22,158,32],#[158,34,158,44],#[158,11,158,45],#[0,0,0,0],#[0,0,0,0],#[0,0,0,0],#[0,0,0,0],#[0,0,0,0],#[0,0,0,0],#[147,4,147,14],#[147,17,147,21],#[147,4,147,21],#[149,8,149,17],#[149,8,149,19],#[149,8,149,19],#[150,11,150,21],#[151,8,151,18],#[151,21,151,22],#[151,8,151,22],#[150,4,151,22],#[148,4,151,22],#[0,0,0,0],#[0,0,0,0],#[0,0,0,0],#[0,0,0,0],#[0,0,0,0],#[0,0,0,0],#[0,0,0,0],#[0,0,0,0],#[0,0,0,0],#[0,0,0,0]]:List iV).getD k #[0,0,0,0]
noncomputable abbrev jE{X xw C e}(i:Ev.E):=Sd.CE X xw C e i
noncomputable abbrev jF{X xw C e}(i:Ev.E):=Sd.CF X xw C e i
noncomputable abbrev jT{X xw C e}(i:Ev.E):=Sd.CT X xw C e i
noncomputable abbrev jS{X xw a C b e}(i:Ev.Sm):=Sd.CS X xw a C b e i
def okl:OkX fs zs gs fns tk sn 0 fs (fns.take 47)/\Zi2 aj fs zs gs fns tk 46 r46.st/\BdR aj fs zs gs fns tk sn 46 r46.st rL Zf8:=by
 refine#[?a,?b,?c]
 case' a=>repeat'(first|exact fv|refine#[#[rfl,rfl,by decide +kernel,?_],?_]|exact Zch|intro P w K mg base cl f fd d T L h hn cdv A outer s H E hr hu)
 case' b=>intro P w K mg base f fd d T hn cdv A outer s H hu;unfold Sd.ksum
 case' c=>intro P w K mg base cl f fd fL c Pt d T L h RA hn hC hB hP A outer s H E hp hr hr0 hu
 all_goals
 (repeat'(first
 |(with_reducible refine (?_:aE _ _=_));(first|exact uM|exact yB|exact vW|exact Zaq|exact Zdc|exact Za9|exact qo|exact Zby|exact Zgc|exact ZcA|exact ur)
 |(with_reducible refine (?_:Cx.mg _ _=_));(exact Top.no #[4] #[5])
 |(with_reducible refine (?_:_=_));first|exact ZgJ _|kernel_rfl!
 |(with_reducible refine (?_:Gl _ _));show _=_;kernel_rfl!
 |refine (?_:Sd.CSs _ _ _ _ _ _ [.cel _ _ _ _]);refine Zhe Sd.Zc4 #[4] #[4] #[4] ?_ ?_ #[4] #[5] #[5] (show _=_ from by kernel_rfl!) #[5] (by first|exact uM|exact yB|exact vW|exact Zaq|exact Zdc|exact Za9|exact qo|exact Zby|exact Zgc|exact ZcA|exact ur) rfl #[5] (by first|exact Or.inl #[5]|exact o7 #[5]|exact o7 (Or.inl #[5])|exact o7 (o7 #[5])) (by first|exact .inl rfl|exact .inr<|by kernel_rfl!) #[5] #[5] #[5]
 |refine (?_:Sd.CSs _ _ _ _ _ _ _);first|apply ZgA|apply ZdR
 |refine (?_:Sd.CA _ _ _ _ _);first|apply Zh7|apply ZdB
 |refine (?_:jF (.blt .sortedS _));apply vw
 |refine (?_:jF (.blt .list _));apply u5 yW
 |refine (?_:jF (.blt .listD _));apply u5 (ji rfl)
 |refine (?_:jF (.blt .sortedD _));apply ZeN (yT rfl)
 |refine (?_:jF (.lst _));apply ZhU
 |refine (?_:jF (.comp1 _ _ _ _ _ _));refine Zba rfl (by first|assumption|exact T6<|by kernel_rfl!) (Zc1<|by kernel_rfl!) ?_ (λ_ _ _ _=>#[?_,?_,?_]) (hs:=by intro _;kernel_rfl!)
 |refine (?_:Sd.CE _ _ _ (.BoolOp _ [_] _) _);apply Zhq
 |refine (?_:jE (.dix _ aj));apply ZdA
 |refine (?_:jE (.dix _ ao));apply ZeM
 |refine (?_:jE (.v _));apply Zjz
 |refine (?_:jE (.c _));first|apply Zgm|apply Ziu|apply Zhs|apply Zgq
 |refine (?_:jE (.call _ _));first|refine Zc2 Sd.Zc4 #[4] #[4] #[4] ?_ #[5] (show _=_ from by kernel_rfl!) #[5] (by first|exact uM|exact yB|exact vW|exact Zaq|exact Zdc|exact Za9|exact qo|exact Zby|exact Zgc|exact ZcA|exact ur) rfl|refine Zh2 #[4] #[4] #[4] ?_ #[5] (show _=_ from by kernel_rfl!) #[5] (by first|exact uM|exact yB|exact vW|exact Zaq|exact Zdc|exact Za9|exact qo|exact Zby|exact Zgc|exact ZcA|exact ur) rfl|refine Zc2 Sd.ZjB #[4] #[4] #[4] ?_ #[5] (show _=_ from by kernel_rfl!) #[5] (by first|exact uM|exact yB|exact vW|exact Zaq|exact Zdc|exact Za9|exact qo|exact Zby|exact Zgc|exact ZcA|exact ur) rfl
 |refine (?_:jE (.refu _ _));refine Ziw (Pp:=pp) Sd.Zc4 #[4] #[4] #[4] #[4] rfl #[5] #[5] #[5] #[4] #[4] #[4] #[4] rfl rfl rfl rfl #[5] #[5] (show _=_ from by kernel_rfl!) λ_ _ _ _ _ _ _ _ _ _ _=>?_
 |refine (?_:jE .dnew);apply ZdG
 |refine (?_:jE (.ix _ _));apply ZiQ
 |refine (?_:jE (.blt .len _));apply WX vX
 |refine (?_:jE (.blt .tuple _));apply zu Gh
 |refine (?_:jE (.blt .all _));apply WX (vZ rfl)
 |refine (?_:jE (.blt .any _));apply WX (u0 rfl)
 |refine (?_:jE (.blt .toInt _));apply zu ux
 |refine (?_:jE (.blt .max2 _));apply WX (ub rfl)
 |refine (?_:jE (.blt .min2 _));apply WX (qC rfl)
 |refine (?_:jE (.blt .sum _));apply WX (uY rfl)
 |refine (?_:jE (.blt .dictP _));apply zu (JW rfl #[4])
 |refine (?_:jE (.blt _ _));apply vG
 |refine (?_:jE (.bin _ _ _));first|apply ZgK|apply ZhI|apply Zgn|apply ZgC|apply Zdv|apply Zhg
 |refine (?_:jE (.tup _));apply Zhi
 |refine (?_:jE (.neg _));apply Zg0
 |refine (?_:jE (.not _));apply Zhz
 |refine (?_:jE (.cmp .eq _ _));apply Xw (Zck #[4])
 |refine (?_:jE (.cmp .ne _ _));apply Xw (Za0 #[4])
 |refine (?_:jE (.cmp .lt _ _));apply Xw (ut #[4])
 |refine (?_:jE (.cmp .le _ _));apply Xw (Gq #[4])
 |refine (?_:jE (.cmp .gt _ _));apply Xw (Zc9 #[4])
 |refine (?_:jE (.cmp .ge _ _));apply Xw (ZbB #[4])
 |refine (?_:jE (.cmp .is _ _));apply Xw (Zcj #[4])
 |refine (?_:jE (.cmp .isn _ _));apply Xw (wD #[4])
 |refine (?_:jE (.cmp .inn _ _));apply Xw (ZcV #[4])
 |refine (?_:jE (.cmp .nin _ _));apply Xw (vt #[4])
 |refine (?_:jE (.chain _ _ _ _ _));first|apply xO (Gq<|by assumption) (Gq #[4])|apply xO (Gq<|by assumption) (ut #[4])
 |refine (?_:jE (.sl _ _ _));apply Zie
 |refine (?_:jE (.rev _));apply Zia
 |refine (?_:jE (.isi _ _));first|apply Qr (T:="int") (t:=.int)|apply Qr (T:="bool") (t:=.bool)|apply Qr (T:="tuple") (t:=.tuple)|apply Qr (T:="list") (t:=.list)|apply Qr (T:="dict") (t:=.dict)
 |(first|show jE (.callF _ _)|show jE (.blt .rangeL _)|show jE (.lst _)|show jE (.comp1 _ _ _ _ _ _)|show jE (.comp2 _ _ _ _ _ _ _ _ _)|show jE (.blt .list _)|show jE (.blt .sorted _)|show jE (.blt .listD _)|show jE (.blt .sortedD _)|show jE (.blt .sortedS _)|show jE (.blt .sortedT _)|show jE (.blt .sortedU _));refine CF.ce ?_
 |refine (?_:jE _);apply Zhh
 |refine (?_:Sd.CO _ _ _ _ _);first|apply Zel|apply ZeK
 |refine (?_:jS (.raise _ []));apply ZiH Sd.Zc4
 |refine (?_:jS (.ret _));first|apply Zh8|apply ZeH
 |refine (?_:jS (.dnw _ _));apply ZgV
 |refine (?_:jS (.dput _ _ _));apply ZdU
 |refine (?_:jS (.forF _ _ _));apply ZeU lC
 |refine (?_:jS (.dset _ _));apply Zfv
 |refine (?_:jS (.asg _<|.comp1 _ _ _ _ _ _));refine Zcv rfl #[4] (Zc1<|by kernel_rfl!) ?_ (λ_ _ _ _=>#[?_,?_,?_]) (hsw:=by kernel_rfl!) (hy:=by kernel_rfl!) (hx:=by first|exact Or.inl #[5]|exact o7 #[5]|exact o7 (Or.inl #[5])|exact o7 (o7 #[5])) (hf:=by first|exact .inl rfl|exact .inr<|by kernel_rfl!) (hs:=by intro _;kernel_rfl!)
 |refine (?_:jS (.asg [_] _));first|refine ZeZ ?_ ?_ (hf:=by kernel_rfl!) (hs:=by kernel_rfl!) (hw:=by kernel_rfl!) (h1:=by kernel_rfl!)|apply Zd9
 |refine (?_:jS (.asg _ _));apply ZgT
 |refine (?_:jS (.ex<|.mt .append _ _));apply jV
 |refine (?_:jS (.ex _));apply Zdw
 |refine (?_:jS (.ite _ _ _));apply ZiR
 |refine (?_:jS (.forr _ _ _));apply ZhO lC
 |refine (?_:jS (.whl _ _));apply ZaO lC
 |refine (?_:jS (.aug _ _ _));apply ZhY Zaz
 |refine (?_:jT (.not _));apply ZgE
 |refine (?_:jT (.cmp .eq _ _));apply XD (Zck #[4])
 |refine (?_:jT (.cmp .ne _ _));apply XD (Za0 #[4])
 |refine (?_:jT (.cmp .lt _ _));apply XD (ut #[4])
 |refine (?_:jT (.cmp .le _ _));apply XD (Gq #[4])
 |refine (?_:jT (.cmp .gt _ _));apply XD (Zc9 #[4])
 |refine (?_:jT (.cmp .ge _ _));apply XD (ZbB #[4])
 |refine (?_:jT (.cmp .is _ _));apply XD (Zcj #[4])
 |refine (?_:jT (.cmp .isn _ _));apply XD (wD #[4])
 |refine (?_:jT (.cmp .inn _ _));apply XD (ZcV #[4])
 |refine (?_:jT (.cmp .nin _ _));apply XD (vt #[4])
 |refine (?_:jT (.and _ _));refine CWh.ct<|ZaG ?_ ?_
 |refine (?_:jT (.or _ _));refine CWh.ct<|Zf6 ?_ ?_
 |refine (?_:jT _);apply Zhx
 |refine (?_:Sd.CWh _ _ _ _ _);first|apply ZaG|apply ZdZ|apply Zf6|apply ZgQ
 |refine (?_:Sd.CTs _ _ _ _ _);first|apply ZeC|apply ZdN
 |refine (?_:Sd.CW _ _ _ _ _ _);first|apply Zd3|apply Zdr|apply Zgy|apply ZeL|apply Zik
 |refine (?_:Sd.CG _ _ _);first|apply ZdV|apply ZhA
 |refine (?_:Sd.CGs _ _ _);first|apply Zet|apply Zcf
 |(first|exact Or.inl #[5]|exact o7 #[5]|exact o7 (Or.inl #[5])|exact o7 (o7 #[5]))
 |assumption
 |exact T6 #[5]
 |decide
 |(intro _;kernel_rfl!)
 |(intro _ _;kernel_rfl!)
 |(intro m h;cases h)))
end K75
namespace PySem.W.Fast
def tw11965256266541880817:=0
def tw12422989231214145028:=0
def tw14311414120545538378:=0
def tw8675493718704265081:=0
def tw1242253512984516265:=0
def tw2848145810967316773:=0
def tw4337794841735261497:=0
def tw121191907058612307:=0
def tw3775422518934353001:=0
def tw925113383291174355:=0
def tw15360059701175204148:=0
def tw15652701352742261470:=0
def tw3962083455024972583:=0
def tw5874660030581990993:=0
def tw14199226763125327083:=0
def tw354989530896136439:=0
def tw11881529526808884314:=0
def tw7170120099770056110:=0
def tw7427048396077338874:=0
def tw3472085032542570880:=0
def tw9376608206768411818:=0
def tw8927509034313994221:=0
def tw15854076707424570086:=0
def tw4281910956427598283:=0
def tw13048415137386588306:=0
def tw17698064850042234093:=0
def tw14748380658206041320:=0
def tw4476646553827386103:=0
def tw10357139521067692956:=0
def tw17649914605366928052:=0
def tw10480705238116650853:=0
def tw2139888256894023127:=0
def tw7904076259365883719:=0
def tw167621542485918145:=0
def tw13936399798270287667:=0
def tw2499009650603143388:=0
def tw7260162996194359882:=0
def tw5423306765943845526:=0
def tw8648899035755017432:=0
def tw9862636281703723126:=0
def tw9982472430240269772:=0
def tw12925486914533459939:=0
def tw10498953804957616655:=0
def tw15177086882042755721:=0
def tw8329071244429316259:=0
def tw16561700768501617151:=0
def tw11418453945956505298:=0
def tw5868820136286650688:=0
def tw1551719372770036361:=0
def tw4209193536008177521:=0
def tw4756481276751723088:=0
def tw190983938556983352:=0
def tw7888803784524994757:=0
def tw1693968316268610034:=0
def tw1258687633635915033:=0
def tw7132084672468397297:=0
def tw14738223377431729514:=0
def tw7999245847224663527:=0
def tw4925139236045672952:=0
def tw10259365621304396187:=0
def tw1968972935372915559:=0
def tw1454734453910432246:=0
def tw3884840430812314505:=0
def tw12522857539938797150:=0
def tw3179493748748055934:=0
def tw13595369201693516694:=0
def tw14341307660553357301:=0
def tw6364109515946032768:=0
def tw4802704281020117864:=0
def tw1886037343974032409:=0
def tw8986926590506980015:=0
def tw17320552747601882638:=0
def tw13004852992027255523:=0
def tw750966599328937462:=0
def tw1229032347274485092:=0
def tw8736515723083215080:=0
def tw17308577749581887409:=0
def tw11282372328487311910:=0
def tw3309497560563357438:=0
def tw14995611727390378031:=0
def tw6535957985918631409:=0
def tw2635159836405256068:=0
def tw4308377850169693584:=0
def tw14962228055034383742:=0
def tw9423909808597584224:=0
def tw11768504087013727268:=0
def tw13833277785960325094:=0
def tw6681762974106741019:=0
def tw4721373221415200423:=0
def tw9699422969553895902:=0
def tw4122458581614602757:=0
def tw1125322659443535136:=0
def tw1562010703726821243:=0
def tw7556959128590267073:=0
def tw12983596236342392953:=0
def tw8568583262013568826:=0
def tw14567505458557285419:=0
def tw9233578256267298194:=0
def tw2985743442971947324:=0
def tw8448219323795539935:=0
def tw15650625833628489759:=0
def tw3772920599644112910:=0
def tw18184608269048873616:=0
def tw2950676488230884864:=0
def tw17994514247648180699:=0
def tw8529007930950703199:=0
def tw4812579876971236569:=0
def tw13768704782160143873:=0
def tw16842717977828478430:=0
def tw18144622400160254555:=0
def tw9809057697840861765:=0
def tw2610663448421149840:=0
def tw16894777624431088864:=0
def tw9201317969381527957:=0
def tw9547486740500013586:=0
def tw7779949455936095465:=0
def tw7786022468398036249:=0
def tw18192623884797028060:=0
def tw17932196282278692702:=0
def tw10016880766064019162:=0
def tw11807684409297857977:=0
def tw9742419678170705215:=0
def tw598125035536190547:=0
def tw14318472510735964896:=0
def tw989538594822069628:=0
def tw18439231480945930510:=0
def tw11416390741308120467:=0
def tw3670280972770707080:=0
def tw17899814483852876185:=0
def tw8953246555170727019:=0
def tw533915269005901127:=0
def tw10021142338422878559:=0
def tw5214759344752328596:=0
def tw11687790679389240067:=0
def tw11943012629492950969:=0
def tw9228968452928469824:=0
def tw1044755402658404539:=0
def tw15727231879319844543:=0
def tw3424521338914602173:=0
def tw8605190919257607427:=0
def tw11078219200847878017:=0
def tw9966947334294966320:=0
def tw9123131334244659994:=0
def tw7964696120624831311:=0
def tw2819652255043559275:=0
def tw25027701225769428:=0
def tw1185387487170400657:=0
def tw1363689689431857600:=0
def tw12215440606983722988:=0
def tw5789250220569442995:=0
def tw16367328408802474043:=0
def tw9309245485247543794:=0
def tw15031688490966608772:=0
def tw2669559620960073469:=0
def tw18424257987782573557:=0
def tw18035654896302391025:=0
def tw11868680118263645806:=0
def tw648918573547827297:=0
def tw10459877293709349694:=0
def tw6913398998301736920:=0
def tw9686501910039803615:=0
def tw6167984948685902751:=0
def tw10280312924069366099:=0
def tw3224551459686117528:=0
def tw7631614723988375316:=0
def tw3057845941404050873:=0
def tw9886528536642482214:=0
def tw8009827901669555695:=0
def tw11469099416188538961:=0
def tw3032963094643889388:=0
def tw13286080104330636403:=0
def tw8158250314009590239:=0
def tw2553973741744525063:=0
def tw9855904413662293946:=0
def tw17894776562663404087:=0
def tw12465386079013885805:=0
def tw9396789319841168989:=0
def tw9453267570066704057:=0
def tw10650658701484240457:=0
def tw12576697761713007412:=0
def tw3326553515298690916:=0
def tw3586977832039337721:=0
def tw11566071702980938287:=0
def tw7772166577750265807:=0
def tw12390591781953939096:=0
def tw16275771240888746985:=0
def tw2399341102859639465:=0
def tw5796092089267445570:=0
def tw10177494861298635509:=0
def tw3295618981469412148:=0
def tw12572786327976102469:=0
def tw11317502145719882921:=0
def tw16016553412393699674:=0
def tw4322834857726545506:=0
def tw8911698978003905384:=0
def tw12559022801956412801:=0
def tw15320256912703346674:=0
def tw3367329845532269690:=0
def tw5157277268300647663:=0
def tw6163753549706072040:=0
def tw3104663201464823590:=0
def tw7489593041081255248:=0
def tw4769108417875325473:=0
def tw9319444135334289515:=0
def tw15436130120171447327:=0
def tw4632506926803997302:=0
def tw14457717308186650017:=0
def tw2647231216322154576:=0
def tw6631666298570889545:=0
def tw13849005118282441304:=0
def tw2856715374000764922:=0
def tw16456099443357369676:=0
def tw14776250139370374782:=0
def tw16105750218895779262:=0
def tw749113917804105841:=0
def tw11072724377449515433:=0
def tw15201817765464576360:=0
def tw3343879736794841000:=0
def tw7351868260188524237:=0
def tw9095509351733218725:=0
def tw14489363637211328751:=0
def tw6396590370450031686:=0
def tw17049355709377934168:=0
def tw9739143081374557332:=0
def tw6935303222954008648:=0
def tw15534558997104045449:=0
def tw13081897057318674713:=0
def tw6625317145441961336:=0
def tw11492466099333535568:=0
def tw15822045306130364574:=0
def tw15597701114847928460:=0
def tw13170000476479215384:=0
def tw15652134506196636692:=0
def tw2061967294525628744:=0
def tw17717930821844582747:=0
def tw13386563255750503641:=0
def tw733255453144481945:=0
def tw6059965113029433750:=0
def tw2605525044318288089:=0
def tw4960009685776078765:=0
def tw7677860913461783199:=0
def tw4689592596646648418:=0
def tw5842969255572624959:=0
def tw17764112632104578183:=0
def tw17855604358322969524:=0
def tw16253474896721969903:=0
def tw978200879322620155:=0
def tw10977652951725011490:=0
def tw3510543584554063672:=0
def tw3652138721129555195:=0
def tw15760516329201119930:=0
def tw3550336151229158607:=0
def tw15627749985490379243:=0
def tw10133667799794782212:=0
def tw14020346644872127610:=0
def tw3247451347513394385:=0
def tw10965970020275833114:=0
def tw18162444407893654283:=0
def tw1127870727042145852:=0
def tw17692253881862705785:=0
def tw11577181274741479828:=0
def tw16724504904941730246:=0
def tw13700353992802440868:=0
def tw8358370819333602951:=0
def tw5462271092261341659:=0
def tw4375642563430268782:=0
def tw6247975482673005946:=0
end PySem.W.Fast
open PySem PySem.W PyProof.Rows Gn
set_option maxRecDepth 100000 in
set_option maxHeartbeats 0 in
theorem PySem.Challenge.cw_fewspaces_k75_some_turn_holds : PySem.Challenge.rw_fewspaces_k75_some_turn.Holds := by
  w_on; o_law; k_head; (case hw => w_witness2)
  k_fill
  refine Gn.ZbD (l := PySem.Challenge.rw_fewspaces_k75_some_turn) (F := K75.fns) (tk := K75.tk) (L := 47) (c := 456) (Pt := 452) (cl := fun _ => [24, 37, 49, 61, 73, 85, 97, 109, 121, 133, 145]) (fun ns s => K75.law_ok ns s) rfl rfl (fun w h Y => PySem.W.km_in_of Y) rfl (fun w => by kernel_rfl!) (fun w => by kernel_rfl!) ?F
  case F =>
    intro w mg fa h KX G hmg;refine' Gn.Zef (fs := K75.fs) (zs := K75.zs) (gs := K75.gs) (sn := K75.sn) KX G hmg K75.okl.1 (fun i fn e => by rw [cE] at e; split at e; exact e; cases e) rfl #[1] ?A ?Z ?Y ?E ?L rfl rfl rfl (by decide +kernel) (Gn.Zgp (Pp := K75.pp) K75.okl.2.1 K75.okl.2.2 #[5] #[5] #[5] #[5] #[5]) ?R
    case A => repeat' (first|exact FnsAt.nil|refine' FnsAt.cons ?h1 ?h2 ?h3 ?h4 ?h5 ?_; (case h1 => k_is); (case h2 => k_is); (case h3 => k_is); (case h4 => k_is); (case h5 => first|exact bd1 fun _ _ _ _ _ _ _ => rfl|exact bd2 fun _ _ _ _ _ _ _ _ => rfl|exact bd3 fun _ _ _ _ _ _ _ _ _ => rfl|exact bd4 fun _ _ _ _ _ _ _ _ _ _ => rfl|exact bd5 fun _ _ _ _ _ _ _ _ _ _ _ => rfl|exact bd6 fun _ _ _ _ _ _ _ _ _ _ _ _ => rfl))
    case L => repeat' (first|exact FnsAt.nil|refine' FnsAt.cons ?h1 ?h2 ?h3 ?h4 ?h5 ?_; (case h1 => k_is); (case h2 => k_is); (case h3 => k_is); (case h4 => k_is); (case h5 => first|exact bd1 fun _ _ _ _ _ _ _ => rfl|exact bd2 fun _ _ _ _ _ _ _ _ => rfl|exact bd3 fun _ _ _ _ _ _ _ _ _ => rfl|exact bd4 fun _ _ _ _ _ _ _ _ _ _ => rfl|exact bd5 fun _ _ _ _ _ _ _ _ _ _ _ => rfl|exact bd6 fun _ _ _ _ _ _ _ _ _ _ _ _ => rfl))
    case Z => repeat' (first|exact ZsAt.nil|refine' ZsAt.cons ?h1 ?_; (case h1 => k_is))
    case Y => repeat' (first|exact GsAt.nil|refine' GsAt.cons ?h1 ?_; (case h1 => k_is))
    case E => kernel_rfl!
    case R => rfl
