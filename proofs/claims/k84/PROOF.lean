import PyProof.Rows.All
import Wide.All
import OpenK.AllK
import Wide.FinOn
import Lean
import PyProof.EqAt
import PyProof.EqKinds
import PyProof.TupleCall
import PySem.Str
import PyProof.CodeObj
import PyProof.ListMulAny
import PyProof.NeKinds
import PyProof.ConsumeWalk
import PyProof.CompFree
import PyProof.ZipIter
import PyProof.Draws
import PyProof.EnumMake
import PyProof.SumWalk
import PyProof.Rows.SortRuns
import KE.KSortTup
import PyProof.Rows.SortRev
import PyProof.FactsAll.tuple
import KE.KRevIter
import PyProof.FactsAll.range_2
import PyProof.ListRange
import PyProof.TupleOfSeq
import PyProof.TupleOfGen
import PyProof.CallType
import PyProof.DictWalks
import PyProof.IsiH_list
import PyProof.RulesTry
import KE.KDictOf
import PyProof.StationsW
import PyProof.Rows.Own
import PyProof.ExcBaseAll.ValueError
import KE.KTryMore
import PyProof.ExcArgsOwn
import PyProof.IsiH_tuple
import PyProof.NsDelKeeps
import PyProof.RulesAs
import KE.KLam
import PyProof.P3Eq
import OpenK.KOwn
import PySem.Challenge.RW_fewspaces_k84_lots_apart_filled
set_option Elab.async false
set_option linter.all false
set_option compiler.extract_closed false
set_option maxRecDepth 100000
set_option maxHeartbeats 0
local macro_rules
|`(#[$x,$y])=>`(⟨$x,$y⟩)
|`(#[$x,$y,$z,*])=>`(⟨$x,$y,$z,*⟩)
noncomputable section
abbrev T9:=@if_pos
abbrev T8:=@if_neg
abbrev T7:=@absurd
abbrev T6:=@of_decide_eq_true
abbrev T5:=@decide_eq_true
abbrev T4:=@decide_eq_false
abbrev T0:=@decide_eq_true_eq
open Option renaming some->aa,none->af,bind_eq_some_iff->bZ,map_eq_some_iff->cF,isSome_iff_exists->fB,ne_none_iff_exists'->kS,map_eq_none_iff->mv,map_some->mE,isSome_map->ox,getD_none->oX
open PySem renaming wpAny_bind->ae,Value->au,Shared->ay,starEach->aA,wpAny_pure->aC,Addr->aE,model->aV,wpAny->ba,Str->bi,sizeLine->bn,Program->bB,mainGlobals->bG,World->bS,foldedSetIterable->bY,eval->cr,wpAny_newObj_type->cu,Heap->cw,Around->cx,wpAny_holding->cD,assignEach->cI,compareOp->cK,FuncData->cM,wpAny_mono->cR,wpAny_field->cV,wpAny_callSpecial?_slot->c9,bootBuiltins->dg,wpAny_call_entry->dm,backTo->dq,sizeLine_eq->dv,cLine->dD,mem_of_lookup->dM,wpAny_of_eq->dO,Builtin->dZ,Scope->d6,wpAny_truthy_bool->ee,wpAny_rule->eD,codeAny->eJ,assign->eL,behindInMarks->eM,tupleKind->eN,Stmt->eO,swapsWith->eQ,wpAny_Call_Name_kw->eU,wpAny_seqItems->eW,wpAny_setField_rec->eX,wpAny_passesOwn->fe,binaryOp->fm,wpAny_standAt->fw,swapsWithSole->fz,swappedStores->fA,Obj->fD,NameKind->fG,wpAny_typeNameOfWhole_keyiter->fJ,sysModules->fK,rawInt->fM,wpAny_execs_nil->fS,Pos->fV,wpAny_pyIter_list->gf,wpAny_loadPart_at->gn,call_meets->gu,wpAny_execs_cons->gz,wpAny_typeOf->gB,wpAny_isInstance->gE,wpAny_typeNameOf_keyiter->gW,wpAny_pyIter_tuple->gZ,sliceBounds->hV,wpAny_pyIter_rangeiter->ig,cellsFrom->iR,closureFor->iU,DictEntry->iV,holding->i5,wpAny_attempt->i6,wpAny_loadName_local->i9,wpAny_updateSeq_pair->kf,codeAny_call_builtin->kl,wpAny_loadPart'->kx,codeAny_builtin->ky,wpAny_loadName_cell->kB,codeAny_mono->kH,codeAmong->kL,wpAny_Name->kM,wpAny_newFunctionEnv_cells->kO,typeLookup->kQ,tupleKind_room_in1->kR,wpAny_setField->kY,wpAny_binaryOp_repeat_ref->li,standAt->lm,wpAny_assign_Name->lq,intKind->lx,wpAny_onRaise->lH,wpAny_eqBool_int->lO,noFill_tuple_add->lP,wpAny_pyNext_list_item->md,wpAny_pyNext_range_end->me,IsPart->mf,typeIs_int->mj,IsPair->mm,richCompare_meets_room->mr,letOwnedTupleGo->my,wpAny_isTrue_Compare1->mG,wpAny_pyNext_list_end->mH,codeAny_call_function->mI,exec_Assign_Name_used->mJ,wpAny_notOrdered_dict->mK,wpAny_isOneOf_keyiter->mM,builtinLookup_eq_fast->mO,pyIter->mQ,bindArgs->mR,wpAny_newFunctionEnv->mT,firstArgMember->mU,ZipApart->mV,BindsTo->m8,getItem->m9,callerA->ng,wpAny_loadName_free->nj,rangeSize_one->nv,seq_tuple_add->ny,attributeBase->nz,wpAny_newList->nE,plainId_quiet->nF,wpAny_load->nL,Sem->oh,concat_meets->on,wpAny_sequenceKey->oo,seqIndex_neg->oq,Keyword->ot,valueAt->ow,wpAny_pyIter_enum->oC,wpAny_dictEntries->oG,PassesOwn->oO,pyNext->oP,rule->oQ,Result->oV,Arguments->oW,TriplesOk->oY,seqSlot_of->oZ,preSum->o9,isSubtype->pA,seqIndex_of->pG,keywordEach->pH,IsZip->pK,wpAny_letGo->pL,unsupported->pN,builtinsNs->rc,GenState->rd,Operator->re,wpAny_call->rh,call->rm,atKey->rn,Meets->rq,compTurn->rA,getAttr?->rO,Tok->rW,bindL->sj,bindC->sk,truthy->sr,ret->sw,DefRec->sA,CmpOp->sB
open Decidable renaming decide->ag
open List renaming getElem?_eq_getElem->ai,mem_cons_self->aj,mem_cons_of_mem->ao,length_map->ax,size_toArray->az,mem_cons->aB,getD_eq_getElem?_getD->aD,getElem?_eq_some_iff->aF,length_cons->aG,replicate->aH,mem_singleton->aK,range->aP,getElem?_map->aQ,mem_map->aR,length_append->aU,all_eq_true->aX,map_cons->aY,getElem?_set_ne->aZ,getElem?_set_self->bc,pairwise_cons->bf,mem_range->bh,length_range->bq,map_append->br,getElem?_append_right->bu,mem_append_right->bv,length_take->bC,mem_append->bD,length_set->bE,append_assoc->bF,pairwise_iff_getElem->bI,length_singleton->bJ,map_map->bO,length_drop->bP,not_mem_nil->bQ,getElem?_append_left->bR,getElem_mem->bU,lookup_cons->bV,zip_cons_cons->cc,replicate_succ->cf,getElem_of_mem->cg,take_of_length_le->cq,length_replicate->cA,getElem?_replicate->cB,filterMap_cons->cC,drop_eq_getElem_cons->cE,mem_of_mem_drop->cG,take_append_drop->cN,getElem?_range->cO,append_nil->cQ,pairwise_map->cT,mem_of_getElem?->cU,getElem?_take->cW,mem_filter->cX,nodup_cons->cY,getElem?_eq_none->cZ,flatten_cons->c6,ext_getElem?->c7,toArray->c8,mem_of_mem_take->db,foldl_cons->dB,mem_append_left->dE,pairwise_append->dF,mem_flatMap->dG,map_congr_left->dN,length_zip->dP,reverse_perm->eo,pairwise_singleton->eA,mem_map_of_mem->eG,drop_length->eR,mem_reverse->eS,pairwise_reverse->eY,find?_cons->fg,nil_append->fj,map_uncurry_zip_eq_zipWith->fC,getElem?_drop->fP,of_mem_zip->fT,contains_iff_mem->fY,length_filter_le->gd,nodup_append->gh,getElem_take->gi,take_length->gD,ext_getElem->gF,getElem?_zip_eq_some->gI,extract_eq_take_drop->gL,getLast?_eq_some_iff->gM,zip_nil_right->g9,length_eq_zero_iff->hZ,filter_cons_of_neg->h9,reverse_cons->iz,range_succ_eq_map->iB,getElem_drop->iC,getElem?_inj->iF,drop_left->iG,zip_nil_left->iI,sum_replicate_nat->iK,flatMap_cons->iL,foldl_nil->iM,getElem?_reverse->iP,map_reverse->iY,mapIdx_cons->iZ,map_tail->i8,isEmpty_toArray->kc,getElem?_mapIdx->ke,drop_append_of_le_length->kh,take_append_of_le_length->ki,mem_zipIdx_iff_getElem?->kq,length_nil->kA,length_flatMap->kE,all_map->kJ,drop_zero->kX,drop_drop->k6,take_left->k8,getLast?_eq_none_iff->lj,length->lu,take_add_one->lz,any_cons->lC,find?_range_eq_some->lK,eq_of_mem_replicate->lL,any_eq_true->lV,zipIdx_cons->lW,filter_cons->l7,length_tail->l8,drop_of_length_le->mq,length_pos_of_mem->mw,forIn_cons->mz,mem_iff_getElem->mX,take->ni,reverse_append->nr,contains->nA,map_take->nG,mem_filterMap->nN,find?_toArray->nY,find?_eq_none->oa,take_sublist->om,map_nil->ou,getElem?_set->oy,map->oE,getElem_tail->oK,tail_sublist->oN,cons_append->o7,drop_append->pb,countP_cons->pc,nodup_range->pe,getElem_zip->pC,map_flatMap->pD,zipIdx_nil->pQ,map_const'->pV,forIn_nil->rB,take_take->rE,perm_cons->rG,nodup_nil->rR,map_drop->sh,zip->sC
open Bool renaming true->ak,false->al,and_eq_true->aI,false_ne_true->aN,false_eq_true->cy,eq_iff_iff->dz,or_eq_true->eE,not_true->gU,not_eq_true'->lB,false_or->lD,and_false->rj,not_false->rM,and_true->si
open PySem.W renaming Frag->am,katRev->bx,hideAll_none->da,CodeHd->dy,kia_one->dA,kia_tup->dQ,fnOf->eK,hideAll->fc,kat_len->fk,envX->fQ,kla_obj->fU,kitOne->gp,keepIn->gq,kitAny->gw,hideAll_get->gN,of_hideAll->gY,kitx_list->im,kitx_dict->ip,cellsFrom_some->iq,nsIn->iJ,katRev->ku,kat_nil->kw,codeIn->kN,mg_of->lJ,OpenLaw->mF,noTabs->mZ,kitx_tuple->nP,callWith_K->nQ,codeRec_of->nS,kitx_none->oi,kitx_bool->oj,looks_findIn->oH,plainGet->oR,kitx_int->oS,kitx_str->oU,kat_cons->pj,kat_kind->pk,kat_yes->pR,kat_one->pS,KatTups->pT,kat_len->pY,KatLex->rH,kat_no->rJ,kat_lt->rK,findIn->rP,exmOne->rQ,kla_fn->rS,tabObj->rT,tabIn->sd,WalkO->sf
open Option.some renaming inj->aq
open PySem.Heap renaming get?_push_of_some->aw,get?_push_size->aO,lt_size->aT,size_push->dJ,get?_push_ne->fu,get?_update_self->fW,ExtBut->gv,SameBut->gy,size_update->iX,get?_update_ne->kC,get?_update_other->mi
open Nat renaming le_refl->aJ,ne_of_lt->bp,lt_of_lt_of_le->bt,lt_irrefl->bK,le_trans->bX,pow_le_pow_right->cH,lt_trans->dC,lt_succ_of_lt->dL,zero_le->d4,lt_of_succ_lt->ej,le_of_not_lt->fH,le_add_right->fI,ne_of_gt->gA,add_comm->gC,pow_succ->gG,lt_of_le_of_ne->g7,le_succ->h8,mul_le_mul->iA,lt_succ_self->iT,le_of_lt->kG,mul_comm->kI,add_assoc->lI,not_lt_of_le->l0,le_mul_of_pos_right->l9,succ_mul->ml,min_eq_left->mC,mul_le_mul_left->nt,mul_assoc->nH,min_self->oA,le_of_eq->oD,log2_lt->pI
open PyProof.Rows renaming wpS_bind->aM,wpS_pure->aW,arrOf->bj,pendingOf->bo,callWith_type1->bT,SortSt->bW,Keyed->cp,wpS_forRange->cP,slot_tuple_getitem->dR,envOfC->dS,wpS_mono->fq,wpS_modify->fO,seqObj->fZ,elem'->gK,SortKind->gR,failedOf->gS,wpS_get->iE,setPending->iW,AllBare->i4,list_sort_rev->k9,subscriptTail_builtinR->mh,wpS->mP,entry_tuple_getitem->nk,listUpdate_at->nD,boot_range->nM,args_tuple_getitem->nU,IsTup->pE,seqEpoch_at->pO,IntsAre->pW,minRun'->pX,Call_->rg,size_push'->rF
open Array renaming length_toList->aS,getElem?_toList->bw,getElem?_eq_getElem->bH,perm_iff_toList_perm->bL,toList_append->ck,size_push->eF,toList_push->gj,size_extract->g8,size_append->iD,toList_extract->kg,toList_setIfInBounds->k7,append_empty->lg,toList_inj->lZ,getElem?_eq_none->mn,toList_reverse->mW,append_assoc->nK,size_reverse->nZ,toList_map->pf
open And renaming intro->bg
open PySem.Value renaming none->bz,bool->bN,ref->de,builtin->i7,int->lN,isStrOf->rY
open PySem.NameKind renaming free->bM,cell->nC
open List.Perm renaming refl->cn,swap->lc,of_eq->mD,nil_eq->pi
open PySem.Str renaming ofString->cz,ofString->iH
open PySem.Builtin.Range renaming rangeFitsLong->cL,rangeSize->fF
open Pure renaming pure->cS
open List.Pairwise renaming nil->dH,imp_of_mem->gV,filter->m5
open PySem.Obj renaming mapSeq->dU,data_mapFields->fN,isFreed_of_fields->iO,cls_mapFields->ly
open PySem.AutoSeq1 renaming wpAny_loadPart'->dW,sub_tuple_tuple->d3,wpAny_loadPart'->gQ,idx_int->lS
open PySem.F renaming plainAttrs_list->eg,slot_tuple_iterator_next->eV,args_tuple_add_2->gO,entry_tuple_add->hU,slot_tuple_add->iu,typeOf_object_class->iQ,slot_int_rmul->kn,args_tuple_iterator_next_1->kr,slot_zip_next->kt,slot_dict_keyiterator_next->kz,entry_tuple_iterator_next->kK,args_tuple_mul_2->kU,entry_tuple_mul->lv,slot_list_append->lF,type_list_append->lG,slot_tuple_mul->lT,slot_list_index->l4,type_list_index->l6,plain_reversed_new->mY,args_int_rmul_2->oz,args_zip_next_1->oB,args_tuple_lt_2->oF,entry_int_rmul->o4,entry_zip_next->o8,entry_tuple_lt->pz,slot_dict_iter->pB,fills_int_mul->pP,slot_tuple_lt->pU
open Int renaming toNat_natCast->ei,emod_eq_of_lt->fv,emod_lt_of_pos->fR,emod_nonneg->gX,toNat_of_nonneg->kF,natCast_add->mB,zero_add->oM
open True renaming intro->eB
open Or renaming inr->eC,inl->fX
open Sum renaming inl->eI,inr->m7
open PySem.Builtin.Slice renaming slicePlaces->eZ,sliceAdjust->gH
open PySem.Builtin.SmallTypes renaming nextOf->fb
open PySem.Heap.SameBut renaming update->fE
open PySem.Builtin.List renaming listTooLong->gP
open PySem.Builtin.Tuple renaming tupleCompareSizes->iN,tupleItemsOf->kP,tupleTooMany->kT
open PySem.SeqAt renaming EqAt->iS
open PySem.Around renaming under_plainId->kj,frames_deeper->mS
open PySem.SeqAt.EqAt renaming same->km,of_refs->kW,bool_bool->lh,int_str->nI,str_int->nJ,int_int->nV
open ForInStep renaming yield->ko
open Lean.Grind renaming CommRing->kD
open Break renaming runK->kZ
open PySem.SeqAt.RcAt renaming tuples->lw,lists_lengths->lE,lists->o6
open LawfulBEq renaming eq_of_beq->lQ
open PyProof.Rows.IsTup renaming new->lR
open PySem.Builtin.Dict renaming showsAll->mL
open PySem.Builtin.Int renaming intBits->nq
open ForIn renaming forIn->nB
open PySem.P renaming truthy_int->nO
open PySem.PassesOwn renaming leaving->oI
open Classical renaming not_not->oJ
open PySem.IsRange renaming new->pF
open PyProof.Rows.SortSt renaming mk'->rC
open PySem.Value.type renaming inj->rV
open Min renaming min->rX
open PySem.Code renaming compLoop->rZ
namespace L2
open PySem PySem.Spec PyProof.Rows
abbrev Key:=Sum Int bi
noncomputable def Jg:Key->au->Bool
 |.inl k,v=>au.isInt k v
 |.inr x,v=>rY x v
noncomputable def Zgx(w:bS):Key->Int
 |.inl k=>hashInt k
 |.inr x=>hashStr w x
def ZY:∀{k:Key}{v:au},Jg k v=ak->(∃i t,k=eI i/\v=lN i t)\/(∃x t,k=m7 x/\v=au.str x t)
 |.inl i,v,h=>by
  obtain⟨t,e⟩:=au.isInt_shape h;exact .inl #[i,t,rfl,e]
 |.inr x,v,h=>by
  obtain⟨t,e⟩:=au.isStrOf_shape h;exact .inr #[x,t,rfl,e]
def qb(i:Int)(t:rW):Jg (.inl i) (.int i t)=ak:=by simp[Jg,au.isInt]
def uK(x:bi)(t:rW):Jg (.inr x) (.str x t)=ak:=by simp[Jg,rY]
def Zfe(a b:Int):ag ((eI a:Key)=eI b)=(a == b):=by
 by_cases e:a=b
 .subst e;simp
 .have h:¬(eI a:Key)=eI b:=λq=>e (eI.inj q)
  rw[T4 h];exact(beq_eq_false_iff_ne.mpr e).symm
def Zeo(a b:bi):ag ((m7 a:Key)=m7 b)=ag (a=b):=by
 by_cases e:a=b
 .subst e;simp
 .have h:¬(m7 a:Key)=m7 b:=λq=>e (m7.inj q)
  rw[T4 h,T4 e]
def Zfs(a:Int)(b:bi):ag ((eI a:Key)=m7 b)=al:=T4 (λq=>nomatch q)
def Zfl(a:bi)(b:Int):ag ((m7 a:Key)=eI b)=al:=T4 (λq=>nomatch q)
def Z3(prog:bB)(w:bS):PySem.KeyKind prog w Key where
 is:=Jg
 hash:=Zgx w
 inj:=λv a b ha hb=>by
  rcases ZY ha with⟨i,t,rfl,rfl⟩|⟨x,t,rfl,rfl⟩
  .rcases ZY hb with⟨j,u,rfl,e⟩|⟨y,u,rfl,e⟩
   .injection e with e1 _;rw[e1]
   .exact nomatch e
  .rcases ZY hb with⟨j,u,rfl,e⟩|⟨y,u,rfl,e⟩
   .exact nomatch e
   .injection e with e1 _;rw[e1]
 byValue:=λk v h=>by
  rcases ZY h with⟨i,t,rfl,rfl⟩|⟨x,t,rfl,rfl⟩<;>rfl
 pyHash:=λhv h=>by
  rcases ZY hv with⟨i,t,rfl,rfl⟩|⟨x,t,rfl,rfl⟩
  .exact wpAny_pyHash_int h
  .exact wpAny_pyHash_str h
 eqBool:=λhu hv h=>by
  rcases ZY hu with⟨i,t,rfl,rfl⟩|⟨x,t,rfl,rfl⟩
  .rcases ZY hv with⟨j,u,rfl,rfl⟩|⟨y,u,rfl,rfl⟩
   .rw[Zfe]at h;exact lO h
   .rw[Zfs]at h;exact nI i t y u _ _ _ _ h
  .rcases ZY hv with⟨j,u,rfl,rfl⟩|⟨y,u,rfl,rfl⟩
   .rw[Zfl]at h;exact nJ x t j u _ _ _ _ h
   .rw[Zeo]at h;exact wpAny_eqBool_str h
 «strs»:=λk x t v h=>by
  rcases ZY h with⟨i,u,rfl,e⟩|⟨y,u,rfl,e⟩
  .exact nomatch e
  .injection e with e1 _
   subst e1;cases v<;>rfl
def yS(prog:bB)(w:bS)(i:Int)(t:rW):(Z3 prog w).is (.inl i) (.int i t)=ak:=qb i t
def zq(prog:bB)(w:bS)(x:bi)(t:rW):(Z3 prog w).is (.inr x) (.str x t)=ak:=uK x t
inductive V where
 |non|bl (b:Bool)|int (i:Int)|str (x:bi)|ref (a:aE)|ty (n:String)
 deriving DecidableEq
def Zz:V->au->Prop
 |.non,u=>u=bz
 |.bl b,u=>u=bN b
 |.int i,u=>∃t,u=lN i t
 |.str x,u=>∃t,u=au.str x t
 |.ref a,u=>u=de a
 |.ty n,u=>u=au.type n
abbrev Vals:List V->List au->Prop:=Paired Zz
theorem Vals.length{xs:List V}{us:List au}(r:Vals xs us):xs.length=us.length:=Paired.length r
theorem Vals.get:∀{xs:List V}{us:List au}{i:Nat}{x:V},Vals xs us->xs[i]?=aa x->∃u,us[i]?=aa u/\Zz x u
 |_,_,_,_,.nil,e=>by simp at e
 |_,_,0,_,.cons r _,e=>by simp at e;subst e;exact#[_,rfl,r]
 |_,_,i+1,x,.cons _ t,e=>by
  obtain⟨u,h1,h2⟩:=Vals.get t (by simpa using e)
  exact#[u,by simpa using h1,h2]
theorem Vals.set(r:Zz x u):∀{xs:List V}{us:List au}(i:Nat),Vals xs us->Vals (xs.set i x) (us.set i u)
 |_,_,_,.nil=>.nil
 |_,_,0,.cons _ t=>.cons r t
 |_,_,i+1,.cons q t=>.cons q<|Vals.set r i t
theorem Vals.append:∀{xs ys:List V}{us ws:List au},Vals xs us->Vals ys ws->Vals (xs++ys) (us++ws)
 |_,_,_,_,.nil,s=>s
 |_,_,_,_,.cons r t,s=>.cons r<|Vals.append t s
theorem Vals.take:∀{xs:List V}{us:List au}(n:Nat),Vals xs us->Vals (xs.take n) (us.take n)
 |_,_,0,_=>.nil
 |_,_,_+1,.nil=>.nil
 |_,_,n+1,.cons r t=>.cons r<|Vals.take n t
theorem Vals.drop:∀{xs:List V}{us:List au}(n:Nat),Vals xs us->Vals (xs.drop n) (us.drop n)
 |_,_,0,r=>r
 |_,_,_+1,.nil=>.nil
 |_,_,n+1,.cons _ t=>Vals.drop n t
def Zb8:Option V->Option au->Prop
 |some v,aa u=>Zz v u
 |none,af=>True
 |_,_=>False
def KV{κ:Type}:List (κ×V)->List (κ×au)->Prop:=Paired λ(p:κ×V) (q:κ×au)=>p.1=q.1/\Zz p.2 q.2
noncomputable def kV:Key->V
 |.inl i=>.int i
 |.inr x=>.str x
inductive HO where
 |lst (xs:List V)
 |tup (xs:List V)
 |dK (kvs:List (Key×V))|dT (kvs:List (List Key×V))
 |own (x:aE)
 |frz (o:fD) (u:HO)
 |tbl (ps:Array au)
abbrev Hp:=aE->Option HO
noncomputable def upd(H:Hp)(a:aE)(o:HO):Hp:=λb=>if b=a then aa o else H b
def Zn :upd H a o a=aa o:=by unfold upd;rw[T9 rfl]
def Zj(h:b≠a):upd H a o b=H b:=by unfold upd;rw[T8 h]
def ZQ{H:Hp}{a b:aE}{o:HO}(h:H a=aa o)(h':H b=af):a≠b:=by
 intro e;subst e;rw[h]at h';cases h'
section
variable(P:bB)(w:bS)
def Yl(H:Hp)(h:cw)(a:aE):HO->Prop
 |.lst xs=>xs.length<=bn/\∃(its:List au)(n:Nat),Vals xs its/\h.get? a=aa {cls:=.type "list",data:=.seq its.toArray n}
 |.tup xs=>xs.length<=bn/\∃its:List au,Vals xs its/\pE h a its.toArray
 |.dK kvs=>kvs.length<=bn/\(a == fK)=al/\∃vs,KV kvs vs/\h.DictOf (Z3 P w) a vs
 |.dT kvs=>kvs.length<=bn/\(a == fK)=al/\∃xs:List (List Key×aE×au),
   Paired (λ(p:List Key×V) (q:List Key×aE×au)=>p.1=q.1/\H q.2.1=aa (.tup<|p.1.map kV)/\Zz p.2 q.2.2) kvs xs/\
   ∃o es ep,h.get? a=aa o/\o.ExactDict/\o.data=.dict es ep/\es.toList=xs.map (entryOfKey<|eN<|Z3 P w)/\(xs.map (·.1)).Nodup
 |.own _=>∃o,h.get? a=aa o
 |.frz o u=>h.get? a=aa o/\Yl H h a u
 |.tbl ps=>h.get? a=aa {cls:=.none,data:=.fields ps}
def HOk(H:Hp)(h:cw):Prop:=∀a o,H a=aa o->Yl P w H h a o
end
theorem Yl.lt(x:Yl P w H h a o):a<h.objs.size:=by
 cases o with|lst xs=>obtain⟨_,_,_,_,e⟩:=x;exact aT e|tup xs=>obtain⟨_,_,_,p⟩:=x;exact p.lt|dK kvs=>obtain⟨_,_,_,_,o,_,_,e,_⟩:=x;exact aT e|dT kvs=>obtain⟨_,_,_,_,o,_,_,e,_⟩:=x;exact aT e|own y=>obtain⟨_,e⟩:=x;exact aT e|frz ob u=>obtain⟨e,_⟩:=x;exact aT e|tbl ps=>exact aT (x)
theorem Paired.mapP{B β:Type}{F G:B->β->Prop}:∀{l₁:List B}{l₂:List β},Paired F l₁ l₂->(∀a b,F a b->G a b)->Paired G l₁ l₂
 |_,_,.nil,_=>.nil
 |_,_,.cons r t,f=>.cons (f _ _ r)<|Paired.mapP t f
def Yl.stay(x:Yl P w H h a o)(k:∀b u,(b=a\/H b=aa (.own a))->h.get? b=aa u->h'.get? b=aa u)
  (ho:∀b,H b=aa (.own a)->H' b=aa (.own a))(ht:∀b xs,H b=aa (.tup xs)->H' b=aa (.tup xs)):Yl P w H' h' a o:=by
 induction o with
 |lst xs=>obtain⟨z,its,n,r,e⟩:=x;exact#[z,its,n,r,k _ _ (.inl rfl) e]
 |tup xs=>obtain⟨z,its,r,ob,e,c⟩:=x;exact#[z,its,r,ob,k _ _ (.inl rfl) e,c]
 |dK kvs=>obtain⟨z,y,vs,r,ob,es,ep,e,c⟩:=x;exact#[z,y,vs,r,ob,es,ep,k _ _ (.inl rfl) e,c]
 |dT kvs=>
  obtain⟨z,y,xs,r,ob,es,ep,e,c⟩:=x;exact#[z,y,xs,Paired.mapP r λp q z=>#[z.1,ht _ _ z.2.1,z.2.2],ob,es,ep,k _ _ (.inl rfl) e,c]
 |own y=>obtain⟨ob,e⟩:=x;exact#[ob,k _ _ (.inl rfl) e]
 |frz ob u ih=>obtain⟨e,q⟩:=x;exact#[k _ _ (.inl rfl) e,ih q]
 |tbl ps=>
  have e:=x;exact k a _ (.inl rfl) e
theorem HOk.lt(x:HOk P w H h)(e:H a=aa o):a<h.objs.size:=(x a o e).lt
def HOk.fresh(x:HOk P w H h)(e:h.objs.size<=a):H a=af:=by
 cases q:H a with|none=>rfl|some u=>exact T7 (bt (x.lt q) e)<|bK _
def HOk.kept(x:HOk P w H h)(k:∀b u,h.get? b=aa u->h'.get? b=aa u):HOk P w H h':=λa o e=>
 (x a o e).stay (λb u _ q=>k b u q) (λ_ q=>q) λ_ _ q=>q
def HOk.laid(x:HOk P w H h)(k:∀b u,h.get? b=aa u->h'.get? b=aa u)(hp:h.objs.size<=a)(new:Yl P w (upd H a o) h' a o):HOk P w (upd H a o) h':=λb u e=>by
 have hn:=x.fresh hp;by_cases hb:b=a
 .subst hb;rw[Zn]at e;cases e;exact new
 .rw[Zj hb]at e
  exact(x b u e).stay (λc v _ q=>k c v q) (λc q=>by rw[Zj<|ZQ q hn];exact q) λc xs q=>by rw[Zj<|ZQ q hn];exact q
def Rd(H:Hp)(a:aE)(u:HO):Prop:=H a=aa u\/∃o,H a=aa (.frz o u)
def Rd.ok(r:Rd H a u)(x:HOk P w H h):Yl P w H h a u:=by
 rcases r with r|⟨o,r⟩
 .exact x a u r
 .obtain⟨_,q⟩:=x a _ r
  exact q
def Mut:Option HO->Prop
 |some (.lst _)=>True
 |some (.dK _)=>True
 |some (.dT _)=>True
 |_=>False
def HOk.write(ok:HOk P w H h)(mu:Mut (H x))(he:e=x\/H e=aa (.own x))(k:∀b u,b≠e->h.get? b=aa u->h'.get? b=aa u)(heo:∃u,h'.get? e=aa u)
  (new:Yl P w (upd H x o') h' x o'):HOk P w (upd H x o') h':=λb u q=>by
 have nown:∀c y,H c=aa (.own y)->c≠x:=λc y r z=>by subst z;rw[r]at mu;exact mu
 have ntup:∀c xs,H c=aa (.tup xs)->c≠x:=λc xs r z=>by subst z;rw[r]at mu;exact mu
 by_cases hb:b=x
 .subst hb;rw[Zn]at q;cases q;exact new
 .rw[Zj hb]at q
  by_cases hbe:b=e
  .have q':H b=aa (.own x):=by
    rcases he with z|z
    .exact T7 (hbe.trans z) hb
    .rw[hbe];exact z
   rw[q]at q';cases q';obtain⟨v,hv⟩:=heo;exact#[v,by rw[hbe];exact hv]
  .refine(ok b u q).stay (λc v hc r=>k c v ?_ r) (λc r=>by rw[Zj<|nown c b r];exact r) λc xs r=>by rw[Zj<|ntup c xs r];exact r
   rcases hc with rfl|hc
   .exact hbe
   .rintro rfl
    rcases he with z|z
    .exact nown c b hc z
    .rw[hc]at z;cases z;exact hb rfl
structure Un(fs ex:List aE)(H H':Hp)(h h':cw):Prop where
 keep:∀b o,h.get? b=aa o->H b=af->b∉fs->b∉ex->h'.get? b=aa o
 slot:∀b o,h.get? b=aa o->H b=af->b∈fs->b∉ex->∃sl,h'.get? b=aa {o with slots:=sl}
 free:∀b o,h.get? b=aa o->H b=af->b∉ex->H' b=af
 there:∀b o,h.get? b=aa o->b∉ex->∃o',h'.get? b=aa o'
 tups:∀b xs,H b=aa (.tup xs)->H' b=aa (.tup xs)
 frzs:∀b o u,H b=aa (.frz o u)->H' b=aa (.frz o u)
 tbls:∀b ps,H b=aa (.tbl ps)->∃more,H' b=aa (.tbl<|ps++more)
def Un.any(u:Un fs ex H H1 h h1)(q:h.get? b=aa ob)(n:H b=af)(hx:b∉ex):∃sl,h1.get? b=aa {ob with slots:=sl}:=by
 by_cases hb:b∈fs
 .exact u.slot b ob q n hb hx
 .exact#[ob.slots,u.keep b ob q n hb hx]
def Un.kept(k:∀b u,h.get? b=aa u->h'.get? b=aa u):Un fs ex H H h h':=
 #[λb ob q _ _ _=>k b ob q,λb ob q _ _ _=>#[ob.slots,k b ob q],λ_ _ _ n _=>n,λb ob q _=>#[ob,k b ob q],λ_ _ q=>q,λ_ _ _ q=>q,λ_ ps q=>#[#[],by rw[q];simp]]
def Un.refl:Un fs ex H H h h:=Un.kept λ_ _ q=>q
def Un.laid(k:∀b u,h.get? b=aa u->h'.get? b=aa u)(hp:h.objs.size<=a)(hn:H a=af):Un fs ex H (upd H a o) h h' where
 keep:=λb u q _ _ _=>k b u q
 slot:=λb u q _ _ _=>#[u.slots,k b u q]
 free:=λb u q n _=>by rw[Zj<|bp<|bt (aT q) hp];exact n
 there:=λb u q _=>#[u,k b u q]
 tups:=λb xs q=>by rw[Zj<|ZQ q hn];exact q
 frzs:=λb u xs q=>by rw[Zj<|ZQ q hn];exact q
 tbls:=λb ps q=>#[#[],by rw[Zj<|ZQ q hn,q];simp]
def Un.write(mu:Mut (H x))(he:e=x\/H e=aa (.own x))(k:∀b u,b≠e->h.get? b=aa u->h'.get? b=aa u)(heo:∃u,h'.get? e=aa u):Un fs ex H (upd H x o) h h':=by
 have hx:∀b,H b=af->b≠x:=λb n z=>by subst z;rw[n]at mu;exact mu
 have hb:∀b,H b=af->b≠e:=λb n z=>by
  subst z;rcases he with r|r
  .exact hx b n r
  .rw[n]at r;cases r
 have hm:∀b u,H b=aa u->¬Mut (aa u)->b≠x:=λb u q nm z=>by subst z;rw[q]at mu;exact nm mu
 refine#[λb u q n _ _=>k b u (hb b n) q,λb u q n _ _=>#[u.slots,k b u (hb b n) q],λb u q n _=>by rw[Zj<|hx b n];exact n,λb u q _=>?_,
  λb xs q=>by rw[Zj<|hm b _ q λz=>z];exact q,λb u xs q=>by rw[Zj<|hm b _ q λz=>z];exact q,λb ps q=>#[#[],by rw[Zj<|hm b _ q λz=>z,q];simp]]
 by_cases hbe:b=e
 .subst hbe;exact heo
 .exact#[u,k b u hbe q]
noncomputable def trk(h:cw)(H:Hp):List aE:=(aP h.objs.size).filter λa=>(H a).isSome
def QS(h:cw)(H:Hp):cw:=fc h<|trk h H
def qd(h:cw)(H:Hp):(QS h H).objs.size=h.objs.size:=PySem.W.hideAll_size _ _
def Zbd(e:h.get? b=aa o)(n:H b=af):(QS h H).get? b=aa o:=
 gN _ e λhm=>by
  have q:=(cX.mp hm).2;rw[n]at q;simp at q
def Zde(e:(QS h H).get? b=aa o):h.get? b=aa o/\H b=af:=by
 have e':=gY (trk h H) e;refine#[e',?_];cases q:H b with
 |none=>rfl
 |some x=>
  have hm:b∈trk h H:=cX.mpr #[bh.mpr<|aT e',by simp[q]]
  have z:(QS h H).get? b=af:=da (trk h H) hm;rw[z]at e;cases e
structure Mod(K:am)(mg:bi->Option au)(base:cw):Prop where
 kin:K.In base
 glob:base.Ns bG mg
 blt:∃mb,base.Ns rc mb/\∀x:bi,x≠"__name__"->mb x=dg x
 nolimit:base.NoLimit
structure Cx where
 prog:bB
 w:bS
 K:am
 mg:bi->Option au
 base:cw
 A:cx
 N:List bi
 s₀:ay
 H₀:Hp
 env:Env
 outer:List Env
 stack:List Env
 ex:List aE
 fn:bi->Bool
 calm:Bool
 pn:List (aE×fD)
 xe:au->ay->Prop
noncomputable def frs(l:List Env):List aE:=l.filterMap (·.frame)
abbrev Cx.fs(X:Cx):List aE:=frs X.outer
def Vis(sc:d6)(x:bi):Prop:=sc.names.lookup x=aa .local\/sc.names.lookup x=aa .cell\/sc.names.lookup x=aa .free
def Loc(sc:d6)(x:bi):Prop:=sc.names.lookup x=aa .local\/sc.names.lookup x=aa .cell
def Look(env:Env)(h:cw)(m:bi->Option au)(x:bi)(u:au):Prop:=
 (env.kindOf x=aa .local/\m x=aa u)\/((env.kindOf x=aa .cell\/env.kindOf x=aa .free)/\∃c,env.cells.lookup x=aa c/\h.IsCell c (aa u))
structure Cx.Ok(X:Cx):Prop where
 mod:Mod X.K X.mg X.base
 kind:X.env.scope.kind=.function
 glob:X.env.globals=bG
 blt:X.env.builtins=rc
 above:X.s₀.heap.objs.size<=X.env.locals
 inj:∀x y c,X.env.cells.lookup x=aa c->X.env.cells.lookup y=aa c->x=y
 has:∀x,(X.env.kindOf x=aa .cell\/X.env.kindOf x=aa .free)->∃c,X.env.cells.lookup x=aa c
 cab:∀x c,X.fn x=ak->X.env.cells.lookup x=aa c->X.s₀.heap.objs.size<=c
 hd:X.calm=ak->X.A.handled=af
 frames:X.A.frames=aa X.stack
 stk:X.stack=X.outer\/(X.stack=X.env::X.outer/\X.env.frame=aa X.env.locals)
 exf:∀b∈X.ex,b≠X.env.locals/\∀x c,X.env.cells.lookup x=aa c->c≠b
 bs:∀b o,X.base.get? b=aa o->X.s₀.heap.get? b=aa o/\X.H₀ b=af
 bsz:X.base.objs.size<=X.s₀.heap.objs.size
 noex:∀b o,X.base.get? b=aa o->b∉X.ex
 exfs:∀b∈X.ex,b∉X.fs
 funs:X.s₀.heap.FunFrames X.base X.outer
 frf:∀b∈X.fs,X.H₀ b=af
structure Inv(X:Cx)(pq:List (aE×fD))(Z:List (Option V))(H:Hp)(s:ay):Prop where
 ok:X.Ok
 os:s.os=X.s₀.os
 bare:i4 s.gens
 base:Un X.fs X.ex X.H₀ H X.s₀.heap s.heap
 loc:∃m,s.heap.Ns X.env.locals m/\∀(i:Nat)(x:bi)(v:V),X.N[i]?=aa x->Z[i]?=aa (aa v)->Vis X.env.scope x->∃u,Zz v u/\Look X.env s.heap m x u
 cell:∀x c,X.env.cells.lookup x=aa c->∃v,s.heap.IsCell c v
 free:H X.env.locals=af
 freeC:∀x c,X.env.cells.lookup x=aa c->H c=af
 pin:∀p∈X.pn++pq,s.heap.get? p.1=aa p.2/\H p.1=af/\p.1≠X.env.locals/\p.1∉X.fs/\∀v,p.2.data≠.cell v
 hok:HOk X.prog X.w H s.heap
 len:Z.length=X.N.length
section
variable{X:Cx}{pq:List (aE×fD)}{Z:List (Option V)}{H H':Hp}{s:ay}{h':cw}
def Cx.Ok.nofr(ok:X.Ok)(e:X.base.get? b=aa o):b∉X.fs:=λhb=>by
 have:=(ok.funs.mem hb).1;rw[e]at this;cases this
theorem Inv.bs(I:Inv X pq Z H s):∀b o,X.base.get? b=aa o->s.heap.get? b=aa o/\H b=af:=λb o e=>
 #[I.base.keep b o (I.ok.bs b o e).1 (I.ok.bs b o e).2 (I.ok.nofr e)<|I.ok.noex b o e,I.base.free b o (I.ok.bs b o e).1 (I.ok.bs b o e).2<|I.ok.noex b o e]
def Inv.bk(I:Inv X pq Z H s):∀b o,X.base.get? b=aa o->s.heap.get? b=aa o:=λb o e=>(I.bs b o e).1
theorem Inv.mod(I:Inv X pq Z H s):Mod X.K X.mg X.base:=I.ok.mod
def Inv.kIn(I:Inv X pq Z H s):X.K.In s.heap:=I.ok.mod.kin.keeps I.bk
theorem Inv.lt(I:Inv X pq Z H s):X.env.locals<s.heap.objs.size:=let #[_,hn,_]:=I.loc;hn.lt
def Inv.sz(I:Inv X pq Z H s):X.s₀.heap.objs.size<=s.heap.objs.size:=bX I.ok.above<|kG I.lt
def Inv.nofs(I:Inv X pq Z H s)(h:s.heap.objs.size<=a):a∉X.fs:=λhb=>by
 obtain⟨_,o,ho,_⟩:=I.ok.funs.mem hb;exact T7 (bt (aT ho)<|bX I.sz h)<|bK _
def Inv.cne(I:Inv X pq Z H s):∀x c,X.env.cells.lookup x=aa c->c≠X.env.locals:=λx c e z=>by
 obtain⟨v,o,ho,hd⟩:=I.cell x c e;obtain⟨m,⟨o',es,ep,ho',hd',_⟩,_⟩:=I.loc;rw[z,ho']at ho;cases ho;rw[hd']at hd;cases hd
theorem Inv.funs(I:Inv X pq Z H s):s.heap.FunFrames X.base X.outer:=by
 have all:∀(l:List Env),(∀b∈frs l,b∈X.fs)->X.s₀.heap.FunFrames X.base l->s.heap.FunFrames X.base l:=by
  intro l
  induction l with
  |nil=>intro _ _;trivial
  |cons env r ih=>
   intro hs hl;obtain⟨hk,⟨L,o,hf,hn,ho,hd⟩,hr⟩:=hl;have hL:=hs L (by unfold frs;rw[cC,hf];exact aj)
   obtain⟨sl,e⟩:=I.base.slot L o ho (I.ok.frf L hL) hL λz=>I.ok.exfs L z hL
   exact#[hk,#[L,_,hf,hn,e,hd],ih (λb hb=>hs b<|by unfold frs;rw[cC,hf];exact ao _ hb) hr]
 exact all X.outer (λ_ hb=>hb) I.ok.funs
theorem Inv.stack(I:Inv X pq Z H s):s.heap.FunFrames X.base X.stack:=by
 rcases I.ok.stk with e|⟨e,hf⟩
 .rw[e];exact I.funs
 .rw[e]
  obtain⟨m,hn,_⟩:=I.loc;refine .cons (by rw[I.ok.kind];decide) hf hn ?_ I.funs
  exact cw.get?_none_of_le<|bX I.ok.bsz I.ok.above
def Inv.stkSub(I:Inv X pq Z H s):∀b∈frs X.stack,b∈X.env.locals::X.fs:=λb hb=>by
 rcases I.ok.stk with e|⟨e,hf⟩
 .rw[e]at hb;exact ao _ hb
 .rw[e]at hb
  unfold frs at hb;rw[cC,hf]at hb;exact hb
def Inv.stkFree(I:Inv X pq Z H s):∀b∈frs X.stack,H b=af:=λb hb=>by
 rcases aB.mp (I.stkSub b hb)with e|hb
 .rw[e];exact I.free
 .obtain⟨_,o,ho,_⟩:=I.ok.funs.mem hb
  exact I.base.free b o ho (I.ok.frf b hb) λz=>I.ok.exfs b z hb
def Inv.step{g':Array rd}{t':Nat}{d':Drawn}{ch:List aE}(I:Inv X pq Z H s)
  (hch:∀b∈ch,(b∈X.ex\/X.s₀.heap.objs.size<=b)/\b≠X.env.locals/\(∀x c,X.env.cells.lookup x=aa c->c≠b)/\∀p∈X.pn++pq,p.1≠b)
  (keep:∀b o,b≠X.env.locals->b∉X.fs->b∉ch->s.heap.get? b=aa o->H b=af->h'.get? b=aa o)
  (slot:∀b o,b≠X.env.locals->b∈X.fs->b∉ch->s.heap.get? b=aa o->H b=af->∃sl,h'.get? b=aa {o with slots:=sl})(free:∀b o,b∉ch->s.heap.get? b=aa o->H b=af->H' b=af)
  (there:∀b o,b∉ch->s.heap.get? b=aa o->∃o',h'.get? b=aa o')
  (tups:∀b xs,H b=aa (.tup xs)->H' b=aa (.tup xs))(frzs:∀b o u,H b=aa (.frz o u)->H' b=aa (.frz o u))(tbls:∀b ps,H b=aa (.tbl ps)->∃more,H' b=aa (.tbl<|ps++more))
  (ns:∀m,s.heap.Ns X.env.locals m->h'.Ns X.env.locals m)(hok:HOk X.prog X.w H' h')(hg:i4 g') :
  Inv X pq Z H' {s with heap:=h',gens:=g',drawn:=d',toks:=t' }:=by
 have neL:∀b o,X.s₀.heap.get? b=aa o->b≠X.env.locals:=λb o e=>bp<|bt (aT e) I.ok.above
 have neC:∀b o,X.s₀.heap.get? b=aa o->b∉X.ex->b∉ch:=λb o e hx hb=>by
  rcases(hch b hb).1 with z|z
  .exact hx z
  .exact T7 (bt (aT e) z)<|bK _
 have cellK:∀x c,X.env.cells.lookup x=aa c->∀v,s.heap.IsCell c v->h'.IsCell c v:=by
  rintro x c e v ⟨o,ho,hd⟩;have nch:=λz=>(hch c z).2.2.1 x c e rfl
  by_cases hc:c∈X.fs
  .obtain⟨sl,q⟩:=slot c o (I.cne x c e) hc nch ho (I.freeC x c e)
   exact#[_,q,hd]
  .exact#[o,keep c o (I.cne x c e) hc nch ho<|I.freeC x c e,hd]
 refine#[I.ok,I.os,hg,#[λb o e n hb hx=>?_,λb o e n hb hx=>?_,λb o e n hx=>?_,λb o e hx=>?_,λb xs e=>tups b xs<|I.base.tups b xs e,λb o xs e=>frzs b o xs<|I.base.frzs b o xs e,λb ps e=>?_],?_,λx c e=>?_,?_,λx c e=>?_,λp hp=>?_,hok,I.len]
 .exact keep b o (neL b o e) hb (neC b o e hx) (I.base.keep b o e n hb hx)<|I.base.free b o e n hx
 .obtain⟨sl,e1⟩:=I.base.slot b o e n hb hx
  obtain⟨sl',e2⟩:=slot b _ (neL b o e) hb (neC b o e hx) e1<|I.base.free b o e n hx;exact#[sl',e2]
 .obtain⟨o',e1⟩:=I.base.there b o e hx
  exact free b o' (neC b o e hx) e1<|I.base.free b o e n hx
 .obtain⟨o',e1⟩:=I.base.there b o e hx
  exact there b o' (neC b o e hx) e1
 .obtain⟨m1,e1⟩:=I.base.tbls b ps e
  obtain⟨m2,e2⟩:=tbls b _ e1;exact#[m1++m2,by rw[e2,nK]]
 .obtain⟨m,hn,hl⟩:=I.loc
  refine#[m,ns m hn,λi x v e1 e2 e3=>?_]
  obtain⟨u,r,l⟩:=hl i x v e1 e2 e3;refine#[u,r,?_];rcases l with l|⟨k,c,e,z⟩
  .exact .inl l
  .exact .inr #[k,c,e,cellK x c e _ z]
 .obtain⟨v,z⟩:=I.cell x c e
  exact#[v,cellK x c e v z]
 .obtain⟨m,⟨o,_,_,ho,_⟩,_⟩:=I.loc
  exact free _ o (λz=>(hch _ z).2.1 rfl) ho I.free
 .obtain⟨v,o,ho,hd⟩:=I.cell x c e
  exact free c o (λz=>(hch c z).2.2.1 x c e rfl) ho<|I.freeC x c e
 .obtain⟨e,n,ne,nf,d⟩:=I.pin p hp
  have nch:=λz=>(hch p.1 z).2.2.2 p hp rfl
  exact#[keep p.1 p.2 ne nf nch e n,free p.1 p.2 nch e n,ne,nf,d]
def Inv.un{t':Nat}(I:Inv X pq Z H s)(u:Un X.fs [] H H' s.heap h')(hok:HOk X.prog X.w H' h'):Inv X pq Z H' {s with heap:=h',toks:=t' }:=by
 obtain⟨m,⟨o,es,ep,ho,r⟩,_⟩:=id I.loc;obtain⟨sl,hL⟩:=u.any ho I.free (by simp)
 exact I.step (g':=s.gens) (d':=s.drawn) (ch:=[]) (λ_ z=>nomatch z) (λb o _ hb _ e n=>u.keep b o e n hb<|by simp) (λb o _ hb _ e n=>u.slot b o e n hb<|by simp) (λb o _ e n=>u.free b o e n<|by simp) (λb o _ e=>u.there b o e<|by simp) u.tups u.frzs u.tbls (λm' hm=>by
  obtain⟨o',es',ep',ho',r'⟩:=hm;rw[ho]at ho';cases ho';exact#[_,es',ep',hL,r']) hok I.bare
def Inv.call{g':Array rd}{t':Nat}{d':Drawn}{ch:List aE}(I:Inv X pq Z H s)(u:Un (frs X.stack) ch H H' s.heap h')(hok:HOk X.prog X.w H' h')(hg:i4 g')
  (hch:∀b∈ch,(b∈X.ex\/X.s₀.heap.objs.size<=b)/\b≠X.env.locals/\(∀x c,X.env.cells.lookup x=aa c->c≠b)/\∀p∈X.pn++pq,p.1≠b) :
  Inv X pq Z H' {s with heap:=h',gens:=g',drawn:=d',toks:=t' }:=by
 obtain⟨m,⟨o,es,ep,ho,r⟩,_⟩:=id I.loc;obtain⟨sl,hL⟩:=u.any ho I.free λz=>(hch _ z).2.1 rfl
 exact I.step hch (λb o hL hb hc e n=>u.keep b o e n (λz=>(aB.mp<|I.stkSub b z).elim hL hb) hc) (λb o _ _ hc e n=>u.any e n hc) (λb o hc e n=>u.free b o e n hc) (λb o hc e=>u.there b o e hc) u.tups u.frzs u.tbls (λm' hm=>by
  obtain⟨o',es',ep',ho',r'⟩:=hm;rw[ho]at ho';cases ho';exact#[_,es',ep',hL,r']) hok hg
def Inv.turned{t':Nat}{it:aE}(I:Inv X pq Z H s)(k:∀b o,b≠it->s.heap.get? b=aa o->h'.get? b=aa o)(hn:H it=af)(hL:it≠X.env.locals)
  (h1:it∈X.ex\/X.s₀.heap.objs.size<=it)(h2:∀x c,X.env.cells.lookup x=aa c->c≠it)(h3:∀p∈X.pn++pq,p.1≠it):Inv X pq Z H {s with heap:=h',toks:=t' }:=by
 have nit:∀b u,H b=aa u->b≠it:=λb u e z=>by rw[z,hn]at e;cases e
 refine I.step (g':=s.gens) (d':=s.drawn) (ch:=[it]) (λb hb=>?_) (λb o _ _ hc e _=>k b o (λz=>hc<|by simp[z]) e) (λb o _ _ hc e _=>#[o.slots,k b o (λz=>hc<|by simp[z]) e]) (λ_ _ _ _ n=>n)
  (λb o hc e=>#[o,k b o (λz=>hc<|by simp[z]) e]) (λ_ _ e=>e) (λ_ _ _ e=>e) (λb ps e=>#[#[],by rw[e];simp]) (λm hm=>?_) (λb u e=>?_) I.bare
 .have e:b=it:=by simpa using hb
  subst e;exact#[h1,hL,h2,h3]
 .obtain⟨o,es,ep,ho,r⟩:=hm
  exact#[o,es,ep,k _ o (Ne.symm hL) ho,r]
 .refine(I.hok b u e).stay (λc v hc q=>k c v ?_ q) (λ_ q=>q) λ_ _ q=>q
  rcases hc with z|z
  .rw[z];exact nit b u e
  .exact nit c _ z
def Inv.tok(I:Inv X pq Z H s)(t:Nat):Inv X pq Z H {s with toks:=t}:=I.un (h':=s.heap) (t':=t) Un.refl I.hok
theorem Inv.kept(I:Inv X pq Z H s)(k:∀b u,s.heap.get? b=aa u->h'.get? b=aa u):Inv X pq Z H {s with heap:=h',toks:=t' }:=I.un (Un.kept k)<|I.hok.kept k
theorem Inv.laid(I:Inv X pq Z H s)(k:∀b u,s.heap.get? b=aa u->h'.get? b=aa u)(hp:s.heap.objs.size<=a)(new:Yl X.prog X.w (upd H a o) h' a o) :
  Inv X pq Z (upd H a o) {s with heap:=h',toks:=t' }:=I.un (Un.laid k hp<|I.hok.fresh hp)<|I.hok.laid k hp new
theorem Inv.write(I:Inv X pq Z H s)(mu:Mut (H x))(he:e=x\/H e=aa (.own x))(k:∀b u,b≠e->s.heap.get? b=aa u->h'.get? b=aa u)(heo:∃u,h'.get? e=aa u)
  (new:Yl X.prog X.w (upd H x o) h' x o):Inv X pq Z (upd H x o) {s with heap:=h',toks:=t' }:=I.un (Un.write mu he k heo)<|I.hok.write mu he k heo new
def Inv.pins_of(I:Inv X pq Z H s)(h:∀p∈pins',s.heap.get? p.1=aa p.2/\H p.1=af/\p.1≠X.env.locals/\p.1∉X.fs/\∀v,p.2.data≠.cell v):Inv X pins' Z H s:=
 #[I.ok,I.os,I.bare,I.base,I.loc,I.cell,I.free,I.freeC,λp hp=>(bD.mp hp).elim (λz=>I.pin p<|dE _ z)<|h p,I.hok,I.len]
def QG{N:List bi}(hN:N.Nodup){i j:Nat}{x:bi}(a:N[i]?=aa x)(b:N[j]?=aa x):i=j:=by
 obtain⟨h1,e1⟩:=aF.mp a;obtain⟨h2,e2⟩:=aF.mp b;exact(List.getElem_inj hN).mp<|e1.trans e2.symm
def VC{M:Model}{A:cx}{E:au->ay->Prop}{i:Nat}{x:bi}{v:V}{u:au}{Q:Unit->ay->Prop}(I:Inv X pq Z H s)(hN:X.N.Nodup)(hi:X.N[i]?=aa x)(hx:Loc X.env.scope x)(r:Zz v u)
  (h:∀s',Inv X pq (Z.set i<|aa v) H s'->(∃a,gy a s.heap s'.heap/\(a=X.env.locals\/X.env.cells.lookup x=aa a))->Q () s')(hf:X.fn x=ak\/X.env.scope.names.lookup x=aa .local:=by first|exact .inl rfl|exact .inr rfl|assumption):ba M A (storeName X.env x u) Q E s:=by
 obtain⟨m,hn,hl⟩:=id I.loc;have hcls:(X.env.scope.kind == .class||(X.env.scope.kind == .module&&X.env.locals != X.env.globals))=al:=by rw[I.ok.kind];rfl
 have hiσ:i<Z.length:=by rw[I.len];exact(aF.mp hi).1
 have cne:=I.cne;have tracked:∀{a:aE}{h':cw},(∃o,s.heap.get? a=aa o/\H a=af)->gy a s.heap h'->HOk X.prog X.w H h':=λ{a h'} ha hs b ob e=>by
  obtain⟨_,_,hfree⟩:=ha;refine(I.hok b ob e).stay (λc w' hc q=>(hs.2 c ?_).trans q) (λ_ q=>q) λ_ _ q=>q
  rintro rfl
  rcases hc with rfl|hc
  .rw[hfree]at e;cases e
  .rw[hfree]at hc;cases hc
 rcases hx with hk|hk
 .refine wpAny_storeName_local hk hn (λh' hn' hs=>?_) hcls
  obtain⟨oL,_,_,hoL,_⟩:=id hn;refine h _ #[I.ok,I.os,I.bare,#[λb o e n hb hx=>?_,λb o e n hb hx=>?_,I.base.free,λb o e hx=>?_,I.base.tups,I.base.frzs,I.base.tbls],#[_,hn',λj y v' e1 e2 e3=>?_],λy c e=>?_,I.free,I.freeC,λp hp=>?_,tracked #[oL,hoL,I.free] hs,by simpa using I.len] #[_,hs,.inl rfl]
  .exact(hs.2 b<|bp<|bt (aT e) I.ok.above).trans<|I.base.keep b o e n hb hx
  .obtain⟨sl,e1⟩:=I.base.slot b o e n hb hx
   exact#[sl,(hs.2 b<|bp<|bt (aT e) I.ok.above).trans e1]
  .obtain⟨o',e1⟩:=I.base.there b o e hx
   exact#[o',(hs.2 b<|bp<|bt (aT e) I.ok.above).trans e1]
  .by_cases hj:j=i
   .subst hj
    rw[hi]at e1;cases e1;rw[bc hiσ]at e2;cases e2;exact#[u,r,.inl #[hk,by simp]]
   .rw[aZ<|Ne.symm hj]at e2
    obtain⟨u',r',q⟩:=hl j y v' e1 e2 e3;refine#[u',r',?_];rcases q with⟨k,e⟩|⟨k,c,e,z⟩
    .refine .inl #[k,?_]
     have:y≠x:=λe=>hj<|QG hN e1<|e▸hi
     simp[this,e]
    .exact .inr #[k,c,e,z.sameBut hs<|cne y c e]
  .obtain⟨w',z⟩:=I.cell y c e
   exact#[w',z.sameBut hs<|cne y c e]
  .obtain⟨e,n,ne,nf,d⟩:=I.pin p hp
   exact#[(hs.2 p.1 ne).trans e,n,ne,nf,d]
 .have hfn:X.fn x=ak:=by
   rcases hf with z|z
   .exact z
   .rw[z]at hk;cases hk
  obtain⟨c,hc⟩:=I.ok.has x<|.inl hk;obtain⟨w',z⟩:=I.cell x c hc;refine wpAny_storeName_cell I.ok.kind hk hc z λh' hc' hs=>?_
  obtain⟨oc,hoc,hocd⟩:=id z;refine h {s with heap:=h' } #[I.ok,I.os,I.bare,#[λb o e n hb hx=>?_,λb o e n hb hx=>?_,I.base.free,λb o e hx=>?_,I.base.tups,I.base.frzs,I.base.tbls],#[m,hn.sameBut hs<|Ne.symm<|cne x c hc,λj y v' e1 e2 e3=>?_],λy c' e=>?_,I.free,I.freeC,λp hp=>?_,tracked #[oc,hoc,I.freeC x c hc] hs,by simpa using I.len] #[c,hs,.inr hc]
  .exact(hs.2 b<|bp<|bt (aT e)<|I.ok.cab x c hfn hc).trans<|I.base.keep b o e n hb hx
  .obtain⟨sl,e1⟩:=I.base.slot b o e n hb hx
   exact#[sl,(hs.2 b<|bp<|bt (aT e)<|I.ok.cab x c hfn hc).trans e1]
  .obtain⟨o',e1⟩:=I.base.there b o e hx
   exact#[o',(hs.2 b<|bp<|bt (aT e)<|I.ok.cab x c hfn hc).trans e1]
  .by_cases hj:j=i
   .subst hj
    rw[hi]at e1;cases e1;rw[bc hiσ]at e2;cases e2;exact#[u,r,.inr #[.inl hk,c,hc,hc']]
   .rw[aZ<|Ne.symm hj]at e2
    obtain⟨u',r',q⟩:=hl j y v' e1 e2 e3;refine#[u',r',?_];rcases q with q|⟨k,c',e,z'⟩
    .exact .inl q
    .refine .inr #[k,c',e,z'.sameBut hs ?_]
     rintro rfl
     exact hj<|QG hN e1<|I.ok.inj _ _ _ e hc▸hi
  .by_cases hcc:c'=c
   .subst hcc;exact#[_,hc']
   .obtain⟨w2,z2⟩:=I.cell y c' e
    exact#[w2,z2.sameBut hs hcc]
  .obtain⟨e,n,ne,nf,d⟩:=I.pin p hp
   refine#[(hs.2 p.1 ?_).trans e,n,ne,nf,d];intro q;rw[q,hoc]at e;have q':=aq e;exact d w' (by rw[<-q'];exact hocd)
def W3{E:au->ay->Prop}{Q:Unit->ay->Prop}(I:Inv X pq Z H s)(hN:X.N.Nodup)(hi:X.N[i]?=aa x)(hx:Loc X.env.scope x)(r:Zz v u)
  (h:∀s',Inv X pq (Z.set i<|aa v) H s'->Q () s')(hf:X.fn x=ak\/X.env.scope.names.lookup x=aa .local:=by first|exact .inl rfl|exact .inr rfl|assumption):ba M A (storeName X.env x u) Q E s:=
 VC I hN hi hx r (λs' I' _=>h s' I') hf
def Inv.call'(I:Inv X pq Z H s)(ho:s'.os=s.os)(u:Un (frs X.stack) ch H H' s.heap s'.heap)(hok:HOk X.prog X.w H' s'.heap)(hg:i4 s'.gens)
  (hch:∀b∈ch,(b∈X.ex\/X.s₀.heap.objs.size<=b)/\b≠X.env.locals/\(∀x c,X.env.cells.lookup x=aa c->c≠b)/\∀p∈X.pn++pq,p.1≠b):Inv X pq Z H' s':=by
 obtain⟨h',g',d',t',o'⟩:=s';have e:=ho;subst e;exact I.call (g':=g') (t':=t') (d':=d') u hok hg hch
end
abbrev XK:=au->Option aE->Hp->Prop
abbrev St:=List<|Option V
abbrev VK:=V->Hp->Prop
abbrev TE:=St->Hp->VK->Prop
abbrev TT:=St->Hp->(Bool->Hp->Prop)->Prop
abbrev TA:=St->Hp->(List V->Hp->Prop)->Prop
structure Ends where
 nx:St->Hp->Prop
 rt:VK
 bk:St->Hp->Prop:=λ_ _=>False
 ct:St->Hp->Prop:=λ_ _=>False
abbrev TS:=Ends->St->Hp->Prop
def EP(X:Cx)(pq:List (aE×fD))(Z:St)(Q:VK)(u:au)(s':ay):Prop:=∃v H',Inv X pq Z H' s'/\Zz v u/\Q v H'
def TP(X:Cx)(pq:List (aE×fD))(Z:St)(Q:Bool->Hp->Prop)(b:Bool)(s':ay):Prop:=∃H',Inv X pq Z H' s'/\Q b H'
def AP(X:Cx)(pq:List (aE×fD))(Z:St)(Q:List V->Hp->Prop)(us:List au)(s':ay):Prop:=∃vs H',Inv X pq Z H' s'/\Vals vs us/\Q vs H'
def SP(X:Cx)(pq:List (aE×fD))(D:Ends)(f:Flow)(s':ay):Prop:=
 match f with
 |.next=>∃σ' H',Inv X pq σ' H' s'/\D.nx σ' H'
 |.brk=>∃σ' H',Inv X pq σ' H' s'/\D.bk σ' H'
 |.cont=>∃σ' H',Inv X pq σ' H' s'/\D.ct σ' H'
 |.ret u=>∃v σ' H',Inv X pq σ' H' s'/\Zz v u/\D.rt v H'
def PE(X:Cx)(e:Expr)(t:TE):Prop:=
 ∀(pq:List (aE×fD))(s:ay)(Z:St)(H:Hp)(Q:VK),Inv X pq Z H s->t Z H Q->ba (aV X.prog X.w) X.A (cr e X.env) (EP X pq Z Q) X.xe s
def PT(X:Cx)(e:Expr)(t:TT):Prop:=
 ∀(pq:List (aE×fD))(s:ay)(Z:St)(H:Hp)(Q:Bool->Hp->Prop),Inv X pq Z H s->t Z H Q->ba (aV X.prog X.w) X.A (isTrue e X.env<|cr e X.env) (TP X pq Z Q) X.xe s
def PW(X:Cx)(e:Expr)(t:TT):Prop:=
 ∀(whole:oh au)(pq:List (aE×fD))(s:ay)(Z:St)(H:Hp)(Q:Bool->Hp->Prop),Inv X pq Z H s->t Z H Q->ba (aV X.prog X.w) X.A (isTrue e X.env whole) (TP X pq Z Q) X.xe s
def PW.pt(h:PW X e t):PT X e t:=h _
def PA(X:Cx)(es:List Expr)(t:TA):Prop:=
 ∀(pos:fV)(pq:List (aE×fD))(s:ay)(Z:St)(H:Hp)(Q:List V->Hp->Prop),Inv X pq Z H s->t Z H Q->ba (aV X.prog X.w) X.A (spliced<|dq pos<|aA es X.env) (AP X pq Z Q) X.xe s
def PS(X:Cx)(st:eO)(t:TS):Prop:=
 ∀(pq:List (aE×fD))(s:ay)(Z:St)(H:Hp)(D:Ends),Inv X pq Z H s->t D Z H->ba (aV X.prog X.w) X.A (exec st X.env) (SP X pq D) X.xe s
def PSs(X:Cx)(st:List eO)(t:TS):Prop:=
 ∀(pq:List (aE×fD))(s:ay)(Z:St)(H:Hp)(D:Ends),Inv X pq Z H s->t D Z H->ba (aV X.prog X.w) X.A (execs st X.env) (SP X pq D) X.xe s
def thn{B:Type}{t:oh B}{Q Q':B->ay->Prop}{M:Model}{A:cx}{E:au->ay->Prop}{s:ay}(h:ba M A t Q E s)(hQ:∀a s,Q a s->Q' a s):ba M A t Q' E s:=cR h hQ λ_ _ x=>x
def GF(i:Nat):TE:=λZ H Q=>∃v,Z[i]?=aa (aa v)/\Q v H
def tC(v:V):TE:=λ_ H Q=>Q v H
def Yq(hN:X.N[i]?=aa x)(hv:Vis X.env.scope x)(hd:(x == ("__debug__" : bi))=al:=by decide)(hcd:(x == ("__classdict__" : bi))=al:=by decide):PE X (.Name x pos) (GF i):=by
 intro pq s Z H Q I h;obtain⟨v,e,h⟩:=h;obtain⟨m,hn,hl⟩:=I.loc;obtain⟨u,r,l⟩:=hl i x v hN e hv;have fin:EP X pq Z Q u s:=#[v,H,I,r,h];rcases l with⟨hk,hm⟩|⟨hk,c,hc,hcell⟩
 .exact kM (i9 I.ok.kind hk hn hm fin) hd
 .rcases hk with hk|hk
  .exact kM (kB I.ok.kind hk hc hcell fin) hd
  .exact kM (nj I.ok.kind hk hc hcell fin hcd) hd
def Qs{i j pos}:PE X (.Constant (.int i) j pos) (tC<|.int i):=λ_ _ _ H _ I h=>wpAny_Constant_int #[.int i,H,I.tok _,#[_,rfl],h]
def v8{b j pos}:PE X (.Constant (.bool b) j pos) (tC<|.bl b):=λ_ _ _ H _ I h=>Constant_bool #[.bl b,H,I,rfl,h]
def xW{j pos}:PE X (.Constant .none j pos) (tC .non):=λ_ _ _ H _ I h=>Constant_none #[.non,H,I,rfl,h]
def J8{x j pos}:PE X (.Constant (.str x) j pos) (tC<|.str x):=λ_ _ _ H _ I h=>Calls.Constant_str #[.str x,H,I.tok _,#[_,rfl],h]
def Gl(X:Cx)(x:bi):Prop:=X.env.kindOf x=aa .globalImplicit
def Vm{E:au->ay->Prop}{Q:au->ay->Prop}(I:Inv X pq Z H s)(hg:Gl X x)(hm:X.mg x=aa u)(h:Q u s)
  (hd:(x == ("__debug__" : bi))=al:=by decide):ba (aV X.prog X.w) X.A (cr (.Name x pos) X.env) Q E s:=
 Calls.Name_function_global I.ok.kind hg (Calls.loadGlobal_global (by rw[I.ok.glob];exact I.mod.glob.keeps I.bk) hm h) hd
def YM{E:au->ay->Prop}{Q:au->ay->Prop}(I:Inv X pq Z H s)(hg:Gl X x)(hm:X.mg x=af)(hv:dg x=aa u)(h:Q u s)
  (hn:x≠"__name__":=by decide)(hd:(x == ("__debug__" : bi))=al:=by decide):ba (aV X.prog X.w) X.A (cr (.Name x pos) X.env) Q E s:=by
 obtain⟨mb,h1,h2⟩:=I.mod.blt;exact Calls.Name_function_global I.ok.kind hg (Calls.loadGlobal_builtin (by rw[I.ok.glob];exact I.mod.glob.keeps I.bk) hm (by rw[I.ok.blt];exact h1.keeps I.bk) ((h2 x hn).trans hv) h) hd
def vq(hg:Gl X x)(hm:X.mg x=aa u)(r:Zz v u)(hd:(x == ("__debug__" : bi))=al:=by decide):PE X (.Name x pos) (tC v):=
 λ_ _ _ H _ I h=>Vm I hg hm #[v,H,I,r,h] hd
def Um(hg:Gl X x)(hm:X.mg x=af)(hv:dg x=aa u)(r:Zz v u)(hn:x≠"__name__":=by decide)(hd:(x == ("__debug__" : bi))=al:=by decide):PE X (.Name x pos) (tC v):=
 λ_ _ _ H _ I h=>YM I hg hm hv #[v,H,I,r,h] hn hd
def PC(X:Cx)(op:sB)(a b:Expr)(t:TE):Prop:=
 ∀(pq:List (aE×fD))(s:ay)(Z:St)(H:Hp)(Q:VK),Inv X pq Z H s->t Z H Q->
  ba (aV X.prog X.w) X.A (cr a X.env) (λv s₁=>ba (aV X.prog X.w) X.A (cr b X.env) (λu s₂=>ba (aV X.prog X.w) X.A (cK op v u) (EP X pq Z Q) X.xe s₂) X.xe s₁) X.xe s
def ZbE(b:Expr)(h:op≠.In)(h2:op≠.NotIn):eM op b=al:=by
 have e1:(op == sB.In)=al:=by cases op<;>first|rfl|exact T7 rfl h
 have e2:(op == sB.NotIn)=al:=by cases op<;>first|rfl|exact T7 rfl h2
 cases b<;>simp[eM,e1,e2]
def Zf1(ta:TE):TE:=λZ H Q=>ta Z H λx H1=>Q (.bl<|ag<|x=.non) H1
def Zz.none_iff(r:Zz x v):(v == bz)=ag (x=.non):=by
 cases x with|non=>cases r;rfl|bl _=>cases r;rfl|int _=>obtain⟨t,rfl⟩:=r;rfl|str _=>obtain⟨t,rfl⟩:=r;rfl|ref _=>cases r;rfl|ty _=>cases r;rfl
def Zfk{j pos'}(ha:PE X a ta):PC X .Is a (.Constant .none j pos') (Zf1 ta):=by
 intro pq s Z H Q I h;refine thn (ha pq s Z H _ I h) λv s1 #[x,H1,I1,r1,q1]=>?_
 exact Constant_none<|is_none_gen #[.bl _,H1,I1,by rw[r1.none_iff];rfl,q1]
def tB(t:TE):TT:=λZ H Q=>t Z H λx H1=>∃c,x=.bl c/\Q c H1
def ZeI{op:sB}{t:TE}(h:PC X op a b t)(h1:eM op b=al:=by first|exact ZbE _ (by decide) (by decide)|rfl):PT X (.Compare a [op] [b] pos) (tB t):=by
 intro pq s Z H Q I hw;refine mG (thn (h pq s Z H _ I hw) λv s1 h1=>thn h1 λu s2 h2=>thn h2 λc s3 #[x,H1,I1,r1,q1]=>?_) h1
 obtain⟨d,rfl,q⟩:=q1;cases r1;exact ee #[H1,I1,q]
def Zeq{e:Expr}{t:TE}(h:PE X e t)(he:∀whole,isTrue e X.env whole=(do let v <-whole;lm e.pos;i5 [v] (sr v)):=by intro _;rfl):PT X e (tB t):=by
 intro pq s Z H Q I hw;refine isTrue_plain (thn (h pq s Z H _ I hw) λv s1 #[x,H1,I1,r1,q1]=>?_)<|he _
 obtain⟨d,rfl,q⟩:=q1;cases r1;exact ee #[H1,I1,q]
def ZgC(t u:TT):TT:=λZ H Q=>t Z H λc H1=>if c=ak then u Z H1 Q else Q al H1
def tOr(t u:TT):TT:=λZ H Q=>t Z H λc H1=>if c=ak then Q ak H1 else u Z H1 Q
def ZfE(t:TT):TT:=λZ H Q=>t Z H λc H1=>Q (!c) H1
def ZcM(ha:PT X a tA):PW X (.BoolOp .And [a] pos) tA:=by
 intro wh pq s Z H Q I h;refine isTrue_and<|thn (ha pq s Z H Q I h) λc s1 e=>?_
 cases c with|true=>exact isTrue_and_nil e|false=>exact e
def Za0(ha:PT X a tA):PW X (.BoolOp .Or [a] pos) tA:=by
 intro wh pq s Z H Q I h;refine isTrue_or<|thn (ha pq s Z H Q I h) λc s1 e=>?_
 cases c with|false=>exact isTrue_or_nil e|true=>exact e
def Ze4(ha:PT X a tA)(hb:PW X (.BoolOp .And (b::rest) pos) tB'):PW X (.BoolOp .And (a::b::rest) pos) (ZgC tA tB'):=by
 intro wh pq s Z H Q I h;refine isTrue_and<|thn (ha pq s Z H _ I h) λc s1 #[H1,I1,q1]=>?_
 cases c with|true=>exact hb wh pq s1 Z H1 Q I1 q1|false=>exact#[H1,I1,q1]
def ZdP(ha:PT X a tA)(hb:PW X (.BoolOp .Or (b::rest) pos) tB'):PW X (.BoolOp .Or (a::b::rest) pos) (tOr tA tB'):=by
 intro wh pq s Z H Q I h;refine isTrue_or<|thn (ha pq s Z H _ I h) λc s1 #[H1,I1,q1]=>?_
 cases c with|true=>exact#[H1,I1,q1]|false=>exact hb wh pq s1 Z H1 Q I1 q1
def Za3(ha:PT X a tA):PT X (.UnaryOp .Not a pos) (ZfE tA):=by
 intro pq s Z H Q I h;exact isTrue_not<|ha pq s Z H (λc H1=>Q (!c) H1) I h
def ZfA(ta tb:TE):TE:=λZ H Q=>ta Z H λx H1=>∃c,x=.bl c/\if c=ak then tb Z H1 Q else Q (.bl al) H1
def Zd7(ha:PE X a ta)(hb:PE X (.BoolOp .And (b::rest) pos) tb):PE X (.BoolOp .And (a::b::rest) pos) (ZfA ta tb):=by
 intro pq s Z H Q I h;refine BoolOp_and<|thn (ha pq s Z H _ I h) λv s1 #[x,H1,I1,r1,q1]=>?_
 obtain⟨c,rfl,q1⟩:=q1;cases r1;refine ee ?_;cases c with|true=>exact hb pq s1 Z H1 Q I1 q1|false=>exact#[.bl al,H1,I1,rfl,q1]
def tIf(t:TT)(ta tb:TE):TE:=λZ H Q=>t Z H λc H1=>if c=ak then ta Z H1 Q else tb Z H1 Q
def Zbl{c:Expr}(hc:PT X c tA)(ha:PE X a ta)(hb:PE X b tb):PE X (.IfExp c a b pos) (tIf tA ta tb):=by
 intro pq s Z H Q I h;refine wpAny_IfExp<|thn (hc pq s Z H _ I h) λd s1 #[H1,I1,q1]=>?_
 cases d with|true=>exact ha pq s1 Z H1 Q I1 q1|false=>exact hb pq s1 Z H1 Q I1 q1
def SqL(K:am)(H:Hp)(a:aE)(xs:List V):Prop:=
 Rd H a (.lst xs)\/
  ∃(o:fD)(its:Array au)(n:Nat),K.lookup a=aa o/\o.cls=.type "list"/\o.dict=af/\o.data=.seq its n/\its.size<=bn/\Vals xs its.toList
def SqT(K:am)(H:Hp)(a:aE)(xs:List V):Prop:=
 Rd H a (.tup xs)\/
  ∃(o:fD)(its:Array au)(n:Nat),K.lookup a=aa o/\o.cls=.type "tuple"/\o.data=.seq its n/\its.size<=bn/\Vals xs its.toList
noncomputable def ZgG:au->Option V
 |.none=>aa .non
 |.bool b=>aa<|.bl b
 |.int i _=>aa<|.int i
 |.str x _=>aa<|.str x
 |.ref a=>aa<|.ref a
 |.type n=>aa<|.ty n
 |_=>af
def Zz.abs(r:Zz x u):ZgG u=aa x:=by
 cases x with|non=>cases r;rfl|bl _=>cases r;rfl|int _=>obtain⟨t,rfl⟩:=r;rfl|str _=>obtain⟨t,rfl⟩:=r;rfl|ref _=>cases r;rfl|ty _=>cases r;rfl
def Zz.inj{x y:V}{u:au}(r:Zz x u)(q:Zz y u):x=y:=aq<|r.abs.symm.trans q.abs
theorem Vals.inj:∀{xs ys:List V}{us:List au},Vals xs us->Vals ys us->xs=ys
 |_,_,_,.nil,.nil=>rfl
 |_,_,_,.cons r t,.cons r' t'=>by rw[r.inj r',Vals.inj t t']
def SqL.of{K:am}(h:H a=aa (.lst xs)):SqL K H a xs:=.inl<|.inl h
def SqT.of{K:am}(h:H a=aa (.tup xs)):SqT K H a xs:=.inl<|.inl h
def Inv.list(I:Inv X pq Z H s)(h:SqL X.K H a xs):∃its:List au,Vals xs its/\PlainL s.heap a its.toArray/\xs.length<=bn:=by
 rcases h with h|⟨o,its,n,hk,hc,hd,hs,hz,r⟩
 .obtain⟨z,its,n,r,e⟩:=h.ok I.hok
  exact#[its,r,#[_,n,e,rfl,rfl,rfl],z]
 .refine#[its.toList,r,#[o,n,I.kIn a o hk,hc,hd,by simpa using hs],?_]
  have e:=r.length;simp only[aS]at e;lia
def Inv.tuple(I:Inv X pq Z H s)(h:SqT X.K H a xs):∃its:List au,Vals xs its/\pE s.heap a its.toArray/\xs.length<=bn:=by
 rcases h with h|⟨o,its,n,hk,hc,hs,hz,r⟩
 .obtain⟨z,its,r,p⟩:=h.ok I.hok
  exact#[its,r,p,z]
 .refine#[its.toList,r,#[o,I.kIn a o hk,hc,n,by simpa using hs],?_]
  have e:=r.length;simp only[aS]at e;lia
def Inv.list_inj(I:Inv X pq Z H s)(h:SqL X.K H a xs)(h':SqL X.K H a ys):xs=ys:=by
 obtain⟨its,r,⟨o,n,e,_,_,d⟩,_⟩:=I.list h;obtain⟨its',r',⟨o',n',e',_,_,d'⟩,_⟩:=I.list h';rw[e]at e';cases e';rw[d]at d';injection d' with d1 _
 have:its=its':=by simpa using congrArg Array.toList d1
 subst this;exact r.inj r'
def Inv.tuple_inj(I:Inv X pq Z H s)(h:SqT X.K H a xs)(h':SqT X.K H a ys):xs=ys:=by
 obtain⟨its,r,⟨o,e,_,n,d⟩,_⟩:=I.tuple h;obtain⟨its',r',⟨o',e',_,n',d'⟩,_⟩:=I.tuple h';rw[e]at e';cases e';rw[d]at d';injection d' with d1 _
 have:its=its':=by simpa using congrArg Array.toList d1
 subst this;exact r.inj r'
section
variable{X:Cx}{st:eO}{rest:List eO}{t u:TS}{e:Expr}{te:TE}{pos:fV}
def ju:TS:=λD Z H=>D.nx Z H
def G9(t u:TS):TS:=λD Z H=>t {D with nx:=u D} Z H
def GT:PSs X [] ju:=λ_ _ Z H _ I h=>fS #[Z,H,I,h]
def YC(h1:PS X st t)(h2:PSs X rest u):PSs X (st::rest) (G9 t u):=by
 intro pq s Z H D I h;refine gz<|thn (h1 pq s Z H {D with nx:=u D} I h) λf s1 q=>?_
 cases f with
 |next=>
  obtain⟨σ',H',I',q⟩:=q;exact h2 pq s1 σ' H' D I' q
 |ret v=>exact q
 |brk=>exact q
 |cont=>exact q
def W0(h1:PS X st t):PSs X [st] t:=by
 intro pq s Z H D I h;refine gz<|thn (h1 pq s Z H D I h) λf s1 q=>?_
 cases f with|next=>exact fS q|ret v=>exact q|brk=>exact q|cont=>exact q
def Inv.quiet(I:Inv X pq Z H s):interactive X.env=al:=by simp[interactive,I.ok.kind]
def ZdI(te:TE):TS:=λD Z H=>te Z H λ_ H1=>D.nx Z H1
def Uo(he:PE X e te)(hs:eQ e af pos.line X.env=cS al:=by rfl):PS X (.Expr e pos) (ZdI te):=by
 intro pq s Z H D I h;exact wpAny_Expr_any (thn (he pq s Z H _ I h)<|by rintro v s1 ⟨x,H1,I1,r1,q1⟩;exact #[Z,H1,I1,q1]) I.quiet hs
def jZ(te:TE):TS:=λD Z H=>te Z H D.rt
def VT(he:PE X e te):PS X (.Return (aa e) pos) (jZ te):=by
 intro pq s Z H D I h;exact wpAny_Return_some<|thn (he pq s Z H _ I h)<|by rintro v s1 ⟨x,H1,I1,r1,q1⟩;exact #[x,Z,H1,I1,r1,q1]
def Zer(c:TT)(t u:TS):TS:=λD Z H=>c Z H λb H1=>if b=ak then t D Z H1 else u D Z H1
def ZaW{c:Expr}{a b:List eO}{tc:TT}(hc:PT X c tc)(ha:PSs X a t)(hb:PSs X b u):PS X (.If c a b pos) (Zer tc t u):=by
 intro pq s Z H D I h;refine wpAny_If<|thn (hc pq s Z H _ I h) λd s1 #[H1,I1,q1]=>?_
 cases d with|true=>exact ha pq s1 Z H1 D I1 q1|false=>exact hb pq s1 Z H1 D I1 q1
end
abbrev TG:=V->St->Hp->(St->Hp->Prop)->Prop
abbrev TGs:=List V->St->Hp->(St->Hp->Prop)->Prop
def PG(X:Cx)(target:Expr)(t:TG):Prop:=
 ∀(pq:List (aE×fD))(s:ay)(Z:St)(H:Hp)(v:V)(u:au)(Q:St->Hp->Prop),Inv X pq Z H s->Zz v u->t v Z H Q->
  ba (aV X.prog X.w) X.A (assign target X.env u) (λ_ s'=>∃σ' H',Inv X pq σ' H' s'/\Q σ' H') X.xe s
def PGs(X:Cx)(ts:List Expr)(t:TGs):Prop:=
 ∀(pq:List (aE×fD))(s:ay)(Z:St)(H:Hp)(vs:List V)(us:List au)(Q:St->Hp->Prop),Inv X pq Z H s->Vals vs us->t vs Z H Q->
  ba (aV X.prog X.w) X.A (assignInOrder ((cI ts X.env).map (·.2)) us) (λ_ s'=>∃σ' H',Inv X pq σ' H' s'/\Q σ' H') X.xe s
abbrev TSet:=V->V->V->Hp->(Hp->Prop)->Prop
def PSet(X:Cx)(t:TSet):Prop:=
 ∀(pq:List (aE×fD))(s:ay)(Z:St)(H:Hp)(o i v:V)(ov iv u:au)(Q:Hp->Prop),Inv X pq Z H s->Zz o ov->Zz i iv->Zz v u->t o i v H Q->
  ba (aV X.prog X.w) X.A (setItem ov iv u) (λ_ s'=>∃H',Inv X pq Z H' s'/\Q H') X.xe s
abbrev TIp:=V->V->Hp->VK->Prop
def PIp(X:Cx)(op:re)(t:TIp):Prop:=
 ∀(pq:List (aE×fD))(s:ay)(Z:St)(H:Hp)(x y:V)(v u:au)(Q:VK),Inv X pq Z H s->Zz x v->Zz y u->t x y H Q->
  ba (aV X.prog X.w) X.A (inplaceOp op v u) (EP X pq Z Q) X.xe s
def UA(i:Nat):TG:=λv Z H Q=>Q (Z.set i<|aa v) H
def Ur(hN:X.N.Nodup)(hi:X.N[i]?=aa x)(hx:Loc X.env.scope x)(hf:X.fn x=ak\/X.env.scope.names.lookup x=aa .local:=by first|exact .inl rfl|exact .inr rfl|assumption):PG X (.Name x pos) (UA i):=by
 intro pq s Z H v u Q I r h;exact lq<|W3 I hN hi hx r (λs' I'=>#[_,H,I',h]) hf
def ZgK:TGs:=λvs Z H Q=>vs=[]/\Q Z H
def ZfB(t:TG)(u:TGs):TGs:=λvs Z H Q=>∃v r,vs=v::r/\t v Z H λσ' H'=>u r σ' H' Q
def Zca:PGs X [] ZgK:=by
 intro pq s Z H vs us Q I r h;obtain⟨e,h⟩:=h;subst e;cases r;exact assignInOrder_nil #[Z,H,I,h]
def Zbs{e:Expr}{es:List Expr}{t:TG}{u:TGs}(h1:PG X e t)(h2:PGs X es u)
  (hs:(cI (e::es) X.env).map (·.2)=assign e X.env::(cI es X.env).map (·.2):=by rfl):PGs X (e::es) (ZfB t u):=by
 intro pq s Z H vs us Q I r h;obtain⟨v,vr,e1,h⟩:=h;subst e1;cases r with
 |cons r rr=>
  rw[hs];refine assignInOrder_cons<|thn (h1 pq s Z H _ _ _ I r h) λ_ s1 #[σ1,H1,I1,q1]=>?_
  exact h2 pq s1 σ1 H1 _ _ Q I1 rr q1
def Zgl(K:am)(n:Nat)(t:TGs):TG:=λv Z H Q=>∃a xs,v=.ref a/\SqT K H a xs/\xs.length=n/\t xs Z H Q
def Zfo(hc:X.calm=ak)(h:PGs X es t)
  (hn:(cI es X.env).length=n:=by rfl)(hst:(cI es X.env).findIdx? (·.1)=af:=by rfl):PG X (.Tuple es k pos) (Zgl X.K n t):=by
 intro pq s Z H v u Q I r hw;obtain⟨a,xs,e1,hq,hl,hw⟩:=hw;subst e1;cases r;obtain⟨its,rv,ht,hz⟩:=I.tuple hq;refine assign_Tuple_tuple (I.ok.hd hc) ht (by simp[hn,<-hl,rv.length]) hst λh' hx=>?_
 have I1:=I.kept (t':=s.toks) λb o e=>hx b o (bp<|aT e) e
 exact h pq _ Z H xs _ Q I1 (by simpa using rv) hw
def Zgz(to ti:TE)(t:TSet):TG:=λv Z H Q=>to Z H λo H1=>ti Z H1 λi H2=>t o i v H2 λH3=>Q Z H3
def Ze2{o i:Expr}{to ti:TE}{t:TSet}(ho:PE X o to)(hi:PE X i ti)(hs:PSet X t)
  (ha:∀v,assign (.Subscript o i pos) X.env v=(do
   let ov <-i5 [v] (cr o X.env)
   let iv <-i5 [v,ov] (cr i X.env)
   lm pos
   i5 [v,ov,iv] (setItem ov iv v)
   release [v,ov,iv] []):=by intro _;rfl):PG X (.Subscript o i pos) (Zgz to ti t):=by
 intro pq s Z H v u Q I r h;rw[ha];refine ae<|cD<|thn (ho pq s Z H _ I h) λov s1 #[x,H1,I1,r1,q1]=>?_
 refine ae<|cD<|thn (hi pq s1 Z H1 _ I1 q1) λiv s2 #[y,H2,I2,r2,q2]=>?_
 refine ae<|fw<|ae<|cD<|thn (hs pq s2 Z H2 x y v ov iv u _ I2 r1 r2 r q2) λ_ s3 #[H3,I3,q3]=>?_
 exact wpAny_release #[Z,H3,I3,q3]
def xh(te:TE)(g:TG):TS:=λD Z H=>te Z H λx H1=>g x Z H1 D.nx
def VO{tg e:Expr}{te:TE}{g:TG}(he:PE X e te)(hg:PG X tg g)(hs:fz [tg] e pos.line X.env=cS al:=by rfl)(hw:fA [tg] e X.env=cS af:=by rfl)
  (h1:(cI [tg] X.env).map (·.2)=[assign tg X.env]:=by rfl):PS X (.Assign [tg] e pos) (xh te g):=by
 intro pq s Z H D I h;refine wpAny_Assign_stores (thn (he pq s Z H _ I h) λv s1 #[x,H1,I1,r1,q1]=>?_) hs hw
 rw[h1];exact thn (hg pq s1 Z H1 x v _ I1 r1 q1) λ_ s2 q=>q
def VH{i:Nat}{x:bi}{e:Expr}{te:TE}{pos':fV}(hN:X.N.Nodup)(hi:X.N[i]?=aa x)(hx:Loc X.env.scope x)(he:PE X e te)(hs:eQ e (aa<|.Name x pos') pos.line X.env=cS al:=by rfl)(hf:X.fn x=ak\/X.env.scope.names.lookup x=aa .local:=by first|exact .inl rfl|exact .inr rfl|assumption) :
  PS X (.Assign [.Name x pos'] e pos) (xh te<|UA i):=by
 intro pq s Z H D I h;refine wpAny_Assign_Name (thn (he pq s Z H _ I h) λv s1 #[y,H1,I1,r1,q1]=>?_) hs
 exact W3 I1 hN hi hx r1 (λs2 I2=>#[_,H1,I2,q1]) hf
def ZgD(i:Nat)(te:TE)(ti:TIp):TS:=λD Z H=>∃x,Z[i]?=aa (aa x)/\te Z H λy H1=>ti x y H1 λz H2=>D.nx (Z.set i<|aa z) H2
def ZeV{i:Nat}{x:bi}{e:Expr}{te:TE}{op:re}{ti:TIp}{pos':fV}(hN:X.N.Nodup)(hi:X.N[i]?=aa x)(hx:Loc X.env.scope x)(he:PE X e te)(ho:PIp X op ti)(hf:X.fn x=ak\/X.env.scope.names.lookup x=aa .local:=by first|exact .inl rfl|exact .inr rfl|assumption) :
  PS X (.AugAssign (.Name x pos') op e pos) (ZgD i te ti):=by
 intro pq s Z H D I h;obtain⟨v,e1,h⟩:=h;obtain⟨m,hn,hl⟩:=I.loc;have vis:Vis X.env.scope x:=by rcases hx with k|k;exact .inl k;exact .inr<|.inl k
 obtain⟨u,r,l⟩:=hl i x v hi e1 vis;refine wpAny_AugAssign_Name ?_;have go:ba (aV X.prog X.w) X.A (cr e X.env) (λw s₂=>ba (aV X.prog X.w) X.A (inplaceOp op u w) (λr s₃=>ba (aV X.prog X.w) X.A (storeName X.env x r) (λ_=>SP X pq D .next) X.xe s₃) X.xe s₂) X.xe s:=by
  refine thn (he pq s Z H _ I h) λw s1 #[y,H1,I1,r1,q1]=>?_
  refine thn (ho pq s1 Z H1 v y u w _ I1 r r1 q1) λz s2 #[zv,H2,I2,r2,q2]=>?_
  exact W3 I2 hN hi hx r2 (λs3 I3=>#[_,H2,I3,q2]) hf
 rcases l with⟨hk,hm⟩|⟨hk,c,hc,hcell⟩
 .exact i9 I.ok.kind hk hn hm go
 .rcases hk with hk|hk
  .exact kB I.ok.kind hk hc hcell go
  .rcases hx with k|k
   .have:X.env.scope.names.lookup x=aa .free:=hk
    rw[k]at this;cases this
   .have:X.env.scope.names.lookup x=aa .free:=hk
    rw[k]at this;cases this
section
variable{X:Cx}{pos:fV}
def Zfm(c:TT)(tb:TS):TS:=λD Z H=>∃W:Nat->St->Hp->Prop,(∃m,W m Z H)/\∀m Z H,W m Z H->
 c Z H λb H1=>if b=ak then ∃N:St->Hp->Prop,(∀σ' H',N σ' H'->∃m',m'<m/\W m' σ' H')/\tb {D with nx:=N,ct:=N,bk:=D.nx} Z H1 else D.nx Z H1
def Zaj{c:Expr}{body:List eO}{tc:TT}{tb:TS}(hp:oO (aV X.prog X.w) X.A X.env X.xe)(hc:PT X c tc)(hb:PSs X body tb):PS X (.While c body [] pos) (Zfm tc tb):=by
 intro pq s Z H D I h;obtain⟨W,⟨m0,w0⟩,turn⟩:=h;refine wpAny_While<|codeAny_whileLoop (λn s'=>∃σ' H',Inv X pq σ' H' s'/\W n σ' H') ?_ m0 #[Z,H,I,w0]
 rintro n s1 ⟨σ1,H1,I1,w1⟩
 refine fe hp<|thn (hc pq s1 σ1 H1 _ I1<|turn n σ1 H1 w1) λb s2 #[H2,I2,q2]=>?_
 cases b with
 |true=>
  obtain⟨N,hN,q2⟩:=q2;rw[T9 rfl];refine fe hp<|thn (hb pq s2 σ1 H2 _ I2 q2) λf s3 q3=>?_
  cases f with
  |next=>
   obtain⟨σ3,H3,I3,n3⟩:=q3;obtain⟨m',hm,w3⟩:=hN σ3 H3 n3;exact#[m',hm,σ3,H3,I3,w3]
  |cont=>
   obtain⟨σ3,H3,I3,n3⟩:=q3;obtain⟨m',hm,w3⟩:=hN σ3 H3 n3;exact#[m',hm,σ3,H3,I3,w3]
  |brk=>exact q3
  |ret v=>exact q3
 |false=>
  rw[T8 aN];exact fS #[σ1,H2,I2,q2]
end
structure It where
 go:Nat->Hp->Prop
 yld:Nat->Hp->V->Hp->Prop
 stop:Nat->Hp->Prop
def Vn(X:Cx)(pq:List (aE×fD))(H:Hp)(b:aE):Prop:=
 H b=af/\b≠X.env.locals/\b∉X.fs/\(b∈X.ex\/X.s₀.heap.objs.size<=b)/\(∀x c,X.env.cells.lookup x=aa c->c≠b)/\∀p∈X.pn++pq,p.1≠b
def Inv.fpOk(I:Inv X pq Z H s)(hb:s.heap.objs.size<=b)(hn:H' b=af):Vn X pq H' b:=by
 refine#[hn,gA<|bt I.lt hb,I.nofs hb,.inr<|bX I.sz hb,λx c e z=>?_,λp hp z=>?_]
 .obtain⟨v,q⟩:=I.cell x c e
  exact T7 (bt q.lt<|by rw[z];exact hb)<|bK _
 .exact T7 (bt (aT (I.pin p hp).1)<|by rw[z];exact hb)<|bK _
structure Turn(P:bB)(w:bS)(K:am)(tg:Expr)(J:It)(fp:List aE)(it:aE)(tn:Nat->cw->Prop):Prop where
 mem:it∈fp
 obj:∀i h,tn i h->∀b∈fp,∃o,h.get? b=aa o/\∀v,o.data≠.cell v
 keep:∀i h h',tn i h->(∀b∈fp,∀o,h.get? b=aa o->h'.get? b=aa o)->tn i h'
 item:∀(X:Cx),X.prog=P->X.w=w->X.K=K->X.calm=ak->∀(i:Nat)(pq:List (aE×fD))(s:ay)(Z:St)(H:Hp)(E:au->ay->Prop),Inv X pq Z H s->(∀b∈fp,Vn X pq H b)->tn i s.heap->J.go i H->
  ba (aV P w) X.A (oP<|.ref it) (λr s1=>∃u,r=aa u/\
   ba (aV P w) X.A (my tg (.ref it) u) (λ_ s2=>∃x H',Inv X pq Z H' s2/\Zz x u/\J.yld i H x H'/\tn (i+1) s2.heap/\∀b∈fp,H' b=af) E s1) E s
 done:∀(X:Cx),X.prog=P->X.w=w->X.K=K->X.calm=ak->∀(i:Nat)(pq:List (aE×fD))(s:ay)(Z:St)(H:Hp)(E:au->ay->Prop),Inv X pq Z H s->(∀b∈fp,Vn X pq H b)->tn i s.heap->J.stop i H->
  ba (aV P w) X.A (oP<|.ref it) (λr s1=>r=af/\Inv X pq Z H s1) E s
 self:∀(A:cx)(i:Nat)(s:ay)(Q:au->ay->Prop)(E:au->ay->Prop),tn i s.heap->Q (.ref it) s->ba (aV P w) A (mQ<|.ref it) Q E s
abbrev TI:=St->Hp->(It->Hp->Prop)->Prop
def PIE(X:Cx)(pq:List (aE×fD))(Z:St)(tg:Expr)(R:It->Hp->Prop)(itv:au)(s2:ay):Prop:=
 ∃(it:aE)(fp:List aE)(tn:Nat->cw->Prop)(J:It)(H':Hp),itv=.ref it/\Inv X pq Z H' s2/\Turn X.prog X.w X.K tg J fp it tn/\tn 0 s2.heap/\(∀b∈fp,Vn X pq H' b)/\R J H'
def PI(X:Cx)(tg iter:Expr)(wi:TI):Prop:=
 ∀(pq:List (aE×fD))(s:ay)(Z:St)(H:Hp)(R:It->Hp->Prop),Inv X pq Z H s->wi Z H R->
  ba (aV X.prog X.w) X.A (cr iter X.env) (λv s1=>ba (aV X.prog X.w) X.A (mQ v) (PIE X pq Z tg R) X.xe s1) X.xe s
def zY{E:au->ay->Prop}{Q:Unit->ay->Prop}(ho:s.heap.get? it=aa o)(hc:o.cls=.type n)(hd:o.data=.fields vs)
  (hn:["enumerate","zip","dict_itemiterator","dict_reverseitemiterator","odict_iterator","itertools.zip_longest","itertools.pairwise"].contains n=al)(hQ:Q () s):ba M A (my tg (.ref it) u) Q E s:=by
 cases tg<;>first
  |exact aC hQ
  |(cases u<;>first
    |exact aC hQ
    |(refine ae (nL ho ?_)
      rw[hc,hd];show ba M A (if(["enumerate","zip","dict_itemiterator","dict_reverseitemiterator","odict_iterator","itertools.zip_longest","itertools.pairwise"].contains n&&vs[0]? == aa (fM _))=ak then _ else _) Q E s
      rw[T8<|by intro h;rw[hn,Bool.false_and]at h;cases h]
      exact aC hQ))
noncomputable def Itl(K:am)(a:aE):It:=
 #[λi H=>∃xs x,SqL K H a xs/\xs[i]?=aa x,λi H x H'=>H'=H/\∀xs,SqL K H a xs->xs[i]?=aa x,λi H=>∃xs,SqL K H a xs/\xs.length<=i]
noncomputable def Itt(K:am)(a:aE):It:=
 #[λi H=>∃xs x,SqT K H a xs/\xs[i]?=aa x,λi H x H'=>H'=H/\∀xs,SqT K H a xs->xs[i]?=aa x,λi H=>∃xs,SqT K H a xs/\xs.length<=i]
noncomputable def Itr(lo:Int)(n:Nat):It:=#[λi _=>i<n,λi H x H'=>H'=H/\x=.int (lo+i),λi _=>n<=i]
def uL{P:bB}{w:bS}{K:am}{tg:Expr}(a it:aE):Turn P w K tg (Itl K a) [it] it (λi h=>h.IsListIter it a i) where
 mem:=by simp
 obj:=λi h st b hb=>by
  have e:b=it:=by simpa using hb
  subst e;obtain⟨o,e,c,d⟩:=st;exact#[o,e,λv z=>by rw[d]at z;cases z]
 keep:=λi h h' st k=>st.at λo e=>k it (by simp) o e
 item:=by
  intro X hP hw hK hc i pq s Z H E I hf st hg;subst hP hw hK;obtain⟨xs,x,hq,hx⟩:=hg;obtain⟨its,rv,p,hz⟩:=I.list hq;obtain⟨u,hu,ru⟩:=rv.get hx;obtain⟨f0,f1,f2,f3,f4,f5⟩:=hf it (by simp)
  refine md st p.isList (by simpa using hu) λh' st' sb=>?_
  have I1:=I.turned (t':=s.toks) (λb o hb e=>(sb.2 b hb).trans e) f0 f1 f3 f4 f5
  obtain⟨o,e,c,d⟩:=id st';exact#[u,rfl,zY e c d (by decide) #[x,H,I1,ru,#[rfl,λys hy=>by rw[I.list_inj hy hq];exact hx],st',λb hb=>(hf b hb).1]]
 done:=by
  intro X hP hw hK hc i pq s Z H E I hf st hg;subst hP hw hK;obtain⟨xs,hq,hx⟩:=hg;obtain⟨its,rv,p,hz⟩:=I.list hq;obtain⟨f0,f1,f2,f3,f4,f5⟩:=hf it (by simp)
  have hl:=rv.length;exact mH (I.ok.hd hc) st p.isList (by simp;lia) λh' eb=>#[rfl,I.turned (t':=s.toks) (λb o hb e=>eb b o hb e) f0 f1 f3 f4 f5]
 self:=λ_ _ _ _ _ st h=>wpAny_pyIter_listiter st h
def xi{P:bB}{w:bS}{K:am}{tg:Expr}(a it:aE):Turn P w K tg (Itt K a) [it] it (λi h=>h.IsTupleIter it a i) where
 mem:=by simp
 obj:=λi h st b hb=>by
  have e:b=it:=by simpa using hb
  subst e;obtain⟨o,e,c,d⟩:=st;exact#[o,e,λv z=>by rw[d]at z;cases z]
 keep:=λi h h' st k=>st.at λo e=>k it (by simp) o e
 item:=by
  intro X hP hw hK hc i pq s Z H E I hf st hg;subst hP hw hK;obtain⟨xs,x,hq,hx⟩:=hg;obtain⟨its,rv,p,hz⟩:=I.tuple hq;obtain⟨u,hu,ru⟩:=rv.get hx;obtain⟨f0,f1,f2,f3,f4,f5⟩:=hf it (by simp)
  refine wpAny_pyNext_tuple_item st (p) (by simpa using hu) λh' st' sb=>?_
  have I1:=I.turned (t':=s.toks) (λb o hb e=>(sb.2 b hb).trans e) f0 f1 f3 f4 f5
  obtain⟨o,e,c,d⟩:=id st';exact#[u,rfl,zY e c d (by decide) #[x,H,I1,ru,#[rfl,λys hy=>by rw[I.tuple_inj hy hq];exact hx],st',λb hb=>(hf b hb).1]]
 done:=by
  intro X hP hw hK hc i pq s Z H E I hf st hg;subst hP hw hK;obtain⟨xs,hq,hx⟩:=hg;obtain⟨its,rv,p,hz⟩:=I.tuple hq;obtain⟨f0,f1,f2,f3,f4,f5⟩:=hf it (by simp)
  have hl:=rv.length;exact wpAny_pyNext_tuple_end (I.ok.hd hc) st (p) (by simp;lia) λh' eb=>#[rfl,I.turned (t':=s.toks) (λb o hb e=>eb b o hb e) f0 f1 f3 f4 f5]
 self:=λ_ _ _ _ _ st h=>wpAny_pyIter_tupleiter st h
def ww{P:bB}{w:bS}{K:am}{tg:Expr}(it:aE)(lo:Int)(n:Nat):Turn P w K tg (Itr lo n) [it] it (λi h=>IsRangeIter h it (lo+(i:Nat)*1) ((n:Int)-(i:Nat)) 1) where
 mem:=by simp
 obj:=λi h st b hb=>by
  have e:b=it:=by simpa using hb
  subst e;exact#[_,st,λv z=>by
   have z':=z;cases z']
 keep:=λi h h' st k=>k it (by simp) _ st
 item:=by
  intro X hP hw hK hc i pq s Z H E I hf st hg;subst hP hw hK;obtain⟨f0,f1,f2,f3,f4,f5⟩:=hf it (by simp)
  have W:=Walks.range (prog:=X.prog) (w:=X.w) (I.ok.hd hc) it lo 1 n;refine W.item i s _ _ hg st λv h' tk hv st' kk=>?_
  obtain⟨t,rfl⟩:=hv;have I1:Inv X pq Z H {s with heap:=h',toks:=tk}:=I.turned (λb o hb e=>kk b o (by simpa using hb) e) f0 f1 f3 f4 f5
  refine#[_,rfl,zY st' rfl rfl (by decide) #[.int<|lo+i,H,I1,#[t,?_],#[rfl,rfl],st',λb hb=>(hf b hb).1]]
  rw[Int.mul_one]
 done:=by
  intro X hP hw hK hc i pq s Z H E I hf st hg;subst hP hw hK;obtain⟨f0,f1,f2,f3,f4,f5⟩:=hf it (by simp)
  exact me (I.ok.hd hc) st (by have:n<=i:=hg;lia) λh' eb=>#[rfl,I.turned (t':=s.toks) (λb o hb e=>eb b o hb e) f0 f1 f3 f4 f5]
 self:=λ_ _ _ _ _ st h=>ig st h
section
variable{X:Cx}{tg:Expr}
theorem y9{pq:List (aE×fD)}{Z:St}{H:Hp}{s:ay}{R:It->Hp->Prop}{E:au->ay->Prop}{lo hi:Int}{t u v:rW}{tk:Nat}(I:Inv X pq Z H s)(h1:-(2^62)<=lo)(h2:lo<2^62)(h3:-(2^62)<=hi)(h4:hi<2^62)
  (q:R (Itr lo (hi-lo).toNat) H):ba (aV X.prog X.w) X.A (mQ<|.ref s.heap.objs.size) (PIE X pq Z tg R) E {s with heap:=s.heap.push {cls:=.type "range",data:=.fields [.int lo t,.int hi u,.int 1 v].toArray},toks:=tk}:=by
 refine wpAny_pyIter_range (pF ..) (small_one h1 h2 h3 h4) ?_;have I1:Inv X pq Z H {s with heap:=s.heap.push {cls:=.type "range",data:=.fields [.int lo t,.int hi u,.int 1 v].toArray},toks:=tk}:=I.kept λb o e=>aw _ e
 refine#[(s.heap.push {cls:=.type "range",data:=.fields [.int lo t,.int hi u,.int 1 v].toArray}).objs.size,[(s.heap.push {cls:=.type "range",data:=.fields [.int lo t,.int hi u,.int 1 v].toArray}).objs.size],_,_,H,rfl,
  I1.kept (t':=tk) λb o e=>aw _ e,ww _ lo (hi-lo).toNat,?_,λb hb=>?_,q]
 .have e1:lo+((0:Nat):Int)*1=lo:=by simp
  have e2:(((hi-lo).toNat:Nat):Int)-((0:Nat):Int)=fF lo hi 1:=by rw[nv];split<;>lia
  rw[e1,e2];exact aO _ rfl
 .have e:b=(s.heap.push {cls:=.type "range",data:=.fields [.int lo t,.int hi u,.int 1 v].toArray}).objs.size:=by simpa using hb
  subst e;exact I1.fpOk (aJ _)<|I1.hok.fresh<|aJ _
def Zf4(ta:TA):TI:=λZ H R=>ta Z H λvs H1=>∃j:Int,vs=[.int j]/\-(2^62)<=j/\j<2^62/\R (Itr 0 j.toNat) H1
def ZfO(ta:TA):TI:=λZ H R=>ta Z H λvs H1=>∃i j:Int,vs=[.int i,.int j]/\(-(2^62)<=i/\i<2^62/\-(2^62)<=j/\j<2^62)/\R (Itr i (j-i).toNat) H1
theorem qy{a:Expr}{ta:TA}{p pos:fV}(hg:Gl X "range")(hm:X.mg "range" = af)(ha:PA X [a] ta)(hs:aA [a] X.env=[(al,cr a X.env)]:=by rfl):PI X tg (.Call (.Name "range" p) [a] [] pos) (Zf4 ta):=by
 intro pq s Z H R I h;refine rg<|YM I hg hm nM<|bT (thn (ha pos pq s Z H _ I h) λus s1 #[vs,H1,I1,r1,q1]=>?_) hs rfl
 obtain⟨j,e,q1,q2,q⟩:=q1;subst e;cases r1 with
 |cons r rr=>
  cases rr;obtain⟨t,rfl⟩:=r;exact call_range_1<|y9 I1 (by lia) (by lia) q1 q2<|by simpa using q
def qe{a b:Expr}{ta:TA}{p pos:fV}(hg:Gl X "range")(hm:X.mg "range" = af)(ha:PA X [a,b] ta)(hs:aA [a,b] X.env=[(al,cr a X.env),(al,cr b X.env)]:=by rfl)(hs2:aA [b] X.env=[(al,cr b X.env)]:=by rfl) :
  PI X tg (.Call (.Name "range" p) [a,b] [] pos) (ZfO ta):=by
 intro pq s Z H R I h;refine rg<|YM I hg hm nM<|bT (thn (ha pos pq s Z H _ I h) λus s1 #[vs,H1,I1,r1,q1]=>?_) (by rw[hs,hs2])<|by rw[hs2];rfl
 obtain⟨i,j,e,⟨q1,q2,q3,q4⟩,q⟩:=q1;subst e;cases r1 with
 |cons r rr=>
  cases rr with
  |cons r' rr=>
   cases rr;obtain⟨t,rfl⟩:=r;obtain⟨t',rfl⟩:=r';exact call_range_2<|y9 I1 q1 q2 q3 q4 q
def ZgJ(wi:TI)(g:TG)(tb:TS):TS:=λD Z H=>wi Z H λJ H1=>∃W:Nat->Nat->St->Hp->Prop,(∃m,W 0 m Z H1)/\∀i m Z H,W i m Z H->
 (J.stop i H/\D.nx Z H)\/(J.go i H/\∃N:St->Hp->Prop,(∀σ' H',N σ' H'->∃m',m'<m/\W (i+1) m' σ' H')/\∀x H',J.yld i H x H'->g x Z H' λσ2 H2=>tb {D with nx:=N,ct:=N,bk:=D.nx} σ2 H2)
noncomputable def U9(fp:List aE)(h:cw):List (aE×fD):=fp.filterMap λb=>(h.get? b).map λo=>(b,o)
def XJ(hb:b∈fp)(e:h.get? b=aa o):(b,o)∈U9 fp h:=nN.mpr #[b,hb,by rw[e];rfl]
def u3(hp:p∈U9 fp h):p.1∈fp/\h.get? p.1=aa p.2:=by
 obtain⟨b,hb,e⟩:=nN.mp hp;cases q:h.get? b with
 |none=>rw[q]at e;cases e
 |some o=>
  rw[q]at e;have e':=aq e;subst e';exact#[hb,q]
def Inv.pinned(I:Inv X pq Z H s)(hf:∀b∈fp,Vn X pq H b)(ho:∀b∈fp,∃o,s.heap.get? b=aa o/\∀v,o.data≠.cell v):Inv X (pq++U9 fp s.heap) Z H s:=
 I.pins_of λp hp=>(bD.mp hp).elim (λz=>I.pin p<|bv _ z) λz=>by
  obtain⟨hb,e⟩:=u3 z;obtain⟨f0,f1,f2,_⟩:=hf p.1 hb;obtain⟨o,e',d⟩:=ho p.1 hb;rw[e]at e';cases e';exact#[e,f0,f1,f2,d]
def Inv.unpinned(I:Inv X (pq++pl) Z H s):Inv X pq Z H s:=I.pins_of λp hp=>I.pin p<|bv _<|dE _ hp
def Zel{iter:Expr}{body:List eO}{wi:TI}{g:TG}{tb:TS}{pos:fV}(hp:oO (aV X.prog X.w) X.A X.env X.xe)(hc:X.calm=ak)(hi:PI X tg iter wi)(hg:PG X tg g)(hb:PSs X body tb)
  (hs:∀x,bY iter X.env x=cS x:=by intro _;rfl):PS X (.For tg iter body [] pos) (ZgJ wi g tb):=by
 intro pq s Z H D I h;refine wpAny_For (thn (hi pq s Z H _ I h) λv s1 h1=>thn h1 λitv s2 h2=>?_) hs
 obtain⟨it,fp,tn,J,H2,e,I2,T,st2,f2,W,⟨m0,w0⟩,turn⟩:=h2;subst e;have stat:∀{H':Hp},(∀b∈fp,H' b=af)->∀b∈fp,Vn X pq H' b:=λhn b hb=>#[hn b hb,(f2 b hb).2]
 refine codeAny_forLoop_any (λn s'=>∃i σ' H',Inv X pq σ' H' s'/\tn i s'.heap/\(∀b∈fp,H' b=af)/\W i n σ' H') ?_ m0 #[0,Z,H2,I2,st2,λb hb=>(f2 b hb).1,w0]
 rintro n s3 ⟨i,σ3,H3,I3,st3,fr3,w3⟩
 rcases turn i n σ3 H3 w3 with⟨stop,qn⟩|⟨go,N,hN,step⟩
 .refine fe hp (thn (T.done X rfl rfl rfl hc i pq s3 σ3 H3 X.xe I3 (stat fr3) st3 stop) λr s4 #[hr,I4]=>?_)
  subst hr;exact fS #[σ3,H3,I4,qn]
 .refine fe hp (thn (T.item X rfl rfl rfl hc i pq s3 σ3 H3 X.xe I3 (stat fr3) st3 go) λr s4 #[u,hr,h4]=>?_)
  subst hr;refine fe hp<|thn h4 λ_ s5 #[x,H5,I5,r5,y5,st5,fr5]=>?_
  have I5':=I5.pinned (stat fr5)<|T.obj _ _ st5;refine fe hp<|thn (hg _ s5 σ3 H5 x u _ I5' r5<|step x H5 y5) λ_ s6 #[σ6,H6,I6,q6]=>?_
  refine fe hp<|thn (hb _ s6 σ6 H6 _ I6 q6) λf s7 q7=>?_
  have again:∀{σ7:St}{H7:Hp},Inv X (pq++U9 fp s5.heap) σ7 H7 s7->N σ7 H7->∃m,m<n/\∃i σ' H',Inv X pq σ' H' s7/\tn i s7.heap/\(∀b∈fp,H' b=af)/\W i m σ' H':=λ{σ7 H7} I7 n7=>by
   obtain⟨m',hm,w7⟩:=hN σ7 H7 n7;refine#[m',hm,i+1,σ7,H7,I7.unpinned,T.keep _ _ _ st5 λb hb o e=>(I7.pin (b,o)<|bv _<|bv _<|XJ hb e).1,λb hb=>?_,w7]
   obtain⟨o,e,d⟩:=T.obj _ _ st5 b hb;exact(I7.pin (b,o)<|bv _<|bv _<|XJ hb e).2.1
  cases f with|next=>obtain⟨σ7,H7,I7,n7⟩:=q7;exact again I7 n7|cont=>obtain⟨σ7,H7,I7,n7⟩:=q7;exact again I7 n7|brk=>obtain⟨σ7,H7,I7,q7⟩:=q7;exact#[σ7,H7,I7.unpinned,q7]|ret v=>obtain⟨x7,σ7,H7,I7,r7,q7⟩:=q7;exact#[x7,σ7,H7,I7.unpinned,r7,q7]
end
abbrev R2:=V->V->Hp->VK->Prop
def OpR(X:Cx)(f:au->au->oh au)(r:R2):Prop:=
 ∀(pq:List (aE×fD))(s:ay)(Z:St)(H:Hp)(x y:V)(v u:au)(Q:VK),Inv X pq Z H s->Zz x v->Zz y u->r x y H Q->
  ba (aV X.prog X.w) X.A (f v u) (EP X pq Z Q) X.xe s
def UnR(X:Cx)(f:au->oh au)(r:V->Hp->VK->Prop):Prop:=
 ∀(pq:List (aE×fD))(s:ay)(Z:St)(H:Hp)(x:V)(v:au)(Q:VK),Inv X pq Z H s->Zz x v->r x H Q->
  ba (aV X.prog X.w) X.A (f v) (EP X pq Z Q) X.xe s
def ZG(X:Cx)(f:au)(r:List V->Hp->VK->Prop):Prop:=
 ∀(pq:List (aE×fD))(s:ay)(Z:St)(H:Hp)(xs:List V)(us:List au)(Q:VK),Inv X pq Z H s->Vals xs us->r xs H Q->
  ba (aV X.prog X.w) X.A (call f us) (EP X pq Z Q) X.xe s
def Zgw(X:Cx)(r:V->Hp->(Bool->Hp->Prop)->Prop):Prop:=
 ∀(pq:List (aE×fD))(s:ay)(Z:St)(H:Hp)(x:V)(v:au)(Q:Bool->Hp->Prop),Inv X pq Z H s->Zz x v->r x H Q->
  ba (aV X.prog X.w) X.A (sr v) (TP X pq Z Q) X.xe s
def tOp(r:R2)(ta tb:TE):TE:=λZ H Q=>ta Z H λx H1=>tb Z H1 λy H2=>r x y H2 Q
def tUn(r:V->Hp->VK->Prop)(ta:TE):TE:=λZ H Q=>ta Z H λx H1=>r x H1 Q
def rI(C:Int->Int->Prop)(g:Int->Int->V):R2:=λx y H Q=>∃i j,x=.int i/\y=.int j/\C i j/\Q (g i j) H
def rI0(g:Int->Int->V):R2:=λx y H Q=>∃i j,x=.int i/\y=.int j/\Q (g i j) H
def rU(g:Int->V):V->Hp->VK->Prop:=λx H Q=>∃i,x=.int i/\Q (g i) H
def Zen(ha:PE X a ta)(hb:PE X b tb){pq:List (aE×fD)}{s:ay}{Z:St}{H:Hp}{R:V->V->Hp->Prop}(I:Inv X pq Z H s)
  (h:ta Z H λx H1=>tb Z H1 λy H2=>R x y H2){Q:au->ay->Prop}{f:au->au->oh au}
  (hf:∀v u s2 x y H2,Inv X pq Z H2 s2->Zz x v->Zz y u->R x y H2->ba (aV X.prog X.w) X.A (f v u) Q X.xe s2) :
  ba (aV X.prog X.w) X.A (cr a X.env) (λv s₁=>ba (aV X.prog X.w) X.A (cr b X.env) (λu s₂=>ba (aV X.prog X.w) X.A (f v u) Q X.xe s₂) X.xe s₁) X.xe s:=by
 refine thn (ha pq s Z H _ I h) λv s1 #[x,H1,I1,r1,q1]=>?_
 refine thn (hb pq s1 Z H1 _ I1 q1) λu s2 #[y,H2,I2,r2,q2]=>?_
 exact hf v u s2 x y H2 I2 r1 r2 q2
def V1(ho:OpR X (fm op) r)(ha:PE X a ta)(hb:PE X b tb):PE X (.BinOp a op b pos) (tOp r ta tb):=by
 intro pq s Z H Q I h;exact wpAny_BinOp<|Zen ha hb I h λv u s2 x y H2 I2 rx ry q=>ho pq s2 Z H2 x y v u Q I2 rx ry q
def Zdy{op:UnaryOp}{r:V->Hp->VK->Prop}(ho:UnR X (unaryOp op) r)(ha:PE X a ta):PE X (.UnaryOp op a pos) (tUn r ta):=by
 intro pq s Z H Q I h;exact UnaryOp_<|thn (ha pq s Z H _ I h)<|by rintro v s1 ⟨x,H1,I1,r1,q1⟩;exact ho pq s1 Z H1 x v Q I1 r1 q1
def opI{f:au->au->oh au}{C:Int->Int->Prop}{g:Int->Int->Int}
  (oQ:∀(i j:Int)(t u:rW)(s:ay)(Q:au->ay->Prop)(E:au->ay->Prop),C i j->Q (.int (g i j) s.toks) {s with toks:=s.toks+1}->ba (aV X.prog X.w) X.A (f (.int i t)<|.int j u) Q E s) :
  OpR X f (rI C λi j=>.int<|g i j):=by
 intro pq s Z H x y v u Q I rx ry h;obtain⟨i,j,rfl,rfl,hc,q⟩:=h;obtain⟨t,rfl⟩:=rx;obtain⟨t',rfl⟩:=ry;exact oQ i j t t' s _ _ hc #[.int<|g i j,H,I.tok _,#[_,rfl],q]
def ZeS{f:au->au->oh au}{g:Int->Int->Int}
  (oQ:∀(i j:Int)(t u:rW)(s:ay)(Q:au->ay->Prop)(E:au->ay->Prop),Q (.int (g i j) s.toks) {s with toks:=s.toks+1}->ba (aV X.prog X.w) X.A (f (.int i t)<|.int j u) Q E s) :
  OpR X f (rI0 λi j=>.int<|g i j):=by
 intro pq s Z H x y v u Q I rx ry h;obtain⟨i,j,rfl,rfl,q⟩:=h;obtain⟨t,rfl⟩:=rx;obtain⟨t',rfl⟩:=ry;exact oQ i j t t' s _ _ #[.int<|g i j,H,I.tok _,#[_,rfl],q]
def Zdr{f:au->au->oh au}{g:Int->Int->Bool}
  (oQ:∀(i j:Int)(t u:rW)(s:ay)(Q:au->ay->Prop)(E:au->ay->Prop),Q (.bool<|g i j) s->ba (aV X.prog X.w) X.A (f (.int i t)<|.int j u) Q E s) :
  OpR X f (rI0 λi j=>.bl<|g i j):=by
 intro pq s Z H x y v u Q I rx ry h;obtain⟨i,j,rfl,rfl,q⟩:=h;obtain⟨t,rfl⟩:=rx;obtain⟨t',rfl⟩:=ry;exact oQ i j t t' s _ _ #[.bl<|g i j,H,I,rfl,q]
def CPow(i j:Int):Prop:=0<=j/\j<=1000000/\i.natAbs<2^64
def ZeT:OpR X (fm .Add) (rI0 λi j=>.int<|i+j):=ZeS λ_ _ _ _ _ _ _ q=>add_int q
def Zfj:OpR X (fm .Sub) (rI0 λi j=>.int<|i-j):=ZeS λ_ _ _ _ _ _ _ q=>sub_int q
def Zew:OpR X (fm .Mod) (rI (λ_ j=>0<j) λi j=>.int<|i%j):=opI λi j _ _ _ _ _ hc q=>by
 have h1:=hc;exact mod_int' (by lia) (by rw[Int.fmod_eq_emod_of_nonneg i<|by lia];exact q)
def ZeG:OpR X (fm .Pow) (rI CPow λi j=>.int<|i^j.toNat):=opI λ_ _ _ _ _ _ _ hc q=>pow_int_small hc.1 hc.2.1 hc.2.2 q
def Zc9:OpR X (inplaceOp .Add) (rI0 λi j=>.int<|i+j):=ZeS λ_ _ _ _ _ _ _ q=>iadd_int q
def unI{f:au->oh au}{g:Int->Int}
  (oQ:∀(i:Int)(t:rW)(s:ay)(Q:au->ay->Prop)(E:au->ay->Prop),Q (.int (g i) s.toks) {s with toks:=s.toks+1}->ba (aV X.prog X.w) X.A (f<|.int i t) Q E s) :
  UnR X f (rU λi=>.int<|g i):=by
 intro pq s Z H x v Q I rx h;obtain⟨i,rfl,q⟩:=h;obtain⟨t,rfl⟩:=rx;exact oQ i t s _ _ #[.int<|g i,H,I.tok _,#[_,rfl],q]
def Za9:UnR X (unaryOp .USub) (rU λi=>.int<|-i):=unI λ_ _ _ _ _ q=>neg_int q
noncomputable def scal:V->V->Bool
 |.non,.non=>ak|.non,.int _=>ak|.int _,.non=>ak|.non,.bl _=>ak|.bl _,.non=>ak|.non,.str _=>ak|.str _,.non=>ak
 |.int _,.int _=>ak|.bl _,.bl _=>ak|.str _,.str _=>ak
 |.int _,.str _=>ak|.str _,.int _=>ak|.bl _,.str _=>ak|.str _,.bl _=>ak
 |_,_=>al
def rEq:R2:=λx y H Q=>scal x y=ak/\Q (.bl<|ag<|x=y) H
def rNe:R2:=λx y H Q=>scal x y=ak/\Q (.bl<|!decide (x=y)) H
def vM :ag (V.int i=V.int j)=(i == j):=by
 rw[dz];simp
def jh :ag (V.bl i=V.bl j)=(i == j):=by
 rw[dz];simp
def wT :ag (V.str i=V.str j)=(i == j):=by
 rw[dz];simp
section
variable{X:Cx}{a b c:Expr}{ta tb tc:TE}{pos:fV}
def ZE(I:Inv X pq Z H s)(q:Q (.bl k) H)(e:k=k'):EP X pq Z Q (.bool k') s:=by
 subst e;exact#[.bl k,H,I,rfl,q]
def ZfL:OpR X (cK .Eq) rEq:=by
 intro pq s Z H x y v u Q I rx ry h;obtain⟨hs,q⟩:=h;cases x with
 |non=>
  cases rx;cases y with|non=>cases ry;exact PySem.EqNone.eq_none_none<|ZE I q<|by simp|bl j=>cases ry;exact PySem.EqNone.eq_none_bool<|ZE I q<|by simp|int j=>obtain⟨t',rfl⟩:=ry;exact PySem.EqNone.eq_none_int<|ZE I q<|by simp|str j=>obtain⟨t',rfl⟩:=ry;exact PySem.EqNone.eq_none_str<|ZE I q<|by simp|_=>exact T7 (hs) aN
 |bl i=>
  cases rx;cases y with|non=>cases ry;exact PySem.EqNone.eq_bool_none<|ZE I q<|by simp|bl j=>cases ry;exact eq_bool<|ZE I q jh|str j=>obtain⟨t',rfl⟩:=ry;exact PySem.EqMixed.eq_bool_str<|ZE I q<|by simp|_=>exact T7 (hs) aN
 |int i=>
  obtain⟨t,rfl⟩:=rx;cases y with|non=>cases ry;exact PySem.EqNone.eq_int_none<|ZE I q<|by simp|int j=>obtain⟨t',rfl⟩:=ry;exact eq_int<|ZE I q vM|str j=>obtain⟨t',rfl⟩:=ry;exact PySem.EqMixed.eq_int_str<|ZE I q<|by simp|_=>exact T7 (hs) aN
 |str i=>
  obtain⟨t,rfl⟩:=rx;cases y with|non=>cases ry;exact PySem.EqNone.eq_str_none<|ZE I q<|by simp|bl j=>cases ry;exact PySem.EqMixed.eq_str_bool<|ZE I q<|by simp|int j=>obtain⟨t',rfl⟩:=ry;exact PySem.EqMixed.eq_str_int<|ZE I q<|by simp|str j=>obtain⟨t',rfl⟩:=ry;exact eq_str<|ZE I q wT|_=>exact T7 (hs) aN
 |_=>cases y<;>exact T7 (hs) aN
def ZfG:OpR X (cK .NotEq) rNe:=by
 intro pq s Z H x y v u Q I rx ry h;obtain⟨hs,q⟩:=h;cases x with
 |non=>
  cases rx;cases y with|non=>cases ry;exact PySem.EqNone.ne_none_none<|ZE I q<|by simp|bl j=>cases ry;exact PySem.EqNone.ne_none_bool<|ZE I q<|by simp|int j=>obtain⟨t',rfl⟩:=ry;exact PySem.EqNone.ne_none_int<|ZE I q<|by simp|str j=>obtain⟨t',rfl⟩:=ry;exact PySem.EqNone.ne_none_str<|ZE I q<|by simp|_=>exact T7 (hs) aN
 |bl i=>
  cases rx;cases y with|non=>cases ry;exact PySem.EqNone.ne_bool_none<|ZE I q<|by simp|bl j=>cases ry;exact ne_bool<|ZE I q<|congrArg not jh|str j=>obtain⟨t',rfl⟩:=ry;exact PySem.EqMixed.ne_bool_str<|ZE I q<|by simp|_=>exact T7 (hs) aN
 |int i=>
  obtain⟨t,rfl⟩:=rx;cases y with|non=>cases ry;exact PySem.EqNone.ne_int_none<|ZE I q<|by simp|int j=>obtain⟨t',rfl⟩:=ry;exact ne_int<|ZE I q<|congrArg not vM|str j=>obtain⟨t',rfl⟩:=ry;exact PySem.EqMixed.ne_int_str<|ZE I q<|by simp|_=>exact T7 (hs) aN
 |str i=>
  obtain⟨t,rfl⟩:=rx;cases y with|non=>cases ry;exact PySem.EqNone.ne_str_none<|ZE I q<|by simp|bl j=>cases ry;exact PySem.EqMixed.ne_str_bool<|ZE I q<|by simp|int j=>obtain⟨t',rfl⟩:=ry;exact PySem.EqMixed.ne_str_int<|ZE I q<|by simp|str j=>obtain⟨t',rfl⟩:=ry;exact ne_str<|ZE I q<|congrArg not wT|_=>exact T7 (hs) aN
 |_=>cases y<;>exact T7 (hs) aN
def Zf6:OpR X (cK .Lt) (rI0 λi j=>.bl<|ag<|i<j):=Zdr λ_ _ _ _ _ _ _ q=>lt_int q
def Zga:OpR X (cK .LtE) (rI0 λi j=>.bl<|ag<|i<=j):=Zdr λ_ _ _ _ _ _ _ q=>le_int q
def Zf7:OpR X (cK .Gt) (rI0 λi j=>.bl<|ag<|j<i):=Zdr λ_ _ _ _ _ _ _ q=>gt_int q
def ZfT:OpR X (cK .GtE) (rI0 λi j=>.bl<|ag<|j<=i):=Zdr λ_ _ _ _ _ _ _ q=>ge_int q
def Zeh:OpR X (cK .Is) (λx y H Q=>y=.non/\Q (.bl<|ag<|x=.non) H):=by
 intro pq s Z H x y v u Q I rx ry h;obtain⟨rfl,q⟩:=h;cases ry;refine is_none_gen<|ZE I q ?_;cases x<;>first
  |(cases rx;rfl)
  |(obtain⟨t,rfl⟩:=rx;rfl)
def OpR.or(h:OpR X f r)(h':OpR X f r'):OpR X f (λx y H Q=>r x y H Q\/r' x y H Q):=by
 intro pq s Z H x y v u Q I rx ry q;rcases q with q|q
 .exact h pq s Z H x y v u Q I rx ry q
 .exact h' pq s Z H x y v u Q I rx ry q
def xk(b:Expr)(h:op≠.In:=by decide)(h2:op≠.NotIn:=by decide):eM op b=al:=by
 have e1:(op == sB.In)=al:=by cases op<;>first|rfl|exact T7 rfl h
 have e2:(op == sB.NotIn)=al:=by cases op<;>first|rfl|exact T7 rfl h2
 cases b<;>simp[eM,e1,e2]
def Zdt(ho:OpR X (cK op) r)(ha:PE X a ta)(hb:PE X b tb)(hm:eM op b=al):PE X (.Compare a [op] [b] pos) (tOp r ta tb):=by
 intro pq s Z H Q I h;exact wpAny_Compare1 (Zen ha hb I h λv u s2 x y H2 I2 rx ry q=>ho pq s2 Z H2 x y v u Q I2 rx ry q) hm
def ZfJ(t:TE):TT:=λZ H Q=>t Z H λx H'=>∃k,x=.bl k/\Q k H'
def Zdk(ho:OpR X (cK op) r)(ha:PE X a ta)(hb:PE X b tb)(hm:eM op b=al):PT X (.Compare a [op] [b] pos) (ZfJ<|tOp r ta tb):=by
 intro pq s Z H Q I h;refine mG (thn (ha pq s Z H _ I h) λv s1 #[x,H1,I1,r1,q1]=>thn (hb pq s1 Z H1 _ I1 q1) λu s2 #[y,H2,I2,r2,q2]=>
  thn (ho pq s2 Z H2 x y v u _ I2 r1 r2 q2) λc s3 #[z,H3,I3,r3,k,e,q3]=>?_) hm
 subst e;cases r3;exact ee #[H3,I3,q3]
def Zei(r r':R2)(ta tb tc:TE):TE:=λZ H Q=>ta Z H λx H1=>tb Z H1 λy H2=>r x y H2 λz H3=>∃k,z=.bl k/\
 (if k=ak then tc Z H3 λw' H4=>r' y w' H4 Q else Q (.bl al) H3)
def jv(ho:OpR X (cK op) r)(ho':OpR X (cK op') r')(ha:PE X a ta)(hb:PE X b tb)(hc:PE X c tc)
  (hm:lastMarks [op,op'] [b,c]=al:=by with_unfolding_all rfl):PE X (.Compare a [op,op'] [b,c] pos) (Zei r r' ta tb tc):=by
 intro pq s Z H Q I h;refine Compare_chain (thn (ha pq s Z H _ I h) λv s1 #[x,H1,I1,r1,q1]=>chain_link (thn (hb pq s1 Z H1 _ I1 q1) λu s2 #[y,H2,I2,r2,q2]=>
  thn (ho pq s2 Z H2 x y v u _ I2 r1 r2 q2) λd s3 #[z,H3,I3,r3,k,e,q3]=>?_)) hm
 subst e;cases r3;refine ee ?_;cases k with|false=>exact ite_ff #[.bl al,H3,I3,rfl,q3]|true=>exact ite_tt<|chain_last<|thn (hc pq s3 Z H3 _ I3 q3)<|by rintro w' s4 ⟨z',H4,I4,r4,q4⟩;exact ho' pq s4 Z H4 y z' u w' Q I4 r2 r4 q4
def Zc3(K:am)(x:V)(H:Hp)(k:Bool):Prop:=
 match x with
 |.non=>k=al
 |.bl b=>k=b
 |.int i=>k=(i != 0)
 |.str y=>y.length<=bn/\k=((y.length:Int) != 0)
 |.ref p=>(∃xs,SqL K H p xs/\k = !xs.isEmpty)\/(∃xs,SqT K H p xs/\k = !xs.isEmpty)\/∃kvs,H p=aa (.dK kvs)/\k = !kvs.isEmpty
 |_=>False
def wF{κ:Type}{kvs:List (κ×V)}{vs:List (κ×au)}(r:KV kvs vs):(!vs.isEmpty) = !kvs.isEmpty:=by
 cases r<;>rfl
def Qj{xs:List V}{its:List au}(r:Vals xs its):(!its.toArray.isEmpty) = !xs.isEmpty:=by
 cases r<;>simp
def UU:(bn:Nat)<2^63:=by rw[dv];decide
theorem Zbz:Zgw X (λx H Q=>∃k,Zc3 X.K x H k/\Q k H):=by
 intro pq s Z H x v Q I rx h;obtain⟨k,e,q⟩:=h;have hl:=UU;have hs:=dv;cases x with
 |non=>
  cases rx;have e':=e;subst e';exact truthy_none #[H,I,q]
 |bl b=>
  cases rx;have e':k=b:=e;subst e';exact ee #[H,I,q]
 |int i=>
  obtain⟨t,rfl⟩:=rx;have e':=e;subst e';exact nO #[H,I,q]
 |str y=>
  obtain⟨t,rfl⟩:=rx;obtain⟨hy,e'⟩:=e;subst e';exact PySem.P.truthy_str (by lia) #[H,I.tok _,q]
 |ref p=>
  cases rx;have e':=e;rcases e' with⟨xs,hx,e'⟩|⟨xs,hx,e'⟩|⟨kvs,hx,e'⟩
  .subst e'
   obtain⟨its,r,pl,hz⟩:=I.list hx;have hlen:=r.length;exact wpAny_truthy_list pl.isList (by simp only[az];lia) #[H,I.tok _,by rw[Qj r];exact q]
  .subst e'
   obtain⟨its,r,pl,hz⟩:=I.tuple hx;have hlen:=r.length;exact truthy_tuple pl (by simp only[az];lia) #[H,I.tok _,by rw[Qj r];exact q]
  .subst e'
   obtain⟨hz,hS,vs,r,m⟩:=I.hok p _ hx;have hlen:=Paired.length r;exact wpAny_truthy_dict hS m (by lia) #[H,I.tok _,by rw[wF r];exact q]
 |_=>exact(e).elim
def ZaA(ha:PE X a ta)(he:∀whole,isTrue a X.env whole=(do let v <-whole;lm a.pos;i5 [v] (sr v))) :
  PT X a (λZ H Q=>ta Z H λx H'=>∃k,Zc3 X.K x H' k/\Q k H'):=by
 intro pq s Z H Q I h;exact isTrue_plain (thn (ha pq s Z H _ I h)<|by rintro v s1 ⟨x,H1,I1,r1,q1⟩;exact Zbz pq s1 Z H1 x v Q I1 r1 q1)<|he _
def Wv(r:Vals [x] us):∃u,us=[u]/\Zz x u:=by
 cases r with|cons r1 r2=>cases r2;exact#[_,rfl,r1]
def zO(r:Vals [x,y] us):∃u w',us=[u,w']/\Zz x u/\Zz y w':=by
 cases r with
 |cons r1 r2=>
  cases r2 with|cons r3 r4=>cases r4;exact#[_,_,rfl,r1,r3]
def u9(hc:X.calm=ak):ZG X (.builtin "max") (λxs H Q=>∃i j,xs=[.int i,.int j]/\Q (.int (if j>i then j else i)) H):=by
 intro pq s Z H xs us Q I r h;obtain⟨i,j,rfl,q⟩:=h;obtain⟨u,w',rfl,⟨t,rfl⟩,⟨t',rfl⟩⟩:=zO r;refine max_two_ints (I.ok.hd hc) λh' tk k=>#[_,H,I.kept k,?_,q]
 by_cases hj:j>i
 .rw[T9 hj,T9 hj];exact#[_,rfl]
 .rw[T8 hj,T8 hj];exact#[_,rfl]
def qa(hc:X.calm=ak):ZG X (.builtin "min") (λxs H Q=>∃i j,xs=[.int i,.int j]/\Q (.int (if j<i then j else i)) H):=by
 intro pq s Z H xs us Q I r h;obtain⟨i,j,rfl,q⟩:=h;obtain⟨u,w',rfl,⟨t,rfl⟩,⟨t',rfl⟩⟩:=zO r;refine min_two_ints (I.ok.hd hc) λh' tk k=>#[_,H,I.kept k,?_,q]
 by_cases hj:j<i
 .rw[T9 hj,T9 hj];exact#[_,rfl]
 .rw[T8 hj,T8 hj];exact#[_,rfl]
def uS:ZG X (.type "int") (λxs H Q=>(∃i,xs=[.int i]/\Q (.int i) H)\/∃k,xs=[.bl k]/\Q (.int (if k then 1 else 0)) H):=by
 intro pq s Z H xs us Q I r h;rcases h with⟨i,rfl,q⟩|⟨k,rfl,q⟩
 .obtain⟨u,rfl,t,rfl⟩:=Wv r
  exact call_int_int #[.int i,H,I,#[_,rfl],q]
 .obtain⟨u,rfl,r1⟩:=Wv r
  cases r1;exact call_int_bool #[.int (if k then 1 else 0),H,I.tok _,#[_,rfl],q]
end
structure ObjM(h:cw)(x dx C:aE)(mA:bi->Option au):Prop where
 obj:h.get? x=aa (PySem.W.instObj C dx)
 ns:h.Ns1 dx mA
 ne:dx≠x
section
variable{P:bB}{w:bS}{H H':Hp}{h h':cw}{a C dx:aE}{fs fs':List (bi×V)}
end
structure Cls(K:am)(C:aE):Prop where
 pg:oR K C bi.empty=ak
 hd:PySem.W.hasDictIn K C=ak
 po:PySem.W.plainOver K C=ak
 sa:PySem.W.findIn K (.ref C) "__setattr__" = aa (aa<|.builtin "object.__setattr__")
def Cls.get{K:am}{C:aE}(c:Cls K C)(f:bi):oR K C f=ak:=c.pg
section
variable{X:Cx}{pq:List (aE×fD)}{Z:St}{H:Hp}{s:ay}{A:cx}{E:au->ay->Prop}{Q:au->ay->Prop}{c:au}{b:Bool}
inductive TyOf(K:am)(H:Hp):V->au->Prop where
 |non:TyOf K H .non (.type "NoneType")
 |bl (x:Bool):TyOf K H (.bl x) (.type "bool")
 |int (i:Int):TyOf K H (.int i) (.type "int")
 |str (x:bi):TyOf K H (.str x) (.type "str")
 |lst {a:aE} {xs:List V} (e:H a=aa (.lst xs)):TyOf K H (.ref a) (.type "list")
 |frz {a:aE} {o:fD} {xs:List V} (e:H a=aa (.frz o<|.lst xs)):TyOf K H (.ref a) (.type "list")
 |tup {a:aE} {xs:List V} (e:H a=aa (.tup xs)):TyOf K H (.ref a) (.type "tuple")
 |dK {a:aE} {kvs:List (Key×V)} (e:H a=aa (.dK kvs)):TyOf K H (.ref a) (.type "dict")
 |dT {a:aE} {kvs:List (List Key×V)} (e:H a=aa (.dT kvs)):TyOf K H (.ref a) (.type "dict")
def qA(I:Inv X pq Z H s)(rx:Zz x u)(ty:TyOf X.K H x t)(e:gp X.K t c=aa b)(h:∀tk,Q (.bool b) {s with toks:=tk}) :
  ba (aV X.prog X.w) A (call (.builtin "isinstance") [u,c]) Q E s:=by
 cases ty with
 |non=>cases(show u=bz from rx);exact dA oi I.kIn eB e (λz=>nomatch z) h
 |bl y=>cases(rx);exact dA oj I.kIn eB e (λz=>nomatch z) h
 |int i=>obtain⟨t,q⟩:=(rx);cases q;exact dA oS I.kIn eB e (λz=>nomatch z) h
 |str y=>obtain⟨t,q⟩:=(rx);cases q;exact dA oU I.kIn eB e (λz=>nomatch z) h
 |@lst a xs ea=>
  cases(rx)
  obtain⟨_,_,n,_,h1⟩:=(I.hok a _ ea)
  exact dA im I.kIn #[_,h1,rfl] e (λz=>nomatch z) h
 |@frz a ob xs ea=>
  cases(rx)
  obtain⟨_,_,_,n,_,h1⟩:=(I.hok a _ ea)
  exact dA im I.kIn #[_,h1,rfl] e (λz=>nomatch z) h
 |@tup a xs ea=>
  cases(rx)
  obtain⟨_,_,_,p⟩:=(I.hok a _ ea)
  obtain⟨o,h1,h2,_⟩:=p;exact dA nP I.kIn #[o,h1,h2] e (λz=>nomatch z) h
 |@dK a kvs ea=>
  cases(show u=de a from rx)
  obtain⟨_,_,vs,_,p⟩:=(I.hok a _ ea)
  obtain⟨o,es,ep,h1,h2,_⟩:=p;exact dA ip I.kIn #[o,h1,h2.1] e (λz=>nomatch z) h
 |@dT a kvs ea=>
  cases(show u=de a from rx)
  obtain⟨_,_,xs,_,o,es,ep,h1,h2,_⟩:=(I.hok a _ ea)
  exact dA ip I.kIn #[o,h1,h2.1] e (λz=>nomatch z) h
end
structure Room(k:Nat)(A:cx):Prop where
 hd:A.handled=af
 dp:A.depth+3*k+5<recursionLimit
 un:A.units+16*k+200<dD
def Room.mono(r:Room k A)(h:j<=k):Room j A:=#[r.hd,by have:=r.dp;lia,by have:=r.un;lia]
theorem Room.deeper(r:Room (k+1) A)(env:Env):Room k (A.deeper env):=
 #[r.hd,by have:=r.dp;show A.depth+1+3*k+5<_;lia,by have:=r.un;show A.units+3+16*k+200<_;lia]
theorem Room.depth(r:Room k A):A.depth<recursionLimit:=by have:=r.dp;lia
def GM:TA:=λ_ H Q=>Q [] H
def YS(ta:TE)(tr:TA):TA:=λZ H Q=>ta Z H λx H1=>tr Z H1 λxs H2=>Q (x::xs) H2
section
variable{X:Cx}{e:Expr}{es:List Expr}{te:TE}{t:TA}{pos:fV}
def Yi:PA X [] GM:=λ_ _ _ _ H Q I h=>Calls.spliced_nil #[[],H,I,.nil,h]
def Zx(ha:PE X e te)(hr:PA X es t)(hs:aA (e::es) X.env=(al,cr e X.env)::aA es X.env:=by rfl):PA X (e::es) (YS te t):=by
 intro pos pq s Z H Q I h;rw[hs];refine Calls.spliced_cons<|thn (ha pq s Z H _ I h) λu s1 #[x,H1,I1,r1,q1]=>?_
 exact thn (hr pos pq s1 Z H1 _ I1 q1)<|by rintro us s2 ⟨xs,H2,I2,r2,q2⟩;exact #[x::xs,H2,I2,.cons r1 r2,q2]
def Zgi(t:TA):TE:=λZ H Q=>t Z H λxs H1=>xs.length<=bn/\∀p,H1 p=af->Q (.ref p) (upd H1 p<|.tup xs)
def uG(t:TA):TE:=λZ H Q=>t Z H λxs H1=>xs.length<=bn/\∀p,H1 p=af->Q (.ref p) (upd H1 p<|.lst xs)
def jO{x1}(h:PA X es t):PE X (.Tuple es x1 pos) (Zgi t):=by
 intro pq s Z H Q I hq;refine wpAny_Tuple_spliced<|thn (h pos pq s Z H _ I hq) λus s1 #[xs,H1,I1,r,z,q]=>#[by rw[<-r.length];exact z,?_]
 have hf:=I1.hok.fresh<|aJ _;refine#[.ref s1.heap.objs.size,upd H1 s1.heap.objs.size<|.tup xs,I1.laid (t':=s1.toks) (λb u e=>aw _ e) (aJ _) ?_,rfl,q _ hf]
 exact#[z,us,r,#[_,aO _ rfl,rfl,_,rfl]]
def QK(h:PA X es t):PE X (.List es pos) (uG t):=by
 intro pq s Z H Q I hq;refine wpAny_List_spliced<|thn (h pos pq s Z H _ I hq) λus s1 #[xs,H1,I1,r,z,q]=>#[by rw[<-r.length];exact z,?_]
 have hf:=I1.hok.fresh<|aJ _;refine#[.ref s1.heap.objs.size,upd H1 s1.heap.objs.size<|.lst xs,I1.laid (t':=s1.toks) (λb u e=>aw _ e) (aJ _) ?_,rfl,q _ hf]
 exact#[z,us,0,r,aO _ rfl]
end
abbrev Sp:=List V->Hp->VK->XK->Prop
abbrev CXT:=List Env->Hp->ay->XK->au->ay->Prop
structure Env0(P:bB)(w:bS)(K:am)(mg:bi->Option au)(base:cw)(A:cx)(outer:List Env)(s:ay)(H:Hp):Prop where
 frames:A.frames=aa outer
 mod:Mod K mg base
 bs:∀b o,base.get? b=aa o->s.heap.get? b=aa o/\H b=af
 bsz:base.objs.size<=s.heap.objs.size
 funs:s.heap.FunFrames base outer
 frf:∀b∈frs outer,H b=af
 hok:HOk P w H s.heap
 bare:i4 s.gens
def CE(outer:List Env)(P:bB)(w:bS)(H:Hp)(s:ay)(Q:VK)(u:au)(s':ay):Prop:=
 ∃v H',s'.os=s.os/\i4 s'.gens/\Un (frs outer) [] H H' s.heap s'.heap/\HOk P w H' s'.heap/\Zz v u/\Q v H'
def CR(CX:CXT)(outer:List Env)(P:bB)(w:bS)(H:Hp)(s:ay)(Q:VK)(E:XK)(r:oV)(s':ay):Prop:=
 match r with
 |.ok (.ret u)=>CE outer P w H s Q u s'
 |.ok _=>False
 |.error e=>CX outer H s E e s'
structure FnOk(P:bB)(w:bS)(K:am)(mg:bi->Option au)(base:cw)(CX:CXT)(k:Nat)(f:aE)(fd:cM)(ps:List bi)(sp:Sp):Prop where
 len:∀vs H Q E,sp vs H Q E->vs.length=ps.length
 run:∀(A:cx)(outer:List Env)(s:ay)(H:Hp)(args:Args)(us:List au)(vs:List V)(Q:VK)(E:XK),Room k A->Env0 P w K mg base A outer s H->m8 s fd args (ps.zip us)->Vals vs us->sp vs H Q E->
  eJ (aV P w) A (.call (.ref f) args) (CR CX outer P w H s Q E) s
section
variable{X:Cx}{pq:List (aE×fD)}{Z:St}{H:Hp}{s s':ay}
def Inv.env0(I:Inv X pq Z H s):Env0 X.prog X.w X.K X.mg X.base X.A X.stack s H:=
 #[I.ok.frames,I.ok.mod,I.bs,bX I.ok.bsz I.sz,I.stack,I.stkFree,I.hok,I.bare]
def Inv.after(I:Inv X pq Z H s)(h:CE X.stack X.prog X.w H s Q u s'):EP X pq Z Q u s':=by
 obtain⟨v,H',os,bare,un,hok,r,q⟩:=h;obtain⟨hh,g,d,t,os'⟩:=s';obtain rfl:os'=s.os:=os;exact#[v,H',I.call (h':=hh) (g':=g) (d':=d) (t':=t) un hok bare (λb z=>T7 z<|by simp),r,q]
end
def ZdU(sp:Sp)(dvs:List V)(E:XK)(t:TA):TE:=λZ H Q=>t Z H λvs H1=>sp (vs++dvs) H1 Q E
def VX(K:am)(fd:cM)(ps:List bi)(ds:List au):Prop:=
 ∀(s:ay)(us:List au),K.In s.heap->(us++ds).length=ps.length->m8 s fd #[us,[]] (ps.zip<|us++ds)
def VX.all{K:am}{fd:cM}{ps:List bi}(h:∀us:List au,us.length=ps.length->mR fd #[us,[]]=cS (ps.zip us)):VX K fd ps []:=λs us _ hl=>by
 rw[cQ]at hl ⊢;exact .of_eq<|h us hl
def UZ(CX:CXT)(X:Cx)(E:XK):Prop:=∀(pq:List (aE×fD))(Z:St)(H:Hp)(s:ay)(e:au)(s':ay),Inv X pq Z H s->CX X.stack H s E e s'->X.xe e s'
section
variable{X:Cx}{CX:CXT}{k:Nat}{f C:aE}{fd:cM}{ps:List bi}{sp:Sp}{dvs:List V}{ds:List au}{E:XK}{x m:bi}{p pos apos:fV}{e o:Expr}{es:List Expr}{ta:TE}{t:TA}
def ZeZ(F:FnOk X.prog X.w X.K X.mg X.base CX k f fd ps sp)(hr:Room k X.A)(hb:VX X.K fd ps ds)(hd:Vals dvs ds)(hx:UZ CX X E)
  (I:Inv X pq Z H s)(r:Vals vs us)(h:sp (vs++dvs) H Q E):ba (aV X.prog X.w) X.A (call (.ref f) us) (EP X pq Z Q) X.xe s:=by
 have r2:=r.append hd;have hl:(us++ds).length=ps.length:=by rw[<-r2.length];exact F.len _ _ _ _ h
 refine rh<|kH (F.run X.A X.stack s H #[us,[]] (us++ds) (vs++dvs) Q E hr I.env0 (hb s us I.kIn hl) r2 h) λr s' hq=>?_
 cases r with
 |error e=>exact hx pq Z H s e s' I hq
 |ok fl=>
  cases fl with|ret u=>exact I.after hq|next=>exact False.elim hq|brk=>exact False.elim hq|cont=>exact False.elim hq
def uh(F:FnOk X.prog X.w X.K X.mg X.base CX k f fd ps sp)(hr:Room k X.A)(hg:Gl X x)(hm:X.mg x=aa (.ref f))(hk:gq X.K (.ref f)=ak)(hb:VX X.K fd ps ds)(hd:Vals dvs ds)(hx:UZ CX X E)
  (ha:PA X (e::es) t)(hdb:(x == ("__debug__" : bi))=al:=by decide)(he:aA (e::es) X.env=(al,cr e X.env)::aA es X.env:=by rfl)(hpl:(dq pos<|aA es X.env).any (·.1)=al:=by rfl) :
  PE X (.Call (.Name x p) (e::es) [] pos) (ZdU sp dvs E t):=by
 intro pq s Z H Q I h;refine eU<|Vm I hg hm ?_ hdb;refine nQ I.ok.mod.kin hk (thn (ha pos pq s Z H _ I h) λus s1 #[vs,H1,I1,r,q]=>#[I1.kIn,?_]) he hpl
 exact ZeZ F hr hb hd hx I1 r q
end
structure FnScope(N P:List bi)(sc:d6):Prop where
 kind:sc.kind=.function
 co:sc.isCoroutine=al
 gen:sc.isGenerator=al
 nd:N.Nodup
 pre:N.take P.length=P
 par:∀x∈P,sc.names.lookup x=aa .local\/sc.names.lookup x=aa .cell
 nofree:∀y∈sc.names,y.2≠.free
theorem Jj{kindOf:bi->Option fG}{x:bi}:∀{binds:List (bi×au)}{m:bi->Option au},(∀v,(x,v)∉binds)->sj kindOf binds m x=m x
 |[],_,_=>rfl
 |(n,v)::r,m,h=>by
  unfold sj;rw[Jj λw hw=>h w<|ao _ hw]
  split
  .have:x≠n:=by rintro rfl;exact h v aj
   simp[this]
  .rfl
theorem Jz{kindOf:bi->Option fG}{x:bi}:∀{binds:List (bi×au)}{m:bi->Option au},(∀v,(x,v)∉binds)->sk kindOf binds m x=m x
 |[],_,_=>rfl
 |(n,v)::r,m,h=>by
  unfold sk;rw[Jz λw hw=>h w<|ao _ hw]
  split
  .rfl
  .have:x≠n:=by rintro rfl;exact h v aj
   simp[this]
theorem JL{kindOf:bi->Option fG}{x:bi}{v:au}:∀{P:List bi}{vs:List au}{i:Nat}{m:bi->Option au},P.Nodup->P[i]?=aa x->vs[i]?=aa v->kindOf x=aa .local->
  sj kindOf (P.zip vs) m x=aa v
 |[],_,_,_,_,h,_,_=>by simp at h
 |_::_,[],_,_,_,_,h,_=>by simp at h
 |p::P,w::vs,0,m,nd,h1,h2,hk=>by
  simp at h1 h2;subst h1;subst h2;show sj kindOf ((p,w)::P.zip vs) m p=_;unfold sj;rw[Jj λv hv=>(cY.mp nd).1 (fT hv).1,T9 hk]
  simp
 |p::P,w::vs,i+1,m,nd,h1,h2,hk=>by
  unfold sj;exact JL (cY.mp nd).2 (by simpa using h1) (by simpa using h2) hk
theorem JR{kindOf:bi->Option fG}{x:bi}{v:au}:∀{P:List bi}{vs:List au}{i:Nat}{m:bi->Option au},P.Nodup->P[i]?=aa x->vs[i]?=aa v->kindOf x≠aa .local->
  sk kindOf (P.zip vs) m x=aa v
 |[],_,_,_,_,h,_,_=>by simp at h
 |_::_,[],_,_,_,_,h,_=>by simp at h
 |p::P,w::vs,0,m,nd,h1,h2,hk=>by
  simp at h1 h2;subst h1;subst h2;show sk kindOf ((p,w)::P.zip vs) m p=_;unfold sk;rw[Jz λv hv=>(cY.mp nd).1 (fT hv).1,T8 hk]
  simp
 |p::P,w::vs,i+1,m,nd,h1,h2,hk=>by
  unfold sk;exact JR (cY.mp nd).2 (by simpa using h1) (by simpa using h2) hk
noncomputable def start(N:List bi)(vs:List V):St:=vs.map aa++aH (N.length-vs.length) af
noncomputable def XX(CX:CXT)(P:bB)(w:bS)(K:am)(mg:bi->Option au)(base:cw)(N:List bi)(qual:bi)(scope:d6)(f:aE)(cd:au)(A:cx)(outer:List Env)(s:ay)(H:Hp)(E:XK):Cx where
 prog:=P
 w:=w
 K:=K
 mg:=mg
 base:=base
 A:=A.deeper<|dS qual scope s.heap.objs.size f cd
 N:=N
 s₀:=s
 H₀:=H
 env:=dS qual scope s.heap.objs.size f cd
 outer:=outer
 stack:=dS qual scope s.heap.objs.size f cd::outer
 ex:=[]
 calm:=ak
 fn:=λ_=>ak
 pn:=[]
 xe:=λe s'=>ba (aV P w) (A.deeper<|dS qual scope s.heap.objs.size f cd) (leaving (dS qual scope s.heap.objs.size f cd) e) (λ_ s''=>CX outer H s E e s'') (λe' s''=>CX outer H s E e' s'') s'
def Qq{sc:d6}{n:Nat}{x:bi}(h:sc.names.lookup x=aa .cell):∃c,(iR n sc.names []).lookup x=aa c:=by
 have q:=iq sc.names n []<|.inl h;exact fB.mp q
def JF{CX:CXT}{P:bB}{w:bS}{K:am}{mg:bi->Option au}{base:cw}{N ps:List bi}{qual:bi}{scope:d6}{f:aE}{cd:au}{A:cx}{outer:List Env}{s s1:ay}{H:Hp}{E:XK}{us:List au}{vs:List V}
  (S:FnScope N ps scope)(hd:A.handled=af)(e0:Env0 P w K mg base A outer s H)(hl:vs.length=ps.length)(r:Vals vs us)
  (x:InCallC s s.heap.objs.size (sj (dS qual scope s.heap.objs.size f cd).kindOf (ps.zip us) λ_=>af) (iR (s.heap.objs.size+1) scope.names []) (sk (dS qual scope s.heap.objs.size f cd).kindOf (ps.zip us) λ_=>af) s1) :
  Inv (XX CX P w K mg base N qual scope f cd A outer s H E) [] (start N vs) H s1:=by
 have hpl:ps.length<=N.length:=by have:=congrArg lu S.pre;rw[bC]at this;lia
 obtain⟨h1,tk,rfl,hk⟩:=x.done;have noA:∀b:aE,b∉(XX CX P w K mg base N qual scope f cd A outer s H E).ex:=λb z=>T7 (show b∈([]:List aE)from z) (by simp)
 refine#[#[e0.mod,S.kind,rfl,rfl,aJ _,λy z c h1 h2=>?_,λy hy=>?_,λy c _ h=>?_,λ_=>hd,mS e0.frames,.inr #[rfl,rfl],λb z=>T7 z<|noA b,e0.bs,e0.bsz,λb _ _=>noA b,λb z=>T7 z<|noA b,e0.funs,e0.frf],
  rfl,e0.bare,Un.kept hk,#[_,x.toInCall.ns,λi y v h1 h2 h3=>?_],λy c h=>#[_,x.cell y c h],e0.hok.fresh<|aJ _,λy c h=>?_,λp hp=>T7 (show p∈([]:List (aE×fD))from hp) (by simp),e0.hok.kept hk,?_]
 .exact name_of_addr x.apart (dM h1)<|dM h2
 .have hy:=hy
  rcases hy with hy|hy
  .exact Qq hy
  .exact T7 rfl<|S.nofree _<|dM hy
 .exact kG<|x.above y c<|dM h
 .have hi:i<vs.length:=by
   unfold start at h2;by_cases hi:i<vs.length
   .exact hi
   .rw[bu<|by simpa using hi]at h2
    rw[cB]at h2;split at h2<;>cases h2
  have ha:vs[i]?=aa v:=by
   unfold start at h2;rw[bR (by simpa using hi),aQ]at h2
   cases e:vs[i]? with|none=>rw[e]at h2;cases h2|some a=>rw[e]at h2;cases h2;rfl
  obtain⟨u,hu,rv⟩:=r.get ha;have hp:ps[i]?=aa y:=by
   rw[<-S.pre,List.getElem?_take_of_lt<|by lia];exact h1
  have ndP:ps.Nodup:=by rw[<-S.pre];exact S.nd.sublist<|om _ _
  refine#[u,rv,?_];rcases S.par y (cU hp)with k|k
  .exact .inl #[k,JL ndP hp hu k]
  .obtain⟨c,e⟩:=Qq k
   refine .inr #[.inl k,c,e,?_];have q:=x.cell y c e;rw[JR ndP hp hu<|by show scope.names.lookup y≠_;rw[k];decide]at q
   exact q
 .exact e0.hok.fresh<|kG<|x.above y c<|dM h
 .unfold start
  show _=N.length;rw[aU,ax,cA];lia
def ZdG{CX:CXT}{P:bB}{w:bS}{K:am}{mg:bi->Option au}{base:cw}{k:Nat}{f:aE}{name qual:bi}{params:oW}{body:List eO}{scope:d6}{dV kV doc pm cdv ct oc:au}{an od:Option aE}
  {osl:Array (Option au)}{N ps:List bi}{sp:Sp}(lk:K.lookup f=aa #[oc,od,.func<|eK name qual params body scope dV kV doc pm an cdv ct,osl])(hcd:kN K cdv qual=ak)(S:FnScope N ps scope)
  (len:∀vs H Q E,sp vs H Q E->vs.length=ps.length)
  (hbody:∀(A:cx)(outer:List Env)(s:ay)(H:Hp)(vs:List V)(Q:VK)(E:XK),Room k (A.deeper<|dS qual scope s.heap.objs.size f cdv)->sp vs H Q E->
   ∃t,PSs (XX CX P w K mg base N qual scope f cdv A outer s H E) body t/\t {nx:=λ_ H'=>Q .non H',rt:=Q} (start N vs) H) :
  FnOk P w K mg base CX (k+1) f (eK name qual params body scope dV kV doc pm an cdv ct) ps sp:=by
 refine#[len,λA outer s H args us vs Q E hr e0 hb r hsp=>?_]
 have hl:=len _ _ _ _ hsp;have KX:=e0.mod.kin.keeps λb o e=>(e0.bs b o e).1
 have lim:=e0.mod.nolimit.keeps λb o e=>(e0.bs b o e).1
 have hkind:∀y∈ps.zip us,scope.names.lookup y.1=aa .local\/(scope.names.lookup y.1=aa .cell/\((iR (s.heap.objs.size+1) scope.names []).lookup y.1).isSome=ak):=by
  rintro ⟨n,v⟩ hy;rcases S.par n (fT hy).1 with q|q
  .exact .inl q
  .exact .inr #[q,iq _ _ _<|.inl q]
 refine mI hr.depth (KX _ _ lk) rfl S.co S.gen rfl (nS KX hcd)<|hb _ _ _ _ ?_;refine kO S.kind hkind λenv he s1 x=>?_
 subst he;refine#[lim.keeps x.toInCall.keep,codeAny_func ?_];obtain⟨t,ht,hq⟩:=hbody A outer s H vs Q E (hr.deeper _) hsp;have I:Inv (XX CX P w K mg base N qual scope f cdv A outer s H E) [] (start N vs) H s1:=JF S hr.hd e0 hl r x;refine cR (ht [] s1 (start N vs) H _ I hq) (λfl s' hs=>?_) λe s' hs=>hs
 have fin:∀{σ':St}{H':Hp}{v:V}{u:au},Inv (XX CX P w K mg base N qual scope f cdv A outer s H E) [] σ' H' s'->Zz v u->Q v H'->CE outer P w H s Q u s':=
  λ{σ' H' v u} J rv q=>#[v,H',J.os,J.bare,J.base,J.hok,rv,q]
 cases fl with
 |ret u=>
  obtain⟨v,σ',H',J,rv,q⟩:=hs;exact fin J rv q
 |next=>
  obtain⟨σ',H',J,q⟩:=hs;exact fin (v:=V.non) J rfl q
 |brk=>
  obtain⟨_,_,_,q⟩:=hs;exact False.elim q
 |cont=>
  obtain⟨_,_,_,q⟩:=hs;exact False.elim q
section
variable{X:Cx}{x:bi}{p pos:fV}{e:Expr}{es:List Expr}{t:TA}{id T:String}{r:List V->Hp->VK->Prop}
def tCB(r:List V->Hp->VK->Prop)(t:TA):TE:=λZ H Q=>t Z H λvs H1=>r vs H1 Q
def Xs(hc:ZG X (.builtin id) r)(hg:Gl X x)(hm:X.mg x=af)(hv:dg x=aa (.builtin id))(ha:PA X (e::es) t)(hn:x≠"__name__":=by decide)(hdb:(x == ("__debug__" : bi))=al:=by decide)
  (he:aA (e::es) X.env=(al,cr e X.env)::aA es X.env:=by rfl)(hpl:(dq pos<|aA es X.env).any (·.1)=al:=by rfl):PE X (.Call (.Name x p) (e::es) [] pos) (tCB r t):=by
 intro pq s Z H Q I h;refine eU<|YM I hg hm hv ?_ hn hdb;exact PyProof.Rows.callWith_builtin1 (thn (ha pos pq s Z H _ I h)<|by rintro us s1 ⟨vs,H1,I1,r1,q1⟩;exact hc pq s1 Z H1 vs us Q I1 r1 q1) he hpl
def Q7(hc:ZG X (.type T) r)(hg:Gl X x)(hm:X.mg x=af)(hv:dg x=aa (.type T))(ha:PA X (e::es) t)(hn:x≠"__name__":=by decide)(hdb:(x == ("__debug__" : bi))=al:=by decide)
  (he:aA (e::es) X.env=(al,cr e X.env)::aA es X.env:=by rfl)(hpl:(dq pos<|aA es X.env).any (·.1)=al:=by rfl):PE X (.Call (.Name x p) (e::es) [] pos) (tCB r t):=by
 intro pq s Z H Q I h;refine eU<|YM I hg hm hv ?_ hn hdb;exact bT (thn (ha pos pq s Z H _ I h)<|by rintro us s1 ⟨vs,H1,I1,r1,q1⟩;exact hc pq s1 Z H1 vs us Q I1 r1 q1) he hpl
end
end L2
namespace HT
open PySem PyProof.Rows
section
variable{prog:bB}{w:bS}{A:cx}{E:au->ay->Prop}{s:ay}
def Zc1{Q:au->ay->Prop}(ht:pE s.heap t vs.toArray)(hb:pE s.heap b ws.toArray)(hv:vs≠[])
  (h1:ws=[]->Q (.ref t) s)(h2:ws≠[]->Q (.ref s.heap.objs.size) {s with heap:=s.heap.push {cls:=.type "tuple",data:=.seq (vs++ws).toArray}})
  (hsz:vs.length+ws.length<=bn):ba (aV prog w) A (fm .Add (.ref t)<|.ref b) Q E s:=by
 obtain⟨⟨cls,dd,data,sl⟩,ho,hc,n,hd⟩:=id ht;obtain⟨⟨cls2,dd2,data2,sl2⟩,ho2,hc2,n2,hd2⟩:=id hb;simp only at hc hd hc2 hd2;subst hc hd hc2 hd2;have e:vs.toArray++ws.toArray=(vs++ws).toArray:=by simp
 by_cases hw:ws=[]
 .exact on #[_,ho,rfl] #[_,ho2,rfl] lP ny iu hU (gO _ _)
   (tuple_addW1 t b vs.toArray ws.toArray n n2 dd dd2 sl sl2 (by simpa using hv)<|by simp[hw]) #[ho,ho2,h1 hw]
 .refine on #[_,ho,rfl] #[_,ho2,rfl] lP ny iu hU (gO _ _)
   (tuple_addW2 t b vs.toArray ws.toArray n n2 dd dd2 sl sl2 (by simpa using hv) (by simpa using hw)<|by rw[az,az];exact hsz) #[ho,ho2,?_]
  rw[e];exact h2 hw
noncomputable def sIx(n d:Nat):Option Int->Nat
 |none=>d
 |some v=>if v<0 then(v+(n:Int)).toNat else rX v.toNat n
theorem ZeQ(n d:Nat)(hd:d<=n)(o:Option Int):sIx n d o<=n:=by
 cases o with
 |none=>exact hd
 |some v=>
  show(if v<0 then(v+(n:Int)).toNat else rX v.toNat n)<=n
  by_cases hv:v<0
  .rw[T9 hv];lia
  .rw[T8 hv];exact Nat.min_le_right _ _
theorem vP(v:Int)(n d:Nat):(if v<0 then max (v+(n:Int)) 0 else rX v (n:Int))=((sIx n d (aa v):Nat):Int):=by
 show(if v<0 then max (v+(n:Int)) 0 else rX v (n:Int))=(((if v<0 then(v+(n:Int)).toNat else rX v.toNat n):Nat):Int)
 by_cases hv:v<0
 .simp only[T9 hv];lia
 .simp only[T8 hv];lia
theorem wJ(lo hi:Option Int)(n:Nat):gH lo hi 1 (n:Int)=(((sIx n 0 lo:Nat):Int),((sIx n n hi:Nat):Int)):=by
 have h1:¬((1:Int)<0):=by lia
 unfold gH;simp only[h1,if_false];refine Prod.ext ?_ ?_
 .cases lo with|none=>rfl|some v=>exact vP v n 0
 .cases hi with|none=>rfl|some v=>exact vP v n n
theorem xT(i j:Nat):eZ (i:Int) (j:Int) 1=j-i:=by
 unfold eZ;have h1:(1:Int)>0:=by lia
 simp only[h1,if_true,Int.ediv_one];split<;>lia
def Qm{Q:Option Int->ay->Prop}(p:mf v o)(h:Q o s):ba (aV prog w) A (dZ.Slice.slicePartIndex v) Q E s:=by
 cases p with|none=>exact slicePart_none h|int i t=>exact slicePart_int h
def Xu{sl:aE}{vl vu:au}{lo hi:Option Int}{n:Nat}{Q:Int×Int×Nat->ay->Prop}(hs:s.heap.IsSliceOf sl vl vu .none)(pl:mf vl lo)(pu:mf vu hi)
  (h:Q (((sIx n 0 lo:Nat):Int),1,sIx n n hi-sIx n 0 lo) s):ba (aV prog w) A (dZ.Slice.sliceApplied (.ref sl)<|cS (n:Int)) Q E s:=by
 obtain⟨os,hos,hcs,hds⟩:=id hs;refine ae<|ae<|cV hos hds rfl<|ae<|cV hos hds rfl<|ae<|cV hos hds rfl<|aC ?_;refine ae<|slicePart_none ?_;show ba _ _ (if((1:Int) == 0)=ak then _ else _) _ _ s
 rw[T8<|by decide]
 refine ae<|Qm pl<|ae<|Qm pu<|ae<|aC ?_;show ba _ _ (match gH lo hi 1 (n:Int)with|(lo,hi)=>cS (lo,(1:Int),eZ lo hi 1)) _ _ s
 rw[wJ lo hi n];show ba _ _ (cS (((sIx n 0 lo:Nat):Int),(1:Int),eZ ((sIx n 0 lo:Nat):Int) ((sIx n n hi:Nat):Int) 1)) _ _ s;rw[xT];exact aC h
theorem jB(xs:Array au)(i k:Nat):((aP k).filterMap λ(m:Nat)=>xs[((i:Int)+(m:Int)*1).toNat]?).toArray=((xs.toList.drop i).take k).toArray:=by
 have e:(λ(m:Nat)=>xs[((i:Int)+(m:Int)*1).toNat]?)=λm=>xs[i+m]?:=by
  funext m
  have:((i:Int)+(m:Int)*1).toNat=i+m:=by lia
  rw[this]
 rw[e];have:=pick_run xs i k;rw[List.filterMap_map]at this;have e2:((λx=>xs[x]?)∘λx=>i+x)=λm=>xs[i+m]?:=rfl
 rw[e2]at this;rw[this]
theorem Vf{t sl:aE}{items:Array au}{vl vu:au}{lo hi:Option Int}{Q:au->ay->Prop}(ht:pE s.heap t items)(hs:s.heap.IsSliceOf sl vl vu .none)(pl:mf vl lo)(pu:mf vu hi)
  (hw:¬(sIx items.size 0 lo=0/\sIx items.size items.size hi=items.size))
  (h:Q (.ref s.heap.objs.size) {s with heap:=s.heap.push {cls:=.type "tuple",data:=.seq ((items.toList.drop<|sIx items.size 0 lo).take<|sIx items.size items.size hi-sIx items.size 0 lo).toArray}})
  (hsz:items.size<=bn):ba (aV prog w) A (m9 (.ref t)<|.ref sl) Q E s:=by
 have htake:sizeOk (.seq ((items.toList.drop<|sIx items.size 0 lo).take<|sIx items.size items.size hi-sIx items.size 0 lo).toArray):=by
  show((items.toList.drop<|sIx items.size 0 lo).take<|sIx items.size items.size hi-sIx items.size 0 lo).toArray.size<=bn;rw[az,bC,bP,aS];lia
 have hj:sIx items.size items.size hi<=items.size:=ZeQ _ _ (aJ _) hi;obtain⟨os,hos,hcs,hds⟩:=id hs;have hTs:s.TypeIs (.ref sl) "slice":=#[os,hos,hcs];unfold m9
 try with_reducible refine cD ?_
 first|refine ae<|aC ?_|skip
 refine ae<|oo ht.typeIs (by decide) ?_
 refine ae (c9 ht.typeIs dR
  (dm dR ht.typeIs nk ?_<|nU _ _))
 show ba _ _ (kP (.ref t) >>= _) _ _ s;refine ae<|tupleItemsOf_ ht ?_;refine ae<|gB hTs ?_;rw[T9<|by decide]
 refine ae<|Xu hs pl pu ?_;have hno:¬((((sIx items.size 0 lo:Nat):Int) == 0&&(1:Int) == 1&&(sIx items.size items.size hi-sIx items.size 0 lo) == items.size)=ak):=by
  intro q;rw[aI,aI]at q;have q1:=lQ q.1.1;have q2:=lQ q.2;exact hw #[by lia,by lia]
 show ba _ _ (if(((sIx items.size 0 lo:Nat):Int) == 0&&(1:Int) == 1&&(sIx items.size items.size hi-sIx items.size 0 lo) == items.size)=ak then _ else _) _ _ s
 rw[T8 hno,jB]
 first
  |exact ae<|cu (aC #[_,rfl,aC h]) htake
  |exact ae<|cu (ae<|aC<|aC #[_,rfl,aC h]) htake
  |exact ae<|ae<|cu (aC<|aC #[_,rfl,aC h]) htake
  |exact ae<|ae (m:=dZ.Tuple.tupleExact _)<|cu (aC #[_,rfl,aC h]) htake
end
end HT
namespace L2
open PySem PySem.Spec PyProof.Rows
abbrev TO:=St->Hp->(Option Int->Hp->Prop)->Prop
def PO(X:Cx)(e:Option Expr)(t:TO):Prop:=
 ∀(pq:List (aE×fD))(s:ay)(Z:St)(H:Hp)(Q:Option Int->Hp->Prop),Inv X pq Z H s->t Z H Q->
  ba (aV X.prog X.w) X.A (evalPart e X.env) (λu s'=>∃o H',Inv X pq Z H' s'/\mf u o/\Q o H') X.xe s
def Zdv:TO:=λ_ H Q=>Q af H
def ZfS(t:TE):TO:=λZ H Q=>t Z H λx H1=>∃i,x=.int i/\Q (aa i) H1
section
variable{X:Cx}{e:Expr}{te:TE}{lo hi:Option Expr}{tl th:TO}{pos p2:fV}
def Zcf:PO X af Zdv:=by
 intro pq s Z H Q I h;rw[evalPart_none];exact aC #[af,H,I,.none,h]
def Yg(h:PE X e te):PO X (aa e) (ZfS te):=by
 intro pq s Z H Q I hw;rw[evalPart_some];refine thn (h pq s Z H _ I hw) λu s1 #[x,H1,I1,r1,q1]=>?_
 obtain⟨i,rfl,q⟩:=q1;obtain⟨t,rfl⟩:=r1;exact#[aa i,H1,I1,.int i t,q]
def SlR(X:Cx)(r:V->Option Int->Option Int->Hp->VK->Prop):Prop:=
 ∀(pq:List (aE×fD))(s:ay)(Z:St)(H:Hp)(x:V)(v vl vu:au)(lo hi:Option Int)(sl:aE)(Q:VK),Inv X pq Z H s->Zz x v->s.heap.IsSliceOf sl vl vu .none->mf vl lo->mf vu hi->r x lo hi H Q->
  ∃T id,kQ (.type T) "__getitem__" = cS (aa<|.builtin id)/\s.TypeIs v T/\ba (aV X.prog X.w) X.A (m9 v<|.ref sl) (EP X pq Z Q) X.xe s
def SlR.or{r r':V->Option Int->Option Int->Hp->VK->Prop}(h:SlR X r)(h':SlR X r'):SlR X (λx lo hi H Q=>r x lo hi H Q\/r' x lo hi H Q):=by
 intro pq s Z H x v vl vu lo hi sl Q I rx hs pl pu q;rcases q with q|q
 .exact h pq s Z H x v vl vu lo hi sl Q I rx hs pl pu q
 .exact h' pq s Z H x v vl vu lo hi sl Q I rx hs pl pu q
def tSl(r:V->Option Int->Option Int->Hp->VK->Prop)(te:TE)(tl th:TO):TE:=λZ H Q=>te Z H λx H1=>tl Z H1 λl H2=>th Z H2 λu H3=>r x l u H3 Q
def Zai{r:V->Option Int->Option Int->Hp->VK->Prop}(hr:SlR X r)(he:PE X e te)(hl:PO X lo tl)(hu:PO X hi th):PE X (.Subscript e (.Slice lo hi af p2) pos) (tSl r te tl th):=by
 intro pq s Z H Q I h;refine Subscript_<|thn (he pq s Z H _ I h) λv s1 #[x,H1,I1,r1,q1]=>?_
 refine wpAny_Slice<|thn (hl pq s1 Z H1 _ I1 q1) λvl s2 #[l,H2,I2,pl,q2]=>thn (hu pq s2 Z H2 _ I2 q2) λvu s3 #[u,H3,I3,pu,q3]=>?_
 rw[evalPart_none];refine aC ?_;have I4:Inv X pq Z H3 {s3 with heap:=s3.heap.push {cls:=.type "slice",data:=.fields [vl,vu,.none].toArray}}:=I3.kept (t':=s3.toks) λb ob q=>aw _ q
 obtain⟨T,id,hT,ht,hg⟩:=hr pq {s3 with heap:=s3.heap.push {cls:=.type "slice",data:=.fields [vl,vu,.none].toArray}} Z H3 x v vl vu l u s3.heap.objs.size Q I4 r1 (cw.IsSliceOf.new ..) pl pu q3
 exact tail_any ht hT hg (by with_unfolding_all rfl)
def YW(xs:List V)(lo hi:Option Int):List V:=(xs.drop<|HT.sIx xs.length 0 lo).take<|HT.sIx xs.length xs.length hi-HT.sIx xs.length 0 lo
theorem V5(xs:List V)(lo hi:Option Int):(YW xs lo hi).length<=xs.length:=by
 unfold YW;rw[bC,bP];lia
def Zgs(K:am):V->Option Int->Option Int->Hp->VK->Prop:=λx lo hi H Q=>∃a xs,x=.ref a/\SqT K H a xs/\
 ¬(HT.sIx xs.length 0 lo=0/\HT.sIx xs.length xs.length hi=xs.length)/\∀p,H p=af->Q (.ref p) (upd H p<|.tup<|YW xs lo hi)
def Zes:SlR X (Zgs X.K):=by
 intro pq s Z H x v vl vu lo hi sl Q I rx hs pl pu h;obtain⟨a,xs,rfl,hx,hw,q⟩:=h;cases rx;obtain⟨its,r,ht,hz⟩:=I.tuple hx;have hlen:its.toArray.size=xs.length:=by rw[az];exact r.length.symm
 refine#["tuple",_,dR.lookup,ht.typeIs,?_];refine HT.Vf ht hs pl pu (by rw[hlen];exact hw) ?_ (by rw[hlen];exact hz)
 rw[hlen];refine#[.ref s.heap.objs.size,_,I.laid (t':=s.toks) (λb ob q=>aw _ q) (aJ _) ?_,rfl,q _<|I.hok.fresh<|aJ _]
 exact#[bX (V5 xs lo hi) hz,_,(r.drop<|HT.sIx xs.length 0 lo).take<|HT.sIx xs.length xs.length hi-HT.sIx xs.length 0 lo,lR _ _]
def ZdB(K:am):R2:=λx y H Q=>∃a b xs ys,x=.ref a/\y=.ref b/\SqT K H a xs/\SqT K H b ys/\xs≠[]/\xs.length+ys.length<=bn/\
 (ys=[]->Q (.ref a) H)/\(ys≠[]->∀p,H p=af->Q (.ref p) (upd H p<|.tup<|xs++ys))
def Vals.nil_iff(r:Vals xs us):us=[]↔xs=[]:=by
 cases r with|nil=>simp|cons _ _=>simp
def Zcu:OpR X (fm .Add) (ZdB X.K):=by
 intro pq s Z H x y v u Q I rx ry h;obtain⟨a,b,xs,ys,rfl,rfl,ha,hb,hx,hz,q1,q2⟩:=h;cases rx;cases ry;obtain⟨its,r1,p1,_⟩:=I.tuple ha;obtain⟨its2,r2,p2,_⟩:=I.tuple hb;refine HT.Zc1 p1 p2 (λz=>hx<|r1.nil_iff.mp z) (λz=>#[.ref a,H,I,rfl,q1<|r2.nil_iff.mp z]) (λz=>?_) (by rw[<-r1.length,<-r2.length];exact hz)
 refine#[.ref s.heap.objs.size,_,I.laid (t':=s.toks) (λb ob q=>aw _ q) (aJ _) ?_,rfl,q2 (λw=>z<|r2.nil_iff.mpr w) _<|I.hok.fresh<|aJ _]
 exact#[by rw[aU];exact hz,_,r1.append r2,lR _ _]
end
noncomputable def ixN(n:Nat)(i:Int):Option Nat:=if 0<=i then(if i<n then aa i.toNat else af)else if -(n:Int)<=i then aa (i+n).toNat else af
def atI{B:Type}(xs:List B)(i:Int):Option B:=(ixN xs.length i).bind λj=>xs[j]?
def ux(h:ixN n i=aa j):seqIndex? i n=aa j/\j<n/\-(n:Int)<=i/\i<n:=by
 unfold ixN at h;by_cases h0:0<=i
 .rw[T9 h0]at h
  by_cases h1:i<n
  .rw[T9 h1]at h
   have e:=aq h;exact#[by rw[pG h0 h1,e],by lia,by lia,h1]
  .rw[T8 h1]at h;cases h
 .rw[T8 h0]at h
  by_cases h1:-(n:Int)<=i
  .rw[T9 h1]at h
   have e:=aq h;exact#[by rw[oq (by lia) h1,e],by lia,h1,by lia]
  .rw[T8 h1]at h;cases h
def vN{B:Type}{xs:List B}{i:Int}{v:B}(h:atI xs i=aa v):∃j,seqIndex? i xs.length=aa j/\xs[j]?=aa v/\j<xs.length/\-(xs.length:Int)<=i/\i<xs.length:=by
 unfold atI at h;cases e:ixN xs.length i with
 |none=>rw[e]at h;cases h
 |some j=>
  rw[e]at h;obtain⟨h1,h2,h3,h4⟩:=ux e;exact#[j,h1,h,h2,h3,h4]
def vO(b:Expr):Prop:=∀o i,subscripted b al o i=operate [o,i] (m9 o i)
def IxR(X:Cx)(r:R2):Prop:=
 ∀(value slice:Expr)(pq:List (aE×fD))(s:ay)(Z:St)(H:Hp)(x y:V)(v u:au)(Q:VK),Inv X pq Z H s->Zz x v->Zz y u->r x y H Q->
  subscripted slice al v u=operate [v,u] (m9 v u)->ba (aV X.prog X.w) X.A (subscriptTail value slice v u) (EP X pq Z Q) X.xe s
def MtR(X:Cx)(id:String)(r:V->List V->Hp->VK->Prop):Prop:=
 ∀(pq:List (aE×fD))(s:ay)(Z:St)(H:Hp)(x:V)(xs:List V)(v:au)(us:List au)(Q:VK),Inv X pq Z H s->Zz x v->Vals xs us->r x xs H Q->
  ba (aV X.prog X.w) X.A (call (.builtin id) (v::us)) (EP X pq Z Q) X.xe s
section
variable{X:Cx}{a b:Expr}{ta tb:TE}{pos:fV}
def IxR.or(h:IxR X r)(h':IxR X r'):IxR X (λx y H Q=>r x y H Q\/r' x y H Q):=by
 intro value slice pq s Z H x y v u Q I rx ry q hs;rcases q with q|q
 .exact h value slice pq s Z H x y v u Q I rx ry q hs
 .exact h' value slice pq s Z H x y v u Q I rx ry q hs
def wY(hr:IxR X r)(ha:PE X a ta)(hb:PE X b tb)(hs:vO b):PE X (.Subscript a b pos) (tOp r ta tb):=by
 intro pq s Z H Q I h;exact Subscript_<|Zen ha hb I h λv u s2 x y H2 I2 rx ry q=>hr a b pq s2 Z H2 x y v u Q I2 rx ry q<|hs _ _
def ZfK(K:am):R2:=λx y H Q=>∃p xs i v,x=.ref p/\y=.int i/\SqL K H p xs/\atI xs i=aa v/\Q v H
def Zgo(K:am):R2:=λx y H Q=>∃p xs i v,x=.ref p/\y=.int i/\SqT K H p xs/\atI xs i=aa v/\Q v H
theorem Uc:IxR X (ZfK X.K):=by
 intro value slice pq s Z H x y v u Q I rx ry h hs;obtain⟨p,xs,i,z,rfl,rfl,hq,he,q⟩:=h;cases rx;obtain⟨t,rfl⟩:=ry;obtain⟨its,r,pl,hz⟩:=I.list hq;obtain⟨j,h1,h2,h3,h4,h5⟩:=vN he;obtain⟨w,ew,rw'⟩:=r.get h2;have hl:=r.length;have hn:=UU;have fin:EP X pq Z Q w s:=#[z,H,I,rw',q];by_cases h0:0<=i
 .have hj:i.toNat=j:=by
   rw[pG h0 h5]at h1;exact aq h1
  exact item_listR pl.isList h0 (by lia) (by rw[hj];simpa using ew) fin hs
 .have hj:(i+(its.toArray.size:Int)).toNat=j:=by
   rw[oq (by lia) h4]at h1
   rw[az,<-hl];exact aq h1
  exact mh pl.isList.typeIs slot_list_getitem.lookup
   (wpAny_getItem_list_neg pl.isList (by lia) (by rw[az]<;>lia) (by lia) (by rw[hj];simpa using ew) #[rfl,fin]) hs
theorem Zeg:IxR X (Zgo X.K):=by
 intro value slice pq s Z H x y v u Q I rx ry h hs;obtain⟨p,xs,i,z,rfl,rfl,hq,he,q⟩:=h;cases rx;obtain⟨t,rfl⟩:=ry;obtain⟨its,r,pl,hz⟩:=I.tuple hq;obtain⟨j,h1,h2,h3,h4,h5⟩:=vN he;obtain⟨w,ew,rw'⟩:=r.get h2;have hl:=r.length;have hn:=UU;have fin:EP X pq Z Q w s:=#[z,H,I,rw',q];exact mh pl.typeIs slot_tuple_getitem.lookup
  (getItem_tuple pl (by lia) (by lia) (by rw[az,<-hl];exact h1) (by simpa using ew) #[rfl,fin]) hs
def wq(its:List au)(n j:Nat)(u:au):dU (·.setIfInBounds j u) {cls:=.type "list",data:=.seq its.toArray n}={cls:=.type "list",data:=.seq (its.set j u).toArray n}:=by
 simp[dU]
theorem Inv.lst{pq:List (aE×fD)}{Z:St}{H:Hp}{s:ay}{p:aE}{xs:List V}(I:Inv X pq Z H s)(h:H p=aa (.lst xs)) :
  ∃(its:List au)(n:Nat),Vals xs its/\s.heap.get? p=aa {cls:=.type "list",data:=.seq its.toArray n}/\xs.length<=bn:=by
 obtain⟨z,its,n,r,e⟩:=I.hok p _ h;exact#[its,n,r,e,z]
def Inv.lstUpd{pq:List (aE×fD)}{Z:St}{H:Hp}{s:ay}{p:aE}{xs ys:List V}{its its':List au}{n n':Nat}{f:fD->fD}(I:Inv X pq Z H s)(h:H p=aa (.lst xs))
  (ho:s.heap.get? p=aa {cls:=.type "list",data:=.seq its.toArray n})(hf:f {cls:=.type "list",data:=.seq its.toArray n}={cls:=.type "list",data:=.seq its'.toArray n' })(r:Vals ys its')(hz:ys.length<=bn)(t:Nat) :
  Inv X pq Z (upd H p<|.lst ys) {s with heap:=s.heap.update p f,toks:=t}:=by
 have e:(s.heap.update p f).get? p=aa {cls:=.type "list",data:=.seq its'.toArray n' }:=by
  rw[fW f ho (by rw[hf]<;>rfl),hf]
 refine I.write (by rw[h];trivial) (.inl rfl) (λb u hb q=>(mi _ _<|Ne.symm hb).trans q) #[_,e] ?_
 exact#[hz,its',n',r,e]
def Zgc:V->V->V->Hp->(Hp->Prop)->Prop:=λo i v H Q=>∃p xs k j,o=.ref p/\i=.int k/\H p=aa (.lst xs)/\ixN xs.length k=aa j/\Q (upd H p<|.lst<|xs.set j v)
theorem Zac:PSet X Zgc:=by
 intro pq s Z H o i v ov iv u Q I ro ri rv h;obtain⟨p,xs,k,j,rfl,rfl,hp,hj,q⟩:=h;cases ro;obtain⟨t,rfl⟩:=ri;obtain⟨its,n,r,ho,hz⟩:=I.lst hp;obtain⟨h1,h2,h3,h4⟩:=ux hj;have hl:=r.length;have hn:=UU;have I':=
  I.lstUpd hp ho (wq its n j u) (r.set rv j) (by rw[bE];exact hz) s.toks
 by_cases h0:0<=k
 .have hk:k.toNat=j:=by
   rw[pG h0 h4]at h1;exact aq h1
  exact PySem.W.ki_setAt ho h0 (by lia) (by rw[az,<-hl];exact h4) (by rw[hk];exact#[_,I',q])
 .have hk:(k+(its.toArray.size:Int)).toNat=j:=by
   rw[oq (by lia) h3]at h1
   rw[az,<-hl];exact aq h1
  exact PySem.W.ki_setBack ho (by lia) (by rw[az,<-hl];exact h3) (by lia) (by rw[hk];exact#[_,I',q])
theorem JV(lo hi:Option Int)(n:Nat):(hV lo hi af n).1=((HT.sIx n 0 lo:Nat):Int)/\(hV lo hi af n).2.1=((HT.sIx n n hi:Nat):Int)/\(hV lo hi af n).2.2=1:=by
 refine#[?_,?_,rfl]
 .cases lo with
  |none=>simp[hV,HT.sIx]
  |some i=>
   simp only[hV,HT.sIx,oX,show(1:Int)>0 by decide,if_true]
   by_cases h:i<0
   .simp only[h,if_true]<;>lia
   .simp only[h,if_false]<;>lia
 .cases hi with
  |none=>simp[hV,HT.sIx]
  |some i=>
   simp only[hV,HT.sIx,oX,show(1:Int)>0 by decide,if_true]
   by_cases h:i<0
   .simp only[h,if_true]<;>lia
   .simp only[h,if_false]<;>lia
def Q0(its:List au)(lo hi:Option Int):slicePick its.toArray lo hi af=((its.drop<|HT.sIx its.length 0 lo).take<|HT.sIx its.length its.length hi-HT.sIx its.length 0 lo).toArray:=by
 obtain⟨h1,h2,h3⟩:=JV lo hi its.toArray.size;unfold slicePick;rw[h1,h2,h3];simp only[sliceRange_one,pick_run,az]<;>rfl
def Zgu(K:am):V->Option Int->Option Int->Hp->VK->Prop:=λx lo hi H Q=>∃a xs,x=.ref a/\SqL K H a xs/\∀p,H p=af->Q (.ref p) (upd H p<|.lst<|YW xs lo hi)
theorem Zc6:SlR X (Zgu X.K):=by
 intro pq s Z H x v vl vu lo hi sl Q I rx hs pl pu h;obtain⟨a,xs,rfl,hx,q⟩:=h;cases rx;obtain⟨its,r,ht,hz⟩:=I.list hx;have hlen:=r.length;refine#["list",_,slot_list_getitem.lookup,ht.isList.typeIs,?_];refine wpAny_getItem_list_slice ht.isList hs pl pu .none (by simp) ?_ (by rw[az]<;>lia)
 rw[Q0,<-hlen];refine#[.ref s.heap.objs.size,_,I.laid (t':=s.toks) (λb ob q=>aw _ q) (aJ _) ?_,rfl,q _<|I.hok.fresh<|aJ _]
 exact#[bX (V5 xs lo hi) hz,_,0,(r.drop<|HT.sIx xs.length 0 lo).take<|HT.sIx xs.length xs.length hi-HT.sIx xs.length 0 lo,aO _ rfl]
noncomputable def vS:V->Bool
 |.non=>ak
 |.bl _=>ak
 |.int _=>ak
 |.str _=>ak
 |_=>al
noncomputable def eqV:V->V->Bool
 |.non,.non=>ak
 |.bl a,.bl b=>a == b
 |.bl a,.int b=>(if a then 1 else 0) == b
 |.int a,.bl b=>a == (if b then 1 else 0)
 |.int a,.int b=>a == b
 |.str a,.str b=>a == b
 |_,_=>al
def Zfc{A:cx}{s:ay}{y x:V}{u v:au}(ry:Zz y u)(rx:Zz x v)(fy:vS y=ak)(fx:vS x=ak):iS A s u v (eqV y x):=by
 cases y with
 |non=>
  cases ry;cases x with|non=>cases rx;exact km _|bl b=>cases rx;exact iS.none_bool b|int b=>obtain⟨t,rfl⟩:=rx;exact iS.none_int b t|str b=>obtain⟨t,rfl⟩:=rx;exact iS.none_str b t|_=>exact T7 (fx) aN
 |bl a=>
  cases ry;cases x with|non=>cases rx;exact iS.bool_none a|bl b=>cases rx;exact iS.bool_bool a b|int b=>obtain⟨t,rfl⟩:=rx;exact iS.bool_int a b t|str b=>obtain⟨t,rfl⟩:=rx;exact iS.bool_str a b t|_=>exact T7 (fx) aN
 |int a=>
  obtain⟨t',rfl⟩:=ry;cases x with|non=>cases rx;exact iS.int_none a t'|bl b=>cases rx;exact iS.int_bool a t' b|int b=>obtain⟨t,rfl⟩:=rx;exact nV a t' b t|str b=>obtain⟨t,rfl⟩:=rx;exact nI a t' b t|_=>exact T7 (fx) aN
 |str a=>
  obtain⟨t',rfl⟩:=ry;cases x with|non=>cases rx;exact iS.str_none a t'|bl b=>cases rx;exact iS.str_bool a t' b|int b=>obtain⟨t,rfl⟩:=rx;exact nJ a t' b t|str b=>obtain⟨t,rfl⟩:=rx;exact iS.str_str a t' b t|_=>exact T7 (fx) aN
 |_=>exact T7 (fy) aN
theorem zd:ZG X (.builtin "len") (λxs H Q=>∃p ys,xs=[.ref p]/\(SqL X.K H p ys\/SqT X.K H p ys)/\Q (.int ys.length) H):=by
 intro pq s Z H xs us Q I r h;obtain⟨p,ys,rfl,hq,q⟩:=h;obtain⟨u,rfl,rx⟩:=Wv r;cases rx;have hn:=UU;rcases hq with hq|hq
 .obtain⟨its,r',pl,hz⟩:=I.list hq
  have hlen:=r'.length;exact Calls.call_len_list pl.isList (by simp only[az]<;>lia) #[.int ys.length,H,I.tok _,#[s.toks+1,by rw[az,hlen]],q]
 .obtain⟨its,r',pl,hz⟩:=I.tuple hq
  have hlen:=r'.length;exact len_tuple pl (by simp only[az]<;>lia) #[.int ys.length,H,I.tok _,#[s.toks+1,by rw[az,hlen]],q]
theorem J9:ZG X (.type "list") (λxs H Q=>∃p ys,xs=[.ref p]/\(SqL X.K H p ys\/SqT X.K H p ys)/\∀l,H l=af->Q (.ref l) (upd H l<|.lst ys)):=by
 intro pq s Z H xs us Q I r h;obtain⟨p,ys,rfl,hq,q⟩:=h;obtain⟨u,rfl,rx⟩:=Wv r;cases rx;have fin:∀(its:List au),Vals ys its->ys.length<=bn->∀(h':cw)(c':Nat),(∀b o',s.heap.get? b=aa o'->h'.get? b=aa o')->
   h'.get? s.heap.objs.size=aa {cls:=.type "list",dict:=af,data:=.seq its.toArray c',slots:=#[]}->EP X pq Z Q (.ref s.heap.objs.size) {s with heap:=h' }:=λits r' hz h' c' kp e=>
  #[.ref s.heap.objs.size,_,I.laid (t':=s.toks) kp (aJ _) (show Yl X.prog X.w _ h' _ (.lst ys)from#[hz,its,c',r',e]),rfl,q _<|I.hok.fresh<|aJ _]
 rcases hq with hq|hq
 .obtain⟨its,r',pl,hz⟩:=I.list hq
  have hlen:=r'.length;obtain⟨o,ho,hc,n,hd⟩:=pl.isList;exact call_list_seq p (.inl rfl) ho hc hd (λh' c' kp e=>fin its r' hz h' c' kp e) (by simp only[az]<;>lia)
 .obtain⟨its,r',pl,hz⟩:=I.tuple hq
  have hlen:=r'.length;obtain⟨o,ho,hc,n,hd⟩:=pl;exact call_list_seq p (.inr rfl) ho hc hd (λh' c' kp e=>fin its r' hz h' c' kp e) (by simp only[az]<;>lia)
theorem QX:ZG X (.type "tuple") (λxs H Q=>∃p ys,xs=[.ref p]/\((SqL X.K H p ys/\∀l,H l=af->Q (.ref l) (upd H l<|.tup ys))\/(SqT X.K H p ys/\Q (.ref p) H))):=by
 intro pq s Z H xs us Q I r h;obtain⟨p,ys,rfl,h⟩:=h;obtain⟨u,rfl,rx⟩:=Wv r;cases rx;rcases h with⟨hq,q⟩|⟨hq,q⟩
 .obtain⟨its,r',pl,hz⟩:=I.list hq
  have hlen:=r'.length;refine call_tuple_list pl.isList (λh' kp=>?_) (by simp only[az]<;>lia)
  have I1:=I.kept (t':=s.toks) kp
  have I2:=
   I1.laid (t':=s.toks) (λb o e=>aw _ e) (aJ _) (show Yl X.prog X.w _ _ _ (.tup ys)from#[hz,its,r',lR _ _])
  exact#[.ref h'.objs.size,_,I2,rfl,q _<|I1.hok.fresh<|aJ _]
 .obtain⟨its,r',pl,hz⟩:=I.tuple hq
  exact call_tuple_same pl #[.ref p,H,I,rfl,q]
def tyV(K:am)(T:String)(x:V)(H:Hp):Prop:=match x with
 |.str _=>T = "str"
 |.int _=>T = "int"
 |.ref p=>(T = "list"/\∃xs,SqL K H p xs)\/(T = "tuple"/\∃o,K.lookup p=aa o/\o.cls=.type "tuple"/\o.dict=af)\/
   (T = "dict"/\((∃kvs,H p=aa (.dK kvs))\/∃kvs,H p=aa (.dT kvs)))
 |_=>False
def Zd5(I:Inv X pq Z H s)(r:Zz x v)(ty:tyV X.K T x H) :
  s.TypeIs v T/\∀a,v=.ref a->∃ob,s.heap.get? a=aa ob/\ob.dict=af:=by
 cases x with
 |str z=>
  obtain⟨t,rfl⟩:=r;cases(ty)
  exact#[typeIs_str s z t,λ_ e=>nomatch e]
 |int i=>
  obtain⟨t,rfl⟩:=r;cases(ty)
  exact#[mj s i t,λ_ e=>nomatch e]
 |ref p=>
  cases r;rcases ty with⟨rfl,xs,hq⟩|⟨rfl,o,hk,hc,hd⟩|⟨rfl,hk⟩
  .obtain⟨its,_,pl,_⟩:=I.list hq
   refine#[pl.isList.typeIs,λa e=>?_]
   cases e;obtain⟨o,n,e,c,hd,_⟩:=pl;exact#[o,e,hd]
  .refine#[#[o,I.kIn p o hk,hc],λa e=>?_]
   cases e;exact#[o,I.kIn _ o hk,hd]
  .have z:∃o,s.heap.get? p=aa o/\o.ExactDict:=by
    rcases hk with⟨kvs,hk⟩|⟨kvs,hk⟩
    .obtain⟨_,_,_,_,o,_,_,e,ex,_⟩:=I.hok p _ hk
     exact#[o,e,ex]
    .obtain⟨_,_,_,_,o,_,_,e,ex,_⟩:=I.hok p _ hk
     exact#[o,e,ex]
   obtain⟨o,e,ex⟩:=z;refine#[#[o,e,ex.1],λa e2=>?_]
   cases e2;exact#[o,e,ex.2.1]
 |_=>exact False.elim ty
def tBM(K:am)(T:String)(r:V->List V->Hp->VK->Prop)(to:TE)(t:TA):TE:=λZ H Q=>to Z H λx H1=>tyV K T x H1/\t Z H1 λxs H2=>r x xs H2 Q
variable{o e:Expr}{es:List Expr}{to:TE}{t:TA}{name:bi}{apos cpos:fV}{T id:String}{r:V->List V->Hp->VK->Prop}
def yW(pa:PlainAttrs T)(slot:Slot T name id)(hty:typeOf (.builtin id)=cS (.type "method_descriptor"))(hm:MtR X id r)(ho:PE X o to)(ha:PA X (e::es) t)
  (hbase:nz o name X.env (cr o X.env)=cr o X.env:=by rfl)
  (hfew:((dq cpos<|aA (e::es) X.env).all (λx=>!x.1)&&(backToKw cpos<|pH [] X.env).all (λx=>x.1.isSome)
   && ag ((e::es).length+([]:List ot).length+(if([]:List ot).isEmpty then 0 else 1)<30))=ak:=by rfl)
  (hline:(apos.endLine == cpos.line)=ak:=by rfl)(hs:aA (e::es) X.env=(al,cr e X.env)::aA es X.env:=by rfl)(hplain:(dq cpos<|aA es X.env).any (·.1)=al:=by rfl) :
  PE X (.Call (.Attribute o name apos) (e::es) [] cpos) (tBM X.K T r to t):=by
 intro pq s Z H Q I h;refine wpAny_Call_method_late hbase hfew hline rfl<|thn (ho pq s Z H _ I h) λv s1 #[x,H1,I1,r1,ty,q1]=>?_
 obtain⟨h1,h2⟩:=Zd5 I1 r1 ty;refine#[T,id,pa,slot,hty,h1,h2,?_];have hA:=ha cpos pq s1 Z H1 _ I1 q1;rw[hs]at hA ⊢;refine Calls.callWith_builtin (by show(al||(dq cpos<|aA es X.env).any (·.1))=al;rw[hplain]<;>rfl)<|Calls.evalArgs_plain ?_
 exact thn hA<|by rintro us s2 ⟨vs,H2,I2,r2,q2⟩;exact hm pq s2 Z H2 x vs v us Q I2 r1 r2 q2
end
def MtM(X:Cx)(id:String)(r:V->List V->Hp->VK->Prop):Prop:=
 ∀(pq:List (aE×fD))(s:ay)(Z:St)(H:Hp)(x:V)(xs:List V)(v:au)(us:List au)(Q:VK),Inv X pq Z H s->Zz x v->Vals xs us->r x xs H Q->
  ba (aV X.prog X.w) X.A (call (.builtin id) (v::us)) (EP X pq Z Q) X.xe s
def Vals.one:∀{x:V}{us:List au},Vals [x] us->∃u,us=[u]/\Zz x u
 |_,_,.cons r .nil=>#[_,rfl,r]
theorem Vals.rep(h:Vals xs us):∀k:Nat,Vals (aH k xs).flatten (aH k us).flatten
 |0=>.nil
 |k+1=>by
  rw[cf,cf,c6,c6];exact Vals.append h<|Vals.rep h k
theorem VN(its:List au):∀(k:Nat)(acc:List au),
  List.foldl (λx1 x2=>x1++x2) acc.toArray (aH k its.toArray)=(acc++(aH k its).flatten).toArray
 |0,acc=>by simp
 |k+1,acc=>by
  have e:acc.toArray++its.toArray=(acc++its).toArray:=by simp
  have e2:(acc++its)++(aH k its).flatten=acc++(aH (k+1) its).flatten:=by
   rw[cf,c6,bF]
  rw[<-e2,<-VN its k (acc++its),<-e,cf,dB]
section
variable{X:Cx}{pq:List (aE×fD)}{Z:St}{H:Hp}{s:ay}{l b:aE}{xs ys zs:List V}
def Inv.lset{its its':List au}{n:Nat}{f:Array au->Array au}{t':Nat}(I:Inv X pq Z H s)(hH:H l=aa (.lst xs))
  (e:s.heap.get? l=aa {cls:=.type "list",data:=.seq its.toArray n})(hf:f its.toArray=its'.toArray)(hv:Vals ys its')(hz:ys.length<=bn) :
  Inv X pq Z (upd H l<|.lst ys) {s with heap:=s.heap.update l<|dU f,toks:=t' }:=by
 have q:=PySem.IsL.update e f;rw[hf]at q;refine I.write (by rw[hH];exact trivial) (.inl rfl) (λb' u hb hu=>(mi s.heap (dU f)<|Ne.symm hb).trans hu) #[_,q] ?_
 exact#[hz,its',_,hv,q]
def Inv.lnew(I:Inv X pq Z H s)(hv:Vals ys its)(hz:ys.length<=bn) :
  Inv X pq Z (upd H s.heap.objs.size<|.lst ys) {s with heap:=s.heap.push {cls:=.type "list",data:=.seq its.toArray},toks:=t' }:=
 I.laid (λ_ _ q=>aw _ q) (aJ _) #[hz,its,0,hv,aO _ rfl]
theorem Inv.fresh(I:Inv X pq Z H s):H s.heap.objs.size=af:=I.hok.fresh<|aJ _
def Inv.lstM(I:Inv X pq Z H s)(hH:H l=aa (.lst xs)):xs.length<=bn/\∃(its:List au)(n:Nat),Vals xs its/\xs.length=its.length/\s.heap.get? l=aa {cls:=.type "list",data:=.seq its.toArray n}:=by
 obtain⟨z,its,n,r,e⟩:=I.hok l _ hH;exact#[z,its,n,r,r.length,e]
theorem ZaL(h:n<=bn):gP n=al:=by
 exact T4 (by lia)
end
section
variable{X:Cx}
def vA:V->List V->Hp->VK->Prop:=λx vs H Q=>∃l xs y,x=.ref l/\vs=[y]/\H l=aa (.lst xs)/\xs.length<bn/\Q .non (upd H l<|.lst<|xs++[y])
theorem VI:MtM X "list.append" vA:=by
 intro pq s Z H x vs v us Q I rx rv h;obtain⟨l,xs,y,rfl,rfl,hH,hz,q⟩:=h;cases rx;obtain⟨u,rfl,ru⟩:=rv.one;obtain⟨z,its,n,r,hl,e⟩:=I.lstM hH;refine gu F.slot_list_append #[_,e,rfl] F.entry_list_append (F.args_list_append_2 _ _) (PySem.list_append l its.toArray n u<|by rw[az];lia) #[e,?_]
 refine#[.non,_,I.lset (its':=its++[u]) hH e (by simp) (r.append<|.cons ru .nil) ?_,rfl,q]
 rw[aU,bJ];lia
def Zdg:V->List V->Hp->VK->Prop:=λx vs H Q=>∃l b xs zs,x=.ref l/\vs=[.ref b]/\H l=aa (.lst xs)/\H b=aa (.lst zs)/\xs.length+zs.length<=bn/\Q .non (upd H l<|.lst<|xs++zs)
theorem uR:MtM X "list.extend" Zdg:=by
 intro pq s Z H x vs v us Q I rx rv h;obtain⟨l,b,xs,zs,rfl,rfl,hH,hB,hz,q⟩:=h;cases rx;obtain⟨u,rfl,ru⟩:=rv.one;cases ru;obtain⟨z,its,n,r,hl,e⟩:=I.lstM hH;obtain⟨z2,its2,n2,r2,hl2,e2⟩:=I.lstM hB;have hsz:its.toArray.size+its2.toArray.size<=bn:=by rw[az,az];lia
 have hlong:¬(!its.toArray.isEmpty&&gP (its.toArray.size+its2.toArray.size))=ak:=by
  rw[ZaL hsz,rj];exact aN
 refine gu F.slot_list_extend #[_,e,rfl] F.entry_list_extend (F.args_list_extend_2 _ _)
  (AutoSeq1.list_extend_list_list_0 l its.toArray n b its2.toArray n2 hlong (by rw[az];lia)<|by lia) #[e,e2,?_]
 refine#[.non,_,I.lset (its':=its++its2) hH e (by simp) (r.append r2) ?_,rfl,q]
 rw[aU];lia
def ZcC:R2:=λx y H Q=>∃l b xs zs,x=.ref l/\y=.ref b/\H l=aa (.lst xs)/\H b=aa (.lst zs)/\xs.length+zs.length<=bn/\∀p,H p=af->Q (.ref p) (upd H p<|.lst<|xs++zs)
theorem xD:OpR X (fm .Add) ZcC:=by
 intro pq s Z H x y v u Q I rx ry h;obtain⟨l,b,xs,zs,rfl,rfl,hH,hB,hz,q⟩:=h;cases rx;cases ry;obtain⟨z,its,n,r,hl,e⟩:=I.lstM hH;obtain⟨z2,its2,n2,r2,hl2,e2⟩:=I.lstM hB;refine PySem.P.add_list e e2 ?_ (by rw[az,az];lia)
 have ea:its.toArray++its2.toArray=(its++its2).toArray:=by simp
 rw[ea];exact#[.ref _,_,I.lnew (t':=s.toks) (r.append r2) (by rw[aU];lia),rfl,q _ I.fresh]
def zb{B:Type}(xs:List B)(k:Nat):(aH k xs).flatten.length=k*xs.length:=by
 induction k with|zero=>simp|succ k ih=>rw[cf,c6,aU,ih,ml,gC]
end
end L2
namespace Att
open PySem PySem.W PySem.Calls PyProof.Rows
def Ub :∀(ns:List Int)(vs:List au),WellAll P h vs (ns.map WData.int)->pW vs ns:=by
 intro ns
 induction ns with
 |nil=>
  intro vs w;rw[ou]at w;cases w;exact .nil
 |cons n ns ih=>
  intro vs w;rw[aY]at w;cases w with
  |cons a b=>
   cases a;exact .cons _ _<|ih _ b
def uI{l:OpenLaw}{n:Nat}(hn:l.most=aa n){P:Params}{h:cw}{args:List WData}{vals:List au}
  (hpre:l.row.toRowW.claim.pre args=ak)(hwl:WellAll P h vals args) :
  ∃a vs ns,vals=[de a]/\args=[WData.list<|ns.map WData.int]/\h.get? a=aa {cls:=.type "list",data:=.seq vs.toArray}/\pW vs ns/\ns.length<=n:=by
 have hsh:=(pre_splitW hpre).1;have hc:l.pre.holds [] {args:=args}=ak:=(pre_splitW hpre).2;obtain⟨d,r,rfl,h1,h2⟩:=hasAllW_cons hsh;obtain rfl:=hasAllW_nil h2;obtain⟨xs,rfl,h3⟩:=hasW_list h1;obtain⟨ns,rfl⟩:=items_int h3;have hlen:ns.length<=n:=by
  have h4:(WTm.not<|.lt (.lit<|.int (n:Int))<|.len<|.arg 0).holds [] {args:=[.list<|ns.map .int]}=ak:=by
   have h4:=(holds_andW hc).1;rw[hn]at h4;exact h4
  have h5:=condW_of h4<|w_not<|w_lt w_lit<|w_len_list<|w_arg rfl;rw[ax]at h5;refine fH λq=>?_
  have q':(n:Int)<((ns.length:Nat):Int):=by lia
  first
   |(rw[T5 q']at h5;exact T7 h5<|by decide)
   |(simp at h5;lia)
 cases hwl with
 |cons w1 w2=>
  cases w2;cases w1 with|list ho hall=>exact#[_,_,ns,rfl,rfl,ho,Ub ns _ hall,hlen]
def uA(l:OpenLaw)(args:List WData):l.row.toRowW.claim.post args (.bool ak) args=ak:=
 postW_of
  (by first|rfl|decide|simp[WShape.has,WShape.arms,WShape.armsAll])
  (w_eq_bool (w_res rfl) w_lit) rfl
def zM{l:OpenLaw}{n:Nat}{q:bB}{loose:List bi}{XP:(bi->Option au)->cw->Prop}{YP:bS->cw->Prop}{d:sA}
  (hn:l.most=aa n)(hdf:d.params.defaults=[])
  (call:∀(w:bS)(s₀ s₁:ay)(mg mb:bi->Option au)(fa:aE)(o:fD)(pm cd doc:au)(a:aE)(vs:List au)(ns:List Int),
   Ground q loose [] XP w s₀ mg mb s₁.heap->YP w s₁.heap->
   s₁.heap.get? fa=aa o->o.data=.func (docDef d.name d.params d.body d.scope pm cd doc)->s₁.heap.CodeRec cd d.name->mg d.name=aa (.ref fa)->
   s₁.heap.get? a=aa {cls:=.type "list",data:=.seq vs.toArray}->pW vs ns->ns.length<=n->s₁.gens = #[]->
   eJ (aV l.prog w) ng (.call (.ref fa) #[[.ref a],[]]) (λr s'=>r=.ok (.ret<|.bool ak)/\OldK s₁.heap s'.heap/\s'.os=s₁.os/\i4 s'.gens) s₁) :
  WalkO q loose XP YP l.row.toRowW d [] (λf vs=>rm f vs):=by
 intro w s₀ s₁ mg mb G Y fa o pm cd doc dV kV ho hd hcd hD hmg hg args vals as hpre hlay hrd hwl hlo;obtain rfl:dV=.none:=Dflts.none hD hdf;obtain rfl:kV=.none:=Dflts.noKw hD;obtain⟨a,vs,ns,rfl,rfl,hobj,hints,hlen⟩:=uI hn hpre hwl;refine enter_call<|kH (call w s₀ s₁ mg mb fa o pm cd doc a vs ns G Y ho (fd_plain hd) hcd hmg hobj hints hlen hg) λr s' hq=>?_
 obtain⟨rfl,h2,h3,h4⟩:=hq;exact#[.inl #[.bool ak,.bool ak,[],rfl,λ_=>rfl,.bool ak,uA l _,λ_=>#[dH,λ_ hm=>(nomatch hm)]],h2,h3,h4]
end Att
namespace L2
open PySem PySem.Spec PyProof.Rows
theorem Jy:∀{vs:List au}{ns:List Int},pW vs ns->Vals (ns.map V.int) vs
 |_,_,.nil=>.nil
 |_,_,.cons n t h=>.cons #[t,rfl]<|Jy h
noncomputable def Xf(s:eO):oW:=match s with
 |.FunctionDef _ a _ _ _ _ _ _ _ _=>a
 |_=>{posonlyargs:=[],args:=[],vararg:=af,kwonlyargs:=[],kw_defaults:=[],kwarg:=af,defaults:=[]}
noncomputable def ZB(s:eO):List eO:=match s with
 |.FunctionDef _ _ b _ _ _ _ _ _ _=>b
 |_=>[]
noncomputable def Zg(s:eO):d6:=match s with
 |.FunctionDef _ _ _ _ _ _ sc _ _ _=>sc
 |_=>{kind:=.function,names:=[],isGenerator:=al,isCoroutine:=al}
noncomputable abbrev E0:XK:=λ_ _ _=>False
structure Fun(K:am)(x qual:bi)(st:eO)(f:aE)(fd:cM):Prop where
 ex:∃(oc:au)(od:Option aE)(kV doc pm:au)(an:Option aE)(cdv ct:au)(osl:Array (Option au)),
  fd=eK x qual (Xf st) (ZB st) (Zg st) .none kV doc pm an cdv ct/\K.lookup f=aa #[oc,od,.func fd,osl]/\kN K cdv qual=ak
 kp:gq K (.ref f)=ak
section
variable{P:bB}{w:bS}{K:am}{mg:bi->Option au}{base:cw}
def Fun.binds{x qual:bi}{st:eO}{f:aE}{fd:cM}{ps:List bi}(F:Fun K x qual st f fd)
  (h:∀(kV doc pm:au)(an:Option aE)(cdv ct:au)(us:List au),us.length=ps.length->mR (eK x qual (Xf st) (ZB st) (Zg st) .none kV doc pm an cdv ct) #[us,[]]=cS (ps.zip us)):VX K fd ps []:=by
 obtain⟨oc,od,kV,doc,pm,an,cdv,ct,osl,rfl,lk,hcd⟩:=F.ex;exact .all<|h kV doc pm an cdv ct
def Zfq{x qual:bi}{st:eO}{f:aE}{oc:au}{od an:Option aE}{osl:Array (Option au)}{kV doc pm cdv ct:au}(l:K.lookup f=aa #[oc,od,.func<|eK x qual (Xf st) (ZB st) (Zg st) .none kV doc pm an cdv ct,osl])
  (c:kN K cdv qual=ak)(k:gq K (.ref f)=ak):Fun K x qual st f (eK x qual (Xf st) (ZB st) (Zg st) .none kV doc pm an cdv ct):=#[#[oc,od,kV,doc,pm,an,cdv,ct,osl,rfl,l,c],k]
end
section
variable{κ:Type}[DecidableEq κ]
noncomputable def UT(kvs:List (κ×V))(k:κ):Option V:=(kvs.find? λkv=>ag<|kv.1=k).map (·.2)
def U8{p:κ×V}{r:List (κ×V)}{k:κ}(e:p.1=k):UT (p::r) k=aa p.2:=by simp[UT,fg,e]
def UH{p:κ×V}{r:List (κ×V)}{k:κ}(e:¬p.1=k):UT (p::r) k=UT r k:=by simp[UT,fg,e]
theorem z9(k:κ):∀kvs:List (κ×V),(kvs.any λkv=>ag<|kv.1=k)=(UT kvs k).isSome
 |[]=>rfl
 |p::r=>by
  rw[lC];by_cases e:p.1=k
  .simp only[U8 e,T5 e,Bool.true_or,Option.isSome_some]
  .rw[UH e,T4 e,lD];exact z9 k r
def Zb8.isSome_eq(r:Zb8 o u):o.isSome=u.isSome:=by
 cases o with
 |none=>cases u with|none=>rfl|some _=>exact(r).elim
 |some _=>cases u with|none=>exact(r).elim|some _=>rfl
def KV.val{kvs:List (κ×V)}{vs:List (κ×au)}(r:KV kvs vs)(k:κ):Zb8 (UT kvs k) (ow vs k):=by
 unfold KV at r
 induction r with
 |nil=>exact eB
 |@cons p q ps qs h t ih=>
  obtain⟨h1,h2⟩:=h;by_cases e:p.1=k
  .have e':=h1.symm.trans e
   have b:ow (q::qs) k=aa q.2:=by simp[ow,fg,e']
   rw[U8 e,b];exact h2
  .have e':¬q.1=k:=λz=>e (h1.trans z)
   have b:ow (q::qs) k=ow qs k:=by simp[ow,fg,e']
   rw[UH e,b];exact ih
end
def ZbO(r:Zz (kV k) u):(Z3 P w).is k u=ak:=by
 cases k with|inl i=>obtain⟨t,e⟩:=(r);subst e;exact yS P w i t|inr x=>obtain⟨t,e⟩:=(r);subst e;exact zq P w x t
theorem Q5 :∀{ks:List Key}{us:List au},Vals (ks.map kV) us->ItemsAre (Z3 P w) ks us
 |[],_,r=>by rw[ou]at r;cases r;exact .nil
 |k::ks,_,r=>by
  rw[aY]at r;cases r with|cons h t=>exact .cons (ZbO h)<|Q5 t
abbrev KT(H:Hp):List (List Key×V)->List (List Key×aE×au)->Prop:=Paired λp q=>p.1=q.1/\H q.2.1=aa (.tup<|p.1.map kV)/\Zz p.2 q.2.2
def KT.val{H:Hp}{kvs:List (List Key×V)}{xs:List (List Key×aE×au)}(r:KT H kvs xs)(k:List Key):Zb8 (UT kvs k) ((rn xs k).map (·.2)):=by
 induction r with
 |nil=>exact eB
 |@cons p q ps qs h t ih=>
  obtain⟨h1,_,h2⟩:=h;by_cases e:p.1=k
  .have e':=h1.symm.trans e
   have b:rn (q::qs) k=aa q.2:=by simp[rn,fg,e']
   rw[U8 e,b];exact h2
  .have e':¬q.1=k:=λz=>e (h1.trans z)
   have b:rn (q::qs) k=rn qs k:=by simp[rn,fg,e']
   rw[UH e,b];exact ih
def Zdw(ok:HOk P w H h)(e:Rd H a u):Yl P w H h a u:=e.ok ok
def ZdQ(ok:HOk P w H h)(e:Rd H a (.dK kvs)):kvs.length<=bn/\(a == fK)=al/\∃vs,KV kvs vs/\h.DictOf (Z3 P w) a vs:=
 Zdw ok e
def Gq(ok:HOk P w H h)(e:H a=aa (.tup<|ks.map kV)):(eN<|Z3 P w).is h ks a:=by
 obtain⟨_,its,r,o,h1,h2,n,h3⟩:=(ok a _ e)
 exact#[o,its.toArray,n,h1,h2,h3,by simpa using Q5 r]
def ZdY(ok:HOk P w H h)(e:Rd H a (.dT kvs)):kvs.length<=bn/\(a == fK)=al/\
  ∃xs,KT H kvs xs/\h.DictOfH (eN<|Z3 P w) a xs:=by
 obtain⟨z,y,xs,r,o,es,ep,h1,h2,h3,h4,h5⟩:=(Zdw ok e)
 refine#[z,y,xs,r,o,es,ep,h1,h2,h3,h4,λx hx=>?_,h5]
 have all:∀{l:List (List Key×V)}{m:List (List Key×aE×au)},KT H l m->∀x∈m,(eN<|Z3 P w).is h x.1 x.2.1:=by
  intro l m q
  induction q with
  |nil=>intro x hx;exact nomatch hx
  |@cons p q ps qs hq t ih=>
   intro x hx;rcases aB.mp hx with e|hx
   .subst e
    exact Gq ok (by rw[<-hq.1];exact hq.2.1)
   .exact ih x hx
 exact all r x hx
def DGet(H:Hp)(a:aE)(y:V)(r:Option V):Prop:=
 (∃kvs k,Rd H a (.dK kvs)/\y=kV k/\r=UT kvs k)\/∃kvs k b,Rd H a (.dT kvs)/\y=.ref b/\H b=aa (.tup<|k.map kV)/\r=UT kvs k
def Inv.big(I:Inv X pq Z H s):fK<s.heap.objs.size:=by
 have h:=(I.mod.glob.keeps I.bk).lt;exact dC (by decide) h
def Zgp{Q:au->ay->Prop}(hu:A.units+1<dD)(I:Inv X pq Z H s)(g:DGet H a y o)(ry:Zz y u)(h:∀s',Inv X pq Z H s'->Q (.bool o.isSome) s') :
  ba (aV X.prog X.w) A (cK .In u<|.ref a) Q E s:=by
 rcases g with⟨kvs,k,e,ey,l⟩|⟨kvs,k,b,e,ey,eb,l⟩
 .subst ey
  obtain⟨z,hd,vs,rel,dd⟩:=ZdQ I.hok e;refine wpAny_in_of (ZbO ry) hd dd.mapOf ?_;rw[<-(rel.val k).isSome_eq,<-l];exact h _<|I.tok _
 .subst ey
  cases(ry)
  obtain⟨z,hd,xs,rel,dd⟩:=ZdY I.hok e;refine wpAny_in_heap (kR hu) (Gq I.hok eb) hd dd ?_;have q:=(rel.val k).isSome_eq;rw[ox]at q;rw[<-q,<-l];exact h _<|I.tok _
def ZbZ{Q:au->ay->Prop}(hu:A.units+1<dD)(I:Inv X pq Z H s)(g:DGet H a y o)(ry:Zz y u)(h:∀s',Inv X pq Z H s'->Q (.bool<|!o.isSome) s') :
  ba (aV X.prog X.w) A (cK .NotIn u<|.ref a) Q E s:=by
 rcases g with⟨kvs,k,e,ey,l⟩|⟨kvs,k,b,e,ey,eb,l⟩
 .subst ey
  obtain⟨z,hd,vs,rel,dd⟩:=ZdQ I.hok e;refine wpAny_notIn_of (ZbO ry) hd dd.mapOf ?_;rw[<-(rel.val k).isSome_eq,<-l];exact h _<|I.tok _
 .subst ey
  cases(ry)
  obtain⟨z,hd,xs,rel,dd⟩:=ZdY I.hok e;refine wpAny_notIn_heap (kR hu) (Gq I.hok eb) hd dd ?_;have q:=(rel.val k).isSome_eq;rw[ox]at q;rw[<-q,<-l];exact h _<|I.tok _
end L2
namespace Pv
open PySem (Str)
inductive V where
 |non|bl (b:Bool)|int (i:Int)|str (x:bi)|tup (xs:List V)|lst (xs:List V)|drw|dct (ks:Option (List<|List Int))|scr (ns:List Int)
 deriving Inhabited
end Pv
namespace Ev
open PySem (Str)
def nos{B:Type}{P:Prop}{b:B}(h:af=aa b):P:=by cases h
noncomputable def lim:Nat:=16777216
inductive Bop where|add|sub|mul|fdiv|mod|pow
 deriving DecidableEq
inductive Cop where|eq|ne|lt|le|gt|ge|is|inn|nin
 deriving DecidableEq
inductive Ty where|int|bool|str|tuple|list|dict|cls (c:Nat)
 deriving DecidableEq
inductive Bf where|len|max2|min2|toInt|tuple|list|all|sum|sorted|sortedR|dictP|rangeL
 deriving DecidableEq
inductive Mf where|append|extend
 deriving DecidableEq
mutual
inductive E where
 |c (d:Pv.V)|v (i:Nat)
 |tup (es:List E)|lst (es:List E)
 |bin (op:Bop) (a b:E)|neg (a:E)|not (a:E)|and (a b:E)|or (a b:E)|ite (t a b:E)
 |cmp (op:Cop) (a b:E)|chain (o p:Cop) (a b d:E)
 |ix (a i:E)|sl (a:E) (lo hi:Option E)
 |call (f:Nat) (as:List E)|blt (f:Bf) (as:List E)|mt (m:Mf) (o:E) (as:List E)
 |isi (a:E) (ts:List Ty)
 |comp1 (cap:List Nat) (nl:Nat) (t:List Nat) (it:W) (ifs:List E) (elt:E)
 |comp2 (cap:List Nat) (nl:Nat) (t:List Nat) (it:W) (ifs:List E) (u:List Nat) (jt:W) (jfs:List E) (elt:E)
 |fi (e:E)
 |refu (w:Bool) (e:E)
 |dix (a:E) (k:Bool)
 |callF (f:Nat) (as:List E)
inductive W where
 |of (e:E)|rng1 (a:E)|rng2 (a b:E)|zip (a b:E)|enum (a:E)|rrng (a b:E)|dk (e:E)
end
inductive Sm where
 |asg (t:List Nat) (e:E)|aug (i:Nat) (op:Bop) (e:E)
 |ret (e:E)|ex (e:E)|ite (t:E) (a b:List Sm)|forr (t:List Nat) (it:W) (b:List Sm)|whl (t:E) (b:List Sm)
 |raise (c:Nat) (as:List E)
 |mov (i j:Nat)
 |dset (i:Nat) (e:E)|cel (i f:Nat) (as:List E) (b:List Sm)
noncomputable def b2i(b:Bool):Int:=if b then 1 else 0
noncomputable def ZJ:Nat:=6
noncomputable def ixN(n:Nat)(i:Int):Option Nat:=if 0<=i then(if i<n then aa i.toNat else af)else if -(n:Int)<=i then aa (i+n).toNat else af
def at'{B:Type}(xs:List B)(i:Int):Option B:=(ixN xs.length i).bind λj=>xs[j]?
noncomputable def sIx(n d:Nat):Option Int->Nat
 |none=>d
 |some i=>if i<0 then(i+n).toNat else rX i.toNat n
noncomputable def fits(i:Int):Bool:=ag<|i.natAbs<2^8000
noncomputable def big:Int:=2^8000
def Zbj(h:b<1073741824):b<big:=Int.lt_trans h (by decide +kernel)
noncomputable def ltI:List Int->List Int->Bool
 |[],[]=>al
 |[],_::_=>ak
 |_::_,[]=>al
 |a::x,b::y=>if a=b then ltI x y else ag (a<b)
def Wt(x:List Int):List (List Int)->List (List Int)
 |[]=>[x]
 |y::r=>if ltI x y then x::y::r else y::Wt x r
def ZV:List (List Int)->List (List Int)
 |[]=>[]
 |x::r=>Wt x<|ZV r
noncomputable def VA{B:Type}(lt:B->B->Bool)(x:B):List B->List B
 |[]=>[x]
 |y::r=>if lt x y then x::y::r else y::VA lt x r
def Z8{B:Type}(lt:B->B->Bool):List B->List B
 |[]=>[]
 |x::r=>VA lt x<|Z8 lt r
def ltP:List (List Int)->List (List Int)->Bool
 |[],[]=>al
 |[],_::_=>ak
 |_::_,[]=>al
 |a::x,b::y=>if a=b then ltP x y else ltI a b
noncomputable def Zbb(is:List Int):Bool:=ag (is.length<=1000)&&is.all λi=>ag<|-1099511627776<=i/\i<=1099511627776
noncomputable def YL(rs:List (List Int)):Bool:=ag (rs.length<=100000)&&decide rs.Nodup&&rs.all λr=>!r.isEmpty
noncomputable def ZM(ps:List (List<|List Int)):Bool:=ag (ps.length<=100000)&&decide ps.Nodup&&(ag (ps.length<=1)||ps.all λP=>!P.isEmpty)
def Qt(ks:List (List Int)):Bool:=ag (ks.length<=lim)&&decide ks.Nodup
noncomputable def Yh(i:Int):Bool:=ag<|-(2^62)<=i/\i<2^62
noncomputable def few(i:Int):Bool:=ag<|0<=i/\i<=1000
noncomputable def zB:Nat:=1000
noncomputable def X7:List bi:=["row","part","number","heads","not beside","not in","turn","lot","many","note"]
structure Fn where
 ps:Nat
 ns:Nat
 body:List Sm
end Ev
namespace Pv
open Ev
open PySem (Str)
noncomputable abbrev DS:=Int×Bool
inductive PR(B:Type) where
 |ok (a:B) (s:DS)|ex (c:Nat) (s:DS)|no
noncomputable def PR.bind{B β:Type}(r:PR B)(f:B->DS->PR β):PR β:=match r with
 |.ok a s=>f a s
 |.ex c s=>.ex c s
 |.no=>.no
noncomputable def PR.nox{B:Type}(r:PR B):PR B:=match r with
 |.ex _ _=>.no
 |r=>r
noncomputable def po{B:Type}(o:Option B)(s:DS):PR B:=match o with
 |some a=>.ok a s
 |none=>.no
abbrev Env:=List<|Option V
mutual
noncomputable def V.flat:V->Bool
 |.tup xs=>ZL xs
 |.lst _=>al
 |.drw=>al
 |.dct _=>al
 |_=>ak
noncomputable def ZL:List V->Bool
 |[]=>ak
 |x::xs=>x.flat&&ZL xs
end
mutual
noncomputable def ofD:V->Option V
 |.non=>aa .non
 |.bl b=>aa<|.bl b
 |.int i=>aa<|.int i
 |.str x=>aa<|.str x
 |.tup xs=>(Zfv xs).map .tup
 |_=>af
noncomputable def Zfv:List V->Option (List V)
 |[]=>aa []
 |x::xs=>match ofD x,Zfv xs with
  |some a,aa b=>aa (a::b)
  |_,_=>af
end
noncomputable def Zq:V->Option Bool
 |.non=>aa al
 |.bl b=>aa b
 |.int i=>aa<|ag<|i≠0
 |.tup xs=>aa<|!xs.isEmpty
 |.lst xs=>aa<|!xs.isEmpty
 |_=>af
noncomputable def Xd(f:V->V->Option Bool):List V->List V->Option Bool
 |[],[]=>aa ak
 |x::xs,y::ys=>match f x y,Xd f xs ys with
  |some a,aa b=>aa<|a&&b
  |_,_=>af
 |_,_=>aa al
def eqV:Nat->V->V->Option Bool
 |0,_,_=>af
 |k+1,x,y=>match x with
  |.non=>match y with
   |.non=>aa ak
   |.bl _|.int _|.str _=>aa al
   |_=>af
  |.bl a=>match y with
   |.bl b=>aa<|ag<|a=b
   |.int b=>aa<|ag<|b2i a=b
   |.non|.str _=>aa al
   |_=>af
  |.int a=>match y with
   |.int b=>aa<|ag<|a=b
   |.bl b=>aa<|ag<|a=b2i b
   |.non|.str _=>aa al
   |_=>af
  |.str a=>match y with
   |.str b=>aa<|ag<|a=b
   |.non|.bl _|.int _=>aa al
   |_=>af
  |.tup xs=>match y with
   |.tup ys=>Xd (eqV k) xs ys
   |_=>af
  |.lst xs=>match y with
   |.lst ys=>if xs.length=ys.length then Xd (eqV k) xs ys else aa al
   |_=>af
  |_=>af
def XV(x:V):List V->Option Bool
 |[]=>aa al
 |y::ys=>match eqV ZJ y x,XV x ys with
  |some a,aa b=>aa (a||b)
  |_,_=>af
noncomputable def Wd:V->Ty->Option Bool
 |.non,_=>aa al
 |.bl _,t=>aa<|ag<|t=.bool\/t=.int
 |.int _,t=>aa<|ag<|t=.int
 |.str _,t=>aa<|ag<|t=.str
 |.tup _,t=>aa<|ag<|t=.tuple
 |.lst _,t=>aa<|ag<|t=.list
 |.dct af,t=>aa<|ag<|t=.dict
 |_,_=>af
def Y2(x:V):List Ty->Option Bool
 |[]=>aa al
 |t::ts=>match Wd x t with
  |some ak=>aa ak
  |some al=>Y2 x ts
  |none=>af
def YW(xs:List V)(lo hi:Option Int):List V:=(xs.drop<|sIx xs.length 0 lo).take<|sIx xs.length xs.length hi-sIx xs.length 0 lo
def Q2(op:Bop)(a b:Int)(s:DS):PR V:=match op with
 |.add=>.ok (.int<|a+b) s
 |.sub=>.ok (.int<|a-b) s
 |.mul=>if(fits a&&fits b)=ak then .ok (.int<|a*b) s else .no
 |.fdiv=>if 0<b/\b<Ev.big then .ok (.int<|a / b) s else .no
 |.mod=>if 0<b then .ok (.int<|a%b) s else .no
 |.pow=>if 0<=b/\b<=1000/\a.natAbs<2^64 then .ok (.int<|a^b.toNat) s else .no
def Xm(op:Bop)(x y:V)(s:DS):PR V:=match x with
 |.int a=>match y with
  |.int b=>Q2 op a b s
  |_=>.no
 |.tup a=>match y with
  |.tup b=>match op with
   |.add=>if a.length+b.length<=lim then .ok (.tup<|a++b) s else .no
   |_=>.no
  |.int b=>match op with
   |.mul=>if 0<=b/\b<1000/\a.length<=1000 then .ok (.tup (aH b.toNat a).flatten) s else .no
   |_=>.no
  |_=>.no
 |.lst a=>match y with
  |.lst b=>match op with
   |.add=>if a.length+b.length<=lim then .ok (.lst<|a++b) s else .no
   |_=>.no
  |.int b=>match op with
   |.mul=>if 0<=b/\b<1000/\a.length<=1000 then .ok (.lst (aH b.toNat a).flatten) s else .no
   |_=>.no
  |_=>.no
 |_=>.no
def ZfF(op:Bop)(x y:V)(s:DS):PR V:=match x,y with
 |.int _,.int _=>Xm op x y s
 |_,_=>.no
noncomputable def intsV:List V->Option (List Int)
 |[]=>aa []
 |.int i::r=>(intsV r).map (i :: ·)
 |_::_=>af
def JS(x y:V):Option Bool:=match y with
 |.tup ys=>XV x ys
 |.lst ys=>XV x ys
 |.dct (aa ks)=>match x with
  |.tup k=>(intsV k).map λk=>ks.contains k
  |_=>af
 |_=>af
noncomputable def Ql:V->Bool
 |.non=>ak
 |_=>al
noncomputable def Zd(r:List Int):V:=.tup<|r.map .int
def Yd:List V->Option (List<|List Int)
 |[]=>aa []
 |.tup x::r=>match intsV x,Yd r with
  |some a,aa b=>aa (a::b)
  |_,_=>af
 |_::_=>af
noncomputable def int2(x y:V):Option (Int×Int):=match x with
 |.int a=>match y with
  |.int b=>aa (a,b)
  |_=>af
 |_=>af
def isV(x y:V):Option Bool:=match y with
 |.non=>aa<|Ql x
 |.bl b=>match x with
  |.bl a=>aa<|ag<|a=b
  |_=>af
 |_=>af
def YR(op:Cop)(x y:V):Option V:=match op with
 |.eq=>(eqV ZJ x y).map .bl
 |.ne=>(eqV ZJ x y).map λb=>.bl !b
 |.lt=>match x with
  |.tup a=>match y with
   |.tup b=>(Yd a).bind λP=>(Yd b).map λQ=>.bl<|ltP P Q
   |_=>af
  |x=>(int2 x y).map λz=>.bl<|ag<|z.1<z.2
 |.gt=>(int2 x y).map λz=>.bl<|ag<|z.2<z.1
 |.le=>(int2 x y).map λz=>.bl<|ag<|z.1<=z.2
 |.ge=>(int2 x y).map λz=>.bl<|ag<|z.2<=z.1
 |.is=>(isV x y).map .bl
 |.inn=>(JS x y).map .bl
 |.nin=>(JS x y).map λb=>.bl !b
def ixV(x y:V):Option V:=match x,y with
 |.tup xs,.int i=>at' xs i
 |.lst xs,.int i=>at' xs i
 |.scr xs,.int i=>(at' xs i).map .int
 |_,_=>af
def slV(x:V)(lo hi:Option Int):Option V:=match x with
 |.tup xs=>aa<|.tup<|YW xs lo hi
 |.lst xs=>aa<|.lst<|YW xs lo hi
 |_=>af
noncomputable def Uu:V->Option Bool
 |.non=>aa al
 |.bl b=>aa b
 |.int i=>aa<|ag<|i≠0
 |_=>af
def Yo:List V->Option (List Bool)
 |[]=>aa []
 |x::xs=>match Uu x,Yo xs with
  |some b,aa bs=>aa (b::bs)
  |_,_=>af
def Zb(P:List (List Int)):V:=.tup<|P.map Zd
def QI:V->Option (List<|List Int)
 |.tup ks=>Yd ks
 |_=>af
def YA:List V->Option (List<|List<|List Int)
 |[]=>aa []
 |x::r=>match QI x,YA r with
  |some a,aa b=>aa (a::b)
  |_,_=>af
noncomputable def uP:List V->Bool
 |.tup (.int _::_)::_=>ak
 |_=>al
noncomputable def YN:V->Option (List V)
 |.tup xs=>aa xs
 |.lst xs=>aa xs
 |.scr ns=>aa<|ns.map .int
 |_=>af
def ZfU:V->Option (List V)
 |.dct (aa ks)=>aa<|ks.map Zd
 |_=>af
noncomputable def ZU(lo:Int)(n:Nat):List V:=(aP n).map λ(k:Nat)=>.int<|lo+(k:Int)
def ZdF:V->Option (List Int)
 |.tup [.tup k,.bl b]=>if b=ak then intsV k else af
 |_=>af
def WC:List V->Option (List<|List Int)
 |[]=>aa []
 |v::r=>(ZdF v).bind λa=>(WC r).map (a :: ·)
def blt1(f:Bf)(x:V):Option V:=match f with
 |.len=>(YN x).map λxs=>.int xs.length
 |.toInt=>match x with
  |.int a=>aa<|.int a
  |.bl b=>aa<|.int<|b2i b
  |_=>af
 |.tuple=>(YN x).map .tup
 |.list=>(YN x).map .lst
 |.all=>match x with
  |.lst xs=>(Yo xs).map λbs=>.bl<|bs.all id
  |_=>af
 |.sum=>match x with
  |.lst xs=>(intsV xs).bind λis=>if Zbb is=ak then aa (.int is.sum)else af
  |_=>af
 |.sorted=>match x with
  |.lst xs=>if uP xs=ak then(Yd xs).bind λrs=>if YL rs=ak then aa (.lst<|(ZV rs).map Zd)else af else(YA xs).bind λps=>if ZM ps=ak then aa (.lst<|(Z8 ltP ps).map Zb)else af
  |_=>af
 |.sortedR=>match x with
  |.lst xs=>(Yd xs).bind λrs=>if YL rs=ak then aa (.lst<|(ZV rs).reverse.map Zd)else af
  |_=>af
 |.rangeL=>match x with
  |.int i=>if few i then aa (.lst<|ZU 0 i.toNat)else af
  |_=>af
 |.dictP=>match x with
  |.lst xs=>(WC xs).bind λks=>if Qt ks=ak then aa (.dct<|aa ks)else af
  |_=>af
 |_=>af
noncomputable def blt2(f:Bf)(x y:V):Option V:=match x,y with
 |.int a,.int b=>match f with
  |.max2=>aa<|.int (if b>a then b else a)
  |.min2=>aa<|.int (if b<a then b else a)
  |_=>af
 |_,_=>af
def Xq(f:Bf)(as:List V):Option V:=match as with
 |[x]=>blt1 f x
 |[x,y]=>blt2 f x y
 |_=>af
noncomputable def Xo:List Nat->List V->Env->Option Env
 |[],[],U=>aa U
 |i::t,x::xs,U=>Xo t xs<|U.set i<|aa x
 |_,_,_=>af
noncomputable def ZbG:V->Option (List V)
 |.tup xs=>aa xs
 |.lst xs=>aa xs
 |_=>af
def Zo(t:List Nat)(x:V)(U:Env):Option Env:=match t with
 |[i]=>aa<|U.set i<|aa x
 |t=>match ZbG x with
  |some xs=>Xo t xs U
  |none=>af
abbrev Zr:=Nat->List V->DS->PR V
noncomputable def Ye(cap:List Nat)(nl:Nat)(U:Env):Env:=aH nl af++cap.map λi=>(U[i]?).join
def mapP(f:V->DS->PR (List V)):List V->DS->PR (List V)
 |[],s=>.ok [] s
 |x::xs,s=>match f x s with
  |.ok ys s=>match mapP f xs s with
   |.ok zs s=>.ok (ys++zs) s
   |_=>.no
  |_=>.no
def qr(w:Bool)(c:Nat):V:=if w then .str (X7.getD c "")else .int c
noncomputable def own(nl:Nat)(t:List Nat):Bool:=t.all λi=>ag<|i<nl
def own2(nl:Nat)(t u:List Nat):Bool:=own nl t&&u.all λi=>ag (i<nl) && !t.contains i
mutual
noncomputable def pv(C:Zr):E->Env->DS->PR V
 |.c d,_,s=>po (ofD d) s
 |.v i,U,s=>po (U[i]?).join s
 |.tup es,U,s=>(pvs C es U s).bind λxs s=>if xs.length<=lim then .ok (.tup xs) s else .no
 |.lst es,U,s=>(pvs C es U s).bind λxs s=>if xs.length<=lim then .ok (.lst xs) s else .no
 |.bin op a b,U,s=>(pv C a U s).bind λx s=>(pv C b U s).bind λy s=>Xm op x y s
 |.neg a,U,s=>(pv C a U s).bind λx s=>match x with
  |.int i=>.ok (.int<|-i) s
  |_=>.no
 |.not a,U,s=>(pv C a U s).bind λx s=>(po (Zq x) s).bind λb s=>.ok (.bl !b) s
 |.and a b,U,s=>(pv C a U s).bind λx s=>match x with
  |.bl c=>if c then pv C b U s else .ok (.bl al) s
  |_=>.no
 |.or a b,U,s=>(pv C a U s).bind λx s=>match x with
  |.bl c=>if c then .ok (.bl ak) s else pv C b U s
  |_=>.no
 |.ite t a b,U,s=>(pv C t U s).bind λx s=>(po (Zq x) s).bind λc s=>if c then pv C a U s else pv C b U s
 |.cmp op a b,U,s=>(pv C a U s).bind λx s=>(pv C b U s).bind λy s=>po (YR op x y) s
 |.chain o p a b d,U,s=>(pv C a U s).bind λx s=>(pv C b U s).bind λy s=>(po (YR o x y) s).bind λz s=>match z with
  |.bl c=>if c then(pv C d U s).bind λw s=>po (YR p y w) s else .ok (.bl al) s
  |_=>.no
 |.ix a i,U,s=>(pv C a U s).bind λx s=>(pv C i U s).bind λy s=>po (ixV x y) s
 |.sl a lo hi,U,s=>(pv C a U s).bind λx s=>(pvo C lo U s).bind λl s=>(pvo C hi U s).bind λh s=>po (slV x l h) s
 |.call f as,U,s=>(pvs C as U s).bind λxs s=>C f xs s
 |.blt f as,U,s=>(pvs C as U s).bind λxs s=>po (Xq f xs) s
 |.mt _ _ _,_,_=>.no
 |.isi a ts,U,s=>(pv C a U s).bind λx s=>(po (Y2 x ts) s).bind λb s=>.ok (.bl b) s
 |.comp1 cap nl t it ifs elt,U,s=>if own nl t=ak then(pvw C it U s).bind λw s=>
   ((mapP (λx s=>(po (Zo t x<|Ye cap nl U) s).bind λZ s=>(pvt C ifs Z s).bind λb s=>if b then(pv C elt Z s).bind λy s=>.ok [y] s else .ok [] s) w s).bind
    λys s=>if ys.length<=lim then .ok (.lst ys) s else .no).nox
  else .no
 |.comp2 cap nl t it ifs u jt jfs elt,U,s=>if own2 nl t u=ak then(pvw C it U s).bind λw s=>
   ((mapP (λx s=>(po (Zo t x<|Ye cap nl U) s).bind λZ s=>(pvt C ifs Z s).bind λb s=>if b then
    (pvw C jt Z s).bind λw2 s=>mapP (λx s=>(po (Zo u x Z) s).bind λZ s=>(pvt C jfs Z s).bind λb s=>if b then(pv C elt Z s).bind λy s=>.ok [y] s else .ok [] s) w2 s
    else .ok [] s) w s).bind
    λys s=>if ys.length<=lim then .ok (.lst ys) s else .no).nox
  else .no
 |.fi a,U,s=>(pv C a U s).bind λx s=>match x with
  |.int i=>if Yh i=ak then .ok (.int i) s else .no
  |_=>.no
 |.refu w e,U,s=>match pv C e U s with
  |.ok _ s=>.ok .non s
  |.ex c s=>if 1<=c/\c<=10 then .ok (qr w<|c-1) s else .no
  |.no=>.no
 |.dix a k,U,s=>(pv C a U s).bind λx s=>match x with
  |.drw=>.ok (if k then .bl s.2 else .int s.1) s
  |_=>.no
 |.callF f as,U,s=>(pvs C as U s).bind λxs s=>C f xs s
noncomputable def pvs(C:Zr):List E->Env->DS->PR (List V)
 |[],_,s=>.ok [] s
 |e::es,U,s=>(pv C e U s).bind λx s=>(pvs C es U s).bind λxs s=>.ok (x::xs) s
noncomputable def pvo(C:Zr):Option E->Env->DS->PR (Option Int)
 |none,_,s=>.ok af s
 |some e,U,s=>(pv C e U s).bind λx s=>match x with
  |.int i=>.ok (aa i) s
  |_=>.no
noncomputable def pvt(C:Zr):List E->Env->DS->PR Bool
 |[],_,s=>.ok ak s
 |e::es,U,s=>(pv C e U s).bind λx s=>(po (Zq x) s).bind λb s=>if b then pvt C es U s else .ok al s
noncomputable def pvw(C:Zr):W->Env->DS->PR (List V)
 |.rng1 a,U,s=>(pv C a U s).bind λx s=>match x with
  |.int i=>if Yh i then .ok (ZU 0 i.toNat) s else .no
  |_=>.no
 |.rng2 a b,U,s=>(pv C a U s).bind λx s=>(pv C b U s).bind λy s=>match x,y with
  |.int i,.int j=>if(Yh i&&Yh j)=ak then .ok (ZU i (j-i).toNat) s else .no
  |_,_=>.no
 |.rrng a b,U,s=>(pv C a U s).bind λx s=>(pv C b U s).bind λy s=>match x,y with
  |.int i,.int j=>if(Yh i&&Yh j)=ak then .ok (ZU i (j-i).toNat).reverse s else .no
  |_,_=>.no
 |.zip a b,U,s=>(pv C a U s).bind λx s=>(pv C b U s).bind λy s=>match YN x,YN y with
  |some v,aa w=>.ok ((v.zip w).map λp=>.tup [p.1,p.2]) s
  |_,_=>.no
 |.enum a,U,s=>(pv C a U s).bind λx s=>match YN x with
  |some w=>.ok (((ZU 0 w.length).zip w).map λp=>.tup [p.1,p.2]) s
  |none=>.no
 |.of e,U,s=>(pv C e U s).bind λx s=>po (YN x) s
 |.dk e,U,s=>(pv C e U s).bind λx s=>po (ZfU x) s
end
inductive FlV where|nx (U:Env) (os:List Nat)|ret (v:V)
noncomputable def hide(os:List Nat)(U:Env):Env:=U.mapIdx λi o=>if os.contains i then af else o
noncomputable def fresh:E->Bool
 |.lst _=>ak
 |.comp1 .. => ak
 |.comp2 .. => ak
 |.bin .mul (.lst _) _=>ak
 |.blt .list _=>ak
 |.blt .sorted _=>ak
 |.blt .rangeL _=>ak
 |.callF _ _=>ak
 |_=>al
def vJ:V->Bool
 |.lst xs=>ZL xs
 |_=>al
def pvA(C:Zr)(e:E)(U:Env)(os:List Nat)(s:DS):PR V:=match os with
 |[]=>pv C e U s
 |os=>match pv C e (hide os U) s with
  |.ok v s=>.ok v s
  |.ex c s=>.ex c s
  |.no=>(pv C e U s).bind λv s=>if(v.flat||fresh e&&vJ v)=ak then .ok v s else .no
def Yk(C:Zr)(e:E)(U:Env)(s:DS):PR Bool:=(pv C e U s).bind λx s=>po (Zq x) s
def XW(body:V->Env->List Nat->DS->PR FlV):List V->Env->List Nat->DS->PR FlV
 |[],U,os,s=>.ok (.nx U os) s
 |x::xs,U,os,s=>(body x U os s).bind λf s=>match f with
  |.nx U os=>XW body xs U os s
  |.ret v=>.ok (.ret v) s
def YG(test:Env->DS->PR Bool)(body:Env->List Nat->DS->PR FlV):Nat->Env->List Nat->DS->PR FlV
 |0,_,_,_=>.no
 |n+1,U,os,s=>(test U s).bind λb s=>if b then(body U os s).bind λf s=>match f with
  |.nx U os=>YG test body n U os s
  |.ret v=>.ok (.ret v) s
  else .ok (.nx U os) s
noncomputable def okS(x:Int)(b:Bool):Bool:=ag (0<=x)&&(b||decide (x<2147483647))
def UE:V->Option DS
 |.lst [.int a,.bl b]=>if okS a b=ak then aa (a,b)else af
 |_=>af
def JO(o:Option V):Option V:=o.filter V.flat
def Vh(i:Nat)(U:Env):Env:=(U.take i).map JO++aH (U.length-i) af
noncomputable def uo:Option (Option V)->Option (List V)
 |some (aa<|.lst xs)=>aa xs
 |_=>af
mutual
noncomputable def rv(C:Zr)(ms:List Nat):Sm->Env->List Nat->DS->PR FlV
 |.asg [i] e,U,os,s=>(pvA C e U os s).bind λv s=>if(ms.contains i&&fresh e)=ak then match v with
   |.lst xs=>if ZL xs=ak/\i<U.length then .ok (.nx (U.set i<|aa v) (i::os.filter (· != i))) s else .no
   |_=>.no
  else .ok (.nx (U.set i<|aa v) (os.filter (· != i))) s
 |.asg t e,U,os,s=>(pvA C e U os s).bind λv s=>if(t.any os.contains)=ak then .no else(po (Zo t v U) s).bind λU s=>.ok (.nx U os) s
 |.aug i op e,U,os,s=>if os.contains i then .no else(po (U[i]?).join s).bind λx s=>(pv C e U s).bind λy s=>(ZfF op x y s).bind λz s=>.ok (.nx (U.set i<|aa z) os) s
 |.ret e,U,os,s=>(pv C e U s).bind λv s=>.ok (.ret v) s
 |.ex (.mt .append (.v i) [e]),U,os,s=>if os.contains i then(po (uo U[i]?) s).bind λxs s=>(pv C e U s).bind λv s=>if v.flat=ak/\xs.length<lim then .ok (.nx (U.set i<|aa<|.lst<|xs++[v]) os) s else .no else .no
 |.ex (.mt .extend (.v i) [e]),U,os,s=>if os.contains i then(po (uo U[i]?) s).bind λxs s=>(pv C e (hide os U) s).bind λv s=>match v with
   |.lst ys=>if ZL ys=ak/\xs.length+ys.length<=lim then .ok (.nx (U.set i<|aa<|.lst<|xs++ys) os) s else .no
   |_=>.no
  else .no
 |.ex e,U,os,s=>(pv C e U s).bind λ_ s=>.ok (.nx U os) s
 |.ite t a b,U,os,s=>(Yk C t U s).bind λc s=>if c then rvs C ms a U os s else rvs C ms b U os s
 |.forr t it b,U,os,s=>(pvw C it (hide os U) s).bind λw s=>XW (λx U os s=>if(t.any os.contains)=ak then .no else(po (Zo t x U) s).bind λU s=>rvs C ms b U os s) w U os s
 |.whl t b,U,os,s=>YG (Yk C t) (rvs C ms b) zB U os s
 |.raise c as,U,os,s=>(pvs C as U s).bind λ_ s=>.ex c s
 |.mov i j,U,os,s=>if(os.contains j&&(!os.contains i&&ag (i≠j)))=ak then(po (uo U[j]?) s).bind λxs s=>.ok (.nx ((U.set i<|aa<|.lst xs).set j af) (os.filter (· != j))) s else .no
 |.dset i e,U,os,s=>(pv C e U s).bind λv s=>match v with
  |.int x=>if okS x s.2=ak then match(U[i]?).join with
   |some .drw=>.ok (.nx U os) (x,s.2)
   |_=>.no
   else .no
  |_=>.no
 |.cel i f as b,U,os,s=>if os.isEmpty=ak then(pvs C as U s).bind λxs s=>(C f xs s).bind λv s=>(po (UE v) s).bind λd s=>match rvs C ms b ((Vh i U).set i<|aa .drw) [] d with
  |.ok (.nx U _) _=>.ok (.nx (U.map JO) []) s
  |.ok (.ret v) _=>if v.flat=ak then .ok (.ret v) s else .no
  |_=>.no
  else .no
noncomputable def rvs(C:Zr)(ms:List Nat):List Sm->Env->List Nat->DS->PR FlV
 |[],U,os,s=>.ok (.nx U os) s
 |m::ss,U,os,s=>(rv C ms m U os s).bind λf s=>match f with
  |.nx U os=>rvs C ms ss U os s
  |f=>.ok f s
end
mutual
noncomputable def vc:Sm->List Nat
 |.ex (.mt .append (.v i) _)=>[i]
 |.ex (.mt .extend (.v i) _)=>[i]
 |.ite _ a b=>muts a++muts b
 |.forr _ _ b=>muts b
 |.whl _ b=>muts b
 |.cel _ _ _ b=>muts b
 |_=>[]
noncomputable def muts:List Sm->List Nat
 |[]=>[]
 |m::ss=>vc m++muts ss
end
noncomputable def ZN(n:Nat)(xs:List V):Env:=xs.map aa++aH (n-xs.length) af
noncomputable def X8(s:DS)(m:Int):Int×DS:=
 if s.2 then(s.1%m,(s.1 / m,ak))else
  let x:=(s.1*48271+29)%2147483647
  let y:=(x*x+39373*x+7)%2147483629
  let z:=(y*y+16807*y)%2147483587
  (z / 8%m,(x,al))
def ZdD(vs:List V)(s:DS):PR V:=match vs with
 |[.drw,.int m]=>if 0<m/\m<1073741824 then .ok (.int (X8 s m).1) (X8 s m).2 else .no
 |_=>.no
def Zl(F:List Fn)(tk:Nat):Nat->Zr
 |0,_,_,_=>.no
 |d+1,f,xs,s=>if f=tk then ZdD xs s else match F[f]? with
  |some fn=>if xs.length=fn.ps then(rvs (Zl F tk d) (muts fn.body) fn.body (ZN fn.ns xs) [] s).bind λf s=>match f with
    |.ret v=>.ok v s
    |.nx _ _=>.ok .non s
   else .no
  |none=>.no
end Pv
namespace Sd
open PySem PySem.Spec PyProof.Rows L2
open Ev (E Sm Fn Bop Cop Ty Bf Mf)
noncomputable abbrev D:=Pv.V
abbrev Zs:=Pv.DS
noncomputable abbrev Lc:=Pv.Env
noncomputable abbrev R:=Pv.PR
noncomputable abbrev Calls:=Pv.Zr
structure Mx where
 K:am
 n0:Option aE
 X:aE->Prop
 xz:∀a,n0=aa a->X a
def Scr(K:am)(H:Hp)(a:aE)(ns:List Int):Prop:=
 (∃o,H a=aa (.frz o<|.lst<|ns.map V.int))\/
  ∃(o:fD)(its:Array au)(n:Nat),K.lookup a=aa o/\o.cls=.type "list"/\o.dict=af/\o.data=.seq its n/\its.size<=bn/\Vals (ns.map V.int) its.toList
def Scr.sq{K:am}{H:Hp}{a:aE}{ns:List Int}(h:Scr K H a ns):SqL K H a (ns.map V.int):=by
 rcases h with⟨o,h⟩|h
 .exact .inl<|.inr #[o,h]
 .exact .inr h
def Dct(H:Hp)(a:aE):Option (List<|List Int)->Prop
 |none=>(∃vs,H a=aa (.dT vs))\/∃vs,H a=aa (.dK vs)
 |some ks=>∃o vs,H a=aa (.frz o<|.dT vs)/\vs.map (·.1)=ks.map (·.map eI)
mutual
def Rep(U:Mx)(H:Hp):D->V->Prop
 |.non,v=>v=.non
 |.bl b,v=>v=.bl b
 |.int i,v=>v=.int i
 |.str x,v=>v=.str x
 |.tup ds,v=>∃a xs,v=.ref a/\H a=aa (.tup xs)/\Rq U H ds xs
 |.lst ds,v=>∃a xs,v=.ref a/\H a=aa (.lst xs)/\¬U.X a/\Rq U H ds xs
 |.drw,v=>∃a,v=.ref a/\U.n0=aa a
 |.dct o,v=>∃a,v=.ref a/\Dct H a o
 |.scr ns,v=>∃a,v=.ref a/\Scr U.K H a ns
def Rq(U:Mx)(H:Hp):List D->List V->Prop
 |[],xs=>xs=[]
 |d::ds,xs=>∃v vs,xs=v::vs/\Rep U H d v/\Rq U H ds vs
end
structure Fut(U:Mx)(H:Hp)(ρ':Mx)(H':Hp):Prop where
 eq:ρ'=U
 keep:∀a o,H a=aa o->H' a=aa o\/(U.n0=aa a/\∃xs,o=.lst xs)\/((∃ps,o=.tbl ps)/\∃ps,H' a=aa (.tbl ps))
def Fut.refl(U:Mx)(H:Hp):Fut U H U H:=#[rfl,λ_ _ h=>.inl h]
def Fut.trans{U ρ1 ρ2:Mx}{H H1 H2:Hp}(a:Fut U H ρ1 H1)(b:Fut ρ1 H1 ρ2 H2):Fut U H ρ2 H2:=by
 obtain⟨rfl,f⟩:=a;obtain⟨rfl,g⟩:=b;refine#[rfl,λa o h=>(f a o h).elim (λh=>g a o h) λz=>z.elim (λz=>.inr<|.inl z) λ#[e,ps,h]=>?_]
 rcases g a _ h with q|⟨_,xs,q⟩|⟨_,q⟩
 .exact .inr<|.inr #[e,ps,q]
 .cases q
 .exact .inr<|.inr #[e,q]
def Fut.there(f:Fut U H ρ' H')(n:U.n0≠.some a)(h:H a≠af):H' a≠af:=by
 obtain⟨o,e⟩:=kS.mp h;rcases f.keep a o e with q|q|⟨_,_,q⟩
 .rw[q];intro z;cases z
 .exact T7 q.1 n
 .rw[q];intro z;cases z
def Fut.new(f:Fut U H ρ' H')(h:H' a=af)(xd:∀a,U.X a->H' a≠af):H a=af:=by
 cases q:H a with
 |none=>rfl
 |some o=>
  rcases f.keep a o q with e|e|⟨_,_,e⟩
  .rw[h]at e;cases e
  .exact T7 h<|xd a<|U.xz a e.1
  .rw[h]at e;cases e
structure Lat(U:Mx)(H:Hp)(ρ':Mx)(H':Hp):Prop where
 K:ρ'.K=U.K
 n0:ρ'.n0=U.n0
 keep':∀a o,H a=aa o->(∀xs,o=.lst xs->¬U.X a)->(∀ps,o≠.tbl ps)->H' a=aa o
 X:∀a,H a≠af->ρ'.X a->U.X a
def Lat.keep(f:Lat U H ρ' H')(a:aE)(o:HO)(h:H a=aa o)(x:∀xs,o=.lst xs->¬U.X a)(n:∀ps,o≠.tbl ps:=by intro _ z;cases z):H' a=aa o:=f.keep' a o h x n
mutual
theorem Rep.lat(f:Lat U H ρ' H'):∀{d:D}{v:V},Rep U H d v->Rep ρ' H' d v
 |.non,_,h|.bl _,_,h|.int _,_,h|.str _,_,h=>by exact h
 |.tup ds,v,h=>by
  obtain⟨a,xs,e,t,r⟩:=h;exact#[a,xs,e,f.keep a _ t (λ_ z=>by cases z),r.lat f]
 |.lst ds,v,h=>by
  obtain⟨a,xs,e,t,x,r⟩:=h;exact#[a,xs,e,f.keep a _ t λ_ _=>x,λz=>x (f.X a (by rw[t];intro z;cases z) z),r.lat f]
 |.drw,v,h=>by unfold Rep at h ⊢;rw[f.n0];exact h
 |.dct o,v,h=>by
  obtain⟨a,e,t⟩:=h;refine#[a,e,?_];cases o with
  |none=>
   rcases t with⟨vs,t⟩|⟨vs,t⟩
   .exact .inl #[vs,f.keep a _ t λ_ z=>by cases z]
   .exact .inr #[vs,f.keep a _ t λ_ z=>by cases z]
  |some ks=>obtain⟨o,vs,t,q⟩:=t;exact#[o,vs,f.keep a _ t (λ_ z=>by cases z),q]
 |.scr ns,v,h=>by
  unfold Rep at h ⊢;obtain⟨a,e,t⟩:=h;rw[f.K];refine#[a,e,?_];rcases t with⟨o,t⟩|t
  .exact .inl #[o,f.keep a _ t λ_ z=>by cases z]
  .exact .inr t
theorem Rq.lat(f:Lat U H ρ' H'):∀{ds:List D}{xs:List V},Rq U H ds xs->Rq ρ' H' ds xs
 |[],_,h=>by exact h
 |d::ds,xs,h=>by
  obtain⟨v,vs,e,r,rs⟩:=h;exact#[v,vs,e,r.lat f,rs.lat f]
end
noncomputable def YU:bi:="law.<locals>.<lambda>"
def Tb(H:Hp):Prop:=∀(P:aE)(ps:Array au),H P=aa (.tbl ps)->oY ps.toList/\∀(pos:fV)(cv:au),kL pos ps.toList=aa cv->
 ∃(c:aE)(oc:fD)(vs:Array au)(t:rW),cv=.ref c/\H c=aa (.frz oc<|.own c)/\oc.data=.fields vs/\vs[1]?=aa (.str YU t)
theorem Tb.upd(h:Tb H)(hp:∀ob u,H p≠aa (.frz ob u))(ho:∀ps,o≠.tbl ps):Tb (upd H p o):=λP ps e=>by
 by_cases z:P=p
 .subst z;rw[Zn]at e;cases e;exact T7 rfl<|ho ps
 .rw[Zj z]at e
  obtain⟨a,b⟩:=h P ps e;refine#[a,λpos cv q=>?_]
  obtain⟨c,oc,vs,t,e1,e2,e3⟩:=b pos cv q;exact#[c,oc,vs,t,e1,by rw[Zj λz=>hp oc (.own c)<|by rw[<-z];exact e2];exact e2,e3]
structure St3(K:am)(U:Mx)(S:Zs)(H:Hp):Prop where
 hk:U.K=K
 xd:∀a,U.X a->H a≠af
 dw:∀a,U.n0=aa a->H a=aa (.lst [.int S.1,.bl S.2])/\Pv.okS S.1 S.2=ak
 tb:Tb H
def Fut.lat(f:Fut U H ρ' H'):Lat U H ρ' H':=by
 obtain⟨rfl,f⟩:=f;exact#[rfl,rfl,λa o h x n=>(f a o h).elim id λz=>z.elim (λz=>T7 (ρ'.xz a z.1) (let #[xs,e]:=z.2;x xs e))<|by rintro ⟨⟨ps,e⟩,_⟩;exact T7 e<|n ps,λ_ _ h=>h]
def Rep.mono(f:Fut U H ρ' H')(h:Rep U H d v):Rep ρ' H' d v:=h.lat f.lat
def Rq.mono(f:Fut U H ρ' H')(h:Rq U H d v):Rq ρ' H' d v:=h.lat f.lat
section
variable{U:Mx}{H:Hp}{v:V}
def Rq.nil:Rq U H [] []:=by rfl
def Rq.cons{d:D}{v:V}{ds:List D}{vs:List V}(r:Rep U H d v)(rs:Rq U H ds vs):Rq U H (d::ds) (v::vs):=by
 exact#[v,vs,rfl,r,rs]
theorem Rq.length:∀{ds:List D}{xs:List V},Rq U H ds xs->xs.length=ds.length
 |[],_,h=>by rw[h];rfl
 |d::ds,xs,h=>by
  obtain⟨v,vs,rfl,_,rs⟩:=h;rw[aG,aG,Rq.length rs]
theorem Rq.append:∀{ds es:List D}{xs ys:List V},Rq U H ds xs->Rq U H es ys->Rq U H (ds++es) (xs++ys)
 |[],_,_,_,h,r=>by rw[h];exact r
 |d::ds,_,_,_,h,r=>by
  obtain⟨v,vs,rfl,a,rs⟩:=h;exact Rq.cons a<|Rq.append rs r
theorem Rq.take:∀{ds:List D}{xs:List V}(k:Nat),Rq U H ds xs->Rq U H (ds.take k) (xs.take k)
 |_,_,0,_=>Rq.nil
 |[],_,k+1,h=>by rw[h];exact Rq.nil
 |d::ds,_,k+1,h=>by
  obtain⟨v,vs,rfl,a,rs⟩:=h;exact Rq.cons a<|Rq.take k rs
theorem Rq.drop:∀{ds:List D}{xs:List V}(k:Nat),Rq U H ds xs->Rq U H (ds.drop k) (xs.drop k)
 |_,_,0,h=>h
 |[],_,k+1,h=>by rw[h];exact Rq.nil
 |d::ds,_,k+1,h=>by
  obtain⟨v,vs,rfl,a,rs⟩:=h;exact Rq.drop k rs
theorem Rq.get:∀{ds:List D}{xs:List V}{i:Nat}{d:D},Rq U H ds xs->ds[i]?=aa d->∃v,xs[i]?=aa v/\Rep U H d v
 |[],_,_,_,_,e=>by simp at e
 |d::ds,_,0,_,h,e=>by
  obtain⟨v,vs,rfl,a,rs⟩:=h;simp at e;subst e;exact#[v,rfl,a]
 |d::ds,_,i+1,_,h,e=>by
  obtain⟨v,vs,rfl,a,rs⟩:=h;obtain⟨u,q,r⟩:=Rq.get rs (by simpa using e)
  exact#[u,by simpa using q,r]
theorem Rq.reverse:∀{ds:List D}{xs:List V},Rq U H ds xs->Rq U H ds.reverse xs.reverse
 |[],_,h=>by rw[h];exact Rq.nil
 |d::ds,_,h=>by
  obtain⟨v,vs,rfl,a,rs⟩:=h;rw[iz,iz];exact Rq.append (Rq.reverse rs)<|Rq.cons a Rq.nil
theorem Rq.rep(h:Rq U H ds xs):∀k:Nat,Rq U H (aH k ds).flatten (aH k xs).flatten
 |0=>Rq.nil
 |k+1=>by
  rw[cf,cf,c6,c6];exact Rq.append h<|Rq.rep h k
theorem Rq.ints:∀ns:List Int,Rq U H (ns.map Pv.V.int) (ns.map V.int)
 |[]=>Rq.nil
 |n::ns=>Rq.cons (by rfl)<|Rq.ints ns
def Rep.int'{i:Int}(h:Rep U H (.int i) v):v=.int i:=by exact h
def Rep.bl'{b:Bool}(h:Rep U H (.bl b) v):v=.bl b:=by exact h
def Rep.non'(h:Rep U H .non v):v=.non:=by exact h
def Rep.str'{x:bi}(h:Rep U H (.str x) v):v=.str x:=by exact h
def Rep.tup'{ds:List D}(h:Rep U H (.tup ds) v):∃a xs,v=.ref a/\H a=aa (.tup xs)/\Rq U H ds xs:=by exact h
def Rep.lst'{ds:List D}(h:Rep U H (.lst ds) v):∃a xs,v=.ref a/\H a=aa (.lst xs)/\¬U.X a/\Rq U H ds xs:=by exact h
def Rep.drw'(h:Rep U H .drw v):∃a,v=.ref a/\U.n0=aa a:=by exact h
def Rep.dct'(h:Rep U H (.dct o) v):∃a,v=.ref a/\Dct H a o:=by exact h
def Rep.scr'(h:Rep U H (.scr ns) v):∃a,v=.ref a/\Scr U.K H a ns:=by exact h
def ZK(i:Int):Rep U H (.int i) (.int i):=by rfl
def Yj(b:Bool):Rep U H (.bl b) (.bl b):=by rfl
def Us:Rep U H .non .non:=by rfl
def vD(x:bi):Rep U H (.str x) (.str x):=by rfl
def Xe(h:H a=aa (.tup xs))(r:Rq U H ds xs):Rep U H (.tup ds) (.ref a):=by exact#[a,xs,rfl,h,r]
def Xy(h:H a=aa (.lst xs))(x:¬U.X a)(r:Rq U H ds xs):Rep U H (.lst ds) (.ref a):=by exact#[a,xs,rfl,h,x,r]
def Rep.seq(h:Rep U H x v)(e:Pv.YN x=aa ds):∃p xs,v=.ref p/\(SqL U.K H p xs\/SqT U.K H p xs)/\Rq U H ds xs:=by
 cases x with|tup es=>cases e;obtain⟨p,xs,rfl,h,r⟩:=h.tup';exact#[p,xs,rfl,.inr<|SqT.of h,r]|lst es=>cases e;obtain⟨p,xs,rfl,h,_,r⟩:=h.lst';exact#[p,xs,rfl,.inl<|SqL.of h,r]|scr ns=>cases e;obtain⟨p,e,q⟩:=h.scr';exact#[p,_,e,.inl q.sq,Rq.ints ns]|_=>cases e
end
structure LocR(U:Mx)(H:Hp)(l:Lc)(Z:L2.St):Prop where
 len:l.length=Z.length
 val:∀(i:Nat)(d:D),l[i]?=aa (aa d)->∃v,Z[i]?=aa (aa v)/\Rep U H d v
theorem LocR.mono(f:Fut U H ρ' H')(r:LocR U H l Z):LocR ρ' H' l Z:=
 #[r.len,λi d e=>let #[v,q,h]:=r.val i d e;#[v,q,h.mono f]]
theorem LocR.set(r:LocR U H l Z)(i:Nat)(h:Rep U H d v):LocR U H (l.set i<|aa d) (Z.set i<|aa v):=
 #[by rw[bE,bE];exact r.len,λj e q=>by
  rw[oy]at q ⊢;split at q
  .rename_i hij
   subst hij;split at q
   .rename_i hl
    cases q;rw[T9 rfl,T9<|by rw[<-r.len];exact hl]
    exact#[v,rfl,h]
   .cases q
  .rename_i hij
   rw[T8 hij];exact r.val j e q]
def End{B β:Type}(K:am)(xw:Nat->Hp->Prop)(rep:Mx->Hp->B->β->Prop)(U:Mx)(H:Hp)(Q:β->Hp->Prop):R B->Prop
 |.ok d S=>∀ρ' H' v,Fut U H ρ' H'->St3 K ρ' S H'->rep ρ' H' d v->Q v H'
 |.ex c S=>∀ρ' H',Fut U H ρ' H'->St3 K ρ' S H'->xw c H'
 |.no=>False
section
variable{K:am}{xw:Nat->Hp->Prop}{U ρ':Mx}{H H':Hp}{B β α' β':Type}{rep:Mx->Hp->B->β->Prop}{rep':Mx->Hp->α'->β'->Prop}
def End.mono{Q:β->Hp->Prop}(f:Fut U H ρ' H')(h:End K xw rep U H Q r):End K xw rep ρ' H' Q r:=by
 cases r with|ok d S=>exact λρ2 H2 v g st r=>h ρ2 H2 v (f.trans g) st r|ex c S=>exact λρ2 H2 g st=>h ρ2 H2 (f.trans g) st|no=>exact h
theorem End.bind{Q:β'->Hp->Prop}{Q1:β->Hp->Prop}(h:End K xw rep' U H Q (r.bind f))
  (k:∀d S ρ1 H1 v,Fut U H ρ1 H1->St3 K ρ1 S H1->rep ρ1 H1 d v->End K xw rep' ρ1 H1 Q (f d S)->Q1 v H1):End K xw rep U H Q1 r:=by
 cases r with|ok d S=>exact λρ1 H1 v g st r=>k d S ρ1 H1 v g st r<|End.mono g h|ex c S=>exact h|no=>exact h
theorem End.ok{Q:β->Hp->Prop}(h:End K xw rep U H Q (.ok a S))(st:St3 K U S H)(r:rep U H a v):Q v H:=h U H v (Fut.refl U H) st r
def End.ob{Q:β'->Hp->Prop}(h:End K xw rep' U H Q ((Pv.po o S).bind f)):∃a,o=aa a/\End K xw rep' U H Q (f a S):=by
 cases o with|none=>exact h.elim|some a=>exact#[a,rfl,h]
theorem End.po{Q:β->Hp->Prop}(h:End K xw rep U H Q (Pv.po o S)):∃a,o=aa a/\End K xw rep U H Q (.ok a S):=by
 cases o with|none=>exact h.elim|some a=>exact#[a,rfl,h]
theorem End.map{Q:β->Hp->Prop}(h:End K xw rep U H Q (Pv.po (o.map f) S)):∃a,o=aa a/\End K xw rep U H Q (.ok (f a) S):=by
 cases o with|none=>exact h.elim|some a=>exact#[a,rfl,h]
def End.ite{c:Prop}[Decidable c]{Q:β->Hp->Prop}(h:End K xw rep U H Q (if c then a else b)):(c/\End K xw rep U H Q a)\/(¬c/\End K xw rep U H Q b):=by
 split at h
 .exact .inl #[‹_›,h]
 .exact .inr #[‹_›,h]
def End.guard{c:Prop}[Decidable c]{Q:β->Hp->Prop}(h:End K xw rep U H Q (if c then a else .no)):c/\End K xw rep U H Q a:=by
 rcases h.ite with h|⟨_,h⟩
 .exact h
 .exact h.elim
end
abbrev nx:Nat->Hp->Prop:=λ_ _=>False
theorem End.nox{B β:Type}{K:am}{xw:Nat->Hp->Prop}{U:Mx}{H:Hp}{rep:Mx->Hp->B->β->Prop}{Q:β->Hp->Prop}{r:R B}(h:End K xw rep U H Q r.nox):End K nx rep U H Q r:=by
 cases r with|ok d S=>exact h|ex c S=>exact h.elim|no=>exact h
def VS(_:Mx)(_:Hp)(a b:Bool):Prop:=a=b
def Zgh(_:Mx)(_:Hp)(a b:Option Int):Prop:=a=b
section
variable(X:Cx)(xw:Nat->Hp->Prop)
def tE(f:Lc->Zs->R D):TE:=λZ H Q=>∃U l S,St3 X.K U S H/\LocR U H l Z/\End X.K xw Rep U H Q (f l S)
def tA(f:Lc->Zs->R (List D)):TA:=λZ H Q=>∃U l S,St3 X.K U S H/\LocR U H l Z/\End X.K xw Rq U H Q (f l S)
def tB3(f:Lc->Zs->R Bool):TT:=λZ H Q=>∃U l S,St3 X.K U S H/\LocR U H l Z/\End X.K xw VS U H Q (f l S)
def tO(f:Lc->Zs->R (Option Int)):TO:=λZ H Q=>∃U l S,St3 X.K U S H/\LocR U H l Z/\End X.K xw Zgh U H Q (f l S)
variable(C:Calls)
def CE(e:Expr)(i:E):Prop:=PE X e<|tE X xw<|Pv.pv C i
def CT(e:Expr)(i:E):Prop:=PT X e<|tB3 X xw<|Pv.Yk C i
def CA(es:List Expr)(is:List E):Prop:=PA X es<|tA X xw<|Pv.pvs C is
def CO(e:Option Expr)(i:Option E):Prop:=PO X e<|tO X xw<|Pv.pvo C i
end
def PE.imp(h:PE X e t)(k:∀Z H Q,t' Z H Q->t Z H Q):PE X e t':=λpq s Z H Q I q=>h pq s Z H Q I<|k Z H Q q
def PT.imp(h:PT X e t)(k:∀Z H Q,t' Z H Q->t Z H Q):PT X e t':=λpq s Z H Q I q=>h pq s Z H Q I<|k Z H Q q
def PA.imp(h:PA X e t)(k:∀Z H Q,t' Z H Q->t Z H Q):PA X e t':=λpos pq s Z H Q I q=>h pos pq s Z H Q I<|k Z H Q q
def PO.imp(h:PO X e t)(k:∀Z H Q,t' Z H Q->t Z H Q):PO X e t':=λpq s Z H Q I q=>h pq s Z H Q I<|k Z H Q q
section
variable{K:am}{U ρ':Mx}{S:Zs}{H H':Hp}{a p:aE}
def Zw(hp:H p=af):Fut U H U (upd H p o):=#[rfl,λb u h=>.inl<|by rw[Zj<|ZQ h hp];exact h]
def St3.fresh(st:St3 K U S H)(hp:H p=af)(ho:∀ps,o≠.tbl ps:=by intro _ z;cases z):St3 K U S (upd H p o):=
 have n:∀b,H b≠af->b≠p:=λb h z=>h (by rw[z];exact hp)
 #[st.hk,λb h=>by rw[Zj<|n b<|st.xd b h];exact st.xd b h,λb h=>by
  have:=st.dw b h;rw[Zj<|n b<|by rw[this.1];intro z;cases z];exact this,st.tb.upd (λob u z=>by rw[hp]at z;cases z) ho]
def St3.nx(st:St3 K U S H)(hp:H p=af):¬U.X p:=λz=>st.xd p z hp
end
def X5:Ev.lim=bn:=by rw[dv];rfl
section
variable{K:am}{xw:Nat->Hp->Prop}{U:Mx}{H:Hp}{S:Zs}{Q:VK}
def End.newT(h:End K xw Rep U H Q (.ok (.tup ds) S))(st:St3 K U S H)(r:Rq U H ds xs):∀p,H p=af->Q (.ref p) (upd H p<|.tup xs):=λp hp=>
 h U _ _ (Zw hp) (st.fresh hp) (Xe Zn<|r.mono<|Zw hp)
def End.newL(h:End K xw Rep U H Q (.ok (.lst ds) S))(st:St3 K U S H)(r:Rq U H ds xs):∀p,H p=af->Q (.ref p) (upd H p<|.lst xs):=λp hp=>
 h U _ _ (Zw hp) (st.fresh hp) (Xy Zn (st.nx hp)<|r.mono<|Zw hp)
end
section
variable{X:Cx}{xw:Nat->Hp->Prop}{C:Calls}{e a b c:Expr}{i j k:E}{pos:fV}
def wl{n:Int}{q}:CE X xw C (.Constant (.int n) q pos) (.c<|.int n):=PE.imp Qs<|by rintro Z H Q ⟨U,l,S,st,lr,h⟩;exact End.ok h st<|ZK n
def Za1{n:Bool}{q}:CE X xw C (.Constant (.bool n) q pos) (.c<|.bl n):=PE.imp v8<|by rintro Z H Q ⟨U,l,S,st,lr,h⟩;exact End.ok h st<|Yj n
def wM{q}:CE X xw C (.Constant .none q pos) (.c .non):=PE.imp xW<|by rintro Z H Q ⟨U,l,S,st,lr,h⟩;exact End.ok h st Us
def xo{x:bi}{q}:CE X xw C (.Constant (.str x) q pos) (.c<|.str x):=PE.imp J8<|by rintro Z H Q ⟨U,l,S,st,lr,h⟩;exact End.ok h st<|vD x
def ZeU(n:Nat){x:bi}(hN:X.N[n]?=aa x)(hv:Vis X.env.scope x)(hd:(x == ("__debug__" : bi))=al)
  (hcd:(x == ("__classdict__" : bi))=al):CE X xw C (.Name x pos) (.v n):=PE.imp (Yq hN hv hd hcd)<|by
 rintro Z H Q ⟨U,l,S,st,lr,h⟩;rw[Pv.pv]at h;cases q:l[n]? with
 |none=>rw[q]at h;exact h.elim
 |some o=>
  cases o with
  |none=>rw[q]at h;exact h.elim
  |some d=>
   rw[q]at h;obtain⟨v,q2,r⟩:=lr.val n d q;exact#[v,q2,End.ok h st r]
def xR:CA X xw C [] []:=PA.imp Yi<|by
 rintro Z H Q ⟨U,l,S,st,lr,h⟩;rw[Pv.pvs]at h;exact End.ok h st Rq.nil
def GV{es:List Expr}{is:List E}(ha:CE X xw C e i)(hr:CA X xw C es is)(hs:aA (e::es) X.env=(al,cr e X.env)::aA es X.env):CA X xw C (e::es) (i::is):=
 PA.imp (Zx ha hr hs)<|by
  rintro Z H Q ⟨U,l,S,st,lr,h⟩;rw[Pv.pvs]at h;exact#[U,l,S,st,lr,h.bind λx S1 ρ1 H1 v f1 st1 r1 h1=>#[ρ1,l,S1,st1,lr.mono f1,h1.bind λxs S2 ρ2 H2 vs f2 st2 r2 h2=>h2.ok st2<|Rq.cons (r1.mono f2) r2]]
def wQ{es:List Expr}{is:List E}{q}(h:CA X xw C es is):CE X xw C (.Tuple es q pos) (.tup is):=PE.imp (jO h)<|by
 rintro Z H Q ⟨U,l,S,st,lr,h⟩;rw[Pv.pv]at h;refine#[U,l,S,st,lr,h.bind λxs S1 ρ1 H1 vs f1 st1 r1 h1=>?_]
 obtain⟨hl,h1⟩:=h1.guard;exact#[by rw[r1.length,<-X5];exact hl,h1.newT st1 r1]
def Wc{r:R2}{g:D->D->Zs->R D}(hg:∀{U H S x y v u Q},St3 X.K U S H->Rep U H x v->Rep U H y u->End X.K xw Rep U H Q (g x y S)->r v u H Q) :
  ∀Z H Q,tE X xw (λl S=>(Pv.pv C i l S).bind λx S=>(Pv.pv C j l S).bind λy S=>g x y S) Z H Q->tOp r (tE X xw<|Pv.pv C i) (tE X xw<|Pv.pv C j) Z H Q:=λZ H Q #[U,l,S,st,lr,h]=>
 #[U,l,S,st,lr,h.bind λx S1 ρ1 H1 v f1 st1 r1 h1=>#[ρ1,l,S1,st1,lr.mono f1,h1.bind λy S2 ρ2 H2 u f2 st2 r2 h2=>hg st2 (r1.mono f2) r2 h2]]
end
def j7(K:am):R2:=λx y H Q=>∃a b ys,x=.ref a/\y=.ref b/\SqT K H a []/\SqT K H b ys/\Q (.ref b) H
def Zao:OpR X (fm .Add) (j7 X.K):=by
 intro pq s Z H x y v u Q I rx ry h;obtain⟨a,b,ys,rfl,rfl,ha,hb,q⟩:=h;cases rx;cases ry;obtain⟨its,r1,p1,_⟩:=I.tuple ha;obtain⟨its2,r2,p2,_⟩:=I.tuple hb;have e0:=r1.nil_iff.mpr rfl;obtain⟨⟨cls,dd,data,sl⟩,ho,hc,n,hd⟩:=id p1;obtain⟨⟨cls2,dd2,data2,sl2⟩,ho2,hc2,n2,hd2⟩:=id p2;simp only at hc hd hc2 hd2;subst hc hd hc2 hd2;exact on #[_,ho,rfl] #[_,ho2,rfl] lP ny iu hU (gO _ _)
   (tuple_addW0 a b its.toArray its2.toArray n n2 dd dd2 sl sl2<|by rw[e0];rfl) #[ho,ho2,#[.ref b,H,I,rfl,q]]
def Zgn(K:am):V->Option Int->Option Int->Hp->VK->Prop:=λx lo hi H Q=>∃a xs,x=.ref a/\SqT K H a xs/\
 (HT.sIx xs.length 0 lo=0/\HT.sIx xs.length xs.length hi=xs.length)/\Q (.ref a) H
def Wp{prog:bB}{w:bS}{A:cx}{E:au->ay->Prop}{s:ay}{t sl:aE}{items:Array au}{vl vu:au}{lo hi:Option Int}{Q:au->ay->Prop}(ht:pE s.heap t items)(hs:s.heap.IsSliceOf sl vl vu .none)(pl:mf vl lo)(pu:mf vu hi)
  (hw:HT.sIx items.size 0 lo=0/\HT.sIx items.size items.size hi=items.size)(h:Q (.ref t) s):ba (aV prog w) A (m9 (.ref t)<|.ref sl) Q E s:=by
 obtain⟨os,hos,hcs,hds⟩:=id hs;have hTs:s.TypeIs (.ref sl) "slice":=#[os,hos,hcs];unfold m9
 try with_reducible refine cD ?_
 first|refine ae<|aC ?_|skip
 refine ae<|oo ht.typeIs (by decide) ?_
 refine ae (c9 ht.typeIs dR
  (dm dR ht.typeIs nk ?_<|nU _ _))
 show ba _ _ (kP (.ref t) >>= _) _ _ s;refine ae<|tupleItemsOf_ ht ?_;refine ae<|gB hTs ?_;rw[T9<|by decide]
 refine ae<|HT.Xu hs pl pu ?_;have hyes:((((HT.sIx items.size 0 lo:Nat):Int) == 0&&(1:Int) == 1&&(HT.sIx items.size items.size hi-HT.sIx items.size 0 lo) == items.size)=ak):=by
  rw[hw.1,hw.2];simp
 show ba _ _ (if(((HT.sIx items.size 0 lo:Nat):Int) == 0&&(1:Int) == 1&&(HT.sIx items.size items.size hi-HT.sIx items.size 0 lo) == items.size)=ak then _ else _) _ _ s
 rw[T9 hyes];refine ae<|ae<|gB ht.typeIs<|aC ?_;rw[T9<|by decide]
 exact ae<|eD<|aC #[_,rfl,aC h]
def jm:SlR X (Zgn X.K):=by
 intro pq s Z H x v vl vu lo hi sl Q I rx hs pl pu h;obtain⟨a,xs,rfl,hx,hw,q⟩:=h;cases rx;obtain⟨its,r,ht,hz⟩:=I.tuple hx;have hlen:its.toArray.size=xs.length:=by rw[az];exact r.length.symm
 refine#["tuple",_,dR.lookup,ht.typeIs,?_];exact Wp ht hs pl pu (by rw[hlen];exact hw) #[.ref a,H,I,rfl,q]
def wX(h:Ev.fits i=ak):nq i<=2^20:=by
 have h1:=T6 h;unfold nq;split
 .exact d4 _
 .rename_i hz
  have hne:i.natAbs≠0:=by intro z;exact hz (by simp[Int.natAbs_eq_zero.mp z])
  have:=(pI hne).mpr h1;have e:(2:Nat)^20=1048576:=by decide
  omega
def Zbp:OpR X (fm .FloorDiv) (rI (λ_ j=>0<j/\j<Ev.big) λi j=>.int<|i / j):=opI λi j _ _ _ _ _ hc q=>by
 have h1:=hc.1;have h2:=hc.2;have hne:j.natAbs≠0:=by omega
 have h3:j.natAbs<2^8000:=by
  have e:(j.natAbs:Int)=j:=Int.natAbs_of_nonneg (by omega)
  have h4:(j.natAbs:Int)<((2^8000:Nat):Int):=by rw[e,Int.natCast_pow];exact h2
  exact Int.ofNat_lt.mp h4
 have h5:=(pI hne).mpr h3;exact floordiv_int (by omega) (by rw[Int.fdiv_eq_ediv_of_nonneg i<|by omega];exact q)<|.inl<|PyProof.noPylong_of_log2<|by omega
def Zcm:OpR X (fm .Mult) (rI (λi j=>Ev.fits i=ak/\Ev.fits j=ak) λi j=>.int<|i*j):=opI λ_ _ _ _ _ _ _ hc q=>mul_int q<|IntMulOk.of_bits (wX hc.1)<|wX hc.2
def Zd9:OpR X (cK .Is) (λx y H Q=>∃a b,x=.bl a/\y=.bl b/\Q (.bl<|ag<|a=b) H):=by
 intro pq s Z H x y v u Q I rx ry h;obtain⟨a,b,rfl,rfl,q⟩:=h;cases rx;cases ry;cases a<;>cases b<;>exact aC #[.bl _,H,I,rfl,q]
def QT:fillsNumberSlot (.type "tuple") "mul" = cS al:=
 PySem.fillsNumberSlot_seq lT.lookup (by decide +kernel) F.slot_tuple_rmul.lookup (by decide +kernel)
def JU:seqRepeat? (.type "tuple")=cS (aa<|.builtin "tuple.__mul__"):=by
 unfold seqRepeat?
 rw[oZ (name:="__mul__") lT.lookup (by decide +kernel),oZ (name:="__rmul__") F.slot_tuple_rmul.lookup<|by decide +kernel]
 rfl
def Qr(a:Int)(t:rW)(l:aE)(items:Array au)(n:Nat)(dd:Option aE)(sl:Array (Option au)) :
  rq (dZ.«int.__rmul__» #[[.int a t,.ref l],[]]) (λ_ R s=>s.heap.get? l=aa {cls:=.type "tuple",dict:=dd,data:=.seq items n,slots:=sl}/\R (.ok<|.ret au.notImplemented) s):=
 .of_wp λprog w A R s h=>by obtain⟨hp,g,d,tk,os⟩:=s;obtain⟨hl,h⟩:=h;wp_walk;exact#[_,rfl,h]
def G8(l:aE)(items:Array au)(n:Nat)(dd:Option aE)(sl:Array (Option au))(x:Int)(u:rW)(h0:¬(x < -(2^63)||x>=2^63)=ak)(hc:(items.isEmpty||x == 1)=ak) :
  rq (dZ.«tuple.__mul__» #[[.ref l,.int x u],[]]) (λ_ R s=>s.heap.get? l=aa {cls:=.type "tuple",dict:=dd,data:=.seq items n,slots:=sl}/\R (.ok<|.ret<|de l) {s with heap:=s.heap,toks:=s.toks}):=
 .of_wp λprog w A R s h=>by obtain⟨hp,g,d,tk,os⟩:=s;obtain⟨hl,h⟩:=h;have f1:=lS;have f2:=d3;wp_walk;rw[T8 h0];wp_walk using dW hl;exact#[_,rfl,h]
def GQ(l:aE)(items:Array au)(n:Nat)(dd:Option aE)(sl:Array (Option au))(x:Int)(u:rW)(h0:¬(x < -(2^63)||x>=2^63)=ak)(hc:¬(items.isEmpty||x == 1)=ak)(h1:(x<=0||items.isEmpty)=ak) :
  rq (dZ.«tuple.__mul__» #[[.ref l,.int x u],[]]) (λ_ R s=>s.heap.get? l=aa {cls:=.type "tuple",dict:=dd,data:=.seq items n,slots:=sl}/\R (.ok<|.ret<|de s.heap.objs.size) {s with heap:=s.heap.push {cls:=.type "tuple",data:=.seq #[]},toks:=s.toks}):=
 .of_wp λprog w A R s h=>by obtain⟨hp,g,d,tk,os⟩:=s;obtain⟨hl,h⟩:=h;have f1:=lS;have f2:=d3;wp_walk;rw[T8 h0];wp_walk using dW hl;exact#[_,rfl,h]
def zJ(l:aE)(items:Array au)(n:Nat)(dd:Option aE)(sl:Array (Option au))(x:Int)(u:rW)(h0:¬(x < -(2^63)||x>=2^63)=ak)(hc:¬(items.isEmpty||x == 1)=ak)(h1:¬(x<=0||items.isEmpty)=ak)
  (h2:¬(items.size*x>(2^63-1) / 8))(h3:¬kT (items.size*x)=ak)(hsz:((aH x.toNat items).foldl (·++·) #[]).size<=bn) :
  rq (dZ.«tuple.__mul__» #[[.ref l,.int x u],[]]) (λ_ R s=>s.heap.get? l=aa {cls:=.type "tuple",dict:=dd,data:=.seq items n,slots:=sl}/\R (.ok<|.ret<|de s.heap.objs.size) {s with heap:=s.heap.push {cls:=.type "tuple",data:=.seq ((aH x.toNat items).foldl (·++·) #[])},toks:=s.toks}):=
 .of_wp λprog w A R s h=>by obtain⟨hp,g,d,tk,os⟩:=s;obtain⟨hl,h⟩:=h;have f1:=lS;have f2:=d3;wp_walk;rw[T8 h0];wp_walk using dW hl;rw[T8 h2];wp_walk using dW hl;exact#[_,rfl,h]
def ZdK(K:am):R2:=λx y H Q=>∃a k xs,x=.ref a/\y=.int k/\SqT K H a xs/\(0<=k/\k<1000/\xs.length<=1000)/\
 ((xs=[]\/k=1)->Q (.ref a) H)/\(¬(xs=[]\/k=1)->∀p,H p=af->Q (.ref p) (upd H p<|.tup (aH k.toNat xs).flatten))
def Zc2 :OpR X (fm .Mult) (ZdK X.K):=by
 intro pq s Z H x y v u Q I rx ry h;obtain⟨a,k,xs,rfl,rfl,hx,⟨k0,k1,hz⟩,q1,q2⟩:=h;cases rx;obtain⟨t,rfl⟩:=ry;obtain⟨its,r,pt,_⟩:=I.tuple hx;have hl:=r.length;obtain⟨⟨cls,dd,data,sl⟩,ho,hc,n,hd⟩:=id pt;simp only at hc hd;subst hc hd;have h0:¬(ag (k < -(2^63))||decide (k>=2^63))=ak:=by
  rw[T4 (by lia),T4<|by lia];exact aN
 refine li (by decide) #[_,ho,rfl] (λs'=>mj s' k t) QT pP kn JU F.slot_int_index.lookup
  (gu kn (mj s k t) o4 (oz _ _) (Qr k t a its.toArray n dd sl) #[ho,rfl,#[_,ho,rfl],?_])
 have hnil:=r.nil_iff;by_cases c:xs=[]\/k=1
 .have c':(its.toArray.isEmpty||k == 1)=ak:=by
   rcases c with c|c
   .rw[hnil.mpr c];rfl
   .rw[c];simp
  exact gu lT #[_,ho,rfl] lv (kU _ _) (G8 a its.toArray n dd sl k t h0 c') #[ho,#[.ref a,H,I,rfl,q1 c]]
 .have ne:=λz=>c (.inl<|hnil.mp z)
  have k1:k≠1:=λz=>c<|.inr z
  have c':¬(its.toArray.isEmpty||k == 1)=ak:=by
   rw[beq_eq_false_iff_ne.mpr k1,Bool.or_false,kc];cases its with|nil=>exact T7 rfl ne|cons _ _=>exact aN
  have fin:∀arr:List au,arr=(aH k.toNat its).flatten->EP X pq Z Q (de s.heap.objs.size) {s with heap:=s.heap.push {cls:=.type "tuple",data:=.seq arr.toArray}}:=λarr e=>by
   subst e;refine#[.ref s.heap.objs.size,_,I.laid (t':=s.toks) (λb ob q=>aw _ q) (aJ _) ?_,rfl,q2 c _<|I.hok.fresh<|aJ _]
   refine#[?_,_,r.rep k.toNat,lR _ _];rw[zb,dv];have:k.toNat*xs.length<=1000*1000:=iA (by lia) hz
   lia
  by_cases z:k=0
  .have h1:(ag (k<=0)||its.toArray.isEmpty)=ak:=by rw[z];rfl
   refine gu lT #[_,ho,rfl] lv (kU _ _) (GQ a its.toArray n dd sl k t h0 c' h1) #[ho,?_];exact fin [] (by rw[z];rfl)
  .have h1:¬(ag (k<=0)||its.toArray.isEmpty)=ak:=by
    rw[T4 (by lia),lD,kc]
    cases its with|nil=>exact T7 rfl ne|cons _ _=>exact aN
   have hm:(its.toArray.size:Int)*k<=1000*1000:=by
    rw[az,<-hl];exact Int.mul_le_mul (by lia) (by lia) k0 (by lia)
   have joined:(aH k.toNat its.toArray).foldl (·++·) #[]=(aH k.toNat its).flatten.toArray:=by
    have:=VN its k.toNat [];rw[fj]at this;exact this
   have hsz:((aH k.toNat its.toArray).foldl (·++·) #[]).size<=bn:=by
    rw[joined,az,zb,dv,<-hl];have:k.toNat*xs.length<=1000*1000:=iA (by lia) hz
    lia
   refine gu lT #[_,ho,rfl] lv (kU _ _) (zJ a its.toArray n dd sl k t h0 c' h1 (by lia) (by
    unfold kT;rw[T4<|by rw[dv];lia]
    exact aN) hsz) #[ho,?_]
   rw[joined];exact fin _ rfl
def ZdX:R2:=λx y H Q=>∃a k xs,x=.ref a/\y=.int k/\H a=aa (.lst xs)/\(0<=k/\k<1000/\xs.length<=1000)/\∀p,H p=af->Q (.ref p) (upd H p<|.lst (aH k.toNat xs).flatten)
def ZcY :OpR X (fm .Mult) ZdX:=by
 intro pq s Z H x y v u Q I rx ry h;obtain⟨a,k,xs,rfl,rfl,hx,⟨k0,k1,hz⟩,q2⟩:=h;cases rx;obtain⟨t,rfl⟩:=ry;obtain⟨its,r,pl,_⟩:=I.list<|SqL.of hx;have hl:=r.length;obtain⟨⟨cls,dd,data,sl⟩,n,ho,hc,hd2,hd⟩:=id pl;simp only at hc hd hd2;subst hc hd;have hm:k.toNat*its.length<=1000*1000:=iA (by lia) (by lia)
 have hm2:its.length*k.toNat<=1000*1000:=by rw[kI];exact hm
 refine li (by decide) #[_,ho,rfl] (λs'=>mj s' k t) noFill_list_mul pP kn repeat_list F.slot_int_index.lookup
  (gu kn (mj s k t) o4 (oz _ _) (lm_int_rmul_list_any k t a its.toArray n dd sl) #[ho,rfl,#[_,ho,rfl],
   gu F.slot_list_mul #[_,ho,rfl] F.entry_list_mul (F.args_list_mul_2 _ _) (lm_list_mul_any a its.toArray n dd sl k t (by simp[dZ.List.listFitsIndex];lia) (by rw[az];lia)<|by rw[az];simp[gP,bn];lia) #[ho,?_]])
 have joined:(aH (if its.toArray.isEmpty=ak then 0 else k.toNat) its.toArray).foldl (λx1 x2=>x1++x2) #[]=(aH k.toNat its).flatten.toArray:=by
  have h0:=VN its k.toNat [];rw[fj]at h0;by_cases z:its=[]
  .subst z
   have e:∀m:Nat,(aH m ([]:List au)).flatten=[]:=λm=>by induction m with|zero=>rfl|succ m ih=>rw[cf,c6,ih];rfl
   rw[e];rfl
  .rw[T8 (by rw[kc];cases its with|nil=>exact T7 rfl z|cons _ _=>exact aN)]
   exact h0
 rw[joined];refine#[.ref s.heap.objs.size,_,I.laid (t':=s.toks) (λb ob q=>aw _ q) (aJ _) ?_,rfl,q2 _<|I.hok.fresh<|aJ _]
 refine#[?_,_,0,r.rep k.toNat,aO _ rfl];rw[zb,dv];rw[hl];lia
section
variable{X:Cx}{xw:Nat->Hp->Prop}{C:Calls}{e a b c:Expr}{i j k:E}{pos:fV}
variable{U:Mx}{H:Hp}{S:Zs}{x y:D}{v u:V}{Q:VK}{K:am}
def ZdZ(K:am):R2:=λx y H Q=>rI0 (λi j=>.int<|i+j) x y H Q\/(ZdB K x y H Q\/(j7 K x y H Q\/ZcC x y H Q))
def Zcj:OpR X (fm .Add) (ZdZ X.K):=ZeT.or<|Zcu.or<|Zao.or xD
def Zea(st:St3 K U S H)(rx:Rep U H x v)(ry:Rep U H y u)(h:End K xw Rep U H Q (Pv.Xm .add x y S)):ZdZ K v u H Q:=by
 cases x with
 |int i=>cases y with|int j=>exact .inl #[i,j,rx.int',ry.int',End.ok h st<|ZK _]|_=>exact False.elim h
 |tup ds=>cases y with
  |tup es=>
   obtain⟨hl,h⟩:=End.guard h;obtain⟨p,xs,rfl,hp,r1⟩:=rx.tup';obtain⟨q,ys,rfl,hq,r2⟩:=ry.tup';have l1:=r1.length;have l2:=r2.length;by_cases z:xs=[]
   .subst z
    have e1:=hZ.mp l1.symm;subst e1;exact .inr<|.inr<|.inl #[p,q,ys,rfl,rfl,SqT.of hp,SqT.of hq,End.ok h st<|Xe hq r2]
   .refine .inr (.inl #[p,q,xs,ys,rfl,rfl,SqT.of hp,SqT.of hq,z,by rw[l1,l2,<-X5];exact hl,λz2=>?_,λ_=>h.newT st<|r1.append r2])
    subst z2;have e2:=hZ.mp l2.symm;subst e2;refine End.ok h st ?_;rw[cQ];exact Xe hp r1
  |_=>exact False.elim h
 |lst ds=>cases y with
  |lst es=>
   obtain⟨hl,h⟩:=End.guard h;obtain⟨p,xs,rfl,hp,_,r1⟩:=rx.lst';obtain⟨q,ys,rfl,hq,_,r2⟩:=ry.lst';exact .inr<|.inr<|.inr #[p,q,xs,ys,rfl,rfl,hp,hq,by rw[r1.length,r2.length,<-X5];exact hl,h.newL st<|r1.append r2]
  |_=>exact False.elim h
 |_=>cases y<;>exact False.elim h
def Zfr(st:St3 K U S H)(rx:Rep U H x v)(ry:Rep U H y u)(h:End K xw Rep U H Q (Pv.Xm .sub x y S)):rI0 (λi j=>.int<|i-j) v u H Q:=by
 cases x with
 |int i=>cases y with|int j=>exact#[i,j,rx.int',ry.int',End.ok h st<|ZK _]|_=>exact False.elim h
 |_=>cases y<;>exact False.elim h
def Zd3(K:am):R2:=λx y H Q=>rI (λi j=>Ev.fits i=ak/\Ev.fits j=ak) (λi j=>.int<|i*j) x y H Q\/(ZdK K x y H Q\/ZdX x y H Q)
def Zds:OpR X (fm .Mult) (Zd3 X.K):=Zcm.or<|Zc2.or ZcY
def Zfi(st:St3 K U S H)(rx:Rep U H x v)(ry:Rep U H y u)(h:End K xw Rep U H Q (Pv.Xm .mul x y S)):Zd3 K v u H Q:=by
 cases x with
 |int i=>cases y with
  |int j=>
   obtain⟨hc,h⟩:=End.guard h;exact .inl #[i,j,rx.int',ry.int',(aI _ _).mp hc,End.ok h st<|ZK _]
  |_=>exact False.elim h
 |tup ds=>cases y with
  |int k=>
   obtain⟨⟨h0,h1,h2⟩,h⟩:=End.guard h;obtain⟨p,xs,rfl,hp,r1⟩:=rx.tup';have l1:=r1.length;refine .inr <| .inl #[p,k,xs,rfl,ry.int',SqT.of hp,#[h0,h1,by rw[l1];exact h2],λz=>?_,λ_=>h.newT st<|r1.rep k.toNat]
   refine End.ok h st<|Xe hp ?_;rcases z with z|z
   .subst z
    have e1:=hZ.mp l1.symm;subst e1;have:∀m:Nat,(aH m ([]:List D)).flatten=[]:=λm=>by induction m with|zero=>rfl|succ m ih=>rw[cf,c6,ih];rfl
    rw[this];exact Rq.nil
   .subst z
    show Rq U H (aH 1 ds).flatten xs;rw[cf,List.replicate_zero,c6,List.flatten_nil,cQ];exact r1
  |_=>exact False.elim h
 |lst ds=>cases y with
  |int k=>
   obtain⟨⟨h0,h1,h2⟩,h⟩:=End.guard h;obtain⟨p,xs,rfl,hp,_,r1⟩:=rx.lst';exact .inr<|.inr #[p,k,xs,rfl,ry.int',hp,#[h0,h1,by rw[r1.length];exact h2],h.newL st<|r1.rep k.toNat]
  |_=>exact False.elim h
 |_=>cases y<;>exact False.elim h
def ZcF(st:St3 K U S H)(rx:Rep U H x v)(ry:Rep U H y u)(h:End K xw Rep U H Q (Pv.Xm .fdiv x y S)):rI (λ_ j=>0<j/\j<Ev.big) (λi j=>.int<|i / j) v u H Q:=by
 cases x with
 |int i=>cases y with
  |int j=>
   obtain⟨hc,h⟩:=End.guard h;exact#[i,j,rx.int',ry.int',hc,End.ok h st<|ZK _]
  |_=>exact False.elim h
 |_=>cases y<;>exact False.elim h
def Zef(st:St3 K U S H)(rx:Rep U H x v)(ry:Rep U H y u)(h:End K xw Rep U H Q (Pv.Xm .mod x y S)):rI (λ_ j=>0<j) (λi j=>.int<|i%j) v u H Q:=by
 cases x with
 |int i=>cases y with
  |int j=>
   obtain⟨hc,h⟩:=End.guard h;exact#[i,j,rx.int',ry.int',hc,End.ok h st<|ZK _]
  |_=>exact False.elim h
 |_=>cases y<;>exact False.elim h
theorem Zex(st:St3 K U S H)(rx:Rep U H x v)(ry:Rep U H y u)(h:End K xw Rep U H Q (Pv.Xm .pow x y S)):rI CPow (λi j=>.int<|i^j.toNat) v u H Q:=by
 cases x with
 |int i=>cases y with
  |int j=>
   obtain⟨hc,h⟩:=End.guard h;exact#[i,j,rx.int',ry.int',#[hc.1,by lia,hc.2.2],End.ok h st<|ZK _]
  |_=>exact False.elim h
 |_=>cases y<;>exact False.elim h
def xK(ha:CE X xw C a i)(hb:CE X xw C b j):CE X xw C (.BinOp a .Add b pos) (.bin .add i j):=PE.imp (V1 Zcj ha hb)<|Wc λst rx ry h=>Zea st rx ry h
def xu(ha:CE X xw C a i)(hb:CE X xw C b j):CE X xw C (.BinOp a .Sub b pos) (.bin .sub i j):=PE.imp (V1 Zfj ha hb)<|Wc λst rx ry h=>Zfr st rx ry h
def wN(ha:CE X xw C a i)(hb:CE X xw C b j):CE X xw C (.BinOp a .Mult b pos) (.bin .mul i j):=PE.imp (V1 Zds ha hb)<|Wc λst rx ry h=>Zfi st rx ry h
def JZ(ha:CE X xw C a i)(hb:CE X xw C b j):CE X xw C (.BinOp a .FloorDiv b pos) (.bin .fdiv i j):=PE.imp (V1 Zbp ha hb)<|Wc λst rx ry h=>ZcF st rx ry h
def wx(ha:CE X xw C a i)(hb:CE X xw C b j):CE X xw C (.BinOp a .Mod b pos) (.bin .mod i j):=PE.imp (V1 Zew ha hb)<|Wc λst rx ry h=>Zef st rx ry h
def wb(ha:CE X xw C a i)(hb:CE X xw C b j):CE X xw C (.BinOp a .Pow b pos) (.bin .pow i j):=PE.imp (V1 ZeG ha hb)<|Wc λst rx ry h=>Zex st rx ry h
def wg(ha:CE X xw C a i):CE X xw C (.UnaryOp .USub a pos) (.neg i):=PE.imp (Zdy Za9 ha)<|by
 rintro Z H Q ⟨U,l,S,st,lr,h⟩;refine#[U,l,S,st,lr,End.bind (h) λx S1 ρ1 H1 v f1 st1 r1 h1=>?_]
 cases x with|int n=>exact#[n,r1.int',End.ok h1 st1<|ZK _]|_=>exact False.elim h1
def yT(st:St3 K U S H)(rx:Rep U H x v)(h:Pv.Zq x=aa n):Zc3 K v H n:=by
 cases x with
 |non=>rw[rx.non'];exact(aq h).symm
 |bl b=>rw[rx.bl'];exact(aq h).symm
 |int i=>
  rw[rx.int'];have h':=aq h;rw[<-h'];by_cases z:i=0
  .subst z;rfl
  .rw[T5 z];exact(bne_iff_ne.mpr z).symm
 |tup ds=>
  obtain⟨p,xs,rfl,hp,r⟩:=rx.tup';have h':=aq h;refine .inr<|.inl #[xs,SqT.of hp,?_];rw[<-h'];have:=r.length;cases ds<;>cases xs<;>first|rfl|(simp at this)
 |lst ds=>
  obtain⟨p,xs,rfl,hp,_,r⟩:=rx.lst';refine .inl #[xs,SqL.of hp,?_];rw[<-aq h];have:=r.length;cases ds<;>cases xs<;>first|rfl|(simp at this)
 |_=>cases h
def xZ(ha:CE X xw C a i)(he:∀whole,isTrue a X.env whole=(do let v <-whole;lm a.pos;i5 [v] (sr v))):CT X xw C a i:=
 PT.imp (ZaA ha he)<|by
  rintro Z H Q ⟨U,l,S,st,lr,h⟩;refine#[U,l,S,st,lr,End.bind (h) λx S1 ρ1 H1 v f1 st1 r1 h1=>?_]
  cases q:Pv.Zq x with|none=>rw[q]at h1;exact False.elim h1|some n=>rw[q]at h1;exact#[n,yT st1 r1 q,End.ok h1 st1 rfl]
def wp(ha:CT X xw C a i):CT X xw C (.UnaryOp .Not a pos) (.not i):=PT.imp (Za3 ha)<|by
 rintro Z H Q ⟨U,l,S,st,lr,h⟩;refine#[U,l,S,st,lr,?_];have h':End X.K xw VS U H Q (((Pv.pv C i l S).bind λx S=>(Pv.po (Pv.Zq x) S).bind λb S=>.ok (.bl !b) S).bind λx S=>Pv.po (Pv.Zq x) S):=h
 show End X.K xw VS U H (λc H1=>Q (!c) H1) ((Pv.pv C i l S).bind λx S=>Pv.po (Pv.Zq x) S)
 cases q:Pv.pv C i l S with
 |no=>rw[q]at h';exact h'
 |ex c S1=>rw[q]at h';exact h'
 |ok x S1=>
  rw[q]at h';show End X.K xw VS U H _ (Pv.po (Pv.Zq x) S1);have h2:End X.K xw VS U H Q (((Pv.po (Pv.Zq x) S1).bind λb S=>.ok (.bl !b) S).bind λx S=>Pv.po (Pv.Zq x) S):=h'
  cases t:Pv.Zq x with
  |none=>rw[t]at h2;exact h2
  |some n=>
   rw[t]at h2;intro ρ1 H1 w f1 st1 e;exact h2 ρ1 H1 (!w) f1 st1 (by rw[<-(e)];rfl)
def wA(ha:CE X xw C a i):CE X xw C (.UnaryOp .Not a pos) (.not i):=by
 intro pq s Z H Q I hq;obtain⟨U,l,S,st,lr,h⟩:=hq;have h':=h
 refine UnaryOp_<|thn (ha pq s Z H (λv H1=>∃k,Zc3 X.K v H1 k/\Q (.bl !k) H1) I #[U,l,S,st,lr,End.bind h' λx S1 ρ1 H1 v f1 st1 r1 h1=>?_]) λv s1 #[x,H1,I1,r1,q1]=>?_
 .cases q:Pv.Zq x with|none=>rw[q]at h1;exact False.elim h1|some n=>rw[q]at h1;exact#[n,yT st1 r1 q,End.ok h1 st1<|Yj _]
 .obtain⟨k,tk,q2⟩:=q1
  refine not_of<|thn (Zbz pq s1 Z H1 x v (λk' H'=>Q (.bl !k') H') I1 r1 #[k,tk,q2]) λk' s2 #[H2,I2,q3]=>?_
  exact#[.bl<|!k',H2,I2,rfl,q3]
def wt{rest:List Expr}(ha:CE X xw C a i)(hb:CE X xw C (.BoolOp .And (b::rest) pos) j):CE X xw C (.BoolOp .And (a::b::rest) pos) (.and i j):=PE.imp (Zd7 ha hb)<|by
 rintro Z H Q ⟨U,l,S,st,lr,h⟩;refine#[U,l,S,st,lr,End.bind (h) λx S1 ρ1 H1 v f1 st1 r1 h1=>?_]
 cases x with
 |bl c=>
  refine#[c,r1.bl',?_];cases c with|true=>exact#[ρ1,l,S1,st1,lr.mono f1,h1]|false=>exact End.ok h1 st1<|Yj _
 |_=>exact False.elim h1
def xm(hc:CT X xw C c k)(ha:CE X xw C a i)(hb:CE X xw C b j):CE X xw C (.IfExp c a b pos) (.ite k i j):=PE.imp (Zbl hc ha hb)<|by
 rintro Z H Q ⟨U,l,S,st,lr,h⟩;have h':End X.K xw Rep U H Q ((Pv.pv C k l S).bind λx S=>(Pv.po (Pv.Zq x) S).bind λc S=>if c then Pv.pv C i l S else Pv.pv C j l S):=h
 refine#[U,l,S,st,lr,?_];show End X.K xw VS U H _ ((Pv.pv C k l S).bind λx S=>Pv.po (Pv.Zq x) S)
 cases q:Pv.pv C k l S with
 |no=>rw[q]at h';exact h'
 |ex c S1=>rw[q]at h';exact h'
 |ok x S1=>
  rw[q]at h';have h2:End X.K xw Rep U H Q ((Pv.po (Pv.Zq x) S1).bind λc S=>if c then Pv.pv C i l S else Pv.pv C j l S):=h'
  show End X.K xw VS U H _ (Pv.po (Pv.Zq x) S1);cases t:Pv.Zq x with
  |none=>rw[t]at h2;exact h2
  |some n=>
   rw[t]at h2;have h3:=h2
   intro ρ1 H1 w f1 st1 e;have e':n=w:=e;subst e';cases n with|true=>exact#[ρ1,l,S1,st1,lr.mono f1,h3.mono f1]|false=>exact#[ρ1,l,S1,st1,lr.mono f1,h3.mono f1]
def CWh(X:Cx)(xw:Nat->Hp->Prop)(C:Calls)(e:Expr)(i:E):Prop:=PW X e<|tB3 X xw<|Pv.Yk C i
def CWh.ct(h:CWh X xw C e i):CT X xw C e i:=PW.pt h
def PW.imp(h:PW X e t)(k:∀Z H Q,t' Z H Q->t Z H Q):PW X e t':=λwh pq s Z H Q I q=>h wh pq s Z H Q I<|k Z H Q q
def G0(ha:CT X xw C a i):CWh X xw C (.BoolOp .And [a] pos) i:=ZcM ha
def xY(ha:CT X xw C a i):CWh X xw C (.BoolOp .Or [a] pos) i:=Za0 ha
def G6{rest:List Expr}(ha:CT X xw C a i)(hb:CWh X xw C (.BoolOp .And (b::rest) pos) j):CWh X xw C (.BoolOp .And (a::b::rest) pos) (.and i j):=PW.imp (Ze4 ha hb)<|by
 rintro Z H Q ⟨U,l,S,st,lr,h⟩;have h':End X.K xw VS U H Q (((Pv.pv C i l S).bind λx S=>match x with|.bl c=>if c then Pv.pv C j l S else .ok (.bl al) S|_=>.no).bind λx S=>Pv.po (Pv.Zq x) S):=h
 refine#[U,l,S,st,lr,?_];show End X.K xw VS U H _ ((Pv.pv C i l S).bind λx S=>Pv.po (Pv.Zq x) S)
 cases q:Pv.pv C i l S with
 |no=>rw[q]at h';exact h'
 |ex c S1=>rw[q]at h';exact h'
 |ok x S1=>
  rw[q]at h';cases x with
  |bl n=>
   intro ρ1 H1 w f1 st1 e;have e':n=w:=e;subst e';cases n with|true=>exact#[ρ1,l,S1,st1,lr.mono f1,End.mono f1 (h')]|false=>exact(h') ρ1 H1 al f1 st1 rfl
  |_=>exact False.elim h'
def v3{rest:List Expr}(ha:CT X xw C a i)(hb:CWh X xw C (.BoolOp .Or (b::rest) pos) j):CWh X xw C (.BoolOp .Or (a::b::rest) pos) (.or i j):=PW.imp (ZdP ha hb)<|by
 rintro Z H Q ⟨U,l,S,st,lr,h⟩;have h':End X.K xw VS U H Q (((Pv.pv C i l S).bind λx S=>match x with|.bl c=>if c then .ok (.bl ak) S else Pv.pv C j l S|_=>.no).bind λx S=>Pv.po (Pv.Zq x) S):=h
 refine#[U,l,S,st,lr,?_];show End X.K xw VS U H _ ((Pv.pv C i l S).bind λx S=>Pv.po (Pv.Zq x) S)
 cases q:Pv.pv C i l S with
 |no=>rw[q]at h';exact h'
 |ex c S1=>rw[q]at h';exact h'
 |ok x S1=>
  rw[q]at h';cases x with
  |bl n=>
   intro ρ1 H1 w f1 st1 e;have e':n=w:=e;subst e';cases n with|false=>exact#[ρ1,l,S1,st1,lr.mono f1,End.mono f1 (h')]|true=>exact(h') ρ1 H1 ak f1 st1 rfl
  |_=>exact False.elim h'
end
theorem Qw{f:D->D->Option Bool}(hf:∀x y v b,Rep U H x v->Rep U H y v->f x y=aa b->b=ak):∀{ds es:List D}{xs:List V}{b:Bool},Rq U H ds xs->Rq U H es xs->Pv.Xd f ds es=aa b->b=ak
 |[],[],_,b,_,_,h=>(aq h).symm
 |d::ds,e::es,_,b,r1,r2,h=>by
  obtain⟨v,vs,rfl,a1,b1⟩:=r1;obtain⟨v',vs',e',a2,b2⟩:=r2;cases e';unfold Pv.Xd at h;cases q1:f d e with
  |none=>rw[q1]at h;cases h
  |some p=>
   cases q2:Pv.Xd f ds es with
   |none=>rw[q1,q2]at h;cases h
   |some q=>
    rw[q1,q2]at h;have h':=aq h;rw[<-h',hf d e v p a1 a2 q1,Qw hf b1 b2 q2];rfl
 |[],_::_,_,b,r1,r2,h=>by
  have l1:=r1.length;have l2:=r2.length;rw[l1]at l2;simp at l2
 |_::_,[],_,b,r1,r2,h=>by
  have l1:=r1.length;have l2:=r2.length;rw[l1]at l2;simp at l2
def Rep.sc{x y:D}{v:V}(r1:Rep U H x v)(r2:Rep U H y v)(h:∀a,v≠.ref a):x=y:=by
 cases x<;>cases y<;>unfold Rep at r1 r2<;>subst_vars<;>first
  |rfl
  |(cases r2;rfl)
  |(cases r1;rfl)
  |(obtain⟨a,z,_⟩:=r1;exact T7 z<|h a)
  |(obtain⟨a,z,_⟩:=r2;exact T7 z<|h a)
  |(obtain⟨a,_,z,_⟩:=r1;exact T7 z<|h a)
  |(obtain⟨a,_,z,_⟩:=r2;exact T7 z<|h a)
  |cases r1
  |cases r2
def Zbk{k:Nat}{x:D}{v:V}{b:Bool}(r:Rep U H x v)(hv:∀a,v≠.ref a)(h:Pv.eqV (k+1) x x=aa b):b=ak:=by
 cases x<;>first
  |exact(aq h).symm
  |(rw[<-aq h];exact T5 rfl)
  |exact Ev.nos h
  |(obtain⟨a,_,z,_⟩:=r.tup';exact T7 z<|hv a)
  |(obtain⟨a,_,z,_⟩:=r.lst';exact T7 z<|hv a)
theorem Rep.ref{x:D}{p:aE}(r:Rep U H x (.ref p)){y:D}{k:Nat}{b:Bool}(h:Pv.eqV (k+1) x y=aa b\/Pv.eqV (k+1) y x=aa b):(∃ds es,x=.tup ds/\y=.tup es)\/∃ds es,x=.lst ds/\y=.lst es:=by
 cases x with
 |tup ds=>cases y<;>first|exact .inl #[_,_,rfl,rfl]|(rcases h with h|h<;>exact Ev.nos h)
 |lst ds=>cases y<;>first|exact .inr #[_,_,rfl,rfl]|(rcases h with h|h<;>exact Ev.nos h)
 |non=>cases r.non'
 |bl _=>cases r.bl'
 |int _=>cases r.int'
 |str _=>cases r.str'
 |_=>cases y<;>rcases h with h|h<;>exact Ev.nos h
theorem WS:∀(k:Nat)(x y:D)(v:V)(b:Bool),Rep U H x v->Rep U H y v->Pv.eqV k x y=aa b->b=ak
 |0,_,_,_,_,_,_,h=>by cases h
 |k+1,x,y,v,b,r1,r2,h=>by
  by_cases hv:∃a,v=.ref a
  .obtain⟨p,rfl⟩:=hv
   rcases r1.ref (.inl h)with⟨ds,es,rfl,rfl⟩|⟨ds,es,rfl,rfl⟩
   .obtain⟨_,_,z,e1,q1⟩:=r1.tup'
    cases z;obtain⟨_,_,z,e2,q2⟩:=r2.tup';cases z;rw[e1]at e2;cases e2;exact Qw (λx y v b=>WS k x y v b) q1 q2 h
   .obtain⟨_,_,z,e1,_,q1⟩:=r1.lst'
    cases z;obtain⟨_,_,z,e2,_,q2⟩:=r2.lst';cases z;rw[e1]at e2;cases e2;have h:(if ds.length=es.length then Pv.Xd (Pv.eqV k) ds es else aa al)=aa b:=h
    rw[T9<|by rw[<-q1.length,q2.length]]at h
    exact Qw (λx y v b=>WS k x y v b) q1 q2 h
  .have hv:=λa z=>hv #[a,z]
   cases r1.sc r2 hv;exact Zbk r1 hv h
noncomputable def eAt(f:D->D->Option Bool)(ds es:List D)(j:Nat):Bool:=match ds[j]?,es[j]? with
 |some x,aa y=>(f x y).getD al
 |_,_=>al
theorem Xi{f:D->D->Option Bool}:∀{ds es:List D}{b:Bool},Pv.Xd f ds es=aa b->
  ((aP<|rX ds.length es.length).all (eAt f ds es)&&ds.length == es.length)=b/\∀j x y,ds[j]?=aa x->es[j]?=aa y->f x y=aa (eAt f ds es j)
 |[],[],b,h=>#[aq h,λj x y e=>by simp at e]
 |[],_::es,b,h=>#[by rw[<-aq h];simp,λj x y e=>by simp at e]
 |_::ds,[],b,h=>#[by rw[<-aq h];simp,λj x y _ e=>by simp at e]
 |d::ds,e::es,b,h=>by
  unfold Pv.Xd at h;cases q1:f d e with
  |none=>rw[q1]at h;cases h
  |some p=>
   cases q2:Pv.Xd f ds es with
   |none=>rw[q1,q2]at h;cases h
   |some q=>
    rw[q1,q2]at h;obtain⟨ih,ih2⟩:=Xi q2;have h':=aq h;have e0:eAt f (d::ds) (e::es) 0=p:=by simp[eAt,q1]
    have es':∀j,eAt f (d::ds) (e::es) (j+1)=eAt f ds es j:=λj=>by simp[eAt]
    refine#[?_,λj x y hx hy=>?_]
    .rw[<-h',<-ih,aG,aG,Nat.succ_min_succ,iB,List.all_cons,e0,kJ]
     have:((aP<|rX ds.length es.length).all<|eAt f (d::ds) (e::es)∘Nat.succ)=(aP<|rX ds.length es.length).all (eAt f ds es):=by
      exact congrArg (λg=>(aP<|rX ds.length es.length).all g)<|funext λj=>es' j
     rw[this,Bool.and_assoc]
     congr 2
     simp
    .cases j with
     |zero=>
      simp at hx hy;subst hx hy;rw[e0];exact q1
     |succ j=>
      rw[es' j];exact ih2 j x y (by simpa using hx) (by simpa using hy)
def YZ{A:cx}{k:Nat}(h:A.units+(k+1)<dD):A.in1.units+k<dD:=by
 have e:A.in1.units<=A.units+1:=by
  first|exact aJ _|(simp[cx.in1,cx.units]<;>lia)
 lia
theorem x5(I:Inv X pq Z H s):∀(k:Nat)(A:cx)(x y:D)(v u:V)(vv uu:au)(b:Bool),A.units+k<dD->Rep U H x v->Rep U H y u->Zz v vv->Zz u uu->Pv.eqV k x y=aa b->iS A s vv uu b
 |0,_,_,_,_,_,_,_,_,_,_,_,_,_,h=>by cases h
 |k+1,A,x,y,v,u,vv,uu,b,hu,r1,r2,e1,e2,h=>by
  have flat:vS v=ak->vS u=ak->eqV v u=b->iS A s vv uu b:=λf1 f2 e=>by rw[<-e];exact Zfc e1 e2 f1 f2
  have bb:∀{a c:Bool},(a == c)=ag (a=c):=λ{a c}=>by cases a<;>cases c<;>rfl
  have ii:∀{a c:Int},(a == c)=ag (a=c):=λ{a c}=>by rw[dz];simp
  have ss:∀{a c:bi},(a == c)=ag (a=c):=λ{a c}=>by rw[dz];simp
  have item:∀{ds es:List D}{xs ys:List V}(j:Nat)(its its2:List au)(j1:j<its.toArray.size)(j2:j<its2.toArray.size),its.toArray.size=ds.length->its2.toArray.size=es.length->Vals xs its->Vals ys its2->Rq U H ds xs->Rq U H es ys->(∀j x y,ds[j]?=aa x->es[j]?=aa y->Pv.eqV k x y=aa (eAt (Pv.eqV k) ds es j))->iS A.in1 s its.toArray[j] its2.toArray[j] (eAt (Pv.eqV k) ds es j):=λ{ds es xs ys} j its its2 j1 j2 n1 n2 v1 v2 q1 q2 ea=>by
   have d1:ds[j]?=aa ds[j]:=ai (by lia)
   have d2:es[j]?=aa es[j]:=ai (by lia)
   obtain⟨w1,g1,z1⟩:=q1.get d1;obtain⟨w2,g2,z2⟩:=q2.get d2;obtain⟨m1,k1,y1⟩:=v1.get g1;obtain⟨m2,k2,y2⟩:=v2.get g2;have o1:its.toArray[j]=m1:=by simpa using(aF.mp k1).2
   have o2:its2.toArray[j]=m2:=by simpa using(aF.mp k2).2
   rw[o1,o2];exact x5 I k A.in1 ds[j] es[j] w1 w2 m1 m2 _ (YZ hu) z1 z2 y1 y2<|ea j _ _ d1 d2
  cases x with
  |non=>
   cases r1.non';cases y with|non=>cases r2.non';exact flat rfl rfl<|aq h|bl _=>cases r2.bl';exact flat rfl rfl<|aq h|int _=>cases r2.int';exact flat rfl rfl<|aq h|str _=>cases r2.str';exact flat rfl rfl<|aq h|_=>exact Ev.nos h
  |bl i=>
   cases r1.bl';cases y with|non=>cases r2.non';exact flat rfl rfl<|aq h|bl _=>cases r2.bl';exact flat rfl rfl<|bb.trans<|aq h|int _=>cases r2.int';exact flat rfl rfl<|ii.trans<|aq h|str _=>cases r2.str';exact flat rfl rfl<|aq h|_=>exact Ev.nos h
  |int i=>
   cases r1.int';cases y with|non=>cases r2.non';exact flat rfl rfl<|aq h|bl _=>cases r2.bl';exact flat rfl rfl<|ii.trans<|aq h|int _=>cases r2.int';exact flat rfl rfl<|ii.trans<|aq h|str _=>cases r2.str';exact flat rfl rfl<|aq h|_=>exact Ev.nos h
  |str i=>
   cases r1.str';cases y with|non=>cases r2.non';exact flat rfl rfl<|aq h|bl _=>cases r2.bl';exact flat rfl rfl<|aq h|int _=>cases r2.int';exact flat rfl rfl<|aq h|str _=>cases r2.str';exact flat rfl rfl<|ss.trans<|aq h|_=>exact Ev.nos h
  |tup ds=>
   obtain⟨p,xs,rfl,hp,q1⟩:=r1.tup';cases e1;cases y with
   |tup es=>
    obtain⟨p',ys,rfl,hp',q2⟩:=r2.tup';cases e2;by_cases hpp:p=p'
    .subst hpp
     rw[WS (k+1) (.tup ds) (.tup es) (.ref p) b r1 r2 h];exact km _
    .obtain⟨its,v1,t1,_⟩:=I.tuple (SqT.of hp)
     obtain⟨its2,v2,t2,_⟩:=I.tuple<|SqT.of hp';have h':=h;obtain⟨ev,ea⟩:=Xi h';have n1:its.toArray.size=ds.length:=by rw[az,<-v1.length,q1.length]
     have n2:its2.toArray.size=es.length:=by rw[az,<-v2.length,q2.length]
     refine kW hpp ?_;rw[<-ev,<-n1,<-n2];exact lw t1 t2 (by lia) λj j1 j2=>item j its its2 j1 j2 n1 n2 v1 v2 q1 q2 ea
   |_=>exact Ev.nos h
  |lst ds=>
   obtain⟨p,xs,rfl,u1,_,q1⟩:=r1.lst';cases e1;cases y with
   |lst es=>
    obtain⟨p',ys,rfl,u2,_,q2⟩:=r2.lst';cases e2;by_cases hpp:p=p'
    .subst hpp
     rw[WS (k+1) (.lst ds) (.lst es) (.ref p) b r1 r2 h];exact km _
    .obtain⟨its,v1,p1,_⟩:=I.list (SqL.of u1)
     obtain⟨its2,v2,p2,_⟩:=I.list<|SqL.of u2;have n1:its.toArray.size=ds.length:=by rw[az,<-v1.length,q1.length]
     have n2:its2.toArray.size=es.length:=by rw[az,<-v2.length,q2.length]
     refine kW hpp ?_;have h2:(if ds.length=es.length then Pv.Xd (Pv.eqV k) ds es else aa al)=aa b:=h
     by_cases hl:ds.length=es.length
     .rw[T9 hl]at h2
      obtain⟨ev,ea⟩:=Xi h2;have ev':(aP ds.length).all (eAt (Pv.eqV k) ds es)=b:=by
       rw[<-ev,<-hl,oA];simp
      rw[<-ev',<-n1];exact o6 p1.isList p2.isList (by lia) (by lia) λj j1 j2=>item j its its2 j1 j2 n1 n2 v1 v2 q1 q2 ea
     .rw[T8 hl]at h2
      rw[<-aq h2];exact lE p1.isList p2.isList (bne_iff_ne.mpr<|by lia) (by lia)
   |_=>exact Ev.nos h
  |_=>exact Ev.nos h
def Vk(I:Inv X pq Z H s){k:Nat}{A:cx}{ds es:List D}{xs ys:List V}{its its2:List au}{b:Bool}(hu:A.units+(k+1)<dD)
  (q1:Rq U H ds xs)(q2:Rq U H es ys)(v1:Vals xs its)(v2:Vals ys its2)(h:Pv.Xd (Pv.eqV k) ds es=aa b) :
  ∀j (h1:j<its.toArray.size) (h2:j<its2.toArray.size),iS A.in1 s its.toArray[j] its2.toArray[j] (eAt (Pv.eqV k) ds es j):=λj j1 j2=>by
 obtain⟨_,ea⟩:=Xi h;have n1:its.toArray.size=ds.length:=by rw[az,<-v1.length,q1.length]
 have n2:its2.toArray.size=es.length:=by rw[az,<-v2.length,q2.length]
 have d1:ds[j]?=aa ds[j]:=ai (by lia)
 have d2:es[j]?=aa es[j]:=ai (by lia)
 obtain⟨w1,g1,z1⟩:=q1.get d1;obtain⟨w2,g2,z2⟩:=q2.get d2;obtain⟨m1,k1,y1⟩:=v1.get g1;obtain⟨m2,k2,y2⟩:=v2.get g2;have o1:its.toArray[j]=m1:=by
  have:=aF.mp k1
  simpa using this.2
 have o2:its2.toArray[j]=m2:=by
  have:=aF.mp k2
  simpa using this.2
 rw[o1,o2];exact x5 I k A.in1 ds[j] es[j] w1 w2 m1 m2 _ (YZ hu) z1 z2 y1 y2<|ea j _ _ d1 d2
def Zcz(K:am)(xw:Nat->Hp->Prop)(op:Cop):R2:=λv u H Q=>∃U S x y,St3 K U S H/\Rep U H x v/\Rep U H y u/\End K xw Rep U H Q (Pv.po (Pv.YR op x y) S)
def Zek :∀Z H Q,tE X xw (Pv.pv C<|.cmp op i j) Z H Q->tOp (Zcz X.K xw op) (tE X xw<|Pv.pv C i) (tE X xw<|Pv.pv C j) Z H Q:=λZ H Q h=>
 Wc (λ{U H S x y v u Q} st rx ry h=>#[U,S,x,y,st,rx,ry,h]) Z H Q h
def dI{a c:Int}:(a == c)=ag (a=c):=by rw[dz];simp
def uk{H:Hp}{U:Mx}{k:Nat}{x y:D}{v u:V}{b:Bool}(rx:Rep U H x v)(ry:Rep U H y u)(hb:Pv.eqV (k+1) x y=aa b):(scal v u=ak/\ag (v=u)=b)\/(∃i j,v=.bl i/\u=.int j/\ag (Ev.b2i i=j)=b)\/(∃i j,v=.int i/\u=.bl j/\ag (i=Ev.b2i j)=b)\/(∃ds es,x=.tup ds/\y=.tup es/\Pv.Xd (Pv.eqV k) ds es=aa b)\/∃ds es,x=.lst ds/\y=.lst es/\(if ds.length=es.length then Pv.Xd (Pv.eqV k) ds es else aa al)=aa b:=by
 cases x with
 |non=>cases rx.non';cases y with|non=>cases ry.non';exact .inl #[rfl,aq hb▸by simp]|bl _=>cases ry.bl';exact .inl #[rfl,aq hb]|int _=>cases ry.int';exact .inl #[rfl,aq hb]|str _=>cases ry.str';exact .inl #[rfl,aq hb]|_=>exact Ev.nos hb
 |bl i=>cases rx.bl';cases y with|non=>cases ry.non';exact .inl #[rfl,aq hb]|bl j=>cases ry.bl';exact .inl #[rfl,aq hb▸by simp]|int j=>cases ry.int';exact .inr<|.inl #[i,j,rfl,rfl,aq hb]|str _=>cases ry.str';exact .inl #[rfl,aq hb]|_=>exact Ev.nos hb
 |int i=>cases rx.int';cases y with|non=>cases ry.non';exact .inl #[rfl,aq hb]|bl j=>cases ry.bl';exact .inr<|.inr<|.inl #[i,j,rfl,rfl,aq hb]|int _=>cases ry.int';exact .inl #[rfl,aq hb▸by simp]|str _=>cases ry.str';exact .inl #[rfl,aq hb]|_=>exact Ev.nos hb
 |str i=>cases rx.str';cases y with|non=>cases ry.non';exact .inl #[rfl,aq hb]|bl _=>cases ry.bl';exact .inl #[rfl,aq hb]|int _=>cases ry.int';exact .inl #[rfl,aq hb]|str _=>cases ry.str';exact .inl #[rfl,aq hb▸by simp]|_=>exact Ev.nos hb
 |tup ds=>cases y with|tup es=>exact .inr<|.inr<|.inr<|.inl #[ds,es,rfl,rfl,hb]|_=>exact Ev.nos hb
 |lst ds=>cases y with|lst es=>exact .inr<|.inr<|.inr<|.inr #[ds,es,rfl,rfl,hb]|_=>exact Ev.nos hb
 |_=>exact Ev.nos hb
def ZeH(hu:X.A.units+6<dD):OpR X (cK .Eq) (Zcz X.K xw .eq):=by
 intro pq s Z H v u vv uu Q I e1 e2 h;obtain⟨U,S,x,y,st,rx,ry,h⟩:=h;obtain⟨b,hb,h1⟩:=End.map h;have q:=End.ok h1 st<|Yj b;rcases uk rx ry hb with⟨hs,e⟩|⟨i,j,rfl,rfl,e⟩|⟨i,j,rfl,rfl,e⟩|⟨ds,es,rfl,rfl,hb'⟩|⟨ds,es,rfl,rfl,h2⟩
 .exact ZfL pq s Z H v u vv uu Q I e1 e2 #[hs,by rw[e];exact q]
 .cases e1
  obtain⟨t,rfl⟩:=e2;refine EqBoolInt.eq_bool_int #[.bl b,H,I,?_,q];show bN ((if i then 1 else 0) == j)=bN b
  rw[dI];exact congrArg bN e
 .cases e2
  obtain⟨t,rfl⟩:=e1;refine EqBoolInt.eq_int_bool #[.bl b,H,I,?_,q];show bN (i == (if j then 1 else 0))=bN b
  rw[dI];exact congrArg bN e
 ·
  obtain⟨p,xs,rfl,hp,q1⟩:=rx.tup';cases e1;obtain⟨p',ys,rfl,hp',q2⟩:=ry.tup';cases e2;obtain⟨its,v1,t1,_⟩:=I.tuple<|SqT.of hp;obtain⟨its2,v2,t2,_⟩:=I.tuple<|SqT.of hp';obtain⟨ev,_⟩:=Xi hb';have n1:its.toArray.size=ds.length:=by rw[az,<-v1.length,q1.length]
  have n2:its2.toArray.size=es.length:=by rw[az,<-v2.length,q2.length]
  refine lw t1 t2 (by lia) (Vk I hu q1 q2 v1 v2 hb') X.prog X.w X.xe _ ?_
  rw[n1,n2,ev];exact#[.bl b,H,I,rfl,q]
 ·
  obtain⟨p,xs,rfl,u1,_,q1⟩:=rx.lst';cases e1;obtain⟨p',ys,rfl,u2,_,q2⟩:=ry.lst';cases e2;obtain⟨its,v1,p1,_⟩:=I.list<|SqL.of u1;obtain⟨its2,v2,p2,_⟩:=I.list<|SqL.of u2;have n1:its.toArray.size=ds.length:=by rw[az,<-v1.length,q1.length]
  have n2:its2.toArray.size=es.length:=by rw[az,<-v2.length,q2.length]
  by_cases hl:ds.length=es.length
  .rw[T9 hl]at h2
   obtain⟨ev,_⟩:=Xi h2;have ev':(aP ds.length).all (eAt (Pv.eqV 5) ds es)=b:=by
    rw[<-ev,<-hl,oA];simp
   refine o6 p1.isList p2.isList (by lia) (by lia) (Vk I hu q1 q2 v1 v2 h2) X.prog X.w X.xe _ ?_
   rw[n1,ev'];exact#[.bl b,H,I,rfl,q]
  .rw[T8 hl]at h2
   refine lE p1.isList p2.isList (bne_iff_ne.mpr<|by lia) (by lia) X.prog X.w X.xe _ ?_
   exact#[.bl b,H,I,congrArg bN<|aq h2,q]
def Zec(hu:X.A.units+6<dD):OpR X (cK .NotEq) (Zcz X.K xw .ne):=by
 intro pq s Z H v u vv uu Q I e1 e2 h;obtain⟨U,S,x,y,st,rx,ry,h⟩:=h;obtain⟨b,hb,h1⟩:=End.map h;have q:=End.ok h1 st<|Yj _;rcases uk rx ry hb with⟨hs,e⟩|⟨i,j,rfl,rfl,e⟩|⟨i,j,rfl,rfl,e⟩|⟨ds,es,rfl,rfl,hb'⟩|⟨ds,es,rfl,rfl,h2⟩
 .exact ZfG pq s Z H v u vv uu Q I e1 e2 #[hs,by rw[e];exact q]
 .cases e1
  obtain⟨t,rfl⟩:=e2;refine EqBoolInt.ne_bool_int #[.bl !b,H,I,?_,q];show bN (!((if i then 1 else 0) == j))=bN !b
  rw[dI];exact congrArg (λz=>bN !z) e
 .cases e2
  obtain⟨t,rfl⟩:=e1;refine EqBoolInt.ne_int_bool #[.bl !b,H,I,?_,q];show bN (!(i == (if j then 1 else 0)))=bN !b
  rw[dI];exact congrArg (λz=>bN !z) e
 ·
  obtain⟨p,xs,rfl,hp,q1⟩:=rx.tup';cases e1;obtain⟨p',ys,rfl,hp',q2⟩:=ry.tup';cases e2;obtain⟨its,v1,t1,_⟩:=I.tuple<|SqT.of hp;obtain⟨its2,v2,t2,_⟩:=I.tuple<|SqT.of hp';obtain⟨ev,_⟩:=Xi hb';have n1:its.toArray.size=ds.length:=by rw[az,<-v1.length,q1.length]
  have n2:its2.toArray.size=es.length:=by rw[az,<-v2.length,q2.length]
  refine SeqAt.RcNeAt.tuples t1 t2 (by lia) (Vk I hu q1 q2 v1 v2 hb') X.prog X.w X.xe _ ?_
  rw[n1,n2,ev];exact#[.bl !b,H,I,rfl,q]
 ·
  obtain⟨p,xs,rfl,u1,_,q1⟩:=rx.lst';cases e1;obtain⟨p',ys,rfl,u2,_,q2⟩:=ry.lst';cases e2;obtain⟨its,v1,p1,_⟩:=I.list<|SqL.of u1;obtain⟨its2,v2,p2,_⟩:=I.list<|SqL.of u2;have n1:its.toArray.size=ds.length:=by rw[az,<-v1.length,q1.length]
  have n2:its2.toArray.size=es.length:=by rw[az,<-v2.length,q2.length]
  by_cases hl:ds.length=es.length
  .rw[T9 hl]at h2
   obtain⟨ev,_⟩:=Xi h2;have ev':(aP ds.length).all (eAt (Pv.eqV 5) ds es)=b:=by
    rw[<-ev,<-hl,oA];simp
   refine SeqAt.RcNeAt.lists p1.isList p2.isList (by lia) (by lia) (Vk I hu q1 q2 v1 v2 h2) X.prog X.w X.xe _ ?_
   rw[n1,ev'];exact#[.bl !b,H,I,rfl,q]
  .rw[T8 hl]at h2
   refine SeqAt.RcNeAt.lists_lengths p1.isList p2.isList (bne_iff_ne.mpr<|by lia) (by lia) X.prog X.w X.xe _ ?_
   exact#[.bl !b,H,I,congrArg (λz=>bN !z)<|aq h2,q]
theorem zf(hf:∀x x' y v b b',Rep U H x v->Rep U H x' v->f x y=aa b->f x' y=aa b'->b=b') :
  ∀{ds ds' es:List D}{xs:List V}{b b':Bool},Rq U H ds xs->Rq U H ds' xs->Pv.Xd f ds es=aa b->Pv.Xd f ds' es=aa b'->b=b'
 |[],[],[],_,b,b',_,_,h,h'=>(aq h).symm.trans<|aq h'
 |[],[],_::_,_,b,b',_,_,h,h'=>(aq h).symm.trans<|aq h'
 |_::_,_::_,[],_,b,b',_,_,h,h'=>(aq h).symm.trans<|aq h'
 |d::ds,d'::ds',e::es,_,b,b',r1,r2,h,h'=>by
  obtain⟨v,vs,rfl,a1,b1⟩:=r1;obtain⟨v',vs',e',a2,b2⟩:=r2;cases e';unfold Pv.Xd at h h';cases q1:f d e with
  |none=>rw[q1]at h;cases h
  |some p=>
   cases q2:Pv.Xd f ds es with
   |none=>rw[q1,q2]at h;cases h
   |some q=>
    cases q3:f d' e with
    |none=>rw[q3]at h';cases h'
    |some p'=>
     cases q4:Pv.Xd f ds' es with
     |none=>rw[q3,q4]at h';cases h'
     |some q'=>
      rw[q1,q2]at h;rw[q3,q4]at h';have z1:=aq h;have z2:=aq h';rw[<-z1,<-z2,hf d d' e v p p' a1 a2 q1 q3,zf hf b1 b2 q2 q4]
 |[],_::_,_,_,b,b',r1,r2,_,_=>by
  have l1:=r1.length;have l2:=r2.length;rw[l1]at l2;simp at l2
 |_::_,[],_,_,b,b',r1,r2,_,_=>by
  have l1:=r1.length;have l2:=r2.length;rw[l1]at l2;simp at l2
theorem GA:∀(k:Nat)(x x' y:D)(v:V)(b b':Bool),Rep U H x v->Rep U H x' v->Pv.eqV k x y=aa b->Pv.eqV k x' y=aa b'->b=b'
 |0,_,_,_,_,_,_,_,_,h,_=>by cases h
 |k+1,x,x',y,v,b,b',r1,r2,h,h'=>by
  by_cases hv:∃a,v=.ref a
  .obtain⟨p,rfl⟩:=hv
   rcases r1.ref (.inl h)with⟨ds,es,rfl,rfl⟩|⟨ds,es,rfl,rfl⟩<;>rcases r2.ref (.inl h')with⟨ds',es',rfl,z⟩|⟨ds',es',rfl,z⟩<;>cases z
   .obtain⟨_,_,z,e1,q1⟩:=r1.tup'
    cases z;obtain⟨_,_,z,e2,q2⟩:=r2.tup';cases z;rw[e1]at e2;cases e2;exact zf (λx x' y v b b'=>GA k x x' y v b b') q1 q2 h h'
   .obtain⟨_,_,z,e1,_,q1⟩:=r1.lst'
    cases z;obtain⟨_,_,z,e2,_,q2⟩:=r2.lst';cases z;rw[e1]at e2;cases e2;have l:ds'.length=ds.length:=by rw[<-q1.length,q2.length]
    have h:(if ds.length=es.length then Pv.Xd (Pv.eqV k) ds es else aa al)=aa b:=h
    have h':(if ds'.length=es.length then Pv.Xd (Pv.eqV k) ds' es else aa al)=aa b':=h'
    rw[l]at h';by_cases c:ds.length=es.length
    .rw[T9 c]at h h'
     exact zf (λx x' y v b b'=>GA k x x' y v b b') q1 q2 h h'
    .rw[T8 c]at h h'
     exact aq<|h.symm.trans h'
  .cases r1.sc r2 λa z=>hv #[a,z]
   exact aq<|h.symm.trans h'
theorem GU :∀{ds:List D}{b:Bool},Pv.XV x ds=aa b->∀d∈ds,∃c,Pv.eqV Ev.ZJ d x=aa c
 |[],_,_,d,hd=>by cases hd
 |y::ys,b,h,d,hd=>by
  unfold Pv.XV at h;cases q1:Pv.eqV Ev.ZJ y x with
  |none=>rw[q1]at h;cases h
  |some p=>
   cases q2:Pv.XV x ys with
   |none=>rw[q1,q2]at h;cases h
   |some q=>
    rcases aB.mp hd with rfl|hd
    .exact#[p,q1]
    .exact GU q2 d hd
theorem vz :∀{ds:List D}{b:Bool},Pv.XV x ds=aa b->(ds.any λd=>(Pv.eqV Ev.ZJ d x).getD al)=b
 |[],_,h=>aq h
 |y::ys,b,h=>by
  unfold Pv.XV at h;cases q1:Pv.eqV Ev.ZJ y x with
  |none=>rw[q1]at h;cases h
  |some p=>
   cases q2:Pv.XV x ys with
   |none=>rw[q1,q2]at h;cases h
   |some q=>
    rw[q1,q2]at h;rw[lC,vz q2,q1,<-aq h];rfl
open Classical in
def Vu(I:Inv X pq Z H s)(hu:A.units+6<dD)(rx:Rep U H x v)(ex:Zz v vv)
  (q:Rq U H ds xs)(vs:Vals xs its)(h:Pv.XV x ds=aa b):∃e:au->Bool,(∀u,u∈its.toArray->iS A s u vv (e u))/\its.toArray.any e=b:=by
 refine#[λu=>ag (∃d∈ds,∃w,Rep U H d w/\Zz w u/\Pv.eqV Ev.ZJ d x=aa ak),λu hu'=>?_,?_]
 .have hu2:u∈its:=by simpa using hu'
  obtain⟨j,hj,e⟩:=cg hu2;have hl:j<ds.length:=by rw[<-q.length,vs.length];exact hj
  obtain⟨w,g,r⟩:=q.get<|ai hl;obtain⟨u',g',r'⟩:=vs.get g;have eu:u'=u:=by
   rw[ai hj]at g';exact(aq g').symm.trans e
  subst eu;obtain⟨c,hc⟩:=GU h ds[j]<|bU hl;have ec:ag (∃d∈ds,∃w,Rep U H d w/\Zz w u'/\Pv.eqV Ev.ZJ d x=aa ak)=c:=by
   cases c with
   |true=>exact T5 #[ds[j],bU hl,w,r,r',hc]
   |false=>
    refine T4 ?_
    rintro ⟨d,hd,w',a1,a2,a3⟩
    cases a2.inj r';exact T7 (GA 6 d ds[j] x w ak al a1 r a3 hc) (by decide)
  dsimp only
  rw[ec];exact x5 I 6 A ds[j] x w v u' vv c hu r rx r' ex hc
 .rw[<-vz h,List.any_toArray,dz,lV,lV]
  constructor
  .rintro ⟨u,hu1,h1⟩
   obtain⟨d,hd,w,a1,a2,a3⟩:=T6 h1;exact#[d,hd,by rw[a3];rfl]
  .rintro ⟨d,hd,h1⟩
   obtain⟨j,hj,e⟩:=cg hd;subst e;obtain⟨w,g,r⟩:=q.get<|ai hj;obtain⟨u,g',r'⟩:=vs.get g;refine#[u,cU g',T5 #[ds[j],hd,w,r,r',?_]];obtain⟨c,hc⟩:=GU h ds[j] hd;rw[hc]at h1 ⊢;exact congrArg aa h1
section
variable{X:Cx}{xw:Nat->Hp->Prop}{C:Calls}{e a b c:Expr}{i j k:E}{pos p p':fV}
def Zed(hu:X.A.units+7<dD):OpR X (cK .In) (λv u H Q=>∃U S x ds b,St3 X.K U S H/\Rep U H x v/\(Rep U H (.tup ds) u\/Rep U H (.lst ds) u)/\Pv.XV x ds=aa b/\Q (.bl b) H):=by
 intro pq s Z H v u vv uu Q I e1 e2 h;obtain⟨U,S,x,ds,b,st,rx,ry,hb,q⟩:=h;rcases ry with ry|ry
 .obtain⟨p,xs,rfl,hp,q1⟩:=ry.tup'
  cases e2;obtain⟨its,v1,t1,_⟩:=I.tuple<|SqT.of hp;obtain⟨f,h1,h2⟩:=Vu I (YZ hu) rx e1 q1 v1 hb;exact SeqAt.in_tupleAt f t1 h1 (by rw[h2];exact#[.bl b,H,I,rfl,q])
 .obtain⟨p,xs,rfl,hx,_,q1⟩:=ry.lst'
  cases e2;obtain⟨its,v1,t1,_⟩:=I.list<|SqL.of hx;obtain⟨f,h1,h2⟩:=Vu I (YZ hu) rx e1 q1 v1 hb;exact SeqAt.in_listAt f t1.isList h1 (by rw[h2];exact#[.bl b,H,I,rfl,q])
def Zce(hu:X.A.units+7<dD):OpR X (cK .NotIn) (λv u H Q=>∃U S x ds b,St3 X.K U S H/\Rep U H x v/\(Rep U H (.tup ds) u\/Rep U H (.lst ds) u)/\Pv.XV x ds=aa b/\Q (.bl !b) H):=by
 intro pq s Z H v u vv uu Q I e1 e2 h;obtain⟨U,S,x,ds,b,st,rx,ry,hb,q⟩:=h;rcases ry with ry|ry
 .obtain⟨p,xs,rfl,hp,q1⟩:=ry.tup'
  cases e2;obtain⟨its,v1,t1,_⟩:=I.tuple<|SqT.of hp;obtain⟨f,h1,h2⟩:=Vu I (YZ hu) rx e1 q1 v1 hb;exact SeqAt.notIn_tupleAt f t1 h1 (by rw[h2];exact#[.bl !b,H,I,rfl,q])
 .obtain⟨p,xs,rfl,hx,_,q1⟩:=ry.lst'
  cases e2;obtain⟨its,v1,t1,_⟩:=I.list<|SqL.of hx;obtain⟨f,h1,h2⟩:=Vu I (YZ hu) rx e1 q1 v1 hb;exact SeqAt.notIn_listAt f t1.isList h1 (by rw[h2];exact#[.bl !b,H,I,rfl,q])
variable{U:Mx}{H:Hp}{S:Zs}{x y:D}{v u:V}{Q:VK}{K:am}
def Zdc(h:Pv.int2 x y=aa z):x=.int z.1/\y=.int z.2:=by
 cases x<;>first|exact Ev.nos h|(cases y<;>first|exact Ev.nos h|(cases h;exact#[rfl,rfl]))
def J6{f:Int×Int->Bool}(st:St3 K U S H)(rx:Rep U H x v)(ry:Rep U H y u)(h:End K xw Rep U H Q (Pv.po ((Pv.int2 x y).map λz=>.bl<|f z) S)):rI0 (λi j=>.bl<|f (i,j)) v u H Q:=by
 obtain⟨z,hz,h⟩:=End.map h;obtain⟨rfl,rfl⟩:=Zdc hz;exact#[_,_,rx.int',ry.int',End.ok h st<|Yj _]
def Zf0(st:St3 K U S H)(rx:Rep U H x v)(ry:Rep U H y u)(h:End K xw Rep U H Q (Pv.po (Pv.YR .lt x y) S)):rI0 (λi j=>.bl<|ag<|i<j) v u H Q\/∃a b A B,x=.tup a/\y=.tup b/\Pv.Yd a=aa A/\Pv.Yd b=aa B/\Q (.bl<|Ev.ltP A B) H:=by
 cases x with
 |tup a=>cases y with
  |tup b=>
   obtain⟨z,hz,h⟩:=End.po h;obtain⟨A,hA,hz⟩:=bZ.mp hz;obtain⟨B,hB,rfl⟩:=cF.mp hz;exact .inr #[a,b,A,B,rfl,rfl,hA,hB,End.ok h st<|Yj _]
  |_=>exact False.elim h
 |_=>exact .inl<|J6 (f:=λz=>ag<|z.1<z.2) st rx ry h
end
section
variable{X:Cx}{xw:Nat->Hp->Prop}{C:Calls}{e a b c:Expr}{i j k:E}{pos p p':fV}
def V6{B β γ:Type}(r:R B)(f:B->Zs->R β)(g:β->Zs->R γ):(r.bind f).bind g=r.bind λa S=>(f a S).bind g:=by cases r<;>rfl
def xE{B:Type}{o:Option B}{f:B->Bool}{z:D}(h:o.map (λa=>Pv.V.bl<|f a)=aa z):∃b,z=.bl b:=by
 obtain⟨a,_,rfl⟩:=cF.mp h;exact#[_,rfl]
def ZaX{o:Cop}{x y:D}{S S':Zs}{z:D}(h:Pv.po (Pv.YR o x y) S=.ok z S'):∃b,z=.bl b:=by
 have h:Pv.YR o x y=aa z:=by
  cases q:Pv.YR o x y<;>rw[q]at h<;>cases h;rfl
 cases o with
 |lt=>
  cases x with
  |tup a=>
   cases y with|tup b=>obtain⟨A,_,h⟩:=bZ.mp h;exact xE h|_=>exact Ev.nos h
  |int i=>exact xE h
  |_=>exact Ev.nos h
 |_=>exact xE h
def Xx(X:Cx)(xw:Nat->Hp->Prop)(op:sB)(o:Cop):Prop:=OpR X (cK op)<|Zcz X.K xw o
def OpR.imp(h:OpR X f r)(k:∀v u H Q,r' v u H Q->r v u H Q):OpR X f r':=λpq s Z H x y v u Q I e1 e2 q=>h pq s Z H x y v u Q I e1 e2<|k x y H Q q
theorem Zbu(hu:X.A.units+7<dD):Xx X xw .Eq .eq:=ZeH (by lia)
theorem Zbn(hu:X.A.units+7<dD):Xx X xw .NotEq .ne:=Zec (by lia)
def JB(hu:X.A.units+7<dD):Xx X xw .LtE .le:=OpR.imp Zga<|by rintro v u H Q ⟨U,S,x,y,st,rx,ry,h⟩;exact J6 st rx ry h
def Zbv(hu:X.A.units+7<dD):Xx X xw .Gt .gt:=OpR.imp Zf7<|by rintro v u H Q ⟨U,S,x,y,st,rx,ry,h⟩;exact J6 (f:=λz=>ag<|z.2<z.1) st rx ry h
def jd(hu:X.A.units+7<dD):Xx X xw .GtE .ge:=OpR.imp ZfT<|by rintro v u H Q ⟨U,S,x,y,st,rx,ry,h⟩;exact J6 st rx ry h
def ZeX{U:Mx}{H:Hp}{x y:D}{v u:V}{b:Bool}(rx:Rep U H x v)(ry:Rep U H y u)(h:Pv.isV x y=aa b):(u=.non/\ag (v=.non)=b)\/∃i j,v=.bl i/\u=.bl j/\ag (i=j)=b:=by
 cases y with
 |non=>
  refine .inl #[ry.non',?_];rw[<-aq h];cases x<;>unfold Rep at rx<;>first
   |(subst rx;rfl)
   |(obtain⟨_,z,_⟩:=rx;subst z;rfl)
   |(obtain⟨_,_,z,_⟩:=rx;subst z;rfl)
 |bl j=>cases x with|bl i=>exact .inr #[i,j,rx.bl',ry.bl',aq h]|_=>exact Ev.nos h
 |_=>exact Ev.nos h
def Zaw(hu:X.A.units+7<dD):Xx X xw .Is .is:=OpR.imp (Zeh.or Zd9)<|by
 rintro v u H Q ⟨U,S,x,y,st,rx,ry,h⟩;obtain⟨b,hb,h⟩:=End.map h;have q:=End.ok h st<|Yj b;rcases ZeX rx ry hb with⟨e,z⟩|⟨i,j,e,e2,z⟩
 .exact .inl #[e,by rw[z];exact q]
 .exact .inr #[i,j,e,e2,by rw[z];exact q]
def zu{U:Mx}{H:Hp}{x y:D}{u:V}{b:Bool}(ry:Rep U H y u)(h:Pv.JS x y=aa b) :
  (∃ds,(Rep U H (.tup ds) u\/Rep U H (.lst ds) u)/\Pv.XV x ds=aa b)\/
  (∃l k ks,Rep U H (.dct<|aa l) u/\x=.tup k/\Pv.intsV k=aa ks/\l.contains ks=b):=by
 cases y with
 |tup ys=>exact .inl #[ys,.inl ry,h]
 |lst ys=>exact .inl #[ys,.inr ry,h]
 |dct o=>
  cases o with
  |none=>exact Ev.nos h
  |some l=>
   cases x with
   |tup k=>
    obtain⟨ks,e,z⟩:=cF.mp h;exact .inr #[l,k,ks,ry,rfl,e,z]
   |_=>exact Ev.nos h
 |_=>exact Ev.nos h
def Y7{op:sB}{o:Cop}(hc:Xx X xw op o)(ha:CE X xw C a i)(hb:CE X xw C b j)(hm:eM op b=al):CE X xw C (.Compare a [op] [b] pos) (.cmp o i j):=
 PE.imp (Zdt hc ha hb hm) (Zek)
def Xa{op:sB}{o:Cop}(hc:Xx X xw op o)(ha:CE X xw C a i)(hb:CE X xw C b j)(hm:eM op b=al):CT X xw C (.Compare a [op] [b] pos) (.cmp o i j):=
 PT.imp (Zdk hc ha hb hm)<|by
  rintro Z H Q ⟨U,l,S,st,lr,h⟩;have h':End X.K xw VS U H Q (((Pv.pv C i l S).bind λx S=>(Pv.pv C j l S).bind λy S=>Pv.po (Pv.YR o x y) S).bind λx S=>Pv.po (Pv.Zq x) S):=h
  simp only[V6]at h';refine#[U,l,S,st,lr,h'.bind λx S1 ρ1 H1 v f1 st1 r1 h1=>#[ρ1,l,S1,st1,lr.mono f1,h1.bind λy S2 ρ2 H2 u f2 st2 r2 h2=>#[ρ2,S2,x,y,st2,r1.mono f2,r2,?_]]]
  have h3:∀{r:R D},(∀z S',r=.ok z S'->∃b,z=.bl b)->End X.K xw VS ρ2 H2 Q (r.bind λx S=>Pv.po (Pv.Zq x) S)->End X.K xw Rep ρ2 H2 (λx H'=>∃k,x=V.bl k/\Q k H') r:=λ{r} hr h=>by
   cases r with
   |no=>exact h
   |ex _ _=>exact h
   |ok z S3=>
    obtain⟨b,rfl⟩:=hr z S3 rfl;exact λρ3 H3 w f3 st3 r3=>#[b,r3.bl',h ρ3 H3 b f3 st3 rfl]
  exact h3 (λz S' e=>ZaX e) h2
def W8{op op':sB}{o o':Cop}{d:Expr}{k:E}(hc:Xx X xw op o)(hc':Xx X xw op' o')(ha:CE X xw C a i)(hb:CE X xw C b j)(hd:CE X xw C d k)
  (hm:lastMarks [op,op'] [b,d]=al):CE X xw C (.Compare a [op,op'] [b,d] pos) (.chain o o' i j k):=
 PE.imp (jv hc hc' ha hb hd hm)<|by
  rintro Z H Q ⟨U,l,S,st,lr,h⟩;refine#[U,l,S,st,lr,End.bind (h) λx S1 ρ1 H1 v f1 st1 r1 h1=>#[ρ1,l,S1,st1,lr.mono f1,h1.bind λy S2 ρ2 H2 u f2 st2 r2 h2=>#[ρ2,S2,x,y,st2,r1.mono f2,r2,h2.bind λz S3 ρ3 H3 w f3 st3 r3 h3=>?_]]]
  cases z with
  |bl n=>
   refine#[n,r3.bl',?_];cases n with|true=>exact#[ρ3,l,S3,st3,((lr.mono f1).mono f2).mono f3,End.bind (h3) λt S4 ρ4 H4 t' f4 st4 r4 h4=>#[ρ4,S4,y,t,st4,(r2.mono f3).mono f4,r4,h4]]|false=>exact End.ok h3 st3<|Yj _
  |_=>exact False.elim h3
end
section
variable{X:Cx}{xw:Nat->Hp->Prop}{C:Calls}{e a b c:Expr}{i j k:E}{pos p p' p2:fV}
variable{U:Mx}{H:Hp}{S:Zs}{x y:D}{v u:V}{Q:VK}{K:am}
def VR{d:D}{ks:List D}{k:List Int}(h:Pv.intsV (d::ks)=aa k):∃n r,d=.int n/\Pv.intsV ks=aa r/\k=n::r:=by
 cases d<;>first|exact Ev.nos h|(obtain⟨r,e,z⟩:=cF.mp h;exact#[_,r,rfl,e,z.symm])
theorem Wg:∀{ks:List D}{k:List Int}{xs:List V},Pv.intsV ks=aa k->Rq U H ks xs->xs=(k.map (eI:Int->Key)).map kV
 |[],k,xs,h,r=>by cases h;rw[r];rfl
 |d::ks,k,xs,h,r=>by
  obtain⟨v,vs,rfl,a1,b1⟩:=r;obtain⟨n,r,rfl,e,rfl⟩:=VR h;rw[a1.int',Wg e b1];rfl
theorem GS:∀{k k':List Int},k.map (eI:Int->Key)=k'.map eI->k=k'
 |[],[],_=>rfl
 |[],_::_,h=>by simp at h
 |_::_,[],h=>by simp at h
 |a::k,b::k',h=>by
  rw[aY,aY]at h;injection h with h1 h2
  rw[eI.inj h1,GS h2]
def Jh{k:List Int}{l:List (List Int)}{vs:List (List Key×V)}(h:vs.map (·.1)=l.map (·.map (eI:Int->Key))):(UT vs<|k.map eI).isSome=l.contains k:=by
 rw[<-z9,show(vs.any λkv=>ag<|kv.1=k.map eI)=(vs.map (·.1)).any λy=>ag (y=k.map eI) by rw[List.any_map];rfl,h,List.any_map,List.contains_eq_any_beq]
 congr 1
 funext y
 show ag (y.map eI=k.map eI)=(k == y);by_cases z:y=k
 .subst z;simp
 .rw[T4 λw=>z<|GS w,beq_eq_false_iff_ne.mpr<|Ne.symm z]
theorem ZeA(hu:X.A.units+7<dD):OpR X (cK .In) (λv u H Q=>∃a y o,u=.ref a/\v=y/\DGet H a y o/\Q (.bl o.isSome) H):=by
 intro pq s Z H v u vv uu Q I e1 e2 h;obtain⟨a,y,o,rfl,rfl,g,q⟩:=h;cases e2;exact Zgp (by lia) I g e1 λs' I'=>#[.bl o.isSome,H,I',rfl,q]
theorem ZcG(hu:X.A.units+7<dD):OpR X (cK .NotIn) (λv u H Q=>∃a y o,u=.ref a/\v=y/\DGet H a y o/\Q (.bl !o.isSome) H):=by
 intro pq s Z H v u vv uu Q I e1 e2 h;obtain⟨a,y,o,rfl,rfl,g,q⟩:=h;cases e2;exact ZbZ (by lia) I g e1 λs' I'=>#[.bl !o.isSome,H,I',rfl,q]
def j5(hu:X.A.units+7<dD):Xx X xw .In .inn:=OpR.imp ((Zed hu).or<|ZeA hu)<|by
 rintro v u H Q ⟨U,S,x,y,st,rx,ry,h⟩;obtain⟨b,hb,h⟩:=End.map h;have q:=End.ok h st<|Yj _;rcases zu ry hb with⟨ds,hy,hb⟩|⟨l,k,ks,hy,rfl,hk,e⟩
 .exact .inl #[U,S,x,ds,b,st,rx,hy,hb,q]
 .obtain⟨p,rfl,o,vs,hx,r⟩:=hy.dct'
  obtain⟨a,xs,rfl,ha,r2⟩:=rx.tup';refine .inr #[p,.ref a,_,rfl,rfl,.inr #[vs,_,a,.inr #[o,hx],rfl,by rw[ha,Wg hk r2],rfl],?_]
  rw[Jh r,e];exact q
def wB(hu:X.A.units+7<dD):Xx X xw .NotIn .nin:=OpR.imp ((Zce hu).or<|ZcG hu)<|by
 rintro v u H Q ⟨U,S,x,y,st,rx,ry,h⟩;obtain⟨b,hb,h⟩:=End.map h;have q:=End.ok h st<|Yj _;rcases zu ry hb with⟨ds,hy,hb⟩|⟨l,k,ks,hy,rfl,hk,e⟩
 .exact .inl #[U,S,x,ds,b,st,rx,hy,hb,q]
 .obtain⟨p,rfl,o,vs,hx,r⟩:=hy.dct'
  obtain⟨a,xs,rfl,ha,r2⟩:=rx.tup';refine .inr #[p,.ref a,_,rfl,rfl,.inr #[vs,_,a,.inr #[o,hx],rfl,by rw[ha,Wg hk r2],rfl],?_]
  rw[Jh r,e];exact q
def Zep(r:Rq U H ds xs)(q:Ev.at' ds n=aa d):∃w,atI xs n=aa w/\Rep U H d w:=by
 obtain⟨m,q2,q⟩:=bZ.mp q;obtain⟨w,g,rw'⟩:=r.get q;refine#[w,?_,rw'];unfold atI;rw[r.length,show ixN ds.length n=aa m from q2]
 exact g
def ZbF(ha:CE X xw C a i)(hb:CE X xw C b j)(hs:vO b):CE X xw C (.Subscript a b pos) (.ix i j):=PE.imp (wY (Uc.or Zeg) ha hb hs) (Wc λ{U H S x y v u Q} st rx ry h=>by
 obtain⟨d,hd,g0⟩:=End.po h;have k:∃ds n,Pv.YN x=aa ds/\y=.int n/\Ev.at' ds n=aa d:=by
  cases y with
  |int n=>
   cases x with
   |tup ds=>exact#[ds,n,rfl,rfl,hd]
   |lst ds=>exact#[ds,n,rfl,rfl,hd]
   |scr ns=>
    obtain⟨z,e,rfl⟩:=cF.mp hd;obtain⟨m,q2,q⟩:=bZ.mp e;refine#[_,n,rfl,rfl,?_];unfold Ev.at';rw[ax,q2];show(ns.map Pv.V.int)[m]?=_;rw[aQ,q];rfl
   |_=>exact Ev.nos hd
  |_=>cases x<;>exact Ev.nos hd
 obtain⟨ds,n,e,rfl,hn⟩:=k;obtain⟨p,xs,rfl,hp,r⟩:=rx.seq e;obtain⟨w,g,rw'⟩:=Zep r hn;rw[st.hk]at hp;have q:=End.ok g0 st rw';rcases hp with hp|hp
 .exact .inl #[p,xs,n,w,rfl,ry.int',hp,g,q]
 .exact .inr #[p,xs,n,w,rfl,ry.int',hp,g,q])
def G4:CO X xw C af af:=PO.imp Zcf<|by rintro Z H Q ⟨U,l,S,st,lr,h⟩;exact End.ok h st rfl
def JW(h:CE X xw C e i):CO X xw C (aa e) (aa i):=PO.imp (Yg h)<|by
 rintro Z H Q ⟨U,l,S,st,lr,h⟩;refine#[U,l,S,st,lr,End.bind (h) λx S1 ρ1 H1 v f1 st1 r1 h1=>?_]
 cases x with|int n=>exact#[n,r1.int',End.ok h1 st1 rfl]|_=>exact False.elim h1
def Gc(n d:Nat)(o:Option Int):Ev.sIx n d o=HT.sIx n d o:=by
 cases o with
 |none=>rfl
 |some i=>first|rfl|(rfl)
def vg(r:Rq U H ds xs)(lo hi:Option Int):Rq U H (Pv.YW ds lo hi) (YW xs lo hi):=by
 unfold Pv.YW YW;rw[Gc,Gc,r.length];exact(r.drop _).take _
def jx{lo hi:Option Expr}{il ih:Option E}(ha:CE X xw C a i)(hl:CO X xw C lo il)(hh:CO X xw C hi ih):CE X xw C (.Subscript a (.Slice lo hi af p2) pos) (.sl i il ih):=
 PE.imp (Zai (Zes.or<|jm.or Zc6) ha hl hh)<|by
  rintro Z H Q ⟨U,l,S,st,lr,h⟩;refine#[U,l,S,st,lr,End.bind (h) λx S1 ρ1 H1 v f1 st1 r1 h1=>#[ρ1,l,S1,st1,lr.mono f1,h1.bind λy S2 ρ2 H2 u f2 st2 r2 h2=>#[ρ2,l,S2,st2,(lr.mono f1).mono f2,h2.bind λz S3 ρ3 H3 w f3 st3 r3 h3=>?_]]]
  have e1:y=u:=r2;have e2:z=w:=r3;subst e1 e2;have r0:=(r1.mono f2).mono f3;cases x with
  |tup ds=>
   obtain⟨p,xs,rfl,hp,r⟩:=r0.tup';have h':=h3;by_cases hw:HT.sIx xs.length 0 y=0/\HT.sIx xs.length xs.length z=xs.length
   .refine .inr (.inl #[p,xs,rfl,SqT.of hp,hw,End.ok h' st3 ?_])
    have ew:Pv.YW ds y z=ds:=by
     unfold Pv.YW;rw[Gc,Gc,<-r.length,hw.1,hw.2,kX,Nat.sub_zero,r.length,gD]
    rw[ew];exact Xe hp r
   .exact .inl #[p,xs,rfl,SqT.of hp,hw,h'.newT st3<|vg r y z]
  |lst ds=>
   obtain⟨p,xs,rfl,hp,_,r⟩:=r0.lst';exact .inr<|.inr #[p,xs,rfl,SqL.of hp,End.newL (h3) st3<|vg r y z]
  |_=>exact False.elim h3
def UB(K:am)(xw:Nat->Hp->Prop)(f:Bf):List V->Hp->VK->Prop:=λvs H Q=>∃U S ds,St3 K U S H/\Rq U H ds vs/\End K xw Rep U H Q (Pv.po (Pv.Xq f ds) S)
def ZG.imp{r r':List V->Hp->VK->Prop}(h:ZG X f r)(k:∀vs H Q,r' vs H Q->r vs H Q):ZG X f r':=λpq s Z H xs us Q I e q=>h pq s Z H xs us Q I e<|k xs H Q q
def jq :∀Z H Q,tE X xw (Pv.pv C<|.blt f is) Z H Q->tCB (UB X.K xw f) (tA X xw<|Pv.pvs C is) Z H Q:=λZ H Q #[U,l,S,st,lr,h]=>
 #[U,l,S,st,lr,End.bind (h) λxs S1 ρ1 H1 vs f1 st1 r1 h1=>#[ρ1,S1,xs,st1,r1,h1]]
def Zah(r:Rq U H [d] vs):∃v,vs=[v]/\Rep U H d v:=by
 obtain⟨v,ws,rfl,a1,b1⟩:=r;exact#[v,by rw[b1],a1]
def zV{d e:D}{vs:List V}(r:Rq U H [d,e] vs):∃v w,vs=[v,w]/\Rep U H d v/\Rep U H e w:=by
 obtain⟨v,ws,rfl,a1,b1⟩:=r;obtain⟨w,rfl,b2⟩:=Zah b1;exact#[v,w,rfl,a1,b2]
def Wx{rep:Mx->Hp->D->V->Prop}(h:End K xw rep U H Q (Pv.po (Pv.Xq f ds) S))(r:Rq U H ds vs)(h1:f≠.max2:=by decide)(h2:f≠.min2:=by decide):∃d v z,vs=[v]/\Rep U H d v/\Pv.blt1 f d=aa z/\End K xw rep U H Q (.ok z S):=by
 obtain⟨z,hz,g⟩:=End.po h
 match ds,hz with
 |[d],hz=>obtain⟨v,rfl,rv⟩:=Zah r;exact#[d,v,z,rfl,rv,hz,g]
 |[x,y],hz=>
  have hz:=hz;cases x<;>first|exact Ev.nos hz|(cases y<;>first|exact Ev.nos hz|(cases f<;>first|exact Ev.nos hz|contradiction))
def ZdO(h:End K xw Rep U H Q (Pv.po (Pv.Xq f ds) S))(r:Rq U H ds vs)(h1:∀d,Pv.blt1 f d=af):∃m n z,vs=[.int m,.int n]/\Pv.blt2 f (.int m) (.int n)=aa z/\End K xw Rep U H Q (.ok z S):=by
 obtain⟨z,hz,g⟩:=End.po h
 match ds,hz with
 |[d],hz=>exact Ev.nos<|(h1 d).symm.trans hz
 |[x,y],hz=>
  have hz:=hz;cases x<;>first|exact Ev.nos hz|(cases y<;>first|exact Ev.nos hz|(obtain⟨v,w,rfl,r1,r2⟩:=zV r;exact#[_,_,z,by rw[r1.int',r2.int'],hz,g]))
def wW:ZG X (.builtin "len") (UB X.K xw .len):=ZG.imp zd<|by
 rintro vs H Q ⟨U,S,ds,st,r,h⟩;obtain⟨d,v,z,rfl,rv,hz,h⟩:=Wx h r;obtain⟨xs,hx,rfl⟩:=cF.mp hz;obtain⟨p,ys,rfl,hq,r2⟩:=rv.seq hx;refine#[p,ys,rfl,by rw[<-st.hk];exact hq,?_]
 rw[r2.length];exact End.ok h st<|ZK _
def vp(hc:X.calm=ak):ZG X (.builtin "max") (UB X.K xw .max2):=ZG.imp (u9 hc)<|by
 rintro vs H Q ⟨U,S,ds,st,r,h⟩;obtain⟨m,n,z,rfl,hz,h⟩:=ZdO h r λ_=>rfl
 cases hz;exact#[m,n,rfl,End.ok h st<|ZK _]
def v6(hc:X.calm=ak):ZG X (.builtin "min") (UB X.K xw .min2):=ZG.imp (qa hc)<|by
 rintro vs H Q ⟨U,S,ds,st,r,h⟩;obtain⟨m,n,z,rfl,hz,h⟩:=ZdO h r λ_=>rfl
 cases hz;exact#[m,n,rfl,End.ok h st<|ZK _]
def ui:ZG X (.type "int") (UB X.K xw .toInt):=ZG.imp uS<|by
 rintro vs H Q ⟨U,S,ds,st,r,h⟩;obtain⟨d,v,z,rfl,r1,hz,h⟩:=Wx h r;cases d with|int m=>cases hz;exact .inl #[m,by rw[r1.int'],End.ok h st<|ZK _]|bl m=>cases hz;exact .inr #[m,by rw[r1.bl'],End.ok h st<|ZK _]|_=>exact Ev.nos hz
def Js:ZG X (.type "tuple") (UB X.K xw .tuple):=ZG.imp QX<|by
 rintro vs H Q ⟨U,S,ds,st,r,h⟩;obtain⟨d,v,z,rfl,r1,hz,h⟩:=Wx h r;cases d with|tup ds=>cases hz;obtain⟨p,xs,rfl,hp,r2⟩:=r1.tup';exact#[p,xs,rfl,.inr #[SqT.of hp,End.ok h st r1]]|lst ds=>cases hz;obtain⟨p,xs,rfl,hp,_,r2⟩:=r1.lst';exact#[p,xs,rfl,.inl #[SqL.of hp,h.newT st r2]]|scr ns=>cases hz;obtain⟨p,rfl,hp⟩:=r1.scr';rw[st.hk]at hp;exact#[p,_,rfl,.inl #[hp.sq,h.newT st<|Rq.ints ns]]|_=>exact Ev.nos hz
def XD{f:Bf}{id:String}{x:bi}{es:List Expr}{is:List E}(hc:ZG X (.builtin id) (UB X.K xw f))(hm:X.mg x=af)(ha:CA X xw C (e::es) is)(hg:Gl X x)(hv:dg x=aa (.builtin id))(hn:x≠"__name__")(hdb:(x == ("__debug__" : bi))=al)
  (he:aA (e::es) X.env=(al,cr e X.env)::aA es X.env)(hpl:(dq pos<|aA es X.env).any (·.1)=al):CE X xw C (.Call (.Name x p) (e::es) [] pos) (.blt f is):=
 PE.imp (Xs hc hg hm hv ha hn hdb he hpl) jq
def WV{f:Bf}{id:String}{x:bi}{es:List Expr}{is:List E}(hc:ZG X (.type id) (UB X.K xw f))(hm:X.mg x=af)(ha:CA X xw C (e::es) is)(hg:Gl X x)(hv:dg x=aa (.type id))(hn:x≠"__name__")(hdb:(x == ("__debug__" : bi))=al)
  (he:aA (e::es) X.env=(al,cr e X.env)::aA es X.env)(hpl:(dq pos<|aA es X.env).any (·.1)=al):CE X xw C (.Call (.Name x p) (e::es) [] pos) (.blt f is):=
 PE.imp (Q7 hc hg hm hv ha hn hdb he hpl) jq
end
section
variable{X:Cx}{xw:Nat->Hp->Prop}{C:Calls}{e a b c:Expr}{i j k:E}{pos p p' p2:fV}
theorem UM:∀{ds:List D}{bs:List Bool},Pv.Yo ds=aa bs->bs.length=ds.length/\∀j d,ds[j]?=aa d->Pv.Uu d=aa (bs.getD j al)
 |[],bs,h=>by cases h;exact#[rfl,λj d e=>by simp at e]
 |d::ds,bs,h=>by
  unfold Pv.Yo at h;cases q1:Pv.Uu d with
  |none=>rw[q1]at h;cases h
  |some b=>
   cases q2:Pv.Yo ds with
   |none=>rw[q1,q2]at h;cases h
   |some cs=>
    rw[q1,q2]at h;cases h;obtain⟨l,ih⟩:=UM q2;refine#[by rw[aG,aG,l],λj d' e=>?_]
    cases j with|zero=>simp at e;subst e;simpa using q1|succ j=>simpa using ih j d' (by simpa using e)
def qI(bs:List Bool):(aP bs.length).all (λj=>bs.getD j al)=bs.all id:=by
 rw[dz,aX,aX]
 constructor
 .intro h b hb
  obtain⟨j,hj,e⟩:=cg hb;have:=h j<|bh.mpr hj
  simpa[ai hj,e]using this
 .intro h j hj
  have hj':=bh.mp hj
  simpa[ai hj']using h bs[j]<|bU hj'
def zh(r:Rep U H d v)(e:Zz v u)(h:Pv.Uu d=aa n)(s:ay)(Q:Bool->ay->Prop)(E:au->ay->Prop)(q:Q n s) :
  ba (aV prog w) A (sr u) Q E s:=by
 cases d with
 |non=>cases r.non';cases e;cases h;exact truthy_none q
 |bl b=>cases r.bl';cases e;cases h;exact ee q
 |int m=>
  cases r.int';obtain⟨t,rfl⟩:=e;have h':=aq h;refine nO ?_;have:(m != 0)=n:=by
   rw[<-h'];by_cases z:m=0
   .subst z;rfl
   .rw[T5 z];exact bne_iff_ne.mpr z
  rw[this];exact q
 |_=>cases h
def uW(hc:X.calm=ak):ZG X (.builtin "all") (λvs H Q=>∃U ds v bs,vs=[v]/\Rep U H (.lst ds) v/\Pv.Yo ds=aa bs/\Q (.bl<|bs.all id) H):=by
 intro pq s Z H vs us Q I r h;obtain⟨U,ds,v,bs,rfl,rs,hb,q⟩:=h;obtain⟨p,xs,rfl,hx,_,rx⟩:=rs.lst';obtain⟨u,rfl,ru⟩:=Wv r;cases ru;obtain⟨its,rv,pl,hz⟩:=I.list<|SqL.of hx;obtain⟨lb,tb⟩:=UM hb;have hlt:p<s.heap.objs.size:=by obtain⟨_,e,_⟩:=pl.isList;exact aT e
 have hlen:its.toArray.size=bs.length:=by rw[az,<-rv.length,rx.length,lb]
 refine call_all_walk<|gf pl.isList #[s.heap.objs.size,[s.heap.objs.size,p],[s.heap.objs.size],its.toArray.size,(λi v=>its.toArray[i]?=aa v),(λi h=>h.IsListIter s.heap.objs.size p i/\h.IsList p its.toArray),λj=>bs.getD j al,rfl,Walks.list (A:=X.A.in1) (I.ok.hd hc) s.heap.objs.size p (bp hlt) its.toArray,#[#[_,aO _ rfl,rfl,rfl],pl.isList.push _],?_,?_]
 .intro j v s' Q' E' hv hQ'
  have hj:its[j]?=aa v:=by simpa using hv
  have jl:j<ds.length:=by
   have:=(aF.mp hj).1;rw[<-rv.length,rx.length]at this;exact this
  obtain⟨w',g,r'⟩:=rx.get<|ai jl;obtain⟨u',g',ru'⟩:=rv.get g;rw[hj]at g';cases g';exact zh r' ru' (tb j _<|ai jl) s' Q' E' hQ'
 .intro h' tk hk
  rw[hlen,qI];have kp:=λb o e=>hk b o (λhm=>by
   have:b=s.heap.objs.size:=by simpa using hm
   exact T7 (this▸aT e)<|bK _)<|aw _ e
  exact#[.bl<|bs.all id,H,I.kept (t':=tk) kp,rfl,q]
def vf(hc:X.calm=ak):ZG X (.builtin "all") (UB X.K xw .all):=ZG.imp (uW hc)<|by
 rintro vs H Q ⟨U,S,ds,st,r,h⟩;obtain⟨d,v,z,rfl,r1,hz,h⟩:=Wx h r;cases d with|lst ds=>obtain⟨bs,hb,rfl⟩:=cF.mp hz;exact#[U,ds,v,bs,rfl,r1,hb,End.ok h st<|Yj _]|_=>exact Ev.nos hz
noncomputable def ZT:Ty->String
 |.int=>"int" | .bool=>"bool" | .str=>"str" | .tuple=>"tuple" | .list=>"list" | .dict=>"dict" | .cls _=>""
def xj{K:am}{U:Mx}{H:Hp}{x:D}{v:V}{t:Ty}{n:Bool}(rx:Rep U H x v)(ht:∀m,t≠.cls m)(h:Pv.Wd x t=aa n) :
  ∃tv,TyOf K H v tv/\gp K tv (.type<|ZT t)=aa n:=by
 cases x with
 |non=>rw[rx.non'];refine#[_,.non,?_];cases h;cases t<;>first|rfl|exact T7 rfl<|ht _
 |bl b=>rw[rx.bl'];refine#[_,.bl b,?_];cases h;cases t<;>first|rfl|exact T7 rfl<|ht _
 |int b=>rw[rx.int'];refine#[_,.int b,?_];cases h;cases t<;>first|rfl|exact T7 rfl<|ht _
 |str b=>rw[rx.str'];refine#[_,.str b,?_];cases h;cases t<;>first|rfl|exact T7 rfl<|ht _
 |tup ds=>
  obtain⟨p,xs,rfl,hp,_⟩:=rx.tup';refine#[_,.tup hp,?_];cases h;cases t<;>first|rfl|exact T7 rfl<|ht _
 |lst ds=>
  obtain⟨p,xs,rfl,hp,_⟩:=rx.lst';refine#[_,.lst hp,?_];cases h;cases t<;>first|rfl|exact T7 rfl<|ht _
 |dct o=>
  cases o with
  |some _=>exact Ev.nos h
  |none=>
   obtain⟨p,rfl,⟨_,e⟩|⟨_,e⟩⟩:=rx.dct'
   .refine#[_,.dT e,?_];cases h;cases t<;>first|rfl|exact T7 rfl<|ht _
   .refine#[_,.dK e,?_];cases h;cases t<;>first|rfl|exact T7 rfl<|ht _
 |_=>exact Ev.nos h
def ZbQ(T:String):ZG X (.builtin "isinstance") (λvs H Q=>∃v tv n,vs=[v,.ty T]/\TyOf X.K H v tv/\gp X.K tv (.type T)=aa n/\Q (.bl n) H):=by
 intro pq s Z H vs us Q I r h;obtain⟨v,tv,n,rfl,ty,e,q⟩:=h;obtain⟨u,w',rfl,r1,r2⟩:=zO r;cases r2;exact qA I r1 ty e λtk=>#[.bl n,H,I.tok tk,rfl,q]
def WA{T:bi}{t:Ty}(ht:∀m,t≠.cls m)(hm:X.mg "isinstance" = af)(hmT:X.mg T=af)(ha:CE X xw C a i)(hg:Gl X "isinstance")(hgT:Gl X T)(hvT:dg T=aa (.type<|ZT t))(hnT:T≠"__name__")(hdT:(T == ("__debug__" : bi))=al)
  (hs1:aA [a,.Name T p2] X.env=(al,cr a X.env)::aA [.Name T p2] X.env)(hs2:aA [.Name T p2] X.env=(al,cr (.Name T p2) X.env)::aA [] X.env)(hpl:(dq pos<|aA [.Name T p2] X.env).any (·.1)=al) :
  CE X xw C (.Call (.Name "isinstance" p) [a,.Name T p2] [] pos) (.isi i [t]):=
 PE.imp (Xs (ZbQ<|ZT t) hg hm (by rfl) (Zx ha (Zx (Um (v:=.ty<|ZT t) hgT hmT hvT rfl hnT hdT) Yi hs2) hs1) (by decide) (by decide) hs1 hpl)<|by
  rintro Z H Q ⟨U,l,S,st,lr,h⟩;refine#[U,l,S,st,lr,End.bind (h) λx S1 ρ1 H1 v f1 st1 r1 h1=>?_]
  obtain⟨n,hn,h2⟩:=End.ob h1;have hn':Pv.Wd x t=aa n:=by
   unfold Pv.Y2 at hn;cases q:Pv.Wd x t with|none=>rw[q]at hn;cases hn|some m=>rw[q]at hn;cases m<;>exact hn
  obtain⟨tv,ty,e⟩:=xj r1 ht hn';exact#[v,tv,n,rfl,ty,e,End.ok h2 st1<|Yj _]
def ZfZ(P:bB)(w:bS)(K:am)(a:aE)(tab:List (Int×Int)):Prop:=(a == fK)=al/\∃f:Int->Option au,(∀h:cw,K.In h->h.MapOf (lx P w) a f)/\∀k,(tab.lookup k=af->f k=af)/\∀j,tab.lookup k=aa j->∃t,f k=aa (.int j t)
def X1(fr:Bool)(H0:Hp)(U:Mx)(H:Hp)(d:D)(v:V):Prop:=Rep U H d v/\(fr=ak->∀ds,d=.lst ds->∃a,v=.ref a/\H0 a=af)
theorem End.fr{K:am}{xw:Nat->Hp->Prop}{U:Mx}{H H0:Hp}{Q:VK}{r:R D}{fr:Bool}(h:End K xw Rep U H Q r):End K xw (X1 fr H0) U H Q r:=by
 cases r with|ok d S=>exact λρ' H' v f st r=>h ρ' H' v f st r.1|_=>exact h
end
abbrev Own:=Nat->Option aE
noncomputable def Mx.ex(U:Mx)(W:Own):Mx:=#[U.K,U.n0,λa=>U.X a\/∃i,W i=aa a,λa h=>.inl<|U.xz a h]
mutual
theorem Rep.flat(hk:ρ'.K=U.K)(k:∀a o,H a=aa o->(∀xs,o≠.lst xs)->H' a=aa o):∀{d:D}{v:V},d.flat=ak->Rep U H d v->Rep ρ' H' d v
 |.non,_,_,h|.bl _,_,_,h|.int _,_,_,h|.str _,_,_,h=>by exact h
 |.tup ds,v,f,h=>by
  obtain⟨a,xs,e,t,r⟩:=h;exact#[a,xs,e,k a _ t (λ_ z=>by cases z),r.flat hk k<|by exact f]
 |.scr ns,v,_,h=>by
  unfold Rep at h ⊢;obtain⟨a,e,t⟩:=h;rw[hk];refine#[a,e,?_];rcases t with⟨o,t⟩|t
  .exact .inl #[o,k a _ t λ_ z=>by cases z]
  .exact .inr t
 |.lst _,_,f,_|.drw,_,f,_|.dct _,_,f,_=>by cases f
theorem Rq.flat(hk:ρ'.K=U.K)(k:∀a o,H a=aa o->(∀xs,o≠.lst xs)->H' a=aa o):∀{ds:List D}{xs:List V},Pv.ZL ds=ak->Rq U H ds xs->Rq ρ' H' ds xs
 |[],_,_,h=>by exact h
 |d::ds,xs,f,h=>by
  obtain⟨v,vs,e,r,rs⟩:=h;have f:=(aI _ _).mp f;exact#[v,vs,e,r.flat hk k f.1,rs.flat hk k f.2]
end
structure Eu(U:Mx)(H0:Hp)(W:Own)(l:Lc)(os:List Nat)(Z:L2.St)(H:Hp):Prop where
 fut:Fut U H0 U H
 xd:∀a,U.X a->H0 a≠af
 len:l.length=Z.length
 osW:∀i,os.contains i=(W i).isSome
 inj:∀i j a,W i=aa a->W j=aa a->i=j
 new:∀i a,W i=aa a->H0 a=af
 own:∀i a,W i=aa a->∃xs us,l[i]?=aa (aa<|.lst xs)/\Pv.ZL xs=ak/\Z[i]?=aa (aa<|.ref a)/\H a=aa (.lst us)/\Rq U H xs us
 val:∀(i:Nat)(d:D),l[i]?=aa (aa d)->W i=af->∃v,Z[i]?=aa (aa v)/\Rep (U.ex W) H d v
section
variable{K:am}{U:Mx}{H0 H H':Hp}{W W':Own}{l:Lc}{os:List Nat}{Z:L2.St}{S:Zs}
def Lat.unex:Lat (U.ex W) H U H:=#[rfl,rfl,λ_ _ h _ _=>h,λ_ _ x=>.inl x]
theorem Fut.ex(f:Fut U H U H'):Fut (U.ex W) H (U.ex W) H':=#[rfl,f.keep]
def St3.unex(st:St3 K (U.ex W) S H):St3 K U S H:=#[st.hk,λa x=>st.xd a<|.inl x,st.dw,st.tb]
def Eu.nx(h:Eu U H0 W l os Z H)(e:W i=aa a):¬U.X a:=λz=>h.xd a z<|h.new i a e
theorem Eu.st(h:Eu U H0 W l os Z H)(st:St3 K U S H):St3 K (U.ex W) S H:=
 #[st.hk,λa x=>x.elim (st.xd a) λ#[i,e]=>by(obtain⟨_,_,_,_,_,z,_⟩:=h.own i a e;rw[z];intro q;cases q),st.dw,st.tb]
def ZdS(f:Fut U H U H')(x:¬U.X a)(h:H a=aa o)(n:∀ps,o≠.tbl ps:=by intro _ z;cases z):H' a=aa o:=(f.keep a o h).elim id λz=>z.elim (λz=>T7 (U.xz a z.1) x)<|by rintro ⟨⟨ps,e⟩,_⟩;exact T7 e<|n ps
def Eu.all(h:Eu U H0 W l os Z H):LocR U H l Z:=#[h.len,λi v e=>by
 cases q:W i with
 |none=>obtain⟨d,a,b⟩:=h.val i v e q;exact#[d,a,b.lat Lat.unex]
 |some n=>
  obtain⟨xs,us,a,b,c,d,r⟩:=h.own i n q;rw[a]at e;cases e;exact#[_,c,Xy d (h.nx q) r]]
def Zab(e:(Pv.hide os l)[i]?=aa (aa v)):l[i]?=aa (aa v)/\os.contains i=al:=by
 unfold Pv.hide at e;rw[ke]at e;cases q:l[i]? with
 |none=>rw[q]at e;cases e
 |some o=>
  rw[q]at e;have e':(if os.contains i=ak then af else o)=aa v:=aq e
  by_cases c:os.contains i=ak
  .rw[T9 c]at e';cases e'
  .rw[T8 c]at e';exact#[by rw[e'],by simpa using c]
def hide_nil:Pv.hide [] l=l:=by
 unfold Pv.hide;refine c7 λi=>?_
 rw[ke];cases l[i]?<;>rfl
def Eu.nW(h:Eu U H0 W l os Z H){i:Nat}(b:os.contains i=al):W i=af:=by
 rw[h.osW]at b;cases q:W i with|none=>rfl|some _=>rw[q]at b;cases b
def Eu.hid(h:Eu U H0 W l os Z H):LocR (U.ex W) H (Pv.hide os l) Z:=#[by unfold Pv.hide;rw[List.length_mapIdx];exact h.len,λi v e=>by
 obtain⟨a,b⟩:=Zab e;exact h.val i v a<|h.nW b]
theorem Eu.mono(h:Eu U H0 W l os Z H)(f:Fut U H U H'):Eu U H0 W l os Z H':=
 #[h.fut.trans f,h.xd,h.len,h.osW,h.inj,h.new,λi a q=>by
  obtain⟨xs,us,p,b,c,d,r⟩:=h.own i a q;exact#[xs,us,p,b,c,ZdS f (h.nx q) d,r.mono f],λi v a b=>by
  obtain⟨d,c,r⟩:=h.val i v a b;exact#[d,c,r.mono f.ex]]
def GK{B:Type}{l:List (Option B)}{i j:Nat}{o:Option B}{v:B}(e:(l.set i o)[j]?=aa (aa v)):(i=j/\o=aa v/\i<l.length)\/(i≠j/\l[j]?=aa (aa v)):=by
 rw[oy]at e;by_cases c:i=j
 .rw[T9 c]at e
  by_cases z:i<l.length
  .rw[T9 z]at e;exact .inl #[c,aq e,z]
  .rw[T8 z]at e;cases e
 .rw[T8 c]at e;exact .inr #[c,e]
theorem Eu.set{i:Nat}{o:Option D}{v:V}(h:Eu U H0 W l os Z H)(hi:os.contains i=al)(r:∀d,o=aa d->Rep (U.ex W) H d v):Eu U H0 W (l.set i o) os (Z.set i<|aa v) H:=by
 have hw:=h.nW hi;refine#[h.fut,h.xd,by rw[bE,bE];exact h.len,h.osW,h.inj,h.new,λj n q=>?_,λj w e q=>?_]
 .obtain⟨xs,us,a,b,c,e⟩:=h.own j n q
  have ij:i≠j:=λz=>by rw[z,q]at hw;cases hw
  exact#[xs,us,by rw[aZ ij];exact a,b,by rw[aZ ij];exact c,e]
 .rcases GK e with⟨rfl,z,hl⟩|⟨c,z⟩
  .exact#[v,bc (by rw[<-h.len];exact hl),r w z]
  .rw[aZ c];exact h.val j w z q
noncomputable def UK:List Nat->List V->L2.St->L2.St
 |i::t,x::xs,Z=>UK t xs<|Z.set i<|aa x
 |_,_,Z=>Z
theorem Eu.fill:∀{t:List Nat}{vs:List D}{us:List V}{l l':Lc}{Z:L2.St},Eu U H0 W l os Z H->(t.any os.contains)=al->Rq (U.ex W) H vs us->Pv.Xo t vs l=aa l'->us.length=t.length/\Eu U H0 W l' os (UK t us Z) H
 |[],[],_,l,l',Z,h,_,r,e=>by rw[r];cases e;exact#[rfl,h]
 |[],_::_,_,_,_,_,_,_,_,e=>by cases e
 |_::_,[],_,_,_,_,_,_,_,e=>by cases e
 |i::t,v::vs,_,l,l',Z,h,ht,r,e=>by
  obtain⟨d,ds,rfl,a,b⟩:=r;rw[lC,Bool.or_eq_false_iff]at ht;obtain⟨z,q⟩:=Eu.fill (h.set ht.1 λ_ z=>by cases z;exact a) ht.2 b e
  exact#[by rw[aG,aG,z],q]
def tGU(K:am)(t:List Nat):TG:=λv Z H Q=>match t with
 |[i]=>Q (Z.set i<|aa v) H
 |t=>∃a xs,v=.ref a/\(SqT K H a xs\/H a=aa (.lst xs))/\xs.length=t.length/\Q (UK t xs Z) H
def Eu.assign{Q:L2.St->Hp->Prop}(h:Eu U H0 W l os Z H)(ht:(t.any os.contains)=al)(r:Rep (U.ex W) H d v)(e:Pv.Zo t d l=aa l')(q:∀σ',Eu U H0 W l' os σ' H->Q σ' H):tGU K t v Z H Q:=by
 have gen:∀t:List Nat,(t.any os.contains)=al->(match Pv.ZbG d with
   |some xs=>Pv.Xo t xs l
   |none=>af)=aa l'->∃a xs,v=.ref a/\(SqT K H a xs\/H a=aa (.lst xs))/\xs.length=t.length/\Q (UK t xs Z) H:=by
  intro t ht e;cases d with|tup vs=>obtain⟨p,ds,rfl,hp,rs⟩:=r.tup';obtain⟨z,y⟩:=h.fill ht rs e;exact#[p,ds,rfl,.inl<|SqT.of hp,z,q _ y]|lst vs=>obtain⟨p,ds,rfl,hp,_,rs⟩:=r.lst';obtain⟨z,y⟩:=h.fill ht rs e;exact#[p,ds,rfl,.inr hp,z,q _ y]|_=>cases e
 match t,ht,e with
 |[i],ht,e=>cases e;exact q _<|h.set (by simpa using ht) λ_ z=>by cases z;exact r
 |[],ht,e=>exact gen [] ht e
 |i::j::t,ht,e=>exact gen (i::j::t) ht e
noncomputable def noW(W:Own)(i:Nat):Own:=λj=>if j=i then af else W j
def XG{i j:Nat}{a:aE}(z:noW W i j=aa a):j≠i/\W j=aa a:=by
 unfold noW at z;by_cases c:j=i
 .rw[T9 c]at z;cases z
 .rw[T8 c]at z;exact#[c,z]
theorem Lat.noW{i:Nat}:Lat (U.ex W) H (U.ex<|noW W i) H:=#[rfl,rfl,λ_ _ h _ _=>h,λ_ _ x=>x.elim .inl λ#[j,e]=>.inr #[j,(XG e).2]]
def WE{i:Nat}(h:∀i,os.contains i=(W i).isSome)(j:Nat):(os.filter (· != i)).contains j=(noW W i j).isSome:=by
 unfold noW;by_cases c:j=i
 .simp[c]
 .simp only[c,if_false]
  rw[<-h j,dz,fY,fY,cX];simp[c]
def Eu.drop{i:Nat}{o:Option D}{v:V}(h:Eu U H0 W l os Z H)(r:∀d,o=aa d->Rep (U.ex<|noW W i) H d v):Eu U H0 (noW W i) (l.set i o) (os.filter (· != i)) (Z.set i<|aa v) H:=by
 refine#[h.fut,h.xd,by rw[bE,bE];exact h.len,WE h.osW,λa b n x y=>h.inj a b n (XG x).2 (XG y).2,λj n z=>h.new j n (XG z).2,λj n z=>?_,λj w e z=>?_]
 .obtain⟨xs,us,a,b,c,e⟩:=h.own j n (XG z).2
  have ij:i≠j:=Ne.symm (XG z).1;exact#[xs,us,by rw[aZ ij];exact a,b,by rw[aZ ij];exact c,e]
 .rcases GK e with⟨rfl,e,hl⟩|⟨c,e⟩
  .exact#[v,bc (by rw[<-h.len];exact hl),r w e]
  .rw[aZ c]
   unfold Sd.noW at z;rw[T8<|Ne.symm c]at z;obtain⟨d',a,b⟩:=h.val j w e z;exact#[d',a,b.lat Lat.noW]
noncomputable def u7(W:Own)(i:Nat)(a:aE):Own:=λj=>if j=i then aa a else W j
def Eu.take(h:Eu U H0 W l os Z H)(hd:∀a,U.X a->H a≠af)(f:Fut U H U H')(hn:H a=af)(hf:Pv.ZL xs=ak)(r:Rep (U.ex W) H' (.lst xs) (.ref a))(hi:i<l.length) :
  Eu U H0 (u7 W i a) (l.set i<|aa<|.lst xs) (i::os.filter (· != i)) (Z.set i<|aa<|.ref a) H':=by
 obtain⟨_,us,en,hs,hx,rs⟩:=r.lst';cases en;have h1:=h.mono f;have get:∀{j m},u7 W i a j=aa m->(j=i/\a=m)\/(j≠i/\W j=aa m):=λ{j m} z=>by
  unfold u7 at z;by_cases c:j=i
  .rw[T9 c]at z;exact .inl #[c,aq z]
  .rw[T8 c]at z;exact .inr #[c,z]
 have na:=h.fut.new hn hd;have lt:Lat (U.ex W) H (U.ex<|u7 W i a) H':=#[rfl,rfl,f.ex.lat.keep',λb hb x=>by
  rcases x with x|⟨j,x⟩
  .exact .inl x
  .rcases get x with⟨_,z⟩|⟨_,z⟩
   .exact T7 hn<|z▸hb
   .exact .inr #[j,z]]
 refine#[h1.fut,h.xd,by rw[bE,bE];exact h.len,λj=>?_,λp q m x y=>?_,λj m z=>?_,λj m z=>?_,λj w q z=>?_]
 .have:=WE (i:=i) h.osW j
  unfold u7;by_cases c:j=i
  .simp[c]
  .unfold noW at this
   rw[T8 c]at this ⊢;rw[List.contains_cons,this,beq_eq_false_iff_ne.mpr c,lD]
 .rcases get x with⟨x1,x2⟩|⟨x1,x2⟩<;>rcases get y with⟨y1,y2⟩|⟨y1,y2⟩
  .rw[x1,y1]
  .exact T7 (.inr #[q,x2▸y2]) hx
  .exact T7 (.inr #[p,y2▸x2]) hx
  .exact h.inj p q m x2 y2
 .rcases get z with⟨_,z⟩|⟨_,z⟩
  .exact z▸na
  .exact h.new j m z
 .rcases get z with⟨z1,z2⟩|⟨z1,z2⟩
  .subst z1 z2
   exact#[xs,us,bc hi,hf,bc (by rw[<-h.len];exact hi),hs,rs.lat Lat.unex]
  .obtain⟨ys,vs,p,b,c,q⟩:=h1.own j m z2
   exact#[ys,vs,by rw[aZ<|Ne.symm z1];exact p,b,by rw[aZ<|Ne.symm z1];exact c,q]
 .unfold u7 at z
  by_cases c:j=i
  .rw[T9 c]at z;cases z
  .rw[T8 c]at z
   rw[aZ<|Ne.symm c]at q ⊢;obtain⟨d,p,b⟩:=h.val j w q z;exact#[d,p,b.lat lt]
def Eu.mut(h:Eu U H0 W l os Z H)(hw:W i=aa a)(hf:Pv.ZL ys=ak)(r:Rq U H ys us):Eu U H0 W (l.set i<|aa<|.lst ys) os Z (upd H a<|.lst us):=by
 obtain⟨xs,vs,p,b,c,e,_⟩:=h.own i a hw;have hi:=(aF.mp p).1;have kp:∀b o,H b=aa o->(∀xs,o≠.lst xs)->upd H a (.lst us) b=aa o:=λb o z n=>by
  rw[Zj λq=>n vs<|by rw[q,e]at z;exact(aq z).symm];exact z
 refine#[#[rfl,λb o z=>?_],h.xd,by rw[bE];exact h.len,h.osW,h.inj,h.new,λj m z=>?_,λj w q z=>?_]
 .rw[Zj λq=>by rw[q,h.new i a hw]at z;cases z]
  exact h.fut.keep b o z
 .by_cases k:i=j
  .subst k
   rw[hw]at z;cases z;exact#[ys,us,bc hi,hf,c,Zn,r.flat rfl kp hf]
  .obtain⟨zs,ws,a',b',c',e',r'⟩:=h.own j m z
   exact#[zs,ws,by rw[aZ k];exact a',b',c',by rw[Zj λq:m=a=>k<|h.inj i j a hw<|q▸z];exact e',r'.flat rfl kp b']
 .have k:i≠j:=λk=>by rw[<-k,hw]at z;cases z
  rw[aZ k]at q;obtain⟨d,a',b'⟩:=h.val j w q z;exact#[d,a',b'.lat #[rfl,rfl,λm o hs nx _=>by rw[Zj λq:m=a=>nx vs (by rw[q,e]at hs;exact(aq hs).symm)<|.inr #[i,q▸hw]];exact hs,λ_ _ q=>q]]
def St3.mut{K:am}{i:Nat}{a:aE}{us:List V}(st:St3 K U S H)(h:Eu U H0 W l os Z H)(hw:W i=aa a):St3 K U S (upd H a<|.lst us):=by
 obtain⟨xs,vs,p,b,c,e,_⟩:=h.own i a hw;have ne:∀b,U.X b->b≠a:=λb x z=>h.nx hw<|z▸x
 exact#[st.hk,λb x=>by rw[Zj<|ne b x];exact st.xd b x,λb x=>by rw[Zj<|ne b<|U.xz b x];exact st.dw b x,st.tb.upd (λo u z=>by rw[e]at z;cases z) λ_ z=>by cases z]
structure Base(U:Mx)(H0 H1:Hp):Prop where
 fut:Fut U H0 U H1
 dom:∀a,H1 a=af->H0 a=af
def Eu.rebase(b:Base U H0 H1)(x:∀a,U.X a->H0 a≠af)(h:Eu U H1 W l os Z H):Eu U H0 W l os Z H:=#[b.fut.trans h.fut,x,h.len,h.osW,h.inj,λi a e=>b.dom a<|h.new i a e,h.own,h.val]
open Classical in
noncomputable def QP(H:Hp)(W:Own):Hp:=λa=>if ∃i,W i=aa a then af else H a
def Eu.off(h:Eu U H0 W l os Z H)(hd:∀a,U.X a->H a≠af):Base U H0 (QP H W)/\Eu U (QP H W) W l os Z H:=by
 have nw:∀a,H0 a≠af->QP H W a=H a:=λa z=>T8 λ#[i,e]=>z<|h.new i a e
 refine#[#[#[rfl,λa o e=>?_],λa e=>?_],#[rfl,λa o e=>.inl ?_],λa x=>?_,h.len,h.osW,h.inj,λi a e=>T9 #[i,e],h.own,h.val]
 .rw[nw a<|by rw[e];intro z;cases z];exact h.fut.keep a o e
 .cases q:H0 a with
  |none=>rfl
  |some o=>
   rw[nw a<|by rw[q];intro z;cases z]at e
   rw[h.fut.new e hd]at q;cases q
 .unfold QP at e
  split at e
  .cases e
  .exact e
 .rw[nw a<|h.xd a x];exact hd a x
def Eu.walk(h:Eu U H0 W l os Z H)(h':Eu U (QP H W) W' l' os' σ' H'):Lat (U.ex W) H (U.ex W') H':=by
 refine#[rfl,rfl,λa o e x n=>?_,λa e x=>?_]
 .have nw:¬∃i,W i=aa a:=by
   rintro ⟨i,w⟩;obtain⟨_,us,_,_,_,z,_⟩:=h.own i a w;rw[e]at z;exact x us (aq z)<|.inr #[i,w]
  rcases h'.fut.keep a o (by unfold QP;rw[T8 nw];exact e)with z|⟨z,xs,q⟩|⟨⟨ps,q⟩,_⟩
  .exact z
  .exact T7 (.inl<|U.xz a z)<|x xs q
  .exact T7 q<|n ps
 .rcases x with x|⟨i,x⟩
  .exact .inl x
  .have:=h'.new i a x
   unfold QP at this;split at this
   .exact .inr ‹_›
   .exact T7 this e
end
section
variable(X:Cx)(xw:Nat->Hp->Prop)(C:Calls)
def tF(f:Lc->Zs->R D):TE:=λZ H Q=>∃U l S,St3 X.K U S H/\LocR U H l Z/\End X.K xw (X1 ak H) U H Q (f l S)
def CF(e:Expr)(i:E):Prop:=PE X e<|tF X xw<|Pv.pv C i
end
def CF.ce{X:Cx}{xw:Nat->Hp->Prop}{C:Calls}{e:Expr}{i:E}(h:CF X xw C e i):CE X xw C e i:=PE.imp h<|by rintro Z H Q ⟨U,l,S,st,lr,h⟩;exact #[U,l,S,st,lr,h.fr]
def End.newF{K:am}{xw:Nat->Hp->Prop}{U:Mx}{H0 H:Hp}{Q:VK}{S S0:Zs}{ds:List D}{xs:List V}(h:End K xw (X1 ak H0) U H Q (.ok (.lst ds) S))(f:Fut U H0 U H)(s0:St3 K U S0 H0)(st:St3 K U S H)(r:Rq U H ds xs):∀p,H p=af->Q (.ref p) (upd H p<|.lst xs):=λp hp=>
 h U _ _ (Zw hp) (st.fresh hp) #[Xy Zn (st.nx hp)<|r.mono<|Zw hp,λ_ _ _=>#[p,rfl,f.new hp st.xd]]
def zI(K:am)(xw:Nat->Hp->Prop)(f:Bf):List V->Hp->VK->Prop:=λvs H Q=>∃U S ds,St3 K U S H/\Rq U H ds vs/\∃H0 S0,Fut U H0 U H/\St3 K U S0 H0/\End K xw (X1 ak H0) U H Q (Pv.po (Pv.Xq f ds) S)
def vV{xw:Nat->Hp->Prop}:∀Z H Q,tF X xw (Pv.pv C<|.blt f is) Z H Q->tCB (zI X.K xw f) (tA X xw<|Pv.pvs C is) Z H Q:=λZ H Q #[U,l,S,st,lr,h]=>
 #[U,l,S,st,lr,End.bind (h) λxs S1 ρ1 H1 vs f1 st1 r1 h1=>by cases f1.eq;exact#[U,S1,xs,st1,r1,H,S,f1,st,h1]]
def zc{X:Cx}{xw:Nat->Hp->Prop}{C:Calls}{e:Expr}{pos p:fV}{f:Bf}{id:String}{x:bi}{es:List Expr}{is:List E}(hc:ZG X (.builtin id) (zI X.K xw f))(hm:X.mg x=af)(ha:CA X xw C (e::es) is)(hg:Gl X x)(hv:dg x=aa (.builtin id))(hn:x≠"__name__")(hdb:(x == ("__debug__" : bi))=al)
  (he:aA (e::es) X.env=(al,cr e X.env)::aA es X.env)(hpl:(dq pos<|aA es X.env).any (·.1)=al):CF X xw C (.Call (.Name x p) (e::es) [] pos) (.blt f is):=
 PE.imp (Xs hc hg hm hv ha hn hdb he hpl) vV
def Gj{X:Cx}{xw:Nat->Hp->Prop}{C:Calls}{e:Expr}{pos p:fV}{f:Bf}{id:String}{x:bi}{es:List Expr}{is:List E}(hc:ZG X (.type id) (zI X.K xw f))(hm:X.mg x=af)(ha:CA X xw C (e::es) is)(hg:Gl X x)(hv:dg x=aa (.type id))(hn:x≠"__name__")(hdb:(x == ("__debug__" : bi))=al)
  (he:aA (e::es) X.env=(al,cr e X.env)::aA es X.env)(hpl:(dq pos<|aA es X.env).any (·.1)=al):CF X xw C (.Call (.Name x p) (e::es) [] pos) (.blt f is):=
 PE.imp (Q7 hc hg hm hv ha hn hdb he hpl) vV
def zN{X:Cx}{xw:Nat->Hp->Prop}:ZG X (.type "list") (zI X.K xw .list):=ZG.imp J9<|by
 rintro vs H Q ⟨U,S,ds,st,r,H0,S0,f0,s0,h⟩;obtain⟨d,v,z,rfl,r1,hz,h⟩:=Wx h r;obtain⟨xs,hx,rfl⟩:=cF.mp hz;obtain⟨p,ys,rfl,hq,r2⟩:=r1.seq hx;exact#[p,ys,rfl,by rw[<-st.hk];exact hq,h.newF f0 s0 st r2]
def ZD(fr:Bool)(K:am)(xw:Nat->Hp->Prop)(U:Mx)(H0:Hp)(D:Ends):R Pv.FlV->Prop
 |.ok (.nx l os) S=>∀H' σ' W',St3 K U S H'->Eu U H0 W' l os σ' H'->D.nx σ' H'
 |.ok (.ret d) S=>∀H' v,Fut U H0 U H'->St3 K U S H'->X1 fr H0 U H' d v->D.rt v H'
 |.ex c S=>∀H',Fut U H0 U H'->St3 K U S H'->xw c H'
 |.no=>False
section
variable{fr:Bool}{K:am}{xw:Nat->Hp->Prop}{U:Mx}{H0 H:Hp}{B β:Type}{rep:Mx->Hp->B->β->Prop}{D:Ends}{W:Own}{l:Lc}{os:List Nat}{Z:L2.St}{S:Zs}
theorem ZD.bind{Q1:β->Hp->Prop}(he:Eu U H0 W l os Z H)(h:ZD fr K xw U H0 D (r.bind f))
  (k:∀d S H1 v,Fut U H U H1->St3 K U S H1->rep U H1 d v->ZD fr K xw U H0 D (f d S)->Q1 v H1):End K xw rep U H Q1 r:=by
 cases r with|ok d S=>exact λρ1 H1 v g st r=>by cases g.eq;exact k d S H1 v g st r h|ex c S=>exact λρ1 H1 g st=>by cases g.eq;exact h H1 (he.fut.trans g) st|no=>exact h
def ZD.bindW{Q1:β->Hp->Prop}(he:Eu U H0 W l os Z H)(h:ZD fr K xw U H0 D (r.bind f))
  (k:∀d S H1 v,Fut U H U H1->St3 K U S H1->rep (U.ex W) H1 d v->ZD fr K xw U H0 D (f d S)->Q1 v H1):End K xw rep (U.ex W) H Q1 r:=by
 cases r with|ok d S=>exact λρ1 H1 v g st r=>by cases g.eq;exact k d S H1 v #[rfl,g.keep] st.unex r h|ex c S=>exact λρ1 H1 g st=>by cases g.eq;exact h H1 (he.fut.trans #[rfl,g.keep]) st.unex|no=>exact h
def ZD.ob(h:ZD fr K xw U H0 D ((Pv.po o S).bind f)):∃a,o=aa a/\ZD fr K xw U H0 D (f a S):=by
 cases o with|none=>exact h.elim|some a=>exact#[a,rfl,h]
def ZD.guard{c:Prop}[Decidable c](h:ZD fr K xw U H0 D (if c then a else .no)):c/\ZD fr K xw U H0 D a:=by
 split at h
 .exact#[‹_›,h]
 .exact h.elim
def ZD.guardN{c:Prop}[Decidable c](h:ZD fr K xw U H0 D (if c then .no else a)):¬c/\ZD fr K xw U H0 D a:=by
 split at h
 .exact h.elim
 .exact#[‹_›,h]
theorem ZD.rebase(b:Base U H0 H1)(x:∀a,U.X a->H0 a≠af)(h:ZD fr K xw U H0 D r):ZD fr K xw U H1 D r:=by
 cases r with
 |ok f S=>
  cases f with|nx l os=>exact λH' σ' W' st e=>h H' σ' W' st<|e.rebase b x|ret d=>exact λH' v f st r=>h H' v (b.fut.trans f) st #[r.1,λz ds y=>let #[a,e,q]:=r.2 z ds y;#[a,e,b.dom a q]]
 |ex c S=>exact λH' f st=>h H' (b.fut.trans f) st
 |no=>exact h
end
section
variable(X:Cx)(xw:Nat->Hp->Prop)(fr:Bool)
def tS3(f:Lc->List Nat->Zs->R Pv.FlV):TS:=λD Z H=>∃U H0 W l os S,St3 X.K U S H/\Eu U H0 W l os Z H/\ZD fr X.K xw U H0 D (f l os S)
variable(C:Calls)(ms:List Nat)
def CS(st:eO)(s:Sm):Prop:=PS X st<|tS3 X xw fr<|Pv.rv C ms s
def CSs(st:List eO)(s:List Sm):Prop:=PSs X st<|tS3 X xw fr<|Pv.rvs C ms s
def CG(tg:Expr)(t:List Nat):Prop:=PG X tg<|tGU X.K t
def ZgF(t:List Nat):TGs:=λvs Z H Q=>vs.length=t.length/\Q (UK t vs Z) H
def CGs(tgs:List Expr)(t:List Nat):Prop:=PGs X tgs<|ZgF t
end
def PS.imp(h:PS X e t)(k:∀D Z H,t' D Z H->t D Z H):PS X e t':=λpq s Z H D I q=>h pq s Z H D I<|k D Z H q
def PSs.imp(h:PSs X e t)(k:∀D Z H,t' D Z H->t D Z H):PSs X e t':=λpq s Z H D I q=>h pq s Z H D I<|k D Z H q
def PG.imp(h:PG X e t)(k:∀v Z H Q,t' v Z H Q->t v Z H Q):PG X e t':=λpq s Z H v u Q I r q=>h pq s Z H v u Q I r<|k v Z H Q q
def PGs.imp(h:PGs X e t)(k:∀v Z H Q,t' v Z H Q->t v Z H Q):PGs X e t':=λpq s Z H v u Q I r q=>h pq s Z H v u Q I r<|k v Z H Q q
section
variable{X:Cx}{xw:Nat->Hp->Prop}{fr:Bool}{C:Calls}{ns:List Nat}{e a b c:Expr}{i j k:E}{pos p p' p2:fV}{s0:eO}{ss:List eO}{m0:Sm}{ms ms':List Sm}
def wn{es:List Expr}{is:List E}(h:CA X xw C es is):CF X xw C (.List es pos) (.lst is):=PE.imp (QK h)<|by
 rintro Z H Q ⟨U,l,S,st,lr,h⟩;rw[Pv.pv]at h;refine#[U,l,S,st,lr,h.bind λxs S1 ρ1 H1 vs f1 st1 r1 h1=>?_]
 obtain⟨hl,h1⟩:=h1.guard;cases f1.eq;exact#[by rw[r1.length,<-X5];exact hl,h1.newF f1 st st1 r1]
def xH:CSs X xw fr C ns [] []:=PSs.imp GT<|by rintro D Z H ⟨U,H0,W,l,os,S,st,he,h⟩;exact h H Z W st he
def GZ(h1:CS X xw fr C ns s0 m0)(h2:CSs X xw fr C ns ss ms):CSs X xw fr C ns (s0::ss) (m0::ms):=PSs.imp (YC h1 h2)<|by
 rintro D Z H ⟨U,H0,W,l,os,S,st,he,h⟩;refine#[U,H0,W,l,os,S,st,he,?_];rw[Pv.rvs]at h;cases q:Pv.rv C ns m0 l os S with
 |no=>rw[q]at h;exact h
 |ex c S1=>rw[q]at h;exact h
 |ok fl S1=>
  rw[q]at h;cases fl with|nx l1 os1=>exact λH1 σ1 W1 st1 he1=>#[U,H0,W1,l1,os1,S1,st1,he1,h]|_=>exact h
def xC(he:CE X xw C e i):CS X xw al C ns (.Return (aa e) pos) (.ret i):=PS.imp (VT he)<|by
 rintro D Z H ⟨U,H0,W,l,os,S,st,en,h⟩;rw[Pv.rv]at h;exact#[U,l,S,st,en.all,ZD.bind en h λx S1 H1 v f1 st1 r1 h1=>h1 H1 v (en.fut.trans f1) st1 #[r1,λz=>by cases z]]
def zE{K:am}{U:Mx}{H0 H:Hp}{W:Own}{l:Lc}{os:List Nat}{Z:L2.St}{S:Zs}{a:aE}(en:Eu U H0 W l os Z H)(st:St3 K U S H)(h:H a=af):H0 a=af:=en.fut.new h st.xd
def Gd(he:CF X xw C e i):CS X xw fr C ns (.Return (aa e) pos) (.ret i):=PS.imp (VT he)<|by
 rintro D Z H ⟨U,H0,W,l,os,S,st,en,h⟩;rw[Pv.rv]at h;exact#[U,l,S,st,en.all,ZD.bind en h λx S1 H1 v f1 st1 r1 h1=>h1 H1 v (en.fut.trans f1) st1 #[r1.1,λ_ ds y=>let #[a,e,q]:=r1.2 rfl ds y;#[a,e,zE en st q]]]
def J1{n:Nat}{is:List E}(he:CE X xw C e (.call n is))(hs:eQ e af pos.line X.env=cS al):CS X xw fr C ns (.Expr e pos) (.ex<|.call n is):=PS.imp (Uo he hs) λD Z H #[U,H0,W,l,os,S,st,en,h]=>
 #[U,l,S,st,en.all,ZD.bind en (h) λx S1 H1 v f1 st1 r1 h1=>h1 H1 Z W st1<|en.mono f1]
def ZaQ{sa sb:List eO}(hc:CT X xw C c k)(ha:CSs X xw fr C ns sa ms)(hb:CSs X xw fr C ns sb ms'):CS X xw fr C ns (.If c sa sb pos) (.ite k ms ms'):=PS.imp (ZaW hc ha hb)<|by
 rintro D Z H ⟨U,H0,W,l,os,S,st,en,h⟩;rw[Pv.rv]at h;refine#[U,l,S,st,en.all,ZD.bind en h λx S1 H1 v f1 st1 r1 h1=>?_]
 have e1:x=v:=r1;subst e1;cases x with|true=>exact#[U,H0,W,l,os,S1,st1,en.mono f1,h1]|false=>exact#[U,H0,W,l,os,S1,st1,en.mono f1,h1]
def Ge{n:Nat}{x:bi}(hN:X.N.Nodup)(hi:X.N[n]?=aa x)(hx:L2.Loc X.env.scope x)(hf:X.fn x=ak\/X.env.scope.names.lookup x=aa .local):CG X (.Name x pos) [n]:=
 PG.imp (Ur hN hi hx hf) λv Z H Q q=>q
def GE:CGs X [] []:=PGs.imp Zca<|by
 rintro vs Z H Q ⟨h,q⟩;cases vs with|nil=>exact#[rfl,q]|cons _ _=>cases h
def Qf{tgs:List Expr}{n:Nat}{t:List Nat}{x:bi}(hN:X.N.Nodup)(h2:CGs X tgs t)(hi:X.N[n]?=aa x)(hx:L2.Loc X.env.scope x)(hf:X.fn x=ak\/X.env.scope.names.lookup x=aa .local)
  (hs:(cI (.Name x pos::tgs) X.env).map (·.2)=eL (.Name x pos) X.env::(cI tgs X.env).map (·.2)):CGs X (.Name x pos::tgs) (n::t):=
 PGs.imp (Zbs (Ur hN hi hx hf) h2 hs)<|by
  rintro vs Z H Q ⟨h,q⟩;cases vs with|nil=>cases h|cons v vs=>exact#[v,vs,rfl,Nat.succ.inj h,q]
theorem Jl{E:au->ay->Prop}(hne:t≠it):∀(n i:Nat)(s:ay)(Q:List au->ay->Prop),s.heap.IsListIter it t i->s.heap.IsList t items->i+n<=items.size->
  (∀h',cw.IsListIter h' it t (i+n)->gy it s.heap h'->Q ((items.toList.drop i).take n) {s with heap:=h' })->ba (aV prog w) A (draw (.ref it) n) Q E s
 |0,i,s,Q,hit,_,_,hQ=>by
  exact aC (by simpa using hQ s.heap hit<|gy.refl ..)
 |n+1,i,s,Q,hit,ht,hle,hQ=>by
  have hlt:i<items.size:=by lia
  refine ae<|md hit ht (x:=items[i]) (by simp[hlt]) λh₁ hit₁ hs₁=>?_
  refine ae<|cD<|Jl hne n (i+1) _ _ hit₁ (ht.extBut hs₁.extBut hne) (by lia) λh₂ hit₂ hs₂=>aC ?_
  have hd:items.toList.drop i=items[i]::items.toList.drop (i+1):=by simp[cE,hlt]
  have:=hQ h₂ (by rw[show i+(n+1)=i+1+n by lia];exact hit₂)<|hs₁.trans hs₂
  rw[hd,List.take_succ_cons]at this;exact this
theorem ye{E:au->ay->Prop}{x1}{Q:Unit->ay->Prop}(hh:A.handled=af)(ht:s.heap.IsList t items)
  (hn:(cI elts env).length=items.size)(hstar:(cI elts env).findIdx? (·.1)=af)
  (h:∀h',gv s.heap.objs.size s.heap h'->ba (aV prog w) A (assignInOrder ((cI elts env).map (·.2)) items.toList) Q E {s with heap:=h' }) :
  ba (aV prog w) A (eL (.Tuple elts x1 pos) env<|.ref t) Q E s:=by
 rw[assign_Tuple];refine ae<|fw ?_;have hlt:t≠s.heap.objs.size:=by obtain⟨o,ho,_⟩:=ht;exact bp<|aT ho
 unfold unpack;rw[hn,hstar];refine ae<|cD ?_;refine ae ?_;refine ae<|wpAny_specialOf ht.typeIs slot_list_iter.lookup ?_;refine aC ?_;simp only[cy,if_false];refine ae<|cD<|gf ht ?_;refine ae<|cD<|Jl hlt items.size 0 _ _ #[_,aO _ rfl,rfl,rfl] (ht.push _) (by lia) λh₁ hit₁ hs₁=>?_
 have hall:ni items.size (List.drop 0 items.toList)=items.toList:=by
  rw[kX];exact cq (by simp)
 rw[hall];rw[T8<|by simp]
 have ht₁:=(ht.push _).extBut hs₁.extBut hlt;refine ae<|cD<|mH hh hit₁ ht₁ (by simp) λh₂ he₂=>?_
 simp only[Option.isSome_none,cy,if_false];exact aC<|h h₂ λb o hb e=>he₂ b o hb<|hs₁.extBut b o hb<|aw _ e
def gTL(K:am)(n:Nat)(t:TGs):TG:=λv Z H Q=>∃a xs,v=.ref a/\(SqT K H a xs\/H a=aa (.lst xs))/\xs.length=n/\t xs Z H Q
def ZfR{X:Cx}{pos:fV}{es:List Expr}{k:Nat}{t:TGs}{n:Nat}(hc:X.calm=ak)(h:PGs X es t)
  (hn:(cI es X.env).length=n:=by rfl)(hst:(cI es X.env).findIdx? (·.1)=af:=by rfl):PG X (.Tuple es k pos) (gTL X.K n t):=by
 intro pq s Z H v u Q I r hw;obtain⟨a,xs,e1,hq|hq,hl,hw⟩:=hw
 .exact Zfo hc h hn hst pq s Z H v u Q I r #[a,xs,e1,hq,hl,hw]
 .subst e1
  cases r;obtain⟨its,rv,pl,hz⟩:=I.list<|SqL.of hq;refine ye (I.ok.hd hc) pl.isList (by simp[hn,<-hl,rv.length]) hst λh' hx=>?_
  have I1:=I.kept (t':=s.toks) λb o e=>hx b o (bp<|aT e) e
  exact h pq _ Z H xs _ Q I1 (by simpa using rv) hw
def wE{tgs:List Expr}{q2:Nat}{n m:Nat}{r:List Nat}(hc:X.calm=ak)(h:CGs X tgs (n::m::r))(hn:(cI tgs X.env).length=(n::m::r).length)(hst:(cI tgs X.env).findIdx? (·.1)=af):CG X (.Tuple tgs q2 pos) (n::m::r):=
 PG.imp (ZfR hc h hn hst)<|by rintro v Z H Q ⟨a,xs,e,hp,hl,q⟩;exact #[a,xs,e,hp,hl,hl,q]
def ZD.evA{D:Ends}{K:am}{U:Mx}{H0 H:Hp}{W:Own}{l:Lc}{os:List Nat}{Z:L2.St}{S:Zs}{f:Pv.V->Zs->R Pv.FlV}{Q1:VK}(z:Bool)(hz:Pv.fresh i=ak->z=ak)(st:St3 K U S H)(en:Eu U H0 W l os Z H)(h:ZD fr K xw U H0 D ((Pv.pvA C i l os S).bind f))
  (k:∀d S1 H1 v,Fut U H U H1->St3 K U S1 H1->X1 z H (U.ex W) H1 d v->ZD fr K xw U H0 D (f d S1)->Q1 v H1):∃ρ' l' S,St3 K ρ' S H/\LocR ρ' H l' Z/\End K xw (X1 z H) ρ' H Q1 (Pv.pv C i l' S):=by
 have hid:ZD fr K xw U H0 D ((Pv.pv C i (Pv.hide os l) S).bind f)->∃ρ' l' S,St3 K ρ' S H/\LocR ρ' H l' Z/\End K xw (X1 z H) ρ' H Q1 (Pv.pv C i l' S):=λh=>#[U.ex W,Pv.hide os l,S,en.st st,en.hid,ZD.bindW en h k]
 cases os with
 |nil=>exact hid (by rw[hide_nil];exact h)
 |cons o os=>
  have h:ZD fr K xw U H0 D (Pv.PR.bind (match Pv.pv C i (Pv.hide (o::os) l) S with
   |.ok v s=>.ok v s
   |.ex c s=>.ex c s
   |.no=>(Pv.pv C i l S).bind λv s=>if(v.flat||Pv.fresh i&&Pv.vJ v)=ak then .ok v s else .no) f):=h
  cases q:Pv.pv C i (Pv.hide (o::os) l) S with
  |ok v s=>rw[q]at h;exact hid (by rw[q];exact h)
  |ex c s=>rw[q]at h;exact hid (by rw[q];exact h)
  |no=>
   rw[q]at h;have h:ZD fr K xw U H0 D (((Pv.pv C i l S).bind λv s=>if(v.flat||Pv.fresh i&&Pv.vJ v)=ak then Pv.PR.ok v s else .no).bind f):=h
   rw[V6]at h;refine#[U,l,S,st,en.all,ZD.bind en h λd S1 H1 v f1 st1 r1 h1=>?_]
   by_cases c:(d.flat||Pv.fresh i&&Pv.vJ d)=ak
   case neg=>rw[T8 c]at h1;exact h1.elim
   rw[T9 c]at h1;refine k d S1 H1 v f1 st1 #[?_,r1.2] h1;rcases(eE _ _).mp c with c|c
   .exact Rep.flat (U:=U) (ρ':=U.ex W) rfl (λ_ _ z _=>z) c r1.1
   .obtain⟨c1,c2⟩:=(aI _ _).mp c
    cases d with
    |lst xs=>
     obtain⟨a,rfl,ha⟩:=r1.2 (hz c1) xs rfl;obtain⟨_,us,e,hs,hx,rs⟩:=r1.1.lst';cases e;exact Xy hs (λx=>x.elim hx λ#[i,w]=>by obtain⟨_,_,_,_,_,z,_⟩:=en.own i a w;rw[ha]at z;cases z)<|rs.flat (U:=U) (ρ':=U.ex W) rfl (λ_ _ z _=>z) c2
    |_=>cases c2
def End.unfr{K:am}{U:Mx}{H H0:Hp}{Q:VK}{r:R D}(h:End K xw (X1 al H0) U H Q r):End K xw Rep U H Q r:=by
 cases r with|ok d S=>exact λρ' H' v f st r=>h ρ' H' v f st #[r,λz=>by cases z]|_=>exact h
def za{n:Nat}{tg:Expr}(he:CE X xw C e i)(hg:CG X tg [n])(hf:Pv.fresh i=al)(hs:fz [tg] e pos.line X.env=cS al)(hw:fA [tg] e X.env=cS af)
  (h1:(cI [tg] X.env).map (·.2)=[eL tg X.env]):CS X xw fr C ns (.Assign [tg] e pos) (.asg [n] i):=PS.imp (VO he hg hs hw h1)<|by
 rintro D Z H ⟨U,H0,W,l,os,S,st,en,h⟩;rw[Pv.rv]at h;obtain⟨ρ',l',S',a,b,c⟩:=ZD.evA (Q1:=λx H1=>tGU X.K [n] x Z H1 D.nx) al (λz=>by rw[hf]at z;cases z) st en h λd S1 H1 v f1 st1 r1 h1=>by
  rw[hf,rj,T8 aN]at h1;exact h1 H1 _ _ st1<|(en.mono f1).drop (o:=aa d) λ_ z=>by cases z;exact r1.1.lat Lat.noW
 exact#[ρ',l',S',a,b,c.unfr]
def ZeJ{D:Ends}{U:Mx}{H0 H:Hp}{W:Own}{l:Lc}{os:List Nat}{Z:L2.St}{S:Zs}{n:Nat}(st:St3 X.K U S H)(en:Eu U H0 W l os Z H)(h:ZD fr X.K xw U H0 D (Pv.rv C ns (.asg [n] i) l os S)):tF X xw (Pv.pv C i) Z H λx H1=>D.nx (Z.set n<|aa x) H1:=by
 rw[Pv.rv]at h;refine ZD.evA ak (λ_=>rfl) st en h λd S1 H1 v f1 st1 r1 h1=>?_
 by_cases c:(ns.contains n&&Pv.fresh i)=ak
 .rw[T9 c]at h1
  cases d with
  |lst xs=>
   obtain⟨⟨hf,hl⟩,h1⟩:=ZD.guard h1;obtain⟨a,rfl,ha⟩:=r1.2 rfl xs rfl;exact h1 H1 _ _ st1<|en.take st.xd f1 ha hf r1.1 hl
  |_=>exact h1.elim
 .rw[T8 c]at h1
  exact h1 H1 _ _ st1<|(en.mono f1).drop (o:=aa d) λ_ z=>by cases z;exact r1.1.lat Lat.noW
def ze{n:Nat}{tg:Expr}(he:CF X xw C e i)(hg:CG X tg [n])(hs:fz [tg] e pos.line X.env=cS al)(hw:fA [tg] e X.env=cS af)
  (h1:(cI [tg] X.env).map (·.2)=[eL tg X.env]):CS X xw fr C ns (.Assign [tg] e pos) (.asg [n] i):=PS.imp (VO he hg hs hw h1)<|by rintro D Z H ⟨U,H0,W,l,os,S,st,en,h⟩;exact ZeJ st en h
def wo{n m:Nat}{t:List Nat}{tg:Expr}(he:CE X xw C e i)(hg:CG X tg (n::m::t))(hf:Pv.fresh i=al)(hs:fz [tg] e pos.line X.env=cS al)(hw:fA [tg] e X.env=cS af)
  (h1:(cI [tg] X.env).map (·.2)=[eL tg X.env]):CS X xw fr C ns (.Assign [tg] e pos) (.asg (n::m::t) i):=PS.imp (VO he hg hs hw h1)<|by
 rintro D Z H ⟨U,H0,W,l,os,S,st,en,h⟩;rw[Pv.rv]at h
 .obtain⟨ρ',l',S',a,b,c⟩:=ZD.evA (Q1:=λx H1=>tGU X.K (n::m::t) x Z H1 D.nx) al (λz=>by rw[hf]at z;cases z) st en h λd S1 H1 v f1 st1 r1 h1=>by
   obtain⟨ht,h1⟩:=h1.guardN;obtain⟨l',hl,h1⟩:=ZD.ob h1;exact(en.mono f1).assign (by simpa using ht) r1.1 hl λσ' e'=>h1 H1 σ' W st1 e'
  exact#[ρ',l',S',a,b,c.unfr]
 .intro _ z;cases z
end
theorem XF:∀{a b:List D},Pv.ZL a=ak->Pv.ZL b=ak->Pv.ZL (a++b)=ak
 |[],_,_,h=>h
 |x::a,b,h,h'=>by
  rw[o7,Pv.ZL]at *;have:=(aI _ _).mp h;rw[this.1,XF this.2 h'];rfl
theorem Eu.at{U:Mx}{H0 H:Hp}{W:Own}{l:Lc}{os:List Nat}{Z:L2.St}{i:Nat}{xs:List D}(h:Eu U H0 W l os Z H)(hi:os.contains i=ak)(hx:Pv.uo l[i]?=aa xs):∃a,W i=aa a/\Pv.ZL xs=ak/\Z[i]?=aa (aa<|.ref a)/\∃us,H a=aa (.lst us)/\Rq U H xs us:=by
 rw[h.osW]at hi;obtain⟨a,w⟩:=fB.mp hi;obtain⟨ys,us,p,b,c,e,r⟩:=h.own i a w;rw[p]at hx;cases hx;exact#[a,w,b,c,us,e,r]
section
variable{X:Cx}{xw:Nat->Hp->Prop}{fr:Bool}{C:Calls}{ns:List Nat}{e a b c:Expr}{i j k:E}{pos p p' p2:fV}{s0:eO}{ms ms':List Sm}{n:Nat}{x:bi}
def VM{apos cpos:fV}(he:CE X xw C e i)(hN:X.N[n]?=aa x)(hv:Vis X.env.scope x)(hd:(x == ("__debug__" : bi))=al)
  (hcd:(x == ("__classdict__" : bi))=al)
  (hbase:nz (.Name x p) "append" X.env (cr (.Name x p) X.env)=cr (.Name x p) X.env)
  (hfew:((dq cpos<|aA [e] X.env).all (λx=>!x.1)&&(backToKw cpos<|pH [] X.env).all (λx=>x.1.isSome)
   && ag (([e]:List Expr).length+([]:List ot).length+(if([]:List ot).isEmpty then 0 else 1)<30))=ak)
  (hline:(apos.endLine == cpos.line)=ak)(hs:aA [e] X.env=(al,cr e X.env)::aA [] X.env)(hplain:(dq cpos<|aA [] X.env).any (·.1)=al)
  (hw:eQ (.Call (.Attribute (.Name x p) "append" apos) [e] [] cpos) af pos.line X.env=cS al) :
  CS X xw fr C ns (.Expr (.Call (.Attribute (.Name x p) "append" apos) [e] [] cpos) pos) (.ex<|.mt .append (.v n) [i]):=
 PS.imp (Uo (yW eg lF lG VI (Yq hN hv hd hcd) (Zx he Yi hs) hbase hfew hline hs hplain) hw)<|by
 rintro D Z H ⟨U,H0,W,l,os,S,st,en,h⟩;rw[Pv.rv]at h;obtain⟨c,h⟩:=h.guard;obtain⟨xs,hx,h⟩:=ZD.ob h;obtain⟨a,ha,_,q,us,e1,_⟩:=en.at c hx;refine#[.ref a,q,.inl #[rfl,us,SqL.of e1],U,l,S,st,en.all,ZD.bind en h λy S1 H1 v f1 st1 r1 h1=>?_]
 obtain⟨⟨hf,hl⟩,h1⟩:=h1.guard;have en1:=en.mono f1;obtain⟨a',ha',hg,_,us,e2,r'⟩:=en1.at c hx;rw[ha]at ha';cases ha';exact#[a,us,v,rfl,rfl,e2,by rw[r'.length,<-X5];exact hl,h1 _ _ W (st1.mut en1 ha)<|en1.mut ha (XF hg<|by rw[Pv.ZL,hf];rfl)<|r'.append<|Rq.cons r1 Rq.nil]
def VL{apos cpos:fV}(he:CE X xw C e i)(hN:X.N[n]?=aa x)(hv:Vis X.env.scope x)(hd:(x == ("__debug__" : bi))=al)
  (hcd:(x == ("__classdict__" : bi))=al)
  (hbase:nz (.Name x p) "extend" X.env (cr (.Name x p) X.env)=cr (.Name x p) X.env)
  (hfew:((dq cpos<|aA [e] X.env).all (λx=>!x.1)&&(backToKw cpos<|pH [] X.env).all (λx=>x.1.isSome)
   && ag (([e]:List Expr).length+([]:List ot).length+(if([]:List ot).isEmpty then 0 else 1)<30))=ak)
  (hline:(apos.endLine == cpos.line)=ak)(hs:aA [e] X.env=(al,cr e X.env)::aA [] X.env)(hplain:(dq cpos<|aA [] X.env).any (·.1)=al)
  (hw:eQ (.Call (.Attribute (.Name x p) "extend" apos) [e] [] cpos) af pos.line X.env=cS al) :
  CS X xw fr C ns (.Expr (.Call (.Attribute (.Name x p) "extend" apos) [e] [] cpos) pos) (.ex<|.mt .extend (.v n) [i]):=
 PS.imp (Uo (yW eg PySem.F.slot_list_extend PySem.F.type_list_extend uR (Yq hN hv hd hcd) (Zx he Yi hs) hbase hfew hline hs hplain) hw)<|by
 rintro D Z H ⟨U,H0,W,l,os,S,st,en,h⟩;rw[Pv.rv]at h;obtain⟨c,h⟩:=h.guard;obtain⟨xs,hx,h⟩:=ZD.ob h;obtain⟨a,ha,_,q,us,e1,_⟩:=en.at c hx;refine#[.ref a,q,.inl #[rfl,us,SqL.of e1],U.ex W,Pv.hide os l,S,en.st st,en.hid,ZD.bindW en h λy S1 H1 v f1 st1 r1 h1=>?_]
 cases y with
 |lst ys=>
  obtain⟨⟨hf,hl⟩,h1⟩:=ZD.guard h1;have en1:=en.mono f1;obtain⟨a',ha',hg,_,us,e2,r'⟩:=en1.at c hx;rw[ha]at ha';cases ha';obtain⟨b,ws,rfl,e3,_,r3⟩:=r1.lst';have r3:=r3.lat Lat.unex;exact#[a,b,us,ws,rfl,rfl,e2,e3,by rw[r'.length,r3.length,<-X5];exact hl,h1 _ _ W (st1.mut en1 ha)<|en1.mut ha (XF hg hf)<|r'.append r3]
 |_=>exact h1.elim
structure AugOk(X:Cx)(op:re)(o:Bop):Prop where
 h:∃t:TIp,PIp X op t/\∀(xw:Nat->Hp->Prop) U S H n m Q,St3 X.K U S H->End X.K xw Rep U H Q (Pv.Xm o (.int n) (.int m) S)->t (.int n) (.int m) H Q
def ZbD:AugOk X .Add .add:=#[_,Zc9,λxw U S H n m Q st h=>#[n,m,rfl,rfl,End.ok h st<|ZK _]]
def jH{o:Bop}{a b:Int}{S S':Zs}{z:D}(h:Pv.Q2 o a b S=.ok z S'):∃y,z=.int y:=by
 unfold Pv.Q2 at h;cases o<;>simp only at h<;>first
  |(cases h;exact#[_,rfl])
  |(split at h<;>cases h;exact#[_,rfl])
def xp{op:re}{o:Bop}(ho:AugOk X op o)(hN:X.N.Nodup)(he:CE X xw C e i)(hi:X.N[n]?=aa x)(hx:L2.Loc X.env.scope x)(hf:X.fn x=ak\/X.env.scope.names.lookup x=aa .local) :
  CS X xw fr C ns (.AugAssign (.Name x p) op e pos) (.aug n o i):=by
 obtain⟨t,ht,hq⟩:=ho.h;refine PS.imp (ZeV hN hi hx he ht hf) λD Z H #[U,H0,W,l,os,S,st,en,h]=>?_
 rw[Pv.rv]at h;obtain⟨c,h⟩:=h.guardN;obtain⟨d,hd,h1⟩:=ZD.ob h;obtain⟨v,hv,rv⟩:=en.all.val n d (by cases q:l[n]?<;>rw[q]at hd<;>cases hd;rfl)
 refine#[v,hv,U,l,S,st,en.all,ZD.bind en h1 λy S1 H1 u f1 st1 r1 h2=>?_]
 cases d with
 |int m=>cases y with
  |int m'=>
   rw[rv.int',r1.int'];have h2:ZD fr X.K xw U H0 D ((Pv.Q2 o m m' S1).bind λz S=>.ok (.nx (l.set n<|aa z) os) S):=h2
   refine hq xw U S1 H1 m m' _ st1 (show End X.K xw Rep U H1 _ (Pv.Q2 o m m' S1)from ?_)
   have en1:=en.mono f1;cases q:Pv.Q2 o m m' S1 with
   |no=>rw[q]at h2;exact h2
   |ex c S2=>rw[q]at h2;exact λρ1 H2 g s2=>by cases g.eq;exact h2 H2 (en1.fut.trans g) s2
   |ok z S2=>
    rw[q]at h2;obtain⟨y,rfl⟩:=jH q;exact λρ1 H2 w g s2 r2=>by
     cases g.eq;cases r2.int';exact h2 H2 _ W s2<|(en1.mono g).set (o:=aa<|.int y) (by simpa using c) λ_ z=>by cases z;exact ZK _
  |_=>exact False.elim h2
 |_=>exact False.elim h2
def wf{m:Nat}{y:bi}{px py:fV}(hN:X.N.Nodup)(hj:X.N[m]?=aa y)(hv:Vis X.env.scope y)(hd:(y == ("__debug__" : bi))=al)
  (hcd:(y == ("__classdict__" : bi))=al)(hi:X.N[n]?=aa x)(hx:L2.Loc X.env.scope x)(hf:X.fn x=ak\/X.env.scope.names.lookup x=aa .local)
  (hs:fz [.Name x px] (.Name y py) pos.line X.env=cS al)(hw:fA [.Name x px] (.Name y py) X.env=cS af)
  (h1:(cI [.Name x px] X.env).map (·.2)=[eL (.Name x px) X.env]):CS X xw fr C ns (.Assign [.Name x px] (.Name y py) pos) (.mov n m):=
 PS.imp (VO (Yq hj hv hd hcd) (Ur hN hi hx hf) hs hw h1)<|by
 rintro D Z H ⟨U,H0,W,l,os,S,st,en,h⟩;rw[Pv.rv]at h;obtain⟨c,h⟩:=h.guard;obtain⟨c1,c⟩:=(aI _ _).mp c;obtain⟨c2,c3⟩:=(aI _ _).mp c;have c3:n≠m:=T6 c3;have c2:os.contains n=al:=by simpa using c2
 obtain⟨xs,hx,h⟩:=ZD.ob h;obtain⟨a,ha,hf,q,us,e1,r⟩:=en.at c1 hx;have nx:=en.nx ha;refine#[.ref a,q,h H _ (noW W m) st ?_];have e:=en.drop (i:=m) (o:=af) (v:=.ref a) λ_ z=>by cases z
 have hl:=(aF.mp q).1;rw[show Z.set m (aa<|.ref a)=Z by
  have:=(aF.mp q).2;rw[<-this];exact List.set_getElem_self hl]at e
 have e:=e.set (o:=aa<|.lst xs) (by
  rw[WE en.osW];unfold noW;rw[T8 c3,en.nW c2];rfl) λ_ z=>by
   cases z;refine Xy e1 (λx=>x.elim nx λ#[k,w]=>?_)<|Rq.flat (U:=U) (ρ':=U.ex<|noW W m) rfl (λ_ _ z _=>z) hf r
   obtain⟨w1,w2⟩:=XG w;exact w1<|en.inj k m a w2 ha
 rw[List.set_comm _ _<|Ne.symm c3]at e;exact e
def Uy{body:List eO}(hp:oO (aV X.prog X.w) X.A X.env X.xe)(hc:CT X xw C c k)(hb:CSs X xw fr C ns body ms):CS X xw fr C ns (.While c body [] pos) (.whl k ms):=PS.imp (Zaj hp hc hb)<|by
 rintro D Z H ⟨U,H0,W,l,os,S,st,en,h⟩;refine#[λm σ' H'=>∃W' l' os' S',St3 X.K U S' H'/\Eu U H0 W' l' os' σ' H'/\ZD fr X.K xw U H0 D (Pv.YG (Pv.Yk C k) (Pv.rvs C ns ms) m l' os' S'),#[Ev.zB,W,l,os,S,st,en,h],?_]
 rintro m σ' H' ⟨W',l',os',S',st',en',e'⟩
 cases m with
 |zero=>exact False.elim e'
 |succ m=>
  rw[Pv.YG]at e';refine#[U,l',S',st',en'.all,ZD.bind en' e' λb S1 H1 b' f1 st1 r1 h1=>?_]
  have eb:b=b':=r1;subst eb;cases b with
  |false=>
   rw[T8 aN]at h1 ⊢;exact h1 H1 σ' W' st1<|en'.mono f1
  |true=>
   rw[T9 rfl]at h1 ⊢;refine#[λσ2 H2=>∃W2 l2 os2 S2,St3 X.K U S2 H2/\Eu U H0 W2 l2 os2 σ2 H2/\ZD fr X.K xw U H0 D (Pv.YG (Pv.Yk C k) (Pv.rvs C ns ms) m l2 os2 S2),λσ2 H2 w=>#[m,iT m,w],U,H0,W',l',os',S1,st1,en'.mono f1,?_]
   cases q:Pv.rvs C ns ms l' os' S1 with
   |no=>rw[q]at h1;exact h1
   |ex c S2=>rw[q]at h1;exact h1
   |ok fl S2=>
    rw[q]at h1;cases fl with|nx l3 os3=>exact λH4 σ4 W4 st4 lr4=>#[W4,l3,os3,S2,st4,lr4,h1]|ret d=>exact h1
end
structure WRel(K:am)(U:Mx)(H:Hp)(w:List D)(J:It):Prop where
 go:∀(i:Nat) ρ' S' H',Lat U H ρ' H'->St3 K ρ' S' H'->i<w.length->J.go i H'/\∀x H'',J.yld i H' x H''->Fut ρ' H' ρ' H''/\St3 K ρ' S' H''/\∀d,w[i]?=aa d->Rep ρ' H'' d x
 stop:∀ρ' S' H',Lat U H ρ' H'->St3 K ρ' S' H'->J.stop w.length H'
section
variable(X:Cx)(xw:Nat->Hp->Prop)
def tW3(f:Lc->Zs->R (List D)):TI:=λZ H Q=>∃U l S,St3 X.K U S H/\LocR U H l Z/\End X.K xw (WRel X.K) U H Q (f l S)
def CW(C:Calls)(tg it:Expr)(w:Ev.W):Prop:=PI X tg it<|tW3 X xw<|Pv.pvw C w
end
def PI.imp(h:PI X tg it t)(k:∀Z H Q,t' Z H Q->t Z H Q):PI X tg it t':=λpq s Z H R I q=>h pq s Z H R I<|k Z H R q
section
variable{X:Cx}{xw:Nat->Hp->Prop}{C:Calls}{e a b c tg it:Expr}{i j k:E}{pos p p' p2:fV}
def ZgH(K:am)(tl:TE):TI:=λZ H R=>tl Z H λx H1=>∃a,x=.ref a/\(((∃xs,SqL K H1 a xs)/\R (Itl K a) H1)\/((∃xs,SqT K H1 a xs)/\R (Itt K a) H1))
def ZeP(hl:PE X l tl):PI X tg l (ZgH X.K tl):=by
 intro pq s Z H R I h;refine thn (hl pq s Z H _ I h) λv s1 #[x,H1,I1,r1,a,e,q]=>?_
 subst e;cases r1;rcases q with⟨⟨xs,hq⟩,q⟩|⟨⟨xs,hq⟩,q⟩
 .obtain⟨its,rv,p,hz⟩:=I1.list hq
  refine gf p.isList ?_;refine#[s1.heap.objs.size,[s1.heap.objs.size],_,_,H1,rfl,I1.kept (t':=s1.toks) λb o e=>aw _ e,uL a _,#[_,aO _ rfl,rfl,rfl],λb hb=>?_,q]
  have e:b=s1.heap.objs.size:=by simpa using hb
  subst e;exact I1.fpOk (aJ _)<|I1.hok.fresh<|aJ _
 .obtain⟨its,rv,p,hz⟩:=I1.tuple hq
  refine gZ (p) ?_
  refine#[s1.heap.objs.size,[s1.heap.objs.size],_,_,H1,rfl,I1.kept (t':=s1.toks) λb o e=>aw _ e,xi a _,#[_,aO _ rfl,rfl,rfl],λb hb=>?_,q]
  have e:b=s1.heap.objs.size:=by simpa using hb
  subst e;exact I1.fpOk (aJ _)<|I1.hok.fresh<|aJ _
def Vv{K:am}{U:Mx}{H:Hp}{ds:List D}{xs:List V}{J:It}(r:Rq U H ds xs)(hg:∀ρ' H',Lat U H ρ' H'->(∀i x,xs[i]?=aa x->J.go i H'/\∀y H'',J.yld i H' y H''->H''=H'/\y=x)/\∀n,n=xs.length->J.stop n H'):WRel K U H ds J where
 go:=λi ρ' S' H' f st hi=>by
  obtain⟨v,g,r'⟩:=(r.lat f).get<|ai hi;obtain⟨a,b⟩:=(hg ρ' H' f).1 i v g;refine#[a,λx H'' y=>?_]
  obtain⟨rfl,rfl⟩:=b x H'' y;exact#[Fut.refl _ _,st,λd hd=>by rw[ai hi]at hd;cases hd;exact r']
 stop:=λρ' S' H' f st=>(hg ρ' H' f).2 _ r.length.symm
def jP{K K':am}{U:Mx}{H:Hp}{ds:List D}{a:aE}{xs:List V}(hp:H a=aa (.tup xs))(r:Rq U H ds xs):WRel K U H ds (Itt K' a):=Vv r λρ' H' f=>by
 have h:=SqT.of (K:=K')<|f.keep a _ hp λ_ z=>by cases z
 exact#[λi x g=>#[#[xs,x,h,g],λy H'' z=>#[z.1,by have:=z.2 xs h;rw[g]at this;exact(aq this).symm]],λn e=>#[xs,h,by omega]]
def v7{K K':am}{U:Mx}{H:Hp}{ds:List D}{a:aE}{xs:List V}(hp:∀ρ' H',Lat U H ρ' H'->SqL K' H' a xs)(r:Rq U H ds xs):WRel K U H ds (Itl K' a):=Vv r λρ' H' f=>by
 have h:=hp ρ' H' f;exact#[λi x g=>#[#[xs,x,h,g],λy H'' z=>#[z.1,by have:=z.2 xs h;rw[g]at this;exact(aq this).symm]],λn e=>#[xs,h,by omega]]
def Q9(lo:Int)(n:Nat):(Pv.ZU lo n).length=n:=by unfold Pv.ZU;rw[ax,bq]
theorem VQ(lo:Int):∀(l:List Nat),Rq U H (l.map λ(k:Nat)=>Pv.V.int<|lo+(k:Int)) (l.map λ(k:Nat)=>V.int<|lo+(k:Int))
 |[]=>Rq.nil
 |_::l=>Rq.cons (ZK _)<|VQ lo l
def yd{K:am}{U:Mx}{H:Hp}{lo:Int}{n:Nat}:WRel K U H (Pv.ZU lo n) (Itr lo n):=Vv (VQ lo<|aP n) λρ' H' f=>by
 refine#[λi x g=>?_,λm e=>?_]
 .have hi:i<n:=by have:=(aF.mp g).1;simpa using this
  rw[aQ,cO hi]at g;exact#[hi,λy H'' z=>#[z.1,z.2.trans<|aq g]]
 .rw[ax,bq]at e;show n<=m;omega
def jI(he:CE X xw C e i):CW X xw C tg e (.of i):=PI.imp (ZeP he)<|by
 rintro Z H Q ⟨U,l,S,st,lr,h⟩;rw[Pv.pvw]at h;refine#[U,l,S,st,lr,h.bind λx S1 ρ1 H1 v f1 st1 r1 h1=>?_]
 obtain⟨ds,hd,h1⟩:=End.po h1;have q:∀{J},WRel X.K ρ1 H1 ds J->Q J H1:=λw=>End.ok h1 st1 w
 cases x with
 |tup ds=>cases hd;obtain⟨a,xs,rfl,hp,r⟩:=r1.tup';exact#[a,rfl,.inr #[#[xs,SqT.of hp],q<|jP hp r]]
 |lst ds=>cases hd;obtain⟨a,xs,rfl,hp,hx,r⟩:=r1.lst';exact#[a,rfl,.inl #[#[xs,SqL.of hp],q<|v7 (λρ' H' f=>SqL.of<|f.keep a _ hp λ_ _=>hx) r]]
 |scr ns=>
  cases hd;obtain⟨a,rfl,hp⟩:=r1.scr';rw[st1.hk]at hp;refine#[a,rfl,.inl #[#[_,hp.sq],q<|v7 (λρ' H' f=>?_)<|Rq.ints ns]]
  rcases hp with⟨o,hp⟩|hp
  .exact .inl<|.inr #[o,f.keep a _ hp λ_ z=>by cases z]
  .exact .inr hp
 |_=>exact Ev.nos hd
def ZdV{B β:Type}{rep:Mx->Hp->B->β->Prop}{U:Mx}{l:Lc}{S:Zs}{Z:L2.St}{H:Hp}{Q:β->Hp->Prop}{Q1:List V->Hp->Prop}{g:D->Zs->R B}(st:St3 X.K U S H)(lr:LocR U H l Z)(h:End X.K xw rep U H Q ((Pv.pv C i l S).bind g))
  (k:∀x S1 ρ1 H1 v,St3 X.K ρ1 S1 H1->Rep ρ1 H1 x v->End X.K xw rep ρ1 H1 Q (g x S1)->Q1 [v] H1):tA X xw (Pv.pvs C [i]) Z H Q1:=by
 refine#[U,l,S,st,lr,?_];show End X.K xw Rq U H _ ((Pv.pv C i l S).bind λx S=>.ok [x] S)
 cases q:Pv.pv C i l S with
 |no=>rw[q]at h;exact h
 |ex c S1=>rw[q]at h;exact h
 |ok x S1=>
  rw[q]at h;intro ρ1 H1 vs f1 st1 r1;obtain⟨v,rfl,r⟩:=Zah r1;exact k x S1 ρ1 H1 v st1 r<|End.mono f1 h
def Zag{B β:Type}{rep:Mx->Hp->B->β->Prop}{U:Mx}{l:Lc}{S:Zs}{Z:L2.St}{H:Hp}{Q:β->Hp->Prop}{Q1:List V->Hp->Prop}{g:D->D->Zs->R B}(st:St3 X.K U S H)(lr:LocR U H l Z)(h:End X.K xw rep U H Q ((Pv.pv C i l S).bind λx S=>(Pv.pv C j l S).bind λy S=>g x y S))
  (k:∀x y S1 ρ1 H1 v u,St3 X.K ρ1 S1 H1->Rep ρ1 H1 x v->Rep ρ1 H1 y u->End X.K xw rep ρ1 H1 Q (g x y S1)->Q1 [v,u] H1):tA X xw (Pv.pvs C [i,j]) Z H Q1:=by
 refine#[U,l,S,st,lr,?_];show End X.K xw Rq U H _ ((Pv.pv C i l S).bind λx S=>((Pv.pv C j l S).bind λy S=>.ok [y] S).bind λxs S=>.ok (x::xs) S)
 cases q:Pv.pv C i l S with
 |no=>rw[q]at h;exact h
 |ex c S1=>rw[q]at h;exact h
 |ok x S1=>
  rw[q]at h;have h:End X.K xw rep U H Q ((Pv.pv C j l S1).bind λy S=>g x y S):=h
  show End X.K xw Rq U H _ (((Pv.pv C j l S1).bind λy S=>.ok [y] S).bind λxs S=>.ok (x::xs) S)
  cases q2:Pv.pv C j l S1 with
  |no=>rw[q2]at h;exact h
  |ex c S2=>rw[q2]at h;exact h
  |ok y S2=>
   rw[q2]at h;intro ρ1 H1 vs f1 st1 r1;obtain⟨v,u,rfl,rv,ru⟩:=zV r1;exact k x y S2 ρ1 H1 v u st1 rv ru<|End.mono f1 h
def Yn(h:Ev.Yh n=ak):-(2^62)<=n/\n<2^62:=T6 h
def Gk(hm:X.mg "range" = af)(ha:CA X xw C [a] [i])(hg:Gl X "range")(hs:aA [a] X.env=[(al,cr a X.env)]):CW X xw C tg (.Call (.Name "range" p) [a] [] pos) (.rng1 i):=
 PI.imp (qy hg hm ha hs) λZ H Q #[U,l,S,st,lr,h]=>ZdV st lr h λx S1 ρ1 H1 v st1 r h1=>by
  cases x with
  |int n=>
   obtain⟨hs,h2⟩:=End.guard h1;exact#[n,by rw[r.int'],(Yn hs).1,(Yn hs).2,End.ok h2 st1 yd]
  |_=>exact False.elim h1
def GN(hm:X.mg "range" = af)(ha:CA X xw C [a,b] [i,j])(hg:Gl X "range")(hs:aA [a,b] X.env=[(al,cr a X.env),(al,cr b X.env)])(hs2:aA [b] X.env=[(al,cr b X.env)]) :
  CW X xw C tg (.Call (.Name "range" p) [a,b] [] pos) (.rng2 i j):=
 PI.imp (qe hg hm ha hs hs2) λZ H Q #[U,l,S,st,lr,h]=>Zag st lr h λx y S1 ρ1 H1 v u st1 rv ru h1=>by
  cases x with
  |int n=>cases y with
   |int m=>
    obtain⟨hs,h3⟩:=End.guard h1;obtain⟨s1,s2⟩:=(aI _ _).mp hs;exact#[n,m,by rw[rv.int',ru.int'],#[(Yn s1).1,(Yn s1).2,(Yn s2).1,(Yn s2).2],End.ok (rep:=WRel X.K) h3 st1 yd]
   |_=>exact False.elim h1
  |_=>exact False.elim h1
def xO{body:List eO}{fr:Bool}{ns:List Nat}{ms:List Sm}{w:Ev.W}{t:List Nat}(hp:oO (aV X.prog X.w) X.A X.env X.xe)(hc:X.calm=ak)(hw:CW X xw C tg it w)(hg:CG X tg t)(hb:CSs X xw fr C ns body ms)
  (hs:∀x,bY it X.env x=cS x):CS X xw fr C ns (.For tg it body [] pos) (.forr t w ms):=PS.imp (Zel hp hc hw hg hb hs)<|by
 rintro D Z H ⟨U,H0,W,l,os,S,st,en,h⟩;rw[Pv.rv]at h;refine#[U.ex W,Pv.hide os l,S,en.st st,en.hid,ZD.bindW en h λwk S1 H1 J f1 st1 r1 h1=>?_]
 obtain⟨bs,en1⟩:=(en.mono f1).off st1.xd;have h1:=h1.rebase bs en.xd;generalize hB:(λx U os s=>if(t.any<|nA os)=ak then(.no:Pv.PR Pv.FlV)else(Pv.po (Pv.Zo t x U) s).bind λU s=>Pv.rvs C ns ms U os s)=B at h1
 let I:Nat->L2.St->Hp->Prop:=λn σ' H'=>∃W' l' os' S',St3 X.K U S' H'/\Eu U (QP H1 W) W' l' os' σ' H'/\ZD fr X.K xw U (QP H1 W) D (Pv.XW B (wk.drop n) l' os' S')
 refine#[λn m σ' H'=>m=wk.length-n/\n<=wk.length/\I n σ' H',#[wk.length,rfl,d4 _,W,l,os,S1,st1,en1,h1],?_]
 rintro n m σ' H' ⟨rfl,hn,W',l',os',S',st',en',e'⟩
 have lat:=(en.mono f1).walk en';by_cases hlt:n<wk.length
 .right
  rw[cE hlt,Pv.XW]at e';obtain⟨go,yl⟩:=r1.go n _ S' H' lat (en'.st st') hlt;refine#[go,I<|n+1,λσ2 H2 q=>#[wk.length-(n+1),by omega,rfl,hlt,q],λx H3 y=>?_]
  obtain⟨f3,st3,rp⟩:=yl x H3 y;have rx:=rp _<|ai hlt;have f3:Fut U H' U H3:=#[rfl,f3.keep];have hBn:B wk[n] l' os' S'=if(t.any<|nA os')=ak then(.no:Pv.PR Pv.FlV)else(Pv.po (Pv.Zo t wk[n] l') S').bind λU s=>Pv.rvs C ns ms U os' s:=by rw[<-hB]
  rw[hBn]at e';by_cases c:(t.any<|nA os')=ak
  .rw[T9 c]at e';exact e'.elim
  rw[T8 c]at e';cases ha:Pv.Zo t wk[n] l' with
  |none=>rw[ha]at e';exact e'.elim
  |some l2=>
   rw[ha]at e';refine(en'.mono f3).assign (by simpa using c) rx ha λσ2 e2=>#[U,_,W',l2,os',S',st3.unex,e2,?_]
   have e':ZD fr X.K xw U (QP H1 W) D ((Pv.rvs C ns ms l2 os' S').bind _):=e';cases q:Pv.rvs C ns ms l2 os' S' with
   |no=>rw[q]at e';exact e'
   |ex c S2=>rw[q]at e';exact e'
   |ok fl S2=>
    rw[q]at e';cases fl with|nx l3 os3=>exact λH4 σ4 W4 st4 lr4=>#[W4,l3,os3,S2,st4,lr4,e']|ret d=>exact e'
 .left
  have en2:n=wk.length:=by omega
  subst en2;rw[eR]at e';exact#[r1.stop _ S' H' lat<|en'.st st',e' H' σ' W' st' en']
end
noncomputable def qZ(env:Env):List (bi×fG)->List (bi×aE)->List (bi×aE)
 |[],acc=>acc
 |x::r,acc=>qZ env r (if(x.2 == bM)=ak then(x.1,(env.cells.lookup x.1).getD 0)::acc else acc)
theorem U4{env:Env}{f:bi×fG->List (bi×aE)->oh (ForInStep<|List<|bi×aE)}:∀(names:List (bi×fG))(acc:List (bi×aE)),
  (∀x∈names,∀c,f x c=cS (.yield (if(x.2 == bM)=ak then(x.1,(env.cells.lookup x.1).getD 0)::c else c)))->nB names acc f=cS (qZ env names acc)
 |[],acc,_=>rfl
 |x::r,acc,h=>by
  rw[mz,h x aj,pure_bind];exact U4 r _ λy hy=>h y<|ao _ hy
theorem yX :∀(names:List (bi×fG))(acc:List (bi×aE)),(qZ env names acc).lookup x=aa c->acc.lookup x=aa c\/(∃y∈names,y.1=x/\y.2=.free/\c=(env.cells.lookup x).getD 0)
 |[],acc,h=>.inl h
 |y::r,acc,h=>by
  rcases yX r _ h with h|⟨z,hz,e⟩
  .by_cases hf:(y.2 == bM)=ak
   .rw[T9 hf,bV]at h
    cases q:(x == y.1)with
    |true=>
     rw[q]at h;have e:=lQ q;exact .inr #[y,aj,e.symm,lQ hf,by rw[e];exact(aq h).symm]
    |false=>rw[q]at h;exact .inl h
   .rw[T8 hf]at h;exact .inl h
  .exact .inr #[z,ao _ hz,e]
theorem yH :∀(names:List (bi×fG))(acc:List (bi×aE)),(acc.lookup x).isSome=ak->((qZ env names acc).lookup x).isSome=ak
 |[],acc,h=>h
 |y::r,acc,h=>by
  refine yH r _ ?_;split
  .rw[bV]
   cases(x == y.1)with|true=>rfl|false=>exact h
  .exact h
theorem zP :∀(names:List (bi×fG))(acc:List (bi×aE)),(x,bM)∈names->((qZ env names acc).lookup x).isSome=ak
 |[],acc,h=>by cases h
 |y::r,acc,h=>by
  rcases aB.mp h with h|h
  .subst h
   refine yH r _ ?_;rw[T9 (by rfl),bV,beq_self_eq_true]
   rfl
  .exact zP r _ h
def WQ{scope:d6}{env:Env}(h:∀y∈scope.names,y.2=.free->∃c,env.cells.lookup y.1=aa c) :
  ∃cl,iU scope env=cS cl/\(∀x c,cl.lookup x=aa c->env.cells.lookup x=aa c)/\∀x,(x,bM)∈scope.names->∃c,cl.lookup x=aa c:=by
 refine#[qZ env scope.names [],?_,λx c e=>?_,λx hx=>fB.mp<|zP _ _ hx]
 .simp only[iU]
  rw[U4 (env:=env) scope.names [] (λx hx c=>by
   obtain⟨n,kind⟩:=x;by_cases hk:(kind == bM)=ak
   .obtain⟨a,ha⟩:=h (n,kind) hx (lQ hk)
    have ha':=ha;simp only[hk,if_true,cellOf,ha',pure_bind,Option.getD_some]
   .simp only[hk,if_false]
    rfl),pure_bind]
 .rcases yX _ _ e with e|⟨y,hy,e1,e2,e3⟩
  .cases e
  .obtain⟨a,ha⟩:=h y hy e2
   rw[e1]at ha;rw[e3,ha];rfl
def cxC(X:Cx)(N:List bi)(scope:d6)(cl:List (bi×aE))(s:ay)(H:Hp)(fp:List aE):Cx:=
 {X with N:=N,s₀:=s,H₀:=H,env:=compEnvC scope cl s.heap.objs.size X.env,outer:=X.stack,ex:=fp,fn:=λ_=>al,pn:=[],xe:=λ_ _=>False}
def PTs(X:Cx)(ifs:List Expr)(t:TT):Prop:=
 ∀(pq:List (aE×fD))(s:ay)(Z:L2.St)(H:Hp)(Q:Bool->Hp->Prop),Inv X pq Z H s->t Z H Q->
  ba (aV X.prog X.w) X.A (nB ifs ak λc r=>if r=ak then do let ok <-isTrue c X.env (cr c X.env);cS (ko ok)else cS (ko r)) (TP X pq Z Q) X.xe s
def Zdn :PTs X [] (λZ H Q=>Q ak H):=λpq s Z H Q I h=>wpAny_tests_nil #[H,I,h]
def ZbU(h:PT X c t):PTs X [c] t:=λpq s Z H Q I hq=>wpAny_tests_one<|h pq s Z H Q I hq
structure CompScope(sc:d6)(N0:List bi)(scope:d6)(N:List bi)(cap:List Nat)(nl:Nat):Prop where
 kind:scope.kind=.function
 nocell:∀y∈scope.names,y.2≠.cell
 names:∀y∈scope.names,y.2=.local->scope.names.lookup y.1=aa .local
 free:∀y∈scope.names,y.2=.free->sc.names.lookup y.1=aa .cell\/sc.names.lookup y.1=aa .free
 apart:∀y∈scope.names,y.2=.free->scope.names.lookup y.1≠aa .local
 len:N.length=nl+cap.length
 cap:∀p∈cap.zipIdx,N[nl+p.2]?=N0[p.1]?/\(N0[p.1]?).map (λx=>ag<|(x,bM)∈scope.names)=aa ak
def CompScope.capt{sc:d6}{N0:List bi}{scope:d6}{N:List bi}{cap:List Nat}{nl:Nat}(h:CompScope sc N0 scope N cap nl)(i j:Nat)(e:cap[i]?=aa j):∃x,N[nl+i]?=aa x/\N0[j]?=aa x/\(x,bM)∈scope.names:=by
 have hm:(j,i)∈cap.zipIdx:=by
  rw[kq];exact e
 obtain⟨h1,h2⟩:=h.cap (j,i) hm;cases q:N0[j]? with
 |none=>rw[q]at h2;cases h2
 |some x=>
  rw[q]at h1 h2
  exact#[x,h1,rfl,T6<|aq h2]
noncomputable def Xn(cap:List Nat)(nl:Nat)(Z:L2.St):L2.St:=aH nl af++cap.map λi=>(Z[i]?).join
section
variable{X:Cx}{pq:List (aE×fD)}{Z:L2.St}{H:Hp}{s:ay}
theorem W9{scope:d6}{env:Env}:∀{names:List (bi×fG)}{x:bi},(names.map λ(n,k)=>if(k == bM&&env.scope.kind == .function&&env.kindOf n == aa .cell)then(n,nC)else(n,k)).lookup x=aa .cell\/
  (names.map λ(n,k)=>if(k == bM&&env.scope.kind == .function&&env.kindOf n == aa .cell)then(n,nC)else(n,k)).lookup x=aa .free->(∀y∈names,y.2≠.cell)->(x,bM)∈names
 |[],x,h,_=>by rcases h with h|h<;>cases h
 |(n,k)::r,x,h,hc=>by
  have ih:=@W9 scope env r x;have hk:=hc (n,k) aj;by_cases e:x=n
  .subst e
   have hk2:k=.free:=by
    rcases h with h|h
    .rw[aY]at h
     by_cases c:(k == bM&&env.scope.kind == .function&&env.kindOf x == aa .cell)=ak
     .have:=(aI _ _).mp c
      exact lQ ((aI _ _).mp this.1).1
     .simp only[T8 c,bV,beq_self_eq_true]at h
      exact T7 (aq h) hk
    .rw[aY]at h
     by_cases c:(k == bM&&env.scope.kind == .function&&env.kindOf x == aa .cell)=ak
     .simp only[T9 c,bV,beq_self_eq_true]at h
      cases h
     .simp only[T8 c,bV,beq_self_eq_true]at h
      exact aq h
   rw[hk2];exact aj
  .have hb:=beq_eq_false_iff_ne.mpr e
   refine ao _<|ih ?_ λy hy=>hc y<|ao _ hy
   rcases h with h|h
   .left
    rw[aY]at h;by_cases c:(k == bM&&env.scope.kind == .function&&env.kindOf n == aa .cell)=ak
    .simp only[T9 c,bV,hb]at h;exact h
    .simp only[T8 c,bV,hb]at h;exact h
   .right
    rw[aY]at h;by_cases c:(k == bM&&env.scope.kind == .function&&env.kindOf n == aa .cell)=ak
    .simp only[T9 c,bV,hb]at h;exact h
    .simp only[T8 c,bV,hb]at h;exact h
theorem Zbi{N:List bi}{scope:d6}{cl:List (bi×aE)}{fp:List aE}{cap:List Nat}{nl:Nat}{h1:cw}{tk:Nat}(I:Inv X pq Z H s)(CS:CompScope X.env.scope X.N scope N cap nl)(hN:X.N.Nodup)
  (c1:∀x c,cl.lookup x=aa c->X.env.cells.lookup x=aa c)(c2:∀x,(x,bM)∈scope.names->∃c,cl.lookup x=aa c)
  (hf:∀b∈fp,Vn X pq H b)(hb:∀b∈fp,∃o,s.heap.get? b=aa o)(hns:∃m,h1.Ns s.heap.objs.size m)(hk:∀b o,s.heap.get? b=aa o->h1.get? b=aa o) :
  Inv (cxC X N scope cl s H fp) [] (Xn cap nl Z) H {s with heap:=h1,toks:=tk}:=by
 have bne:∀b∈fp,b≠s.heap.objs.size:=λb hb' e=>by
  obtain⟨o,ho⟩:=hb b hb';exact T7 (aT ho) (by rw[e];exact bK _)
 refine#[#[I.ok.mod,CS.kind,I.ok.glob,I.ok.blt,aJ _,λx y c h1 h2=>I.ok.inj x y c (c1 x c h1)<|c1 y c h2,λx hx=>c2 x<|W9 (scope:=scope) hx CS.nocell,λx c h=>(by cases h),I.ok.hd,I.ok.frames,.inl rfl,
  λb hb'=>#[bne b hb',λx c e=>(hf b hb').2.2.2.2.1 x c<|c1 x c e],I.bs,bX I.ok.bsz I.sz,λb o e hb'=>?_,λb hb' hm=>?_,I.stack,I.stkFree],
  rfl,I.bare,Un.kept hk,?_,λx c e=>?_,I.hok.fresh<|aJ _,λx c e=>I.freeC x c<|c1 x c e,λp hp=>T7 hp (by simp[cxC]),I.hok.kept hk,?_]
 .rcases(hf b hb').2.2.2.1 with z|z
  .exact I.ok.noex b o e z
  .exact T7 (aT e)<|Nat.not_lt.mpr<|bX I.ok.bsz z
 .rcases aB.mp (I.stkSub b hm)with e|e
  .exact(hf b hb').2.1 e
  .exact(hf b hb').2.2.1 e
 .obtain⟨m1,hm1⟩:=hns
  refine#[m1,hm1,λi x v e1 e2 e3=>?_]
  obtain⟨m,hm,hl⟩:=I.loc;have hi:nl<=i:=by
   by_cases hi:nl<=i
   .exact hi
   .have z:(Xn cap nl Z)[i]?=aa af:=by
     unfold Xn;rw[bR (by simp;lia),cB,T9<|by lia]
    rw[z]at e2;cases e2
  have e2':(cap.map λi=>(Z[i]?).join)[i-nl]?=aa (aa v):=by
   have:=e2;unfold Xn at this
   rwa [bu (by simp;exact hi),cA]at this
  rw[aQ]at e2';cases hj:cap[i-nl]? with
  |none=>rw[hj]at e2';cases e2'
  |some j=>
   rw[hj]at e2';have hv:Z[j]?=aa (aa v):=by
    have:(Z[j]?).join=aa v:=aq e2';cases q:Z[j]? with
    |none=>rw[q]at this;cases this
    |some o=>rw[q]at this;cases o with|none=>cases this|some w=>cases this;rfl
   obtain⟨x',n1,n2,fr⟩:=CS.capt _ _ hj;have ex:x'=x:=by
    have:N[nl+(i-nl)]?=aa x:=by rw[show nl+(i-nl)=i by lia];exact e1
    rw[n1]at this;exact aq this
   subst ex;have kd:=CS.free _ fr rfl;have vis:Vis X.env.scope x':=by
    rcases kd with z|z
    .exact .inr<|.inl z
    .exact .inr<|.inr z
   obtain⟨u,r,lk⟩:=hl j x' v n2 hv vis;refine#[u,r,?_];rcases lk with⟨k,_⟩|⟨k,c,ec,hc⟩
   .have k':X.env.scope.names.lookup x'=aa .local:=k
    rcases kd with z|z<;>(rw[z]at k';cases k')
   .obtain⟨c',ec'⟩:=c2 x' fr
    have ecc:c'=c:=by
     have:=c1 x' c' ec';rw[ec]at this;exact(aq this).symm
    subst ecc;have vis2:=e3;refine .inr #[?_,c',ec',?_]
    .rcases vis2 with z|z|z
     .have z':=z
      exfalso
      have:∀(names:List (bi×fG)),(∀y∈names,y.2=fG.local->y.1≠x')->(names.map λ(n,k)=>if(k == bM&&X.env.scope.kind == .function&&X.env.kindOf n == aa .cell)then(n,nC)else(n,k)).lookup x'≠aa .local:=by
       intro names
       induction names with
       |nil=>intro _ h;cases h
       |cons y r ih=>
        obtain⟨n,k⟩:=y;intro hy h;rw[aY]at h;by_cases e:x'=n
        .subst e
         by_cases c:(k == bM&&X.env.scope.kind == .function&&X.env.kindOf x' == aa .cell)=ak
         .simp only[T9 c,bV,beq_self_eq_true]at h;cases h
         .simp only[T8 c,bV,beq_self_eq_true]at h
          exact hy (x',k) aj (aq h) rfl
        .have hb:=beq_eq_false_iff_ne.mpr e
         refine ih (λy hy'=>hy y<|ao _ hy') ?_
         by_cases c:(k == bM&&X.env.scope.kind == .function&&X.env.kindOf n == aa .cell)=ak
         .simp only[T9 c,bV,hb]at h;exact h
         .simp only[T8 c,bV,hb]at h;exact h
      refine this scope.names (λy hy hl e=>?_) z'
      have l1:=CS.names y hy hl;rw[e]at l1;exact CS.apart (x',.free) fr rfl l1
     .exact .inl z
     .exact .inr z
    .obtain⟨o,ho,hd⟩:=hc
     exact#[o,hk c' o ho,hd]
 .obtain⟨v,o,ho,hd⟩:=I.cell x c (c1 x c e)
  exact#[v,o,hk c o ho,hd]
 .unfold Xn
  show _=N.length;rw[aU,cA,ax,CS.len]
end
abbrev TEm:=L2.St->Hp->(L2.St->Hp->Prop)->Prop
def yj(X:Cx)(act:oh Fin->oh Fin)(te:TEm):Prop:=
 ∀(pq:List (aE×fD))(s:ay)(Z:L2.St)(H:Hp)(Q:L2.St->Hp->Prop)(k:oh Fin)(QF:Fin->ay->Prop)(EE:au->ay->Prop),Inv X pq Z H s->te Z H Q->(∀s' σ' H',Inv X pq σ' H' s'->Q σ' H'->ba (aV X.prog X.w) X.A k QF EE s')->
  ba (aV X.prog X.w) X.A (act k) QF EE s
noncomputable def Qb(ipos:fV)(tg:Expr)(ifs:List Expr)(act:oh Fin->oh Fin)(it:au)(env:Env)(c:Code):oh Fin:=do
 lm ipos
 match <-oP it with
 |none=>cS<|.done .next
 |some v=>
  my tg it v
  assign tg env v
  let mut ok:=ak
  for c in ifs do
   if ok then ok <-isTrue c env (cr c env)
  if ok then act (again c)else again c
def vx(J:It)(g:TG)(tt:TT)(te:TEm)(W:Nat->Nat->L2.St->Hp->Prop)(Q:L2.St->Hp->Prop):Prop:=∀i m σ' H',W i m σ' H'->
  (J.stop i H'/\Q σ' H')\/(J.go i H'/\∀x H'',J.yld i H' x H''->g x σ' H'' λσ2 H2=>tt σ2 H2 λok H3=>if ok=ak then te σ2 H3 λσ3 H4=>∃m',m'<m/\W (i+1) m' σ3 H4 else ∃m',m'<m/\W (i+1) m' σ2 H3)
def Jp{tn:Nat->cw->Prop}{Rr:oV->ay->Prop}{Q:L2.St->Hp->Prop}{W:Nat->Nat->L2.St->Hp->Prop}
  (hc:Y.calm=ak)(hx:∀a b,Y.xe a b->False)(hT:rA e depth (.ref it) acc Y.env=Qb ipos tg ifs act (.ref it) Y.env (.compLoop e depth (.ref it) acc Y.env))(hquiet:(rZ e depth (.ref it) acc Y.env).isFrame=al)
  (hq:(rZ e depth (.ref it) acc Y.env).quiet=ak)(T:Turn Y.prog Y.w Y.K tg J fp it tn)(hg:PG Y tg g)(ht:PTs Y ifs tt)(he:yj Y act te)(stat:∀{H':Hp},(∀b∈fp,H' b=af)->∀b∈fp,Vn Y pq H' b)
  (turn:vx J g tt te W Q)(fin:∀Z H s,Inv Y pq Z H s->Q Z H->Rr (.ok .next) s)
  (I0:Inv Y pq Z H s)(st0:tn 0 s.heap)(fr0:∀b∈fp,H b=af)(w0:W 0 m Z H)(hden:(aV Y.prog Y.w).den (.compLoop e depth (.ref it) acc Y.env)=(rA e depth (.ref it) acc Y.env).onRaise (λx=>do noteFrame x Y.env;theTreesLotGoes x))
  (hund:Y.A.under (.compLoop e depth (.ref it) acc Y.env)=Y.A):eJ (aV Y.prog Y.w) Y.A (.compLoop e depth (.ref it) acc Y.env) Rr s:=by
 refine codeAny_loop hq (λn s'=>∃i σ' H',Inv Y pq σ' H' s'/\tn i s'.heap/\(∀b∈fp,H' b=af)/\W i n σ' H') (λn s5 hI=>?_) m #[0,Z,H,I0,st0,fr0,w0]
 rw[hund,hden,hT];refine wpAny_noted ?_;obtain⟨i,σ5,H5,I5,st5,fr5,w5⟩:=hI;refine ae<|fw<|ae ?_;rcases turn i n σ5 H5 w5 with⟨stop,qn⟩|⟨go,step⟩
 .refine cR (T.done Y rfl rfl rfl hc i pq s5 σ5 H5 (λ_ _=>False) I5 (stat fr5) st5 stop) (λr s6 #[hr,I6]=>?_) λ_ _ h'=>h'.elim
  subst hr;exact aC<|fin σ5 H5 s6 I6 qn
 .refine cR (T.item Y rfl rfl rfl hc i pq s5 σ5 H5 (λ_ _=>False) I5 (stat fr5) st5 go) (λr s6 #[u,hr,h6]=>?_) λ_ _ h'=>h'.elim
  subst hr;refine ae<|cR h6 (λ_ s7 #[x,H7,I7,r7,y7,st7,fr7]=>?_) λ_ _ h'=>h'.elim
  have I7':=I7.pinned (stat fr7)<|T.obj _ _ st7;have back:∀{σ8:L2.St}{H8:Hp}{s8:ay}{m':Nat},Inv Y (pq++U9 fp s7.heap) σ8 H8 s8->m'<n->W (i+1) m' σ8 H8->∃m,m<n/\∃i σ' H',Inv Y pq σ' H' s8/\tn i s8.heap/\(∀b∈fp,H' b=af)/\W i m σ' H':=λ{σ8 H8 s8 m'} I8 hm w8=>by
   refine#[m',hm,i+1,σ8,H8,I8.unpinned,T.keep _ _ _ st7 λb hb' o e=>(I8.pin (b,o)<|bv _<|bv _<|XJ hb' e).1,λb hb'=>?_,w8]
   obtain⟨o,e,d⟩:=T.obj _ _ st7 b hb';exact(I8.pin (b,o)<|bv _<|bv _<|XJ hb' e).2.1
  refine ae<|cR (hg _ s7 σ5 H7 x u _ I7' r7<|step x H7 y7) (λ_ s8 #[σ8,H8,I8,q8]=>?_) λ_ _ h'=>(hx _ _ h').elim
  refine ae<|cR (ht _ s8 σ8 H8 _ I8 q8) (λok s9 #[H9,I9,q9]=>?_) λ_ _ h'=>(hx _ _ h').elim
  cases ok with
  |false=>
   rw[T8 aN]at q9;obtain⟨m',hm,w9⟩:=q9;exact aC #[rfl,back I9 hm w9]
  |true=>
   rw[T9 rfl]at q9;exact he _ s9 σ8 H9 _ _ _ _ I9 q9<|by rintro s10 σ10 H10 I10 ⟨m',hm,w10⟩;exact aC #[rfl,back I10 hm w10]
def UJ{Y:Cx}{elt:Expr}{te:TE}{D:aE}(hx:∀a b,Y.xe a b->False)(he:PE Y elt te):yj Y (λk=>(do let _ <-call (.builtin "list.append") [.ref D,<-cr elt Y.env]:oh Unit) >>= λ_=>k) (λZ H Q=>te Z H λy H4=>∃ys,H4 D=aa (.lst ys)/\ys.length<bn/\Q Z (upd H4 D<|.lst<|ys++[y])):=by
 intro pq s Z H Q k QF EE I h hk;refine ae ?_;refine ae<|cR (he pq s Z H _ I h) (λxv s10 #[y,H10,I10,r10,ys,hDy,hz,q]=>?_) λ_ _ h'=>(hx _ _ h').elim
 refine ae<|cR (VI pq s10 Z H10 (.ref D) [y] (.ref D) [xv] (λv H'=>v=.non/\H'=upd H10 D (.lst<|ys++[y])) I10 rfl (.cons r10 .nil) #[D,ys,y,rfl,rfl,hDy,hz,rfl,rfl]) (λ_ s11 #[v11,H11,I11,_,_,eH]=>?_) λ_ _ h'=>(hx _ _ h').elim
 subst eH;exact aC<|hk _ _ _ I11 q
def xQ(wi:TI)(g:TG)(tt:TT)(te:aE->TEm)(cap:List Nat)(nl:Nat):TE:=λZ H Q=>wi Z H λJ H1=>∀D,H1 D=af->∃W:Nat->Nat->L2.St->Hp->Prop,(∃m,W 0 m (Xn cap nl Z)<|upd H1 D<|.lst [])/\vx J g tt (te D) W λ_ H'=>Q (.ref D) H'
def ji(wi:TI)(g:TG)(tt:TT)(te:TE)(cap:List Nat)(nl:Nat):TE:=λZ H Q=>wi Z H λJ H1=>∀D,H1 D=af->∃W:Nat->Nat->L2.St->Hp->Prop,(∃m,W 0 m (Xn cap nl Z)<|upd H1 D<|.lst [])/\∀i m σ' H',W i m σ' H'->
  (J.stop i H'/\Q (.ref D) H')\/(J.go i H'/\∀x H'',J.yld i H' x H''->g x σ' H'' λσ2 H2=>tt σ2 H2 λok H3=>if ok=ak then te σ2 H3 λy H4=>∃ys,H4 D=aa (.lst ys)/\ys.length<bn/\∃m',m'<m/\W (i+1) m' σ2 (upd H4 D<|.lst<|ys++[y])else ∃m',m'<m/\W (i+1) m' σ2 H3)
structure Gone(X:Cx)(pq:List (aE×fD))(H:Hp)(s:ay)(C:aE):Prop where
 free:H C=af
 ns:∃m,s.heap.Ns C m
 loc:C≠X.env.locals
 big:X.s₀.heap.objs.size<=C
 cel:∀x c,X.env.cells.lookup x=aa c->c≠C
 pin:∀p∈X.pn++pq,p.1≠C
def VU{tg iter elt:Expr}{ifs:List Expr}{scope:d6}{pos fpos:fV}{N:List bi}{cap:List Nat}{nl:Nat}{wi:TI}{g:TG}{tt:TT}{te:aE->TEm}{act:au->Env->oh Fin->oh Fin}{rest:List Comprehension}{pq:List (aE×fD)}{s:ay}{Z:L2.St}{H:Hp}{Q:VK}{use:Option (au->oh Unit)}{QQ:au->ay->Prop}(hc:X.calm=ak)(hN:X.N.Nodup)(CS:CompScope X.env.scope X.N scope N cap nl)(hi:PI X tg iter wi)
  (hT:∀it acc env,rA (.ListComp elt (#[tg,iter,ifs,0]::rest) scope pos) 0 it acc env=Qb iter.pos tg ifs (act acc env) it env (.compLoop (.ListComp elt (#[tg,iter,ifs,0]::rest) scope pos) 0 it acc env))
  (hb:∀cl s H fp,PG (cxC X N scope cl s H fp) tg g/\PTs (cxC X N scope cl s H fp) ifs tt/\∀D,yj (cxC X N scope cl s H fp) (act (.ref D) (cxC X N scope cl s H fp).env)<|te D)
  (hs:∀x,bY iter X.env x=cS x)(I:Inv X pq Z H s)(h:xQ wi g tt te cap nl Z H Q)
  (fin:∀D C H5 s6,Inv X pq Z H5 s6->Gone X pq H5 s6 C->Q (.ref D) H5->compPost (aV X.prog X.w) X.A X.xe use QQ (.ref D) C (.ok .next) s6) :
  ba (aV X.prog X.w) X.A (comprehension (.ListComp elt (#[tg,iter,ifs,0]::rest) scope pos) scope X.env fpos (newList []) al (cr iter X.env) use) QQ X.xe s:=by
 obtain⟨cl,hcl,c1,c2⟩:=WQ λy hy hf=>I.ok.has y.1<|CS.free y hy hf
 refine wpAny_comprehension_free rfl hs hcl CS.kind CS.names ?_;refine thn (hi pq s Z H _ I h) λv s1 h1=>thn h1 λitv s2 h2=>?_
 obtain⟨it,fp,tn,J,H2,rfl,I2,T,st2,f2,q2⟩:=h2;obtain⟨W,⟨m0,w0⟩,turn⟩:=q2 s2.heap.objs.size<|I2.hok.fresh<|aJ _;refine cu<|mT CS.nocell (by intro y hy;simp at hy) (λh₁ hns₁ hsb₁=>?_) CS.kind
 dsimp only at hns₁ hsb₁ ⊢
 have I3:Inv X pq Z (upd H2 s2.heap.objs.size<|.lst []) {s2 with heap:=s2.heap.push {cls:=.type "list",dict:=af,data:=.seq ([]:List au).toArray},toks:=s2.toks}:=
  I2.laid (λb u e=>aw _ e) (aJ _) #[d4 _,[],0,.nil,aO _ rfl]
 generalize hD:s2.heap.objs.size=D at I3 w0 turn hns₁ hsb₁ ⊢;generalize hs3:({s2 with heap:=s2.heap.push {cls:=.type "list",dict:=af,data:=.seq ([]:List au).toArray},toks:=s2.toks}:ay)=s3 at I3
 have hh3:s2.heap.push {cls:=.type "list",dict:=af,data:=.seq ([]:List au).toArray}=s3.heap:=by rw[<-hs3]
 rw[hh3]at hns₁ hsb₁;have old:∀b o,s2.heap.get? b=aa o->s3.heap.get? b=aa o:=λb o e=>by rw[<-hh3];exact aw _ e
 have neD:∀b∈fp,b≠D:=λb hb' e=>by
  obtain⟨o,ho,_⟩:=T.obj _ _ st2 b hb';exact T7 (aT ho) (by rw[e,<-hD];exact bK _)
 have f3:∀b∈fp,Vn X pq (upd H2 D<|.lst []) b:=λb hb'=>#[by rw[Zj<|neD b hb'];exact(f2 b hb').1,(f2 b hb').2]
 have keep4:=λb o e=>hsb₁.extBut b o (bp<|aT e)<|aw _ e
 have I4:=Zbi (tk:=s2.toks+([]:List (bi×au)).length) I3 CS hN c1 c2 f3 (λb hb'=>let #[o,ho,_]:=T.obj _ _ st2 b hb';#[o,old b o ho]) #[_,hns₁] keep4
 have e4:({s3 with heap:=h₁,toks:=s2.toks+([]:List (bi×au)).length}:ay)={s2 with heap:=h₁,toks:=s2.toks+([]:List (bi×au)).length}:=by rw[<-hs3]
 rw[e4]at I4;obtain⟨hg,ht,he⟩:=hb cl s3 (upd H2 D<|.lst []) fp;generalize hY:cxC X N scope cl s3 (upd H2 D<|.lst []) fp=Y at I4 hg ht he;have yP:Y.prog=X.prog:=by rw[<-hY];rfl
 have stat:∀{H':Hp},(∀b∈fp,H' b=af)->∀b∈fp,Vn Y [] H' b:=λhn b hb'=>by
  subst hY;refine#[hn b hb',λe=>?_,λhm=>?_,.inl hb',λx c e=>(f3 b hb').2.2.2.2.1 x c<|c1 x c e,λp hp=>T7 hp<|by simp[cxC]]
  .obtain⟨o,ho,_⟩:=T.obj _ _ st2 b hb'
   have:=aT<|old b o ho;rw[e]at this;exact T7 this<|bK _
  .rcases aB.mp (I3.stkSub b hm)with e|e
   .exact(f3 b hb').2.1 e
   .exact(f3 b hb').2.2.1 e
 subst hY
 let Y:=cxC X N scope cl s3 (upd H2 D<|.lst []) fp
 have st4:tn 0 h₁:=T.keep _ _ _ st2 λb hb' o e=>keep4 b o<|old b o e
 have fr4:=λb hb'=>(f3 b hb').1
 have loop:eJ (aV X.prog X.w) X.A (.compLoop (.ListComp elt (#[tg,iter,ifs,0]::rest) scope pos) 0 (.ref it) (.ref D)<|compEnvC scope cl s3.heap.objs.size X.env)
   (compPost (aV X.prog X.w) X.A X.xe use QQ (.ref D) s3.heap.objs.size) {s2 with heap:=h₁,toks:=s2.toks+([]:List (bi×au)).length}:=by
  refine Jp (Y:=cxC X N scope cl s3 (upd H2 D<|.lst []) fp) (W:=W) hc (λ_ _ z=>z) (hT _ _ _) rfl rfl T hg ht (he D) stat turn (λσ5 H5 s6 I6 qn=>?_) I4 st4 fr4 w0 rfl rfl
  obtain⟨m6,hn6,_⟩:=I6.loc;have u:=I6.base;have IX:=Inv.call' (s':=s6) (ch:=fp) I3 I6.os #[u.keep,u.slot,u.free,u.there,u.tups,u.frzs,u.tbls] I6.hok I6.bare λb hb'=>#[(f3 b hb').2.2.2.1,(f3 b hb').2.1,(f3 b hb').2.2.2.2.1,λp hp e=>(f3 b hb').2.2.2.2.2 p hp e]
  refine fin D s3.heap.objs.size H5 s6 IX #[I6.free,#[m6,hn6],Ne.symm<|bp I3.lt,I3.sz,λx c e z=>?_,λp hp z=>?_] qn
  .obtain⟨v,q⟩:=I3.cell x c e
   exact T7 q.lt (by rw[z];exact bK _)
  .exact T7 (aT (I3.pin p hp).1) (by rw[z];exact bK _)
 subst hs3;exact codeAny_compStart_list loop<|T.self _ 0 _ _ _ st4 loop
def Gone.inv(G:Gone X pq H s C)(I:Inv X pq Z H s)(hsb:gy C s.heap h'):Inv X pq Z H {s with heap:=h' }:=
 I.turned (t':=s.toks) (λb o hb e=>(hsb.2 b hb).trans e) G.free G.loc (.inr G.big) G.cel G.pin
def Ze7(te:TE)(D:aE):TEm:=λZ H Q=>te Z H λy H4=>∃ys,H4 D=aa (.lst ys)/\ys.length<bn/\Q Z (upd H4 D<|.lst<|ys++[y])
def ZcE(hc:X.calm=ak)(hN:X.N.Nodup)(CS:CompScope X.env.scope X.N scope N cap nl)(hi:PI X tg iter wi)
  (hb:∀cl s H fp,PG (cxC X N scope cl s H fp) tg g/\PTs (cxC X N scope cl s H fp) ifs tt/\PE (cxC X N scope cl s H fp) elt te)
  (hs:∀x,bY iter X.env x=cS x:=by intro _;rfl):PE X (.ListComp elt [#[tg,iter,ifs,0]] scope pos) (ji wi g tt te cap nl):=by
 intro pq s Z H Q I h;rw[eval_ListComp];refine VU (act:=λacc env k=>(do let _ <-call (.builtin "list.append") [acc,<-cr elt env]:oh Unit) >>= λ_=>k) hc hN CS hi (λ_ _ _=>rfl) (λcl s H fp=>#[(hb cl s H fp).1,(hb cl s H fp).2.1,λD=>UJ (λ_ _ z=>z) (hb cl s H fp).2.2]) hs I h λD C H5 s6 I6 G q=>?_
 obtain⟨m6,hn6⟩:=G.ns;exact#[m6,hn6,λh' hsb=>#[.ref D,H5,G.inv I6 hsb,rfl,q]]
def jW(hc:X.calm=ak)(hN:X.N.Nodup)(CS:CompScope X.env.scope X.N scope N cap nl)(hi:PI X tg iter wi)
  (hb:∀cl s H fp,PG (cxC X N scope cl s H fp) tg g/\PTs (cxC X N scope cl s H fp) ifs tt/\PE (cxC X N scope cl s H fp) elt te)
  (hsw:eQ (.ListComp elt [#[tg,iter,ifs,0]] scope pos) (aa<|.Name y py) spos.line X.env=cS ak)
  (hy:X.N[i]?=aa y)(hx:L2.Loc X.env.scope y)(hf:X.fn y=ak\/X.env.scope.names.lookup y=aa .local)
  (hs:∀x,bY iter X.env x=cS x:=by intro _;rfl):PS X (.Assign [.Name y py] (.ListComp elt [#[tg,iter,ifs,0]] scope pos) spos) (λD Z H=>ji wi g tt te cap nl Z H λv H1=>D.nx (Z.set i<|aa v) H1):=by
 intro pq s Z H D I h;rw[mJ _ _ _ _ hsw];refine ae<|fw<|ae ?_;refine ae<|cR (VU (Q:=λv H1=>D.nx (Z.set i<|aa v) H1) (act:=λacc env k=>(do let _ <-call (.builtin "list.append") [acc,<-cr elt env]:oh Unit) >>= λ_=>k) hc hN CS hi (λ_ _ _=>rfl) (λcl s H fp=>#[(hb cl s H fp).1,(hb cl s H fp).2.1,λD=>UJ (λ_ _ z=>z) (hb cl s H fp).2.2]) hs I h λA C H5 s6 I6 G q=>?_) (λ_ s' hq=>aC<|aC hq) λ_ _ e=>e
 refine lq<|VC (v:=V.ref A) I6 hN hy hx rfl (λs7 I7 #[a,hsb,ha]=>?_) hf
 have hCa:C≠a:=by
  rcases ha with e|e
  .rw[e];exact G.loc
  .exact Ne.symm<|G.cel y a e
 obtain⟨m6,hn6⟩:=G.ns;have G7:Gone X pq H5 s7 C:=#[G.free,#[m6,hn6.sameBut hsb hCa],G.loc,G.big,G.cel,G.pin];exact#[m6,hn6.sameBut hsb hCa,λh' hs'=>#[Z.set i<|aa<|.ref A,H5,G7.inv I7 hs',q]]
def x8(wi:TI)(g:TG)(tt:TT)(te:TEm):TEm:=λZ H Q=>wi Z H λJ H1=>∃W:Nat->Nat->L2.St->Hp->Prop,(∃m,W 0 m Z H1)/\vx J g tt te W Q
def xX(hc:Y.calm=ak)(hx:∀a b,Y.xe a b->False)(hi:PI Y t2 i2 wi)(hg:PG Y t2 g)(ht:PTs Y f2 tt)(he:yj Y act te)
  (hs:∀x,bY i2 Y.env x=cS x)
  (hstart:∀(it:au)(R:oV->ay->Prop)(s:ay),eJ (aV Y.prog Y.w) Y.A (.compLoop (.ListComp elt gens scope pos) 1 it acc Y.env) R s->ba (aV Y.prog Y.w) Y.A (mQ it) (λit' s'=>eJ (aV Y.prog Y.w) Y.A (.compLoop (.ListComp elt gens scope pos) 1 it' acc Y.env) R s') (notedBy (aV Y.prog Y.w) Y.A Y.env λx s'=>R (.error x) s') s->eJ (aV Y.prog Y.w) Y.A (.compStart (.ListComp elt gens scope pos) 1 it acc Y.env) R s)
  (hT:∀it,rA (.ListComp elt gens scope pos) 1 it acc Y.env=Qb i2.pos t2 f2 act it Y.env (.compLoop (.ListComp elt gens scope pos) 1 it acc Y.env)) :
  yj Y (λk=>do let x <-cr i2 Y.env;lm i2.pos;let x <-bY i2 Y.env x;let _ <-runOwn (.compStart (.ListComp elt gens scope pos) 1 (<-i5 [x] (mQ x)) acc Y.env) Y.env;k) (x8 wi g tt te):=by
 intro pq s Z H Q k QF EE I h hk;refine ae<|cR (hi pq s Z H _ I h) (λv s1 h1=>ae<|fw<|ae<|dO (hs v)<|ae<|cD<|cR h1 (λitv s2 h2=>?_) λ_ _ z=>(hx _ _ z).elim) λ_ _ z=>(hx _ _ z).elim
 obtain⟨it,fp,tn,J,H2,rfl,I2,T,st2,f2',W,⟨m0,w0⟩,turn⟩:=h2;have stat:∀{H':Hp},(∀b∈fp,H' b=af)->∀b∈fp,Vn Y pq H' b:=λhn b hb=>#[hn b hb,(f2' b hb).2]
 have loop:eJ (aV Y.prog Y.w) Y.A (.compLoop (.ListComp elt gens scope pos) 1 (.ref it) acc Y.env) (λr s'=>match r with|.ok f=>ba (aV Y.prog Y.w) Y.A k QF EE s'|.error x=>cameBackBy (aV Y.prog Y.w) Y.A Y.env EE x s') s2:=
  Jp hc hx (hT _) rfl rfl T hg ht he stat turn (λσ5 H5 s6 I6 qn=>hk s6 σ5 H5 I6 qn) I2 st2 (λb hb=>(f2' b hb).1) w0 rfl rfl
 exact ae<|wpAny_runOwn<|hstart _ _ _ loop<|T.self _ 0 _ _ _ st2 loop
def ZeM{R:oV->ay->Prop}
  (h0:eJ (aV prog w) A (.compLoop (.ListComp elt [#[t1,i1,f1,0],#[t2,i2,f2,0]] scope pos) 1 it acc env) R s)
  (h:ba (aV prog w) A (mQ it) (λit' s'=>eJ (aV prog w) A (.compLoop (.ListComp elt [#[t1,i1,f1,0],#[t2,i2,f2,0]] scope pos) 1 it' acc env) R s') (notedBy (aV prog w) A env λx s'=>R (.error x) s') s) :
  eJ (aV prog w) A (.compStart (.ListComp elt [#[t1,i1,f1,0],#[t2,i2,f2,0]] scope pos) 1 it acc env) R s:=by
 refine codeAny_of_tree ?_;show ba _ _ ((compStart (.ListComp elt [#[t1,i1,f1,0],#[t2,i2,f2,0]] scope pos) 1 it acc env).onRaise λx=>do noteFrame x env;lm theWindowsPlace) _ _ s
 refine wpAny_notedAt ?_;refine ae<|wpAny_askSetting<|wpAny_ite ?_;split
 .first|exact ae<|aC<|aC<|bg rfl h0|exact aC<|bg rfl h0
 .first|exact ae<|eD<|ae<|fw<|ae<|cR h (λit' s' h'=>aC<|bg rfl h') λ_ _ x=>x|(refine ae<|eD ?_;exact ae<|fw<|ae<|cR h (λit' s' h'=>aC<|bg rfl h') λ_ _ x=>x)
def jb(hc:X.calm=ak)(hN:X.N.Nodup)(CS:CompScope X.env.scope X.N scope N cap nl)(hi:PI X t1 i1 wi)
  (hb:∀cl s H fp,PG (cxC X N scope cl s H fp) t1 g1/\PTs (cxC X N scope cl s H fp) f1 tt1/\PI (cxC X N scope cl s H fp) t2 i2 wj/\PG (cxC X N scope cl s H fp) t2 g2/\PTs (cxC X N scope cl s H fp) f2 tt2/\PE (cxC X N scope cl s H fp) elt te)
  (hsw:eQ (.ListComp elt [#[t1,i1,f1,0],#[t2,i2,f2,0]] scope pos) (aa<|.Name y py) spos.line X.env=cS ak)
  (hy:X.N[i]?=aa y)(hx:L2.Loc X.env.scope y)(hf:X.fn y=ak\/X.env.scope.names.lookup y=aa .local)
  (hs:∀x,bY i1 X.env x=cS x:=by intro _;rfl)(hs2:∀env x,bY i2 env x=cS x:=by intro _ _;rfl) :
  PS X (.Assign [.Name y py] (.ListComp elt [#[t1,i1,f1,0],#[t2,i2,f2,0]] scope pos) spos) (λD Z H=>xQ wi g1 tt1 (λD=>x8 wj g2 tt2<|Ze7 te D) cap nl Z H λv H1=>D.nx (Z.set i<|aa v) H1):=by
 intro pq s Z H D I h;rw[mJ _ _ _ _ hsw];refine ae<|fw<|ae ?_;refine ae<|cR (VU (act:=λacc env k=>do let x <-cr i2 env;lm i2.pos;let x <-bY i2 env x;let _ <-runOwn (.compStart (.ListComp elt [#[t1,i1,f1,0],#[t2,i2,f2,0]] scope pos) 1 (<-i5 [x] (mQ x)) acc env) env;k) hc hN CS hi (λ_ _ _=>rfl) (λcl s H fp=>?_) hs I h λA C H5 s6 I6 G q=>?_) (λ_ s' hq=>aC<|aC hq) λ_ _ e=>e
 .obtain⟨a1,a2,a3,a4,a5,a6⟩:=hb cl s H fp
  exact#[a1,a2,λD=>xX hc (λ_ _ z=>z) a3 a4 a5 (UJ (λ_ _ z=>z) a6) (λx=>hs2 _ x) (λit R s k1 k2=>ZeM k1 k2) λit=>rfl]
 refine lq<|VC (v:=V.ref A) I6 hN hy hx rfl (λs7 I7 #[a,hsb,ha]=>?_) hf
 have hCa:C≠a:=by
  rcases ha with e|e
  .rw[e];exact G.loc
  .exact Ne.symm<|G.cel y a e
 obtain⟨m6,hn6⟩:=G.ns;have G7:Gone X pq H5 s7 C:=#[G.free,#[m6,hn6.sameBut hsb hCa],G.loc,G.big,G.cel,G.pin];exact#[m6,hn6.sameBut hsb hCa,λh' hs'=>#[Z.set i<|aa<|.ref A,H5,G7.inv I7 hs',q]]
section
variable{X:Cx}{xw:Nat->Hp->Prop}{C:Calls}{e a b c tg it:Expr}{i j k:E}{pos p p' p2:fV}
def CTs(X:Cx)(xw:Nat->Hp->Prop)(C:Calls)(ifs:List Expr)(is:List E):Prop:=PTs X ifs<|tB3 X xw<|Pv.pvt C is
def PTs.imp{X:Cx}{e:List Expr}{t t':TT}(h:PTs X e t)(k:∀Z H Q,t' Z H Q->t Z H Q):PTs X e t':=λpq s Z H Q I q=>h pq s Z H Q I<|k Z H Q q
def GI:CTs X xw C [] []:=PTs.imp Zdn<|by rintro Z H Q ⟨U,l,S,st,lr,h⟩;exact End.ok (h) st rfl
def Zcv(Z:Lc)(S:Zs):Pv.pvt C [i] Z S=Pv.Yk C i Z S:=by
 show((Pv.pv C i Z S).bind λx S=>(Pv.po (Pv.Zq x) S).bind λb S=>if b then Pv.pvt C [] Z S else .ok al S)=(Pv.pv C i Z S).bind λx S=>Pv.po (Pv.Zq x) S
 congr 1
 funext x S
 cases Pv.Zq x with|none=>rfl|some b=>cases b<;>rfl
def zi(h:CT X xw C c i):CTs X xw C [c] [i]:=PTs.imp (ZbU h)<|by rintro Z H Q ⟨U,l,S,st,lr,h⟩;exact #[U,l,S,st,lr,by rw[<-Zcv];exact h]
def LocR.caught(lr:LocR U H l Z)(cap:List Nat)(nl:Nat):LocR U H (Pv.Ye cap nl l) (Xn cap nl Z):=by
 refine#[by unfold Pv.Ye Xn;simp,λn d e=>?_]
 unfold Pv.Ye at e;by_cases hn:n<nl
 .rw[bR (by simp;exact hn),cB,T9 hn]at e
  cases e
 .rw[bu (by simp;omega),cA,aQ]at e
  unfold Xn;rw[bu (by simp;omega),cA,aQ]
  cases q:cap[n-nl]? with
  |none=>rw[q]at e;cases e
  |some m=>
   rw[q]at e;have e':(l[m]?).join=aa d:=aq e;have:l[m]?=aa (aa d):=by
    cases z:l[m]? with
    |none=>rw[z]at e';cases e'
    |some o=>rw[z]at e';cases o with|none=>cases e'|some w=>cases e';rfl
   obtain⟨v,hv,r⟩:=lr.val m d this;exact#[v,by show aa ((Z[m]?).join)=_;rw[hv];rfl,r]
noncomputable def Mx.at(U:Mx)(A:aE):Mx:=#[U.K,U.n0,λa=>U.X a\/a=A,λa h=>.inl<|U.xz a h]
def XH(U:Mx)(A:aE)(H H':Hp):Prop:=∀a o,a≠A->H a=aa o->H' a=aa o\/(U.n0=aa a/\∃xs,o=.lst xs)\/((∃ps,o=.tbl ps)/\∃ps,H' a=aa (.tbl ps))
def XH.trans(f:XH U A H H1)(g:XH U A H1 H2):XH U A H H2:=λa o n h=>(f a o n h).elim (g a o n) λz=>z.elim (λz=>.inr<|.inl z)<|by
 rintro ⟨e,ps,h⟩;rcases g a _ n h with q|⟨_,xs,q⟩|⟨_,q⟩
 .exact .inr<|.inr #[e,ps,q]
 .cases q
 .exact .inr<|.inr #[e,q]
def XH.of(f:Fut (U.at A) H ρ' H1):XH U A H H1:=λa o _ h=>f.keep a o h
structure CI(K:am)(U:Mx)(A:aE)(acc:List D)(l:Lc)(Z:L2.St)(H:Hp)(S:Zs):Prop where
 st:St3 K (U.at A) S H
 lr:LocR (U.at A) H l Z
 ac:∃us,H A=aa (.lst us)/\Rq (U.at A) H acc us
section
variable{K:am}{U:Mx}{A:aE}{acc:List D}{l l':Lc}{Z:L2.St}{H H':Hp}{S S':Zs}
def XH.lat(f:XH U A H H')(ha:H A=aa (.lst us)):Lat (U.at A) H (U.at A) H':=#[rfl,rfl,λa o h x n=>by
 by_cases c:a=A
 .subst c;rw[ha]at h;cases h;exact T7 (.inr rfl)<|x us rfl
 .rcases f a o c h with z|⟨z,xs,e⟩|⟨⟨ps,e⟩,_⟩
  .exact z
  .exact T7 (.inl<|U.xz a z)<|x xs e
  .exact T7 e<|n ps,λ_ _ x=>x]
theorem CI.mono(h:CI K U A acc l Z H S)(na:U.n0≠aa A)(f:Fut (U.at A) H ρ' H')(st:St3 K (U.at A) S' H'):CI K U A acc l Z H' S':=by
 obtain⟨us,e,r⟩:=h.ac;cases f.eq;exact#[st,h.lr.mono f,us,(f.keep A _ e).elim id λz=>z.elim (λz=>T7 z.1 na)<|by rintro ⟨⟨_,z⟩,_⟩;exact (by cases z),r.mono f]
def ZeW{Q:L2.St->Hp->Prop}(lr:LocR U H l Z)(r:Rep U H d v)(e:Pv.Zo t d l=aa l')(q:∀σ',LocR U H l' σ'->Q σ' H):tGU K t v Z H Q:=by
 have fill:∀{t:List Nat}{vs:List D}{us:List V}{l l':Lc}{Z:L2.St},LocR U H l Z->Rq U H vs us->Pv.Xo t vs l=aa l'->us.length=t.length/\LocR U H l' (UK t us Z):=λ{t}=>by
  induction t with
  |nil=>intro vs us l l' Z h r e;cases vs with|nil=>rw[r];cases e;exact#[rfl,h]|cons _ _=>cases e
  |cons i t ih=>intro vs us l l' Z h r e;cases vs with
   |nil=>cases e
   |cons v vs=>
    obtain⟨d,ds,rfl,a,b⟩:=r;obtain⟨z,q⟩:=ih (h.set i a) b e;exact#[by rw[aG,aG,z],q]
 have gen:∀t:List Nat,(match Pv.ZbG d with
   |some xs=>Pv.Xo t xs l
   |none=>af)=aa l'->∃a xs,v=.ref a/\(SqT K H a xs\/H a=aa (.lst xs))/\xs.length=t.length/\Q (UK t xs Z) H:=by
  intro t e;cases d with|tup vs=>obtain⟨p,ds,rfl,hp,rs⟩:=r.tup';obtain⟨z,y⟩:=fill lr rs e;exact#[p,ds,rfl,.inl<|SqT.of hp,z,q _ y]|lst vs=>obtain⟨p,ds,rfl,hp,_,rs⟩:=r.lst';obtain⟨z,y⟩:=fill lr rs e;exact#[p,ds,rfl,.inr hp,z,q _ y]|_=>cases e
 match t,e with
 |[i],e=>cases e;exact q _<|lr.set i r
 |[],e=>exact gen [] e
 |i::j::t,e=>exact gen (i::j::t) e
theorem JH:∀{t:List Nat}{vs:List D}{l l':Lc},Pv.Xo t vs l=aa l'->l'.length=l.length/\∀j,j∉t->l'[j]?=l[j]?
 |[],[],l,l',h=>by cases h;exact#[rfl,λ_ _=>rfl]
 |[],_::_,_,_,h=>by cases h
 |_::_,[],_,_,h=>by cases h
 |i::t,v::vs,l,l',h=>by
  obtain⟨a,b⟩:=JH (t:=t) h;exact#[by rw[a,bE],λj hj=>by rw[b j λz=>hj<|ao _ z,aZ λz=>hj<|by rw[z];exact aj ..]]
def V4(e:Pv.Zo t v l=aa l'):l'.length=l.length/\∀j,j∉t->l'[j]?=l[j]?:=by
 have gen:∀t:List Nat,(match Pv.ZbG v with
   |some xs=>Pv.Xo t xs l
   |none=>af)=aa l'->l'.length=l.length/\∀j,j∉t->l'[j]?=l[j]?:=λt e=>by
  cases q:Pv.ZbG v with|none=>rw[q]at e;cases e|some xs=>rw[q]at e;exact JH e
 match t,e with
 |[i],e=>cases e;exact#[bE ..,λj hj=>aZ λz=>hj<|by rw[z];exact aj ..]
 |[],e=>exact gen [] e
 |i::j::t,e=>exact gen (i::j::t) e
def LocR.back(e:Pv.Zo t v l=aa l')(hn:∀i∈t,∀d,l[i]?≠aa (aa d))(lr:LocR U H l' Z):LocR U H l Z:=by
 obtain⟨a,b⟩:=V4 e;exact#[by rw[<-a];exact lr.len,λi d q=>lr.val i d<|by rw[b i λz=>hn i z d q];exact q]
end
def ZdH(C:Calls)(t:List Nat)(is:List E)(G:Lc->Zs->R (List D))(l:Lc)(x:D)(S:Zs):R (List D):=(Pv.po (Pv.Zo t x l) S).bind λl S=>(Pv.pvt C is l S).bind λb S=>if b then G l S else .ok [] S
def Uw{B β:Type}{r:R B}{f:B->Zs->R β}{b:β}{S:Zs}(h:r.bind f=.ok b S):∃a S1,r=.ok a S1/\f a S1=.ok b S:=by
 cases r with|ok a S1=>exact#[a,S1,rfl,h]|ex _ _=>cases h|no=>cases h
def qB(h:Pv.mapP f (x::w) S=.ok rs S2):∃y S1 zs,f x S=.ok y S1/\Pv.mapP f w S1=.ok zs S2/\rs=y++zs:=by
 rw[Pv.mapP]at h;split at h
 .split at h
  .cases h;exact#[_,_,_,‹_›,‹_›,rfl]
  .cases h
 .cases h
def Zgd(K:am)(U:Mx)(A:aE)(P:Lc->Prop)(te:TEm)(G:Lc->Zs->R (List D)):Prop:=∀acc l Z H S ys S2 QQ,P l->CI K U A acc l Z H S->G l S=.ok ys S2->(acc++ys).length<=Ev.lim->(∀σ3 H3,XH U A H H3->CI K U A (acc++ys) l σ3 H3 S2->QQ σ3 H3)->te Z H QQ
def Qu{U ρw:Mx}{A:aE}{Hw:Hp}{w:List D}{J:It}(r:WRel X.K ρw Hw w J)(na:U.n0≠aa A){t:List Nat}{is:List E}{te:TEm}{G:Lc->Zs->R (List D)}{P:Lc->Prop}(em:Zgd X.K U A P te G){l:Lc}(hn:∀i∈t,∀d,l[i]?≠aa (aa d))(hP:∀x l2,Pv.Zo t x l=aa l2->P l2){acc ys:List D}{Z:L2.St}{H:Hp}{S S2:Zs}{QQ:L2.St->Hp->Prop}
  (hl:∀H',XH U A H H'->Lat ρw Hw (U.at A) H')(c:CI X.K U A acc l Z H S)(h:Pv.mapP (ZdH C t is G l) w S=.ok ys S2)(hz:(acc++ys).length<=Ev.lim)(k:∀σ3 H3,XH U A H H3->CI X.K U A (acc++ys) l σ3 H3 S2->QQ σ3 H3) :
  ∃W:Nat->Nat->L2.St->Hp->Prop,(∃m,W 0 m Z H)/\vx J (tGU X.K t) (tB3 X nx<|Pv.pvt C is) te W QQ:=by
 refine#[λn m σ' H'=>m=w.length-n/\n<=w.length/\XH U A H H'/\∃ac rs S',ac++rs=acc++ys/\Pv.mapP (ZdH C t is G l) (w.drop n) S'=.ok rs S2/\CI X.K U A ac l σ' H' S',#[w.length,rfl,d4 _,λ_ _ _ h=>.inl h,acc,ys,S,rfl,h,c],?_]
 rintro n m σ' H' ⟨rfl,hn',ff,ac,rs,S',ea,e',c'⟩
 have lat:=hl H' ff;by_cases hlt:n<w.length
 .right
  rw[cE hlt]at e';obtain⟨y1,S1,r1,q1,q2,rfl⟩:=qB e';obtain⟨go,yl⟩:=r.go n _ S' H' lat c'.st hlt;refine#[go,λx H3 y=>?_]
  obtain⟨f3,st3,rp⟩:=yl x H3 y;have rx:=rp _<|ai hlt;obtain⟨l2,Sa,ha,q1⟩:=Uw q1;obtain⟨b,Sb,hb,q1⟩:=Uw q1;have hal:Pv.Zo t w[n] l=aa l2/\Sa=S':=by
   cases z:Pv.Zo t w[n] l<;>rw[z]at ha<;>cases ha;exact#[rfl,rfl]
  obtain⟨hal,rfl⟩:=hal;have ff3:=ff.trans<|XH.of f3;have c3:=c'.mono na f3 st3;refine ZeW c3.lr rx hal λσ2 lr2=>#[U.at A,l2,Sa,st3,lr2,?_]
  rw[hb];intro ρ4 H4 b' f4 st4 eb;have eb:=eb;subst eb;cases f4.eq;have ff4:=ff3.trans<|XH.of f4;have c4:=c3.mono na f4 st4;cases b with
  |false=>
   rw[T8 aN]at q1 ⊢;cases q1;exact#[w.length-(n+1),by omega,rfl,hlt,ff4,ac,r1,_,ea,q2,c4.st,(lr2.mono f4).back hal hn,c4.ac]
  |true=>
   rw[T9 rfl]at q1 ⊢;refine em ac l2 σ2 H4 Sb y1 S1 _ (hP _ _ hal) #[c4.st,lr2.mono f4,c4.ac] q1 ?_ λσ3 H5 f5 c5=>#[w.length-(n+1),by omega,rfl,hlt,ff4.trans f5,ac++y1,r1,S1,by rw[bF];exact ea,q2,c5.st,c5.lr.back hal hn,c5.ac]
   rw[<-ea]at hz;simp only[aU]at hz ⊢;omega
 .left
  have en:n=w.length:=by omega
  subst en;rw[eR]at e';cases e';rw[cQ]at ea;subst ea;exact#[r.stop _ _ H' lat c'.st,k σ' H' ff c']
def Zbx{U:Mx}{A:aE}(na:U.n0≠aa A)(ie:E):Zgd X.K U A (λ_=>True) (Ze7 (tE X nx<|Pv.pv C ie) A) (λl S=>(Pv.pv C ie l S).bind λy S=>.ok [y] S):=λacc l Z H S ys S2 QQ _ c h hz k=>by
 obtain⟨y,S1,hy,h⟩:=Uw h;cases h;refine#[U.at A,l,S,c.st,c.lr,?_];rw[hy];intro ρ4 H4 v f4 st4 r4;cases f4.eq;have c4:=c.mono na f4 st4;obtain⟨us,e,r⟩:=c4.ac;rw[aU]at hz;have hz:acc.length+1<=Ev.lim:=hz;have fa:XH U A H4 (upd H4 A<|.lst<|us++[v]):=λa o n h=>.inl (by rw[Zj n];exact h)
 have lt:=fa.lat e;refine#[us,e,by rw[r.length,<-X5];omega,k Z _ ((XH.of f4).trans fa) #[#[st4.hk,λb x=>?_,λb x=>?_,st4.tb.upd (λo u z=>by rw[e]at z;cases z) λ_ z=>by cases z],#[c4.lr.len,λi d q=>let #[u,a,b]:=c4.lr.val i d q;#[u,a,b.lat lt]],_,Zn,(r.lat lt).append<|Rq.cons (r4.lat lt) Rq.nil]]
 .by_cases z:b=A
  .rw[z,Zn];intro q;cases q
  .rw[Zj z];exact st4.xd b x
 .rw[Zj λz=>na<|by rw[<-z];exact x];exact st4.dw b x
def vd(st:St3 X.K U S H)(lr:LocR U H l Z)(hA:H A=af):U.n0≠aa A/\CI X.K U A [] l Z (upd H A<|.lst []) S/\∀H',XH U A (upd H A<|.lst []) H'->Fut U H U H'/\Lat U H (U.at A) H':=by
 have ne:∀a,H a≠af->a≠A:=λa h z=>h<|z▸hA
 have f:∀H',XH U A (upd H A<|.lst []) H'->Fut U H U H'/\Lat U H (U.at A) H':=λH' g=>by
  have f:Fut U H U H':=#[rfl,λa o h=>g a o (ne a<|by rw[h];intro z;cases z)<|by rw[Zj<|ne a<|by rw[h];intro z;cases z];exact h]
  exact#[f,rfl,rfl,f.lat.keep',λa h x=>x.elim id λz=>T7 z<|ne a h]
 have s:=st.fresh (o:=.lst []) hA;obtain⟨f1,lt⟩:=f _ λ_ _ _ h=>.inl h
 refine#[λz=>st.xd A (U.xz A z) hA,#[#[s.hk,λb x=>x.elim (s.xd b) λz=>(by rw[z,Zn];intro q;cases q),s.dw,s.tb],#[lr.len,λi d q=>let #[u,a,b]:=lr.val i d q;#[u,a,b.lat lt]],[],Zn,Rq.nil],f]
def VE{l:Lc}{cap:List Nat}{nl i:Nat}(h:i<nl)(v:D):(Pv.Ye cap nl l)[i]?≠aa (aa v):=by
 unfold Pv.Ye;rw[bR (by simpa using h),cB,T9 h]
 intro z;cases z
def yi(f0:Fut U H0 U H)(hA:H A=af)(st:St3 X.K U S H)(f:Fut U H U H')(c:CI X.K U A ys l Z H' S')(h:End X.K nx (X1 ak H0) U H Q (.ok (.lst ys) S')):Q (.ref A) H':=by
 obtain⟨us,e,r⟩:=c.ac;have lt:Lat (U.at A) H' U H':=#[rfl,rfl,λ_ _ h _ _=>h,λ_ _ x=>.inl x]
 refine h U H' _ f #[c.st.hk,λb x=>c.st.xd b<|.inl x,c.st.dw,c.st.tb] #[Xy e (st.nx hA)<|r.lat lt,λ_ _ _=>#[A,rfl,f0.new hA st.xd]]
def zA{K:am}{rep:Mx->Hp->D->V->Prop}{U:Mx}{H:Hp}{Q:VK}{r:R (List D)}(h:End K xw rep U H Q (r.bind λys s=>if ys.length<=Ev.lim then Pv.PR.ok (.lst ys) s else .no).nox):∃ys S,r=.ok ys S/\ys.length<=Ev.lim/\End K nx rep U H Q (.ok (.lst ys) S):=by
 cases r with
 |no=>exact h.elim
 |ex c S=>exact h.elim
 |ok ys S=>
  have h:=End.nox h
  obtain⟨hl,h⟩:=End.guard h;exact#[ys,S,rfl,hl,h]
def yy{is:List E}{ie:E}{cap:List Nat}{nl:Nat}{w:Ev.W}{t:List Nat}{Z:L2.St}{H:Hp}{Q:VK}(hyp:tF X xw (Pv.pv C<|.comp1 cap nl t w is ie) Z H Q):ji (tW3 X xw<|Pv.pvw C w) (tGU X.K t) (tB3 X nx<|Pv.pvt C is) (tE X nx<|Pv.pv C ie) cap nl Z H Q:=by
 obtain⟨U,l,S,st,lr,h⟩:=hyp;rw[Pv.pv]at h;obtain⟨ho,h⟩:=End.guard h;refine#[U,l,S,st,lr,h.bind λwk S1 ρ1 H1 J f1 st1 r1 h1=>λA hA=>?_]
 cases f1.eq;obtain⟨ys,S2,hm,hl,h1⟩:=zA h1;obtain⟨na,ci,ft⟩:=vd st1 ((lr.mono f1).caught cap nl) hA;exact Qu r1 na (Zbx na ie) (λi hi d=>VE (T6<|aX.mp ho i hi) d) (λ_ _ _=>eB) (λH' f=>(ft H' f).2) ci hm hl λσ3 H3 f3 c3=>yi f1 hA st1 (ft H3 f3).1 c3 h1
def qR{is js:List E}{ie:E}{cap:List Nat}{nl:Nat}{w w2:Ev.W}{t u:List Nat}{Z:L2.St}{H:Hp}{Q:VK}(hyp:tF X xw (Pv.pv C<|.comp2 cap nl t w is u w2 js ie) Z H Q) :
  xQ (tW3 X xw<|Pv.pvw C w) (tGU X.K t) (tB3 X nx<|Pv.pvt C is) (λD=>x8 (tW3 X nx<|Pv.pvw C w2) (tGU X.K u) (tB3 X nx<|Pv.pvt C js)<|Ze7 (tE X nx<|Pv.pv C ie) D) cap nl Z H Q:=by
 obtain⟨U,l,S,st,lr,h⟩:=hyp;rw[Pv.pv]at h;obtain⟨ho,h⟩:=End.guard h;obtain⟨ho,hu⟩:=(aI _ _).mp ho;refine#[U,l,S,st,lr,h.bind λwk S1 ρ1 H1 J f1 st1 r1 h1=>λA hA=>?_]
 cases f1.eq;obtain⟨ys,S2,hm,hl,h1⟩:=zA h1;obtain⟨na,ci,ft⟩:=vd st1 ((lr.mono f1).caught cap nl) hA;have hu:∀i∈u,i<nl/\i∉t:=λi hi=>by
  have:=(aI _ _).mp<|aX.mp hu i hi;exact#[T6 this.1,by simpa using this.2]
 refine Qu (P:=λl=>∀i∈u,∀d,l[i]?≠aa (aa d)) r1 na (λacc l Z H S ys S2 QQ pl c h hz k=>?_) (λi hi d=>VE (T6<|aX.mp ho i hi) d) (λx l2 e i hi d=>?_) (λH' f=>(ft H' f).2) ci hm hl λσ3 H3 f3 c3=>yi f1 hA st1 (ft H3 f3).1 c3 h1
 .obtain⟨wk2,S5,hw,h⟩:=Uw h
  refine#[U.at A,l,S,c.st,c.lr,?_];rw[hw];intro ρ5 H5 J5 f5 st5 r5;cases f5.eq;have c5:=c.mono na f5 st5;obtain⟨us,e,_⟩:=c5.ac;exact Qu r5 na (Zbx na ie) pl (λ_ _ _=>eB) (λH' f=>f.lat e) c5 h hz λσ3 H3 f3 c3=>k σ3 H3 ((XH.of f5).trans f3) c3
 .rw[(V4 e).2 i (hu i hi).2]
  exact VE (hu i hi).1 d
def Qe{elt:Expr}{ifs:List Expr}{is:List E}{ie:E}{scope:d6}{N:List bi}{cap:List Nat}{nl:Nat}{w:Ev.W}{t:List Nat}(hc:X.calm=ak)(hN:X.N.Nodup)(CSc:CompScope X.env.scope X.N scope N cap nl)(hi:CW X xw C tg it w)
  (hb:∀cl s H fp,CG (cxC X N scope cl s H fp) tg t/\CTs (cxC X N scope cl s H fp) nx C ifs is/\CE (cxC X N scope cl s H fp) nx C elt ie)
  (hs:∀x,bY it X.env x=cS x):CF X xw C (.ListComp elt [#[tg,it,ifs,0]] scope pos) (.comp1 cap nl t w is ie):=
 PE.imp (ZcE (g:=tGU X.K t) (tt:=tB3 X nx<|Pv.pvt C is) (te:=tE X nx<|Pv.pv C ie) hc hN CSc hi (λcl s H fp=>hb cl s H fp) hs) λZ H Q hyp=>yy hyp
def Qp{fr:Bool}{ns:List Nat}{elt:Expr}{ifs:List Expr}{is:List E}{ie:E}{scope:d6}{N:List bi}{cap:List Nat}{nl:Nat}{w:Ev.W}{t:List Nat}{n:Nat}{y:bi}{spos py:fV}(hc:X.calm=ak)(hN:X.N.Nodup)(CSc:CompScope X.env.scope X.N scope N cap nl)(hi:CW X xw C tg it w)
  (hb:∀cl s H fp,CG (cxC X N scope cl s H fp) tg t/\CTs (cxC X N scope cl s H fp) nx C ifs is/\CE (cxC X N scope cl s H fp) nx C elt ie)
  (hsw:eQ (.ListComp elt [#[tg,it,ifs,0]] scope pos) (aa<|.Name y py) spos.line X.env=cS ak)
  (hy:X.N[n]?=aa y)(hx:L2.Loc X.env.scope y)(hf:X.fn y=ak\/X.env.scope.names.lookup y=aa .local)
  (hs:∀x,bY it X.env x=cS x):CS X xw fr C ns (.Assign [.Name y py] (.ListComp elt [#[tg,it,ifs,0]] scope pos) spos) (.asg [n]<|.comp1 cap nl t w is ie):=
 PS.imp (jW (g:=tGU X.K t) (tt:=tB3 X nx<|Pv.pvt C is) (te:=tE X nx<|Pv.pv C ie) hc hN CSc hi (λcl s H fp=>hb cl s H fp) hsw hy hx hf hs)<|by rintro D Z H ⟨U,H0,W,l,os,S,st,en,h⟩;exact yy<|ZeJ st en h
def Vy{fr:Bool}{ns:List Nat}{elt t1 i1 t2 i2:Expr}{f1' f2':List Expr}{is js:List E}{ie:E}{scope:d6}{N:List bi}{cap:List Nat}{nl:Nat}{w w2:Ev.W}{t u:List Nat}{n:Nat}{y:bi}{spos py:fV}(hc:X.calm=ak)(hN:X.N.Nodup)(CSc:CompScope X.env.scope X.N scope N cap nl)(hi:CW X xw C t1 i1 w)
  (hb:∀cl s H fp,CG (cxC X N scope cl s H fp) t1 t/\CTs (cxC X N scope cl s H fp) nx C f1' is/\CW (cxC X N scope cl s H fp) nx C t2 i2 w2/\CG (cxC X N scope cl s H fp) t2 u/\CTs (cxC X N scope cl s H fp) nx C f2' js/\CE (cxC X N scope cl s H fp) nx C elt ie)
  (hsw:eQ (.ListComp elt [#[t1,i1,f1',0],#[t2,i2,f2',0]] scope pos) (aa<|.Name y py) spos.line X.env=cS ak)
  (hy:X.N[n]?=aa y)(hx:L2.Loc X.env.scope y)(hf:X.fn y=ak\/X.env.scope.names.lookup y=aa .local)
  (hs:∀x,bY i1 X.env x=cS x)(hs2:∀env x,bY i2 env x=cS x) :
  CS X xw fr C ns (.Assign [.Name y py] (.ListComp elt [#[t1,i1,f1',0],#[t2,i2,f2',0]] scope pos) spos) (.asg [n]<|.comp2 cap nl t w is u w2 js ie):=
 PS.imp (jb (wj:=tW3 X nx<|Pv.pvw C w2) (g1:=tGU X.K t) (tt1:=tB3 X nx<|Pv.pvt C is) (g2:=tGU X.K u) (tt2:=tB3 X nx<|Pv.pvt C js) (te:=tE X nx<|Pv.pv C ie) hc hN CSc hi (λcl s H fp=>hb cl s H fp) hsw hy hx hf hs hs2)<|by rintro D Z H ⟨U,H0,W,l,os,S,st,en,h⟩;exact qR<|ZeJ st en h
end
theorem LocR.start(r:Rq U H ds vs)(N:List bi)(n:Nat)(hn:n=N.length):LocR U H (Pv.ZN n ds) (L2.start N vs):=by
 subst hn;have hl:=r.length;refine#[by unfold Pv.ZN L2.start;simp[hl],λi d e=>?_]
 unfold Pv.ZN at e;by_cases hi:i<ds.length
 .rw[bR (by simpa using hi),aQ]at e
  cases q:ds[i]? with
  |none=>rw[q]at e;cases e
  |some d'=>
   rw[q]at e;cases e;obtain⟨v,hv,r'⟩:=r.get q;refine#[v,?_,r'];unfold L2.start;rw[bR (by simp;lia),aQ,hv]
   rfl
 .rw[bu (by simp;lia),cB]at e
  split at e<;>cases e
theorem Eu.start{K:am}{U:Mx}{H:Hp}{S:Zs}{ds:List D}{vs:List V}(st:St3 K U S H)(r:Rq U H ds vs)(N:List bi)(n:Nat)(hn:n=N.length):Eu U H (λ_=>af) (Pv.ZN n ds) [] (L2.start N vs) H:=by
 have lr:=LocR.start r N n hn;refine#[Fut.refl _ _,st.xd,lr.len,λ_=>rfl,λ_ _ _ h=>?_,λ_ _ h=>?_,λ_ _ h=>?_,λi d e _=>?_]
 .cases h
 .cases h
 .cases h
 .obtain⟨v,a,b⟩:=lr.val i d e
  exact#[v,a,Rep.lat (U:=U) (ρ':=U.ex λ_=>af) #[rfl,rfl,λ_ _ h _ _=>h,λ_ _ x=>Or.elim x id λ#[_,z]=>by cases z] b]
section
variable{P:bB}{w:bS}{K:am}{mg:bi->Option au}{base:cw}
def Go(C:Calls)(fn:Fn)(ds:List D)(S:Zs):R D:=if ds.length=fn.ps then(Pv.rvs C (Pv.muts fn.body) fn.body (Pv.ZN fn.ns ds) [] S).bind λf S=>match f with
  |.ret x=>.ok x S
  |.nx _ _=>.ok .non S
 else .no
def z5{C:Calls}{fn:Fn}{fr:Bool}{xw:Nat->Hp->Prop}{U:Mx}{H:Hp}{ds:List D}{S:Zs}{Q:VK}{E:L2.Ends}(hE:∀v H',Q v H'->E.rt v H')(hN:∀Z H',Q .non H'->E.nx Z H')(h:End K xw (X1 fr H) U H Q (Go C fn ds S)):ZD fr K xw U H E (Pv.rvs C (Pv.muts fn.body) fn.body (Pv.ZN fn.ns ds) [] S):=by
 obtain⟨_,h⟩:=End.guard h;cases q:Pv.rvs C (Pv.muts fn.body) fn.body (Pv.ZN fn.ns ds) [] S with
 |no=>rw[q]at h;exact h
 |ex c S2=>rw[q]at h;exact λH' f st=>h U H' f st
 |ok fl S2=>
  rw[q]at h;cases fl with|ret x=>exact λH' v f st r=>hE v H'<|h U H' v f st r|nx l os=>exact λH' σ' W' st en=>hN σ' H'<|h U H' .non en.fut st #[Us,λ_ _ z=>by cases z]
end
def yt{a b c}:aA (.Constant a b c::es) env=(al,cr (.Constant a b c) env)::aA es env:=rfl
def ue{a b}:aA (.Name a b::es) env=(al,cr (.Name a b) env)::aA es env:=rfl
def Zav{a b c}:aA (.Tuple a b c::es) env=(al,cr (.Tuple a b c) env)::aA es env:=rfl
def ZbK{a b}:aA (.List a b::es) env=(al,cr (.List a b) env)::aA es env:=rfl
def Za6{a b c d}:aA (.BinOp a b c d::es) env=(al,cr (.BinOp a b c d) env)::aA es env:=rfl
def ZdC{a b c}:aA (.UnaryOp a b c::es) env=(al,cr (.UnaryOp a b c) env)::aA es env:=rfl
def jf{a b c d}:aA (.Compare a b c d::es) env=(al,cr (.Compare a b c d) env)::aA es env:=rfl
def jo{a b c}:aA (.Subscript a b c::es) env=(al,cr (.Subscript a b c) env)::aA es env:=rfl
def v4{a b c d}:aA (.Call a b c d::es) env=(al,cr (.Call a b c d) env)::aA es env:=rfl
def uw{a b c d}:aA (.ListComp a b c d::es) env=(al,cr (.ListComp a b c d) env)::aA es env:=rfl
def Xj:List iV->List (Int×Int)->Prop
 |[],[]=>True
 |e::r,(k,j)::q=>(∃t,e.key=.int k t)/\e.hash=hashInt k/\(∃u,e.val=.int j u)/\Xj r q
 |_,_=>False
theorem Xj.mem :∀{es:List iV}{tab:List (Int×Int)},Xj es tab->∀e∈es,∃k,(lx P w).is k e.key=ak/\e.hash=(lx P w).hash k
 |[],_,_,e,h=>by cases h
 |e::r,[],h,_,_=>h.elim
 |e::r,(k,j)::q,h,x,hx=>by
  obtain⟨⟨t,h1⟩,h2,_,h4⟩:=h;rcases aB.mp hx with rfl|hx
  .exact#[k,by rw[h1];exact intKind_is P w k t,h2]
  .exact Xj.mem h4 x hx
theorem Xj.find(k:Int):∀{es:List iV}{tab:List (Int×Int)},Xj es tab->(tab.lookup k=af->(es.find? λe=>(lx P w).is k e.key)=af)/\∀j,tab.lookup k=aa j->∃e t,(es.find? λe=>(lx P w).is k e.key)=aa e/\e.val=.int j t
 |[],[],_=>#[λ_=>rfl,λj h=>by cases h]
 |[],_::_,h=>h.elim
 |e::r,[],h=>h.elim
 |e::r,(k',j')::q,h=>by
  obtain⟨⟨t,h1⟩,h2,⟨u,h3⟩,h4⟩:=h;obtain⟨i1,i2⟩:=Xj.find k h4;rw[bV,fg];have hd:(lx P w).is k e.key=ag (k=k'):=KeyKind.is_eq_decide (by rw[h1];exact intKind_is P w k' t) k
  rw[hd];by_cases z:k=k'
  .subst z
   rw[beq_self_eq_true,T5 rfl];exact#[λz=>(by cases z),λj z=>(by cases z;exact#[e,u,rfl,h3])]
  .rw[beq_eq_false_iff_ne.mpr z,T4 z]
   exact#[i1,i2]
def ZcI{P:bB}{w:bS}{K:am}{a:aE}{es:Array iV}{n:Nat}{tab:List (Int×Int)}(hl:K.lookup a=aa #[.type "dict",af,.dict es n,#[]])(ht:Xj es.toList tab)(ha:(a == fK)=al):ZfZ P w K a tab:=by
 refine#[ha,λk=>findBy (lx P w).is es k,λh X=>#[_,es,n,X _ _ hl,#[rfl,rfl,rfl],rfl,λe he=>ht.mem e<|Array.mem_toList_iff.mpr he,λ_=>rfl],λk=>?_]
 obtain⟨l⟩:=es;obtain⟨i1,i2⟩:=Xj.find k ht;refine#[λz=>?_,λj z=>?_]
 .show((l.toArray.find? λe=>(lx P w).is k e.key).map (·.val))=af
  rw[nY,i1 z];rfl
 .obtain⟨e,t,q1,q2⟩:=i2 j z
  refine#[t,?_];show((l.toArray.find? λe=>(lx P w).is k e.key).map (·.val))=_
  rw[nY,q1];exact congrArg aa q2
def hu7(hr:Room k A):A.units+7<dD:=Nat.lt_of_le_of_lt (by lia) hr.un
end Sd
namespace Sd
open PySem PySem.Spec PyProof.Rows L2
def Src(b:Bool)(h:cw)(it l:aE)(k:Nat):Prop:=match b with
 |true=>h.IsListIter it l k
 |false=>h.IsTupleIter it l k
def YT(b:Bool)(h:cw)(l:aE)(xs:Array au):Prop:=match b with
 |true=>h.IsList l xs
 |false=>h.IsTuple l xs
def Src.ext(x:Src b h it l k)(e:gv c h h')(n:it≠c):Src b h' it l k:=by
 cases b
 .exact cw.IsTupleIter.extBut x e n
 .exact cw.IsListIter.extBut x e n
def Src.keep(x:Src b h it l k)(e:∀o,h.get? it=aa o->h'.get? it=aa o):Src b h' it l k:=by
 cases b
 .obtain⟨o,ho,r⟩:=x;exact#[o,e o ho,r]
 .obtain⟨o,ho,r⟩:=x;exact#[o,e o ho,r]
def Src.obj(x:Src b h it l k):∃o,h.get? it=aa o/\∀v,o.data≠.cell v:=by
 cases b
 .obtain⟨o,ho,_,d⟩:=x;exact#[o,ho,λv z=>by rw[d]at z;cases z]
 .obtain⟨o,ho,_,d⟩:=x;exact#[o,ho,λv z=>by rw[d]at z;cases z]
def YT.keep(x:YT b h l xs)(e:∀o,h.get? l=aa o->h'.get? l=aa o):YT b h' l xs:=by
 cases b
 .obtain⟨o,ho,r⟩:=x;exact#[o,e o ho,r]
 .obtain⟨o,ho,r⟩:=x;exact#[o,e o ho,r]
def ZaM{Q:au->ay->Prop}(hit:s.heap.IsTupleIter it t i)(ht:s.heap.IsTuple t items)(hx:items[i]?=aa x)
  (hQ:∀h',h'.IsTupleIter it t (i+1)->gy it s.heap h'->Q x {s with heap:=h' }):ba (aV prog w) A (fb<|.ref it) Q E s:=by
 obtain⟨o,ho,hc,hd⟩:=id hit;obtain⟨ol,hol,_,nl,hdl⟩:=ht;refine ae<|c9 hit.typeIs eV<|dm eV hit.typeIs kK ?_<|kr _;show ba _ _ (field (.ref it) 0 >>= _) _ _ s;refine ae<|cV ho hd rfl ?_;show ba _ _ (if(de t == bz)=ak then _ else _) _ _ s
 rw[T8<|by exact aN];refine ae<|cV ho hd rfl ?_
 refine ae<|eW hol hdl ?_;simp only[ei,hx];refine ae<|kY ho hd (by simp)<|aC #[x,rfl,aC<|hQ _ #[_,fW _ ho<|iO<|fN hd _,(ly ..).trans hc,?_]<|fE ..]
 rw[fN hd];simp[fM]
def Gz{Q:au->ay->Prop}(hh:A.handled=af)(hit:s.heap.IsTupleIter it t i)(ht:s.heap.IsTuple t items)(hx:items[i]?=af)
  (hE:∀h' e,gv it s.heap h'->(∃o,h'.get? e=aa o/\o.cls=.type "StopIteration")->E (.ref e) {s with heap:=h' }):ba (aV prog w) A (fb<|.ref it) Q E s:=by
 obtain⟨o,ho,hc,hd⟩:=id hit;obtain⟨ol,hol,_,nl,hdl⟩:=ht;refine ae<|c9 hit.typeIs eV<|dm eV hit.typeIs kK ?_<|kr _;show ba _ _ (field (.ref it) 0 >>= _) _ _ s;refine ae<|cV ho hd rfl ?_;show ba _ _ (if(de t == bz)=ak then _ else _) _ _ s
 rw[T8<|by exact aN];refine ae<|cV ho hd rfl ?_
 refine ae<|eW hol hdl ?_;simp only[ei,hx];refine ae<|eD<|ae<|kY ho hd (by simp) ?_;show ba _ _ (newExc (.type "StopIteration") [] >>= _) _ _ _
 refine ae ?_;simp only[newExc,newTuple];refine ae<|cu ?_<|by size_fits
 refine ae (dO (by first|rfl|(simp only[mU];rfl))<|cu ?_<|by size_fits)
 simp only[raiseNew];refine ae<|wpAny_handled ?_;first|rw[hh]|rw[hh]
 exact ae<|aC<|wpAny_throw<|hE _ _ (((fE ..).extBut.push _).push _) #[_,aO _ rfl,rfl]
def Vt{Q:au->ay->Prop}(hit:Src b s.heap it l k)(hl:YT b s.heap l xs)(hx:xs[k]?=aa x)
  (hQ:∀h',Src b h' it l (k+1)->gy it s.heap h'->Q x {s with heap:=h' }):ba (aV prog w) A (fb<|.ref it) Q E s:=by
 cases b
 .exact ZaM hit hl hx hQ
 .exact wpAny_nextOf_list_item hit hl hx hQ
def GO{Q:au->ay->Prop}(hh:A.handled=af)(hit:Src b s.heap it l k)(hl:YT b s.heap l xs)(hx:xs[k]?=af)
  (hE:∀h' e,gv it s.heap h'->(∃o,h'.get? e=aa o/\o.cls=.type "StopIteration")->E (.ref e) {s with heap:=h' }):ba (aV prog w) A (fb<|.ref it) Q E s:=by
 cases b
 .exact Gz hh hit hl hx hE
 .exact wpAny_nextOf_list_end hh hit hl hx hE
noncomputable def YH(b:Bool)(l:aE):fD:={cls:=.type (if b then "list_iterator" else "tuple_iterator"),data:=.fields [.ref l,.int 0 0].toArray}
def UW{Q:au->ay->Prop}(hl:YT b s.heap l xs)(h:Q (.ref s.heap.objs.size) {s with heap:=s.heap.push (YH b l)}):ba (aV prog w) A (mQ<|.ref l) Q E s:=by
 cases b
 .exact gZ hl h
 .exact gf hl h
structure ZipSt(b1 b2:Bool)(z TI TO i1 i2 l1 l2:aE)(k:Nat)(f0:au)(h:cw):Prop where
 zp:pK h z TI TO f0
 ti:mm h TI (.ref i1) (.ref i2)
 to:∃a b,mm h TO a b
 s1:Src b1 h i1 l1 k
 s2:Src b2 h i2 l2 k
def Zay{b1 b2:Bool}{z TI TO i1 i2 l1 l2:aE}{k:Nat}{xs ys:Array au}{x y:au}{Q:au->ay->Prop}(D:mV z TI TO i1 i2 l1 l2)(Z:ZipSt b1 b2 z TI TO i1 i2 l1 l2 k .none s.heap)(hl1:YT b1 s.heap l1 xs)(hl2:YT b2 s.heap l2 ys)(hx:xs[k]?=aa x)(hy:ys[k]?=aa y)
  (hQ:∀h',ZipSt b1 b2 z TI TO i1 i2 l1 l2 (k+1) (fM s.heap.objs.size) h'->mm h' s.heap.objs.size x y->(∀c o,c∉[z,TO,i1,i2]->s.heap.get? c=aa o->h'.get? c=aa o)->Q (.ref s.heap.objs.size) {s with heap:=h' }) :
  ba (aV prog w) A (dZ.«zip.__next__» #[[.ref z],[]]) (λfin s'=>∃v,fin=.done (.ret v)/\Q v s') E s:=by
 obtain⟨hz,hTI,⟨a,b,hTO⟩,h1,h2⟩:=Z;show ba _ _ (field (.ref z) 2 >>= _) _ _ _;refine ae<|cV hz rfl (x:=.bool al) rfl ?_;refine ae<|cV hz rfl (x:=.ref TI) rfl<|ae<|eW hTI rfl ?_;refine ae ?_;refine ae<|cV hz rfl (x:=.none) rfl<|aC ?_;simp only[if_true];refine ae<|eD<|ae<|cV hz rfl (x:=.ref TO) rfl<|ae<|eX hz (by simp) λh₁ hz₁ hs₁=>?_
 replace hz₁:pK h₁ z TI TO .ellipsis:=by exact hz₁
 refine ae ?_;simp only[lW,pQ,mz,rB];refine ae<|ae<|lH ?_;refine ae<|Vt (h1.ext hs₁.extBut D.i1z) (hl1.keep λo e=>hs₁.extBut _ o D.l1z e) hx λh₂ h1₂ hs₂=>aC ?_
 have hTO₂:mm h₂ TO a b:=by exact hs₂.extBut _ _ D.TOi1<|hs₁.extBut _ _ D.TOz hTO
 refine ae<|eW hTO₂ rfl<|ae<|kf hTO₂ λh₃ hTO₃ hs₃=>?_
 replace hTO₃:mm h₃ TO x b:=by exact hTO₃
 refine ae<|pL<|aC<|ae<|ae<|lH ?_;have to3:∀c o,c≠z->c≠TO->c≠i1->s.heap.get? c=aa o->h₃.get? c=aa o:=λc o c1 c2 c3 e=>hs₃.extBut _ _ c2<|hs₂.extBut _ _ c3<|hs₁.extBut _ _ c1 e
 refine ae<|Vt (h2.keep λo e=>to3 _ o D.i2z D.TOi2.symm D.i12.symm e) (hl2.keep λo e=>to3 _ o D.l2z D.l2TO D.l2i1 e) hy λh₄ h2₄ hs₄=>aC ?_
 have hTO₄:mm h₄ TO x b:=by exact hs₄.extBut _ _ D.TOi2 hTO₃
 refine ae<|eW hTO₄ rfl<|ae<|kf hTO₄ λh₅ hTO₅ hs₅=>?_
 replace hTO₅:mm h₅ TO x y:=by exact hTO₅
 refine ae<|pL<|aC<|aC<|ae<|eW hTO₅ rfl<|ae<|wpAny_newTuple ?_;have hsz:h₅.objs.size=s.heap.objs.size:=by rw[hs₅.1,hs₄.1,hs₃.1,hs₂.1,hs₁.1]
 have to5:=λc o c1 c2 c3 c4 e=>hs₅.extBut _ _ c2<|hs₄.extBut _ _ c4<|to3 c o c1 c2 c3 e
 have hz₅:pK h₅ z TI TO .ellipsis:=by exact hs₅.extBut _ _ D.TOz.symm<|hs₄.extBut _ _ D.i2z.symm<|hs₃.extBut _ _ D.TOz.symm<|hs₂.extBut _ _ D.i1z.symm hz₁
 have h1₅:Src b1 h₅ i1 l1 (k+1):=((h1₂.ext hs₃.extBut D.TOi1.symm).ext hs₄.extBut D.i12).ext hs₅.extBut D.TOi1.symm;have h2₅:Src b2 h₅ i2 l2 (k+1):=h2₄.ext hs₅.extBut D.TOi2.symm;have zl:z<h₅.objs.size:=aT hz₅;refine ae ?_;have hz₆:pK (h₅.push {cls:=.type "tuple",data:=.seq [x,y].toArray}) z TI TO .ellipsis:=by exact aw _ hz₅
 refine ae<|eX hz₆ (by simp) λh₇ hz₇ hs₇=>?_
 replace hz₇:pK h₇ z TI TO (fM h₅.objs.size):=by exact hz₇
 refine eX hz₇ (by simp) λh₈ hz₈ hs₈=>aC #[_,rfl,?_]
 replace hz₈:pK h₈ z TI TO (fM h₅.objs.size):=by exact hz₈
 have up:∀c o,c≠z->h₅.get? c=aa o->h₈.get? c=aa o:=λc o c1 e=>by exact hs₈.extBut _ _ c1<|hs₇.extBut _ _ c1<|aw _ e
 have hT₈:mm h₈ h₅.objs.size x y:=by exact hs₈.extBut _ _ (gA zl)<|hs₇.extBut _ _ (gA zl)<|aO _ rfl
 show Q (.ref h₅.objs.size) _;rw[hsz]at hz₈ hT₈ ⊢;refine hQ h₈ #[hz₈,up _ _ D.TIz<|to5 _ _ D.TIz D.TITO D.TIi1 D.TIi2 hTI,#[x,y,up _ _ D.TOz hTO₅],h1₅.keep λo e=>up _ o D.i1z e,h2₅.keep λo e=>up _ o D.i2z e] hT₈ λc o hc e=>?_
 simp only[aB,bQ,or_false,not_or]at hc;exact up c o hc.1<|to5 c o hc.1 hc.2.1 hc.2.2.1 hc.2.2.2 e
def QV{b1 b2:Bool}{z TI TO i1 i2 l1 l2:aE}{k:Nat}{xs ys:Array au}{Q:Fin->ay->Prop}(hh:A.handled=af)(D:mV z TI TO i1 i2 l1 l2)(Z:ZipSt b1 b2 z TI TO i1 i2 l1 l2 k .none s.heap)(hl1:YT b1 s.heap l1 xs)(hl2:YT b2 s.heap l2 ys)(hend:xs[k]?=af\/ys[k]?=af)
  (hE:∀h' e,(∀c o,c∉[z,TO,i1,i2]->s.heap.get? c=aa o->h'.get? c=aa o)->(∃o,h'.get? e=aa o/\o.cls=.type "StopIteration")->E (.ref e) {s with heap:=h' }) :
  ba (aV prog w) A (dZ.«zip.__next__» #[[.ref z],[]]) Q E s:=by
 obtain⟨hz,hTI,⟨a,b,hTO⟩,h1,h2⟩:=Z;have hk:∀{c:aE},c∉[z,TO,i1,i2]->c≠z/\c≠TO/\c≠i1/\c≠i2:=λhc=>by
  simp only[aB,bQ,or_false,not_or]at hc;exact hc
 show ba _ _ (field (.ref z) 2 >>= _) _ _ _;refine ae<|cV hz rfl rfl ?_;refine ae<|cV hz rfl (x:=.ref TI) rfl<|ae<|eW hTI rfl ?_;refine ae ?_;refine ae<|cV hz rfl (x:=.none) rfl<|aC ?_;simp only[if_true];refine ae<|eD<|ae<|cV hz rfl (x:=.ref TO) rfl<|ae<|eX hz (by simp) λh₁ hz₁ hs₁=>?_
 replace hz₁:pK h₁ z TI TO .ellipsis:=by exact hz₁
 refine ae ?_;simp only[lW,pQ,mz,rB];refine ae<|ae<|lH ?_;have l1₁:=hl1.keep λo e=>hs₁.extBut _ o D.l1z e
 cases hx:xs[k]? with
 |none=>
  refine ae<|GO hh (h1.ext hs₁.extBut D.i1z) l1₁ hx λh₂ e hs₂ he=>?_
  obtain⟨oe,hoe,hce⟩:=he;have hz₂:pK h₂ z TI TO .ellipsis:=by exact hs₂ _ _ D.i1z.symm hz₁
  have hez:e≠z:=λx=>by subst x;rw[hz₂]at hoe;cases hoe;simp at hce
  exact eX hz₂ (by simp) λh₃ _ hs₃=>hE h₃ e (λc o hc x=>hs₃.extBut _ _ (hk hc).1<|hs₂ _ _ (hk hc).2.2.1<|hs₁.extBut _ _ (hk hc).1 x) #[oe,hs₃.extBut _ _ hez hoe,hce]
 |some x=>
  have hy:ys[k]?=af:=by rcases hend with q|q;rw[hx]at q;cases q;exact q
  refine ae<|Vt (h1.ext hs₁.extBut D.i1z) l1₁ hx λh₂ h1₂ hs₂=>aC ?_
  have hTO₂:mm h₂ TO a b:=by exact hs₂.extBut _ _ D.TOi1<|hs₁.extBut _ _ D.TOz hTO
  refine ae<|eW hTO₂ rfl<|ae<|kf hTO₂ λh₃ hTO₃ hs₃=>?_
  refine ae<|pL<|aC<|ae<|ae<|lH ?_;have to3:∀c o,c≠z->c≠TO->c≠i1->s.heap.get? c=aa o->h₃.get? c=aa o:=λc o c1 c2 c3 e=>hs₃.extBut _ _ c2<|hs₂.extBut _ _ c3<|hs₁.extBut _ _ c1 e
  refine ae<|GO hh (h2.keep λo e=>to3 _ o D.i2z D.TOi2.symm D.i12.symm e) (hl2.keep λo e=>to3 _ o D.l2z D.l2TO D.l2i1 e) hy λh₄ e hs₄ he=>?_
  obtain⟨oe,hoe,hce⟩:=he;have hz₄:pK h₄ z TI TO .ellipsis:=by exact hs₄ _ _ D.i2z.symm<|hs₃.extBut _ _ D.TOz.symm<|hs₂.extBut _ _ D.i1z.symm hz₁
  have hez:e≠z:=λx=>by subst x;rw[hz₄]at hoe;cases hoe;simp at hce
  exact eX hz₄ (by simp) λh₅ _ hs₅=>hE h₅ e (λc o hc x=>hs₅.extBut _ _ (hk hc).1<|hs₄ _ _ (hk hc).2.2.2<|to3 c o (hk hc).1 (hk hc).2.1 (hk hc).2.2.1 x) #[oe,hs₅.extBut _ _ hez hoe,hce]
def xI{b1 b2:Bool}{z TI TO i1 i2 l1 l2:aE}{k:Nat}{xs ys:Array au}{x y:au}{Q:Option au->ay->Prop}(D:mV z TI TO i1 i2 l1 l2)(Z:ZipSt b1 b2 z TI TO i1 i2 l1 l2 k .none s.heap)(hl1:YT b1 s.heap l1 xs)(hl2:YT b2 s.heap l2 ys)(hx:xs[k]?=aa x)(hy:ys[k]?=aa y)
  (hQ:∀h',ZipSt b1 b2 z TI TO i1 i2 l1 l2 (k+1) (fM s.heap.objs.size) h'->mm h' s.heap.objs.size x y->(∀c o,c∉[z,TO,i1,i2]->s.heap.get? c=aa o->h'.get? c=aa o)->Q (aa<|.ref s.heap.objs.size) {s with heap:=h' }) :
  ba (aV prog w) A (oP<|.ref z) Q E s:=by
 have hT:s.TypeIs (.ref z) "zip":=#[_,Z.zp,rfl];exact ae<|i6<|c9 hT kt<|dm kt hT o8 (Zay D Z hl1 hl2 hx hy λh' a1 a2 a3=>aC<|hQ h' a1 a2 a3)<|oB _
def U0{b1 b2:Bool}{z TI TO i1 i2 l1 l2:aE}{k:Nat}{xs ys:Array au}{Q:Option au->ay->Prop}(hh:A.handled=af)(D:mV z TI TO i1 i2 l1 l2)(Z:ZipSt b1 b2 z TI TO i1 i2 l1 l2 k .none s.heap)(hl1:YT b1 s.heap l1 xs)(hl2:YT b2 s.heap l2 ys)(hend:xs[k]?=af\/ys[k]?=af)
  (hQ:∀h',(∀c o,c∉[z,TO,i1,i2]->s.heap.get? c=aa o->h'.get? c=aa o)->Q af {s with heap:=h' }):ba (aV prog w) A (oP<|.ref z) Q E s:=by
 have hT:s.TypeIs (.ref z) "zip":=#[_,Z.zp,rfl];refine ae<|i6<|c9 hT kt<|dm kt hT o8 (QV hh D Z hl1 hl2 hend λh' e hk he=>?_)<|oB _
 obtain⟨o,ho,hc⟩:=he;exact ae<|gE #[o,ho,hc] isSubtype_stop<|aC<|hQ _ hk
def zH1(h:cw)(b1:Bool)(l1:aE):cw:=h.push<|YH b1 l1
def zH2(h:cw)(b1 b2:Bool)(l1 l2:aE):cw:=(zH1 h b1 l1).push<|YH b2 l2
def zH3(h:cw)(b1 b2:Bool)(l1 l2:aE):cw:=(zH2 h b1 b2 l1 l2).push {cls:=.type "tuple",data:=.seq [.ref h.objs.size,.ref (zH1 h b1 l1).objs.size].toArray}
def zH4(h:cw)(b1 b2:Bool)(l1 l2:aE):cw:=(zH3 h b1 b2 l1 l2).push {cls:=.type "tuple",data:=.seq [.none,.none].toArray}
def zH5(h:cw)(b1 b2:Bool)(l1 l2:aE):cw:=(zH4 h b1 b2 l1 l2).push {cls:=.type "zip",data:=.fields [.none,.bool al,.bool al,.ref (zH2 h b1 b2 l1 l2).objs.size,.ref (zH3 h b1 b2 l1 l2).objs.size].toArray}
def Zdj(b1 b2:Bool)(l1 l2:aE)(xs ys:Array au) :
  rq (dZ.«zip.__new__» #[[.type "zip",.ref l1,.ref l2],[]]) (λ_ R s=>YT b1 s.heap l1 xs/\YT b2 s.heap l2 ys/\R (.ok<|.ret<|.ref (zH4 s.heap b1 b2 l1 l2).objs.size) {s with heap:=zH5 s.heap b1 b2 l1 l2}):=
 .of_wp λprog w A R s h=>by
  obtain⟨hp,g,d,tk,os⟩:=s;obtain⟨hl1,hl2,h⟩:=h;have hsub:=sub_zip;have hL1:=hl1;have hL2:YT b2 (ay.heap #[hp.push<|YH b1 l1,g,d,tk,os]) l2 ys:=hl2.keep λo e=>aw _ e
  wp_walk using UW hL1,UW hL2
  exact#[_,rfl,h]
def Zbw{Q:au->ay->Prop}(hl1:YT b1 s.heap l1 xs)(hl2:YT b2 s.heap l2 ys)
  (h:∀h' n,n=s.heap.objs.size->ZipSt b1 b2 (n+4) (n+2) (n+3) n (n+1) l1 l2 0 .none h'->(∀c o,s.heap.get? c=aa o->h'.get? c=aa o)->Q (.ref<|n+4) {s with heap:=h' }) :
  ba (aV prog w) A (call (.type "zip") [.ref l1,.ref l2]) Q E s:=by
 refine callType_new F.called_zip (by decide) (F.typeCall_zip_2 _ _) (F.newCall_zip_2 _ _) (λobj=>F.args_object_init_3 obj _ _) F.entry_zip_new (Zdj b1 b2 l1 l2 xs ys) #[hl1,hl2,?_]
 have z1:(zH1 s.heap b1 l1).objs.size=s.heap.objs.size+1:=dJ ..;have z2:(zH2 s.heap b1 b2 l1 l2).objs.size=s.heap.objs.size+2:=by unfold zH2;rw[dJ,z1]
 have z3:(zH3 s.heap b1 b2 l1 l2).objs.size=s.heap.objs.size+3:=by unfold zH3;rw[dJ,z2]
 have z4:(zH4 s.heap b1 b2 l1 l2).objs.size=s.heap.objs.size+4:=by unfold zH4;rw[dJ,z3]
 have g5:(zH5 s.heap b1 b2 l1 l2).get? (zH4 s.heap b1 b2 l1 l2).objs.size=aa {cls:=.type "zip",data:=.fields [.none,.bool al,.bool al,.ref (zH2 s.heap b1 b2 l1 l2).objs.size,.ref (zH3 s.heap b1 b2 l1 l2).objs.size].toArray}:=aO _ rfl;have k4:∀c o,(zH4 s.heap b1 b2 l1 l2).get? c=aa o->(zH5 s.heap b1 b2 l1 l2).get? c=aa o:=λc o e=>aw _ e
 have k3:=λc o e=>k4 c o<|aw _ e
 have k2:=λc o e=>k3 c o<|aw _ e
 have k1:=λc o e=>k2 c o<|aw _ e
 have g4:=k4 _ _<|aO (zH3 s.heap b1 b2 l1 l2) rfl;have g3:=k3 _ _<|aO (zH2 s.heap b1 b2 l1 l2) rfl;have g2:=k2 _ _<|aO (zH1 s.heap b1 l1) rfl;have g1:=k1 _ _<|aO s.heap rfl;rw[z2,z3,z4]at g5;rw[z1,z2]at g3;rw[z3]at g4;rw[z1]at g2;rw[z4];have src:∀b l it,(zH5 s.heap b1 b2 l1 l2).get? it=aa (YH b l)->Src b (zH5 s.heap b1 b2 l1 l2) it l 0:=λb l it e=>by
  cases b
  .exact#[_,e,rfl,rfl]
  .exact#[_,e,rfl,rfl]
 exact#[#[_,g5,rfl],h _ _ rfl #[g5,g3,#[_,_,g4],src b1 l1 _ g1,src b2 l2 _ g2] λc o e=>k1 c o<|aw _ e]
open Ev (E Sm Fn Bop Cop Ty Bf Mf)
def Wi{X:Cx}{pq:List (aE×fD)}{Z:L2.St}{H:Hp}{s:ay}{h':cw}{t':Nat}{ch:List aE}(I:Inv X pq Z H s)(k:∀b o,b∉ch->s.heap.get? b=aa o->h'.get? b=aa o)(hf:∀b∈ch,Vn X pq H b):Inv X pq Z H {s with heap:=h',toks:=t' }:=by
 have nit:∀b u,H b=aa u->b∉ch:=λb u e z=>by have:=(hf b z).1;rw[e]at this;cases this
 refine I.step (g':=s.gens) (d':=s.drawn) (λb hb=>?_) (λb o _ _ hc e _=>k b o hc e) (λb o _ _ hc e _=>#[o.slots,k b o hc e]) (λ_ _ _ _ n=>n) (λb o hc e=>#[o,k b o hc e]) (λ_ _ e=>e) (λ_ _ _ e=>e) (λb ps e=>#[#[],by rw[e];simp]) (λm hm=>?_) (λb u e=>?_) I.bare
 .exact#[(hf b hb).2.2.2.1,(hf b hb).2.1,(hf b hb).2.2.2.2.1,(hf b hb).2.2.2.2.2]
 .obtain⟨o,es,ep,ho,r⟩:=hm
  exact#[o,es,ep,k _ o (λz=>(hf _ z).2.1 rfl) ho,r]
 .refine(I.hok b u e).stay (λc v hc q=>k c v ?_ q) (λ_ q=>q) λ_ _ q=>q
  rcases hc with z|z
  .rw[z];exact nit b u e
  .exact nit c _ z
def Jq{h:cw}{o o':fD}{b:aE}(e:(h.push o').get? b=aa o)(n:b≠h.objs.size):h.get? b=aa o:=by
 unfold cw.get? cw.push at *;simp only[Array.getElem?_push]at e;rw[T8 n]at e;exact e
def XY{a b:Nat}(h:a<b\/b<a):(a:aE)≠b:=λe=>by
 have e':=e;omega
def Sq(b:Bool)(K:am)(H:Hp)(l:aE)(xs:List V):Prop:=match b with
 |true=>SqL K H l xs
 |false=>SqT K H l xs
def Xk(I:Inv X pq Z H s)(h:Sq b X.K H l xs):∃its:List au,Vals xs its/\YT b s.heap l its.toArray:=by
 cases b
 .obtain⟨its,r,p,_⟩:=I.tuple h;exact#[its,r,p]
 .obtain⟨its,r,p,_⟩:=I.list h;exact#[its,r,p.isList]
def x6(I:Inv X pq Z H s)(h:Sq b X.K H l xs)(h':Sq b X.K H l ys):xs=ys:=by
 cases b
 .exact I.tuple_inj h h'
 .exact I.list_inj h h'
def Uh(x:YT b h l xs):l<h.objs.size:=by
 cases b
 .obtain⟨o,ho,_⟩:=x;exact aT ho
 .obtain⟨o,ho,_⟩:=x;exact aT ho
def Itz(K:am)(b1 b2:Bool)(l1 l2:aE):It:=
 #[λi H=>∃xs ys x y,Sq b1 K H l1 xs/\Sq b2 K H l2 ys/\xs[i]?=aa x/\ys[i]?=aa y,
  λi H v H'=>∃T x y,(∀xs,Sq b1 K H l1 xs->xs[i]?=aa x)/\(∀ys,Sq b2 K H l2 ys->ys[i]?=aa y)/\H T=af/\H'=upd H T (.tup [x,y])/\v=.ref T,
  λi H=>∃xs ys,Sq b1 K H l1 xs/\Sq b2 K H l2 ys/\(xs.length<=i\/ys.length<=i)]
def Za4{P:bB}{w:bS}{K:am}{elts:List Expr}{kk:Nat}{tp:fV}{b1 b2:Bool}{z TI TO i1 i2 l1 l2:aE}(D:mV z TI TO i1 i2 l1 l2) :
  Turn P w K (.Tuple elts kk tp) (Itz K b1 b2 l1 l2) [z,TI,TO,i1,i2] z (λi h=>ZipSt b1 b2 z TI TO i1 i2 l1 l2 i .none h) where
 mem:=by simp
 obj:=λi h st b hb=>by
  simp only[aB,bQ,or_false]at hb;obtain⟨a,c,hTO⟩:=st.to;rcases hb with e|e|e|e|e<;>subst e
  .exact#[_,st.zp,λv q=>by cases q]
  .exact#[_,st.ti,λv q=>by cases q]
  .exact#[_,hTO,λv q=>by cases q]
  .exact st.s1.obj
  .exact st.s2.obj
 keep:=λi h h' st k=>by
  obtain⟨a,c,hTO⟩:=st.to;exact#[k z (by simp) _ st.zp,k TI (by simp) _ st.ti,#[a,c,k TO (by simp) _ hTO],st.s1.keep λo e=>k i1 (by simp) o e,st.s2.keep λo e=>k i2 (by simp) o e]
 item:=by
  intro X hP hw hK hc i pq s Z H E I hf st hg;subst hP hw hK;obtain⟨xs,ys,x,y,hq1,hq2,hx,hy⟩:=hg;obtain⟨its,rv,o1⟩:=Xk I hq1;obtain⟨its2,rv2,o2⟩:=Xk I hq2;obtain⟨u,hu,ru⟩:=rv.get hx;obtain⟨u2,hu2,ru2⟩:=rv2.get hy;refine xI D st o1 o2 (x:=u) (y:=u2) (by simpa using hu) (by simpa using hu2) λh' Z' hT hk=>?_
  have hfree:=I.hok.fresh<|aJ _;have ltz:∀b∈[z,TI,TO,i1,i2],b≠s.heap.objs.size:=λb hb e=>by
   simp only[aB,bQ,or_false]at hb;obtain⟨a,c,hTO⟩:=st.to;rcases hb with q|q|q|q|q<;>subst q
   .exact T7 (aT st.zp) (by rw[e];exact bK _)
   .exact T7 (aT st.ti) (by rw[e];exact bK _)
   .exact T7 (aT hTO) (by rw[e];exact bK _)
   .obtain⟨o,ho,_⟩:=st.s1.obj;exact T7 (aT ho) (by rw[e];exact bK _)
   .obtain⟨o,ho,_⟩:=st.s2.obj;exact T7 (aT ho) (by rw[e];exact bK _)
  have IA:Inv X pq Z (upd H s.heap.objs.size<|.tup [x,y]) {s with heap:=s.heap.push {cls:=.type "tuple",data:=.seq [u,u2].toArray},toks:=s.toks}:=
   I.laid (λb o e=>aw _ e) (aJ _) #[by show 2<=bn;decide,[u,u2],.cons ru<|.cons ru2 .nil,lR _ _]
  have hf2:∀b∈[z,TI,TO,i1,i2],Vn X pq (upd H s.heap.objs.size<|.tup [x,y]) b:=λb hb=>#[by rw[Zj<|ltz b hb];exact(hf b hb).1,(hf b hb).2]
  have IB:Inv X pq Z (upd H s.heap.objs.size<|.tup [x,y]) {s with heap:=h',toks:=s.toks}:=by
   refine Wi (s:={s with heap:=s.heap.push {cls:=.type "tuple",data:=.seq [u,u2].toArray},toks:=s.toks}) (ch:=[z,TO,i1,i2]) IA (λb o hb e=>?_) λb hb=>hf2 b (by simp only[aB,bQ,or_false]at hb ⊢;rcases hb with q|q|q|q<;>simp[q])
   by_cases hbs:b=s.heap.objs.size
   .subst hbs
    have e':=e;rw[aO _ rfl]at e';cases e';exact hT
   .refine hk b o hb ?_
    have e':=e;have hlt:=aT e';rw[dJ]at hlt;exact Jq e' hbs
  refine#[.ref s.heap.objs.size,rfl,wpAny_letOwnedTupleGo_zip Z'.zp λh2 hz2 hs2=>?_]
  have IC:Inv X pq Z (upd H s.heap.objs.size<|.tup [x,y]) {s with heap:=h2,toks:=s.toks}:=Wi (s:={s with heap:=h',toks:=s.toks}) (ch:=[z]) IB (λb o hb e=>(hs2.2 b<|by simpa using hb).trans e) λb hb=>hf2 b (by simp only[aK]at hb;simp[hb])
  obtain⟨a,c,hTO⟩:=Z'.to;refine#[.ref s.heap.objs.size,_,IC,rfl,#[_,x,y,λzs hz=>by rw[x6 I hz hq1];exact hx,λzs hz=>by rw[x6 I hz hq2];exact hy,hfree,rfl,rfl],?_,λb hb=>(hf2 b hb).1]
  exact#[hz2,hs2.extBut _ _ D.TIz Z'.ti,#[a,c,hs2.extBut _ _ D.TOz hTO],Z'.s1.ext hs2.extBut D.i1z,Z'.s2.ext hs2.extBut D.i2z]
 done:=by
  intro X hP hw hK hc i pq s Z H E I hf st hg;subst hP hw hK;obtain⟨xs,ys,hq1,hq2,hend⟩:=hg;obtain⟨its,rv,o1⟩:=Xk I hq1;obtain⟨its2,rv2,o2⟩:=Xk I hq2;have e1:=rv.length;have e2:=rv2.length;refine U0 (I.ok.hd hc) D st o1 o2 (by rcases hend with q|q;exact .inl (by simp;omega);exact .inr<|by simp;omega) λh' hk=>#[rfl,Wi (t':=s.toks) (ch:=[z,TO,i1,i2]) I (λb o hb e=>hk b o hb e) λb hb=>hf b (by simp only[aB,bQ,or_false]at hb ⊢;rcases hb with q|q|q|q<;>simp[q])]
 self:=λ_ _ _ _ _ st h=>wpAny_pyIter_zip st.zp h
def Zgk(K:am)(ta:TA):TI:=λZ H R=>ta Z H λvs H1=>∃b1 b2 l1 l2,vs=[.ref l1,.ref l2]/\(∃xs,Sq b1 K H1 l1 xs)/\(∃ys,Sq b2 K H1 l2 ys)/\R (Itz K b1 b2 l1 l2) H1
def Ze8{a b:Expr}{ta:TA}{p pos:fV}(hg:Gl X "zip")(hm:X.mg "zip" = af)(ha:PA X [a,b] ta)(hs:aA [a,b] X.env=[(al,cr a X.env),(al,cr b X.env)]:=by rfl)(hs2:aA [b] X.env=[(al,cr b X.env)]:=by rfl) :
  PI X (.Tuple elts kk tp) (.Call (.Name "zip" p) [a,b] [] pos) (Zgk X.K ta):=by
 intro pq s Z H R I h;refine rg<|YM I hg hm (by rfl)<|bT (thn (ha pos pq s Z H _ I h) λus s1 #[vs,H1,I1,r1,q1]=>?_) (by rw[hs,hs2])<|by rw[hs2];rfl
 obtain⟨b1,b2,l1,l2,e,⟨xs,hq1⟩,⟨ys,hq2⟩,q⟩:=q1;subst e;cases r1 with
 |cons r rr=>
  cases rr with
  |cons r' rr=>
   cases rr;cases r;cases r';obtain⟨its,rv,o1⟩:=Xk I1 hq1;obtain⟨its2,rv2,o2⟩:=Xk I1 hq2;have lt1:=Uh o1;have lt2:=Uh o2;refine Zbw o1 o2 λh' n hn Y hk=>?_
   have I2:=I1.kept (t':=s1.toks) hk
   have q1:(l1:Nat)<n:=by rw[hn];exact lt1
   have q2:(l2:Nat)<n:=by rw[hn];exact lt2
   have D:mV (n+4) (n+2) (n+3) n (n+1) l1 l2:=by constructor<;>first|exact XY (by omega)|exact XY<|.inl<|bt q1<|fI n _|exact XY<|.inl<|bt q2<|fI n _|exact XY<|.inl q1|exact XY<|.inl q2
   refine wpAny_pyIter_zip Y.zp #[n+4,[n+4,n+2,n+3,n,n+1],_,_,H1,rfl,I2,Za4 D,Y,λb hb=>?_,q]
   have hbn:s1.heap.objs.size<=b:=by
    rw[<-hn];simp only[aB,bQ,or_false]at hb;rcases hb with e|e|e|e|e<;>rw[e]
    .exact fI n 4
    .exact fI n 2
    .exact fI n 3
    .exact aJ n
    .exact fI n 1
   exact I1.fpOk hbn<|I1.hok.fresh hbn
def Side(K:am)(U:Mx)(H:Hp)(wk:List D)(b:Bool)(l:aE):Prop:=∀ρ' H',Lat U H ρ' H'->∃vs,Sq b K H' l vs/\Rq ρ' H' wk vs
def Ga{K:am}{U:Mx}{H:Hp}{x:D}{v:V}{wk:List D}(hk:U.K=K)(r:Rep U H x v)(h:Pv.YN x=aa wk):∃b l,v=.ref l/\(∃xs,Sq b K H l xs)/\Side K U H wk b l:=by
 cases x with
 |tup ds=>
  obtain⟨a,xs,rfl,hp,rs⟩:=r.tup';cases h;exact#[al,a,rfl,#[xs,SqT.of hp],λρ' H' f=>#[xs,SqT.of (f.keep a _ hp λ_ z=>by cases z),rs.lat f]]
 |lst ds=>
  obtain⟨a,xs,rfl,hp,hx,rs⟩:=r.lst';cases h;exact#[ak,a,rfl,#[xs,SqL.of hp],λρ' H' f=>#[xs,SqL.of<|f.keep a _ hp λ_ _=>hx,rs.lat f]]
 |scr ns=>
  obtain⟨a,rfl,hp⟩:=r.scr';cases h;rw[hk]at hp;refine#[ak,a,rfl,#[_,hp.sq],λρ' H' f=>#[_,?_,Rq.ints ns]]
  rcases hp with⟨o,hp⟩|hp
  .exact .inl<|.inr #[o,f.keep a _ hp λ_ z=>by cases z]
  .exact .inr hp
 |_=>exact Ev.nos h
def ZaH{K:am}{U:Mx}{H:Hp}{v w:List D}{b1 b2:Bool}{l1 l2:aE}(h1:Side K U H v b1 l1)(h2:Side K U H w b2 l2):WRel K U H ((v.zip w).map λp=>.tup [p.1,p.2]) (Itz K b1 b2 l1 l2) where
 go:=λi ρ' S' H' f st hi=>by
  obtain⟨xs,q1,r1⟩:=h1 ρ' H' f;obtain⟨ys,q2,r2⟩:=h2 ρ' H' f;have hi':i<rX v.length w.length:=by simpa using hi
  obtain⟨x,g1,rx⟩:=r1.get (ai (show i<v.length by omega))
  obtain⟨y,g2,ry⟩:=r2.get (ai (show i<w.length by omega))
  refine#[#[xs,ys,x,y,q1,q2,g1,g2],λu H'' #[T,x',y',e1,e2,hT,eH,eu]=>?_]
  subst eH eu;have ex:=(e1 xs q1).symm.trans g1;have ey:=(e2 ys q2).symm.trans g2;cases ex;cases ey;refine#[Zw hT,st.fresh hT,λd hd=>?_]
  have hz:(v.zip w)[i]?=aa (v[i],w[i]):=gI.mpr #[ai (by omega),ai<|by omega]
  rw[aQ,hz]at hd;cases hd;exact Xe Zn<|Rq.cons (rx.mono<|Zw hT)<|Rq.cons (ry.mono<|Zw hT) Rq.nil
 stop:=λρ' S' H' f st=>by
  obtain⟨xs,q1,r1⟩:=h1 ρ' H' f;obtain⟨ys,q2,r2⟩:=h2 ρ' H' f;refine#[xs,ys,q1,q2,?_];show xs.length<=((v.zip w).map λp=>Pv.V.tup [p.1,p.2]).length\/_
  rw[r1.length,r2.length,ax,dP];omega
section
variable{X:Cx}{xw:Nat->Hp->Prop}{C:Calls}{a b:Expr}{i j:E}{pos p tp:fV}{elts:List Expr}{kk:Nat}
def xJ(hm:X.mg "zip" = af)(ha:CA X xw C [a,b] [i,j])(hg:Gl X "zip")(hs:aA [a,b] X.env=[(al,cr a X.env),(al,cr b X.env)])(hs2:aA [b] X.env=[(al,cr b X.env)]) :
  CW X xw C (.Tuple elts kk tp) (.Call (.Name "zip" p) [a,b] [] pos) (.zip i j):=
 PI.imp (Ze8 hg hm ha hs hs2) λZ H Q #[U,l,S,st,lr,h]=>Zag st lr h λx y S1 ρ1 H1 v u st1 rv ru h1=>by
  cases e1:Pv.YN x with
  |none=>rw[e1]at h1;exact False.elim h1
  |some v1=>
   cases e2:Pv.YN y with
   |none=>rw[e1,e2]at h1;exact False.elim h1
   |some v2=>
    rw[e1,e2]at h1;obtain⟨b1,l1,rfl,s1,d1⟩:=Ga st1.hk rv e1;obtain⟨b2,l2,rfl,s2,d2⟩:=Ga st1.hk ru e2;exact#[b1,b2,l1,l2,rfl,s1,s2,End.ok h1 st1<|ZaH d1 d2]
end
def Jn(hh:A.handled=af)(b:Bool)(it l:aE)(hne:l≠it)(xs:Array au) :
  Draws prog w A it [it,l] xs.size (λi v=>xs[i]?=aa v) (λi h=>Src b h it l i/\YT b h l xs) where
 live:=λ_ _ st=>let #[o,ho,_]:=st.1.obj;#[o,ho]
 frame:=λ_ _ _ st hk=>#[st.1.keep λo e=>hk it (by simp) o e,st.2.keep λo e=>hk l (by simp) o e]
 item:=λi s Q E hi st hQ=>Vt st.1 st.2 (bH hi) λh' hit' hs'=>hQ _ h' s.toks (bH hi) #[hit',st.2.keep λo e=>hs'.extBut _ o hne e] hs'
 done:=λs Q E st hE=>GO hh st.1 st.2 (mn<|aJ _) hE
def Ite(K:am)(b:Bool)(l:aE):It:=
 #[λi H=>∃xs x,Sq b K H l xs/\xs[i]?=aa x,
  λi H v H'=>∃T x,(∀xs,Sq b K H l xs->xs[i]?=aa x)/\H T=af/\H'=upd H T (.tup [.int i,x])/\v=.ref T,
  λi H=>∃xs,Sq b K H l xs/\xs.length=i]
def qC{P:bB}{w:bS}{K:am}{elts:List Expr}{kk:Nat}{tp:fV}{b:Bool}{e it l:aE}(hei:e≠it)(hle:l≠e)(hli:l≠it) :
  Turn P w K (.Tuple elts kk tp) (Ite K b l) [e,it] e (λi h=>(∃old,IsEnum h e it i old)/\Src b h it l i) where
 mem:=by simp
 obj:=λi h st c hc=>by
  simp only[aB,bQ,or_false]at hc;obtain⟨⟨old,he⟩,hs⟩:=st;rcases hc with q|q<;>subst q
  .exact#[_,he,λv q=>by cases q]
  .exact hs.obj
 keep:=λi h h' st k=>by
  obtain⟨⟨old,he⟩,hs⟩:=st;exact#[#[old,k e (by simp) _ he],hs.keep λo q=>k it (by simp) o q]
 item:=by
  intro X hP hw hK hc i pq s Z H E I hf st hg;subst hP hw hK;obtain⟨xs,x,hq,hx⟩:=hg;obtain⟨its,rv,o1⟩:=Xk I hq;obtain⟨⟨old,he⟩,hs⟩:=st;obtain⟨u,hu,ru⟩:=rv.get hx;have hlt:i<its.toArray.size:=by
   have:=(aF.mp hu).1
   simpa using this
  have hh:X.A.in1.handled=af:=I.ok.hd hc;refine wpAny_pyNext_enum_itemD (Jn hh b it l hli its.toArray) he #[hs,o1] hlt hei (by simp only[aB,bQ,or_false,not_or];exact#[hei,Ne.symm hle]) λx' h' tk hP ho hst hT hsz hk=>?_
  have ex:x'=u:=by
   have:its.toArray[i]?=aa u:=by simpa using hu
   rw[this]at hP;exact(aq hP).symm
  subst ex;have hfree:=I.hok.fresh<|aJ _;have ltz:∀c∈[e,it],c≠s.heap.objs.size:=λc hc q=>by
   simp only[aB,bQ,or_false]at hc;rcases hc with z|z<;>subst z
   .exact T7 (aT he) (by rw[q];exact bK _)
   .obtain⟨o,ho,_⟩:=hs.obj;exact T7 (aT ho) (by rw[q];exact bK _)
  have IA:Inv X pq Z (upd H s.heap.objs.size<|.tup [.int i,x]) {s with heap:=s.heap.push {cls:=.type "tuple",data:=.seq [.int i tk,x'].toArray},toks:=tk+1}:=
   I.laid (λc o q=>aw _ q) (aJ _) #[by show 2<=bn;decide,[.int i tk,x'],.cons #[tk,rfl]<|.cons ru .nil,lR _ _]
  have hf2:∀c∈[e,it],Vn X pq (upd H s.heap.objs.size<|.tup [.int i,x]) c:=λc hc=>#[by rw[Zj<|ltz c hc];exact(hf c hc).1,(hf c hc).2]
  have IB:Inv X pq Z (upd H s.heap.objs.size<|.tup [.int i,x]) {s with heap:=h',toks:=tk+1}:=by
   refine Wi (s:={s with heap:=s.heap.push {cls:=.type "tuple",data:=.seq [.int i tk,x'].toArray},toks:=tk+1}) (ch:=[e,it]) IA (λc o hc q=>?_) hf2
   by_cases hcs:c=s.heap.objs.size
   .subst hcs
    have q':=q;rw[aO _ rfl]at q';cases q';exact hT
   .simp only[aB,bQ,or_false,not_or]at hc
    exact hk c o hc.1 hc.2<|Jq q hcs
  refine#[.ref s.heap.objs.size,rfl,wpAny_letOwnedTupleGo_enum ho λh2 he2 hs2=>?_]
  have IC:Inv X pq Z (upd H s.heap.objs.size<|.tup [.int i,x]) {s with heap:=h2,toks:=tk+1}:=Wi (s:={s with heap:=h',toks:=tk+1}) (ch:=[e]) IB (λc o hc q=>(hs2.2 c<|by simpa using hc).trans q) λc hc=>hf2 c (by simp only[aK]at hc;simp[hc])
  refine#[.ref s.heap.objs.size,_,IC,rfl,#[_,x,λzs hz=>by rw[x6 I hz hq];exact hx,hfree,rfl,rfl],#[#[x',by simpa using he2],hst.1.ext hs2.extBut<|Ne.symm hei],λc hc=>(hf2 c hc).1]
 done:=by
  intro X hP hw hK hc i pq s Z H E I hf st hg;subst hP hw hK;obtain⟨xs,hq,hend⟩:=hg;obtain⟨its,rv,o1⟩:=Xk I hq;obtain⟨⟨old,he⟩,hs⟩:=st;have e1:=rv.length;have hh:X.A.in1.handled=af:=I.ok.hd hc;have en:i=its.toArray.size:=by simp;lia
  subst en;exact wpAny_pyNext_enum_endD (Jn hh b it l hli its.toArray) he #[hs,o1] λh' hx=>#[rfl,Wi (t':=s.toks) (ch:=[e,it]) I (λc o hc q=>hx c o (λz=>hc<|by simp[z]) q) hf]
 self:=λ_ _ _ _ _ st h=>by
  obtain⟨⟨old,he⟩,_⟩:=st;exact oC he h
section
variable{prog:bB}{w:bS}{A:cx}{E:au->ay->Prop}{s:ay}
def Zaa(l:aE)(items:Array au)(n:Nat)(dct:Option aE)(sl:Array (Option au)) :
  rq (dZ.«enumerate.__new__» #[[.type "enumerate",.ref l],[]]) (λ_ R s=>s.heap.get? l=aa {cls:=.type "tuple",dict:=dct,data:=.seq items n,slots:=sl}/\
   R (.ok<|.ret<|.ref (s.heap.push<|YH al l).objs.size) {s with heap:=(s.heap.push<|YH al l).push {cls:=.type "enumerate",data:=.fields [.none,.bool al,.ref s.heap.objs.size,fM 0,.none,.none].toArray}}):=
 .of_wp λprog w A R s h=>by
  obtain⟨hp,g,d,tk,os⟩:=s;obtain⟨hl,h⟩:=h;have hsub:=sub_enumerate;have hL:cw.IsTuple (ay.heap #[hp,g,d,tk,os]) l items:=#[_,hl,rfl,n,rfl]
  wp_walk using gQ hl;refine wpAny_stack_any λst=>aC ?_;split
  .rename_i c _ _ _ _ _;cases(c == au.type "enumerate")<;>(wp_walk using gQ hl,gZ hL;exact#[_,rfl,h])
  .wp_walk using gQ hl,gZ hL;exact#[_,rfl,h]
def qv{Q:au->ay->Prop}(hL:YT b s.heap l xs)
  (h:∀h' n,n=s.heap.objs.size->IsEnum h' (n+1) n 0 .none->Src b h' n l 0->(∀c o,s.heap.get? c=aa o->h'.get? c=aa o)->Q (.ref<|n+1) {s with heap:=h' }):ba (aV prog w) A (call (.type "enumerate") [.ref l]) Q E s:=by
 cases b with
 |true=>exact call_enumerate_list hL λh' a1 a2 _ a4=>h h' _ rfl a1 a2 a4
 |false=>
  obtain⟨⟨c,dct,dt,sl⟩,hl,hc,n,hd⟩:=hL;simp only at hc hd;subst hc hd;refine callType_new F.called_enumerate (by decide) (F.typeCall_enumerate_1 _) (F.newCall_enumerate_1 _) (λobj=>F.args_object_init_2 obj _) F.entry_enumerate_new (Zaa l xs n dct sl) #[hl,?_]
  have hz:(s.heap.push<|YH al l).objs.size=s.heap.objs.size+1:=dJ ..;have g2:=aO (s.heap.push<|YH al l) (o:={cls:=.type "enumerate",data:=.fields [.none,.bool al,.ref s.heap.objs.size,fM 0,.none,.none].toArray}) rfl;have g1:((s.heap.push<|YH al l).push {cls:=.type "enumerate",data:=.fields [.none,.bool al,.ref s.heap.objs.size,fM 0,.none,.none].toArray}).get? s.heap.objs.size=aa (YH al l):=aw _<|aO _ rfl;rw[hz]at g2 ⊢;exact#[#[_,g2,rfl],h _ _ rfl g2 #[_,g1,rfl,rfl] λc o q=>aw _<|aw _ q]
end
def Zfx(K:am)(ta:TA):TI:=λZ H R=>ta Z H λvs H1=>∃b l,vs=[.ref l]/\(∃xs,Sq b K H1 l xs)/\R (Ite K b l) H1
def Zdo{a:Expr}{ta:TA}{p pos:fV}(hg:Gl X "enumerate")(hm:X.mg "enumerate" = af)(ha:PA X [a] ta)(hs:aA [a] X.env=[(al,cr a X.env)]:=by rfl):PI X (.Tuple elts kk tp) (.Call (.Name "enumerate" p) [a] [] pos) (Zfx X.K ta):=by
 intro pq s Z H R I h;refine rg<|YM I hg hm (by rfl)<|bT (thn (ha pos pq s Z H _ I h) λus s1 #[vs,H1,I1,r1,q1]=>?_) hs rfl
 obtain⟨b,l,e,⟨xs,hq⟩,q⟩:=q1;subst e;cases r1 with
 |cons r rr=>
  cases rr;cases r;obtain⟨its,rv,o1⟩:=Xk I1 hq;have lt1:=Uh o1;refine qv o1 λh' n hn he hs' hk=>?_
  have I2:=I1.kept (t':=s1.toks) hk
  have q1:(l:Nat)<n:=by rw[hn];exact lt1
  refine oC he #[n+1,[n+1,n],_,_,H1,rfl,I2,qC (XY<|.inr<|iT n) (XY<|.inl<|dL q1)<|XY<|.inl q1,#[#[_,he],hs'],λc hc=>?_,q]
  have hbn:s1.heap.objs.size<=c:=by
   rw[<-hn];simp only[aB,bQ,or_false]at hc;rcases hc with e|e<;>rw[e]
   .exact h8 n
   .exact aJ n
  exact I1.fpOk hbn<|I1.hok.fresh hbn
def ZaU{lo:Int}{n i:Nat}(h:i<n):(Pv.ZU lo n)[i]?=aa (.int<|lo+i):=by
 unfold Pv.ZU;rw[aQ,cO h];rfl
def qx{K:am}{U:Mx}{H:Hp}{w:List D}{b:Bool}{l:aE}(h1:Side K U H w b l):WRel K U H (((Pv.ZU 0 w.length).zip w).map λp=>.tup [p.1,p.2]) (Ite K b l) where
 go:=λi ρ' S' H' f st hi=>by
  obtain⟨xs,q1,r1⟩:=h1 ρ' H' f;have hi':i<w.length:=by
   rw[ax,dP,Q9]at hi;lia
  obtain⟨x,g1,rx⟩:=r1.get<|ai hi';refine#[#[xs,x,q1,g1],λu H'' #[T,x',e1,hT,eH,eu]=>?_]
  subst eH eu;have ex:=(e1 xs q1).symm.trans g1;cases ex;refine#[Zw hT,st.fresh hT,λd hd=>?_]
  have hz:((Pv.ZU 0 w.length).zip w)[i]?=aa (.int<|0+i,w[i]):=gI.mpr #[ZaU hi',ai hi'];rw[aQ,hz]at hd;cases hd;refine Xe Zn<|Rq.cons ?_<|Rq.cons (rx.mono<|Zw hT) Rq.nil;rw[show((0:Int)+i)=i by lia]
  exact ZK _
 stop:=λρ' S' H' f st=>by
  obtain⟨xs,q1,r1⟩:=h1 ρ' H' f;refine#[xs,q1,?_];show xs.length=(((Pv.ZU 0 w.length).zip w).map λp=>Pv.V.tup [p.1,p.2]).length
  rw[ax,dP,Q9,r1.length];lia
section
variable{X:Cx}{xw:Nat->Hp->Prop}{C:Calls}{a b:Expr}{i j:E}{pos p tp:fV}{elts:List Expr}{kk:Nat}
def Gw(hm:X.mg "enumerate" = af)(ha:CA X xw C [a] [i])(hg:Gl X "enumerate")(hs:aA [a] X.env=[(al,cr a X.env)]) :
  CW X xw C (.Tuple elts kk tp) (.Call (.Name "enumerate" p) [a] [] pos) (.enum i):=
 PI.imp (Zdo hg hm ha hs) λZ H Q #[U,l,S,st,lr,h]=>ZdV st lr h λx S1 ρ1 H1 v st1 r h1=>by
  cases e1:Pv.YN x with
  |none=>rw[e1]at h1;exact False.elim h1
  |some wk=>
   rw[e1]at h1;obtain⟨b1,l1,rfl,s1,d1⟩:=Ga st1.hk r e1;exact#[b1,l1,rfl,s1,End.ok h1 st1<|qx d1]
end
def JC(hh:A.handled=af)(b:Bool)(it l:aE)(hne:l≠it)(xs:Array au) :
  Walks prog w A it [it,l] [it] xs.size (λi v=>xs[i]?=aa v) (λi h=>Src b h it l i/\YT b h l xs):=by
 cases b
 .exact Walks.tuple hh it l hne xs
 .exact Walks.list hh it l hne xs
def uf{b:Bool}{h:cw}{l:aE}:Src b (h.push<|YH b l) h.objs.size l 0:=by
 cases b
 .exact#[_,aO _ rfl,rfl,rfl]
 .exact#[_,aO _ rfl,rfl,rfl]
theorem UI :∀{ds:List D}{is:List Int}{xs:List V},Pv.intsV ds=aa is->Rq U H ds xs->xs=is.map V.int
 |[],is,xs,h,r=>by cases h;rw[r];rfl
 |d::ds,is,xs,h,r=>by
  obtain⟨v,vs,rfl,a1,b1⟩:=r;obtain⟨n,r,rfl,e,rfl⟩:=VR h;rw[a1.int',UI e b1];rfl
def Uz(f:Nat->Int)(n:Nat):o9 f (n+1)=o9 f n+f n:=rfl
def yk:∀(is:List Int),o9 (λj=>is.getD j 0) is.length=is.sum:=by
 have gen:∀(is:List Int)(n:Nat),n<=is.length->o9 (λj=>is.getD j 0) n=(is.take n).sum:=by
  intro is n
  induction n with
  |zero=>intro _;rfl
  |succ n ih=>
   intro h;rw[Uz,ih (by lia),lz,List.sum_append]
   have:is[n]?=aa is[n]:=ai (by lia)
   simp[this]
 intro is;rw[gen is is.length<|aJ _,gD]
theorem Vp(h:∀j,-M<=f j/\f j<=M)(hM:0<=M):∀n:Nat,-(M*n)<=o9 f n/\o9 f n<=M*n
 |0=>by rw[show o9 f 0=0 from rfl];simp
 |n+1=>by
  obtain⟨a,b⟩:=Vp h hM n;obtain⟨c,d⟩:=h n;rw[Uz];have:M*((n+1:Nat):Int)=M*n+M:=by rw[mB,Int.mul_add];simp
  rw[this];lia
def u4(hc:X.calm=ak):ZG X (.builtin "sum") (λvs H Q=>∃U ds v is,vs=[v]/\Rep U H (.lst ds) v/\Pv.intsV ds=aa is/\Ev.Zbb is=ak/\Q (.int is.sum) H):=by
 intro pq s Z H vs us Q I r h;obtain⟨U,ds,v,is,rfl,r1,hb,hok,q⟩:=h;obtain⟨l,xs,rfl,hx,_,rx⟩:=r1.lst';obtain⟨u,rfl,ru⟩:=Wv r;cases ru;have hq:Sq ak X.K H l xs:=SqL.of hx;obtain⟨its,rv,o1⟩:=Xk I hq;have hlt:=Uh o1;have ex:=UI hb rx;subst ex;have hlen:its.toArray.size=is.length:=by rw[az,<-rv.length,ax]
 obtain⟨k1,k2⟩:=(aI _ _).mp hok;have k1':=T6 k1;have bd:∀j,-1099511627776<=is.getD j 0/\is.getD j 0<=1099511627776:=λj=>by
  cases e:is[j]? with
  |none=>rw[aD,e];simp
  |some y=>
   have:=T6<|aX.mp k2 y<|cU e;rw[aD,e];exact this
 refine call_sum_walk<|UW o1 #[s.heap.objs.size,[s.heap.objs.size,l],[s.heap.objs.size],its.toArray.size,_,_,λj=>is.getD j 0,rfl,JC (A:=X.A.in1) (I.ok.hd hc) ak s.heap.objs.size l (bp hlt) its.toArray,#[uf,o1.keep λo q=>aw _ q],λb hb=>?_,λj v hv=>?_,λj hj=>?_,?_]
 .rw[dJ]
  simp only[aB,bQ,or_false]at hb;rcases hb with q|q<;>rw[q]
  .exact iT _
  .exact dL hlt
 .have hj:its[j]?=aa v:=by simpa using hv
  have jl:j<is.length:=by
   have:=(aF.mp hj).1;rw[<-rv.length,ax]at this;exact this
  obtain⟨u',g',ru'⟩:=rv.get (by rw[aQ,ai jl];rfl)
  rw[hj]at g';cases g';obtain⟨t,e⟩:=ru';exact#[t,by rw[e];show lN is[j] t=lN (is.getD j 0) t;rw[aD,ai jl];rfl]
 .have b1:=bd j
  have b2:=Vp bd (by lia)<|j+1
  have jl:j+1<=1000:=by lia
  have b3:(1099511627776:Int)*((j+1:Nat):Int)<=1099511627776*1000:=Int.mul_le_mul_of_nonneg_left (by lia) (by lia)
  refine#[show InLong (is.getD j 0)from ?_,?_]<;>(unfold InLong;lia)
 .intro h' tk t' hk
  rw[hlen,yk];exact#[.int is.sum,H,I.kept (t':=tk) λb o e=>hk b o (λhm=>by
   have:b=s.heap.objs.size:=by simpa using hm
   exact T7 (this▸aT e)<|bK _)<|aw _ e,#[t',rfl],q]
def vH(hc:X.calm=ak):ZG X (.builtin "sum") (UB X.K xw .sum):=ZG.imp (u4 hc)<|by
 rintro vs H Q ⟨U,S,ds,st,r,h⟩;obtain⟨d,v,z,rfl,r1,hz,h⟩:=Wx h r;cases d with
 |lst ds=>
  obtain⟨is,hb,hz⟩:=bZ.mp hz;split at hz
  .cases hz;exact#[U,ds,v,is,rfl,r1,hb,‹_›,End.ok h st<|ZK _]
  .cases hz
 |_=>exact Ev.nos hz
section
variable{X:Cx}{xw:Nat->Hp->Prop}{C:Calls}{p:fV}
def Zdh{n:Int}{t:rW}{x:bi}(hm:X.mg x=aa (.int n t))(hg:Gl X x:=by rfl)(hd:(x == ("__debug__" : bi))=al:=by decide):CE X xw C (.Name x p) (.c<|.int n):=
 PE.imp (vq (v:=.int n) hg hm #[t,rfl] hd)<|by rintro Z H Q ⟨U,l,S,st,lr,h⟩;exact End.ok h st<|ZK n
end
end Sd
namespace Tq
open PySem PyProof.Rows
noncomputable def Yz:Bool->cp->Array cp->Nat->Nat->Nat->StateT bW oh (Option Nat):=sortPriv% PySem.Builtin.gallop
def xA(lf:Bool)(k:cp)(ar:Array cp)(bs n hn:Nat):Yz lf k ar bs n hn=(do
 let bd (i:Nat):StateT bW oh (Option Bool):=do
  let x <-gK ar (bs+i)
  if lf then lt' x k else return (<-lt' k x).map (!·)
 let mut la:=0
 let mut of:=1
 let mut lo:=0
 let mut hi:=0
 let aa rt <-bd hn|return af
 if rt then
  let mx:=n-hn
  for _ in [0:n] do
   if of>=mx then break
   let aa mo <-bd (hn+of)|return af
   if !mo then break
   la:=of
   of:=2*of+1
  lo:=hn+la+1
  hi:=hn+rX of mx
 else
  let mx:=hn+1
  for _ in [0:n] do
   if of>=mx then break
   let aa fo <-bd (hn-of)|return af
   if fo then break
   la:=of
   of:=2*of+1
  lo:=hn+1-rX of mx
  hi:=hn-la
 for _ in [0:n] do
  if lo>=hi then break
  let m:=lo+(hi-lo) / 2
  let aa mo <-bd m|return af
  if mo then lo:=m+1 else hi:=m
 return aa hi):=rfl
noncomputable abbrev BT:=Option (Option Nat)×Nat×Nat
def ZaP{F:Nat->BT->StateT bW oh (ForInStep BT)}{n:Nat}{τ:bW}{B:Nat->Bool}{Q:BT->bW->Prop}
  (hF:∀i lo hi (Q:ForInStep BT->bW->Prop),hi<=n->(lo>=hi->Q (.done (af,lo,hi)) τ)->(lo<hi->Q (.yield (af,if B (lo+(hi-lo) / 2)=ak then(lo+(hi-lo) / 2+1,hi)else(lo,lo+(hi-lo) / 2))) τ)->mP (aV prog w) A E s (F i (af,lo,hi)) Q τ)
  (mono:∀i j,i<=j->j<n->B j=ak->B i=ak)(hq:∀r,r<=n->(∀i,i<n->(B i=ak↔i<r))->Q (af,r,r) τ){lo hi:Nat}(h1:lo<=hi)(h2:hi<=n)(h3:∀i,i<lo->B i=ak)(h4:∀i,hi<=i->i<n->B i=al) :
  mP (aV prog w) A E s (nB [0:n] ((af,lo,hi):BT) F) Q τ:=by
 have fin:∀lo,lo<=n->(∀i,i<lo->B i=ak)->(∀i,lo<=i->i<n->B i=al)->Q (af,lo,lo) τ:=λlo a2 a4 a5=>hq _ a2 λi hi=>by
  refine#[λhB=>?_,a4 i]
  by_cases c:i<lo
  .exact c
  .rw[a5 i (by omega) hi]at hB;cases hB
 refine cP
  (I:=λi c st'=>st'=τ/\c.1=af/\c.2.1<=c.2.2/\c.2.2<=n/\c.2.2-c.2.1+i<=n/\(∀i,i<c.2.1->B i=ak)/\∀i,c.2.2<=i->i<n->B i=al) ?_ ?_ #[rfl,rfl,h1,h2,by dsimp only;omega,h3,h4]
 .rintro i ⟨r,lo,hi⟩ st' hi0 hin ⟨rfl,rfl,a1,a2,a3,a4,a5⟩
  dsimp only at a1 a2 a3 a4 a5 ⊢
  refine hF i lo hi _ a2 (λc=>?_) λc=>?_
  .have e:lo=hi:=by omega
   subst e;exact fin lo a2 a4 a5
  .cases hm:B (lo+(hi-lo) / 2)with
   |true=>
    simp only[if_true];exact#[trivial,trivial,by omega,a2,by omega,λj hj=>mono j _ (by omega) (by omega) hm,a5]
   |false=>
    simp only[cy,if_false];refine#[trivial,trivial,by omega,by omega,by omega,a4,λj hj hn=>?_]
    cases hj2:B j with|false=>rfl|true=>rw[mono _ j hj hn hj2]at hm;cases hm
 .rintro ⟨r,lo,hi⟩ st' ⟨rfl,rfl,a1,a2,a3,a4,a5⟩
  dsimp only at a1 a2 a3 a4 a5 ⊢
  have e:lo=hi:=by omega
  subst e;exact fin lo a2 a4 a5
def Zff{lf:Bool}{k:cp}{ar:Array cp}{bs n hn:Nat}{τ:bW}{B:Nat->Bool}{Q:Option Nat->bW->Prop}(hh:hn<n)
  (hb:∀i,i<n->∀Q:Option Bool->bW->Prop,Q (aa<|B i) τ->mP (aV prog w) A E s (do
   let x <-gK ar (bs+i)
   if lf then lt' x k else return (<-lt' k x).map (!·)) Q τ)
  (mono:∀i j,i<=j->j<n->B j=ak->B i=ak)(hq:∀r,r<=n->(∀i,i<n->(B i=ak↔i<r))->Q (aa r) τ):mP (aV prog w) A E s (Yz lf k ar bs n hn) Q τ:=by
 have no:∀{i j},i<=j->j<n->B i=al->B j=al:=λ{i j} h hj hi=>by
  cases q:B j with|false=>rfl|true=>rw[mono i j h hj q]at hi;cases hi
 rw[xA]
 dsimp only
 refine aM<|hb hn hh _ ?_
 dsimp only
 cases h0:B hn with
 |true=>
  rw[T9 rfl];refine aM (fq (cP
   (I:=λi (c:BT) st'=>st'=τ/\c.1=af/\c.2.1<c.2.2/\i<c.2.2/\hn+c.2.1<n/\B (hn+c.2.1)=ak)
   (Q:=λ(c:BT) st'=>st'=τ/\c.1=af/\c.2.1<c.2.2/\hn+c.2.1<n/\B (hn+c.2.1)=ak/\(n<=hn+c.2.2\/B (hn+c.2.2)=al)) ?_ ?_ #[rfl,rfl,by decide,by decide,hh,h0]) ?_)
  .rintro i ⟨r,la,f⟩ st' _ hin ⟨rfl,rfl,a1,a2,a3,a4⟩
   dsimp only at a1 a2 a3 a4 ⊢
   by_cases c:f>=n-hn
   .rw[T9 c]
    exact aW #[rfl,rfl,a1,a3,a4,.inl<|by dsimp only;omega]
   .rw[T8 c]
    refine aM<|hb _ (by omega) _ ?_
    dsimp only
    cases hm:B (hn+f)with|true=>exact aW #[rfl,rfl,by dsimp only;omega,by dsimp only;omega,by dsimp only;omega,hm]|false=>exact aW #[rfl,rfl,a1,a3,a4,.inr hm]
  .rintro ⟨r,la,f⟩ st' ⟨rfl,rfl,a1,a2,a3,a4⟩
   dsimp only at a1 a2 a3 a4 ⊢
   exact#[rfl,rfl,a1,a3,a4,.inl<|by omega]
  .rintro ⟨r,la,f⟩ st' ⟨rfl,rfl,a1,a3,a4,a5⟩
   dsimp only at a1 a3 a4 a5 ⊢
   refine aM (ZaP (n:=n) (B:=B) (λi lo hi Q h1 h2 h3=>by
    by_cases c:lo>=hi
    .simp only[T9 c];exact aW<|h2 c
    .simp only[T8 c]
     refine aM<|hb _ (by omega) _ ?_
     have h3:=h3 (by omega)
     cases hm:B (lo+(hi-lo) / 2)<;>(rw[hm]at h3;exact aW h3)) mono (λr hr hB=>aW<|hq r hr hB) (by omega) (by omega) (λi hi=>mono i _ (by omega) a3 a4) λi h1 h2=>?_)
   rcases a5 with a5|a5
   .omega
   .exact no (by omega) h2 a5
 |false=>
  rw[T8<|by simp]
  refine aM (fq (cP
   (I:=λi (c:BT) st'=>st'=τ/\c.1=af/\c.2.1<c.2.2/\i<c.2.2/\c.2.1<=hn/\B (hn-c.2.1)=al)
   (Q:=λ(c:BT) st'=>st'=τ/\c.1=af/\c.2.1<c.2.2/\c.2.1<=hn/\B (hn-c.2.1)=al/\(hn<c.2.2\/B (hn-c.2.2)=ak)) ?_ ?_ #[rfl,rfl,by decide,by decide,d4 _,h0]) ?_)
  .rintro i ⟨r,la,f⟩ st' _ hin ⟨rfl,rfl,a1,a2,a3,a4⟩
   dsimp only at a1 a2 a3 a4 ⊢
   by_cases c:f>=hn+1
   .rw[T9 c]
    exact aW #[rfl,rfl,a1,a3,a4,.inl<|by dsimp only;omega]
   .rw[T8 c]
    refine aM<|hb _ (by omega) _ ?_
    dsimp only
    cases hm:B (hn-f)with|true=>exact aW #[rfl,rfl,a1,a3,a4,.inr hm]|false=>exact aW #[rfl,rfl,by dsimp only;omega,by dsimp only;omega,by dsimp only;omega,hm]
  .rintro ⟨r,la,f⟩ st' ⟨rfl,rfl,a1,a2,a3,a4⟩
   dsimp only at a1 a2 a3 a4 ⊢
   exact#[rfl,rfl,a1,a3,a4,.inl<|by omega]
  .rintro ⟨r,la,f⟩ st' ⟨rfl,rfl,a1,a3,a4,a5⟩
   dsimp only at a1 a3 a4 a5 ⊢
   refine aM (ZaP (n:=n) (B:=B) (λi lo hi Q h1 h2 h3=>by
    by_cases c:lo>=hi
    .simp only[T9 c];exact aW<|h2 c
    .simp only[T8 c]
     refine aM<|hb _ (by omega) _ ?_
     have h3:=h3 (by omega)
     cases hm:B (lo+(hi-lo) / 2)<;>(rw[hm]at h3;exact aW h3)) mono (λr hr hB=>aW<|hq r hr hB) (by omega) (by omega) (λi hi=>?_) λi h1 h2=>no h1 h2 a4)
   rcases a5 with a5|a5
   .omega
   .exact mono i _ (by omega) (by omega) a5
abbrev Srt(R:B->B->Prop)(l:List B):Prop:=l.Pairwise R
abbrev lr(rk:B->Nat):B->B->Prop:=λx y=>rk x<rk y
abbrev gr(rk:B->Nat):B->B->Prop:=λx y=>rk y<rk x
structure ML(R:B->B->Prop)(T o ra rb:List B):Prop where
 perm:(o++ra++rb).Perm T
 so:Srt R o
 sa:Srt R ra
 sb:Srt R rb
 lt:∀x∈o,∀y,y∈ra\/y∈rb->R x y
def ML.as{T o xs ra rb:List B}(h:ML R T o (xs++ra) rb)(hx:∀x∈xs,∀y∈rb,R x y):ML R T (o++xs) ra rb:=by
 obtain⟨s1,s2,s3⟩:=dF.mp h.sa;refine#[by simpa[bF]using h.perm,dF.mpr #[h.so,s1,λx hx y hy=>h.lt x hx y<|.inl<|dE _ hy],s2,h.sb,λx hx2 y hy=>?_]
 rcases bD.mp hx2 with z|z
 .exact h.lt x z y<|hy.imp (bv _) id
 .rcases hy with hy|hy
  .exact s3 x z y hy
  .exact hx x z y hy
def ML.swap{T o ra rb:List B}(h:ML R T o ra rb):ML R T o rb ra:=by
 refine#[List.Perm.trans ?_ h.perm,h.so,h.sb,h.sa,λx hx y hy=>h.lt x hx y hy.symm]
 rw[bF,bF];exact List.perm_append_comm.append_left _
def ML.bs(h:ML R T o ra (xs++rb))(hx:∀x∈xs,∀y∈ra,R x y):ML R T (o++xs) ra rb:=(h.swap.as hx).swap
def ML.fin{T o ra:List B}(h:ML R T o ra []):(o++ra).Perm T/\Srt R (o++ra):=by
 have h':=ML.as (ra:=[]) (by simpa using h) λx _ y hy=>by cases hy
 exact#[by simpa using h'.perm,h'.so]
def ML.ne(h:ML R T o ra rb)(hT:(T.map rk).Nodup)(hx:x∈ra)(hy:y∈rb):rk x≠rk y:=by
 have n:=((h.perm.map rk).nodup_iff).mpr hT;rw[br,gh]at n;exact n.2.2 _ (eG<|bv _ hx) _<|eG hy
structure Od(prog:bB)(w:bS)(A:cx)(E:au->ay->Prop)(s:ay)(κ:gR)(In:cp->Prop)(rk:cp->Nat):Prop where
 ask:∀{x y:cp}{τ:bW}{Q:Option Bool->bW->Prop},In x->In y->kindOf τ=κ->Q (aa<|ag<|rk x<rk y) τ->mP (aV prog w) A E s (lt' x y) Q τ
def Sg(τ st':bW):Prop:=kindOf st'=kindOf τ/\bj st'=bj τ/\bo st'=bo τ/\gS st'=gS τ
section
variable{In:cp->Prop}
def ZF{Q:cp->bW->Prop}(h:ar[i]?=aa x)(hq:Q x τ):mP (aV prog w) A E s (gK ar i) Q τ:=by
 rw[elem'_eq,h];exact aW hq
def Wl{Q:Unit->bW->Prop}(hq:Q () τ):mP (aV prog w) A E s (liftM (oQ t):StateT bW oh Unit) Q τ:=wpS_lift<|eD #[rfl,hq]
theorem vt(O:Od prog w A E s κ In rk){Q:Option Nat->bW->Prop}(hk:kindOf τ=κ)(ik:In k)(hh:h0<n)(hn:i+n<=ar.size)(ia:∀x∈ar.toList,In x)
  (so:Srt (lr rk) ((ar.toList.drop i).take n))(ne:∀x∈(ar.toList.drop i).take n,rk x≠rk k)
  (hq:∀r,r<=n->(∀x∈((ar.toList.drop i).take n).take r,rk x<rk k)->(∀x∈((ar.toList.drop i).take n).drop r,rk k<rk x)->Q (aa r) τ):mP (aV prog w) A E s (Yz lf k ar i n h0) Q τ:=by
 generalize hl:(ar.toList.drop i).take n=l at so ne hq;have ll:l.length=n:=by rw[<-hl,bC,bP,aS];lia
 have at_:∀j (hj:j<n),ar[i+j]?=aa (l[j]'(by lia)):=λj hj=>by
  have:ar.toList[i+j]?=aa (l[j]'(by lia)):=by
   subst hl;rw[gi,iC];exact ai _
  simpa using this
 have mem:∀j (hj:j<n),In (l[j]'(by lia)):=λj hj=>ia _ (by
  have h2:∀x∈l,x∈ar.toList:=λx hx=>by rw[<-hl]at hx;exact cG<|db hx
  exact h2 _<|bU _)
 have hB:∀j (hj:j<n),((l[j]?).any λx=>ag<|rk x<rk k)=ag (rk (l[j]'(by lia))<rk k):=λj hj=>by
  rw[ai<|by lia];rfl
 refine Zff (B:=λj=>(l[j]?).any λx=>ag<|rk x<rk k) hh (λj hj Q hQ=>?_) (λa b hab hb h=>?_) λr hr hr2=>hq r hr (λx hx=>?_) λx hx=>?_
 .rw[hB j hj]at hQ
  refine aM<|ZF (at_ j hj) ?_;cases lf with
  |true=>exact O.ask (mem j hj) ik hk hQ
  |false=>
   refine aM<|O.ask ik (mem j hj) hk<|aW ?_;have e:(!decide (rk k<rk (l[j]'(by lia))))=ag (rk (l[j]'(by lia))<rk k):=by
    have:=ne _<|bU (n:=j)<|by lia
    by_cases c:rk k<rk (l[j]'(by lia))
    .rw[T5 c,T4<|by lia];rfl
    .rw[T4 c,T5<|by lia];rfl
   show Q (aa<|!decide (rk k<rk (l[j]'(by lia)))) τ
   rw[e];exact hQ
 .rw[hB b hb]at h
  rw[hB a<|by lia]
  rcases Nat.lt_or_eq_of_le hab with c|c
  .have:=bI.mp so a b (by lia) (by lia) c
   have h:=T6 h;exact T5 (by lia)
  .subst c;exact h
 .obtain⟨j,hj,rfl⟩:=cg hx
  rw[bC]at hj;have:=(hr2 j<|by lia).mpr (by lia)
  rw[hB j<|by lia]at this
  rw[gi];exact T6 this
 .obtain⟨j,hj,rfl⟩:=cg hx
  rw[bP]at hj;rw[iC];have h1:=hr2 (r+j) (by lia)
  rw[hB _<|by lia]at h1
  have h2:=ne _<|bU (n:=r+j)<|by lia
  have h3:¬rk (l[r+j]'(by lia))<rk k:=λz=>T7 (h1.mp<|T5 z) (by lia)
  lia
end
noncomputable abbrev KA:=Array cp
noncomputable abbrev SM:=StateT bW oh
noncomputable def UC:KA->KA->SM KA:=sortPriv% PySem.Builtin.mergeLo
noncomputable def Jf:Nat->SM Unit:=sortPriv% PySem.Builtin.setMinGallop
def ZaO(g:Nat):Jf g=modify λs=>rC (kindOf s) (bj s) (bo s) g (gS s):=rfl
noncomputable abbrev dn(a b o:KA)(i j:Nat):KA:=o++a.extract i a.size++b.extract j b.size
noncomputable abbrev ls(a b o:KA)(i j:Nat):KA:=o++b.extract j b.size++a.extract i a.size
abbrev T2:=Option KA×KA×Nat×Nat×Nat×Nat
abbrev T3:=Option KA×KA×Nat×Nat×Nat×Nat×Nat
abbrev T1:=Option KA×KA×Nat×Nat×Nat
def F1(a b:KA)(g:Nat)(c:T2):SM (ForInStep T2):=do
 let o:=c.2.1
 let i:=c.2.2.1
 let j:=c.2.2.2.1
 let ca:=c.2.2.2.2.1
 let cb:=c.2.2.2.2.2
 let aa t <-lt' (<-gK b j) (<-gK a i)|return .done (aa<|dn a b o i j,o,i,j,ca,cb)
 if t then
  let o:=o.push<|<-gK b j
  let j:=j+1
  if j == b.size then return .done (aa<|dn a b o i j,o,i,j,0,cb+1)
  if cb+1>=g then return .done (af,o,i,j,0,cb+1)
  return .yield (af,o,i,j,0,cb+1)
 else
  let o:=o.push<|<-gK a i
  let i:=i+1
  if i+1 == a.size then return .done (aa<|ls a b o i j,o,i,j,ca+1,0)
  if ca+1>=g then return .done (af,o,i,j,ca+1,0)
  return .yield (af,o,i,j,ca+1,0)
def G3(a b:KA)(g ca cb i:Nat)(o:KA)(j:Nat):SM (ForInStep T3):=do
 let o:=o.push<|<-gK a i
 let i:=i+1
 if i+1 == a.size then return .done (aa<|ls a b o i j,o,i,j,g,ca,cb)
 if ca<7&&cb<7 then return .done (af,o,i,j,g,ca,cb)
 return .yield (af,o,i,j,g,ca,cb)
def G2(a b:KA)(g ca cb j:Nat)(o:KA)(i:Nat):SM (ForInStep T3):=do
 let o:=o.push<|<-gK b j
 let j:=j+1
 if j == b.size then return .done (aa<|dn a b o i j,o,i,j,g,ca,cb)
 let aa k <-Yz ak (<-gK a i) b j (b.size-j) 0|return .done (aa<|dn a b o i j,o,i,j,g,ca,cb)
 if k>0 then
  let o:=o++b.extract j (j+k)
  let j:=j+k
  if j == b.size then return .done (aa<|dn a b o i j,o,i,j,g,ca,k)
  else G3 a b g ca k i o j
 else G3 a b g ca k i o j
def G1(a b:KA)(o:KA)(i j ca cb g:Nat):SM (ForInStep T3):=do
 Jf g
 let aa k <-Yz al (<-gK b j) a i (a.size-i) 0|return .done (aa<|dn a b o i j,o,i,j,g,ca,cb)
 if k>0 then
  let o:=o++a.extract i (i+k)
  let i:=i+k
  if i+1 == a.size then return .done (aa<|ls a b o i j,o,i,j,g,k,cb)
  else if i == a.size then return .done (aa<|dn a b o i j,o,i,j,g,k,cb)
  else G2 a b g k cb j o i
 else G2 a b g k cb j o i
def F2(a b:KA)(c:T3):SM (ForInStep T3):=
 if c.2.2.2.2.1>1 then G1 a b c.2.1 c.2.2.1 c.2.2.2.1 c.2.2.2.2.2.1 c.2.2.2.2.2.2 (c.2.2.2.2.1-1)
 else G1 a b c.2.1 c.2.2.1 c.2.2.2.1 c.2.2.2.2.2.1 c.2.2.2.2.2.2 c.2.2.2.2.1
def F0(a b:KA)(c:T1):SM (ForInStep T1):=do
 let d <-nB [0:a.size+b.size] ((af,c.2.1,c.2.2.1,c.2.2.2.1,0,0):T2) λ_ d=>F1 a b c.2.2.2.2 d
 kZ d.1 (λ_=>do
  oQ "list.sort.gallop"
  let e <-nB [0:a.size+b.size] ((af,d.2.1,d.2.2.1,d.2.2.2.1,c.2.2.2.2+1,d.2.2.2.2.1,d.2.2.2.2.2):T3) λ_ d=>F2 a b d
  kZ e.1 (λ_=>do
   Jf (e.2.2.2.2.1+1)
   cS (.yield (af,e.2.1,e.2.2.1,e.2.2.2.1,e.2.2.2.2.1+1))) λr=>cS<|.done (aa r,e.2.1,e.2.2.1,e.2.2.2.1,e.2.2.2.2.1)) λr=>cS<|.done (aa r,d.2.1,d.2.2.1,d.2.2.2.1,c.2.2.2.2)
def zD(a b:KA):UC a b=(do
 oQ "list.sort.merge-lo"
 let y <-gK b 0
 if 1 == b.size then return dn a b #[y] 0 1
 if 0+1 == a.size then return ls a b #[y] 0 1
 let τ <-get
 let c <-nB [0:a.size+b.size] ((af,#[y],0,1,gallopOf τ):T1) λ_ c=>F0 a b c
 kZ c.1 (λ_=>pN "internal:list.sort.merge-bound") λr=>cS r):=rfl
def We(a:KA)(i:Nat):(a.extract i a.size).toList=a.toList.drop i:=by
 rw[kg,gL,<-aS];exact cq (by rw[bP];exact aJ _)
def vj(a:KA)(i k:Nat):(a.extract i<|i+k).toList=(a.toList.drop i).take k:=by
 rw[kg,gL,Nat.add_sub_cancel_left]
def Ya{a:KA}{i:Nat}(h:i<a.size):a.toList.drop i=a[i]::a.toList.drop (i+1):=by
 rw[cE<|by simpa using h];rfl
def td{B:Type}(l:List B)(n r:Nat):(l.drop n).take r++l.drop (n+r)=l.drop n:=by rw[<-k6,cN]
def ZP{a:KA}{i:Nat}(h:i<a.size):a[i]?=aa a[i]:=bH h
section
variable{prog:bB}{w:bS}{A:cx}{E:au->ay->Prop}{s:ay}{κ:gR}{In:cp->Prop}{rk:cp->Nat}
def ZC{B:Type}{c:Prop}[Decidable c]{x y:SM B}{Q:B->bW->Prop}{τ:bW}(h1:c->mP (aV prog w) A E s x Q τ)(h2:¬c->mP (aV prog w) A E s y Q τ):mP (aV prog w) A E s (if c then x else y) Q τ:=by
 by_cases h:c
 .rw[T9 h];exact h1 h
 .rw[T8 h];exact h2 h
theorem vn(O:Od prog w A E s κ In rk){Q:Option Nat->bW->Prop}(hk:kindOf τ=κ)(ik:In k)(hi:i<ar.size)(ia:∀x∈ar.toList,In x)(so:Srt (lr rk) (ar.toList.drop i))(ne:∀x∈ar.toList.drop i,rk x≠rk k)
  (hq:∀r,i+r<=ar.size->(∀x∈(ar.toList.drop i).take r,rk x<rk k)->(∀x∈ar.toList.drop (i+r),rk k<rk x)->Q (aa r) τ):mP (aV prog w) A E s (Yz lf k ar i (ar.size-i) 0) Q τ:=by
 have e:(ar.toList.drop i).take (ar.size-i)=ar.toList.drop i:=cq (by rw[bP,aS];exact aJ _)
 refine vt O hk ik (Nat.sub_pos_of_lt hi) (oD<|Nat.add_sub_cancel'<|kG hi) ia (e.symm▸so) (e.symm▸ne) λr h1 h2 h3=>?_
 rw[e]at h2 h3;rw[k6]at h3;exact hq r (by lia) h2 h3
structure Mg(κ:gR)(In:cp->Prop)(rk:cp->Nat)(a b:KA)(T:List cp):Prop where
 nd:(T.map rk).Nodup
 ia:∀x∈a.toList,In x
 ib:∀x∈b.toList,In x
 last:∀y∈b.toList,∀x∈a.toList.drop (a.size-1),rk y<rk x
def Res(rk:cp->Nat)(T:List cp)(r:KA):Prop:=r.toList.Perm T/\Srt (lr rk) r.toList
abbrev Lo(rk:cp->Nat)(a b:KA)(T:List cp)(o:KA)(i j:Nat):Prop:=ML (lr rk) T o.toList (a.toList.drop i)<|b.toList.drop j
structure Iv(rk:cp->Nat)(a b:KA)(T:List cp)(o:KA)(i j:Nat):Prop where
 m:Lo rk a b T o i j
 hi:i+1<a.size
 hj:j<b.size
 z:o.size=i+j
variable{a b:KA}{T:List cp}
def zk(h:Lo rk a b T o i j)(hj:(j == b.size)=ak):Res rk T (dn a b o i j):=by
 have hj:=beq_iff_eq.mp hj;unfold Lo at h;rw[hj,<-aS,eR]at h;have:=h.fin;unfold Res dn;rw[ck,ck,We,We,hj,<-aS,eR,cQ];exact this
def ZbW(h:Lo rk a b T o i j)(hi:(i == a.size)=ak):Res rk T (dn a b o i j):=by
 have hi:=beq_iff_eq.mp hi;unfold Lo at h;rw[hi,<-aS,eR]at h;have:=h.swap.fin;unfold Res dn;rw[ck,ck,We,We,hi,<-aS,eR,cQ];exact this
theorem Gm(G:Mg κ In rk a b T)(h:Lo rk a b T o i j)(hi:(i+1 == a.size)=ak):Res rk T (ls a b o i j):=by
 have hi:=beq_iff_eq.mp hi;have e:a.size-1=i:=by lia
 have:=(ML.bs (by rw[cQ];exact h) λy hy x hx=>G.last y (cG hy) x<|by rw[e];exact hx).fin
 unfold Res ls;rw[ck,ck,We,We];exact this
def Zas(h:Lo rk a b T o i j)(hj:j<b.size)(hy:∀x∈a.toList.drop i,rk b[j]<rk x):Lo rk a b T (o.push b[j]) i (j+1):=by
 unfold Lo at h ⊢;rw[Ya hj]at h;rw[gj];exact ML.bs h λx hx y hy'=>by rw[aK.mp hx];exact hy y hy'
def ZdN(h:Lo rk a b T o i j)(hi:i<a.size)(hx:∀y∈b.toList.drop j,rk a[i]<rk y):Lo rk a b T (o.push a[i]) (i+1) j:=by
 unfold Lo at h ⊢;rw[Ya hi]at h;rw[gj];exact ML.as h λx hx' y hy'=>by rw[aK.mp hx'];exact hx y hy'
def vZ(h:Srt (lr rk) (x::l))(hx:rk y<rk x):∀z∈x::l,rk y<rk z:=λz hz=>by
 rcases aB.mp hz with rfl|hz
 .exact hx
 .exact dC hx<|(bf.mp h).1 z hz
def Qg(h:m<n)(q:¬(m+1 == n)=ak):m+1<n:=g7 h λz=>q<|beq_iff_eq.mpr z
theorem ZfH(O:Od prog w A E s κ In rk)(G:Mg κ In rk a b T){g ca cb:Nat}{r0:Option KA}{τ:bW}{Q:ForInStep T2->bW->Prop}(hk:kindOf τ=κ)(I:Iv rk a b T o i j)
  (hd:∀r c,Res rk T r->Q (.done (aa r,c)) τ)(hb:∀o' i' j' ca cb,Iv rk a b T o' i' j'->o'.size=o.size+1->Q (.done (af,o',i',j',ca,cb)) τ/\Q (.yield (af,o',i',j',ca,cb)) τ):mP (aV prog w) A E s (F1 a b g (r0,o,i,j,ca,cb)) Q τ:=by
 have hi:=ej I.hi;have ha:a[i]∈a.toList.drop i:=by rw[Ya hi];exact aj ..
 have hb':b[j]'I.hj∈b.toList.drop j:=by rw[Ya I.hj];exact aj ..
 have sa:=I.m.sa;have sb:=I.m.sb;rw[Ya hi]at sa;rw[Ya I.hj]at sb;refine aM<|ZF (ZP I.hj)<|aM<|ZF (ZP hi)<|aM<|O.ask (G.ib _<|cG hb') (G.ia _<|cG ha) hk ?_;by_cases c:rk (b[j]'I.hj)<rk a[i]
 .rw[T5 c]
  refine aM<|ZF (ZP I.hj) ?_;have m:=Zas I.m I.hj (by rw[Ya hi];exact vZ sa c)
  have z:(o.push<|b[j]'I.hj).size=o.size+1:=eF ..;refine ZC (λq=>aW<|hd _ _<|zk m q) λq=>?_
  have h:=hb _ _ _ 0 (cb+1) #[m,I.hi,Qg I.hj q,by rw[z,I.z];lia] z
  exact ZC (λ_=>aW h.1) λ_=>aW h.2
 .rw[T4 c]
  refine aM<|ZF (ZP hi) ?_;have c':=g7 (fH c)<|I.m.ne G.nd ha hb';have m:=ZdN I.m hi (by rw[Ya I.hj];exact vZ sb c')
  have z:(o.push a[i]).size=o.size+1:=eF ..;refine ZC (λq=>aW<|hd _ _<|Gm G m q) λq=>?_
  have h:=hb _ _ _ (ca+1) 0 #[m,Qg I.hi q,I.hj,by rw[z,I.z];lia] z
  exact ZC (λ_=>aW h.1) λ_=>aW h.2
theorem Sg.trans(h:Sg s1 s2)(k:Sg s2 s3):Sg s1 s3:=#[k.1.trans h.1,k.2.1.trans h.2.1,k.2.2.1.trans h.2.2.1,k.2.2.2.trans h.2.2.2]
def Uj{Q:Unit->bW->Prop}(h:∀st',Sg τ st'->Q () st'):mP (aV prog w) A E s (Jf g) Q τ:=by
 rw[ZaO];exact fO<|h _ #[rfl,rfl,rfl,rfl]
section
variable(O:Od prog w A E s κ In rk)(G:Mg κ In rk a b T)
include O G
theorem ZdJ{g ca cb:Nat}{τ:bW}(m:Lo rk a b T o i j)(hi:i+1<a.size)(hj:j<b.size)(z:o.size=i+j)(hx:∀y∈b.toList.drop j,rk a[i]<rk y)
  (hd:∀r c,Res rk T r->Q (.done (aa r,c)) τ)(hb:∀o' i' j' g ca cb,Iv rk a b T o' i' j'->o'.size=o.size+1->Q (.done (af,o',i',j',g,ca,cb)) τ/\Q (.yield (af,o',i',j',g,ca,cb)) τ):mP (aV prog w) A E s (G3 a b g ca cb i o j) Q τ:=by
 have hi':=ej hi;refine aM<|ZF (ZP hi') ?_;have m:=ZdN m hi' hx;have z':(o.push a[i]).size=o.size+1:=eF ..;refine ZC (λq=>aW<|hd _ _<|Gm G m q) λq=>?_
 have h:=hb _ _ _ g ca cb #[m,Qg hi q,hj,by rw[z',z];lia] z'
 exact ZC (λ_=>aW h.1) λ_=>aW h.2
theorem ZdA{g ca cb:Nat}{τ:bW}(hk:kindOf τ=κ)(m:Lo rk a b T o i j)(hi:i+1<a.size)(hj:j<b.size)(z:o.size=i+j)(hy:∀x∈a.toList.drop i,rk b[j]<rk x)
  (hd:∀r c,Res rk T r->Q (.done (aa r,c)) τ)(hb:∀o' i' j' g ca cb,Iv rk a b T o' i' j'->o.size<o'.size->Q (.done (af,o',i',j',g,ca,cb)) τ/\Q (.yield (af,o',i',j',g,ca,cb)) τ):mP (aV prog w) A E s (G2 a b g ca cb j o i) Q τ:=by
 have hi':=ej hi;refine aM<|ZF (ZP hj) ?_;have m:=Zas m hj hy;have z':(o.push b[j]).size=o.size+1:=eF ..;refine ZC (λq=>aW<|hd _ _<|zk m q) λq=>?_
 have hj:=Qg hj q;have ha:a[i]∈a.toList.drop i:=by rw[Ya hi'];exact aj ..
 refine aM<|ZF (ZP hi')<|aM<|vn O hk (G.ia _<|cG ha) hj G.ib m.sb (λy hy=>(m.ne G.nd ha hy).symm) λr hr h1 h2=>?_
 refine ZC (λ_=>?_) λc=>?_
 .have m2:Lo rk a b T (o.push b[j]++b.extract (j+1) (j+1+r)) i (j+1+r):=by
   unfold Lo;rw[ck,vj];refine ML.bs ?_ λy hy x hx=>?_
   .rw[td];exact m
   .have sa:=m.sa
    rw[Ya hi']at sa hx;exact vZ sa (h1 y hy) x hx
  have z2:(o.push b[j]++b.extract (j+1) (j+1+r)).size=o.size+1+r:=by rw[iD,z',g8];lia
  refine ZC (λq=>aW<|hd _ _<|zk m2 q) λq=>?_
  have hj2:=g7 hr λz=>q<|beq_iff_eq.mpr z
  exact ZdJ O G m2 hi hj2 (by rw[z2,z];lia) h2 hd λo' i' j' g ca cb I e=>hb o' i' j' g ca cb I (by lia)
 .have e:r=0:=by lia
  subst e;exact ZdJ O G m hi hj (by rw[z',z];lia) h2 hd λo' i' j' g ca cb I e=>hb o' i' j' g ca cb I (by lia)
theorem Zdx{g ca cb:Nat}{τ:bW}(hk:kindOf τ=κ)(I:Iv rk a b T o i j)
  (hd:∀r c st',Sg τ st'->Res rk T r->Q (.done (aa r,c)) st')(hb:∀o' i' j' g ca cb st',Sg τ st'->Iv rk a b T o' i' j'->o.size<o'.size->Q (.done (af,o',i',j',g,ca,cb)) st'/\Q (.yield (af,o',i',j',g,ca,cb)) st'):mP (aV prog w) A E s (G1 a b o i j ca cb g) Q τ:=by
 obtain⟨m,hi,hj,z⟩:=I;have hi':=ej hi;have hb':b[j]∈b.toList.drop j:=by rw[Ya hj];exact aj ..
 refine aM<|Uj λst' sg=>aM<|ZF (ZP hj)<|aM<|vn O (sg.1.trans hk) (G.ib _<|cG hb') hi' G.ia m.sa (λx hx=>m.ne G.nd hx hb') λr hr h1 h2=>?_
 refine ZC (λ_=>?_) λc=>?_
 .have m2:Lo rk a b T (o++a.extract i (i+r)) (i+r) j:=by
   unfold Lo;rw[ck,vj];refine ML.as ?_ λx hx y hy=>?_
   .rw[td];exact m
   .have sb:=m.sb
    rw[Ya hj]at sb hy;exact vZ sb (h1 x hx) y hy
  have z2:(o++a.extract i (i+r)).size=o.size+r:=by rw[iD,g8];lia
  refine ZC (λq=>aW<|hd _ _ st' sg<|Gm G m2 q) λq=>ZC (λq=>aW<|hd _ _ st' sg<|ZbW m2 q) λq2=>?_
  have q2:i+r≠a.size:=λz=>q2<|beq_iff_eq.mpr z
  exact ZdA O G (sg.1.trans hk) m2 (Qg (by lia) q) hj (by rw[z2,z];lia) h2 (λr c=>hd r c st' sg) λo' i' j' g ca cb I e=>hb o' i' j' g ca cb st' sg I (by lia)
 .have e:r=0:=by lia
  subst e;exact ZdA O G (sg.1.trans hk) m hi hj z h2 (λr c=>hd r c st' sg) λo' i' j' g ca cb I e=>hb o' i' j' g ca cb st' sg I (by lia)
theorem ZfW{g ca cb:Nat}{r0:Option KA}{τ:bW}(hk:kindOf τ=κ)(I:Iv rk a b T o i j)
  (hd:∀r c st',Sg τ st'->Res rk T r->Q (.done (aa r,c)) st')(hb:∀o' i' j' g ca cb st',Sg τ st'->Iv rk a b T o' i' j'->o.size<o'.size->Q (.done (af,o',i',j',g,ca,cb)) st'/\Q (.yield (af,o',i',j',g,ca,cb)) st'):mP (aV prog w) A E s (F2 a b (r0,o,i,j,g,ca,cb)) Q τ:=by
 exact ZC (λ_=>Zdx O G hk I hd hb) λ_=>Zdx O G hk I hd hb
theorem Zf2{Q:ForInStep T1->bW->Prop}(hk:kindOf τ=κ)(I:Iv rk a b T o i j)
  (hd:∀r c st',Sg τ st'->Res rk T r->Q (.done (aa r,c)) st')(hy:∀o' i' j' g st',Sg τ st'->Iv rk a b T o' i' j'->o.size<o'.size->Q (.yield (af,o',i',j',g)) st'):mP (aV prog w) A E s (F0 a b (r0,o,i,j,g)) Q τ:=by
 refine aM (fq (cP
  (I:=λx (c:T2) st'=>st'=τ/\c.1=af/\Iv rk a b T c.2.1 c.2.2.1 c.2.2.2.1/\o.size+x<=c.2.1.size)
  (Q:=λ(c:T2) st'=>st'=τ/\((∃r,c.1=aa r/\Res rk T r)\/c.1=af/\Iv rk a b T c.2.1 c.2.2.1 c.2.2.2.1/\o.size<c.2.1.size)) ?_ ?_ #[rfl,rfl,I,aJ _]) ?_)
 .rintro x ⟨r,o',i',j',ca,cb⟩ st' _ _ ⟨rfl,rfl,I',hz⟩
  exact ZfH O G hk I' (λr c h=>#[rfl,.inl #[r,rfl,h]]) λo2 i2 j2 ca cb I2 e=>#[#[rfl,.inr #[rfl,I2,by dsimp only at hz ⊢;lia]],rfl,rfl,I2,by dsimp only at hz ⊢;lia]
 .rintro ⟨r,o',i',j',ca,cb⟩ st' ⟨rfl,rfl,I',hz⟩
  have:=I'.hi;have:=I'.hj;have:=I'.z;lia
 .rintro ⟨r,o',i',j',ca,cb⟩ st' ⟨rfl,⟨r',rfl,h⟩|⟨rfl,I',hz⟩⟩
  .exact aW<|hd _ _ _ #[rfl,rfl,rfl,rfl] h
  .dsimp only at I' hz
   refine aM (Wl (aM (fq (cP
    (I:=λx (c:T3) st''=>Sg st' st''/\c.1=af/\Iv rk a b T c.2.1 c.2.2.1 c.2.2.2.1/\o'.size+x<=c.2.1.size)
    (Q:=λ(c:T3) st''=>Sg st' st''/\((∃r,c.1=aa r/\Res rk T r)\/c.1=af/\Iv rk a b T c.2.1 c.2.2.1 c.2.2.2.1/\o'.size<c.2.1.size)) ?_ ?_ #[#[rfl,rfl,rfl,rfl],rfl,I',aJ _]) ?_)))
   .rintro x ⟨r,o2,i2,j2,g,ca,cb⟩ st2 _ _ ⟨sg,rfl,I2,hz2⟩
    dsimp only at I2 hz2
    exact ZfW O G (sg.1.trans hk) I2 (λr c st3 s3 h=>#[sg.trans s3,.inl #[r,rfl,h]]) λo3 i3 j3 g ca cb st3 s3 I3 e=>#[#[sg.trans s3,.inr #[rfl,I3,by dsimp only;lia]],sg.trans s3,rfl,I3,by dsimp only;lia]
   .rintro ⟨r,o2,i2,j2,g,ca,cb⟩ st2 ⟨sg,rfl,I2,hz2⟩
    have:=I2.hi;have:=I2.hj;have:=I2.z;lia
   .rintro ⟨r,o2,i2,j2,g,ca,cb⟩ st2 ⟨sg,⟨r',rfl,h⟩|⟨rfl,I2,hz2⟩⟩
    .exact aW<|hd _ _ _ sg h
    .exact aM<|Uj λst3 s3=>aW<|hy _ _ _ _ _ (sg.trans s3) I2<|dC hz hz2
theorem wC{τ:bW}{Q:KA->bW->Prop}(hk:kindOf τ=κ)(ha:0<a.size)(hb:0<b.size)(sa:Srt (lr rk) a.toList)(sb:Srt (lr rk) b.toList)(hT:(a.toList++b.toList).Perm T)(h0:∀x∈a.toList,rk b[0]<rk x)
  (hq:∀r st',Sg τ st'->Res rk T r->Q r st'):mP (aV prog w) A E s (UC a b) Q τ:=by
 rw[zD];refine aM<|Wl<|aM<|ZF (ZP hb) ?_;have m0:Lo rk a b T #[] 0 0:=#[by simpa using hT,.nil,by simpa using sa,by simpa using sb,λx hx=>by cases hx]
 have m:=Zas m0 hb (by simpa using h0)
 have sg0:Sg τ τ:=#[rfl,rfl,rfl,rfl];refine ZC (λq=>aW<|hq _ _ sg0<|zk m q) λq1=>ZC (λq=>aW<|hq _ _ sg0<|Gm G m q) λq2=>aM (iE (aM (fq (cP
  (I:=λx (c:T1) st''=>Sg τ st''/\c.1=af/\Iv rk a b T c.2.1 c.2.2.1 c.2.2.2.1/\x<=c.2.1.size)
  (Q:=λ(c:T1) st''=>Sg τ st''/\∃r,c.1=aa r/\Res rk T r) ?_ ?_ #[sg0,rfl,#[m,Qg ha q2,Qg hb q1,rfl],d4 _]) ?_)))
 .rintro x ⟨r,o,i,j,g⟩ st2 _ _ ⟨sg,rfl,I,hz⟩
  dsimp only at I hz
  exact Zf2 O G (sg.1.trans hk) I (λr c st3 s3 h=>#[sg.trans s3,r,rfl,h]) λo3 i3 j3 g st3 s3 I3 e=>#[sg.trans s3,rfl,I3,by dsimp only;lia]
 .rintro ⟨r,o,i,j,g⟩ st2 ⟨sg,rfl,I,hz⟩
  have:=I.hi;have:=I.hj;have:=I.z;lia
 .rintro ⟨r,o,i,j,g⟩ st2 ⟨sg,r',rfl,h⟩
  exact aW<|hq _ _ sg h
end
end
noncomputable def QM:KA->KA->SM KA:=sortPriv% PySem.Builtin.mergeHi
noncomputable abbrev dh(a b o:KA)(i j:Nat):KA:=a.extract 0 i++b.extract 0 j++o.reverse
noncomputable abbrev fh(a b o:KA)(i j:Nat):KA:=b.extract 0 j++a.extract 0 i++o.reverse
abbrev U1:=Option KA×Nat×Nat×KA×Nat
abbrev U2:=Option KA×Nat×Nat×KA×Nat×Nat
abbrev U3:=Option KA×Nat×Nat×KA×Nat×Nat×Nat
def H1(a b:KA)(g:Nat)(c:U2):SM (ForInStep U2):=do
 let i:=c.2.1
 let j:=c.2.2.1
 let o:=c.2.2.2.1
 let ca:=c.2.2.2.2.1
 let cb:=c.2.2.2.2.2
 let aa t <-lt' (<-gK b (j-1)) (<-gK a (i-1))|return .done (aa<|dh a b o i j,i,j,o,ca,cb)
 if t then
  let i:=i-1
  let o:=o.push<|<-gK a i
  if i == 0 then return .done (aa<|dh a b o i j,i,j,o,ca+1,0)
  if ca+1>=g then return .done (af,i,j,o,ca+1,0)
  return .yield (af,i,j,o,ca+1,0)
 else
  let j:=j-1
  let o:=o.push<|<-gK b j
  if j == 1 then return .done (aa<|fh a b o i j,i,j,o,0,cb+1)
  if cb+1>=g then return .done (af,i,j,o,0,cb+1)
  return .yield (af,i,j,o,0,cb+1)
def K3(a b:KA)(g ca cb i:Nat)(o:KA)(j:Nat):SM (ForInStep U3):=do
 let i:=i-1
 let o:=o.push<|<-gK a i
 if i == 0 then return .done (aa<|dh a b o i j,i,j,o,g,ca,cb)
 if ca<7&&cb<7 then return .done (af,i,j,o,g,ca,cb)
 return .yield (af,i,j,o,g,ca,cb)
def K2(a b:KA)(g ca cb j:Nat)(o:KA)(i:Nat):SM (ForInStep U3):=do
 let j:=j-1
 let o:=o.push<|<-gK b j
 if j == 1 then return .done (aa<|fh a b o i j,i,j,o,g,ca,cb)
 let aa t <-Yz ak (<-gK a (i-1)) b 0 j (j-1)|return .done (aa<|dh a b o i j,i,j,o,g,ca,cb)
 if j-t>0 then
  let o:=o++(b.extract t j).reverse
  if t == 1 then return .done (aa<|fh a b o i t,i,t,o,g,ca,j-t)
  else if t == 0 then return .done (aa<|dh a b o i t,i,t,o,g,ca,j-t)
  else K3 a b g ca (j-t) i o t
 else K3 a b g ca (j-t) i o j
def K1(a b:KA)(o:KA)(i j ca cb g:Nat):SM (ForInStep U3):=do
 Jf g
 let aa t <-Yz al (<-gK b (j-1)) a 0 i (i-1)|return .done (aa<|dh a b o i j,i,j,o,g,ca,cb)
 if i-t>0 then
  let o:=o++(a.extract t i).reverse
  if t == 0 then return .done (aa<|dh a b o t j,t,j,o,g,i-t,cb)
  else K2 a b g (i-t) cb j o t
 else K2 a b g (i-t) cb j o i
def H2(a b:KA)(c:U3):SM (ForInStep U3):=
 if c.2.2.2.2.1>1 then K1 a b c.2.2.2.1 c.2.1 c.2.2.1 c.2.2.2.2.2.1 c.2.2.2.2.2.2 (c.2.2.2.2.1-1)
 else K1 a b c.2.2.2.1 c.2.1 c.2.2.1 c.2.2.2.2.2.1 c.2.2.2.2.2.2 c.2.2.2.2.1
def TT(n:Nat)(f1:Nat->U2->SM (ForInStep U2))(f2:U3->SM (ForInStep U3))(c:U1):SM (ForInStep U1):=do
 let d <-nB [0:n] ((af,c.2.1,c.2.2.1,c.2.2.2.1,0,0):U2) λ_ d=>f1 c.2.2.2.2 d
 kZ d.1 (λ_=>do
  oQ "list.sort.gallop"
  let e <-nB [0:n] ((af,d.2.1,d.2.2.1,d.2.2.2.1,c.2.2.2.2+1,d.2.2.2.2.1,d.2.2.2.2.2):U3) λ_ d=>f2 d
  kZ e.1 (λ_=>do
   Jf (e.2.2.2.2.1+1)
   cS (.yield (af,e.2.1,e.2.2.1,e.2.2.2.1,e.2.2.2.2.1+1))) λr=>cS<|.done (aa r,e.2.1,e.2.2.1,e.2.2.2.1,e.2.2.2.2.1)) λr=>cS<|.done (aa r,d.2.1,d.2.2.1,d.2.2.2.1,c.2.2.2.2)
def zX(a b:KA):QM a b=(do
 oQ "list.sort.merge-hi"
 let x <-gK a (a.size-1)
 if a.size-1 == 0 then return dh a b #[x] (a.size-1) b.size
 if b.size == 1 then return fh a b #[x] (a.size-1) b.size
 let τ <-get
 let c <-nB [0:a.size+b.size] ((af,a.size-1,b.size,#[x],gallopOf τ):U1) λ_ c=>TT (a.size+b.size) (H1 a b) (H2 a b) c
 kZ c.1 (λ_=>pN "internal:list.sort.merge-bound") λr=>cS r):=rfl
def j8{a:KA}{t i:Nat}:(a.extract t i).toList=(a.toList.take i).drop t:=by
 rw[kg,gL,List.drop_take]
noncomputable abbrev rv(a:KA)(i:Nat):List cp:=(a.toList.take i).reverse
def WT{a:KA}{i:Nat}(h:0<i)(h2:i<=a.size):rv a i=a[i-1]::rv a (i-1):=by
 obtain⟨k,rfl⟩:∃k,i=k+1:=#[i-1,by lia]
 show(a.toList.take<|k+1).reverse=_;rw[List.take_succ_eq_append_getElem (by rw[aS];exact h2),nr];rfl
def Zam{a:KA}{t i:Nat}(h:t<=i):rv a i=((a.toList.take i).drop t).reverse++rv a t:=by
 rw[<-nr];have:=cN t<|a.toList.take i;rw[rE,mC h]at this;rw[this]
section
variable{prog:bB}{w:bS}{A:cx}{E:au->ay->Prop}{s:ay}{κ:gR}{In:cp->Prop}{rk:cp->Nat}{a b:KA}{T:List cp}
abbrev Hi(rk:cp->Nat)(a b:KA)(T:List cp)(o:KA)(i j:Nat):Prop:=ML (gr rk) T o.toList (rv a i)<|rv b j
structure Ih(rk:cp->Nat)(a b:KA)(T:List cp)(o:KA)(i j:Nat):Prop where
 m:Hi rk a b T o i j
 i0:0<i
 i1:i<=a.size
 j0:1<j
 j1:j<=b.size
 z:o.size+i+j=a.size+b.size
def zg{l:List cp}{r:KA}(h:l.Perm T/\Srt (gr rk) l)(e:r.toList=l.reverse):Res rk T r:=by
 unfold Res;rw[e];exact#[(eo l).trans h.1,eY.mpr h.2]
def Zb7(h:Hi rk a b T o i j)(hi:(i == 0)=ak):Res rk T (dh a b o i j):=by
 cases beq_iff_eq.mp hi;refine zg (ML.fin h.swap) ?_;simp
def Zgm(h:Hi rk a b T o i j)(hj:(j == 0)=ak):Res rk T (dh a b o i j):=by
 cases beq_iff_eq.mp hj;refine zg (ML.fin h) ?_;simp
def J2(fs:∀x∈a.toList,∀y∈b.toList.take 1,rk y<rk x)(h:Hi rk a b T o i j)(hj:(j == 1)=ak):Res rk T (fh a b o i j):=by
 cases beq_iff_eq.mp hj;have:=(ML.as (by rw[cQ];exact h) λx hx y hy=>fs x (db<|eS.mp hx) y<|eS.mp hy).swap.fin
 refine zg this ?_;simp
def jN(h:Hi rk a b T o i j)(i0:0<i)(i1:i<=a.size)(hx:∀y∈rv b j,rk y<rk a[i-1]):Hi rk a b T (o.push a[i-1]) (i-1) j:=by
 unfold Hi at h ⊢;rw[WT i0 i1]at h;rw[gj];exact ML.as h λx hx' y hy'=>by rw[aK.mp hx'];exact hx y hy'
def Zd1(h:Hi rk a b T o i j)(j0:0<j)(j1:j<=b.size)(hx:∀y∈rv a i,rk y<rk b[j-1]):Hi rk a b T (o.push b[j-1]) i (j-1):=by
 unfold Hi at h ⊢;rw[WT j0 j1]at h;rw[gj];exact ML.bs h λx hx' y hy'=>by rw[aK.mp hx'];exact hx y hy'
def vk{l:List cp}{x y:cp}(h:Srt (gr rk) (x::l))(hx:rk x<rk y):∀z∈x::l,rk z<rk y:=λz hz=>by
 rcases aB.mp hz with rfl|hz
 .exact hx
 .exact dC ((bf.mp h).1 z hz) hx
theorem vL(O:Od prog w A E s κ In rk){lf:Bool}{k:cp}{ar:KA}{n:Nat}{τ:bW}{Q:Option Nat->bW->Prop}(hk:kindOf τ=κ)(ik:In k)(hn:0<n)(h1:n<=ar.size)(ia:∀x∈ar.toList,In x)(so:Srt (gr rk) (rv ar n))(ne:∀x∈rv ar n,rk x≠rk k)
  (hq:∀r,r<=n->(∀x∈rv ar r,rk x<rk k)->(∀x∈((ar.toList.take n).drop r).reverse,rk k<rk x)->Q (aa r) τ):mP (aV prog w) A E s (Yz lf k ar 0 n<|n-1) Q τ:=by
 refine vt O hk ik (Nat.sub_lt hn Nat.one_pos) (by lia) ia (eY.mp so) (λx hx=>ne x<|eS.mpr hx) λr h2 h3 h4=>hq r h2 (λx hx=>h3 x ?_) λx hx=>h4 x<|eS.mp hx
 have hx:=eS.mp hx;rw[rE,mC h2];exact hx
def Uq{a:KA}{i:Nat}(i0:0<i)(i1:i<=a.size):a[i-1]∈rv a i:=by rw[WT i0 i1];exact aj ..
def zG{a:KA}{i:Nat}{x:cp}(h:x∈rv a i):x∈a.toList:=db<|eS.mp h
section
variable(O:Od prog w A E s κ In rk)(G:Mg κ In rk a b T)(fs:∀x∈a.toList,∀y∈b.toList.take 1,rk y<rk x)
include O G fs
theorem Zge{g ca cb:Nat}{r0:Option KA}{τ:bW}{Q:ForInStep U2->bW->Prop}(hk:kindOf τ=κ)(I:Ih rk a b T o i j)
  (hd:∀r c,Res rk T r->Q (.done (aa r,c)) τ)(hb:∀o' i' j' ca cb,Ih rk a b T o' i' j'->o'.size=o.size+1->Q (.done (af,i',j',o',ca,cb)) τ/\Q (.yield (af,i',j',o',ca,cb)) τ):mP (aV prog w) A E s (H1 a b g (r0,i,j,o,ca,cb)) Q τ:=by
 obtain⟨m,i0,i1,j0,j1,z⟩:=I;have j0':=ej j0;have hja:j-1<b.size:=by lia
 have hia:i-1<a.size:=by lia
 have ha:=Uq i0 i1;have hb':=Uq j0' j1;have sa:=m.sa;have sb:=m.sb;rw[WT i0 i1]at sa;rw[WT j0' j1]at sb;refine aM<|ZF (ZP hja)<|aM<|ZF (ZP hia)<|aM<|O.ask (G.ib _<|zG hb') (G.ia _<|zG ha) hk ?_;by_cases c:rk b[j-1]<rk a[i-1]
 .rw[T5 c]
  refine aM<|ZF (ZP hia) ?_;have m:=jN m i0 i1 (by rw[WT j0' j1];exact vk sb c)
  have z':(o.push a[i-1]).size=o.size+1:=eF ..;refine ZC (λq=>aW<|hd _ _<|Zb7 m q) λq=>?_
  have q:i-1≠0:=λz=>q<|beq_iff_eq.mpr z
  have h:=hb _ _ _ (ca+1) 0 #[m,by lia,by lia,j0,j1,by lia] z'
  exact ZC (λ_=>aW h.1) λ_=>aW h.2
 .rw[T4 c]
  refine aM<|ZF (ZP hja) ?_;have c':=g7 (fH c)<|m.ne G.nd ha hb';have m:=Zd1 m j0' j1 (by rw[WT i0 i1];exact vk sa c')
  have z':(o.push b[j-1]).size=o.size+1:=eF ..;refine ZC (λq=>aW<|hd _ _<|J2 fs m q) λq=>?_
  have q:j-1≠1:=λz=>q<|beq_iff_eq.mpr z
  have h:=hb _ _ _ 0 (cb+1) #[m,i0,i1,by lia,by lia,by lia] z'
  exact ZC (λ_=>aW h.1) λ_=>aW h.2
theorem ZdW{g ca cb:Nat}{τ:bW}(I:Ih rk a b T o i j)(hx:∀y∈rv b j,rk y<rk (a[i-1]'(by have:=I.i0;have:=I.i1;lia)))
  (hd:∀r c,Res rk T r->Q (.done (aa r,c)) τ)(hb:∀o' i' j' g ca cb,Ih rk a b T o' i' j'->o'.size=o.size+1->Q (.done (af,i',j',o',g,ca,cb)) τ/\Q (.yield (af,i',j',o',g,ca,cb)) τ):mP (aV prog w) A E s (K3 a b g ca cb i o j) Q τ:=by
 obtain⟨m,i0,i1,j0,j1,z⟩:=I;refine aM<|ZF (ZP<|by lia) ?_
 have m:=jN m i0 i1 hx;have z':(o.push a[i-1]).size=o.size+1:=eF ..;refine ZC (λq=>aW<|hd _ _<|Zb7 m q) λq=>?_
 have q:i-1≠0:=λz=>q<|beq_iff_eq.mpr z
 have h:=hb _ _ _ g ca cb #[m,by lia,by lia,j0,j1,by lia] z'
 exact ZC (λ_=>aW h.1) λ_=>aW h.2
theorem ZdT{g ca cb:Nat}{τ:bW}(hk:kindOf τ=κ)(I:Ih rk a b T o i j)(hy:∀y∈rv a i,rk y<rk (b[j-1]'(by have:=I.j0;have:=I.j1;lia)))
  (hd:∀r c,Res rk T r->Q (.done (aa r,c)) τ)(hb:∀o' i' j' g ca cb,Ih rk a b T o' i' j'->o.size<o'.size->Q (.done (af,i',j',o',g,ca,cb)) τ/\Q (.yield (af,i',j',o',g,ca,cb)) τ):mP (aV prog w) A E s (K2 a b g ca cb j o i) Q τ:=by
 obtain⟨m,i0,i1,j0,j1,z⟩:=I;refine aM<|ZF (ZP<|by lia) ?_
 have m:=Zd1 m (ej j0) j1 hy;have z':(o.push b[j-1]).size=o.size+1:=eF ..;refine ZC (λq=>aW<|hd _ _<|J2 fs m q) λq=>?_
 have q:j-1≠1:=λz=>q<|beq_iff_eq.mpr z
 have ha:=Uq i0 i1;refine aM<|ZF (ZP<|by lia)<|aM<|vL O hk (G.ia _<|zG ha) (by lia) (by lia) G.ib m.sb (λy hy=>(m.ne G.nd ha hy).symm) λr hr h1 h2=>?_
 refine ZC (λc=>?_) λc=>?_
 .have m2:Hi rk a b T (o.push b[j-1]++(b.extract r<|j-1).reverse) i r:=by
   unfold Hi;rw[ck,mW,j8];refine ML.bs ?_ λy hy x hx=>?_
   .rw[<-Zam hr];exact m
   .have sa:=m.sa
    rw[WT i0 i1]at sa hx;exact vk sa (h2 y hy) x hx
  have z2:(o.push b[j-1]++(b.extract r<|j-1).reverse).size=o.size+1+(j-1-r):=by rw[iD,z',nZ,g8];lia
  refine ZC (λq=>aW<|hd _ _<|J2 fs m2 q) λq1=>ZC (λq=>aW<|hd _ _<|Zgm m2 q) λq2=>?_
  have q1:r≠1:=λz=>q1<|beq_iff_eq.mpr z
  have q2:r≠0:=λz=>q2<|beq_iff_eq.mpr z
  exact ZdW O G fs #[m2,i0,i1,by lia,by lia,by lia] h1 hd λo' i' j' g ca cb I e=>hb o' i' j' g ca cb I (by lia)
 .have e:r=j-1:=by lia
  subst e;exact ZdW O G fs #[m,i0,i1,by lia,by lia,by lia] h1 hd λo' i' j' g ca cb I e=>hb o' i' j' g ca cb I (by lia)
theorem Zd2{g ca cb:Nat}{τ:bW}(hk:kindOf τ=κ)(I:Ih rk a b T o i j)
  (hd:∀r c st',Sg τ st'->Res rk T r->Q (.done (aa r,c)) st')(hb:∀o' i' j' g ca cb st',Sg τ st'->Ih rk a b T o' i' j'->o.size<o'.size->Q (.done (af,i',j',o',g,ca,cb)) st'/\Q (.yield (af,i',j',o',g,ca,cb)) st'):mP (aV prog w) A E s (K1 a b o i j ca cb g) Q τ:=by
 obtain⟨m,i0,i1,j0,j1,z⟩:=I;have j0':=ej j0;have hb':=Uq j0' j1;refine aM<|Uj λst' sg=>aM<|ZF (ZP<|by lia)<|aM<|vL O (sg.1.trans hk) (G.ib _<|zG hb') i0 i1 G.ia m.sa (λx hx=>m.ne G.nd hx hb') λr hr h1 h2=>?_
 refine ZC (λc=>?_) λc=>?_
 .have m2:Hi rk a b T (o++(a.extract r i).reverse) r j:=by
   unfold Hi;rw[ck,mW,j8];refine ML.as ?_ λx hx y hy=>?_
   .rw[<-Zam hr];exact m
   .have sb:=m.sb
    rw[WT j0' j1]at sb hy;exact vk sb (h2 x hx) y hy
  have z2:(o++(a.extract r i).reverse).size=o.size+(i-r):=by rw[iD,nZ,g8];lia
  refine ZC (λq=>aW<|hd _ _ st' sg<|Zb7 m2 q) λq=>?_
  have q:r≠0:=λz=>q<|beq_iff_eq.mpr z
  exact ZdT O G fs (sg.1.trans hk) #[m2,by lia,by lia,j0,j1,by lia] h1 (λr c=>hd r c st' sg) λo' i' j' g ca cb I e=>hb o' i' j' g ca cb st' sg I (by lia)
 .have e:r=i:=by lia
  subst e;exact ZdT O G fs (sg.1.trans hk) #[m,i0,i1,j0,j1,z] h1 (λr c=>hd r c st' sg) λo' i' j' g ca cb I e=>hb o' i' j' g ca cb st' sg I (by lia)
theorem Zf5{g ca cb:Nat}{r0:Option KA}{τ:bW}(hk:kindOf τ=κ)(I:Ih rk a b T o i j)
  (hd:∀r c st',Sg τ st'->Res rk T r->Q (.done (aa r,c)) st')(hb:∀o' i' j' g ca cb st',Sg τ st'->Ih rk a b T o' i' j'->o.size<o'.size->Q (.done (af,i',j',o',g,ca,cb)) st'/\Q (.yield (af,i',j',o',g,ca,cb)) st'):mP (aV prog w) A E s (H2 a b (r0,i,j,o,g,ca,cb)) Q τ:=by
 exact ZC (λ_=>Zd2 O G fs hk I hd hb) λ_=>Zd2 O G fs hk I hd hb
theorem Zf8{g:Nat}{r0:Option KA}{τ:bW}{Q:ForInStep U1->bW->Prop}(hk:kindOf τ=κ)(I:Ih rk a b T o i j)
  (hd:∀r c st',Sg τ st'->Res rk T r->Q (.done (aa r,c)) st')(hy:∀o' i' j' g st',Sg τ st'->Ih rk a b T o' i' j'->o.size<o'.size->Q (.yield (af,i',j',o',g)) st'):mP (aV prog w) A E s (TT (a.size+b.size) (H1 a b) (H2 a b) (r0,i,j,o,g)) Q τ:=by
 refine aM (fq (cP
  (I:=λx (c:U2) st'=>st'=τ/\c.1=af/\Ih rk a b T c.2.2.2.1 c.2.1 c.2.2.1/\o.size+x<=c.2.2.2.1.size)
  (Q:=λ(c:U2) st'=>st'=τ/\((∃r,c.1=aa r/\Res rk T r)\/c.1=af/\Ih rk a b T c.2.2.2.1 c.2.1 c.2.2.1/\o.size<c.2.2.2.1.size)) ?_ ?_ #[rfl,rfl,I,aJ _]) ?_)
 .rintro x ⟨r,i',j',o',ca,cb⟩ st' _ _ ⟨rfl,rfl,I',hz⟩
  exact Zge O G fs hk I' (λr c h=>#[rfl,.inl #[r,rfl,h]]) λo2 i2 j2 ca cb I2 e=>#[#[rfl,.inr #[rfl,I2,by dsimp only at hz ⊢;lia]],rfl,rfl,I2,by dsimp only at hz ⊢;lia]
 .rintro ⟨r,i',j',o',ca,cb⟩ st' ⟨rfl,rfl,I',hz⟩
  have:=I'.i0;have:=I'.j0;have:=I'.z;lia
 .rintro ⟨r,i',j',o',ca,cb⟩ st' ⟨rfl,⟨r',rfl,h⟩|⟨rfl,I',hz⟩⟩
  .exact aW<|hd _ _ _ #[rfl,rfl,rfl,rfl] h
  .dsimp only at I' hz
   refine aM (Wl (aM (fq (cP
    (I:=λx (c:U3) st''=>Sg st' st''/\c.1=af/\Ih rk a b T c.2.2.2.1 c.2.1 c.2.2.1/\o'.size+x<=c.2.2.2.1.size)
    (Q:=λ(c:U3) st''=>Sg st' st''/\((∃r,c.1=aa r/\Res rk T r)\/c.1=af/\Ih rk a b T c.2.2.2.1 c.2.1 c.2.2.1/\o'.size<c.2.2.2.1.size)) ?_ ?_ #[#[rfl,rfl,rfl,rfl],rfl,I',aJ _]) ?_)))
   .rintro x ⟨r,i2,j2,o2,g,ca,cb⟩ st2 _ _ ⟨sg,rfl,I2,hz2⟩
    dsimp only at I2 hz2
    exact Zf5 O G fs (sg.1.trans hk) I2 (λr c st3 s3 h=>#[sg.trans s3,.inl #[r,rfl,h]]) λo3 i3 j3 g ca cb st3 s3 I3 e=>#[#[sg.trans s3,.inr #[rfl,I3,by dsimp only;lia]],sg.trans s3,rfl,I3,by dsimp only;lia]
   .rintro ⟨r,i2,j2,o2,g,ca,cb⟩ st2 ⟨sg,rfl,I2,hz2⟩
    have:=I2.i0;have:=I2.j0;have:=I2.z;lia
   .rintro ⟨r,i2,j2,o2,g,ca,cb⟩ st2 ⟨sg,⟨r',rfl,h⟩|⟨rfl,I2,hz2⟩⟩
    .exact aW<|hd _ _ _ sg h
    .exact aM<|Uj λst3 s3=>aW<|hy _ _ _ _ _ (sg.trans s3) I2<|dC hz hz2
theorem wL{τ:bW}{Q:KA->bW->Prop}(hk:kindOf τ=κ)(ha:0<a.size)(hb:0<b.size)(sa:Srt (lr rk) a.toList)(sb:Srt (lr rk) b.toList)(hT:(a.toList++b.toList).Perm T)
  (hq:∀r st',Sg τ st'->Res rk T r->Q r st'):mP (aV prog w) A E s (QM a b) Q τ:=by
 rw[zX];refine aM<|Wl<|aM<|ZF (ZP<|by lia) ?_
 have ea:rv a a.size=a.toList.reverse:=by show(a.toList.take a.size).reverse=_;rw[<-aS,gD]
 have eb:rv b b.size=b.toList.reverse:=by show(b.toList.take b.size).reverse=_;rw[<-aS,gD]
 have m0:Hi rk a b T #[] a.size b.size:=by
  unfold Hi;rw[ea,eb];exact#[by simpa using((eo _).append<|eo _).trans hT,.nil,eY.mpr sa,eY.mpr sb,λx hx=>by cases hx]
 have m:=jN m0 ha (aJ _) λy hy=>G.last y (zG hy) _ (by rw[Ya<|by lia];exact aj ..)
 have sg0:Sg τ τ:=#[rfl,rfl,rfl,rfl];refine ZC (λq=>aW<|hq _ _ sg0<|Zb7 m q) λq1=>ZC (λq=>aW<|hq _ _ sg0<|J2 fs m q) λq2=>?_
 have q1:a.size-1≠0:=λz=>q1<|beq_iff_eq.mpr z
 have q2:b.size≠1:=λz=>q2<|beq_iff_eq.mpr z
 refine aM (iE (aM (fq (cP
  (I:=λx (c:U1) st''=>Sg τ st''/\c.1=af/\Ih rk a b T c.2.2.2.1 c.2.1 c.2.2.1/\x<=c.2.2.2.1.size)
  (Q:=λ(c:U1) st''=>Sg τ st''/\∃r,c.1=aa r/\Res rk T r) ?_ ?_ #[sg0,rfl,#[m,by dsimp only;lia,by dsimp only;lia,by dsimp only;lia,aJ _,by show 1+(a.size-1)+b.size=_;lia],d4 _]) ?_)))
 .rintro x ⟨r,i,j,o,g⟩ st2 _ _ ⟨sg,rfl,I,hz⟩
  dsimp only at I hz
  exact Zf8 O G fs (sg.1.trans hk) I (λr c st3 s3 h=>#[sg.trans s3,r,rfl,h]) λo3 i3 j3 g st3 s3 I3 e=>#[sg.trans s3,rfl,I3,by dsimp only;lia]
 .rintro ⟨r,i,j,o,g⟩ st2 ⟨sg,rfl,I,hz⟩
  have:=I.i0;have:=I.j0;have:=I.z;lia
 .rintro ⟨r,i,j,o,g⟩ st2 ⟨sg,r',rfl,h⟩
  exact aW<|hq _ _ sg h
end
end
noncomputable def Kr(rk:cp->Nat)(xs:Array cp)(i:Nat):Nat:=match xs[i]? with
 |some p=>rk p
 |none=>0
def Vs(h:xs[i]?=ys[j]?):Kr rk xs i=Kr rk ys j:=by unfold Kr;rw[h]
structure Sb(κ:gR)(a₀:Array cp)(P:Array (Nat×Nat×Nat))(lo:Nat)(L:List cp)(τ:bW):Prop where
 kd:kindOf τ=κ
 pm:(bj τ).Perm a₀
 fl:gS τ=af
 pd:bo τ=P
 ah:(bj τ).toList.take lo=L
def Up(rk:cp->Nat)(xs:Array cp)(lo m:Nat):Prop:=∀i j,lo<=i->i<j->j<lo+m->Kr rk xs i<Kr rk xs j
def Dn(rk:cp->Nat)(xs:Array cp)(lo m:Nat):Prop:=∀i j,lo<=i->i<j->j<lo+m->Kr rk xs j<Kr rk xs i
section
variable{κ:gR}{a₀:Array cp}{P:Array (Nat×Nat×Nat)}{lo:Nat}{L:List cp}{τ:bW}{In:cp->Prop}{rk:cp->Nat}
theorem Sb.size(h:Sb κ a₀ P lo L τ):(bj τ).size=a₀.size:=h.pm.size_eq
def Sb.in(h:Sb κ a₀ P lo L τ)(ia:∀x∈a₀.toList,In x):∀x∈(bj τ).toList,In x:=λx hx=>ia x<|(bL.mp h.pm).mem_iff.mp hx
def zx(hi:i<xs.size):Kr rk xs i=rk xs[i]:=by unfold Kr;rw[bH hi]
theorem Sb.ne(h:Sb κ a₀ P lo L τ)(nd:(a₀.toList.map rk).Nodup)(hi:i<a₀.size)(hj:j<a₀.size)(e:Kr rk (bj τ) i=Kr rk (bj τ) j):i=j:=by
 have hs:=h.size;have n:=(((bL.mp h.pm).map rk).nodup_iff).mpr nd;have g:∀k,k<a₀.size->((bj τ).toList.map rk)[k]?=aa (Kr rk (bj τ) k):=λk hk=>by
  rw[aQ,bw,bH (by lia),zx<|by lia];rfl
 exact(iF (by rw[ax,aS];lia) n).mp (by rw[g i hi,g j hj,e])
def Sb.setA(h:Sb κ a₀ P lo L τ)(hp:xs.Perm (bj τ))(hf:∀k,k<lo->xs[k]?=(bj τ)[k]?):Sb κ a₀ P lo L (setArr τ xs):=
 #[h.kd,hp.trans h.pm,h.fl,h.pd,by
  rw[<-h.ah];refine c7 λk=>?_
  rw[cW,cW];split
  .rw[bw,bw];exact hf k ‹_›
  .rfl]
variable{prog:bB}{w:bS}{A:cx}{E:au->ay->Prop}{s:ay}
theorem Jb(O:Od prog w A E s κ In rk)(h:Sb κ a₀ P lo L τ)(ia:∀x∈a₀.toList,In x){Q:Option Bool->bW->Prop}(hi:i<a₀.size)(hj:j<a₀.size)(q:Q (aa<|ag<|Kr rk (bj τ) i<Kr rk (bj τ) j) τ):mP (aV prog w) A E s (ltAt' i j) Q τ:=by
 have hs:=h.size;have m:∀k (hk:k<(bj τ).size),In (bj τ)[k]:=λk hk=>h.in ia _ (by simp)
 rw[ltAt'_eq];refine aM<|iE ?_;refine aM<|ZF (ZP<|by lia)<|aM<|ZF (ZP<|by lia) ?_
 rw[zx (by lia),zx<|by lia]at q
 exact O.ask (m i _) (m j _) h.kd q
theorem Zfb(xs:Array cp):Up rk xs lo 1:=λi j a b c=>by lia
theorem Zdf(h1:1<=m)(u:Up rk xs lo m)(c:Kr rk xs (lo+m-1)<Kr rk xs (lo+m)):Up rk xs lo (m+1):=λi j a b d=>by
 by_cases z:j=lo+m
 .subst z
  by_cases y:i=lo+m-1
  .rw[y];exact c
  .exact dC (u i (lo+m-1) a (by lia)<|by lia) c
 .exact u i j a b (by lia)
theorem Zc8(h1:1<=m)(u:Dn rk xs lo m)(c:Kr rk xs (lo+m)<Kr rk xs (lo+m-1)):Dn rk xs lo (m+1):=λi j a b d=>by
 by_cases z:j=lo+m
 .subst z
  by_cases y:i=lo+m-1
  .rw[y];exact c
  .exact dC c<|u i (lo+m-1) a (by lia)<|by lia
 .exact u i j a b (by lia)
theorem jC(O:Od prog w A E s κ In rk)(ia:∀x∈a₀.toList,In x)(nd:(a₀.toList.map rk).Nodup){Q:AscSt->bW->Prop}
  (hF:∀i m (Q:ForInStep AscSt->bW->Prop),1<=m->m<nrem->(Kr rk (bj τ) (lo+m)<Kr rk (bj τ) (lo+m-1)->Q (.done (af,m)) τ)->(¬Kr rk (bj τ) (lo+m)<Kr rk (bj τ) (lo+m-1)->Q (.yield (af,m+1)) τ)->mP (aV prog w) A E s (F i (af,m)) Q τ)
  (hn:lo+nrem<=a₀.size)(h1:1<=n0)(hl:n0<=nrem)(hB:Sb κ a₀ P lo L τ)(u:Up rk (bj τ) lo n0)
  (q:∀m,n0<=m->m<=nrem->Up rk (bj τ) lo m->(m<nrem->Kr rk (bj τ) (lo+m)<Kr rk (bj τ) (lo+m-1))->Q (af,m) τ):mP (aV prog w) A E s (nB [n0:nrem] ((af,n0):AscSt) F) Q τ:=by
 refine cP (I:=λi c st'=>st'=τ/\c=(af,i)/\Up rk (bj τ) lo i) ?_ ?_ #[rfl,rfl,u]
 .rintro i c st' ha hb ⟨rfl,rfl,u⟩
  refine hF i i _ (by lia) hb (λc=>q i ha (by lia) u λ_=>c) λc=>#[rfl,rfl,Zdf (by lia) u ?_]
  have:Kr rk (bj st') (lo+i-1)≠Kr rk (bj st') (lo+i):=λe=>by
   have:=hB.ne nd (by lia) (by lia) e
   lia
  lia
 .rintro c st' ⟨rfl,rfl,u⟩
  have e:max n0 nrem=nrem:=by lia
  rw[e]at u ⊢;exact q nrem hl (aJ _) u λz=>T7 z<|bK _
theorem ZbJ(O:Od prog w A E s κ In rk)(ia:∀x∈a₀.toList,In x)(nd:(a₀.toList.map rk).Nodup){Q:Option Nat->bW->Prop}(hn:lo+nrem<=a₀.size)(h1:1<=nrem)(hB:Sb κ a₀ P lo L τ)
  (q:∀m st',Sb κ a₀ P lo L st'->1<=m->m<=nrem->Up rk (bj st') lo m->Q (aa m) st'):mP (aV prog w) A E s (countRun' lo nrem) Q τ:=by
 rw[countRun'_eq];refine aM<|jC O ia nd (λi m Q a b k1 k2=>?_) hn (aJ _) h1 hB (Zfb _) λm m1 m2 u c=>?_
 .refine aM (Jb O hB ia (by lia) (by lia) ?_)
  dsimp only
  split
  .exact aW<|k1<|T6 ‹_›
  .exact aW<|k2 λz=>‹¬_› (T5 z)
 dsimp only
 by_cases e:m=nrem
 .rw[T9<|by simpa using e]
  exact aW<|q m τ hB m1 m2 u
 rw[T8<|by simpa using e]
 by_cases c1:m>1
 .rw[T9 c1]
  refine aM<|Jb O hB ia (by lia) (by lia) ?_
  dsimp only
  rw[T9<|T5<|u lo (lo+m-1) (aJ _) (by lia)<|by lia]
  exact aW<|q m τ hB m1 m2 u
 rw[T8 c1];obtain rfl:m=1:=by lia
 refine aM<|Wl ?_;have nl:∀i j,i<a₀.size->j<a₀.size->i≠j->¬Kr rk (bj τ) i<Kr rk (bj τ) j->Kr rk (bj τ) j<Kr rk (bj τ) i:=λi j hi hj ne c=>by
  have:Kr rk (bj τ) i≠Kr rk (bj τ) j:=λe=>ne<|hB.ne nd hi hj e
  lia
 have d2:Dn rk (bj τ) lo 2:=λi j a b d=>by
  obtain⟨rfl,rfl⟩:i=lo/\j=lo+1:=by lia
  exact c (by lia)
 refine aM<|fq (cP (I:=λi c st'=>st'=τ/\c=(af,i,0)/\Dn rk (bj τ) lo i) (Q:=λc st'=>st'=τ/\∃i,c=(af,i,0)/\2<=i/\i<=nrem/\Dn rk (bj τ) lo i) ?_ ?_ #[rfl,rfl,d2]) ?_
 .rintro i c st' ha hb ⟨rfl,rfl,u⟩
  dsimp only
  refine aM<|Jb O hB ia (by lia) (by lia) ?_
  dsimp only
  split
  .rw[T8<|bK 0]
   exact aW #[rfl,rfl,Zc8 (by lia) u<|T6 ‹_›]
  .refine aM (Jb O hB ia (by lia) (by lia) ?_)
   dsimp only
   rw[T9<|T5<|nl (lo+i) (lo+i-1) (by lia) (by lia) (by lia) λz=>‹¬_› (T5 z)]
   exact aW #[rfl,i,rfl,by lia,by lia,u]
 .rintro c st' ⟨rfl,rfl,u⟩
  have e:max (1+1) nrem=nrem:=by lia
  rw[e]at u ⊢;exact#[rfl,nrem,rfl,by lia,aJ _,u]
 .rintro c st' ⟨rfl,i,rfl,h2,hi,u⟩
  dsimp only
  rw[T8<|bK 0];refine aM<|wpS_reverse ?_;have hs:=hB.size;have gm:=λk=>getElem?_mirror_all (xs:=bj st') (i:=lo) (j:=lo+i) (by lia) k
  have hB2:=hB.setA (mirror_perm ..) λk hk=>by
   rw[gm k,T8<|by lia]
  have u2:Up rk (mirror (bj st') lo (lo+i)<|(lo+i-lo) / 2) lo i:=λa b h1 h2 h3=>by
   have e:∀k,lo<=k->k<lo+i->Kr rk (mirror (bj st') lo (lo+i)<|(lo+i-lo) / 2) k=Kr rk (bj st') (lo+(lo+i-1-k)):=λk ka kb=>Vs (by rw[gm k,T9 #[ka,kb]];congr 1;lia)
   rw[e a h1 (by lia),e b (by lia) h3]
   exact u _ _ (by lia) (by lia) (by lia)
  refine aM<|jC O ia nd (λi m Q a b k1 k2=>?_) hn (by lia) hi hB2 u2 λm m1 m2 u c=>?_
  .refine aM (Jb O hB2 ia (by dsimp only;lia) (by dsimp only;lia) ?_)
   dsimp only
   split
   .exact aW<|k1<|T6 ‹_›
   .exact aW<|k2 λz=>‹¬_› (T5 z)
  .exact aW<|q m _ hB2 (by lia) m2 u
theorem Zb6(O:Od prog w A E s κ In rk)(ia:∀x∈a₀.toList,In x)(nd:(a₀.toList.map rk).Nodup){Q:Bool->bW->Prop}(hn:lo+n<=a₀.size)(h1:1<=ok)(hok:ok<=n)(hB:Sb κ a₀ P lo L τ)(u:Up rk (bj τ) lo ok)
  (q:∀st',Sb κ a₀ P lo L st'->Up rk (bj st') lo n->Q ak st'):mP (aV prog w) A E s (binarySort' lo n ok) Q τ:=by
 rw[binarySort'_eq];refine aM<|fq (cP (I:=λk c st'=>c=(af,())/\Sb κ a₀ P lo L st'/\Up rk (bj st') lo k) (Q:=λc st'=>c=(af,())/\Sb κ a₀ P lo L st'/\Up rk (bj st') lo n) ?_ ?_ #[rfl,hB,by rw[Nat.max_eq_left h1];exact u]) ?_
 .rintro k c st' ha hb ⟨rfl,B,u⟩
  have hs:=B.size;refine aM (fq (cP (I:=λx c st2=>st2=st'/\∃l r,c=(af,l,r)/\l<=r/\r<=k/\r-l<=k-x/\(∀i,i<l->Kr rk (bj st') (lo+i)<Kr rk (bj st') (lo+k))/\∀i,r<=i->i<k->Kr rk (bj st') (lo+k)<Kr rk (bj st') (lo+i))
   (Q:=λc st2=>st2=st'/\∃l r,c=(af,l,r)/\l<=k/\(∀i,i<l->Kr rk (bj st') (lo+i)<Kr rk (bj st') (lo+k))/\∀i,l<=i->i<k->Kr rk (bj st') (lo+k)<Kr rk (bj st') (lo+i)) ?_ ?_ #[rfl,0,k,rfl,by lia,by lia,by lia,λi hi=>by lia,λi a b=>by lia]) ?_)
  .rintro x c st2 _ hx ⟨rfl,l,r,rfl,g1,g2,g3,g4,g5⟩
   dsimp only
   by_cases c:l>=r
   .rw[T9 c]
    exact aW #[rfl,l,r,rfl,by lia,g4,λi a b=>g5 i (by lia) b]
   .rw[T8 c]
    refine aM<|Jb O B ia (by lia) (by lia) ?_
    dsimp only
    split
    .have cm:=T6 ‹_›
     refine aW #[rfl,l,(l+r) / 2,rfl,by lia,by lia,by lia,g4,λi a b=>?_]
     by_cases y:i=(l+r) / 2
     .rw[y];exact cm
     .exact dC cm<|u _ _ (by lia) (by lia)<|by lia
    .have cm:Kr rk (bj st2) (lo+(l+r) / 2)<Kr rk (bj st2) (lo+k):=by
      have z:¬Kr rk (bj st2) (lo+k)<Kr rk (bj st2) (lo+(l+r) / 2):=λz=>‹¬_› (T5 z)
      have:Kr rk (bj st2) (lo+k)≠Kr rk (bj st2) (lo+(l+r) / 2):=λe=>by
       have:=B.ne nd (by lia) (by lia) e
       lia
      lia
     refine aW #[rfl,(l+r) / 2+1,r,rfl,by lia,by lia,by lia,λi a=>?_,g5]
     by_cases y:i=(l+r) / 2
     .rw[y];exact cm
     .exact dC (u _ _ (by lia) (by lia)<|by lia) cm
  .rintro c st2 ⟨rfl,l,r,rfl,g1,g2,g3,g4,g5⟩
   exact#[rfl,l,r,rfl,by lia,g4,λi a b=>g5 i (by lia) b]
  .rintro c st2 ⟨rfl,l,r,rfl,g2,g4,g5⟩
   dsimp only
   rw[moveDown'_eq];refine aM<|fO<|aW ?_;have gb:=λi=>getElem?_bubble (xs:=bj st2) (src:=lo+k) (by lia) (lo+k-(lo+l)) (by lia) i
   have e1:lo+k-(lo+k-(lo+l))=lo+l:=by lia
   rw[e1]at gb;refine#[rfl,B.setA (bubble_perm ..) λi hi=>?_,λi j a b d=>?_]
   .rw[gb i,T8 (by lia),T8<|by lia]
   .have e:∀i,Kr rk (bubble (bj st2) (lo+k)<|lo+k-(lo+l)) i=if i=lo+l then Kr rk (bj st2) (lo+k)else if lo+l<i/\i<=lo+k then Kr rk (bj st2) (i-1)else Kr rk (bj st2) i:=λi=>by
     have h:=gb i;split at h
     .rw[T9 ‹_›];exact Vs h
     .rw[T8 ‹_›]
      split at h
      .rw[T9 ‹_›];exact Vs h
      .rw[T8 ‹_›];exact Vs h
    rw[e i,e j];have low:∀x,lo<=x->x<lo+l->Kr rk (bj st2) x<Kr rk (bj st2) (lo+k):=λx a b=>by
     have:=g4 (x-lo) (by lia)
     rwa [show lo+(x-lo)=x by lia]at this
    have high:∀x,lo+l<=x->x<lo+k->Kr rk (bj st2) (lo+k)<Kr rk (bj st2) x:=λx a b=>by
     have:=g5 (x-lo) (by lia) (by lia)
     rwa [show lo+(x-lo)=x by lia]at this
    by_cases ci:i=lo+l
    .rw[T9 ci,T8 (by lia),T9<|by lia]
     exact high _ (by lia) (by lia)
    .rw[T8 ci]
     by_cases cj:j=lo+l
     .rw[T9 cj,T8<|by lia]
      exact low _ a (by lia)
     .rw[T8 cj]
      by_cases di:lo+l<i/\i<=lo+k
      .rw[T9 di,T9<|by lia];exact u _ _ (by lia) (by lia) (by lia)
      .rw[T8 di]
       by_cases dj:lo+l<j/\j<=lo+k
       .rw[T9 dj]
        by_cases z:i=j-1
        .lia
        .exact u _ _ a (by lia) (by lia)
       .rw[T8 dj];exact u _ _ a b (by lia)
 .rintro c st' ⟨rfl,B,u⟩
  have e:max (max ok 1) n=n:=by lia
  rw[e]at u;exact#[rfl,B,u]
 .rintro c st' ⟨rfl,B,u⟩
  exact aW<|q st' B u
end
def zT(i:Nat):mergeAt' i=(do
 let t <-get
 let (aa (ia,ma,pw),aa (ib,mb,_)):=((bo t)[i]?,(bo t)[i+1]?)|unsupported "internal:list.sort.pending"
 set (iW t<|((bo t).setIfInBounds i (ia,ma+mb,pw)).eraseIdxIfInBounds<|i+1)
 let aa r <-Yz al (<-gK (bj t) ib) (bj t) ia ma 0|return al
 let (ja,la):=(ia+r,ma-r)
 if la == 0 then return ak
 let aa lb <-Yz ak (<-gK (bj t) (ja+la-1)) (bj t) ib mb (mb-1)|return al
 if lb == 0 then return ak
 let u:=(bj t).extract ja ib
 let v:=(bj t).extract ib<|ib+lb
 let mg <-if la<=lb then UC u v else QM u v
 modify λt=>setArr t<|mg.toList.zipIdx.foldl (λa (p,j)=>a.setIfInBounds (ja+j) p)<|bj t
 return (gS<|<-get).isNone):=rfl
theorem ym(b:Nat):∀(m:List cp)(j:Nat)(a:Array cp),b+j+m.length<=a.size->((m.zipIdx j).foldl (λa q=>a.setIfInBounds (b+q.2) q.1) a).toList=a.toList.take (b+j)++m++a.toList.drop (b+j+m.length)
 |[],j,a,h=>by simp
 |x::r,j,a,h=>by
  rw[aG]at h;rw[lW,dB,ym b r (j+1) _<|by rw[Array.size_setIfInBounds];lia]
  dsimp only
  rw[k7,aG,<-lI b j 1,lz,List.take_set_of_le<|aJ _,bc (by simpa using(by lia:b+j<a.size)),List.drop_set_of_lt<|by lia]
  simp[lI,gC 1]
def Runs(rk:cp->Nat):List (Nat×Nat)->Nat->Nat->List cp->Prop
 |[],a,b,_=>a=b
 |(i,n)::r,a,b,l=>i=a/\1<=n/\Srt (lr rk) ((l.drop a).take n)/\Runs rk r (a+n) b l
section
theorem Runs.le:∀{r:List (Nat×Nat)}{a b:Nat}{l:List cp},Runs rk r a b l->a+r.length<=b
 |[],a,b,l,h=>oD h
 |(i,n)::r,a,b,l,#[_,h1,_,h]=>by have:=h.le;rw[aG];lia
theorem Runs.app:∀{r q:List (Nat×Nat)}{a b:Nat}{l:List cp},Runs rk (r++q) a b l↔∃c,Runs rk r a c l/\Runs rk q c b l
 |[],q,a,b,l=>#[λh=>#[a,rfl,h],λ#[c,h1,h2]=>by cases h1;exact h2]
 |(i,n)::r,q,a,b,l=>by
  constructor
  .rintro ⟨h1,h2,h3,h4⟩
   obtain⟨c,h5,h6⟩:=Runs.app.mp h4;exact#[c,#[h1,h2,h3,h5],h6]
  .rintro ⟨c,⟨h1,h2,h3,h4⟩,h5⟩
   exact#[h1,h2,h3,Runs.app.mpr #[c,h4,h5]]
theorem Runs.congr:∀{r:List (Nat×Nat)}{a b:Nat}{l l':List cp},Runs rk r a b l->(∀k,a<=k->k<b->l'[k]?=l[k]?)->Runs rk r a b l'
 |[],a,b,l,l',h,_=>h
 |(i,n)::r,a,b,l,l',#[h1,h2,h3,h4],e=>by
  have:=h4.le;refine#[h1,h2,?_,h4.congr λk ha hb=>e k (by lia) hb]
  have:(l'.drop a).take n=(l.drop a).take n:=c7 λk=>by
   rw[cW,cW,fP,fP];split
   .exact e _ (by lia) (by lia)
   .rfl
  rw[this];exact h3
def zj(hx:Srt (lr rk) x)(hy:Srt (lr rk) y)(h:∀a∈x,∀b∈y,rk a<rk b):Srt (lr rk) (x++y):=dF.mpr #[hx,hy,h]
structure Sc(κ:gR)(a₀:Array cp)(τ:bW):Prop where
 kd:kindOf τ=κ
 pm:(bj τ).Perm a₀
 fl:gS τ=af
variable{In:cp->Prop}
theorem x9(O:Od prog w A E s κ In rk)(ia:∀x∈a₀.toList,In x)(nd:(a₀.toList.map rk).Nodup){Q:Bool->bW->Prop}(h:Sc κ a₀ τ)(h1:(bo τ)[i]?=aa (a,na,pw))(h2:(bo τ)[i+1]?=aa (a+na,nb,qw))
  (hl:(bj τ).toList=U++(X++(Y++Z)))(lU:U.length=a)(lX:X.length=na)(lY:Y.length=nb)(xa:1<=na)(yb:1<=nb)(sx:Srt (lr rk) X)(sy:Srt (lr rk) Y)
  (q:∀st' M,Sc κ a₀ st'->bo st'=((bo τ).setIfInBounds i (a,na+nb,pw)).eraseIdxIfInBounds (i+1)->(bj st').toList=U++(M++Z)->M.length=na+nb->Srt (lr rk) M->Q ak st'):mP (aV prog w) A E s (mergeAt' i) Q τ:=by
 have hp:=bL.mp h.pm;have ial:=λx hx=>ia x<|hp.mem_iff.mp hx
 have ndl:=((hp.map rk).nodup_iff).mpr nd;have hsz:(bj τ).size=a+(na+(nb+Z.length)):=by rw[<-aS,hl];simp[lU,lX,lY]
 have dX:((bj τ).toList.drop a).take na=X:=by rw[hl,<-lU,iG,<-lX,k8]
 have dY:((bj τ).toList.drop<|a+na).take nb=Y:=by rw[hl,<-bF,<-lU,<-lX,<-aU,iG,<-lY,k8]
 have ndXY:∀x∈X,∀y∈Y,rk x≠rk y:=λx hx y hy e=>by
  rw[hl,br,gh,br,gh]at ndl;exact ndl.2.1.2.2 _ (eG hx) _ (by rw[br];exact dE _<|eG hy) e
 have inX:∀x∈X,In x:=λx hx=>ial x (by rw[hl];simp[hx])
 have inY:∀y∈Y,In y:=λy hy=>ial y (by rw[hl];simp[hy])
 obtain⟨y0,Y',rfl⟩:∃y0 Y',Y=y0::Y':=by cases Y with|nil=>simp at lY;lia|cons y Y'=>exact#[y,Y',rfl]
 have e0:(bj τ)[a+na]?=aa y0:=by
  rw[<-bw,hl,<-bF,bu<|by simp;lia]
  simp[lU,lX]
 rw[zT];refine aM<|iE ?_;rw[h1,h2]
 dsimp only
 refine aM<|fO ?_
 generalize hst:iW τ (((bo τ).setIfInBounds i (a,na+nb,pw)).eraseIdxIfInBounds<|i+1)=st1;have S1:Sc κ a₀ st1:=by rw[<-hst];exact#[h.kd,h.pm,h.fl]
 have P1:bo st1=((bo τ).setIfInBounds i (a,na+nb,pw)).eraseIdxIfInBounds (i+1):=by rw[<-hst]
 have A1:bj st1=bj τ:=by rw[<-hst]
 refine aM<|ZF e0<|aM<|vt O S1.kd (inY y0<|aj ..) xa (by lia) ial (by rw[dX];exact sx) (by rw[dX];exact λx hx=>ndXY x hx y0<|aj ..) λr hr r1 r2=>?_
 rw[dX]at r1 r2
 dsimp only
 have lowY:∀x∈X.take r,∀y∈y0::Y',rk x<rk y:=λx hx y hy=>by
  rcases aB.mp hy with rfl|hy
  .exact r1 x hx
  .exact dC (r1 x hx)<|(bf.mp sy).1 y hy
 by_cases c:na-r=0
 .rw[T9<|by simpa using c]
  have:X.take r=X:=cq (by lia)
  rw[this]at lowY;exact aW<|q st1 (X++y0::Y') S1 P1 (by rw[A1,hl,bF]) (by rw[aU,lX,lY])<|zj sx sy lowY
 rw[T8<|by simpa using c]
 have exl:(bj τ)[a+r+(na-r)-1]?=X[na-1]?:=by
  rw[<-bw,hl,bu (by lia),bR<|by lia]
  congr 1;lia
 have xl:X[na-1]?=aa (X[na-1]'(by lia)):=ai _
 generalize hx0:X[na-1]'(by lia)=x0 at xl
 have mx0:x0∈X:=cU xl;have mx1:x0∈X.drop r:=cU (i:=na-1-r) (by rw[fP];rw[<-xl];congr 1;lia)
 have maxX:∀x∈X,x=x0\/rk x<rk x0:=λx hx=>by
  obtain⟨k,hk,rfl⟩:=mX.mp hx;by_cases z:k=na-1
  .subst z;exact .inl hx0
  .right;rw[<-hx0];exact bI.mp sx k (na-1) hk (by lia) (by lia)
 refine aM<|ZF (exl.trans xl)<|aM<|vt O S1.kd (inX x0 mx0) (by lia) (by lia) ial (by rw[dY];exact sy) (by rw[dY];exact λy hy=>Ne.symm<|ndXY x0 mx0 y hy) λt ht t1 t2=>?_
 rw[dY]at t1 t2
 dsimp only
 have t0:t≠0:=λz=>by
  subst z;have a1:=r2 x0 mx1;have a2:=t2 y0<|aj ..;lia
 rw[T8<|by simpa using t0]
 generalize hY:y0::Y'=Y at *;have eu:((bj τ).extract (a+r)<|a+na).toList=X.drop r:=by
  have:a+na=(a+r)+(na-r):=by lia
  rw[this,vj,<-k6,hl,<-lU,iG,kh<|by lia]
  rw[show na-r=(X.drop r).length by rw[bP,lX],k8]
 have ev:((bj τ).extract (a+na)<|a+na+t).toList=Y.take t:=by
  rw[vj,hl,<-bF,<-lU,<-lX,<-aU,iG,ki<|by lia]
 generalize hu:(bj τ).extract (a+r) (a+na)=u at *;generalize hv:(bj τ).extract (a+na) (a+na+t)=v at *;have ul:u.size=na-r:=by rw[<-aS,eu,bP,lX]
 have vl:v.size=t:=by rw[<-aS,ev,bC,lY];lia
 have su:Srt (lr rk) u.toList:=by rw[eu];exact sx.sublist<|List.drop_sublist ..
 have sv:Srt (lr rk) v.toList:=by rw[ev];exact sy.sublist<|om ..
 have v0:∀x∈u.toList,rk (v[0]'(by lia))<rk x:=λx hx=>by
  have:v.toList[0]?=aa y0:=by
   rw[ev,<-hY];obtain⟨t',rfl⟩:∃t',t=t'+1:=#[t-1,by lia]
   rfl
  have e:v[0]'(by lia)=y0:=by
   rw[bw,bH<|by lia]at this
   exact aq this
  rw[e];exact r2 x (by rw[<-eu];exact hx)
 have G:Mg κ In rk u v (u.toList++v.toList):=by
  refine#[?_,λx hx=>inX x<|cG<|eu▸hx,λy hy=>inY y<|db<|ev▸hy,λy hy x hx=>?_]
  .rw[br,gh]
   have nx:∀{z:List cp},Srt (lr rk) z->(z.map rk).Nodup:=λ{z} hz=>cT.mpr<|hz.imp λhab=>bp hab
   refine#[nx su,nx sv,λp hp p' hp' e=>?_]
   obtain⟨x,hx,rfl⟩:=aR.mp hp;obtain⟨y,hy,rfl⟩:=aR.mp hp';exact ndXY x (cG<|eu▸hx) y (db<|ev▸hy) e
  .have hx:x=x0:=by
    rw[eu,ul,k6,show r+(na-r-1)=na-1 by lia,cE (by lia),show na-1+1=X.length by lia,eR,aK]at hx
    rw[hx];exact hx0
   rw[hx];exact t1 y (by rw[<-ev];exact hy)
 have fin:∀r' st',Sg st1 st'->Res rk (u.toList++v.toList) r'->mP (aV prog w) A E s (do
   modify λt=>setArr t<|r'.toList.zipIdx.foldl (λz (p,j)=>z.setIfInBounds (a+r+j) p)<|bj t
   return (gS<|<-get).isNone) Q st':=λr' st' sg hr'=>by
  obtain⟨g1,g2,g3,g4⟩:=sg;obtain⟨k1,k2⟩:=hr';have rl:r'.toList.length=(na-r)+t:=by rw[k1.length_eq,aU,aS,aS,ul,vl]
  refine aM<|fO<|aM<|iE<|aW ?_;have fo:=ym (a+r) r'.toList 0 (bj τ) (by lia)
  have el:((r'.toList.zipIdx.foldl (λz (q:cp×Nat)=>z.setIfInBounds (a+r+q.2) q.1)<|bj τ).toList)=U++((X.take r++(r'.toList++Y.drop t))++Z):=by
   rw[fo,Nat.add_zero,hl,<-lU,List.take_append,pb,rl];have e1:U.length+r-U.length=r:=by lia
   have e2:U.length+r+(na-r+t)-U.length=na+t:=by lia
   rw[e1,e2,cq (by lia),mq (by lia),fj,ki (by lia),<-lX,pb,mq (by lia),fj,show X.length+t-X.length=t by lia,kh<|by lia]
   simp[bF]
  have hX:X.take r++X.drop r=X:=cN ..;have hYt:Y.take t++Y.drop t=Y:=cN ..;have pM:(X.take r++(r'.toList++Y.drop t)).Perm (X++Y):=by
   rw[eu,ev]at k1;have:(X.take r++(r'.toList++Y.drop t)).Perm (X.take r++((X.drop r++Y.take t)++Y.drop t)):=(k1.append_right _).append_left _;refine this.trans<|mD ?_;rw[bF<|X.drop r,hYt,<-bF,hX]
  rw[g4,S1.fl];refine q (setArr st'<|r'.toList.zipIdx.foldl (λz (q:cp×Nat)=>z.setIfInBounds (a+r+q.2) q.1)<|bj st') (X.take r++(r'.toList++Y.drop t)) #[g1.trans S1.kd,?_,g4.trans S1.fl] (g3.trans P1) (by rw[<-el,<-A1,<-g2]) (by rw[pM.length_eq,aU,lX,lY]) ?_
  .refine(bL.mpr ?_).trans h.pm
   rw[g2,A1,el,hl,<-bF X Y Z];exact(pM.append_right _).append_left _
  .have memR:∀z∈r'.toList,z∈X.drop r\/z∈Y.take t:=λz hz=>by
    have:=k1.mem_iff.mp hz;rw[eu,ev]at this;exact bD.mp this
   have sX:=dF.mp<|hX.symm▸sx;have sY:=dF.mp<|hYt.symm▸sy;refine zj sX.1 (zj k2 sY.2.1 λp hp y hy=>?_) λx hx z hz=>?_
   .rcases memR p hp with m|m
    .have:=t2 y hy
     rcases maxX p (cG m)with rfl|m
     .exact this
     .exact dC m this
    .exact sY.2.2 p m y hy
   .rcases bD.mp hz with m|m
    .rcases memR z m with m|m
     .exact sX.2.2 x hx z m
     .exact lowY x hx z<|db m
    .exact lowY x hx z<|cG m
 by_cases cl:na-r<=t
 .rw[T9 cl]
  exact aM<|wC O G S1.kd (by lia) (by lia) su sv (cn _) v0 λr' st' sg hr'=>fin r' st' sg hr'
 .rw[T8 cl]
  have fs:∀x∈u.toList,∀y∈v.toList.take 1,rk y<rk x:=λx hx y hy=>by
   have e:=Ya (a:=v) (i:=0) (by lia)
   rw[kX]at e;rw[e]at hy;rw[aK.mp hy];exact v0 x hx
  exact aM<|wL O G fs S1.kd (by lia) (by lia) su sv (cn _) λr' st' sg hr'=>fin r' st' sg hr'
end
section
variable{In:cp->Prop}
noncomputable abbrev g2(q:Nat×Nat×Nat):Nat×Nat:=(q.1,q.2.1)
def pl(τ:bW):List (Nat×Nat):=(bo τ).toList.map g2
def cut2{B:Type}{l:List B}{i:Nat}{x y:B}(h1:l[i]?=aa x)(h2:l[i+1]?=aa y):l=l.take i++(x::y::l.drop (i+2)):=by
 obtain⟨a,e1⟩:=aF.mp h1;obtain⟨b,e2⟩:=aF.mp h2
 conv=>lhs;rw[<-cN i l,cE a,cE b,e1,e2]
theorem WI(O:Od prog w A E s κ In rk)(ia:∀x∈a₀.toList,In x)(nd:(a₀.toList.map rk).Nodup){Q:Bool->bW->Prop}{i b:Nat}{R3:List (Nat×Nat)}(h:Sc κ a₀ τ)(hi:i+1<(bo τ).size)(hb:b<=a₀.size)(hr:Runs rk (pl τ++R3) 0 b (bj τ).toList)
  (q:∀st',Sc κ a₀ st'->(bo st').size=(bo τ).size-1->Runs rk (pl st'++R3) 0 b (bj st').toList->Q ak st'):mP (aV prog w) A E s (mergeAt' i) Q τ:=by
 obtain⟨⟨a,na,pw⟩,h1⟩:∃x,(bo τ)[i]?=aa x:=#[_,bH<|by lia]
 obtain⟨⟨b1,nb,qw⟩,h2⟩:∃x,(bo τ)[i+1]?=aa x:=#[_,bH hi];have e:=cut2 (by rw[bw];exact h1) (by rw[bw];exact h2)
 generalize hA:(bo τ).toList.take i=RA at e;generalize hC:(bo τ).toList.drop (i+2)=RC at e;have lA:RA.length=i:=by rw[<-hA,bC,aS];lia
 unfold pl at hr;rw[e,br,bF]at hr;obtain⟨c,r1,r2⟩:=Runs.app.mp hr;obtain⟨z1,n1,s1,z2,n2,s2,r3⟩:=r2
 dsimp only[g2]at z1 n1 s1 z2 n2 s2 r3
 subst z1 z2;have hle:=r3.le;have hsz:(bj τ).toList.length=a₀.size:=by rw[aS];exact h.pm.size_eq
 generalize hl:(bj τ).toList=l at *;have el:l=l.take a++((l.drop a).take na++((l.drop<|a+na).take nb++l.drop (a+na+nb))):=by
  rw[td,td,cN]
 have lU:(l.take a).length=a:=by rw[bC];lia
 refine x9 O ia nd h h1 h2 (hl.trans el) lU (by rw[bC,bP];lia) (by rw[bC,bP];lia) n1 n2 s1 s2 λst' M S' hp' hl' lM sM=>?_
 have hpl:(bo st').toList=RA++((a,na+nb,pw)::RC):=by
  rw[hp',Array.toList_eraseIdxIfInBounds,k7,e,List.set_append_right _ _ (by lia),lA,Nat.sub_self]
  rw[List.eraseIdx_append_of_length_le (by lia),lA,show i+1-i=1 by lia]
  rfl
 refine q st' S' ?_ ?_
 .rw[<-aS,hpl,<-aS,e]
  simp
 .have at_:∀k,(k<a\/a+na+nb<=k)->(bj st').toList[k]?=l[k]?:=λk hk=>by
   rw[hl']
   conv=>rhs;rw[el]
   rcases hk with hk|hk
   .rw[bR (by lia),bR<|by lia]
   .rw[bu (by lia),bu (by lia),bu (by lia),<-bF,bu<|by simp;lia]
    congr 1
    simp;lia
  unfold pl;rw[hpl,br,bF];refine Runs.app.mpr #[a,r1.congr λk _ hk=>at_ k<|.inl hk,rfl,by dsimp only[g2];lia,?_,?_]
  .rw[hl',<-lM,List.drop_left' lU,k8];exact sM
  .rw[<-lI];exact r3.congr λk hk _=>at_ k<|.inr hk
theorem ZaZ{lo n:Nat}{xs:Array cp}(hn:lo+n<=xs.size)(u:Up rk xs lo n):Srt (lr rk) ((xs.toList.drop lo).take n):=by
 refine bI.mpr λi j hi hj hij=>?_
 rw[bC,bP,aS]at hi hj;have g:∀k (hk:k<((xs.toList.drop lo).take n).length),((xs.toList.drop lo).take n)[k]=xs[lo+k]'(by rw[bC,bP,aS]at hk;lia):=λk hk=>by
  rw[gi,iC,Array.getElem_toList]
 rw[g,g];have:=u (lo+i) (lo+j) (by lia) (by lia) (by lia)
 rw[zx (by lia),zx<|by lia]at this
 exact this
def JD{P:Array (Nat×Nat×Nat)}{k pw:Nat}:(P.modify k λq=>(q.1,q.2.1,pw)).toList.map g2=P.toList.map g2:=by
 refine c7 λi=>?_
 rw[aQ,aQ,bw,bw,Array.getElem?_modify];split
 .cases P[i]?<;>rfl
 .rfl
theorem sort_ok(O:Od prog w A E s κ In rk)(ia:∀x∈a₀.toList,In x)(nd:(a₀.toList.map rk).Nodup){Q:Unit->bW->Prop}(hk:kindOf τ=κ)(ha:bj τ=a₀)(hp:bo τ = #[])(hf:gS τ=af)(h1:1<=a₀.size)
  (q:∀st',(bj st').Perm a₀->gS st'=af->Srt (lr rk) (bj st').toList->Q () st'):mP (aV prog w) A E s sortRuns' Q τ:=by
 rw[sortRuns'_eq];refine aM<|iE ?_;rw[ha]
 dsimp only
 have S0:Sc κ a₀ τ:=#[hk,by rw[ha],hf]
 refine aM (fq (cP
  (I:=λx c st'=>∃lo,c=(af,lo)/\x<=lo/\lo<=a₀.size/\Sc κ a₀ st'/\Runs rk (pl st') 0 lo (bj st').toList)
  (Q:=λc st'=>c=(af,a₀.size)/\Sc κ a₀ st'/\Runs rk (pl st') 0 a₀.size (bj st').toList) ?_ ?_ #[0,rfl,aJ _,d4 _,S0,by unfold pl;rw[hp];rfl]) ?_)
 .rintro x c st1 _ hx ⟨lo,rfl,g1,g2',S1,R1⟩
  dsimp only
  by_cases c:lo>=a₀.size
  .rw[T9 c]
   obtain rfl:lo=a₀.size:=by lia
   exact aW #[rfl,S1,R1]
  rw[T8 c];have B1:Sb κ a₀ (bo st1) lo ((bj st1).toList.take lo) st1:=#[S1.kd,S1.pm,S1.fl,rfl,rfl];refine aM<|ZbJ O ia nd (by lia) (by lia) B1 λm st2 B2 m1 m2 u2=>?_
  dsimp only
  have done:∀n st3,1<=n->lo+n<=a₀.size->Sc κ a₀ st3->Runs rk (pl st3++[(lo,n)]) 0 (lo+n) (bj st3).toList->∃lo',((af,lo+n):Option PUnit×Nat)=(af,lo')/\x+1<=lo'/\lo'<=a₀.size/\Sc κ a₀ (iW st3<|(bo st3).push (lo,n,0))/\Runs rk (pl<|iW st3<|(bo st3).push (lo,n,0)) 0 lo' (bj st3).toList:=λn st3 n1 n2 S3 R3=>
   #[lo+n,rfl,by lia,n2,#[S3.kd,S3.pm,S3.fl],by
    have:pl (iW st3<|(bo st3).push (lo,n,0))=pl st3++[(lo,n)]:=by
     show oE g2 ((bo st3).push (lo,n,0)).toList=_;rw[gj,br];rfl
    rw[this];exact R3]
  by_cases c2:m<pX a₀.size a₀.size 0
  .rw[T9 c2]
   refine aM<|Wl<|aM<|Zb6 (n:=rX (a₀.size-lo)<|pX a₀.size a₀.size 0) O ia nd (by lia) m1 (by lia) B2 u2 λst5 B u=>?_
   have n1:1<=rX (a₀.size-lo) (pX a₀.size a₀.size 0):=by lia
   have n2:lo+rX (a₀.size-lo) (pX a₀.size a₀.size 0)<=a₀.size:=by lia
   simp only[gU,cy,if_false];generalize rX (a₀.size-lo) (pX a₀.size a₀.size 0)=n at *;clear B2 u2;refine aM<|iE ?_;have S5:Sc κ a₀ st5:=#[B.kd,B.pm,B.fl];have hz:(bj st5).size=a₀.size:=B.size;have R5:Runs rk (pl st5++[(lo,n)]) 0 (lo+n) (bj st5).toList:=Runs.app.mpr #[lo,by
    unfold pl at R1 ⊢;rw[B.pd];refine R1.congr λk _ hk=>?_
    have e:(ni lo _)[k]?=(ni lo _)[k]?:=congrArg (λl=>l[k]?) B.ah
    rw[cW,cW,T9 hk,T9 hk]at e;exact e,rfl,n1,ZaZ (by lia) u,rfl]
   cases hbk:(bo st5).back? with
   |none=>
    exact aM<|fO<|aW<|done n st5 n1 n2 S5 R5
   |some q5=>
    obtain⟨x1,x2,x3⟩:=q5
    dsimp only
    refine aM<|fq (cP (I:=λ_ c st3=>c=(af,())/\Sc κ a₀ st3/\Runs rk (pl st3++[(lo,n)]) 0 (lo+n) (bj st3).toList) ?_ (λc st3 h=>h) #[rfl,S5,R5]) ?_
    .rintro x c st3 _ _ ⟨rfl,S3,R3⟩
     refine aM<|iE ?_;by_cases c:(bo st3).size>1
     .rw[T9 c,bH<|show(bo st3).size-2<(bo st3).size by lia]
      dsimp only
      split
      .exact aW #[rfl,S3,R3]
      .refine aM (WI O ia nd S3 (by lia) n2 R3 λst4 S4 _ R4=>?_)
       simp only[gU,cy,if_false];exact aW #[rfl,S4,R4]
     .rw[T8 c]
      exact aW #[rfl,S3,R3]
    .rintro c st3 ⟨rfl,S3,R3⟩
     dsimp only
     exact aM (fO (aM (fO (aW (done n (iW st3 _) n1 n2 #[S3.kd,S3.pm,S3.fl] (by
      show Runs rk (oE g2 (Array.modify _ _ _).toList++_) _ _ _;rw[JD];exact R3))))))
  .rw[T8 c2]
   have n2:lo+m<=a₀.size:=by lia
   refine aM<|iE ?_;have S5:Sc κ a₀ st2:=#[B2.kd,B2.pm,B2.fl];have hz:(bj st2).size=a₀.size:=B2.size;have R5:Runs rk (pl st2++[(lo,m)]) 0 (lo+m) (bj st2).toList:=Runs.app.mpr #[lo,by
    unfold pl at R1 ⊢;rw[B2.pd];refine R1.congr λk _ hk=>?_
    have e:(ni lo _)[k]?=(ni lo _)[k]?:=congrArg (λl=>l[k]?) B2.ah
    rw[cW,cW,T9 hk,T9 hk]at e;exact e,rfl,m1,ZaZ (by lia) u2,rfl]
   cases hbk:(bo st2).back? with
   |none=>
    exact aM<|fO<|aW<|done m st2 m1 n2 S5 R5
   |some q5=>
    obtain⟨x1,x2,x3⟩:=q5
    dsimp only
    refine aM<|fq (cP (I:=λ_ c st3=>c=(af,())/\Sc κ a₀ st3/\Runs rk (pl st3++[(lo,m)]) 0 (lo+m) (bj st3).toList) ?_ (λc st3 h=>h) #[rfl,S5,R5]) ?_
    .rintro x c st3 _ _ ⟨rfl,S3,R3⟩
     refine aM<|iE ?_;by_cases c:(bo st3).size>1
     .rw[T9 c,bH<|show(bo st3).size-2<(bo st3).size by lia]
      dsimp only
      split
      .exact aW #[rfl,S3,R3]
      .refine aM (WI O ia nd S3 (by lia) n2 R3 λst4 S4 _ R4=>?_)
       simp only[gU,cy,if_false];exact aW #[rfl,S4,R4]
     .rw[T8 c]
      exact aW #[rfl,S3,R3]
    .rintro c st3 ⟨rfl,S3,R3⟩
     dsimp only
     exact aM (fO (aM (fO (aW (done m (iW st3 _) m1 n2 #[S3.kd,S3.pm,S3.fl] (by
      show Runs rk (oE g2 (Array.modify _ _ _).toList++_) _ _ _;rw[JD];exact R3))))))
 .rintro c st1 ⟨lo,rfl,g1,g2',S1,R1⟩
  obtain rfl:lo=a₀.size:=by lia
  exact#[rfl,S1,R1]
 .rintro c st1 ⟨rfl,S1,R1⟩
  dsimp only
  have len1:=R1.le;refine aM (fq (cP
   (I:=λx c st2=>c=(af,())/\Sc κ a₀ st2/\Runs rk (pl st2) 0 a₀.size (bj st2).toList/\(bo st2).size<=max 1 (a₀.size-x))
   (Q:=λc st2=>c=(af,())/\Sc κ a₀ st2/\Runs rk (pl st2) 0 a₀.size (bj st2).toList/\(bo st2).size<=1) ?_ ?_ #[rfl,S1,R1,by unfold pl at len1;rw[ax,aS]at len1;lia]) ?_)
  .rintro x c st2 _ hx ⟨rfl,S2,R2,l2⟩
   refine aM<|iE ?_;by_cases c:(bo st2).size<=1
   .rw[T9 c]
    exact aW #[rfl,S2,R2,c]
   rw[T8 c];generalize hj:(if(Option.any (λx=>ag<|x<((bo st2)[(bo st2).size-2+1]?).elim 0 λx=>x.2.1)<|if(bo st2).size-2>0 then Option.map (λx=>x.2.1) (bo st2)[(bo st2).size-2-1]? else af)=ak then(bo st2).size-2-1 else(bo st2).size-2)=j
   have hj1:j+1<(bo st2).size:=by
    have g:∀b:Bool,(if b=ak then(bo st2).size-2-1 else(bo st2).size-2)+1<(bo st2).size:=λb=>by cases b<;>simp<;>lia
    rw[<-hj];exact g _
   refine aM<|WI (R3:=[]) O ia nd S2 hj1 (aJ _) (by rw[cQ];exact R2) λst3 S3 l3 R3=>?_
   rw[cQ]at R3;simp only[gU,cy,if_false];exact aW #[rfl,S3,R3,by lia]
  .rintro c st2 ⟨rfl,S2,R2,l2⟩
   exact#[rfl,S2,R2,by lia]
  .rintro c st2 ⟨rfl,S2,R2,l2⟩
   dsimp only
   refine aW<|q st2 S2.pm S2.fl ?_;have hz:(bj st2).toList.length=a₀.size:=by rw[aS];exact S2.pm.size_eq
   unfold pl at R2
   match hP:(bo st2).toList,R2 with
   |[],R2=>exact T7 (show 0=a₀.size from R2) (by lia)
   |[(i,n,pw)],R2=>
    obtain⟨_,_,z,e⟩:=R2;have e:0+n=a₀.size:=e;rw[kX,cq<|by dsimp only[g2];lia]at z
    exact z
   |_::_::_,_=>rw[<-aS,hP]at l2;simp at l2
end
end Tq
namespace Sq
open PySem PySem.W PyProof.Rows
structure Ord(n:Nat)(lt:Nat->Nat->Bool):Prop where
 tot:∀i j,i<n->j<n->i≠j->lt i j=al->lt j i=ak
 asy:∀i j,i<n->j<n->lt i j=ak->lt j i=al
 tr:∀i j k,i<n->j<n->k<n->lt i j=ak->lt j k=ak->lt i k=ak
noncomputable abbrev g(p:Array Nat)(i:Nat):Nat:=p.getD i 0
def Pm(n:Nat)(p:Array Nat):Prop:=p.Perm<|c8<|aP n
theorem Pm.size(h:Pm n p):p.size=n:=by have:=Array.Perm.size_eq h;simpa using this
def ZaT(h:i<p.size):p[i]?=aa (g p i):=by simp[g,h]
def Pm.lt(h:Pm n p)(hi:i<n):g p i<n:=by
 have hs:=h.size;have h1:g p i∈p.toList:=by
  have:p.toList[i]?=aa (g p i):=by rw[bw];exact ZaT (by lia)
  exact cU this
 have h2:p.toList.Perm (aP n):=by simpa using bL.mp h
 exact bh.mp<|h2.mem_iff.mp h1
def Up(lt:Nat->Nat->Bool)(p:Array Nat)(m:Nat):Prop:=∀i j,i<j->j<m->lt (g p i) (g p j)=ak
theorem Jk{B:Type}{p q:B->Bool}:∀{l:List B},(∀x∈l,p x=ak->q x=ak)->(∃x∈l,q x=ak/\p x=al)->l.countP p<l.countP q
 |[],_,#[x,hx,_]=>by cases hx
 |y::l,h,#[x,hx,h1,h2]=>by
  have hm:=List.countP_mono_left λz hz=>h z<|ao _ hz
  rw[pc,pc];rcases aB.mp hx with rfl|hx
  .rw[h1,h2,T9 rfl,T8 aN];lia
  .have:=Jk (λz hz=>h z<|ao _ hz) #[x,hx,h1,h2]
   have hy:=h y<|aj ..;cases e:p y with|false=>rw[T8 aN];lia|true=>rw[hy e,T9 rfl];lia
noncomputable def rank(n:Nat)(lt:Nat->Nat->Bool)(i:Nat):Nat:=(aP n).countP λj=>lt j i
def Uf{n:Nat}{lt:Nat->Nat->Bool}(O:Ord n lt){i j:Nat}(hi:i<n)(hj:j<n):ag (rank n lt i<rank n lt j)=lt i j:=by
 have irr:∀k,k<n->lt k k=al:=λk hk=>by
  cases e:lt k k with|false=>rfl|true=>rw[<-e];exact O.asy k k hk hk e
 have up:=λ{a b} ha hb e=>
  Jk (λx hx h=>O.tr x a b (bh.mp hx) ha hb h e) #[a,bh.mpr ha,e,irr a ha]
 cases e:lt i j with
 |true=>exact T5<|up hi hj e
 |false=>
  refine T4 λh=>?_
  by_cases z:i=j
  .subst z;exact bK _ h
  .exact Nat.lt_asymm h<|up hj hi<|O.tot i j hi hj z e
section
open Classical
noncomputable def idx(vs:List au)(v:au):Nat:=if h:∃i:Nat,vs[i]?=aa v then choose h else 0
def xt(nd:vs.Nodup)(h:vs[i]?=aa v):idx vs v=i:=by
 have hx:∃i:Nat,vs[i]?=aa v:=#[i,h];unfold idx;rw[dif_pos hx];have e:=choose_spec hx;have hl:=(aF.mp e).1;exact(iF hl nd).mp<|e.trans h.symm
end
def Zfg{vs:List au}{κ:gR}{lt:Nat->Nat->Bool}(nd:vs.Nodup)(h1:1<=vs.length)(O:Ord vs.length lt)
  (ask:∀i j,i<vs.length->j<vs.length->∀(C:Bool->ay->Prop)(E:au->ay->Prop),C (lt i j) s->ba (aV prog w) A (keyLt' κ (vs.getD i bz)<|vs.getD j bz) C E s) :
  ba (aV prog w) A ((sortRuns').run<|rC κ (vs.toArray.zip vs.toArray) #[] 7 af) (λr s'=>s'=s/\∃p,Pm vs.length p/\Up lt p vs.length/\gS r.2=af/\(bj r.2).map (·.2)=c8 (p.toList.map λi=>vs.getD i bz)) E s:=by
 have hz:(vs.toArray.zip vs.toArray).toList=vs.map λv=>(v,v):=by
  rw[ksk_zip];show sC vs vs=_;clear ask O h1 nd
  induction vs with|nil=>rfl|cons v l ih=>rw[cc,ih];rfl
 let rk:cp->Nat:=λx=>rank vs.length lt<|idx vs x.1
 let In:cp->Prop:=λx=>∃i:Nat,vs[i]?=aa x.1/\x=(x.1,x.1)
 have atI:∀{x:cp},In x->idx vs x.1<vs.length/\vs.getD (idx vs x.1) bz=x.1:=λ{x} #[i,e,_]=>by
  rw[xt nd e];exact#[(aF.mp e).1,by rw[aD,e];rfl]
 have od:Tq.Od prog w A E s κ In rk:=⟨λ{x y τ Q} ix iy hk q=>by
  obtain⟨a1,a2⟩:=atI ix;obtain⟨b1,b2⟩:=atI iy;rw[lt'_eq];refine aM<|iE ?_;rw[hk];have:=ask _ _ a1 b1 (λb s'=>s'=s/\b=lt (idx vs x.1) (idx vs y.1)) (λ_ _=>False) #[rfl,rfl]
  rw[a2,b2]at this;refine aM<|wpS_lift<|i6<|cR this (λb s' h=>?_) λ_ _ h=>h.elim
  obtain⟨rfl,rfl⟩:=h;refine#[rfl,aW ?_];rw[<-Uf O a1 b1];exact q⟩
 have ia:∀x∈(vs.toArray.zip vs.toArray).toList,In x:=λx hx=>by
  rw[hz]at hx;obtain⟨v,hv,rfl⟩:=aR.mp hx;obtain⟨i,hi,e⟩:=mX.mp hv;exact#[i,by rw[ai hi,e],rfl]
 have rks:(vs.toArray.zip vs.toArray).toList.map rk=(aP vs.length).map (rank vs.length lt):=by
  rw[hz,bO];refine c7 λi=>?_
  rw[aQ,aQ];by_cases h:i<vs.length
  .rw[cO h,ai h]
   exact congrArg (λk=>aa<|rank vs.length lt k)<|xt nd<|ai h
  .rw[cZ (by lia),cZ<|by rw[bq];lia];rfl
 have ndr:((vs.toArray.zip vs.toArray).toList.map rk).Nodup:=by
  rw[rks];refine cT.mpr<|gV ?_ pe;intro a b ha hb ne e;have ha:=bh.mp ha;have hb:=bh.mp hb;have h1:=Uf O ha hb;have h2:=Uf O hb ha;rw[e,T4<|bK _]at h1 h2;exact T7 (O.tot a b ha hb ne h1.symm) (by rw[<-h2];simp)
 have sz:(vs.toArray.zip vs.toArray).size=vs.length:=by rw[<-aS,hz,ax]
 refine Tq.sort_ok (Q:=λ_ st'=>∃p,Pm vs.length p/\Up lt p vs.length/\gS st'=af/\(bj st').map (·.2)=c8 (p.toList.map λi=>vs.getD i bz)) od ia ndr rfl rfl rfl rfl (by lia) λst' pm fl so=>?_
 have pl:=bL.mp pm;have inS:=λx hx=>ia x<|pl.mem_iff.mp hx
 have pp:((bj st').toList.map λx=>idx vs x.1).Perm (aP vs.length):=by
  refine(pl.map _).trans<|mD ?_;rw[hz,bO];refine c7 λi=>?_
  rw[aQ];by_cases h:i<vs.length
  .rw[cO h,ai h]
   exact congrArg aa<|xt nd<|ai h
  .rw[cZ (by lia),cZ<|by rw[bq];lia];rfl
 have sl:(bj st').toList.length=vs.length:=by rw[pl.length_eq,hz,ax]
 refine#[c8<|(bj st').toList.map λx=>idx vs x.1,bL.mpr pp,λi j hij hj=>?_,fl,?_]
 .have gk:∀k (hk:k<(bj st').toList.length),g (c8<|(bj st').toList.map λx=>idx vs x.1) k=idx vs ((bj st').toList[k]).1:=λk hk=>by
   show((c8<|(bj st').toList.map λx=>idx vs x.1).getD k 0)=_
   rw[Array.getD_eq_getD_getElem?,List.getElem?_toArray,aQ,ai hk];rfl
  rw[gk i (by lia),gk j<|by lia]
  have:=bI.mp so i j (by lia) (by lia) hij
  rw[<-Uf O (atI<|inS _<|bU _).1 (atI<|inS _<|bU _).1];exact T5 this
 .apply lZ.mp
  rw[pf,bO];refine dN λx hx=>?_
  have hi:=inS x hx;show x.2=vs.getD (idx vs x.1) bz;rw[(atI hi).2];obtain⟨_,_,e⟩:=hi;rw[e]
open PySem.Calls
def Lat(h h':cw):Prop:=∀b o,h.get? b=aa o->h'.get? b=aa o
structure Asks(prog:bB)(w:bS)(A:cx)(h:cw)(vs:List au)(κ:gR)(lt:Nat->Nat->Bool):Prop where
 kind:2<=vs.length->∀(s':ay)(E:au->ay->Prop)(Q:gR->ay->Prop),Lat h s'.heap->Q κ s'->ba (aV prog w) A (keyKind' vs.toArray) Q E s'
 nd:vs.Nodup
 cmp:∀i j,i<vs.length->j<vs.length->∀(s':ay)(C:Bool->ay->Prop)(E:au->ay->Prop),Lat h s'.heap->C (lt i j) s'->ba (aV prog w) A (keyLt' κ (vs.getD i bz)<|vs.getD j bz) C E s'
noncomputable def ltR(b:Bool)(n:Nat)(lt:Nat->Nat->Bool):Nat->Nat->Bool:=λi j=>if b=ak then lt (n-1-i) (n-1-j)else lt i j
def Zcg(O:Ord n lt):Ord n (ltR b n lt):=by
 cases b
 .exact O
 .exact#[λi j hi hj ne h=>O.tot _ _ (by lia) (by lia) (by lia) h,λi j hi hj h=>O.asy _ _ (by lia) (by lia) h,λi j k hi hj hk h1 h2=>O.tr _ _ _ (by lia) (by lia) (by lia) h1 h2]
def zK(hi:i<vs.length):(ku b vs).getD i bz=vs.getD (if b=ak then vs.length-1-i else i) bz:=by
 cases b
 .rfl
 .show vs.reverse.getD i bz=vs.getD (vs.length-1-i) bz
  simp only[aD];rw[iP hi]
def qu(vs:List au):(aP vs.length).map (λi=>vs.getD i bz)=vs:=by
 apply c7
 intro i;rw[aQ];by_cases h:i<vs.length
 .rw[cO h];simp[h]
 .simp[fH h]
def list_sort_rev{P:PySem.Fin->ay->Prop}(ho:s.heap.get? a=aa (fZ "list" vs.toArray n))(h64:vs.length<=100000)
  (h00:∀b o,h0.get? b=aa o->b≠a/\s.heap.get? b=aa o)(O:Ord vs.length lt)(K:Asks prog w A h0 vs κ lt)
  (h:∀p,Pm vs.length p->Up (ltR b vs.length lt) p vs.length->P (.done<|.ret .none) {s with heap:=sortedHeap s.heap a vs (c8<|ku b<|p.toList.map λi=>(ku b vs).getD i bz)}) :
  ba (aV prog w) A (dZ.«list.sort» #[[.ref a],[(iH "reverse",.bool b)]]) P E s:=by
 rw[k9];have ha:=aT ho;refine ae<|listItems_at ho rfl ?_;refine ae<|nD ho rfl ?_;obtain⟨e1,ho1⟩:∃e1,(s.heap.update a<|dU λ_=>#[]).get? a=aa (fZ "list" #[] e1):=#[_,get?_update_seq ho λ_=>#[]]
 refine ae<|pO ho1 rfl ?_;refine ae<|wpAny_newTuple ?_;refine ae<|nE ?_;refine cD ?_;have ho6:(((s.heap.update a<|dU λ_=>#[]).push<|fZ "tuple" vs.toArray 0).push<|fZ "list" #[] 0).get? a=aa (fZ "list" #[] e1):=by
  rw[fu _ _ _ (by rw[rF,iX];exact bp<|dL ha),fu _ _ _<|by rw[iX];exact bp ha]
  exact ho1
 have lat:Lat h0 (((s.heap.update a<|dU λ_=>#[]).push<|fZ "tuple" vs.toArray 0).push<|fZ "list" #[] 0):=λb o e=>by
  obtain⟨nb,e⟩:=h00 b o e;exact aw _<|aw _<|by rw[kC _ _ _ _ nb];exact e
 generalize hs':((s.heap.update a<|dU λ_=>#[]).push<|fZ "tuple" vs.toArray 0).push (fZ "list" #[] 0)=h1 at ho6 lat ⊢
 dsimp only
 have step:∀t:oh PySem.Fin,ba (aV prog w) A t P E {s with heap:=h1}->ba (aV prog w) A (if b=ak then(do let _ <-oQ "list.sort.reverse";t)else t) P E {s with heap:=h1}:=by
  intro t ht;split
  .exact ae<|eD ht
  .exact ht
 refine step _ ?_;have hrl:=pY b vs;have fin:∀out:List au,out.length=vs.length->(∃p,Pm vs.length p/\Up (ltR b vs.length lt) p vs.length/\out=p.toList.map λi=>(ku b vs).getD i bz)->
   P (.done<|.ret .none) {s with heap:=h1.update a (dU λ_=>c8<|ku b out)}:=by
  rintro out _ ⟨p,h1',h2',rfl⟩
  subst hs';exact h p h1' h2'
 by_cases h2:vs.toArray.size<2
 .rw[T9 h2,T9 h2]
  refine ae<|aC ?_;rw[StateT.run_pure];refine ae<|aC ?_
  dsimp only
  have hz:((bj<|rC general' (if b=ak then(vs.toArray.zip vs.toArray).reverse else vs.toArray.zip vs.toArray) #[] 7 af).map (·.2))=c8 (ku b vs):=by
   rw[kat_pairs b rfl];apply lZ.mp;rw[pf,ksk_zip];exact List.map_snd_zip<|aJ _
  rw[hz];refine ae<|pO ho6 rfl ?_;rw[kat_outs];refine ae<|nD ho6 rfl ?_ (hsz2:=by rw[az];(try rw[pY]);(try rw[pY]);rw[dv];lia)
  simp only[bne_self_eq_false,cy,if_false];refine aC<|fin (ku b vs) (pY b vs) #[c8<|aP vs.length,Array.Perm.refl _,λi j a1 a2=>by rw[az]at h2;lia,?_]
  rw[<-hrl];exact(qu _).symm
 .rw[T8 h2,T8 h2]
  have l2:2<=vs.length:=by rw[az]at h2;lia
  refine ae<|K.kind l2 _ _ _ lat ?_;rw[kat_pairs b rfl];have ndR:(ku b vs).Nodup:=by
   cases b
   .exact K.nd
   .exact(eo vs).nodup_iff.mpr K.nd
  refine ae (cR (Zfg ndR (by lia) (by rw[hrl];exact Zcg (b:=b) O) (by
    rw[hrl];intro i j hi hj C E hC;rw[zK hi,zK hj];cases b
    .exact K.cmp i j hi hj _ _ _ lat hC
    .exact K.cmp _ _ (by simp only[if_true];lia) (by simp only[if_true];lia) _ _ _ lat hC)) ?_ λ_ _ x=>x)
  rintro ⟨⟨⟩,st'⟩ s' ⟨rfl,p,e2,e3,hf,har⟩
  rw[hrl]at e2 e3
  dsimp only
  rw[har];have hl:(p.toList.map λi=>(ku b vs).getD i bz).length=vs.length:=by rw[ax,aS,e2.size]
  refine ae<|pO ho6 rfl ?_;rw[kat_outs];refine ae<|nD ho6 rfl ?_ (hsz2:=by rw[az];(try rw[pY]);rw[hl,dv];lia)
  rw[hf];simp only[bne_self_eq_false,cy,if_false];exact aC<|fin _ hl #[p,e2,e3,rfl]
def xq{l:aE}{vs:List au}{b:Bool}{κ:gR}{lt:Nat->Nat->Bool}{Q:au->ay->Prop}(hl:s.heap.IsList l vs.toArray)(h64:vs.length<=100000)(O:Ord vs.length lt)(K:Asks prog w A.in1.in1 s.heap vs κ lt)
  (h:∀p,Pm vs.length p->Up (ltR b vs.length lt) p vs.length->Q (.ref<|s.heap.objs.size+1) {s with heap:=sortedAll s.heap vs (c8<|ku b<|p.toList.map λi=>(ku b vs).getD i bz)}) :
  ba (aV prog w) A (call (.builtin "sorted") [.ref l] [(iH "reverse",.bool b)]) Q E s:=by
 refine call_function_entry_kw kind_sorted plain_sorted entry_sorted (args_sorted_rev _ _) ?_;unfold dZ.«sorted»;refine ae (m:=checkCount "sorted" 1 1 _)<|aC ?_;refine ae<|collect_list hl ?_;refine ae<|nE ?_;have hsz:((s.heap.push<|fZ "list" #[] 0).update s.heap.objs.size (dU (·++vs.toArray))).objs.size=s.heap.objs.size+1:=by
  rw[iX,rF]
 have hoL:(((s.heap.push<|fZ "list" #[] 0).update s.heap.objs.size (dU (·++vs.toArray))).push<|fZ "list" vs.toArray 0).get? (s.heap.objs.size+1)=aa (fZ "list" vs.toArray 0):=by
  rw[<-hsz];exact aO _ rfl
 show ba _ _ _ _ _ {s with heap:=((s.heap.push<|fZ "list" #[] 0).update s.heap.objs.size (dU (·++vs.toArray))).push (fZ "list" vs.toArray 0)}
 rw[hsz];refine ae<|cD<|wpAny_call_entry_kw slot_list_sort #[_,hoL,rfl] entry_list_sort (list_sort_rev (h0:=s.heap) hoL h64 (λb o e=>?_) O K  λp a1 a2=>#[_,rfl,?_])<|args_list_sort_rev _ _
 .have hlt:b<s.heap.objs.size:=aT e
  refine#[bp<|dL hlt,?_];rw[fu _ _ _ (by rw[hsz];exact bp<|dL hlt),kC _ _ _ _<|bp hlt,fu _ _ _<|bp hlt]
  exact e
 .exact aC #[_,rfl,h p a1 a2]
def qS(a:aE):dZ.«list.sort» #[[.ref a],[]]=dZ.«list.sort» #[[.ref a],[(iH "reverse",.bool al)]]:=by
 rw[PyProof.Rows.list_sort_plain,k9];rfl
def Vb{Q:au->ay->Prop}(hl:s.heap.IsList l vs.toArray)(h64:vs.length<=100000)(O:Ord vs.length lt)(K:Asks prog w A.in1.in1 s.heap vs κ lt)
  (h:∀p,Pm vs.length p->Up (ltR al vs.length lt) p vs.length->Q (.ref<|s.heap.objs.size+1) {s with heap:=sortedAll s.heap vs (c8<|ku al<|p.toList.map λi=>(ku al vs).getD i bz)}) :
  ba (aV prog w) A (call (.builtin "sorted") [.ref l]) Q E s:=by
 refine Calls.call_function_entry kind_sorted plain_sorted entry_sorted (args_sorted1 _) ?_;unfold dZ.«sorted»;refine ae<|aC ?_;refine ae<|collect_list hl ?_<|by rw[dv];lia
 refine ae<|nE ?_<|by rw[dv];lia
 have hsz:((s.heap.push<|fZ "list" #[] 0).update s.heap.objs.size (dU (·++vs.toArray))).objs.size=s.heap.objs.size+1:=by
  rw[iX,rF]
 have hoL:(((s.heap.push<|fZ "list" #[] 0).update s.heap.objs.size (dU (·++vs.toArray))).push<|fZ "list" vs.toArray 0).get? (s.heap.objs.size+1)=aa (fZ "list" vs.toArray 0):=by
  rw[<-hsz];exact aO _ rfl
 rw[hsz];refine ae (cD (dm slot_list_sort #[_,hoL,rfl] entry_list_sort (by
  rw[qS];exact list_sort_rev hoL h64 (λb o e=>by
   have hlt:=aT e;refine#[bp<|dL hlt,?_];rw[fu _ _ _ (by rw[hsz];exact bp<|dL hlt),kC _ _ _ _<|bp hlt,fu _ _ _<|bp hlt]
   exact e) O K λp a1 a2=>#[_,rfl,aC #[_,rfl,h p a1 a2]])<|args_list_sort _))
end Sq
namespace Sd
open PySem PySem.Spec PyProof.Rows L2
open Ev (E Sm Fn Bop Cop Ty Bf Mf)
section
variable{X:Cx}{pq:List (aE×fD)}{Z:L2.St}{H:Hp}{s:ay}{A:cx}{E:au->ay->Prop}{b:Bool}{Q:au->ay->Prop}
def xL(I:Inv X pq Z H s)(rx:Zz x u)(ty:TyOf X.K H x t)(htp:s.heap.get? tp=aa #[.type "tuple",dd,.seq its.toArray n,sl])
  (e:gw X.K t its=aa b)(h:∀tk,Q (.bool b) {s with toks:=tk}):ba (aV X.prog X.w) A (call (.builtin "isinstance") [u,.ref tp]) Q E s:=by
 cases ty with
 |non=>cases(show u=bz from rx);exact dQ oi I.kIn eB htp e (λz=>nomatch z) h
 |bl y=>cases(rx);exact dQ oj I.kIn eB htp e (λz=>nomatch z) h
 |int i=>obtain⟨t,q⟩:=(rx);cases q;exact dQ oS I.kIn eB htp e (λz=>nomatch z) h
 |str y=>obtain⟨t,q⟩:=(rx);cases q;exact dQ oU I.kIn eB htp e (λz=>nomatch z) h
 |@lst a xs ea=>
  cases(rx);obtain⟨_,_,n,_,h1⟩:=(I.hok a _ ea)
  exact dQ im I.kIn #[_,h1,rfl] htp e (λz=>nomatch z) h
 |@frz a ob xs ea=>
  cases(rx);obtain⟨_,_,_,n,_,h1⟩:=(I.hok a _ ea)
  exact dQ im I.kIn #[_,h1,rfl] htp e (λz=>nomatch z) h
 |@tup a xs ea=>
  cases(rx);obtain⟨_,_,_,p⟩:=(I.hok a _ ea)
  obtain⟨o,h1,h2,_⟩:=p;exact dQ nP I.kIn #[o,h1,h2] htp e (λz=>nomatch z) h
 |@dK a kvs ea=>
  cases(show u=de a from rx);obtain⟨_,_,vs,_,p⟩:=(I.hok a _ ea)
  obtain⟨o,es,ep,h1,h2,_⟩:=p;exact dQ ip I.kIn #[o,h1,h2.1] htp e (λz=>nomatch z) h
 |@dT a kvs ea=>
  cases(show u=de a from rx);obtain⟨_,_,xs,_,o,es,ep,h1,h2,_⟩:=(I.hok a _ ea)
  exact dQ ip I.kIn #[o,h1,h2.1] htp e (λz=>nomatch z) h
end
section
variable{X:Cx}{xw:Nat->Hp->Prop}{C:Calls}{e a b c:Expr}{i j k:E}{pos p p' p2 p3:fV}
def uB(T U:String):ZG X (.builtin "isinstance") (λvs H Q=>∃v tv n q,vs=[v,.ref q]/\H q=aa (.tup [.ty T,.ty U])/\TyOf X.K H v tv/\gw X.K tv [.type T,.type U]=aa n/\Q (.bl n) H):=by
 intro pq s Z H vs us Q I r h;obtain⟨v,tv,n,q,rfl,hq,ty,e,qq⟩:=h;obtain⟨u,w',rfl,r1,r2⟩:=zO r;cases r2;obtain⟨its,rv,⟨o,ho,hc,m,hd⟩,_⟩:=I.tuple<|SqT.of hq;obtain⟨cls,dd,data,sl⟩:=o;simp only at hc hd;subst hc hd;obtain⟨z1,z2,rfl,q1,q2⟩:=zO rv;cases q1;cases q2;exact xL I r1 ty ho e λtk=>#[.bl n,H,I.tok tk,rfl,qq]
def TyOf.later{K:am}{H:Hp}{v:V}{tv:au}{q:aE}{o:HO}(h:TyOf K H v tv)(hq:H q=af):TyOf K (upd H q o) v tv:=by
 cases h with|non=>exact .non|bl b=>exact .bl b|int b=>exact .int b|str b=>exact .str b|lst e=>exact .lst (by rw[Zj<|ZQ e hq];exact e)|frz e=>exact .frz (by rw[Zj<|ZQ e hq];exact e)|tup e=>exact .tup (by rw[Zj<|ZQ e hq];exact e)|dK e=>exact .dK (by rw[Zj<|ZQ e hq];exact e)|dT e=>exact .dT (by rw[Zj<|ZQ e hq];exact e)
def TyOf.uniq{K:am}{H:Hp}{v:V}{t1 t2:au}(h1:TyOf K H v t1)(h2:TyOf K H v t2):t1=t2:=by
 cases h1<;>cases h2<;>first|rfl|simp_all
theorem Gx{T Y:bi}{t u:Ty}{k0:Nat}{p4:fV}(ht:∀m,t≠.cls m)(hu:∀m,u≠.cls m)(hm:X.mg "isinstance" = af)(hmT:X.mg T=af)(hmU:X.mg Y=af)(ha:CE X xw C a i)(hg:Gl X "isinstance")(hgT:Gl X T)(hgU:Gl X Y)(hvT:dg T=aa (.type<|ZT t))(hvU:dg Y=aa (.type<|ZT u))(hnT:T≠"__name__")(hdT:(T == ("__debug__" : bi))=al)(hnU:Y≠"__name__")(hdU:(Y == ("__debug__" : bi))=al)
  (hs0:aA [.Name T p2,.Name Y p3] X.env=(al,cr (.Name T p2) X.env)::aA [.Name Y p3] X.env)(hs00:aA [.Name Y p3] X.env=(al,cr (.Name Y p3) X.env)::aA [] X.env)
  (hs1:aA [a,.Tuple [.Name T p2,.Name Y p3] k0 p4] X.env=(al,cr a X.env)::aA [.Tuple [.Name T p2,.Name Y p3] k0 p4] X.env)(hs2:aA [.Tuple [.Name T p2,.Name Y p3] k0 p4] X.env=(al,cr (.Tuple [.Name T p2,.Name Y p3] k0 p4) X.env)::aA [] X.env)(hpl:(dq pos<|aA [.Tuple [.Name T p2,.Name Y p3] k0 p4] X.env).any (·.1)=al) :
  CE X xw C (.Call (.Name "isinstance" p) [a,.Tuple [.Name T p2,.Name Y p3] k0 p4] [] pos) (.isi i [t,u]):=
 PE.imp (Xs (uB (ZT t)<|ZT u) hg hm (by rfl) (Zx ha (Zx (jO<|Zx (Um (v:=.ty<|ZT t) hgT hmT hvT rfl hnT hdT) (Zx (Um (v:=.ty<|ZT u) hgU hmU hvU rfl hnU hdU) Yi hs00) hs0) Yi hs2) hs1) (by decide) (by decide) hs1 hpl)<|by
  rintro Z H Q ⟨U,l,S,st,lr,h⟩;refine#[U,l,S,st,lr,End.bind (h) λx S1 ρ1 H1 v f1 st1 r1 h1=>#[by show 2<=bn;rw[dv];lia,λq hq=>?_]]
  obtain⟨n,hn,h2⟩:=End.ob h1;have st2:=st1.fresh (o:=.tup [.ty<|ZT t,.ty<|ZT u]) hq;have f2:=Zw (U:=ρ1) (o:=.tup [.ty<|ZT t,.ty<|ZT u]) hq;have fin:=λtv ty e=>(#[v,tv,n,q,rfl,Zn,TyOf.later ty hq,e,h2 ρ1 _ _ f2 st2<|Yj n]:∃v' tv n q',[v,V.ref q]=[v',.ref q']/\upd H1 q (.tup [.ty<|ZT t,.ty<|ZT u]) q'=aa (.tup [.ty<|ZT t,.ty<|ZT u])/\TyOf X.K (upd H1 q<|.tup [.ty<|ZT t,.ty<|ZT u]) v' tv/\gw X.K tv [.type<|ZT t,.type<|ZT u]=aa n/\Q (.bl n) (upd H1 q<|.tup [.ty<|ZT t,.ty<|ZT u]))
  unfold Pv.Y2 at hn;cases q1:Pv.Wd x t with
  |none=>rw[q1]at hn;cases hn
  |some m=>
   rw[q1]at hn;obtain⟨tv,ty,e⟩:=xj r1 ht q1;cases m with
   |true=>
    have hn':n=ak:=(aq hn).symm;exact fin tv ty (by unfold gw;rw[e,hn'])
   |false=>
    have hn1:(match Pv.Wd x u with
     |some ak=>aa ak
     |some al=>Pv.Y2 x []
     |none=>af)=aa n:=hn
    cases q2:Pv.Wd x u with
    |none=>rw[q2]at hn1;cases hn1
    |some m2=>
     rw[q2]at hn1;obtain⟨tv2,ty2,e2⟩:=xj r1 hu q2;have et:tv2=tv:=TyOf.uniq ty2 ty;subst et;refine fin tv2 ty ?_;unfold gw;rw[e];unfold gw;rw[e2];cases m2 with|true=>exact hn1|false=>exact hn1
end
end Sd
namespace Sd
open Ev (ltI Wt ZV)
theorem Ug:∀{x y:List Int},x≠y->ltI x y=al->ltI y x=ak
 |[],[],h,_=>T7 rfl h
 |[],_::_,_,h=>by cases h
 |_::_,[],_,_=>rfl
 |a::x,b::y,h,e=>by
  unfold ltI at e ⊢;by_cases c:a=b
  .subst c
   rw[T9 rfl]at e ⊢;exact Ug (λz=>h<|by rw[z]) e
  .rw[T8 c]at e
   rw[T8<|Ne.symm c];have:=of_decide_eq_false e;exact T5 (by omega)
theorem Wj:∀{x y:List Int},ltI x y=ak->ltI y x=al
 |[],[],h=>by cases h
 |[],_::_,_=>rfl
 |_::_,[],h=>by cases h
 |a::x,b::y,e=>by
  unfold ltI at e ⊢;by_cases c:a=b
  .subst c
   rw[T9 rfl]at e ⊢;exact Wj e
  .rw[T8 c]at e
   rw[T8<|Ne.symm c];have:=T6 e;exact T4 (by omega)
theorem GL:∀{x y z:List Int},ltI x y=ak->ltI y z=ak->ltI x z=ak
 |[],[],_,h,_=>by cases h
 |_::_,[],_,h,_=>by cases h
 |_,_::_,[],_,h=>by cases h
 |[],_::_,_::_,_,_=>rfl
 |a::x,b::y,c::z,e,f=>by
  unfold ltI at e f ⊢;by_cases h1:a=b
  .subst h1
   rw[T9 rfl]at e;by_cases h2:a=c
   .subst h2
    rw[T9 rfl]at f ⊢;exact GL e f
   .rw[T8 h2]at f ⊢;exact f
  .rw[T8 h1]at e
   have e':=T6 e;by_cases h2:b=c
   .subst h2
    rw[T8 h1];exact e
   .rw[T8 h2]at f
    have f':=T6 f;rw[T8<|by omega]
    exact T5 (by omega)
theorem VD(x:List Int):∀l:List (List Int),(Wt x l).Perm (x::l)
 |[]=>cn _
 |y::r=>by
  unfold Wt;split
  .exact cn _
  .exact((VD x r).cons y).trans<|lc x y r
theorem Y8:∀l:List (List Int),(ZV l).Perm l
 |[]=>cn _
 |x::r=>(VD x<|ZV r).trans<|(Y8 r).cons x
theorem VW(x:List Int):∀{l:List (List Int)},(∀y∈l,x≠y)->l.Pairwise (λa b=>ltI a b=ak)->(Wt x l).Pairwise (λa b=>ltI a b=ak)
 |[],_,_=>by exact eA ..
 |y::r,hn,h=>by
  rw[bf]at h;unfold Wt;split
  .rename_i c
   rw[bf,bf];refine#[λz hz=>?_,h]
   rcases aB.mp hz with rfl|hz
   .exact c
   .exact GL c<|h.1 z hz
  .rename_i c
   rw[bf];refine#[λz hz=>?_,VW x (λy hy=>hn y<|ao _ hy) h.2]
   rcases aB.mp ((VD x r).mem_iff.mp hz)with rfl|hz
   .exact Ug (hn y<|aj ..) (by simpa using c)
   .exact h.1 z hz
theorem XO:∀{l:List (List Int)},l.Nodup->(ZV l).Pairwise (λa b=>ltI a b=ak)
 |[],_=>dH
 |x::r,h=>by
  rw[cY]at h;exact VW x (λy hy e=>h.1<|by rw[e];exact(Y8 r).mem_iff.mp hy)<|XO h.2
theorem Wb:∀{a b:List (List Int)},a.Perm b->a.Pairwise (λx y=>ltI x y=ak)->b.Pairwise (λx y=>ltI x y=ak)->a=b
 |[],b,p,_,_=>(pi p)
 |x::a,[],p,_,_=>by have:=p.length_eq;simp at this
 |x::a,y::b,p,ha,hb=>by
  rw[bf]at ha hb;have e:x=y:=by
   rcases aB.mp (p.mem_iff.mp<|aj ..)with h|h
   .exact h
   .rcases aB.mp (p.mem_iff.mpr (aj))with h2|h2
    .exact h2.symm
    .have z1:=hb.1 x h
     have z2:=ha.1 y h2;rw[Wj z1]at z2;cases z2
  subst e;rw[Wb (rG x |>.mp p) ha.2 hb.2]
open PySem PySem.Spec PyProof.Rows L2
open Ev (E Sm Fn Bop Cop Ty Bf Mf YL VA Z8 ltP ZM)
noncomputable def QZ(fin:Bool):List Int->List Int->Bool
 |[],_=>fin
 |_::_,[]=>fin
 |a::x,b::y=>if a=b then QZ fin x y else ag (a<b)
theorem GC:∀(x y:List Int),QZ (ag<|x.length<y.length) x y=ltI x y
 |[],[]=>rfl
 |[],_::_=>by unfold QZ ltI;simp
 |_::_,[]=>by unfold QZ ltI;simp
 |a::x,b::y=>by
  unfold QZ ltI;have:ag ((a::x).length<(b::y).length)=ag (x.length<y.length):=by simp
  rw[this,GC x y]
theorem ya{C:Bool->ay->Prop}:∀{x y:List Int}{u v:List au}{i:Nat},Vals (x.map V.int) u->Vals (y.map V.int) v->C (QZ fin x y) s->rH prog w A b fin C (u.zip v) i s
 |[],_,_,_,_,.nil,_,h=>by rw[iI];exact kw h
 |_::_,[],_,_,_,_,.nil,h=>by rw[g9];exact kw h
 |a::x,c::y,_,_,i,.cons ra ta,.cons rb tb,h=>by
  obtain⟨t,rfl⟩:=ra;obtain⟨t',rfl⟩:=rb;rw[cc];refine pj<|lO ?_;unfold QZ at h;by_cases e:a=c
  .rw[T9 e]at h
   rw[beq_iff_eq.mpr e];exact pR<|ya ta tb h
  .rw[T8 e]at h
   rw[beq_eq_false_iff_ne.mpr e];refine rJ ?_;cases q:(b&&i == 0)with|true=>exact oneLt_int h|false=>exact pS _ _<|lt_int h
inductive RowsAt(h:cw):List (List Int)->List au->Prop where
 |nil:RowsAt h [] []
 |cons {r:List Int} {rs:List (List Int)} {vs:List au} {a:aE} {o:fD} {us:List au} {m:Nat} (ho:h.get? a=aa o) (hc:o.cls=.type "tuple") (hd:o.data=.seq us.toArray m) (hv:Vals (r.map V.int) us) (t:RowsAt h rs vs):RowsAt h (r::rs) (.ref a::vs)
theorem UQ:∀{ks:List D}{k:List Int},Pv.intsV ks=aa k->ks=k.map Pv.V.int
 |[],k,h=>by cases h;rfl
 |d::ks,k,h=>by
  obtain⟨n,r,rfl,e,rfl⟩:=VR h;rw[UQ e];rfl
def qi(h:Pv.Yd (d::ds)=aa rs):∃a b,d=Pv.Zd a/\Pv.Yd ds=aa b/\rs=a::b:=by
 cases d with
 |tup x=>
  have h:(match Pv.intsV x,Pv.Yd ds with
   |some a,aa b=>aa (a::b)
   |_,_=>af)=aa rs:=h
  cases q1:Pv.intsV x with
  |none=>rw[q1]at h;cases h
  |some a=>
   cases q2:Pv.Yd ds with
   |none=>rw[q1,q2]at h;cases h
   |some b=>
    rw[q1,q2]at h;exact#[a,b,congrArg Pv.V.tup<|UQ q1,rfl,(aq h).symm]
 |_=>exact Ev.nos h
theorem Rq.intsV:∀{r:List Int}{xs:List V},Rq U H (r.map Pv.V.int) xs->xs=r.map V.int
 |[],xs,h=>by exact h
 |n::r,xs,h=>by
  have h':=h;obtain⟨v,vs,rfl,a,b⟩:=h';rw[a.int',Rq.intsV b];rfl
theorem Vr(I:Inv X pq Z H s):∀{ds:List D}{rs:List (List Int)}{xs:List V}{its:List au},Pv.Yd ds=aa rs->Rq U H ds xs->Vals xs its->RowsAt s.heap rs its/\ds=rs.map Pv.Zd
 |[],rs,xs,its,h,r,v=>by
  subst r;cases v;cases h;exact#[.nil,rfl]
 |d::ds,rs,xs,its,h,r,v=>by
  obtain⟨x,xs',rfl,r1,r2⟩:=r;cases v with
  |cons v1 v2=>
   obtain⟨a,b,rfl,q2,rfl⟩:=qi h;obtain⟨t,e⟩:=Vr I q2 r2 v2;obtain⟨p,ys,rfl,hp,ry⟩:=r1.tup';have ey:=Rq.intsV ry;subst ey;cases v1;obtain⟨us,rv,⟨o,ho,hc,m,hd⟩,_⟩:=I.tuple<|SqT.of hp;exact#[.cons ho hc hd rv t,by rw[e];rfl]
theorem RowsAt.length{h:cw}:∀{rs:List (List Int)}{vs:List au},RowsAt h rs vs->rs.length=vs.length
 |_,_,.nil=>rfl
 |_,_,.cons _ _ _ _ t=>by rw[aG,aG,RowsAt.length t]
theorem RowsAt.at{h:cw}:∀{rs:List (List Int)}{vs:List au}(i:Nat),RowsAt h rs vs->i<vs.length->∃a o us m,vs.getD i bz=.ref a/\h.get? a=aa o/\o.data=.seq us.toArray m/\Vals ((rs.getD i []).map V.int) us
 |_,_,_,.nil,hi=>by simp at hi
 |_,_,0,.cons ho hc hd hv t,_=>#[_,_,_,_,rfl,ho,hd,hv]
 |_,_,i+1,.cons ho hc hd hv t,hi=>by
  obtain⟨a,o,us,m,e1,e2,e3,e4⟩:=RowsAt.at i t (by simpa using hi)
  exact#[a,o,us,m,by simpa using e1,e2,e3,by simpa using e4]
theorem RowsAt.tups(k:Sq.Lat h h'):∀{rs:List (List Int)}{vs:List au},RowsAt h rs vs->(∀r∈rs,r≠[])->∃fs,pT h' vs fs/\fs.length=vs.length/\∀v∈fs,∃n t,v=lN n t
 |_,_,.nil,_=>#[[],.nil,rfl,λv hv=>by cases hv]
 |_,_,.cons (r:=r) ho hc hd hv t,hn=>by
  obtain⟨fs,t1,t2,t3⟩:=RowsAt.tups k t λr hr=>hn r<|ao _ hr
  have hr:=hn r<|aj ..;cases r with
  |nil=>exact T7 rfl hr
  |cons n r=>
   obtain⟨u,g,rel⟩:=hv.get (i:=0) rfl;refine#[u::fs,.cons (k _ _ ho) hc hd (by simpa using g) t1,by rw[aG,aG,t2],λv hv=>?_]
   rcases aB.mp hv with rfl|hv
   .obtain⟨tk,e⟩:=rel
    exact#[n,tk,e]
   .exact t3 v hv
theorem Vg:∀{x y:List Int}{us:List au},Vals (x.map V.int) us->Vals (y.map V.int) us->x=y
 |[],[],_,_,_=>rfl
 |[],_::_,_,.nil,h=>by cases h
 |_::_,[],_,h,.nil=>by cases h
 |a::x,b::y,_,.cons r t,.cons r' t'=>by
  obtain⟨k,rfl⟩:=r;obtain⟨k',e⟩:=r';cases e;rw[Vg t t']
def zm{B:Type}{df:B}{rs:List B}{vs:List au}(hl:rs.length=vs.length)(nd:rs.Nodup)(h:∀i j,i<vs.length->j<vs.length->vs.getD i bz=vs.getD j bz->rs.getD i df=rs.getD j df):vs.Nodup:=by
 refine bI.mpr λi j hi hj hij e=>?_
 have:=h i j hi hj (by simp[hi,hj,e])
 simp only[aD,ai (show i<rs.length by lia),ai (show j<rs.length by lia)]at this
 exact bI.mp nd i j (by lia) (by lia) hij this
def uF{prog:bB}{w:bS}{A:cx}{h:cw}{rs:List (List Int)}{vs:List au}(R:RowsAt h rs vs)(nd:rs.Nodup)(hn:∀r∈rs,r≠[]):Sq.Asks prog w A h vs (tuples' ak) (λi j=>ltI (rs.getD i [])<|rs.getD j []):=by
 refine#[λh2 s' E Q k q=>?_,zm (df:=[]) R.length nd λi j hi hj e=>?_,λi j hi hj s' C E k q=>?_]
 .obtain⟨fs,t1,t2,t3⟩:=R.tups k hn
  exact pk (T:=.type "int") t1 (by lia) (λv hv=>by obtain⟨n,t,rfl⟩:=t3 v hv;exact PySem.W.Looks.of_pure rfl) rfl q
 .obtain⟨a,o,us,m,e1,e2,e3,e4⟩:=R.at i hi
  obtain⟨a',o',us',m',f1,f2,f3,f4⟩:=R.at j hj;rw[e1,f1]at e;cases e;rw[e2]at f2;cases f2;rw[e3]at f3;cases f3;exact Vg e4 f4
 .obtain⟨a,o,us,m,e1,e2,e3,e4⟩:=R.at i hi
  obtain⟨a',o',us',m',f1,f2,f3,f4⟩:=R.at j hj;rw[e1,f1];refine rK (k _ _ e2) e3 (k _ _ f2) f3<|ya e4 f4 ?_;have l1:us.toArray.size=(rs.getD i []).length:=by rw[az,<-e4.length,ax]
  have l2:us'.toArray.size=(rs.getD j []).length:=by rw[az,<-f4.length,ax]
  rw[l1,l2,GC];exact q
def ZaN{rs:List (List Int)}{n:Nat}(hn:rs.Nodup)(hl:rs.length=n):Sq.Ord n (λi j=>ltI (rs.getD i [])<|rs.getD j []):=by
 have hd:∀i j,i<n->j<n->i≠j->rs.getD i []≠rs.getD j []:=λi j hi hj ne e=>by
  simp only[aD]at e;have hi':i<rs.length:=by lia
  have hj':j<rs.length:=by lia
  refine ne<|(iF hi' hn).mp ?_;rw[ai hi',ai hj']at e ⊢;exact congrArg aa e
 exact#[λi j hi hj ne e=>Ug (hd i j hi hj ne) e,λi j _ _ e=>Wj e,λi j k _ _ _ e f=>GL e f]
def QC{B β:Type}(b:Bool)(f:B->β)(l:List B):bx b (l.map f)=(bx b l).map f:=by
 cases b
 .rfl
 .exact iY.symm
def V7{B:Type}(b:Bool)(l:List B):(bx b l).Perm l:=by
 cases b
 .exact cn _
 .exact eo l
def Xg{B:Type}{d:B}{b:Bool}{vs:List B}{i:Nat}(hi:i<vs.length):(bx b vs).getD i d=vs.getD (if b=ak then vs.length-1-i else i) d:=by
 cases b
 .rfl
 .show vs.reverse.getD i d=vs.getD (vs.length-1-i) d
  simp only[aD];rw[iP hi]
def ZbH{rs:List (List Int)}{b:Bool}{p:Array Nat}(hn:rs.Nodup)(h1:Sq.Pm rs.length p)(h2:Sq.Up (Sq.ltR b rs.length λi j=>ltI (rs.getD i [])<|rs.getD j []) p rs.length) :
  (p.toList.map λi=>(bx b rs).getD i [])=ZV rs:=by
 have hp:p.toList.Perm (aP rs.length):=by simpa using bL.mp h1
 have hl:p.toList.length=rs.length:=by rw[hp.length_eq,bq]
 refine Wb ?_ ?_<|XO hn
 .refine((hp.map _).trans ?_).trans (Y8 rs).symm
  have e:(aP rs.length).map (λi=>(bx b rs).getD i [])=bx b rs:=by
   apply c7
   intro i;rw[aQ];by_cases h:i<rs.length
   .have:i<(bx b rs).length:=by rw[fk];exact h
    rw[cO h];simp[this]
   .have:(bx b rs).length<=i:=by rw[fk];lia
    simp[fH h,this]
  rw[e];exact V7 b rs
 .rw[cT,bI]
  intro i j hi hj hij;have g1:p.toList[i]=Sq.g p i:=by
   have:=Sq.ZaT (by simpa using hi)
   rw[<-bw,ai hi]at this;exact aq this
  have g2:p.toList[j]=Sq.g p j:=by
   have:=Sq.ZaT (by simpa using hj)
   rw[<-bw,ai hj]at this;exact aq this
  rw[g1,g2,Xg (h1.lt<|by lia),Xg<|h1.lt<|by lia]
  have:=h2 i j hij (by lia)
  cases b
  .exact this
  .exact this
def ZbS{F:List Nat}{xs:List V}{rs:List (List Int)}(h:Rq U H (rs.map Pv.Zd) xs)(hF:∀i∈F,i<rs.length):Rq U H ((F.map λi=>rs.getD i []).map Pv.Zd) (F.map λi=>xs.getD i V.non):=by
 induction F with
 |nil=>exact Rq.nil
 |cons i F ih=>
  refine Rq.cons ?_<|ih λj hj=>hF j<|ao _ hj
  have hi:=hF i<|aj ..;obtain⟨v,g,r⟩:=h.get (by rw[aQ,ai hi];rfl)
  show Rep U H (Pv.Zd<|rs.getD i []) (xs.getD i V.non);rw[aD,aD,g,ai hi];exact r
def yR{F:List Nat}{xs:List V}{us:List au}(h:Vals xs us)(hF:∀i∈F,i<xs.length):Vals (F.map λi=>xs.getD i V.non) (F.map λi=>us.getD i bz):=by
 induction F with
 |nil=>exact .nil
 |cons i F ih=>
  refine .cons ?_<|ih λj hj=>hF j<|ao _ hj
  have hi:=hF i<|aj ..;obtain⟨u,g,r⟩:=h.get<|ai hi;show Zz (xs.getD i V.non) (us.getD i bz);rw[aD,aD,g,ai hi];exact r
def yI(h:Rq U H ds xs):Rq U H (bx b ds) (bx b xs):=by
 cases b
 .exact h
 .exact h.reverse
def xb :∀{xs:List V}{us:List au},Vals xs us->Vals (bx b xs) (bx b us):=by
 cases b
 .exact λh=>h
 .have snoc:∀{xs:List V}{us:List au}{x:V}{u:au},Vals xs us->Zz x u->Vals (xs++[x]) (us++[u]):=by
   intro xs us x u h r
   induction h with|nil=>exact .cons r .nil|cons a _ ih=>exact .cons a ih
  intro xs us h;show Vals xs.reverse us.reverse
  induction h with|nil=>exact .nil|cons r t ih=>rw[iz,iz];exact snoc ih r
def Zat(b:Bool):List V->Hp->VK->Prop:=λvs H Q=>∃U ds rws v,vs=[v]/\Rep U H (.lst ds) v/\Pv.Yd ds=aa rws/\YL rws=ak/\∀ys,Rq U H ((if b then(ZV rws).reverse else ZV rws).map Pv.Zd) ys->∀p,H p=af->Q (.ref p) (upd H p<|.lst ys)
def JE{pq:List (aE×fD)}{s:ay}{Z:L2.St}{H:Hp}{vs:List V}{us:List au}{Q:VK}{b:Bool}(I:Inv X pq Z H s)(r:Vals vs us)(h:Zat b vs H Q) :
  ∃(l:aE)(its:List au)(rs:List (List Int)),us=[.ref l]/\s.heap.IsList l its.toArray/\its.length<=100000/\rs.length=its.length/\Sq.Ord its.length (λi j=>ltI (rs.getD i [])<|rs.getD j [])/\(∀A,Sq.Asks X.prog X.w A s.heap its (tuples' ak) λi j=>ltI (rs.getD i [])<|rs.getD j [])/\
   ∀p,Sq.Pm its.length p->Sq.Up (Sq.ltR b its.length λi j=>ltI (rs.getD i [])<|rs.getD j []) p its.length->
    EP X pq Z Q (.ref<|s.heap.objs.size+1) {s with heap:=sortedAll s.heap its (c8<|bx b<|p.toList.map λi=>(bx b its).getD i bz)}:=by
 obtain⟨U,ds,rws,v,rfl,r1,hrw,hok,h3⟩:=h;obtain⟨l,xs,rfl,hx,_,rx⟩:=r1.lst';obtain⟨u,rfl,ru⟩:=Wv r;cases ru;obtain⟨its,rv,pl,hz⟩:=I.list<|SqL.of hx;obtain⟨RA,ed⟩:=Vr I hrw rx rv;obtain⟨hok1,hok3⟩:=(aI _ _).mp hok;obtain⟨hok1,hok2⟩:=(aI _ _).mp hok1;have h64:=T6 hok1;have hnd:=T6 hok2;have hne:∀r∈rws,r≠[]:=λr hr e=>by
  have:=aX.mp hok3 r hr;rw[e]at this;cases this
 have hlen:=RA.length;refine#[l,its,rws,rfl,pl.isList,by lia,hlen,ZaN hnd hlen,λA=>uF RA hnd hne,λp hp hu=>?_]
 rw[<-hlen]at hp hu;have out:=ZbH hnd hp hu;have hmem:∀i∈p.toList,i<rws.length:=λi hi=>by
  have hp':p.toList.Perm (aP rws.length):=by simpa using bL.mp hp
  exact bh.mp<|hp'.mem_iff.mp hi
 subst ed;have xl:xs.length=rws.length:=by rw[rx.length,ax]
 have rx1:Rq U H ((bx b rws).map Pv.Zd) (bx b xs):=by rw[<-QC];exact yI rx
 have rx2:=ZbS rx1 (by rw[fk];exact hmem)
 rw[out]at rx2;have rx3:=yI (b:=b) rx2;have rv2:=xb (b:=b)<|yR (xb (b:=b) rv)<|by rw[fk,xl];exact hmem
 have eb:(if b=ak then(ZV rws).reverse else ZV rws)=bx b (ZV rws):=rfl
 rw[eb,<-QC]at h3;obtain⟨ep,he⟩:=sortedAll_at s.heap its<|c8<|bx b<|p.toList.map λi=>(bx b its).getD i bz
 refine#[.ref<|s.heap.objs.size+1,_,I.laid (t':=s.toks) (λb ob q=>sortedAll_old q) (h8 _) ?_,rfl,h3 _ rx3 _<|I.hok.fresh<|h8 _]
 refine#[?_,_,ep,rv2,he];rw[fk,ax,aS,hp.size,dv];lia
def yh:ZG X (.builtin "sorted") (Zat al):=by
 intro pq s Z H vs us Q I r h;obtain⟨l,its,rs,rfl,h1,h2,h3,h4,h5,h6⟩:=JE I r h;exact Sq.Vb h1 h2 h4 (h5 _) λp a b=>h6 p a b
def WK{kp kp2:fV}{q0}(hm:X.mg "sorted" = af)(ha:CA X xw C [e] [i])(hg:Gl X "sorted")
  (he:dq pos (aA [e] X.env)=(al,cr e X.env)::dq pos (aA [] X.env))(hpl:(dq pos<|aA [e] X.env).any (·.1)=al) :
  CE X xw C (.Call (.Name "sorted" p) [e] [#[aa "reverse",.Constant (.bool ak) q0 kp,kp2]] pos) (.blt .sortedR [i]):=by
 intro pq s Z H Q I hq;obtain⟨U,l,S,st,lr,h⟩:=hq;refine eU<|YM I hg hm (show dg "sorted" = aa (.builtin "sorted")from rfl) ?_ (by decide)<|by decide
 refine callWith_kw (thn (ha pos pq s Z H (λvs H1=>Zat ak vs H1 Q) I ?_) λus s1 #[vs,H1,I1,r1,q1]=>?_) he hpl rfl rfl
 .refine#[U,l,S,st,lr,End.bind (show End X.K xw Rep U H Q ((Pv.pvs C [i] l S).bind λxs S=>Pv.po (Pv.Xq .sortedR xs) S)from h) λxs S1 ρ1 H1 vs f1 st1 r1 h1=>?_]
  obtain⟨d,v,z,rfl,r1,hz,h1⟩:=Wx h1 r1;cases d with
  |lst ds=>
   obtain⟨rws,hr,hz⟩:=bZ.mp hz;split at hz
   .cases hz;exact#[ρ1,ds,rws,v,rfl,r1,hr,‹_›,λys r=>h1.newL st1 r]
   .cases hz
  |_=>exact Ev.nos hz
 .refine kws_cons (thn (v8 pq s1 Z H1 (λv H2=>v=.bl ak/\H2=H1) I1 #[rfl,rfl]) λu s2 #[x,H2,I2,r2,e1,e2]=>kws_nil ?_)
  subst e1 e2;cases r2;obtain⟨l,its,rs,rfl,h1,h2,h3,h4,h5,h6⟩:=JE I2 r1 q1;exact Sq.xq (b:=ak) h1 h2 h4 (h5 _) λp a b=>h6 p a b
end Sd
namespace Sd
open PySem PySem.Spec PyProof.Rows L2
open Ev (ltI)
open PySem.SeqAt PySem.MeetsSeq PySem.MeetsSeq2 PySem.MeetsSeq3 PySem.SeqRoads2
open PySem.AutoSeq1 (wpAny_loadPart')
def wD(l b:aE)(u v:List au)(n n2:Nat)(dd dd2:Option aE)(sl sl2:Array (Option au))(x y:List Int)(hx:Vals (x.map V.int) u)(hy:Vals (y.map V.int) v) :
  rq (dZ.«tuple.__lt__» #[[.ref l,.ref b],[]]) (λA R s=>s.heap.get? l=aa {cls:=.type "tuple",dict:=dd,data:=.seq u.toArray n,slots:=sl}/\s.heap.get? b=aa {cls:=.type "tuple",dict:=dd2,data:=.seq v.toArray n2,slots:=sl2}/\R (.ok<|.ret<|.bool<|ltI x y) s):=
 .of_wp λprog w A R s h=>by
  obtain⟨hp,g,d,tk,os⟩:=s;obtain⟨hl,hb,h⟩:=h;have f2:=d3;rw[<-GC]at h
  wp_walk using kx hl,kx hb,wpAny_forIn_list _ (λrest b s'=>b.1=af/\s'=#[hp,g,d,tk,os]/\∃x' y' u' v',rest=sC u' v'/\Vals (oE V.int x') u'/\Vals (oE V.int y') v'/\R (.ok<|.ret<|.bool<|QZ (ag<|x.length<y.length) x' y') #[hp,g,d,tk,os]) _
  case turn=>
   rintro ⟨a,c⟩ rest b s' ⟨hb',rfl,x',y',u',v',hz,hx',hy',hR⟩
   match x',y',u',v',hx',hy',hz,hR with
   |i::x',j::y',_::u',_::v',.cons ra ta,.cons rb tb,hz,hR=>
    obtain⟨t,rfl⟩:=ra;obtain⟨t',rfl⟩:=rb;rw[cc]at hz;injection hz with h1 h2
    cases h1;unfold QZ at hR;refine ae<|lO ?_;by_cases e:i=j
    .rw[T9 e]at hR
     rw[beq_iff_eq.mpr e]
     wp_walk
     exact#[rfl,rfl,x',y',u',v',h2,ta,tb,hR]
    .rw[T8 e]at hR
     rw[beq_eq_false_iff_ne.mpr e];simp only[rM,if_true];refine ae<|eD<|ae<|PyProof.Rows.lt_int ?_
     wp_walk
     exact#[_,rfl,by simpa using hR]
   |[],_,_,_,.nil,_,hz,_=>rw[iI]at hz;cases hz
   |_::_,[],_,_,_,.nil,hz,_=>rw[g9]at hz;cases hz
  case fin=>
   rintro ⟨b1,b2⟩ s' ⟨hb',rfl,x',y',u',v',hz,hx',hy',hR⟩
   simp only at hb';subst hb';have hf:QZ (ag<|x.length<y.length) x' y'=ag (x.length<y.length):=by
    match x',y',u',v',hx',hy',hz with
    |[],_,_,_,_,_,_=>rfl
    |_::_,[],_,_,_,_,_=>rfl
    |_::_,_::_,_::_,_::_,.cons _ _,.cons _ _,hz=>rw[cc]at hz;cases hz
   rw[hf]at hR;have l1:u.length=x.length:=by rw[<-hx.length,ax]
   have l2:v.length=y.length:=by rw[<-hy.length,ax]
   wp_walk
   exact#[_,rfl,by simpa[iN,l1,l2]using hR]
  case h=>
   exact#[rfl,rfl,x,y,u,v,by simp,hx,hy,h]
def Zcy{E:au->ay->Prop}{Q:au->ay->Prop}(ha:s.heap.get? a=aa o)(hc:o.cls=.type "tuple")(hd:o.data=.seq u.toArray m)(hx:Vals (x.map V.int) u)
  (hb:s.heap.get? b=aa o')(hc':o'.cls=.type "tuple")(hd':o'.data=.seq v.toArray m')(hy:Vals (y.map V.int) v)(hu:A.units<dD)(q:Q (.bool<|ltI x y) s):ba (aV prog w) A (cK .Lt (.ref a)<|.ref b) Q E s:=by
 obtain⟨cls,dd,data,sl⟩:=o;obtain⟨cls2,dd2,data2,sl2⟩:=o';simp only at hc hd hc' hd';subst hc hd hc' hd';exact mr (op:=.Lt) #[_,ha,rfl] #[_,hb,rfl] pU pz (oF _ _) (wD a b u v m m' dd dd2 sl sl2 x y hx hy) #[ha,hb,#[(λx=>nomatch x),q]] hu
end Sd
namespace Sd
open Ev (ltI ltP VA Z8)
structure StrictB{B:Type}(lt:B->B->Bool):Prop where
 tot:∀{x y},x≠y->lt x y=al->lt y x=ak
 asy:∀{x y},lt x y=ak->lt y x=al
 tr:∀{x y z},lt x y=ak->lt y z=ak->lt x z=ak
theorem vW:∀{x y:List (List Int)},x≠y->ltP x y=al->ltP y x=ak
 |[],[],h,_=>T7 rfl h
 |[],_::_,_,h=>by cases h
 |_::_,[],_,_=>rfl
 |a::x,b::y,h,e=>by
  unfold ltP at e ⊢;by_cases c:a=b
  .subst c
   rw[T9 rfl]at e ⊢;exact vW (λz=>h<|by rw[z]) e
  .rw[T8 c]at e
   rw[T8<|Ne.symm c];exact Ug c e
theorem vC:∀{x y:List (List Int)},ltP x y=ak->ltP y x=al
 |[],[],h=>by cases h
 |[],_::_,_=>rfl
 |_::_,[],h=>by cases h
 |a::x,b::y,e=>by
  unfold ltP at e ⊢;by_cases c:a=b
  .subst c
   rw[T9 rfl]at e ⊢;exact vC e
  .rw[T8 c]at e
   rw[T8<|Ne.symm c];exact Wj e
theorem Zby:∀{x y z:List (List Int)},ltP x y=ak->ltP y z=ak->ltP x z=ak
 |[],[],_,h,_=>by cases h
 |_::_,[],_,h,_=>by cases h
 |_,_::_,[],_,h=>by cases h
 |[],_::_,_::_,_,_=>rfl
 |a::x,b::y,c::z,e,f=>by
  unfold ltP at e f ⊢;by_cases h1:a=b
  .subst h1
   rw[T9 rfl]at e;by_cases h2:a=c
   .subst h2
    rw[T9 rfl]at f ⊢;exact Zby e f
   .rw[T8 h2]at f ⊢;exact f
  .rw[T8 h1]at e
   by_cases h2:b=c
   .subst h2
    rw[T8 h1];exact e
   .rw[T8 h2]at f
    have g:=GL e f;rw[T8 λz=>by subst z;rw[Wj e]at f;cases f]
    exact g
def Yu:StrictB ltP:=#[vW,vC,Zby]
section
variable{B:Type}{lt:B->B->Bool}
theorem VB(x:B):∀l:List B,(VA lt x l).Perm (x::l)
 |[]=>cn _
 |y::r=>by
  unfold VA;split
  .exact cn _
  .exact((VB x r).cons y).trans<|lc x y r
theorem Z7:∀l:List B,(Z8 lt l).Perm l
 |[]=>cn _
 |x::r=>(VB x<|Z8 lt r).trans<|(Z7 r).cons x
theorem V3(O:StrictB lt)(x:B):∀{l:List B},(∀y∈l,x≠y)->l.Pairwise (λa b=>lt a b=ak)->(VA lt x l).Pairwise (λa b=>lt a b=ak)
 |[],_,_=>by exact eA ..
 |y::r,hn,h=>by
  rw[bf]at h;unfold VA;split
  .rename_i c
   rw[bf,bf];refine#[λz hz=>?_,h]
   rcases aB.mp hz with rfl|hz
   .exact c
   .exact O.tr c<|h.1 z hz
  .rename_i c
   rw[bf];refine#[λz hz=>?_,V3 O x (λy hy=>hn y<|ao _ hy) h.2]
   rcases aB.mp ((VB x r).mem_iff.mp hz)with rfl|hz
   .exact O.tot (hn y<|aj ..) (by simpa using c)
   .exact h.1 z hz
theorem YV(O:StrictB lt):∀{l:List B},l.Nodup->(Z8 lt l).Pairwise (λa b=>lt a b=ak)
 |[],_=>dH
 |x::r,h=>by
  rw[cY]at h;exact V3 O x (λy hy e=>h.1<|by rw[e];exact(Z7 r).mem_iff.mp hy)<|YV O h.2
theorem XC(O:StrictB lt):∀{a b:List B},a.Perm b->a.Pairwise (λx y=>lt x y=ak)->b.Pairwise (λx y=>lt x y=ak)->a=b
 |[],b,p,_,_=>(pi p)
 |x::a,[],p,_,_=>by have:=p.length_eq;simp at this
 |x::a,y::b,p,ha,hb=>by
  rw[bf]at ha hb;have e:x=y:=by
   rcases aB.mp (p.mem_iff.mp<|aj ..)with h|h
   .exact h
   .rcases aB.mp (p.mem_iff.mpr (aj))with h2|h2
    .exact h2.symm
    .have z1:=hb.1 x h
     have z2:=ha.1 y h2;rw[O.asy z1]at z2;cases z2
  subst e;rw[XC O (rG x |>.mp p) ha.2 hb.2]
end
open PySem PySem.Spec PyProof.Rows L2
theorem Gh:∀{x:List Int}{u:List au}{j:Nat}(h:j<u.length),Vals (x.map V.int) u->∃t,u[j]=lN (x.getD j 0) t
 |[],[],_,h,.nil=>by simp at h
 |_::_,_::_,0,_,.cons ra _=>by obtain⟨t,rfl⟩:=ra;exact#[t,rfl]
 |_::x,_::u,j+1,h,.cons _ ta=>by
  obtain⟨t,e⟩:=Gh (by simpa using h) ta
  exact#[t,by simpa using e]
def ZfP:∀{x y:List Int},((aP<|rX x.length y.length).all (λj=>x.getD j 0 == y.getD j 0)&&x.length == y.length)=ag (x=y):=by
 intro x y;rw[dz,aI,aX,decide_eq_true_iff]
 constructor
 .rintro ⟨h1,h2⟩
  have h2:x.length=y.length:=by simpa using h2
  apply gF h2;intro i hi hj;have:=h1 i<|bh.mpr<|by lia
  simpa[hi,hj]using this
 .rintro rfl
  exact#[λj _=>by simp,by simp]
def Vc(h:cw)(r:List Int)(v:au):Prop:=∃a o us m,v=.ref a/\h.get? a=aa o/\o.cls=.type "tuple"/\o.data=.seq us.toArray m/\Vals (r.map V.int) us
def Vc.lat(k:Sq.Lat h h')(R:Vc h r v):Vc h' r v:=by
 obtain⟨a,o,us,m,e,ho,hc,hd,hv⟩:=R;exact#[a,o,us,m,e,k _ _ ho,hc,hd,hv]
def vy(hx:Vc s.heap x v)(hy:Vc s.heap y u)(hu:A.units<dD):iS A s v u (ag<|x=y):=by
 obtain⟨a,o,us,m,rfl,ho,hc,hd,hv⟩:=hx;obtain⟨b,o',us',m',rfl,ho',hc',hd',hv'⟩:=hy;have l1:us.toArray.size=x.length:=by rw[az,<-hv.length,ax]
 have l2:us'.toArray.size=y.length:=by rw[az,<-hv'.length,ax]
 by_cases e:a=b
 .subst e
  rw[ho]at ho';cases ho';rw[hd]at hd';injection hd' with h1 h2
  have h1:us=us':=by simpa using h1
  subst h1;rw[T5<|Vg hv hv'];exact km _
 .refine kW e ?_
  have:=lw #[o,ho,hc,m,hd] #[o',ho',hc',m',hd'] hu (λj h1 h2=>by
   obtain⟨t,e1⟩:=Gh (by simpa using h1) hv
   obtain⟨t',e2⟩:=Gh (by simpa using h2) hv'
   rw[show us.toArray[j]=us[j]'(by simpa using h1) by simp,show us'.toArray[j]=us'[j]'(by simpa using h2) by simp,e1,e2]
   exact nV _ _ _ _)
  rw[l1,l2,ZfP]at this;exact this
def yY{E:au->ay->Prop}{Q:au->ay->Prop}(hx:Vc s.heap x v)(hy:Vc s.heap y u)(hu:A.units<dD)(q:Q (.bool<|ltI x y) s):ba (aV prog w) A (cK .Lt v u) Q E s:=by
 obtain⟨a,o,us,m,rfl,ho,hc,hd,hv⟩:=hx;obtain⟨b,o',us',m',rfl,ho',hc',hd',hv'⟩:=hy;exact Zcy ho hc hd hv ho' hc' hd' hv' hu q
def QO(fin:Bool):List (List Int)->List (List Int)->Bool
 |[],_=>fin
 |_::_,[]=>fin
 |a::x,b::y=>if a=b then QO fin x y else ltI a b
theorem Gb:∀(x y:List (List Int)),QO (ag<|x.length<y.length) x y=ltP x y
 |[],[]=>rfl
 |[],_::_=>by unfold QO ltP;simp
 |_::_,[]=>by unfold QO ltP;simp
 |a::x,b::y=>by
  unfold QO ltP;have:ag ((a::x).length<(b::y).length)=ag (x.length<y.length):=by simp
  rw[this,Gb x y]
inductive RowsIn(h:cw):List (List Int)->List au->Prop where
 |nil:RowsIn h [] []
 |cons {r:List Int} {rs:List (List Int)} {v:au} {vs:List au} (a:Vc h r v) (t:RowsIn h rs vs):RowsIn h (r::rs) (v::vs)
theorem RowsIn.lat(k:Sq.Lat h h'):∀{rs:List (List Int)}{vs:List au},RowsIn h rs vs->RowsIn h' rs vs
 |_,_,.nil=>.nil
 |_,_,.cons a t=>.cons (a.lat k)<|RowsIn.lat k t
theorem RowsIn.length :∀{rs:List (List Int)}{vs:List au},RowsIn h rs vs->rs.length=vs.length
 |_,_,.nil=>rfl
 |_,_,.cons _ t=>by rw[aG,aG,RowsIn.length t]
theorem zy{C:Bool->ay->Prop}(hu:A.units<dD):∀{x y:List (List Int)}{u v:List au}{i:Nat},RowsIn s.heap x u->RowsIn s.heap y v->C (QO fin x y) s->rH prog w A al fin C (u.zip v) i s
 |[],_,_,_,_,.nil,_,h=>by rw[iI];exact kw h
 |_::_,[],_,_,_,_,.nil,h=>by rw[g9];exact kw h
 |a::x,c::y,_,_,i,.cons ra ta,.cons rb tb,h=>by
  rw[cc];refine pj<|vy ra rb hu prog w _ _ ?_;unfold QO at h;by_cases e:a=c
  .rw[T9 e]at h
   rw[T5 e];exact pR<|zy hu ta tb h
  .rw[T8 e]at h
   rw[T4 e];refine rJ ?_;exact pS _ _<|yY ra rb hu h
open Ev (E Sm Fn Bop Cop Ty Bf Mf Wt ZV YL ZM)
section
variable{B:Type}{lt:B->B->Bool}{df:B}
theorem Zgj(O:StrictB lt){rs:List B}{n:Nat}(hn:rs.Nodup)(hl:rs.length=n):Sq.Ord n (λi j=>lt (rs.getD i df)<|rs.getD j df):=by
 have hd:∀i j,i<n->j<n->i≠j->rs.getD i df≠rs.getD j df:=λi j hi hj ne e=>by
  simp only[aD]at e;have hi':i<rs.length:=by lia
  have hj':j<rs.length:=by lia
  refine ne<|(iF hi' hn).mp ?_;rw[ai hi',ai hj']at e ⊢;exact congrArg aa e
 exact#[λi j hi hj ne e=>O.tot (hd i j hi hj ne) e,λi j _ _ e=>O.asy e,λi j k _ _ _ e f=>O.tr e f]
theorem Zgq(O:StrictB lt)(hn:rs.Nodup)(h1:Sq.Pm rs.length p)(h2:Sq.Up (Sq.ltR b rs.length λi j=>lt (rs.getD i df)<|rs.getD j df) p rs.length) :
  (p.toList.map λi=>(bx b rs).getD i df)=Z8 lt rs:=by
 have hp:p.toList.Perm (aP rs.length):=by simpa using bL.mp h1
 have hl:p.toList.length=rs.length:=by rw[hp.length_eq,bq]
 refine XC O ?_ ?_<|YV O hn
 .refine((hp.map _).trans ?_).trans (Z7 rs).symm
  have e:(aP rs.length).map (λi=>(bx b rs).getD i df)=bx b rs:=by
   apply c7
   intro i;rw[aQ];by_cases h:i<rs.length
   .have:i<(bx b rs).length:=by rw[fk];exact h
    rw[cO h];simp[this]
   .have:(bx b rs).length<=i:=by rw[fk];lia
    simp[fH h,this]
  rw[e];exact V7 b rs
 .rw[cT,bI]
  intro i j hi hj hij;have g1:p.toList[i]=Sq.g p i:=by
   have:=Sq.ZaT (by simpa using hi)
   rw[<-bw,ai hi]at this;exact aq this
  have g2:p.toList[j]=Sq.g p j:=by
   have:=Sq.ZaT (by simpa using hj)
   rw[<-bw,ai hj]at this;exact aq this
  rw[g1,g2,Xg (h1.lt<|by lia),Xg<|h1.lt<|by lia]
  have:=h2 i j hij (by lia)
  cases b
  .exact this
  .exact this
def u5{U:Mx}{H:Hp}{enc:B->D}{F:List Nat}{xs:List V}{rs:List B}(h:Rq U H (rs.map enc) xs)(hF:∀i∈F,i<rs.length):Rq U H ((F.map λi=>rs.getD i df).map enc) (F.map λi=>xs.getD i V.non):=by
 induction F with
 |nil=>exact Rq.nil
 |cons i F ih=>
  refine Rq.cons ?_<|ih λj hj=>hF j<|ao _ hj
  have hi:=hF i<|aj ..;obtain⟨v,g,r⟩:=h.get (by rw[aQ,ai hi];rfl)
  show Rep U H (enc<|rs.getD i df) (xs.getD i V.non);rw[aD,aD,g,ai hi];exact r
end
section
variable{X:Cx}{pq:List (aE×fD)}{Z:L2.St}{H:Hp}{s:ay}{U:Mx}
inductive PartsAt(h:cw):List (List (List Int))->List au->Prop where
 |nil:PartsAt h [] []
 |cons {P:List (List Int)} {ps:List (List<|List Int)} {vs:List au} {a:aE} {o:fD} {us:List au} {m:Nat} (ho:h.get? a=aa o) (hc:o.cls=.type "tuple") (hd:o.data=.seq us.toArray m) (hv:RowsIn h P us) (t:PartsAt h ps vs):PartsAt h (P::ps) (.ref a::vs)
theorem RowsAt.ins{h:cw}:∀{rs:List (List Int)}{vs:List au},RowsAt h rs vs->RowsIn h rs vs
 |_,_,.nil=>.nil
 |_,_,.cons ho hc hd hv t=>.cons #[_,_,_,_,rfl,ho,hc,hd,hv]<|RowsAt.ins t
def xG(h:Pv.YA (d::ds)=aa ps):∃ks a b,d=.tup ks/\Pv.Yd ks=aa a/\Pv.YA ds=aa b/\ps=a::b:=by
 cases d with
 |tup ks=>
  have h:(match Pv.Yd ks,Pv.YA ds with
   |some a,aa b=>aa (a::b)
   |_,_=>af)=aa ps:=h
  cases q1:Pv.Yd ks with
  |none=>rw[q1]at h;cases h
  |some a=>
   cases q2:Pv.YA ds with|none=>rw[q1,q2]at h;cases h|some b=>rw[q1,q2]at h;exact#[ks,a,b,rfl,q1,rfl,(aq h).symm]
 |_=>exact Ev.nos h
theorem y8(I:Inv X pq Z H s):∀{ds:List D}{ps:List (List<|List Int)}{xs:List V}{its:List au},Pv.YA ds=aa ps->Rq U H ds xs->Vals xs its->PartsAt s.heap ps its/\ds=ps.map Pv.Zb
 |[],ps,xs,its,h,r,v=>by
  subst r;cases v;cases h;exact#[.nil,rfl]
 |d::ds,ps,xs,its,h,r,v=>by
  obtain⟨x,xs',rfl,r1,r2⟩:=r;cases v with
  |cons v1 v2=>
   obtain⟨ks,a,b,rfl,q1,q2,rfl⟩:=xG h;obtain⟨t,e⟩:=y8 I q2 r2 v2;obtain⟨p,ys,rfl,hp,ry⟩:=r1.tup';cases v1;obtain⟨us,rv,⟨o,ho,hc,m,hd⟩,_⟩:=I.tuple<|SqT.of hp;obtain⟨ra,ek⟩:=Vr I q1 ry rv;exact#[.cons ho hc hd ra.ins t,by rw[e,ek];rfl]
theorem PartsAt.length :∀{ps:List (List<|List Int)}{vs:List au},PartsAt h ps vs->ps.length=vs.length
 |_,_,.nil=>rfl
 |_,_,.cons _ _ _ _ t=>by rw[aG,aG,PartsAt.length t]
theorem PartsAt.at :∀{ps:List (List<|List Int)}{vs:List au}(i:Nat),PartsAt h ps vs->i<vs.length->∃a o us m,vs.getD i bz=.ref a/\h.get? a=aa o/\o.data=.seq us.toArray m/\RowsIn h (ps.getD i []) us
 |_,_,_,.nil,hi=>by simp at hi
 |_,_,0,.cons ho hc hd hv t,_=>#[_,_,_,_,rfl,ho,hd,hv]
 |_,_,i+1,.cons ho hc hd hv t,hi=>by
  obtain⟨a,o,us,m,e1,e2,e3,e4⟩:=PartsAt.at i t (by simpa using hi)
  exact#[a,o,us,m,by simpa using e1,e2,e3,by simpa using e4]
theorem PartsAt.tups(k:Sq.Lat h h'):∀{ps:List (List<|List Int)}{vs:List au},PartsAt h ps vs->(∀P∈ps,P≠[])->∃fs,pT h' vs fs/\fs.length=vs.length/\∀v∈fs,∃r,Vc h' r v
 |_,_,.nil,_=>#[[],.nil,rfl,λv hv=>by cases hv]
 |_,_,.cons (P:=P) ho hc hd hv t,hn=>by
  obtain⟨fs,t1,t2,t3⟩:=PartsAt.tups k t λr hr=>hn r<|ao _ hr
  have hr:=hn P<|aj ..;cases hv with
  |nil=>exact T7 rfl hr
  |cons a tl=>
   rename_i r rs v vs
   refine#[v::fs,.cons (k _ _ ho) hc hd (by simp) t1,by rw[aG,aG,t2],λz hz=>?_]
   rcases aB.mp hz with rfl|hz
   .exact#[r,a.lat k]
   .exact t3 z hz
theorem Qy :∀{P P':List (List Int)}{us:List au},RowsIn h P us->RowsIn h P' us->P=P'
 |_,_,_,.nil,.nil=>rfl
 |_,_,_,.cons r t,.cons r' t'=>by
  obtain⟨a,o,us,m,rfl,ho,_,hd,hv⟩:=r;obtain⟨a',o',us',m',e,ho',_,hd',hv'⟩:=r';cases e;rw[ho]at ho';cases ho';rw[hd]at hd';cases hd';rw[Vg hv hv',Qy t t']
theorem xn(hu:A.units<dD)(R:PartsAt h ps vs)(nd:ps.Nodup)(hn:2<=vs.length->∀P∈ps,P≠[]):Sq.Asks prog w A h vs (tuples' al) (λi j=>ltP (ps.getD i [])<|ps.getD j []):=by
 refine#[λh2 s' E Q k q=>?_,zm (df:=[]) R.length nd λi j hi hj e=>?_,λi j hi hj s' C E k q=>?_]
 .obtain⟨fs,t1,t2,t3⟩:=R.tups k (hn h2)
  exact pk (T:=.type "tuple") t1 (by lia) (λv hv=>by
   obtain⟨r,a,o,us,m,rfl,ho,hc,_,_⟩:=t3 v hv;exact λA Q E s kk qq=>gB #[o,kk _ _ ho,hc] qq) rfl q
 .obtain⟨a,o,us,m,e1,e2,e3,e4⟩:=R.at i hi
  obtain⟨a',o',us',m',f1,f2,f3,f4⟩:=R.at j hj;rw[e1,f1]at e;cases e;rw[e2]at f2;cases f2;rw[e3]at f3;cases f3;exact Qy e4 f4
 .obtain⟨a,o,us,m,e1,e2,e3,e4⟩:=R.at i hi
  obtain⟨a',o',us',m',f1,f2,f3,f4⟩:=R.at j hj;rw[e1,f1];refine rK (k _ _ e2) e3 (k _ _ f2) f3<|zy hu (e4.lat k) (f4.lat k) ?_;have l1:us.toArray.size=(ps.getD i []).length:=by rw[az,<-e4.length]
  have l2:us'.toArray.size=(ps.getD j []).length:=by rw[az,<-f4.length]
  rw[l1,l2,Gb];exact q
end
def Y9(hu:X.A.units+2<dD)(I:Inv X pq Z H s)(r:Vals [v] us)(r1:Rep U H (.lst ds) v)
  (hps:Pv.YA ds=aa ps)(hok:ZM ps=ak)(h3:∀ys,Rq U H ((Z8 ltP ps).map Pv.Zb) ys->∀p,H p=af->Q (.ref p) (upd H p<|.lst ys)):ba (aV X.prog X.w) X.A (call (.builtin "sorted") us) (EP X pq Z Q) X.xe s:=by
 obtain⟨l,xs,rfl,hx,_,rx⟩:=r1.lst';obtain⟨u,rfl,ru⟩:=Wv r;cases ru;obtain⟨its,rv,pl,hz⟩:=I.list<|SqL.of hx;obtain⟨RA,ed⟩:=y8 I hps rx rv;have hlen:=RA.length;obtain⟨hok1,hok3⟩:=(aI _ _).mp hok;obtain⟨hok1,hok2⟩:=(aI _ _).mp hok1;have h64:=T6 hok1;have hnd:=T6 hok2;refine Sq.Vb pl.isList (by lia) (Zgj Yu hnd hlen) (xn hu RA hnd λh2 P hP e=>?_) λp hp hu2=>?_
 .rcases(eE _ _).mp hok3 with h|h
  .have:=T6 h;lia
  .have:=aX.mp h P hP
   rw[e]at this;cases this
 rw[<-hlen]at hp hu2;have out:=Zgq Yu hnd hp hu2
 have hmem:∀i∈p.toList,i<ps.length:=λi hi=>by
  have hp':p.toList.Perm (aP ps.length):=by simpa using bL.mp hp
  exact bh.mp<|hp'.mem_iff.mp hi
 subst ed;have xl:xs.length=ps.length:=by rw[rx.length,ax]
 have rx2:=u5 (df:=[]) rx hmem;have out':(p.toList.map λi=>ps.getD i [])=Z8 ltP ps:=out
 rw[out']at rx2;have rv2:=yR rv (by rw[xl];exact hmem)
 obtain⟨ep,he⟩:=sortedAll_at s.heap its<|c8<|p.toList.map λi=>its.getD i bz
 refine#[.ref<|s.heap.objs.size+1,_,I.laid (t':=s.toks) (λb ob q=>sortedAll_old q) (h8 _) ?_,rfl,h3 _ rx2 _<|I.hok.fresh<|h8 _]
 refine#[?_,_,ep,rv2,he];rw[ax,aS,hp.size,dv];lia
def QH(hu:X.A.units+7<dD):ZG X (.builtin "sorted") (zI X.K xw .sorted):=by
 intro pq s Z H vs us Q I r #[U,S,ds,st,rs,H0,S0,f0,s0,h];obtain⟨d,v,z,rfl,r1,hz,h⟩:=Wx h rs;cases d with
 |lst ds=>
  have hz:(if Pv.uP ds=ak then(Pv.Yd ds).bind λrs=>if YL rs=ak then aa (.lst<|(ZV rs).map Pv.Zd)else af else(Pv.YA ds).bind λps=>if ZM ps=ak then aa (.lst<|(Z8 ltP ps).map Pv.Zb)else af)=aa z:=hz
  split at hz
  .obtain⟨rws,hr,hz⟩:=bZ.mp hz
   split at hz
   .cases hz;exact yh pq s Z H [v] us Q I r #[U,ds,rws,v,rfl,r1,hr,‹_›,λys r=>h.newF f0 s0 st r]
   .cases hz
  .obtain⟨ps,hr,hz⟩:=bZ.mp hz
   split at hz
   .cases hz;exact Y9 (by lia) I r r1 hr ‹_› λys r=>h.newF f0 s0 st r
   .cases hz
 |_=>exact Ev.nos hz
def V9:pA (.type "range_iterator") (.type "reversed")=cS al:=by rw[isSubtype_type];kernel_rfl
section
variable{prog:bB}{w:bS}{A:cx}{E:au->ay->Prop}{s:ay}
noncomputable abbrev ZbL(lo:Int)(n:Nat):fD:={cls:=.type "range_iterator",data:=.fields [fM<|lo+n-1,fM n,fM<|-1].toArray}
theorem Wu{r:aE}{lo hi:Int}{t u v:rW}{Q:au->ay->Prop}(hr:IsRange s.heap r lo hi 1 t u v)(h1:-(2^62)<=lo)(h2:lo<2^62)(h3:-(2^62)<=hi)(h4:hi<2^62)
  (h:Q (.ref s.heap.objs.size) {s with heap:=s.heap.push (ZbL lo (hi-lo).toNat)}):ba (aV prog w) A (call (.builtin "range.__reversed__") [.ref r]) Q E s:=by
 refine dm F.slot_range_reversed #[_,hr,rfl] F.entry_range_reversed ?_<|F.args_range_reversed_1 _;unfold dZ.«range.__reversed__»;refine ae<|dO rfl ?_;refine ae<|ae<|cV hr rfl rfl ?_;refine ae<|dO rfl ?_;refine ae<|cV hr rfl rfl ?_;refine ae<|dO rfl ?_;refine ae<|cV hr rfl rfl ?_;refine ae<|dO rfl ?_;refine aC ?_
 have hn:fF lo hi 1=((hi-lo).toNat:Int):=by rw[nv];split<;>lia
 have hs:(cL lo&&cL hi&&cL 1&&cL (-1)&&cL (lo-1)&&cL (fF lo hi 1))=ak:=by
  rw[hn];simp only[cL,aI,T0];lia
 simp only[hs,gU,cy,if_false,if_true];refine ae<|cu<|aC #[_,rfl,?_];rw[hn];have e:lo+(((hi-lo).toNat:Int)-1)*1=lo+((hi-lo).toNat:Int)-1:=by lia
 simp only[e];exact h
def Ws{r:aE}{lo hi:Int}{t u v:rW}{Q₁:au->ay->Prop}(hr:IsRange s.heap r lo hi 1 t u v)(h1:-(2^62)<=lo)(h2:lo<2^62)(h3:-(2^62)<=hi)(h4:hi<2^62)
  (h:Q₁ (.ref s.heap.objs.size) {s with heap:=s.heap.push (ZbL lo (hi-lo).toNat)}) :
  eJ (aV prog w) A (.call (.builtin "reversed.__new__") #[[.type "reversed",.ref r],[]]) (wants Q₁ E) s:=by
 refine codeAny_of_tree ?_;refine ae<|dO (F.newCall_reversed_1 _)<|aC #[nF mY _,ky F.entry_reversed_new ?_];rw[kj mY _];unfold dZ.«reversed.__new__»;refine ae<|dO (newClass_reversed _) ?_
 try dsimp only
 refine ae (dO (by first|rfl|kernel_rfl) ?_)
 refine ae (dO (by first|rfl|kernel_rfl) ?_)
 try dsimp only
 refine ae<|wpAny_specialOf #[_,hr,rfl] F.slot_range_reversed.lookup ?_
 try dsimp only
 refine ae<|dO (F.slot_range_reversed.bind _) ?_
 try dsimp only
 first
 |rw[T8 (aN)]
 |(rw[T8<|show¬((i7 "range.__reversed__" == bz)=ak)from aN])
 refine ae<|eD ?_;refine ae<|Wu hr h1 h2 h3 h4 ?_
 first
 |exact aC h
 |exact ae<|aC<|aC h
def Wq{r:aE}{lo hi:Int}{t u v:rW}{Q:au->ay->Prop}(hr:IsRange s.heap r lo hi 1 t u v)(h1:-(2^62)<=lo)(h2:lo<2^62)(h3:-(2^62)<=hi)(h4:hi<2^62)
  (h:Q (.ref s.heap.objs.size) {s with heap:=s.heap.push (ZbL lo (hi-lo).toNat)}):ba (aV prog w) A (call (.type "reversed") [.ref r]) Q E s:=by
 refine callType_other (Q₁:=λobj s₁=>obj=.ref s.heap.objs.size/\s₁={s with heap:=s.heap.push (ZbL lo (hi-lo).toNat)}) (by decide +kernel) F.create_reversed #[_,_,F.mro_reversed] F.made_reversed V9 (F.typeCall_reversed_1 _) (Ws hr h1 h2 h3 h4 #[rfl,rfl]) ?_
 rintro obj s₁ ⟨rfl,rfl⟩
 exact#[#[_,aO _ rfl,rfl],h]
end
noncomputable def Itrv(lo:Int)(n:Nat):It:=#[λi _=>i<n,λi H x H'=>H'=H/\x=.int (lo+n-1-i),λi _=>n<=i]
def zC{P:bB}{w:bS}{K:am}{tg:Expr}(it:aE)(lo:Int)(n:Nat):Turn P w K tg (Itrv lo n) [it] it (λi h=>IsRangeIter h it (lo+n-1+(i:Nat)*(-1)) ((n:Int)-(i:Nat))<|-1) where
 mem:=by simp
 obj:=λi h st b hb=>by
  have e:b=it:=by simpa using hb
  subst e;exact#[_,st,λv z=>by
   have z':=z;cases z']
 keep:=λi h h' st k=>k it (by simp) _ st
 item:=by
  intro X hP hw hK hc i pq s Z H E I hf st hg;subst hP hw hK;obtain⟨f0,f1,f2,f3,f4,f5⟩:=hf it (by simp)
  have W:=Walks.range (prog:=X.prog) (w:=X.w) (I.ok.hd hc) it (lo+n-1) (-1) n;refine W.item i s _ _ hg st λv h' tk hv st' kk=>?_
  obtain⟨t,rfl⟩:=hv;have I1:Inv X pq Z H {s with heap:=h',toks:=tk}:=I.turned (λb o hb e=>kk b o (by simpa using hb) e) f0 f1 f3 f4 f5
  refine#[_,rfl,zY st' rfl rfl (by decide) #[.int<|lo+n-1-i,H,I1,#[t,?_],#[rfl,rfl],st',λb hb=>(hf b hb).1]]
  have e:lo+n-1+(i:Int) * -1=lo+n-1-i:=by lia
  rw[e]
 done:=by
  intro X hP hw hK hc i pq s Z H E I hf st hg;subst hP hw hK;obtain⟨f0,f1,f2,f3,f4,f5⟩:=hf it (by simp)
  exact me (I.ok.hd hc) st (by have:n<=i:=hg;lia) λh' eb=>#[rfl,I.turned (t':=s.toks) (λb o hb e=>eb b o hb e) f0 f1 f3 f4 f5]
 self:=λ_ _ _ _ _ st h=>ig st h
section
variable{X:Cx}{xw:Nat->Hp->Prop}{C:Calls}{a b tg:Expr}{i j:E}{pos p p2 p3:fV}
def ZfN(ta:TA):TI:=λZ H R=>ta Z H λvs H1=>∃i j:Int,vs=[.int i,.int j]/\(-(2^62)<=i/\i<2^62/\-(2^62)<=j/\j<2^62)/\R (Itrv i (j-i).toNat) H1
theorem qo{ta:TA}(hgr:Gl X "reversed")(hmr:X.mg "reversed" = af)(hg:Gl X "range")(hm:X.mg "range" = af)(ha:PA X [a,b] ta)(hs:aA [a,b] X.env=[(al,cr a X.env),(al,cr b X.env)])(hs2:aA [b] X.env=[(al,cr b X.env)]) :
  PI X tg (.Call (.Name "reversed" p) [.Call (.Name "range" p2) [a,b] [] p3] [] pos) (ZfN ta):=by
 intro pq s Z H R I h;refine rg<|YM I hgr hmr (rfl)<|bT (Calls.spliced_cons ?_) rfl rfl
 refine rg<|YM I hg hm nM<|bT (thn (ha p3 pq s Z H _ I h) λus s1 #[vs,H1,I1,r1,q1]=>?_) (by rw[hs,hs2])<|by rw[hs2];rfl
 obtain⟨lo,hi,e,⟨q1,q2,q3,q4⟩,q⟩:=q1;subst e;cases r1 with
 |cons r rr=>
  cases rr with
  |cons r' rr=>
   cases rr;obtain⟨t,rfl⟩:=r;obtain⟨t',rfl⟩:=r';refine call_range_2<|Calls.spliced_nil ?_;refine Wq (pF ..) q1 q2 q3 q4 ?_;have I2:Inv X pq Z H1 {s1 with heap:=s1.heap.push {cls:=.type "range",data:=.fields [.int lo t,.int hi t',.int 1 s1.toks].toArray},toks:=s1.toks+1}:=I1.kept λb o e=>aw _ e
   have I3:=I2.kept (t':=s1.toks+1) (h':=(s1.heap.push {cls:=.type "range",data:=.fields [.int lo t,.int hi t',.int 1 s1.toks].toArray}).push<|ZbL lo (hi-lo).toNat) λb o e=>aw _ e
   refine ig (aO _ rfl) ?_;refine#[_,[(s1.heap.push {cls:=.type "range",data:=.fields [.int lo t,.int hi t',.int 1 s1.toks].toArray}).objs.size],_,_,H1,rfl,I3,zC _ lo (hi-lo).toNat,?_,λb hb=>?_,q]
   .rw[show lo+((hi-lo).toNat:Int)-1+((0:Nat):Int)*(-1)=lo+((hi-lo).toNat:Int)-1 by lia,show(((hi-lo).toNat:Nat):Int)-((0:Nat):Int)=((hi-lo).toNat:Int) by lia]
    exact aO _ rfl
   .have e:b=(s1.heap.push {cls:=.type "range",data:=.fields [.int lo t,.int hi t',.int 1 s1.toks].toArray}).objs.size:=by simpa using hb
    subst e;exact I2.fpOk (aJ _)<|I2.hok.fresh<|aJ _
theorem wy{lo:Int}{n i:Nat}(h:i<n):(Pv.ZU lo n).reverse[i]?=aa (.int<|lo+n-1-i):=by
 unfold Pv.ZU;rw[<-iY,aQ,iP (by simpa using h),bq,cO<|by lia]
 simp only[mE]
 congr 2
 lia
def qt{K:am}{U:Mx}{H:Hp}{lo:Int}{n:Nat}:WRel K U H (Pv.ZU lo n).reverse (Itrv lo n) where
 go:=λi ρ' S' H' f st hi=>by
  have hi':i<n:=by simpa[Pv.ZU]using hi
  refine#[hi',λx H'' #[e,hx]=>?_]
  subst e hx;refine#[Fut.refl _ _,st,λd hd=>?_]
  rw[wy hi']at hd;cases hd;exact ZK _
 stop:=λρ' S' H' f st=>by show n<=((Pv.ZU lo n).reverse).length;simp[Pv.ZU]
def Gp(hmr:X.mg "reversed" = af)(hm:X.mg "range" = af)(ha:CA X xw C [a,b] [i,j])(hgr:Gl X "reversed")(hg:Gl X "range")(hs:aA [a,b] X.env=[(al,cr a X.env),(al,cr b X.env)])(hs2:aA [b] X.env=[(al,cr b X.env)]) :
  CW X xw C tg (.Call (.Name "reversed" p) [.Call (.Name "range" p2) [a,b] [] p3] [] pos) (.rrng i j):=
 PI.imp (qo hgr hmr hg hm ha hs hs2) λZ H Q #[U,l,S,st,lr,h]=>Zag st lr h λx y S1 ρ1 H1 v u st1 rv ru h1=>by
  cases x with
  |int n=>cases y with
   |int m=>
    obtain⟨hs,h3⟩:=End.guard h1;obtain⟨s1,s2⟩:=(aI _ _).mp hs;exact#[n,m,by rw[rv.int',ru.int'],#[(Yn s1).1,(Yn s1).2,(Yn s2).1,(Yn s2).2],End.ok h3 st1 qt]
   |_=>exact False.elim h1
  |_=>exact False.elim h1
end
open PySem.SeqAt PySem.MeetsSeq PySem.MeetsSeq2 PySem.MeetsSeq3 PySem.SeqRoads2
open PySem.AutoSeq1 (wpAny_loadPart')
def xV(l b:aE)(u v:List au)(n n2:Nat)(dd dd2:Option aE)(sl sl2:Array (Option au))(x y:List (List Int)) :
  rq (dZ.«tuple.__lt__» #[[.ref l,.ref b],[]]) (λA R s=>s.heap.get? l=aa {cls:=.type "tuple",dict:=dd,data:=.seq u.toArray n,slots:=sl}/\s.heap.get? b=aa {cls:=.type "tuple",dict:=dd2,data:=.seq v.toArray n2,slots:=sl2}/\A.units+1<dD/\RowsIn s.heap x u/\RowsIn s.heap y v/\R (.ok<|.ret<|.bool<|ltP x y) s):=
 .of_wp λprog w A R s h=>by
  obtain⟨hp,g,d,tk,os⟩:=s;obtain⟨hl,hb,hu,hx,hy,h⟩:=h;have f2:=d3;rw[<-Gb]at h
  wp_walk using kx hl,kx hb,wpAny_forIn_list _ (λrest b s'=>b.1=af/\s'=#[hp,g,d,tk,os]/\∃x' y' u' v',rest=sC u' v'/\RowsIn hp x' u'/\RowsIn hp y' v'/\R (.ok<|.ret<|.bool<|QO (ag<|x.length<y.length) x' y') #[hp,g,d,tk,os]) _
  case turn=>
   rintro ⟨a,c⟩ rest b s' ⟨hb',rfl,x',y',u',v',hz,hx',hy',hR⟩
   match x',y',u',v',hx',hy',hz,hR with
   |i::x',j::y',_::u',_::v',.cons ra ta,.cons rb tb,hz,hR=>
    rw[cc]at hz;injection hz with h1 h2
    cases h1;unfold QO at hR;refine ae<|vy ra rb (by lia) prog w _ _ ?_
    by_cases e:i=j
    .rw[T9 e]at hR
     rw[T5 e]
     wp_walk
     exact#[rfl,rfl,x',y',u',v',h2,ta,tb,hR]
    .rw[T8 e]at hR
     rw[T4 e];simp only[rM,if_true];refine ae<|eD<|ae<|yY ra rb (by lia) ?_
     wp_walk
     exact#[_,rfl,by simpa using hR]
   |[],_,_,_,.nil,_,hz,_=>rw[iI]at hz;cases hz
   |_::_,[],_,_,_,.nil,hz,_=>rw[g9]at hz;cases hz
  case fin=>
   rintro ⟨b1,b2⟩ s' ⟨hb',rfl,x',y',u',v',hz,hx',hy',hR⟩
   simp only at hb';subst hb';have hf:QO (ag<|x.length<y.length) x' y'=ag (x.length<y.length):=by
    match x',y',u',v',hx',hy',hz with
    |[],_,_,_,_,_,_=>rfl
    |_::_,[],_,_,_,_,_=>rfl
    |_::_,_::_,_::_,_::_,.cons _ _,.cons _ _,hz=>rw[cc]at hz;cases hz
   rw[hf]at hR;have l1:u.length=x.length:=by rw[<-hx.length]
   have l2:v.length=y.length:=by rw[<-hy.length]
   wp_walk
   exact#[_,rfl,by simpa[iN,l1,l2]using hR]
  case h=>
   exact#[rfl,rfl,x,y,u,v,by simp,hx,hy,h]
def Zau{E:au->ay->Prop}{Q:au->ay->Prop}(ha:s.heap.get? a=aa o)(hc:o.cls=.type "tuple")(hd:o.data=.seq u.toArray m)(hx:RowsIn s.heap x u)
  (hb:s.heap.get? b=aa o')(hc':o'.cls=.type "tuple")(hd':o'.data=.seq v.toArray m')(hy:RowsIn s.heap y v)(hu:A.units+3<dD)(q:Q (.bool<|ltP x y) s):ba (aV prog w) A (cK .Lt (.ref a)<|.ref b) Q E s:=by
 obtain⟨cls,dd,data,sl⟩:=o;obtain⟨cls2,dd2,data2,sl2⟩:=o';simp only at hc hd hc' hd';subst hc hd hc' hd';exact mr (op:=.Lt) #[_,ha,rfl] #[_,hb,rfl] pU pz (oF _ _) (xV a b u v m m' dd dd2 sl sl2 x y) #[ha,hb,by first|exact hu|(lia)|lia,hx,hy,#[(λx=>nomatch x),q]] (by lia)
def uy(hu:X.A.units+7<dD):Xx X xw .Lt .lt:=by
 intro pq s Z H v0 u0 v u Q I rv ru #[U,S,x,y,st,rx,ry,h];rcases Zf0 st rx ry h with z|⟨a,b,A,B,rfl,rfl,hA,hB,q⟩
 .exact Zf6 pq s Z H v0 u0 v u Q I rv ru z
 .obtain⟨p1,xs,rfl,hp1,r1⟩:=rx.tup'
  obtain⟨p2,ys,rfl,hp2,r2⟩:=ry.tup';cases rv;cases ru;obtain⟨us,w1,⟨o,ho,hc,m,hd⟩,_⟩:=I.tuple<|SqT.of hp1;obtain⟨us',w2,⟨o',ho',hc',m',hd'⟩,_⟩:=I.tuple<|SqT.of hp2;obtain⟨ra,_⟩:=Vr I hA r1 w1;obtain⟨rb,_⟩:=Vr I hB r2 w2;exact Zau ho hc hd ra.ins ho' hc' hd' rb.ins (by lia) #[.bl<|ltP A B,H,I,rfl,q]
end Sd
namespace Sd
open PySem PySem.Spec PyProof.Rows L2
open Ev (E Sm Fn Bop Cop Ty Bf Mf)
abbrev upI(i:Nat)(v:au):Prop:=∃t,v=.int (0+i*1) t
theorem wV:∀(us:List au)(a:Int),(∀(j:Nat) v,us[j]?=aa v->∃t,v=.int (a+j) t)->Vals ((aP us.length).map λ(k:Nat)=>V.int<|a+(k:Int)) us
 |[],_,_=>.nil
 |u::us,a,h=>by
  rw[aG,iB,aY,bO];obtain⟨t,e⟩:=h 0 u rfl;refine .cons #[t,e] ?_;have:=wV us (a+1) λj v hj=>by
   obtain⟨t,e⟩:=h (j+1) v (by simpa using hj)
   exact#[t,by rw[e];congr 1;lia]
  refine Eq.mp ?_ this
  congr 2
  funext k
  congr 1;lia
def ZcO{acc:Array au}{n:Nat}(h:ItemsOf upI acc n):Vals ((aP n).map λ(k:Nat)=>V.int<|0+(k:Int)) acc.toList:=by
 have:=wV acc.toList 0 λj v hj=>by
  obtain⟨t,e⟩:=h.2 j v (by simpa using hj)
  exact#[t,by rw[e];congr 1;lia]
 rw[aS,h.1]at this;exact this
section
variable{prog:bB}{w:bS}{A:cx}{E:au->ay->Prop}{s:ay}{it d:aE}{i n ep:Nat}{od:fD}{es:Array iV}
def uC{Q:au->ay->Prop}(hd:(d == fK)=al)(ho:s.heap.get? d=aa od)(hc:od.ExactDict)(hdat:od.data=.dict es ep)
  (hQ:Q (.ref s.heap.objs.size) {s with heap:=s.heap.push {cls:=.type "dict_keyiterator",data:=.fields [.ref d,.int 0 0,.int es.size 0,.int ep 0].toArray}}) :
  ba (aV prog w) A (mQ<|.ref d) Q E s:=by
 have hT:s.TypeIs (.ref d) "dict":=#[_,ho,hc.1];refine wpAny_pyIter_slot hT pB<|dm pB hT F.entry_dict_iter ?_<|F.args_dict_iter_1 _;unfold dZ.«dict.__iter__»;refine ae ?_;refine ae<|mK hT<|aC (show ba _ _ (mL d >>= _) _ _ s from ?_)
 unfold mL;rw[T8<|by rw[hd];exact aN]
 refine ae<|aC<|ae<|oG ho hdat<|ae<|wpAny_dictEpoch ho hdat ?_;refine ae<|cu<|aC #[_,rfl,"dict_keyiterator",_,#[_,aO _ rfl,rfl],kz.lookup,?_]
 simpa[fM]using hQ
def Jt{Q:Option au->ay->Prop}(hit:s.heap.IsKeyIter it d i es.size ep)(ho:s.heap.get? d=aa od)(hdat:od.data=.dict es ep)
  (h1:∀(hlt:i<es.size) h',h'.IsKeyIter it d (i+1) es.size ep->gy it s.heap h'->Q (aa es[i].key) {s with heap:=h' })
  (h2:es.size<=i->A.handled=af/\∀h',gv it s.heap h'->Q af {s with heap:=h' }):ba (aV prog w) A (oP<|.ref it) Q E s:=by
 obtain⟨o,hi,hc,hd⟩:=id hit;unfold oP;refine ae (i6 (c9 hit.typeIs kz
  (dm kz hit.typeIs F.entry_dict_keyiterator_next ?_<|F.args_dict_keyiterator_next_1 _)))
 refine ae<|aC<|ae<|ae ?_
 first|refine ae<|fJ hit.typeIs<|aC ?_|refine ae<|gW hit.typeIs<|aC ?_
 refine ae<|wpAny_fieldsOf hi hd ?_;have hown:dZ.Dict_items.ownsTuple "dict_keyiterator" = al:=by decide
 simp only[hown,cy,if_false];show ba _ _ (if(de d == bz)=ak then _ else _) _ _ s
 rw[T8<|show¬((de d == bz)=ak)from aN]
 refine ae<|aC<|ae<|oG ho hdat ?_;rw[T8<|by simp]
 refine ae<|aC<|ae<|wpAny_dictEpoch ho hdat ?_;rw[T8<|by simp]
 refine aC ?_;by_cases hlt:i<es.size
 .simp only[by omega,if_false,ei,bH hlt]
  refine ae ?_
  first|refine ae<|fJ hit.typeIs<|aC ?_|refine ae<|gW hit.typeIs<|aC ?_
  refine ae<|mM hit.typeIs (show ba _ _ (setField (.ref it) 1 (fM<|(i:Int)+1) >>= _) _ _ s from ae<|kY hi hd (by simp) ?_)
  have hit':(s.heap.update it (fD.mapFields (·.setIfInBounds 1 (fM<|(i:Int)+1)))).IsKeyIter it d (i+1) es.size ep:=
   #[_,fW _ hi<|iO<|fN hd _,(ly ..).trans hc,by rw[fN hd];simp[fM]]
  refine ae<|cD<|ae<|mM hit'.typeIs ?_
  exact aC<|aC #[_,rfl,aC<|h1 hlt _ hit'<|fE ..]
 .obtain⟨hh,hQ⟩:=h2 (by omega)
  simp only[by omega,if_false,ei,mn (show es.size<=i by omega)]
  refine ae ?_
  first|refine ae<|fJ hit.typeIs<|aC ?_|refine ae<|gW hit.typeIs<|aC ?_
  show ba _ _ (setField (.ref it) 0 .none >>= _) _ _ s;refine ae<|kY hi hd (by simp)<|ae ?_
  simp only[newExc,newTuple];refine ae<|cu ?_<|by size_fits
  refine ae (dO (a:=bz) (by first|rfl|(simp only[mU];rfl))<|cu ?_<|by size_fits)
  simp only[raiseNew];refine ae<|wpAny_handled ?_;rw[hh]
  refine ae<|aC<|wpAny_throw ?_;refine ae<|gE (T:="StopIteration") (b:=ak) #[_,aO _ rfl,rfl] isSubtype_stop ?_;exact aC<|hQ _<|((fE ..).extBut.push _).push _
end
def Itk(a:aE)(o:fD)(kvs:List (List Key×V)):It:=#[λi H=>H a=aa (.frz o<|.dT kvs)/\i<kvs.length,λi H x H'=>H'=H/\∃p b,kvs[i]?=aa p/\x=.ref b/\H b=aa (.tup<|p.1.map kV),λi H=>H a=aa (.frz o<|.dT kvs)/\kvs.length<=i]
theorem Jc{B β:Type}{F:B->β->Prop}:∀{l:List B}{m:List β}{i:Nat}{p:B},Paired F l m->l[i]?=aa p->∃q,m[i]?=aa q/\F p q
 |_,_,_,_,.nil,e=>by simp at e
 |_,_,0,_,.cons r t,e=>by simp at e;subst e;exact#[_,rfl,r]
 |_,_,i+1,_,.cons r t,e=>by
  obtain⟨q,h1,h2⟩:=Jc t (by simpa using e)
  exact#[q,by simpa using h1,h2]
def Zbh(ok:HOk P w H h)(e:H a=aa (.frz o<|.dT kvs)) :
  (a == fK)=al/\h.get? a=aa o/\∃es ep,o.ExactDict/\o.data=.dict es ep/\es.size=kvs.length/\∀i p,kvs[i]?=aa p->∃q:aE,∃hi:i<es.size,es[i].key=.ref q/\H q=aa (.tup<|p.1.map kV):=by
 obtain⟨h0,z,y,xs,r,o',es,ep,h1,h2,h3,h4,h5⟩:=(ok a _ e)
 rw[h0]at h1;cases h1;have hl:es.size=kvs.length:=by
  have:=congrArg lu h4;rw[ax,<-Paired.length r]at this
  simpa using this
 refine#[y,h0,es,ep,h2,h3,hl,λi p hp=>?_]
 obtain⟨q,hq,e1,e2,e3⟩:=Jc r hp;have hi:i<es.size:=by rw[hl];exact(aF.mp hp).1
 refine#[q.2.1,hi,?_,e2];have:=congrArg (·[i]?) h4
 simp only[aQ,hq,mE]at this;rw[bw,bH hi]at this;rw[aq this];rfl
def uQ{P:bB}{w:bS}{K:am}{tg:Expr}(a it:aE)(o:fD)(kvs:List (List Key×V)){es:Array iV}{ep:Nat}(hd:o.data=.dict es ep)(hl:es.size=kvs.length)(hne:a≠it):Turn P w K tg (Itk a o kvs) [it] it (λi h=>h.IsKeyIter it a i es.size ep) where
 mem:=by simp
 obj:=λi h st b hb=>by
  have e:b=it:=by simpa using hb
  subst e;obtain⟨o,h1,h2,h3⟩:=st;exact#[o,h1,λv z=>by rw[h3]at z;cases z]
 keep:=λi h h' st k=>st.at λo e=>k it (by simp) o e
 item:=by
  intro X hP hw hK hc i pq s Z H E I hf st hg;subst hP hw hK;obtain⟨f0,f1,f2,f3,f4,f5⟩:=hf it (by simp)
  obtain⟨hs,ho,es',ep',x1,x2,x3,x4⟩:=Zbh I.hok hg.1;rw[hd]at x2;cases x2;obtain⟨q,hi,e1,e2⟩:=x4 i _<|ai hg.2;refine Jt st ho hd (λhlt h' hit' sb=>?_) λz=>T7 hi (by omega)
  have I1:=I.turned (t':=s.toks) (λb o hb e=>sb.extBut b o (by simpa using hb) e) f0 f1 f3 f4 f5
  obtain⟨io,j1,j2,j3⟩:=id hit';refine#[_,rfl,zY j1 j2 j3 (by decide) #[.ref q,H,I1,?_,#[rfl,_,q,ai hg.2,rfl,e2],hit',λb hb=>(hf b hb).1]]
  rw[e1];rfl
 done:=by
  intro X hP hw hK hc i pq s Z H E I hf st hg;subst hP hw hK;obtain⟨f0,f1,f2,f3,f4,f5⟩:=hf it (by simp)
  obtain⟨hs,ho,es',ep',x1,x2,x3,x4⟩:=Zbh I.hok hg.1;rw[hd]at x2;cases x2;exact Jt st ho hd (λhlt _ _ _=>T7 hlt (by have:=hg.2;omega)) λ_=>#[I.ok.hd hc,λh' eb=>#[rfl,I.turned (t':=s.toks) (λb o hb e=>eb b o (by simpa using hb) e) f0 f1 f3 f4 f5]]
 self:=λ_ _ _ _ _ st h=>wpAny_pyIter_keyiter st h
section
variable{X:Cx}{xw:Nat->Hp->Prop}{C:Calls}{e tg:Expr}{i:E}
def iDk(te:TE):TI:=λZ H R=>te Z H λx H1=>∃a o kvs,x=.ref a/\H1 a=aa (.frz o<|.dT kvs)/\R (Itk a o kvs) H1
def ZfV{te:TE}(he:PE X e te):PI X tg e (iDk te):=by
 intro pq s Z H R I h;refine thn (he pq s Z H _ I h) λv s1 #[x,H1,I1,r1,a,o,kvs,e,q,hR]=>?_
 subst e;cases r1;obtain⟨hs,ho,es,ep,x1,x2,x3,x4⟩:=Zbh I1.hok q;refine uC hs ho x1 x2 #[s1.heap.objs.size,[s1.heap.objs.size],_,_,H1,rfl,I1.kept (t':=s1.toks) λb o e=>aw _ e,uQ a _ o kvs x2 x3<|bp<|aT ho,#[_,aO _ rfl,rfl,rfl],λb hb=>?_,hR]
 have e:b=s1.heap.objs.size:=by simpa using hb
 subst e;exact I1.fpOk (aJ _)<|I1.hok.fresh<|aJ _
def ZcJ{K:am}{U:Mx}{H:Hp}{a:aE}{ks:List (List Int)}{o:fD}{kvs:List (List Key×V)}(f0:H a=aa (.frz o<|.dT kvs))(hk:kvs.map (·.1)=ks.map (·.map eI)):WRel K U H (ks.map Pv.Zd) (Itk a o kvs) where
 go:=λi ρ' S' H' f st hi=>by
  have hl:kvs.length=ks.length:=by have:=congrArg lu hk;simpa using this
  have hi':i<ks.length:=by simpa using hi
  refine#[#[f.keep _ _ f0 (λ_ z=>by cases z),by omega],λx H'' #[e,p,b,h1,h2,h3]=>?_]
  subst e h2;refine#[Fut.refl _ _,st,λd hd=>?_]
  have e1:=congrArg (·[i]?) hk
  simp only[aQ,h1,ai hi',mE,Option.some.injEq]at e1;rw[aQ,ai hi']at hd;cases hd;rw[e1,bO]at h3;exact Xe h3<|Rq.ints _
 stop:=λρ' S' H' f st=>#[f.keep _ _ f0 (λ_ z=>by cases z),by have:=congrArg lu hk;simp at this ⊢;omega]
def jM(he:CE X xw C e i):CW X xw C tg e (.dk i):=PI.imp (ZfV he)<|by
 rintro Z H Q ⟨U,l,S,st,lr,h⟩;rw[Pv.pvw]at h;refine#[U,l,S,st,lr,h.bind λx S1 ρ1 H1 v f1 st1 r1 h1=>?_]
 obtain⟨w,hw,h1⟩:=End.po h1;cases x with
 |dct o=>
  cases o with
  |none=>exact Ev.nos hw
  |some ks=>
   cases hw;obtain⟨a,rfl,o,vs,hp,hk⟩:=r1.dct';exact#[a,o,vs,rfl,hp,End.ok h1 st1<|ZcJ hp hk]
 |_=>exact Ev.nos hw
end
def GG:kQ (.type "list") "keys" = cS af:=by rw[typeLookup_type,mO];kernel_rfl
def wv:pA (.type "AttributeError") (.type "AttributeError")=cS ak:=by rw[isSubtype_type];kernel_rfl
section
variable{prog:bB}{w:bS}{A:cx}{E:au->ay->Prop}{s:ay}{a:aE}{B:Type}{name msg:bi}
def uz{Q:Unit->ay->Prop}(he:s.heap.get? e=aa {cls:=.type "AttributeError",data:=.fields vs})(h6:vs[6]?=aa unsetMember)(h7:vs[7]?=aa unsetMember)
  (hQ:∀h',gv e s.heap h'->(∃ob,h'.get? e=aa ob/\ob.cls=.type "AttributeError")->Q () {s with heap:=h' }):ba (aV prog w) A (noteAttr (.ref e) ov nm) Q E s:=by
 have hT:s.TypeIs (.ref e) "AttributeError":=#[_,he,rfl];refine ae<|ae<|gE hT wv ?_;simp only[gU,cy,if_false];refine ae<|nL he ?_;simp only[h6,h7];rw[T8 (by decide),T8<|by decide]
 refine aC ?_;simp only[if_true];refine ae<|eD<|ae<|gB hT ?_;simp only[layMembers];refine ae<|nL he<|wpAny_update he<|hQ _ (fE ..).extBut #[_,fW _ he<|iO<|fN rfl _,ly ..]
def xN{Q:B->ay->Prop}(hh:A.handled=af)(hm:msg.length<=bn)(hq:∀h' t' e,(∀b o,s.heap.get? b=aa o->h'.get? b=aa o)->(∃ob,h'.get? e=aa ob/\ob.cls=.type "AttributeError")->E (.ref e) {s with heap:=h',toks:=t' }):ba (aV prog w) A (raiseAttrError (.ref a) name msg:oh B) Q E s:=by
 refine ae<|wpAny_mkStr ?_ hm;simp only[newExc,newTuple];refine ae<|ae<|cu ?_<|by size_fits
 refine ae (dO (by first|rfl|(simp only[mU];rfl)) ?_)
 refine cu ?_ (by size_fits)
 refine ae<|wpAny_mkText<|ae<|uz (aO _ rfl) rfl rfl λh' eb ob=>?_
 refine wpAny_raiseNew_none hh<|hq _ _ _ (λb o e=>eb b o (λz=>?_)<|aw _<|aw _ e) ob
 have q:=aT e;subst z;exact T7 q (by show¬(s.heap.push _).objs.size<s.heap.objs.size;rw[dJ];omega)
end
section
variable{prog:bB}{w:bS}{A:cx}{E:au->ay->Prop}{h:cw}{g:Array rd}{d:Drawn}{t:Nat}{os:OsState}{a:aE}{its:Array au}{n:Nat}
def wP{Q:Fin->ay->Prop}(hx:h.get? a=aa {cls:=.type "list",data:=.seq its n})(hh:A.handled=af)(hq:∀h' t' e,(∀b o,h.get? b=aa o->h'.get? b=aa o)->(∃ob,h'.get? e=aa ob/\ob.cls=.type "AttributeError")->E (.ref e) #[h',g,d,t',os]) :
  ba (aV prog w) A (dZ.«object.__getattribute__» #[[.ref a,.str "keys" tk],[]]) Q E #[h,g,d,t,os]:=by
 have hT:(#[h,g,d,t,os]:ay).TypeIs (.ref a) "list":=#[_,hx,rfl];have f4:=GG
 repeat(any_goals (first|assumption|wp_step))
 exact xN hh (by decide +kernel) hq
def uV{R:oV->ay->Prop}(hx:h.get? a=aa {cls:=.type "list",data:=.seq its n})(hh:A.handled=af)(hq:∀h' t' e,(∀b o,h.get? b=aa o->h'.get? b=aa o)->(∃ob,h'.get? e=aa ob/\ob.cls=.type "AttributeError")->R (.error<|.ref e) #[h',g,d,t',os]) :
  eJ (aV prog w) A (.call (.builtin "list.__getattribute__") #[[.ref a,.str "keys" tk],[]]) R #[h,g,d,t,os]:=
 kl F.slot_list_getattribute.plain F.entry_list_ga (F.slot_list_getattribute.check _ _ _ _ _ _ _ _ (#[_,hx,rfl]) (F.args_list_getattribute_2 _ _)<|wP hx hh hq)
def ZcK{Q:au->ay->Prop}(hx:h.get? a=aa {cls:=.type "list",data:=.seq its n})(hh:A.handled=af)(hq:∀h' t' e,(∀b o,h.get? b=aa o->h'.get? b=aa o)->(∃ob,h'.get? e=aa ob/\ob.cls=.type "AttributeError")->E (.ref e) #[h',g,d,t',os]):ba (aV prog w) A (getAttrBy (.ref a) (.str "keys" tk) al) Q E #[h,g,d,t,os]:=by
 have hT:(#[h,g,d,t,os]:ay).TypeIs (.ref a) "list":=#[_,hx,rfl];have f2:=F.slot_list_getattribute.lookup;have f3:=F.slot_list_getattribute.bind<|.ref a
 repeat(any_goals (first|assumption|wp_step))
 refine uV hx hh λh' t' e k ob=>?_
 have hTe:(#[h',g,d,t',os]:ay).TypeIs (.ref e) "AttributeError":=ob;have f9:kQ (.type "list") "__getattr__" = cS af:=by rw[typeLookup_type,mO];kernel_rfl
 have hE:=hq h' t' e k ob
 repeat(any_goals (first|assumption|with_reducible apply gE hTe wv|wp_step))
def uN{Q:Option au->ay->Prop}(hx:h.get? a=aa {cls:=.type "list",data:=.seq its n})(hh:A.handled=af)(hq:∀h' t',(∀b o,h.get? b=aa o->h'.get? b=aa o)->Q af #[h',g,d,t',os]):ba (aV prog w) A (rO (.ref a) "keys") Q E #[h,g,d,t,os]:=by
 unfold rO getAttrBy?
 refine ae<|wpAny_mkText<|ae<|i6<|ZcK hx hh λh' t' e k ob=>?_
 exact ae<|gE (ob) wv<|aC<|hq h' t' k
end
def Wh:plainId "dict.update.loop" = ak:=by decide +kernel
def JM:entryFor table "dict.update.loop" = aa dZ.«dict.update.loop»:=entryFor_of_tree (by kernel_rfl)
section
variable{prog:bB}{w:bS}{A:cx}{E:au->ay->Prop}
def wS{Q:List au->ay->Prop}(hp:pE s.heap p its)(h:Q its.toList s):ba (aV prog w) A (dZ.Dict.pairItems<|.ref p) Q E s:=by
 obtain⟨o,ho,hc,n,hd⟩:=hp;refine ae<|gB #[_,ho,hc] ?_;rw[T9<|by decide]
 unfold seqItems?
 refine ae<|ae<|nL ho ?_;rw[hd];exact aC<|aC h
def ua{K:Type}[DecidableEq K]{knd:KeyKind prog w K}{h h':cw}{k:List K}{a:aE}(x:(eN knd).is h k a)(hk:∀o,h.get? a=aa o->h'.get? a=aa o):(eN knd).is h' k a:=by
 obtain⟨o,its,n,h1,r⟩:=x;exact#[o,its,n,hk _ h1,r]
def WF{K:Type}[DecidableEq K]{knd:KeyKind prog w K}{h h':cw}{d:aE}{xs:List (List K×aE×au)}(x:h.DictOfH (eN knd) d xs)(hd:∀o,h.get? d=aa o->h'.get? d=aa o)(hx:∀x∈xs,∀o,h.get? x.2.1=aa o->h'.get? x.2.1=aa o):h'.DictOfH (eN knd) d xs:=by
 obtain⟨o,es,ep,h1,h2,h3,h4,h5,h6⟩:=x;exact#[o,es,ep,hd _ h1,h2,h3,h4,λy hy=>ua (h5 y hy)<|hx y hy,h6]
abbrev Pr:=List Key×aE×aE
def jc{I d:aE}{fp wr:List aE}{its:Array au}{St:Nat->cw->Prop}{R:oV->ay->Prop}{h0:cw}{ps:List Pr}{res:au}(W:Walks prog w A.in1 I fp wr its.size (λi v=>its[i]?=aa v) St)(hu:A.units+2<dD)(hf:d∉fp)
  (hl:ps.length=its.size)(hi:∀(i:Nat)(p:Pr),ps[i]?=aa p->its[i]?=aa (de p.2.2))
  (hp:∀p∈ps,pE h0 p.2.2 [de p.2.1,bN ak].toArray/\(eN<|Z3 prog w).is h0 p.1 p.2.1/\p.2.2∉wr/\p.2.2≠d/\p.2.1∉wr/\p.2.1≠d)(hn:(ps.map (·.1)).Nodup)(hz:ps.length<=bn) :
  ∀(k i:Nat)(s:ay),its.size-i=k->i<=its.size->St i s.heap->(∀b o,b∉wr->b≠d->h0.get? b=aa o->s.heap.get? b=aa o)->
  s.heap.DictOfH (eN<|Z3 prog w) d ((ps.take i).map λp=>(p.1,p.2.1,bN ak))->
  (∀h' tk,(∀b o,b∉wr->b≠d->h0.get? b=aa o->h'.get? b=aa o)->h'.DictOfH (eN<|Z3 prog w) d (ps.map λp=>(p.1,p.2.1,bN ak))->R (.ok<|.ret res) {s with heap:=h',toks:=tk})->
  eJ (aV prog w) A (.builtin "dict.update.loop" #[[.ref d,.ref I,fM i,res],[]]) R s:=by
 intro k
 induction k with
 |zero=>
  intro i s hk hi' hst kp dd hR;have e:i=its.size:=by omega
  subst e;refine ky JM ?_;rw[kj Wh _];refine ae<|W.done s _ _ hst λh' tk hk'=>?_
  refine ae<|aC<|aC<|hR h' tk (λb o hb hd z=>hk' b o hb<|kp b o hb hd z) ?_
  rw[cq<|by omega]at dd
  exact WF dd (λo e=>hk' _ o (λz=>hf<|W.sub _ z) e) λx hx o e=>by
   obtain⟨y,hy,rfl⟩:=aR.mp hx;exact hk' _ o (hp y hy).2.2.2.2.1 e
 |succ k ih=>
  intro i s hk hi' hst kp dd hR;have hlt:i<its.size:=by omega
  have hp':=hp _<|bU (n:=i)<|by omega
  have hv:=hi i _<|ai<|by omega
  refine ky JM ?_;rw[kj Wh _];refine ae<|W.item i s _ _ hlt hst λv h' tk hP hst' hk'=>?_
  rw[hv]at hP;cases hP;obtain⟨p1,p2,p3,p4,p5,p6⟩:=hp';have kp2:=λb o hb hd z=>hk' b o hb<|kp b o hb hd z
  have dd2:=WF dd (λo e=>hk' _ o (λz=>hf<|W.sub _ z) e) λx hx o e=>by
   obtain⟨y,hy,rfl⟩:=aR.mp hx;exact hk' _ o (hp y<|db hy).2.2.2.2.1 e
  obtain⟨po,g1,g2,pn,g3⟩:=p1;refine ae<|cD<|ae<|wpAny_tryCatch<|wS #[po,kp2 _ _ p3 p4 g1,g2,pn,g3] ?_;have hsz:((ps.take i).map λp=>(p.1,p.2.1,bN ak)).length<=bn:=by rw[ax,bC];omega
  refine cD<|wpAny_dictSet_heap (kR<|by omega) (ua p2 λo e=>kp2 _ o p5 p6 e) dd2 λh2 dd3 sb=>?_
  refine aC #[nF Wh _,ih (i+1) _ (by omega) hlt (W.frame _ _ _ hst' λb hb o e=>(sb.2 b λz=>hf<|z▸hb).trans e) (λb o hb hd z=>(sb.2 b hd).trans<|kp2 b o hb hd z) ?_ hR]
  have hnew:rn ((ps.take i).map λp=>(p.1,p.2.1,bN ak)) ps[i].1=af:=by
   unfold rn;rw[mv,oa];intro x hx z;obtain⟨y,hy,rfl⟩:=aR.mp hx;have hn2:=hn;rw[<-cN i ps,br,gh,cE<|by omega]at hn2
   exact hn2.2.2 _ (eG hy) _ (eG aj)<|T6 z
  rw[storedH_new hnew]at dd3;rw[lz,ai (by omega),br]
  exact dd3
def xP{s:ay}{l:aE}{its:Array au}{n:Nat}{ps:List Pr}{Q:au->ay->Prop}(hh:A.handled=af)(hu:A.units+3<dD)(hx:s.heap.get? l=aa {cls:=.type "list",data:=.seq its n})
  (hl:ps.length=its.size)(hi:∀(i:Nat)(p:Pr),ps[i]?=aa p->its[i]?=aa (de p.2.2))
  (hp:∀p∈ps,pE s.heap p.2.2 [de p.2.1,bN ak].toArray/\(eN<|Z3 prog w).is s.heap p.1 p.2.1)(hn:(ps.map (·.1)).Nodup)(hz:ps.length<=bn)
  (h:∀h' tk,(∀b o,s.heap.get? b=aa o->h'.get? b=aa o)->h'.DictOfH (eN<|Z3 prog w) s.heap.objs.size (ps.map λp=>(p.1,p.2.1,bN ak))->Q (.ref s.heap.objs.size) {s with heap:=h',toks:=tk}) :
  ba (aV prog w) A (call (.type "dict") [.ref l]) Q E s:=by
 refine callType_codes (Q₁:=λobj s₁=>obj=.ref s.heap.objs.size/\s₁={s with heap:=s.heap.push {cls:=.type "dict",data:=.dict #[]}}) F.kt_called_dict (F.kt_typeCall_dict_1 _) F.entry_dict_init (kt_code_dict_new _ #[rfl,rfl]) ?_
 rintro obj s₁ ⟨rfl,rfl⟩
 have hnew:(s.heap.push {cls:=.type "dict",data:=.dict #[]}).DictOfH (eN<|Z3 prog w) s.heap.objs.size []:=cw.DictOfH.new s.heap;have hx':=aw {cls:=.type "dict",data:=.dict #[]} hx;refine#[hnew.typeIs (s:={s with heap:=_}),F.args_dict_init_2 _ _,?_]
 unfold dZ.«dict.__init__»;refine ae ?_;refine ae<|mK (hnew.typeIs (s:={s with heap:=_})) ?_
 refine aC ?_;refine ae<|gB (T:="list") #[_,hx',rfl] ?_;rw[T9<|by decide]
 refine ae<|uN hx' hh λh1 t1 k1=>?_
 rw[T9<|show(af:Option au).isNone=ak from rfl]
 have hx1:=k1 _ _ hx';obtain⟨od,es,ep,g1,g2⟩:=id hnew;have hd1:=aT<|k1 _ _ g1;have hl0:l<s.heap.objs.size:=aT hx;refine ae<|eD<|ae<|gf (items:=its) #[_,hx1,rfl,n,rfl]<|aC #[nF Wh _,?_];have lt:∀{b:aE}{o:fD},s.heap.get? b=aa o->b∉[h1.objs.size]/\b≠s.heap.objs.size:=λ{b o} e=>by
  have q:=aT e;exact#[λz=>T7 (aK.mp z)<|bp<|dC q hd1,bp q]
 refine jc (A:=A.in1) (h0:=s.heap) (ps:=ps) (i:=0) (s:={s with heap:=h1.push<|YH ak l,toks:=t1}) (JC (A:=A.in1.in1) hh ak h1.objs.size l (bp<|dC hl0 hd1) its) (by show A.units+1+2<dD;omega) (λz=>?_) hl hi (λp hq=>?_) hn hz _ rfl (d4 _) #[uf,?_] (λb o _ _ e=>aw _<|k1 _ _<|aw _ e) ?_ λh' tk kp dd=>#[rfl,h h' tk (λb o e=>kp b o (lt e).1 (lt e).2 e) dd]
 .simp only[aB,bQ,or_false]at z
  rcases z with z|z
  .exact bp hd1 z
  .exact gA hl0 z
 .obtain⟨x1,x2⟩:=hp p hq
  obtain⟨_,y1,_⟩:=id x1;obtain⟨_,_,_,y2,_⟩:=id x2;exact#[x1,x2,(lt y1).1,(lt y1).2,(lt y2).1,(lt y2).2]
 .exact#[_,aw _ hx1,rfl,n,rfl]
 .exact WF hnew (λo e=>aw _<|k1 _ _ e) λx hx=>by cases hx
end
section
variable{X:Cx}{xw:Nat->Hp->Prop}{U:Mx}{H:Hp}
theorem zQ:∀{ds:List D}{ks:List (List Int)}{ys:List V},Pv.WC ds=aa ks->Rq U H ds ys->∃ps:List Pr,ps.map (·.1)=ks.map (·.map eI)/\ps.length=ys.length/\
  ∀(i:Nat)(p:Pr),ps[i]?=aa p->ys[i]?=aa (.ref p.2.2)/\H p.2.2=aa (.tup [.ref p.2.1,.bl ak])/\H p.2.1=aa (.tup<|p.1.map kV)
 |[],ks,ys,h,r=>by
  cases h;subst r;exact#[[],rfl,rfl,λi p e=>by simp at e]
 |d::ds,ks,ys,h,r=>by
  obtain⟨v,vs,rfl,r1,r2⟩:=r;obtain⟨a,e1,h⟩:=bZ.mp (h)
  obtain⟨b,e2,rfl⟩:=cF.mp h;obtain⟨ps,h1,h2,h3⟩:=zQ e2 r2;unfold Pv.ZdF at e1;split at e1
  .split at e1
   .rename_i k b hb
    subst hb;obtain⟨p,zs,rfl,hp,rz⟩:=r1.tup';obtain⟨u,u2,rfl,ru,ru2⟩:=zV rz;rw[ru2.bl']at hp;obtain⟨q,ws,rfl,hq,rw'⟩:=ru.tup';rw[Wg e1 rw']at hq;refine#[(a.map eI,q,p)::ps,by rw[aY,h1];rfl,by simp[h2],λi y hy=>?_]
    cases i with|zero=>simp at hy;subst hy;exact#[rfl,hp,hq]|succ i=>exact h3 i y (by simpa using hy)
   .cases e1
  .cases e1
def JG(hc:X.calm=ak)(hu:X.A.units+7<dD):ZG X (.type "dict") (UB X.K xw .dictP):=by
 intro pq s Z H vs us Q I r h;obtain⟨U,S,ds,st,rs,h⟩:=h;obtain⟨d,v,z,rfl,r1,hz,h3⟩:=Wx h rs;have hd:∃ds ks,d=.lst ds/\Pv.WC ds=aa ks/\Ev.Qt ks=ak/\z=.dct (aa ks):=by
  cases d with
  |lst ds=>
   obtain⟨ks,hk,hz⟩:=bZ.mp hz;split at hz
   .cases hz;exact#[ds,ks,rfl,hk,‹_›,rfl]
   .cases hz
  |_=>exact Ev.nos hz
 obtain⟨ds,ks,rfl,hk,hok,rfl⟩:=hd;obtain⟨l,ys,rfl,hl,_,ry⟩:=r1.lst';obtain⟨u,rfl,ru⟩:=Wv r;cases ru;obtain⟨ps,p1,p2,p3⟩:=zQ hk ry;obtain⟨_,its,c,rv,hg⟩:=(I.hok l _ hl)
 obtain⟨k1,k2⟩:=(aI _ _).mp hok;have hn:(ps.map (·.1)).Nodup:=by
  rw[p1];exact List.Pairwise.map _ (λa b ne e=>ne<|GS e)<|T6 k2
 have hlen:ps.length=ks.length:=by have:=congrArg lu p1;simpa using this
 have hz:ps.length<=bn:=by rw[hlen,<-X5];exact T6 k1
 have hp0:=I.hok.fresh<|aJ _;refine xP (I.ok.hd hc) (by omega) hg (by rw[p2,rv.length,az]) (λi p e=>?_) (λp hp=>?_) hn hz λh' tk kp dd=>?_
 .obtain⟨w',g',ru'⟩:=rv.get (p3 i p e).1
  rw[ru']at g'
  simpa using g'
 .obtain⟨i,hi,e⟩:=cg hp
  obtain⟨_,a2,a3⟩:=p3 i p (by rw[<-e];exact ai hi)
  obtain⟨_,zs,rz,tz⟩:=(I.hok _ _ a2)
  refine#[?_,Gq I.hok a3];cases rz with
  |cons x rz=>cases rz with
   |cons y rz=>
    cases rz;cases(x)
    cases(y)
    exact tz
 .obtain⟨od,es,ep,g1,g2,g3,g4,g5,g6⟩:=dd
  have hb:=beq_eq_false_iff_ne.mpr<|gA I.big;have hpr:∀{l:List Pr},(∀p∈l,H p.2.1=aa (.tup<|p.1.map kV))->Paired (λ(p:List Key×V) (q:List Key×aE×au)=>p.1=q.1/\upd H s.heap.objs.size (.frz od<|.dT<|ps.map λp=>(p.1,V.bl ak)) q.2.1=aa (.tup<|p.1.map kV)/\Zz p.2 q.2.2) (l.map λp=>(p.1,V.bl ak)) (l.map λp=>(p.1,p.2.1,bN ak)):=λ{l}=>by
   induction l with|nil=>intro _;exact .nil|cons p l ih=>intro hl;exact .cons #[rfl,by rw[Zj<|ZQ (hl p aj) hp0];exact hl p aj,rfl]<|ih λq hq=>hl q<|ao _ hq
  refine#[.ref s.heap.objs.size,upd H s.heap.objs.size<|.frz od<|.dT<|ps.map λp=>(p.1,V.bl ak),I.laid (t':=tk) kp (aJ _) (#[g1,by rw[ax];exact hz,hb,ps.map λp=>(p.1,p.2.1,bN ak),hpr λp hp=>?_,od,es,ep,g1,g2,g3,g4,g6]),rfl,?_]
  .obtain⟨i,hi,e⟩:=cg hp
   exact(p3 i p<|by rw[<-e];exact ai hi).2.2
  .exact h3 U _ _ (Zw hp0) (st.fresh hp0) (by exact#[_,rfl,od,_,Zn,by rw[bO];exact p1])
end
section
variable{X:Cx}{xw:Nat->Hp->Prop}{fr:Bool}{C:Calls}{ns:List Nat}{e a:Expr}{i:E}{pos p p' p2:fV}{n:Nat}{x:bi}{q:Option bi}
def GJ{q}(ha:CE X xw C a i):CE X xw C (.Subscript a (.Constant (.int 0) q p2) pos) (.dix i al):=PE.imp (wY Uc ha Qs<|by intro _ _;with_unfolding_all rfl)<|by
 rintro Z H Q ⟨U,l,S,st,lr,h⟩;rw[Pv.pv]at h;refine#[U,l,S,st,lr,h.bind λx S1 ρ1 H1 v f1 st1 r1 h1=>?_]
 cases x with|drw=>obtain⟨p,rfl,hn⟩:=r1.drw';exact#[p,_,0,_,rfl,rfl,SqL.of (st1.dw p hn).1,rfl,End.ok h1 st1<|ZK _]|_=>exact h1.elim
def Gf{q}(ha:CE X xw C a i):CE X xw C (.Subscript a (.Constant (.int 1) q p2) pos) (.dix i ak):=PE.imp (wY Uc ha Qs<|by intro _ _;with_unfolding_all rfl)<|by
 rintro Z H Q ⟨U,l,S,st,lr,h⟩;rw[Pv.pv]at h;refine#[U,l,S,st,lr,h.bind λx S1 ρ1 H1 v f1 st1 r1 h1=>?_]
 cases x with|drw=>obtain⟨p,rfl,hn⟩:=r1.drw';exact#[p,_,1,_,rfl,rfl,SqL.of (st1.dw p hn).1,rfl,End.ok h1 st1<|Yj _]|_=>exact h1.elim
def JT{q}(he:CE X xw C e i)(hN:X.N[n]?=aa x)(hv:Vis X.env.scope x)(hd:(x == ("__debug__" : bi))=al)
  (hcd:(x == ("__classdict__" : bi))=al)
  (ha:∀v,eL (.Subscript (.Name x p') (.Constant (.int 0) q p2) p) X.env v=(do
   let ov <-i5 [v] (cr (.Name x p') X.env)
   let iv <-i5 [v,ov] (cr (.Constant (.int 0) q p2) X.env)
   lm p
   i5 [v,ov,iv] (setItem ov iv v)
   release [v,ov,iv] []))(hs:fz [.Subscript (.Name x p') (.Constant (.int 0) q p2) p] e pos.line X.env=cS al)(hw:fA [.Subscript (.Name x p') (.Constant (.int 0) q p2) p] e X.env=cS af)
  (h1:(cI [.Subscript (.Name x p') (.Constant (.int 0) q p2) p] X.env).map (·.2)=[eL (.Subscript (.Name x p') (.Constant (.int 0) q p2) p) X.env]):CS X xw fr C ns (.Assign [.Subscript (.Name x p') (.Constant (.int 0) q p2) p] e pos) (.dset n i):=
 PS.imp (VO he (Ze2 (Yq hN hv hd hcd) Qs (Zac) ha) hs hw h1)<|by
 rintro D Z H ⟨U,H0,W,l,os,S,st,en,h⟩;rw[Pv.rv]at h;refine#[U,l,S,st,en.all,ZD.bind en h λy S1 H1 v f1 st1 r1 h1=>?_]
 cases y with
 |int y=>
  obtain⟨hk,h1⟩:=h1.guard;have hx:l[n]?=aa (aa .drw):=by
   cases z:l[n]? with
   |none=>rw[z]at h1;exact h1.elim
   |some o=>cases o with
    |none=>rw[z]at h1;exact h1.elim
    |some d=>cases d<;>rw[z]at h1<;>first|rfl|exact h1.elim
  rw[hx]at h1;obtain⟨u,hu,r⟩:=(en.mono f1).all.val n .drw hx;obtain⟨a,rfl,hn⟩:=r.drw';obtain⟨e1,_⟩:=st1.dw a hn;refine#[.ref a,hu,a,_,0,0,rfl,rfl,e1,rfl,?_];rw[r1.int'];have f2:Fut U H1 U (upd H1 a<|.lst [.int y,.bl S1.2]):=#[rfl,λb o z=>by
   by_cases c:b=a
   .subst c;rw[e1]at z;cases z;exact .inr<|.inl #[hn,_,rfl]
   .exact .inl<|by rw[Zj c];exact z]
  refine h1 _ Z W #[st1.hk,λb x=>?_,λb x=>?_,st1.tb.upd (λo u z=>by rw[e1]at z;cases z) λ_ z=>by cases z]<|(en.mono f1).mono f2
  .by_cases c:b=a
   .rw[c];rw[Zn];intro z;cases z
   .rw[Zj c];exact st1.xd b x
  .rw[hn]at x
   cases x;exact#[Zn,hk]
 |_=>exact h1.elim
end
open Ev in
noncomputable def WJ:Fn:=#[2,4,
 [.ite (.dix (.v 0) ak) [.asg [2]<|.bin .mod (.dix (.v 0) al)<|.v 1,
  .dset 0 (.bin .fdiv (.dix (.v 0) al)<|.v 1),
  .ret (.v 2)] [],
  .dset 0 (.bin .mod (.bin .add (.bin .mul (.dix (.v 0) al)<|.c<|.int 48271)<|.c<|.int 29)<|.c<|.int 2147483647),
  .asg [3] (.bin .mod (.bin .add (.bin .add (.bin .mul (.dix (.v 0) al)<|.dix (.v 0) al)<|.bin .mul (.c<|.int 39373)<|.dix (.v 0) al)<|.c<|.int 7)<|.c<|.int 2147483629),
  .asg [3] (.bin .mod (.bin .add (.bin .mul (.v 3)<|.v 3)<|.bin .mul (.c<|.int 16807)<|.v 3)<|.c<|.int 2147483587),
  .ret (.bin .mod (.bin .fdiv (.v 3)<|.c<|.int 8)<|.v 1)]]
open Ev Pv in
def Wo(h0:0<=a)(h:a<4294967296):fits a=ak:=by
 refine T5 ?_;have h1:a.natAbs<2^32:=by lia
 exact bt h1<|cH (by decide)<|by decide
open Ev Pv in
def Vl(h:okS s.1 s.2=ak)(m0:0<m)(m1:m<1073741824):Go C WJ [.drw,.int m] s=.ok (.int (X8 s m).1) (X8 s m).2:=by
 obtain⟨a,b⟩:=s;have hm:muts WJ.body=[]:=rfl;unfold Go;rw[hm];have ha:=T6 ((aI _ _).mp h).1;have lt8:(8:Int)<big:=Zbj (by decide)
 cases b with
 |true=>
  have o2:okS (a / m) ak=ak:=by simp[okS];exact Int.ediv_nonneg ha (by lia)
  simp[WJ,X8,rvs,rv,pvA,Pv.pv.eq_1,Pv.pv.eq_2,Pv.pv.eq_5,Pv.pv.eq_23,Yk,PR.bind,po,Zq,ZN,ofD,Xm,Pv.Q2,m0,m1,Zbj m1,o2,hide]
 |false=>
  have hb:a<2147483647:=by simpa using((aI _ _).mp h).2
  have h1:=Wo ha (by lia)
  have x0:0<=(a*48271+29)%2147483647:=by lia
  have x1:(a*48271+29)%2147483647<2147483647:=by lia
  generalize hxx:(a*48271+29)%2147483647=x at x0 x1;have y0:0<=(x*x+39373*x+7)%2147483629:=by lia
  have y1:(x*x+39373*x+7)%2147483629<2147483629:=by lia
  generalize hyy:(x*x+39373*x+7)%2147483629=y at y0 y1;have f1:=Wo x0 (by lia)
  have f2:=Wo y0 (by lia)
  have f3:fits 48271=ak:=Wo (by lia) (by lia)
  have f4:fits 39373=ak:=Wo (by lia) (by lia)
  have f5:fits 16807=ak:=Wo (by lia) (by lia)
  have o2:okS x al=ak:=by simp[okS,x0,x1]
  simp[WJ,X8,rvs,rv,pvA,Pv.pv.eq_1,Pv.pv.eq_2,Pv.pv.eq_5,Pv.pv.eq_23,Yk,PR.bind,po,Zq,ZN,ofD,Xm,Pv.Q2,m0,m1,lt8,h1,hxx,hyy,f1,f2,f3,f4,f5,o2,hide]
def Zcl{K:am}{F:List Fn}{tk d:Nat}:∀U S H ds vs,St3 K U S H->Rq U H ds vs->Pv.Zl F tk (d+1) tk ds S=.no\/Pv.Zl F tk (d+1) tk ds S=Go (Pv.Zl F tk d) WJ ds S:=λU S H ds vs st r=>by
 rw[Pv.Zl,T9 rfl];unfold Pv.ZdD;split
 .rename_i m
  obtain⟨v,u,rfl,r1,_⟩:=zV r;obtain⟨a,_,hn⟩:=r1.drw';split
  .rename_i hm
   exact .inr (Vl (st.dw a hn).2 hm.1 hm.2).symm
  .exact .inl rfl
 .exact .inl rfl
def ug{K:am}{F:List Fn}{tk n d:Nat}{fn:Fn}(hn:n≠tk)(hf:F[n]?=aa fn):∀U S H ds vs,St3 K U S H->Rq U H ds vs->Pv.Zl F tk (d+1) n ds S=.no\/Pv.Zl F tk (d+1) n ds S=Go (Pv.Zl F tk d) fn ds S:=λU S H ds vs st r=>by
 rw[Pv.Zl,T8 hn,hf]
 all_goals exact .inr rfl
def ZcV(h:Pv.UE v=aa d):v=.lst [.int d.1,.bl d.2]/\Pv.okS d.1 d.2=ak:=by
 unfold Pv.UE at h;split at h
 .split at h
  .cases h;exact#[rfl,‹_›]
  .cases h
 .cases h
def yN{l:Lc}{i:Nat}{d:D}(h:(l.map Pv.JO)[i]?=aa (aa d)):l[i]?=aa (aa d)/\d.flat=ak:=by
 rw[aQ]at h;cases q:l[i]? with
 |none=>rw[q]at h;cases h
 |some o=>
  rw[q]at h;have h:=aq h;obtain⟨a,b⟩:=Option.filter_eq_some_iff.mp h;exact#[by rw[a],b]
def ZaR{n:Nat}{l:Lc}{i:Nat}{d:D}(h:(Pv.Vh n l)[i]?=aa (aa d)):l[i]?=aa (aa d)/\d.flat=ak:=by
 unfold Pv.Vh at h;rw[List.getElem?_append]at h;split at h
 .obtain⟨a,b⟩:=yN h
  rw[cW]at a;split at a
  .exact#[a,b]
  .cases a
 .rw[cB]at h
  split at h<;>cases h
def yr :(Pv.Vh n l).length=l.length:=by
 unfold Pv.Vh;rw[aU,ax,bC,cA];omega
def tCl(X:Cx)(xw:Nat->Hp->Prop)(C:Calls)(fi:Nat)(is:List E):TE:=λZ H Q=>tA X xw (Pv.pvs C is) Z H λvs H1=>∃U ds S,St3 X.K U S H1/\Rq U H1 ds vs/\End X.K xw (X1 ak H1) U H1 Q (C fi ds S)
def Ze3{xw:Nat->Hp->Prop}{fi:Nat}{y:bi}{es:List Expr}{is:List E}{ss:List eO}{B:List Sm}(hc:PE X (.Call (.Name y p') (e::es) [] p) (tCl X xw C fi is))(hB:CSs X xw fr C ns ss B)(hN:X.N.Nodup)
  (hi:X.N[n]?=aa x:=by rfl)(hx:L2.Loc X.env.scope x:=by first|exact fX rfl|exact eC rfl)(hf:X.fn x=ak\/X.env.scope.names.lookup x=aa .local:=by first|exact .inl rfl|exact .inr rfl)
  (hs:fz [.Name x px] (.Call (.Name y p') (e::es) [] p) pos.line X.env=cS al:=by rfl)(hw:fA [.Name x px] (.Call (.Name y p') (e::es) [] p) X.env=cS af:=by rfl)
  (h1:(cI [.Name x px] X.env).map (·.2)=[eL (.Name x px) X.env]:=by rfl) :
  CSs X xw fr C ns (.Assign [.Name x px] (.Call (.Name y p') (e::es) [] p) pos::ss) [.cel n fi is B]:=
 PSs.imp (YC (VO hc (Ur hN hi hx hf) hs hw h1) hB)<|by
 rintro D Z H ⟨U,H0,W,l,os,S,st,en,h⟩;have h:ZD fr X.K xw U H0 D (Pv.rv C ns (.cel n fi is B) l os S):=by
  rw[Pv.rvs]at h;cases q:Pv.rv C ns (.cel n fi is B) l os S with|no=>rw[q]at h;exact h|ex c s=>rw[q]at h;exact h|ok g s=>rw[q]at h;cases g<;>exact h
 rw[Pv.rv]at h;obtain⟨ho,h⟩:=h.guard;refine#[U,l,S,st,en.all,ZD.bind en h λxs S1 H1 vs f1 st1 r1 h1=>?_]
 refine#[U,xs,S1,st1,r1,ZD.bind (en.mono f1) h1 λv S2 H2 u f2 st2 r2 h2=>?_]
 obtain⟨d,hd,h3⟩:=ZD.ob h2;obtain⟨rfl,hok⟩:=ZcV hd;obtain⟨a,rfl,na⟩:=r2.2 rfl _ rfl;obtain⟨_,us,z,ea,_,ru⟩:=r2.1.lst';cases z;obtain⟨u1,u2,rfl,q1,q2⟩:=zV ru;cases q1.int';cases q2.bl';have en2:=(en.mono f1).mono f2;have nX:∀q,U.X q->q≠a:=λq x z=>st1.xd q x<|z▸na
 let ρ':Mx:=#[U.K,aa a,λq=>U.X q\/q=a,λq h=>.inr (aq h).symm]
 have st':St3 X.K ρ' d H2:=#[st2.hk,λq x=>x.elim (st2.xd q) λz=>(by rw[z,ea];intro w;cases w),λq x=>(by cases x;exact#[ea,hok]),st2.tb]
 have en':Eu ρ' H2 (λ_=>af) ((Pv.Vh n l).set n<|aa .drw) [] (Z.set n<|aa<|.ref a) H2:=by
  refine#[Fut.refl _ _,st'.xd,by rw[bE,bE,yr];exact en.len,λ_=>rfl,λ_ _ _ z=>?_,λ_ _ z=>?_,λ_ _ z=>?_,λi w q _=>?_]
  .cases z
  .cases z
  .cases z
  .rcases GK q with⟨rfl,z,hl⟩|⟨c,z⟩
   .cases z
    exact#[.ref a,bc (by rw[<-en.len,<-yr];exact hl),by exact#[a,rfl,rfl]]
   .obtain⟨z,hfl⟩:=ZaR z
    obtain⟨v,hv,r⟩:=en2.all.val i w z;exact#[v,by rw[aZ c];exact hv,Rep.flat (U:=U) (ρ':=ρ'.ex λ_=>af) rfl (λ_ _ z _=>z) hfl r]
 have n0:∀{b},b≠a->ρ'.n0≠aa b:=λc w=>T7 (aq w).symm c
 have keep:∀{H'},Fut ρ' H2 ρ' H'->∀b o,b≠a->H2 b=aa o->(∀ps,o≠.tbl ps)->H' b=aa o:=λ{H'} f b o c z n=>(f.keep b o z).elim id λw=>w.elim (λw=>T7 w.1<|n0 c) λ#[#[ps,e],_]=>T7 e<|n ps
 have back:∀{H':Hp}{s:Zs},Fut ρ' H2 ρ' H'->St3 X.K ρ' s H'->St3 X.K U S2 H'/\Fut U H0 U H':=λ{H' s} f w=>by
  refine#[#[st2.hk,λq x=>?_,λq x=>?_,w.tb],rfl,λb o z=>?_]
  .exact f.there (n0<|nX q x)<|st2.xd q x
  .obtain⟨e1,e2⟩:=st2.dw q x
   exact#[keep f q _ (nX q<|U.xz q x) e1 (by intro _ z;cases z),e2]
  .have ne:b≠a:=λc=>by rw[c,zE (en.mono f1) st1 na]at z;cases z
   rcases en2.fut.keep b o z with y|y|⟨e,ps,y⟩
   .rcases f.keep b o y with q|q|q
    .exact .inl q
    .exact T7 q.1<|n0 ne
    .exact .inr<|.inr q
   .exact .inr<|.inl y
   .rcases f.keep b _ y with q|⟨_,xs,q⟩|⟨_,q⟩
    .exact .inr<|.inr #[e,ps,q]
    .cases q
    .exact .inr<|.inr #[e,q]
 have backE:∀{H':Hp}{s:Zs}{W':Own}{l':Lc}{os':List Nat}{σ':L2.St},Eu ρ' H2 W' l' os' σ' H'->St3 X.K ρ' s H'->St3 X.K U S2 H'/\Eu U H0 (λ_=>af) (l'.map Pv.JO) [] σ' H':=λ{H' s W' l' os' σ'} g w=>by
  obtain⟨a1,a2⟩:=back g.fut w;refine#[a1,a2,en.xd,by rw[ax];exact g.len,λ_=>rfl,λ_ _ _ z=>?_,λ_ _ z=>?_,λ_ _ z=>?_,λi w q _=>?_]
  .cases z
  .cases z
  .cases z
  .obtain⟨z,hfl⟩:=yN q
   obtain⟨v,hv,r⟩:=g.all.val i w z;exact#[v,hv,Rep.flat (U:=ρ') (ρ':=U.ex λ_=>af) rfl (λ_ _ z _=>z) hfl r]
 refine#[ρ',H2,λ_=>af,_,[],d,st',en',?_]
 cases q:Pv.rvs C ns B ((Pv.Vh n l).set n<|aa .drw) [] d with
 |no=>rw[q]at h3;exact h3
 |ex c s=>rw[q]at h3;exact h3.elim
 |ok g s=>
  rw[q]at h3;cases g with
  |nx l' os'=>exact λH' σ' W' w g=>let #[a1,a2]:=backE g w;h3 H' σ' _ a1 a2
  |ret v=>
   obtain⟨hfl,h3⟩:=ZD.guard h3;exact λH' v' f w r=>let #[a1,a2]:=back f w;h3 H' v' a2 a1 #[Rep.flat (U:=ρ') (ρ':=U) rfl (λ_ _ z _=>z) hfl r.1,λ_ ds z=>by rw[z]at hfl;cases hfl]
section
variable{X:Cx}{xw:Nat->Hp->Prop}{C:Calls}{a:Expr}{i:E}{pos p p2 p3:fV}
theorem qL{ta:TA}(hgt:Gl X "list")(hmt:X.mg "list" = af)(hg:Gl X "range")(hm:X.mg "range" = af)(hc:X.calm=ak)(ha:PA X [a] ta)(hs:aA [a] X.env=[(al,cr a X.env)]) :
  PE X (.Call (.Name "list" p) [.Call (.Name "range" p2) [a] [] p3] [] pos) (λZ H Q=>ta Z H λvs H1=>∃j:Int,vs=[.int j]/\0<=j/\j<=1000/\∀l,H1 l=af->Q (.ref l) (upd H1 l<|.lst<|(aP j.toNat).map λ(k:Nat)=>V.int<|0+(k:Int))):=by
 intro pq s Z H Q I h;refine rg<|YM I hgt hmt (rfl)<|bT (Calls.spliced_cons ?_) rfl rfl
 refine rg<|YM I hg hm nM<|bT (thn (ha p3 pq s Z H _ I h) λus s1 #[vs,H1,I1,r1,q1]=>?_) hs rfl
 obtain⟨j,e,q1,q2,q⟩:=q1;subst e;cases r1 with
 |cons r rr=>
  cases rr;obtain⟨t,rfl⟩:=r;refine call_range_1<|Calls.spliced_nil ?_;have hn:fF 0 j 1=(j.toNat:Int):=by rw[nv];split<;>lia
  refine call_list_range (I1.ok.hd hc) (pF ..) (small_one (by lia) (by lia) (by lia)<|by lia) hn (by lia) λh' tk acc c' kp hl hacc=>?_
  refine#[.ref _,_,I1.laid (t':=tk) (o:=.lst<|(aP j.toNat).map λ(k:Nat)=>V.int<|0+(k:Int)) (λb o e=>kp b o<|aw _ e) ?_ #[by rw[ax,bq,dv];lia,acc.toList,c',ZcO hacc,hl],rfl,q _<|I1.hok.fresh ?_]
  .rw[dJ];exact h8 _
  .rw[dJ];exact h8 _
def VP(hmt:X.mg "list" = af)(hm:X.mg "range" = af)(ha:CA X xw C [a] [i])(hgt:Gl X "list")(hg:Gl X "range")(hc:X.calm=ak)(hs:aA [a] X.env=[(al,cr a X.env)]) :
  CF X xw C (.Call (.Name "list" p) [.Call (.Name "range" p2) [a] [] p3] [] pos) (.blt .rangeL [i]):=
 PE.imp (qL hgt hmt hg hm hc ha hs) λZ H Q #[U,l,S,st,lr,h]=>#[U,l,S,st,lr,End.bind (h) λxs S1 ρ1 H1 vs f1 st1 r1 h1=>by
  cases f1.eq;obtain⟨d,v,z,rfl,r1,hz,h1⟩:=Wx h1 r1;cases d with
  |int n=>
   have hz:(if Ev.few n then aa (Pv.V.lst<|Pv.ZU 0 n.toNat)else af)=aa z:=hz
   split at hz
   .cases hz
    have hs':=T6<|‹_›
    exact#[n,by rw[r1.int'],hs'.1,hs'.2,h1.newF f1 st st1<|VQ 0<|aP n.toNat]
   .cases hz
  |_=>exact Ev.nos hz]
end
end Sd
structure Bx(P:Prop):Prop where
 h:P
namespace Wr
def bx3{P Q R:Prop}(h:Bx P/\Bx Q/\Bx R):P/\Q/\R:=#[h.1.h,h.2.1.h,h.2.2.h]
def bx6{P Q R S T U:Prop}(h:Bx P/\Bx Q/\Bx R/\Bx S/\Bx T/\Bx U):P/\Q/\R/\S/\T/\U:=#[h.1.h,h.2.1.h,h.2.2.1.h,h.2.2.2.1.h,h.2.2.2.2.1.h,h.2.2.2.2.2.h]
def wl{X xw C pos n q}:=Bx.mk<|@Sd.wl X xw C pos n q
def Za1{X xw C pos n q}:=Bx.mk<|@Sd.Za1 X xw C pos n q
def wM{X xw C pos q}:=Bx.mk<|@Sd.wM X xw C pos q
def xo{X xw C pos x q}:=Bx.mk<|@Sd.xo X xw C pos x q
def ZeU{X xw C pos}(n){x}(hN hv hd hcd):=Bx.mk<|@Sd.ZeU X xw C pos n x hN hv hd hcd
def wQ{X xw C pos es is q}(h):=Bx.mk<|@Sd.wQ X xw C pos es is q<|Bx.h h
def wn{X xw C pos es is}(h):=Bx.mk<|@Sd.wn X xw C pos es is<|Bx.h h
def xK{X xw C a b i j pos}(ha hb):=Bx.mk<|@Sd.xK X xw C a b i j pos (Bx.h ha)<|Bx.h hb
def xu{X xw C a b i j pos}(ha hb):=Bx.mk<|@Sd.xu X xw C a b i j pos (Bx.h ha)<|Bx.h hb
def wN{X xw C a b i j pos}(ha hb):=Bx.mk<|@Sd.wN X xw C a b i j pos (Bx.h ha)<|Bx.h hb
def JZ{X xw C a b i j pos}(ha hb):=Bx.mk<|@Sd.JZ X xw C a b i j pos (Bx.h ha)<|Bx.h hb
def wx{X xw C a b i j pos}(ha hb):=Bx.mk<|@Sd.wx X xw C a b i j pos (Bx.h ha)<|Bx.h hb
def wb{X xw C a b i j pos}(ha hb):=Bx.mk<|@Sd.wb X xw C a b i j pos (Bx.h ha)<|Bx.h hb
def wg{X xw C a i pos}(ha):=Bx.mk<|@Sd.wg X xw C a i pos<|Bx.h ha
def wA{X xw C a i pos}(ha):=Bx.mk<|@Sd.wA X xw C a i pos<|Bx.h ha
def wt{X xw C a b i j pos rest}(ha hb):=Bx.mk<|@Sd.wt X xw C a b i j pos rest (Bx.h ha)<|Bx.h hb
def xm{X xw C a b c i j k pos}(hc ha hb):=Bx.mk<|@Sd.xm X xw C a b c i j k pos (Bx.h hc) (Bx.h ha)<|Bx.h hb
def Y7{X xw C a b i j pos op o}(hc ha hb)(hm):=Bx.mk<|@Sd.Y7 X xw C a b i j pos op o hc (Bx.h ha) (Bx.h hb) hm
def W8{X xw C a b i j pos op op' o o' d k}(hc hc' ha hb hd)(hm):=Bx.mk<|@Sd.W8 X xw C a b i j pos op op' o o' d k hc hc' (Bx.h ha) (Bx.h hb) (Bx.h hd) hm
def jx{X xw C a i pos p2 lo hi il ih}(ha hl hh):=Bx.mk<|@Sd.jx X xw C a i pos p2 lo hi il ih (Bx.h ha) (Bx.h hl)<|Bx.h hh
def ZbF{X xw C a b i j pos}(ha hb)(hs):=Bx.mk<|@Sd.ZbF X xw C a b i j pos (Bx.h ha) (Bx.h hb) hs
def WA{X xw C a i pos p p2 T t}(ht hm hmT ha)(hg hgT hvT hnT hdT hs1 hs2 hpl):=Bx.mk<|@Sd.WA X xw C a i pos p p2 T t ht hm hmT (Bx.h ha) hg hgT hvT hnT hdT hs1 hs2 hpl
def XD{X xw C e pos p f id x es is}(hc hm ha)(hg hv hn hdb he hpl):=Bx.mk<|@Sd.XD X xw C e pos p f id x es is hc hm (Bx.h ha) hg hv hn hdb he hpl
def WV{X xw C e pos p f id x es is}(hc hm ha)(hg hv hn hdb he hpl):=Bx.mk<|@Sd.WV X xw C e pos p f id x es is hc hm (Bx.h ha) hg hv hn hdb he hpl
def zc{X xw C e pos p f id x es is}(hc hm ha)(hg hv hn hdb he hpl):=Bx.mk<|@Sd.zc X xw C e pos p f id x es is hc hm (Bx.h ha) hg hv hn hdb he hpl
def Gj{X xw C e pos p f id x es is}(hc hm ha)(hg hv hn hdb he hpl):=Bx.mk<|@Sd.Gj X xw C e pos p f id x es is hc hm (Bx.h ha) hg hv hn hdb he hpl
def Zgb{X xw C e i}(h):=Bx.mk<|@Sd.CF.ce X xw C e i<|Bx.h h
def xR{X xw C}:=Bx.mk<|@Sd.xR X xw C
def GV{X xw C e i es is}(ha hr)(hs):=Bx.mk<|@Sd.GV X xw C e i es is (Bx.h ha) (Bx.h hr) hs
def G4{X xw C}:=Bx.mk<|@Sd.G4 X xw C
def JW{X xw C e i}(h):=Bx.mk<|@Sd.JW X xw C e i<|Bx.h h
def wp{X xw C a i pos}(ha):=Bx.mk<|@Sd.wp X xw C a i pos<|Bx.h ha
def Xa{X xw C a b i j pos op o}(hc ha hb)(hm):=Bx.mk<|@Sd.Xa X xw C a b i j pos op o hc (Bx.h ha) (Bx.h hb) hm
def xZ{X xw C a i}(ha)(he):=Bx.mk<|@Sd.xZ X xw C a i (Bx.h ha) he
def G6{X xw C a b i j pos rest}(ha hb):=Bx.mk<|@Sd.G6 X xw C a b i j pos rest (Bx.h ha)<|Bx.h hb
def v3{X xw C a b i j pos rest}(ha hb):=Bx.mk<|@Sd.v3 X xw C a b i j pos rest (Bx.h ha)<|Bx.h hb
def G0{X xw C a i pos}(ha):=Bx.mk<|@Sd.G0 X xw C a i pos<|Bx.h ha
def xY{X xw C a i pos}(ha):=Bx.mk<|@Sd.xY X xw C a i pos<|Bx.h ha
def GI{X xw C}:=Bx.mk<|@Sd.GI X xw C
def zi{X xw C c i}(h):=Bx.mk<|@Sd.zi X xw C c i<|Bx.h h
def jI{X xw C e tg i}(he):=Bx.mk<|@Sd.jI X xw C e tg i<|Bx.h he
def jM{X xw C e tg i}(he):=Bx.mk<|@Sd.jM X xw C e tg i<|Bx.h he
def Gk{X xw C a tg i pos p}(hm ha)(hg hs):=Bx.mk<|@Sd.Gk X xw C a tg i pos p hm (Bx.h ha) hg hs
def GN{X xw C a b tg i j pos p}(hm ha)(hg hs hs2):=Bx.mk<|@Sd.GN X xw C a b tg i j pos p hm (Bx.h ha) hg hs hs2
def Ge{X pos n x}(hN)(hi hx hf):=Bx.mk<|@Sd.Ge X pos n x hN hi hx hf
def wE{X pos tgs q2 n m r}(hc h)(hn hst):=Bx.mk<|@Sd.wE X pos tgs q2 n m r hc (Bx.h h) hn hst
def GE{X}:=Bx.mk<|@Sd.GE X
def Qf{X pos tgs n t x}(hN h2)(hi hx hf hs):=Bx.mk<|@Sd.Qf X pos tgs n t x hN (Bx.h h2) hi hx hf hs
def xH{X xw fr C ns}:=Bx.mk<|@Sd.xH X xw fr C ns
def GZ{X xw fr C ns s0 ss m0 ms}(h1 h2):=Bx.mk<|@Sd.GZ X xw fr C ns s0 ss m0 ms (Bx.h h1)<|Bx.h h2
def za{X xw fr C ns e i pos n tg}(he hg)(hf hs hw h1):=Bx.mk<|@Sd.za X xw fr C ns e i pos n tg (Bx.h he) (Bx.h hg) hf hs hw h1
def ze{X xw fr C ns e i pos n tg}(he hg)(hs hw h1):=Bx.mk<|@Sd.ze X xw fr C ns e i pos n tg (Bx.h he) (Bx.h hg) hs hw h1
def wo{X xw fr C ns e i pos n m t tg}(he hg)(hf hs hw h1):=Bx.mk<|@Sd.wo X xw fr C ns e i pos n m t tg (Bx.h he) (Bx.h hg) hf hs hw h1
def VM{X xw fr C ns e i pos p n x apos cpos}(he)(hN hv hd hcd hbase hfew hline hs hplain hw):=Bx.mk<|@Sd.VM X xw fr C ns e i pos p n x apos cpos (Bx.h he) hN hv hd hcd hbase hfew hline hs hplain hw
def VL{X xw fr C ns e i pos p n x apos cpos}(he)(hN hv hd hcd hbase hfew hline hs hplain hw):=Bx.mk<|@Sd.VL X xw fr C ns e i pos p n x apos cpos (Bx.h he) hN hv hd hcd hbase hfew hline hs hplain hw
def xC{X xw C ns e i pos}(he):=Bx.mk<|@Sd.xC X xw C ns e i pos<|Bx.h he
def Gd{X xw fr C ns e i pos}(he):=Bx.mk<|@Sd.Gd X xw fr C ns e i pos<|Bx.h he
def J1{X xw fr C ns e pos n is}(he)(hs):=Bx.mk<|@Sd.J1 X xw fr C ns e pos n is (Bx.h he) hs
def ZaQ{X xw fr C ns c k pos ms ms' sa sb}(hc ha hb):=Bx.mk<|@Sd.ZaQ X xw fr C ns c k pos ms ms' sa sb (Bx.h hc) (Bx.h ha)<|Bx.h hb
def xO{X xw C tg it pos body fr ns ms w t}(hp hc hw hg hb)(hs):=Bx.mk<|@Sd.xO X xw C tg it pos body fr ns ms w t hp hc (Bx.h hw) (Bx.h hg) (Bx.h hb) hs
def xp{X xw fr C ns e i pos p n x op o}(ho hN he)(hi hx hf):=Bx.mk<|@Sd.xp X xw fr C ns e i pos p n x op o ho hN (Bx.h he) hi hx hf
def Uy{X xw fr C ns c k pos ms body}(hp hc hb):=Bx.mk<|@Sd.Uy X xw fr C ns c k pos ms body hp (Bx.h hc)<|Bx.h hb
def xJ{X xw C a b i j pos p tp elts kk}(hm ha)(hg hs hs2):=Bx.mk<|@Sd.xJ X xw C a b i j pos p tp elts kk hm (Bx.h ha) hg hs hs2
def Gw{X xw C a i pos p tp elts kk}(hm ha)(hg hs):=Bx.mk<|@Sd.Gw X xw C a i pos p tp elts kk hm (Bx.h ha) hg hs
def Gx{X xw C a i pos p p2 p3 T U t u k0 p4}(ht hu hm hmT hmU ha)(hg hgT hgU hvT hvU hnT hdT hnU hdU hs0 hs00 hs1 hs2 hpl):=Bx.mk<|@Sd.Gx X xw C a i pos p p2 p3 T U t u k0 p4 ht hu hm hmT hmU (Bx.h ha) hg hgT hgU hvT hvU hnT hdT hnU hdU hs0 hs00 hs1 hs2 hpl
def WK{X xw C e i pos p kp kp2 q0}(hm ha)(hg he hpl):=Bx.mk<|@Sd.WK X xw C e i pos p kp kp2 q0 hm (Bx.h ha) hg he hpl
def Gp{X xw C a b tg i j pos p p2 p3}(hmr hm ha)(hgr hg hs hs2):=Bx.mk<|@Sd.Gp X xw C a b tg i j pos p p2 p3 hmr hm (Bx.h ha) hgr hg hs hs2
def Qe{X xw C tg it pos elt ifs is ie scope N cap nl w t}(hc hN CSc hi)(hb:∀c s H p,Bx _/\Bx _/\Bx _)(hs):=Bx.mk<|@Sd.Qe X xw C tg it pos elt ifs is ie scope N cap nl w t hc hN CSc (Bx.h hi) (λc s H p=>bx3<|hb c s H p) hs
def Qp{X xw C tg it pos fr ns elt ifs is ie scope N cap nl w t n y spos py}(hc hN CSc hi)(hb:∀c s H p,Bx _/\Bx _/\Bx _)(hsw hy hx hf hs):=Bx.mk<|@Sd.Qp X xw C tg it pos fr ns elt ifs is ie scope N cap nl w t n y spos py hc hN CSc (Bx.h hi) (λc s H p=>bx3<|hb c s H p) hsw hy hx hf hs
def Vy{X xw C pos fr ns elt t1 i1 t2 i2 f1' f2' is js ie scope N cap nl w w2 t u n y spos py}(hc hN CSc hi)(hb:∀c s H p,Bx _/\Bx _/\Bx _/\Bx _/\Bx _/\Bx _)(hsw hy hx hf hs hs2):=Bx.mk<|@Sd.Vy X xw C pos fr ns elt t1 i1 t2 i2 f1' f2' is js ie scope N cap nl w w2 t u n y spos py hc hN CSc (Bx.h hi) (λc s H p=>bx6<|hb c s H p) hsw hy hx hf hs hs2
def Zak{X xw C e i}(h):=Bx.mk<|@Sd.CWh.ct X xw C e i<|Bx.h h
def GJ{X xw C a i pos p2 q}(ha):=Bx.mk<|@Sd.GJ X xw C a i pos p2 q<|Bx.h ha
def Gf{X xw C a i pos p2 q}(ha):=Bx.mk<|@Sd.Gf X xw C a i pos p2 q<|Bx.h ha
def JT{X xw fr C ns e i pos p p' p2 n x q}(he)(hN hv hd hcd ha hs hw h1):=Bx.mk<|@Sd.JT X xw fr C ns e i pos p p' p2 n x q (Bx.h he) hN hv hd hcd ha hs hw h1
def wf{X xw fr C ns pos n x m y px py}(hN)(hj hv hd hcd hi hx hf hs hw h1):=Bx.mk<|@Sd.wf X xw fr C ns pos n x m y px py hN hj hv hd hcd hi hx hf hs hw h1
def VP{X xw C a i pos p p2 p3}(hmt hm ha)(hgt hg hc hs):=Bx.mk<|@Sd.VP X xw C a i pos p p2 p3 hmt hm (Bx.h ha) hgt hg hc hs
end Wr
namespace Gn
open PySem PySem.Spec PyProof.Rows L2
open Ev (E Sm Fn Bop Cop Ty Bf Mf)
open Sd (Calls CompScope cxC hu7)
structure FR where
 x:bi
 st:eO
 N:List bi
 k:Nat
noncomputable def FR.ps(r:FR):List bi:=r.N.take r.k
noncomputable def scB(N:List bi)(k:Nat)(sc:d6):Bool:=
 (match sc.kind with|.function=>ak|_=>al)&&(!sc.isCoroutine&&(!sc.isGenerator&&(decide N.Nodup&&((N.take k).all (λx=>ag (sc.names.lookup x=aa .local)||decide (sc.names.lookup x=aa .cell))&&sc.names.all λy=>ag<|y.2≠.free))))
def VJ(h:scB N k sc=ak):FnScope N (N.take k) sc:=by
 unfold scB at h;simp only[aI,lB,T0,aX,eE]at h;obtain⟨h1,h2,h3,h4,h5,h6⟩:=h;refine#[?_,h2,h3,h4,?_,h5,h6]
 .cases e:sc.kind<;>rw[e]at h1<;>first|rfl|cases h1
 .rw[bC]
  by_cases hk:k<=N.length
  .rw[mC hk]
  .rw[Nat.min_eq_right (by omega),gD,cq<|by omega]
inductive Gv where
 |int (n:Int)|tab (t:List (Int×Int))
 deriving DecidableEq
def Zft(K:am)(mg:bi->Option au)(x:bi):Gv->Prop
 |.int n=>∃t:rW,mg x=aa (.int n t)
 |.tab t=>∃tb:aE,(∀P w,Sd.ZfZ P w K tb t)/\mg x=aa (.ref tb)
structure Top(K:am)(mg:bi->Option au)(fs:List FR)(zs:List bi)(gs:List (bi×Gv))(f:Nat->aE)(fd:Nat->cM):Prop where
 d:∀i r,fs[i]?=aa r->Fun K r.x r.x r.st (f i) (fd i)
 b:∀i r,fs[i]?=aa r->VX K (fd i) r.ps []
 m:∀i r,fs[i]?=aa r->mg r.x=aa (.ref<|f i)
 z:∀x∈zs,mg x=af
 g:∀y∈gs,Zft K mg y.1 y.2
def Jv(r:FR):Prop:=∀(kV doc pm:au)(an:Option aE)(cdv ct:au)(us:List au),us.length=r.ps.length->mR (eK r.x r.x (Xf r.st) (ZB r.st) (Zg r.st) .none kV doc pm an cdv ct) #[us,[]]=cS (r.ps.zip us)
section
variable{x:bi}{st:eO}
abbrev bA(x:bi)(st:eO)(kV doc pm:au)(an:Option aE)(cdv ct:au)(us:List au):=mR (eK x x (Xf st) (ZB st) (Zg st) .none kV doc pm an cdv ct) #[us,[]]
def bd1(h:∀kV doc pm an cdv ct a0,bA x st kV doc pm an cdv ct [a0]=cS ((N.take n).zip [a0]))(hl:(N.take n).length=1:=by rfl):Jv #[x,st,N,n]:=λkV doc pm an cdv ct us e=>match us,e.trans hl with|[a0],_=>h kV doc pm an cdv ct a0
def bd2(h:∀kV doc pm an cdv ct a0 a1,bA x st kV doc pm an cdv ct [a0,a1]=cS ((N.take n).zip [a0,a1]))(hl:(N.take n).length=2:=by rfl):Jv #[x,st,N,n]:=λkV doc pm an cdv ct us e=>match us,e.trans hl with|[a0,a1],_=>h kV doc pm an cdv ct a0 a1
def bd3(h:∀kV doc pm an cdv ct a0 a1 a2,bA x st kV doc pm an cdv ct [a0,a1,a2]=cS ((N.take n).zip [a0,a1,a2]))(hl:(N.take n).length=3:=by rfl):Jv #[x,st,N,n]:=λkV doc pm an cdv ct us e=>match us,e.trans hl with|[a0,a1,a2],_=>h kV doc pm an cdv ct a0 a1 a2
def bd4(h:∀kV doc pm an cdv ct a0 a1 a2 a3,bA x st kV doc pm an cdv ct [a0,a1,a2,a3]=cS ((N.take n).zip [a0,a1,a2,a3]))(hl:(N.take n).length=4:=by rfl):Jv #[x,st,N,n]:=λkV doc pm an cdv ct us e=>match us,e.trans hl with|[a0,a1,a2,a3],_=>h kV doc pm an cdv ct a0 a1 a2 a3
end
inductive FnsAt(K:am):List FR->List aE->List cM->Prop
 |nil:FnsAt K [] [] []
 |cons {x:bi} {st:eO} {N:List bi} {n:Nat} {a:aE} {rs:List FR} {as:List aE} {fds:List cM} {oc kV dc pm cd ct:au} {od an:Option aE} {sl:Array (Option au)}
   (h1:iJ K bG x=aa (aa<|.ref a)) (h2:K.lookup a=aa #[oc,od,.func<|eK x x (Xf st) (ZB st) (Zg st) .none kV dc pm an cd ct,sl])
   (h3:kN K cd x=ak) (h4:gq K (.ref a)=ak) (h5:Jv #[x,st,N,n]) (t:FnsAt K rs as fds) :
   FnsAt K (#[x,st,N,n]::rs) (a::as) (eK x x (Xf st) (ZB st) (Zg st) .none kV dc pm an cd ct::fds)
inductive ZsAt(K:am):List bi->Prop
 |nil:ZsAt K []
 |cons {x:bi} {zs:List bi} (h:iJ K bG x=aa af) (t:ZsAt K zs):ZsAt K (x::zs)
inductive GsAt(K:am):List (bi×Gv)->Prop
 |nil:GsAt K []
 |cons {x:bi} {n:Int} {u:rW} {gs:List (bi×Gv)} (h:iJ K bG x=aa (aa<|.int n u)) (t:GsAt K gs):GsAt K ((x,.int n)::gs)
 |tab {x:bi} {a:aE} {es:Array iV} {n:Nat} {tb:List (Int×Int)} {gs:List (bi×Gv)} (h:iJ K bG x=aa (aa<|.ref a)) (h2:K.lookup a=aa #[.type "dict",af,.dict es n,#[]]) (h3:Sd.Xj es.toList tb) (h4:(a == fK)=al) (t:GsAt K gs):GsAt K ((x,.tab tb)::gs)
theorem GsAt.get{K:am}{h:cw}{mg:bi->Option au}(X:K.In h)(G:h.Ns bG mg):∀{gs:List (bi×Gv)},GsAt K gs->∀y∈gs,Zft K mg y.1 y.2
 |_,.nil,x,h=>by simp at h
 |_,.cons h t,x,m=>by
  rcases aB.mp m with rfl|m
  .exact#[_,lJ X G h]
  .exact t.get X G x m
 |_,.tab h h2 h3 h4 t,x,m=>by
  rcases aB.mp m with rfl|m
  .exact#[_,λP w=>Sd.ZcI h2 h3 h4,lJ X G h]
  .exact t.get X G x m
theorem FnsAt.get{K:am}{fd0:cM}:∀{fs:List FR}{as:List aE}{fds:List cM},FnsAt K fs as fds->∀i r,fs[i]?=aa r->
  iJ K bG r.x=aa (aa<|.ref<|as.getD i 0)/\Fun K r.x r.x r.st (as.getD i 0) (fds.getD i fd0)/\Jv r
 |_,_,_,.nil,i,r,e=>by simp at e
 |_,_,_,.cons h1 h2 h3 h4 h5 t,0,r,e=>by
  simp at e;subst e;exact#[h1,Zfq h2 h3 h4,h5]
 |_,_,_,.cons h1 h2 h3 h4 h5 t,i+1,r,e=>by
  obtain⟨a,b,c⟩:=t.get i r (by simpa using e)
  exact#[by simpa using a,by simpa using b,c]
theorem ZsAt.get{K:am}:∀{zs:List bi},ZsAt K zs->∀x∈zs,iJ K bG x=aa af
 |_,.nil,x,h=>by simp at h
 |_,.cons h t,x,m=>by
  rcases aB.mp m with rfl|m
  .exact h
  .exact t.get x m
def Top.no{K:am}{mg:bi->Option au}{x:bi}(T:Top K mg fs zs gs f fd)(h:zs.contains x=ak):mg x=af:=T.z x (by simpa using h)
def Zfw{n:Int}{x:bi}(T:Top X.K X.mg fs zs gs f fd)(h:gs.contains (x,.int n)=ak)(hg:Gl X x)(hd:(x == ("__debug__" : bi))=al):Bx (Sd.CE X xw C (.Name x p)<|.c<|.int n):=by
 obtain⟨t,e⟩:=T.g (x,.int n) (by simpa using h)
 exact⟨Sd.Zdh e hg hd⟩
noncomputable def csB(sc:d6)(N0:List bi)(scope:d6)(N:List bi)(cap:List Nat)(nl:Nat):Bool:=
 ((N.take nl).all (λx=>ag<|scope.names.lookup x=aa .local)&&(ag (N.length=nl+cap.length)&&(cap.zipIdx.all (λp=>ag (N[nl+p.2]?=N0[p.1]?)&&ag ((N0[p.1]?).map (λx=>ag<|(x,bM)∈scope.names)=aa ak)) &&
  ((match scope.kind with|.function=>ak|_=>al)&&scope.names.all λy=>ag (y.2≠.cell)&&((!decide (y.2=.local)||decide (scope.names.lookup y.1=aa .local))&&(!decide (y.2=.free)||((ag (sc.names.lookup y.1=aa .cell)||decide (sc.names.lookup y.1=aa .free))&&ag (scope.names.lookup y.1≠aa .local))))))))
def ZI(h:csB sc N0 scope N cap nl=ak):CompScope sc N0 scope N cap nl:=by
 unfold csB at h;simp only[aI,eE,lB,T0,decide_eq_false_iff_not,aX]at h;obtain⟨_,h1,h2,h3,h4⟩:=h;refine#[?_,λy hy=>(h4 y hy).1,λy hy z=>?_,λy hy z=>?_,λy hy z=>?_,h1,h2]
 .cases e:scope.kind<;>rw[e]at h3<;>first|rfl|cases h3
 .rcases(h4 y hy).2.1 with q|q
  .exact T7 z q
  .exact q
 .rcases(h4 y hy).2.2 with q|q
  .exact T7 z q
  .exact q.1
 .rcases(h4 y hy).2.2 with q|q
  .exact T7 z q
  .exact q.2
end Gn
namespace Sd
open PySem PySem.Spec PyProof.Rows L2
def Fly(h:cw)(e T C:aE):Prop:=
 ∃(oe:fD)(vs:Array au)(a0:au)(oT:fD)(ts:Array au),h.get? e=aa oe/\(oe.cls=.ref C/\vs[0]?=aa a0)/\oe.data=.fields vs/\vs[1]?=aa (.ref T)/\T≠e/\h.get? T=aa oT/\oT.data=.fields ts/\ts[3]?=aa .none
def CX1(P:bB)(w:bS):CXT:=λouter H s E e s'=>
 ∃(a T C:aE)(H':Hp),e=.ref a/\s'.os=s.os/\i4 s'.gens/\Un (frs outer) [] H H' s.heap s'.heap/\HOk P w H' s'.heap/\Fly s'.heap a T C/\s.heap.get? a=af/\s.heap.get? T=af/\H' a=af/\H' T=af/\E (.ref C) af H'
def Yl.there(x:Yl P w H h a o):∃u,h.get? a=aa u:=by
 cases o with|lst xs=>obtain⟨_,_,_,_,e⟩:=x;exact#[_,e]|tup xs=>obtain⟨_,_,_,_,e,_⟩:=x;exact#[_,e]|dK kvs=>obtain⟨_,_,_,_,o,_,_,e,_⟩:=x;exact#[_,e]|dT kvs=>obtain⟨_,_,_,_,o,_,_,e,_⟩:=x;exact#[_,e]|own y=>obtain⟨_,e⟩:=x;exact#[_,e]|frz ob u=>obtain⟨e,_⟩:=x;exact#[_,e]|tbl ps=>exact#[_,(x)]
theorem FunFrames.rebase{h h' base base':cw}:∀{l:List Env},h.FunFrames base l->(∀b∈frs l,∀o,h.get? b=aa o->∃sl,h'.get? b=aa {o with slots:=sl})->(∀b∈frs l,base'.get? b=af)->h'.FunFrames base' l
 |[],_,_,_=>trivial
 |env::l,#[hk,#[L,o,hf,hn,ho,hd],hr],k,n=>by
  have hm:L∈frs (env::l):=by unfold frs;rw[cC,hf];exact aj ..
  obtain⟨sl,e⟩:=k L hm o ho;refine#[hk,#[L,_,hf,n L hm,e,hd],FunFrames.rebase hr (λb hb=>k b ?_) λb hb=>n b ?_]
  all_goals unfold frs at hb ⊢;rw[cC,hf];exact ao _ hb
structure DefX(X:Cx)(E:XK):Prop where
 xe:X.xe=λe s'=>ba (aV X.prog X.w) X.A (leaving X.env e) (λ_ s''=>CX1 X.prog X.w X.outer X.H₀ X.s₀ E e s'') (λe' s''=>CX1 X.prog X.w X.outer X.H₀ X.s₀ E e' s'') s'
 st:X.stack=X.env::X.outer
 fr:X.env.frame=aa X.env.locals
 ex:X.ex=[]
section
variable{X:Cx}{E:XK}{pq:List (aE×fD)}{Z:L2.St}{H H':Hp}{s s':ay}
def Inv.outside(D:DefX X E)(I:Inv X pq Z H s)(un:Un (frs X.stack) [] H H' s.heap s'.heap)(hos:s'.os=s.os)(bare:i4 s'.gens)(hok:HOk X.prog X.w H' s'.heap)(na:s.heap.get? a=af)(Ha:H' a=af)
   (hh:∀b∈hid,b∈frs X.stack\/(s.heap.get? b=af/\H' b=af))(st:(fc s'.heap hid).StaysIn h')(up:s'.heap.UpToSlots h')(fl:Fly h' a T C)(hT:(fc s'.heap hid).get? T=af)(hE:E (.ref C) af H') :
  CX1 X.prog X.w X.outer X.H₀ X.s₀ E (.ref a) {s' with heap:=h' }:=by
 have U1:=I.base;rw[D.ex]at U1;have sub:∀b∈frs X.outer,b∈frs X.stack:=λb hb=>by
  rw[D.st];unfold frs at hb ⊢;rw[cC,D.fr];exact ao _ hb
 have own:∀b o,X.s₀.heap.get? b=aa o->b∈frs X.stack->b∈frs X.outer:=λb o e hb=>by
  rw[D.st]at hb;unfold frs at hb ⊢;rw[cC,D.fr]at hb;rcases aB.mp hb with z|z
  .exact T7 (aT e) (by rw[z];exact l0 I.ok.above)
  .exact z
 have nx:∀b:aE,b∉([]:List aE):=λb=>by simp
 have frN:∀b∈frs X.stack,H' b=af:=λb hb=>by
  obtain⟨_,o,ho,_⟩:=I.stack.mem hb;exact un.free b o ho (I.stkFree b hb)<|nx b
 have hidN:∀b∈hid,H' b=af:=λb hb=>by
  rcases hh b hb with z|z
  .exact frN b z
  .exact z.2
 have old:∀b o,s.heap.get? b=aa o->b∉frs X.stack->b∉hid:=λb o e hb hm=>by
  rcases hh b hm with z|z
  .exact hb z
  .rw[e]at z;cases z.1
 have keep:=λb u e n=>st b u<|gN _ e n
 have nof:∀b∈frs X.stack,∀o,s'.heap.get? b=aa o->∀vs,o.data≠.fields vs:=λb hb o e=>by
  obtain⟨_,o1,ho,hd⟩:=I.stack.mem hb;obtain⟨sl,e1⟩:=un.any ho (I.stkFree b hb)<|nx b;rw[e]at e1;cases e1;exact hd
 have frS:=λb hb o e=>up b o e<|nof b hb o e
 have trk:∀b u,H' b=aa u->b∉hid:=λb u e hm=>by rw[hidN b hm]at e;cases e
 have hT2:∀o,s'.heap.get? T=aa o->H' T=af/\s.heap.get? T=af\/False:=λo e=>by
  by_cases hm:T∈hid
  .rcases hh T hm with z|z
   .obtain⟨oe,vs,a0,oT,ts,_,_,_,_,_,g1,g2,_⟩:=fl
    obtain⟨sl,e2⟩:=frS T z o e;rw[g1]at e2;cases e2;exact T7 g2<|nof T z o e ts
   .exact .inl #[z.2,z.1]
  .rw[gN _ e hm]at hT;cases hT
 have there:∀b o,X.s₀.heap.get? b=aa o->∃o',s'.heap.get? b=aa o':=λb o e=>by
  obtain⟨o1,e1⟩:=U1.there b o e<|nx b;exact un.there b o1 e1<|nx b
 refine#[a,T,C,H',rfl,hos.trans I.os,bare,#[λb o e n hb _=>?_,λb o e n hb _=>?_,λb o e n _=>?_,λb o e _=>?_,λb xs e=>un.tups b xs<|U1.tups b xs e,λb o u e=>un.frzs b o u<|U1.frzs b o u e,λb ps e=>?_],λc o e=>?_,fl,?_,?_,Ha,?_,hE]
 .have e1:=U1.keep b o e n hb (nx b)
  have hn:b∉frs X.stack:=λz=>hb<|own b o e z
  exact keep b o (un.keep b o e1 (U1.free b o e n<|nx b) hn<|nx b)<|old b o e1 hn
 .obtain⟨sl,e1⟩:=U1.slot b o e n hb (nx b)
  obtain⟨sl2,e2⟩:=un.slot b _ e1 (U1.free b o e n<|nx b) (sub b hb)<|nx b;obtain⟨sl3,e3⟩:=frS b (sub b hb) _ e2;exact#[sl3,e3]
 .obtain⟨o1,e1⟩:=U1.there b o e (nx b)
  exact un.free b o1 e1 (U1.free b o e n<|nx b)<|nx b
 .obtain⟨o1,e1⟩:=U1.there b o e (nx b)
  obtain⟨o2,e2⟩:=un.there b o1 e1<|nx b;by_cases hm:b∈frs X.stack
  .obtain⟨sl,e3⟩:=frS b hm o2 e2
   exact#[_,e3]
  .exact#[o2,keep b o2 e2<|old b o1 e1 hm]
 .obtain⟨m1,e1⟩:=U1.tbls b ps e
  obtain⟨m2,e2⟩:=un.tbls b _ e1;exact#[m1++m2,by rw[e2,nK]]
 .refine(hok c o e).stay (λb u hb q=>?_) (λ_ q=>q) λ_ _ q=>q
  rcases hb with rfl|hb
  .exact keep _ u q<|trk _ _ e
  .exact keep _ u q<|trk _ _ hb
 .cases q:X.s₀.heap.get? a with
  |none=>rfl
  |some o=>
   obtain⟨o1,e1⟩:=U1.there a o q<|nx a;rw[na]at e1;cases e1
 .cases q:X.s₀.heap.get? T with
  |none=>rfl
  |some o=>
   obtain⟨o1,e1⟩:=U1.there T o q<|nx T;obtain⟨o2,e2⟩:=un.there T o1 e1<|nx T;rcases hT2 o2 e2 with z|z
   .rw[e1]at z;cases z.2
   .exact z.elim
 .cases q:H' T with
  |none=>rfl
  |some u=>
   obtain⟨o,e⟩:=Yl.there<|hok T u q;rcases hT2 o e with z|z
   .rw[q]at z;cases z.1
   .exact z.elim
def Zd0(D:DefX X E):UZ (CX1 X.prog X.w) X E:=by
 rintro pq Z H s e s' I ⟨a,T,C,H',rfl,os,bare,un,hok,fly,na,nT,Ha,HT,hE⟩
 rw[D.xe];have nx:∀b:aE,b∉([]:List aE):=λb=>by simp
 have hfr:X.A.frames=aa (X.env::X.outer):=by rw[<-D.st];exact I.ok.frames
 let hid:=frs X.stack++[a,T]
 have hin:∀b∈frs X.stack,b∈hid:=λb hb=>dE _ hb
 have FF:s'.heap.FunFrames (fc s'.heap hid) (X.env::X.outer):=by
  rw[<-D.st];exact FunFrames.rebase I.stack (λb hb o e=>un.any e (I.stkFree b hb)<|nx b) λb hb=>da _<|hin b hb
 obtain⟨oe,vs,a0,oT,ts,f1,f2,f3,f4,f5,f6,f7,f8⟩:=fly;refine wpAny_leaves_onW hfr D.fr #[λb o e=>gY _ e,da _<|bv _<|aj ..,FF,oe,vs,T,oT,ts,f1,f2,f3,f4,da _<|bv _<|ao _<|aj ..,f5,f6,f7,f8] λh' fl' up=>?_
 obtain⟨g1,_,_,oe',vs',T',oT',ts',e1,e2,e3,e4,e5,e6,e7,e8,e9⟩:=fl';refine Inv.outside D I un os bare hok na Ha (λb hb=>?_) g1 up #[oe',vs',a0,oT',ts',e1,e2,e3,e4,e6,e7,e8,e9] e5 hE
 rcases bD.mp hb with z|z
 .exact .inl z
 .rcases aB.mp z with rfl|z
  .exact .inr #[na,Ha]
  .rw[aK.mp z];exact .inr #[nT,HT]
end
open Ev (E Sm Fn Bop Cop Ty Bf Mf)
noncomputable abbrev veM:List au:=[.type "ValueError",.type "Exception",.type "BaseException",.type "object"]
structure Cls1(h:cw)(S C:aE):Prop where
 ob:∃bm N nm q bs hdct sn sub ab col dd k0 k1 k2 k3 k5 mN,h.get? C=aa (excClassObj nm q C N bs bm hdct sn sub ab col dd k0 k1 k2 k3 k5 "ValueError.__new__")/\h.Ns N mN/\mN "__init__" = af/\OwnTail h veM bm
section
variable{X:Cx}{E:XK}{S C:aE}{x:bi}{np cpos pos:fV}{e:Expr}{es:List Expr}{t:TA}
def Zet(C:aE)(E:XK)(t:TA):TS:=λ_ Z H=>t Z H λvs H'=>vs.length<=bn/\E (.ref C) af H'
def yZ(D:DefX X E)(hc:X.calm=ak)(O:Cls1 X.base S C)(hg:Gl X x)(hm:X.mg x=aa (.ref C))(ha:PA X (e::es) t)(hd:(x == ("__debug__" : bi))=al)
  (he:aA (e::es) X.env=(al,cr e X.env)::aA es X.env)(hpl:(dq cpos<|aA es X.env).any (·.1)=al) :
  PS X (.Raise (aa<|.Call (.Name x np) (e::es) [] cpos) af pos) (Zet C E t):=by
 intro pq s Z H Dn I h;obtain⟨bm,N,nm,q,bs,hdct,sn,sub,ab,col,dd,k0,k1,k2,k3,k5,mN,hC,hN,hi,tl⟩:=O.ob;refine wpAny_Raise_call_subT (C:=C) (nm:=nm) (q:=q) (N:=N) (bs:=bs) (hdct:=hdct) (sn:=sn) (sub:=sub) (ab:=ab) (col:=col) (dd:=dd) (k0:=k0) (k1:=k1) (k2:=k2) (k3:=k3) (k5:=k5)
  PySem.F.excBase_ValueError (mN:=mN) (tl.hasType PySem.F.excBase_ValueError.hasBase) (I.ok.hd hc) (by rw[he];show(al||(dq cpos<|aA es X.env).any (·.1))=al;rw[hpl];rfl) hi (Vm I hg hm #[rfl,?_] hd)
 have ha':=ha cpos pq s Z H _ I h;rw[he]at ha' ⊢;refine Calls.evalArgs_plain<|cR ha' (λus s2 #[vs,H2,I2,r2,hl,hE]=>#[rfl,by rw[<-r2.length];exact hl,I2.bk _ _ hC,hN.keeps I2.bk,tl.keeps I2.bk,λh' a hx=>?_]) λ_ _ y=>y
 rw[D.xe];have hfr:X.A.frames=aa (X.env::X.outer):=by rw[<-D.st];exact I2.ok.frames
 let hid:=frs X.stack
 have FF:s2.heap.FunFrames (fc s2.heap hid) (X.env::X.outer):=by
  rw[<-D.st];exact FunFrames.rebase I2.stack (λb hb o e=>#[o.slots,e]) λb hb=>da _ hb
 have nx:∀b:aE,b∉([]:List aE):=λb=>by simp
 refine wpAny_leaves_madeW hfr D.fr (λb o e=>gY _ e) FF hx λh2 t fl _ _ up=>?_
 obtain⟨g1,_,_,oe,vs',T,oT,ts,e1,e2,e3,e4,e5,e6,e7,e8,e9⟩:=fl;have na:=hx.new;have Ha:H2 a=af:=by
  cases q:H2 a with
  |none=>rfl
  |some u=>
   obtain⟨o,e⟩:=Yl.there<|I2.hok a u q;rw[na]at e;cases e
 exact Inv.outside (s':=s2) (H':=H2) D I2 (Un.kept λb o e=>e) rfl I2.bare I2.hok na Ha (λb hb=>.inl hb) g1
  ((cw.UpToSlots.of_keeps hx.keeps).trans up) (T:=T) #[oe,vs',.ref t,oT,ts,e1,e2,e3,e4,e6,e7,e8,e9] e5 hE
abbrev TJ:=L2.St->Hp->(Hp->Prop)->Prop
noncomputable def tJn:TJ:=λ_ H Q=>Q H
def tJf(te:TE)(t:TJ):TJ:=λZ H Q=>te Z H λx H1=>∃i:Int,x=.int i/\Ev.Yh i=ak/\t Z H1 Q
def PJ(X:Cx)(es:List Expr)(m:Nat)(t:TJ):Prop:=
 ∀(out:bi)(pq:List (aE×fD))(s:ay)(Z:L2.St)(H:Hp)(Q:Hp->Prop),L2.Inv X pq Z H s->out.length+m<=bn->t Z H Q->
  ba (aV X.prog X.w) X.A (joinParts out<|evalEach es X.env) (λu s'=>∃y H',L2.Inv X pq Z H' s'/\Zz (.str y) u/\Q H') X.xe s
theorem Zd8:PJ X [] 0 tJn:=λout pq s Z H Q I hl h=>joinParts_nil #[out,H,I.tok _,#[_,rfl],h] (by lia)
theorem ZgA{m:Nat}{y:bi}{j:Nat}{pos:fV}(hr:PJ X es m tj):PJ X (.Constant (.str y) j pos::es) (y.length+m) tj:=λout pq s Z H Q I hl h=>by
 refine joinParts_cons<|Calls.Constant_str ?_;have hz:(out++y).length=out.length+y.length:=strLen_append _ _;exact#[by lia,hr (out++y) pq _ Z H Q (I.tok _) (by lia) h]
theorem uT{i:Int}(h:Ev.Yh i=ak):i.natAbs.log2<63:=by
 have:=T6 h;by_cases hz:i.natAbs=0
 .rw[hz];decide
 .exact(pI hz).mpr (by lia)
theorem ZgE{m:Nat}{pos:fV}{te:TE}(he:PE X e te)(hr:PJ X es m tj):PJ X (.FormattedValue e (-1) af pos::es) (64+m) (tJf te tj):=λout pq s Z H Q I hl h=>by
 refine joinParts_cons<|FormattedValue_plain<|thn (he pq s Z H _ I h) λu s1 #[v,H1,I1,r,i,hv,hs,q]=>?_
 subst hv;obtain⟨tk,rfl⟩:=r;have hl63:=uT hs;refine formatField_int_small (by lia) ?_
 have hz:(iH<|toString i).length<=64:=by
  have:=int_text_length_le (by lia) hl63
  rw[PySem.ofString_length];exact this
 have hz2:(out++iH (toString i)).length=out.length+(iH<|toString i).length:=strLen_append _ _;exact#[by lia,hr _ pq _ Z H1 Q ((I1.tok _).tok _) (by lia) q]
theorem Zb1{m:Nat}{v1 v2:Expr}{rest:List Expr}{jp:fV}(h:PJ X (v1::v2::rest) m tj)(hm:m<=bn)(hs:aA [.JoinedStr (v1::v2::rest) jp] X.env=(al,cr (.JoinedStr (v1::v2::rest) jp) X.env)::aA [] X.env) :
  PA X [.JoinedStr (v1::v2::rest) jp] (λZ H Q=>tj Z H λH'=>∀y,Q [.str y] H'):=λpos pq s Z H Q I q=>by
 rw[hs];refine Calls.spliced_cons<|JoinedStr_many (pos:=jp)<|thn (h bi.empty pq s Z H _ I (by show 0+m<=_;lia) q) λu s1 #[y,H1,I1,r,q1]=>?_
 exact Calls.spliced_nil #[[.str y],H1,I1,.cons r .nil,q1 y]
end
def xwE(cl:List aE)(E:XK):Nat->Hp->Prop:=λc H=>∃C,cl[c]?=aa C/\E (.ref C) af H
def End.ex_mono{B β:Type}{K:am}{xw xw':Nat->Hp->Prop}{U:Mx}{H:Hp}{rep:Mx->Hp->B->β->Prop}{Q:β->Hp->Prop}{r:R B}(k:∀c H,xw c H->xw' c H)(h:End K xw rep U H Q r):End K xw' rep U H Q r:=by
 cases r with|ok d S=>exact h|ex c S=>exact λρ' H' f st=>k c H'<|h ρ' H' f st|no=>exact h
section
variable{X:Cx}{E:XK}{S C:aE}{x:bi}{np cpos pos jp p:fV}{e v1 v2:Expr}{es rest:List Expr}{xw:Nat->Hp->Prop}{cl:List aE}{Cc:Calls}{fr:Bool}{ns:List Nat}{n m:Nat}{is:List Ev.E}{i:Ev.E}
def jV(D:DefX X E)(hc:X.calm=ak)(O:Cls1 X.base S C)(hn:cl[n]?=aa C)(hg:Gl X x)(hm:X.mg x=aa (.ref C))(hd:(x == ("__debug__" : bi))=al)
  (he:aA [.Constant (.str y) j p] X.env=(al,cr (.Constant (.str y) j p) X.env)::aA [] X.env)(hpl:(dq cpos<|aA [] X.env).any (·.1)=al) :
  CS X (xwE cl E) fr Cc ns (.Raise (aa<|.Call (.Name x np) [.Constant (.str y) j p] [] cpos) af pos) (.raise n []):=
 PS.imp (yZ D hc O hg hm (Zx J8 Yi he) hd he hpl)<|by
  rintro Dn Z H ⟨U,H0,W,l,os,S,st,en,h⟩;refine#[by show 1<=bn;decide,?_]
  have h:=h;obtain⟨C',e1,e2⟩:=h H en.fut st;rw[hn]at e1;cases e1;exact e2
def CJ(X:Cx)(xw:Nat->Hp->Prop)(Cc:Calls)(es:List Expr)(m:Nat)(is:List Ev.E):Prop:=PJ X es m λZ H Q=>∃U l S,St3 X.K U S H/\LocR U H l Z/\End X.K xw Rq U H (λ_ H'=>Q H') (Pv.pvs Cc is l S)
def PJ.imp{t t':TJ}(h:PJ X es m t)(k:∀Z H Q,t' Z H Q->t Z H Q):PJ X es m t':=λout pq s Z H Q I hl q=>h out pq s Z H Q I hl<|k Z H Q q
def xM:CJ X xw Cc [] 0 []:=PJ.imp Zd8<|by rintro Z H Q ⟨U,l,S,st,lr,h⟩;exact h U H [] (Fut.refl _ _) st Rq.nil
def Zeu{y:bi}{j:Nat}(hr:CJ X xw Cc es m is):CJ X xw Cc (.Constant (.str y) j p::es) (y.length+m) is:=ZgA hr
def Zem(he:CE X xw Cc e i)(hr:CJ X xw Cc es m is):CJ X xw Cc (.FormattedValue e (-1) af p::es) (64+m) (.fi i::is):=
 PJ.imp (ZgE he hr)<|by
  rintro Z H Q ⟨U,l,S,st,lr,h⟩;have h:End X.K xw Rq U H (λ_ H'=>Q H') (((Pv.pv Cc i l S).bind λx S=>match x with
   |.int i=>if Ev.Yh i=ak then Pv.PR.ok (Pv.V.int i) S else .no
   |_=>.no).bind λx S=>(Pv.pvs Cc is l S).bind λxs S=>.ok (x::xs) S):=by
   have:=h;rw[Pv.pvs,Pv.pv]at this;exact this
  refine#[U,l,S,st,lr,?_];cases q:Pv.pv Cc i l S with
  |no=>rw[q]at h;exact h.elim
  |ex c S1=>rw[q]at h;exact h
  |ok d S1=>
   rw[q]at h;intro ρ1 H1 v f1 st1 r1;have h:=End.mono f1 h;cases d with
   |int k=>
    change End X.K xw Rq ρ1 H1 (λ_ H'=>Q H') ((if Ev.Yh k=ak then Pv.PR.ok (Pv.V.int k) S1 else .no).bind _)at h
    by_cases hk:Ev.Yh k=ak
    .rw[T9 hk]at h
     have e1:v=.int k:=by exact r1
     refine#[k,e1,hk,ρ1,l,S1,st1,lr.mono f1,?_];exact End.bind h λxs S2 ρ2 H2 vs f2 st2 r2 h2=>h2 ρ2 H2 (v::vs) (Fut.refl _ _) st2<|Rq.cons (Rep.mono f2 r1) r2
    .rw[T8 hk]at h
     exact h.elim
   |_=>exact h.elim
def qV(D:DefX X E)(hc:X.calm=ak)(O:Cls1 X.base S C)(hn:cl[n]?=aa C)(hj:CJ X (xwE cl E) Cc (v1::v2::rest) m is)(hml:m<=bn)(hg:Gl X x)(hm:X.mg x=aa (.ref C))(hd:(x == ("__debug__" : bi))=al)
  (he:aA [.JoinedStr (v1::v2::rest) jp] X.env=(al,cr (.JoinedStr (v1::v2::rest) jp) X.env)::aA [] X.env)(hpl:(dq cpos<|aA [] X.env).any (·.1)=al) :
  CS X (xwE cl E) fr Cc ns (.Raise (aa<|.Call (.Name x np) [.JoinedStr (v1::v2::rest) jp] [] cpos) af pos) (.raise n is):=
 PS.imp (yZ D hc O hg hm (Zb1 hj hml he) hd he hpl)<|by
  rintro Dn Z H ⟨U,H0,W,l,os,S,st,en,h⟩;refine#[U,l,S,st,en.all,?_];have h:=h
  exact ZD.bind en h λxs S1 H1 vs f1 st1 r1 h1 y=>by
   refine#[by show 1<=bn;decide,?_]
   obtain⟨C',e1,e2⟩:=h1 H1 (en.fut.trans f1) st1;rw[hn]at e1;cases e1;exact e2
def spX(K:am)(cl:List aE)(C:Calls)(fr:Bool)(n:Nat):Sp:=λvs H Q E=>∃U ds S,St3 K U S H/\Rq U H ds vs/\End K (xwE cl E) (X1 fr H) U H Q (C n ds S)
def yQ{kk:Nat}{f:aE}{fd:cM}{ps:List bi}(F:FnOk X.prog X.w X.K X.mg X.base (CX1 X.prog X.w) kk f fd ps (spX X.K cl Cc fr n))(hr:Room kk X.A)(hx:UZ (CX1 X.prog X.w) X E)(hw:∀c H,xw c H->xwE cl E c H)(hm:X.mg x=aa (.ref f))(hk:gq X.K (.ref f)=ak)(hb:VX X.K fd ps [])
  (ha:CA X xw Cc (e::es) is)(hg:Gl X x)(hdb:(x == ("__debug__" : bi))=al)(he:aA (e::es) X.env=(al,cr e X.env)::aA es X.env)(hpl:(dq pos<|aA es X.env).any (·.1)=al) :
  CE X xw Cc (.Call (.Name x p) (e::es) [] pos) (.call n is):=
 PE.imp (uh F hr hg hm hk hb .nil hx ha hdb he hpl) λZ H Q #[U,l,S,st,lr,h]=>
  #[U,l,S,st,lr,End.bind (h) λxs S1 ρ1 H1 vs f1 st1 r1 h1=>by
   rw[cQ];exact#[ρ1,xs,S1,st1,r1,(End.ex_mono hw h1).fr]]
end
section
variable{P:bB}{w:bS}{K:am}{mg:bi->Option au}{base:cw}{cl:List aE}
def yE{C C':Calls}{n:Nat}{fn:Fn}{fr:Bool}{x qual:bi}{st:eO}{f:aE}{fd:cM}{N ps:List bi}{k:Nat}(hF:∀U S H ds vs,St3 K U S H->Rq U H ds vs->C' n ds S=.no\/C' n ds S=Go C fn ds S)(hns:fn.ns=N.length)(hps:fn.ps=ps.length)(Fu:Fun K x qual st f fd)(S:FnScope N ps (Zg st))
  (hb:∀(cdv:au)(A:cx)(outer:List Env)(s:ay)(H:Hp)(E:XK),Room k (A.deeper<|dS qual (Zg st) s.heap.objs.size f cdv)->
   CSs (XX (CX1 P w) P w K mg base N qual (Zg st) f cdv A outer s H E) (xwE cl E) fr C (Pv.muts fn.body) (ZB st) fn.body) :
  FnOk P w K mg base (CX1 P w) (k+1) f fd ps (spX K cl C' fr n):=by
 have eq:∀{U S H ds vs Q E},St3 K U S H->Rq U H ds vs->End K (xwE cl E) (X1 fr H) U H Q (C' n ds S)->End K (xwE cl E) (X1 fr H) U H Q (Go C fn ds S):=λ{U S H ds vs Q E} st r h=>by
  rcases hF U S H ds vs st r with e|e
  .rw[e]at h;exact h.elim
  .rw[e]at h;exact h
 obtain⟨oc,od,kV,doc,pm,an,cdv,ct,osl,rfl,lk,hcd⟩:=Fu.ex;refine ZdG lk hcd S (λvs H Q E #[U,ds,S,st,r,h]=>?_) λA outer s H vs Q E hr #[U,ds,S',st,r,h]=>#[_,hb cdv A outer s H E hr,U,H,λ_=>af,Pv.ZN fn.ns ds,[],S',st,Eu.start st r N fn.ns hns,z5 (λ_ _ q=>q) (λ_ _ q=>q)<|eq st r h]
 have h:=eq st r h;obtain⟨hl,_⟩:=End.guard h;rw[r.length,hl,hps]
def ZaE :FnOk P w K mg base (CX1 P w) k f fd ps (spX K cl (Pv.Zl F tk 0) fr n):=
 #[λvs H Q E #[U,ds,S,st,r,h]=>False.elim h,by rintro A outer s H args us vs Q E hr e0 hb r ⟨U,ds,S,st,r',h⟩;exact False.elim h]
def uJ{N:List bi}{qual:bi}{sc:d6}{f:aE}{cdv:au}{A:cx}{outer:List Env}{s:ay}{H:Hp}{E:XK}:DefX (XX (CX1 P w) P w K mg base N qual sc f cdv A outer s H E) E:=#[rfl,rfl,rfl,rfl]
def ZfQ :UZ (CX1 X.prog X.w) X E0:=by rintro pq Z H s e s' I ⟨_,_,_,_,_,_,_,_,_,_,_,_,_,_,z⟩;exact z.elim
end
end Sd
namespace Sd
open PySem PySem.Spec PyProof.Rows L2 PySem.W
structure ExK(K:Frag)(C:aE):Prop where
 cd:(clsIn K C).isSome=ak
 ga:rP K (.ref C) "__getattribute__" = aa (aa<|.builtin "BaseException.__getattribute__")
 gx:rP K (.ref C) "__getattr__" = aa af
 gc:rP K (.ref C) "__class__" = aa (aa<|.builtin "object.__class__")
 be:mroIn K C (.type "BaseException")=aa ak
 ob:mroIn K C (.type "object")=aa ak
section
variable{prog:bB}{w:bS}{A:cx}{E:au->ay->Prop}{h:cw}{g:Array rd}{d:Drawn}{t:Nat}{os:OsState}{a C:aE}{o:fD}{K:Frag}
def ZcW{R:oV->ay->Prop}(X:K.In h)(k:ExK K C)(hx:h.get? a=aa o)(hc:o.cls=.ref C)(hq:R (.ok<|.ret<|.ref C) #[h,g,d,t,os]) :
  eJ (aV prog w) A (.call (.builtin "getset_descriptor.__get__") #[[.builtin "object.__class__",.ref a,.ref C],[]]) R #[h,g,d,t,os]:=by
 have hT5:=iQ;have L1:Looks (aV prog w) h (pA (.ref C)<|.type<|".".intercalate ("object.__class__".cutAt '.').dropLast) ak:=by
  rw[F.owner_object_class];exact looks_mroIn X k.ob
 refine kl F.slot_gs_get.plain F.entry_gs_get<|F.slot_gs_get.check _ _ _ _ _ _ _ _ hT5 (F.args_gs_get _ _ _) ?_
 repeat(any_goals (first|assumption|(with_reducible refine gn hx ?_;rw[hc])|with_reducible refine L1.at ?_|wp_step))
 refine#[Code.quiet_builtin _ (by decide +kernel),ky F.entry_object_class ?_]
 repeat(any_goals (first|assumption|(with_reducible refine gn hx ?_;rw[hc])|wp_step))
def qm{Q:Unit->ay->Prop}(X:K.In h)(k:ExK K C)(hx:h.get? a=aa o)(hc:o.cls=.ref C)(hq:Q () #[h,g,d,t,os]) :
  ba M A (checkBuiltinCall "BaseException.__getattribute__" #[[.ref a,nameV],[]]) Q E #[h,g,d,t,os]:=by
 have hk:builtinKind "BaseException.__getattribute__" = aa .slot:=by decide +kernel
 have hsplit:splitId "BaseException.__getattribute__" = aa ("BaseException","__getattribute__"):=by decide +kernel
 have L1:Looks M h (pA (.ref C)<|.type "BaseException") ak:=looks_mroIn X k.be;have ha:=F.args_bexc_ga (.ref a) nameV;simp only[checkBuiltinCall,hk,hsplit];refine ae ?_;unfold isInstance
 repeat(first|(with_reducible refine gn hx ?_;rw[hc])|with_reducible refine L1.at ?_|wp_step)
 exact hq
def uX{Q:Fin->ay->Prop}(X:K.In h)(k:ExK K C)(hx:h.get? a=aa o)(hc:o.cls=.ref C)(hq:Q (.done<|.ret<|.ref C) #[h,g,d,t,os]) :
  ba (aV prog w) A (dZ.«object.__getattribute__» #[[.ref a,.str "__class__" tk],[]]) Q E #[h,g,d,t,os]:=by
 have hT5:=iQ;have f5:=iQ;have f6:=F.slot_gs_get.lookup;have f7:=F.slot_gs_set.lookup;have L1:Looks (aV prog w) h (kQ (.ref C) "__class__") (aa<|.builtin "object.__class__"):=oH X k.gc
 repeat(any_goals (first|assumption|(with_reducible refine gn hx ?_;rw[hc])|with_reducible refine L1.at ?_|wp_step))
 refine ZcW X k hx hc ?_
 repeat(any_goals (first|assumption|wp_step))
def Ze0{Q:au->ay->Prop}(X:K.In h)(k:ExK K C)(hx:h.get? a=aa o)(hc:o.cls=.ref C)(hq:Q (.ref C) #[h,g,d,t,os]) :
  ba (aV prog w) A (getAttrBy (.ref a) (.str "__class__" tk) al) Q E #[h,g,d,t,os]:=by
 have f3:=PySem.F.excAttr_ValueError.ga.bind<|.ref a;have hx2:(i7 "BaseException.__getattribute__" == i7 "object.__getattribute__")=al:=by decide +kernel
 have hx1:(onTheHeap (de C)&&i7 "BaseException.__getattribute__" == i7 "object.__getattribute__")=al:=by rw[hx2];rfl
 have L1:Looks (aV prog w) h (kQ (.ref C) "__getattribute__") (aa<|.builtin "BaseException.__getattribute__"):=oH X k.ga;have L2:Looks (aV prog w) h (kQ (.ref C) "__getattr__") af:=oH X k.gx
 repeat(any_goals (first|assumption|(with_reducible refine gn hx ?_;rw[hc])|with_reducible refine L1.at ?_|with_reducible refine L2.at ?_|wp_step))
 refine kl PySem.F.excAttr_ValueError.ga.plain F.entry_bexc_ga<|qm X k hx hc<|uX X k hx hc ?_
 repeat(any_goals (first|assumption|wp_step))
def qc{Q:Option au->ay->Prop}(X:K.In h)(k:ExK K C)(hx:h.get? a=aa o)(hc:o.cls=.ref C)(hq:Q (aa<|.ref C) #[h,g,d,t+1,os]) :
  ba (aV prog w) A (rO (.ref a) "__class__") Q E #[h,g,d,t,os]:=by
 unfold rO getAttrBy?
 repeat(any_goals (first|assumption|with_reducible apply Ze0 X k hx hc|wp_step))
end
def ZaI{K:Frag}{a C:aE}(k:ExK K C):KitX K (.ref a) (.ref C) (λh=>∃o,h.get? a=aa o/\o.cls=.ref C) where
 ty:=λ_ _ _ #[o,hx,hc]=>hc▸(Looks.ld hx).andThen .now
 it:=λ_ _ X _=>by
  have hcD:=k.cd;unfold clsIn at hcD;split at hcD
  .rename_i c' d' cd' sl' ho
   intro A' Q' E' s' kk q;exact ae<|wpAny_loadPart (kk _ _<|X _ _ ho)<|aC q
  .cases hcD
 ne:=λh tp dd its n sl X htp=>by
  have hcD:=k.cd;refine Bool.eq_false_iff.mpr λq=>?_
  have e:=de.inj<|beq_iff_eq.mp q;subst e;unfold clsIn at hcD;split at hcD
  .rename_i c' d' cd' sl' ho
   have z:=(X _ _ ho).symm.trans htp;cases z
  .cases hcD
 ca:=λ{_ _ _ _ _ s} X #[o,hx,hc] q=>by obtain⟨h,g,d,t,os⟩:=s;exact qc X k hx hc q
end Sd
namespace Sd
open PySem PySem.Spec PyProof.Rows L2
def Inv.slots(D:DefX X E)(I:L2.Inv X pq Z H s)(hh:∀b∈hid,b∈frs X.stack\/(X.s₀.heap.get? b=af/\H b=af/\∀p∈X.pn++pq,p.1≠b))
  (st:(fc s.heap hid).StaysIn h')(up:s.heap.UpToSlots h'):L2.Inv X pq Z H {s with heap:=h' }:=by
 have keep:=λb u e n=>st b u<|gN _ e n
 have nof:∀b∈frs X.stack,∀o,s.heap.get? b=aa o->∀vs,o.data≠.fields vs:=λb hb o e=>by
  obtain⟨_,o1,ho,hd⟩:=I.stack.mem hb;rw[e]at ho;cases ho;exact hd
 have frS:=λb hb o e=>up b o e<|nof b hb o e
 have frH:=I.stkFree;have sub:∀b∈X.fs,b∈frs X.stack:=λb hb=>by
  change b∈frs X.outer at hb
  rw[D.st];unfold frs at hb ⊢;rw[cC,D.fr];exact ao _ hb
 have own:∀b o,X.s₀.heap.get? b=aa o->b∈frs X.stack->b∈X.fs:=λb o e hb=>by
  rw[D.st]at hb;show b∈frs X.outer;unfold frs at hb ⊢;rw[cC,D.fr]at hb;rcases aB.mp hb with z|z
  .exact T7 (aT e) (by rw[z];exact l0 I.ok.above)
  .exact z
 have hidN:∀b∈hid,H b=af:=λb hb=>(hh b hb).elim (frH b) λz=>z.2.1
 have old:∀b o,X.s₀.heap.get? b=aa o->b∉X.fs->b∉hid:=λb o e hb hm=>by
  rcases hh b hm with z|z
  .exact hb<|own b o e z
  .rw[e]at z;cases z.1
 have U:=I.base;refine#[I.ok,I.os,I.bare,#[λb o e n hb hx=>keep b o (U.keep b o e n hb hx)<|old b o e hb,λb o e n hb hx=>?_,U.free,λb o e hx=>?_,U.tups,U.frzs,U.tbls],?_,λy c e=>?_,I.free,I.freeC,λp hp=>?_,λc o e=>?_,I.len]
 .obtain⟨sl,e1⟩:=U.slot b o e n hb hx
  obtain⟨sl2,e2⟩:=frS b (sub b hb) _ e1;exact#[sl2,e2]
 .obtain⟨o1,e1⟩:=U.there b o e hx
  by_cases hm:b∈frs X.stack
  .obtain⟨sl,e2⟩:=frS b hm o1 e1
   exact#[_,e2]
  .refine#[o1,keep b o1 e1 λz=>?_]
   rcases hh b z with q|q
   .exact hm q
   .rw[e]at q;cases q.1
 .obtain⟨m,hn,hl⟩:=I.loc
  refine#[m,up.ns hn,λi x v e1 e2 e3=>?_]
  obtain⟨u,r,q⟩:=hl i x v e1 e2 e3;refine#[u,r,?_];rcases q with q|⟨k,c,e,z⟩
  .exact .inl q
  .refine .inr #[k,c,e,?_]
   obtain⟨o,ho,hd⟩:=z;obtain⟨sl,e2⟩:=up c o ho λvs q=>by rw[hd]at q;cases q
   exact#[_,e2,hd]
 .obtain⟨v,o,ho,hd⟩:=I.cell y c e
  obtain⟨sl,e2⟩:=up c o ho λvs q=>by rw[hd]at q;cases q
  exact#[v,_,e2,hd]
 .obtain⟨e,n,ne,nf,d⟩:=I.pin p hp
  refine#[keep _ _ e λz=>?_,n,ne,nf,d]
  rcases hh p.1 z with q|q
  .rw[D.st]at q;unfold frs at q;rw[cC,D.fr]at q
   rcases aB.mp q with q|q
   .exact ne q
   .exact nf q
  .exact q.2.2 p hp rfl
 .refine(I.hok c o e).stay (λb u hb q=>?_) (λ_ q=>q) λ_ _ q=>q
  have nh:∀b u,H b=aa u->b∉hid:=λb u e hm=>by rw[hidN b hm]at e;cases e
  rcases hb with rfl|hb
  .exact keep _ u q<|nh _ _ e
  .exact keep _ u q<|nh _ _ hb
def Inv.freeze(I:L2.Inv X pq Z H s)(ha:s.heap.get? a=aa o)(Ha:H a=af)(n0:X.s₀.heap.get? a=af)(hl:a≠X.env.locals)(hc:∀x c,X.env.cells.lookup x=aa c->c≠a)(hp:∀p∈X.pn++pq,p.1≠a) :
  L2.Inv X pq Z (upd H a<|.frz o<|.own a) s:=by
 have nu:∀b u,H b=aa u->upd H a (.frz o<|.own a) b=aa u:=λb u e=>by rw[Zj λz=>by rw[z,Ha]at e;cases e];exact e
 have nn:∀b,b≠a->H b=af->upd H a (.frz o<|.own a) b=af:=λb z e=>by rw[Zj z];exact e
 have U:=I.base;refine#[I.ok,I.os,I.bare,#[U.keep,U.slot,λb o e n hx=>nn b (λz=>by rw[z,n0]at e;cases e)<|U.free b o e n hx,U.there,λb xs e=>nu _ _<|U.tups b xs e,λb o u e=>nu _ _<|U.frzs b o u e,λb ps e=>?_],I.loc,I.cell,nn _ (Ne.symm hl) I.free,λx c e=>nn _ (hc x c e)<|I.freeC x c e,λp hp'=>?_,λc u e=>?_,I.len]
 .obtain⟨more,e1⟩:=U.tbls b ps e
  exact#[more,nu _ _ e1]
 .obtain⟨e,n,r⟩:=I.pin p hp'
  exact#[e,nn _ (hp p hp') n,r]
 .by_cases z:c=a
  .subst z
   rw[Zn]at e;cases e;exact#[ha,_,ha]
  .rw[Zj z]at e
   exact(I.hok c u e).stay (λb v hb q=>q) (λ_ q=>nu _ _ q) λ_ _ q=>nu _ _ q
def ZbV{E:au->ay->Prop}{Q:Unit->ay->Prop}(I:L2.Inv X pq Z H s)(hN:X.N.Nodup)(hi:X.N[i]?=aa n)(hk:X.env.kindOf n=aa .local)
  (h:∀s',L2.Inv X pq (Z.set i af) H s'->Q () s'):ba M A (do bindName X.env n .none;unbindBehindTheSuite X.env n pos) Q E s:=by
 obtain⟨m,hn,hl⟩:=id I.loc;have hcls:(X.env.scope.kind == .class||(X.env.scope.kind == .module&&X.env.locals != X.env.globals))=al:=by rw[I.ok.kind];rfl
 have hiσ:i<Z.length:=by rw[I.len];exact(aF.mp hi).1
 refine wpAny_nameGoes_keeps hk hn hcls λh' v hn' hs=>?_
 obtain⟨oL,_,_,hoL,_⟩:=id hn;have ab:∀b o,X.s₀.heap.get? b=aa o->b≠X.env.locals:=λb o e=>bp<|bt (aT e) I.ok.above
 have U:=I.base;refine h _ #[I.ok,I.os,I.bare,#[λb o e n hb hx=>(hs.2 b<|ab b o e).trans<|U.keep b o e n hb hx,λb o e n hb hx=>?_,U.free,λb o e hx=>?_,U.tups,U.frzs,U.tbls],#[_,hn',λj y v' e1 e2 e3=>?_],λy c e=>?_,I.free,I.freeC,λp hp=>?_,λc o e=>?_,by simpa using I.len]
 .obtain⟨sl,e1⟩:=U.slot b o e n hb hx
  exact#[sl,(hs.2 b<|ab b o e).trans e1]
 .obtain⟨o',e1⟩:=U.there b o e hx
  exact#[o',(hs.2 b<|ab b o e).trans e1]
 .by_cases hj:j=i
  .subst hj
   rw[bc hiσ]at e2;cases e2
  .rw[aZ<|Ne.symm hj]at e2
   obtain⟨u',r',q⟩:=hl j y v' e1 e2 e3;refine#[u',r',?_];rcases q with⟨k,e⟩|⟨k,c,e,z⟩
   .refine .inl #[k,?_]
    have:y≠n:=λe=>hj<|QG hN e1<|e▸hi
    simp[this,e]
   .exact .inr #[k,c,e,z.sameBut hs<|I.cne y c e]
 .obtain⟨w',z⟩:=I.cell y c e
  exact#[w',z.sameBut hs<|I.cne y c e]
 .obtain⟨e,n,ne,nf,d⟩:=I.pin p hp
  exact#[(hs.2 p.1 ne).trans e,n,ne,nf,d]
 .refine(I.hok c o e).stay (λb u hb q=>(hs.2 b λz=>?_).trans q) (λ_ q=>q) λ_ _ q=>q
  subst z;rcases hb with rfl|hb
  .rw[I.free]at e;cases e
  .rw[I.free]at hb;cases hb
noncomputable abbrev Cx.held(X:Cx)(a:aE):Cx:={X with A:=X.A.mark<|aa<|.ref a,calm:=al,xe:=λ_ _=>False}
theorem Inv.held(I:L2.Inv X pq Z H s):L2.Inv (Cx.held X a) pq Z H s:=
 #[#[I.ok.mod,I.ok.kind,I.ok.glob,I.ok.blt,I.ok.above,I.ok.inj,I.ok.has,I.ok.cab,(λz=>by cases z),I.ok.frames,I.ok.stk,I.ok.exf,I.ok.bs,I.ok.bsz,I.ok.noex,I.ok.exfs,I.ok.funs,I.ok.frf],I.os,I.bare,I.base,I.loc,I.cell,I.free,I.freeC,I.pin,I.hok,I.len]
def Inv.unheld(ok:X.Ok)(I:L2.Inv (Cx.held X a) pq Z H s):L2.Inv X pq Z H s:=
 #[ok,I.os,I.bare,I.base,I.loc,I.cell,I.free,I.freeC,I.pin,I.hok,I.len]
def ZeL{M:Model}{A:cx}{E:au->ay->Prop}{i:Nat}{x:bi}{pos:fV}{v:V}{Q:au->ay->Prop}(I:L2.Inv X pq Z H s)(hi:X.N[i]?=aa x)(hv:Vis X.env.scope x)(e:Z[i]?=aa (aa v))(h:∀u,Zz v u->Q u s)
  (hd:(x == ("__debug__" : bi))=al)(hcd:(x == ("__classdict__" : bi))=al):ba M A (cr (.Name x pos) X.env) Q E s:=by
 obtain⟨m,hn,hl⟩:=I.loc;obtain⟨u,r,l⟩:=hl i x v hi e hv;rcases l with⟨hk,hm⟩|⟨hk,c,hc,hcell⟩
 .exact kM (i9 I.ok.kind hk hn hm<|h u r) hd
 .rcases hk with hk|hk
  .exact kM (kB I.ok.kind hk hc hcell<|h u r) hd
  .exact kM (nj I.ok.kind hk hc hcell (h u r) hcd) hd
def Zck{Dn:Ends}{E1:XK}{g S:aE}{ic ie ir:Nat}{xc n xr xS:bi}{p1 p2 p3 p4 p5 p6 p7 p8 p9:fV}(D:DefX X E)(I:L2.Inv X pq Z H s)(hN:X.N.Nodup)
  (hic:X.N[ic]?=aa xc)(hvc:Vis X.env.scope xc)(hsc:Z[ic]?=aa (aa<|.ref g))(hie:X.N[ie]?=aa n)(hke:X.env.scope.names.lookup n=aa .local)(hir:X.N[ir]?=aa xr)(hlr:X.env.scope.names.lookup xr=aa .local)
  (hgS:Gl X xS)(hmS:X.mg xS=aa (.ref S))(hg:PySem.W.FnAt g s.heap)
  (run:eJ (aV X.prog X.w) X.A (.call (.ref g) #[[],[]]) (CR (CX1 X.prog X.w) X.stack X.prog X.w H s (λ_ H'=>Dn.nx Z H') E1) s)
  (hE1:∀C H',E1 (.ref C) af H'->rQ X.K (.ref C) (.ref S)=aa ak/\∀a oe,H' a=af->oe.cls=.ref C->Dn.nx (((Z.set ie<|aa<|.ref a).set ir<|aa<|.ref a).set ie af) (upd H' a<|.frz oe<|.own a))
  (hd1:(xc == ("__debug__" : bi))=al)(hd2:(xc == ("__classdict__" : bi))=al)(hd3:(n == ("__debug__" : bi))=al)(hd4:(n == ("__classdict__" : bi))=al)(hd5:(xS == ("__debug__" : bi))=al)
  (hs1:eQ (.Call (.Name xc p1) [] [] p2) af p3.line X.env=cS al)(hs2:eQ (.Name n p6) (aa<|.Name xr p5) p7.line X.env=cS al) :
  ba (aV X.prog X.w) X.A (exec (.Try [.Expr (.Call (.Name xc p1) [] [] p2) p3] [.ExceptHandler (aa<|.Name xS p4) (aa n) [.Assign [.Name xr p5] (.Name n p6) p7] p8] [] [] p9) X.env) (SP X pq Dn) X.xe s:=by
 refine wpAny_Try_except<|gz<|wpAny_Expr_any ?_ I.quiet hs1;refine eU ?_;refine ZeL I hic hvc hsc (λu r=>?_) hd1 hd2
 obtain rfl:u=de g:=r;refine PySem.W.callWith_F0 hg<|rh<|kH run λr s' hq=>?_
 cases r with
 |ok fl=>
  cases fl with
  |ret u=>
   obtain⟨v,H',I',r',q'⟩:=I.after hq;exact fS<|fS #[Z,H',I',q']
  |next=>exact False.elim hq
  |brk=>exact False.elim hq
  |cont=>exact False.elim hq
 |error e=>
  obtain⟨a,T,C,H',rfl,os,bare,un,hok,fly,na,nT,Ha,HT,hE⟩:=hq;obtain⟨exm,fin⟩:=hE1 C H' hE;have nx:∀b:aE,b∉([]:List aE):=λb=>by simp
  have hfr:X.A.frames=aa (X.env::X.outer):=by rw[<-D.st];exact I.ok.frames
  have I1:L2.Inv X pq Z H' s':=by
   obtain⟨hh,gg,d,t,os'⟩:=s';obtain rfl:os'=s.os:=os;exact I.call (h':=hh) (g':=gg) (d':=d) (t':=t) (ch:=[]) un hok bare (λb z=>T7 z<|by simp)
  let hid:=frs X.stack++[a,T]
  have hin:∀b∈frs X.stack,b∈hid:=λb hb=>dE _ hb
  have old0:∀b,s.heap.get? b=af->X.s₀.heap.get? b=af:=λb e=>by
   cases q:X.s₀.heap.get? b with
   |none=>rfl
   |some o=>
    have U1:=I.base;rw[D.ex]at U1;obtain⟨o1,e1⟩:=U1.there b o q<|nx b;rw[e]at e1;cases e1
  have pn:∀b,s.heap.get? b=af->∀p∈X.pn++pq,p.1≠b:=λb e p hp z=>by
   have:=(I.pin p hp).1;rw[z,e]at this;cases this
  have hhid:∀b∈hid,b∈frs X.stack\/(X.s₀.heap.get? b=af/\H' b=af/\∀p∈X.pn++pq,p.1≠b):=λb hb=>by
   rcases bD.mp hb with z|z
   .exact .inl z
   .rcases aB.mp z with rfl|z
    .exact .inr #[old0 _ na,Ha,pn _ na]
    .rw[aK.mp z];exact .inr #[old0 _ nT,HT,pn _ nT]
  have FF:s'.heap.FunFrames (fc s'.heap hid) (X.env::X.outer):=by
   rw[<-D.st];exact FunFrames.rebase I1.stack (λb hb o e=>#[o.slots,e]) λb hb=>da _<|hin b hb
  obtain⟨oe,vs,a0,oT,ts,f1,f2,f3,f4,f5,f6,f7,f8⟩:=fly;refine wpAny_looks_onW hfr D.fr (cls:=.ref C) (a0:=a0) (e:=a) #[λb o e=>gY _ e,da _<|bv _<|aj ..,FF,oe,vs,T,oT,ts,f1,f2,f3,f4,da _<|bv _<|ao _<|aj ..,f5,f6,f7,f8] λh1 held up1=>?_
  refine wpAny_landsW held λh2 fly2 up2=>?_
  have I2:=Inv.slots D I1 hhid fly2.1<|up1.trans up2
  obtain⟨oe2,ge2,ce2⟩:=fly2.there;have K2:=I2.kIn;refine wpAny_handleBy_cons (codeAny_handlers_test<|Vm (X:=Cx.held X a) (Inv.held I2) hgS hmS ?_ hd5) (by intro q;cases q)
  refine(PySem.W.exm_one (h:=h2) K2 (ce2▸(PySem.W.Looks.ld ge2).andThen .now) exm).here ?_;refine codeAny_handlers_suite_as ?_;obtain⟨k1,k2,k3,k4⟩:=fly2;refine wpAny_setFlight_noneW k1 k3 k4 λh3 m1 m2 m3 m4=>?_
  have I3:=Inv.slots D I1 hhid m1<|(up1.trans up2).trans λb o e hn=>#[o.slots,m4 b o e hn]
  obtain⟨oe3,vs3,T3,oT3,ts3,ge3,⟨ce3,_⟩,de3,_⟩:=m3;have I4:=Inv.freeze I3 ge3 Ha (old0 _ na)
   (λz=>by
    obtain⟨m,⟨o,es,ep,ho,hd,_⟩,_⟩:=I3.loc;have e1:=ho;rw[<-z,ge3]at e1;cases e1;rw[de3]at hd;cases hd)
   (λx c e z=>by
    obtain⟨v,o,ho,hd⟩:=I3.cell x c e;have e1:h3.get? c=aa o:=ho;rw[z,ge3]at e1;cases e1;rw[de3]at hd;cases hd) (pn _ na)
  refine W3 (X:=X) I4 hN hie (.inl hke) (v:=.ref a) rfl (λs4 I5=>?_)<|.inr hke
  have hiσ:ie<Z.length:=by rw[I.len];exact(aF.mp hie).1
  refine cR ((W0<|VH (X:=Cx.held X a) (pos:=p7) (pos':=p5) hN hir (.inl hlr) (Yq (pos:=p6) hie (.inl hke) hd3 hd4) hs2<|.inr hlr) pq s4 _ _
   {nx:=λσ' H1=>σ'=(Z.set ie<|aa<|.ref a).set ir (aa<|.ref a)/\H1=upd H' a (.frz oe3<|.own a),rt:=λ_ _=>False} (Inv.held I5) #[.ref a,bc hiσ,rfl,rfl]) (λf s5 hsp=>?_) λ_ _ z=>False.elim z
  cases f with
  |next=>
   obtain⟨σ',H1,J,rfl,rfl⟩:=hsp;exact ZbV (Inv.unheld I.ok J) hN hie hke λs6 I6=>#[_,_,I6,fin a oe3 Ha ce3]
  |ret u=>obtain⟨_,_,_,_,_,z⟩:=hsp;exact z.elim
  |brk=>obtain⟨_,_,_,z⟩:=hsp;exact False.elim z
  |cont=>obtain⟨_,_,_,z⟩:=hsp;exact False.elim z
open Ev (E Sm Fn Bop Cop Ty Bf Mf)
structure Gr(H H':Hp):Prop where
 k:∀b u,H b=aa u->(∀ps,u≠.tbl ps)->H' b=aa u
 t:∀b ps,H b=aa (.tbl ps)->∃qs,H' b=aa (.tbl qs)
def Gr.fut(g:Gr H H'):Fut U H U H':=#[rfl,λa o e=>by
 cases o with
 |tbl ps=>exact .inr<|.inr #[#[ps,rfl],g.t a ps e]
 |_=>exact .inl<|g.k a _ e λps z=>by cases z]
def St3.grow{K:am}{U:Mx}{S:Zs}{H H':Hp}(st:St3 K U S H)(g:Gr H H')(tb:Tb H'):St3 K U S H':=
 #[st.hk,λa x=>by
  obtain⟨o,e⟩:=kS.mp<|st.xd a x;rcases(g.fut).keep a o e with q|⟨h,_⟩|⟨_,_,q⟩
  .rw[q];intro z;cases z
  .rw[g.k a _ (st.dw a h).1 λps z=>by cases z];intro z;cases z
  .rw[q];exact Option.some_ne_none _,λa h=>#[g.k a _ (st.dw a h).1 λps z=>(by cases z),(st.dw a h).2],tb]
def wG(l:List au)(h:oY l)(e:kL q (l++[fM a,fM b,c])=aa cv):kL q l=aa cv\/cv=c:=by
 fun_induction oY l with
 |case1=>
  simp only[fj,kL,fM]at e;split at e
  .cases e;exact .inr rfl
  .cases e
 |case2 a' t b' u x rest ih=>
  simp only[o7,kL]at e ⊢;split at e
  .rename_i z;rw[T9 z];exact .inl e
  .rename_i z;rw[T8 z];exact ih h e
 |case3 l h1 h2=>exact h.elim
section
variable{X:Cx}{E:au->ay->Prop}{pq:List (aE×fD)}{Z:L2.St}{H:Hp}{s:ay}
theorem Inv.grow(I:L2.Inv X pq Z H s){h':cw}{tk:rW}{P:aE}{ps more:Array au}(hP:H P=aa (.tbl ps))(hx:gv P s.heap h')(hT:h'.get? P=aa {cls:=.none,data:=.fields (ps++more)}){new:List (aE×fD)}
  (hn:∀p∈new,s.heap.objs.size<=p.1/\h'.get? p.1=aa p.2)(nd:(new.map (·.1)).Nodup) :
  let H':=new.foldl (λG p=>upd G p.1<|.frz p.2<|.own p.1)<|upd H P<|.tbl<|ps++more
  L2.Inv X pq Z H' {s with heap:=h',toks:=tk}/\Gr H H'/\(∀p∈new,H' p.1=aa (.frz p.2<|.own p.1))/\H' P=aa (.tbl<|ps++more)/\∀b qs,H' b=aa (.tbl qs)->(b=P/\qs=ps++more)\/H b=aa (.tbl qs):=by
 intro H';have hPs:=Yl.lt<|I.hok P _ hP;have H0:∀b,(∀p∈new,p.1≠b)->H' b=upd H P (.tbl<|ps++more) b:=by
  have gen:∀(l:List (aE×fD))(G:Hp)(b:aE),(∀p∈l,p.1≠b)->l.foldl (λG p=>upd G p.1<|.frz p.2<|.own p.1) G b=G b:=by
   intro l
   induction l with
   |nil=>intro G b _;rfl
   |cons p l ih=>
    intro G b h;rw[dB,ih _ b λq hq=>h q<|ao _ hq,Zj<|Ne.symm<|h p<|aj ..]
  exact λb h=>gen new _ b h
 have H1:∀p∈new,H' p.1=aa (.frz p.2<|.own p.1):=by
  have gen:∀(l:List (aE×fD))(G:Hp),(l.map (·.1)).Nodup->∀p∈l,l.foldl (λG p=>upd G p.1<|.frz p.2<|.own p.1) G p.1=aa (.frz p.2<|.own p.1):=by
   intro l
   induction l with
   |nil=>intro G _ p hp;simp at hp
   |cons q l ih=>
    intro G hd p hp;rw[aY,cY]at hd;rw[dB];rcases aB.mp hp with rfl|hp
    .have rest:∀(l:List (aE×fD))(G:Hp)(b:aE),b∉l.map (·.1)->l.foldl (λG p=>upd G p.1<|.frz p.2<|.own p.1) G b=G b:=by
      intro l
      induction l with
      |nil=>intro G b _;rfl
      |cons p l ih=>
       intro G b h;rw[aY,aB,not_or]at h;rw[dB,ih _ b h.2,Zj h.1]
     rw[rest l _ _ hd.1,Zn]
    .exact ih _ hd.2 p hp
  exact gen new _ nd
 have new0:∀b,b<s.heap.objs.size->∀p∈new,p.1≠b:=λb hb p hp z=>by have q:=(hn p hp).1;rw[z]at q;lia
 have old:∀b u,H b=aa u->b≠P->H' b=aa u:=λb u e z=>by
  rw[H0 b<|new0 b<|Yl.lt<|I.hok b u e,Zj z];exact e
 have HP:H' P=aa (.tbl<|ps++more):=by rw[H0 P<|new0 P hPs,Zn]
 have cases':∀b u,H' b=aa u->(∃p∈new,p.1=b/\u=.frz p.2 (.own p.1))\/(b=P/\u=.tbl (ps++more))\/(b≠P/\H b=aa u):=λb u e=>by
  by_cases q:∃p∈new,p.1=b
  .obtain⟨p,hp,rfl⟩:=q
   rw[H1 p hp]at e;cases e;exact .inl #[p,hp,rfl,rfl]
  .rw[H0 b λp hp z=>q #[p,hp,z]]at e
   by_cases z:b=P
   .subst z;rw[Zn]at e;cases e;exact .inr<|.inl #[rfl,rfl]
   .rw[Zj z]at e;exact .inr<|.inr #[z,e]
 have gr:Gr H H':=#[λb u e n=>old b u e λz=>(by rw[z,hP]at e;cases e;exact n ps rfl),λb qs e=>by
  by_cases z:b=P
  .subst z;exact#[_,HP]
  .exact#[qs,old b _ e z]]
 refine#[I.un #[λb o e n _ _=>hx b o (λz=>by rw[z,hP]at n;cases n) e,λb o e n _ _=>#[o.slots,hx b o (λz=>by rw[z,hP]at n;cases n) e],λb o e n _=>?_,λb o e _=>?_,λb xs e=>gr.k b _ e (λps z=>by cases z),λb o u e=>gr.k b _ e (λps z=>by cases z),λb qs e=>?_] λb u e=>?_,gr,H1,HP,λb qs e=>?_]
 .rw[H0 b<|new0 b<|aT e,Zj λz=>by rw[z,hP]at n;cases n];exact n
 .by_cases z:b=P
  .subst z;exact#[_,hT]
  .exact#[o,hx b o z e]
 .by_cases z:b=P
  .subst z;rw[hP]at e;cases e;exact#[more,HP]
  .exact#[#[],by rw[old b _ e z];simp]
 .rcases cases' b u e with⟨p,hp,rfl,rfl⟩|⟨rfl,rfl⟩|⟨z,e0⟩
  .exact#[(hn p hp).2,_,(hn p hp).2]
  .exact hT
  .refine(I.hok b u e0).stay (λc v hc q=>hx c v ?_ q) (λc q=>gr.k c _ q λps z=>by cases z) λc xs q=>gr.k c _ q λps z=>by cases z
   rcases hc with rfl|hc
   .exact z
   .intro y;rw[y,hP]at hc;cases hc
 .rcases cases' b _ e with⟨p,hp,rfl,z⟩|⟨rfl,z⟩|⟨z,e0⟩
  .cases z
  .cases z;exact .inl #[rfl,rfl]
  .exact .inr e0
def Tb.grow(tb:Tb H)(g:Gr H H')(hb:∀b rs,H' b=aa (.tbl rs)->(b=P/\rs=qs)\/H b=aa (.tbl rs))(ht:oY qs.toList)
  (hc:∀pos cv,kL pos qs.toList=aa cv->∃(c:aE)(oc:fD)(vs:Array au)(t:rW),cv=.ref c/\H' c=aa (.frz oc<|.own c)/\oc.data=.fields vs/\vs[1]?=aa (.str YU t)):Tb H':=λb rs e=>by
 rcases hb b rs e with⟨_,rfl⟩|e0
 .exact#[ht,hc]
 .obtain⟨h1,h2⟩:=tb b rs e0
  refine#[h1,λpos cv q=>?_]
  obtain⟨c,oc,vs,t,e1,e2,e3⟩:=h2 pos cv q;exact#[c,oc,vs,t,e1,g.k c _ e2 (λps z=>by cases z),e3]
def ZbM{P c:aE}{ps:Array au}{params:oW}{body:Expr}{scope:d6}{pos:fV}{clos:List (bi×aE)}{Q:au->ay->Prop}(I:L2.Inv X pq Z H s)(tb:Tb H)(hP:H P=aa (.tbl ps))(hcode:X.env.code=.ref c)(C:dy X.base c P)(hB:X.base.BuiltinsAt X.mg P)(hgP:bG≠P)
  (hq:X.env.qual++"<lambda>" = YU)(hcl:iU scope X.env=cS clos)(hdef:defaultsOf params X.env=([],[]))
  (h:∀(g c':aE)(oc:fD)(vs:Array au)(t:rW)(pm ctv:au)(H':Hp)(s':ay),L2.Inv X pq Z H' s'->Gr H H'->Tb H'->(∃ps',H' P=aa (.tbl ps'))->H' g=aa (.frz (fU "<lambda>" YU params body scope clos pm c' ctv)<|.own g)->
   H' c'=aa (.frz oc<|.own c')->oc.data=.fields vs->vs[1]?=aa (.str YU t)->Q (.ref g) s') :
  ba (aV X.prog X.w) X.A (cr (.Lambda params body scope pos) X.env) Q E s:=by
 refine PySem.W.kla_eval hdef ?_;rw[hq];have hPo:=I.hok P _ hP;obtain⟨ht,hcs⟩:=tb P ps hP;have hg:=I.ok.mod.glob.keeps I.bk;have hBs:s.heap.BuiltinsAt X.mg P:=by
  obtain⟨bm,o,b1,b2,b3,b4,b5,b6⟩:=hB;exact#[bm,o,b1,b2,b3,b4,I.bk _ _ b5,b6]
 cases q:kL pos ps.toList with
 |some cv=>
  obtain⟨c',oc,vs,t,rfl,e2,e3,e4⟩:=hcs pos cv q;refine PySem.W.kla_makeFunctionHit hcl I.ok.glob hg hcode (C.keeps I.bk) hPo ht q hBs λctv h' tk hk hz=>?_
  have kp:∀b o,s.heap.get? b=aa o->(h'.push<|fU "<lambda>" YU params body scope clos ((X.mg "__name__").getD .none) c' ctv).get? b=aa o:=λb o e=>aw _<|hk b o e
  obtain⟨I',gr,n1,hP',tbs⟩:=Inv.grow I hP (λb o _ e=>kp b o e) (by rw[lg];exact kp _ _ hPo)
   (new:=[(h'.objs.size,fU "<lambda>" YU params body scope clos ((X.mg "__name__").getD .none) c' ctv)]) (λp hp=>by
    rw[aK.mp hp];exact#[hz,aO _ rfl]) (by simp)
  refine h _ c' oc vs t _ ctv _ _ I' gr (tb.grow gr tbs (by rw[lg];exact ht) λpos' cv' q'=>?_) #[_,hP'] (n1 _<|aj ..) (gr.k _ _ e2 λps z=>by cases z) e3 e4
  rw[lg]at q';obtain⟨c2,oc2,vs2,t2,f1,f2,f3⟩:=hcs pos' cv' q';exact#[c2,oc2,vs2,t2,f1,gr.k _ _ f2 (λps z=>by cases z),f3]
 |none=>
  refine PySem.W.kla_makeFunction hcl I.ok.glob hg hcode (C.keeps I.bk) hPo ht q hgP hBs λc' ctv h' tk hx hge hlt hrec htb=>?_
  obtain⟨c2,oc,vs,t,e2,hoc,hd,hv⟩:=hrec;cases e2;have kp:gv P s.heap (h'.push<|fU "<lambda>" YU params body scope clos ((X.mg "__name__").getD .none) c' ctv):=λb o hb e=>aw _<|hx b o hb e
  have hsz:=bX hge<|kG hlt;obtain⟨I',gr,n1,hP',tbs⟩:=Inv.grow (tk:=tk) I hP kp (aw _ htb)
   (new:=[(c',oc),(h'.objs.size,fU "<lambda>" YU params body scope clos ((X.mg "__name__").getD .none) c' ctv)]) (λp hp=>by
    rcases aB.mp hp with rfl|hp
    .exact#[hge,aw _ hoc]
    .rw[aK.mp hp];exact#[hsz,aO _ rfl]) (cY.mpr #[λz=>T7 (aK.mp z)<|bp hlt,cY.mpr #[by simp,rR]])
  refine h _ c' oc vs t _ ctv _ _ I' gr (tb.grow gr tbs (by rw[ck];exact TriplesOk_snoc _ _ _ _ ht) λpos' cv' q'=>?_) #[_,hP'] (n1 _<|ao _<|aj ..) (n1 _<|aj ..) hd hv
  rw[ck]at q';rcases wG _ ht q' with z|rfl
  .obtain⟨c2,oc2,vs2,t2,f1,f2,f3⟩:=hcs pos' cv' z
   exact#[c2,oc2,vs2,t2,f1,gr.k _ _ f2 (λps z=>by cases z),f3]
  .exact#[c',oc,vs,t,rfl,n1 _<|aj ..,hd,hv]
end
end Sd
namespace Sd
open PySem PySem.Spec PyProof.Rows L2
def cxL(P:bB)(w:bS)(K:am)(mg:bi->Option au)(base:cw)(N:List bi)(scope:d6)(g:aE)(cd:au)(clos:List (bi×aE))(A:cx)(outer:List Env)(s:ay)(H:Hp)(E:XK):Cx where
 prog:=P
 w:=w
 K:=K
 mg:=mg
 base:=base
 A:=A.deeper<|fQ YU scope s.heap.objs.size g cd clos
 N:=N
 s₀:=s
 H₀:=H
 env:=fQ YU scope s.heap.objs.size g cd clos
 outer:=outer
 stack:=fQ YU scope s.heap.objs.size g cd clos::outer
 ex:=[]
 calm:=ak
 fn:=λ_=>al
 pn:=[]
 xe:=λe s'=>ba (aV P w) (A.deeper<|fQ YU scope s.heap.objs.size g cd clos) (leaving (fQ YU scope s.heap.objs.size g cd clos) e) (λ_ s''=>CX1 P w outer H s E e s'') (λe' s''=>CX1 P w outer H s E e' s'') s'
section
variable{P:bB}{w:bS}{K:am}{mg:bi->Option au}{base:cw}{N:List bi}{scope:d6}{g c':aE}{clos:List (bi×aE)}{A:cx}{outer:List Env}{s:ay}{H:Hp}{E:XK}
def Zgt :DefX (cxL P w K mg base N scope g cd clos A outer s H E) E:=#[rfl,rfl,rfl,rfl]
structure LamS(scope:d6)(clos:List (bi×aE)):Prop where
 kind:scope.kind=.function
 co:scope.isCoroutine=al
 gen:scope.isGenerator=al
 nc:∀x∈scope.names,x.2≠.cell
 vis:∀x,Vis scope x->scope.names.lookup x=aa .free
 has:∀x,scope.names.lookup x=aa .free->∃c,clos.lookup x=aa c
 inj:∀x y c,clos.lookup x=aa c->clos.lookup y=aa c->x=y
def j4(hr:Room (k+1) A)(e0:Env0 P w K mg base A outer s H)(L:LamS scope clos)
  (hg:s.heap.get? g=aa (fU "<lambda>" YU params body scope clos pm c' ctv))(hcd:s.heap.CodeRec (.ref c') YU)(hbind:mR (rS "<lambda>" YU params body scope clos pm (.ref c') ctv) #[[],[]]=cS [])
  (hcell:∀x c,clos.lookup x=aa c->(∃v,s.heap.IsCell c v)/\H c=af)(hlen:Z.length=N.length)
  (hval:∀(i:Nat)(x:bi)(v:V),N[i]?=aa x->Z[i]?=aa (aa v)->scope.names.lookup x=aa .free->∃u c,Zz v u/\clos.lookup x=aa c/\s.heap.IsCell c (aa u))
  (hb:PE (cxL P w K mg base N scope g (.ref c') clos A outer s H E) body t)(ht:t Z H Q) :
  eJ (aV P w) A (.call (.ref g) #[[],[]]) (CR (CX1 P w) outer P w H s Q E) s:=by
 have lim:=e0.mod.nolimit.keeps λb o e=>(e0.bs b o e).1
 refine PySem.W.kla_callFunE hr.depth hg rfl L.co L.gen rfl hcd ?_;rw[hbind];refine aC<|mT L.nc (λx hx=>by simp at hx) (λh1 hns hsb=>?_) L.kind
 have hk1:=λb o e=>hsb.extBut b o (bp<|aT e)<|aw _ e
 refine#[lim.keeps hk1,?_];have noA:∀b:aE,b∉(cxL P w K mg base N scope g (.ref c') clos A outer s H E).ex:=λb z=>T7 (show b∈([]:List aE)from z) (by simp)
 have I:L2.Inv (cxL P w K mg base N scope g (.ref c') clos A outer s H E) [] Z H {s with heap:=h1,toks:=s.toks+([]:List (bi×au)).length}:=by
  refine#[#[e0.mod,L.kind,rfl,rfl,aJ _,L.inj,λx hx=>?_,λx c z=>(by cases z),λ_=>hr.hd,mS e0.frames,.inr #[rfl,rfl],λb z=>T7 z<|noA b,e0.bs,e0.bsz,λb _ _=>noA b,λb z=>T7 z<|noA b,e0.funs,e0.frf],
   rfl,e0.bare,Un.kept hk1,#[_,hns,λi x v e1 e2 e3=>?_],λx c e=>?_,e0.hok.fresh<|aJ _,λx c e=>(hcell x c e).2,λp hp=>T7 (show p∈([]:List (aE×fD))from hp) (by simp),e0.hok.kept hk1,hlen]
  .have hx:=hx
   rcases hx with z|z
   .exact T7 rfl<|L.nc _<|dM z
   .exact L.has x z
  .have fr:=L.vis x e3
   obtain⟨u,c,r,e,z⟩:=hval i x v e1 e2 fr;refine#[u,r,.inr #[.inr fr,c,e,?_]];obtain⟨o,ho,hd⟩:=z;exact#[o,hk1 _ _ ho,hd]
  .obtain⟨⟨v,o,ho,hd⟩,_⟩:=hcell x c e
   exact#[v,o,hk1 _ _ ho,hd]
 exact PySem.W.kla_codeExpr<|cR (hb [] _ Z H Q I ht) (by rintro u s' ⟨v,H',J,r,q⟩;exact #[v,H',J.os,J.bare,J.base,J.hok,r,q]) λ_ _ y=>y
end
def Zfu(K:am):List V->Hp->VK->Prop:=λvs H Q=>∃a oe C Dv u b,vs=[.ref a,Dv]/\Zz Dv u/\(∀u',Zz Dv u'->u'=u)/\H a=aa (.frz oe<|.own a)/\oe.cls=.ref C/\ExK K C/\gp K (.ref C) u=aa b/\Q (.bl b) H
def z7:ZG X (.builtin "isinstance") (Zfu X.K):=by
 intro pq s Z H xs us Q I r h;obtain⟨a,oe,C,Dv,u,b,rfl,ru,uq,Ha,ce,k,e,q⟩:=h;cases r with
 |cons ra r=>
  cases r with
  |cons rD r=>
   cases r;cases ra;obtain rfl:=uq _ rD;obtain⟨ge,_⟩:=I.hok a _ Ha;exact dA (ZaI k) I.kIn #[oe,ge,ce] e (by intro q;cases q) λtk=>#[.bl b,H,I.tok tk,rfl,q]
def GY:V->List V->Hp->VK->Prop:=λx vs H Q=>∃(l:aE)(bs:List Bool)(j:Nat),x=.ref l/\vs=[.bl ak]/\H l=aa (.lst<|bs.map .bl)/\bs[j]?=aa ak/\(∀m,m<j->bs[m]?=aa al)/\Q (.int j) H
theorem vY:∀{bs:List Bool}{us:List au},Vals (bs.map V.bl) us->us=bs.map bN
 |[],_,.nil=>rfl
 |b::bs,_,.cons r t=>by cases r;rw[vY t];rfl
def yA:MtM X "list.index" GY:=by
 intro pq s Z H x vs v us Q I rx rv h;obtain⟨l,bs,j,rfl,rfl,hH,hj,hno,q⟩:=h;cases rx;obtain⟨u,rfl,ru⟩:=rv.one;cases ru;obtain⟨z,its,n,r,hl,e⟩:=I.lstM hH;obtain rfl:=vY r;have hjl:=(aF.mp hj).1;have hsz:(bs.map bN).toArray.size=bs.length:=by simp
 have get:∀m (hm:m<(bs.map bN).toArray.size),(bs.map bN).toArray[m]=bN (bs[m]'(by rw[hsz]at hm;exact hm)):=λm hm=>by simp
 refine gu F.slot_list_index #[_,e,rfl] F.entry_list_index (F.args_list_index_2 _ _) (PySem.SeqAt.list_indexAt l (bs.map bN).toArray n af #[] (.bool ak) (λy=>y == .bool ak) j (by rw[hsz];exact hjl) (by
  rw[ax]at z;have:bn=16777216:=rfl;lia) (by rw[get];rw[(aF.mp hj).2];rfl) λm hm hmj=>by
   rw[get];have:=aF.mp<|hno m hmj;rw[this.2];rfl) #[e,λy hy=>?_,?_]
 .obtain⟨b,_,rfl⟩:=aR.mp (List.mem_toArray.mp hy)
  cases b
  .exact lh al ak
  .exact lh ak ak
 .exact#[.int j,H,I.tok _,#[_,rfl],q]
def ZfC{CX:CXT}{P:bB}{w:bS}{K:am}{mg:bi->Option au}{base:cw}{k:Nat}{f:aE}{x qual:bi}{st:eO}{fd:cM}{N ps:List bi}{A:cx}{outer:List Env}{s:ay}{H:Hp}{args:Args}{us:List au}{vs:List V}{Q:VK}{E:XK}
  (Fu:Fun K x qual st f fd)(S:FnScope N ps (Zg st))(hr:Room (k+1) A)(e0:Env0 P w K mg base A outer s H)(hb:m8 s fd args (ps.zip us))(r:Vals vs us)(hl:vs.length=ps.length)
  (hbody:∀(cdv:au)(s1:ay),Room k (A.deeper<|dS qual (Zg st) s.heap.objs.size f cdv)->L2.Inv (XX CX P w K mg base N qual (Zg st) f cdv A outer s H E) [] (start N vs) H s1->
   ba (aV P w) (A.deeper<|dS qual (Zg st) s.heap.objs.size f cdv) (execs (ZB st)<|dS qual (Zg st) s.heap.objs.size f cdv) (SP (XX CX P w K mg base N qual (Zg st) f cdv A outer s H E) [] {nx:=λ_ H'=>Q .non H',rt:=Q}) (XX CX P w K mg base N qual (Zg st) f cdv A outer s H E).xe s1) :
  eJ (aV P w) A (.call (.ref f) args) (CR CX outer P w H s Q E) s:=by
 obtain⟨oc,od,kV,doc,pm,an,cdv,ct,osl,rfl,lk,hcd⟩:=Fu.ex;have KX:=e0.mod.kin.keeps λb o e=>(e0.bs b o e).1
 have lim:=e0.mod.nolimit.keeps λb o e=>(e0.bs b o e).1
 have hkind:∀y∈ps.zip us,(Zg st).names.lookup y.1=aa .local\/((Zg st).names.lookup y.1=aa .cell/\((iR (s.heap.objs.size+1) (Zg st).names []).lookup y.1).isSome=ak):=by
  rintro ⟨n,v⟩ hy;rcases S.par n (fT hy).1 with q|q
  .exact .inl q
  .exact .inr #[q,iq _ _ _<|.inl q]
 refine mI hr.depth (KX _ _ lk) rfl S.co S.gen rfl (nS KX hcd)<|hb _ _ _ _ ?_;refine kO S.kind hkind λenv he s1 x=>?_
 subst he;refine#[lim.keeps x.toInCall.keep,codeAny_func ?_];have I:=JF (CX:=CX) (E:=E) S hr.hd e0 hl r x;refine cR (hbody cdv s1 (hr.deeper _) I) (λfl s' hs=>?_) λe s' hs=>hs
 cases fl with
 |ret u=>
  obtain⟨v,σ',H',J,rv,q⟩:=hs;exact#[v,H',J.os,J.bare,J.base,J.hok,rv,q]
 |next=>
  obtain⟨σ',H',J,q⟩:=hs;exact#[.non,H',J.os,J.bare,J.base,J.hok,rfl,q]
 |brk=>
  obtain⟨_,_,_,q⟩:=hs;exact False.elim q
 |cont=>
  obtain⟨_,_,_,q⟩:=hs;exact False.elim q
def vB(Pt:aE)(H:Hp):Prop:=H Pt=aa (.tbl #[])/\∀b,b≠Pt->H b=af\/∃o xs,H b=aa (.frz o<|.lst xs)
def qJ{P:bB}{w:bS}{K:am}{mg mb:bi->Option au}{CX:CXT}{k:Nat}{fa a c Pt:aE}{fd:cM}{x:bi}{sp:Sp}{s₁:ay}{vs:List au}{ns:List Int}
  (KX:K.In s₁.heap)(hns:s₁.heap.Ns bG mg)(hb:s₁.heap.Ns rc mb)(hbb:∀x:bi,x≠"__name__"->mb x=dg x)(hlim:s₁.heap.NoLimit)(hg:s₁.gens = #[])
  (hC:dy s₁.heap c Pt)(hPt:s₁.heap.get? Pt=aa (rT #[]))(hK:mZ K=ak)(hB:s₁.heap.BuiltinsAt mg Pt)
  (ha:s₁.heap.get? a=aa {cls:=.type "list",data:=.seq vs.toArray})(hi:pW vs ns)(hl:ns.length<=bn)(hr:Room k ng)
  (F:∀base:cw,K.In base->base.Ns bG mg->dy base c Pt->base.BuiltinsAt mg Pt->bG≠Pt->FnOk P w K mg base CX k fa fd [x] sp)(hbind:∀(s:ay)(u:au),m8 s fd #[[u],[]] [(x,u)])
  (hsp:∀H:Hp,vB Pt H->SqL K H a (ns.map V.int)->sp [.ref a] H (λv _=>v=.bl ak) λ_ _ _=>False)
  (hCX:∀H e s',CX [] H s₁ (λ_ _ _=>False) e s'->False) :
  eJ (aV P w) ng (.call (.ref fa) #[[.ref a],[]]) (λr s'=>r=.ok (.ret<|.bool ak)/\OldK s₁.heap s'.heap/\s'.os=s₁.os/\i4 s'.gens) s₁:=by
 have rv:=Jy hi;have lenV:=hi.length;have hPa:Pt≠a:=λz=>by rw[z,ha]at hPt;cases hPt
 have hKP:K.lookup Pt=af:=by
  cases q:K.lookup Pt with
  |none=>rfl
  |some o=>
   have e:=KX Pt o q;rw[hPt]at e;cases e;have h2:=aX.mp hK (Pt,rT #[])<|PySem.W.mem_of_lookupK q;exact T7 (show al=ak from h2) aN
 have core:∀H:Hp,vB Pt H->SqL K H a (ns.map V.int)->HOk P w H s₁.heap->(∀b,H b≠af->b=a\/b=Pt)->(H a≠af->K.lookup a=af)->
   eJ (aV P w) ng (.call (.ref fa) #[[.ref a],[]]) (λr s'=>r=.ok (.ret<|.bool ak)/\OldK s₁.heap s'.heap/\s'.os=s₁.os/\i4 s'.gens) s₁:=by
  intro H hO hS hok hA hK;have base_of:∀{b:aE}{o:fD},s₁.heap.get? b=aa o->H b=af->(QS s₁.heap H).get? b=aa o:=λe n=>Zbd e n
  have noT:∀{b:aE}{o:fD},s₁.heap.get? b=aa o->b≠a->b≠Pt->H b=af:=λ{b o} e z1 z2=>by
   cases q:H b with|none=>rfl|some u=>exact((hA b<|by rw[q];simp).elim z1 z2).elim
  have noA:∀{b:aE}{o:fD}{es:Array iV}{ep:Nat},s₁.heap.get? b=aa o->o.data=.dict es ep->H b=af:=λ{b o es ep} e d=>
   noT e (λz=>by subst z;rw[ha]at e;cases e;cases d) λz=>by subst z;rw[hPt]at e;cases e;cases d
  have nsK:∀{b:aE}{m:bi->Option au},s₁.heap.Ns b m->(QS s₁.heap H).Ns b m:=λ{b m} #[o,es,ep,e,d,r]=>#[o,es,ep,base_of e<|noA e d,d,r]
  have hKb:=λb o e=>base_of (KX b o e) (by
   cases q:H b with
   |none=>rfl
   |some u=>
    rcases hA b (by rw[q];simp)with z|z
    .subst z;rw[hK<|by rw[q];simp]at e;cases e
    .subst z;rw[hKP]at e;cases e)
  have hM:Mod K mg (QS s₁.heap H):=#[hKb,nsK hns,#[mb,nsK hb,hbb],let #[mc,h1,h2]:=hlim;#[mc,nsK h1,h2]];have e0:Env0 P w K mg (QS s₁.heap H) ng [] s₁ H:=#[rfl,hM,λb o e=>Zde e,oD<|qd _ _,trivial,λb hb=>T7 (show b∈([]:List aE)from hb) (by simp),hok,.of_eq hg]
  have hCb:dy (QS s₁.heap H) c Pt:=by
   obtain⟨o,vs',file,tf,flags,tg,inF,text,tt,e1,r1,r⟩:=hC;refine#[o,vs',file,tf,flags,tg,inF,text,tt,base_of e1<|noT e1 (λz=>?_) λz=>?_,r1,r]
   .subst z;rw[ha]at e1;cases e1;exact T7 (rV r1) (by decide)
   .subst z;rw[hPt]at e1;cases e1;cases r1
  have hBb:(QS s₁.heap H).BuiltinsAt mg Pt:=by
   obtain⟨bm,o,b1,b2,b3,b4,b5,b6,b7,b8⟩:=hB;refine#[bm,o,b1,b2,b3,b4,base_of b5<|noT b5 (λz=>?_) b4,b6,b7,b8]
   subst z;rw[ha]at b5;cases b5;exact T7 (rV b6) (by decide)
  have hgP:bG≠Pt:=λz=>by
   obtain⟨o,es,ep,e,d,_⟩:=hns;rw[z,hPt]at e;cases e;cases d
  refine kH ((F _ hKb (nsK hns) hCb hBb hgP).run ng [] s₁ H #[[.ref a],[]] [.ref a] [.ref a] _ _ hr e0 (hbind s₁<|.ref a) (.cons rfl .nil)<|hsp H hO hS) λr s' h=>?_
  cases r with
  |error e=>exact(hCX H e s' h).elim
  |ok fl=>
   cases fl with
   |next=>exact False.elim h
   |brk=>exact False.elim h
   |cont=>exact False.elim h
   |ret u=>
    obtain⟨v,H',os,bare,un,hok',r',q⟩:=h;have q':v=.bl ak:=q;subst q';obtain rfl:u=bN ak:=r';have keep:=λb o z e=>by
     cases q:H b with
     |none=>exact un.keep b o e q (by intro z;exact T7 (show b∈([]:List aE)from z)<|by simp) (by simp)
     |some u=>
      rcases hO.2 b z with z|⟨ob,xs,z⟩
      .rw[q]at z;cases z
      .have z2:=un.frzs b ob _ z
       obtain⟨e1,_⟩:=hok b _ z;obtain⟨e2,_⟩:=hok' b _ z2;rw[e]at e1;cases e1;exact e2
    obtain⟨more,hm⟩:=un.tbls Pt #[] hO.1;have hT':=hok' Pt _ hm;refine#[rfl,#[λb o e=>?_,λb o e=>?_],os,bare]
    .by_cases z:b=Pt
     .subst z
      rw[hPt]at e;cases e;exact .inr<|.inl #[(hC.tab hPt).isCodeTable,rfl,#[],more,rfl,hT']
     .exact .inl<|keep b o z e
    .by_cases z:b=Pt
     .subst z;exact#[_,hT']
     .exact#[o,keep b o z e]
 have tbOk:=hPt
 cases hk:K.lookup a with
 |some o=>
  have e:=KX a o hk;rw[ha]at e;cases e;refine core (upd (λ_=>af) Pt<|.tbl #[]) #[Zn,λb z=>.inl<|Zj z] (.inr #[_,vs.toArray,_,hk,rfl,rfl,rfl,by rw[az,lenV];exact hl,by simpa using rv]) (λb u z=>?_) (λb z=>?_) λz=>T7 (Zj<|Ne.symm hPa) z
  .by_cases q:b=Pt
   .subst q;rw[Zn]at z;cases z;exact hPt
   .rw[Zj q]at z;cases z
  .by_cases q:b=Pt
   .exact .inr q
   .exact T7 (Zj q) z
 |none=>
  refine core (upd (λb=>if b=a then aa (.frz {cls:=.type "list",data:=.seq vs.toArray}<|.lst<|ns.map V.int)else af) Pt<|.tbl #[]) #[Zn,λb z=>?_] (.inl<|.inr #[{cls:=.type "list",data:=.seq vs.toArray},by rw[Zj<|Ne.symm hPa];exact T9 rfl]) (λb u z=>?_) (λb z=>?_) λ_=>hk
  .rw[Zj z]
   by_cases hb:b=a
   .exact .inr #[_,_,T9 hb]
   .exact .inl<|T8 hb
  .by_cases q:b=Pt
   .subst q;rw[Zn]at z;cases z;exact hPt
   .rw[Zj q]at z
    by_cases hb:b=a
    .have z':=(T9 hb).symm.trans z
     cases z';subst hb;exact#[ha,by rw[ax];exact hl,vs,_,rv,ha]
    .have z':=(T8 hb).symm.trans z
     cases z'
  .by_cases q:b=Pt
   .exact .inr q
   .rw[Zj q]at z
    by_cases hb:b=a
    .exact .inl hb
    .exact T7 (T8 hb) z
def Zaz{l:mF}{n k:Nat}{q:bB}{loose:List bi}{XP:(bi->Option au)->cw->Prop}{YP:bS->cw->Prop}{d:sA}{K:Params->am}{CX:bS->CXT}{sp:bS->aE->Sp}{x:bi}{c Pt:aE}{dr:sA}
  (hn:l.most=aa n)(hn2:n<=bn)(hdf:d.params.defaults=[])(hr:Room k ng)
  (hY:∀(w:bS)(h:cw),YP w h->(K w.params).In h)(hrec:(recsOf q).find? (λe=>e.name == d.name)=aa dr)(ht:∀w:bS,sd (K w.params) d.name=aa (c,Pt))(hK:∀w:bS,mZ (K w.params)=ak)
  (F:∀(w:bS)(mg:bi->Option au)(fa:aE)(h:cw),(K w.params).In h->h.Ns bG mg->mg d.name=aa (.ref fa)->
   ∃fd:cM,(∀(s:ay)(u:au),m8 s fd #[[u],[]] [(x,u)])/\
    ∀base:cw,(K w.params).In base->base.Ns bG mg->dy base c Pt->base.BuiltinsAt mg Pt->bG≠Pt->FnOk l.prog w (K w.params) mg base (CX w) k fa fd [x] (sp w Pt))
  (hsp:∀(w:bS)(H:Hp)(a:aE)(ns:List Int),ns.length<=n->vB Pt H->SqL (K w.params) H a (ns.map V.int)->sp w Pt [.ref a] H (λv _=>v=.bl ak) λ_ _ _=>False)
  (hCX:∀(w:bS)(H:Hp)(s:ay)(e:au)(s':ay),CX w [] H s (λ_ _ _=>False) e s'->False) :
  sf q loose XP YP l.row.toRowW d [] (λf vs=>rm f vs):=by
 refine Att.zM hn hdf λw s₀ s₁ mg mb fa o pm cd doc a vs ns G Y ho hd hcd hmg hobj hints hlen hg=>?_
 have KX:=hY w _ Y;obtain⟨fd,hb,hF⟩:=F w mg fa _ KX G.T.g hmg;obtain⟨hC,hPt⟩:=PySem.W.tab_of G.T KX hrec<|ht w;obtain⟨bm,ob,b1,b2,b3,b4,b5,b6⟩:=G.T.bmain;have hbP:bm≠Pt:=λz=>by rw[z,hPt]at b3;cases b3;cases b4
 have hbG:bm≠bG:=λz=>by
  obtain⟨o,es,ep,e,hd,_⟩:=G.T.g;rw[z,e]at b3;cases b3;rw[hd]at b6;cases b6
 exact qJ KX G.T.g G.T.b G.T.builtins G.T.nolimit hg hC hPt (hK w) #[bm,ob,b1,b2,hbG,hbP,b3,b4,b5,b6] hobj hints (bX hlen hn2) hr hF hb (λH hO hS=>hsp w H a ns hlen hO hS) λH e s'=>hCX w H s₁ e s'
open Ev (E Sm Fn Bop Cop Ty Bf Mf)
noncomputable def YF:List bi:=["SpaceError","NoRow","NoPart","NoNumber","NoHeads","NotBeside","NotIn","NoTurn","NoLot","TooMany","BadNote"]
structure Errs(K:am)(mg:bi->Option au)(cl:List aE):Prop where
 len:cl.length=11
 nm:∀(j:Nat)(C:aE)(x:bi),cl[j]?=aa C->YF[j]?=aa x->mg x=aa (.ref C)
 exk:∀(j:Nat)(C:aE),cl[j+1]?=aa C->ExK K C
 one:∀(i j:Nat)(C D:aE),cl[i+1]?=aa C->cl[j+1]?=aa D->gp K (.ref C) (.ref D)=aa (ag<|i=j)
 ve:∀(i:Nat)(C:aE),cl[i+1]?=aa C->gp K (.ref C) (.type "ValueError")=aa ak
 exm:∀(i:Nat)(C S:aE),cl[i+1]?=aa C->cl[0]?=aa S->rQ K (.ref C) (.ref S)=aa ak
def tIs(K:am)(ir:Nat)(Dv:V):TE:=tCB (Zfu K)<|YS (GF ir)<|YS (tC Dv) GM
structure ErAt(K:am)(cl:List aE)(ir c:Nat)(Z:L2.St)(H:Hp):Prop where
 ex:∃a oe C,Z[ir]?=aa (aa<|.ref a)/\H a=aa (.frz oe<|.own a)/\oe.cls=.ref C/\cl[c+1]?=aa C
theorem ErAt.upd{K:am}{c:Nat}{q:aE}{o:HO}(e:ErAt K cl ir c Z H)(hq:H q=af):ErAt K cl ir c Z (L2.upd H q o):=by
 obtain⟨a,oe,C,h1,h2,h3⟩:=e.ex;exact#[a,oe,C,h1,by rw[Zj λz=>by rw[z,hq]at h2;cases h2];exact h2,h3]
def ErAt.wr{K:am}{c:Nat}{q:aE}{xs:List V}{o:HO}(e:ErAt K cl ir c Z H)(hq:H q=aa (.lst xs)):ErAt K cl ir c Z (L2.upd H q o):=by
 obtain⟨a,oe,C,h1,h2,h3⟩:=e.ex;exact#[a,oe,C,h1,by rw[Zj λz=>by rw[z,hq]at h2;cases h2];exact h2,h3]
theorem ErAt.set{K:am}{c j:Nat}{v:V}(e:ErAt K cl ir c Z H)(hj:ir≠j):ErAt K cl ir c (Z.set j<|aa v) H:=by
 obtain⟨a,oe,C,h1,h2⟩:=e.ex;exact#[a,oe,C,by rw[aZ<|Ne.symm hj];exact h1,h2]
def Xl{K:am}{mg:bi->Option au}{c j:Nat}{Dj:aE}(R:Errs K mg cl)(e:ErAt K cl ir c Z H)(hj:cl[j+1]?=aa Dj)(q:Q (.bl<|ag<|c=j) H):tIs K ir (.ref Dj) Z H Q:=by
 obtain⟨a,oe,C,h1,h2,h3,h4⟩:=e.ex;exact#[.ref a,h1,a,oe,C,.ref Dj,.ref Dj,ag<|c=j,rfl,rfl,λu' r=>r,h2,h3,R.exk c C h4,R.one c j C Dj h4 hj,q]
def Zez{K:am}{mg:bi->Option au}{c:Nat}(R:Errs K mg cl)(e:ErAt K cl ir c Z H)(q:Q (.bl ak) H):tIs K ir (.ty "ValueError") Z H Q:=by
 obtain⟨a,oe,C,h1,h2,h3,h4⟩:=e.ex;exact#[.ref a,h1,a,oe,C,.ty "ValueError",.type "ValueError",ak,rfl,rfl,λu' r=>r,h2,h3,R.exk c C h4,R.ve c C h4,q]
def Zfz(hi:X.N[ir]?=aa xr)(hv:Vis X.env.scope xr)(hg0:Gl X "isinstance")(hm0:X.mg "isinstance" = af)(hg:Gl X x)(hm:X.mg x=aa (.ref Dj))(hd1:(xr == ("__debug__" : bi))=al)(hd2:(xr == ("__classdict__" : bi))=al)(hd3:(x == ("__debug__" : bi))=al)
  (hs:aA [.Name xr p1,.Name x p2] X.env=(al,cr (.Name xr p1) X.env)::aA [.Name x p2] X.env:=by rfl)(hs2:aA [.Name x p2] X.env=(al,cr (.Name x p2) X.env)::aA [] X.env:=by rfl)(hpl:(dq pos<|aA [.Name x p2] X.env).any (·.1)=al:=by rfl) :
  PE X (.Call (.Name "isinstance" p) [.Name xr p1,.Name x p2] [] pos) (tIs X.K ir<|.ref Dj):=
 Xs z7 hg0 hm0 rfl (Zx (Yq hi hv hd1 hd2) (Zx (vq hg hm rfl hd3) Yi hs2) hs) (by decide) (by decide) hs hpl
def Zd4(hi:X.N[ir]?=aa xr)(hv:Vis X.env.scope xr)(hg0:Gl X "isinstance")(hm0:X.mg "isinstance" = af)(hg:Gl X "ValueError")(hm:X.mg "ValueError" = af)(hd1:(xr == ("__debug__" : bi))=al)(hd2:(xr == ("__classdict__" : bi))=al)
  (hs:aA [.Name xr p1,.Name "ValueError" p2] X.env=(al,cr (.Name xr p1) X.env)::aA [.Name "ValueError" p2] X.env:=by rfl)(hs2:aA [.Name "ValueError" p2] X.env=(al,cr (.Name "ValueError" p2) X.env)::aA [] X.env:=by rfl)(hpl:(dq pos<|aA [.Name "ValueError" p2] X.env).any (·.1)=al:=by rfl) :
  PE X (.Call (.Name "isinstance" p) [.Name xr p1,.Name "ValueError" p2] [] pos) (tIs X.K ir<|.ty "ValueError"):=
 Xs z7 hg0 hm0 rfl (Zx (Yq hi hv hd1 hd2) (Zx (Um hg hm rfl rfl) Yi hs2) hs) (by decide) (by decide) hs hpl
def Vd(K:am)(ir is:Nat)(cl:List aE)(ts:TT)(rb:TE)(fin:TS):TS:=
 let I:=λj=>tIs K ir<|.ref<|cl.getD (j+1) 0
 G9 (Zer (tB<|Zf1<|GF ir) (jZ<|tC .non) ju) (G9 (xh (uG<|YS (I 0)<|YS (I 1)<|YS (I 2) GM)<|UA is)
  (G9 (xh (tOp ZcC (GF is)<|uG<|YS (I 3)<|YS (I 4)<|YS (I 5) GM)<|UA is) (G9 (xh (tOp ZcC (GF is)<|uG<|YS (I 6)<|YS (I 7)<|YS (I 8) GM)<|UA is)
   (G9 (ZdI<|tBM K "list" vA (GF is)<|YS (I 9) GM)<|G9 (Zer (tOr (ZfE<|tB<|tIs K ir<|.ty "ValueError") ts) (jZ rb) ju) fin))))
def xF{K:am}{ts:TT}{rb:TE}{fin:TS}{Dn:Ends}(h:Z[ir]?=aa (aa .non))(q:Dn.rt .non H):Vd K ir is cl ts rb fin Dn Z H:=by
 refine#[.non,h,ak,rfl,?_]
 change (if ak=ak then _ else _)
 rw[T9 rfl];exact q
def JI(xs:List V):∀ps,HO.lst xs≠.tbl ps:=λ_ z=>by cases z
noncomputable def Z2(c:Nat):List Bool:=(aP 10).map λj=>ag<|c=j
def Zbt:∀c,c<10->(Z2 c)[c]?=aa ak:=by decide
def Za5:∀c,c<10->∀m,m<c->(Z2 c)[m]?=aa al:=by decide
theorem wZ :∀(bs:List Bool),Rq U H (bs.map Pv.V.bl) (bs.map V.bl)
 |[]=>Rq.nil
 |b::bs=>Rq.cons (Yj b)<|wZ bs
def upd2{H:Hp}{p:aE}{o u:HO}:upd (upd H p o) p u=upd H p u:=by
 funext b
 by_cases z:b=p
 .subst z;rw[Zn,Zn]
 .rw[Zj z,Zj z,Zj z]
def uM{K:am}{mg:bi->Option au}{ts:TT}{rb:TE}{fi:TS}{Dn:Ends}{c:Nat}{U:Mx}{S:Zs}(R:Errs K mg cl)(hc:c<10)(e:ErAt K cl ir c Z H)(hne:ir≠is)(hsl:is<Z.length)(st:St3 K U S H)
  (hts:∀(σ':L2.St)(H':Hp)(p:aE)(Q':Bool->Hp->Prop),σ'[is]?=aa (aa<|.ref p)->H' p=aa (.lst<|(Z2 c).map .bl)->¬U.X p->St3 K U S H'->(∀H2,Fut U H' U H2->St3 K U S H2->Q' al H2)->ts σ' H' Q')
  (fin:∀(σ':L2.St)(H':Hp)(q:aE),σ'[is]?=aa (aa<|.ref q)->σ'.length=Z.length->H' q=aa (.lst<|(Z2 c).map .bl)->Fut U H U H'->St3 K U S H'->fi Dn σ' H'):Vd K ir is cl ts rb fi Dn Z H:=by
 have cj:∀j,j<10->cl[j+1]?=aa (cl.getD (j+1) 0):=λj hj=>by
  have hl:j+1<cl.length:=by rw[R.len];lia
  rw[ai hl,aD,ai hl];rfl
 obtain⟨a,oe,C,h1,h2,h3,h4⟩:=id e.ex;refine#[.ref a,h1,al,rfl,?_]
 change (if al=ak then _ else _)
 rw[T8 aN]
 let A1:HO:=.lst [.bl<|ag<|c=0,.bl<|ag<|c=1,.bl<|ag<|c=2]
 let A2:HO:=.lst [.bl<|ag<|c=3,.bl<|ag<|c=4,.bl<|ag<|c=5]
 let A3:HO:=.lst [.bl<|ag<|c=0,.bl<|ag<|c=1,.bl<|ag<|c=2,.bl<|ag<|c=3,.bl<|ag<|c=4,.bl<|ag<|c=5]
 let A4:HO:=.lst [.bl<|ag<|c=6,.bl<|ag<|c=7,.bl<|ag<|c=8]
 let L5:List Bool:=[ag<|c=0,ag<|c=1,ag<|c=2,ag<|c=3,ag<|c=4,ag<|c=5,ag<|c=6,ag<|c=7,ag<|c=8]
 let A5:HO:=.lst<|L5.map .bl
 let A6:HO:=.lst<|(Z2 c).map .bl
 have neq:∀{G:Hp}{b d:aE}{u:HO},G b=aa u->G d=af->b≠d:=λh1 h2 z=>by rw[z,h2]at h1;cases h1
 refine Xl R e (cj 0<|by lia)<|Xl R e (cj 1<|by lia)<|Xl R e (cj 2<|by lia) #[by show 3<=bn;decide,λq1 hq1=>?_]
 have e1:=(e.upd (o:=A1) hq1).set (j:=is) (v:=.ref q1) hne;have st1:=st.fresh (o:=A1) hq1<|JI _;have f1:Fut U H U (upd H q1 A1):=Zw hq1;have g1:upd H q1 A1 q1=aa A1:=Zn;have l1:(Z.set is<|aa<|.ref q1).length=Z.length:=bE;refine#[.ref q1,bc hsl,?_];refine Xl R e1 (cj 3<|by lia)<|Xl R e1 (cj 4<|by lia)<|Xl R e1 (cj 5<|by lia) #[by show 3<=bn;decide,λq2 hq2=>?_]
 have g2:upd (upd H q1 A1) q2 A2 q1=aa A1:=by rw[Zj<|neq g1 hq2];exact g1
 have st2:=st1.fresh (o:=A2) hq2<|JI _;have f2:Fut U H U (upd (upd H q1 A1) q2 A2):=f1.trans<|Zw hq2;refine#[q1,q2,_,_,rfl,rfl,g2,Zn,by show 6<=bn;decide,λq3 hq3=>?_]
 let H3:=upd (upd (upd H q1 A1) q2 A2) q3 A3
 have e3:=((e1.upd (o:=A2) hq2).upd (o:=A3) hq3).set (j:=is) (v:=.ref q3) hne;have st3:St3 K U S H3:=st2.fresh (o:=A3) hq3<|JI _;have f3:Fut U H U H3:=f2.trans<|Zw hq3;have g3:H3 q3=aa A3:=Zn;have l3:((Z.set is<|aa<|.ref q1).set is<|aa<|.ref q3).length=Z.length:=by rw[bE,l1]
 refine#[.ref q3,bc (by rw[l1];exact hsl),?_]
 refine Xl R e3 (cj 6<|by lia)<|Xl R e3 (cj 7<|by lia)<|Xl R e3 (cj 8<|by lia) #[by show 3<=bn;decide,λq4 hq4=>?_]
 have g4:upd H3 q4 A4 q3=aa A3:=by rw[Zj<|neq g3 hq4];exact g3
 have st4:=st3.fresh (o:=A4) hq4<|JI _;have f4:Fut U H U (upd H3 q4 A4):=f3.trans<|Zw hq4;refine#[q3,q4,_,_,rfl,rfl,g4,Zn,by show 9<=bn;decide,λq5 hq5=>?_]
 let H5:=upd (upd H3 q4 A4) q5 A5
 let σ5:=((Z.set is<|aa<|.ref q1).set is<|aa<|.ref q3).set is<|aa<|.ref q5
 have e5:ErAt K cl ir c σ5 H5:=((e3.upd (o:=A4) hq4).upd (o:=A5) hq5).set (j:=is) (v:=.ref q5) hne;have l5:σ5.length=Z.length:=by rw[bE,l3]
 have v5:σ5[is]?=aa (aa<|.ref q5):=bc (by rw[l3];exact hsl)
 have g5:H5 q5=aa A5:=Zn;refine#[.ref q5,v5,.inl #[rfl,_,SqL.of g5],?_];refine Xl R e5 (cj 9<|by lia) #[q5,_,_,rfl,rfl,g5,by show 9<bn;decide,?_]
 let H6:=upd H5 q5 A6
 have h6:H6=upd (upd H3 q4 A4) q5 A6:=upd2;have st6:St3 K U S H6:=by rw[h6];exact st4.fresh (o:=A6) hq5<|JI _
 have f6:Fut U H U H6:=by rw[h6];exact f4.trans<|Zw hq5
 have e6:ErAt K cl ir c σ5 H6:=e5.wr g5;have g6:H6 q5=aa A6:=Zn;have nx5:¬U.X q5:=st4.nx hq5;refine Zez R e6 #[ak,rfl,?_]
 change (if al=ak then _ else _)
 rw[T8 aN];refine hts σ5 H6 q5 _ v5 g6 nx5 st6 λH7 f7 st7=>?_
 change (if al=ak then _ else _)
 rw[T8 aN];exact fin σ5 H7 q5 v5 l5 (ZdS f7 nx5 g6) (f6.trans f7) st7
def rbI:TE:=tUn (rU λi=>.int<|-i)<|tC<|.int 1
def Zey(K:am)(is:Nat):TS:=jZ<|tBM K "list" GY (GF is)<|YS (tC<|.bl ak) GM
def Zcx{K:am}{c:Nat}{Dn:Ends}{q:aE}(hc:c<10)(v:Z[is]?=aa (aa<|.ref q))(h:H q=aa (.lst<|(Z2 c).map .bl))(k:Dn.rt (.int c) H):Zey K is Dn Z H:=
 #[.ref q,v,.inl #[rfl,_,SqL.of h],q,Z2 c,c,rfl,rfl,h,Zbt c hc,Za5 c hc,k]
noncomputable def tWs:List bi->TA
 |[]=>GM
 |w::ws=>YS (tC<|.str w)<|tWs ws
theorem ZaY{Q:List V->Hp->Prop}:∀{ws:List bi} ,Q (ws.map .str) H->tWs ws Z H Q
 |[],h=>h
 |w::ws,h=>ZaY (ws:=ws) h
def Zfh(K:am)(is iw:Nat):TS:=G9 (xh (uG<|tWs Ev.X7)<|UA iw)<|jZ<|tOp (ZfK K) (GF iw)<|tBM K "list" GY (GF is)<|YS (tC<|.bl ak) GM
def ZaC:∀c:Nat,c<10->atI (Ev.X7.map V.str) (c:Int)=aa (.str<|Ev.X7.getD c ""):=by decide +kernel
def Zdu{K:am}{c iw:Nat}{Dn:Ends}{q:aE}{U:Mx}{S:Zs}(hc:c<10)(v:Z[is]?=aa (aa<|.ref q))(hw:iw<Z.length)(hne:iw≠is)(h:H q=aa (.lst<|(Z2 c).map .bl))(st:St3 K U S H)(k:∀H',Fut U H U H'->St3 K U S H'->Dn.rt (.str<|Ev.X7.getD c "") H'):Zfh K is iw Dn Z H:=by
 refine ZaY #[by decide,λp hp=>?_]
 have hqp:q≠p:=λz=>by rw[z,hp]at h;cases h
 have h1:upd H p (.lst<|Ev.X7.map V.str) q=aa (.lst<|(Z2 c).map .bl):=by rw[Zj hqp];exact h
 refine#[.ref p,bc hw,.ref q,by rw[aZ hne];exact v,.inl #[rfl,_,SqL.of h1],q,Z2 c,c,rfl,rfl,h1,Zbt c hc,Za5 c hc,p,_,_,_,rfl,rfl,SqL.of Zn,ZaC c hc,?_]
 exact k _ (Zw hp)<|st.fresh hp<|JI _
structure LamIn(X:Cx)(scope:d6)(clos:List (bi×aE)):Prop where
 S:LamS scope clos
 cl:∀x c,clos.lookup x=aa c->X.env.cells.lookup x=aa c
 kd:∀x,scope.names.lookup x=aa .free->X.env.scope.names.lookup x=aa .cell
section
variable{X:Cx}{E:XK}{cl:List aE}{Cc:Calls}{i:Ev.E}{xw:Nat->Hp->Prop}
def vR(w:Bool)(c:Nat):V:=if w then .str (Ev.X7.getD c "")else .int c
def ZeF(w:Bool)(c:Nat):Rep U H (Pv.qr w c) (vR w c):=by
 cases w
 .exact ZK _
 .exact vD _
theorem ZcZ{wd:Bool}{rb:TE}{fi:TS}{k:Nat}{f P c S0:aE}{fd:cM}{xf xc xr n xS:bi}{st:eO}{Nr:List bi}{ic ie ir is:Nat}{params:oW}{body:Expr}{scope:d6}{lp p pos p0 p1 p2 p3 p4 p5 p6 p7 p8 p9 q0 q1:fV}{j0:Nat}{clos:List (bi×aE)}{rest:List eO}{ts:Cx->TT}
  (D:DefX X E)(hfn:∀x,X.fn x=ak)(hr:Room (k+2) X.A)(R:Errs X.K X.mg cl)(hS0:cl[0]?=aa S0)
  (hP:∃ps,X.H₀ P=aa (.tbl ps))(hcode:X.env.code=.ref c)(C:dy X.base c P)(hB:X.base.BuiltinsAt X.mg P)(hgP:bG≠P)(hq:X.env.qual++"<lambda>" = YU)(hcl:iU scope X.env=cS clos)(hdef:defaultsOf params X.env=([],[]))(L:LamIn X scope clos)
  (hbind0:∀pm c' ctv,mR (rS "<lambda>" YU params body scope clos pm (.ref c') ctv) #[[],[]]=cS [])
  (hbody:∀(g:aE)(c':aE)(A:cx)(outer:List Env)(s:ay)(H:Hp)(E1:XK),Room k (A.deeper<|fQ YU scope s.heap.objs.size g (.ref c') clos)->CE (cxL X.prog X.w X.K X.mg X.base X.N scope g (.ref c') clos A outer s H E1) (xwE cl E1) Cc body i)
  (hg:Gl X xf)(hm:X.mg xf=aa (.ref f))(hk:gq X.K (.ref f)=ak)(Fu:Fun X.K xf xf st f fd)(Sc:FnScope Nr [xc] (Zg st))(hb:VX X.K fd [xc] [])(hdb:(xf == ("__debug__" : bi))=al)
  (he:aA [.Lambda params body scope lp] X.env=(al,cr (.Lambda params body scope lp) X.env)::aA [] X.env)(hpl:(dq pos<|aA [] X.env).any (·.1)=al)
  (hst:ZB st=.Assign [.Name xr p0] (.Constant .none j0 q0) q1 :: .Try [.Expr (.Call (.Name xc p1) [] [] p2) p3] [.ExceptHandler (aa<|.Name xS p4) (aa n) [.Assign [.Name xr p5] (.Name n p6) p7] p8] [] [] p9::rest)
  (hN:Nr.Nodup)(hic:Nr[ic]?=aa xc)(hic0:ic=0)(hie:Nr[ie]?=aa n)(hir:Nr[ir]?=aa xr)(his:is<Nr.length)(hne:ir≠is)(hne2:ir≠ie)(hne3:ir≠0)
  (hkc:(Zg st).names.lookup xc=aa .local)(hke:(Zg st).names.lookup n=aa .local)(hkr:(Zg st).names.lookup xr=aa .local)(hkS:∀L f cdv,(dS xf (Zg st) L f cdv).kindOf xS=aa .globalImplicit)(hmS:X.mg xS=aa (.ref S0))
  (hd1:(xc == ("__debug__" : bi))=al)(hd2:(xc == ("__classdict__" : bi))=al)(hd3:(n == ("__debug__" : bi))=al)(hd4:(n == ("__classdict__" : bi))=al)(hd5:(xS == ("__debug__" : bi))=al)
  (hs0:∀L f cdv,eQ (.Constant .none j0 q0) (aa<|.Name xr p0) q1.line (dS xf (Zg st) L f cdv)=cS al)(hs1:∀L f cdv,eQ (.Call (.Name xc p1) [] [] p2) af p3.line (dS xf (Zg st) L f cdv)=cS al)
  (hs2:∀L f cdv,eQ (.Name n p6) (aa<|.Name xr p5) p7.line (dS xf (Zg st) L f cdv)=cS al)
  (hrest:∀(cdv:au)(A:cx)(outer:List Env)(s:ay)(H:Hp),Room (k+1) (A.deeper<|dS xf (Zg st) s.heap.objs.size f cdv)->
   PSs (XX (CX1 X.prog X.w) X.prog X.w X.K X.mg X.base Nr xf (Zg st) f cdv A outer s H E0) rest (Vd X.K ir is cl (ts<|XX (CX1 X.prog X.w) X.prog X.w X.K X.mg X.base Nr xf (Zg st) f cdv A outer s H E0) rb fi))
  (hts:∀(Y:Cx)(U:Mx)(S:Zs)(e:Nat)(σ':L2.St)(H':Hp)(q:aE)(Q':Bool->Hp->Prop),Y.K=X.K->e<10->σ'[is]?=aa (aa<|.ref q)->H' q=aa (.lst<|(Z2 e).map .bl)->¬U.X q->St3 X.K U S H'->(∀H2,Fut U H' U H2->St3 X.K U S H2->Q' al H2)->ts Y σ' H' Q')
  (hfi:∀(Dn:Ends)(σ':L2.St)(U:Mx)(H':Hp)(S:Zs)(e:Nat)(q:aE),e<10->σ'[is]?=aa (aa<|.ref q)->σ'.length=Nr.length->H' q=aa (.lst<|(Z2 e).map .bl)->St3 X.K U S H'->(∀H2,Fut U H' U H2->St3 X.K U S H2->Dn.rt (vR wd e) H2)->fi Dn σ' H') :
  CE X xw Cc (.Call (.Name xf p) [.Lambda params body scope lp] [] pos) (.refu wd i):=by
 rintro pq s Z H Q I ⟨U,l,S,st0,lr,h⟩
 obtain⟨ps0,hP0⟩:=hP;obtain⟨more,hPH⟩:=I.base.tbls P ps0 hP0;refine eU<|Vm I hg hm ?_ hdb;refine nQ (h₀:=X.base) I.ok.mod.kin hk ?_ he hpl;rw[he];refine Calls.spliced_cons<|ZbM I st0.tb hPH hcode C hB hgP hq hcl hdef λg c' oc vs t pm ctv H1 s1 I1 gr tb1 _ hg1 hc1 d1 v1=>Calls.spliced_nil #[I1.kIn,?_]
 have nx:∀b:aE,b∉([]:List aE):=λb=>by simp
 have hbd:=hb s1 [.ref g] I1.kIn rfl;have st1:=st0.grow gr tb1;have f1:Fut U H U H1:=gr.fut;refine rh<|kH (ZfC (CX:=CX1 X.prog X.w) (k:=k+1) (Q:=Q) (E:=E0) (us:=[.ref g]) (vs:=[.ref g]) Fu Sc hr I1.env0 (by simpa using hbd) (.cons rfl .nil) rfl λcdv s2 hrm I2=>?_) λr s' hq=>?_
 rotate_left
 .cases r with
  |error e=>obtain⟨_,_,_,_,_,_,_,_,_,_,_,_,_,_,z⟩:=hq;exact z.elim
  |ok fl=>
   cases fl with|ret u=>exact I1.after hq|next=>exact False.elim hq|brk=>exact False.elim hq|cont=>exact False.elim hq
 rw[hst]
 let Xr:=XX (CX1 X.prog X.w) X.prog X.w X.K X.mg X.base Nr xf (Zg st) f cdv X.A X.stack s1 H1 E0
 let D0:Ends:={nx:=λ_ H'=>Q .non H',rt:=Q}
 let σ2:L2.St:=(start Nr [.ref g]).set ir<|aa .non
 have b0:=VH (X:=Xr) (pos:=q1) (pos':=p0) hN hir (.inl hkr) (xW (j:=j0) (pos:=q0)) (hs0 _ _ _)<|.inr hkr;refine gz<|thn (b0 [] s2 _ H1 {nx:=λσ' H'=>σ'=σ2/\H'=H1,rt:=λ_ _=>False} I2 #[rfl,rfl]) λfl s3 hq3=>?_
 cases fl with
 |ret v=>obtain⟨_,_,_,_,_,z⟩:=hq3;exact z.elim
 |brk=>obtain⟨_,_,_,z⟩:=hq3;exact False.elim z
 |cont=>obtain⟨_,_,_,z⟩:=hq3;exact False.elim z
 |next=>
 obtain⟨σx,Hx,I3,z1,z2⟩:=hq3;rw[z1,z2]at I3
 let E1:XK:=λCv _ H'=>∃e Ce S' ρ',Cv=.ref Ce/\cl[e]?=aa Ce/\Pv.pv Cc i l S=.ex e S'/\Fut U H1 ρ' H'/\St3 X.K ρ' S' H'
 have hl0:0<Nr.length:=by have:=(aF.mp hic).1;lia
 have hσl:=I3.len;have hirl:ir<σ2.length:=by rw[hσl];exact(aF.mp hir).1
 have hσ0:σ2[ic]?=aa (aa<|.ref g):=by
  rw[hic0,aZ hne3];rfl
 have hσr:σ2[ir]?=aa (aa .non):=bc (by simpa[σ2]using hirl)
 have og:=(I3.hok g _ hg1).1;have oc':=(I3.hok c' _ hc1).1;have notin:∀x c0,X.env.cells.lookup x=aa c0->c0∉frs X.stack:=λx c0 hx hb=>by
  rw[D.st]at hb;unfold frs at hb;rw[cC,D.fr]at hb;rcases aB.mp hb with z|z
  .exact I1.cne x c0 hx z
  .obtain⟨_,o,ho,_⟩:=I1.ok.funs.mem z
   exact T7 (aT ho)<|l0<|I1.ok.cab x c0 (hfn x) hx
 have cellKeep:∀x c0 v,X.env.cells.lookup x=aa c0->s1.heap.IsCell c0 v->s3.heap.IsCell c0 v:=λx c0 v hx #[o,ho,hd]=>
  #[o,I3.base.keep c0 o ho (I1.freeC x c0 hx) (notin x c0 hx)<|nx c0,hd]
 have hEnd:End X.K (xwE cl E1) Rep U H1 (λ_ H'=>Vd X.K ir is cl (ts Xr) rb fi D0 σ2 H') (Pv.pv Cc i l S):=by
  have h:End X.K xw Rep U H Q (match Pv.pv Cc i l S with
   |.ok _ S=>.ok .non S
   |.ex c S=>if 1<=c/\c<=10 then .ok (Pv.qr wd<|c-1) S else .no
   |.no=>.no):=by
   have h0:=h;rw[Pv.pv]at h0;exact h0
  cases q:Pv.pv Cc i l S with
  |no=>rw[q]at h;exact h.elim
  |ok d S'=>
   rw[q]at h;exact λρ' H' v f st' r=>xF hσr<|h ρ' H' .non (f1.trans f) st' Us
  |ex e S'=>
   rw[q]at h;have hg:=(End.guard h).1;intro ρ' H' f st';have he:e<cl.length:=by rw[R.len];lia
   exact#[cl[e],ai he,e,cl[e],S',ρ',rfl,ai he,q,f,st']
 refine gz<|thn (Zck (X:=Xr) (E:=E0) (Dn:={nx:=λσ' H'=>Vd X.K ir is cl (ts Xr) rb fi D0 σ' H',rt:=λ_ _=>False}) (E1:=E1) (S:=S0) (ic:=ic) (ie:=ie) (ir:=ir) uJ I3 hN hic (.inl hkc) hσ0 hie hke hir hkr (hkS _ _ _) hmS #[_,_,_,_,og] ?run ?e1 hd1 hd2 hd3 hd4 hd5 (hs1 _ _ _)<|hs2 _ _ _) λfl s4 hq4=>?_
 case run=>
  exact j4 (k:=k) (N:=X.N) (Z:=Z) hrm I3.env0 L.S og #[c',oc,vs,t,rfl,oc',d1,v1] (hbind0 pm c' ctv) (λx c0 e=>#[let #[v,z]:=I1.cell x c0<|L.cl x c0 e;#[v,cellKeep x c0 v (L.cl x c0 e) z],I1.freeC x c0<|L.cl x c0 e]) I1.len
   (λj x v e1 e2 fr=>by
    obtain⟨m,hn,hl⟩:=I1.loc;obtain⟨u,r,lk⟩:=hl j x v e1 e2<|.inr<|.inl<|L.kd x fr;obtain⟨c1,hc1⟩:=L.S.has x fr;rcases lk with⟨k1,_⟩|⟨_,c0,hc0,z⟩
    .have k1:X.env.scope.names.lookup x=aa .local:=k1
     rw[L.kd x fr]at k1;cases k1
    .have:=L.cl x c1 hc1
     rw[hc0]at this;cases this;exact#[u,c1,r,hc1,cellKeep x c1 _ hc0 z])
   (hbody g c' Xr.A Xr.stack s3 H1 E1<|hrm.deeper _) #[U,l,S,st1,lr.mono f1,hEnd]
 case e1=>
  rintro Ce H' ⟨e,Ce',S',ρ',z,hce,hev,f,st'⟩
  cases z;have h2:End X.K xw Rep U H Q (if 1<=e/\e<=10 then .ok (Pv.qr wd<|e-1) S' else .no):=by
   have h0:=h;rw[Pv.pv,hev]at h0;exact h0
  obtain⟨hge,h3⟩:=End.guard h2;obtain⟨e',rfl⟩:∃e',e=e'+1:=#[e-1,by lia]
  refine#[R.exm e' Ce S0 hce hS0,λa oe Ha ce=>?_]
  have stA:=st'.fresh (o:=.frz oe<|.own a) Ha;have er:ErAt X.K cl ir e' (((σ2.set ie<|aa<|.ref a).set ir<|aa<|.ref a).set ie af) (upd H' a<|.frz oe<|.own a):=
   #[a,oe,Ce,by rw[aZ<|Ne.symm hne2,bc<|by rw[bE];exact hirl],Zn,ce,hce]
  have len':(((σ2.set ie<|aa<|.ref a).set ir<|aa<|.ref a).set ie af).length=Nr.length:=by rw[bE,bE,bE];exact hσl
  refine uM R (by lia) er hne (by rw[len'];exact his) stA (λσ' H2 q Q' a1 a2 a3 a4 a5=>hts Xr ρ' S' e' σ' H2 q Q' rfl (by lia) a1 a2 a3 a4 a5) λσ' H2 q b1 b2 b3 f2 st2=>?_
  refine hfi D0 σ' ρ' H2 S' e' q (by lia) b1 (b2.trans len') b3 st2 λH3 f3 st3=>?_
  exact h3 ρ' H3 (vR wd e') (f1.trans<|f.trans<|(Zw Ha).trans<|f2.trans f3) st3 (by rw[Nat.add_sub_cancel];exact ZeF wd e')
 cases fl with
 |ret v=>obtain⟨_,_,_,_,_,z⟩:=hq4;exact z.elim
 |brk=>obtain⟨_,_,_,z⟩:=hq4;exact False.elim z
 |cont=>obtain⟨_,_,_,z⟩:=hq4;exact False.elim z
 |next=>
  obtain⟨σ4,H4,I4,q4⟩:=hq4;exact hrest cdv X.A X.stack s1 H1 hrm [] s4 σ4 H4 D0 I4 q4
end
noncomputable def ksum(is:Nat):Ev.E:=.cmp .ne (.blt .sum [.comp1 [] 1 [0] (.of<|.v is) []<|.blt .toInt [.v 0]])<|.c<|.int 1
theorem uv:∀(bs:List Bool),Pv.mapP (λx s=>(Pv.po (Pv.Zo [0] x<|Pv.Ye [] 1 l) s).bind λZ s=>(Pv.pvt Cc [] Z s).bind λb s=>if b then(Pv.pv Cc (.blt .toInt [.v 0]) Z s).bind λy s=>.ok [y] s else .ok [] s) (bs.map .bl) S=.ok (bs.map λb=>.int<|Ev.b2i b) S
 |[]=>rfl
 |b::bs=>by
  rw[aY,Pv.mapP,show((Pv.po (Pv.Zo [0] (Pv.V.bl b)<|Pv.Ye [] 1 l) S).bind λZ s=>(Pv.pvt Cc [] Z s).bind λb s=>if b then(Pv.pv Cc (.blt .toInt [.v 0]) Z s).bind λy s=>.ok [y] s else .ok [] s)=Pv.PR.ok [Pv.V.int<|Ev.b2i b] S from rfl]
  dsimp only
  rw[uv bs];rfl
theorem yz:∀(bs:List Bool),Pv.intsV (bs.map λb=>Pv.V.int<|Ev.b2i b)=aa (bs.map Ev.b2i)
 |[]=>rfl
 |b::bs=>by rw[aY,Pv.intsV,yz bs];rfl
def ur:∀e,e<10->((Z2 e).map Ev.b2i).sum=1/\Ev.Zbb ((Z2 e).map Ev.b2i)=ak:=by decide
def Zdl(he:e<10)(hl:l[is]?=aa (aa<|.lst<|(Z2 e).map .bl)):Pv.Yk Cc (ksum is) l S=.ok al S:=by
 have w:Pv.pvw Cc (.of<|.v is) l S=.ok ((Z2 e).map .bl) S:=by
  rw[Pv.pvw,Pv.pv,hl];rfl
 have c1:Pv.pv Cc (.comp1 [] 1 [0] (.of<|.v is) []<|.blt .toInt [.v 0]) l S=.ok (.lst<|(Z2 e).map λb=>.int<|Ev.b2i b) S:=by
  rw[Pv.pv,T9 (show Pv.own 1 [0]=ak from rfl),w]
  rw[show ∀(a:List Pv.V)(s:Pv.DS)(f:List Pv.V->Pv.DS->Pv.PR Pv.V),(Pv.PR.ok a s).bind f=f a s from λ_ _ _=>rfl,uv]
  rfl
 have c2:Pv.pv Cc (.blt .sum [.comp1 [] 1 [0] (.of<|.v is) []<|.blt .toInt [.v 0]]) l S=.ok (.int 1) S:=by
  rw[Pv.pv,Pv.pvs,c1];show Pv.po (Pv.Xq .sum [.lst<|(Z2 e).map λb=>.int<|Ev.b2i b]) S=_
  unfold Pv.Xq Pv.blt1;simp only[yz,Option.bind,(ur e he).2,if_true,(ur e he).1];rfl
 unfold Pv.Yk ksum;rw[Pv.pv,c2];rfl
def ZeE{Q':Bool->Hp->Prop}{xw:Nat->Hp->Prop}(he:e<10)(h1:σ'[is]?=aa (aa<|.ref q))(h2:H' q=aa (.lst<|(Z2 e).map .bl))(h3:¬U.X q)(st:St3 Y.K U S H')
  (hQ:∀H2,Fut U H' U H2->St3 Y.K U S H2->Q' al H2):tB3 Y xw (Pv.Yk Cc<|ksum is) σ' H' Q':=by
 have hl:=(aF.mp h1).1;refine#[U,(aH σ'.length af).set is<|aa<|.lst<|(Z2 e).map .bl,S,st,#[by simp,λi d e1=>?_],?_]
 .by_cases z:i=is
  .subst z
   rw[bc<|by simpa using hl]at e1
   cases e1;exact#[.ref q,h1,Xy h2 h3<|wZ _]
  .rw[aZ<|Ne.symm z,cB]at e1
   split at e1<;>cases e1
 .rw[Zdl he<|bc<|by simpa using hl]
  exact λρ2 H2 v f s2 r=>by
   have r:=r;subst r;obtain rfl:=f.eq;exact hQ H2 f s2
def Zcs{xr xs:bi}{ts:TT}{rb:TE}{fi:TS}{badE:Expr}{last:List eO}{sumE:Expr}{P:Nat->fV}{J:Nat->Nat}(R:Errs X.K X.mg cl)(hN:X.N.Nodup)(hi:X.N[ir]?=aa xr)(hv:X.env.scope.names.lookup xr=aa .local)(hj:X.N[is]?=aa xs)(hw:X.env.scope.names.lookup xs=aa .local)
  (g0:Gl X "isinstance")(m0:X.mg "isinstance" = af)(g1:Gl X "ValueError")(m1:X.mg "ValueError" = af)(gc:∀x∈YF,Gl X x)
  (r1:(xr == ("__debug__" : bi))=al)(r2:(xr == ("__classdict__" : bi))=al)(s1:(xs == ("__debug__" : bi))=al)(s2:(xs == ("__classdict__" : bi))=al)(hs:PT X sumE ts)
  (l1:((P 30).endLine == (P 31).line)=ak)(hbad:PE X badE rb)(hlast:PSs X last fi) :
  PSs X (.If (.Compare (.Name xr<|P 0) [.Is] [.Constant .none (J 0)<|P 1]<|P 2) [.Return (aa<|.Constant .none (J 1)<|P 3)<|P 4] [] (P 5) ::
   .Assign [.Name xs<|P 6] (.List [.Call (.Name "isinstance"<|P 40) [.Name xr<|P 41,.Name "NoRow"<|P 42] []<|P 43,.Call (.Name "isinstance"<|P 44) [.Name xr<|P 45,.Name "NoPart"<|P 46] []<|P 47,.Call (.Name "isinstance"<|P 48) [.Name xr<|P 49,.Name "NoNumber"<|P 50] []<|P 51]<|P 7) (P 8) ::
   .Assign [.Name xs<|P 9] (.BinOp (.Name xs<|P 10) .Add (.List [.Call (.Name "isinstance"<|P 52) [.Name xr<|P 53,.Name "NoHeads"<|P 54] []<|P 55,.Call (.Name "isinstance"<|P 56) [.Name xr<|P 57,.Name "NotBeside"<|P 58] []<|P 59,.Call (.Name "isinstance"<|P 60) [.Name xr<|P 61,.Name "NotIn"<|P 62] []<|P 63]<|P 11)<|P 12) (P 13) ::
   .Assign [.Name xs<|P 14] (.BinOp (.Name xs<|P 15) .Add (.List [.Call (.Name "isinstance"<|P 64) [.Name xr<|P 65,.Name "NoTurn"<|P 66] []<|P 67,.Call (.Name "isinstance"<|P 68) [.Name xr<|P 69,.Name "NoLot"<|P 70] []<|P 71,.Call (.Name "isinstance"<|P 72) [.Name xr<|P 73,.Name "TooMany"<|P 74] []<|P 75]<|P 16)<|P 17) (P 18) ::
   .Expr (.Call (.Attribute (.Name xs<|P 19) "append"<|P 30) [.Call (.Name "isinstance"<|P 76) [.Name xr<|P 77,.Name "BadNote"<|P 78] []<|P 79] []<|P 31) (P 20) ::
   .If (.BoolOp .Or [.UnaryOp .Not (.Call (.Name "isinstance"<|P 80) [.Name xr<|P 81,.Name "ValueError"<|P 82] []<|P 83)<|P 21,sumE]<|P 22) [.Return (aa badE)<|P 25] [] (P 26) ::
   last) (Vd X.K ir is cl ts rb fi):=by
 have cj:∀j (x:bi),j<11->YF[j]?=aa x->X.mg x=aa (.ref<|cl.getD j 0):=λj x hj e=>by
  have hl:j<cl.length:=by rw[R.len];exact hj
  exact R.nm j _ x (by rw[ai hl,aD,ai hl];rfl) e
 have vr:Vis X.env.scope xr:=.inl hv;have vs:Vis X.env.scope xs:=.inl hw;have is:∀{a b c d:fV}(j:Nat)(x:bi),j<11->YF[j]?=aa x->(x == ("__debug__" : bi))=al->PE X (.Call (.Name "isinstance" a) [.Name xr b,.Name x c] [] d) (tIs X.K ir<|.ref<|cl.getD j 0):=λj x h e hd=>
  Zfz hi vr g0 m0 (gc x<|cU e) (cj j x h e) r1 r2 hd
 unfold Vd
 dsimp only
 refine YC (ZaW (ZeI<|Zfk<|Yq hi vr r1 r2) (W0<|VT xW) GT) ?_;refine YC (VH hN hj (.inl hw) (QK<|Zx (is 1 "NoRow" (by decide) rfl<|by decide)<|Zx (is 2 "NoPart" (by decide) rfl<|by decide)<|Zx (is 3 "NoNumber" (by decide) rfl<|by decide) Yi) rfl<|.inr hw) ?_
 refine YC (VH hN hj (.inl hw) (V1 xD (Yq hj vs s1 s2)<|QK<|Zx (is 4 "NoHeads" (by decide) rfl<|by decide)<|Zx (is 5 "NotBeside" (by decide) rfl<|by decide)<|Zx (is 6 "NotIn" (by decide) rfl<|by decide) Yi) rfl<|.inr hw) ?_
 refine YC (VH hN hj (.inl hw) (V1 xD (Yq hj vs s1 s2)<|QK<|Zx (is 7 "NoTurn" (by decide) rfl<|by decide)<|Zx (is 8 "NoLot" (by decide) rfl<|by decide)<|Zx (is 9 "TooMany" (by decide) rfl<|by decide) Yi) rfl<|.inr hw) ?_
 refine YC (Uo (yW eg lF lG VI (Yq hj vs s1 s2) (Zx (is 10 "BadNote" (by decide) rfl<|by decide) Yi) rfl rfl l1 rfl rfl) rfl) ?_
 exact YC (ZaW (PW.pt<|ZdP (Za3<|Zeq<|Zd4 hi vr g0 m0 g1 m1 r1 r2)<|Za0 hs) (W0<|VT hbad) GT) hlast
def ZfI{xs:bi}{P:Nat->fV}{J:Nat->Nat}(hj:X.N[is]?=aa xs)(hw:X.env.scope.names.lookup xs=aa .local)(s1:(xs == ("__debug__" : bi))=al)(s2:(xs == ("__classdict__" : bi))=al)(l2:((P 32).endLine == (P 33).line)=ak) :
  PSs X [.Return (aa<|.Call (.Attribute (.Name xs<|P 27) "index"<|P 32) [.Constant (.bool ak) (J 3)<|P 28] []<|P 33)<|P 29] (Zey X.K is):=
 W0 (VT<|yW eg l4 l6 yA (Yq hj (.inl hw) s1 s2) (Zx v8 Yi) rfl rfl l2 rfl rfl)
def ZgL{P:Nat->fV}{J:Nat->Nat}:PE X (.UnaryOp .USub (.Constant (.int 1) (J 2)<|P 23)<|P 24) rbI:=Zdy Za9 Qs
structure BS(X:Cx)(s:eO)(t:TS):Prop where
 h:PS X s t
structure BSs(X:Cx)(s:List eO)(t:TS):Prop where
 h:PSs X s t
def Zb0(hN:X.N.Nodup)(hk:X.N[iw]?=aa xw)(hv:X.env.scope.names.lookup xw=aa .local)(h:PA X es ta):BS X (.Assign [.Name xw p1] (.List es p2) p3) (xh (uG ta)<|UA iw):=
 ⟨VH hN hk (.inl hv) (QK h) rfl<|.inr hv⟩
def Zdp(h1:BS X s1 t1)(h2:BS X s2 t2):BSs X [s1,s2] (G9 t1 t2):=⟨YC h1.h<|W0 h2.h⟩
structure BA(X:Cx)(es:List Expr)(ws:List bi):Prop where
 h:PA X es (tWs ws)
def paW(h:BA X es ws):BA X (.Constant (.str x) 0 p::es) (x::ws):=⟨Zx J8 h.h⟩
def ZgI:BA X [] []:=⟨Yi⟩
def ZeR{P:Nat->fV}:BA X [.Constant (.str "row") 0<|P 102,.Constant (.str "part") 0<|P 103,.Constant (.str "number") 0<|P 104,.Constant (.str "heads") 0<|P 105,.Constant (.str "not beside") 0<|P 106,.Constant (.str "not in") 0<|P 107,.Constant (.str "turn") 0<|P 108,.Constant (.str "lot") 0<|P 109,.Constant (.str "many") 0<|P 110,.Constant (.str "note") 0<|P 111] Ev.X7:=
 paW (paW<|paW<|paW<|paW<|paW<|paW<|paW<|paW<|paW ZgI)
def ZfX{xs xw:bi}{iw:Nat}{P:Nat->fV}(hN:X.N.Nodup)(hj:X.N[is]?=aa xs)(hw:X.env.scope.names.lookup xs=aa .local)(s1:(xs == ("__debug__" : bi))=al)(s2:(xs == ("__classdict__" : bi))=al)(hk:X.N[iw]?=aa xw)(hv:X.env.scope.names.lookup xw=aa .local)(t1:(xw == ("__debug__" : bi))=al)(t2:(xw == ("__classdict__" : bi))=al)(l2:((P 32).endLine == (P 33).line)=ak) :
  BSs X [.Assign [.Name xw<|P 34] (.List [.Constant (.str "row") 0<|P 102,.Constant (.str "part") 0<|P 103,.Constant (.str "number") 0<|P 104,.Constant (.str "heads") 0<|P 105,.Constant (.str "not beside") 0<|P 106,.Constant (.str "not in") 0<|P 107,.Constant (.str "turn") 0<|P 108,.Constant (.str "lot") 0<|P 109,.Constant (.str "many") 0<|P 110,.Constant (.str "note") 0<|P 111]<|P 35)<|P 36,
   .Return (aa<|.Subscript (.Name xw<|P 37) (.Call (.Attribute (.Name xs<|P 27) "index"<|P 32) [.Constant (.bool ak) 0<|P 28] []<|P 33)<|P 38) (P 29)] (Zfh X.K is iw):=by
 refine Zdp (Zb0 hN hk hv ZeR.h) ⟨?_⟩;refine VT<|wY Uc (Yq hk (.inl hv) t1 t2) (yW eg l4 l6 yA (Yq hj (.inl hw) s1 s2) (Zx v8 Yi) rfl rfl l2 rfl rfl) ?_;intro _ _;with_unfolding_all rfl
end Sd
namespace Gn
open PySem PySem.Spec PyProof.Rows L2
open Ev (E Sm Fn Bop Cop Ty Bf Mf)
open Sd (hu7 Calls CX1 spX xwE Errs Cls1 DefX)
structure Cls(K:am)(mg:bi->Option au)(base:cw)(cl:List aE):Prop where
 er:Errs K mg cl
 rs:∀(c:Nat)(S C:aE),cl[0]?=aa S->cl[c+1]?=aa C->Cls1 base S C
def wK(P:bB)(w:bS)(K:am)(mg:bi->Option au)(base:cw)(cl:List aE)(fs:List FR)(F:List Fn)(tk:Nat)(sn:List Nat)(f:Nat->aE)(fd:Nat->cM)(d:Nat):Prop:=
 ∀i r,fs[i]?=aa r->FnOk P w K mg base (CX1 P w) d (f i) (fd i) r.ps (spX K cl (Pv.Zl F tk d) (sn.contains i) i)
def BdX(fs:List FR)(zs:List bi)(gs:List (bi×Gv))(F:List Fn)(tk:Nat)(sn:List Nat)(i:Nat)(r:FR)(fn:Fn):Prop:=
 ∀(P:bB)(w:bS)(K:am)(mg:bi->Option au)(base:cw)(cl:List aE)(f:Nat->aE)(fd:Nat->cM)(d:Nat),Top K mg fs zs gs f fd->Cls K mg base cl->wK P w K mg base cl fs F tk sn f fd d->r.N.Nodup->
  ∀(cdv:au)(A:cx)(outer:List Env)(s:ay)(H:Hp)(E:XK),Room d (A.deeper<|dS r.x (Zg r.st) s.heap.objs.size (f i) cdv)->(A.deeper<|dS r.x (Zg r.st) s.heap.objs.size (f i) cdv).units+7<dD->
   Bx (Sd.CSs (XX (CX1 P w) P w K mg base r.N r.x (Zg r.st) (f i) cdv A outer s H E) (xwE cl E) (sn.contains i) (Pv.Zl F tk d) (Pv.muts fn.body) (ZB r.st) fn.body)
def OkX(fs:List FR)(zs:List bi)(gs:List (bi×Gv))(F:List Fn)(tk:Nat)(sn:List Nat):Nat->List FR->List Fn->Prop
 |_,[],[]=>True
 |i,r::rs,fn::fns=>(fn.ns=r.N.length/\fn.ps=r.ps.length/\scB r.N r.k (Zg r.st)=ak/\BdX fs zs gs F tk sn i r fn)/\OkX fs zs gs F tk sn (i+1) rs fns
 |_,_,_=>False
theorem OkX.get{fs:List FR}{zs:List bi}{gs:List (bi×Gv)}{F:List Fn}{tk:Nat}{sn:List Nat}:∀{rs:List FR}{fns:List Fn}{i0:Nat},OkX fs zs gs F tk sn i0 rs fns->∀i r,rs[i]?=aa r->∃fn,fns[i]?=aa fn/\fn.ns=r.N.length/\fn.ps=r.ps.length/\scB r.N r.k (Zg r.st)=ak/\BdX fs zs gs F tk sn (i0+i) r fn
 |[],_,_,_,i,r,e=>by simp at e
 |_::_,[],_,h,_,_,_=>h.elim
 |r::rs,fn::fns,i0,h,0,r',e=>by
  simp at e;subst e;exact#[fn,rfl,h.1.1,h.1.2.1,h.1.2.2.1,h.1.2.2.2]
 |r::rs,fn::fns,i0,h,i+1,r',e=>by
  obtain⟨g,a,b,c,d,q⟩:=OkX.get h.2 i r' (by simpa using e)
  exact#[g,by simpa using a,b,c,d,by rw[lI,gC 1 i]at q;exact q]
theorem vX{P:bB}{w:bS}{K:am}{mg:bi->Option au}{base:cw}{cl:List aE}{fs:List FR}{zs:List bi}{gs:List (bi×Gv)}{F G:List Fn}{tk:Nat}{sn:List Nat}{f:Nat->aE}{fd:Nat->cM}(O:OkX fs zs gs F tk sn 0 fs G)(hG:∀(i:Nat)(fn:Fn),G[i]?=aa fn->F[i]?=aa fn)(hT:F[tk]?=aa Sd.WJ)(T:Top K mg fs zs gs f fd)(L:Cls K mg base cl):∀d,wK P w K mg base cl fs F tk sn f fd d
 |0=>λi r h=>Sd.ZaE
 |d+1=>λi r h=>by
  obtain⟨fn,a,b,c,e,q⟩:=O.get i r h;rw[Nat.zero_add]at q;have S:=VJ e;have a:=hG i fn a;have hb:=λcdv A outer s H E hr=>(q P w K mg base cl f fd d T L (vX O hG hT T L d) S.nd cdv A outer s H E hr<|hu7 hr).h
  by_cases ht:i=tk
  .subst ht
   rw[hT]at a;cases a;exact Sd.yE Sd.Zcl b c (T.d i r h) S hb
  .exact Sd.yE (Sd.ug ht a) b c (T.d i r h) S hb
def jX{n:Nat}{x:bi}{E:XK}(D:DefX X E)(T:Top X.K X.mg fs zs gs f fd)(h:wK X.prog X.w X.K X.mg X.base cl fs F tk sn f fd d)(hr:Room d X.A)(ha:Bx (Sd.CA X (xwE cl E) (Pv.Zl F tk d) (e::es) is))(hx:(fs[n]?).map FR.x=aa x)(hg:Gl X x)(hdb:(x == ("__debug__" : bi))=al)
  (he:aA (e::es) X.env=(al,cr e X.env)::aA es X.env)(hpl:(dq pos<|aA es X.env).any (·.1)=al):Bx (Sd.CE X (xwE cl E) (Pv.Zl F tk d) (.Call (.Name x p) (e::es) [] pos)<|.call n is):=by
 cases e0:fs[n]? with
 |none=>rw[e0]at hx;cases hx
 |some r=>
  rw[e0]at hx;obtain rfl:r.x=x:=aq hx;exact⟨Sd.yQ (h n r e0) hr (Sd.Zd0 D) (λ_ _ z=>z) (T.m n r e0) (T.d n r e0).kp (T.b n r e0) ha.h hg hdb he hpl⟩
def Zfp(T:Top X.K X.mg fs zs gs f fd)(h:wK X.prog X.w X.K X.mg X.base cl fs F tk sn f fd d)(hr:Room d X.A)(ha:Bx (Sd.CA X Sd.nx (Pv.Zl F tk d) (e::es) is))(hx:(fs[n]?).map FR.x=aa x)(hg:Gl X x)(hdb:(x == ("__debug__" : bi))=al)
  (he:aA (e::es) X.env=(al,cr e X.env)::aA es X.env)(hpl:(dq pos<|aA es X.env).any (·.1)=al):Bx (Sd.CE X Sd.nx (Pv.Zl F tk d) (.Call (.Name x p) (e::es) [] pos)<|.call n is):=by
 cases e0:fs[n]? with
 |none=>rw[e0]at hx;cases hx
 |some r=>
  rw[e0]at hx;obtain rfl:r.x=x:=aq hx;exact⟨Sd.yQ (h n r e0) hr Sd.ZfQ (λ_ _ z=>z.elim) (T.m n r e0) (T.d n r e0).kp (T.b n r e0) ha.h hg hdb he hpl⟩
def Zfa{x y:bi}{n k:Nat}{px p':fV}{ss:List eO}{B:List Sm}{E:XK}(D:DefX X E)(T:Top X.K X.mg fs zs gs f fd)(h:wK X.prog X.w X.K X.mg X.base cl fs F tk sn f fd d)(hr:Room d X.A)(ha:Bx (Sd.CA X (xwE cl E) (Pv.Zl F tk d) (e::es) is))(hB:Bx (Sd.CSs X (xwE cl E) fr (Pv.Zl F tk d) ns ss B))(hN:X.N.Nodup)(hx:(fs[k]?).map FR.x=aa y)(hk:sn.contains k=ak)
  (hg:Gl X y)(hdb:(y == ("__debug__" : bi))=al)(he:aA (e::es) X.env=(al,cr e X.env)::aA es X.env)(hpl:(dq p<|aA es X.env).any (·.1)=al)(hi:X.N[n]?=aa x)(hl:L2.Loc X.env.scope x)(hf:X.fn x=ak\/X.env.scope.names.lookup x=aa .local)
  (hs:fz [.Name x px] (.Call (.Name y p') (e::es) [] p) pos.line X.env=cS al)(hw:fA [.Name x px] (.Call (.Name y p') (e::es) [] p) X.env=cS af)(h1:(cI [.Name x px] X.env).map (·.2)=[eL (.Name x px) X.env]) :
  Bx (Sd.CSs X (xwE cl E) fr (Pv.Zl F tk d) ns (.Assign [.Name x px] (.Call (.Name y p') (e::es) [] p) pos::ss) [.cel n k is B]):=by
 cases e0:fs[k]? with
 |none=>rw[e0]at hx;cases hx
 |some r=>
  rw[e0]at hx;obtain rfl:r.x=y:=aq hx;have q:=h k r e0;rw[hk]at q;refine⟨Sd.Ze3 (Sd.PE.imp (uh q hr hg (T.m k r e0) (T.d k r e0).kp (T.b k r e0) .nil (Sd.Zd0 D) ha.h hdb he hpl) λZ H Q z=>?_) hB.h hN hi hl hf hs hw h1⟩
  unfold ZdU;simp only[cQ];exact z
def Zgf{c:Nat}{x y:bi}{k:Nat}{E:XK}(D:DefX X E)(hc:X.calm=ak)(L:Cls X.K X.mg X.base cl)(hx:Sd.YF[c+1]?=aa x)(hg:Gl X x)(hd:(x == ("__debug__" : bi))=al)
  (he:aA [.Constant (.str y) k p] X.env=(al,cr (.Constant (.str y) k p) X.env)::aA [] X.env)(hpl:(dq cpos<|aA [] X.env).any (·.1)=al) :
  Bx (Sd.CS X (xwE cl E) fr C ns (.Raise (aa<|.Call (.Name x np) [.Constant (.str y) k p] [] cpos) af pos)<|.raise (c+1) []):=by
 have hl:c+1<cl.length:=by rw[L.er.len];have:=(aF.mp hx).1;exact this
 have h0:0<cl.length:=by lia
 exact⟨Sd.jV D hc (L.rs c _ _ (ai h0)<|ai hl) (ai hl) hg (L.er.nm (c+1) _ x (ai hl) hx) hd he hpl⟩
def Zee{c m:Nat}{x:bi}{E:XK}{v1 v2:Expr}{rest:List Expr}(D:DefX X E)(hc:X.calm=ak)(L:Cls X.K X.mg X.base cl)(hj:Bx (Sd.CJ X (xwE cl E) C (v1::v2::rest) m is))(hml:m<=bn)(hx:Sd.YF[c+1]?=aa x)(hg:Gl X x)(hd:(x == ("__debug__" : bi))=al)
  (he:aA [.JoinedStr (v1::v2::rest) jp] X.env=(al,cr (.JoinedStr (v1::v2::rest) jp) X.env)::aA [] X.env)(hpl:(dq cpos<|aA [] X.env).any (·.1)=al) :
  Bx (Sd.CS X (xwE cl E) fr C ns (.Raise (aa<|.Call (.Name x np) [.JoinedStr (v1::v2::rest) jp] [] cpos) af pos)<|.raise (c+1) is):=by
 have hl:c+1<cl.length:=by rw[L.er.len];have:=(aF.mp hx).1;exact this
 have h0:0<cl.length:=by lia
 exact⟨Sd.qV D hc (L.rs c _ _ (ai h0)<|ai hl) (ai hl) hj.h hml hg (L.er.nm (c+1) _ x (ai hl) hx) hd he hpl⟩
open Sd (St3 End Rep Rq LocR Us)
def spL(Pt:aE)(K:am)(cl:List aE)(C:Calls)(n:Nat):Sp:=λvs H Q E=>(∃ps,H Pt=aa (.tbl ps))/\spX K cl C al n vs H Q E
section
variable{P:bB}{w:bS}{K:am}{mg:bi->Option au}{base:cw}{cl:List aE}
def Zbc{C C':Calls}{n:Nat}{fn:Fn}{x qual:bi}{st:eO}{f c Pt:aE}{fd:cM}{N ps:List bi}{k:Nat}(hF:∀U S H ds vs,St3 K U S H->Rq U H ds vs->C' n ds S=.no\/C' n ds S=Sd.Go C fn ds S)(hns:fn.ns=N.length)(hps:fn.ps=ps.length)(Fu:Fun K x qual st f fd)(S:FnScope N ps (Zg st))(hcd:fd.code=.ref c)
  (hb:∀(A:cx)(outer:List Env)(s:ay)(H:Hp)(E:XK),(∃ps,H Pt=aa (.tbl ps))->Room k (A.deeper<|dS qual (Zg st) s.heap.objs.size f<|.ref c)->
   Sd.CSs (XX (CX1 P w) P w K mg base N qual (Zg st) f (.ref c) A outer s H E) (xwE cl E) al C (Pv.muts fn.body) (ZB st) fn.body) :
  FnOk P w K mg base (CX1 P w) (k+1) f fd ps (spL Pt K cl C' n):=by
 have eq:∀{U S H ds vs Q E},St3 K U S H->Rq U H ds vs->End K (xwE cl E) (Sd.X1 al H) U H Q (C' n ds S)->End K (xwE cl E) (Sd.X1 al H) U H Q (Sd.Go C fn ds S):=λ{U S H ds vs Q E} st r h=>by
  rcases hF U S H ds vs st r with e|e
  .rw[e]at h;exact h.elim
  .rw[e]at h;exact h
 obtain⟨oc,od,kV,doc,pm,an,cdv,ct,osl,rfl,lk,hcode⟩:=Fu.ex;obtain rfl:cdv=.ref c:=hcd;refine ZdG lk hcode S (λvs H Q E #[_,U,ds,S,st,r,h]=>?_) λA outer s H vs Q E hr #[hP,U,ds,S',st,r,h]=>#[_,hb A outer s H E hP hr,U,H,λ_=>af,Pv.ZN fn.ns ds,[],S',st,Sd.Eu.start st r N fn.ns hns,Sd.z5 (λ_ _ q=>q) (λ_ _ q=>q)<|eq st r h]
 have h:=eq st r h;obtain⟨hl,_⟩:=Sd.End.guard h;rw[r.length,hl,hps]
def ZcQ(hO:Sd.vB Pt H)(hS:SqL K H a (ns.map V.int))(h:∀s,∃S',C n [.scr ns] s=.ok (.bl ak) S'):spL Pt K cl C n [.ref a] H (λv _=>v=.bl ak) λ_ _ _=>False:=by
 obtain⟨S',e⟩:=h (0,al);have sc:Sd.Scr K H a ns:=by
  rcases hS with(hS|hS)|hS
  .by_cases z:a=Pt
   .rw[z,hO.1]at hS;cases hS
   .rcases hO.2 a z with z|⟨o,xs,z⟩
    .rw[z]at hS;cases hS
    .rw[z]at hS;cases hS
  .exact .inl hS
  .exact .inr hS
 refine#[#[_,hO.1],#[K,af,λ_=>False,λ_ h=>by cases h],[.scr ns],(0,al),#[rfl,λ_ h=>h.elim,λ_ h=>(by cases h),λQ ps e=>?_],Sd.Rq.cons (by exact#[a,rfl,sc]) Sd.Rq.nil,?_]
 .by_cases z:Q=Pt
  .subst z
   rw[hO.1]at e;cases e;exact#[trivial,λpos cv q=>by cases q]
  .rcases hO.2 Q z with z|⟨_,_,z⟩<;>(rw[z]at e;cases e)
 .rw[e]
  exact λρ' H' v _ _ r=>r.1.bl'
end
def BdL(fs:List FR)(zs:List bi)(gs:List (bi×Gv))(F:List Fn)(tk:Nat)(sn:List Nat)(r:FR)(fn:Fn):Prop:=
 ∀(P:bB)(w:bS)(K:am)(mg:bi->Option au)(base:cw)(cl:List aE)(f:Nat->aE)(fd:Nat->cM)(fL c Pt:aE)(d:Nat),Top K mg fs zs gs f fd->Cls K mg base cl->wK P w K mg base cl fs F tk sn f fd d->r.N.Nodup->
  dy base c Pt->base.BuiltinsAt mg Pt->bG≠Pt->
  ∀(A:cx)(outer:List Env)(s:ay)(H:Hp)(E:XK),(∃ps,H Pt=aa (.tbl ps))->Room (d+2) (A.deeper<|dS r.x (Zg r.st) s.heap.objs.size fL<|.ref c)->(A.deeper<|dS r.x (Zg r.st) s.heap.objs.size fL<|.ref c).units+7<dD->
   Bx (Sd.CSs (XX (CX1 P w) P w K mg base r.N r.x (Zg r.st) fL (.ref c) A outer s H E) (xwE cl E) al (Pv.Zl F tk d) (Pv.muts fn.body) (ZB r.st) fn.body)
open PySem.W
open Sd (ExK YF veM)
def yo(K:Frag)(cl:List aE)(i:Nat)(C:aE):Bool:=
 excIn K C veM "ValueError.__new__" && ((clsIn K C).isSome&&(rP K (.ref C) "__getattribute__" == aa (aa<|.builtin "BaseException.__getattribute__")&&(rP K (.ref C) "__getattr__" == aa af &&
  (rP K (.ref C) "__class__" == aa (aa<|.builtin "object.__class__")&&(mroIn K C (.type "BaseException") == aa ak&&(mroIn K C (.type "object") == aa ak&&(kitOne K (.ref C) (.type "ValueError") == aa ak &&
   (exmOne K (.ref C) (.ref<|cl.getD 0 0) == aa ak&&(cl.drop 1).zipIdx.all λq=>kitOne K (.ref C) (.ref q.1) == aa (ag<|i=q.2)))))))))
def Ju(K:Frag)(cl:List aE):Bool:=
 decide (cl.length=11)&&((cl.zip YF).all (λq=>nsIn K bG q.2 == aa (aa<|.ref q.1))&&(cl.drop 1).zipIdx.all λq=>yo K cl q.2 q.1)
def UO{B:Type}{l:List B}{f:B×Nat->Bool}(h:l.zipIdx.all f=ak){i:Nat}{a:B}(e:l[i]?=aa a):f (a,i)=ak:=by
 refine aX.mp h (a,i) ?_;rw[kq];exact e
section
variable{K:Frag}{cl:List aE}
def yM(h:Ju K cl=ak){i:Nat}{C:aE}(e:cl[i+1]?=aa C):yo K cl i C=ak:=by
 unfold Ju at h;rw[aI,aI]at h;have e1:(cl.drop 1)[i]?=aa C:=by rw[fP,gC];exact e
 exact UO h.2.2 e1
def ZcD{hh:cw}{mg:bi->Option au}(X:K.In hh)(G:hh.Ns bG mg)(h:Ju K cl=ak):Errs K mg cl:=by
 have h0:=h;unfold Ju at h0;rw[aI,aI,T0]at h0;obtain⟨hl,hn,_⟩:=h0;have parts:∀{i:Nat}{C:aE},cl[i+1]?=aa C->_:=λ{i C} e=>by
  have:=yM h e;unfold yo at this;simp only[aI,beq_iff_eq]at this;exact this
 refine#[hl,λj C x e1 e2=>?_,λj C e=>?_,λi j C D e1 e2=>?_,λi C e=>?_,λi C S e1 e2=>?_]
 .have:=aX.mp hn (C,x) (cU<|by rw[gI];exact#[e1,e2])
  exact mg_of X G<|beq_iff_eq.mp this
 .obtain⟨_,a,b,c,d,e5,e6,_⟩:=parts e
  exact#[a,b,c,d,e5,e6]
 .obtain⟨_,_,_,_,_,_,_,_,_,z⟩:=parts e1
  have e3:(cl.drop 1)[j]?=aa D:=by rw[fP,gC];exact e2
  exact beq_iff_eq.mp<|UO z e3
 .obtain⟨_,_,_,_,_,_,_,z,_⟩:=parts e
  exact z
 .obtain⟨_,_,_,_,_,_,_,_,z,_⟩:=parts e1
  have:cl.getD 0 0=S:=by rw[aD,e2];rfl
  rw[this]at z;exact z
def ZeN(X:K.In base)(q:excIn K C veM "ValueError.__new__" = ak):Cls1 base S C:=by
 unfold excIn at q;split at q
 case h_2=>cases q
 case h_1 d0 k sl lk=>
  split at q
  case h_2=>cases q
  case h_1 c0 rest s0 s1 s2 s3 made s5 em es=>
   repeat rw[aI]at q
   obtain⟨⟨⟨⟨⟨y1,y2⟩,y3⟩,y4⟩,y5⟩,y6⟩:=q;cases beq_iff_eq.mp y1;cases beq_iff_eq.mp y2;have y3:k.hasDel=al:=by simpa using y3
   cases k;cases em;cases y3;have es:=lZ.mp es;cases es;exact#[rest,_,_,_,_,_,_,_,_,_,d0,s0,s1,s2,s3,s5,_,X _ _ lk,.of_isNs<|isNs_of_in X y5,nsMap_none_of_in X y5<|beq_iff_eq.mp y6,tail_of_in X y4]
def ZcS(X:K.In hh)(G:hh.Ns bG mg)(XB:K.In base)(h:Ju K cl=ak):Cls K mg base cl:=by
 refine#[ZcD X G h,λc S C e0 e1=>ZeN XB ?_]
 have:=yM h e1;unfold yo at this;rw[aI]at this;exact this.1
end
end Gn
namespace Gn
open PySem PySem.Spec PyProof.Rows L2
open Ev (E Sm Fn Bop Cop Ty Bf Mf)
open Sd (Calls CX1)
def ZcA{l:mF}{w:bS}{K:am}{h:cw}{mg:bi->Option au}{fa c Pt aL:aE}{fs:List FR}{zs:List bi}{gs:List (bi×Gv)}{F G:List Fn}{tk L:Nat}{sn:List Nat}{fnL:Fn}{fdL:cM}{st:eO}{N:List bi}{as cl:List aE}{fds:List cM}
  (X:K.In h)(Gs:h.Ns bG mg)(hfa:mg "law" = aa (.ref fa))(O:OkX fs zs gs F tk sn 0 fs G)(hG:∀(i:Nat)(fn:Fn),G[i]?=aa fn->F[i]?=aa fn)(hT:F[tk]?=aa Sd.WJ)(hLt:L≠tk)(A:FnsAt K fs as fds)(Z:ZsAt K zs)(Y:GsAt K gs)(Er:Ju K cl=ak)
  (AL:FnsAt K [#["law",st,"_law_script" :: N,1]] [aL] [fdL])(hFL:F[L]?=aa fnL)(h1:fnL.ns=N.length+1)(h2:fnL.ps=1)(hsc:scB ("_law_script" :: N) 1 (Zg st)=ak)(B:BdL fs zs gs F tk sn #["law",st,"_law_script" :: N,1] fnL)(hcode:fdL.code=.ref c) :
  ∃fd:cM,(∀(s:ay)(v:au),m8 s fd #[[v],[]] [("_law_script",v)])/\∀base:cw,K.In base->base.Ns bG mg->dy base c Pt->base.BuiltinsAt mg Pt->bG≠Pt->FnOk l.prog w K mg base (CX1 l.prog w) 65 fa fd ["_law_script"] (spL Pt K cl (Pv.Zl F tk 63) L):=by
 have T:Top K mg fs zs gs (λi=>as.getD i 0) (λi=>fds.getD i fdL):=
  #[λi r e=>(A.get i r e).2.1,λi r e=>by
   obtain⟨_,F,B⟩:=A.get (fd0:=fdL) i r e;exact F.binds B,λi r e=>lJ X Gs (A.get (fd0:=fdL) i r e).1,λx hx=>PySem.W.mg_none_of X Gs<|Z.get x hx,λy hy=>Y.get X Gs y hy]
 obtain⟨hn,Fu,Bn⟩:=AL.get (fd0:=fdL) 0 _ rfl;have e:=hfa.symm.trans<|lJ X Gs hn;cases e;have S:=VJ hsc;refine#[fdL,λs v=>?_,λbase XB GB hC hB hP=>?_]
 .obtain⟨oc,od,kV,doc,pm,an,cdv,ct,osl,e,lk,hcd⟩:=Fu.ex
  have e:fdL=_:=e;rw[e];exact .of_eq<|Bn kV doc pm an cdv ct [v] rfl
 .have Lc:=ZcS X Gs XB Er
  exact Zbc (k:=64) (N:="_law_script" :: N) (Sd.ug hLt hFL) h1 h2 Fu S hcode λA outer s H E hp hr=>(B l.prog w K mg base cl _ _ _ c Pt 62 T Lc (vX O hG hT T Lc 62) S.nd hC hB hP A outer s H E hp hr<|Sd.hu7 hr).h
theorem Zaz{l:mF}{q:bB}{loose:List bi}{XP:(bi->Option au)->cw->Prop}{YP:bS->cw->Prop}{d:sA}{K:Params->am}{F:List Fn}{tk L:Nat}{c Pt:aE}{dr:sA}{cl:bS->List aE}(hok:∀(ns:List Int) s,∃S,Pv.Zl F tk 63 L [.scr ns] s=.ok (.bl ak) S)(hn:l.most=aa 63)(hdf:d.params.defaults=[])
  (hY:∀(w:bS)(h:cw),YP w h->(K w.params).In h)(hrec:(recsOf q).find? (λe=>e.name == d.name)=aa dr)(ht:∀w:bS,sd (K w.params) d.name=aa (c,Pt))(hK:∀w:bS,mZ (K w.params)=ak)
  (hF:∀(w:bS)(mg:bi->Option au)(fa:aE)(h:cw),(K w.params).In h->h.Ns bG mg->mg d.name=aa (.ref fa)->
   ∃fd:cM,(∀(s:ay)(u:au),m8 s fd #[[u],[]] [("_law_script",u)])/\∀base:cw,(K w.params).In base->base.Ns bG mg->dy base c Pt->base.BuiltinsAt mg Pt->bG≠Pt->FnOk l.prog w (K w.params) mg base (CX1 l.prog w) 65 fa fd ["_law_script"] (spL Pt (K w.params) (cl w) (Pv.Zl F tk 63) L)) :
  sf q loose XP YP l.row.toRowW d [] (λf vs=>rm f vs):=
 Sd.Zaz (sp:=λw Pt=>spL Pt (K w.params) (cl w) (Pv.Zl F tk 63) L) hn (by decide) hdf #[rfl,by decide,by decide] hY hrec ht hK hF (λw H a ns hl hO hS=>ZcQ hO hS<|hok ns)<|by rintro _ _ _ _ _ ⟨_,_,_,_,_,_,_,_,_,_,_,_,_,_,z⟩;exact z
end Gn
namespace Sd
open PySem PySem.Spec PyProof.Rows L2
open Ev (E Sm Fn Bop Cop Ty Bf Mf)
end Sd
namespace Gn
open PySem PySem.Spec PyProof.Rows L2
open Ev (E Sm Fn Bop Cop Ty Bf Mf)
open Sd (Calls CX1 spX xwE Errs Cls1 DefX LamS LamIn Vd tB3 ksum YU YF)
theorem WB :∀(l:List (bi×fG))(acc:List (bi×aE)),(∀y∈l,y.2=.free->(env.cells.lookup y.1).isSome=ak)->(∀x c,(x,c)∈acc->env.cells.lookup x=aa c)->
  ∃cs,(nB l acc (λy r=>if y.2 == .free then do let a <-cellOf env y.1;cS (ko ((y.1,a)::r))else cS (ko r)):oh _)=cS cs/\(∀x c,(x,c)∈cs->env.cells.lookup x=aa c)/\(∀x c,(x,c)∈acc->(x,c)∈cs)/\∀x,(x,bM)∈l->∃c,(x,c)∈cs
 |[],acc,_,ha=>#[acc,rfl,ha,λ_ _ h=>h,λx h=>by simp at h]
 |(x,k)::l,acc,hl,ha=>by
  by_cases e:k=.free
  .subst e
   have h0:=hl (x,.free) (by simp) rfl
   obtain⟨c,hc⟩:=fB.mp h0;obtain⟨cs,e1,h1,h2,h3⟩:=WB l ((x,c)::acc) (λy hy=>hl y<|by simp[hy]) (λy d hd=>by
    rcases aB.mp hd with z|z
    .cases z;exact hc
    .exact ha y d z)
   refine#[cs,?_,h1,λy d hd=>h2 y d (by simp[hd]),λy hy=>?_]
   .rw[<-e1]
    unfold cellOf;have hc:=hc;simp[hc]
   .rcases aB.mp hy with z|z
    .cases z;exact#[c,h2 x c<|by simp]
    .exact h3 y z
  .obtain⟨cs,e1,h1,h2,h3⟩:=WB l acc (λy hy=>hl y<|by simp[hy]) ha
   refine#[cs,?_,h1,h2,λy hy=>?_]
   .rw[<-e1]
    simp[e]
   .rcases aB.mp hy with z|z
    .cases z;exact T7 rfl e
    .exact h3 y z
def WQ(hl:∀y∈scope.names,y.2=.free->(env.cells.lookup y.1).isSome=ak):∃cs,iU scope env=cS cs/\(∀x c,(x,c)∈cs->env.cells.lookup x=aa c)/\∀x,(x,bM)∈scope.names->∃c,(x,c)∈cs:=by
 obtain⟨cs,e,h1,_,h3⟩:=WB scope.names [] hl (λx c h=>by simp at h)
 refine#[cs,?_,h1,h3];rw[<-e];unfold iU;simp
theorem Wa:∀(names:List (bi×fG))(n:Nat)(acc:List (bi×aE)),(acc.Pairwise λx y=>x.2≠y.2)->(∀y∈acc,y.2<n)->(iR n names acc).Pairwise λx y=>x.2≠y.2
 |[],_,_,h,_=>h
 |(x,k)::r,n,acc,h,hn=>by
  unfold iR;split
  .refine Wa r (n+1) _ (bf.mpr #[λy hy z=>?_,h]) λy hy=>?_
   .have:=hn y hy
    exact T7 (z)<|gA this
   .rcases aB.mp hy with rfl|hy
    .exact iT n
    .exact dL<|hn y hy
  .exact Wa r n acc h hn
def Ys{B:Type}{l:List (bi×B)}{x:bi}{a:B}(h:l.lookup x=aa a):(x,a)∈l:=dM h
def qh{l:List (bi×aE)}(h:l.Pairwise λx y=>x.2≠y.2){x y:bi}{c:aE}(h1:(x,c)∈l)(h2:(y,c)∈l):x=y:=by
 induction h with
 |nil=>simp at h1
 |cons hd _ ih=>
  rcases aB.mp h1 with z1|z1<;>rcases aB.mp h2 with z2|z2
  .exact congrArg Prod.fst<|z1.trans z2.symm
  .rw[<-z1]at hd;exact T7 rfl<|hd (y,c) z2
  .rw[<-z2]at hd;exact T7 rfl<|hd (x,c) z1
  .exact ih z1 z2
def Q3{l:List (bi×aE)}{x:bi}{c:aE}(h:(x,c)∈l):∃d,l.lookup x=aa d:=by
 induction l with
 |nil=>simp at h
 |cons p l ih=>
  obtain⟨y,d⟩:=p;rw[bV];by_cases e:x=y
  .subst e;exact#[d,by simp]
  .rcases aB.mp h with z|z
   .cases z;exact T7 rfl e
   .have:(x == y)=al:=by simpa using e
    rw[this];exact ih z
noncomputable def Zej(sc scope:d6):Bool:=
 (match scope.kind with|.function=>ak|_=>al)&&(!scope.isCoroutine&&(!scope.isGenerator&&scope.names.all λy=>ag (y.2≠.cell)&&(ag (y.2≠.local)&&(!decide (y.2=.free)||decide (sc.names.lookup y.1=aa .cell)))))
def Ze1{X:Cx}{sc scope:d6}{n:Nat}(hs:X.env.scope=sc)(hc:X.env.cells=iR n sc.names [])(h:Zej sc scope=ak):∃clos,iU scope X.env=cS clos/\LamIn X scope clos:=by
 unfold Zej at h;simp only[aI,lB,T0,aX,eE,decide_eq_false_iff_not]at h;obtain⟨h1,h2,h3,h4⟩:=h;have fr:∀x,(x,bM)∈scope.names->sc.names.lookup x=aa .cell:=λx hx=>by
  rcases(h4 _ hx).2.2 with z|z
  .exact T7 rfl z
  .exact z
 obtain⟨cs,e,c1,c2⟩:=WQ λy hy z=>by
  obtain⟨x,k⟩:=y;cases z;obtain⟨c,q⟩:=L2.Qq<|fr x hy;rw[hc,q];rfl
 have ap:=Wa sc.names n [] (by simp) (by simp)
 have lk:=λx c q=>c1 x c<|Ys q
 refine#[cs,e,#[?_,h2,h3,λy hy=>(h4 y hy).1,λx v=>?_,λx q=>?_,λx y c q1 q2=>?_],lk,λx q=>?_]
 .cases e:scope.kind<;>rw[e]at h1<;>first|rfl|cases h1
 .rcases v with v|v|v
  .exact T7 rfl (h4 _<|Ys v).2.1
  .exact T7 rfl (h4 _<|Ys v).1
  .exact v
 .obtain⟨c,q⟩:=c2 x (Ys q)
  exact Q3 q
 .have a1:=Ys (lk x c q1)
  have a2:=Ys<|lk y c q2;rw[hc]at a1 a2;exact qh ap a1 a2
 .rw[hs]
  exact fr x<|Ys q
noncomputable abbrev rN(wd:Bool):List bi:=if wd then["_law_call","_law_error","e","_law_sorts","_law_words"]else["_law_call","_law_error","e","_law_sorts"]
noncomputable def ZfY(wd:Bool)(P:Nat->fV):Expr:=if wd then .Constant (.str "none of these") 0 (P 24)else .UnaryOp .USub (.Constant (.int 1) 0<|P 23) (P 24)
noncomputable def ZdE(wd:Bool)(P:Nat->fV):List eO:=if wd then[.Assign [.Name "_law_words"<|P 34] (.List [.Constant (.str "row") 0<|P 102,.Constant (.str "part") 0<|P 103,.Constant (.str "number") 0<|P 104,.Constant (.str "heads") 0<|P 105,.Constant (.str "not beside") 0<|P 106,.Constant (.str "not in") 0<|P 107,.Constant (.str "turn") 0<|P 108,.Constant (.str "lot") 0<|P 109,.Constant (.str "many") 0<|P 110,.Constant (.str "note") 0<|P 111]<|P 35)<|P 36,
   .Return (aa<|.Subscript (.Name "_law_words"<|P 37) (.Call (.Attribute (.Name "_law_sorts"<|P 27) "index"<|P 32) [.Constant (.bool ak) 0<|P 28] []<|P 33)<|P 38) (P 29)]
 else[.Return (aa<|.Call (.Attribute (.Name "_law_sorts"<|P 27) "index"<|P 32) [.Constant (.bool ak) 0<|P 28] []<|P 33)<|P 29]
def rbR(wd:Bool):TE:=if wd then tC (.str "none of these")else Sd.rbI
def fiR(K:am)(wd:Bool):TS:=if wd then Sd.Zfh K 3 4 else Sd.Zey K 3
def ub(wd:Bool)(P:Nat->fV)(sumE:Expr):List eO:=
 let n:="_law_error"
 let s:="_law_sorts"
 let i:=λ(x:bi) (k:Nat)=>Expr.Call (.Name "isinstance"<|P k) [.Name n<|P<|k+1,.Name x<|P<|k+2] []<|P<|k+3
 .If (.Compare (.Name n<|P 0) [.Is] [.Constant .none 0<|P 1]<|P 2) [.Return (aa<|.Constant .none 0<|P 3)<|P 4] [] (P 5) ::
   .Assign [.Name s<|P 6] (.List [i "NoRow" 40,i "NoPart" 44,i "NoNumber" 48]<|P 7) (P 8) ::
   .Assign [.Name s<|P 9] (.BinOp (.Name s<|P 10) .Add (.List [i "NoHeads" 52,i "NotBeside" 56,i "NotIn" 60]<|P 11)<|P 12) (P 13) ::
   .Assign [.Name s<|P 14] (.BinOp (.Name s<|P 15) .Add (.List [i "NoTurn" 64,i "NoLot" 68,i "TooMany" 72]<|P 16)<|P 17) (P 18) ::
   .Expr (.Call (.Attribute (.Name s<|P 19) "append"<|P 30) [i "BadNote" 76] []<|P 31) (P 20) ::
   .If (.BoolOp .Or [.UnaryOp .Not (i "ValueError" 80)<|P 21,sumE]<|P 22) [.Return (aa<|ZfY wd P)<|P 25] [] (P 26)::ZdE wd P
noncomputable def uc(P:Nat->fV):List eO:=
 [.Assign [.Name "_law_error"<|P 90] (.Constant .none 0<|P 91)<|P 92,.Try [.Expr (.Call (.Name "_law_call"<|P 93) [] []<|P 94)<|P 95] [.ExceptHandler (aa<|.Name "SpaceError"<|P 96) (aa "e") [.Assign [.Name "_law_error"<|P 97] (.Name "e"<|P 98)<|P 99]<|P 100] [] []<|P 101]
noncomputable def ud(b:List eO):Expr:=match b.getD 7 (.Pass #[0,0,0,0])with
 |.If (.BoolOp _ [_,e] _) _ _ _=>e
 |_=>.Constant .none 0 #[0,0,0,0]
def Zap(wd:Bool)(P:Nat->fV)(sc:d6):Bool:=
 (rN wd).all (λx=>ag<|sc.names.lookup x=aa .local)&&(((["isinstance","ValueError"]:List bi)++YF).all (λx=>ag<|sc.names.lookup x=aa .globalImplicit)&&((P 30).endLine == (P 31).line&&(P 32).endLine == (P 33).line))
abbrev cxR(wd:Bool)(P:bB)(w:bS)(K:am)(mg:bi->Option au)(base:cw)(st:eO)(f:aE)(cdv:au)(A:cx)(outer:List Env)(s:ay)(H:Hp):Cx:=XX (CX1 P w) P w K mg base (rN wd) "_law_refused" (Zg st) f cdv A outer s H E0
def jk(wd:Bool)(P:bB)(w:bS)(K:am)(mg:bi->Option au)(base:cw)(cl:List aE)(C:Calls)(d:Nat)(st:eO)(f:aE):Prop:=
 ∀(cdv:au)(A:cx)(outer:List Env)(s:ay)(H:Hp),Room (d+1) (A.deeper<|dS "_law_refused" (Zg st) s.heap.objs.size f cdv)->
  PSs (cxR wd P w K mg base st f cdv A outer s H) ((ZB st).drop 2) (Vd K 1 3 cl (tB3 (cxR wd P w K mg base st f cdv A outer s H) Sd.nx<|Pv.Yk C<|ksum 3) (rbR wd)<|fiR K wd)
section
variable{wd:Bool}{P:bB}{w:bS}{K:am}{mg:bi->Option au}{base:cw}{cl:List aE}{fs:List FR}{zs:List bi}{gs:List (bi×Gv)}{F:List Fn}{f:Nat->aE}{fd:Nat->cM}{d nR:Nat}{st:eO}{Pp:Nat->fV}{C:Calls}
def vm(h:Zap wd Pp sc=ak):(∀x∈rN wd,sc.names.lookup x=aa .local)/\(∀x∈(["isinstance","ValueError"]:List bi)++YF,sc.names.lookup x=aa .globalImplicit)/\((Pp 30).endLine == (Pp 31).line)=ak/\((Pp 32).endLine == (Pp 33).line)=ak:=by
 unfold Zap at h;simp only[aI,aX,T0]at h;exact#[h.1,h.2.1,h.2.2.1,h.2.2.2]
def Ze9(T:Top K mg fs zs gs f fd)(L:Cls K mg base cl)(hst:(ZB st).drop 2=ub wd Pp (ud<|ZB st))(hB:Zap wd Pp (Zg st)=ak)(hsc:scB (rN wd) 1 (Zg st)=ak)(hz:zs.contains "isinstance" = ak)(hz2:zs.contains "ValueError" = ak)
  (hsum:∀(cdv:au)(A:cx)(outer:List Env)(s:ay)(H:Hp),(A.deeper<|dS "_law_refused" (Zg st) s.heap.objs.size (f nR) cdv).units+7<dD->Bx (Sd.CT (cxR wd P w K mg base st (f nR) cdv A outer s H) Sd.nx C (ud<|ZB st)<|ksum 3)) :
  jk wd P w K mg base cl C d st (f nR):=by
 intro cdv A outer s H hr;obtain⟨b1,b2,b3,b4⟩:=vm hB;rw[hst];have gl:=λx hx=>b2 x hx
 have nd:=(VJ hsc).nd;have hs:=(hsum cdv A outer s H<|Sd.hu7 hr).h;have hl:Sd.BSs (cxR wd P w K mg base st (f nR) cdv A outer s H) (ZdE wd Pp) (fiR K wd):=by
  cases wd with|false=>exact⟨Sd.ZfI (J:=λ_=>0) rfl (b1 _<|by simp[rN]) rfl rfl b4⟩|true=>exact Sd.ZfX (iw:=4) nd rfl (b1 _<|by simp[rN]) rfl rfl rfl (b1 _<|by simp[rN]) rfl rfl b4
 have hb:PE (cxR wd P w K mg base st (f nR) cdv A outer s H) (ZfY wd Pp) (rbR wd):=by
  cases wd with|false=>exact Sd.ZgL (J:=λ_=>0)|true=>exact J8
 have hir:(rN wd)[1]?=aa ("_law_error" : bi):=by cases wd<;>rfl
 have his:(rN wd)[3]?=aa ("_law_sorts" : bi):=by cases wd<;>rfl
 have mem:∀x∈[("_law_error" : bi),"_law_sorts"],x∈rN wd:=by cases wd<;>simp[rN]
 exact Sd.Zcs (cl:=cl) (ir:=1) (is:=3) (J:=λ_=>0) (P:=Pp) L.er nd hir (b1 _<|mem _<|by simp) his (b1 _<|mem _<|by simp) (gl _<|by simp) (T.no hz) (gl _<|by simp) (T.no hz2) (λx hx=>gl x<|by simp[hx]) rfl rfl rfl rfl hs b3 hb hl.h
def ZeK(he:e<10)(v:σ'[3]?=aa (aa<|.ref q))(hl:σ'.length=(rN wd).length)(h:H' q=aa (.lst<|(Sd.Z2 e).map .bl))(st:Sd.St3 K U S H')(k:∀H2,Sd.Fut U H' U H2->Sd.St3 K U S H2->Dn.rt (Sd.vR wd e) H2):fiR K wd Dn σ' H':=by
 cases wd with|false=>exact Sd.Zcx he v h<|k H' (Sd.Fut.refl _ _) st|true=>exact Sd.Zdu he v (by rw[hl];decide) (by decide) h st k
def Zf9{X:Cx}{E:XK}{sc:d6}{n:Nat}{c Pt:aE}{i:Ev.E}{xw:Nat->Hp->Prop}{body:Expr}{scope:d6}{lp p pos:fV}
  (D:DefX X E)(hr:Room (d+2) X.A)(T:Top X.K X.mg fs zs gs f fd)(L:Cls X.K X.mg X.base cl)(RA:jk wd X.prog X.w X.K X.mg X.base cl C d st (f nR))(hx:fs[nR]?=aa #["_law_refused",st,rN wd,1])
  (hst:(ZB st).take 2=uc Pp)(hB:Zap wd Pp (Zg st)=ak)(hsc:scB (rN wd) 1 (Zg st)=ak)
  (hP:∃ps,X.H₀ Pt=aa (.tbl ps))(CH:dy X.base c Pt)(hBi:X.base.BuiltinsAt X.mg Pt)(hgP:bG≠Pt)
  (hfn:X.fn=λ_=>ak)(hcode:X.env.code=.ref c)(hs:X.env.scope=sc)(hc:X.env.cells=iR n sc.names [])(hq:X.env.qual++"<lambda>" = YU)(hl:Zej sc scope=ak)(hg:Gl X "_law_refused")
  (hbody:∀(g:aE)(c':aE)(clos:List (bi×aE))(A:cx)(outer:List Env)(s:ay)(H:Hp)(E1:XK),LamS scope clos->Room d (A.deeper<|fQ YU scope s.heap.objs.size g (.ref c') clos)->(A.deeper<|fQ YU scope s.heap.objs.size g (.ref c') clos).units+7<dD->Bx (Sd.CE (Sd.cxL X.prog X.w X.K X.mg X.base X.N scope g (.ref c') clos A outer s H E1) (xwE cl E1) C body i)) :
  Bx (Sd.CE X xw C (.Call (.Name "_law_refused" p) [.Lambda #[[],[],af,[],[],af,[]] body scope lp] [] pos)<|.refu wd i):=by
 obtain⟨b1,b2,b3,b4⟩:=vm hB;obtain⟨clos,hcl,LI⟩:=Ze1 hs hc hl;have hl0:0<cl.length:=by rw[L.er.len];decide
 have h0:=ai hl0;have hst:ZB st=uc Pp++(ZB st).drop 2:=by rw[<-hst,cN]
 have hic:(rN wd)[0]?=aa ("_law_call" : bi):=by cases wd<;>rfl
 have hie:(rN wd)[2]?=aa ("e" : bi):=by cases wd<;>rfl
 have hir:(rN wd)[1]?=aa ("_law_error" : bi):=by cases wd<;>rfl
 have hil:3<(rN wd).length:=by cases wd<;>decide
 have mem:∀x∈[("_law_call" : bi),"_law_error","e"],x∈rN wd:=by cases wd<;>simp[rN]
 have pr:(#["_law_refused",st,rN wd,1]:FR).ps=[("_law_call" : bi)]:=by cases wd<;>rfl
 have hbn:=T.b nR _ hx;rw[pr]at hbn;have hsc1:=VJ hsc;have tk:(rN wd).take 1=[("_law_call" : bi)]:=by cases wd<;>rfl
 rw[tk]at hsc1;exact⟨Sd.ZcZ (wd:=wd) (k:=d) (ic:=0) (ie:=2) (ir:=1) (is:=3) (Nr:=rN wd) (n:="e") (ts:=λY=>tB3 Y Sd.nx<|Pv.Yk C<|ksum 3) (fd:=fd nR) D (λx=>by rw[hfn]) hr L.er h0 hP hcode CH hBi hgP hq hcl rfl LI (λpm c' ctv=>rfl)
  (λg c' A outer s H E1 hr=>(hbody g c' clos A outer s H E1 LI.S hr<|Sd.hu7 hr).h) hg (T.m nR _ hx) (T.d nR _ hx).kp (T.d nR _ hx) hsc1 hbn rfl rfl rfl hst (VJ hsc).nd hic rfl hie hir hil (by decide) (by decide) (by decide)
  (b1 _<|mem _<|by simp) (b1 _<|mem _<|by simp) (b1 _<|mem _<|by simp) (λ_ _ _=>b2 _<|by simp[YF]) (L.er.nm 0 _ _ h0 rfl) rfl rfl rfl rfl rfl (λ_ _ _=>rfl) (λ_ _ _=>rfl) (λ_ _ _=>rfl) RA
  (λY U S e σ' H' q Q' hK he h1 h2 h3 st' hQ=>Sd.ZeE he h1 h2 h3 (hK▸st') λH2 f2 s2=>hQ H2 f2<|hK▸s2)
  (λDn σ' ρ' H' S e q he v hl h st k=>ZeK he v hl h st k)⟩
end
noncomputable def cjm:List Expr->Nat
 |[]=>0
 |.Constant (.str y) _ _::es=>y.length+cjm es
 |_::es=>64+cjm es
theorem xM:Bx (Sd.CJ X xw C [] (cjm []) []):=⟨Sd.xM⟩
theorem Zeu(hr:Bx (Sd.CJ X xw C es (cjm es) is)):Bx (Sd.CJ X xw C (.Constant (.str y) j p::es) (cjm (.Constant (.str y) j p::es)) is):=⟨Sd.Zeu hr.h⟩
theorem Zem(he:Bx (Sd.CE X xw C e i))(hr:Bx (Sd.CJ X xw C es (cjm es) is)):Bx (Sd.CJ X xw C (.FormattedValue e (-1) af p::es) (cjm (.FormattedValue e (-1) af p::es)) (.fi i::is)):=⟨Sd.Zem he.h hr.h⟩
def Ze6{c:Nat}{x:bi}{E:XK}{v1 v2:Expr}{rest:List Expr}{cl:List aE}{jp np cpos pos:fV}(D:DefX X E)(hc:X.calm=ak)(L:Cls X.K X.mg X.base cl)(hj:Bx (Sd.CJ X (xwE cl E) C (v1::v2::rest) (cjm (v1::v2::rest)) is))(hml:Nat.ble (cjm (v1::v2::rest)) 100000=ak)(hx:Sd.YF[c+1]?=aa x)(hg:Gl X x)(hd:(x == ("__debug__" : bi))=al)
  (he:aA [.JoinedStr (v1::v2::rest) jp] X.env=(al,cr (.JoinedStr (v1::v2::rest) jp) X.env)::aA [] X.env)(hpl:(dq cpos<|aA [] X.env).any (·.1)=al) :
  Bx (Sd.CS X (xwE cl E) fr C ns (.Raise (aa<|.Call (.Name x np) [.JoinedStr (v1::v2::rest) jp] [] cpos) af pos)<|.raise (c+1) is):=
 Zee D hc L hj (bX (Nat.le_of_ble_eq_true hml)<|by decide) hx hg hd he hpl
def jY{fs:List FR}{zs:List bi}{gs:List (bi×Gv)}{F:List Fn}{tk:Nat}{sn:List Nat}{i:Nat}{r:FR}{a b:Nat}:BdX fs zs gs F tk sn i r #[a,b,[.asg []<|.c .non]]:=λP w K mg base cl f fd d T L h hn cdv A outer s H E hr hu=>
 ⟨by
  rintro pq s Z H D I ⟨U,H0,W,l,os,S,st,en,h⟩;cases os<;>exact False.elim h⟩
def Zgg(wd:Bool)(fs:List FR)(zs:List bi)(gs:List (bi×Gv))(F:List Fn)(tk nR:Nat)(st:eO):Prop:=
 ∀(P:bB)(w:bS)(K:am)(mg:bi->Option au)(base:cw)(f:Nat->aE)(fd:Nat->cM)(d:Nat),Top K mg fs zs gs f fd->(rN wd).Nodup->∀(cdv:au)(A:cx)(outer:List Env)(s:ay)(H:Hp),(A.deeper<|dS "_law_refused" (Zg st) s.heap.objs.size (f nR) cdv).units+7<dD->Bx (Sd.CT (cxR wd P w K mg base st (f nR) cdv A outer s H) Sd.nx (Pv.Zl F tk d) (ud<|ZB st)<|ksum 3)
def BdR(wd:Bool)(fs:List FR)(zs:List bi)(gs:List (bi×Gv))(F:List Fn)(tk:Nat)(sn:List Nat)(nR:Nat)(st:eO)(r:FR)(fn:Fn):Prop:=
 ∀(P:bB)(w:bS)(K:am)(mg:bi->Option au)(base:cw)(cl:List aE)(f:Nat->aE)(fd:Nat->cM)(fL c Pt:aE)(d:Nat),Top K mg fs zs gs f fd->Cls K mg base cl->wK P w K mg base cl fs F tk sn f fd d->jk wd P w K mg base cl (Pv.Zl F tk d) d st (f nR)->r.N.Nodup->
  dy base c Pt->base.BuiltinsAt mg Pt->bG≠Pt->
  ∀(A:cx)(outer:List Env)(s:ay)(H:Hp)(E:XK),(∃ps,H Pt=aa (.tbl ps))->Room (d+2) (A.deeper<|dS r.x (Zg r.st) s.heap.objs.size fL<|.ref c)->Room d (A.deeper<|dS r.x (Zg r.st) s.heap.objs.size fL<|.ref c)->(A.deeper<|dS r.x (Zg r.st) s.heap.objs.size fL<|.ref c).units+7<dD->
   Bx (Sd.CSs (XX (CX1 P w) P w K mg base r.N r.x (Zg r.st) fL (.ref c) A outer s H E) (xwE cl E) al (Pv.Zl F tk d) (Pv.muts fn.body) (ZB r.st) fn.body)
def Zeb{wd:Bool}{fs:List FR}{zs:List bi}{gs:List (bi×Gv)}{F:List Fn}{tk nR:Nat}{sn:List Nat}{st:eO}{r:FR}{fn:Fn}{Pp:Nat->fV}(S:Zgg wd fs zs gs F tk nR st)(B:BdR wd fs zs gs F tk sn nR st r fn)(hst:(ZB st).drop 2=ub wd Pp (ud<|ZB st))(hB:Zap wd Pp (Zg st)=ak)(hsc:scB (rN wd) 1 (Zg st)=ak)(hz:zs.contains "isinstance" = ak)(hz2:zs.contains "ValueError" = ak):BdL fs zs gs F tk sn r fn:=
 λP w K mg base cl f fd fL c Pt d T L h hn hC hBi hP A outer s H E hp hr hu=>
  B P w K mg base cl f fd fL c Pt d T L h (Ze9 T L hst hB hsc hz hz2<|S P w K mg base f fd d T (VJ hsc).nd) hn hC hBi hP A outer s H E hp hr (hr.mono<|by lia) hu
end Gn
namespace K84
open Ev
noncomputable def U6:Fn:=#[2,2,
 [.ite (.cmp .lt (.v 1)<|.blt .len [(.v 0)]) [.ret<|.ix (.v 0)<|.v 1] [],
  .ret (.c<|.int 0)]]
noncomputable def J4:Fn:=#[2,3,
 [.asg [2]<|.call 0 [(.v 0),(.v 1)],
  .ite (.cmp .ge (.v 2)<|.bin .pow (.c<|.int 10)<|.c<|.int 18) [.ret<|.lst [(.bin .sub (.v 2)<|.bin .pow (.c<|.int 10)<|.c<|.int 18),(.c<|.bl ak)]] [],
  .ret (.lst [(.bin .mod (.v 2)<|.c<|.int 2147483647),(.c<|.bl al)])]]
noncomputable def zo:Fn:=#[2,4,
 [.ite (.dix (.v 0) ak) [.asg [2]<|.bin .mod (.dix (.v 0) al)<|.v 1,
  .dset 0 (.bin .fdiv (.dix (.v 0) al)<|.v 1),
  .ret (.v 2)] [],
  .dset 0 (.bin .mod (.bin .add (.bin .mul (.dix (.v 0) al)<|.c<|.int 48271)<|.c<|.int 29)<|.c<|.int 2147483647),
  .asg [3] (.bin .mod (.bin .add (.bin .add (.bin .mul (.dix (.v 0) al)<|.dix (.v 0) al)<|.bin .mul (.c<|.int 39373)<|.dix (.v 0) al)<|.c<|.int 7)<|.c<|.int 2147483629),
  .asg [3] (.bin .mod (.bin .add (.bin .mul (.v 3)<|.v 3)<|.bin .mul (.c<|.int 16807)<|.v 3)<|.c<|.int 2147483587),
  .ret (.bin .mod (.bin .fdiv (.v 3)<|.c<|.int 8)<|.v 1)]]
noncomputable def GR:Fn:=#[2,3,
 [.asg [2]<|.lst [(.tup [(.c<|.int 2),(.tup [(.c<|.int 2),(.c<|.int 1)])]),(.tup [(.c<|.int 4),(.tup [(.c<|.int 2),(.c<|.int 2)])]),(.tup [(.c<|.int 8),(.tup [(.c<|.int 2),(.c<|.int 3)])]),(.tup [(.c<|.int 16),(.tup [(.c<|.int 2),(.c<|.int 4)])]),(.tup [(.c<|.int 32),(.tup [(.c<|.int 2),(.c<|.int 5)])]),(.tup [(.c<|.int 64),(.tup [(.c<|.int 2),(.c<|.int 6)])]),(.tup [(.c<|.int 3),(.tup [(.c<|.int 3),(.c<|.int 1)])]),(.tup [(.c<|.int 9),(.tup [(.c<|.int 3),(.c<|.int 2)])])],
  .asg [2] (.bin .add (.v 2)<|.lst [(.tup [(.c<|.int 27),(.tup [(.c<|.int 3),(.c<|.int 3)])]),(.tup [(.c<|.int 81),(.tup [(.c<|.int 3),(.c<|.int 4)])]),(.tup [(.c<|.int 5),(.tup [(.c<|.int 5),(.c<|.int 1)])]),(.tup [(.c<|.int 25),(.tup [(.c<|.int 5),(.c<|.int 2)])]),(.tup [(.c<|.int 125),(.tup [(.c<|.int 5),(.c<|.int 3)])])]),
  .asg [2] (.comp1 [1] 2 [0,1] (.of<|.v 2) [(.cmp .le (.v 0)<|.v 2)]<|.v 1),
  .ret (.ix (.v 2)<|.call 2 [(.v 0),(.blt .len [(.v 2)])])]]
def J0:Fn:=#[2,15,
 [.asg [2,3]<|.v 0,
  .asg [4] (.lst [(.tup [])]),
  .forr [5] (.rng1<|.v 3) [.asg [4]<|.bin .add (.v 4)<|.comp1 [5] 1 [0] (.of<|.v 4) []<|.bin .add (.v 0)<|.tup [(.v 1)]],
  .asg [6] (.lst []),
  .forr [7] (.of<|.comp1 [1] 1 [0] (.of<|.v 4) [(.cmp .eq (.blt .len [(.v 0)])<|.v 1)]<|.v 0) [.asg [8]<|.lst [(.tup [])],
  .forr [9] (.of<|.v 7) [.asg [10]<|.lst [(.tup [])],
  .forr [5] (.rng1<|.v 3) [.asg [11]<|.lst [(.c<|.int 0)],
  .ite (.cmp .eq (.v 5)<|.v 9) [.asg [11]<|.lst [(.c<|.int 1)]] [.ite (.and (.cmp .gt (.v 5)<|.v 9)<|.cmp .nin (.v 5)<|.v 7) [.asg [11]<|.blt .rangeL [(.v 2)]] []],
  .asg [12] (.lst []),
  .forr [13] (.of<|.v 10) [.ex<|.mt .extend (.v 12) [(.comp1 [13] 1 [0] (.of<|.v 11) []<|.bin .add (.v 1)<|.tup [(.v 0)])]],
  .mov 10 12],
  .asg [12] (.lst []),
  .forr [14] (.of<|.v 8) [.ex<|.mt .extend (.v 12) [(.comp1 [14] 1 [0] (.of<|.v 10) []<|.bin .add (.v 1)<|.tup [(.v 0)])]],
  .mov 8 12],
  .ex (.mt .extend (.v 6) [(.v 8)])],
  .ret (.blt .sorted [(.v 6)])]]
noncomputable def yV:Fn:=#[4,4,
 [.ret<|.blt .tuple [(.comp1 [3,0] 2 [0,1] (.zip (.v 1)<|.v 2) []<|.bin .mod (.bin .add (.v 0)<|.bin .mul (.v 2)<|.v 1)<|.ix (.v 3)<|.c<|.int 0)]]]
def yF:Fn:=#[2,6,
 [.asg [2]<|.lst [(.bin .mul (.tup [(.c<|.int 0)])<|.ix (.v 0)<|.c<|.int 1)],
  .forr [3] (.of<|.v 1) [.asg [4]<|.lst [],
  .forr [5] (.rng1<|.ix (.v 0)<|.c<|.int 0) [.ex<|.mt .extend (.v 4) [(.comp1 [0,3,5] 1 [0] (.of<|.v 2) []<|.call 5 [(.v 1),(.v 0),(.v 2),(.v 3)])]],
  .mov 2 4],
  .ret (.blt .dictP [(.comp1 [] 1 [0] (.of<|.v 2) []<|.tup [(.v 0),(.c<|.bl ak)])])]]
noncomputable def Ww:Fn:=#[3,5,
 [.asg [3]<|.call 6 [(.v 0),(.v 1)],
  .forr [4] (.of<|.v 2) [.ite (.cmp .gt (.blt .len [(.comp1 [3] 1 [0] (.dk<|.call 6 [(.v 0),(.v 4)]) [(.cmp .inn (.v 0)<|.v 1)]<|.v 0)])<|.c<|.int 1) [.ret<|.c<|.bl al] []],
  .ret (.c<|.bl ak)]]
def WN:Fn:=#[4,7,
 [.asg [4]<|.lst [],
  .forr [5] (.rng1<|.call 2 [(.v 0),(.c<|.int 9)]) [.asg [6]<|.ix (.v 3)<|.call 2 [(.v 0),(.blt .len [(.v 3)])],
  .ite (.call 7 [(.v 1),(.v 6),(.v 4)]) [.ex<|.mt .append (.v 4) [(.v 6)]] []],
  .ret (.blt .tuple [(.blt .sorted [(.v 4)])])]]
noncomputable def X9:Fn:=#[2,2,
 [.ite (.isi (.v 1) [.tuple,.list]) [.ite (.or (.cmp .ne (.isi (.v 0) [.tuple])<|.isi (.v 1) [.tuple])<|.cmp .ne (.isi (.v 0) [.list])<|.isi (.v 1) [.list]) [.ret<|.c<|.bl al] [],
  .ret (.and (.cmp .eq (.blt .len [(.v 0)])<|.blt .len [(.v 1)])<|.blt .all [(.comp1 [] 2 [0,1] (.zip (.v 0)<|.v 1) []<|.call 9 [(.v 0),(.v 1)])])] [],
  .ret (.and (.cmp .eq (.v 0)<|.v 1)<|.cmp .eq (.isi (.v 0) [.bool])<|.isi (.v 1) [.bool])]]
noncomputable def QD:Fn:=#[3,3,
 [.ret<|.and (.isi (.v 0) [.int])<|.and (.not<|.isi (.v 0) [.bool])<|.chain .le .le (.v 1) (.v 0)<|.v 2]]
noncomputable def Vq:Fn:=#[3,3,
 [.ite (.not<|.call 10 [(.v 0),(.v 1),(.v 2)]) [.raise 3 [(.fi<|.v 1),(.fi<|.v 2)]] []]]
def V0:Fn:=#[2,4,
 [.asg [2,3]<|.v 0,
  .ex (.call 11 [(.v 1),(.c<|.int 1),(.v 3)])]]
noncomputable def VY:Fn:=#[1,1,
 [.ret<|.blt .all [(.comp1 [] 2 [0,1] (.zip (.v 0)<|.sl (.v 0) (aa<|.c<|.int 1) af) []<|.cmp .lt (.v 0)<|.v 1)]]]
noncomputable def Vj:Fn:=#[4,4,
 [.ret<|.blt .tuple [(.comp1 [3,0] 2 [0,1] (.zip (.v 1)<|.v 2) []<|.bin .mod (.bin .add (.v 0)<|.bin .mul (.v 2)<|.v 1)<|.v 3)]]]
noncomputable def JK:Fn:=#[4,4,
 [.ret<|.call 14 [(.v 0),(.v 1),(.v 2),(.neg<|.ix (.v 1)<|.v 3)]]]
noncomputable def qH:Fn:=#[1,3,
 [.forr [1,2] (.enum<|.v 0) [.ite (.cmp .ne (.v 2)<|.c<|.int 0) [.ret<|.v 1] []],
  .ret (.c .non)]]
noncomputable def yu:Fn:=#[3,7,
 [.asg [3,4]<|.v 0,
  .asg [5] (.v 2),
  .forr [6] (.of<|.v 1) [.asg [5]<|.call 15 [(.v 3),(.v 5),(.v 6),(.call 16 [(.v 6)])]],
  .ret (.v 5)]]
noncomputable def Gg:Fn:=#[3,3,
 [.ret<|.blt .tuple [(.comp1 [2,0] 1 [0] (.of<|.v 1) []<|.bin .mod (.bin .mul (.v 1)<|.v 0)<|.v 2)]]]
noncomputable def JN:Fn:=#[2,3,
 [.asg [2]<|.c<|.int 1,
  .whl (.cmp .ne (.bin .mod (.bin .mul (.v 2)<|.v 1)<|.v 0)<|.c<|.int 1) [.aug 2 .add<|.c<|.int 1],
  .ret (.v 2)]]
noncomputable def Wf:Fn:=#[3,9,
 [.asg [3,4]<|.v 0,
  .asg [5] (.call 17 [(.v 0),(.v 1),(.v 2)]),
  .asg [6] (.call 16 [(.v 5)]),
  .ite (.cmp .is (.v 6)<|.c .non) [.ret<|.v 1] [],
  .asg [7] (.call 18 [(.v 3),(.v 5),(.call 19 [(.v 3),(.ix (.v 5)<|.v 6)])]),
  .asg [8] (.comp1 [3,7,6] 1 [0] (.of<|.v 1) []<|.call 15 [(.v 1),(.v 0),(.v 2),(.v 3)]),
  .ret (.blt .tuple [(.blt .sortedR [(.bin .add (.v 8)<|.lst [(.v 7)])])])]]
noncomputable def Yf:Fn:=#[3,5,
 [.asg [3]<|.v 1,
  .forr [4] (.of<|.v 2) [.asg [3]<|.call 20 [(.v 0),(.v 3),(.v 4)]],
  .ret (.v 3)]]
noncomputable def uH:Fn:=#[3,3,
 [.ret<|.cmp .eq (.blt .len [(.call 21 [(.v 0),(.v 1),(.v 2)])])<|.bin .add (.blt .len [(.v 1)])<|.blt .len [(.v 2)]]]
noncomputable def Gy:Fn:=#[3,3,
 [.ret<|.blt .all [(.comp1 [0,1] 1 [0] (.of<|.v 2) []<|.call 22 [(.v 1),(.v 2),(.v 0)])]]]
noncomputable def XN:Fn:=#[2,2,
 [.ret<|.blt .all [(.comp1 [1] 1 [0] (.of<|.v 0) []<|.cmp .eq (.ix (.v 0)<|.v 1)<|.c<|.int 0)]]]
noncomputable def X6:Fn:=#[3,3,
 [.ret<|.and (.cmp .eq (.ix (.ix (.v 0)<|.v 1)<|.v 2)<|.c<|.int 1)<|.call 24 [(.bin .add (.sl (.v 0) af<|aa<|.v 1)<|.sl (.v 0) (aa<|.bin .add (.v 1)<|.c<|.int 1) af),(.v 2)]]]
noncomputable def j9:Fn:=#[2,4,
 [.asg [2,3]<|.v 0,
  .ite (.or (.not<|.isi (.v 1) [.tuple])<|.cmp .ne (.blt .len [(.v 1)])<|.v 3) [.ret<|.c<|.bl al] [],
  .ret (.blt .all [(.comp1 [2] 1 [0] (.of<|.v 1) []<|.call 10 [(.v 0),(.c<|.int 0),(.bin .sub (.v 1)<|.c<|.int 1)])])]]
noncomputable def uU:Fn:=#[2,3,
 [.ite (.or (.not<|.isi (.v 1) [.tuple])<|.not<|.blt .all [(.comp1 [0] 1 [0] (.of<|.v 1) []<|.call 26 [(.v 1),(.v 0)])]) [.ret<|.c<|.bl al] [],
  .asg [2] (.comp1 [] 1 [0] (.of<|.v 1) []<|.call 16 [(.v 0)]),
  .ite (.or (.cmp .inn (.c .non)<|.v 2)<|.not<|.call 13 [(.v 2)]) [.ret<|.c<|.bl al] [],
  .ret (.blt .all [(.comp1 [1] 2 [0,1] (.enum<|.v 2) []<|.call 25 [(.v 2),(.v 0),(.v 1)])])]]
def WD:Fn:=#[3,3,
 [.ex<|.call 12 [(.v 0),(.v 1)],
  .ite (.or (.not<|.isi (.v 2) [.tuple])<|.not<|.blt .all [(.comp1 [0,1] 1 [0] (.of<|.v 2) []<|.and (.call 27 [(.v 1),(.v 0)])<|.cmp .eq (.blt .len [(.v 0)])<|.v 2)]) [.ret<|.c<|.bl al] [],
  .ite (.not<|.call 13 [(.v 2)]) [.ret<|.c<|.bl al] [],
  .ret (.blt .all [(.comp1 [0,2] 2 [0,1] (.enum<|.v 2) []<|.call 23 [(.v 2),(.v 1),(.sl (.v 3) af<|aa<|.v 0)])])]]
noncomputable def XR:Fn:=#[3,3,
 [.ite (.not<|.call 28 [(.v 0),(.v 1),(.v 2)]) [.raise 8 []] []]]
noncomputable def Z0:Fn:=#[1,3,
 [.asg [1,2]<|.v 0,
  .ite (.cmp .gt (.v 2)<|.c<|.int 4) [.raise 9 [(.fi<|.c<|.int 4)]] []]]
noncomputable def Q4:Fn:=#[2,6,
 [.asg [2,3]<|.v 0,
  .asg [4] (.lst [(.bin .add (.bin .mul (.tup [(.c<|.int 0)])<|.v 1)<|.tup [(.c<|.int 1)])]),
  .forr [5] (.rng2 (.bin .add (.v 1)<|.c<|.int 1)<|.v 3) [.asg [4]<|.comp2 [2] 2 [0] (.of<|.v 4) [] [1] (.rng1<|.v 2) []<|.bin .add (.v 0)<|.tup [(.v 1)]],
  .ret (.v 4)]]
def QY:Fn:=#[2,5,
 [.asg [2]<|.ite (.v 1) (.bin .add (.call 16 [(.ix (.v 1)<|.neg<|.c<|.int 1)])<|.c<|.int 1)<|.c<|.int 0,
  .asg [3] (.lst []),
  .forr [4] (.rrng (.v 2)<|.blt .len [(.v 0)]) [.ite (.call 24 [(.v 1),(.v 4)]) [.ex<|.mt .extend (.v 3) [(.ix (.v 0)<|.v 4)]] []],
  .ret (.v 3)]]
def yC:Fn:=#[2,7,
 [.asg [2,3]<|.v 0,
  .ex (.call 11 [(.v 1),(.c<|.int 0),(.v 3)]),
  .asg [4] (.comp1 [0] 1 [0] (.rng1<|.v 3) []<|.call 31 [(.v 1),(.v 0)]),
  .asg [5] (.lst [(.tup [])]),
  .forr [6] (.rng1<|.v 1) [.asg [5]<|.comp2 [4] 2 [0] (.of<|.v 5) [] [1] (.of<|.call 32 [(.v 2),(.v 0)]) []<|.bin .add (.v 0)<|.tup [(.v 1)]],
  .ret (.v 5)]]
def xg:Fn:=#[3,5,
 [.asg [3]<|.blt .list [(.v 2)],
  .forr [4] (.of<|.call 33 [(.v 0),(.v 1)]) [.ite (.call 23 [(.v 0),(.v 4),(.v 3)]) [.ex<|.mt .append (.v 3) [(.v 4)]] []],
  .ret (.blt .tuple [(.blt .sorted [(.v 3)])])]]
def yG:Fn:=#[3,3,
 [.ex<|.call 29 [(.v 0),(.v 1),(.v 2)],
  .ex (.call 30 [(.v 0)]),
  .ret (.call 34 [(.v 0),(.v 1),(.v 2)])]]
def WH:Fn:=#[3,5,
 [.asg [3]<|.blt .list [(.v 2)],
  .asg [4] (.comp1 [0,2] 1 [0] (.of<|.v 1) [(.call 7 [(.v 1),(.v 0),(.v 2)])]<|.v 0),
  .whl (.cmp .ne (.v 4)<|.lst []) [.ex<|.mt .append (.v 3) [(.ix (.v 4)<|.c<|.int 0)],
  .asg [4] (.comp1 [0,3] 1 [0] (.of<|.v 4) [(.call 7 [(.v 1),(.v 0),(.sl (.v 2) (aa<|.neg<|.c<|.int 1) af)])]<|.v 0)],
  .ret (.blt .tuple [(.blt .sorted [(.v 3)])])]]
noncomputable def QN:Fn:=#[1,5,
 [.asg []<|.c .non]]
noncomputable def ZdL:Fn:=#[1,9,
 [.forr [1] (.rng1<|.blt .max2 [(.c<|.int 1),(.blt .min2 [(.blt .len [(.v 0)]),(.c<|.int 4)])]) [.cel 2 1 [(.v 0),(.v 1)]
  [.asg [3]<|.call 3 [(.v 2),(.ix (.lst [(.c<|.int 27),(.c<|.int 125)])<|.blt .toInt [(.cmp .eq (.v 1)<|.c<|.int 0)])],
  .asg [4] (.bin .add (.c<|.int 1)<|.call 2 [(.v 2),(.ix (.v 3)<|.c<|.int 1)]),
  .ite (.cmp .gt (.ix (.v 3)<|.c<|.int 1)<|.c<|.int 4) [.asg [4]<|.blt .max2 [(.v 4),(.c<|.int 3)]] [],
  .asg [5] (.call 4 [(.v 3),(.v 4)]),
  .asg [6] (.call 8 [(.v 2),(.v 3),(.v 4),(.v 5)]),
  .forr [7] (.of<|.lst [(.v 6),(.tup []),(.sl (.v 6) (aa<|.c<|.int 1) af)]) [.ite (.cmp .gt (.ix (.v 3)<|.c<|.int 1)<|.c<|.int 4) [.ite (.cmp .ne (.refu ak<|.call 35 [(.v 3),(.v 4),(.v 7)])<|.c<|.str<|cz "many") [.ret<|.c<|.bl al] []] [.ite (.not<|.call 9 [(.call 35 [(.v 3),(.v 4),(.v 7)]),(.call 36 [(.v 3),(.v 5),(.v 7)])]) [.ret<|.c<|.bl al] []]],
  .asg [8] (.tup [(.c<|.int 2),(.bin .add (.c<|.int 5)<|.call 2 [(.v 2),(.c<|.int 2)])]),
  .ite (.cmp .ne (.refu ak<|.call 35 [(.v 8),(.ix (.v 8)<|.c<|.int 1),(.tup [])])<|.c<|.str<|cz "many") [.ret<|.c<|.bl al] [],
  .ite (.cmp .ne (.refu ak<|.call 35 [(.v 8),(.c<|.int 0),(.tup [])])<|.c<|.str<|cz "number") [.ret<|.c<|.bl al] [],
  .ite (.cmp .ne (.refu ak<|.call 35 [(.v 8),(.c<|.int 1),(.lst [])])<|.c<|.str<|cz "lot") [.ret<|.c<|.bl al] []]],
  .ret (.c<|.bl ak)]]
def fns:List Fn:=[U6,J4,zo,GR,J0,yV,yF,Ww,WN,X9,QD,Vq,V0,VY,Vj,JK,qH,yu,Gg,JN,Wf,Yf,uH,Gy,XN,X6,j9,uU,WD,XR,Z0,Q4,QY,yC,xg,yG,WH,QN,ZdL]
noncomputable abbrev tk:Nat:=2
noncomputable abbrev sn:List Nat:=[1]
end K84
namespace La
variable{F:Type}[kD F]
noncomputable abbrev Vec(F:Type):=Nat->F
abbrev Pt(F:Type):=List<|Nat×Vec F
def pr:Pt F->Vec F->Vec F
 |[],_,_=>0
 |a::P,v,j=>v a.1*a.2 j+pr P v j
structure Rf(P:Pt F):Prop where
 inc:P.Pairwise λa b=>a.1<b.1
 low:∀a∈P,∀j,j<a.1->a.2 j=0
 one:∀a∈P,a.2 a.1=1
 zer:∀a∈P,∀b∈P,a.1≠b.1->b.2 a.1=0
def Mem(P:Pt F)(v:Vec F):Prop:=∀j,v j=pr P v j
theorem Zev(P:Pt F)(u v:Vec F)(c:F)(j:Nat):pr P (λj=>u j+c*v j) j=pr P u j+c*pr P v j:=by
 induction P with|nil=>show(0:F)=0+c*0;grind|cons a P ih=>show(u a.1+c*v a.1)*a.2 j+pr P _ j=(u a.1*a.2 j+pr P u j)+c*(v a.1*a.2 j+pr P v j);grind
theorem JX(P:Pt F)(u v:Vec F)(c:F)(j:Nat):pr P (λj=>u j-c*v j) j=pr P u j-c*pr P v j:=by
 induction P with|nil=>show(0:F)=0-c*0;grind|cons a P ih=>show(u a.1-c*v a.1)*a.2 j+pr P _ j=(u a.1*a.2 j+pr P u j)-c*(v a.1*a.2 j+pr P v j);grind
def Zbo{P:Pt F}{u v:Vec F}(h:∀b∈P,u b.1=v b.1)(j:Nat):pr P u j=pr P v j:=by
 induction P with
 |nil=>rfl
 |cons a P ih=>
  show u a.1*a.2 j+pr P u j=v a.1*a.2 j+pr P v j;rw[h a<|aj ..,ih λb hb=>h b<|ao _ hb]
theorem XI{P:Pt F}{v:Vec F}{j:Nat}(h:∀b∈P,v b.1*b.2 j=0):pr P v j=0:=by
 induction P with
 |nil=>rfl
 |cons a P ih=>
  show v a.1*a.2 j+pr P v j=0;rw[h a<|aj ..,ih λb hb=>h b<|ao _ hb];grind
theorem vG{P:Pt F}{v:Vec F}{j:Nat}{a:Nat×Vec F}(inc:P.Pairwise λa b=>a.1<b.1)(ha:a∈P)(h:∀b∈P,b.1≠a.1->v b.1*b.2 j=0):pr P v j=v a.1*a.2 j:=by
 induction P with
 |nil=>cases ha
 |cons b P ih=>
  rw[bf]at inc;show v b.1*b.2 j+pr P v j=_;rcases aB.mp ha with e|hm
  .subst e
   rw[XI λc hc=>h c (ao _ hc) (by have:=inc.1 c hc;lia)];grind
  .rw[ih inc.2 hm λc hc=>h c<|ao _ hc,h b (aj ..) (by have:=inc.1 a hm;lia)];grind
def Rf.tail{a:Nat×Vec F}{P:Pt F}(h:Rf (a::P)):Rf P:=
 #[(bf.mp h.inc).2,λb hb=>h.low b<|ao _ hb,λb hb=>h.one b<|ao _ hb,λb hb c hc=>h.zer b (ao _ hb) c<|ao _ hc]
def Rf.nil:Rf ([]:Pt F):=#[dH,λ_ h=>(by cases h),λ_ h=>(by cases h),λ_ h=>(by cases h)]
theorem vi{P:Pt F}(h:Rf P){a:Nat×Vec F}(ha:a∈P)(v:Vec F):pr P v a.1=v a.1:=by
 rw[vG h.inc ha λb hb ne=>by rw[h.zer a ha b hb<|Ne.symm ne];grind,h.one a ha];grind
theorem XQ{P:Pt F}(h:Rf P){a:Nat×Vec F}(ha:a∈P):Mem P a.2:=λj=>by
 rw[vG h.inc ha λb hb ne=>by rw[h.zer b hb a ha ne];grind,h.one a ha];grind
def YX(c:F)(hu:Mem P u)(hv:Mem P v):Mem P λj=>u j+c*v j:=λj=>by
 rw[Zev,<-hu j,<-hv j]
def Ud(c:F)(hu:Mem P u)(hv:Mem P v):Mem P λj=>u j-c*v j:=λj=>by
 rw[JX,<-hu j,<-hv j]
theorem Yx{P:Pt F}:Mem P λ_=>0:=λj=>(XI λb _=>by grind).symm
def ZbB{P:Pt F}(h:Rf P)(v:Vec F):Mem P (pr P v):=λj=>Zbo (λb hb=>(vi h hb v).symm) j
def JY{v:Vec F}:Mem ([]:Pt F) v↔∀j,v j=0:=Iff.rfl
theorem jK{P:Pt F}{v:Vec F}(h:Mem P v)(z:∀b∈P,v b.1=0)(j:Nat):v j=0:=by
 rw[h j];exact XI λb hb=>by rw[z b hb];grind
theorem Za8{P:Pt F}(h:Rf P){v:Vec F}(hv:Mem P v){k:Nat}(hk:v k≠0)(hl:∀j,j<k->v j=0):∃a∈P,a.1=k:=by
 have inc:=h.inc;have low:=h.low;have gen:∀Q:Pt F,Q.Pairwise (λa b=>a.1<b.1)->(∀a∈Q,∀j,j<a.1->a.2 j=0)->(∀j,v j=pr Q v j)->∃a∈Q,v a.1≠0/\∀j,j<a.1->v j=0:=by
  intro Q
  induction Q with
  |nil=>intro _ _ e;exact T7 (e k) hk
  |cons a Q ih=>
   intro inc low e;rw[bf]at inc;by_cases c:v a.1=0
   .obtain⟨b,hb,r⟩:=ih inc.2 (λb hb=>low b<|ao _ hb) λj=>by
     have:v j=v a.1*a.2 j+pr Q v j:=e j;rw[c]at this;grind
    exact#[b,ao _ hb,r]
   .refine#[a,aj ..,c,λj hj=>?_]
    have e1:v j=v a.1*a.2 j+pr Q v j:=e j;have e2:pr Q v j=0:=XI λb hb=>by rw[low b (ao _ hb) j (by have:=inc.1 b hb;lia)];grind
    rw[e1,e2,low a (aj ..) j hj];grind
 obtain⟨a,ha,h1,h2⟩:=gen P inc low hv;refine#[a,ha,?_];by_cases c:a.1<k
 .exact T7 (hl _ c) h1
 .by_cases c2:k<a.1
  .exact T7 (h2 _ c2) hk
  .lia
def JP{P Q:Pt F}(one0:(1:F)≠0)(hP:Rf P)(hQ:Rf Q)(h:∀v,Mem P v->Mem Q v):∀a∈P,∃b∈Q,b.1=a.1:=λa ha=>
 Za8 hQ (h _<|XQ hP ha) (by rw[hP.one a ha];exact one0) (hP.low a ha)
theorem wH:∀{a b:List Nat},a.Pairwise (· < ·)->b.Pairwise (· < ·)->(∀x,x∈a↔x∈b)->a=b
 |[],[],_,_,_=>rfl
 |[],y::b,_,_,h=>by have:=(h y).mpr<|aj ..;cases this
 |x::a,[],_,_,h=>by have:=(h x).mp<|aj ..;cases this
 |x::a,y::b,ha,hb,h=>by
  rw[bf]at ha hb;have e:x=y:=by
   rcases aB.mp ((h x).mp<|aj ..)with e|e
   .exact e
   .rcases aB.mp ((h y).mpr<|aj ..)with e'|e'
    .exact e'.symm
    .have:=hb.1 x e;have:=ha.1 y e';lia
  subst e;rw[wH ha.2 hb.2 λz=>?_]
  constructor
  .intro hz
   rcases aB.mp ((h z).mp<|ao _ hz)with e|e
   .have:=ha.1 z hz;lia
   .exact e
  .intro hz
   rcases aB.mp ((h z).mpr<|ao _ hz)with e|e
   .have:=hb.1 z hz;lia
   .exact e
def Rf.heads{P:Pt F}(h:Rf P):(P.map (·.1)).Pairwise (· < ·):=cT.mpr h.inc
theorem uniq{P Q:Pt F}(one0:(1:F)≠0)(hP:Rf P)(hQ:Rf Q)(h:∀v,Mem P v↔Mem Q v):P=Q:=by
 have eh:=wH hP.heads hQ.heads λx=>by
  constructor
  .intro hx
   obtain⟨a,ha,rfl⟩:=aR.mp hx;obtain⟨b,hb,e⟩:=JP one0 hP hQ (λv=>(h v).mp) a ha
   exact aR.mpr #[b,hb,e]
  .intro hx
   obtain⟨a,ha,rfl⟩:=aR.mp hx;obtain⟨b,hb,e⟩:=JP one0 hQ hP (λv=>(h v).mpr) a ha
   exact aR.mpr #[b,hb,e]
 have ev:∀a∈P,∀b∈Q,a.1=b.1->a.2=b.2:=by
  intro a ha b hb e;have hd:=Ud 1 (XQ hP ha)<|(h _).mpr<|XQ hQ hb
  funext j
  have:=jK hd (λc hc=>by
   have:c.1∈Q.map (·.1):=by rw[<-eh];exact aR.mpr #[c,hc,rfl]
   obtain⟨c',hc',ec⟩:=aR.mp this;by_cases z:c.1=a.1
   .rw[z,hP.one a ha,e,hQ.one b hb];grind
   .rw[hP.zer c hc a ha z,<-ec,hQ.zer c' hc' b hb<|by lia];grind) j
  grind
 clear h hP hQ
 induction P generalizing Q with
 |nil=>cases Q with|nil=>rfl|cons b Q=>cases eh
 |cons a P ih=>cases Q with
  |nil=>cases eh
  |cons b Q=>
   rw[aY,aY]at eh;injection eh with e1 e2
   have e3:=ev a (aj ..) b (aj ..) e1;rw[ih e2 λx hx y hy=>ev x (ao _ hx) y<|ao _ hy]
   rw[Prod.ext e1 e3]
def ins(x:Nat×Vec F):Pt F->Pt F
 |[]=>[x]
 |y::P=>if x.1<y.1 then x::y::P else y::ins x P
theorem YJ(x:Nat×Vec F):∀P:Pt F,(ins x P).Perm (x::P)
 |[]=>cn _
 |y::P=>by
  unfold ins;split
  .exact cn _
  .exact((YJ x P).cons y).trans<|lc x y P
theorem wU(x:Nat×Vec F):∀{P:Pt F},P.Pairwise (λa b=>a.1<b.1)->(∀a∈P,a.1≠x.1)->(ins x P).Pairwise λa b=>a.1<b.1
 |[],_,_=>by exact eA ..
 |y::P,h,hn=>by
  have h':=bf.mp h;unfold ins;split
  .rename_i c
   refine bf.mpr #[λz hz=>?_,h]
   rcases aB.mp hz with rfl|hz
   .exact c
   .have:=h'.1 z hz;lia
  .rename_i c
   refine bf.mpr #[λz hz=>?_,wU x h'.2 λa ha=>hn a<|ao _ ha]
   rcases aB.mp ((YJ x P).mem_iff.mp hz)with rfl|hz
   .have:=hn y<|aj ..;lia
   .exact h'.1 z hz
theorem ZaV(x:Nat×Vec F)(v:Vec F)(j:Nat):∀P:Pt F,pr (ins x P) v j=v x.1*x.2 j+pr P v j
 |[]=>rfl
 |y::P=>by
  unfold ins;split
  .rfl
  .show v y.1*y.2 j+pr (ins x P) v j=v x.1*x.2 j+(v y.1*y.2 j+pr P v j)
   rw[ZaV x v j P];grind
noncomputable def off(h:Nat)(l:Vec F)(a:Nat×Vec F):Nat×Vec F:=(a.1,λj=>a.2 j-a.2 h*l j)
def wid(P:Pt F)(h:Nat)(l:Vec F):Pt F:=ins (h,l)<|P.map<|off h l
theorem jg(h:Nat)(l v:Vec F)(j:Nat):∀P:Pt F,pr (P.map<|off h l) v j=pr P v j-pr P v h*l j
 |[]=>by show(0:F)=0-0*l j;grind
 |a::P=>by
  show v a.1*(a.2 j-a.2 h*l j)+pr (P.map<|off h l) v j=(v a.1*a.2 j+pr P v j)-(v a.1*a.2 h+pr P v h)*l j;rw[jg h l v j P];grind
structure Lead(P:Pt F)(h:Nat)(l:Vec F):Prop where
 one:l h=1
 low:∀j,j<h->l j=0
 zer:∀a∈P,l a.1=0
def Lead.ne{P:Pt F}{h:Nat}{l:Vec F}(one0:(1:F)≠0)(L:Lead P h l){a:Nat×Vec F}(ha:a∈P):a.1≠h:=λe=>by
 have:=L.zer a ha;rw[e,L.one]at this;exact one0 this
theorem jJ{P:Pt F}{h:Nat}{l:Vec F}(one0:(1:F)≠0)(hP:Rf P)(L:Lead P h l):Rf (wid P h l):=by
 have mem:∀{x},x∈wid P h l->x=(h,l)\/∃a∈P,x=off h l a:=λ{x} hx=>by
  rcases aB.mp ((YJ _ _).mem_iff.mp hx)with e|e
  .exact .inl e
  .obtain⟨a,ha,e⟩:=aR.mp e
   exact .inr #[a,ha,e.symm]
 refine#[wU _ ?_ ?_,λx hx j hj=>?_,λx hx=>?_,λx hx y hy ne=>?_]
 .exact cT.mpr hP.inc
 .intro a ha
  obtain⟨b,hb,rfl⟩:=aR.mp ha;exact L.ne (a:=b) one0 hb
 .rcases mem hx with rfl|⟨a,ha,rfl⟩
  .exact L.low j hj
  .show a.2 j-a.2 h*l j=0
   rw[hP.low a ha j hj];by_cases c:h<a.1
   .rw[hP.low a ha h c];grind
   .have:j<a.1:=hj
    rw[L.low j (by have:=L.ne one0 ha;lia)];grind
 .rcases mem hx with rfl|⟨a,ha,rfl⟩
  .exact L.one
  .show a.2 a.1-a.2 h*l a.1=1
   rw[hP.one a ha,L.zer a ha];grind
 .rcases mem hx with rfl|⟨a,ha,rfl⟩
  .rcases mem hy with rfl|⟨b,hb,rfl⟩
   .exact T7 rfl ne
   .show b.2 h-b.2 h*l h=0
    rw[L.one];grind
  .rcases mem hy with rfl|⟨b,hb,rfl⟩
   .exact L.zer a ha
   .show b.2 a.1-b.2 h*l a.1=0
    rw[hP.zer a ha b hb ne,L.zer a ha];grind
def Zcp(P:Pt F)(h:Nat)(l:Vec F):(wid P h l).length=P.length+1:=by
 have:=(YJ (h,l)<|P.map<|off h l).length_eq;rw[aG,ax]at this;exact this
theorem Zb5{P:Pt F}{h:Nat}{l:Vec F}(hP:Rf P)(L:Lead P h l)(u:Vec F):Mem (wid P h l) u↔∃c,Mem P λj=>u j-c*l j:=by
 have e:∀j,pr (wid P h l) u j=u h*l j+(pr P u j-pr P u h*l j):=λj=>by
  unfold wid;rw[ZaV,jg]
 have pl:∀j,pr P l j=0:=λj=>XI λb hb=>by rw[L.zer b hb];grind
 constructor
 .intro hu
  refine#[u h-pr P u h,λj=>?_]
  rw[JX,pl];have:=hu j;rw[e j]at this;show u j-(u h-pr P u h)*l j=_
  grind
 .rintro ⟨c,hc⟩ j
  rw[e j];have h1:=hc j;have h2:u h-c*l h=_:=hc h;rw[JX,pl]at h1 h2;rw[L.one]at h2
  grind
def rest(P:Pt F)(v:Vec F):Vec F:=λj=>v j-pr P v j
theorem ZbR(hP:Rf P)(v:Vec F)(ha:a∈P):rest P v a.1=0:=by
 unfold rest;rw[vi hP ha];grind
theorem UX{P:Pt F}{v:Vec F}:(∀j,rest P v j=0)↔Mem P v:=by
 constructor
 .intro h j;have:=h j;unfold rest at this;grind
 .intro h j;have:=h j;unfold rest;grind
theorem vK{P:Pt F}(hP:Rf P){v:Vec F}{h:Nat}{i:F}(hi:i*rest P v h=1)(hl:∀j,j<h->rest P v j=0):Lead P h λj=>i*rest P v j:=
 #[hi,λj hj=>by rw[hl j hj];grind,λa ha=>by rw[ZbR hP v ha];grind]
theorem ZaS{P:Pt F}(hP:Rf P){v:Vec F}{h:Nat}{i:F}(hi:i*rest P v h=1)(hl:∀j,j<h->rest P v j=0)(u:Vec F) :
  Mem (wid P h λj=>i*rest P v j) u↔∃c,Mem P λj=>u j-c*v j:=by
 rw[Zb5 hP<|vK hP hi hl]
 constructor
 .rintro ⟨c,hc⟩
  refine#[c*i,?_];have:=Ud (c*i) hc<|ZbB hP v;have e:(λj=>(u j-c*(i*rest P v j))-c*i*pr P v j)=λj=>u j-c*i*v j:=by funext j;unfold rest;grind
  rw[e]at this;exact this
 .rintro ⟨c,hc⟩
  refine#[c*rest P v h,?_];have:=YX c hc<|ZbB hP v;have e:(λj=>(u j-c*v j)+c*pr P v j)=λj=>u j-c*rest P v h*(i*rest P v j):=by funext j;unfold rest at hi ⊢;grind
  rw[e]at this;exact this
theorem ZaF(hv:Mem P v)(u:Vec F):Mem P u↔∃c,Mem P λj=>u j-c*v j:=by
 constructor
 .intro h;exact#[0,by have:=Ud 0 h hv;exact this]
 .rintro ⟨c,hc⟩
  have:=YX c hc hv;have e:(λj=>(u j-c*v j)+c*v j)=u:=by funext j;grind
  rw[e]at this;exact this
def Ua(P:Pt F):List (Vec F)->Vec F->Prop
 |[],u=>Mem P u
 |v::vs,u=>∃c,Ua P vs λj=>u j-c*v j
theorem Vx{P P':Pt F}{v:Vec F}(h:∀u,Mem P' u↔∃c,Mem P λj=>u j-c*v j):∀(vs:List (Vec F))(u:Vec F),Ua P' vs u↔Ua P (v::vs) u
 |[],u=>h u
 |w::vs,u=>by
  constructor
  .rintro ⟨d,hd⟩
   obtain⟨c,hc⟩:=(Vx h vs _).mp hd;refine#[c,d,?_];have e:(λj=>u j-c*v j-d*w j)=λj=>u j-d*w j-c*v j:=by funext j;grind
   show Ua P vs λj=>u j-c*v j-d*w j
   rw[e];exact hc
  .rintro ⟨c,d,hc⟩
   refine#[d,(Vx h vs _).mpr #[c,?_]];have e:(λj=>u j-d*w j-c*v j)=λj=>u j-c*v j-d*w j:=by funext j;grind
   show Ua P vs λj=>u j-d*w j-c*v j
   rw[e];exact hc
theorem qQ{P Q:Pt F}(hQ:Rf Q)(u:Vec F):Ua P (Q.map (·.2)) u↔∃q,Mem Q q/\Mem P λj=>u j-q j:=by
 constructor
 .have gen:∀(ws:List (Vec F))(u:Vec F),(∀w∈ws,Mem Q w)->Ua P ws u->∃q,Mem Q q/\Mem P λj=>u j-q j:=by
   intro ws
   induction ws with
   |nil=>intro u _ h;exact#[λ_=>0,Yx,by
    have e:(λj=>u j-0)=u:=by funext j;grind
    rw[e];exact h]
   |cons w ws ih=>
    rintro u hw ⟨c,h⟩
    obtain⟨q,hq,hp⟩:=ih _ (λx hx=>hw x<|ao _ hx) h
    refine#[λj=>q j+c*w j,YX c hq<|hw w<|aj ..,?_]
    have e:(λj=>u j-(q j+c*w j))=λj=>u j-c*w j-q j:=by funext j;grind
    rw[e];exact hp
  exact gen _ u λw hw=>by obtain⟨a,ha,rfl⟩:=aR.mp hw;exact XQ hQ ha
 .rintro ⟨q,hq,hp⟩
  have gen:∀(R:Pt F)(u:Vec F),(Mem P λj=>u j-pr R q j)->Ua P (R.map (·.2)) u:=by
   intro R
   induction R with
   |nil=>
    intro u h;have e:(λj=>u j-pr [] q j)=u:=by funext j;show u j-0=u j;grind
    rw[e]at h;exact h
   |cons a R ih=>
    intro u h;refine#[q a.1,ih _ ?_];have e:(λj=>u j-q a.1*a.2 j-pr R q j)=λj=>u j-pr (a::R) q j:=by funext j;show _=u j-(q a.1*a.2 j+pr R q j);grind
    show Mem P λj=>u j-q a.1*a.2 j-pr R q j
    rw[e];exact h
  refine gen Q u ?_;have e:(λj=>u j-pr Q q j)=λj=>u j-q j:=by funext j;rw[<-hq j]
  rw[e];exact hp
variable{F:Type}[kD F][DecidableEq F]
def Supp(n:Nat)(v:Vec F):Prop:=∀j,n<=j->v j=0
structure Pn(n:Nat)(P:Pt F):Prop where
 rf:Rf P
 lt:∀a∈P,a.1<n
 sp:∀a∈P,Supp n a.2
theorem Pn.nil{n:Nat}:Pn n ([]:Pt F):=#[Rf.nil,λ_ h=>(by cases h),λ_ h=>(by cases h)]
theorem va(h:Pn n P)(v:Vec F):Supp n (pr P v):=λj hj=>XI λb hb=>by rw[h.sp b hb j hj];grind
def j6{n:Nat}{P:Pt F}(h:Pn n P){v:Vec F}(hv:Mem P v):Supp n v:=λj hj=>by rw[hv j];exact va h v j hj
noncomputable def hdV(n:Nat)(v:Vec F):Option Nat:=(aP n).find? λj=>ag<|v j≠0
theorem ZbI{n:Nat}{v:Vec F}(hs:Supp n v)(h:hdV n v=af)(j:Nat):v j=0:=by
 by_cases c:j<n
 .have:=oa.mp h j (bh.mpr c)
  simpa using this
 .exact hs j (by lia)
def yL{n:Nat}{v:Vec F}{k:Nat}(h:hdV n v=aa k):k<n/\v k≠0/\∀j,j<k->v j=0:=by
 unfold hdV at h;rw[lK]at h;obtain⟨h1,h2,h3⟩:=h;refine#[bh.mp h2,by simpa using h1,λj hj=>?_]
 have:=h3 j hj
 simpa using this
def wu{n:Nat}{v:Vec F}{k:Nat}(hk:k<n)(h1:v k≠0)(h2:∀j,j<k->v j=0):hdV n v=aa k:=by
 unfold hdV;rw[lK];exact#[by simpa using h1,bh.mpr hk,λj hj=>by simpa using h2 j hj]
structure Fld(inv:F->F):Prop where
 inv:∀a,a≠0->inv a*a=1
 one0:(1:F)≠0
section
variable{inv:F->F}{n:Nat}
def more(inv:F->F)(n:Nat)(P:Pt F)(v:Vec F):Pt F:=match hdV n (rest P v)with
 |none=>P
 |some h=>wid P h λj=>inv (rest P v h)*rest P v j
structure Grow(n:Nat)(P:Pt F)(v:Vec F)(P':Pt F):Prop where
 pn:Pn n P'
 mem:∀u,Mem P' u↔∃c,Mem P λj=>u j-c*v j
 same:Mem P v->P'=P
 len:¬Mem P v->P'.length=P.length+1
theorem WX(f:Fld inv){P:Pt F}{v:Vec F}(hP:Pn n P)(hv:Supp n v):Grow n P v (more inv n P v):=by
 have hs:Supp n (rest P v):=λj hj=>by unfold rest;rw[hv j hj,va hP v j hj];grind
 cases q:hdV n (rest P v)with
 |none=>
  have e:more inv n P v=P:=by unfold more;rw[q]
  have hm:=UX.mp<|ZbI hs q;rw[e];exact#[hP,ZaF hm,λ_=>rfl,λh=>T7 hm h]
 |some h=>
  have e:more inv n P v=wid P h λj=>inv (rest P v h)*rest P v j:=by unfold more;rw[q]
  obtain⟨h1,h2,h3⟩:=yL q;have hi:=f.inv _ h2;have L:=vK hP.rf hi h3;rw[e];refine#[#[jJ f.one0 hP.rf L,λa ha=>?_,λa ha=>?_],ZaS hP.rf hi h3,λhm=>T7 (UX.mpr hm h) h2,λ_=>Zcp ..]
  .rcases aB.mp ((YJ _ _).mem_iff.mp ha)with e|e
   .rw[e];exact h1
   .obtain⟨b,hb,rfl⟩:=aR.mp e
    exact hP.lt b hb
  .rcases aB.mp ((YJ _ _).mem_iff.mp ha)with e|e
   .rw[e];intro j hj
    show inv (rest P v h)*rest P v j=0;rw[hs j hj];grind
   .obtain⟨b,hb,rfl⟩:=aR.mp e
    intro j hj;show b.2 j-b.2 h*(inv (rest P v h)*rest P v j)=0;rw[hP.sp b hb j hj,hs j hj];grind
def Wy(inv:F->F)(n:Nat)(P:Pt F)(vs:List (Vec F)):Pt F:=vs.foldl (more inv n) P
theorem Vi(f:Fld inv):∀(vs:List (Vec F)){P:Pt F},Pn n P->(∀v∈vs,Supp n v)->Pn n (Wy inv n P vs)/\∀u,Mem (Wy inv n P vs) u↔Ua P vs u
 |[],P,hP,_=>#[hP,λu=>Iff.rfl]
 |v::vs,P,hP,hv=>by
  have g:=WX f hP<|hv v<|aj ..;obtain⟨a,b⟩:=Vi f vs g.pn λw hw=>hv w<|ao _ hw
  exact#[a,λu=>(b u).trans<|Vx g.mem vs u]
def join(inv:F->F)(n:Nat)(P Q:Pt F):Pt F:=Wy inv n P (Q.map (·.2))
def Zdq(f:Fld inv){P Q:Pt F}(hP:Pn n P)(hQ:Pn n Q):Pn n (join inv n P Q):=(Vi f _ hP λv hv=>by obtain⟨a,ha,rfl⟩:=aR.mp hv;exact hQ.sp a ha).1
def UD(f:Fld inv){P Q:Pt F}(hP:Pn n P)(hQ:Pn n Q)(u:Vec F):Mem (join inv n P Q) u↔∃q,Mem Q q/\Mem P λj=>u j-q j:=
 ((Vi f _ hP λv hv=>by obtain⟨a,ha,rfl⟩:=aR.mp hv;exact hQ.sp a ha).2 u).trans (qQ hQ.rf u)
def Zdz(f:Fld inv){P Q:Pt F}(hP:Pn n P)(hQ:Pn n Q)(h:∀v,Mem P v↔Mem Q v):P=Q:=uniq f.one0 hP.rf hQ.rf h
theorem sub_self(u:Vec F):(λj=>u j-u j)=λ_=>0:=by funext j;grind
theorem qF(f:Fld inv){P Q:Pt F}(hP:Pn n P)(hQ:Pn n Q){u:Vec F}(h:Mem P u):Mem (join inv n P Q) u:=
 (UD f hP hQ u).mpr #[λ_=>0,Yx,by
   have e:(λj=>u j-0)=u:=by funext j;grind
   rw[e];exact h]
def QE(f:Fld inv){P Q:Pt F}(hP:Pn n P)(hQ:Pn n Q){u:Vec F}(h:Mem Q u):Mem (join inv n P Q) u:=
 (UD f hP hQ u).mpr #[u,h,by rw[sub_self];exact Yx]
theorem Ux(f:Fld inv){P Q R:Pt F}(hP:Pn n P)(hQ:Pn n Q)(h1:∀u,Mem P u->Mem R u)(h2:∀u,Mem Q u->Mem R u){u:Vec F}(h:Mem (join inv n P Q) u):Mem R u:=by
 obtain⟨q,a,b⟩:=(UD f hP hQ u).mp h;have:=YX 1 (h1 _ b)<|h2 _ a;have e:(λj=>u j-q j+1*q j)=u:=by funext j;grind
 rw[e]at this;exact this
theorem qk(f:Fld inv){P Q M:Pt F}(hP:Pn n P)(hQ:Pn n Q)(hM:Pn n M)(h:∀u,Mem M u↔Mem P u/\Mem Q u):(join inv n P Q).length+M.length=P.length+Q.length:=by
 have gen:∀(vs:List (Vec F))(J T:Pt F),(∀v∈vs,Mem Q v/\Supp n v)->Pn n J->Pn n T->(∀u,Mem T u->Mem Q u)->(∀u,Mem M u->Mem T u)->(∀u,Mem J u↔∃t,Mem T t/\Mem P λj=>u j-t j)->J.length+M.length=P.length+T.length->(Wy inv n J vs).length+M.length=P.length+(Wy inv n T vs).length:=by
  intro vs
  induction vs with
  |nil=>intro J T _ _ _ _ _ _ e;exact e
  |cons v vs ih=>
   intro J T hv hJ hT h1 h2 h3 e;obtain⟨hvQ,hvS⟩:=hv v<|aj ..;have gJ:=WX f hJ hvS;have gT:=WX f hT hvS;refine ih (more inv n J v) (more inv n T v) (λw hw=>hv w<|ao _ hw) gJ.pn gT.pn (λu hu=>?_) (λu hu=>?_) (λu=>?_) ?_
   .obtain⟨c,hc⟩:=(gT.mem u).mp hu
    have:=YX c (h1 _ hc) hvQ;have e:(λj=>u j-c*v j+c*v j)=u:=by funext j;grind
    rw[e]at this;exact this
   .exact(gT.mem u).mpr #[0,by
     have e:(λj=>u j-0*v j)=u:=by funext j;grind
     rw[e];exact h2 u hu]
   .rw[gJ.mem u]
    constructor
    .rintro ⟨c,hc⟩
     obtain⟨t,ht,hp⟩:=(h3 _).mp hc;refine#[λj=>t j+c*v j,(gT.mem _).mpr #[c,?_],?_]
     .have e:(λj=>t j+c*v j-c*v j)=t:=by funext j;grind
      rw[e];exact ht
     .have e:(λj=>u j-(t j+c*v j))=λj=>u j-c*v j-t j:=by funext j;grind
      rw[e];exact hp
    .rintro ⟨t,ht,hp⟩
     obtain⟨c,hc⟩:=(gT.mem t).mp ht;refine#[c,(h3 _).mpr #[_,hc,?_]];have e:(λj=>u j-c*v j-(t j-c*v j))=λj=>u j-t j:=by funext j;grind
     rw[e];exact hp
   .by_cases c:Mem T v
    .have cJ:Mem J v:=(h3 v).mpr #[v,c,by rw[sub_self];exact Yx]
     rw[gJ.same cJ,gT.same c];exact e
    .have cJ:¬Mem J v:=λhc=>by
      obtain⟨t,ht,hp⟩:=(h3 v).mp hc;have hq:Mem Q λj=>v j-t j:=by
       have:=Ud 1 hvQ<|h1 t ht;have e:(λj=>v j-1*t j)=λj=>v j-t j:=by funext j;grind
       rw[e]at this;exact this
      have:=YX 1 (h2 _<|(h _).mpr #[hp,hq]) ht;have e:(λj=>v j-t j+1*t j)=v:=by funext j;grind
      rw[e]at this;exact c this
     rw[gJ.len cJ,gT.len c];lia
 have hv:∀v∈Q.map (·.2),Mem Q v/\Supp n v:=λv hv=>by obtain⟨a,ha,rfl⟩:=aR.mp hv;exact#[XQ hQ.rf ha,hQ.sp a ha]
 have:=gen (Q.map (·.2)) P M hv hP hM (λu hu=>((h u).mp hu).2) (λu hu=>hu) (λu=>by
  constructor
  .intro hu
   exact#[λ_=>0,Yx,by
     have e:(λj=>u j-0)=u:=by funext j;grind
     rw[e];exact hu]
  .rintro ⟨t,ht,hp⟩
   have:=YX 1 hp ((h t).mp ht).1;have e:(λj=>u j-t j+1*t j)=u:=by funext j;grind
   rw[e]at this;exact this) rfl
 have eT:Wy inv n M (Q.map (·.2))=Q:=Zdz f (Zdq f hM hQ) hQ λu=>by
  constructor
  .exact Ux f hM hQ (λu hu=>((h u).mp hu).2) λu hu=>hu
  .exact QE f hM hQ
 rw[eT]at this;exact this
noncomputable def Y4(P:Pt F)(j:Nat):Bool:=(P.map (·.1)).contains j
def free(n:Nat)(P:Pt F):List Nat:=(aP n).filter λj=>!Y4 P j
def av:Pt F->Nat->Vec F
 |[],f,j=>if j=f then 1 else 0
 |a::P,f,j=>if j=a.1 then-a.2 f else av P f j
def Xz :Y4 P j=ak↔∃a∈P,a.1=j:=by
 unfold Y4;rw[fY,aR]
def wI{P:Pt F}{f j:Nat}(h:Y4 P j=al):av P f j=if j=f then 1 else 0:=by
 induction P with
 |nil=>rfl
 |cons a P ih=>
  have h1:¬∃b∈a::P,b.1=j:=λz=>by rw[Xz.mpr z]at h;cases h
  show(if j=a.1 then-a.2 f else av P f j)=_
  rw[T8 λz=>h1 #[a,aj ..,z.symm]]
  exact ih (by
   cases q:Y4 P j with
   |false=>rfl
   |true=>obtain⟨b,hb,e⟩:=Xz.mp q;exact T7 #[b,ao _ hb,e] h1)
def Qx :j∈free n P↔j<n/\Y4 P j=al:=by
 unfold free;rw[cX,bh];simp
theorem Zb2{P:Pt F}(hP:Pn n P){f:Nat}(hf:f<n):Supp n (av P f):=λj hj=>by
 rw[wI (by
  cases q:Y4 P j with
  |false=>rfl
  |true=>obtain⟨b,hb,e⟩:=Xz.mp q;have:=hP.lt b hb;lia),T8<|by lia]
def perp(inv:F->F)(n:Nat)(P:Pt F):Pt F:=Wy inv n []<|(free n P).map<|av P
theorem qX(f:Fld inv){P:Pt F}(hP:Pn n P):(perp inv n P).length+P.length=n:=by
 have gen:∀(L:List Nat)(A:Pt F)(D:List Nat),Pn n A->(∀k∈L,k∈free n P)->L.Nodup->(∀k∈L,k∉D)->(∀u,Mem A u->∀k∈free n P,k∉D->u k=0)->(Wy inv n A<|L.map<|av P).length=A.length+L.length:=by
  intro L
  induction L with
  |nil=>intro A D _ _ _ _ _;rfl
  |cons k L ih=>
   intro A D hA hL hn hD hz;rw[cY]at hn;have hk:=hL k<|aj ..;have g:=WX f hA<|Zb2 hP (Qx.mp hk).1;have nm:¬Mem A (av P k):=λh=>by
    have:=hz _ h k hk<|hD k<|aj ..;rw[wI (Qx.mp hk).2,T9 rfl]at this;exact f.one0 this
   have:=ih (more inv n A<|av P k) (k::D) g.pn (λj hj=>hL j<|ao _ hj) hn.2 (λj hj=>by
    rw[aB]
    rintro (z|z)
    .exact hn.1<|z▸hj
    .exact hD j (ao _ hj) z) λu hu j hj hjD=>by
     obtain⟨c,hc⟩:=(g.mem u).mp hu;rw[aB]at hjD;have h1:=hz _ hc j hj λz=>hjD<|.inr z
     rw[wI (Qx.mp hj).2,T8 λz=>hjD<|.inl z]at h1
     grind
   show(Wy inv n (more inv n A<|av P k)<|L.map<|av P).length=_;rw[this,g.len nm,aG];lia
 have h1:=gen (free n P) [] [] Pn.nil (λ_ h=>h) (m5 _ pe) (λ_ _ h=>by cases h) λu hu k _ _=>hu k
 have h2:=wH (m5 _ List.pairwise_lt_range) hP.rf.heads λx=>by
  rw[cX,bh,Xz,aR]
  constructor
  .rintro ⟨_,a,ha,e⟩;exact#[a,ha,e]
  .rintro ⟨a,ha,e⟩;exact#[by rw[<-e];exact hP.lt a ha,a,ha,e]
 have h3:((aP n).filter<|Y4 P).length+(free n P).length=n:=by
  have gen:∀L:List Nat,(L.filter<|Y4 P).length+(L.filter λj=>!Y4 P j).length=L.length:=by
   intro L
   induction L with
   |nil=>rfl
   |cons k L ih=>
    rw[l7,l7];cases Y4 P k<;>simp<;>lia
  have:=gen<|aP n;rw[bq]at this;exact this
 rw[h2,ax]at h3;have h4:(perp inv n P).length=(free n P).length:=by
  have e:(perp inv n P).length=0+(free n P).length:=h1;lia
 lia
end
end La
namespace Rw
open La
open Ev (ltI Wt ZV)
section
variable{p:Nat}[NeZero p]
noncomputable def ph(p:Nat)[NeZero p](a:Int):Fin p:=Fin.ofNat p (a%p).toNat
theorem ppos:(0:Int)<p:=by have:=NeZero.ne p;lia
theorem YQ(a:Int):((ph p a).val:Int)=a%p:=by
 have h:=ppos (p:=p);have h0:=gX a (by lia:(p:Int)≠0)
 have h1:=fR a h;show((((a%p).toNat)%p:Nat):Int)=a%p;rw[Nat.mod_eq_of_lt<|by lia]
 lia
theorem Ve{x y:Fin p}(h:(x.val:Int)=y.val):x=y:=Fin.ext (by lia)
def Zar(a b:Int):ph p (a+b)=ph p a+ph p b:=Ve (by
 rw[YQ,Fin.val_add];show(a+b)%p=(((ph p a).val+(ph p b).val:Nat):Int)%p;rw[mB,YQ,YQ,<-Int.add_emod])
def jG(a b:Int):ph p (a*b)=ph p a*ph p b:=Ve (by
 rw[YQ,Fin.val_mul];show(a*b)%p=(((ph p a).val*(ph p b).val:Nat):Int)%p;rw[Int.natCast_mul,YQ,YQ,<-Int.mul_emod])
def ZbT(a:Int):ph p (a%p)=ph p a:=Ve (by rw[YQ,YQ,Int.emod_emod])
def W7:ph p 0=0:=Ve (by rw[YQ];simp)
theorem xB(a:Int):ph p (-a) = - ph p a:=by
 have h:ph p (-a+a)=ph p (-a)+ph p a:=Zar _ _;rw[show -a+a=0 by lia,W7]at h
 grind
def J3{a b:Int}(ha:0<=a/\a<p)(hb:0<=b/\b<p)(h:ph p a=ph p b):a=b:=by
 have:=congrArg (λx:Fin p=>(x.val:Int)) h
 simp only[YQ]at this;rw[fv ha.1 ha.2,fv hb.1 hb.2]at this;exact this
theorem Zf3{a:Int}(ha:0<=a/\a<p):ph p a=0↔a=0:=by
 constructor
 .intro h;exact J3 ha #[by lia,ppos] (by rw[h,W7])
 .rintro rfl;exact W7
end
abbrev Row:=List Int
def Zk(p n:Nat)(r:Row):Prop:=r.length=n/\∀a∈r,0<=a/\a<(p:Int)
noncomputable def gt(r:Row)(j:Nat):Int:=r.getD j 0
def XZ{p n:Nat}(h0:(0:Int)<p){r:Row}(h:Zk p n r)(j:Nat):0<=gt r j/\gt r j<p:=by
 unfold gt;rw[aD];cases q:r[j]? with|none=>exact#[Int.le_refl _,h0]|some a=>exact h.2 a<|cU q
def Zan(h:r.length<=j):gt r j=0:=by unfold gt;rw[aD,cZ h];rfl
def wR(hl:r.length=s.length)(h:∀j,gt r j=gt s j):r=s:=by
 apply gF hl;intro j h1 h2;have:=h j;unfold gt at this;rw[aD,aD,ai h1,ai h2]at this;exact this
noncomputable def hdI:Row->Option Nat
 |[]=>af
 |a::r=>if a≠0 then aa 0 else(hdI r).map (· + 1)
theorem YK:∀{r:Row}{k:Nat},hdI r=aa k->gt r k≠0/\k<r.length/\∀j,j<k->gt r j=0
 |[],k,h=>by cases h
 |a::r,k,h=>by
  unfold hdI at h;by_cases c:a≠0
  .rw[T9 c]at h;cases h;exact#[c,by simp,λj hj=>by lia]
  .rw[T8 c]at h
   cases q:hdI r with
   |none=>rw[q]at h;cases h
   |some m=>
    rw[q]at h;have e:m+1=k:=aq h;subst e;obtain⟨h1,h2,h3⟩:=YK q;refine#[h1,by simp;lia,λj hj=>?_]
    cases j with|zero=>exact oJ.mp c|succ j=>exact h3 j (by lia)
theorem Xv:∀{r:Row},hdI r=af->∀j,gt r j=0
 |[],_,j=>Zan<|d4 _
 |a::r,h,j=>by
  unfold hdI at h;by_cases c:a≠0
  .rw[T9 c]at h;cases h
  .rw[T8 c]at h
   have h':=mv.mp h;cases j with|zero=>exact oJ.mp c|succ j=>exact Xv h' j
def ZeB(h1:gt r k≠0)(h2:∀j,j<k->gt r j=0):hdI r=aa k:=by
 cases q:hdI r with
 |none=>exact T7 (Xv q k) h1
 |some m=>
  obtain⟨a,_,c⟩:=YK q;have:¬k<m:=λz=>h1<|c k z
  have:¬m<k:=λz=>a<|h2 m z
  rw[show m=k by lia]
section
variable{p n:Nat}[NeZero p]
def toV(p:Nat)[NeZero p](r:Row):Vec (Fin p):=λj=>ph p<|gt r j
def W6{r s:Row}(hr:Zk p n r)(hs:Zk p n s)(h:toV p r=toV p s):r=s:=
 wR (by rw[hr.1,hs.1]) λj=>J3 (XZ ppos hr j) (XZ ppos hs j)<|congrFun h j
def UR(hr:Zk p n r):Supp n (toV p r):=λj hj=>by unfold toV;rw[Zan (by rw[hr.1];exact hj),W7]
def Yt{r:Row}(hr:Zk p n r){j:Nat}:toV p r j=0↔gt r j=0:=Zf3<|XZ ppos hr j
def Gu(hr:Zk p n r):hdV n (toV p r)=hdI r:=by
 cases q:hdI r with
 |none=>
  cases q2:hdV n (toV p r)with|none=>rfl|some k=>exact T7 ((Yt hr).mpr<|Xv q k) (yL q2).2.1
 |some k=>
  obtain⟨a,b,c⟩:=YK q;exact wu (by rw[<-hr.1];exact b) (λz=>a<|(Yt hr).mp z) λj hj=>(Yt hr).mpr<|c j hj
noncomputable def ZW(p:Nat)(r o:Row)(k:Int):Row:=List.zipWith (λa b=>(a+k*b)%p) r o
noncomputable def X2(p:Nat)(r:Row)(k:Int):Row:=r.map λa=>k*a%p
theorem Zfd(hl:r.length=o.length)(h0:f 0 0=0)(j:Nat):gt (List.zipWith f r o) j=f (gt r j) (gt o j):=by
 unfold gt;simp only[aD];rw[List.getElem?_zipWith];by_cases c:j<r.length
 .rw[ai c,ai<|by lia];rfl
 .rw[cZ (by lia),cZ<|by lia];exact h0.symm
theorem ZH(hr:Zk p n r)(ho:Zk p n o):Zk p n (ZW p r o k):=by
 refine#[by unfold ZW;rw[List.length_zipWith,hr.1,ho.1];simp,λa ha=>?_]
 unfold ZW at ha;rw[<-fC]at ha;obtain⟨⟨x,y⟩,_,rfl⟩:=aR.mp ha;exact#[gX _ (by have:=ppos (p:=p);lia),fR _ ppos]
def Ui(hr:Zk p n r)(ho:Zk p n o)(j:Nat):gt (ZW p r o k) j=(gt r j+k*gt o j)%p:=by
 unfold ZW;rw[Zfd (by rw[hr.1,ho.1])<|by simp]
def YB(hr:Zk p n r)(ho:Zk p n o):toV p (ZW p r o k)=λj=>toV p r j+ph p k*toV p o j:=by
 funext j
 unfold toV;rw[Ui hr ho,ZbT,Zar,jG]
def Zae(j:Nat):gt (X2 p r k) j=k*gt r j%p:=by
 unfold X2 gt;simp only[aD,aQ];cases r[j]?<;>simp
theorem Jw{r:Row}{k:Int}(hr:Zk p n r):Zk p n (X2 p r k):=by
 refine#[by unfold X2;rw[ax,hr.1],λa ha=>?_]
 obtain⟨x,_,rfl⟩:=aR.mp ha;exact#[gX _ (by have:=ppos (p:=p);lia),fR _ ppos]
def u6 :toV p (X2 p r k)=λj=>ph p k*toV p r j:=by
 funext j
 unfold toV;rw[Zae,ZbT,jG]
def toP(p:Nat)[NeZero p](P:List Row):Pt (Fin p):=P.map λr=>((hdI r).getD 0,toV p r)
structure pZ(p n:Nat)[NeZero p](P:List Row):Prop where
 row:∀r∈P,Zk p n r
 pn:Pn n (toP p P)
theorem pZ.nil:pZ p n []:=#[λ_ h=>(by cases h),Pn.nil]
def Yb(h:r∈P):((hdI r).getD 0,toV p r)∈toP p P:=aR.mpr #[r,h,rfl]
def pZ.head(one0:(1:Fin p)≠0)(h:pZ p n P)(hr:r∈P):∃k,hdI r=aa k/\k<n/\toV p r k=1:=by
 have h1:=h.pn.rf.one _<|Yb hr;cases q:hdI r with
 |none=>
  rw[q]at h1;have:toV p r 0=1:=h1;have z:=(Yt<|h.row r hr).mpr<|Xv q 0;rw[z]at this;exact T7 this.symm one0
 |some k=>
  rw[q]at h1;have h2:=h.pn.lt _<|Yb hr;rw[q]at h2;exact#[k,rfl,h2,h1]
def Zdd(hP:∀r∈P,Zk p n r)(hQ:∀r∈Q,Zk p n r)(h:toP p P=toP p Q):P=Q:=by
 induction P generalizing Q with
 |nil=>cases Q with|nil=>rfl|cons b Q=>cases h
 |cons a P ih=>cases Q with
  |nil=>cases h
  |cons b Q=>
   have h':=h;injection h' with e1 e2
   have e3:=congrArg Prod.snd e1;rw[W6 (hP a<|aj ..) (hQ b<|aj ..) e3,ih (λr hr=>hP r<|ao _ hr) (λr hr=>hQ r<|ao _ hr) e2]
def Zcb(P:List Row):(toP p P).map (·.2)=P.map (toV p):=by unfold toP;rw[bO];rfl
def WZ(P:List Row):(toP p P).length=P.length:=by unfold toP;rw[ax]
def clr(p:Nat)(r o:Row)(h:Nat):Row:=ZW p r o<|-(gt r h)
def Zm(p:Nat)(P:List Row)(r:Row):Row:=P.foldl (λs o=>clr p s o<|(hdI o).getD 0) r
theorem WY(hr:Zk p n r)(ho:Zk p n o):toV p (clr p r o h)=λj=>toV p r j-toV p r h*toV p o j:=by
 unfold clr;rw[YB hr ho]
 funext j
 rw[xB];show toV p r j+(- toV p r h)*toV p o j=_
 grind
theorem Uk:∀{P:List Row}{r:Row},(∀o∈P,Zk p n o)->Rf (toP p P)->Zk p n r->Zk p n (Zm p P r)/\toV p (Zm p P r)=rest (toP p P) (toV p r)
 |[],r,_,_,hr=>#[hr,by funext j;show toV p r j=toV p r j-0;grind]
 |o::P,r,hP,hf,hr=>by
  have ho:=hP o<|aj ..;have hc:Zk p n (clr p r o<|(hdI o).getD 0):=ZH hr ho;obtain⟨a,b⟩:=Uk (λo h=>hP o<|ao _ h) hf.tail hc
  refine#[a,?_];show toV p (Zm p P<|clr p r o<|(hdI o).getD 0)=_;rw[b,WY hr ho];have z:∀j,pr (toP p P) (toV p o) j=0:=λj=>XI λc hc=>by
   have:toV p o c.1=0:=by
    have h1:c∈toP p (o::P):=ao _ hc;have h2:((hdI o).getD 0,toV p o)∈toP p (o::P):=aj ..;have h3:=(bf.mp hf.inc).1 c hc;exact hf.zer c h1 _ h2 (by simp only at h3 ⊢;lia)
   rw[this];grind
  funext j
  unfold rest;rw[JX,z];show toV p r j-toV p r ((hdI o).getD 0)*toV p o j-(pr (toP p P) (toV p r) j-_*0)=toV p r j-(toV p r ((hdI o).getD 0)*toV p o j+pr (toP p P) (toV p r) j)
  grind
def jR(hP:pZ p n P)(hr:Zk p n r):hdI (Zm p P r)=af↔Mem (toP p P) (toV p r):=by
 obtain⟨a,b⟩:=Uk hP.row hP.pn.rf hr;rw[<-UX,<-b]
 constructor
 .intro h j;exact(Yt a).mpr<|Xv h j
 .intro h
  cases q:hdI (Zm p P r)with|none=>rfl|some k=>exact T7 ((Yt a).mp<|h k) (YK q).1
end
noncomputable def QB(p:Nat)(a:Int):Int:=if a=1 then 1 else if p=3 then 2 else if a=2 then 3 else if a=3 then 2 else 4
def G5(p:Nat)[NeZero p](x:Fin p):Fin p:=ph p<|QB p x.val
class Base(p:Nat):Prop where
 b:p=2\/p=3\/p=5
instance(p:Nat)[h:Base p]:NeZero p:=⟨by rcases h.b with e|e|e<;>lia⟩
section
variable{p n:Nat}[Base p]
def fld2:∀a:Fin 2,a≠0->G5 2 a*a=1:=by decide
def fld3:∀a:Fin 3,a≠0->G5 3 a*a=1:=by decide
def fld5:∀a:Fin 5,a≠0->G5 5 a*a=1:=by decide
def one2:(1:Fin 2)≠0:=by decide
def one3:(1:Fin 3)≠0:=by decide
def one5:(1:Fin 5)≠0:=by decide
def fld:Fld (G5 p):=by
 rcases(inferInstance:Base p).b with e|e|e<;>subst e
 .exact#[fld2,one2]
 .exact#[fld3,one3]
 .exact#[fld5,one5]
def ZcL{a:Int}(h:0<=a/\a<(p:Int)):((ph p a).val:Int)=a:=by rw[YQ,fv h.1 h.2]
def lead(p:Nat)(s:Row)(h:Nat):Row:=X2 p s<|QB p<|gt s h
def U5(p:Nat)(P:List Row)(r:Row):List Row:=match hdI (Zm p P r)with
 |none=>P
 |some h=>(ZV<|P.map (λo=>clr p o (lead p (Zm p P r) h) h)++[lead p (Zm p P r) h]).reverse
def yD(h:Nat)(x:Row):List Row->List Row
 |[]=>[x]
 |y::P=>if h<(hdI y).getD 0 then x::y::P else y::yD h x P
theorem VV(h:Nat)(x:Row):∀P:List Row,(yD h x P).Perm (x::P)
 |[]=>cn _
 |y::P=>by
  unfold yD;split
  .exact cn _
  .exact((VV h x P).cons y).trans<|lc x y P
theorem yw{h:Nat}{x:Row}(hx:hdI x=aa h):∀P:List Row,toP p (yD h x P)=ins (h,toV p x) (toP p P)
 |[]=>by show[((hdI x).getD 0,toV p x)]=_;rw[hx];rfl
 |y::P=>by
  unfold yD;show toP p (if h<(hdI y).getD 0 then _ else _)=(if h<(hdI y).getD 0 then _ else _)
  split
  .show((hdI x).getD 0,toV p x)::_=_;rw[hx];rfl
  .show((hdI y).getD 0,toV p y)::toP p (yD h x P)=_;rw[yw hx P];rfl
theorem jw:∀{a b:Row}{h:Nat},a.length=b.length->(∀j,j<h->gt a j=gt b j)->gt b h<gt a h->h<a.length->ltI b a=ak
 |[],_,_,_,_,_,hl=>by simp at hl
 |x::a,[],_,e,_,_,_=>by simp at e
 |x::a,y::b,0,_,_,hlt,_=>by
  have:y<x:=hlt;unfold ltI;rw[T8<|by lia]
  exact T5 this
 |x::a,y::b,h+1,e,hj,hlt,hl=>by
  have:x=y:=hj 0 (by lia)
  unfold ltI;rw[T9 this.symm];exact jw (by simpa using e) (λj h'=>hj (j+1)<|by lia) hlt (by simpa using hl)
theorem ZaD{a b:Row}{h k:Nat}(ha:Zk p n a)(hb:Zk p n b)(h1:hdI a=aa h)(h2:hdI b=aa k)(hk:h<k):ltI b a=ak:=by
 obtain⟨a1,a2,a3⟩:=YK h1;obtain⟨b1,b2,b3⟩:=YK h2;refine jw (by rw[ha.1,hb.1]) (λj hj=>by rw[a3 j hj,b3 j<|by lia]) ?_ a2
 rw[b3 h hk];have:=(XZ ppos ha h).1;lia
def pZ.falls{P:List Row}(hP:pZ p n P):P.Pairwise λa b=>ltI b a=ak:=by
 have inc:P.Pairwise λa b=>(hdI a).getD 0<(hdI b).getD 0:=by
  have:=hP.pn.rf.inc;unfold toP at this;rw[cT]at this;exact this
 refine gV (λ{a b} ha hb hab=>?_) inc
 obtain⟨h,e1,_⟩:=hP.head fld.one0 ha;obtain⟨k,e2,_⟩:=hP.head fld.one0 hb;rw[e1,e2]at hab;exact ZaD (hP.row a ha) (hP.row b hb) e1 e2 hab
def V8{P:List Row}(h:P.Pairwise λa b=>ltI b a=ak):P.Nodup:=List.Pairwise.imp (λ{a b} hab e=>by
 rw[e]at hab;have:=Sd.Wj hab;rw[hab]at this;cases this) h
def ZcN{P Q:List Row}(hp:Q.Perm P)(h:Q.Pairwise λa b=>ltI b a=ak):(ZV P).reverse=Q:=by
 have hn:P.Nodup:=(hp.nodup_iff).mp<|V8 h;have e:ZV P=Q.reverse:=Sd.Wb ((Sd.Y8 P).trans<|hp.symm.trans (eo Q).symm) (Sd.XO hn)<|eY.mpr h;rw[e,List.reverse_reverse]
def wa{P:List Row}{r:Row}(hP:pZ p n P)(hr:Zk p n r):pZ p n (U5 p P r)/\toP p (U5 p P r)=more (G5 p) n (toP p P) (toV p r):=by
 obtain⟨s1,s2⟩:=Uk hP.row hP.pn.rf hr;have eh:=Gu s1;rw[s2]at eh;have g:=WX fld hP.pn<|UR hr;unfold U5;cases q:hdI (Zm p P r)with
 |none=>
  rw[q]at eh;exact#[hP,by unfold more;rw[eh]]
 |some h=>
  rw[q]at eh;have em:more (G5 p) n (toP p P) (toV p r)=wid (toP p P) h (toV p<|lead p (Zm p P r) h):=by
   unfold more;rw[eh];show wid _ h _=_
   congr 1
   unfold lead;rw[u6,s2]
   funext j
   congr 1
   unfold G5;rw[<-s2];show ph p (QB p<|(ph p<|gt (Zm p P r) h).val)=_;rw[ZcL<|XZ ppos s1 h]
  have hl:Zk p n (lead p (Zm p P r) h):=Jw s1;rw[em]at g;have mem:∀x∈wid (toP p P) h (toV p<|lead p (Zm p P r) h),hdV n x.2=aa x.1:=λx hx=>wu (g.pn.lt x hx) (by rw[g.pn.rf.one x hx];exact fld.one0)<|g.pn.rf.low x hx
  have hx:hdI (lead p (Zm p P r) h)=aa h:=by
   rw[<-Gu hl];exact mem (h,toV p<|lead p (Zm p P r) h)<|(YJ _ _).mem_iff.mpr<|aj ..
  have e1:toP p (P.map λo=>clr p o (lead p (Zm p P r) h) h)=(toP p P).map (off h<|toV p<|lead p (Zm p P r) h):=by
   unfold toP;rw[bO,bO];refine dN λo ho=>?_
   have ho':=hP.row o ho;have hc:Zk p n (clr p o (lead p (Zm p P r) h) h):=ZH ho' hl;have ev:toV p (clr p o (lead p (Zm p P r) h) h)=(off h (toV p<|lead p (Zm p P r) h) ((hdI o).getD 0,toV p o)).2:=WY ho' hl;show((hdI<|clr p o (lead p (Zm p P r) h) h).getD 0,toV p<|clr p o (lead p (Zm p P r) h) h)=off h _ ((hdI o).getD 0,toV p o);have:=mem (off h (toV p<|lead p (Zm p P r) h) ((hdI o).getD 0,toV p o))<|(YJ _ _).mem_iff.mpr<|ao _<|aR.mpr #[_,Yb ho,rfl];rw[<-ev,Gu hc]at this;rw[this,ev];rfl
  have e2:toP p (yD h (lead p (Zm p P r) h)<|P.map λo=>clr p o (lead p (Zm p P r) h) h)=wid (toP p P) h (toV p<|lead p (Zm p P r) h):=by
   rw[yw hx,e1];rfl
  have hQ:pZ p n (yD h (lead p (Zm p P r) h)<|P.map λo=>clr p o (lead p (Zm p P r) h) h):=by
   refine#[λx hx=>?_,by rw[e2];exact g.pn]
   rcases aB.mp ((VV _ _ _).mem_iff.mp hx)with e|e
   .rw[e];exact hl
   .obtain⟨o,ho,rfl⟩:=aR.mp e
    exact ZH (hP.row o ho) hl
  have e3:=ZcN ((VV h (lead p (Zm p P r) h)<|P.map λo=>clr p o (lead p (Zm p P r) h) h).trans (List.perm_append_singleton _ _).symm) hQ.falls
  show pZ p n (ZV _).reverse/\toP p (ZV _).reverse=_;rw[e3];exact#[hQ,by rw[e2,em]]
def Xw(p:Nat)(P:List Row)(rs:List Row):List Row:=rs.foldl (U5 p) P
theorem GD:∀{rs:List Row}{P:List Row},pZ p n P->(∀r∈rs,Zk p n r)->pZ p n (Xw p P rs)/\toP p (Xw p P rs)=Wy (G5 p) n (toP p P) (rs.map<|toV p)
 |[],P,hP,_=>#[hP,rfl]
 |r::rs,P,hP,hr=>by
  obtain⟨a,b⟩:=wa hP<|hr r<|aj ..;obtain⟨c,d⟩:=GD (rs:=rs) a λx hx=>hr x<|ao _ hx
  refine#[c,?_];show toP p (Xw p (U5 p P r) rs)=_;rw[d,b];rfl
def X3{P Q:List Row}(hP:pZ p n P)(hQ:pZ p n Q):pZ p n (Xw p P Q)/\toP p (Xw p P Q)=join (G5 p) n (toP p P) (toP p Q):=by
 obtain⟨a,b⟩:=GD hP hQ.row;exact#[a,by rw[b];unfold join;rw[Zcb]]
def Z4(P:List Row):List Nat:=P.map λr=>(hdI r).getD 0
def qD(P:List Row):(toP p P).map (·.1)=Z4 P:=by unfold toP Z4;rw[bO];rfl
end
section
variable{p n:Nat}[Base p]
abbrev Mm(p:Nat)[NeZero p](P:List Row)(u:Vec (Fin p)):Prop:=Mem (toP p P) u
def eqP(hA:pZ p n A)(hB:pZ p n B)(h:∀u,Mm p A u↔Mm p B u):A=B:=Zdd hA.row hB.row<|Zdz fld hA.pn hB.pn h
def vU{P Q:List Row}(hP:pZ p n P)(hQ:pZ p n Q){u:Vec (Fin p)}(h:Mm p P u):Mm p (Xw p P Q) u:=by
 unfold Mm;rw[(X3 hP hQ).2];exact qF fld hP.pn hQ.pn h
def US{P Q:List Row}(hP:pZ p n P)(hQ:pZ p n Q){u:Vec (Fin p)}(h:Mm p Q u):Mm p (Xw p P Q) u:=by
 unfold Mm;rw[(X3 hP hQ).2];exact QE fld hP.pn hQ.pn h
def Qv{P Q R:List Row}(hP:pZ p n P)(hQ:pZ p n Q)(h1:∀u,Mm p P u->Mm p R u)(h2:∀u,Mm p Q u->Mm p R u){u:Vec (Fin p)}(h:Mm p (Xw p P Q) u):Mm p R u:=by
 unfold Mm at h;rw[(X3 hP hQ).2]at h;exact Ux fld hP.pn hQ.pn h1 h2 h
def pJ{P Q:List Row}(hP:pZ p n P)(hQ:pZ p n Q):pZ p n (Xw p P Q):=(X3 hP hQ).1
def uO{P Q:List Row}(hP:pZ p n P)(hQ:pZ p n Q):Xw p P Q=Xw p Q P:=eqP (pJ hP hQ) (pJ hQ hP) λu=>
 #[Qv hP hQ (λu=>US hQ hP) λu=>vU hQ hP,Qv hQ hP (λu=>US hP hQ) λu=>vU hP hQ]
def ZbC{P Q:List Row}(hP:pZ p n P)(hQ:pZ p n Q)(h:∀u,Mm p P u->Mm p Q u):Xw p P Q=Q:=eqP (pJ hP hQ) hQ λu=>
 #[Qv hP hQ h λ_ h=>h,US hP hQ]
def Zcc{P:List Row}(u:Vec (Fin p))(h:Mm p ([]:List Row) u):Mm p P u:=by
 have e:u=λ_=>0:=funext λj=>h j
 rw[e];exact Yx
def Vw(p:Nat)(P:List Row)(r:Row):Bool:=(hdI<|Zm p P r).isNone
def ZZ(hP:pZ p n P)(hr:Zk p n r):Vw p P r=ak↔Mm p P (toV p r):=by
 unfold Mm;rw[<-jR hP hr];unfold Vw;cases hdI (Zm p P r)<;>simp
theorem vw{F:Type}[kD F]{x:Nat×Vec F}:∀{P:Pt F},(∀a∈P,a.1<x.1)->ins x P=P++[x]
 |[],_=>rfl
 |y::P,h=>by
  unfold ins;rw[T8 (by have:=h y<|aj ..;lia),vw λa ha=>h a<|ao _ ha];rfl
theorem qp{P:List Row}{l:Row}{j:Nat}(hP:pZ p n P)(hl:Zk p n l)(hj:j<n)(h1:gt l j=1)(h0:∀i,i<j->gt l i=0)(hh:∀r∈P,(hdI r).getD 0<j):pZ p n (P.map (λo=>clr p o l j)++[l])/\∀r∈P.map (λo=>clr p o l j)++[l],(hdI r).getD 0<j+1:=by
 have one:ph p 1=1:=by rcases(inferInstance:Base p).b with e|e|e<;>subst e<;>rfl
 have hlt:∀a∈toP p P,a.1<j:=λa ha=>by
  unfold toP at ha;obtain⟨r,hr,rfl⟩:=aR.mp ha;exact hh r hr
 have L:Lead (toP p P) j (toV p l):=#[by unfold toV;rw[h1,one],λi hi=>(Yt hl).mpr<|h0 i hi,λa ha=>(Yt hl).mpr<|h0 _<|hlt a ha]
 have rf:=jJ fld.one0 hP.pn.rf L;have ew:wid (toP p P) j (toV p l)=(toP p P).map (off j<|toV p l)++[(j,toV p l)]:=vw λa ha=>by
  obtain⟨b,hb,rfl⟩:=aR.mp ha;exact hlt b hb
 have hx:hdI l=aa j:=ZeB (by rw[h1];decide) h0
 have hmem:∀o∈P,off j (toV p l) ((hdI o).getD 0,toV p o)∈wid (toP p P) j (toV p l):=λo ho=>by
  rw[ew];exact dE _<|aR.mpr #[_,Yb ho,rfl]
 have eh:∀o∈P,hdI (clr p o l j)=aa ((hdI o).getD 0):=λo ho=>by
  have ho':=hP.row o ho;have hc:Zk p n (clr p o l j):=ZH ho' hl;have ev:toV p (clr p o l j)=(off j (toV p l) ((hdI o).getD 0,toV p o)).2:=WY ho' hl;rw[<-Gu hc,ev];exact wu (hP.pn.lt _<|Yb ho) (λz=>fld.one0<|(rf.one _<|hmem o ho).symm.trans z)<|rf.low _<|hmem o ho
 have eP:toP p (P.map (λo=>clr p o l j)++[l])=wid (toP p P) j (toV p l):=by
  rw[ew];unfold toP;rw[br,bO,bO]
  congr 1
  .refine dN λo ho=>?_
   show((hdI<|clr p o l j).getD 0,toV p<|clr p o l j)=off j _ ((hdI o).getD 0,toV p o);rw[eh o ho,WY (hP.row o ho) hl];rfl
  .show[((hdI l).getD 0,toV p l)]=_
   rw[hx];rfl
 have hrow:∀r∈P.map (λo=>clr p o l j)++[l],Zk p n r:=λr hr=>by
  rcases bD.mp hr with z|z
  .obtain⟨o,ho,rfl⟩:=aR.mp z
   exact ZH (hP.row o ho) hl
  .rw[aK.mp z];exact hl
 refine#[#[hrow,#[by rw[eP];exact rf,λa ha=>?_,λa ha=>?_]],λr hr=>?_]
 .unfold toP at ha
  obtain⟨r,hr,rfl⟩:=aR.mp ha;rcases bD.mp hr with z|z
  .obtain⟨o,ho,rfl⟩:=aR.mp z
   show(hdI _).getD 0<n;rw[eh o ho];exact hP.pn.lt _<|Yb ho
  .rw[aK.mp z];rw[hx];exact hj
 .unfold toP at ha
  obtain⟨r,hr,rfl⟩:=aR.mp ha;exact UR<|hrow r hr
 .rcases bD.mp hr with z|z
  .obtain⟨o,ho,rfl⟩:=aR.mp z
   rw[eh o ho];have:=hh o ho;show(hdI o).getD 0<j+1;lia
  .rw[aK.mp z,hx];show j<j+1;lia
end
end Rw
namespace Pv
open Ev
open Rw
def Za{B β:Type}{a:B}{s:DS}{f:B->DS->PR β}:(PR.ok a s).bind f=f a s:=rfl
def V2(hf:F[f]?=aa fn)(hne:f≠tk)(hl:vs.length=fn.ps):Zl F tk (d+1) f vs s=(rvs (Zl F tk d) (muts fn.body) fn.body (ZN fn.ns vs) [] s).bind λg s=>match g with
  |.ret v=>.ok v s
  |.nx _ _=>.ok .non s:=by
 rw[Zl,T8 hne,hf];show(if vs.length=fn.ps then _ else _)=_
 rw[T9 hl]
 all_goals rfl
def jL(s:DS)(h:0<m):0<=(X8 s m).1/\(X8 s m).1<m:=by
 unfold X8;split
 .exact#[gX _ (by lia),fR _ h]
 .exact#[gX _ (by lia),fR _ h]
def um(s:DS)(h0:0<m)(h1:m<1073741824):∃v s',Zl F tk (d+1) tk [.drw,.int m] s=.ok (.int v) s'/\0<=v/\v<m:=by
 refine#[(X8 s m).1,(X8 s m).2,?_,jL s h0];rw[Zl,T9 rfl];show(if 0<m/\m<1073741824 then _ else _)=_
 rw[T9 #[h0,h1]]
theorem UL{B:Type}{f:V->DS->PR (List V)}{s:DS}{e:B->V}{g:B->V}:∀{l:List B},(∀x∈l,f (e x) s=.ok [g x] s)->mapP f (l.map e) s=.ok (l.map g) s
 |[],_=>rfl
 |x::l,h=>by
  rw[aY,mapP,h x<|aj ..];show(match mapP f (l.map e) s with|.ok zs s=>PR.ok ([g x]++zs) s|_=>.no)=_
  rw[UL λy hy=>h y<|ao _ hy];rfl
theorem VZ{B:Type}{f:V->DS->PR (List V)}{s:DS}{e:B->V}{g:B->V}{q:B->Bool}:∀{l:List B},(∀x∈l,f (e x) s=.ok (if q x=ak then[g x]else[]) s)->mapP f (l.map e) s=.ok ((l.filter q).map g) s
 |[],_=>rfl
 |x::l,h=>by
  rw[aY,mapP,h x<|aj ..];show(match mapP f (l.map e) s with|.ok zs s=>PR.ok ((if q x=ak then[g x]else[])++zs) s|_=>.no)=_
  rw[VZ λy hy=>h y<|ao _ hy,l7]
  cases q x<;>rfl
theorem Jr{B:Type}{f:V->DS->PR (List V)}{s:DS}{e:B->V}{g:B->List V}:∀{l:List B},(∀x∈l,f (e x) s=.ok (g x) s)->mapP f (l.map e) s=.ok (l.flatMap g) s
 |[],_=>rfl
 |x::l,h=>by
  rw[aY,mapP,h x<|aj ..];show(match mapP f (l.map e) s with|.ok zs s=>PR.ok (g x++zs) s|_=>.no)=_
  rw[Jr λy hy=>h y<|ao _ hy];rfl
theorem Jx{Z B:Type}{body:V->Env->List Nat->DS->PR FlV}{s:DS}{os:List Nat}{U:Z->Option V->Env}{step:Z->B->Z}{e:B->V}(I:Z->Prop):∀{l:List B}{st:Z}{o:Option V},I st->(∀x∈l,∀st o,I st->I (step st x)/\∃o',body (e x) (U st o) os s=.ok (.nx (U (step st x) o') os) s)->∃o',I (l.foldl step st)/\XW body (l.map e) (U st o) os s=.ok (.nx (U (l.foldl step st) o') os) s
 |[],st,o,hI,_=>#[o,hI,rfl]
 |x::l,st,o,hI,h=>by
  obtain⟨h1,o1,e1⟩:=h x (aj ..) st o hI;obtain⟨o2,h2,e2⟩:=Jx I h1 λy hy=>h y<|ao _ hy
  refine#[o2,h2,?_];rw[aY,XW,e1];exact e2
noncomputable def yq:Option Nat->V
 |none=>.non
 |some k=>.int k
noncomputable def spV(p n:Nat):V:=.tup [.int p,.int n]
def Yr{a:Int}(h:-4294967296<a)(h':a<4294967296):fits a=ak:=by
 refine T5 ?_;have h1:a.natAbs<2^32:=by lia
 exact bt h1<|cH (by decide)<|by decide
def Qc{B:Type}{xs:List B}{k:Nat}{x:B}(h:xs[k]?=aa x):at' xs (k:Int)=aa x:=by
 have hk:=(aF.mp h).1;unfold at' ixN;rw[T9 (by lia),T9<|by lia]
 rw[show(k:Int).toNat=k by lia];exact h
def U7{r:Row}{k:Nat}(hk:k<r.length):at' (r.map V.int) (k:Int)=aa (.int<|gt r k):=by
 refine Qc ?_;rw[aQ,ai hk];unfold gt;rw[aD,ai hk];rfl
theorem ZX{B:Type}{g:B->Bool}:∀l:List B,Yo (l.map λx=>.bl<|g x)=aa (l.map g)
 |[]=>rfl
 |x::l=>by rw[aY,Yo,ZX l];rfl
theorem QL:∀(r o:Row),((r.map V.int).zip<|o.map V.int).map (λq=>V.tup [q.1,q.2])=(r.zip o).map λq=>V.tup [.int q.1,.int q.2]
 |[],_=>rfl
 |_::_,[]=>rfl
 |a::r,b::o=>by rw[aY,aY,cc,aY,cc,aY,QL r o]
theorem Wk:∀r:Row,intsV (r.map V.int)=aa r
 |[]=>rfl
 |a::r=>by show(intsV<|r.map V.int).map (a :: ·)=_;rw[Wk r];rfl
theorem Y0:∀P:List Row,Yd (P.map Zd)=aa P
 |[]=>rfl
 |r::P=>by
  show(match intsV (r.map V.int),Yd (P.map Zd)with|some a,aa b=>aa (a::b)|_,_=>af)=_
  rw[Wk,Y0 P]
theorem XA:∀r:Row,ZL (r.map V.int)=ak
 |[]=>rfl
 |a::r=>XA r
def ZcU(n:Nat):ZU 0 n=(aP n).map λ(k:Nat)=>V.int (k:Int):=by
 refine dN λk _=>?_
 simp
def Yg{B:Type}{a:B}{s:DS}:po (aa a) s=.ok a s:=rfl
section
variable{C:Zr}{cap:List Nat}{nl:Nat}{t:List Nat}{it:W}{elt tst:E}{U:Env}{s:DS}{B:Type}
def Zy{l:List B}{e g:B->V}(hw:pvw C it U s=.ok (l.map e) s)(hl:l.length<=lim)(h:∀x∈l,∃Z,Zo t (e x) (Ye cap nl U)=aa Z/\pv C elt Z s=.ok (g x) s)(ho:own nl t=ak:=by rfl):pv C (.comp1 cap nl t it [] elt) U s=.ok (.lst<|l.map g) s:=by
 rw[pv,T9 ho,hw,Za,UL λx hx=>by
  obtain⟨Z,e1,e2⟩:=h x hx;rw[e1,Yg,Za,pvt,Za];rw[e2];rfl]
 rw[Za,T9<|by rw[ax];exact hl];rfl
def YI{l:List B}{e g:B->V}{q:B->Bool}(hw:pvw C it U s=.ok (l.map e) s)(hl:l.length<=lim)(h:∀x∈l,∃Z v,Zo t (e x) (Ye cap nl U)=aa Z/\pv C tst Z s=.ok v s/\Zq v=aa (q x)/\(q x=ak->pv C elt Z s=.ok (g x) s))(ho:own nl t=ak:=by rfl):pv C (.comp1 cap nl t it [tst] elt) U s=.ok (.lst<|(l.filter q).map g) s:=by
 rw[pv,T9 ho,hw,Za,VZ (q:=q) λx hx=>by
  obtain⟨Z,v,e1,e2,e3,e4⟩:=h x hx;rw[e1,Yg,Za,pvt,e2,Za,e3,Yg,Za];cases c:q x with
  |true=>
   rw[T9 rfl,pvt,Za,T9 rfl,T9 rfl,e4 c];rfl
  |false=>rw[T8 (by simp),Za,T8 (by simp),T8<|by simp]]
 rw[Za,T9<|by rw[ax];exact bX (gd ..) hl];rfl
def z6{β:Type}{u:List Nat}{jt:W}{l:List B}{e:B->V}{m:B->List β}{e2:β->V}{g:B->β->V}(hw:pvw C it U s=.ok (l.map e) s)(hl:(l.flatMap λx=>(m x).map<|g x).length<=lim)
  (h:∀x∈l,∃Z,Zo t (e x) (Ye cap nl U)=aa Z/\pvw C jt Z s=.ok ((m x).map e2) s/\∀y∈m x,∃σ',Zo u (e2 y) Z=aa σ'/\pv C elt σ' s=.ok (g x y) s)(ho:own2 nl t u=ak:=by rfl):pv C (.comp2 cap nl t it [] u jt [] elt) U s=.ok (.lst<|l.flatMap λx=>(m x).map<|g x) s:=by
 rw[pv,T9 ho,hw,Za,Jr λx hx=>by
  obtain⟨Z,e1,e3,e4⟩:=h x hx;rw[e1,Yg,Za,pvt,Za,T9 rfl,e3,Za];exact UL λy hy=>by
   obtain⟨σ',f1,f2⟩:=e4 y hy;rw[f1,Yg,Za,pvt,Za];rw[f2];rfl]
 rw[Za,T9 hl];rfl
end
def jj{xs:List V}{k:Nat}(h:k<=xs.length):YW xs af (aa (k:Int))=xs.take k:=by
 show(xs.drop 0).take ((if(k:Int)<0 then((k:Int)+xs.length).toNat else rX (k:Int).toNat xs.length)-0)=_
 rw[T8 (by lia),show rX (k:Int).toNat xs.length-0=k by lia];rfl
def yB{xs:List V}{i:Int}{k:Nat}(hi:i=k)(h:k<=xs.length):YW xs (aa i) af=xs.drop k:=by
 subst hi;show(xs.drop<|if(k:Int)<0 then((k:Int)+xs.length).toNat else rX (k:Int).toNat xs.length).take (xs.length-(if(k:Int)<0 then((k:Int)+xs.length).toNat else rX (k:Int).toNat xs.length))=_
 rw[T8 (by lia),show rX (k:Int).toNat xs.length=k by lia]
 exact cq (by rw[bP];lia)
def Qa{xs:List V}:YW xs (aa 1) af=xs.tail:=by
 cases xs with|nil=>rfl|cons x xs=>exact yB rfl (by simp)
noncomputable def Zh(k:Nat):V:=.int k
def ZcB(n:Nat):ZU 0 n=(aP n).map Zh:=by rw[ZcU];rfl
def Xb(h0:0<=i)(h1:i<1000000):Yh i=ak:=by
 unfold Yh;have e:(2:Int)^62=4611686018427387904:=by decide
 rw[e];exact T5 #[by lia,by lia]
def Zp(hf:F[f]?=aa fn)(hne:f≠tk)(hl:vs.length=fn.ps)(h:rvs (Zl F tk d) (muts fn.body) fn.body (ZN fn.ns vs) [] s=.ok (.ret v) s'):Zl F tk (d+1) f vs s=.ok v s':=by
 rw[V2 hf hne hl,h];rfl
def Ut(hf:F[f]?=aa fn)(hne:f≠tk)(hl:vs.length=fn.ps)(h:rvs (Zl F tk d) (muts fn.body) fn.body (ZN fn.ns vs) [] s=.ok (.nx U os) s'):Zl F tk (d+1) f vs s=.ok .non s':=by
 rw[V2 hf hne hl,h];rfl
def Ze(h:rv C ms m U os s=.ok (.nx ρ' os') s'):rvs C ms (m::l) U os s=rvs C ms l ρ' os' s':=by rw[rvs,h];rfl
def Zt(h:rv C ms m U os s=.ok (.ret v) s'):rvs C ms (m::l) U os s=.ok (.ret v) s':=by rw[rvs,h];rfl
def ZS(h:pv C e U s=.ok v s'):rv C ms (.ret e) U os s=.ok (.ret v) s':=by rw[rv,h];rfl
def UV(h:pv C (.call f as) U s=.ok v s'):rv C ms (.ex<|.call f as) U os s=.ok (.nx U os) s':=by
 have:rv C ms (.ex<|.call f as) U os s=(pv C (.call f as) U s).bind λ_ s=>.ok (.nx U os) s:=by
  rw[rv]
  all_goals(intro _ _ z;cases z)
 rw[this,h];rfl
def Yv{b:Bool}{t:E}{x y:List Sm}(h:Yk C t U s=.ok b s'):rv C ms (.ite t x y) U os s=if b=ak then rvs C ms x U os s' else rvs C ms y U os s':=by rw[rv,h];rfl
def Z6{v:V}{b:Bool}{t:E}(h:pv C t U s=.ok v s')(hb:Zq v=aa b):Yk C t U s=.ok b s':=by unfold Yk;rw[h,Za,hb];rfl
def ZA{f:Nat}{as:List E}{vs:List V}{v:V}{s1:DS}(h:pvs C as U s=.ok vs s1)(hc:C f vs s1=.ok v s'):pv C (.call f as) U s=.ok v s':=by rw[pv,h];exact hc
def Zi:pvs C [] U s=.ok [] s:=by rw[pvs]
def Zc{e:E}{es:List E}{v:V}{vs:List V}{s1:DS}(h:pv C e U s=.ok v s1)(h2:pvs C es U s1=.ok vs s'):pvs C (e::es) U s=.ok (v::vs) s':=by rw[pvs,h,Za,h2];rfl
def Zf{i:Nat}{v:V}(h:U[i]?=aa (aa v)):pv C (.v i) U s=.ok v s:=by rw[pv,h];rfl
def Yp{i:Nat}{e:E}{v:V}(h:pv C e U s=.ok v s')(hm:(ms.contains i&&fresh e)=al):rv C ms (.asg [i] e) U [] s=.ok (.nx (U.set i<|aa v) []) s':=by
 rw[rv];show(pv C e U s).bind _=_;rw[h,Za,T8<|by rw[hm];simp];rfl
def jz{Z B:Type}{t:List Nat}{it:W}{b:List Sm}{L:List B}{e:B->V}{step:Z->B->Z}{U:Z->Option V->Env}{st:Z}{o:Option V}(I:Z->Prop)(hw:pvw C it (hide os<|U st o) s=.ok (L.map e) s)(hI:I st)(ht:(t.any os.contains)=al)
  (h:∀x∈L,∀st o,I st->I (step st x)/\(os.isEmpty||(e x).flat)=ak/\∃ρ1 o',Zo t (e x) (U st o)=aa ρ1/\rvs C ms b ρ1 os s=.ok (.nx (U (step st x) o') os) s) :
  ∃o',I (L.foldl step st)/\rv C ms (.forr t it b) (U st o) os s=.ok (.nx (U (L.foldl step st) o') os) s:=by
 obtain⟨o',h1,h2⟩:=Jx (body:=λx U os s=>if(t.any os.contains)=ak then .no else(po (Zo t x U) s).bind λU s=>rvs C ms b U os s) (s:=s) (os:=os) (U:=U) (step:=step) (e:=e) I (l:=L) (st:=st) (o:=o) hI (λx hx st o hI=>by
  obtain⟨a,f,ρ1,o',b1,b2⟩:=h x hx st o hI;refine#[a,o',?_];rw[T8 (by rw[ht];simp),b1,Yg,Za,b2])
 refine#[o',h1,?_];rw[rv,hw,Za];exact h2
def XE{e:E}{n:Nat}(h:pv C e U s=.ok (.int n) s')(hn:n<1000000):pvw C (.rng1 e) U s=.ok ((aP n).map Zh) s':=by
 rw[pvw,h,Za];show(if Yh (n:Int)=ak then PR.ok (ZU 0 (n:Int).toNat) s' else .no)=_
 rw[T9 (Xb (by lia)<|by lia),ei,ZcB]
def WW{B:Type}{t:List Nat}{it:W}{b:List Sm}{L:List B}{e:B->V}(I:List B->Env->Prop)(hw:pvw C it (hide os U) s=.ok (L.map e) s)(hI:I L U)(ht:(t.any os.contains)=al)
  (h:∀x l U,I (x::l) U->(os.isEmpty||(e x).flat)=ak/\∃ρ1 ρ',Zo t (e x) U=aa ρ1/\rvs C ms b ρ1 os s=.ok (.nx ρ' os) s/\I l ρ') :
  ∃ρ',I [] ρ'/\rv C ms (.forr t it b) U os s=.ok (.nx ρ' os) s:=by
 rw[rv,hw,Za];clear hw
 induction L generalizing U with
 |nil=>exact#[U,hI,rfl]
 |cons x L ih=>
  obtain⟨f,ρ1,ρ',b1,b2,b3⟩:=h x L U hI;obtain⟨ρ2,c1,c2⟩:=ih b3;refine#[ρ2,c1,?_];rw[aY,XW,T8 (by rw[ht];simp),b1,Yg,Za,b2,Za]
  exact c2
def Wn{Z B:Type}{t:List Nat}{it:W}{b:List Sm}{L:List B}{e:B->V}{step:Z->B->Z}{U:Z->Option V->Env}{st:Z}{o:Option V}(I:List B->Z->Prop)(hw:pvw C it (hide os<|U st o) s=.ok (L.map e) s)(hI:I L st)(ht:(t.any os.contains)=al)
  (h:∀x l st o,I (x::l) st->I l (step st x)/\(os.isEmpty||(e x).flat)=ak/\∃ρ1 o',Zo t (e x) (U st o)=aa ρ1/\rvs C ms b ρ1 os s=.ok (.nx (U (step st x) o') os) s) :
  ∃o',I [] (L.foldl step st)/\rv C ms (.forr t it b) (U st o) os s=.ok (.nx (U (L.foldl step st) o') os) s:=by
 rw[rv,hw,Za];clear hw
 induction L generalizing st o with
 |nil=>exact#[o,hI,rfl]
 |cons x L ih=>
  obtain⟨a,f,ρ1,o',b1,b2⟩:=h x L st o hI;obtain⟨o2,c1,c2⟩:=ih (st:=step st x) (o:=o') a;refine#[o2,c1,?_];rw[aY,XW,T8 (by rw[ht];simp),b1,Yg,Za,b2,Za]
  exact c2
def pvF:(∀a,fresh (.lst a)=ak)/\(∀a b,fresh (.bin .mul (.lst a) b)=ak)/\(∀b,Zq (.bl b)=aa b)/\(∀i,Zq (.int i)=aa (ag<|i≠0))/\(∀xs,Zq (.tup xs)=aa (!xs.isEmpty))/\(∀xs,Zq (.lst xs)=aa (!xs.isEmpty))/\(Zq .non=aa al)/\(∀xs i,ixV (.tup xs) (.int i)=at' xs i)/\(∀xs i,ixV (.lst xs) (.int i)=at' xs i)/\(∀xs,YN (.tup xs)=aa xs)/\(∀xs,YN (.lst xs)=aa xs)/\(∀x,Xq .len [x]=(YN x).map λxs=>.int xs.length)/\(∀x,Xq .tuple [x]=(YN x).map .tup)/\(∀x,Xq .list [x]=(YN x).map .lst)/\(∀xs,Xq .all [.lst xs]=(Yo xs).map λbs=>.bl<|bs.all id)/\(∀a b,Xq .max2 [.int a,.int b]=aa (.int (if b>a then b else a)))/\(∀a b,Xq .min2 [.int a,.int b]=aa (.int (if b<a then b else a)))/\(∀a,Xq .toInt [.int a]=aa (.int a))/\(∀a,Xq .toInt [.bl a]=aa (.int<|b2i a))/\(∀xs,Xq .sortedR [.lst xs]=(Yd xs).bind λrs=>if YL rs=ak then aa (.lst<|(ZV rs).reverse.map Zd)else af)/\(∀a b s,Xm .add (.int a) (.int b) s=.ok (.int<|a+b) s)/\(∀a b s,Xm .sub (.int a) (.int b) s=.ok (.int<|a-b) s)/\(∀a b s,Xm .mul (.int a) (.int b) s=if(fits a&&fits b)=ak then .ok (.int<|a*b) s else .no)/\(∀a b s,Xm .mod (.int a) (.int b) s=if 0<b then .ok (.int<|a%b) s else .no)/\(∀a b s,Xm .add (.tup a) (.tup b) s=if a.length+b.length<=lim then .ok (.tup<|a++b) s else .no)/\(∀a b s,Xm .mul (.tup a) (.int b) s=if 0<=b/\b<1000/\a.length<=1000 then .ok (.tup (aH b.toNat a).flatten) s else .no)/\(∀a b s,Xm .mul (.lst a) (.int b) s=if 0<=b/\b<1000/\a.length<=1000 then .ok (.lst (aH b.toNat a).flatten) s else .no)/\(∀a b s,Xm .add (.lst a) (.lst b) s=if a.length+b.length<=lim then .ok (.lst<|a++b) s else .no)/\(∀x y,YR .eq x y=(eqV ZJ x y).map .bl)/\(∀x y,YR .ne x y=(eqV ZJ x y).map λb=>.bl !b)/\(∀a b,YR .lt (.int a) (.int b)=aa (.bl<|ag<|a<b))/\(∀a b,YR .gt (.int a) (.int b)=aa (.bl<|ag<|b<a))/\(∀a b,YR .le (.int a) (.int b)=aa (.bl<|ag<|a<=b))/\(∀a b,YR .ge (.int a) (.int b)=aa (.bl<|ag<|b<=a))/\(∀x,YR .is x .non=aa (.bl<|Ql x))/\(∀a b,YR .is (.bl a) (.bl b)=aa (.bl<|ag<|a=b))/\(∀x y,YR .inn x y=(JS x y).map .bl)/\(∀x y,YR .nin x y=(JS x y).map λb=>.bl !b)/\(Ql .non=ak)/\(∀b,Ql (.bl b)=al)/\(∀b,Ql (.int b)=al)/\(∀b,Ql (.tup b)=al)/\(∀b,Ql (.lst b)=al)/\(ofD .non=aa .non)/\(∀b,ofD (.bl b)=aa (.bl b))/\(∀b,ofD (.int b)=aa (.int b))/\(∀U,Xo [] [] U=aa U)/\(∀i t x xs U,Xo (i::t) (x::xs) U=Xo t xs (U.set i<|aa x))/\(∀i x U,Zo [i] x U=aa (U.set i<|aa x))/\(∀i j t xs U,Zo (i::j::t) (.tup xs) U=Xo (i::j::t) xs U)/\(∀i j t xs U,Zo (i::j::t) (.lst xs) U=Xo (i::j::t) xs U)/\(∀k a b,eqV (k+1) (.int a) (.int b)=aa (ag<|a=b))/\(∀k a b,eqV (k+1) (.bl a) (.bl b)=aa (ag<|a=b))/\(∀k a b,eqV (k+1) (.tup a) (.tup b)=Xd (eqV k) a b)/\(∀k a b,eqV (k+1) (.lst a) (.lst b)=if a.length=b.length then Xd (eqV k) a b else aa al):=
 #[λ_=>rfl,λ_ _=>rfl,λ_=>rfl,λ_=>rfl,λ_=>rfl,λ_=>rfl,rfl,λ_ _=>rfl,λ_ _=>rfl,λ_=>rfl,λ_=>rfl,λ_=>rfl,λ_=>rfl,λ_=>rfl,λ_=>rfl,λ_ _=>rfl,λ_ _=>rfl,λ_=>rfl,λ_=>rfl,λ_=>rfl,λ_ _ _=>rfl,λ_ _ _=>rfl,λ_ _ _=>rfl,λ_ _ _=>rfl,λ_ _ _=>rfl,λ_ _ _=>rfl,λ_ _ _=>rfl,λ_ _ _=>rfl,λ_ _=>rfl,λ_ _=>rfl,λ_ _=>rfl,λ_ _=>rfl,λ_ _=>rfl,λ_ _=>rfl,λ_=>rfl,λ_ _=>rfl,λ_ _=>rfl,λ_ _=>rfl,rfl,λ_=>rfl,λ_=>rfl,λ_=>rfl,λ_=>rfl,rfl,λ_=>rfl,λ_=>rfl,λ_=>rfl,λ_ _ _ _ _=>rfl,λ_ _ _=>rfl,λ_ _ _ _ _=>rfl,λ_ _ _ _ _=>rfl,λ_ _ _=>rfl,λ_ _ _=>rfl,λ_ _ _=>rfl,λ_ _ _=>rfl]
def pvE:=bg (bg (bg (bg (bg pvF<|bg @Za @Yg)<|bg @Yk.eq_1<|bg @ZN.eq_1 @hide.eq_1)<|bg (bg @Ye.eq_1<|bg @Option.join.eq_1.{0} @lim.eq_1)<|bg (bg @rvs.eq_1 @rvs.eq_2)<|bg @rv.eq_1 @rv.eq_2)<|bg (bg (bg @rv.eq_3<|bg @rv.eq_4 @rv.eq_5)<|bg (bg @rv.eq_6 @rv.eq_7)<|bg @rv.eq_8 @rv.eq_9)<|bg (bg @rv.eq_10<|bg @rv.eq_11 @pvA.eq_1)<|bg (bg @pvA.eq_2 @pvs.eq_1)<|bg @pvs.eq_2 @pvo.eq_1)<|bg (bg (bg (bg @pvo.eq_2<|bg @pvt.eq_1 @pvt.eq_2)<|bg @pvw.eq_1<|bg @pvw.eq_2 @pvw.eq_3)<|bg (bg @pvw.eq_4<|bg @pvw.eq_5 @pvw.eq_6)<|bg (bg @pv.eq_1 @pv.eq_2)<|bg @pv.eq_3 @pv.eq_4)<|bg (bg (bg @pv.eq_5<|bg @pv.eq_6 @pv.eq_7)<|bg (bg @pv.eq_8 @pv.eq_9)<|bg @pv.eq_10 @pv.eq_11)<|bg (bg @pv.eq_12<|bg @pv.eq_13 @pv.eq_14)<|bg (bg @pv.eq_15 @pv.eq_16)<|bg @pv.eq_17 @pv.eq_18
end Pv
namespace K84
open Ev Pv Rw La
abbrev CV(d:Nat):Zr:=Zl fns 2 d
theorem Je(C:Zr)(s:DS)(v:V):∀(r:Row)(k:Nat)(a b:Option V),∃a' b',XW (λx U os s=>if(([1,2]:List Nat).any os.contains)=ak then .no else(po (Zo [1,2] x U) s).bind λU s=>rvs C [] [.ite (.cmp .ne (.v 2)<|.c<|.int 0) [.ret<|.v 1] []] U os s)
   (((ZU k r.length).zip<|r.map V.int).map λp=>V.tup [p.1,p.2]) [aa v,a,b] [] s=match hdI r with
    |some m=>.ok (.ret<|.int (k+m:Nat)) s
    |none=>.ok (.nx [aa v,a',b'] []) s
 |[],k,a,b=>#[a,b,rfl]
 |x::r,k,a,b=>by
  have er:ZU k (x::r).length=.int k::ZU (k+1:Nat) r.length:=by
   unfold ZU;rw[aG,iB,aY,bO];refine List.cons_eq_cons.mpr #[by simp,?_]
   .refine dN λj _=>?_
    show V.int ((k:Int)+((j+1:Nat):Int))=V.int (((k+1:Nat):Int)+(j:Int))
    congr 1
    lia
  obtain⟨a',b',ih⟩:=Je C s v r (k+1) (aa<|.int k)<|aa<|.int x;refine#[a',b',?_];rw[er,aY,cc,aY,XW];by_cases c:x=0
  .subst c
   have e0:hdI (0::r)=(hdI r).map (· + 1):=by rw[hdI,T8<|by simp]
   have e1:(if(([1,2]:List Nat).any ([]:List Nat).contains)=ak then(.no:PR FlV)else(po (Zo [1,2] (V.tup [.int k,.int 0]) [aa v,a,b]) s).bind λU s=>rvs C [] [.ite (.cmp .ne (.v 2)<|.c<|.int 0) [.ret<|.v 1] []] U [] s)=.ok (.nx [aa v,aa<|.int k,aa<|.int 0] []) s:=by
    simp[pvE,ZJ]
   rw[e1,Za,e0];show XW _ _ [aa v,aa<|.int k,aa<|.int 0] [] s=_;rw[ih];cases hdI r with|none=>rfl|some m=>show PR.ok (FlV.ret<|.int ((k+1+m:Nat):Int)) s=PR.ok (FlV.ret<|.int ((k+(m+1):Nat):Int)) s;congr 3;lia
  .have e0:hdI (x::r)=aa 0:=by rw[hdI,T9 c]
   have e1:(if(([1,2]:List Nat).any ([]:List Nat).contains)=ak then(.no:PR FlV)else(po (Zo [1,2] (V.tup [.int k,.int x]) [aa v,a,b]) s).bind λU s=>rvs C [] [.ite (.cmp .ne (.v 2)<|.c<|.int 0) [.ret<|.v 1] []] U [] s)=.ok (.ret<|.int k) s:=by
    simp[pvE,ZJ,c]
   rw[e1,Za,e0];rfl
def Ue(d:Nat)(r:Row)(s:DS):CV (d+1) 16 [Zd r] s=.ok (yq<|hdI r) s:=by
 rw[CV,V2 rfl (by decide) rfl]
 obtain⟨a,b,e⟩:=Je (Zl fns 2 d) s (Zd r) r 0 af af;show((rv _ [] (.forr [1,2] (.enum<|.v 0) _) [aa<|Zd r,af,af] [] s).bind _).bind _=_;have e2:rv (Zl fns 2 d) [] (.forr [1,2] (.enum<|.v 0) [.ite (.cmp .ne (.v 2)<|.c<|.int 0) [.ret<|.v 1] []]) [aa<|Zd r,af,af] [] s=match hdI r with
    |some m=>.ok (.ret<|.int (m:Nat)) s
    |none=>.ok (.nx [aa<|Zd r,a,b] []) s:=by
  rw[rv];have ew:pvw (Zl fns 2 d) (.enum<|.v 0) (hide [] [aa<|Zd r,af,af]) s=.ok (((ZU 0 r.length).zip<|r.map V.int).map λp=>V.tup [p.1,p.2]) s:=by
   simp[pvE,Zd]
  rw[ew,Za];simp only[Nat.zero_add,Int.natCast_zero]at e;exact e
 rw[e2];cases hdI r with|none=>rfl|some m=>rfl
section
variable{p n:Nat}[Base p]
def W5:(p:Int)<=5/\(2:Int)<=p:=by rcases(inferInstance:Base p).b with e|e|e<;>subst e<;>decide
theorem we(d:Nat){r o:Row}{k:Int}(s:DS)(hn:n<=6)(hr:Zk p n r)(ho:Zk p n o)(hk:-1000<k/\k<1000):CV (d+1) 14 [.int p,Zd r,Zd o,.int k] s=.ok (Zd<|ZW p r o k) s:=by
 rw[CV,V2 rfl (by decide) rfl]
 have hp:=W5 (p:=p);have hc:=Zy (C:=Zl fns 2 d) (cap:=[3,0]) (nl:=2) (t:=[0,1]) (it:=.zip (.v 1)<|.v 2) (elt:=.bin .mod (.bin .add (.v 0)<|.bin .mul (.v 2)<|.v 1)<|.v 3) (U:=[aa<|.int p,aa<|Zd r,aa<|Zd o,aa<|.int k]) (s:=s) (l:=r.zip o) (e:=λq=>V.tup [.int q.1,.int q.2]) (g:=λq=>V.int<|(q.1+k*q.2)%p)
  (by simp[pvE,Zd,QL]) (by rw[dP,hr.1,ho.1];unfold lim;lia) (λq hq=>by
   have h2:=ho.2 q.2 (fT hq).2;refine#[_,rfl,?_];have f1:=Yr (a:=k) (by lia) (by lia)
   have f2:=Yr (a:=q.2) (by lia) (by lia)
   have hp0:0<p:=by lia
   simp[pvE,f1,f2,hp0])
 have e:(r.zip o).map (λq=>V.int<|(q.1+k*q.2)%p)=(ZW p r o k).map V.int:=by
  unfold ZW;rw[<-fC,bO];rfl
 simp[Vj,pvE,hc,e];rfl
theorem v9(d:Nat){r o:Row}{h:Nat}(s:DS)(hn:n<=6)(hr:Zk p n r)(ho:Zk p n o)(hh:h<n):CV (d+2) 15 [.int p,Zd r,Zd o,.int h] s=.ok (Zd<|clr p r o h) s:=by
 rw[CV,V2 rfl (by decide) rfl]
 have hg:=XZ ppos hr h;have hp:=W5 (p:=p);have e:=we d (k:=-(gt r h)) s hn hr ho #[by lia,by lia]
 have e2:=U7 (by rw[hr.1];exact hh)
 simp only[CV]at e;simp[JK,pvE,Zd,e2];simp only[Zd]at e;rw[e];simp[pvE,clr]
theorem ZfD(d:Nat){r:Row}{k:Int}(s:DS)(hn:n<=6)(hr:Zk p n r)(hk:-1000<k/\k<1000):CV (d+1) 18 [.int p,Zd r,.int k] s=.ok (Zd<|X2 p r k) s:=by
 rw[CV,V2 (fn:=Gg) rfl (by decide) rfl]
 have hp:=W5 (p:=p);have hc:=Zy (C:=Zl fns 2 d) (cap:=[2,0]) (nl:=1) (t:=[0]) (it:=.of<|.v 1) (elt:=.bin .mod (.bin .mul (.v 1)<|.v 0)<|.v 2) (U:=[aa<|.int p,aa<|Zd r,aa<|.int k]) (s:=s) (l:=r) (e:=V.int) (g:=λq=>V.int<|k*q%p)
  (by simp[pvE,Zd]) (by rw[hr.1];unfold lim;lia) (λq hq=>by
   have h2:=hr.2 q hq;refine#[_,rfl,?_];have f1:=Yr (a:=k) (by lia) (by lia)
   have f2:=Yr (a:=q) (by lia) (by lia)
   have hp0:0<p:=by lia
   simp[pvE,f1,f2,hp0])
 simp[Gg,pvE,hc];simp[Zd,X2]
def GP(C:Zr)(m:Nat){q a k:Int}(s:DS)(hq:0<q)(f1:fits a=ak)(f2:fits k=ak):YG (Yk C<|.cmp .ne (.bin .mod (.bin .mul (.v 2)<|.v 1)<|.v 0)<|.c<|.int 1) (rvs C [] [.aug 2 .add<|.c<|.int 1]) (m+1) [aa<|.int q,aa<|.int a,aa<|.int k] [] s =
  if k*a%q=1 then .ok (.nx [aa<|.int q,aa<|.int a,aa<|.int k] []) s else YG (Yk C<|.cmp .ne (.bin .mod (.bin .mul (.v 2)<|.v 1)<|.v 0)<|.c<|.int 1) (rvs C [] [.aug 2 .add<|.c<|.int 1]) m [aa<|.int q,aa<|.int a,aa<|.int<|k+1] [] s:=by
 rw[YG];by_cases c:k*a%q=1<;>simp[pvE,f1,f2,hq,ZJ,c,ZfF]
theorem Zc0(d:Nat){a:Int}(s:DS)(ha:0<a/\a<p):CV (d+1) 19 [.int p,.int a] s=.ok (.int<|QB p a) s:=by
 rw[CV,V2 (fn:=JN) rfl (by decide) rfl]
 generalize Zl fns 2 d=C;have fs:∀k:Int,0<=k->k<=5->fits k=ak:=λk h0 h1=>Yr (by lia) (by lia)
 have hp:=W5 (p:=p);have fa:=fs a (by lia) (by lia)
 have key:YG (Yk C<|.cmp .ne (.bin .mod (.bin .mul (.v 2)<|.v 1)<|.v 0)<|.c<|.int 1) (rvs C [] [.aug 2 .add<|.c<|.int 1]) (996+1+1+1+1) [aa<|.int p,aa<|.int a,aa<|.int 1] [] s=.ok (.nx [aa<|.int p,aa<|.int a,aa<|.int<|QB p a] []) s:=by
  rw[GP C _ s (by lia) fa (fs 1 (by lia)<|by lia),GP C _ s (by lia) fa (fs (1+1) (by lia)<|by lia),GP C _ s (by lia) fa (fs (1+1+1) (by lia)<|by lia),GP C _ s (by lia) fa<|fs (1+1+1+1) (by lia)<|by lia]
  rcases(inferInstance:Base p).b with e|e|e<;>subst e
  .have:a=1:=by lia
   subst this;rfl
  .have:a=1\/a=2:=by lia
   rcases this with e|e<;>subst e<;>rfl
  .have:a=1\/a=2\/a=3\/a=4:=by lia
   rcases this with e|e|e|e<;>subst e<;>rfl
 have e:rv C [] (.whl (.cmp .ne (.bin .mod (.bin .mul (.v 2)<|.v 1)<|.v 0)<|.c<|.int 1) [.aug 2 .add<|.c<|.int 1]) [aa<|.int p,aa<|.int a,aa<|.int 1] [] s=.ok (.nx [aa<|.int p,aa<|.int a,aa<|.int<|QB p a] []) s:=by
  rw[rv];exact key
 show((rvs C [] (.asg [2] (.c<|.int 1) :: .whl _ _ :: .ret (.v 2)::[]) [aa<|.int p,aa<|.int a,af] [] s).bind _)=_;have e1:rv C [] (.asg [2]<|.c<|.int 1) [aa<|.int p,aa<|.int a,af] [] s=.ok (.nx [aa<|.int p,aa<|.int a,aa<|.int 1] []) s:=by simp[pvE]
 rw[rvs,e1,Za];show((rvs C [] (.whl _ _ :: .ret (.v 2)::[]) [aa<|.int p,aa<|.int a,aa<|.int 1] [] s).bind _)=_;rw[rvs,e,Za];simp[pvE]
end
section
variable{p n:Nat}[Base p]
def Z9(C:Zr)(ms:List Nat){i j:Nat}{U:Env}{os:List Nat}{s:DS}{e:E}(h:pvA C e U os s=.ok (spV p n) s)(ho:os.contains i=al/\os.contains j=al):rv C ms (.asg [i,j] e) U os s=.ok (.nx ((U.set i<|aa<|.int p).set j<|aa<|.int n) os) s:=by
 rw[rv,h,Za,T8<|by simpa using ho]
 .rfl
 .simp
def uE(d:Nat){P:List Row}{r:Row}(s:DS)(hn:n<=6)(hP:pZ p n P)(hr:Zk p n r):CV (d+3) 17 [spV p n,Zb P,Zd r] s=.ok (Zd<|Zm p P r) s:=by
 refine Zp rfl (by decide) rfl ?_
 show rvs (CV<|d+2) [] (.asg [3,4] (.v 0) :: .asg [5] (.v 2) :: .forr [6] (.of<|.v 1) [.asg [5]<|.call 15 [(.v 3),(.v 5),(.v 6),(.call 16 [(.v 6)])]] :: .ret (.v 5)::[]) [aa<|spV p n,aa<|Zb P,aa<|Zd r,af,af,af,af] [] s=_;rw[Ze<|Z9 (p:=p) (n:=n) _ _ (by simp[pvE])<|by simp]
 rw[Ze (ρ':=[aa<|spV p n,aa<|Zb P,aa<|Zd r,aa<|.int p,aa<|.int n,aa<|Zd r,af]) (os':=[]) (s':=s)<|by simp[pvE]]
 obtain⟨o',hI,e⟩:=jz (C:=CV<|d+2) (ms:=[]) (t:=[6]) (it:=.of<|.v 1) (b:=[.asg [5]<|.call 15 [(.v 3),(.v 5),(.v 6),(.call 16 [(.v 6)])]]) (L:=P) (e:=Zd) (step:=λst o=>clr p st o<|(hdI o).getD 0) (U:=λst o=>[aa<|spV p n,aa<|Zb P,aa<|Zd r,aa<|.int p,aa<|.int n,aa<|Zd st,o]) (os:=[]) (s:=s) (Zk p n) (by simp[pvE,Zb]) hr rfl (λx hx st o hst=>by
  have hx':=hP.row x hx;obtain⟨k,hk,hkn,_⟩:=hP.head fld.one0 hx;refine#[ZH hst hx',rfl,_,aa<|Zd x,rfl,?_];have e1:=Ue (d+1) x s;have e2:=v9 d s hn hst hx' hkn;rw[hk]at e1;simp only[yq]at e1;have e3:=e1;simp[pvE,e3,e2,hk])
 rw[Ze e];exact Zt<|ZS<|by simp[pvE,Zm]
theorem dsum{P:List Row}(hP:pZ p n P):P.length<=n:=by
 have:=qX fld hP.pn;rw[WZ]at this;lia
theorem Zcr(d:Nat){P:List Row}{r:Row}(s:DS)(hn:n<=6)(hP:pZ p n P)(hr:Zk p n r):CV (d+4) 20 [spV p n,Zb P,Zd r] s=.ok (Zb<|U5 p P r) s:=by
 refine Zp (fn:=Wf) rfl (by decide) rfl ?_
 show rvs (CV<|d+3) [] Wf.body [aa<|spV p n,aa<|Zb P,aa<|Zd r,af,af,af,af,af,af] [] s=_
 dsimp only[Wf]
 obtain⟨l1,l2⟩:=Uk hP.row hP.pn.rf hr;have hw:=(wa hP hr).1;rw[Ze<|Z9 (p:=p) (n:=n) _ _ (by simp[pvE])<|by simp]
 have e1:=uE d s hn hP hr;rw[Ze (ρ':=[aa<|spV p n,aa<|Zb P,aa<|Zd r,aa<|.int p,aa<|.int n,aa<|Zd<|Zm p P r,af,af,af]) (os':=[]) (s':=s)<|by simp[pvE,e1]]
 have e2:=Ue (d+2) (Zm p P r) s;rw[Ze (ρ':=[aa<|spV p n,aa<|Zb P,aa<|Zd r,aa<|.int p,aa<|.int n,aa<|Zd<|Zm p P r,aa<|yq<|hdI<|Zm p P r,af,af]) (os':=[]) (s':=s)<|by simp[pvE,e2]]
 cases q:hdI (Zm p P r)with
 |none=>
  refine Zt ?_;have:U5 p P r=P:=by unfold U5;rw[q]
  simp[pvE,yq,this]
 |some h=>
  obtain⟨h1,h2,h3⟩:=YK q;rw[l1.1]at h2;have hg:=XZ ppos l1 h;have hp:=W5 (p:=p);have hwid:U5 p P r=(ZV<|P.map (λo=>clr p o (lead p (Zm p P r) h) h)++[lead p (Zm p P r) h]).reverse:=by unfold U5;rw[q]
  rw[Ze (ρ':=[aa<|spV p n,aa<|Zb P,aa<|Zd r,aa<|.int p,aa<|.int n,aa<|Zd<|Zm p P r,aa<|.int h,af,af]) (os':=[]) (s':=s)<|by simp[pvE,yq]]
  have e3:=Zc0 (p:=p) (d+2) (a:=gt (Zm p P r) h) s #[by lia,hg.2]
  have hi:-1000<QB p (gt (Zm p P r) h)/\QB p (gt (Zm p P r) h)<1000:=by
   unfold QB
   repeat' split
   all_goals lia
  have e4:=ZfD (p:=p) (d+2) s hn l1 hi;have e5:=U7 (r:=Zm p P r) (k:=h) (by rw[l1.1];exact h2)
  have hl:Zk p n (lead p (Zm p P r) h):=Jw l1;rw[Ze (ρ':=[aa<|spV p n,aa<|Zb P,aa<|Zd r,aa<|.int p,aa<|.int n,aa<|Zd<|Zm p P r,aa<|.int h,aa<|Zd<|lead p (Zm p P r) h,af]) (os':=[]) (s':=s) (by
   have e6:pv (CV<|d+3) (.call 18 [(.v 3),(.v 5),(.call 19 [(.v 3),(.ix (.v 5)<|.v 6)])]) [aa<|spV p n,aa<|Zb P,aa<|Zd r,aa<|.int p,aa<|.int n,aa<|Zd<|Zm p P r,aa<|.int h,af,af] s=.ok (Zd<|lead p (Zm p P r) h) s:=by
    refine ZA (vs:=[.int p,Zd<|Zm p P r,.int<|QB p<|gt (Zm p P r) h]) (s1:=s) ?_ e4;have e7:pv (CV<|d+3) (.call 19 [(.v 3),(.ix (.v 5)<|.v 6)]) [aa<|spV p n,aa<|Zb P,aa<|Zd r,aa<|.int p,aa<|.int n,aa<|Zd<|Zm p P r,aa<|.int h,af,af] s=.ok (.int<|QB p<|gt (Zm p P r) h) s:=by
     refine ZA (vs:=[.int p,.int<|gt (Zm p P r) h]) (s1:=s) ?_ e3;simp[pvE,Zd,e5]
    exact Zc (Zf rfl)<|Zc (Zf rfl)<|Zc e7 Zi
   rw[rv];show(pv _ _ _ _).bind _=_;rw[e6];rfl)]
  have hc:=Zy (C:=CV<|d+3) (cap:=[3,7,6]) (nl:=1) (t:=[0]) (it:=.of<|.v 1) (elt:=.call 15 [(.v 1),(.v 0),(.v 2),(.v 3)]) (U:=[aa<|spV p n,aa<|Zb P,aa<|Zd r,aa<|.int p,aa<|.int n,aa<|Zd<|Zm p P r,aa<|.int h,aa<|Zd<|lead p (Zm p P r) h,af]) (s:=s) (l:=P) (e:=Zd) (g:=λo=>Zd<|clr p o (lead p (Zm p P r) h) h)
   (by simp[pvE,Zb]) (by have:=dsum hP;unfold lim;lia) (λo ho=>#[_,rfl,by
    have:=v9 (p:=p) (d+1) (h:=h) s hn (hP.row o ho) hl h2;simp[pvE,this]])
  rw[Ze (ρ':=[aa<|spV p n,aa<|Zb P,aa<|Zd r,aa<|.int p,aa<|.int n,aa<|Zd<|Zm p P r,aa<|.int h,aa<|Zd<|lead p (Zm p P r) h,aa<|.lst<|P.map λo=>Zd<|clr p o (lead p (Zm p P r) h) h]) (os':=[]) (s':=s)<|by simp[pvE,hc]]
  refine Zt<|ZS ?_;have ea:(P.map λo=>Zd<|clr p o (lead p (Zm p P r) h) h)++[Zd<|lead p (Zm p P r) h]=((P.map λo=>clr p o (lead p (Zm p P r) h) h)++[lead p (Zm p P r) h]).map Zd:=by rw[br,bO];rfl
  have hs:YL ((P.map λo=>clr p o (lead p (Zm p P r) h) h)++[lead p (Zm p P r) h])=ak:=by
   have hlen:((P.map λo=>clr p o (lead p (Zm p P r) h) h)++[lead p (Zm p P r) h]).length=P.length+1:=by simp
   have hnd:((P.map λo=>clr p o (lead p (Zm p P r) h) h)++[lead p (Zm p P r) h]).Nodup:=by
    have h5:=V8 hw.falls;rw[hwid]at h5;exact((Sd.Y8 _).nodup_iff).mp<|((eo _).nodup_iff).mp h5
   have hd:=dsum hP;unfold YL;rw[T5 (by rw[hlen];lia),T5 hnd]
   rw[aI];refine#[rfl,aX.mpr λx hx=>?_]
   have:x.length=n:=by
    rcases bD.mp hx with z|z
    .obtain⟨o,ho,rfl⟩:=aR.mp z
     exact(ZH (hP.row o ho) hl).1
    .rw[aK.mp z];exact hl.1
   cases x with|nil=>simp at this;lia|cons _ _=>rfl
  have hlen2:P.length+1<=16777216:=by have:=dsum hP;lia
  simp[pvE,hlen2];rw[ea,Y0];simp[pvE,hs,hwid,Zb,iY]
def QA(d:Nat){P R:List Row}{v:V}(s:DS)(hn:n<=6)(hP:pZ p n P)(hR:∀r∈R,Zk p n r)(hv:YN v=aa (R.map Zd)):CV (d+5) 21 [spV p n,Zb P,v] s=.ok (Zb<|Xw p P R) s:=by
 refine Zp (fn:=Yf) rfl (by decide) rfl ?_
 show rvs (CV<|d+4) [] Yf.body [aa<|spV p n,aa<|Zb P,aa v,af,af] [] s=_
 dsimp only[Yf]
 rw[Ze (ρ':=[aa<|spV p n,aa<|Zb P,aa v,aa<|Zb P,af]) (os':=[]) (s':=s)<|by simp[pvE]]
 obtain⟨o',hI,e⟩:=jz (C:=CV<|d+4) (ms:=[]) (t:=[4]) (it:=.of<|.v 2) (b:=[.asg [3]<|.call 20 [(.v 0),(.v 3),(.v 4)]]) (L:=R) (e:=Zd) (step:=U5 p) (U:=λst o=>[aa<|spV p n,aa<|Zb P,aa v,aa<|Zb st,o]) (st:=P) (o:=af) (os:=[]) (s:=s) (pZ p n) (by show pvw (CV<|d+4) (.of<|.v 2) [aa<|spV p n,aa<|Zb P,aa v,aa<|Zb P,af] s=_;rw[pvw,pv];show po (YN v) s=_;rw[hv];rfl) hP rfl (λx hx st o hst=>by
  have hx':=hR x hx;refine#[(wa hst hx').1,rfl,_,aa<|Zd x,rfl,?_];have e2:=Zcr d s hn hst hx';simp[pvE,e2])
 rw[Ze e];exact Zt<|ZS<|by simp[pvE,Xw]
end
def YY{F:List Fn}{tk d f c:Nat}{vs:List V}{s s':DS}{fn:Fn}(hf:F[f]?=aa fn)(hne:f≠tk)(hl:vs.length=fn.ps)(h:rvs (Zl F tk d) (muts fn.body) fn.body (ZN fn.ns vs) [] s=.ex c s'):Zl F tk (d+1) f vs s=.ex c s':=by
 rw[V2 hf hne hl,h];rfl
def YO{C:Zr}{ms:List Nat}{m:Sm}{l:List Sm}{U:Env}{os:List Nat}{s s':DS}{c:Nat}(h:rv C ms m U os s=.ex c s'):rvs C ms (m::l) U os s=.ex c s':=by rw[rvs,h];rfl
def Y1{C:Zr}{U:Env}{s s1 s':DS}{f c:Nat}{as:List E}{vs:List V}(h:pvs C as U s=.ok vs s1)(hc:C f vs s1=.ex c s'):pv C (.call f as) U s=.ex c s':=by rw[pv,h];exact hc
def QJ{C:Zr}{ms:List Nat}{U:Env}{os:List Nat}{s s':DS}{f c:Nat}{as:List E}(h:pv C (.call f as) U s=.ex c s'):rv C ms (.ex<|.call f as) U os s=.ex c s':=by
 rw[rv,h]
 .rfl
 all_goals(intro i e z;cases z)
section
variable{p n:Nat}[Base p]
def UP(d:Nat)(i lo hi:Int)(s:DS):CV (d+1) 10 [.int i,.int lo,.int hi] s=.ok (.bl<|ag (lo<=i)&&ag (i<=hi)) s:=by
 refine Zp rfl (by decide) rfl ?_
 by_cases c:lo<=i<;>simp[QD,pvE,Y2,Wd,c]
theorem ZeD(d:Nat){r:Row}(s:DS)(hn:n<=6)(hr:Zk p n r):CV (d+2) 26 [spV p n,Zd r] s=.ok (.bl ak) s:=by
 refine Zp rfl (by decide) rfl ?_
 show rvs (CV<|d+1) [] (.asg [2,3] (.v 0) :: .ite (.or (.not<|.isi (.v 1) [.tuple])<|.cmp .ne (.blt .len [(.v 1)])<|.v 3) [.ret<|.c<|.bl al] [] :: .ret (.blt .all [(.comp1 [2] 1 [0] (.of<|.v 1) []<|.call 10 [(.v 0),(.c<|.int 0),(.bin .sub (.v 1)<|.c<|.int 1)])])::[]) [aa<|spV p n,aa<|Zd r,af,af] [] s=_;rw[Ze<|Z9 (p:=p) (n:=n) _ _ (by simp[pvE])<|by simp]
 rw[Ze (ρ':=[aa<|spV p n,aa<|Zd r,aa<|.int p,aa<|.int n]) (os':=[]) (s':=s) (by
  have hl:=hr.1;simp[pvE,Y2,Wd,Zd,ZJ,hl])]
 refine Zt<|ZS ?_;have hc:=Zy (C:=CV<|d+1) (cap:=[2]) (nl:=1) (t:=[0]) (it:=.of<|.v 1) (elt:=.call 10 [(.v 0),(.c<|.int 0),(.bin .sub (.v 1)<|.c<|.int 1)]) (U:=[aa<|spV p n,aa<|Zd r,aa<|.int p,aa<|.int n]) (s:=s) (l:=r) (e:=V.int) (g:=λ_=>V.bl ak)
  (by simp[pvE,Zd]) (by rw[hr.1];unfold lim;lia) (λx hx=>#[_,rfl,by
   have h:=hr.2 x hx;have e:=UP d x 0 (p-1) s;have h1:x<=p-1:=by lia
   simp[pvE,e,h.1,h1]])
 have ht:=ZX (g:=λ_:Int=>ak) r
 simp[pvE,hc,ht]
theorem qG(d:Nat){hs:List Nat}(s:DS)(hl:hs.length<=1000)(h:hs.Pairwise (· < ·)):CV (d+1) 13 [.lst<|hs.map Zh] s=.ok (.bl ak) s:=by
 refine Zp rfl (by decide) rfl ?_
 have ez:∀(a b:List Nat),((a.map Zh).zip<|b.map Zh).map (λq=>V.tup [q.1,q.2])=(a.zip b).map λq=>V.tup [Zh q.1,Zh q.2]:=by
  intro a
  induction a with
  |nil=>intro b;rfl
  |cons x a ih=>intro b;cases b with|nil=>rfl|cons y b=>simp only[aY,cc];rw[ih]
 have hc:=Zy (C:=CV d) (cap:=[]) (nl:=2) (t:=[0,1]) (it:=.zip (.v 0)<|.sl (.v 0) (aa<|.c<|.int 1) af) (elt:=.cmp .lt (.v 0)<|.v 1) (U:=[aa<|.lst<|hs.map Zh]) (s:=s) (l:=hs.zip hs.tail) (g:=λ_=>V.bl ak)
  (by
   have e1:YW (hs.map Zh) (aa 1) af=hs.tail.map Zh:=by rw[Qa,i8]
   simp[pvE,slV,e1];rw[<-i8,ez]) (by rw[dP];unfold lim;lia) (λq hq=>#[_,rfl,by
   have:q.1<q.2:=by
    obtain⟨i,hi,e⟩:=cg hq;rw[pC]at e;rw[<-e];rw[dP,l8]at hi;simp only[oK];exact bI.mp h i (i+1) (by lia) (by lia) (by lia)
   simp[pvE,Zh,this]])
 have ht:=ZX (g:=λ_:Nat×Nat=>ak)<|hs.zip hs.tail
 simp[VY,pvE,hc,ht]
theorem wO(d:Nat){R:List Row}{k:Nat}(s:DS)(hl:R.length<=1000)(hk:∀r∈R,k<r.length/\gt r k=0):CV (d+1) 24 [Zb R,.int k] s=.ok (.bl ak) s:=by
 refine Zp rfl (by decide) rfl ?_
 have hc:=Zy (C:=CV d) (cap:=[1]) (nl:=1) (t:=[0]) (it:=.of<|.v 0) (elt:=.cmp .eq (.ix (.v 0)<|.v 1)<|.c<|.int 0) (U:=[aa<|Zb R,aa<|.int k]) (s:=s) (l:=R) (e:=Zd) (g:=λ_=>V.bl ak)
  (by simp[pvE,Zb]) (by unfold lim;lia) (λr hr=>#[_,rfl,by
   obtain⟨h1,h2⟩:=hk r hr;have:=U7 h1;simp[pvE,Zd,this,h2,ZJ]])
 have ht:=ZX (g:=λ_:Row=>ak) R
 simp[XN,pvE,hc,ht]
def qz{P:List Row}(hP:pZ p n P):P.map (λr=>yq<|hdI r)=(Z4 P).map Zh:=by
 unfold Z4;rw[bO];refine dN λr hr=>?_
 obtain⟨k,hk,_⟩:=hP.head fld.one0 hr;show yq (hdI r)=Zh ((hdI r).getD 0);rw[hk];rfl
theorem ZeC{P:List Row}(hP:pZ p n P){i:Nat}(hi:i<P.length):∃k,hdI P[i]=aa k/\k<n/\gt P[i] k=1/\∀j (hj:j<P.length),j≠i->gt P[j] k=0:=by
 have hm:=bU hi;obtain⟨k,h1,h2,h3⟩:=hP.head fld.one0 hm;have one:ph p 1=1:=by rcases(inferInstance:Base p).b with e|e|e<;>subst e<;>rfl
 refine#[k,h1,h2,J3 (XZ ppos (hP.row _ hm) k) #[by lia,by have:=W5 (p:=p);lia] (by rw[one];exact h3),λj hj ne=>?_]
 have hm2:=bU hj;obtain⟨k2,g1,g2,g3⟩:=hP.head fld.one0 hm2;have inc:=hP.pn.rf.heads;have a1:=Yb (p:=p) hm;have a2:=Yb (p:=p) hm2;rw[h1]at a1;rw[g1]at a2;refine(Yt<|hP.row _ hm2).mp<|hP.pn.rf.zer _ a1 _ a2 ?_;have hinc:=hP.pn.rf.inc;unfold toP at hinc;rw[cT,bI]at hinc;show k≠k2;rcases Nat.lt_or_gt_of_ne ne with c|c
 .have:=hinc j i hj hi c
  simp only[h1,g1]at this;simp at this;lia
 .have:=hinc i j hi hj c
  simp only[h1,g1]at this;simp at this;lia
theorem Gi(d:Nat){P:List Row}{i:Nat}(s:DS)(hn:n<=6)(hP:pZ p n P)(hi:i<P.length):∃k,hdI P[i]=aa k/\CV (d+2) 25 [Zb P,.int i,.int k] s=.ok (.bl ak) s:=by
 obtain⟨k,h1,h2,h3,h4⟩:=ZeC hP hi;refine#[k,h1,Zp rfl (by decide) rfl ?_]
 have hd:=dsum hP;have hrow:=hP.row _<|bU hi;have e1:at' (P.map Zd) (i:Int)=aa (Zd P[i]):=Qc (by rw[aQ,ai hi];rfl)
 have e2:=U7 (by rw[hrow.1];exact h2)
 have e3:=wO d (R:=P.take i++P.drop (i+1)) s (by rw[aU,bC,bP];lia) (λr hr=>by
  have hmem:∃j,∃(hj:j<P.length),j≠i/\P[j]=r:=by
   rcases bD.mp hr with z|z
   .obtain⟨j,hj,e⟩:=cg z
    rw[bC]at hj;exact#[j,by lia,by lia,by rw[<-e,gi]]
   .obtain⟨j,hj,e⟩:=cg z
    rw[bP]at hj;exact#[i+1+j,by lia,by lia,by rw[<-e,iC]]
  obtain⟨j,hj,ne,rfl⟩:=hmem;exact#[by rw[(hP.row _<|bU hj).1];exact h2,h4 j hj ne])
 have c1:YW (P.map Zd) af (aa (i:Int))=(P.take i).map Zd:=by rw[jj (by rw[ax];lia),nG]
 have c2:YW (P.map Zd) (aa<|(i:Int)+1) af=(P.drop<|i+1).map Zd:=by rw[yB (k:=i+1) (by lia) (by rw[ax];lia),sh]
 have c3:(P.take i).length+(P.drop<|i+1).length<=16777216:=by rw[bC,bP];lia
 rw[bC,bP]at c3;have e4:CV (d+1) 24 [V.tup<|(P.map Zd).take i++(P.map Zd).drop (i+1),.int k] s=.ok (.bl ak) s:=by
  rw[<-nG,<-sh,<-br];exact e3
 simp[X6,pvE,Zb,slV,e1,c1,c2,c3,e4];simp[Zd,e2,h3,ZJ,pvE,e4]
theorem vQ:∀hs:List Nat,XV .non (hs.map Zh)=aa al
 |[]=>rfl
 |h::hs=>by
  show(match eqV ZJ (Zh h) .non,XV .non (hs.map Zh)with|some a,aa b=>aa (a||b)|_,_=>af)=_
  rw[vQ hs];rfl
theorem ZcP(d:Nat){P:List Row}(s:DS)(hn:n<=6)(hP:pZ p n P):CV (d+3) 27 [spV p n,Zb P] s=.ok (.bl ak) s:=by
 refine Zp rfl (by decide) rfl ?_
 show rvs (CV<|d+2) [] (.ite (.or (.not<|.isi (.v 1) [.tuple])<|.not<|.blt .all [(.comp1 [0] 1 [0] (.of<|.v 1) []<|.call 26 [(.v 1),(.v 0)])]) [.ret<|.c<|.bl al] [] ::
  .asg [2] (.comp1 [] 1 [0] (.of<|.v 1) []<|.call 16 [(.v 0)]) ::
  .ite (.or (.cmp .inn (.c .non)<|.v 2)<|.not<|.call 13 [(.v 2)]) [.ret<|.c<|.bl al] [] ::
  .ret (.blt .all [(.comp1 [1] 2 [0,1] (.enum<|.v 2) []<|.call 25 [(.v 2),(.v 0),(.v 1)])])::[]) [aa<|spV p n,aa<|Zb P,af] [] s=_
 have hd:=dsum hP;have hc1:=Zy (C:=CV<|d+2) (cap:=[0]) (nl:=1) (t:=[0]) (it:=.of<|.v 1) (elt:=.call 26 [(.v 1),(.v 0)]) (U:=[aa<|spV p n,aa<|Zb P,af]) (s:=s) (l:=P) (e:=Zd) (g:=λ_=>V.bl ak)
  (by simp[pvE,Zb]) (by unfold lim;lia) (λx hx=>#[_,rfl,by
   have e:=ZeD d s hn<|hP.row x hx;simp[pvE,e]])
 have ht:=ZX (g:=λ_:Row=>ak) P
 have hpt:Y2 (Zb P) [.tuple]=aa ak:=rfl;rw[Ze (ρ':=[aa<|spV p n,aa<|Zb P,af]) (os':=[]) (s':=s)<|by simp[pvE,hpt,hc1,ht]]
 have hc2:=Zy (C:=CV<|d+2) (cap:=[]) (nl:=1) (t:=[0]) (it:=.of<|.v 1) (elt:=.call 16 [(.v 0)]) (U:=[aa<|spV p n,aa<|Zb P,af]) (s:=s) (l:=P) (e:=Zd) (g:=λr=>yq<|hdI r)
  (by simp[pvE,Zb]) (by unfold lim;lia) (λx hx=>#[_,rfl,by
   have e:=Ue (d+1) x s;simp[pvE,e]])
 rw[qz hP]at hc2;rw[Ze (ρ':=[aa<|spV p n,aa<|Zb P,aa<|.lst<|(Z4 P).map Zh]) (os':=[]) (s':=s)<|by simp[pvE,hc2]]
 have hrs:(Z4 P).Pairwise (· < ·):=by rw[<-qD (p:=p)];exact hP.pn.rf.heads
 have hln:(Z4 P).length=P.length:=by unfold Z4;rw[ax]
 have e3:=qG (d+1) s (by lia) hrs
 have hin:=vQ<|Z4 P;rw[Ze (ρ':=[aa<|spV p n,aa<|Zb P,aa<|.lst<|(Z4 P).map Zh]) (os':=[]) (s':=s)<|by simp[pvE,JS,hin,e3]]
 refine Zt<|ZS ?_;have ew:((ZU 0 (Z4 P).length).zip<|(Z4 P).map Zh).map (λq=>V.tup [q.1,q.2])=(aP P.length).map λi=>V.tup [Zh i,Zh<|(Z4 P).getD i 0]:=by
  apply gF
  .simp[ZU,hln]
  .intro i h1 h2
   have h3:i<P.length:=by simpa using h2
   have h4:i<(Z4 P).length:=by lia
   simp[ZU,Zh,h4]
 have hc3:=Zy (cap:=[1]) (nl:=2) (t:=[0,1]) (elt:=.call 25 [(.v 2),(.v 0),(.v 1)]) (l:=aP P.length)
  (by
   have:pvw (CV<|d+2) (.enum<|.v 2) [aa<|spV p n,aa<|Zb P,aa<|.lst<|(Z4 P).map Zh] s=.ok (((ZU 0 ((Z4 P).map Zh).length).zip<|(Z4 P).map Zh).map λq=>V.tup [q.1,q.2]) s:=by simp[pvE]
   rw[this,ax,ew]) (by rw[bq];unfold lim;lia) (λi hi=>#[_,rfl,by
   have hi':=bh.mp hi;obtain⟨k,hk,e⟩:=Gi d s hn hP hi';have:(Z4 P).getD i 0=k:=by
    unfold Z4;rw[aD,aQ,ai hi'];show((hdI P[i]).getD 0)=k;rw[hk];rfl
   have e':CV (d+2) 25 [Zb P,Zh i,Zh<|(Z4 P).getD i 0] s=.ok (.bl ak) s:=by rw[this];exact e
   simp[pvE]at e' ⊢;exact e'])
 have ht3:=ZX (g:=λ_:Nat=>ak)<|aP P.length
 simp[pvE,hc3,ht3]
end
end K84
namespace Rw
open La
open Ev (ltI Wt ZV)
section
variable{p n:Nat}[Base p]
noncomputable def Wz(p:Nat)(rs:List Row):List Row:=rs.flatMap λr=>(aP p).map λ(k:Nat)=>r++[(k:Int)]
def Z1(p n h:Nat):List Row:=(aP<|n-(h+1)).foldl (λrs _=>Wz p rs) [aH h 0++[1]]
def Yc(P:List Row):Nat:=match P.getLast? with
 |some r=>(hdI r).getD 0+1
 |none=>0
noncomputable def WO(n f:Nat):List Nat:=((aP<|n-f).map (f + ·)).reverse
def xU(p n:Nat)(P:List Row)(st:List Row)(h:Nat):List Row:=if(P.all λr=>ag<|gt r h=0)=ak then st++Z1 p n h else st
def yJ(p n:Nat)(P:List Row):List Row:=(WO n<|Yc P).foldl (xU p n P) []
def z8(p n:Nat)(Ps:List (List Row)):List (List Row):=Ps.flatMap λP=>(yJ p n P).map λr=>P++[r]
def ZR(p n:Nat):Nat->List (List Row)
 |0=>[[]]
 |k+1=>z8 p n<|ZR p n k
def Zci(p h m:Nat)(r:Row):Prop:=∃t:Row,r=aH h 0++1::t/\t.length=m/\∀a∈t,0<=a/\a<(p:Int)
theorem Zcq{h m:Nat}{rs:List Row}(H:∀r∈rs,Zci p h m r):∀r∈Wz p rs,Zci p h (m+1) r:=λr hr=>by
 obtain⟨q,hq,hr⟩:=dG.mp hr;obtain⟨k,hk,rfl⟩:=aR.mp hr;obtain⟨t,rfl,ht,hb⟩:=H q hq;have hk':=bh.mp hk;refine#[t++[(k:Int)],by simp,by simp[ht],λa ha=>?_]
 rcases bD.mp ha with z|z
 .exact hb a z
 .rw[aK.mp z];exact#[by lia,by lia]
def zr(rs:List Row):(Wz p rs).length=rs.length*p:=by
 unfold Wz;rw[kE];simp only[ax,bq];rw[pV,iK]
theorem zZ{h:Nat}:∀(L:List Nat){m:Nat}{rs:List Row},(∀r∈rs,Zci p h m r)->(∀r∈L.foldl (λrs _=>Wz p rs) rs,Zci p h (m+L.length) r)/\(L.foldl (λrs _=>Wz p rs) rs).length=rs.length*p^L.length
 |[],m,rs,H=>#[H,by simp]
 |_::L,m,rs,H=>by
  obtain⟨a,b⟩:=zZ L<|Zcq H;refine#[λr hr=>?_,?_]
  .have:=a r hr
   rw[show m+1+L.length=m+(L.length+1) by lia]at this
   exact this
  .rw[dB,b,zr,aG,gG,nH,kI p]
theorem Jm{h:Nat}(hh:h<n):(∀r∈Z1 p n h,Zk p n r/\gt r h=1/\∀i,i<h->gt r i=0)/\(Z1 p n h).length=p^(n-(h+1)):=by
 have hone:(1:Int)<p:=by rcases(inferInstance:Base p).b with e|e|e<;>subst e<;>decide
 obtain⟨a,b⟩:=zZ (p:=p) (aP<|n-(h+1)) λr hr=>#[[],by rw[aK.mp hr],rfl,λa ha=>by cases ha]
 refine#[λr hr=>?_,by unfold Z1;rw[b];simp]
 obtain⟨t,rfl,ht,hb⟩:=a r hr;rw[bq]at ht;refine#[#[by simp[ht];lia,λx hx=>?_],?_,λi hi=>?_]
 .rcases bD.mp hx with z|z
  .rw[(List.mem_replicate.mp z).2];exact#[by lia,by lia]
  .rcases aB.mp z with rfl|z
   .exact#[by lia,hone]
   .exact hb x z
 .unfold gt;rw[aD,bu<|by simp];simp
 .unfold gt;rw[aD,bR (by simpa using hi),cB];simp[hi]
theorem yg{P:List Row}{r:Row}:∀(L:List Nat)(st:List Row),r∈L.foldl (xU p n P) st->r∈st\/∃h∈L,(∀q∈P,gt q h=0)/\r∈Z1 p n h
 |[],st,hr=>.inl hr
 |h::L,st,hr=>by
  rcases yg L (xU p n P st h) hr with z|⟨k,hk,z⟩
  .unfold xU at z
   split at z
   .rename_i c
    rcases bD.mp z with z|z
    .exact .inl z
    .exact .inr #[h,aj ..,λq hq=>T6<|aX.mp c q hq,z]
   .exact .inl z
  .exact .inr #[k,ao _ hk,z]
theorem UN{f h:Nat}:h∈WO n f↔f<=h/\h<n:=by
 unfold WO;rw[eS,aR]
 constructor
 .rintro ⟨k,hk,rfl⟩
  have:=bh.mp hk;lia
 .rintro ⟨a,b⟩
  exact#[h-f,bh.mpr (by lia),by lia]
def qO{P:List Row}{r:Row}(hr:r∈yJ p n P):∃h,Yc P<=h/\h<n/\(∀q∈P,gt q h=0)/\r∈Z1 p n h:=by
 rcases yg _ _ hr with z|⟨h,hh,a,b⟩
 .cases z
 .obtain⟨x,y⟩:=UN.mp hh
  exact#[h,x,y,a,b]
theorem Zbf{P:List Row}(hP:pZ p n P){r:Row}(hr:r∈P):(hdI r).getD 0<Yc P:=by
 have hi:=hP.pn.rf.inc;unfold toP at hi;rw[cT]at hi;unfold Yc;cases e:P.getLast? with
 |none=>rw[lj]at e;rw[e]at hr;cases hr
 |some q=>
  obtain⟨P',rfl⟩:=gM.mp e;show _<(hdI q).getD 0+1;rcases bD.mp hr with z|z
  .have:=(dF.mp hi).2.2 r z q (aK.mpr rfl)
   simp only at this;lia
  .rw[aK.mp z];lia
def ZbA{o l:Row}{j:Nat}(ho:Zk p n o)(hl:Zk p n l)(h:gt o j=0):clr p o l j=o:=by
 refine wR ?_ λk=>?_
 .exact(ZH ho hl).1.trans ho.1.symm
 .unfold clr
  rw[Ui ho hl,h];have:=XZ ppos ho k;simp only[Int.neg_zero,Int.zero_mul,Int.add_zero];exact fv this.1 this.2
def Zch{P:List Row}{r:Row}(hP:pZ p n P)(hr:r∈yJ p n P):pZ p n (P++[r]):=by
 obtain⟨h,h1,h2,h3,h4⟩:=qO hr;obtain⟨hrow,hone,hzero⟩:=(Jm h2).1 r h4;have:=qp hP hrow h2 hone hzero λq hq=>bt (Zbf hP hq) h1
 have e:P.map (λo=>clr p o r h)=P:=by
  conv=>rhs;rw[<-List.map_id P]
  exact dN λo ho=>ZbA (hP.row o ho) hrow<|h3 o ho
 rw[e]at this;exact this.1
theorem Y5:∀(k:Nat),∀P∈ZR p n k,pZ p n P/\P.length=k
 |0,P,hP=>by rw[aK.mp hP];exact#[pZ.nil,rfl]
 |k+1,P,hP=>by
  obtain⟨Q,hQ,hP⟩:=dG.mp hP;obtain⟨r,hr,rfl⟩:=aR.mp hP;obtain⟨a,b⟩:=Y5 k Q hQ;exact#[Zch a hr,by simp[b]]
end
end Rw
namespace Rw
open Ev (ltP Z8 ZM)
def ZfM(p n:Nat):Bool:=(aP<|n+1).all λk=>ag<|(ZR p n k).length<=1395
noncomputable def QW:List (Nat×Nat):=[(2,1),(2,2),(2,3),(2,4),(3,1),(3,2),(3,3),(5,1),(5,2)]
noncomputable def QR:List (Nat×Nat):=[(2,5),(2,6),(3,4),(5,3)]
def jn:((QW++QR).all λs=>ZfM s.1 s.2)=ak:=by decide +kernel
open La
section
variable{p n:Nat}[Base p]
def Zda(hW:pZ p n W)(hr:Zk p n r)(h:∀i,gt r i=0):Vw p W r=ak:=by
 rw[ZZ hW hr];have e:toV p r=λ_=>0:=by funext k;exact(Yt hr).mpr<|h k
 rw[e];exact Yx
def Zc5(hW:pZ p n W)(hr:r∈W):Vw p W r=ak:=by
 rw[ZZ hW<|hW.row r hr];exact XQ hW.pn.rf<|Yb hr
end
section
variable{p n:Nat}[Base p]
def GH:ph p 1=1:=by
 rcases(inferInstance:Base p).b with e|e|e<;>subst e<;>rfl
def ZcR(hr:Zk p n r):toV p r k=1↔gt r k=1:=by
 have hb:=(inferInstance:Base p).b
 constructor
 .intro h
  refine J3 (XZ ppos hr k) #[by omega,by omega] ?_
  rw[GH];exact h
 .intro h
  unfold toV;rw[h,GH]
end
end Rw
namespace K84
open Ev Pv Rw La
section
variable{p n:Nat}[Base p]
def ix0{C:Zr}{i:Nat}{U:Env}{s:DS}(h:U[i]?=aa (aa<|spV p n)):pv C (.ix (.v i)<|.c<|.int 0) U s=.ok (.int p) s:=by
 rw[pv,Zf h,Za,pv];rfl
def ix1{C:Zr}{i:Nat}{U:Env}{s:DS}(h:U[i]?=aa (aa<|spV p n)):pv C (.ix (.v i)<|.c<|.int 1) U s=.ok (.int n) s:=by
 rw[pv,Zf h,Za,pv];rfl
def Zdb{C:Zr}{e:E}{x:V}{xs:List V}{U:Env}{s:DS}(h:pv C e U s=.ok (.lst (x::xs)) s):pv C (.ix e<|.c<|.int 0) U s=.ok x s:=by
 rw[pv,h,Za,pv];show po (at' (x::xs) 0) s=_;simp[at',ixN,po]
theorem Zbg(d:Nat){r o:Row}{k:Int}(s:DS)(hn:n<=6)(hr:Zk p n r)(ho:Zk p n o)(hk:-1000<k/\k<1000):CV (d+1) 5 [spV p n,Zd r,Zd o,.int k] s=.ok (Zd<|ZW p r o k) s:=by
 refine Zp rfl (by decide) rfl ?_
 show rvs (CV d) [] (.ret (.blt .tuple [(.comp1 [3,0] 2 [0,1] (.zip (.v 1)<|.v 2) []<|.bin .mod (.bin .add (.v 0)<|.bin .mul (.v 2)<|.v 1)<|.ix (.v 3)<|.c<|.int 0)])::[]) [aa<|spV p n,aa<|Zd r,aa<|Zd o,aa<|.int k] [] s=_;have hp:=W5 (p:=p);have hc:=Zy (cap:=[3,0]) (nl:=2) (t:=[0,1]) (it:=.zip (.v 1)<|.v 2) (elt:=.bin .mod (.bin .add (.v 0)<|.bin .mul (.v 2)<|.v 1)<|.ix (.v 3)<|.c<|.int 0) (U:=[aa<|spV p n,aa<|Zd r,aa<|Zd o,aa<|.int k]) (l:=r.zip o) (e:=λq=>V.tup [.int q.1,.int q.2]) (g:=λq=>V.int<|(q.1+k*q.2)%p)
  (by simp[pvE,Zd,QL]) (by rw[dP,hr.1,ho.1];unfold lim;lia) (λq hq=>by
   have h2:=ho.2 q.2 (fT hq).2;refine#[_,rfl,?_];have f1:=Yr (a:=k) (by lia) (by lia)
   have f2:=Yr (a:=q.2) (by lia) (by lia)
   have hp0:0<p:=by lia
   have e0:=ix0 (C:=CV d) (i:=3) (U:=[aa<|.int q.1,aa<|.int q.2,aa<|.int k,aa<|spV p n]) (s:=s) rfl;show pv (CV d) _ [aa<|.int q.1,aa<|.int q.2,aa<|.int k,aa<|spV p n] s=_;have g:pv (CV d) (.bin .add (.v 0)<|.bin .mul (.v 2)<|.v 1) [aa<|.int q.1,aa<|.int q.2,aa<|.int k,aa<|spV p n] s=.ok (.int<|q.1+k*q.2) s:=by simp[pvE,f1,f2]
   rw[pv,g,Za,e0,Za];simp[pvF,hp0])
 have e:(r.zip o).map (λq=>V.int<|(q.1+k*q.2)%p)=(ZW p r o k).map V.int:=by
  unfold ZW;rw[<-fC,bO];rfl
 refine Zt<|ZS ?_;rw[pv,Zc hc Zi,e];rfl
end
section
variable{C:Zr}{U:Env}{s:DS}{a b:E}
def Zbe{c c':Bool}(h1:pv C a U s=.ok (.bl c) s)(h2:pv C b U s=.ok (.bl c') s):pv C (.and a b) U s=.ok (.bl<|c&&c') s:=by
 rw[pv,h1];cases c
 .rfl
 .exact h2
def VF{c:Bool}(h1:pv C a U s=.ok (.bl c) s):pv C (.not a) U s=.ok (.bl !c) s:=by rw[pv,h1];rfl
def yf{f:Nat}{x y:E}{v w r:V}(h1:pv C x U s=.ok v s)(h2:pv C y U s=.ok w s)(h:C f [v,w] s=.ok r s):pv C (.call f [x,y]) U s=.ok r s:=ZA (Zc h1<|Zc h2 Zi) h
def XU{f:Nat}{x y z:E}{v w u r:V}(h1:pv C x U s=.ok v s)(h2:pv C y U s=.ok w s)(h3:pv C z U s=.ok u s)(h:C f [v,w,u] s=.ok r s):pv C (.call f [x,y,z]) U s=.ok r s:=ZA (Zc h1<|Zc h2<|Zc h3 Zi) h
def guard{ms:List Nat}{t:E}{x l:List Sm}(h:pv C t U s=.ok (.bl al) s):rvs C ms (.ite t x []::l) U [] s=rvs C ms l U [] s:=by
 rw[Ze<|(Yv<|Z6 h rfl).trans<|by rw[T8 (by simp),rvs]]
def Va{P:List Row}(h1:pv C a U s=.ok (Zb P) s):pv C (.blt .len [a]) U s=.ok (.int P.length) s:=by
 rw[pv,Zc h1 Zi,Za];show po (aa<|V.int (P.map Zd).length) s=_;rw[ax];rfl
def ZaB{x y:Int}(h1:pv C a U s=.ok (.int x) s)(h2:pv C b U s=.ok (.int y) s):pv C (.bin .add a b) U s=.ok (.int<|x+y) s:=by
 rw[pv,h1,Za,h2,Za];rfl
def u8{x y:List V}(h1:pv C a U s=.ok (.lst x) s)(h2:pv C b U s=.ok (.lst y) s)(h:x.length+y.length<=lim):pv C (.bin .add a b) U s=.ok (.lst<|x++y) s:=by
 rw[pv,h1,Za,h2,Za];show(if x.length+y.length<=lim then _ else _)=_
 rw[T9 h]
end
noncomputable def menu:List (Nat×Nat×Nat):=[(2,2,1),(4,2,2),(8,2,3),(16,2,4),(32,2,5),(64,2,6),(3,3,1),(9,3,2),(27,3,3),(81,3,4),(5,5,1),(25,5,2),(125,5,3)]
def Zc7:∀q∈menu,(q.2.1=2\/q.2.1=3\/q.2.1=5)/\1<=q.2.2/\q.2.2<=6/\q.2∈QW++QR:=by decide
def qj(d:Nat){m:Int}(s:DS)(hm:2<=m):∃p n s',CV (d+2) 3 [.drw,.int m] s=.ok (spV p n) s'/\(p=2\/p=3\/p=5)/\1<=n/\n<=6/\(p,n)∈QW++QR:=by
 let L:=menu.filter λq=>ag<|(q.1:Int)<=m
 have hL:0<L.length:=mw<|cX.mpr #[aj ..,T5 hm];have hL2:L.length<=13:=gd ..;have hc:=YI (C:=CV<|d+1) (cap:=[1]) (nl:=2) (t:=[0,1]) (it:=.of<|.v 2) (tst:=.cmp .le (.v 0)<|.v 2) (elt:=.v 1) (U:=[aa .drw,aa<|.int m,aa<|.lst<|menu.map λq=>.tup [.int q.1,spV q.2.1 q.2.2]]) (s:=s) (l:=menu)
  (by rw[pvw,Zf rfl];rfl) (by decide) (λq _=>#[[aa<|.int q.1,aa<|spV q.2.1 q.2.2,aa<|.int m],.bl<|ag<|(q.1:Int)<=m,rfl,by
   rw[pv,Zf rfl,Za,Zf rfl];rfl,rfl,λ_=>Zf rfl])
 obtain⟨v,s',f1,f2,f3⟩:=um (m:=L.length) s (by omega) (by omega)
 obtain⟨k,rfl⟩:∃k:Nat,v=k:=#[v.toNat,by omega]
 have hk:k<L.length:=by omega
 have hq:=Zc7 _ (cX.mp<|bU hk).1;refine#[L[k].2.1,L[k].2.2,s',Zp rfl (by decide) rfl ?_,hq]
 show rvs (CV<|d+1) [] (.asg [2] (.lst [(.tup [(.c<|.int 2),(.tup [(.c<|.int 2),(.c<|.int 1)])]),(.tup [(.c<|.int 4),(.tup [(.c<|.int 2),(.c<|.int 2)])]),(.tup [(.c<|.int 8),(.tup [(.c<|.int 2),(.c<|.int 3)])]),(.tup [(.c<|.int 16),(.tup [(.c<|.int 2),(.c<|.int 4)])]),(.tup [(.c<|.int 32),(.tup [(.c<|.int 2),(.c<|.int 5)])]),(.tup [(.c<|.int 64),(.tup [(.c<|.int 2),(.c<|.int 6)])]),(.tup [(.c<|.int 3),(.tup [(.c<|.int 3),(.c<|.int 1)])]),(.tup [(.c<|.int 9),(.tup [(.c<|.int 3),(.c<|.int 2)])])]) ::
  .asg [2] (.bin .add (.v 2)<|.lst [(.tup [(.c<|.int 27),(.tup [(.c<|.int 3),(.c<|.int 3)])]),(.tup [(.c<|.int 81),(.tup [(.c<|.int 3),(.c<|.int 4)])]),(.tup [(.c<|.int 5),(.tup [(.c<|.int 5),(.c<|.int 1)])]),(.tup [(.c<|.int 25),(.tup [(.c<|.int 5),(.c<|.int 2)])]),(.tup [(.c<|.int 125),(.tup [(.c<|.int 5),(.c<|.int 3)])])]) ::
  .asg [2] (.comp1 [1] 2 [0,1] (.of<|.v 2) [(.cmp .le (.v 0)<|.v 2)]<|.v 1) ::
  .ret (.ix (.v 2)<|.call 2 [(.v 0),(.blt .len [(.v 2)])])::[]) [aa .drw,aa<|.int m,af] [] s=_
 rw[Ze (ρ':=[aa .drw,aa<|.int m,aa<|.lst<|(menu.take 8).map λq=>.tup [.int q.1,spV q.2.1 q.2.2]]) (os':=[]) (s':=s)<|by simp[pvE,menu,spV]]
 rw[Ze (ρ':=[aa .drw,aa<|.int m,aa<|.lst<|menu.map λq=>.tup [.int q.1,spV q.2.1 q.2.2]]) (os':=[]) (s':=s)<|by simp[pvE,menu,spV]]
 rw[Ze<|Yp hc rfl];show rvs _ _ _ [aa .drw,aa<|.int m,aa<|.lst<|L.map λq=>spV q.2.1 q.2.2] _ _=_
 refine Zt<|ZS ?_;have e1:pv (CV<|d+1) (.blt .len [(.v 2)]) [aa .drw,aa<|.int m,aa<|.lst<|L.map λq=>spV q.2.1 q.2.2] s=.ok (.int L.length) s:=by
  rw[pv,Zc (Zf rfl) Zi,Za];show po (aa<|V.int (L.map λq=>spV q.2.1 q.2.2).length) s=_
  rw[ax];rfl
 rw[pv,Zf rfl,Za,ZA (Zc (Zf rfl)<|Zc e1 Zi) f1,Za];show po (at' (L.map λq=>spV q.2.1 q.2.2) (k:Int)) s'=_
 rw[Qc<|by rw[aQ,ai hk];rfl];rfl
section
variable{p n:Nat}[Base p]
theorem zS(d:Nat){P:List Row}{h:Nat}(s:DS)(hP:∀r∈P,Zk p n r)(hl:P.length<=1000)(hh:h<n):CV (d+1) 24 [Zb P,Zh h] s=.ok (.bl<|P.all λr=>ag<|gt r h=0) s:=by
 refine Zp rfl (by decide) rfl ?_
 have hc:=Zy (C:=CV d) (cap:=[1]) (nl:=1) (t:=[0]) (it:=.of<|.v 0) (elt:=.cmp .eq (.ix (.v 0)<|.v 1)<|.c<|.int 0) (U:=[aa<|Zb P,aa<|Zh h]) (s:=s) (l:=P) (e:=Zd) (g:=λr=>V.bl<|ag<|gt r h=0)
  (by simp[pvE,Zb]) (by unfold lim;lia) (λr hr=>#[_,rfl,by
   have:=U7 (by rw[(hP r hr).1];exact hh)
   simp[pvE,Zd,Zh,this,ZJ]])
 have ht:=ZX (g:=λr:Row=>ag<|gt r h=0) P
 simp[XN,pvE,hc,ht,kJ,Function.comp]
def Qd(d:Nat){i lo hi:Int}(s:DS)(h1:lo<=i)(h2:i<=hi):CV (d+2) 11 [.int i,.int lo,.int hi] s=.ok .non s:=by
 have e:=UP d i lo hi s;refine Ut (U:=[aa<|.int i,aa<|.int lo,aa<|.int hi]) (os:=[]) rfl (by decide) rfl ?_
 simp[Vq,pvE,e,h1,h2]
def ZdM(h:Nat):(aH h [V.int 0]).flatten=(aH h (0:Int)).map V.int:=by
 induction h with|zero=>rfl|succ k ih=>rw[cf,c6,ih];rfl
theorem jr{C:Zr}{U:Env}{s:DS}{a b:E}{i j:Nat}(h1:pv C a U s=.ok (.int i) s)(h2:pv C b U s=.ok (.int j) s)(hi:i<1000000)(hj:j<1000000):pvw C (.rng2 a b) U s=.ok ((aP<|j-i).map λk=>Zh<|i+k) s:=by
 rw[pvw,h1,Za,h2,Za];show(if(Yh (i:Int)&&Yh (j:Int))=ak then PR.ok (ZU i ((j:Int)-i).toNat) s else .no)=_
 rw[Xb (by lia) (by lia),Xb (by lia) (by lia),T9<|show(ak&&ak)=ak from rfl,show((j:Int)-i).toNat=j-i by lia]
 rfl
theorem yU(d:Nat){h:Nat}(s:DS)(hn:n<=6)(hh:h<n):CV (d+1) 31 [spV p n,Zh h] s=.ok (.lst<|(Z1 p n h).map Zd) s:=by
 refine Zp rfl (by decide) rfl ?_
 show rvs (CV d) [] (.asg [2,3] (.v 0) :: .asg [4] (.lst [(.bin .add (.bin .mul (.tup [(.c<|.int 0)])<|.v 1)<|.tup [(.c<|.int 1)])]) :: .forr [5] (.rng2 (.bin .add (.v 1)<|.c<|.int 1)<|.v 3) [.asg [4]<|.comp2 [2] 2 [0] (.of<|.v 4) [] [1] (.rng1<|.v 2) []<|.bin .add (.v 0)<|.tup [(.v 1)]] :: .ret (.v 4)::[]) [aa<|spV p n,aa<|Zh h,af,af,af,af] [] s=_;have hp:=W5 (p:=p);rw[Ze<|Z9 (p:=p) (n:=n) _ _ (by simp[pvE])<|by simp]
 have er:=ZdM h;rw[Ze (ρ':=[aa<|spV p n,aa<|Zh h,aa<|.int p,aa<|.int n,aa<|.lst<|[aH h (0:Int)++[1]].map Zd,af]) (os':=[]) (s':=s) (by
  have h1:(h:Int)<1000:=by lia
  have h2:h+1<=lim:=by unfold lim;lia
  have h3:(aH h<|V.int 0).length+1<=16777216:=by rw[cA];lia
  rw[List.map_replicate]at er;have h4:h<=16777215:=by lia
  simp[pvE,Zh,h1,er,Zd,h4])]
 obtain⟨o',hI,e⟩:=Wn (t:=[5]) (it:=.rng2 (.bin .add (.v 1)<|.c<|.int 1)<|.v 3) (b:=[.asg [4]<|.comp2 [2] 2 [0] (.of<|.v 4) [] [1] (.rng1<|.v 2) []<|.bin .add (.v 0)<|.tup [(.v 1)]]) (L:=aP<|n-(h+1)) (U:=λst o=>[aa<|spV p n,aa<|Zh h,aa<|.int p,aa<|.int n,aa<|.lst<|st.map Zd,o]) (st:=[aH h (0:Int)++[1]]) (os:=[]) (λl st=>st.length*5^l.length<=15625/\∀r∈st,r.length+l.length<=1000)
  (jr (by simp[pvE,Zh]) (by simp[pvE]) (by lia)<|by lia) #[by
   have:5^(n-(h+1))<=5^6:=cH (by lia) (by lia)
   simp only[bJ,bq];lia,λr hr=>by rw[aK.mp hr];simp;lia] rfl (λx l st o hst=>by
  obtain⟨h3,h4⟩:=hst;have hsl:(Wz p st).length=st.length*p:=zr st;have hb:st.length*p*5^l.length<=15625:=by
   have:st.length*p<=st.length*5:=nt _ (by lia)
   have h4:st.length*p*5^l.length<=st.length*5*5^l.length:=Nat.mul_le_mul_right _ this;rw[aG,gG]at h3;have h5:st.length*5*5^l.length=st.length*(5^l.length*5):=by rw[nH,kI 5]
   lia
  have hlim:=bX (l9 _<|Nat.pow_pos<|by lia) hb
  refine#[#[by rw[hsl];exact hb,λr hr=>?_],rfl,_,aa<|Zh<|h+1+x,rfl,?_]
  .unfold Wz at hr
   obtain⟨q,hq,hr⟩:=dG.mp hr;obtain⟨k,_,rfl⟩:=aR.mp hr;have:=h4 q hq;rw[aG]at this;rw[aU,bJ];lia
  .show rvs (CV d) [] _ [aa<|spV p n,aa<|Zh h,aa<|.int p,aa<|.int n,aa<|.lst<|st.map Zd,aa<|Zh<|h+1+x] [] s=_
   have hc:=z6 (C:=CV d) (cap:=[2]) (nl:=2) (t:=[0]) (u:=[1]) (it:=.of<|.v 4) (jt:=.rng1<|.v 2) (elt:=.bin .add (.v 0)<|.tup [(.v 1)]) (U:=[aa<|spV p n,aa<|Zh h,aa<|.int p,aa<|.int n,aa<|.lst<|st.map Zd,aa<|Zh<|h+1+x]) (s:=s) (l:=st) (e:=Zd) (m:=λ_=>aP p) (g:=λr k=>Zd<|r++[(k:Int)])
    (by simp[pvE]) (by rw[kE];simp only[ax,bq];rw[pV,iK];unfold lim;lia) (λr hr=>#[_,rfl,by
     exact XE (Zf rfl) (by lia),λk hk=>#[_,rfl,by
     have hr':=h4 r hr;have h6:r.length+1<=16777216:=by lia
     simp[pvE,Zd,Zh,h6]]])
   have ef:(st.flatMap λr=>(aP p).map λ(k:Nat)=>Zd<|r++[(k:Int)])=(Wz p st).map Zd:=by
    unfold Wz;rw[pD];exact congrArg (λf=>st.flatMap f)<|funext λr=>by rw[bO];rfl
   rw[ef]at hc;rw[Ze<|Yp hc rfl,rvs];rfl)
 rw[Ze e];exact Zt<|ZS<|Zf rfl
theorem ZbN{C:Zr}{U:Env}{s:DS}{a b:E}{i j:Nat}(h1:pv C a U s=.ok (.int i) s)(h2:pv C b U s=.ok (.int j) s)(hi:i<1000000)(hj:j<1000000):pvw C (.rrng a b) U s=.ok ((WO j i).map Zh) s:=by
 rw[pvw,h1,Za,h2,Za];show(if(Yh (i:Int)&&Yh (j:Int))=ak then PR.ok (ZU i ((j:Int)-i).toNat).reverse s else .no)=_
 rw[Xb (by lia) (by lia),Xb (by lia) (by lia),T9<|show(ak&&ak)=ak from rfl,show((j:Int)-i).toNat=j-i by lia]
 unfold WO ZU;rw[iY,bO];rfl
theorem Zb3{r:Row}{P:List Row}:at' ((P++[r]).map Zd) (-1)=aa (Zd r):=by
 have e:ixN ((P++[r]).map Zd).length (-1)=aa P.length:=by
  rw[ax,aU,bJ];unfold ixN;rw[T8 (by lia),T9 (by lia),show(-1+((P.length+1:Nat):Int)).toNat=P.length by lia]
 unfold at';rw[e];show((P++[r]).map Zd)[P.length]?=_;rw[aQ,bu<|aJ _,Nat.sub_self];rfl
def Zal(d:Nat){P:List Row}{v:V}{a2 a3 a4:Option V}(s:DS)(hP:pZ p n P):pv (CV<|d+1) (.ite (.v 1) (.bin .add (.call 16 [(.ix (.v 1)<|.neg<|.c<|.int 1)])<|.c<|.int 1)<|.c<|.int 0) [aa v,aa<|Zb P,a2,a3,a4] s=.ok (Zh<|Yc P) s:=by
 unfold Yc;cases e:P.getLast? with
 |none=>
  rw[lj]at e;subst e;simp[pvE,Zb,Zh]
 |some r=>
  obtain⟨P',rfl⟩:=gM.mp e;obtain⟨k,h1,h2,h3⟩:=hP.head fld.one0 (r:=r) (by simp)
  have e1:=Ue d r s;rw[h1]at e1;have e2:pv (CV<|d+1) (.ix (.v 1)<|.neg<|.c<|.int 1) [aa v,aa<|Zb<|P'++[r],a2,a3,a4] s=.ok (Zd r) s:=by
   have:=Zb3 (r:=r) (P:=P');simp only[br,aY,ou]at this;simp[pvE,Zb,this]
  have e3:pv (CV<|d+1) (.call 16 [(.ix (.v 1)<|.neg<|.c<|.int 1)]) [aa v,aa<|Zb<|P'++[r],a2,a3,a4] s=.ok (.int k) s:=ZA (Zc e2 Zi) e1;have e4:pv (CV<|d+1) (.v 1) [aa v,aa<|Zb<|P'++[r],a2,a3,a4] s=.ok (Zb<|P'++[r]) s:=Zf rfl;rw[pv,e4,Za];show(po (aa<|!((P'++[r]).map Zd).isEmpty) s).bind _=_;have:((P'++[r]).map Zd).isEmpty=al:=by cases P'<;>rfl
  rw[this,Yg,Za];show pv (CV<|d+1) (.bin .add _ _) _ s=_;rw[pv,e3,Za,pv];simp[h1,pvE,Zh]
theorem Yw:∀L:List Row,ZL (L.map Zd)=ak
 |[]=>rfl
 |r::L=>by
  show(V.flat (Zd r)&&ZL (L.map Zd))=ak;rw[Yw L,si];exact XA r
theorem yO(d:Nat){P:List Row}(s:DS)(hn:n<=6)(hP:pZ p n P):CV (d+2) 32 [.lst<|(aP n).map λh=>.lst<|(Z1 p n h).map Zd,Zb P] s=.ok (.lst<|(yJ p n P).map Zd) s:=by
 refine Zp rfl (by decide) rfl ?_
 have hd:=dsum hP;have hp:=W5 (p:=p)
 let v:V:=.lst<|(aP n).map λh=>.lst<|(Z1 p n h).map Zd
 show rvs (CV<|d+1) [3] (.asg [2] (.ite (.v 1) (.bin .add (.call 16 [(.ix (.v 1)<|.neg<|.c<|.int 1)])<|.c<|.int 1)<|.c<|.int 0) :: .asg [3] (.lst []) :: .forr [4] (.rrng (.v 2)<|.blt .len [(.v 0)]) [.ite (.call 24 [(.v 1),(.v 4)]) [.ex<|.mt .extend (.v 3) [(.ix (.v 0)<|.v 4)]] []] :: .ret (.v 3)::[]) [aa v,aa<|Zb P,af,af,af] [] s=_;rw[Ze<|Yp (Zal d s hP) rfl];rw[Ze (ρ':=[aa v,aa<|Zb P,aa<|Zh<|Yc P,aa<|.lst<|([]:List Row).map Zd,af]) (by
  rw[rv];simp[pvE];rfl)]
 have hf:Yc P<=n:=by
  unfold Yc;cases e:P.getLast? with
  |none=>exact d4 _
  |some r=>
   obtain⟨P',rfl⟩:=gM.mp e;have:=hP.pn.lt _ (Yb (show r∈P'++[r] by simp))
   exact this
 obtain⟨o',hI,e⟩:=Wn (t:=[4]) (it:=.rrng (.v 2)<|.blt .len [(.v 0)]) (b:=[.ite (.call 24 [(.v 1),(.v 4)]) [.ex<|.mt .extend (.v 3) [(.ix (.v 0)<|.v 4)]] []]) (L:=WO n<|Yc P) (step:=xU p n P) (U:=λst o=>[aa v,aa<|Zb P,aa<|Zh<|Yc P,aa<|.lst<|st.map Zd,o]) (λl st=>(∀h∈l,h<n)/\st.length+15625*l.length<=100000)
  (by
   have e1:pv (CV<|d+1) (.blt .len [(.v 0)]) (hide [3] [aa v,aa<|Zb P,aa<|Zh<|Yc P,aa<|.lst<|([]:List Row).map Zd,af]) s=.ok (.int n) s:=by
    simp[pvE,v]
   exact ZbN (by simp[pvE,Zh]) e1 (by lia)<|by lia) #[λh hh=>(UN.mp hh).2,by
   unfold WO;simp;lia] rfl (λx l st o hst=>by
  obtain⟨h1,h2⟩:=hst;have hx:=h1 x<|aj ..;have hl:(Z1 p n x).length<=15625:=by
   rw[(Jm hx).2];have a1:p^(n-(x+1))<=5^(n-(x+1)):=Nat.pow_le_pow_left (by lia) _
   have a2:5^(n-(x+1))<=5^6:=cH (by lia) (by lia)
   lia
  have e2:=zS d s hP.row (by lia) hx
  rw[aG]at h2;refine#[#[λh hh=>h1 h<|ao _ hh,?_],rfl,_,aa<|Zh x,rfl,?_]
  .unfold xU
   split
   .rw[aU];lia
   .lia
  .show rvs (CV<|d+1) [3] _ [aa v,aa<|Zb P,aa<|Zh<|Yc P,aa<|.lst<|st.map Zd,aa<|Zh x] [3] s=_
   have e3:Yk (CV<|d+1) (.call 24 [(.v 1),(.v 4)]) [aa v,aa<|Zb P,aa<|Zh<|Yc P,aa<|.lst<|st.map Zd,aa<|Zh x] s=.ok (P.all λr=>ag<|gt r x=0) s:=Z6 (ZA (Zc (Zf rfl)<|Zc (Zf rfl) Zi) e2) rfl
   unfold xU;by_cases c:(P.all λr=>ag<|gt r x=0)=ak
   .rw[T9 c]
    have e4:at' ((aP n).map λh=>V.lst<|(Z1 p n h).map Zd) (x:Int)=aa (.lst<|(Z1 p n x).map Zd):=Qc (by rw[aQ,cO hx];rfl)
    have e5:rv (CV<|d+1) [3] (.ex<|.mt .extend (.v 3) [(.ix (.v 0)<|.v 4)]) [aa v,aa<|Zb P,aa<|Zh<|Yc P,aa<|.lst<|st.map Zd,aa<|Zh x] [3] s=.ok (.nx [aa v,aa<|Zb P,aa<|Zh<|Yc P,aa<|.lst<|(st++Z1 p n x).map Zd,aa<|Zh x] [3]) s:=by
     have e6:pv (CV<|d+1) (.ix (.v 0)<|.v 4) (hide [3] [aa v,aa<|Zb P,aa<|Zh<|Yc P,aa<|.lst<|st.map Zd,aa<|Zh x]) s=.ok (.lst<|(Z1 p n x).map Zd) s:=by
      simp[pvE,v,Zh,e4]
     rw[rv,T9<|by rfl]
     show(PR.ok (st.map Zd) s).bind _=_;rw[Za,e6,Za];show(if ZL ((Z1 p n x).map Zd)=ak/\(st.map Zd).length+((Z1 p n x).map Zd).length<=lim then _ else _)=_
     rw[T9 #[Yw _,by rw[ax,ax];unfold lim;lia],br]
     rfl
    rw[Ze ((Yv e3).trans<|by rw[T9 c,Ze e5,rvs]),rvs]
   .rw[T8 c]
    rw[Ze ((Yv e3).trans<|by rw[T8 c,rvs]),rvs])
 rw[Ze e];exact Zt<|ZS<|Zf rfl
theorem uZ(d:Nat){k:Nat}(s:DS)(hn:n<=6)(hk:k<=n)(hl:∀j,j<=n->(ZR p n j).length<=1395):CV (d+3) 33 [spV p n,Zh k] s=.ok (.lst<|(ZR p n k).map Zb) s:=by
 refine Zp rfl (by decide) rfl ?_
 show rvs (CV<|d+2) [] (.asg [2,3] (.v 0) :: .ex (.call 11 [(.v 1),(.c<|.int 0),(.v 3)]) :: .asg [4] (.comp1 [0] 1 [0] (.rng1<|.v 3) []<|.call 31 [(.v 1),(.v 0)]) :: .asg [5] (.lst [(.tup [])]) :: .forr [6] (.rng1<|.v 1) [.asg [5]<|.comp2 [4] 2 [0] (.of<|.v 5) [] [1] (.of<|.call 32 [(.v 2),(.v 0)]) []<|.bin .add (.v 0)<|.tup [(.v 1)]] :: .ret (.v 5)::[]) [aa<|spV p n,aa<|Zh k,af,af,af,af,af] [] s=_;rw[Ze<|Z9 (p:=p) (n:=n) _ _ (by simp[pvE])<|by simp]
 show rvs (CV<|d+2) [] _ [aa<|spV p n,aa<|Zh k,aa<|.int p,aa<|.int n,af,af,af] [] s=_;rw[Ze<|UV<|ZA (Zc (Zf rfl)<|Zc (by rw[pv];rfl)<|Zc (Zf rfl) Zi)<|Qd d s (by lia)<|by lia]
 have hc:=Zy (cap:=[0]) (nl:=1) (t:=[0]) (it:=.rng1<|.v 3) (elt:=.call 31 [(.v 1),(.v 0)]) (U:=[aa<|spV p n,aa<|Zh k,aa<|.int p,aa<|.int n,af,af,af])
  (XE (Zf rfl)<|by lia) (by rw[bq];unfold lim;lia) (λh hh=>#[_,rfl,ZA (Zc (Zf rfl)<|Zc (Zf rfl) Zi)<|yU (d+1) s hn<|bh.mp hh])
 rw[Ze<|Yp hc rfl]
 let v:V:=.lst<|(aP n).map λh=>.lst<|(Z1 p n h).map Zd
 show rvs (CV<|d+2) [] _ [aa<|spV p n,aa<|Zh k,aa<|.int p,aa<|.int n,aa v,af,af] [] s=_;rw[Ze (ρ':=[aa<|spV p n,aa<|Zh k,aa<|.int p,aa<|.int n,aa v,aa<|.lst<|(ZR p n 0).map Zb,af]) (os':=[]) (s':=s)<|by simp[pvE,ZR,Zb]]
 obtain⟨o',hI,e⟩:=Wn (t:=[6]) (it:=.rng1<|.v 1) (b:=[.asg [5]<|.comp2 [4] 2 [0] (.of<|.v 5) [] [1] (.of<|.call 32 [(.v 2),(.v 0)]) []<|.bin .add (.v 0)<|.tup [(.v 1)]]) (step:=λPs _=>z8 p n Ps) (U:=λst o=>[aa<|spV p n,aa<|Zh k,aa<|.int p,aa<|.int n,aa v,aa<|.lst<|st.map Zb,o]) (os:=[]) (λl st=>∃j,j+l.length=k/\st=ZR p n j)
  (XE (Zf rfl)<|by lia) #[0,by simp,rfl] rfl (λx l st o hst=>by
  obtain⟨j,hj,rfl⟩:=hst;rw[aG]at hj;refine#[#[j+1,by lia,rfl],rfl,_,aa<|Zh x,rfl,?_]
  show rvs (CV<|d+2) [] _ [aa<|spV p n,aa<|Zh k,aa<|.int p,aa<|.int n,aa v,aa<|.lst<|(ZR p n j).map Zb,aa<|Zh x] [] s=_;have ef:((ZR p n j).flatMap λP=>(yJ p n P).map λr=>Zb<|P++[r])=(ZR p n<|j+1).map Zb:=by
   show _=(z8 p n<|ZR p n j).map Zb;unfold z8;rw[pD];exact congrArg (λf=>(ZR p n j).flatMap f)<|funext λP=>by rw[bO];rfl
  have hc:=z6 (cap:=[4]) (nl:=2) (t:=[0]) (u:=[1]) (it:=.of<|.v 5) (jt:=.of<|.call 32 [(.v 2),(.v 0)]) (elt:=.bin .add (.v 0)<|.tup [(.v 1)]) (U:=[aa<|spV p n,aa<|Zh k,aa<|.int p,aa<|.int n,aa v,aa<|.lst<|(ZR p n j).map Zb,aa<|Zh x]) (l:=ZR p n j) (e:=Zb)
   (by simp[pvE]) (by rw[ef,ax];have:=hl (j+1) (by lia);unfold lim;lia) (λP hP=>by
    obtain⟨h1,h2⟩:=Y5 j P hP;refine#[_,rfl,?_,λr hr=>#[_,rfl,?_]]
    .rw[pvw,ZA (Zc (Zf rfl)<|Zc (Zf rfl) Zi)<|yO d s hn h1]
     rfl
    .have h3:P.length+1<=16777216:=by lia
     simp[pvE,Zb,h3])
  rw[ef]at hc;rw[Ze<|Yp hc rfl,rvs];rfl)
 have ek:(aP k).foldl (λPs _=>z8 p n Ps) (ZR p n 0)=ZR p n k:=by
  obtain⟨j,h1,h2⟩:=hI;rw[h2];rw[kA]at h1;rw[show j=k by lia]
 rw[ek]at e;rw[Ze e];exact Zt<|ZS<|Zf rfl
end
end K84
namespace Lv
open Ev Pv
noncomputable def Qi:Fn:=#[2,2,[.ite (.cmp .lt (.v 1)<|.blt .len [(.v 0)]) [.ret<|.ix (.v 0)<|.v 1] [],.ret<|.c<|.int 0]]
noncomputable def Uv(c:Nat):Fn:=#[2,3,[.asg [2]<|.call c [(.v 0),(.v 1)],.ite (.cmp .ge (.v 2)<|.bin .pow (.c<|.int 10)<|.c<|.int 18) [.ret<|.lst [(.bin .sub (.v 2)<|.bin .pow (.c<|.int 10)<|.c<|.int 18),(.c<|.bl ak)]] [],.ret<|.lst [(.bin .mod (.v 2)<|.c<|.int 2147483647),(.c<|.bl al)]]]
noncomputable def vo(nn:Nat)(M:Int)(st:Nat)(B:List Sm):Fn:=#[1,nn,[.forr [1] (.rng1<|.blt .max2 [(.c<|.int 1),(.blt .min2 [(.blt .len [(.v 0)]),(.c<|.int M)])]) [.cel 2 st [(.v 0),(.v 1)] B],.ret<|.c<|.bl ak]]
def Zcw(ht:ca≠tk)(hC:F[ca]?=aa Qi)(d:Nat)(k0:0<=k):∃c,Zl F tk (d+1) ca [.scr ns,.int k] s=.ok (.int c) s:=by
 by_cases c:k<ns.length
 .have hk:k.toNat<ns.length:=by lia
  refine#[ns[k.toNat],?_];simp[Zl,ht,hC,Qi,rvs,rv,pvs,Pv.pv.eq_1,Pv.pv.eq_2,pv,Yk,PR.bind,po,ZN,YR,int2,Xq,blt1,YN,Zq,ixV,at',ixN,k0,c,hk,ofD]
 .refine#[0,?_]
  simp[Zl,ht,hC,Qi,rvs,rv,pvs,pv,Yk,PR.bind,po,ZN,YR,int2,Xq,blt1,YN,Zq,ixV,at',ixN,k0,c,ofD]
def Zbq(ht:ca≠tk)(hts:st≠tk)(hC:F[ca]?=aa Qi)(hS:F[st]?=aa (Uv ca))(d:Nat)(k0:0<=k):∃v d0,Zl F tk (d+2) st [.scr ns,.int k] s=.ok v s/\UE v=aa d0/\okS d0.1 d0.2=ak:=by
 obtain⟨c,e⟩:=Zcw ht hC (s:=s) (ns:=ns) d k0;rw[show d+2=(d+1)+1 from rfl,Zl,T8 hts,hS]
 generalize Zl F tk (d+1)=C at e ⊢;by_cases h:10^18<=c
 .have h':(1000000000000000000:Int)<=c:=by simpa using h
  have o:okS (c-1000000000000000000) ak=ak:=by simp[okS];lia
  refine#[.lst [.int<|c-1000000000000000000,.bl ak],(c-1000000000000000000,ak),?_,by simp[UE,o],o]
  simp[Uv,rvs,rv,pvA,pvs,pv,Yk,PR.bind,po,ZN,YR,int2,Zq,ofD,Xm,Pv.Q2,e,h',muts,vc,lim]
 .have h':¬(1000000000000000000:Int)<=c:=by simpa using h
  have o:okS (c%2147483647) al=ak:=by simp[okS];lia
  refine#[.lst [.int<|c%2147483647,.bl al],(c%2147483647,al),?_,by simp[UE,o],o]
  simp[Uv,rvs,rv,pvA,pvs,pv,Yk,PR.bind,po,ZN,YR,int2,Zq,ofD,Xm,Pv.Q2,e,h',muts,vc,lim]
theorem yp(P:Env->Prop):∀(xs:List V),(∀x∈xs,∀U s,P U->∃ρ' s',P ρ'/\body x U [] s=.ok (.nx ρ' []) s')->∀U s,P U->∃ρ' s',P ρ'/\XW body xs U [] s=.ok (.nx ρ' []) s'
 |[],_,U,s,h=>#[U,s,h,rfl]
 |x::xs,hb,U,s,h=>by
  obtain⟨ρ1,s1,h1,e1⟩:=hb x (aj ..) U s h;obtain⟨ρ2,s2,h2,e2⟩:=yp P xs (λy hy=>hb y<|ao _ hy) ρ1 s1 h1
  refine#[ρ2,s2,h2,?_];rw[XW,e1];exact e2
def hide_nil :hide [] U=U:=by
 unfold hide;apply c7
 intro i;rw[ke];cases U[i]?<;>rfl
def Zaf(h0:U[0]?=aa (aa<|.scr ns))(h1:U[1]?=aa (aa<|.int k))(hl:U.length=nn+3):(Vh 2 U).set 2 (aa .drw)=aa (.scr ns)::aa (.int k)::aa .drw::aH nn af:=by
 match U,h0,h1,hl with
 |a::b::l,h0,h1,hl=>
  cases h0;cases h1;have:l.length=nn+1:=by simpa using hl
  unfold Vh;simp[JO,V.flat,this,cf]
def law_of(d:Nat)(ht:ca≠tk)(hts:st≠tk)(htl:L≠tk)(hC:F[ca]?=aa Qi)(hS:F[st]?=aa (Uv ca))(hL:F[L]?=aa (vo (nn+3) M st B))(hM:M<2^62)
  (hv:∀(o:Option V)(k:Nat)(s:DS),∃U os s',rvs (Zl F tk<|d+2) (muts B) B (o::aa (.int k)::aa .drw::aH nn af) [] s=.ok (.nx U os) s'/\U[0]?=aa o/\U.length=nn+3)(ns:List Int)(s:DS) :
  ∃S,Zl F tk (d+3) L [.scr ns] s=.ok (.bl ak) S:=by
 rw[show d+3=(d+2)+1 from rfl,Zl,T8 htl,hL]
 have hst:=λk (k0:0<=k) s=>Zbq ht hts hC hS (s:=s) (ns:=ns) (k:=k) d k0
 generalize Zl F tk (d+2)=C at hv hst ⊢;have hr:∃m,pvw C (.rng1<|.blt .max2 [(.c<|.int 1),(.blt .min2 [(.blt .len [(.v 0)]),(.c<|.int M)])]) (ZN (nn+3) [.scr ns]) s=.ok (ZU 0 m) s:=by
  have e:pv C (.blt .max2 [(.c<|.int 1),(.blt .min2 [(.blt .len [(.v 0)]),(.c<|.int M)])]) (ZN (nn+3) [.scr ns]) s=.ok (.int<|if(if M<(ns.length:Int)then M else(ns.length:Int))>1 then(if M<(ns.length:Int)then M else(ns.length:Int))else 1) s:=by
   simp[pv,pvs,PR.bind,po,ZN,ofD,Xq,blt1,blt2,YN]
  rw[pvw,e];refine#[_,(T9 ?_ :)];unfold Yh;refine T5 ?_;split<;>split<;>lia
 obtain⟨m,hr⟩:=hr;have hm:muts (vo (nn+3) M st B).body=muts B:=by simp[vo,muts,vc]
 simp only[hm];show ∃S,(if 1=1 then _ else _)=_
 rw[T9 rfl];unfold vo;simp only;rw[rvs,rv,hide_nil,hr]
 let body:V->Env->List Nat->DS->PR FlV:=λx U os s=>if([1].any os.contains)=ak then .no else(po (Zo [1] x U) s).bind λU s=>rvs C (muts B) [.cel 2 st [(.v 0),(.v 1)] B] U os s
 have hb:∀x∈ZU 0 m,∀U s,(U[0]?=aa (aa<|.scr ns)/\U.length=nn+3)->∃ρ' s',(ρ'[0]?=aa (aa<|.scr ns)/\ρ'.length=nn+3)/\body x U [] s=.ok (.nx ρ' []) s':=by
  intro x hx U s #[h0,hl];unfold ZU at hx;obtain⟨k,_,rfl⟩:=aR.mp hx;rw[oM];obtain⟨v,d0,e1,e2,e3⟩:=hst (k:Int) (by lia) s
  obtain⟨ρ2,os2,s2,e4,h2,l2⟩:=hv (aa<|.scr ns) k d0;have q0:(U.set 1<|aa<|.int (k:Int))[0]?=aa (aa<|.scr ns):=by rw[aZ<|by decide];exact h0
  have q1:(U.set 1<|aa<|.int (k:Int))[1]?=aa (aa<|.int (k:Int)):=bc (by lia)
  have ql:(U.set 1<|aa<|V.int (k:Int)).length=nn+3:=by rw[bE];exact hl
  have a:pvs C [(.v 0),(.v 1)] (U.set 1<|aa<|.int (k:Int)) s=.ok [.scr ns,.int (k:Int)] s:=by
   simp only[pvs,pv,q0,q1,PR.bind,po,Option.join];rfl
  refine#[ρ2.map JO,s,#[by rw[aQ,h2];rfl,by rw[ax];exact l2],?_]
  show(rvs C (muts B) [.cel 2 st [(.v 0),(.v 1)] B] (U.set 1<|aa<|.int (k:Int)) [] s)=_;rw[rvs,rv,T9 (by rfl),a]
  show PR.bind (PR.bind (C st [.scr ns,.int (k:Int)] s) _) _=_;rw[e1];show PR.bind (PR.bind (po (UE v) s) _) _=_;rw[e2];simp only[po,PR.bind,Zaf q0 q1 ql,e4,rvs]
 obtain⟨U,s',h,e⟩:=yp (body:=body) (λU=>U[0]?=aa (aa<|.scr ns)/\U.length=nn+3) (ZU 0 m) hb (ZN (nn+3) [.scr ns]) s #[rfl,by simp[ZN]]
 refine#[s',?_];show PR.bind (PR.bind (XW body (ZU 0 m) _ _ s) _) _=_;rw[e];rfl
end Lv
namespace Rw
open La
open Ev (ltP Z8 ZM)
section
variable{p n:Nat}[Base p]
def Zu(p:Nat)(P Q:List Row):Bool:=ag<|(Xw p P Q).length=P.length+Q.length
def uD{P Q:List Row}(hP:pZ p n P)(hQ:pZ p n Q):Zu p P Q=Zu p Q P:=by
 unfold Zu;rw[uO hP hQ,gC]
def JQ{P:List Row}(hP:pZ p n P)(h:1<=P.length):Zu p P P=al:=by
 unfold Zu;rw[ZbC hP hP λ_ h=>h]
 exact T4 (by omega)
structure Lot(p n k:Nat)[Base p](L:List (List Row)):Prop where
 pt:∀P∈L,pZ p n P/\P.length=k
 ms:L.Pairwise λP Q=>Zu p P Q=ak/\Zu p Q P=ak
variable{k:Nat}
def Lot.nodup{L:List (List Row)}(h:Lot p n k L)(hk:1<=k):L.Nodup:=by
 have:=h.ms;refine gV (λ{P Q} hP hQ hm e=>?_) this
 subst e;have:=JQ (h.pt P hP).1 (by rw[(h.pt P hP).2];exact hk)
 rw[this]at hm;exact T7 hm.1 (by simp)
def Lot.perm{L M:List (List Row)}(h:Lot p n k L)(e:M.Perm L):Lot p n k M:=
 #[λP hP=>h.pt P<|e.mem_iff.mp hP,(e.pairwise_iff λ{x y} q=>#[q.2,q.1]).mpr h.ms]
def Lot.sub{L M:List (List Row)}(h:Lot p n k L)(e:M.Sublist L):Lot p n k M:=
 #[λP hP=>h.pt P<|e.subset hP,h.ms.sublist e]
def YD(p:Nat)(f:List (List Row))(P:List Row):List (List Row):=if f.all (Zu p P)=ak then f++[P]else f
def Xp(p:Nat)(f A:List (List Row)):List (List Row):=A.foldl (YD p) f
def Qh{f:List (List Row)}{P:List Row}(h:Lot p n k f)(hP:pZ p n P/\P.length=k):Lot p n k (YD p f P):=by
 unfold YD;split
 .next c=>
  refine#[λQ hQ=>?_,dF.mpr #[h.ms,eA ..,λQ hQ R hR=>?_]]
  .rcases bD.mp hQ with z|z
   .exact h.pt Q z
   .rw[aK.mp z];exact hP
  .rw[aK.mp hR]
   have:=aX.mp c Q hQ;exact#[by rw[uD (h.pt Q hQ).1 hP.1];exact this,this]
 .exact h
def Ji{f:List (List Row)}{P:List Row}:∀Q∈f,Q∈YD p f P:=λQ hQ=>by
 unfold YD;split
 .exact bD.mpr<|.inl hQ
 .exact hQ
theorem GX:∀{A f:List (List Row)},Lot p n k f->(∀P∈A,pZ p n P/\P.length=k)->Lot p n k (Xp p f A)/\(∀P∈f,P∈Xp p f A)/\(∀P∈A,P∈Xp p f A\/∃Q∈Xp p f A,Zu p P Q=al)/\∀P∈Xp p f A,P∈f\/P∈A
 |[],f,h,_=>#[h,λ_ q=>q,λ_ q=>T7 q (bQ),λ_ q=>.inl q]
 |P::A,f,h,hA=>by
  obtain⟨h1,h2,h3,h4⟩:=GX (A:=A) (Qh h<|hA P<|aj ..) λQ hQ=>hA Q<|ao _ hQ
  refine#[h1,λQ hQ=>h2 Q<|Ji Q hQ,λQ hQ=>?_,λQ hQ=>?_]
  .rcases aB.mp hQ with rfl|hQ
   .by_cases c:f.all (Zu p Q)=ak
    .exact .inl<|h2 Q<|by unfold YD;rw[T9 c];exact bD.mpr<|.inr<|aK.mpr rfl
    .obtain⟨R,hR,e⟩:∃R∈f,Zu p Q R=al:=by
      simpa using c
     exact .inr #[R,h2 R<|Ji R hR,e]
   .exact h3 Q hQ
  .rcases h4 Q hQ with z|z
   .unfold YD at z
    split at z
    .rcases bD.mp z with z|z
     .exact .inl z
     .rw[aK.mp z];exact .inr<|aj ..
    .exact .inl z
   .exact .inr<|ao _ z
def zL(p n k:Nat)(L:List (List Row)):List (List Row):=Z8 ltP<|Xp p L<|ZR p n k
theorem UF{B:Type}[BEq B][LawfulBEq B]:∀{L A:List B},L.Nodup->(∀x∈L,x∈A)->L.length<=A.length
 |[],_,_,_=>d4 _
 |x::L,A,h,hs=>by
  rw[cY]at h;have h1:=UF (L:=L) (A:=A.erase x) h.2 λy hy=>(List.mem_erase_of_ne (show y≠x from λe=>h.1<|by rw[<-e];exact hy)).mpr<|hs y<|ao _ hy
  have h2:=hs x<|aj ..;have h3:=List.length_erase_of_mem h2;have h4:=mw h2;rw[aG];omega
def Zfy{L:List (List Row)}(h:L.Nodup):(Z8 ltP L).Pairwise λa b=>ltP a b=ak:=Sd.YV Sd.Yu h
def WL{L:List (List Row)}(h:Lot p n k L)(hk:1<=k)(hl:L.length<=100000):ZM L=ak:=by
 unfold ZM;rw[aI,aI,T0,T0];refine#[#[hl,h.nodup hk],?_];rw[eE]
 right
 rw[aX];intro P hP;have:=(h.pt P hP).2;cases P with|nil=>simp at this;omega|cons a b=>rfl
def apB(p:Nat)(L:List (List Row)):Bool:=(aP L.length).all λi=>(L.take i).all<|Zu p<|L.getD i []
def ZeY{L:List (List Row)}(h:Lot p n k L):apB p L=ak:=by
 unfold apB;rw[aX];intro i hi;have hi:=bh.mp hi;rw[aX];intro Q hQ;obtain⟨j,hj,rfl⟩:=cg hQ;rw[bC]at hj;have hj1:j<L.length:=by omega
 rw[gi,aD,ai hi];exact(bI.mp h.ms j i hj1 hi<|by omega).2
end
end Rw
namespace K84
open Ev Pv Rw La
abbrev ZO(L:List (List Row)):V:=.tup<|L.map Zb
section
variable{p n k:Nat}[Base p]
def Ja(d:Nat)(s:DS)(h1:1<=k)(h2:k<=n):CV (d+3) 12 [spV p n,Zh k] s=.ok .non s:=by
 have e:=Qd d (i:=k) (lo:=1) (hi:=n) s (by omega) (by omega)
 refine Ut (U:=[aa<|spV p n,aa<|Zh k,aa<|.int p,aa<|.int n]) (os:=[]) rfl (by decide) rfl ?_
 show rvs (CV<|d+2) [] (.asg [2,3] (.v 0) :: .ex (.call 11 [(.v 1),(.c<|.int 1),(.v 3)])::[]) [aa<|spV p n,aa<|Zh k,af,af] [] s=_;rw[Ze<|Z9 (p:=p) (n:=n) _ _ (by simp[pvE])<|by simp]
 show rvs (CV<|d+2) [] _ [aa<|spV p n,aa<|Zh k,aa<|.int p,aa<|.int n] [] s=_;rw[Ze (UV<|ZA (Zc (Zf rfl)<|Zc (by rw[pv];rfl)<|Zc (Zf rfl) Zi) e),rvs]
def Za2(d:Nat)(s:DS)(h:n<=4):CV (d+1) 30 [spV p n] s=.ok .non s:=by
 refine Ut (fn:=Z0) (U:=[aa<|spV p n,aa<|.int p,aa<|.int n]) (os:=[]) rfl (by decide) rfl ?_
 show rvs (CV d) [] Z0.body [aa<|spV p n,af,af] [] s=_
 dsimp only[Z0]
 rw[Ze<|Z9 (p:=p) (n:=n) _ _ (by simp[pvE])<|by simp]
 show rvs (CV d) [] _ [aa<|spV p n,aa<|.int p,aa<|.int n] [] s=_;have e:pv (CV d) (.cmp .gt (.v 2)<|.c<|.int 4) [aa<|spV p n,aa<|.int p,aa<|.int n] s=.ok (.bl al) s:=by
  have h:¬(4:Int)<n:=by omega
  simp[pvE,h]
 rw[guard e,rvs]
def ZbY(d:Nat){P Q:List Row}(s:DS)(hn:n<=6)(hP:pZ p n P)(hQ:pZ p n Q):CV (d+6) 22 [spV p n,Zb P,Zb Q] s=.ok (.bl<|Zu p P Q) s:=by
 have e:=QA d (v:=Zb Q) s hn hP hQ.row rfl;refine Zp rfl (by decide) rfl ?_
 refine Zt<|ZS ?_;have e1:=Va<|XU (U:=[aa<|spV p n,aa<|Zb P,aa<|Zb Q]) (x:=.v 0) (y:=.v 1) (z:=.v 2) (Zf rfl) (Zf rfl) (Zf rfl) e;have e2:=ZaB (C:=CV<|d+5) (U:=[aa<|spV p n,aa<|Zb P,aa<|Zb Q]) (s:=s) (a:=.blt .len [(.v 1)]) (b:=.blt .len [(.v 2)]) (Va<|Zf rfl)<|Va<|Zf rfl;show pv (CV<|d+5) (.cmp .eq (.blt .len [(.call 21 [(.v 0),(.v 1),(.v 2)])])<|.bin .add (.blt .len [(.v 1)])<|.blt .len [(.v 2)]) [aa<|spV p n,aa<|Zb P,aa<|Zb Q] s=_;rw[pv,e1,Za,e2,Za];show PR.ok (V.bl<|ag<|((Xw p P Q).length:Int)=(P.length:Int)+Q.length) s=_
 unfold Zu;rw[show ag (((Xw p P Q).length:Int)=(P.length:Int)+Q.length)=ag ((Xw p P Q).length=P.length+Q.length)from decide_eq_decide.mpr<|by omega]
def Qz(d:Nat){P:List Row}{L:List (List Row)}{v:V}(s:DS)(hn:n<=6)(hP:pZ p n P)(hL:∀Q∈L,pZ p n Q)(hl:L.length<=3000)(hv:YN v=aa (L.map Zb)):CV (d+7) 23 [spV p n,Zb P,v] s=.ok (.bl<|L.all<|Zu p P) s:=by
 refine Zp rfl (by decide) rfl ?_
 have hc:=Zy (cap:=[0,1]) (nl:=1) (t:=[0]) (it:=.of<|.v 2) (elt:=.call 22 [(.v 1),(.v 2),(.v 0)]) (U:=[aa<|spV p n,aa<|Zb P,aa v])
  (by simp[pvE,hv]) (by unfold lim;omega) (λQ hQ=>#[_,rfl,ZA (Zc (Zf rfl)<|Zc (Zf rfl)<|Zc (Zf rfl) Zi)<|ZbY d s hn hP<|hL Q hQ])
 have ht:=ZX (g:=λQ:List Row=>Zu p P Q) L
 show rvs (CV<|d+6) [] (.ret (.blt .all [(.comp1 [0,1] 1 [0] (.of<|.v 2) []<|.call 22 [(.v 1),(.v 2),(.v 0)])])::[]) [aa<|spV p n,aa<|Zb P,aa v] [] s=_;refine Zt<|ZS ?_;rw[pv,Zc hc Zi,Za];show po ((Yo<|L.map λQ=>V.bl<|Zu p P Q).map λbs=>V.bl<|bs.all id) s=_
 rw[ht];show PR.ok (V.bl<|(L.map λQ=>Zu p P Q).all id) s=_
 rw[kJ];rfl
theorem Xh:∀L:List (List Row),ZL (L.map Zb)=ak
 |[]=>rfl
 |P::L=>by
  show(V.flat (Zb P)&&ZL (L.map Zb))=ak;rw[Xh L,si];exact Yw P
theorem Qo:∀Ps:List (List Row),YA (Ps.map Zb)=aa Ps
 |[]=>rfl
 |P::Ps=>by
  show(match QI (Zb P),YA (Ps.map Zb)with|some a,aa b=>aa (a::b)|_,_=>af)=_
  rw[Qo Ps,show QI (Zb P)=aa P from Y0 P]
def qM:∀Ps:List (List Row),uP (Ps.map Zb)=al
 |[]=>rfl
 |[]::_=>rfl
 |(_::_)::_=>rfl
def Y9{C:Zr}{U:Env}{s:DS}{a:E}{Ps:List (List Row)}(h1:pv C a U s=.ok (.lst<|Ps.map Zb) s)(h:ZM Ps=ak):pv C (.blt .sorted [a]) U s=.ok (.lst<|(Z8 ltP Ps).map Zb) s:=by
 rw[pv,Zc h1 Zi,Za];show po (if uP (Ps.map Zb)=ak then _ else _) s=_
 rw[T8 (by rw[qM];simp),Qo]
 show po (if ZM Ps=ak then _ else _) s=_
 rw[T9 h];rfl
def VG{C:Zr}{U:Env}{s:DS}{a:E}{Ps:List (List Row)}(h1:pv C a U s=.ok (.lst<|Ps.map Zb) s):pv C (.blt .tuple [a]) U s=.ok (ZO Ps) s:=by
 rw[pv,Zc h1 Zi];rfl
def qW(d:Nat){L:List (List Row)}(s:DS)(hn:n<=6)(hk:k<=n)(hl:∀j,j<=n->(ZR p n j).length<=1395)(hL:Lot p n k L)(hL1:L.length<=1000)(hs:ZM (Xp p L<|ZR p n k)=ak):CV (d+8) 34 [spV p n,Zh k,ZO L] s=.ok (ZO<|zL p n k L) s:=by
 refine Zp rfl (by decide) rfl ?_
 show rvs (CV<|d+7) [3] (.asg [3] (.blt .list [(.v 2)]) :: .forr [4] (.of<|.call 33 [(.v 0),(.v 1)]) [.ite (.call 23 [(.v 0),(.v 4),(.v 3)]) [.ex<|.mt .append (.v 3) [(.v 4)]] []] :: .ret (.blt .tuple [(.blt .sorted [(.v 3)])])::[]) [aa<|spV p n,aa<|Zh k,aa<|ZO L,af,af] [] s=_;have ff:=Xh L;rw[Ze (ρ':=[aa<|spV p n,aa<|Zh k,aa<|ZO L,aa<|.lst<|L.map Zb,af]) (os':=[3]) (by
  have e:pvA (CV<|d+7) (.blt .list [(.v 2)]) [aa<|spV p n,aa<|Zh k,aa<|ZO L,af,af] [] s=.ok (.lst<|L.map Zb) s:=by simp[pvE]
  rw[rv,e,Za,T9<|by rfl]
  show(if ZL (L.map Zb)=ak/\3<5 then _ else _)=_
  rw[T9 #[ff,by omega]];rfl)]
 obtain⟨o',hI,e⟩:=Wn (t:=[4]) (it:=.of<|.call 33 [(.v 0),(.v 1)]) (b:=[.ite (.call 23 [(.v 0),(.v 4),(.v 3)]) [.ex<|.mt .append (.v 3) [(.v 4)]] []]) (U:=λst o=>[aa<|spV p n,aa<|Zh k,aa<|ZO L,aa<|.lst<|st.map Zb,o]) (os:=[3]) (λl st=>st.length+l.length<=2395/\Lot p n k st/\∀P∈l,pZ p n P/\P.length=k)
  (by
   have e1:=uZ (d+4) s hn hk hl;rw[pvw,ZA (Zc (Zf rfl)<|Zc (Zf rfl) Zi) e1];rfl) #[by have:=hl k hk;omega,hL,λP hP=>Y5 k P hP] rfl (λP l st o hst=>by
  obtain⟨h1,h2,h3⟩:=hst;have hP:=h3 P<|aj ..;rw[aG]at h1;refine#[#[?_,Qh h2 hP,λQ hQ=>h3 Q<|ao _ hQ],Yw P,_,aa<|Zb P,rfl,?_]
  .unfold YD
   split
   .rw[aU,bJ];omega
   .omega
  .show rvs (CV<|d+7) [3] _ [aa<|spV p n,aa<|Zh k,aa<|ZO L,aa<|.lst<|st.map Zb,aa<|Zb P] [3] s=_
   have e2:=Qz (v:=.lst<|st.map Zb) d s hn hP.1 (λQ hQ=>(h2.pt Q hQ).1) (by omega) rfl
   have e3:Yk (CV<|d+7) (.call 23 [(.v 0),(.v 4),(.v 3)]) [aa<|spV p n,aa<|Zh k,aa<|ZO L,aa<|.lst<|st.map Zb,aa<|Zb P] s=.ok (st.all<|Zu p P) s:=Z6 (ZA (Zc (Zf rfl)<|Zc (Zf rfl)<|Zc (Zf rfl) Zi) e2) rfl;unfold YD;by_cases c:st.all (Zu p P)=ak
   .rw[T9 c]
    have e5:rv (CV<|d+7) [3] (.ex<|.mt .append (.v 3) [(.v 4)]) [aa<|spV p n,aa<|Zh k,aa<|ZO L,aa<|.lst<|st.map Zb,aa<|Zb P] [3] s=.ok (.nx [aa<|spV p n,aa<|Zh k,aa<|ZO L,aa<|.lst<|(st++[P]).map Zb,aa<|Zb P] [3]) s:=by
     rw[rv,T9<|by rfl]
     show(PR.ok (st.map Zb) s).bind _=_;rw[Za,Zf rfl,Za];rw[T9 #[Yw P,by rw[ax];unfold lim;omega],br]
     rfl
    rw[Ze ((Yv e3).trans<|by rw[T9 c,Ze e5,rvs]),rvs]
   .rw[T8 c]
    rw[Ze ((Yv e3).trans<|by rw[T8 c,rvs]),rvs])
 rw[Ze e];exact Zt<|ZS<|VG<|Y9 (Zf rfl) hs
def zw(L:List (List Row)):Bool:=(L.zip L.tail).all λx=>ltP x.1 x.2
def jA{L:List (List Row)}(h:L.Pairwise λa b=>ltP a b=ak):zw L=ak:=by
 unfold zw;rw[aX];intro q hq;obtain⟨i,hi,e⟩:=cg hq;rw[pC]at e;rw[<-e];rw[dP,l8]at hi;simp only[oK];exact bI.mp h i (i+1) (by omega) (by omega) (by omega)
theorem Q6:∀(a b:List (List Row)),((a.map Zb).zip<|b.map Zb).map (λq=>V.tup [q.1,q.2])=(a.zip b).map λq=>V.tup [Zb q.1,Zb q.2]
 |[],_=>rfl
 |_::_,[]=>rfl
 |x::a,y::b=>by simp only[aY,cc];rw[Q6 a b]
def Zco{C:Zr}{U:Env}{s:DS}{a b:E}{P Q:List Row}(h1:pv C a U s=.ok (Zb P) s)(h2:pv C b U s=.ok (Zb Q) s):pv C (.cmp .lt a b) U s=.ok (.bl<|ltP P Q) s:=by
 rw[pv,h1,Za,h2,Za];show po ((Yd<|P.map Zd).bind λA=>(Yd<|Q.map Zd).map λB=>V.bl<|ltP A B) s=_
 rw[Y0,Y0];rfl
def GW(d:Nat){L:List (List Row)}(s:DS)(hl:L.length<=3000):CV (d+1) 13 [ZO L] s=.ok (.bl<|zw L) s:=by
 refine Zp rfl (by decide) rfl ?_
 have hc:=Zy (C:=CV d) (cap:=[]) (nl:=2) (t:=[0,1]) (it:=.zip (.v 0)<|.sl (.v 0) (aa<|.c<|.int 1) af) (elt:=.cmp .lt (.v 0)<|.v 1) (U:=[aa<|ZO L]) (s:=s) (l:=L.zip L.tail)
  (by
   have e1:YW (L.map Zb) (aa 1) af=L.tail.map Zb:=by rw[Qa,i8]
   simp[pvE,slV,e1];rw[<-i8,Q6]) (by rw[dP];unfold lim;omega) (λq hq=>#[_,rfl,Zco (Zf rfl)<|Zf rfl])
 have ht:=ZX (g:=λq:List Row×List Row=>ltP q.1 q.2)<|L.zip L.tail
 show rvs (CV d) [] (.ret (.blt .all [(.comp1 [] 2 [0,1] (.zip (.v 0)<|.sl (.v 0) (aa<|.c<|.int 1) af) []<|.cmp .lt (.v 0)<|.v 1)])::[]) [aa<|ZO L] [] s=_;refine Zt<|ZS ?_;rw[pv,Zc hc Zi,Za];show po ((Yo<|(L.zip L.tail).map λq=>V.bl<|ltP q.1 q.2).map λbs=>V.bl<|bs.all id) s=_
 rw[ht];show PR.ok (V.bl<|((L.zip L.tail).map λq=>ltP q.1 q.2).all id) s=_
 rw[kJ];rfl
def ZbP(d:Nat){L:List (List Row)}(s:DS)(hn:n<=6)(h1:1<=k)(hk:k<=n)(hL:∀P∈L,pZ p n P/\P.length=k)(hl:L.length<=3000):CV (d+8) 28 [spV p n,Zh k,ZO L] s=.ok (.bl<|zw L&&apB p L) s:=by
 refine Zp rfl (by decide) rfl ?_
 show rvs (CV<|d+7) [] (.ex (.call 12 [(.v 0),(.v 1)]) ::
  .ite (.or (.not<|.isi (.v 2) [.tuple])<|.not<|.blt .all [(.comp1 [0,1] 1 [0] (.of<|.v 2) []<|.and (.call 27 [(.v 1),(.v 0)])<|.cmp .eq (.blt .len [(.v 0)])<|.v 2)]) [.ret<|.c<|.bl al] [] ::
  .ite (.not<|.call 13 [(.v 2)]) [.ret<|.c<|.bl al] [] ::
  .ret (.blt .all [(.comp1 [0,2] 2 [0,1] (.enum<|.v 2) []<|.call 23 [(.v 2),(.v 1),(.sl (.v 3) af<|aa<|.v 0)])])::[]) [aa<|spV p n,aa<|Zh k,aa<|ZO L] [] s=_
 rw[Ze<|UV<|ZA (Zc (Zf rfl)<|Zc (Zf rfl) Zi)<|Ja (d+4) s h1 hk];have hc:=Zy (cap:=[0,1]) (nl:=1) (t:=[0]) (it:=.of<|.v 2) (elt:=.and (.call 27 [(.v 1),(.v 0)])<|.cmp .eq (.blt .len [(.v 0)])<|.v 2) (U:=[aa<|spV p n,aa<|Zh k,aa<|ZO L]) (l:=L) (g:=λ_=>V.bl ak)
  (by simp[pvE]) (by unfold lim;omega) (λP hP=>#[[aa<|Zb P,aa<|spV p n,aa<|Zh k],rfl,by
   obtain⟨q1,q2⟩:=hL P hP;have e1:=ZcP (d+4) s hn q1;have e2:pv (CV<|d+7) (.cmp .eq (.blt .len [(.v 0)])<|.v 2) [aa<|Zb P,aa<|spV p n,aa<|Zh k] s=.ok (.bl ak) s:=by
    rw[pv,Va<|Zf rfl,Za,Zf rfl,Za];show PR.ok (V.bl<|ag<|(P.length:Int)=(k:Int)) s=_;rw[q2,T5 rfl]
   rw[Zbe (yf (Zf rfl) (Zf rfl) e1) e2];rfl])
 have ht:=ZX (g:=λ_:List Row=>ak) L
 have hpt:Y2 (ZO L) [.tuple]=aa ak:=rfl;rw[Ze (ρ':=[aa<|spV p n,aa<|Zh k,aa<|ZO L]) (os':=[]) (s':=s)<|by simp[pvE,hpt,hc,ht]]
 have er:=VF (U:=[aa<|spV p n,aa<|Zh k,aa<|ZO L]) (a:=.call 13 [(.v 2)])<|ZA (Zc (Zf rfl) Zi)<|GW (d+6) s hl;cases eb:zw L with
 |false=>
  rw[eb]at er;exact Zt<|(Yv<|Z6 er rfl).trans<|Zt<|ZS<|by rw[pv];rfl
 |true=>
  rw[eb]at er;rw[guard er];refine Zt<|ZS ?_;have ew:((ZU 0 (L.map Zb).length).zip<|L.map Zb).map (λq=>V.tup [q.1,q.2])=(aP L.length).map λi=>V.tup [Zh i,Zb<|L.getD i []]:=by
   apply gF
   .simp[ZU]
   .intro i h1 h2
    have h3:i<L.length:=by simpa using h2
    simp[ZU,Zh,h3]
  have hc3:=Zy (cap:=[0,2]) (nl:=2) (t:=[0,1]) (elt:=.call 23 [(.v 2),(.v 1),(.sl (.v 3) af<|aa<|.v 0)])
   (by
    have:pvw (CV<|d+7) (.enum<|.v 2) [aa<|spV p n,aa<|Zh k,aa<|ZO L] s=.ok (((ZU 0 (L.map Zb).length).zip<|L.map Zb).map λq=>V.tup [q.1,q.2]) s:=by simp[pvE]
    rw[this,ew]) (by rw[bq];unfold lim;omega) (λi hi=>#[[aa<|Zh i,aa<|Zb<|L.getD i [],aa<|spV p n,aa<|ZO L],rfl,by
    have hi':=bh.mp hi;have hm:L.getD i []∈L:=by rw[aD,ai hi'];exact bU hi'
    have e5:pv (CV<|d+7) (.sl (.v 3) af<|aa<|.v 0) [aa<|Zh i,aa<|Zb<|L.getD i [],aa<|spV p n,aa<|ZO L] s=.ok (ZO<|L.take i) s:=by
     have e6:=jj (xs:=L.map Zb) (k:=i) (by rw[ax];omega)
     rw[<-nG]at e6;simp[pvE,slV,Zh,e6]
    exact XU (Zf rfl) (Zf rfl) e5<|Qz d s hn (hL _ hm).1 (λQ hQ=>(hL Q<|db hQ).1) (by rw[bC];omega) rfl])
  have ht3:=ZX (g:=λi:Nat=>(L.take i).all<|Zu p<|L.getD i [])<|aP L.length
  rw[pv,Zc hc3 Zi,Za];show po ((Yo<|(aP L.length).map λi=>V.bl<|(L.take i).all<|Zu p<|L.getD i []).map λbs=>V.bl<|bs.all id) s=_
  rw[ht3];show PR.ok (V.bl<|((aP L.length).map λi=>(L.take i).all<|Zu p<|L.getD i []).all id) s=_
  rw[kJ,Bool.true_and];rfl
def xx(d:Nat){L:List (List Row)}(s:DS)(hn:n<=6)(h1:1<=k)(hk:k<=n)(hL:Lot p n k L)(hr:L.Pairwise λa b=>ltP a b=ak)(hl:L.length<=3000):CV (d+8) 28 [spV p n,Zh k,ZO L] s=.ok (.bl ak) s:=by
 rw[ZbP d s hn h1 hk hL.pt hl,jA hr,ZeY hL];rfl
def zW(d:Nat){L:List (List Row)}(s:DS)(hn:n<=6)(h1:1<=k)(hk:k<=n)(hL:Lot p n k L)(hr:L.Pairwise λa b=>ltP a b=ak)(hl:L.length<=3000):CV (d+9) 29 [spV p n,Zh k,ZO L] s=.ok .non s:=by
 refine Ut (fn:=XR) (U:=[aa<|spV p n,aa<|Zh k,aa<|ZO L]) (os:=[]) rfl (by decide) rfl ?_
 show rvs (CV<|d+8) [] XR.body [aa<|spV p n,aa<|Zh k,aa<|ZO L] [] s=_
 dsimp only[XR]
 have e:=VF<|XU (U:=[aa<|spV p n,aa<|Zh k,aa<|ZO L]) (x:=.v 0) (y:=.v 1) (z:=.v 2) (Zf rfl) (Zf rfl) (Zf rfl)<|xx d s hn h1 hk hL hr hl;rw[guard e,rvs]
def Zd6(d:Nat){L:List (List Row)}(s:DS)(hn:n<=4)(h1:1<=k)(hk:k<=n)(hl:∀j,j<=n->(ZR p n j).length<=1395)(hL:Lot p n k L)(hr:L.Pairwise λa b=>ltP a b=ak)(hL1:L.length<=1000)(hs:ZM (Xp p L<|ZR p n k)=ak):CV (d+10) 35 [spV p n,Zh k,ZO L] s=.ok (ZO<|zL p n k L) s:=by
 refine Zp rfl (by decide) rfl ?_
 show rvs (CV<|d+9) [] (.ex (.call 29 [(.v 0),(.v 1),(.v 2)]) :: .ex (.call 30 [(.v 0)]) :: .ret (.call 34 [(.v 0),(.v 1),(.v 2)])::[]) [aa<|spV p n,aa<|Zh k,aa<|ZO L] [] s=_;rw[Ze<|UV<|XU (Zf rfl) (Zf rfl) (Zf rfl)<|zW d s (by omega) h1 hk hL hr<|by omega]
 rw[Ze<|UV<|ZA (Zc (Zf rfl) Zi)<|Za2 (d+8) s hn];exact Zt<|ZS<|XU (Zf rfl) (Zf rfl) (Zf rfl)<|qW (d+1) s (by omega) hk hl hL hL1 hs
end
section
variable{C:Zr}{U:Env}{s s1 s2:DS}{a b:E}{x y:V}{xs ys:List V}
def YE{i:Int}:pv C (.c<|.int i) U s=.ok (.int i) s:=by rw[pv];rfl
theorem pick{i:E}{v:Int}(h1:pv C a U s=.ok (.lst xs) s1)(h2:pv C i U s1=.ok (.int v) s2)(h0:0<=v)(hv:v<xs.length):∃x,x∈xs/\pv C (.ix a i) U s=.ok x s2:=by
 obtain⟨k,rfl⟩:∃k:Nat,v=k:=#[v.toNat,by lia]
 have hk:k<xs.length:=by lia
 refine#[xs[k],bU hk,?_];rw[pv,h1,Za,h2,Za];show po (at' xs (k:Int)) s2=_;rw[Qc<|ai hk];rfl
theorem Vl(d:Nat)(s:DS){m:Int}{U:Env}{i:Nat}{e:E}(hd:U[i]?=aa (aa .drw))(he:pv (CV<|d+1) e U s=.ok (.int m) s)(h0:0<m)(h1:m<1000):∃v s',pv (CV<|d+1) (.call 2 [(.v i),e]) U s=.ok (.int v) s'/\0<=v/\v<m:=by
 obtain⟨v,s',e1,b⟩:=um s h0 (by lia)
 exact#[v,s',ZA (Zc (Zf hd)<|Zc he Zi) e1,b]
def ZcT(h1:pv C a U s=.ok (.tup xs) s){k:Int}(h2:pv C b U s=.ok (.int k) s):pv C (.sl a (aa b) af) U s=.ok (.tup<|YW xs (aa k) af) s:=by
 rw[pv,h1,Za,pvo,h2,Za];rw[Za,pvo,Za];rfl
def ut(h:pv C a U s=.ok x s):pv C (.tup [a]) U s=.ok (.tup [x]) s:=by
 rw[pv,Zc h Zi];rfl
def vI{B:Type}{ms:List Nat}{i:Nat}{it:W}{b:List Sm}{L:List B}{e:B->V}{q:B->Bool}{v:V}{U:Option V->Env}(o:Option V)(hw:pvw C it (hide []<|U o) s=.ok (L.map e) s)(hs:∀o x,(U o).set i (aa x)=U (aa x))(hb:∀x∈L,rvs C ms b (U<|aa<|e x) [] s=if q x=ak then .ok (.ret v) s else .ok (.nx (U<|aa<|e x) []) s) :
  (L.any q=ak->rv C ms (.forr [i] it b) (U o) [] s=.ok (.ret v) s)/\(L.any q=al->∃o',rv C ms (.forr [i] it b) (U o) [] s=.ok (.nx (U o') []) s):=by
 rw[rv,hw,Za];clear hw
 induction L generalizing o with
 |nil=>exact#[λh=>(by cases h),λ_=>#[o,rfl]]
 |cons x L ih=>
  have ih:=ih (aa<|e x) λy hy=>hb y<|ao _ hy
  have h1:=hb x<|aj ..;have step:XW (λx U os s=>if(([i]:List Nat).any os.contains)=ak then .no else(po (Zo [i] x U) s).bind λU s=>rvs C ms b U os s) ((x::L).map e) (U o) [] s=if q x=ak then .ok (.ret v) s else XW (λx U os s=>if(([i]:List Nat).any os.contains)=ak then .no else(po (Zo [i] x U) s).bind λU s=>rvs C ms b U os s) (L.map e) (U<|aa<|e x) [] s:=by
   rw[aY,XW,T8<|by simp]
   show((PR.ok ((U o).set i<|aa<|e x) s).bind λU s=>rvs C ms b U [] s).bind _=_
   rw[Za,hs o<|e x,h1];cases q x<;>rfl
  rw[step,lC];cases hq:q x with
  |true=>exact#[λ_=>rfl,λh=>(by cases h)]
  |false=>
   rw[T8 (by simp),lD]
   exact ih
end
end K84
namespace Rw
open La
open Ev (ltP Z8 VA)
noncomputable def Qk{B:Type}(lt:B->B->Bool):Nat->List B->List B->List B
 |0,a,b=>a++b
 |_+1,[],b=>b
 |_+1,a,[]=>a
 |f+1,x::a,y::b=>if lt x y then x::Qk lt f a (y::b)else y::Qk lt f (x::a) b
theorem X4{B:Type}(lt:B->B->Bool):∀(f:Nat)(a b:List B),(Qk lt f a b).Perm (a++b)
 |0,a,b=>cn _
 |_+1,[],b=>cn _
 |_+1,x::a,[]=>by show(x::a).Perm _;simp
 |f+1,x::a,y::b=>by
  unfold Qk;split
  .exact(X4 lt f a (y::b)).cons x
  .exact((X4 lt f (x::a) b).cons y).trans List.perm_middle.symm
def zF{B:Type}(lt:B->B->Bool):Nat->List B->List B
 |0,l=>l
 |f+1,l=>if l.length<=1 then l else Qk lt l.length (zF lt f<|l.take<|l.length / 2) (zF lt f<|l.drop<|l.length / 2)
theorem WP{B:Type}(lt:B->B->Bool):∀(f:Nat)(l:List B),(zF lt f l).Perm l
 |0,l=>cn _
 |f+1,l=>by
  unfold zF;split
  .exact cn _
  .refine(X4 ..).trans<|((WP lt f _).append<|WP lt f _).trans<|mD<|cN ..
noncomputable def X0(n:Nat):List (List Nat):=(aP n).foldl (λl k=>l++l.map λr=>r++[k]) [[]]
noncomputable def Y3(p:Nat)(aa:List Nat)(h k:Nat):List Int:=if k=h then[1]else if k>h/\k∉aa then(aP p).map λ(j:Nat)=>(j:Int)else[0]
noncomputable def grow{B:Type}(L:List (List B))(M:List B):List (List B):=L.flatMap λx=>M.map λy=>x++[y]
def Z5(p n:Nat)(aa:List Nat)(h:Nat):List Row:=(aP n).foldl (λl k=>grow l<|Y3 p aa h k) [[]]
def Xc(p n:Nat)(aa:List Nat):List (List Row):=aa.foldl (λl h=>grow l<|Z5 p n aa h) [[]]
def wm(p n k:Nat):List (List Row):=((X0 n).filter λr=>ag<|r.length=k).flatMap<|Xc p n
noncomputable def Ze5{B:Type}(lt:B->B->Bool):List B->Bool
 |[]=>ak
 |[_]=>ak
 |x::y::l=>lt x y&&Ze5 lt (y::l)
theorem uj{B:Type}{lt:B->B->Bool}(O:Sd.StrictB lt):∀{l:List B},Ze5 lt l=ak->l.Pairwise λa b=>lt a b=ak
 |[],_=>.nil
 |[x],_=>eA ..
 |x::y::l,h=>by
  obtain⟨h1,h2⟩:=(aI _ _).mp h;have ih:=uj O h2;refine bf.mpr #[λz hz=>?_,ih]
  rcases aB.mp hz with rfl|hz
  .exact h1
  .exact O.tr h1<|(bf.mp ih).1 z hz
def ZgB(q:Nat×Nat):Bool:=(aP<|q.2+1).all λk=>ag (zF ltP 12 (wm q.1 q.2 k)=ZR q.1 q.2 k)&&Ze5 ltP (ZR q.1 q.2 k)
def w4:∀q∈QW++QR,ZgB q=ak:=by decide +kernel
def ZeO{B:Type}{lt:B->B->Bool}(O:Sd.StrictB lt){l:List B}(h:l.Pairwise λa b=>lt a b=ak):l.Nodup:=h.imp λ{a b} h e=>by
 subst e;have:=O.asy h;rw[h]at this;cases this
def Zdi{p n k:Nat}(h:(p,n)∈QW++QR)(hk:k<=n):(ZR p n k).Pairwise λa b=>ltP a b=ak:=
 uj Sd.Yu ((aI _ _).mp<|aX.mp (w4 _ h) k<|bh.mpr<|by lia).2
def Zaq{p n k:Nat}(h:(p,n)∈QW++QR)(hk:k<=n)(hl:(ZR p n k).length<=1395)(he:∀P∈ZR p n k,P.length=k):Z8 ltP (wm p n k)=ZR p n k/\Ev.ZM (wm p n k)=ak:=by
 have c:=T6 ((aI _ _).mp<|aX.mp (w4 _ h) k<|bh.mpr<|by lia).1
 have pm:(wm p n k).Perm (ZR p n k):=c▸(WP ltP 12 _).symm;have inc:=Zdi h hk;have nd:=pm.nodup_iff.mpr<|ZeO Sd.Yu inc;refine#[Sd.XC Sd.Yu ((Sd.Z7 _).trans pm) (Sd.YV Sd.Yu nd) inc,?_];unfold Ev.ZM;rw[aI,aI,eE,T0,T0,T0,aX];refine#[#[by rw[pm.length_eq];lia,nd],?_]
 cases k with
 |zero=>left;rw[pm.length_eq];exact aJ _
 |succ k=>
  right
  intro P hP;have:=he P<|pm.mem_iff.mp hP;cases P with|nil=>cases this|cons _ _=>rfl
end Rw
namespace K84
open Ev Pv Rw La
def Vz(r:Row):V.flat (Zd r)=ak:=XA r
theorem Xt{B:Type}{f:B->V}:∀(l:List B),(∀x∈l,(f x).flat=ak)->ZL (l.map f)=ak
 |[],_=>rfl
 |x::l,h=>by
  show(V.flat (f x)&&ZL (l.map f))=ak;rw[h x<|aj ..,Xt l λy hy=>h y<|ao _ hy];rfl
def WG(P:List Row):V.flat (Zb P)=ak:=Xt P λr _=>Vz r
def Zv(r:List Nat):V:=.tup<|r.map Zh
def wc(r:List Nat):V.flat (Zv r)=ak:=Xt r λ_ _=>rfl
section
variable{C:Zr}{ms os:List Nat}{s:DS}
theorem yK{B β γ:Type}{i j k m:Nat}{e1:B->V}{e2:β->V}{e3:γ->V}{op:B->β->γ}{L:List B}{M:List β}{U:List γ->Option V->Env}{o:Option V}(hw:pvw C (.of<|.v j) (hide os<|U [] o) s=.ok (L.map e1) s)(ho:os.contains m=ak)(ht:os.contains i=al)
  (hs:∀acc acc' x,(U acc x)[m]?=aa (aa<|.lst<|acc.map e3)/\(U acc x).set m (aa<|.lst<|acc'.map e3)=U acc' x/\∀v,(U acc x).set i (aa v)=U acc (aa v))(f1:∀x,(e1 x).flat=ak)(f3:∀z,(e3 z).flat=ak)
  (hc:∀acc x,x∈L->pv C (.comp1 [i] 1 [0] (.of<|.v k) []<|.bin .add (.v 1)<|.tup [(.v 0)]) (hide os<|U acc<|aa<|e1 x) s=.ok (.lst<|M.map λy=>e3<|op x y) s)(hl:L.length*M.length<=100000) :
  ∃o',rv C ms (.forr [i] (.of<|.v j) [.ex<|.mt .extend (.v m) [(.comp1 [i] 1 [0] (.of<|.v k) []<|.bin .add (.v 1)<|.tup [(.v 0)])]]) (U [] o) os s=.ok (.nx (U (L.flatMap λx=>M.map<|op x) o') os) s:=by
 obtain⟨o',_,e⟩:=Wn (t:=[i]) (b:=[.ex<|.mt .extend (.v m) [(.comp1 [i] 1 [0] (.of<|.v k) []<|.bin .add (.v 1)<|.tup [(.v 0)])]]) (step:=λ(acc:List γ) (x:B)=>acc++M.map (op x))
  (λl acc=>acc.length+l.length*M.length<=100000/\∀x∈l,x∈L) hw #[by rw[kA];lia,λ_ h=>h] (by simpa using ht) (λx l acc o1 hI=>by
   obtain⟨hI,hm⟩:=hI;rw[aG,ml]at hI;refine#[#[by rw[aU,ax];lia,λx hx=>hm x<|ao _ hx],by rw[f1];simp,U acc<|aa<|e1 x,aa<|e1 x,congrArg aa<|(hs acc acc o1).2.2<|e1 x,?_]
   rw[Ze ?_,rvs];rw[rv,T9 ho,(hs acc acc _).1];show(PR.ok (acc.map e3) s).bind _=_;rw[Za,hc acc x<|hm x<|aj ..,Za];show(if ZL (M.map λy=>e3<|op x y)=ak/\_<=lim then _ else _)=_
   rw[T9 #[Xt M λy _=>f3 _,by rw[ax,ax];unfold lim;lia]]
   have:(acc.map e3++M.map λy=>e3<|op x y)=(acc++M.map (op x)).map e3:=by rw[br,bO];rfl
   rw[this,(hs acc (acc++M.map (op x)) _).2.1])
 have hf:∀(l:List B)(acc:List γ),l.foldl (λacc x=>acc++M.map (op x)) acc=acc++l.flatMap λx=>M.map (op x):=λl=>by
  induction l with|nil=>intro acc;simp|cons r l ih=>intro acc;rw[dB,ih,iL,bF]
 rw[hf,fj]at e;exact#[o',e]
def XM{U:Env}{s':DS}{i o:Nat}{e:E}{v:V}(h:pv C e (hide (o::os) U) s=.ok v s')(hm:(ms.contains i&&fresh e)=al):rv C ms (.asg [i] e) U (o::os) s=.ok (.nx (U.set i<|aa v) ((o::os).filter (· != i))) s':=by
 have h1:pvA C e U (o::os) s=.ok v s':=by unfold pvA;dsimp only;rw[h]
 rw[rv,h1,Za,T8<|by rw[hm];simp]
def ZaG{U:Env}{s':DS}{i o:Nat}{e:E}{xs:List V}(h:pv C e (hide (o::os) U) s=.ok (.lst xs) s')(hm:(ms.contains i&&fresh e)=ak)(hf:ZL xs=ak)(hi:i<U.length):rv C ms (.asg [i] e) U (o::os) s=.ok (.nx (U.set i<|aa<|.lst xs) (i::(o::os).filter (· != i))) s':=by
 have h1:pvA C e U (o::os) s=.ok (.lst xs) s':=by unfold pvA;dsimp only;rw[h]
 rw[rv,h1,Za,T9 hm];show(if ZL xs=ak/\i<U.length then _ else _)=_
 rw[T9 #[hf,hi]]
theorem xy{U:Env}{a b:E}{xs:List V}{y:V}(h1:pv C a U s=.ok (.tup xs) s)(h2:pv C b U s=.ok y s)(hl:xs.length<=1000):pv C (.bin .add a<|.tup [b]) U s=.ok (.tup<|xs++[y]) s:=by
 rw[pv,h1,Za,ut h2,Za];show(if xs.length+1<=lim then PR.ok (V.tup<|xs++[y]) s else .no)=_
 rw[T9<|by unfold lim;lia]
end
section
variable{p n:Nat}[Base p]{C:Zr}
def lpE(p n k:Nat)(a4 a5 a6 a7 a8 a9 a10 a11 a12 a13 a14:Option V):Env:=[aa<|spV p n,aa<|Zh k,aa<|.int p,aa<|.int n,a4,a5,a6,a7,a8,a9,a10,a11,a12,a13,a14]
def Vo:List Sm:=[.asg [11]<|.lst [(.c<|.int 0)],
  .ite (.cmp .eq (.v 5)<|.v 9) [.asg [11]<|.lst [(.c<|.int 1)]] [.ite (.and (.cmp .gt (.v 5)<|.v 9)<|.cmp .nin (.v 5)<|.v 7) [.asg [11]<|.blt .rangeL [(.v 2)]] []],
  .asg [12] (.lst []),
  .forr [13] (.of<|.v 10) [.ex<|.mt .extend (.v 12) [(.comp1 [13] 1 [0] (.of<|.v 11) []<|.bin .add (.v 1)<|.tup [(.v 0)])]],
  .mov 10 12]
theorem yv(j:Nat):∀hs:List Nat,XV (Zh j) (hs.map Zh)=aa (ag<|j∈hs)
 |[]=>rfl
 |h::l=>by
  show(match eqV ZJ (Zh h) (Zh j),XV (Zh j) (l.map Zh)with
   |some a,aa b=>aa (a||b)
   |_,_=>af)=_
  rw[yv j l];show aa (ag ((h:Int)=(j:Int))||decide (j∈l))=_
  congr 1
  by_cases e:h=j
  .subst e;simp
  .have:¬(h:Int)=(j:Int):=by lia
   simp[this,Ne.symm e]
def WU{p n k:Nat}{a4 a5 a6 a7 a8 a9 a10 a11 a12 a13 a14:Option V}:hide [6] (lpE p n k a4 a5 a6 a7 a8 a9 a10 a11 a12 a13 a14)=lpE p n k a4 a5 af a7 a8 a9 a10 a11 a12 a13 a14:=by simp[hide,lpE,iZ]
def J7{p n k:Nat}{a4 a5 a6 a7 a8 a9 a10 a11 a12 a13 a14:Option V}:hide [12,6] (lpE p n k a4 a5 a6 a7 a8 a9 a10 a11 a12 a13 a14)=lpE p n k a4 a5 af a7 a8 a9 a10 a11 af a13 a14:=by simp[hide,lpE,iZ]
theorem qf{k j h:Nat}{some':List Nat}{L:List Row}{a4 a6 a8 a11 a12 a13 a14:Option V}(s:DS)(hL:L.length*5<=100000)(hr:∀r∈L,r.length<=900) :
  ∃b11 b13,rvs C [12,12,6] Vo (lpE p n k a4 (aa<|Zh j) a6 (aa<|Zv some') a8 (aa<|Zh h) (aa<|.lst<|L.map Zd) a11 a12 a13 a14) [6] s=.ok (.nx (lpE p n k a4 (aa<|Zh j) a6 (aa<|Zv some') a8 (aa<|Zh h) (aa<|.lst<|(grow L<|Y3 p some' h j).map Zd) b11 af b13 a14) [6]) s:=by
 have hp:=W5 (p:=p)
 let U (b11 b12 b13:Option V):Env:=lpE p n k a4 (aa<|Zh j) a6 (aa<|Zv some') a8 (aa<|Zh h) (aa<|.lst<|L.map Zd) b11 b12 b13 a14
 let N:List Int:=Y3 p some' h j
 have hN:N.length<=5:=by
  show(Y3 p some' h j).length<=5;unfold Y3;split
  .decide
  .split
   .rw[ax,bq];lia
   .decide
 have e1:∀x,rvs C [12,12,6] Vo (U x a12 a13) [6] s=rvs C [12,12,6] (Vo.drop 2) (U (aa<|.lst<|N.map V.int) a12 a13) [6] s:=λx=>by
  show rvs C _ (_::_::_) _ _ s=_;have c0:pv C (.lst [(.c<|.int 0)]) (hide [6]<|U x a12 a13) s=.ok (.lst [.int 0]) s:=by rw[WU,pv,Zc YE Zi];rfl
  rw[Ze<|XM c0 rfl];show rvs C _ (_::Vo.drop 2) (U (aa<|.lst [.int 0]) a12 a13) [6] s=_;have t1:pv C (.cmp .eq (.v 5)<|.v 9) (U (aa<|.lst [.int 0]) a12 a13) s=.ok (.bl<|ag<|(j:Int)=(h:Int)) s:=by
   rw[pv,Zf rfl,Za,Zf rfl];rfl
  by_cases c1:j=h
  .have hN1:N=[1]:=by show Y3 p some' h j=_;unfold Y3;rw[T9 c1]
   rw[Ze ?_];rw[Yv<|Z6 t1 rfl,T9<|T5<|by lia]
   have c2:pv C (.lst [(.c<|.int 1)]) (hide [6]<|U (aa<|.lst [.int 0]) a12 a13) s=.ok (.lst [.int 1]) s:=by rw[WU,pv,Zc YE Zi];rfl
   rw[Ze<|XM c2 rfl,rvs,hN1];rfl
  .rw[Ze ?_]
   rw[Yv<|Z6 t1 rfl,T8<|by rw[T0];lia]
   have t2:pv C (.and (.cmp .gt (.v 5)<|.v 9)<|.cmp .nin (.v 5)<|.v 7) (U (aa<|.lst [.int 0]) a12 a13) s=.ok (.bl<|ag (j>h)&&ag (j∉some')) s:=by
    have u1:pv C (.cmp .gt (.v 5)<|.v 9) (U (aa<|.lst [.int 0]) a12 a13) s=.ok (.bl<|ag<|j>h) s:=by
     rw[pv,Zf rfl,Za,Zf rfl,Za];show po (aa<|V.bl<|ag<|(h:Int)<(j:Int)) s=_;rw[show ag ((h:Int)<(j:Int))=ag (j>h)from decide_eq_decide.mpr<|by lia];rfl
    have u2:pv C (.cmp .nin (.v 5)<|.v 7) (U (aa<|.lst [.int 0]) a12 a13) s=.ok (.bl<|ag<|j∉some') s:=by
     rw[pv,Zf rfl,Za,Zf rfl,Za];show po ((XV (Zh j)<|some'.map Zh).map λb=>V.bl !b) s=_
     rw[yv];show PR.ok (V.bl !(ag<|j∈some')) s=_;rw[decide_not]
    exact Zbe u1 u2
   rw[Ze ?_,rvs];rw[Yv<|Z6 t2 rfl];by_cases c2:j>h/\j∉some'
   .have hN1:N=(aP p).map λ(j:Nat)=>(j:Int):=by show Y3 p some' h j=_;unfold Y3;rw[T8 c1,T9 c2]
    rw[T9<|by rw[T5 c2.1,T5 c2.2];rfl]
    have c3:pv C (.blt .rangeL [(.v 2)]) (hide [6]<|U (aa<|.lst [.int 0]) a12 a13) s=.ok (.lst<|N.map V.int) s:=by
     rw[WU,pv,Zc (Zf rfl) Zi,Za,hN1];show po (if few (p:Int)=ak then aa (V.lst<|ZU 0 (p:Int).toNat)else af) s=_
     rw[T9 (by unfold few;exact T5<|by lia),ei]
     unfold ZU;rw[bO];simp only[oM];rfl
    rw[Ze<|XM c3 rfl,rvs];rfl
   .have hN1:N=[0]:=by show Y3 p some' h j=_;unfold Y3;rw[T8 c1,T8 c2]
    rw[T8 (by rw[<-Bool.decide_and];rw[T0];exact c2),rvs,hN1];rfl
 refine#[aa<|.lst<|N.map V.int,?_];have e2:rvs C [12,12,6] (Vo.drop 2) (U (aa<|.lst<|N.map V.int) a12 a13) [6] s=rvs C [12,12,6] (Vo.drop 3) (U (aa<|.lst<|N.map V.int) (aa<|.lst<|([]:List Row).map Zd) a13) [12,6] s:=by
  have c0:pv C (.lst []) (hide [6]<|U (aa<|.lst<|N.map V.int) a12 a13) s=.ok (.lst []) s:=by rw[pv,pvs];rfl
  show rvs C _ (_::Vo.drop 3) _ _ s=_;rw[Ze<|ZaG c0 rfl rfl<|by show 12<15;decide];rfl
 obtain⟨b13,e3⟩:=yK (C:=C) (s:=s) (i:=13) (j:=10) (k:=11) (m:=12) (e2:=V.int) (U:=λacc x=>U (aa<|.lst<|N.map V.int) (aa<|.lst<|acc.map Zd) x) (o:=a13)
  (by
   rw[J7,pvw,Zf rfl];rfl) rfl rfl (λacc acc' x=>#[rfl,rfl,λv=>rfl]) Vz Vz (λacc r hm=>by
   rw[J7];refine Zy (by rw[pvw,Zf rfl];rfl) (by unfold lim;lia) λy _=>#[[aa<|.int y,aa<|Zd r],rfl,?_]
   rw[xy (Zf rfl) (Zf rfl) (by rw[ax];have:=hr r hm;lia)]
   show PR.ok (V.tup<|r.map V.int++[V.int y]) s=PR.ok (V.tup<|(r++[y]).map V.int) s;rw[br];rfl) (bX (nt _ hN) hL)
 have hg:(L.flatMap λr=>N.map λy=>r++[y])=grow L N:=rfl
 rw[hg]at e3;refine#[b13,?_];rw[e1 a11,e2];show rvs C _ (_::[.mov 10 12]) _ _ s=_;rw[Ze e3];rw[Ze (ρ':=lpE p n k a4 (aa<|Zh j) a6 (aa<|Zv some') a8 (aa<|Zh h) (aa<|.lst<|(grow L N).map Zd) (aa<|.lst<|N.map V.int) af b13 a14) (os':=[6]) (by rw[rv];rfl),rvs]
end
section
variable{p n:Nat}[Base p]{C:Zr}
def ZaK:List Sm:=[.asg [10]<|.lst [(.tup [])],.forr [5] (.rng1<|.v 3) Vo,.asg [12]<|.lst [],
  .forr [14] (.of<|.v 8) [.ex<|.mt .extend (.v 12) [(.comp1 [14] 1 [0] (.of<|.v 10) []<|.bin .add (.v 1)<|.tup [(.v 0)])]],
  .mov 8 12]
def zH{B:Type}(L:List (List B))(M:List B):(grow L M).length=L.length*M.length:=by
 unfold grow
 induction L with|nil=>simp|cons x L ih=>rw[iL,aU,ih,ax,aG,ml,gC]
theorem jD(some':List Nat)(h j:Nat):(Y3 p some' h j).length<=5:=by
 have hp:=W5 (p:=p);unfold Y3;split
 .decide
 .split
  .rw[ax,bq];lia
  .decide
theorem qP{k h:Nat}{some':List Nat}{a4 a5 a6 a8 a11 a12 a13 a14:Option V}(s:DS)(hn:n<=6) :
  ∃b5 b11 b12 b13,rv C [12,12,6] (.forr [5] (.rng1<|.v 3) Vo) (lpE p n k a4 a5 a6 (aa<|Zv some') a8 (aa<|Zh h) (aa<|.lst<|[([]:Row)].map Zd) a11 a12 a13 a14) [6] s=.ok (.nx (lpE p n k a4 b5 a6 (aa<|Zv some') a8 (aa<|Zh h) (aa<|.lst<|(Z5 p n some' h).map Zd) b11 b12 b13 a14) [6]) s:=by
 obtain⟨ρ',⟨L,c5,c11,c12,c13,rfl,hf,_⟩,e⟩:=WW (C:=C) (t:=[5]) (it:=.rng1<|.v 3) (s:=s)
  (λl U=>∃(L:List Row)(c5 c11 c12 c13:Option V),U=lpE p n k a4 c5 a6 (aa<|Zv some') a8 (aa<|Zh h) (aa<|.lst<|L.map Zd) c11 c12 c13 a14/\l.foldl (λl j=>grow l<|Y3 p some' h j) L=Z5 p n some' h/\∃j,j+l.length=n/\L.length<=5^j/\∀r∈L,r.length<=j)
  (by rw[WU];exact XE (Zf rfl)<|by lia) #[[[]],a5,a11,a12,a13,rfl,rfl,0,by rw[bq];lia,by decide,λr hr=>by rw[aK.mp hr];exact aJ _] rfl (λx l U hI=>by
   obtain⟨L,c5,c11,c12,c13,rfl,hf,j,hj,hl,hr⟩:=hI;rw[aG]at hj;have h5:5^j<=5^5:=cH (by decide) (by lia)
   have h6:(5:Nat)^5=3125:=by decide
   obtain⟨b11,b13,e1⟩:=qf (p:=p) (L:=L) s (by lia) (λr h=>by have:=hr r h;lia)
   refine#[rfl,_,_,rfl,e1,grow L<|Y3 p some' h x,_,b11,af,b13,rfl,hf,j+1,by lia,?_,λr hm=>?_]
   .rw[zH,gG];exact iA hl<|jD ..
   .obtain⟨q,hq,hm⟩:=dG.mp hm
    obtain⟨y,_,rfl⟩:=aR.mp hm;rw[aU,bJ];have:=hr q hq;lia)
 rw[iM]at hf;subst hf;exact#[c5,c11,c12,c13,e]
theorem qN{k h:Nat}{some':List Nat}{Ps:List (List Row)}{a4 a5 a6 a10 a11 a12 a13 a14:Option V}(s:DS)(hn:n<=6)(hP:Ps.length*(Z5 p n some' h).length<=100000)(hl:(Z5 p n some' h).length<=100000)(hr:∀P∈Ps,P.length<=900) :
  ∃b5 b10 b11 b13 b14,rvs C [12,12,6] ZaK (lpE p n k a4 a5 a6 (aa<|Zv some') (aa<|.lst<|Ps.map Zb) (aa<|Zh h) a10 a11 a12 a13 a14) [6] s=.ok (.nx (lpE p n k a4 b5 a6 (aa<|Zv some') (aa<|.lst<|(grow Ps<|Z5 p n some' h).map Zb) (aa<|Zh h) b10 b11 af b13 b14) [6]) s:=by
 unfold ZaK;have c0:pv C (.lst [(.tup [])]) (hide [6]<|lpE p n k a4 a5 a6 (aa<|Zv some') (aa<|.lst<|Ps.map Zb) (aa<|Zh h) a10 a11 a12 a13 a14) s=.ok (.lst<|[([]:Row)].map Zd) s:=by
  rw[WU,pv,Zc (by rw[pv,pvs];rfl) Zi];rfl
 rw[Ze<|XM c0 rfl];obtain⟨b5,b11,b12,b13,e1⟩:=qP (p:=p) s hn;show ∃b5 b10 b11 b13 b14,rvs C _ _ (lpE p n k a4 a5 a6 (aa<|Zv some') (aa<|.lst<|Ps.map Zb) (aa<|Zh h) (aa<|.lst<|[([]:Row)].map Zd) a11 a12 a13 a14) [6] s=_;rw[Ze e1]
 let Z:=Z5 p n some' h
 have c1:pv C (.lst []) (hide [6]<|lpE p n k a4 b5 a6 (aa<|Zv some') (aa<|.lst<|Ps.map Zb) (aa<|Zh h) (aa<|.lst<|Z.map Zd) b11 b12 b13 a14) s=.ok (.lst []) s:=by rw[pv,pvs];rfl
 rw[Ze<|ZaG c1 rfl rfl<|by show 12<15;decide]
 let U (acc:List (List Row)) (x:Option V):Env:=lpE p n k a4 b5 a6 (aa<|Zv some') (aa<|.lst<|Ps.map Zb) (aa<|Zh h) (aa<|.lst<|Z.map Zd) b11 (aa<|.lst<|acc.map Zb) b13 x
 obtain⟨b14,e3⟩:=yK (C:=C) (s:=s) (i:=14) (j:=8) (k:=10) (m:=12) (e2:=Zd) (U:=U) (o:=a14)
  (by rw[J7,pvw,Zf rfl];rfl) rfl rfl (λacc acc' x=>#[rfl,rfl,λv=>rfl]) WG WG (λacc P hm=>by
   rw[J7];refine Zy (by rw[pvw,Zf rfl];rfl) (by unfold lim;lia) λy _=>#[[aa<|Zd y,aa<|Zb P],rfl,?_]
   rw[xy (Zf rfl) (Zf rfl) (by rw[ax];have:=hr P hm;lia)]
   show PR.ok (V.tup<|P.map Zd++[Zd y]) s=PR.ok (V.tup<|(P++[y]).map Zd) s;rw[br];rfl) hP
 refine#[b5,aa<|.lst<|Z.map Zd,b11,b13,b14,?_];show rvs C _ (_::[.mov 8 12]) (U [] a14) [12,6] s=_;rw[Ze e3];rw[Ze (ρ':=lpE p n k a4 b5 a6 (aa<|Zv some') (aa<|.lst<|(grow Ps Z).map Zb) (aa<|Zh h) (aa<|.lst<|Z.map Zd) b11 af b13 b14) (os':=[6]) (by rw[rv];rfl),rvs]
def chk(p n:Nat)(some':List Nat)(a:Nat×Bool)(h:Nat):Nat×Bool:=(a.1*(Z5 p n some' h).length,a.2&&ag (a.1*(Z5 p n some' h).length<=20000/\(Z5 p n some' h).length<=20000))
theorem ZdR{some':List Nat}:∀(l:List Nat)(m:Nat)(b:Bool),(l.foldl (chk p n some') (m,b)).2=ak->b=ak
 |[],_,_,h=>h
 |x::l,m,b,h=>((aI _ _).mp<|ZdR l _ _ h).1
def Zax:List Sm:=[.asg [8]<|.lst [(.tup [])],.forr [9] (.of<|.v 7) ZaK,.ex<|.mt .extend (.v 6) [(.v 8)]]
theorem qU{k:Nat}{some':List Nat}{F:List (List Row)}{a4 a5 a8 a9 a10 a11 a12 a13 a14:Option V}(s:DS)(hn:n<=6)(hc:(some'.foldl (chk p n some') (1,ak)).2=ak)(hs:some'.length<=6)(hF:F.length+(Xc p n some').length<=100000) :
  ∃b5 b8 b9 b10 b11 b12 b13 b14,rvs C [12,12,6] Zax (lpE p n k a4 a5 (aa<|.lst<|F.map Zb) (aa<|Zv some') a8 a9 a10 a11 a12 a13 a14) [6] s=.ok (.nx (lpE p n k a4 b5 (aa<|.lst<|(F++Xc p n some').map Zb) (aa<|Zv some') b8 b9 b10 b11 b12 b13 b14) [6]) s:=by
 unfold Zax;have c0:pv C (.lst [(.tup [])]) (hide [6]<|lpE p n k a4 a5 (aa<|.lst<|F.map Zb) (aa<|Zv some') a8 a9 a10 a11 a12 a13 a14) s=.ok (.lst<|[([]:List Row)].map Zb) s:=by
  rw[WU,pv,Zc (by rw[pv,pvs];rfl) Zi];rfl
 rw[Ze<|XM c0 rfl]
 let U (Ps:List (List Row)) (a5 a9 a10 a11 a12 a13 a14:Option V):Env:=lpE p n k a4 a5 (aa<|.lst<|F.map Zb) (aa<|Zv some') (aa<|.lst<|Ps.map Zb) a9 a10 a11 a12 a13 a14
 show ∃b5 b8 b9 b10 b11 b12 b13 b14,rvs C _ _ (U [[]] a5 a9 a10 a11 a12 a13 a14) [6] s=_;obtain⟨ρ',⟨Ps,d5,d9,d10,d11,d12,d13,d14,rfl,hf,_⟩,e⟩:=WW (C:=C) (t:=[9]) (it:=.of<|.v 7) (s:=s)
  (λl ρ'=>∃(Ps:List (List Row))(d5 d9 d10 d11 d12 d13 d14:Option V),ρ'=U Ps d5 d9 d10 d11 d12 d13 d14/\l.foldl (λl h=>grow l<|Z5 p n some' h) Ps=Xc p n some'/\(l.foldl (chk p n some') (Ps.length,ak)).2=ak/\∃j,j+l.length=some'.length/\∀P∈Ps,P.length<=j)
  (by rw[WU,pvw,Zf rfl];rfl) #[[[]],a5,a9,a10,a11,a12,a13,a14,rfl,rfl,hc,0,by lia,λP hP=>by rw[aK.mp hP];exact aJ _] rfl (λx l ρ' hI=>by
   obtain⟨Ps,d5,d9,d10,d11,d12,d13,d14,rfl,hf,hk,j,hj,hr⟩:=hI;rw[aG]at hj;have hb:Ps.length*(Z5 p n some' x).length<=20000/\(Z5 p n some' x).length<=20000:=T6 ((aI _ _).mp<|ZdR l _ _ hk).2;obtain⟨b5,b10,b11,b13,b14,e1⟩:=qN (p:=p) (h:=x) (some':=some') (Ps:=Ps) s hn (by lia) (by lia) (λP h=>by have:=hr P h;lia)
   have h1:(ak&&ag (Ps.length*(Z5 p n some' x).length<=20000/\(Z5 p n some' x).length<=20000))=ak:=by rw[T5 hb];rfl
   refine#[rfl,_,_,rfl,e1,grow Ps<|Z5 p n some' x,b5,_,b10,b11,af,b13,b14,rfl,hf,?_,j+1,by lia,λP hm=>?_]
   .have hk':(l.foldl (chk p n some') (Ps.length*(Z5 p n some' x).length,ak&&ag (Ps.length*(Z5 p n some' x).length<=20000/\(Z5 p n some' x).length<=20000))).2=ak:=hk
    rw[h1]at hk';rw[zH];exact hk'
   .obtain⟨q,hq,hm⟩:=dG.mp hm
    obtain⟨y,_,rfl⟩:=aR.mp hm;rw[aU,bJ];have:=hr q hq;lia)
 rw[iM]at hf;subst hf;rw[Ze e];refine#[d5,aa<|.lst<|(Xc p n some').map Zb,d9,d10,d11,d12,d13,d14,?_];rw[Ze ?_,rvs];rw[rv];show(if ak=ak then((PR.ok (F.map Zb) s).bind λxs s=>(pv C (.v 8) (hide [6]<|U (Xc p n some') d5 d9 d10 d11 d12 d13 d14) s).bind _)else _)=_
 rw[T9 rfl,Za,WU,Zf rfl,Za];show(if ZL ((Xc p n some').map Zb)=ak/\(F.map Zb).length+((Xc p n some').map Zb).length<=lim then _ else _)=_
 rw[T9 #[Xt _ λP _=>WG P,by rw[ax,ax];unfold lim;lia],<-br];rfl
end
def Zgy(q:Nat×Nat):Bool:=(X0 q.2).all λr=>(r.foldl (chk q.1 q.2 r) (1,ak)).2&&ag (r.length<=6)
def Zdm:∀q∈QW++QR,Zgy q=ak:=by decide +kernel
def yx{C:Zr}{U:Env}{s:DS}{a:E}{Ps:List (List Row)}(h1:pv C a U s=.ok (.lst<|Ps.map Zb) s)(h:ZM Ps=ak):pv C (.blt .sorted [a]) U s=.ok (.lst<|(Z8 ltP Ps).map Zb) s:=by
 have pm:∀Ps:List (List Row),YA (Ps.map Zb)=aa Ps:=λPs=>by
  induction Ps with
  |nil=>rfl
  |cons P Ps ih=>
   show(match QI (Zb P),YA (Ps.map Zb)with
    |some a,aa b=>aa (a::b)
    |_,_=>af)=_
   rw[ih,show QI (Zb P)=aa P from Y0 P]
 have se:∀Ps:List (List Row),uP (Ps.map Zb)=al:=λPs=>by
  cases Ps with|nil=>rfl|cons P Ps=>cases P<;>rfl
 rw[pv,Zc h1 Zi,Za];show po (if uP (Ps.map Zb)=ak then _ else(YA<|Ps.map Zb).bind λps=>if ZM ps=ak then aa (V.lst<|(Z8 ltP ps).map Zb)else af) s=_
 rw[T8 (by rw[se];simp),pm]
 show po (if ZM Ps=ak then _ else _) s=_
 rw[T9 h];rfl
section
variable{p n:Nat}[Base p]
theorem ZaJ:∀m,((aP m).foldl (λ(l:List (List Nat)) k=>l++l.map λr=>r++[k]) [[]]).length=2^m:=λm=>by
 induction m with|zero=>rfl|succ m ih=>rw[List.range_succ,List.foldl_append,dB,iM,aU,ax,ih,gG];lia
theorem qT(d:Nat){k:Nat}(s:DS)(hq:(p,n)∈QW++QR)(hn:n<=6)(hk:k<=n)(hl:∀j,j<=n->(ZR p n j).length<=1395):CV (d+1) 4 [spV p n,Zh k] s=.ok (.lst<|(ZR p n k).map Zb) s:=by
 obtain⟨so,ok⟩:=Zaq hq hk (hl k hk) λP hP=>(Y5 k P hP).2
 refine Zp rfl (by decide) rfl ?_
 let U (a4 a5 a6 a7 a8 a9 a10 a11 a12 a13 a14:Option V):Env:=lpE p n k a4 a5 a6 a7 a8 a9 a10 a11 a12 a13 a14
 show rvs (CV d) [12,12,6] (.asg [2,3] (.v 0) :: .asg [4] (.lst [(.tup [])]) :: .forr [5] (.rng1<|.v 3) [.asg [4]<|.bin .add (.v 4)<|.comp1 [5] 1 [0] (.of<|.v 4) []<|.bin .add (.v 0)<|.tup [(.v 1)]] :: .asg [6] (.lst []) ::
  .forr [7] (.of<|.comp1 [1] 1 [0] (.of<|.v 4) [(.cmp .eq (.blt .len [(.v 0)])<|.v 1)]<|.v 0) Zax :: .ret (.blt .sorted [(.v 6)])::[]) [aa<|spV p n,aa<|Zh k,af,af,af,af,af,af,af,af,af,af,af,af,af] [] s=_
 rw[Ze<|Z9 (CV d) _ (by show pv _ _ _ _=_;exact Zf rfl) #[rfl,rfl]]
 show rvs _ _ _ (U af af af af af af af af af af af) [] s=_;have c0:pv (CV d) (.lst [(.tup [])]) (U af af af af af af af af af af af) s=.ok (.lst<|[([]:List Nat)].map Zv) s:=by
  rw[pv,Zc (by rw[pv,pvs];rfl) Zi];rfl
 rw[Ze<|Yp c0 rfl];show rvs _ _ _ (U (aa<|.lst<|[([]:List Nat)].map Zv) af af af af af af af af af af) [] s=_;obtain⟨ρ',⟨L,b5,rfl,hf,_⟩,e1⟩:=WW (ms:=[12,12,6]) (t:=[5]) (it:=.rng1<|.v 3) (b:=[.asg [4]<|.bin .add (.v 4)<|.comp1 [5] 1 [0] (.of<|.v 4) []<|.bin .add (.v 0)<|.tup [(.v 1)]]) (os:=[])
  (λl ρ'=>∃(L:List (List Nat))(b5:Option V),ρ'=U (aa<|.lst<|L.map Zv) b5 af af af af af af af af af/\l.foldl (λ(l:List (List Nat)) k=>l++l.map λr=>r++[k]) L=X0 n/\∃j,j+l.length=n/\L.length=2^j/\∀r∈L,r.length<=j)
  (XE (Zf rfl)<|by lia) #[[[]],af,rfl,rfl,0,by rw[bq];lia,rfl,λr hr=>by rw[aK.mp hr];exact aJ _] rfl (λx l ρ' hI=>by
   obtain⟨L,b5,rfl,hf,j,hj,hL,hr⟩:=hI;rw[aG]at hj;have h5:2^j<=2^6:=cH (by decide) (by lia)
   have h6:(2:Nat)^6=64:=by decide
   refine#[rfl,U (aa<|.lst<|L.map Zv) (aa<|Zh x) af af af af af af af af af,U (aa<|.lst<|(L++L.map λr=>r++[x]).map Zv) (aa<|Zh x) af af af af af af af af af,rfl,?_,L++L.map λr=>r++[x],aa<|Zh x,rfl,hf,j+1,by lia,by rw[aU,ax,hL,gG];lia,λr hm=>?_]
   .have hc:=Zy (C:=CV d) (cap:=[5]) (nl:=1) (t:=[0]) (it:=.of<|.v 4) (elt:=.bin .add (.v 0)<|.tup [(.v 1)]) (U:=U (aa<|.lst<|L.map Zv) (aa<|Zh x) af af af af af af af af af) (s:=s) (l:=L) (g:=λr=>Zv<|r++[x]) (by rw[pvw,Zf rfl];rfl) (by unfold lim;lia) (λr hm=>#[[aa<|Zv r,aa<|Zh x],rfl,by
     rw[xy (Zf rfl) (Zf rfl) (by rw[ax];have:=hr r hm;lia)]
     show PR.ok (V.tup<|r.map Zh++[Zh x]) s=PR.ok (V.tup<|(r++[x]).map Zh) s;rw[br];rfl])
    have ha:=u8 (a:=.v 4) (Zf rfl) hc (by rw[ax,ax];unfold lim;lia)
    have:(L.map Zv++L.map λr=>Zv<|r++[x])=(L++L.map λr=>r++[x]).map Zv:=by rw[br,bO];rfl
    rw[this]at ha;rw[Ze<|Yp ha rfl,rvs];rfl
   .rcases bD.mp hm with z|z
    .have:=hr r z;lia
    .obtain⟨q,hq,rfl⟩:=aR.mp z
     rw[aU,bJ];have:=hr q hq;lia)
 rw[iM]at hf;subst hf;rw[Ze e1];have c1:rv (CV d) [12,12,6] (.asg [6]<|.lst []) (U (aa<|.lst<|(X0 n).map Zv) b5 af af af af af af af af af) [] s=.ok (.nx (U (aa<|.lst<|(X0 n).map Zv) b5 (aa<|.lst<|([]:List (List Row)).map Zb) af af af af af af af af) [6]) s:=by
  simp[pvE,ZL,U,lpE]
 rw[Ze c1];have ll:(X0 n).length<=64:=by
  have e:(X0 n).length=2^n:=ZaJ n;rw[e];exact bX (cH (by decide) hn) (by decide)
 have hch:=aX.mp<|Zdm _ hq;have w7:pvw (CV d) (.of<|.comp1 [1] 1 [0] (.of<|.v 4) [(.cmp .eq (.blt .len [(.v 0)])<|.v 1)]<|.v 0) (hide [6]<|U (aa<|.lst<|(X0 n).map Zv) b5 (aa<|.lst<|([]:List (List Row)).map Zb) af af af af af af af af) s=.ok (((X0 n).filter λr=>ag<|r.length=k).map Zv) s:=by
  rw[WU,pvw,YI (s:=s) (by rw[pvw,Zf rfl];rfl) (by unfold lim;lia) (λr _=>#[[aa<|Zv r,aa<|Zh k],.bl<|ag<|r.length=k,rfl,by
   rw[pv,pv,Zc (Zf rfl) Zi,Za];show(PR.ok (V.int ((r.map Zh).length:Int)) s).bind _=_;rw[Za,Zf rfl,Za,ax];show po (aa<|V.bl<|ag<|(r.length:Int)=(k:Int)) s=_;rw[show ag ((r.length:Int)=(k:Int))=ag (r.length=k)from decide_eq_decide.mpr<|by lia];rfl,rfl,λ_=>Zf rfl])]
  rfl
 have tot:(wm p n k).length<=1395:=by
  rw[<-(Sd.Z7<|wm p n k).length_eq,so];exact hl k hk
 obtain⟨ρ2,⟨F,d5,d7,d8,d9,d10,d11,d12,d13,d14,rfl,hf,_⟩,e2⟩:=WW (t:=[7]) (s:=s)
  (λl ρ'=>∃(F:List (List Row))(d5 d7 d8 d9 d10 d11 d12 d13 d14:Option V),ρ'=U (aa<|.lst<|(X0 n).map Zv) d5 (aa<|.lst<|F.map Zb) d7 d8 d9 d10 d11 d12 d13 d14/\F++l.flatMap (Xc p n)=wm p n k/\∀r∈l,r∈X0 n)
  w7 #[[],b5,af,af,af,af,af,af,af,af,rfl,rfl,λr hr=>(cX.mp hr).1] rfl (λr l ρ' hI=>by
   obtain⟨F,d5,d7,d8,d9,d10,d11,d12,d13,d14,rfl,hf,hm⟩:=hI;obtain⟨k1,k2⟩:=(aI _ _).mp<|hch r<|hm r<|aj ..;have hF:F.length+(Xc p n r).length<=1395:=by
    rw[<-hf,iL]at tot;simp only[aU]at tot;lia
   obtain⟨b5',b8,b9,b10,b11,b12,b13,b14,e3⟩:=qU (p:=p) (n:=n) (k:=k) (F:=F) s hn k1 (T6 k2) (by lia)
   exact#[by rw[wc];rfl,_,_,rfl,e3,F++Xc p n r,b5',_,b8,b9,b10,b11,b12,b13,b14,rfl,by rw[bF];exact hf,λq hq=>hm q<|ao _ hq])
 refine(Ze e2).trans ?_;rw[List.flatMap_nil,cQ]at hf;subst hf;refine Zt<|ZS ?_;rw[yx (Zf rfl) ok,so]
end
end K84
namespace Rw
open La
def XT(p:Nat)(L:List Row)(o:Row):List Row:=(aP p).flatMap λ(k:Nat)=>L.map λr=>ZW p r o (k:Int)
def Yy(p n:Nat)(P:List Row):List Row:=P.foldl (XT p) [aH n 0]
def JJ(L:List Row)(o:Row):(XT p L o).length=L.length*p:=by
 unfold XT;rw[kE,show((aP p).map λ(k:Nat)=>(L.map λr=>ZW p r o (k:Int)).length)=aH p L.length from gF (by simp) λi h1 h2=>by simp,iK,kI]
def yc(P:List Row):(Yy p n P).length=p^P.length:=by
 unfold Yy
 suffices ∀(P L:List Row),(P.foldl (XT p) L).length=L.length*p^P.length by rw[this];simp
 intro P
 induction P with|nil=>intro L;simp|cons o P ih=>intro L;rw[dB,ih,JJ,aG,gG,nH,kI p]
section
variable{p n:Nat}[Base p]
def Ym:Zk p n (aH n 0):=#[cA,λa ha=>by
 have:=(inferInstance:Base p).b;rw[lL ha];omega]
def Wm(j:Nat):gt (aH n 0) j=0:=by
 unfold gt;rw[aD,cB];split<;>rfl
def Jd(hL:∀r∈L,Zk p n r)(ho:Zk p n o):∀r∈XT p L o,Zk p n r:=λr hr=>by
 obtain⟨k,_,h⟩:=dG.mp hr;obtain⟨q,hq,rfl⟩:=aR.mp h;exact ZH (hL q hq) ho
def Zct(hW:pZ p n W)(hr:Zk p n r)(ho:Zk p n o)(h1:Vw p W r=ak)(h2:Vw p W o=ak):Vw p W (ZW p r o k)=ak:=by
 rw[ZZ hW<|ZH hr ho];rw[YB hr ho];exact YX (ph p k) ((ZZ hW hr).mp h1)<|(ZZ hW ho).mp h2
theorem vT(hW:pZ p n W):∀{P L:List Row},(∀r∈P,r∈W)->(∀r∈L,Zk p n r/\Vw p W r=ak)->∀r∈P.foldl (XT p) L,Zk p n r/\Vw p W r=ak
 |[],_,_,h=>h
 |o::P,L,hP,h=>by
  have ho:=hP o<|aj ..;refine vT hW (P:=P) (λr hr=>hP r<|ao _ hr) λr hr=>?_
  obtain⟨k,_,h3⟩:=dG.mp hr;obtain⟨q,hq,rfl⟩:=aR.mp h3;exact#[ZH (h q hq).1<|hW.row o ho,Zct hW (h q hq).1 (hW.row o ho) (h q hq).2<|Zc5 hW ho]
theorem vF:∀{P L:List Row}{a r:Row},(∀o∈P,Zk p n o)->a∈L->Zk p n a->Zk p n r->hdI (Zm p P<|ZW p r a<|-1)=af->r∈P.foldl (XT p) L
 |[],L,a,r,_,ha,h1,h2,h=>by
  have e:r=a:=W6 h2 h1 (by
   funext j
   have z:=(Yt<|ZH h2 h1).mpr<|Xv h j;rw[YB h2 h1,xB,GH]at z
   grind)
  rw[e];exact ha
 |o::P,L,a,r,hP,ha,h1,h2,h=>by
  have ho:=hP o<|aj ..
  let x:=ZW p r a<|-1
  have hx:Zk p n x:=ZH h2 h1;have hk:=XZ ppos hx<|(hdI o).getD 0;have e:clr p x o ((hdI o).getD 0)=ZW p r (ZW p a o<|gt x<|(hdI o).getD 0) (-1):=W6 (ZH hx ho) (ZH h2<|ZH h1 ho) (by
   rw[WY hx ho,YB h2<|ZH h1 ho,YB h1 ho]
   funext j
   show toV p (ZW p r a<|-1) j-toV p x ((hdI o).getD 0)*toV p o j=toV p r j+ph p (-1)*(toV p a j+toV p x ((hdI o).getD 0)*toV p o j);rw[YB h2 h1,xB,GH]
   grind)
  refine vF (P:=P) (λq hq=>hP q<|ao _ hq) (dG.mpr #[(gt x<|(hdI o).getD 0).toNat,bh.mpr (by omega),aR.mpr #[a,ha,by rw[kF hk.1]]]) (ZH h1 ho) h2 ?_
  rw[<-e];exact h
theorem zn(hP:pZ p n P):r∈Yy p n P↔Zk p n r/\Vw p P r=ak:=by
 constructor
 .exact vT hP (λ_ h=>h) (λq hq=>by rw[aK.mp hq];exact#[Ym,Zda hP Ym Wm]) r
 .intro#[h1,h2]
  refine vF hP.row (aK.mpr rfl) Ym h1 ?_;have e:ZW p r (aH n 0) (-1)=r:=W6 (ZH h1 Ym) h1 (by
   rw[YB h1 Ym]
   funext j
   rw[(Yt Ym).mpr<|Wm j]
   grind)
  rw[e];exact Option.isNone_iff_eq_none.mp h2
theorem zU:∀{P L:List Row},(∀o∈P,Zk p n o/\gt o ((hdI o).getD 0)=1)->(P.Pairwise λo q=>gt o ((hdI q).getD 0)=0)->(∀r∈L,Zk p n r/\∀o∈P,gt r ((hdI o).getD 0)=0)->L.Nodup->(P.foldl (XT p) L).Nodup
 |[],_,_,_,_,h=>h
 |o::P,L,hP,hz,hL,h=>by
  obtain⟨ho,h1⟩:=hP o<|aj ..;obtain⟨z1,z2⟩:=bf.mp hz;have hp:=(inferInstance:Base p).b;refine zU (P:=P) (λq hq=>hP q<|ao _ hq) z2 (λr hr=>#[Jd (λr hr=>(hL r hr).1) ho r hr,λq hq=>?_]) ?_
  .obtain⟨k,_,h3⟩:=dG.mp hr
   obtain⟨s,hs,rfl⟩:=aR.mp h3;rw[Ui (hL s hs).1 ho,(hL s hs).2 q<|ao _ hq,z1 q hq];simp
  .have at_:∀(k:Nat) r,k<p->r∈L->gt (ZW p r o (k:Int)) ((hdI o).getD 0)=k:=λk r hk hr=>by
    rw[Ui (hL r hr).1 ho,(hL r hr).2 o<|aj ..,h1,oM,Int.mul_one,fv (by omega)<|by omega]
   refine List.pairwise_flatMap.mpr #[λk hk=>?_,?_]
   .refine cT.mpr (h.imp_of_mem λ{a b} ha hb ne e=>ne<|W6 (hL a ha).1 (hL b hb).1 ?_)
    have q:=congrArg (toV p) e;rw[YB (hL a ha).1 ho,YB (hL b hb).1 ho]at q
    funext j
    have:=congrFun q j
    grind
   .refine pe.imp_of_mem λ{a b} ha hb ne x hx y hy e=>ne ?_
    obtain⟨r,hr,rfl⟩:=aR.mp hx;obtain⟨q,hq,rfl⟩:=aR.mp hy;have:=at_ a r (bh.mp ha) hr;rw[e,at_ b q (bh.mp hb) hq]at this;omega
def vb(hP:pZ p n P):(Yy p n P).Nodup:=by
 have rf:=hP.pn.rf;refine zU (λo ho=>#[hP.row o ho,(ZcR<|hP.row o ho).mp<|rf.one _<|Yb ho]) ?_ (λr hr=>?_)<|cY.mpr #[by simp,rR]
 .exact(cT.mp rf.inc).imp_of_mem λ{a b} ha hb lt=>(Yt<|hP.row a ha).mp<|rf.zer _ (Yb hb) _ (Yb ha)<|gA lt
 .rw[aK.mp hr]
  exact#[Ym,λo _=>Wm _]
def XS(p n:Nat)(P Q:List Row):List Row:=(Yy p n P).filter λr=>(Yy p n Q).contains r
end
end Rw
namespace K84
open Ev Pv Rw La
def Zba(r:Row):V.flat (Zd r)=ak:=XA r
theorem Jo:∀L:List Row,ZL (L.map Zd)=ak
 |[]=>rfl
 |r::L=>by
  show(V.flat (Zd r)&&ZL (L.map Zd))=ak;rw[Zba,Jo L];rfl
theorem yn:∀L:List Row,WC (L.map λr=>V.tup [Zd r,.bl ak])=aa L
 |[]=>rfl
 |r::L=>by
  show((intsV<|r.map V.int).bind λa=>(WC<|L.map λr=>V.tup [Zd r,.bl ak]).map (a :: ·))=_
  rw[Wk,yn L];rfl
section
variable{p n:Nat}[Base p]
def Zbr:List Sm:=[.asg [4]<|.lst [],
  .forr [5] (.rng1<|.ix (.v 0)<|.c<|.int 0) [.ex<|.mt .extend (.v 4) [(.comp1 [0,3,5] 1 [0] (.of<|.v 2) []<|.call 5 [(.v 1),(.v 0),(.v 2),(.v 3)])]],
  .mov 2 4]
def uY(d:Nat){L:List Row}{o:Row}{v:V}{a5:Option V}(s:DS)(hn:n<=6)(hL:∀r∈L,Zk p n r)(ho:Zk p n o)(hl:L.length<=15625):∃b5,rvs (CV<|d+1) [4] Zbr [aa<|spV p n,aa v,aa<|.lst<|L.map Zd,aa<|Zd o,af,a5] [] s=.ok (.nx [aa<|spV p n,aa v,aa<|.lst<|(XT p L o).map Zd,aa<|Zd o,af,b5] []) s:=by
 have hp:=W5 (p:=p);unfold Zbr;obtain⟨o5,_,e5⟩:=Wn (C:=CV<|d+1) (t:=[5]) (it:=.rng1<|.ix (.v 0)<|.c<|.int 0) (b:=[.ex<|.mt .extend (.v 4) [(.comp1 [0,3,5] 1 [0] (.of<|.v 2) []<|.call 5 [(.v 1),(.v 0),(.v 2),(.v 3)])]]) (step:=λ(acc:List Row) (k:Nat)=>acc++L.map λr=>ZW p r o (k:Int)) (U:=λacc x=>[aa<|spV p n,aa v,aa<|.lst<|L.map Zd,aa<|Zd o,aa<|.lst<|acc.map Zd,x]) (os:=[4]) (s:=s)
  (λl acc=>(∀k∈l,k<5)/\acc.length+l.length*L.length<=100000) (by
   exact XE (ix0 rfl)<|by omega) #[λk hk=>by have:=bh.mp hk;omega,by
    rw[bq,kA];have:p*L.length<=5*15625:=iA (by omega) hl
    omega] rfl (λk l acc x hI=>by
   obtain⟨h1,h2⟩:=hI;rw[aG,ml]at h2;have hk:=h1 k<|aj ..;refine#[#[λq hq=>h1 q<|ao _ hq,by rw[aU,ax];omega],rfl,[aa<|spV p n,aa v,aa<|.lst<|L.map Zd,aa<|Zd o,aa<|.lst<|acc.map Zd,aa<|Zh k],aa<|Zh k,rfl,?_]
   have hc:=Zy (cap:=[0,3,5]) (nl:=1) (t:=[0]) (it:=.of<|.v 2) (elt:=.call 5 [(.v 1),(.v 0),(.v 2),(.v 3)]) (U:=[aa<|spV p n,aa v,aa<|.lst<|L.map Zd,aa<|Zd o,af,aa<|Zh k])
    (by rw[pvw,Zf rfl];rfl) (by unfold lim;omega) (λr hr=>#[[aa<|Zd r,aa<|spV p n,aa<|Zd o,aa<|Zh k],rfl,ZA (Zc (Zf rfl)<|Zc (Zf rfl)<|Zc (Zf rfl)<|Zc (Zf rfl) Zi)<|Zbg d s hn (hL r hr) ho #[by omega,by omega]])
   have hm:(L.map λr=>Zd<|ZW p r o (k:Int))=(L.map λr=>ZW p r o (k:Int)).map Zd:=by rw[bO];rfl
   rw[hm]at hc;rw[Ze (ρ':=[aa<|spV p n,aa v,aa<|.lst<|L.map Zd,aa<|Zd o,aa<|.lst<|(acc++L.map λr=>ZW p r o (k:Int)).map Zd,aa<|Zh k]) (by
    rw[rv];show(if ak=ak then((PR.ok (acc.map Zd) s).bind λxs s=>(pv (CV<|d+1) _ [aa<|spV p n,aa v,aa<|.lst<|L.map Zd,aa<|Zd o,af,aa<|Zh k] s).bind _)else _)=_
    rw[T9 rfl,Za,hc,Za];show(if ZL ((L.map λr=>ZW p r o (k:Int)).map Zd)=ak/\_<=lim then _ else _)=_
    rw[T9 #[Jo _,by rw[ax,ax,ax];unfold lim;omega],br]
    rfl),rvs])
 have hfold:∀(l:List Nat)(acc:List Row),l.foldl (λ(acc:List Row) (k:Nat)=>acc++L.map λr=>ZW p r o (k:Int)) acc=acc++l.flatMap λ(k:Nat)=>L.map λr=>ZW p r o (k:Int):=λl=>by
  induction l with|nil=>intro acc;simp|cons r l ih=>intro acc;rw[dB,ih,iL,bF]
 rw[hfold,fj]at e5;refine#[o5,?_];rw[Ze (ρ':=[aa<|spV p n,aa v,aa<|.lst<|L.map Zd,aa<|Zd o,aa<|.lst<|([]:List Row).map Zd,a5]) (os':=[4]) (s':=s) (by simp[pvE,ZL]),Ze e5]
 rw[Ze (ρ':=[aa<|spV p n,aa v,aa<|.lst<|(XT p L o).map Zd,aa<|Zd o,af,o5]) (os':=[]) (by rw[rv];rfl),rvs]
def zR(d:Nat){P:List Row}(s:DS)(hn:n<=6)(hP:pZ p n P)(hl:p^n<=1000):CV (d+2) 6 [spV p n,Zb P] s=.ok (.dct<|aa<|Yy p n P) s:=by
 have hp:=W5 (p:=p);refine Zp rfl (by decide) rfl ?_
 show rvs (CV<|d+1) [4] (.asg [2] (.lst [(.bin .mul (.tup [(.c<|.int 0)])<|.ix (.v 0)<|.c<|.int 1)]) :: .forr [3] (.of<|.v 1) Zbr :: .ret (.blt .dictP [(.comp1 [] 1 [0] (.of<|.v 2) []<|.tup [(.v 0),(.c<|.bl ak)])])::[]) [aa<|spV p n,aa<|Zb P,af,af,af,af] [] s=_;have z0:pv (CV<|d+1) (.lst [(.bin .mul (.tup [(.c<|.int 0)])<|.ix (.v 0)<|.c<|.int 1)]) [aa<|spV p n,aa<|Zb P,af,af,af,af] s=.ok (.lst<|[aH n 0].map Zd) s:=by
  have g:pv (CV<|d+1) (.bin .mul (.tup [(.c<|.int 0)])<|.ix (.v 0)<|.c<|.int 1) [aa<|spV p n,aa<|Zb P,af,af,af,af] s=.ok (Zd<|aH n 0) s:=by
   rw[pv,ut YE,Za,ix1 rfl,Za];show(if(0:Int)<=n/\(n:Int)<1000/\1<=1000 then PR.ok (V.tup (aH (n:Int).toNat [V.int 0]).flatten) s else .no)=_
   rw[T9 #[by omega,by omega,by omega],ei]
   rw[ZdM];rfl
  rw[pv,Zc g Zi];rfl
 rw[Ze<|Yp z0 rfl];show rvs _ _ _ [aa<|spV p n,aa<|Zb P,aa<|.lst<|[aH n 0].map Zd,af,af,af] [] s=_;have hpow:∀(l:List Row)(k:Nat),k+l.length=P.length->p^k*p^l.length<=1000:=λl k h=>by
  rw[<-Nat.pow_add,h];exact bX (cH (by omega)<|dsum hP) hl
 obtain⟨ρ',⟨L,a3,a5,rfl,hL,_⟩,e⟩:=WW (C:=CV<|d+1) (t:=[3]) (it:=.of<|.v 1) (os:=[]) (s:=s)
  (λl U=>∃(L:List Row)(a3 a5:Option V),U=[aa<|spV p n,aa<|Zb P,aa<|.lst<|L.map Zd,a3,af,a5]/\l.foldl (XT p) L=Yy p n P/\(∀r∈L,Zk p n r)/\(∀r∈l,Zk p n r)/\∃k,k+l.length=P.length/\L.length=p^k)
  (by rw[pvw];rw[Zf rfl];rfl)
  #[[aH n 0],af,af,rfl,rfl,λr hr=>by
   rw[aK.mp hr];exact#[cA,λa ha=>by rw[lL ha];omega],λr hr=>hP.row r hr,0,by omega,by simp] rfl (λr l U hI=>by
   obtain⟨L,a3,a5,rfl,h1,h2,h3,k,h4,h5⟩:=hI;have hr:=h3 r<|aj ..;rw[aG]at h4;have hz:=hpow l (k+1) (by omega)
   have hL1:L.length<=1000:=by
    rw[h5];have:=hpow (r::l) k (by rw[aG];omega)
    have h0:0<p^(r::l).length:=Nat.pow_pos (by omega)
    exact bX (l9 _ h0) this
   obtain⟨b5,e1⟩:=uY d s hn h2 hr (by omega)
   refine#[by rfl,_,_,rfl,e1,XT p L r,_,b5,rfl,h1,Jd h2 hr,λq hq=>h3 q<|ao _ hq,k+1,by omega,?_]
   rw[JJ,h5,gG])
 rw[Ze e];rw[iM]at hL;subst hL;have hlen:(Yy p n P).length<=1000:=by
  rw[yc];exact bX (cH (by omega)<|dsum hP) hl
 have hc:=Zy (C:=CV<|d+1) (cap:=[]) (nl:=1) (t:=[0]) (it:=.of<|.v 2) (elt:=.tup [(.v 0),(.c<|.bl ak)]) (U:=[aa<|spV p n,aa<|Zb P,aa<|.lst<|(Yy p n P).map Zd,a3,af,a5]) (s:=s)
  (by rw[pvw,Zf rfl];rfl) (by unfold lim;omega) (λr hr=>#[[aa<|Zd r],rfl,by
   rw[pv,Zc (Zf rfl)<|Zc (by rw[pv];rfl) Zi];rfl])
 refine Zt<|ZS ?_;rw[pv,Zc hc Zi,Za];show po ((WC<|(Yy p n P).map λr=>V.tup [Zd r,.bl ak]).bind λks=>if Qt ks=ak then aa (V.dct<|aa ks)else af) s=_
 rw[yn];show po (if Qt (Yy p n P)=ak then aa (V.dct<|aa<|Yy p n P)else af) s=_
 rw[T9 (by
  unfold Qt;rw[aI,T0,T0];exact#[by unfold lim;omega,vb hP])];rfl
end
section
variable{p n:Nat}[Base p]
def Za7(d:Nat)(a:Int)(s:DS):CV (d+1) 9 [.int a,.int a] s=.ok (.bl ak) s:=by
 refine Zp rfl (by decide) rfl ?_
 simp[X9,pvE,Y2,Wd,YR,eqV,ZJ]
def UG(d:Nat){B:Type}{f:B->V}{l:List B}(s:DS)(hl:l.length<=1000)(h:∀x∈l,CV d 9 [f x,f x] s=.ok (.bl ak) s):CV (d+1) 9 [.tup<|l.map f,.tup<|l.map f] s=.ok (.bl ak) s:=by
 refine Zp rfl (by decide) rfl ?_
 dsimp only[X9]
 refine Zt ?_;have hz:((l.map f).zip<|l.map f).map (λq=>V.tup [q.1,q.2])=l.map λx=>V.tup [f x,f x]:=by
  clear h hl
  induction l with|nil=>rfl|cons x l ih=>rw[aY,cc,aY,ih];rfl
 have hc:=Zy (cap:=[]) (nl:=2) (t:=[0,1]) (it:=.zip (.v 0)<|.v 1) (elt:=.call 9 [(.v 0),(.v 1)]) (U:=[aa<|.tup<|l.map f,aa<|.tup<|l.map f])
  (by
   rw[pvw,Zf rfl,Za,Zf rfl,Za];show PR.ok (((l.map f).zip<|l.map f).map λq=>V.tup [q.1,q.2]) s=_
   rw[hz]) (by unfold lim;omega) (λx hx=>#[_,rfl,ZA (Zc (Zf rfl)<|Zc (Zf rfl) Zi)<|h x hx])
 have ht:=ZX (g:=λ_:B=>ak) l
 have ha:(l.map λ_=>ak).all id=ak:=by induction l<;>simp
 simp[pvE,Y2,Wd,YR,eqV,ZJ,hc,ht,ha]
def qE(d:Nat){P:List Row}(s:DS)(hn:n<=6)(hP:pZ p n P):CV (d+3) 9 [Zb P,Zb P] s=.ok (.bl ak) s:=
 UG (d+2) s (by have:=dsum hP;omega) λr hr=>UG (d+1) s (by rw[(hP.row r hr).1];omega) λa _=>Za7 d a s
end
def Zc4{C:Zr}{U:Env}{s s':DS}{e:E}{w:Bool}{c:Nat}(h:pv C e U s=.ex c s')(hc:1<=c/\c<=10):pv C (.refu w e) U s=.ok (qr w<|c-1) s':=by
 rw[pv,h];show(if 1<=c/\c<=10 then _ else _)=_
 rw[T9 hc]
def ne_str{C:Zr}{U:Env}{s:DS}{a b:E}{x:PySem.Str}(h1:pv C a U s=.ok (.str x) s)(h2:pv C b U s=.ok (.str x) s):pv C (.cmp .ne a b) U s=.ok (.bl al) s:=by
 rw[pv,h1,Za,h2,Za];show po (aa<|V.bl !(ag<|x=x)) s=_;rw[T5 rfl];rfl
def Zcn{C:Zr}{ms os:List Nat}{U:Env}{s:DS}{B:Type}{t:List Nat}{it:W}{b:List Sm}{L:List B}{e:B->V}(I:List B->Env->Prop){s0:DS}(hw:pvw C it (hide os U) s=.ok (L.map e) s0)(hI:I L U)(ht:(t.any os.contains)=al)
  (h:∀x l U s,I (x::l) U->∃ρ1 ρ' s',Zo t (e x) U=aa ρ1/\rvs C ms b ρ1 os s=.ok (.nx ρ' os) s'/\I l ρ') :
  ∃ρ' s',I [] ρ'/\rv C ms (.forr t it b) U os s=.ok (.nx ρ' os) s':=by
 rw[rv,hw,Za];clear hw
 induction L generalizing U s0 with
 |nil=>exact#[U,s0,hI,rfl]
 |cons x L ih=>
  obtain⟨ρ1,ρ',s',b1,b2,b3⟩:=h x L U s0 hI;obtain⟨ρ2,s2,c1,c2⟩:=ih b3;refine#[ρ2,s2,c1,?_];rw[aY,XW,T8 (by rw[ht];simp),b1,Yg,Za,b2,Za]
  exact c2
end K84
namespace Rw
open La
section
variable{p n:Nat}[Base p]
def Zfn{u:Vec (Fin p)}(hs:Supp n u):∃r,Zk p n r/\toV p r=u:=by
 refine#[(aP n).map λj=>((u j).val:Int),#[by simp,λa ha=>?_],funext λj=>?_]
 .obtain⟨j,_,rfl⟩:=aR.mp ha
  have:=(u j).isLt;omega
 .unfold toV gt
  by_cases h:j<n
  .have:=(u j).isLt
   rw[aD,aQ,cO h];exact Ve (by rw[YQ];exact fv (by simp)<|by simp[this])
  .rw[aD,cZ (by simpa using h),hs j<|by omega]
   exact W7
theorem JA{P:Pt (Fin p)}:∀vs,Ua P vs λ_=>0
 |[]=>Yx
 |v::vs=>#[0,by rw[show(λj=>0-0*v j)=λ_=>0 by funext j;grind];exact JA vs]
theorem vh{P:Pt (Fin p)}{v:Vec (Fin p)}:∀{vs},v∈vs->Ua P vs v
 |w::vs,h=>by
  rcases aB.mp h with rfl|h
  .exact#[1,by rw[show(λj=>v j-1*v j)=λ_=>0 by funext j;grind];exact JA vs]
  .exact#[0,by rw[show(λj=>v j-0*w j)=v by funext j;grind];exact vh h]
theorem WM{R:Pt (Fin p)}:∀{vs u},(∀v∈vs,Mem R v)->Ua [] vs u->Mem R u
 |[],u,_,h=>by rw[show u=λ_=>0 from funext<|JY.mp h];exact Yx
 |v::vs,u,hv,#[c,h]=>by
  have:=YX c (WM (λw hw=>hv w<|ao _ hw) h)<|hv v<|aj ..
  rw[show(λj=>u j-c*v j+c*v j)=u by funext j;grind]at this
  exact this
def Y6{P Q:List Row}{r:Row}(hP:pZ p n P)(hQ:pZ p n Q):r∈XS p n P Q↔Zk p n r/\Vw p P r=ak/\Vw p Q r=ak:=by
 unfold XS;rw[cX,fY,zn hP,zn hQ];exact#[λh=>#[h.1.1,h.1.2,h.2.2],λh=>#[#[h.1,h.2.1],h.1,h.2.2]]
def qK{P Q:List Row}(hP:pZ p n P)(hQ:pZ p n Q):∃M,pZ p n M/\(∀u,Mm p M u↔Mm p P u/\Mm p Q u)/\(Xw p P Q).length+M.length=P.length+Q.length:=by
 have hr:∀r∈XS p n P Q,Zk p n r:=λr h=>((Y6 hP hQ).mp h).1
 obtain⟨hM,e⟩:=GD (P:=[]) pZ.nil hr;have hm:=(Vi fld ((XS p n P Q).map<|toV p) Pn.nil λv hv=>by
  obtain⟨r,h,rfl⟩:=aR.mp hv;exact UR<|hr r h).2
 have h:∀u,Mm p (Xw p []<|XS p n P Q) u↔Mm p P u/\Mm p Q u:=λu=>by
  unfold Mm;rw[e];refine(hm u).trans #[λh=>#[WM (λv hv=>?_) h,WM (λv hv=>?_) h],λ#[h1,h2]=>?_]
  .obtain⟨r,h,rfl⟩:=aR.mp hv
   have:=(Y6 hP hQ).mp h;exact(ZZ hP this.1).mp this.2.1
  .obtain⟨r,h,rfl⟩:=aR.mp hv
   have:=(Y6 hP hQ).mp h;exact(ZZ hQ this.1).mp this.2.2
  .obtain⟨r,hr,rfl⟩:=Zfn (j6 hP.pn h1)
   exact vh<|aR.mpr #[r,(Y6 hP hQ).mpr #[hr,(ZZ hP hr).mpr h1,(ZZ hQ hr).mpr h2],rfl]
 refine#[_,hM,h,?_];have:=qk fld hP.pn hQ.pn hM.pn h;rw[<-(X3 hP hQ).2,WZ,WZ,WZ,WZ]at this;exact this
def Q8{P:List Row}(hP:pZ p n P):Vw p P (aH n 0)=ak:=
 (ZZ hP Ym).mpr (Zcc _<|JY.mpr λj=>(Yt Ym).mpr<|Wm j)
def jy{P Q:List Row}(hP:pZ p n P)(hQ:pZ p n Q):ag ((XS p n Q P).length>1) = !Zu p P Q:=by
 have nd:(XS p n Q P).Nodup:=(vb hQ).sublist List.filter_sublist;obtain⟨M,hM,h,hl⟩:=qK hP hQ;cases em:M with
 |nil=>
  rw[em]at hl h;rw[show Zu p P Q=ak from T5 hl]
  have:=UF (A:=[aH n 0]) nd λr hr=>by
   obtain⟨h1,h2,h3⟩:=(Y6 hQ hP).mp hr;rw[aK];exact wR (by rw[h1.1,cA]) λj=>by
    rw[Wm];exact(Yt h1).mp<|JY.mp ((h _).mpr #[(ZZ hP h1).mp h3,(ZZ hQ h1).mp h2]) j
  rw[bJ]at this;exact T4 (by omega)
 |cons r l=>
  have hr:r∈M:=by rw[em];exact aj ..
  have hz:=hM.row r hr;obtain⟨l1,l2⟩:=(h _).mp<|XQ hM.pn.rf<|Yb hr;obtain⟨k,hk,_⟩:=hM.head fld.one0 hr;have ne:aH n 0≠r:=λz=>(YK hk).1 (by rw[<-z,Wm])
  have:=UF (L:=[aH n 0,r]) (A:=XS p n Q P) (by simp[ne]) λx hx=>by
   rcases aB.mp hx with rfl|hx
   .exact(Y6 hQ hP).mpr #[Ym,Q8 hQ,Q8 hP]
   .rw[aK.mp hx];exact(Y6 hQ hP).mpr #[hz,(ZZ hQ hz).mpr l2,(ZZ hP hz).mpr l1]
  rw[em]at hl;rw[show Zu p P Q=al from T4<|by rw[aG]at hl;omega]
  exact T5 this
def jQ(p:Nat):Nat->List (List Row)->List (List Row)->List (List Row)
 |0,f,_=>f
 |_+1,f,[]=>f
 |m+1,f,P::R=>jQ p m (f++[P])<|(P::R).filter λQ=>Zu p Q P
def Zb9(m:Nat)(f:List (List Row)):jQ p m f []=f:=by cases m<;>rfl
theorem UY:∀(A f:List (List Row))(m:Nat),(∀P∈A,Zu p P P=al)->A.length<=m->jQ p m f (A.filter λQ=>f.all<|Zu p Q)=Xp p f A
 |[],f,m,_,_=>Zb9 m f
 |P::A,f,m,h,hm=>by
  have hs:=h P<|aj ..;have hA:=λQ hQ=>h Q<|ao _ hQ
  rw[aG]at hm;show _=Xp p (YD p f P) A;unfold YD;by_cases c:f.all (Zu p P)=ak
  .rw[List.filter_cons_of_pos (p:=λQ=>f.all<|Zu p Q) c,T9 c]
   obtain⟨m,rfl⟩:∃j,m=j+1:=#[m-1,by omega]
   show jQ p m (f++[P]) ((P::A.filter λQ=>f.all<|Zu p Q).filter λQ=>Zu p Q P)=_
   rw[h9 (by rw[hs];simp),List.filter_filter,<-UY A (f++[P]) m hA (by omega)]
   congr 1
   refine List.filter_congr λQ _=>?_
   rw[List.all_append,Bool.and_comm];simp
  .rw[h9 (p:=λQ=>f.all<|Zu p Q) c,T8 c]
   exact UY A f m hA (by omega)
end
def Zgv(q:Nat×Nat):Bool:=ag (q.2>4)||(aP<|q.2+1).all λk=>ag<|(ZR q.1 q.2 k).length<=900
def Zcd:∀q∈QW++QR,Zgv q=ak:=by decide +kernel
def Zgr(q:Nat×Nat):Bool:=ag (q.1^q.2<=125) && !((aP<|q.2+1).any λk=>(ZR q.1 q.2 k).isEmpty)
def ZcX:∀q∈QW++QR,Zgr q=ak:=by decide +kernel
end Rw
namespace K84
open Ev Pv Rw La
def qY(P:List Row):V.flat (Zb P)=ak:=Yw P
section
variable{p n k:Nat}[Base p]
def WR(d:Nat){P:List Row}{L:List (List Row)}{v:V}(s:DS)(hn:n<=6)(hP:pZ p n P)(hL:∀Q∈L,pZ p n Q)(hp:p^n<=1000)(hv:YN v=aa (L.map Zb)):CV (d+3) 7 [spV p n,Zb P,v] s=.ok (.bl<|L.all<|Zu p P) s:=by
 have p0:=W5 (p:=p);refine Zp rfl (by decide) rfl ?_
 let U (o:Option V):Env:=[aa<|spV p n,aa<|Zb P,aa v,aa<|.dct<|aa<|Yy p n P,o]
 dsimp only[Ww]
 rw[Ze<|Yp (yf (Zf rfl) (Zf rfl)<|zR d s hn hP hp) rfl];show rvs (CV<|d+2) [] _ (U af) [] s=_
 let G:E:=.comp1 [3] 1 [0] (.dk<|.call 6 [(.v 0),(.v 4)]) [(.cmp .inn (.v 0)<|.v 1)]<|.v 0
 have tst:∀Q∈L,pv (CV<|d+2) (.cmp .gt (.blt .len [G])<|.c<|.int 1) (U<|aa<|Zb Q) s=.ok (.bl<|!Zu p P Q) s:=λQ hQ=>by
  have hQ:=hL Q hQ;have hc:=YI (cap:=[3]) (nl:=1) (t:=[0]) (it:=.dk<|.call 6 [(.v 0),(.v 4)]) (tst:=.cmp .inn (.v 0)<|.v 1) (elt:=.v 0) (U:=U<|aa<|Zb Q)
   (by rw[pvw,yf (Zf rfl) (Zf rfl)<|zR d s hn hQ hp];rfl) (by
    rw[yc];have:=bX (cH (show 0<p by omega)<|dsum hQ) hp
    unfold lim;omega) (λr hr=>#[[aa<|Zd r,aa<|.dct<|aa<|Yy p n P],.bl<|(Yy p n P).contains r,rfl,by
    rw[pv,Zf rfl,Za,Zf rfl,Za];show po (((intsV<|r.map V.int).map λk=>(Yy p n P).contains k).map V.bl) s=_
    rw[Wk];rfl,rfl,λ_=>Zf rfl])
  have e1:pv (CV<|d+2) (.blt .len [G]) (U<|aa<|Zb Q) s=.ok (.int (XS p n Q P).length) s:=by
   rw[pv,Zc hc Zi,Za];show po (aa<|V.int (((Yy p n Q).filter λr=>(Yy p n P).contains r).map Zd).length) s=_
   rw[ax];rfl
  rw[pv,e1,Za,YE,Za];show PR.ok (V.bl<|ag<|(1:Int)<((XS p n Q P).length:Int)) s=_;rw[<-jy hP hQ,decide_eq_decide.mpr<|show(1:Int)<((XS p n Q P).length:Int)↔(XS p n Q P).length>1 by omega]
 obtain⟨g1,g2⟩:=vI (C:=CV<|d+2) (ms:=[]) (s:=s) (i:=4) (it:=.of<|.v 2) (b:=[.ite (.cmp .gt (.blt .len [G])<|.c<|.int 1) [.ret<|.c<|.bl al] []]) (q:=λQ=>!Zu p P Q) (U:=U) af
  (by rw[pvw,Zf rfl,Za,hv];rfl) (λ_ _=>rfl) (λQ hQ=>by
   rw[rvs,Yv<|Z6 (tst Q hQ) rfl];cases(!Zu p P Q)with
   |true=>rw[T9 rfl,T9 rfl,Zt<|ZS<|by rw[pv];rfl];rfl
   |false=>rw[T8 (by simp),T8 (by simp),rvs];rfl)
 have ha:(L.all<|Zu p P) = !(L.any λQ=>!Zu p P Q):=by simp[List.all_eq_not_any_not]
 rw[ha];cases h:L.any λQ=>!Zu p P Q with
 |true=>exact Zt<|g1 h
 |false=>
  obtain⟨o,g⟩:=g2 h;rw[Ze g];exact Zt<|ZS<|by rw[pv];rfl
def zt{C:Zr}{ms:List Nat}{U:Env}{s s':DS}{i:Nat}{e:E}{L:List (List Row)}{P:List Row}{os:List Nat}(ho:os.contains i=ak)(h:U[i]?=aa (aa<|.lst<|L.map Zb))(hl:L.length<=3000)(he:pv C e U s=.ok (Zb P) s'):rv C ms (.ex<|.mt .append (.v i) [e]) U os s=.ok (.nx (U.set i<|aa<|.lst<|(L++[P]).map Zb) os) s':=by
 rw[rv,T9 ho,h];show(PR.ok (L.map Zb) s).bind _=_;rw[Za,he,Za];rw[T9 #[qY P,by rw[ax];unfold lim;omega],br]
 rfl
def Zb4(d:Nat)(s:DS)(hn:n<=6)(hk:1<=k)(hp:p^n<=1000)(hl:(ZR p n k).length<=1395)(h0:ZR p n k≠[]):∃L s',CV (d+4) 8 [.drw,spV p n,Zh k,.lst<|(ZR p n k).map Zb] s=.ok (ZO L) s'/\Lot p n k L/\(L.Pairwise λa b=>ltP a b=ak)/\L.length<=8:=by
 let A:=ZR p n k
 have hA:1<=A.length:=by
  cases e:A with|nil=>exact T7 e h0|cons _ _=>simp
 let U (f:List (List Row)) (a5 a6:Option V):Env:=[aa .drw,aa<|spV p n,aa<|Zh k,aa<|.lst<|A.map Zb,aa<|.lst<|f.map Zb,a5,a6]
 obtain⟨m,s1,t1,m0,m1⟩:=um (m:=9) s (by omega) (by omega)
 have w:pvw (CV<|d+3) (.rng1<|.call 2 [(.v 0),(.c<|.int 9)]) (hide [4]<|U [] af af) s=.ok ((aP m.toNat).map Zh) s1:=
  XE (by
   rw[show((m.toNat:Nat):Int)=m by omega]
   exact ZA (Zc (Zf rfl)<|Zc YE Zi) t1) (by omega)
 obtain⟨ρ',s2,⟨f,a5,a6,rfl,h1,h2⟩,e⟩:=Zcn (ms:=[4]) (t:=[5]) (b:=[.asg [6]<|.ix (.v 3)<|.call 2 [(.v 0),(.blt .len [(.v 3)])],.ite (.call 7 [(.v 1),(.v 6),(.v 4)]) [.ex<|.mt .append (.v 4) [(.v 6)]] []]) (λl ρ'=>∃f a5 a6,ρ'=U f a5 a6/\Lot p n k f/\f.length+l.length<=8) w #[[],af,af,rfl,#[λ_ h=>T7 h bQ,dH],by rw[bq];simp;omega] rfl (λx l ρ' s hI=>by
  obtain⟨f,a5,a6,rfl,h1,h2⟩:=hI;rw[aG]at h2;obtain⟨v,s2,t2,v0,v1⟩:=um (m:=(A.length:Int)) s (by omega) (by have:A.length<=1395:=hl;omega)
  let ρh (a5:Option V):Env:=[aa .drw,aa<|spV p n,aa<|Zh k,aa<|.lst<|A.map Zb,af,a5,a6]
  have e1:pv (CV<|d+3) (.call 2 [(.v 0),(.blt .len [(.v 3)])]) (ρh<|aa<|Zh x) s=.ok (.int v) s2:=ZA (Zc (Zf rfl) (Zc (by
   rw[pv,Zc (Zf rfl) Zi,Za];show po (aa<|V.int ((A.map Zb).length:Int)) s=_;rw[ax];rfl) Zi)) t2
  obtain⟨y,hy,e2⟩:=pick (a:=.v 3) (Zf rfl) e1 v0 (by rw[ax];exact v1)
  obtain⟨P,hP,rfl⟩:=aR.mp hy;have hP:=Y5 k P hP;have e3:Yk (CV<|d+3) (.call 7 [(.v 1),(.v 6),(.v 4)]) (U f (aa<|Zh x)<|aa<|Zb P) s2=.ok (f.all<|Zu p P) s2:=Z6 (XU (Zf rfl) (Zf rfl) (Zf rfl)<|WR d s2 hn hP.1 (λQ hQ=>(h1.pt Q hQ).1) hp rfl) rfl
  refine#[U f (aa<|Zh x) a6,U (YD p f P) (aa<|Zh x)<|aa<|Zb P,s2,rfl,?_,YD p f P,_,_,rfl,Qh h1 hP,?_]
  .rw[Ze<|XM e2 rfl]
   show rvs _ _ _ (U f (aa<|Zh x)<|aa<|Zb P) [4] s2=_;unfold YD;by_cases c:f.all (Zu p P)=ak
   .rw[T9 c,Ze ((Yv e3).trans<|by rw[T9 c,Ze (zt rfl rfl (by omega)<|Zf rfl),rvs]),rvs];rfl
   .rw[T8 c,Ze ((Yv e3).trans<|by rw[T8 c,rvs]),rvs]
  .unfold YD
   split
   .rw[aU,bJ];omega
   .omega)
 refine#[Z8 ltP f,s2,?_,h1.perm<|Sd.Z7 f,Zfy<|h1.nodup hk,by rw[(Sd.Z7 f).length_eq];simpa using h2]
 refine Zp rfl (by decide) rfl ?_
 show rvs (CV<|d+3) [4] WN.body [aa .drw,aa<|spV p n,aa<|Zh k,aa<|.lst<|A.map Zb,af,af,af] [] s=_
 dsimp only[WN]
 rw[Ze (ρ':=U [] af af) (os':=[4]) (s':=s) (by simp[pvE,ZL,U]),Ze e]
 exact Zt<|ZS<|VG<|Y9 (Zf rfl)<|WL h1 hk<|by rw[kA]at h2;omega
end
def Zad{xs:List V}{x:V}:YW (xs++[x]) (aa<|-1) af=[x]:=by
 unfold YW sIx;have e:((-1:Int)+((xs++[x]).length:Nat)).toNat=xs.length:=by rw[aU,bJ];omega
 simp only[show((-1:Int)<0)=True from by simp,if_true,e]
 rw[iG,aU,bJ];exact cq (by simp)
theorem Qn{p:Nat}:∀(A f:List (List Row)),(Xp p f A).length<=f.length+A.length
 |[],f=>by show f.length<=_;simp
 |P::A,f=>by
  have:=Qn (p:=p) A<|YD p f P;have h:(YD p f P).length<=f.length+1:=by
   unfold YD;split
   .rw[aU,bJ];omega
   .omega
  rw[aG];show(Xp p (YD p f P) A).length<=_;omega
section
variable{p n k:Nat}[Base p]
def ZcH:List Sm:=[.ex<|.mt .append (.v 3) [(.ix (.v 4)<|.c<|.int 0)],
  .asg [4] (.comp1 [0,3] 1 [0] (.of<|.v 4) [(.call 7 [(.v 1),(.v 0),(.sl (.v 2) (aa<|.neg<|.c<|.int 1) af)])]<|.v 0)]
def je(d:Nat){A L:List V}(s:DS)(hn:n<=6)(hp:p^n<=1000):∀(m:Nat)(f r:List (List Row)),(∀P∈f,pZ p n P)->(∀P∈r,pZ p n P/\Zu p P P=al)->r.length<=m->f.length+r.length<=2000->
  YG (Yk (CV<|d+3)<|.cmp .ne (.v 4)<|.lst []) (rvs (CV<|d+3) [3] ZcH) (m+1) [aa<|spV p n,aa<|.lst A,aa<|.tup L,aa<|.lst<|f.map Zb,aa<|.lst<|r.map Zb] [3] s=.ok (.nx [aa<|spV p n,aa<|.lst A,aa<|.tup L,aa<|.lst<|(jQ p m f r).map Zb,aa<|.lst []] [3]) s:=by
 let U (f r:List (List Row)):Env:=[aa<|spV p n,aa<|.lst A,aa<|.tup L,aa<|.lst<|f.map Zb,aa<|.lst<|r.map Zb]
 have t0:∀f,Yk (CV<|d+3) (.cmp .ne (.v 4)<|.lst []) (U f []) s=.ok al s:=λf=>Z6 (by rw[pv,Zf rfl,Za,pv,Zi];rfl) rfl
 intro m
 induction m with
 |zero=>
  intro f r hf hr hm _;cases r with
  |cons _ _=>cases hm
  |nil=>
   rw[YG,t0 f,Za,T8<|by simp];rfl
 |succ m ih=>
  intro f r hf hr hm hl;cases r with
  |nil=>rw[YG,t0 f,Za,T8<|by simp];rfl
  |cons P R=>
   obtain⟨hP,hPP⟩:=hr P<|aj ..;rw[aG]at hm hl;have t1:Yk (CV<|d+3) (.cmp .ne (.v 4)<|.lst []) (U f (P::R)) s=.ok ak s:=Z6 (by rw[pv,Zf rfl,Za,pv,Zi];rfl) rfl
   have e1:pv (CV<|d+3) (.ix (.v 4)<|.c<|.int 0) (U f (P::R)) s=.ok (Zb P) s:=Zdb<|Zf rfl
   let G:E:=.comp1 [0,3] 1 [0] (.of<|.v 4) [(.call 7 [(.v 1),(.v 0),(.sl (.v 2) (aa<|.neg<|.c<|.int 1) af)])]<|.v 0
   let R':=(P::R).filter λQ=>Zu p Q P
   have hc:pv (CV<|d+3) G (U (f++[P]) (P::R)) s=.ok (.lst<|R'.map Zb) s:=YI
    (by rw[pvw,Zf rfl];rfl) (by rw[aG];unfold lim;omega) (λQ hQ=>#[[aa<|Zb Q,aa<|spV p n,aa<|.lst<|(f++[P]).map Zb],.bl<|[P].all<|Zu p Q,rfl,by
     have e2:pv (CV<|d+3) (.sl (.v 2) (aa<|.neg<|.c<|.int 1) af) [aa<|Zb Q,aa<|spV p n,aa<|.lst<|(f++[P]).map Zb] s=.ok (.lst<|[P].map Zb) s:=by
      rw[pv,Zf rfl,Za];rw[br];show po (aa<|V.lst<|YW (f.map Zb++[Zb P]) (aa<|-1) af) s=_;rw[Zad];rfl
     exact XU (Zf rfl) (Zf rfl) e2 (WR d s hn (hr Q hQ).1 (λX hX=>by rw[aK.mp hX];exact hP) hp rfl),by show aa _=_;simp,λ_=>Zf rfl])
   have hh:hide [3] (U (f++[P]) (P::R))=[aa<|spV p n,aa<|.lst A,aa<|.tup L,af,aa<|.lst<|(P::R).map Zb]:=by simp[hide,iZ,U]
   have hno:pv (CV<|d+3) G [aa<|spV p n,aa<|.lst A,aa<|.tup L,af,aa<|.lst<|(P::R).map Zb] s=.no:=rfl;have e3:rv (CV<|d+3) [3] (.asg [4] G) (U (f++[P]) (P::R)) [3] s=.ok (.nx (U (f++[P]) R') [3]) s:=by
    have e4:pvA (CV<|d+3) G (U (f++[P]) (P::R)) [3] s=.ok (.lst<|R'.map Zb) s:=by
     show(match pv (CV<|d+3) G (hide [3]<|U (f++[P]) (P::R)) s with|.ok v s=>PR.ok v s|.ex c s=>.ex c s|.no=>_)=_
     rw[hh,hno];show(pv (CV<|d+3) G (U (f++[P]) (P::R)) s).bind _=_;rw[hc,Za,T9];show(V.flat _||(ak&&ZL (R'.map Zb)))=ak;rw[Xh];rfl
    rw[rv,e4,Za,T8<|by decide];rfl
   have e5:rvs (CV<|d+3) [3] ZcH (U f (P::R)) [3] s=.ok (.nx (U (f++[P]) R') [3]) s:=by
    unfold ZcH;rw[Ze<|zt rfl rfl (by omega) e1]
    show rvs _ _ _ (U (f++[P]) (P::R)) [3] s=_;rw[Ze e3,rvs]
   have hR:R'.length<=R.length:=by
    show((P::R).filter λQ=>Zu p Q P).length<=_
    rw[h9<|by rw[hPP];simp]
    exact gd ..
   have e6:=ih (f++[P]) R' (λQ hQ=>by
    rcases bD.mp hQ with z|z
    .exact hf Q z
    .rw[aK.mp z];exact hP) (λQ hQ=>hr Q (cX.mp hQ).1) (by omega) (by rw[aU,bJ];omega)
   rw[YG,t1,Za,T9 rfl,e5,Za];exact e6
def ZbX(d:Nat){L:List (List Row)}(s:DS)(hn:n<=6)(hk:1<=k)(hp:p^n<=1000)(hl:(ZR p n k).length<=900)(hL:Lot p n k L)(hL1:L.length<=8):CV (d+4) 36 [spV p n,.lst<|(ZR p n k).map Zb,ZO L] s=.ok (ZO<|zL p n k L) s:=by
 have hA:=Y5 (p:=p) (n:=n) k;have self:=λP hP=>JQ (hA P hP).1 (by rw[(hA P hP).2];exact hk)
 refine Zp rfl (by decide) rfl ?_
 let A:=(ZR p n k).map Zb
 show rvs (CV<|d+3) [3] WH.body [aa<|spV p n,aa<|.lst A,aa<|ZO L,af,af] [] s=_
 dsimp only[WH]
 rw[Ze (ρ':=[aa<|spV p n,aa<|.lst A,aa<|ZO L,aa<|.lst<|L.map Zb,af]) (os':=[3]) (by
  have e:pvA (CV<|d+3) (.blt .list [(.v 2)]) [aa<|spV p n,aa<|.lst A,aa<|ZO L,af,af] [] s=.ok (.lst<|L.map Zb) s:=by simp[pvE]
  rw[rv,e,Za,T9<|by rfl]
  show(if ZL (L.map Zb)=ak/\3<5 then _ else _)=_
  rw[T9 #[Xh L,by omega]];rfl)]
 let r:=(ZR p n k).filter λQ=>L.all<|Zu p Q
 have hc:pv (CV<|d+3) (.comp1 [0,2] 1 [0] (.of<|.v 1) [(.call 7 [(.v 1),(.v 0),(.v 2)])]<|.v 0) (hide [3] [aa<|spV p n,aa<|.lst A,aa<|ZO L,aa<|.lst<|L.map Zb,af]) s=.ok (.lst<|r.map Zb) s:=by
  have hh:hide [3] [aa<|spV p n,aa<|.lst A,aa<|ZO L,aa<|.lst<|L.map Zb,af]=[aa<|spV p n,aa<|.lst A,aa<|ZO L,af,af]:=by simp[hide,iZ]
  rw[hh];exact YI
   (by rw[pvw,Zf rfl];rfl) (by unfold lim;omega) (λQ hQ=>#[[aa<|Zb Q,aa<|spV p n,aa<|ZO L],.bl<|L.all<|Zu p Q,rfl,XU (Zf rfl) (Zf rfl) (Zf rfl)<|WR d s hn (hA Q hQ).1 (λX hX=>(hL.pt X hX).1) hp rfl,rfl,λ_=>Zf rfl])
 rw[Ze<|XM hc rfl];have hr:r.length<=900:=bX (gd ..) hl;have e2:=je d (A:=A) (L:=L.map Zb) s hn hp 999 L r (λP hP=>(hL.pt P hP).1) (λP hP=>#[(hA P (cX.mp hP).1).1,self P (cX.mp hP).1]) (by omega) (by omega)
 rw[UY (ZR p n k) L 999 self<|by omega]at e2
 have e3:rv (CV<|d+3) [3] (.whl (.cmp .ne (.v 4)<|.lst []) ZcH) [aa<|spV p n,aa<|.lst A,aa<|ZO L,aa<|.lst<|L.map Zb,aa<|.lst<|r.map Zb] [3] s=.ok (.nx [aa<|spV p n,aa<|.lst A,aa<|ZO L,aa<|.lst<|(Xp p L<|ZR p n k).map Zb,aa<|.lst []] [3]) s:=by rw[rv];exact e2
 refine(Ze e3).trans ?_;obtain⟨h1,_⟩:=GX hL hA;have:=Qn (p:=p) (ZR p n k) L;exact Zt<|ZS<|VG<|Y9 (Zf rfl)<|WL h1 hk<|by omega
def qg(d:Nat)(s:DS)(h:4<n):CV (d+1) 30 [spV p n] s=.ex 9 s:=by
 refine YY rfl (by decide) rfl ?_
 dsimp only[Z0]
 rw[Ze<|Z9 (p:=p) (n:=n) _ _ (by simp[pvE])<|by simp]
 have e:pv (CV d) (.cmp .gt (.v 2)<|.c<|.int 4) [aa<|spV p n,aa<|.int p,aa<|.int n] s=.ok (.bl ak) s:=by
  rw[pv,Zf rfl,Za,YE,Za];show PR.ok (V.bl<|ag<|(4:Int)<n) s=_;rw[T5<|by omega]
 refine YO<|(Yv<|Z6 e rfl).trans ?_;rw[T9 rfl];refine YO ?_;have e2:pv (CV d) (.fi<|.c<|.int 4) [aa<|spV p n,aa<|.int p,aa<|.int n] s=.ok (.int 4) s:=by
  rw[pv,YE,Za];show(if Yh 4=ak then _ else _)=_
  rw[T9<|Xb (by decide)<|by decide]
 rw[rv,Zc e2 Zi];rfl
def vE(d:Nat){L:List (List Row)}(s:DS)(hn:n<=6)(h4:4<n)(h1:1<=k)(hk:k<=n)(hL:Lot p n k L)(hr:L.Pairwise λa b=>ltP a b=ak)(hl:L.length<=3000):CV (d+10) 35 [spV p n,Zh k,ZO L] s=.ex 9 s:=by
 refine YY rfl (by decide) rfl ?_
 dsimp only[yG]
 rw[Ze<|UV<|XU (Zf rfl) (Zf rfl) (Zf rfl)<|zW d s hn h1 hk hL hr hl];exact YO<|QJ<|Y1 (Zc (Zf rfl) Zi)<|qg (d+8) s h4
def QU(d:Nat){v:V}(s:DS)(hn:n<=6):CV (d+6) 35 [spV p n,.int 0,v] s=.ex 3 s:=by
 have e1:CV (d+2) 11 [.int 0,.int 1,.int n] s=.ex 3 s:=by
  have w:=UP d 0 1 n s;rw[show(ag ((1:Int)<=0)&&ag ((0:Int)<=(n:Int)))=al from rfl]at w
  refine YY rfl (by decide) rfl ?_
  have e:=VF<|XU (U:=[aa<|.int 0,aa<|.int 1,aa<|.int n]) (x:=.v 0) (y:=.v 1) (z:=.v 2) (Zf rfl) (Zf rfl) (Zf rfl) w;refine YO<|(Yv<|Z6 e rfl).trans ?_;rw[T9<|by rfl]
  refine YO ?_;have f1:∀{i:Nat}{j:Int},[aa<|V.int 0,aa<|.int 1,aa<|.int n][i]?=aa (aa<|.int j)->0<=j->j<1000->pv (CV<|d+1) (.fi<|.v i) [aa<|.int 0,aa<|.int 1,aa<|.int n] s=.ok (.int j) s:=λ{i j} h h0 h1=>by
   rw[pv,Zf h,Za];show(if Yh j=ak then _ else _)=_
   rw[T9<|Xb h0<|by omega]
  rw[rv,Zc (f1 rfl (by decide)<|by decide)<|Zc (f1 rfl (by omega)<|by omega) Zi];rfl
 have e2:CV (d+3) 12 [spV p n,.int 0] s=.ex 3 s:=by
  refine YY rfl (by decide) rfl ?_
  dsimp only[V0]
  rw[Ze<|Z9 (p:=p) (n:=n) _ _ (by simp[pvE])<|by simp]
  exact YO<|QJ<|Y1 (Zc (Zf rfl)<|Zc YE<|Zc (Zf rfl) Zi) e1
 have e3:CV (d+4) 28 [spV p n,.int 0,v] s=.ex 3 s:=by
  refine YY rfl (by decide) rfl ?_
  exact YO<|QJ<|Y1 (Zc (Zf rfl)<|Zc (Zf rfl) Zi) e2
 have e4:CV (d+5) 29 [spV p n,.int 0,v] s=.ex 3 s:=by
  refine YY rfl (by decide) rfl ?_
  refine YO ?_;rw[rv];unfold Yk;rw[pv,Y1 (Zc (Zf rfl)<|Zc (Zf rfl)<|Zc (Zf rfl) Zi) e3];rfl
 refine YY rfl (by decide) rfl ?_
 exact YO<|QJ<|Y1 (Zc (Zf rfl)<|Zc (Zf rfl)<|Zc (Zf rfl) Zi) e4
def wz(d:Nat)(s:DS)(hn:1<=n):CV (d+7) 35 [spV p n,Zh 1,.lst []] s=.ex 8 s:=by
 have e3:CV (d+5) 28 [spV p n,Zh 1,.lst []] s=.ok (.bl al) s:=by
  refine Zp rfl (by decide) rfl ?_
  show rvs (CV<|d+4) [] WD.body [aa<|spV p n,aa<|Zh 1,aa<|.lst []] [] s=_
  dsimp only[WD]
  rw[Ze<|UV<|ZA (Zc (Zf rfl)<|Zc (Zf rfl) Zi)<|Ja (d+1) s (by omega) hn]
  refine Zt ?_;have e:pv (CV<|d+4) (.not<|.isi (.v 2) [.tuple]) [aa<|spV p n,aa<|Zh 1,aa<|.lst []] s=.ok (.bl ak) s:=VF (c:=al) (by rw[pv,Zf rfl];rfl)
  refine(Yv<|Z6 (by rw[pv,e];rfl) rfl).trans ?_
  rw[T9 rfl];exact Zt<|ZS<|by rw[pv];rfl
 have e4:CV (d+6) 29 [spV p n,Zh 1,.lst []] s=.ex 8 s:=by
  refine YY rfl (by decide) rfl ?_
  have e:=VF<|XU (U:=[aa<|spV p n,aa<|Zh 1,aa<|.lst []]) (x:=.v 0) (y:=.v 1) (z:=.v 2) (Zf rfl) (Zf rfl) (Zf rfl) e3;refine YO<|(Yv<|Z6 e rfl).trans ?_;rw[T9<|by rfl]
  refine YO ?_;rw[rv,Zi];rfl
 refine YY rfl (by decide) rfl ?_
 exact YO<|QJ<|Y1 (Zc (Zf rfl)<|Zc (Zf rfl)<|Zc (Zf rfl) Zi) e4
end
def Ul{C:Zr}{U:Env}{s:DS}{f:Nat}{as:List E}{vs:List V}{x:PySem.Str}{c:Nat}(h:pvs C as U s=.ok vs s)(hc:C f vs s=.ex c s)(h1:1<=c/\c<=10)(hx:qr ak (c-1)=.str x):pv C (.cmp .ne (.refu ak<|.call f as)<|.c<|.str x) U s=.ok (.bl al) s:=
 ne_str (by rw[Zc4 (Y1 h hc) h1,hx]) (by rw[pv];rfl)
def yo:List Sm:=[.ite (.cmp .gt (.ix (.v 3)<|.c<|.int 1)<|.c<|.int 4) [.ite (.cmp .ne (.refu ak<|.call 35 [(.v 3),(.v 4),(.v 7)])<|.c<|.str<|cz "many") [.ret<|.c<|.bl al] []] [.ite (.not<|.call 9 [(.call 35 [(.v 3),(.v 4),(.v 7)]),(.call 36 [(.v 3),(.v 5),(.v 7)])]) [.ret<|.c<|.bl al] []]]
def Zbm:List Sm:=[.asg [3]<|.call 3 [(.v 2),(.ix (.lst [(.c<|.int 27),(.c<|.int 125)])<|.blt .toInt [(.cmp .eq (.v 1)<|.c<|.int 0)])],
  .asg [4] (.bin .add (.c<|.int 1)<|.call 2 [(.v 2),(.ix (.v 3)<|.c<|.int 1)]),
  .ite (.cmp .gt (.ix (.v 3)<|.c<|.int 1)<|.c<|.int 4) [.asg [4]<|.blt .max2 [(.v 4),(.c<|.int 3)]] [],
  .asg [5] (.call 4 [(.v 3),(.v 4)]),
  .asg [6] (.call 8 [(.v 2),(.v 3),(.v 4),(.v 5)]),
  .forr [7] (.of<|.lst [(.v 6),(.tup []),(.sl (.v 6) (aa<|.c<|.int 1) af)]) yo,
  .asg [8] (.tup [(.c<|.int 2),(.bin .add (.c<|.int 5)<|.call 2 [(.v 2),(.c<|.int 2)])]),
  .ite (.cmp .ne (.refu ak<|.call 35 [(.v 8),(.ix (.v 8)<|.c<|.int 1),(.tup [])])<|.c<|.str<|cz "many") [.ret<|.c<|.bl al] [],
  .ite (.cmp .ne (.refu ak<|.call 35 [(.v 8),(.c<|.int 0),(.tup [])])<|.c<|.str<|cz "number") [.ret<|.c<|.bl al] [],
  .ite (.cmp .ne (.refu ak<|.call 35 [(.v 8),(.c<|.int 1),(.lst [])])<|.c<|.str<|cz "lot") [.ret<|.c<|.bl al] []]
def Lot.nil{p n k:Nat}[Base p]:Lot p n k []:=#[λ_ h=>T7 h bQ,dH]
def jU(d:Nat)(o0:Option V)(c:Nat)(s:DS):∃ρ' os' s',rvs (CV<|d+11) (muts Zbm) Zbm (o0::aa (.int c)::aa .drw::aH 6 af) [] s=.ok (.nx ρ' os') s'/\ρ'[0]?=aa o0/\ρ'.length=6+3:=by
 unfold Zbm
 let ρ0:Env:=[o0,aa<|.int c,aa .drw,af,af,af,af,af,af]
 show ∃ρ' os' s',rvs (CV<|d+11) [] _ ρ0 [] s=.ok (.nx ρ' os') s'/\ρ'[0]?=aa o0/\ρ'.length=6+3;obtain⟨m,e0,hm⟩:∃m:Int,pv (CV<|d+11) (.ix (.lst [(.c<|.int 27),(.c<|.int 125)])<|.blt .toInt [(.cmp .eq (.v 1)<|.c<|.int 0)]) ρ0 s=.ok (.int m) s/\2<=m:=by
  have g1:pv (CV<|d+11) (.lst [(.c<|.int 27),(.c<|.int 125)]) ρ0 s=.ok (.lst [.int 27,.int 125]) s:=by simp[pvE,ofD]
  have g2:pv (CV<|d+11) (.blt .toInt [(.cmp .eq (.v 1)<|.c<|.int 0)]) ρ0 s=.ok (.int<|b2i<|ag<|(c:Int)=0) s:=by
   rw[pv,Zc (by rw[pv,Zf rfl,Za,YE];rfl) Zi];rfl
  by_cases z:(c:Int)=0
  .refine#[125,?_,by omega]
   rw[pv,g1,Za,g2,Za,T5 z];rfl
  .refine#[27,?_,by omega]
   rw[pv,g1,Za,g2,Za,T4 z];rfl
 obtain⟨p,n,s1,f1,f2,f3,f4,f5⟩:=qj (d+9) s hm;have hB:Base p:=⟨f2⟩;have hl:∀j,j<=n->(ZR p n j).length<=1395:=λj hj=>T6<|aX.mp (aX.mp jn (p,n) f5) j<|bh.mpr<|by omega
 obtain⟨hp,hne⟩:=(aI _ _).mp<|ZcX (p,n) f5;have hp:p^n<=125:=T6 hp;have hne:∀j,j<=n->ZR p n j≠[]:=λj hj z=>by
  have q:((aP<|n+1).any λk=>(ZR p n k).isEmpty)=ak:=lV.mpr #[j,bh.mpr (by omega),by rw[z];rfl]
  have hne:=hne;rw[q]at hne;cases hne
 rw[Ze<|Yp (ZA (Zc (Zf rfl)<|Zc e0 Zi) f1) rfl]
 let U (a4 a5 a6 a7 a8:Option V):Env:=[o0,aa<|.int c,aa .drw,aa<|spV p n,a4,a5,a6,a7,a8]
 show ∃ρ' os' s',rvs _ _ _ (U af af af af af) [] s1=.ok (.nx ρ' os') s'/\ρ'[0]?=aa o0/\ρ'.length=6+3;have gt4:∀{a4 a5 a6 a7 a8:Option V}{s:DS},pv (CV<|d+11) (.cmp .gt (.ix (.v 3)<|.c<|.int 1)<|.c<|.int 4) (U a4 a5 a6 a7 a8) s=.ok (.bl<|ag<|4<n) s:=λ{a4 a5 a6 a7 a8 s}=>by
  rw[pv,ix1 rfl,Za,YE,Za];show PR.ok (V.bl<|ag<|(4:Int)<n) s=_;rw[decide_eq_decide.mpr<|show(4:Int)<n↔4<n by omega]
 obtain⟨zz,s2,w6,z0,z1⟩:=Vl (d+10) s1 (U:=U af af af af af) (i:=2) (e:=.ix (.v 3)<|.c<|.int 1) rfl (ix1 rfl) (by omega) (by omega)
 rw[Ze<|Yp (by rw[pv,YE,Za,w6];rfl) rfl]
 show ∃ρ' os' s',rvs _ _ _ (U (aa<|.int<|1+zz) af af af af) [] s2=.ok (.nx ρ' os') s'/\ρ'[0]?=aa o0/\ρ'.length=6+3;obtain⟨k,k1,k2,e4⟩:∃k:Nat,1<=k/\k<=n/\rv (CV<|d+11) [] (.ite (.cmp .gt (.ix (.v 3)<|.c<|.int 1)<|.c<|.int 4) [.asg [4]<|.blt .max2 [(.v 4),(.c<|.int 3)]] []) (U (aa<|.int<|1+zz) af af af af) [] s2=.ok (.nx (U (aa<|Zh k) af af af af) []) s2:=by
  by_cases h4:4<n
  .have e5:rv (CV<|d+11) [] (.asg [4]<|.blt .max2 [(.v 4),(.c<|.int 3)]) (U (aa<|.int<|1+zz) af af af af) [] s2=.ok (.nx (U (aa<|.int (if 3>1+zz then 3 else 1+zz)) af af af af) []) s2:=
    Yp (by rw[pv,Zc (Zf rfl)<|Zc YE Zi];rfl) rfl
   refine#[(if(3:Int)>1+zz then 3 else 1+zz).toNat,by split<;>omega,by split<;>omega,?_]
   rw[Yv<|Z6 gt4 rfl,T9<|T5 h4,Ze e5,rvs];show PR.ok (FlV.nx (U (aa<|.int<|if(3:Int)>1+zz then 3 else 1+zz) af af af af) []) s2=PR.ok (FlV.nx (U (aa<|.int ((if(3:Int)>1+zz then 3 else 1+zz).toNat:Nat)) af af af af) []) s2
   rw[kF<|by split<;>omega]
  .refine#[(1+zz).toNat,by omega,by omega,?_]
   rw[Yv<|Z6 gt4 rfl,T8 (by rw[T4 h4];simp),rvs]
   show PR.ok (FlV.nx (U (aa<|.int<|1+zz) af af af af) []) s2=PR.ok (FlV.nx (U (aa<|.int ((1+zz).toNat:Nat)) af af af af) []) s2;rw[kF<|by omega]
 rw[Ze e4];rw[Ze<|Yp (yf (Zf rfl) (Zf rfl)<|qT (d+10) s2 f5 f4 k2 hl) rfl]
 let A:Option V:=aa<|.lst<|(ZR p n k).map Zb
 obtain⟨L,s3,l1,hL,hr,hL8⟩:=Zb4 (d+7) s2 f4 k1 (by omega) (hl k k2)<|hne k k2
 rw[Ze<|Yp (ZA (Zc (Zf rfl)<|Zc (Zf rfl)<|Zc (Zf rfl)<|Zc (Zf rfl) Zi) l1) rfl]
 let ρ1 (a7:Option V):Env:=U (aa<|Zh k) A (aa<|ZO L) a7 af
 show ∃ρ' os' s',rvs _ _ _ (ρ1 af) [] s3=.ok (.nx ρ' os') s'/\ρ'[0]?=aa o0/\ρ'.length=6+3;have w7:pvw (CV<|d+11) (.of<|.lst [(.v 6),(.tup []),(.sl (.v 6) (aa<|.c<|.int 1) af)]) (hide []<|ρ1 af) s3=.ok ([L,[],L.tail].map ZO) s3:=by
  have v1:pv (CV<|d+11) (.sl (.v 6) (aa<|.c<|.int 1) af) (ρ1 af) s3=.ok (ZO L.tail) s3:=by
   rw[ZcT (Zf rfl) YE,Qa];show PR.ok (V.tup (L.map Zb).tail) s3=PR.ok (V.tup<|L.tail.map Zb) s3;rw[i8]
  have v0:pv (CV<|d+11) (.tup []) (ρ1 af) s3=.ok (.tup []) s3:=by rw[pv,pvs];rfl
  rw[Lv.hide_nil,pvw,pv,Zc (Zf rfl)<|Zc v0<|Zc v1 Zi];rfl
 have each:∀M∈[L,[],L.tail],Lot p n k M/\(M.Pairwise λa b=>ltP a b=ak)/\M.length<=8:=by
  intro M hM;simp only[aB,List.mem_nil_iff,or_false]at hM;rcases hM with rfl|rfl|rfl
  .exact#[hL,hr,hL8]
  .exact#[Lot.nil,dH,by simp]
  .exact#[hL.sub<|oN L,hr.sublist<|oN L,by rw[l8];omega]
 obtain⟨_,g2⟩:=vI (i:=7) (b:=yo) (q:=λ_=>al) (v:=.non) af w7 (λ_ _=>rfl) (λM hM=>by
  obtain⟨m1,m2,m3⟩:=each M hM;unfold yo;rw[T8<|by simp]
  have args:pvs (CV<|d+11) [(.v 3),(.v 4),(.v 7)] (ρ1<|aa<|ZO M) s3=.ok [spV p n,Zh k,ZO M] s3:=Zc (Zf rfl)<|Zc (Zf rfl)<|Zc (Zf rfl) Zi;by_cases h4:4<n
  .rw[Ze ((Yv<|Z6 gt4 rfl).trans<|by rw[T9<|T5 h4,guard (Ul (x:=cz "many") args (vE (d+1) s3 f4 h4 k1 k2 m1 m2<|by omega) #[by decide,by decide] rfl),rvs]),rvs]
  .have lenA:(ZR p n k).length<=900:=by
    rcases(eE _ _).mp (Zcd (p,n) f5)with z|z
    .exact T7 (T6 z) h4
    .exact T6<|aX.mp z k<|bh.mpr<|by omega
   have hA:=Y5 (p:=p) (n:=n) k;obtain⟨q1,_⟩:=GX m1 hA;have q2:=Qn (p:=p) (ZR p n k) M;have fl:=Zd6 (d+1) s3 (by omega) k1 k2 hl m1 m2 (by omega)<|WL q1 k1<|by omega
   have du:=ZbX (d+7) s3 f4 k1 (by omega) lenA m1 m3
   have hP:∀P∈zL p n k M,pZ p n P:=λP hP=>((q1.perm<|Sd.Z7 _).pt P hP).1
   have sm:=UG (d+10) s3 (by unfold zL;rw[(Sd.Z7 _).length_eq];omega) λP h=>qE (d+7) s3 f4<|hP P h
   have e8:pv (CV<|d+11) (.not<|.call 9 [(.call 35 [(.v 3),(.v 4),(.v 7)]),(.call 36 [(.v 3),(.v 5),(.v 7)])]) (ρ1<|aa<|ZO M) s3=.ok (.bl al) s3:=
    VF (yf (ZA args fl) (XU (Zf rfl) (Zf rfl) (Zf rfl) du) sm)
   rw[Ze ((Yv<|Z6 gt4 rfl).trans<|by rw[T8 (by rw[T4 h4];simp),guard e8,rvs]),rvs])
 obtain⟨a7,g⟩:=g2 rfl;rw[Ze g];obtain⟨v,s4,q2,v0,v1⟩:=Vl (d+10) s3 (m:=2) (U:=ρ1 a7) (i:=2) rfl YE (by decide) (by decide)
 obtain⟨j,rfl⟩:∃j:Nat,v=j:=#[v.toNat,by omega]
 have e9:pv (CV<|d+11) (.tup [(.c<|.int 2),(.bin .add (.c<|.int 5)<|.call 2 [(.v 2),(.c<|.int 2)])]) (ρ1 a7) s3=.ok (spV 2<|5+j) s4:=by
  rw[pv,Zc YE (Zc (by rw[pv,YE,Za,q2];rfl) Zi),Za,T9<|by show 2<=lim;decide]
  show PR.ok (V.tup [.int 2,.int<|5+(j:Int)]) s4=PR.ok (V.tup [.int ((2:Nat):Int),.int ((5+j:Nat):Int)]) s4;rw[mB];rfl
 rw[Ze<|Yp e9 rfl]
 let ρ2:Env:=U (aa<|Zh k) A (aa<|ZO L) a7<|aa<|spV 2<|5+j
 show ∃ρ' os' s',rvs _ _ _ ρ2 [] s4=.ok (.nx ρ' os') s'/\ρ'[0]?=aa o0/\ρ'.length=6+3;have hB2:Base 2:=⟨.inl rfl⟩;have tn:pv (CV<|d+11) (.tup []) ρ2 s4=.ok (ZO []) s4:=by rw[pv,pvs];rfl
 have i1:pv (CV<|d+11) (.ix (.v 8)<|.c<|.int 1) ρ2 s4=.ok (Zh<|5+j) s4:=ix1 rfl;rw[guard<|Ul (x:=cz "many") (Zc (Zf rfl)<|Zc i1<|Zc tn Zi) (vE (d+1) s4 (by omega) (by omega) (by omega) (by omega) Lot.nil dH<|by simp) #[by decide,by decide] rfl]
 rw[guard<|Ul (x:=cz "number") (Zc (Zf rfl)<|Zc YE<|Zc tn Zi) (QU (d+5) s4<|by omega) #[by decide,by decide] rfl]
 have ln:pv (CV<|d+11) (.lst []) ρ2 s4=.ok (.lst []) s4:=by rw[pv,pvs];rfl
 rw[guard (Ul (x:=cz "lot") (Zc (Zf rfl)<|Zc (YE (i:=1))<|Zc ln Zi) (wz (d+4) s4<|by omega) #[by decide,by decide] rfl),rvs]
 exact#[ρ2,[],s4,rfl,rfl,rfl]
def law_ok(ns:List Int)(s:DS):∃S,Zl fns 2 63 38 [.scr ns] s=.ok (.bl ak) S:=
 Lv.law_of (d:=60) (by decide) (by decide) (by decide) rfl rfl rfl (by decide) (jU 51) ns s
end K84
namespace K84
open PySem PySem.Spec PyProof.Rows L2 Wr Gn
open Sd (yt ue Zav ZbK Za6 ZdC jf jo v4 uw Zbu Zbn uy JB Zbv jd Zaw j5 wB wW vp v6 ui Js zN vf vH QH JG ZbD)
def top(i:Nat):eO:=PySem.Challenge.pw_fewspaces_k84_lots_apart_filled.main.body.getD i<|.Pass #[0,0,0,0]
abbrev r0:FR:=#["_law_cell_at",top 45,["_law_script","_law_k"],2]
abbrev r1:FR:=#["_law_state",top 46,["_law_script","_law_k","_law_cell"],2]
abbrev r2:FR:=#["_law_take",top 47,["_law_state_here","_law_many","_law_found","_law_mixed"],2]
abbrev r3:FR:=#["_law_space",top 48,["_law_state_here","_law_most","_law_some"],2]
abbrev r4:FR:=#["_law_parts",top 54,["_law_space_here","_law_size","_law_p","_law_n","_law_lots","_law_place","_law_found","_law_some","_law_parts_here","_law_head","_law_lines","_law_numbers","_law_longer","_law_line","_law_part_here"],2]
abbrev r5:FR:=#["_law_plus",top 50,["_law_space_here","_law_one","_law_other","_law_often"],4]
abbrev r6:FR:=#["_law_held",top 52,["_law_space_here","_law_part_here","_law_found","_law_row","_law_longer","_law_often"],2]
abbrev r7:FR:=#["_law_misses",top 55,["_law_space_here","_law_part_here","_law_lot_here","_law_there","_law_other"],3]
abbrev r8:FR:=#["_law_lot",top 56,["_law_state_here","_law_space_here","_law_size","_law_some","_law_found","_law_turn","_law_part_here"],4]
abbrev r9:FR:=#["_law_same",top 57,["_law_found","_law_due_here"],2]
abbrev r10:FR:=#["is_whole",top 13,["thing","least","greatest"],3]
abbrev r11:FR:=#["need_whole",top 29,["thing","least","greatest"],3]
abbrev r12:FR:=#["need_size",top 37,["space","size","p","n"],2]
abbrev r13:FR:=#["is_rising",top 14,["things"],1]
abbrev r14:FR:=#["plus_times",top 17,["p","row","other","number"],4]
abbrev r15:FR:=#["cleared",top 19,["p","row","other","head"],4]
abbrev r16:FR:=#["head_of",top 15,["row","place","number"],1]
abbrev r17:FR:=#["left_over",top 27,["space","part","row","p","n","rest","other"],3]
abbrev r18:FR:=#["times",top 16,["p","row","number"],3]
abbrev r19:FR:=#["inverse",top 18,["p","number","found"],2]
abbrev r20:FR:=#["widened",top 26,["space","part","row","p","n","rest","head","lead","rows"],3]
abbrev r21:FR:=#["widened_by_all",top 25,["space","part","rows","wider","row"],3]
abbrev r22:FR:=#["do_miss",top 34,["space","one","other"],3]
abbrev r23:FR:=#["misses_all",top 39,["space","part","others"],3]
abbrev r24:FR:=#["noughts_at",top 20,["rows","place"],2]
abbrev r25:FR:=#["stands_alone",top 24,["rows","at","place"],3]
abbrev r26:FR:=#["is_row",top 22,["space","thing","p","n"],2]
abbrev r27:FR:=#["is_part",top 23,["space","thing","places"],2]
abbrev r28:FR:=#["is_apart",top 38,["space","size","thing"],3]
abbrev r29:FR:=#["need_lot",top 40,["space","size","thing"],3]
abbrev r30:FR:=#["need_few_places",top 41,["space","p","n"],1]
abbrev r31:FR:=#["rows_headed",top 31,["space","head","p","n","rows","place"],2]
abbrev r32:FR:=#["rows_behind",top 32,["headed","part","first","rows","head"],2]
abbrev r33:FR:=#["all_parts",top 30,["space","size","p","n","headed","parts","many"],2]
abbrev r34:FR:=#["filled_up",top 43,["space","size","lot","found","part"],3]
abbrev r35:FR:=#["filled",top 42,["space","size","lot"],3]
abbrev r36:FR:=#["_law_due",top 59,["_law_space_here","_law_some","_law_lot_here","_law_found","_law_rest"],3]
abbrev r37:FR:=#["_law_refused",top 58,["_law_call","_law_error","e","_law_sorts","_law_words"],1]
abbrev r38:FR:=#["law",top 60,["_law_script","_law_k","_law_state_here","_law_space_here","_law_size","_law_some","_law_lot_here","_law_one","_law_great"],1]
noncomputable abbrev rL:FR:=r38
noncomputable abbrev fs:List FR:=[r0,r1,r2,r3,r4,r5,r6,r7,r8,r9,r10,r11,r12,r13,r14,r15,r16,r17,r18,r19,r20,r21,r22,r23,r24,r25,r26,r27,r28,r29,r30,r31,r32,r33,r34,r35,r36,r37]
abbrev zs:List bi:=["all","bool","dict","enumerate","int","isinstance","len","list","max","min","range","reversed","sorted","sum","tuple","zip","ValueError"]
abbrev gs:List (bi×Gv):=[("MOST_FILLED_PLACES",.int 4)]
abbrev n0:List bi:=["_law_rows","_law_space_here","_law_most"]
abbrev n1:List bi:=["_law_row","_law_size"]
abbrev n2:List bi:=["_law_row","_law_place"]
abbrev n3:List bi:=["_law_line","_law_part_here"]
abbrev n4:List bi:=["_law_number","_law_line"]
abbrev n5:List bi:=["_law_first","_law_second","_law_often","_law_space_here"]
abbrev n6:List bi:=["_law_row"]
abbrev n7:List bi:=["_law_one","_law_space_here","_law_row","_law_often"]
abbrev n8:List bi:=["_law_row","_law_there"]
abbrev n9:List bi:=["_law_one","_law_other"]
abbrev n10:List bi:=["one","other"]
abbrev n11:List bi:=["mine","its","number","p"]
abbrev n12:List bi:=["mine","number","p"]
abbrev n13:List bi:=["other","p","lead","head"]
abbrev n14:List bi:=["other","space","part"]
abbrev n15:List bi:=["row","place"]
abbrev n16:List bi:=["number","p"]
abbrev n17:List bi:=["row"]
abbrev n18:List bi:=["at","place","thing"]
abbrev n19:List bi:=["row","space"]
abbrev n20:List bi:=["at","part","space","thing"]
abbrev n21:List bi:=["part","space","size"]
abbrev n22:List bi:=["row","number","p"]
abbrev n23:List bi:=["head","space"]
abbrev n24:List bi:=["part","row","headed"]
abbrev n25:List bi:=["_law_part_here","_law_space_here","_law_lot_here"]
abbrev n26:List bi:=["_law_part_here","_law_space_here","_law_found"]
abbrev n27:List bi:=["_law_one"]
noncomputable def pp(k:Nat):fV:=([#[242,7,242,17],#[242,21,242,25],#[242,7,242,25],#[243,15,243,19],#[243,8,243,19],#[242,4,243,19],#[244,4,244,14],#[244,17,244,114],#[244,4,244,114],#[245,4,245,14],#[245,17,245,27],#[245,30,245,129],#[245,17,245,129],#[245,4,245,129],#[246,4,246,14],#[246,17,246,27],#[246,30,246,126],#[246,17,246,126],#[246,4,246,126],#[247,4,247,14],#[247,4,247,54],#[248,7,248,45],#[248,7,248,101],#[0,0,0,0],#[249,15,249,30],#[249,8,249,30],#[248,4,249,30],#[251,22,251,32],#[251,39,251,43],#[251,4,251,45],#[247,4,247,21],#[247,4,247,54],#[251,22,251,38],#[251,22,251,44],#[250,4,250,14],#[250,17,250,106],#[250,4,250,106],#[251,11,251,21],#[251,11,251,45],#[0,0,0,0],#[244,18,244,28],#[244,29,244,39],#[244,41,244,46],#[244,18,244,47],#[244,49,244,59],#[244,60,244,70],#[244,72,244,78],#[244,49,244,79],#[244,81,244,91],#[244,92,244,102],#[244,104,244,112],#[244,81,244,113],#[245,31,245,41],#[245,42,245,52],#[245,54,245,61],#[245,31,245,62],#[245,64,245,74],#[245,75,245,85],#[245,87,245,96],#[245,64,245,97],#[245,99,245,109],#[245,110,245,120],#[245,122,245,127],#[245,99,245,128],#[246,31,246,41],#[246,42,246,52],#[246,54,246,60],#[246,31,246,61],#[246,63,246,73],#[246,74,246,84],#[246,86,246,91],#[246,63,246,92],#[246,94,246,104],#[246,105,246,115],#[246,117,246,124],#[246,94,246,125],#[247,22,247,32],#[247,33,247,43],#[247,45,247,52],#[247,22,247,53],#[248,11,248,21],#[248,22,248,32],#[248,34,248,44],#[248,11,248,45],#[0,0,0,0],#[0,0,0,0],#[0,0,0,0],#[0,0,0,0],#[0,0,0,0],#[0,0,0,0],#[237,4,237,14],#[237,17,237,21],#[237,4,237,21],#[239,8,239,17],#[239,8,239,19],#[239,8,239,19],#[240,11,240,21],#[241,8,241,18],#[241,21,241,22],#[241,8,241,22],#[240,4,241,22],#[238,4,241,22],#[250,18,250,23],#[250,25,250,31],#[250,33,250,41],#[250,43,250,50],#[250,52,250,64],#[250,66,250,74],#[250,76,250,82],#[250,84,250,89],#[250,91,250,97],#[250,99,250,105]]:List fV).getD k #[0,0,0,0]
noncomputable abbrev jE{X xw C e}(i:Ev.E):=Bx<|Sd.CE X xw C e i
noncomputable abbrev jF{X xw C e}(i:Ev.E):=Bx<|Sd.CF X xw C e i
noncomputable abbrev jT{X xw C e}(i:Ev.E):=Bx<|Sd.CT X xw C e i
noncomputable abbrev jS{X xw a C b e}(i:Ev.Sm):=Bx<|Sd.CS X xw a C b e i
def okl:OkX fs zs gs fns tk sn 0 fs (fns.take 38)/\Zgg ak fs zs gs fns tk 37 r37.st/\BdR ak fs zs gs fns tk sn 37 r37.st rL ZdL:=by
 refine#[?a,?b,?c]
 case' a=>repeat'(first|exact eB|refine#[#[rfl,rfl,by decide +kernel,?_],?_]|exact jY|intro P w K mg base cl f fd d T L h hn cdv A outer s H E hr hu)
 case' b=>intro P w K mg base f fd d T hn cdv A outer s H hu;unfold Sd.ksum
 case' c=>intro P w K mg base cl f fd fL c Pt d T L h RA hn hC hB hP A outer s H E hp hr hr0 hu
 all_goals
 (repeat'(first
 |(with_reducible show aA _ _=_);(first|exact ue|exact yt|exact v4|exact jo|exact Zav|exact Za6|exact uw|exact ZbK|exact ZdC|exact jf)
 |(with_reducible show Cx.mg _ _=_);(exact Top.no (by assumption) (by kernel_rfl!))
 |(with_reducible show _=_);first|exact xk _|kernel_rfl!
 |(with_reducible show Gl _ _);show _=_;kernel_rfl!
 |(with_reducible show Bx (Sd.CSs _ _ _ _ _ _ [.cel _ _ _ _]));refine Zfa Sd.uJ (by assumption) (by assumption) (by assumption) ?_ ?_ (by assumption) (by kernel_rfl!) (by kernel_rfl!) (show _=_ from by kernel_rfl!) (by kernel_rfl!) (by first|exact ue|exact yt|exact v4|exact jo|exact Zav|exact Za6|exact uw|exact ZbK|exact ZdC|exact jf) rfl (by kernel_rfl!) (by first|exact fX (by kernel_rfl!)|exact eC (by kernel_rfl!)|exact eC (fX (by kernel_rfl!))|exact eC (eC (by kernel_rfl!))) (by first|exact .inl rfl|exact .inr<|by kernel_rfl!) (by kernel_rfl!) (by kernel_rfl!) (by kernel_rfl!)
 |(with_reducible show Bx (Sd.CSs _ _ _ _ _ _ _));first|apply xH|apply GZ
 |(with_reducible show Bx (Sd.CA _ _ _ _ _));first|apply xR|apply GV
 |(with_reducible show jF (.blt .list _));apply Gj zN
 |(with_reducible show jF (.blt .sorted _));apply zc (QH<|by assumption)
 |(with_reducible show jF (.blt .rangeL _));apply VP
 |(with_reducible show jF (.lst _));apply wn
 |(with_reducible show jF (.comp1 _ _ _ _ _ _));refine Qe rfl (by first|assumption|exact T6<|by kernel_rfl!) (by first|exact ZI (N:=n0) (by kernel_rfl!)|exact ZI (N:=n1) (by kernel_rfl!)|exact ZI (N:=n2) (by kernel_rfl!)|exact ZI (N:=n3) (by kernel_rfl!)|exact ZI (N:=n4) (by kernel_rfl!)|exact ZI (N:=n5) (by kernel_rfl!)|exact ZI (N:=n6) (by kernel_rfl!)|exact ZI (N:=n7) (by kernel_rfl!)|exact ZI (N:=n8) (by kernel_rfl!)|exact ZI (N:=n9) (by kernel_rfl!)|exact ZI (N:=n10) (by kernel_rfl!)|exact ZI (N:=n11) (by kernel_rfl!)|exact ZI (N:=n12) (by kernel_rfl!)|exact ZI (N:=n13) (by kernel_rfl!)|exact ZI (N:=n14) (by kernel_rfl!)|exact ZI (N:=n15) (by kernel_rfl!)|exact ZI (N:=n16) (by kernel_rfl!)|exact ZI (N:=n17) (by kernel_rfl!)|exact ZI (N:=n18) (by kernel_rfl!)|exact ZI (N:=n19) (by kernel_rfl!)|exact ZI (N:=n20) (by kernel_rfl!)|exact ZI (N:=n21) (by kernel_rfl!)|exact ZI (N:=n22) (by kernel_rfl!)|exact ZI (N:=n23) (by kernel_rfl!)|exact ZI (N:=n24) (by kernel_rfl!)|exact ZI (N:=n25) (by kernel_rfl!)|exact ZI (N:=n26) (by kernel_rfl!)|exact ZI (N:=n27) (by kernel_rfl!)) ?_ (λ_ _ _ _=>#[?_,?_,?_]) (hs:=by intro _;kernel_rfl!)
 |(with_reducible show jE (.dix _ al));apply GJ
 |(with_reducible show jE (.dix _ ak));apply Gf
 |(with_reducible show jE (.v _));apply ZeU
 |(with_reducible show jE (.c _));first|apply wl|exact Zfw (by assumption) (by kernel_rfl!) rfl rfl|apply Za1|apply wM|apply xo
 |(with_reducible show jE (.call _ _));first|refine jX Sd.uJ (by assumption) (by assumption) (by assumption) ?_ (by kernel_rfl!) (show _=_ from by kernel_rfl!) (by kernel_rfl!) (by first|exact ue|exact yt|exact v4|exact jo|exact Zav|exact Za6|exact uw|exact ZbK|exact ZdC|exact jf) rfl|refine Zfp (by assumption) (by assumption) (by assumption) ?_ (by kernel_rfl!) (show _=_ from by kernel_rfl!) (by kernel_rfl!) (by first|exact ue|exact yt|exact v4|exact jo|exact Zav|exact Za6|exact uw|exact ZbK|exact ZdC|exact jf) rfl|refine jX Sd.Zgt (by assumption) (by assumption) (by assumption) ?_ (by kernel_rfl!) (show _=_ from by kernel_rfl!) (by kernel_rfl!) (by first|exact ue|exact yt|exact v4|exact jo|exact Zav|exact Za6|exact uw|exact ZbK|exact ZdC|exact jf) rfl
 |(with_reducible show jE (.refu _ _));refine Zf9 (Pp:=pp) Sd.uJ (by assumption) (by assumption) (by assumption) (by assumption) rfl (by kernel_rfl!) (by kernel_rfl!) (by kernel_rfl!) (by assumption) (by assumption) (by assumption) (by assumption) rfl rfl rfl rfl (by kernel_rfl!) (by kernel_rfl!) (show _=_ from by kernel_rfl!) λ_ _ _ _ _ _ _ _ _ _ _=>?_
 |(with_reducible show Bx (Sd.CJ _ _ _ _ _ _));first|apply xM|apply Zeu|apply Zem
 |(with_reducible show jE (.ix _ _));apply ZbF
 |(with_reducible show jE (.blt .len _));apply XD wW
 |(with_reducible show jE (.blt .tuple _));apply WV Js
 |(with_reducible show jE (.blt .all _));apply XD (vf rfl)
 |(with_reducible show jE (.blt .toInt _));apply WV ui
 |(with_reducible show jE (.blt .max2 _));apply XD (vp rfl)
 |(with_reducible show jE (.blt .min2 _));apply XD (v6 rfl)
 |(with_reducible show jE (.blt .sum _));apply XD (vH rfl)
 |(with_reducible show jE (.blt .dictP _));apply WV (JG rfl<|by assumption)
 |(with_reducible show jE (.blt _ _));apply WK
 |(with_reducible show jE (.bin _ _ _));first|apply xK|apply wx|apply xu|apply wN|apply JZ|apply wb
 |(with_reducible show jE (.tup _));apply wQ
 |(with_reducible show jE (.neg _));apply wg
 |(with_reducible show jE (.not _));apply wA
 |(with_reducible show jE (.cmp .eq _ _));apply Y7 (Zbu<|by assumption)
 |(with_reducible show jE (.cmp .ne _ _));apply Y7 (Zbn<|by assumption)
 |(with_reducible show jE (.cmp .lt _ _));apply Y7 (uy<|by assumption)
 |(with_reducible show jE (.cmp .le _ _));apply Y7 (JB<|by assumption)
 |(with_reducible show jE (.cmp .gt _ _));apply Y7 (Zbv<|by assumption)
 |(with_reducible show jE (.cmp .ge _ _));apply Y7 (jd<|by assumption)
 |(with_reducible show jE (.cmp .is _ _));apply Y7 (Zaw<|by assumption)
 |(with_reducible show jE (.cmp .inn _ _));apply Y7 (j5<|by assumption)
 |(with_reducible show jE (.cmp .nin _ _));apply Y7 (wB<|by assumption)
 |(with_reducible show jE (.chain _ _ _ _ _));first|apply W8 (JB<|by assumption) (JB<|by assumption)|apply W8 (JB<|by assumption) (uy<|by assumption)
 |(with_reducible show jE (.ite _ _ _));apply xm
 |(with_reducible show jE (.sl _ _ _));apply jx
 |(with_reducible show jE (.isi _ _));first|apply WA (T:="int") (t:=.int)|apply WA (T:="bool") (t:=.bool)|apply WA (T:="tuple") (t:=.tuple)|apply WA (T:="list") (t:=.list)|apply WA (T:="dict") (t:=.dict)|apply Gx (T:="tuple") (U:="list") (t:=.tuple) (u:=.list)
 |(first|(with_reducible show jE (.callF _ _))|(with_reducible show jE (.blt .rangeL _))|(with_reducible show jE (.lst _))|(with_reducible show jE (.comp1 _ _ _ _ _ _))|(with_reducible show jE (.comp2 _ _ _ _ _ _ _ _ _))|(with_reducible show jE (.blt .list _))|(with_reducible show jE (.blt .sorted _)));refine Zgb ?_
 |(with_reducible show jE _);apply wt
 |(with_reducible show Bx (Sd.CO _ _ _ _ _));first|apply G4|apply JW
 |(with_reducible show jS (.raise _ []));apply Zgf Sd.uJ
 |(with_reducible show jS (.raise _ _));apply Ze6 Sd.uJ
 |(with_reducible show jS (.ret _));first|apply xC|apply Gd
 |(with_reducible show jS (.mov _ _));apply wf
 |(with_reducible show jS (.dset _ _));apply JT
 |(with_reducible show jS (.asg _<|.comp1 _ _ _ _ _ _));refine Qp rfl (by assumption) (by first|exact ZI (N:=n0) (by kernel_rfl!)|exact ZI (N:=n1) (by kernel_rfl!)|exact ZI (N:=n2) (by kernel_rfl!)|exact ZI (N:=n3) (by kernel_rfl!)|exact ZI (N:=n4) (by kernel_rfl!)|exact ZI (N:=n5) (by kernel_rfl!)|exact ZI (N:=n6) (by kernel_rfl!)|exact ZI (N:=n7) (by kernel_rfl!)|exact ZI (N:=n8) (by kernel_rfl!)|exact ZI (N:=n9) (by kernel_rfl!)|exact ZI (N:=n10) (by kernel_rfl!)|exact ZI (N:=n11) (by kernel_rfl!)|exact ZI (N:=n12) (by kernel_rfl!)|exact ZI (N:=n13) (by kernel_rfl!)|exact ZI (N:=n14) (by kernel_rfl!)|exact ZI (N:=n15) (by kernel_rfl!)|exact ZI (N:=n16) (by kernel_rfl!)|exact ZI (N:=n17) (by kernel_rfl!)|exact ZI (N:=n18) (by kernel_rfl!)|exact ZI (N:=n19) (by kernel_rfl!)|exact ZI (N:=n20) (by kernel_rfl!)|exact ZI (N:=n21) (by kernel_rfl!)|exact ZI (N:=n22) (by kernel_rfl!)|exact ZI (N:=n23) (by kernel_rfl!)|exact ZI (N:=n24) (by kernel_rfl!)|exact ZI (N:=n25) (by kernel_rfl!)|exact ZI (N:=n26) (by kernel_rfl!)|exact ZI (N:=n27) (by kernel_rfl!)) ?_ (λ_ _ _ _=>#[?_,?_,?_]) (hsw:=by kernel_rfl!) (hy:=by kernel_rfl!) (hx:=by first|exact fX (by kernel_rfl!)|exact eC (by kernel_rfl!)|exact eC (fX (by kernel_rfl!))|exact eC (eC (by kernel_rfl!))) (hf:=by first|exact .inl rfl|exact .inr<|by kernel_rfl!) (hs:=by intro _;kernel_rfl!)
 |(with_reducible show jS (.asg _<|.comp2 _ _ _ _ _ _ _ _ _));refine Vy rfl (by assumption) (by first|exact ZI (N:=n0) (by kernel_rfl!)|exact ZI (N:=n1) (by kernel_rfl!)|exact ZI (N:=n2) (by kernel_rfl!)|exact ZI (N:=n3) (by kernel_rfl!)|exact ZI (N:=n4) (by kernel_rfl!)|exact ZI (N:=n5) (by kernel_rfl!)|exact ZI (N:=n6) (by kernel_rfl!)|exact ZI (N:=n7) (by kernel_rfl!)|exact ZI (N:=n8) (by kernel_rfl!)|exact ZI (N:=n9) (by kernel_rfl!)|exact ZI (N:=n10) (by kernel_rfl!)|exact ZI (N:=n11) (by kernel_rfl!)|exact ZI (N:=n12) (by kernel_rfl!)|exact ZI (N:=n13) (by kernel_rfl!)|exact ZI (N:=n14) (by kernel_rfl!)|exact ZI (N:=n15) (by kernel_rfl!)|exact ZI (N:=n16) (by kernel_rfl!)|exact ZI (N:=n17) (by kernel_rfl!)|exact ZI (N:=n18) (by kernel_rfl!)|exact ZI (N:=n19) (by kernel_rfl!)|exact ZI (N:=n20) (by kernel_rfl!)|exact ZI (N:=n21) (by kernel_rfl!)|exact ZI (N:=n22) (by kernel_rfl!)|exact ZI (N:=n23) (by kernel_rfl!)|exact ZI (N:=n24) (by kernel_rfl!)|exact ZI (N:=n25) (by kernel_rfl!)|exact ZI (N:=n26) (by kernel_rfl!)|exact ZI (N:=n27) (by kernel_rfl!)) ?_ (λ_ _ _ _=>#[?_,?_,?_,?_,?_,?_]) (hsw:=by kernel_rfl!) (hy:=by kernel_rfl!) (hx:=by first|exact fX (by kernel_rfl!)|exact eC (by kernel_rfl!)|exact eC (fX (by kernel_rfl!))|exact eC (eC (by kernel_rfl!))) (hf:=by first|exact .inl rfl|exact .inr<|by kernel_rfl!) (hs:=by intro _;kernel_rfl!) (hs2:=by intro _ _;kernel_rfl!)
 |(with_reducible show jS (.asg [_] _));first|refine za ?_ ?_ (hf:=by kernel_rfl!) (hs:=by kernel_rfl!) (hw:=by kernel_rfl!) (h1:=by kernel_rfl!)|apply ze
 |(with_reducible show jS (.asg _ _));apply wo
 |(with_reducible show jS (.ex<|.mt .append _ _));apply VM
 |(with_reducible show jS (.ex<|.mt .extend _ _));apply VL
 |(with_reducible show jS (.ex _));apply J1
 |(with_reducible show jS (.ite _ _ _));apply ZaQ
 |(with_reducible show jS (.forr _ _ _));apply xO oI
 |(with_reducible show jS (.whl _ _));apply Uy oI
 |(with_reducible show jS (.aug _ _ _));apply xp ZbD
 |(with_reducible show jT (.not _));apply wp
 |(with_reducible show jT (.cmp .eq _ _));apply Xa (Zbu<|by assumption)
 |(with_reducible show jT (.cmp .ne _ _));apply Xa (Zbn<|by assumption)
 |(with_reducible show jT (.cmp .lt _ _));apply Xa (uy<|by assumption)
 |(with_reducible show jT (.cmp .le _ _));apply Xa (JB<|by assumption)
 |(with_reducible show jT (.cmp .gt _ _));apply Xa (Zbv<|by assumption)
 |(with_reducible show jT (.cmp .ge _ _));apply Xa (jd<|by assumption)
 |(with_reducible show jT (.cmp .is _ _));apply Xa (Zaw<|by assumption)
 |(with_reducible show jT (.cmp .inn _ _));apply Xa (j5<|by assumption)
 |(with_reducible show jT (.cmp .nin _ _));apply Xa (wB<|by assumption)
 |(with_reducible show jT (.and _ _));refine Zak<|G6 ?_ ?_
 |(with_reducible show jT (.or _ _));refine Zak<|v3 ?_ ?_
 |(with_reducible show jT _);apply xZ
 |(with_reducible show Bx (Sd.CWh _ _ _ _ _));first|apply G6|apply G0|apply v3|apply xY
 |(with_reducible show Bx (Sd.CTs _ _ _ _ _));first|apply GI|apply zi
 |(with_reducible show Bx (Sd.CW _ _ _ _ _ _));first|apply Gk|apply GN|apply Gp|apply xJ|apply Gw|apply jI|apply jM
 |(with_reducible show Bx (Sd.CG _ _ _));first|apply Ge|apply wE
 |(with_reducible show Bx (Sd.CGs _ _ _));first|apply GE|apply Qf
 |(first|exact fX (by kernel_rfl!)|exact eC (by kernel_rfl!)|exact eC (fX (by kernel_rfl!))|exact eC (eC (by kernel_rfl!)))
 |assumption
 |exact T6 (by kernel_rfl!)
 |decide
 |(intro _;kernel_rfl!)
 |(intro _ _;kernel_rfl!)
 |(intro m h;cases h)))
end K84
namespace PySem.W.Fast
def tw8178862189135131129:=True
def tw14020929738663327422:=True
def tw15391004442271021305:=True
def tw5618777592323546947:=True
def tw499549196789474843:=True
def tw14161249662815943248:=True
def tw7674274490084769206:=True
def tw7788818701404420287:=True
def tw16983268943845260547:=True
def tw15345371490447254893:=True
def tw13071566682083498439:=True
def tw8088383871448289252:=True
def tw107714218845427101:=True
def tw15900208726998425803:=True
def tw8909799619222598932:=True
def tw3784731968574881952:=True
def tw13227823420470629541:=True
def tw8115440996991676188:=True
def tw18125908045976820159:=True
def tw7654741976523120526:=True
def tw17256689451706447600:=True
def tw4601642208034829349:=True
def tw17053781161021559453:=True
def tw7303148990611842044:=True
def tw6236648120953528689:=True
def tw3094666367048737496:=True
def tw16221640079693748866:=True
def tw12424753033059267238:=True
def tw3258727511245298718:=True
def tw2037995842912266061:=True
def tw18119753276297977520:=True
def tw13306790132114506038:=True
def tw13307212722119748901:=True
def tw17287363664680491376:=True
def tw6371675697970533618:=True
def tw17324026486536680449:=True
def tw4906833471959047110:=True
def tw8914461782503152697:=True
def tw12658447557449416163:=True
def tw6237091151562517470:=True
def tw4712334645037467564:=True
def tw16780677895693448019:=True
def tw10831233068602406198:=True
def tw6146416572714826651:=True
def tw1040201005140044730:=True
def tw13648209322267423687:=True
def tw12144821761525244353:=True
def tw3863400054183070021:=True
def tw10226029971267377484:=True
def tw15443145210604168140:=True
def tw3402853272063291748:=True
def tw1592641212440977885:=True
def tw10459080146712622855:=True
def tw18245412746403116671:=True
def tw3026470013431854810:=True
def tw17937308474370039853:=True
def tw645035597209784744:=True
def tw15110819279743430579:=True
def tw8215798431384492961:=True
def tw8238921591767961662:=True
def tw3080682134717292647:=True
def tw1794938829598155498:=True
def tw10067967228715902977:=True
def tw3034771697621458017:=True
def tw5486580385081191932:=True
def tw10677083687803882396:=True
def tw14557654532532390790:=True
def tw532719859708804508:=True
def tw428413560368781612:=True
def tw3246306039964014820:=True
def tw10167336593512456523:=True
def tw9159299709627412698:=True
def tw15941677390186818983:=True
def tw3711263502114625636:=True
def tw15200230013123983158:=True
def tw9070387467112949281:=True
def tw17727204447103654591:=True
def tw10484093161670096634:=True
def tw6991560691945191547:=True
def tw8989973973980005228:=True
def tw10941495178245733706:=True
def tw5391940201981850379:=True
def tw2009372830768108296:=True
def tw15781453127427555229:=True
def tw411790664887295205:=True
def tw13988130320841362612:=True
def tw13605983216430591551:=True
def tw6820259279132877135:=True
def tw8913250009072793313:=True
def tw8219098199036215909:=True
def tw2316381744748927439:=True
def tw6593174993966865901:=True
def tw4209359476942363971:=True
def tw4472796069260739327:=True
def tw335286734926972625:=True
def tw15622087009182681828:=True
def tw9833814538177387865:=True
def tw6734001920362483124:=True
def tw8556800576259685010:=True
def tw11738610486404451642:=True
def tw6919869233060554454:=True
def tw9196243781864153731:=True
def tw15063032267883225683:=True
def tw4624132062367277600:=True
def tw15856606827535383249:=True
def tw6947434571727972229:=True
def tw13022810514957555059:=True
def tw13374329325104127950:=True
def tw5040195685011083145:=True
def tw10420323362405209406:=True
def tw13051164456676076346:=True
def tw6979773601811605696:=True
def tw9351305124353437189:=True
def tw17866985165966992918:=True
def tw17917599664059139268:=True
def tw12742345808913110935:=True
def tw18260564291597514030:=True
def tw2651994773335028329:=True
def tw17915813766161906573:=True
def tw11661010503252158828:=True
def tw394511190312443195:=True
def tw10438881744850408938:=True
def tw10683852554836631541:=True
def tw314309983050082944:=True
def tw919740564024918481:=True
def tw12966225009823935086:=True
def tw16275806066584565158:=True
def tw5578581662588658266:=True
def tw2690181632040005419:=True
def tw4776497251518707448:=True
def tw1371916878260597377:=True
def tw8926309603800632505:=True
def tw5839318419206687704:=True
def tw6263298009514156619:=True
def tw488251192796282324:=True
def tw8746964164116297298:=True
def tw17536145648602990171:=True
def tw180878278429816196:=True
def tw4339383888834897317:=True
def tw10969819865760089490:=True
def tw13279081819530212325:=True
def tw5007096550672525230:=True
def tw7166720837753936025:=True
def tw5342454810805484467:=True
def tw10033430041912698732:=True
def tw14579471249294433621:=True
def tw17150135797838311659:=True
def tw7378950691543656825:=True
def tw5101052162419373797:=True
def tw5849110576931933280:=True
def tw665323943236768937:=True
def tw10149027572661591335:=True
def tw15989247195087124919:=True
def tw7925671226139440307:=True
def tw7121888463464081827:=True
def tw13416845037483205518:=True
def tw8402323797266099550:=True
def tw1772095621668273395:=True
def tw14428583147843523733:=True
def tw10240832736474021749:=True
def tw784997739241175427:=True
def tw14640523280769352786:=True
def tw18223618058103487299:=True
def tw10945338660384571816:=True
def tw8783966857321739855:=True
def tw16308596159492548277:=True
def tw9392504701425662719:=True
def tw169760561066425179:=True
def tw17544314090872907850:=True
def tw15319542200300673538:=True
def tw6115513003999334181:=True
def tw13345365808689764232:=True
def tw13511172889306639589:=True
def tw17056144766594289549:=True
def tw14033755875913083601:=True
def tw3339735699900132343:=True
def tw12195322150332016848:=True
def tw3452958961721272446:=True
def tw9416169841801508997:=True
def tw10001110862238911326:=True
def tw1946216124145942432:=True
def tw6446049611174982054:=True
def tw16377789430348962149:=True
def tw13067700392928240724:=True
def tw4402730334537720101:=True
def tw7671489539409588563:=True
def tw8382854942658259029:=True
def tw2861922304016878488:=True
def tw16229216732487999794:=True
def tw17547859914206510739:=True
def tw10599010288998201851:=True
def tw17554507759237893018:=True
def tw14865322959907030943:=True
def tw16712334122312948298:=True
def tw10549088594700254111:=True
def tw6835621529723749091:=True
def tw2195721701801891068:=True
def tw7152755990948805468:=True
def tw14173408713652640156:=True
def tw10140389203039885247:=True
def tw8332213403808459650:=True
def tw11271131036743655553:=True
def tw5572683231384949459:=True
def tw16037448174698845841:=True
def tw17241902978410899787:=True
def tw12444382093131912787:=True
def tw9746290736111974699:=True
def tw15605314673337940820:=True
def tw14601093232075864333:=True
def tw7744585462766415841:=True
def tw15599062262749694263:=True
def tw11307871423955883790:=True
def tw17503571715894199401:=True
def tw11562656132790700112:=True
def tw15437627095580487745:=True
def tw9444856120250056:=True
def tw15368461119160244786:=True
def tw5059807520662903873:=True
def tw8507122988433985376:=True
def tw1340490853346739317:=True
def tw4999873528263941952:=True
def tw8138883035919153771:=True
def tw5876999699803940992:=True
def tw1219160410438783958:=True
def tw15374383100258090929:=True
def tw5129709800736681990:=True
def tw18412467072382897966:=True
def tw9295465181404674495:=True
def tw13639116477931023383:=True
def tw9655765954471233249:=True
def tw9852772891911979246:=True
def tw9579309295040962260:=True
def tw9205675258838939400:=True
def tw14253266029959898859:=True
def tw17543045315918682146:=True
def tw2278862550052393009:=True
def tw3563331579841047253:=True
def tw15268067694537282708:=True
def tw11051852278340503322:=True
def tw2141389403400681739:=True
def tw17723289961258060709:=True
def tw2222619081470546053:=True
def tw16554503588431009847:=True
def tw17551898873331551606:=True
def tw13703201897686485181:=True
def tw12830902230115906853:=True
def tw15816774722301406456:=True
def tw14824613935113488622:=True
def tw14840909107393720855:=True
def tw16086604724121905683:=True
def tw4428511981444155997:=True
def tw13455889469200439292:=True
def tw2812002143175617830:=True
def tw14829597479938141245:=True
def tw16009409076852654178:=True
def tw17699776078558274792:=True
def tw8958368130301519565:=True
def tw13931152110008136587:=True
def tw9115570409383739373:=True
def tw8152191795067425488:=True
def tw15860568803070751998:=True
def tw18057737016811302078:=True
def tw10037671660588523380:=True
def tw11336375602095710627:=True
def tw5833617784874722339:=True
def tw10054957458932417970:=True
def tw3300715080772083056:=True
def tw17789708201575990940:=True
def tw4974891942170255376:=True
def tw17312231444199667289:=True
def tw16731195630436558442:=True
def tw4813033756896260200:=True
def tw3518201567332769994:=True
def tw7885996757352287113:=True
def tw15201455636573674376:=True
def tw16784680969839311053:=True
def tw10757982314009636268:=True
def tw15410114970781654007:=True
def tw1816231326146897779:=True
def tw10060015500297013453:=True
def tw16366351704805216292:=True
def tw8813488205383683893:=True
def tw10779522212258618174:=True
def tw15614949754703994826:=True
def tw1091886776944196591:=True
def tw6543989661111414075:=True
def tw11578419125941413745:=True
def tw3819487556120170502:=True
def tw4082062757392351846:=True
def tw16741366390483889087:=True
def tw16377586048549951675:=True
def tw2338658934374695029:=True
def tw18005420497729604938:=True
def tw4492475404764046247:=True
def tw10808443279924648715:=True
def tw12104252516485107645:=True
def tw4108375697135119080:=True
def tw2783008655248089055:=True
def tw6058398187828883243:=True
def tw14299167440780531319:=True
def tw17736318271883529270:=True
def tw3940908928543659008:=True
def tw8135380283557596477:=True
def tw8650574312599876640:=True
def tw17579599264649962060:=True
def tw6860306269079731612:=True
def tw11797617384117405808:=True
def tw9620109360670676214:=True
def tw17824683924593364354:=True
def tw12210841573637900022:=True
end PySem.W.Fast
open PySem PySem.W PyProof.Rows Gn
set_option maxRecDepth 100000 in
set_option maxHeartbeats 0 in
theorem PySem.Challenge.cw_fewspaces_k84_lots_apart_filled_holds : PySem.Challenge.rw_fewspaces_k84_lots_apart_filled.Holds := by
  w_on; o_law; k_head; (case hw => w_witness2)
  k_fill
  refine Gn.Zaz (l := PySem.Challenge.rw_fewspaces_k84_lots_apart_filled) (F := K84.fns) (tk := K84.tk) (L := 38) (c := 396) (Pt := 392) (cl := fun _ => [24, 37, 49, 61, 73, 85, 97, 109, 121, 133, 145]) (fun ns s => K84.law_ok ns s) rfl rfl (fun w h Y => PySem.W.km_in_of Y) rfl (fun w => by kernel_rfl!) (fun w => by kernel_rfl!) ?F
  case F =>
    intro w mg fa h KX G hmg;refine' Gn.ZcA (fs := K84.fs) (zs := K84.zs) (gs := K84.gs) (sn := K84.sn) KX G hmg K84.okl.1 (fun i fn e => by rw [cW] at e; split at e; exact e; cases e) rfl (by decide) ?A ?Z ?Y ?E ?L rfl rfl rfl (by decide +kernel) (Gn.Zeb (Pp := K84.pp) K84.okl.2.1 K84.okl.2.2 (by kernel_rfl!) (by kernel_rfl!) (by kernel_rfl!) (by kernel_rfl!) (by kernel_rfl!)) ?R
    case A => repeat' (first|exact FnsAt.nil|refine' FnsAt.cons ?h1 ?h2 ?h3 ?h4 ?h5 ?_; (case h1 => k_is); (case h2 => k_is); (case h3 => k_is); (case h4 => k_is); (case h5 => first|exact bd1 fun _ _ _ _ _ _ _ => rfl|exact bd2 fun _ _ _ _ _ _ _ _ => rfl|exact bd3 fun _ _ _ _ _ _ _ _ _ => rfl|exact bd4 fun _ _ _ _ _ _ _ _ _ _ => rfl|exact bd5 fun _ _ _ _ _ _ _ _ _ _ _ => rfl|exact bd6 fun _ _ _ _ _ _ _ _ _ _ _ _ => rfl))
    case L => repeat' (first|exact FnsAt.nil|refine' FnsAt.cons ?h1 ?h2 ?h3 ?h4 ?h5 ?_; (case h1 => k_is); (case h2 => k_is); (case h3 => k_is); (case h4 => k_is); (case h5 => first|exact bd1 fun _ _ _ _ _ _ _ => rfl|exact bd2 fun _ _ _ _ _ _ _ _ => rfl|exact bd3 fun _ _ _ _ _ _ _ _ _ => rfl|exact bd4 fun _ _ _ _ _ _ _ _ _ _ => rfl|exact bd5 fun _ _ _ _ _ _ _ _ _ _ _ => rfl|exact bd6 fun _ _ _ _ _ _ _ _ _ _ _ _ => rfl))
    case Z => repeat' (first|exact ZsAt.nil|refine' ZsAt.cons ?h1 ?_; (case h1 => k_is))
    case Y => repeat' (first|exact GsAt.nil|refine' GsAt.cons ?h1 ?_; (case h1 => k_is))
    case E => kernel_rfl!
    case R => rfl
