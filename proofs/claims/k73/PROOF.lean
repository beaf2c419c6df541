import PyProof.Rows.All
import Wide.All
import OpenK.AllK
import PySem.Challenge.RW_fewspaces_k73_turns_behind_and_back
set_option Elab.async false
set_option linter.all false
set_option compiler.extract_closed false
set_option maxRecDepth 100000
set_option maxHeartbeats 0
local macro_rules
|`(#[$x,$y])=>`(⟨$x,$y⟩)
|`(#[$x,$y,$z,*])=>`(⟨$x,$y,$z,*⟩)
|`(#[0])=>`(by lia)
|`(#[1])=>`(by decide)
|`(#[2])=>`(by simp)
|`(#[3])=>`(by omega)
|`(#[4])=>`(by assumption)
|`(#[5])=>`(by kernel_rfl!)
|`(#[7])=>`(by rfl)
set_option hygiene false in
local macro_rules|`(tactic|left)=>`(tactic|rintro O H Q ⟨Z,l,S,st,lr,h⟩)
set_option hygiene false in
local macro_rules|`(tactic|right)=>`(tactic|rintro D O H ⟨Z,H0,W,l,os,S,st,en,h⟩)
set_option hygiene false in
local macro_rules
|`(#[8])=>`(aT prog w)
|`(#[9])=>`(aT X.prog X.w)
|`(#[10])=>`(Ze rfl)
|`(#[11])=>`(("__debug__" : bn))
|`(#[12])=>`([.ret<|.c<|.bl aj])
|`(#[13])=>`(Zl p P r)
|`(#[14])=>`(List Int)
|`(#[15])=>`(cxC X N scope cl s H fp)
|`(#[16])=>`(("__classdict__" : bn))
|`(#[17])=>`(.sl (.v 2) ag<|aa<|.v 3)
|`(#[18])=>`(lead p #[13] h)
|`(#[19])=>`(λz=>nomatch z)
|`(#[20])=>`([(.v 0),(.v 1)])
|`(#[21])=>`(aa<|.bin .add (.v 3)<|.n 1)
|`(#[22])=>`(aa<|.tup<|T.map Zb)
|`(#[23])=>`(.Call (.Name x p) (e::es) [] pos)
noncomputable section
abbrev T9:=@if_pos
abbrev T8:=@if_neg
abbrev T7:=@absurd
abbrev T6:=@of_decide_eq_true
abbrev T5:=@decide_eq_true
abbrev T4:=@decide_eq_false
abbrev T0:=@decide_eq_true_eq
open Option renaming some->aa,none->ag,map_eq_some_iff->bY,bind_eq_some_iff->cJ,isSome_iff_exists->cU,ne_none_iff_exists'->kf,getD_some->lh,map_eq_none_iff->lT,isSome_some->nE,isSome_map->oj,getD_none->oK,map_some->pB
open PySem renaming wpAny_bind->ae,Value->au,Shared->aA,wpAny_pure->aB,Addr->aD,starEach->aE,model->aT,sizeLine->aW,wpAny->aX,Str->bn,Program->bt,mainGlobals->bv,wpAny_newObj_type->bC,World->bN,wpAny_holding->bT,Around->bU,Heap->bV,assignEach->cf,FuncData->cB,eval->cD,wpAny_callSpecial?_slot->cI,wpAny_field->cO,sysModules->cW,bootBuiltins->db,wpAny_call_entry->de,wpAny_mono->dm,compareOp->du,cellsFrom->dv,swapsWithSole->dy,swappedStores->dz,backTo->dG,foldedSetIterable->dH,assign->dL,mem_of_lookup->dM,Scope->dO,sizeLine_eq->dP,tupleKind->dS,cLine->d4,wpAny_truthy_bool->d5,NameKind->ee,Stmt->ef,behindInMarks->ei,swapsWith->ej,wpAny_Call_Name_kw->eB,wpAny_seqItems->eE,wpAny_setField_rec->eF,wpAny_passesOwn->eL,binaryOp->eO,Builtin->eQ,Obj->eW,wpAny_typeNameOfWhole_keyiter->fc,wpAny_execs_nil->fw,Pos->fD,wpAny_pyIter_list->fE,wpAny_loadPart_at->fI,wpAny_rule->fJ,wpAny_execs_cons->fV,wpAny_typeOf->fW,DictEntry->fZ,wpAny_isInstance->gf,rawInt->gw,wpAny_standAt->gz,wpAny_typeNameOf_keyiter->gF,codeAny_builtin->gJ,call_meets->gM,wpAny_pyIter_tuple->gN,sliceBounds->gQ,codeAny->gV,codeAny_mono->gW,closureFor->ig,wpAny_attempt->io,wpAny_loadName_local->iu,wpAny_updateSeq_pair->iB,codeAny_call_builtin->iF,wpAny_loadName_cell->iQ,codeAmong->iV,wpAny_Name->iW,wpAny_load->iY,wpAny_newFunctionEnv_cells->i4,IsPart->i5,typeLookup->i9,tupleKind_room_in1->ke,wpAny_setField->kj,wpAny_binaryOp_repeat_ref->kz,holding->kC,getItem->kF,wpAny_sequenceKey->kG,intKind->kJ,wpAny_onRaise->kU,noFill_tuple_add->k7,wpAny_pyNext_list_item->lI,typeIs_int->lL,IsPair->lN,letOwnedTupleGo->l0,pushCells_keeps->l6,wpAny_isTrue_Compare1->md,wpAny_pyNext_list_end->me,codeAny_call_function->mf,wpAny_notOrdered_dict->ml,wpAny_isOneOf_keyiter->mn,builtinLookup_eq_fast->mq,pyNext->mw,bindArgs->mz,firstArgMember->mG,ZipApart->mH,PassesOwn->mP,BindsTo->mQ,callerA->mR,wpAny_loadName_free->mT,assignInOrder->mZ,seq_tuple_add->m5,evalPart_none->m8,attributeBase->m9,wpAny_newList->ni,plainId_quiet->nj,builtinsNs->nr,wpAny_dictSet_heap->nL,Sem->nO,standAt->nQ,wpAny_assign_Name->nU,rule->nY,concat_meets->n6,seqIndex_neg->n8,Keyword->oa,valueAt->oh,atKey->oi,wpAny_pyIter_enum->ox,wpAny_dictEntries->oA,Arguments->oI,reduceHash->oM,TriplesOk->oN,seqSlot_of->oO,pushCells->oS,preSum->oV,seqIndex_of->o5,keywordEach->o6,wpAny_of_eq->o7,IsZip->o8,wpAny_letGo->o9,unsupported->pb,GenState->pF,Operator->pG,wpAny_call->pH,call->pK,getAttr?->pS,Tok->rm,bindL->rn,bindC->rA,truthy->rB,ret->rC,setItem->rE,pyIter->rF,Result->rG,DefRec->rH,CmpOp->rJ,again->rK,Meets->rM
open List renaming getElem?_eq_getElem->af,mem_cons_self->ak,mem_cons_of_mem->am,replicate->aw,getD_eq_getElem?_getD->ax,length_map->ay,mem_cons->az,size_toArray->aC,getElem?_map->aJ,getElem?_eq_some_iff->aK,range->aP,length_cons->aQ,mem_map->aR,length_append->aU,mem_range->aV,getElem_mem->aY,map_cons->aZ,mem_singleton->a8,getElem?_set_ne->a9,getElem?_set_self->bc,pairwise_cons->bj,length_range->bo,all_eq_true->bp,mem_append_right->bq,not_mem_nil->bu,length_set->bx,map_map->bH,append_assoc->bI,lookup_cons->bK,map_append->bL,getElem?_eq_none->bM,replicate_succ->bO,map_congr_left->bP,length_drop->bR,mem_of_mem_drop->bZ,length_take->b9,mem_append->cc,getElem?_append_right->cg,length_replicate->ck,filterMap_cons->cn,getElem?_range->cp,getElem?_append_left->cq,drop_eq_getElem_cons->cr,pairwise_iff_getElem->cu,append_nil->cw,getElem?_take->cA,getElem_of_mem->cE,getElem?_replicate->cH,ext_getElem?->cL,mem_of_getElem?->cM,take_of_length_le->cQ,take_append_drop->cX,flatten_cons->cY,pairwise_map->c6,mem_append_left->c8,mem_of_mem_take->c9,nodup_cons->da,toArray->dk,foldl_cons->dC,mem_map_of_mem->dN,contains_iff_mem->dR,zip_cons_cons->dZ,length_eq_zero_iff->d6,reverse_perm->d8,drop_length->ek,mem_reverse->ez,mem_flatMap->eA,getElem?_drop->eG,pairwise_reverse->eI,find?_cons->eM,reverse_cons->eP,pairwise_append->eS,nodup_append->eT,length_take_of_le->fm,mem_filter->fv,nil_append->fz,any_cons->fB,getElem_take->fF,getElem_drop->fG,take_length->fX,ext_getElem->gj,getElem?_zip_eq_some->gp,extract_eq_take_drop->gu,length_reverse->gy,getElem_append_left->gG,of_mem_zip->gH,map_id->gR,range_succ_eq_map->gZ,map_uncurry_zip_eq_zipWith->hV,isEmpty_toArray->iw,getElem?_mapIdx->iz,drop_append_of_le_length->iD,take_append_of_le_length->iE,forIn_cons->iJ,mem_zipIdx_iff_getElem?->iL,length_zip->iO,drop_zero->ki,drop_drop->km,drop_left->ko,take_left->kq,getElem_append_right->kB,length->kD,take_add_one->kM,getElem?_inj->kN,all_cons->kR,contains->kT,find?_range_eq_some->kZ,eq_of_mem_replicate->k6,any_eq_true->lg,zipIdx_cons->lj,nodup_range->lw,pairwise_singleton->lz,filter_cons->lE,getElem_map->lG,any_eq_not_all_not->lH,drop_of_length_le->lQ,pairwise_lt_range->lV,length_pos_of_mem->lW,getElem_replicate->lZ,length_singleton->mh,getElem?_reverse->mj,length_filter_le->mr,nodup_nil->mC,forIn_nil->mI,mem_iff_getElem->mK,take->mS,reverse_append->mW,mem_filterMap->nv,filterMap_map->nC,contains_cons->nG,find?_toArray->nH,find?_eq_none->nM,getElem_range->nN,take_sublist->n5,getElem?_set->on,foldl_append->oE,drop_append->oX,countP_cons->oY,map_reverse->o0,zipIdx_nil->pf,take_take->pO,map->pQ,tail_cons->rc
open Decidable renaming decide->ai
open Bool renaming false->aj,true->al,and_eq_true->aG,false_ne_true->aO,false_eq_true->cz,eq_iff_iff->cR,not_true->ip,or_eq_true->iI,not_eq_true'->kO,false_or->kQ,false_and->my,and_false->mE
open PySem.W renaming Frag->ao,katRev->bE,hideAll_none->c7,CodeHd->dA,kia_one->dB,kia_tup->dQ,fnOf->eg,hideAll->eK,envX->fq,kla_obj->fA,kitOne->fK,keepIn->fM,kitAny->fS,nsIn->gh,hideAll_get->gv,kat_len->gI,of_hideAll->gL,kitx_list->gT,kitx_dict->gU,cellsFrom_some->gX,mg_of->iq,codeIn->iZ,katRev->kX,OpenLaw->l9,noTabs->mL,kitx_tuple->nz,callWith_K->nA,codeRec_of->nB,kitx_none->nZ,kitx_bool->n4,looks_findIn->oC,plainGet->oF,kitx_int->oG,kitx_str->oH,kat_nil->pA,kat_len->pE,KdlSrc->pT,findIn->pU,exmOne->pV,kla_fn->pW,tabObj->pX,tabIn->rh,WalkO->rj
open Option.some renaming inj->aq
open PySem.Heap renaming get?_push_of_some->av,lt_size->aH,get?_push_size->aM,size_push->cS,SameBut->fe,get?_update_self->fC,ExtBut->fO,get?_push_ne->g9,size_update->ly,get?_update_other->lK,get?_update_ne->mX
open Nat renaming le_refl->aF,ne_of_lt->bh,lt_of_lt_of_le->bi,lt_irrefl->bw,add_sub_cancel_left->bS,le_trans->cx,lt_trans->dg,lt_succ_of_lt->dq,zero_le->dD,le_add_right->dE,add_assoc->d3,lt_of_succ_lt->d7,ne_of_gt->eN,le_of_not_lt->eZ,lt_of_le_of_ne->fj,pow_le_pow_right->fU,lt_succ_self->fY,le_of_lt->gS,sub_succ_lt_self->iA,pow_lt_pow_right->iG,add_comm->iT,lt_of_add_lt_add_left->kA,le_succ->kK,max_eq_right->ln,exists_eq_add_of_le->lq,exists_eq_add_of_lt->lv,not_lt_of_le->lD,min_eq_left->l8,le_sub_of_add_le'->mi,mul_le_mul->mD,add_sub_cancel'->mV,lt_min->nI,add_sub_cancel->nK,mul_comm->oq,min_self->ou,le_of_eq->oy,zero_add->oB,min_le_right->oJ,lt_of_not_le->oW,max_eq_left->pj,succ->pL
open PyProof.Rows renaming wpS_bind->aI,wpS_pure->aS,arrOf->ba,pendingOf->bf,SortSt->bQ,Keyed->bW,slot_tuple_getitem->cC,wpS_forRange->cF,callWith_type1->dF,envOfC->dU,wpS_mono->eR,wpS_modify->fk,SortKind->fP,failedOf->fQ,seqObj->fR,elem'->gq,setPending->gO,wpS_get->g8,AllBare->im,entry_tuple_getitem->iR,assignInOrder_cons->iX,slicePart_none->i6,args_tuple_getitem->i8,list_sort_rev->kr,subscriptTail_builtinR->lJ,wpS->mv,tupleItemsOf_->m7,listUpdate_at->ng,IsTup->nP,assignInOrder_nil->nV,seqEpoch_at->pc,IntsAre->pC,minRun'->pD,Subscript_->pI,setArr->pP,size_push'->pR
open Array renaming length_toList->aN,getElem?_eq_getElem->br,getElem?_toList->bz,perm_iff_toList_perm->bJ,toList_append->bX,size_push->d9,size_extract_of_le->eV,toList_push->fH,size_append->g7,toList_extract->iC,toList_setIfInBounds->kn,append_empty->kw,toList_inj->lx,getElem?_eq_none->lO,toList_reverse->mJ,append_assoc->nt,size_reverse->nJ,toList->nS,toList_map->oZ
open And renaming intro->bg
open PySem.Value renaming bool->bB,none->bG,ref->cG,builtin->kY,int->mM,isStrOf->re
open PySem.NameKind renaming free->bD,cell->cV
open Pure renaming pure->cy
open List.Perm renaming refl->cK,swap->ku,of_eq->pz
open PySem.Builtin.Slice renaming slicePlaces->cP,sliceAdjust->gn,sliceApplied->i7
open Sum renaming inl->cT,inr->mO
open Int renaming toNat_natCast->cZ,emod_eq_of_lt->eU,emod_lt_of_pos->fu,emod_nonneg->gK,toNat_of_nonneg->mY,natCast_add->pi
open True renaming intro->dJ
open PySem.AutoSeq1 renaming wpAny_loadPart'->dW,sub_tuple_tuple->gB,wpAny_loadPart'->gE,idx_int->k8
open PySem.Obj renaming mapSeq->eC,data_mapFields->fg,isFreed_of_fields->hZ,cls_mapFields->kL
open PySem.F renaming slot_tuple_iterator_next->eD,plainAttrs_list->fb,args_tuple_add_2->gA,slot_list_append->gC,type_list_append->gD,entry_tuple_add->gP,slot_tuple_add->gY,typeOf_object_class->h8,slot_int_rmul->iH,args_tuple_iterator_next_1->iM,slot_zip_next->iN,slot_dict_keyiterator_next->iP,entry_tuple_iterator_next->iU,args_tuple_mul_2->kh,entry_tuple_mul->kI,slot_tuple_mul->k9,plain_list_iadd->lC,args_int_rmul_2->oo,args_zip_next_1->ow,entry_int_rmul->oP,entry_zip_next->oU,slot_dict_iter->o4,fills_int_mul->pe
open PySem.Builtin.SmallTypes renaming nextOf->eJ
open PySem.Heap.SameBut renaming update->eX
open LawfulBEq renaming eq_of_beq->eY
open PySem.Builtin.Tuple renaming tupleItemsOf->fN,tupleHashOf->hJ,tupleTooMany->kg
open PySem.Around renaming under_plainId->fT,frames_deeper->mB
open PyProof.Rows.IsTup renaming new->h9
open ForInStep renaming yield->iK
open Lean.Grind renaming CommRing->iS
open PySem.SeqAt renaming EqAt->kc
open Break renaming runK->kl
open PySem.SeqAt.EqAt renaming bool_bool->kx,same->l4,int_str->nk,str_int->nq,of_refs->nF
open PySem.Str renaming ofString->ky,ofString->oz
open List.Pairwise renaming nil->kH,imp_of_mem->kW
open PySem.PassesOwn renaming leaving->kP
open PySem.SeqAt.RcAt renaming lists_lengths->kS,tuples->ot,lists->oQ
open PySem.Builtin.Dict renaming updateFrom->lB,showsAll->mm
open ForIn renaming forIn->mF
open PySem.Builtin.Int renaming intBits->mU
open PySem.P renaming truthy_int->ny
open PySem.Heap.IsSliceOf renaming new->nD
open Classical renaming not_not->oD
open Or renaming inr->oR
open PyProof.Rows.SortSt renaming mk'->pN
open PySem.Value.type renaming inj->pY
open PySem.Code renaming compLoop->rg
open Min renaming min->rO
namespace L2
open PySem PySem.Spec PyProof.Rows
abbrev Key:=Sum Int bn
noncomputable def Js:Key->au->Bool
 |.inl k,v=>au.isInt k v
 |.inr x,v=>re x v
noncomputable def ZhE(w:bN):Key->Int
 |.inl k=>hashInt k
 |.inr x=>hashStr w x
def ZZ:∀{k:Key}{v:au},Js k v=al->(∃i t,k=cT i/\v=mM i t)\/(∃x t,k=mO x/\v=au.str x t)
 |.inl i,v,h=>by
  obtain⟨t,e⟩:=au.isInt_shape h;exact .inl #[i,t,rfl,e]
 |.inr x,v,h=>by
  obtain⟨t,e⟩:=au.isStrOf_shape h;exact .inr #[x,t,rfl,e]
def u5(i:Int)(t:rm):Js (.inl i) (.int i t)=al:=by simp[Js,au.isInt]
def vV(x:bn)(t:rm):Js (.inr x) (.str x t)=al:=by simp[Js,re]
def ZeW(a b:Int):ai ((cT a:Key)=cT b)=(a == b):=by
 by_cases e:a=b
 .subst e;simp
 .have h:¬(cT a:Key)=cT b:=λq=>e (cT.inj q)
  rw[T4 h];exact(beq_eq_false_iff_ne.mpr e).symm
def Zew(a b:bn):ai ((mO a:Key)=mO b)=ai (a=b):=by
 by_cases e:a=b
 .subst e;simp
 .have h:¬(mO a:Key)=mO b:=λq=>e (mO.inj q)
  rw[T4 h,T4 e]
def Zfx(a:Int)(b:bn):ai ((cT a:Key)=mO b)=aj:=T4 (λq=>nomatch q)
def Zfg(a:bn)(b:Int):ai ((mO a:Key)=cT b)=aj:=T4 (λq=>nomatch q)
def ZQ(prog:bt)(w:bN):PySem.KeyKind prog w Key where
 is:=Js
 hash:=ZhE w
 inj:=λv a b ha hb=>by
  rcases ZZ ha with⟨i,t,rfl,rfl⟩|⟨x,t,rfl,rfl⟩
  .rcases ZZ hb with⟨j,u,rfl,e⟩|⟨y,u,rfl,e⟩
   .injection e with e1 _;rw[e1]
   .exact nomatch e
  .rcases ZZ hb with⟨j,u,rfl,e⟩|⟨y,u,rfl,e⟩
   .exact nomatch e
   .injection e with e1 _;rw[e1]
 byValue:=λk v h=>by
  rcases ZZ h with⟨i,t,rfl,rfl⟩|⟨x,t,rfl,rfl⟩<;>rfl
 pyHash:=λhv h=>by
  rcases ZZ hv with⟨i,t,rfl,rfl⟩|⟨x,t,rfl,rfl⟩
  .exact wpAny_pyHash_int h
  .exact wpAny_pyHash_str h
 eqBool:=λhu hv h=>by
  rcases ZZ hu with⟨i,t,rfl,rfl⟩|⟨x,t,rfl,rfl⟩
  .rcases ZZ hv with⟨j,u,rfl,rfl⟩|⟨y,u,rfl,rfl⟩
   .rw[ZeW]at h;exact wpAny_eqBool_int h
   .rw[Zfx]at h;exact nk i t y u _ _ _ _ h
  .rcases ZZ hv with⟨j,u,rfl,rfl⟩|⟨y,u,rfl,rfl⟩
   .rw[Zfg]at h;exact nq x t j u _ _ _ _ h
   .rw[Zew]at h;exact wpAny_eqBool_str h
 «strs»:=λk x t v h=>by
  rcases ZZ h with⟨i,u,rfl,e⟩|⟨y,u,rfl,e⟩
  .exact nomatch e
  .injection e with e1 _
   subst e1;cases v<;>rfl
def yD(prog:bt)(w:bN)(i:Int)(t:rm):(ZQ prog w).is (.inl i) (.int i t)=al:=u5 i t
def z5(prog:bt)(w:bN)(x:bn)(t:rm):(ZQ prog w).is (.inr x) (.str x t)=al:=vV x t
inductive V where
 |non|bl (b:Bool)|int (i:Int)|str (x:bn)|ref (a:aD)|ty (n:String)
 deriving DecidableEq
def Zy:V->au->Prop
 |.non,u=>u=bG
 |.bl b,u=>u=bB b
 |.int i,u=>∃t,u=mM i t
 |.str x,u=>∃t,u=au.str x t
 |.ref a,u=>u=cG a
 |.ty n,u=>u=au.type n
abbrev Vals:List V->List au->Prop:=Paired Zy
theorem Vals.length{xs:List V}{us:List au}(r:Vals xs us):xs.length=us.length:=Paired.length r
theorem Vals.get:∀{xs:List V}{us:List au}{i:Nat}{x:V},Vals xs us->xs[i]?=aa x->∃u,us[i]?=aa u/\Zy x u
 |_,_,_,_,.nil,e=>by simp at e
 |_,_,0,_,.cons r _,e=>by simp at e;subst e;exact#[_,rfl,r]
 |_,_,i+1,x,.cons _ t,e=>by
  obtain⟨u,h1,h2⟩:=Vals.get t (by simpa using e)
  exact#[u,by simpa using h1,h2]
theorem Vals.set(r:Zy x u):∀{xs:List V}{us:List au}(i:Nat),Vals xs us->Vals (xs.set i x) (us.set i u)
 |_,_,_,.nil=>.nil
 |_,_,0,.cons _ t=>.cons r t
 |_,_,i+1,.cons q t=>.cons q<|Vals.set r i t
theorem Vals.append:∀{xs ys:List V}{us ws:List au},Vals xs us->Vals ys ws->Vals (xs++ys) (us++ws)
 |_,_,_,_,.nil,s=>s
 |_,_,_,_,.cons r t,s=>.cons r<|Vals.append t s
theorem Vals.take:∀{xs:List V}{us:List au}(n:Nat),Vals xs us->Vals (xs.take n) (us.take n)
 |_,_,0,_=>.nil
 |_,_,_+1,.nil=>.nil
 |_,_,n+1,.cons r t=>.cons r<|Vals.take n t
theorem Vals.drop:∀{xs:List V}{us:List au}(n:Nat),Vals xs us->Vals (xs.drop n) (us.drop n)
 |_,_,0,r=>r
 |_,_,_+1,.nil=>.nil
 |_,_,n+1,.cons _ t=>Vals.drop n t
def ZcC:Option V->Option au->Prop
 |some v,aa u=>Zy v u
 |none,ag=>True
 |_,_=>False
def KV{κ:Type}:List (κ×V)->List (κ×au)->Prop:=Paired λ(p:κ×V) (q:κ×au)=>p.1=q.1/\Zy p.2 q.2
noncomputable def kV:Key->V
 |.inl i=>.int i
 |.inr x=>.str x
inductive HO where
 |lst (xs:List V)
 |tup (xs:List V)
 |dK (kvs:List (Key×V))|dT (kvs:List (List Key×V))
 |own (x:aD)
 |frz (o:eW) (u:HO)
 |tbl (ps:Array au)
abbrev Hp:=aD->Option HO
noncomputable def upd(H:Hp)(a:aD)(o:HO):Hp:=λb=>if b=a then aa o else H b
def Zj :upd H a o a=aa o:=by unfold upd;rw[T9 rfl]
def Zi(h:b≠a):upd H a o b=H b:=by unfold upd;rw[T8 h]
def Zea{H:Hp}{a b:aD}{o u:HO}(h:H a=aa o)(h':H b=aa u)(d:o≠u):a≠b:=by
 intro e;subst e;rw[h]at h';exact d<|aq h'
def ZR{H:Hp}{a b:aD}{o:HO}(h:H a=aa o)(h':H b=ag):a≠b:=by
 intro e;subst e;rw[h]at h';cases h'
section
variable(P:bt)(w:bN)
def Z1(H:Hp)(h:bV)(a:aD):HO->Prop
 |.lst xs=>xs.length<=aW/\∃(its:List au)(n:Nat),Vals xs its/\h.get? a=aa {cls:=.type "list",data:=.seq its.toArray n}
 |.tup xs=>xs.length<=aW/\∃its:List au,Vals xs its/\nP h a its.toArray
 |.dK kvs=>kvs.length<=aW/\(a == cW)=aj/\∃vs,KV kvs vs/\h.DictOf (ZQ P w) a vs
 |.dT kvs=>kvs.length<=aW/\(a == cW)=aj/\∃xs:List (List Key×aD×au),
   Paired (λ(p:List Key×V) (q:List Key×aD×au)=>p.1=q.1/\H q.2.1=aa (.tup<|p.1.map kV)/\Zy p.2 q.2.2) kvs xs/\
   ∃o es ep,h.get? a=aa o/\o.ExactDict/\o.data=.dict es ep/\es.toList=xs.map (entryOfKey<|dS<|ZQ P w)/\(xs.map (·.1)).Nodup
 |.own _=>∃o,h.get? a=aa o
 |.frz o u=>h.get? a=aa o/\Z1 H h a u
 |.tbl ps=>h.get? a=aa {cls:=.none,data:=.fields ps}
def HOk(H:Hp)(h:bV):Prop:=∀a o,H a=aa o->Z1 P w H h a o
end
theorem Z1.lt(x:Z1 P w H h a o):a<h.objs.size:=by
 cases o with|lst xs=>obtain⟨_,_,_,_,e⟩:=x;exact aH e|tup xs=>obtain⟨_,_,_,p⟩:=x;exact p.lt|dK kvs=>obtain⟨_,_,_,_,o,_,_,e,_⟩:=x;exact aH e|dT kvs=>obtain⟨_,_,_,_,o,_,_,e,_⟩:=x;exact aH e|own y=>obtain⟨_,e⟩:=x;exact aH e|frz ob u=>obtain⟨e,_⟩:=x;exact aH e|tbl ps=>exact aH (x)
theorem Paired.mapP{B β:Type}{F G:B->β->Prop}:∀{l₁:List B}{l₂:List β},Paired F l₁ l₂->(∀a b,F a b->G a b)->Paired G l₁ l₂
 |_,_,.nil,_=>.nil
 |_,_,.cons r t,f=>.cons (f _ _ r)<|Paired.mapP t f
def Z1.stay(x:Z1 P w H h a o)(k:∀b u,(b=a\/H b=aa (.own a))->h.get? b=aa u->h'.get? b=aa u)
  (ho:∀b,H b=aa (.own a)->H' b=aa (.own a))(ht:∀b xs,H b=aa (.tup xs)->H' b=aa (.tup xs)):Z1 P w H' h' a o:=by
 induction o with
 |lst xs=>obtain⟨z,its,n,r,e⟩:=x;exact#[z,its,n,r,k _ _ (.inl rfl) e]
 |tup xs=>obtain⟨z,its,r,ob,e,c⟩:=x;exact#[z,its,r,ob,k _ _ (.inl rfl) e,c]
 |dK kvs=>obtain⟨z,y,vs,r,ob,es,ep,e,c⟩:=x;exact#[z,y,vs,r,ob,es,ep,k _ _ (.inl rfl) e,c]
 |dT kvs=>
  obtain⟨z,y,xs,r,ob,es,ep,e,c⟩:=x;exact#[z,y,xs,Paired.mapP r λp q z=>#[z.1,ht _ _ z.2.1,z.2.2],ob,es,ep,k _ _ (.inl rfl) e,c]
 |own y=>obtain⟨ob,e⟩:=x;exact#[ob,k _ _ (.inl rfl) e]
 |frz ob u ih=>obtain⟨e,q⟩:=x;exact#[k _ _ (.inl rfl) e,ih q]
 |tbl ps=>
  have e:=x;exact k a _ (.inl rfl) e
theorem HOk.lt(x:HOk P w H h)(e:H a=aa o):a<h.objs.size:=(x a o e).lt
def HOk.fresh(x:HOk P w H h)(e:h.objs.size<=a):H a=ag:=by
 cases q:H a with|none=>rfl|some u=>exact T7 (bi (x.lt q) e)<|bw _
def HOk.kept(x:HOk P w H h)(k:∀b u,h.get? b=aa u->h'.get? b=aa u):HOk P w H h':=λa o e=>
 (x a o e).stay (λb u _ q=>k b u q) (λ_ q=>q) λ_ _ q=>q
def HOk.laid(x:HOk P w H h)(k:∀b u,h.get? b=aa u->h'.get? b=aa u)(hp:h.objs.size<=a)(new:Z1 P w (upd H a o) h' a o):HOk P w (upd H a o) h':=λb u e=>by
 have hn:=x.fresh hp;by_cases hb:b=a
 .subst hb;rw[Zj]at e;cases e;exact new
 .rw[Zi hb]at e
  exact(x b u e).stay (λc v _ q=>k c v q) (λc q=>by rw[Zi<|ZR q hn];exact q) λc xs q=>by rw[Zi<|ZR q hn];exact q
def Rd(H:Hp)(a:aD)(u:HO):Prop:=H a=aa u\/∃o,H a=aa (.frz o u)
def Rd.ok(r:Rd H a u)(x:HOk P w H h):Z1 P w H h a u:=by
 rcases r with r|⟨o,r⟩
 .exact x a u r
 .obtain⟨_,q⟩:=x a _ r
  exact q
def Mut:Option HO->Prop
 |some (.lst _)=>True
 |some (.dK _)=>True
 |some (.dT _)=>True
 |_=>False
def HOk.write(ok:HOk P w H h)(mu:Mut (H x))(he:e=x\/H e=aa (.own x))(k:∀b u,b≠e->h.get? b=aa u->h'.get? b=aa u)(heo:∃u,h'.get? e=aa u)
  (new:Z1 P w (upd H x o') h' x o'):HOk P w (upd H x o') h':=λb u q=>by
 have nown:∀c y,H c=aa (.own y)->c≠x:=λc y r z=>by subst z;rw[r]at mu;exact mu
 have ntup:∀c xs,H c=aa (.tup xs)->c≠x:=λc xs r z=>by subst z;rw[r]at mu;exact mu
 by_cases hb:b=x
 .subst hb;rw[Zj]at q;cases q;exact new
 .rw[Zi hb]at q
  by_cases hbe:b=e
  .have q':H b=aa (.own x):=by
    rcases he with z|z
    .exact T7 (hbe.trans z) hb
    .rw[hbe];exact z
   rw[q]at q';cases q';obtain⟨v,hv⟩:=heo;exact#[v,by rw[hbe];exact hv]
  .refine(ok b u q).stay (λc v hc r=>k c v ?_ r) (λc r=>by rw[Zi<|nown c b r];exact r) λc xs r=>by rw[Zi<|ntup c xs r];exact r
   rcases hc with rfl|hc
   .exact hbe
   .rintro rfl
    rcases he with z|z
    .exact nown c b hc z
    .rw[hc]at z;cases z;exact hb rfl
structure Un(fs ex:List aD)(H H':Hp)(h h':bV):Prop where
 keep:∀b o,h.get? b=aa o->H b=ag->b∉fs->b∉ex->h'.get? b=aa o
 slot:∀b o,h.get? b=aa o->H b=ag->b∈fs->b∉ex->∃sl,h'.get? b=aa {o with slots:=sl}
 free:∀b o,h.get? b=aa o->H b=ag->b∉ex->H' b=ag
 there:∀b o,h.get? b=aa o->b∉ex->∃o',h'.get? b=aa o'
 tups:∀b xs,H b=aa (.tup xs)->H' b=aa (.tup xs)
 frzs:∀b o u,H b=aa (.frz o u)->H' b=aa (.frz o u)
 tbls:∀b ps,H b=aa (.tbl ps)->∃more,H' b=aa (.tbl<|ps++more)
def Un.any(u:Un fs ex H H1 h h1)(q:h.get? b=aa ob)(n:H b=ag)(hx:b∉ex):∃sl,h1.get? b=aa {ob with slots:=sl}:=by
 by_cases hb:b∈fs
 .exact u.slot b ob q n hb hx
 .exact#[ob.slots,u.keep b ob q n hb hx]
def Un.kept(k:∀b u,h.get? b=aa u->h'.get? b=aa u):Un fs ex H H h h':=
 #[λb ob q _ _ _=>k b ob q,λb ob q _ _ _=>#[ob.slots,k b ob q],λ_ _ _ n _=>n,λb ob q _=>#[ob,k b ob q],λ_ _ q=>q,λ_ _ _ q=>q,λ_ ps q=>#[#[],by rw[q];simp]]
def Un.refl:Un fs ex H H h h:=Un.kept λ_ _ q=>q
def Un.laid(k:∀b u,h.get? b=aa u->h'.get? b=aa u)(hp:h.objs.size<=a)(hn:H a=ag):Un fs ex H (upd H a o) h h' where
 keep:=λb u q _ _ _=>k b u q
 slot:=λb u q _ _ _=>#[u.slots,k b u q]
 free:=λb u q n _=>by rw[Zi<|bh<|bi (aH q) hp];exact n
 there:=λb u q _=>#[u,k b u q]
 tups:=λb xs q=>by rw[Zi<|ZR q hn];exact q
 frzs:=λb u xs q=>by rw[Zi<|ZR q hn];exact q
 tbls:=λb ps q=>#[#[],by rw[Zi<|ZR q hn,q];simp]
def Un.write(mu:Mut (H x))(he:e=x\/H e=aa (.own x))(k:∀b u,b≠e->h.get? b=aa u->h'.get? b=aa u)(heo:∃u,h'.get? e=aa u):Un fs ex H (upd H x o) h h':=by
 have hx:∀b,H b=ag->b≠x:=λb n z=>by subst z;rw[n]at mu;exact mu
 have hb:∀b,H b=ag->b≠e:=λb n z=>by
  subst z;rcases he with r|r
  .exact hx b n r
  .rw[n]at r;cases r
 have hm:∀b u,H b=aa u->¬Mut (aa u)->b≠x:=λb u q nm z=>by subst z;rw[q]at mu;exact nm mu
 refine#[λb u q n _ _=>k b u (hb b n) q,λb u q n _ _=>#[u.slots,k b u (hb b n) q],λb u q n _=>by rw[Zi<|hx b n];exact n,λb u q _=>?_,
  λb xs q=>by rw[Zi<|hm b _ q λz=>z];exact q,λb u xs q=>by rw[Zi<|hm b _ q λz=>z];exact q,λb ps q=>#[#[],by rw[Zi<|hm b _ q λz=>z,q];simp]]
 by_cases hbe:b=e
 .subst hbe;exact heo
 .exact#[u,k b u hbe q]
noncomputable def trk(h:bV)(H:Hp):List aD:=(aP h.objs.size).filter λa=>(H a).isSome
def QK(h:bV)(H:Hp):bV:=eK h<|trk h H
def u0(h:bV)(H:Hp):(QK h H).objs.size=h.objs.size:=PySem.W.hideAll_size _ _
def jX(e:h.get? b=aa o)(n:H b=ag):(QK h H).get? b=aa o:=
 gv _ e λhm=>by
  have q:=(fv.mp hm).2;rw[n]at q;simp at q
def Zb0(e:(QK h H).get? b=aa o):h.get? b=aa o/\H b=ag:=by
 have e':=gL (trk h H) e;refine#[e',?_];cases q:H b with
 |none=>rfl
 |some x=>
  have hm:b∈trk h H:=fv.mpr #[aV.mpr<|aH e',by simp[q]]
  have z:(QK h H).get? b=ag:=c7 (trk h H) hm;rw[z]at e;cases e
structure Mod(K:ao)(mg:bn->Option au)(base:bV):Prop where
 kin:K.In base
 glob:base.Ns bv mg
 blt:∃mb,base.Ns nr mb/\∀x:bn,x≠"__name__"->mb x=db x
 nolimit:base.NoLimit
structure Cx where
 prog:bt
 w:bN
 K:ao
 mg:bn->Option au
 base:bV
 A:bU
 N:List bn
 s₀:aA
 H₀:Hp
 env:Env
 outer:List Env
 stack:List Env
 ex:List aD
 fn:bn->Bool
 calm:Bool
 pn:List (aD×eW)
 xe:au->aA->Prop
noncomputable def frs(l:List Env):List aD:=l.filterMap (·.frame)
abbrev Cx.fs(X:Cx):List aD:=frs X.outer
def Vis(sc:dO)(x:bn):Prop:=sc.names.lookup x=aa .local\/sc.names.lookup x=aa .cell\/sc.names.lookup x=aa .free
def Loc(sc:dO)(x:bn):Prop:=sc.names.lookup x=aa .local\/sc.names.lookup x=aa .cell
def Look(env:Env)(h:bV)(m:bn->Option au)(x:bn)(u:au):Prop:=
 (env.kindOf x=aa .local/\m x=aa u)\/((env.kindOf x=aa .cell\/env.kindOf x=aa .free)/\∃c,env.cells.lookup x=aa c/\h.IsCell c (aa u))
structure Cx.Ok(X:Cx):Prop where
 mod:Mod X.K X.mg X.base
 kind:X.env.scope.kind=.function
 glob:X.env.globals=bv
 blt:X.env.builtins=nr
 above:X.s₀.heap.objs.size<=X.env.locals
 inj:∀x y c,X.env.cells.lookup x=aa c->X.env.cells.lookup y=aa c->x=y
 has:∀x,(X.env.kindOf x=aa .cell\/X.env.kindOf x=aa .free)->∃c,X.env.cells.lookup x=aa c
 cab:∀x c,X.fn x=al->X.env.cells.lookup x=aa c->X.s₀.heap.objs.size<=c
 hd:X.calm=al->X.A.handled=ag
 frames:X.A.frames=aa X.stack
 stk:X.stack=X.outer\/(X.stack=X.env::X.outer/\X.env.frame=aa X.env.locals)
 exf:∀b∈X.ex,b≠X.env.locals/\∀x c,X.env.cells.lookup x=aa c->c≠b
 bs:∀b o,X.base.get? b=aa o->X.s₀.heap.get? b=aa o/\X.H₀ b=ag
 bsz:X.base.objs.size<=X.s₀.heap.objs.size
 noex:∀b o,X.base.get? b=aa o->b∉X.ex
 exfs:∀b∈X.ex,b∉X.fs
 funs:X.s₀.heap.FunFrames X.base X.outer
 frf:∀b∈X.fs,X.H₀ b=ag
structure Inv(X:Cx)(pq:List (aD×eW))(O:List (Option V))(H:Hp)(s:aA):Prop where
 ok:X.Ok
 os:s.os=X.s₀.os
 bare:im s.gens
 base:Un X.fs X.ex X.H₀ H X.s₀.heap s.heap
 loc:∃m,s.heap.Ns X.env.locals m/\∀(i:Nat)(x:bn)(v:V),X.N[i]?=aa x->O[i]?=aa (aa v)->Vis X.env.scope x->∃u,Zy v u/\Look X.env s.heap m x u
 cell:∀x c,X.env.cells.lookup x=aa c->∃v,s.heap.IsCell c v
 free:H X.env.locals=ag
 freeC:∀x c,X.env.cells.lookup x=aa c->H c=ag
 pin:∀p∈X.pn++pq,s.heap.get? p.1=aa p.2/\H p.1=ag/\p.1≠X.env.locals/\p.1∉X.fs/\∀v,p.2.data≠.cell v
 hok:HOk X.prog X.w H s.heap
 len:O.length=X.N.length
section
variable{X:Cx}{pq:List (aD×eW)}{O:List (Option V)}{H H':Hp}{s:aA}{h':bV}
def Cx.Ok.nofr(ok:X.Ok)(e:X.base.get? b=aa o):b∉X.fs:=λhb=>by
 have:=(ok.funs.mem hb).1;rw[e]at this;cases this
theorem Inv.bs(I:Inv X pq O H s):∀b o,X.base.get? b=aa o->s.heap.get? b=aa o/\H b=ag:=λb o e=>
 #[I.base.keep b o (I.ok.bs b o e).1 (I.ok.bs b o e).2 (I.ok.nofr e)<|I.ok.noex b o e,I.base.free b o (I.ok.bs b o e).1 (I.ok.bs b o e).2<|I.ok.noex b o e]
def Inv.bk(I:Inv X pq O H s):∀b o,X.base.get? b=aa o->s.heap.get? b=aa o:=λb o e=>(I.bs b o e).1
theorem Inv.mod(I:Inv X pq O H s):Mod X.K X.mg X.base:=I.ok.mod
def Inv.kIn(I:Inv X pq O H s):X.K.In s.heap:=I.ok.mod.kin.keeps I.bk
theorem Inv.lt(I:Inv X pq O H s):X.env.locals<s.heap.objs.size:=let #[_,hn,_]:=I.loc;hn.lt
def Inv.sz(I:Inv X pq O H s):X.s₀.heap.objs.size<=s.heap.objs.size:=cx I.ok.above<|gS I.lt
def Inv.nofs(I:Inv X pq O H s)(h:s.heap.objs.size<=a):a∉X.fs:=λhb=>by
 obtain⟨_,o,ho,_⟩:=I.ok.funs.mem hb;exact T7 (bi (aH ho)<|cx I.sz h)<|bw _
def Inv.cne(I:Inv X pq O H s):∀x c,X.env.cells.lookup x=aa c->c≠X.env.locals:=λx c e z=>by
 obtain⟨v,o,ho,hd⟩:=I.cell x c e;obtain⟨m,⟨o',es,ep,ho',hd',_⟩,_⟩:=I.loc;rw[z,ho']at ho;cases ho;rw[hd']at hd;cases hd
theorem Inv.funs(I:Inv X pq O H s):s.heap.FunFrames X.base X.outer:=by
 have all:∀(l:List Env),(∀b∈frs l,b∈X.fs)->X.s₀.heap.FunFrames X.base l->s.heap.FunFrames X.base l:=by
  intro l
  induction l with
  |nil=>intro _ _;trivial
  |cons env r ih=>
   intro hs hl;obtain⟨hk,⟨L,o,hf,hn,ho,hd⟩,hr⟩:=hl;have hL:=hs L (by unfold frs;rw[cn,hf];exact ak)
   obtain⟨sl,e⟩:=I.base.slot L o ho (I.ok.frf L hL) hL λz=>I.ok.exfs L z hL
   exact#[hk,#[L,_,hf,hn,e,hd],ih (λb hb=>hs b<|by unfold frs;rw[cn,hf];exact am _ hb) hr]
 exact all X.outer (λ_ hb=>hb) I.ok.funs
theorem Inv.stack(I:Inv X pq O H s):s.heap.FunFrames X.base X.stack:=by
 rcases I.ok.stk with e|⟨e,hf⟩
 .rw[e];exact I.funs
 .rw[e]
  obtain⟨m,hn,_⟩:=I.loc;refine .cons (by rw[I.ok.kind];decide) hf hn ?_ I.funs
  exact bV.get?_none_of_le<|cx I.ok.bsz I.ok.above
def Inv.stkSub(I:Inv X pq O H s):∀b∈frs X.stack,b∈X.env.locals::X.fs:=λb hb=>by
 rcases I.ok.stk with e|⟨e,hf⟩
 .rw[e]at hb;exact am _ hb
 .rw[e]at hb
  unfold frs at hb;rw[cn,hf]at hb;exact hb
def Inv.stkFree(I:Inv X pq O H s):∀b∈frs X.stack,H b=ag:=λb hb=>by
 rcases az.mp (I.stkSub b hb)with e|hb
 .rw[e];exact I.free
 .obtain⟨_,o,ho,_⟩:=I.ok.funs.mem hb
  exact I.base.free b o ho (I.ok.frf b hb) λz=>I.ok.exfs b z hb
def Inv.step{g':Array pF}{t':Nat}{d':Drawn}{ch:List aD}(I:Inv X pq O H s)
  (hch:∀b∈ch,(b∈X.ex\/X.s₀.heap.objs.size<=b)/\b≠X.env.locals/\(∀x c,X.env.cells.lookup x=aa c->c≠b)/\∀p∈X.pn++pq,p.1≠b)
  (keep:∀b o,b≠X.env.locals->b∉X.fs->b∉ch->s.heap.get? b=aa o->H b=ag->h'.get? b=aa o)
  (slot:∀b o,b≠X.env.locals->b∈X.fs->b∉ch->s.heap.get? b=aa o->H b=ag->∃sl,h'.get? b=aa {o with slots:=sl})(free:∀b o,b∉ch->s.heap.get? b=aa o->H b=ag->H' b=ag)
  (there:∀b o,b∉ch->s.heap.get? b=aa o->∃o',h'.get? b=aa o')
  (tups:∀b xs,H b=aa (.tup xs)->H' b=aa (.tup xs))(frzs:∀b o u,H b=aa (.frz o u)->H' b=aa (.frz o u))(tbls:∀b ps,H b=aa (.tbl ps)->∃more,H' b=aa (.tbl<|ps++more))
  (ns:∀m,s.heap.Ns X.env.locals m->h'.Ns X.env.locals m)(hok:HOk X.prog X.w H' h')(hg:im g') :
  Inv X pq O H' {s with heap:=h',gens:=g',drawn:=d',toks:=t' }:=by
 have neL:∀b o,X.s₀.heap.get? b=aa o->b≠X.env.locals:=λb o e=>bh<|bi (aH e) I.ok.above
 have neC:∀b o,X.s₀.heap.get? b=aa o->b∉X.ex->b∉ch:=λb o e hx hb=>by
  rcases(hch b hb).1 with z|z
  .exact hx z
  .exact T7 (bi (aH e) z)<|bw _
 have cellK:∀x c,X.env.cells.lookup x=aa c->∀v,s.heap.IsCell c v->h'.IsCell c v:=by
  rintro x c e v ⟨o,ho,hd⟩;have nch:=λz=>(hch c z).2.2.1 x c e rfl
  by_cases hc:c∈X.fs
  .obtain⟨sl,q⟩:=slot c o (I.cne x c e) hc nch ho (I.freeC x c e)
   exact#[_,q,hd]
  .exact#[o,keep c o (I.cne x c e) hc nch ho<|I.freeC x c e,hd]
 refine#[I.ok,I.os,hg,#[λb o e n hb hx=>?_,λb o e n hb hx=>?_,λb o e n hx=>?_,λb o e hx=>?_,λb xs e=>tups b xs<|I.base.tups b xs e,λb o xs e=>frzs b o xs<|I.base.frzs b o xs e,λb ps e=>?_],?_,λx c e=>?_,?_,λx c e=>?_,λp hp=>?_,hok,I.len]
 .exact keep b o (neL b o e) hb (neC b o e hx) (I.base.keep b o e n hb hx)<|I.base.free b o e n hx
 .obtain⟨sl,e1⟩:=I.base.slot b o e n hb hx
  obtain⟨sl',e2⟩:=slot b _ (neL b o e) hb (neC b o e hx) e1<|I.base.free b o e n hx;exact#[sl',e2]
 .obtain⟨o',e1⟩:=I.base.there b o e hx
  exact free b o' (neC b o e hx) e1<|I.base.free b o e n hx
 .obtain⟨o',e1⟩:=I.base.there b o e hx
  exact there b o' (neC b o e hx) e1
 .obtain⟨m1,e1⟩:=I.base.tbls b ps e
  obtain⟨m2,e2⟩:=tbls b _ e1;exact#[m1++m2,by rw[e2,nt]]
 .obtain⟨m,hn,hl⟩:=I.loc
  refine#[m,ns m hn,λi x v e1 e2 e3=>?_]
  obtain⟨u,r,l⟩:=hl i x v e1 e2 e3;refine#[u,r,?_];rcases l with l|⟨k,c,e,z⟩
  .exact .inl l
  .exact .inr #[k,c,e,cellK x c e _ z]
 .obtain⟨v,z⟩:=I.cell x c e
  exact#[v,cellK x c e v z]
 .obtain⟨m,⟨o,_,_,ho,_⟩,_⟩:=I.loc
  exact free _ o (λz=>(hch _ z).2.1 rfl) ho I.free
 .obtain⟨v,o,ho,hd⟩:=I.cell x c e
  exact free c o (λz=>(hch c z).2.2.1 x c e rfl) ho<|I.freeC x c e
 .obtain⟨e,n,ne,nf,d⟩:=I.pin p hp
  have nch:=λz=>(hch p.1 z).2.2.2 p hp rfl
  exact#[keep p.1 p.2 ne nf nch e n,free p.1 p.2 nch e n,ne,nf,d]
def Inv.un{t':Nat}(I:Inv X pq O H s)(u:Un X.fs [] H H' s.heap h')(hok:HOk X.prog X.w H' h'):Inv X pq O H' {s with heap:=h',toks:=t' }:=by
 obtain⟨m,⟨o,es,ep,ho,r⟩,_⟩:=id I.loc;obtain⟨sl,hL⟩:=u.any ho I.free #[2]
 exact I.step (g':=s.gens) (d':=s.drawn) (ch:=[]) (λ_ z=>nomatch z) (λb o _ hb _ e n=>u.keep b o e n hb<|by simp) (λb o _ hb _ e n=>u.slot b o e n hb<|by simp) (λb o _ e n=>u.free b o e n<|by simp) (λb o _ e=>u.there b o e<|by simp) u.tups u.frzs u.tbls (λm' hm=>by
  obtain⟨o',es',ep',ho',r'⟩:=hm;rw[ho]at ho';cases ho';exact#[_,es',ep',hL,r']) hok I.bare
def Inv.call{g':Array pF}{t':Nat}{d':Drawn}{ch:List aD}(I:Inv X pq O H s)(u:Un (frs X.stack) ch H H' s.heap h')(hok:HOk X.prog X.w H' h')(hg:im g')
  (hch:∀b∈ch,(b∈X.ex\/X.s₀.heap.objs.size<=b)/\b≠X.env.locals/\(∀x c,X.env.cells.lookup x=aa c->c≠b)/\∀p∈X.pn++pq,p.1≠b) :
  Inv X pq O H' {s with heap:=h',gens:=g',drawn:=d',toks:=t' }:=by
 obtain⟨m,⟨o,es,ep,ho,r⟩,_⟩:=id I.loc;obtain⟨sl,hL⟩:=u.any ho I.free λz=>(hch _ z).2.1 rfl
 exact I.step hch (λb o hL hb hc e n=>u.keep b o e n (λz=>(az.mp<|I.stkSub b z).elim hL hb) hc) (λb o _ _ hc e n=>u.any e n hc) (λb o hc e n=>u.free b o e n hc) (λb o hc e=>u.there b o e hc) u.tups u.frzs u.tbls (λm' hm=>by
  obtain⟨o',es',ep',ho',r'⟩:=hm;rw[ho]at ho';cases ho';exact#[_,es',ep',hL,r']) hok hg
def Inv.turned{t':Nat}{it:aD}(I:Inv X pq O H s)(k:∀b o,b≠it->s.heap.get? b=aa o->h'.get? b=aa o)(hn:H it=ag)(hL:it≠X.env.locals)
  (h1:it∈X.ex\/X.s₀.heap.objs.size<=it)(h2:∀x c,X.env.cells.lookup x=aa c->c≠it)(h3:∀p∈X.pn++pq,p.1≠it):Inv X pq O H {s with heap:=h',toks:=t' }:=by
 have nit:∀b u,H b=aa u->b≠it:=λb u e z=>by rw[z,hn]at e;cases e
 refine I.step (g':=s.gens) (d':=s.drawn) (ch:=[it]) (λb hb=>?_) (λb o _ _ hc e _=>k b o (λz=>hc<|by simp[z]) e) (λb o _ _ hc e _=>#[o.slots,k b o (λz=>hc<|by simp[z]) e]) (λ_ _ _ _ n=>n)
  (λb o hc e=>#[o,k b o (λz=>hc<|by simp[z]) e]) (λ_ _ e=>e) (λ_ _ _ e=>e) (λb ps e=>#[#[],by rw[e];simp]) (λm hm=>?_) (λb u e=>?_) I.bare
 .have e:b=it:=by simpa using hb
  subst e;exact#[h1,hL,h2,h3]
 .obtain⟨o,es,ep,ho,r⟩:=hm
  exact#[o,es,ep,k _ o (Ne.symm hL) ho,r]
 .refine(I.hok b u e).stay (λc v hc q=>k c v ?_ q) (λ_ q=>q) λ_ _ q=>q
  rcases hc with z|z
  .rw[z];exact nit b u e
  .exact nit c _ z
def Inv.tok(I:Inv X pq O H s)(t:Nat):Inv X pq O H {s with toks:=t}:=I.un (h':=s.heap) (t':=t) Un.refl I.hok
theorem Inv.kept(I:Inv X pq O H s)(k:∀b u,s.heap.get? b=aa u->h'.get? b=aa u):Inv X pq O H {s with heap:=h',toks:=t' }:=I.un (Un.kept k)<|I.hok.kept k
theorem Inv.laid(I:Inv X pq O H s)(k:∀b u,s.heap.get? b=aa u->h'.get? b=aa u)(hp:s.heap.objs.size<=a)(new:Z1 X.prog X.w (upd H a o) h' a o) :
  Inv X pq O (upd H a o) {s with heap:=h',toks:=t' }:=I.un (Un.laid k hp<|I.hok.fresh hp)<|I.hok.laid k hp new
theorem Inv.write(I:Inv X pq O H s)(mu:Mut (H x))(he:e=x\/H e=aa (.own x))(k:∀b u,b≠e->s.heap.get? b=aa u->h'.get? b=aa u)(heo:∃u,h'.get? e=aa u)
  (new:Z1 X.prog X.w (upd H x o) h' x o):Inv X pq O (upd H x o) {s with heap:=h',toks:=t' }:=I.un (Un.write mu he k heo)<|I.hok.write mu he k heo new
def Inv.pins_of(I:Inv X pq O H s)(h:∀p∈pins',s.heap.get? p.1=aa p.2/\H p.1=ag/\p.1≠X.env.locals/\p.1∉X.fs/\∀v,p.2.data≠.cell v):Inv X pins' O H s:=
 #[I.ok,I.os,I.bare,I.base,I.loc,I.cell,I.free,I.freeC,λp hp=>(cc.mp hp).elim (λz=>I.pin p<|c8 _ z)<|h p,I.hok,I.len]
def Uo{N:List bn}(hN:N.Nodup){i j:Nat}{x:bn}(a:N[i]?=aa x)(b:N[j]?=aa x):i=j:=by
 obtain⟨h1,e1⟩:=aK.mp a;obtain⟨h2,e2⟩:=aK.mp b;exact(List.getElem_inj hN).mp<|e1.trans e2.symm
def Q3{M:Model}{A:bU}{E:au->aA->Prop}{i:Nat}{x:bn}{v:V}{u:au}{Q:Unit->aA->Prop}(I:Inv X pq O H s)(hN:X.N.Nodup)(hi:X.N[i]?=aa x)(hx:Loc X.env.scope x)(r:Zy v u)
  (h:∀s',Inv X pq (O.set i<|aa v) H s'->(∃a,fe a s.heap s'.heap/\(a=X.env.locals\/X.env.cells.lookup x=aa a))->Q () s')(hf:X.fn x=al\/X.env.scope.names.lookup x=aa .local:=by first|exact .inl rfl|exact .inr rfl|assumption):aX M A (storeName X.env x u) Q E s:=by
 obtain⟨m,hn,hl⟩:=id I.loc;have hcls:(X.env.scope.kind == .class||(X.env.scope.kind == .module&&X.env.locals != X.env.globals))=aj:=by rw[I.ok.kind];rfl
 have hiσ:i<O.length:=by rw[I.len];exact(aK.mp hi).1
 have cne:=I.cne;have tracked:∀{a:aD}{h':bV},(∃o,s.heap.get? a=aa o/\H a=ag)->fe a s.heap h'->HOk X.prog X.w H h':=λ{a h'} ha hs b ob e=>by
  obtain⟨_,_,hfree⟩:=ha;refine(I.hok b ob e).stay (λc w' hc q=>(hs.2 c ?_).trans q) (λ_ q=>q) λ_ _ q=>q
  rintro rfl
  rcases hc with rfl|hc
  .rw[hfree]at e;cases e
  .rw[hfree]at hc;cases hc
 rcases hx with hk|hk
 .refine wpAny_storeName_local hk hn (λh' hn' hs=>?_) hcls
  obtain⟨oL,_,_,hoL,_⟩:=id hn;refine h _ #[I.ok,I.os,I.bare,#[λb o e n hb hx=>?_,λb o e n hb hx=>?_,I.base.free,λb o e hx=>?_,I.base.tups,I.base.frzs,I.base.tbls],#[_,hn',λj y v' e1 e2 e3=>?_],λy c e=>?_,I.free,I.freeC,λp hp=>?_,tracked #[oL,hoL,I.free] hs,by simpa using I.len] #[_,hs,.inl rfl]
  .exact(hs.2 b<|bh<|bi (aH e) I.ok.above).trans<|I.base.keep b o e n hb hx
  .obtain⟨sl,e1⟩:=I.base.slot b o e n hb hx
   exact#[sl,(hs.2 b<|bh<|bi (aH e) I.ok.above).trans e1]
  .obtain⟨o',e1⟩:=I.base.there b o e hx
   exact#[o',(hs.2 b<|bh<|bi (aH e) I.ok.above).trans e1]
  .by_cases hj:j=i
   .subst hj
    rw[hi]at e1;cases e1;rw[bc hiσ]at e2;cases e2;exact#[u,r,.inl #[hk,by simp]]
   .rw[a9<|Ne.symm hj]at e2
    obtain⟨u',r',q⟩:=hl j y v' e1 e2 e3;refine#[u',r',?_];rcases q with⟨k,e⟩|⟨k,c,e,z⟩
    .refine .inl #[k,?_]
     have:y≠x:=λe=>hj<|Uo hN e1<|e▸hi
     simp[this,e]
    .exact .inr #[k,c,e,z.sameBut hs<|cne y c e]
  .obtain⟨w',z⟩:=I.cell y c e
   exact#[w',z.sameBut hs<|cne y c e]
  .obtain⟨e,n,ne,nf,d⟩:=I.pin p hp
   exact#[(hs.2 p.1 ne).trans e,n,ne,nf,d]
 .have hfn:X.fn x=al:=by
   rcases hf with z|z
   .exact z
   .rw[z]at hk;cases hk
  obtain⟨c,hc⟩:=I.ok.has x<|.inl hk;obtain⟨w',z⟩:=I.cell x c hc;refine wpAny_storeName_cell I.ok.kind hk hc z λh' hc' hs=>?_
  obtain⟨oc,hoc,hocd⟩:=id z;refine h {s with heap:=h' } #[I.ok,I.os,I.bare,#[λb o e n hb hx=>?_,λb o e n hb hx=>?_,I.base.free,λb o e hx=>?_,I.base.tups,I.base.frzs,I.base.tbls],#[m,hn.sameBut hs<|Ne.symm<|cne x c hc,λj y v' e1 e2 e3=>?_],λy c' e=>?_,I.free,I.freeC,λp hp=>?_,tracked #[oc,hoc,I.freeC x c hc] hs,by simpa using I.len] #[c,hs,.inr hc]
  .exact(hs.2 b<|bh<|bi (aH e)<|I.ok.cab x c hfn hc).trans<|I.base.keep b o e n hb hx
  .obtain⟨sl,e1⟩:=I.base.slot b o e n hb hx
   exact#[sl,(hs.2 b<|bh<|bi (aH e)<|I.ok.cab x c hfn hc).trans e1]
  .obtain⟨o',e1⟩:=I.base.there b o e hx
   exact#[o',(hs.2 b<|bh<|bi (aH e)<|I.ok.cab x c hfn hc).trans e1]
  .by_cases hj:j=i
   .subst hj
    rw[hi]at e1;cases e1;rw[bc hiσ]at e2;cases e2;exact#[u,r,.inr #[.inl hk,c,hc,hc']]
   .rw[a9<|Ne.symm hj]at e2
    obtain⟨u',r',q⟩:=hl j y v' e1 e2 e3;refine#[u',r',?_];rcases q with q|⟨k,c',e,z'⟩
    .exact .inl q
    .refine .inr #[k,c',e,z'.sameBut hs ?_]
     rintro rfl
     exact hj<|Uo hN e1<|I.ok.inj _ _ _ e hc▸hi
  .by_cases hcc:c'=c
   .subst hcc;exact#[_,hc']
   .obtain⟨w2,z2⟩:=I.cell y c' e
    exact#[w2,z2.sameBut hs hcc]
  .obtain⟨e,n,ne,nf,d⟩:=I.pin p hp
   refine#[(hs.2 p.1 ?_).trans e,n,ne,nf,d];intro q;rw[q,hoc]at e;have q':=aq e;exact d w' (by rw[<-q'];exact hocd)
def Xv{E:au->aA->Prop}{Q:Unit->aA->Prop}(I:Inv X pq O H s)(hN:X.N.Nodup)(hi:X.N[i]?=aa x)(hx:Loc X.env.scope x)(r:Zy v u)
  (h:∀s',Inv X pq (O.set i<|aa v) H s'->Q () s')(hf:X.fn x=al\/X.env.scope.names.lookup x=aa .local:=by first|exact .inl rfl|exact .inr rfl|assumption):aX M A (storeName X.env x u) Q E s:=
 Q3 I hN hi hx r (λs' I' _=>h s' I') hf
def Inv.call'(I:Inv X pq O H s)(ho:s'.os=s.os)(u:Un (frs X.stack) ch H H' s.heap s'.heap)(hok:HOk X.prog X.w H' s'.heap)(hg:im s'.gens)
  (hch:∀b∈ch,(b∈X.ex\/X.s₀.heap.objs.size<=b)/\b≠X.env.locals/\(∀x c,X.env.cells.lookup x=aa c->c≠b)/\∀p∈X.pn++pq,p.1≠b):Inv X pq O H' s':=by
 obtain⟨h',g',d',t',o'⟩:=s';have e:=ho;subst e;exact I.call (g':=g') (t':=t') (d':=d') u hok hg hch
end
abbrev XK:=au->Option aD->Hp->Prop
abbrev St:=List<|Option V
abbrev VK:=V->Hp->Prop
abbrev TE:=St->Hp->VK->Prop
abbrev TT:=St->Hp->(Bool->Hp->Prop)->Prop
abbrev TA:=St->Hp->(List V->Hp->Prop)->Prop
structure Ends where
 nx:St->Hp->Prop
 rt:VK
 bk:St->Hp->Prop:=λ_ _=>False
 ct:St->Hp->Prop:=λ_ _=>False
abbrev TS:=Ends->St->Hp->Prop
def EP(X:Cx)(pq:List (aD×eW))(O:St)(Q:VK)(u:au)(s':aA):Prop:=∃v H',Inv X pq O H' s'/\Zy v u/\Q v H'
def TP(X:Cx)(pq:List (aD×eW))(O:St)(Q:Bool->Hp->Prop)(b:Bool)(s':aA):Prop:=∃H',Inv X pq O H' s'/\Q b H'
def AP(X:Cx)(pq:List (aD×eW))(O:St)(Q:List V->Hp->Prop)(us:List au)(s':aA):Prop:=∃vs H',Inv X pq O H' s'/\Vals vs us/\Q vs H'
def SP(X:Cx)(pq:List (aD×eW))(D:Ends)(f:Flow)(s':aA):Prop:=
 match f with
 |.next=>∃σ' H',Inv X pq σ' H' s'/\D.nx σ' H'
 |.brk=>∃σ' H',Inv X pq σ' H' s'/\D.bk σ' H'
 |.cont=>∃σ' H',Inv X pq σ' H' s'/\D.ct σ' H'
 |.ret u=>∃v σ' H',Inv X pq σ' H' s'/\Zy v u/\D.rt v H'
def PE(X:Cx)(e:Expr)(t:TE):Prop:=
 ∀(pq:List (aD×eW))(s:aA)(O:St)(H:Hp)(Q:VK),Inv X pq O H s->t O H Q->aX #[9] X.A (cD e X.env) (EP X pq O Q) X.xe s
def PT(X:Cx)(e:Expr)(t:TT):Prop:=
 ∀(pq:List (aD×eW))(s:aA)(O:St)(H:Hp)(Q:Bool->Hp->Prop),Inv X pq O H s->t O H Q->aX #[9] X.A (isTrue e X.env<|cD e X.env) (TP X pq O Q) X.xe s
def PW(X:Cx)(e:Expr)(t:TT):Prop:=
 ∀(whole:nO au)(pq:List (aD×eW))(s:aA)(O:St)(H:Hp)(Q:Bool->Hp->Prop),Inv X pq O H s->t O H Q->aX #[9] X.A (isTrue e X.env whole) (TP X pq O Q) X.xe s
def PW.pt(h:PW X e t):PT X e t:=h _
def PA(X:Cx)(es:List Expr)(t:TA):Prop:=
 ∀(pos:fD)(pq:List (aD×eW))(s:aA)(O:St)(H:Hp)(Q:List V->Hp->Prop),Inv X pq O H s->t O H Q->aX #[9] X.A (spliced<|dG pos<|aE es X.env) (AP X pq O Q) X.xe s
def PS(X:Cx)(st:ef)(t:TS):Prop:=
 ∀(pq:List (aD×eW))(s:aA)(O:St)(H:Hp)(D:Ends),Inv X pq O H s->t D O H->aX #[9] X.A (exec st X.env) (SP X pq D) X.xe s
def PSs(X:Cx)(st:List ef)(t:TS):Prop:=
 ∀(pq:List (aD×eW))(s:aA)(O:St)(H:Hp)(D:Ends),Inv X pq O H s->t D O H->aX #[9] X.A (execs st X.env) (SP X pq D) X.xe s
def thn{B:Type}{t:nO B}{Q Q':B->aA->Prop}{M:Model}{A:bU}{E:au->aA->Prop}{s:aA}(h:aX M A t Q E s)(hQ:∀a s,Q a s->Q' a s):aX M A t Q' E s:=dm h hQ λ_ _ x=>x
def yQ(i:Nat):TE:=λO H Q=>∃v,O[i]?=aa (aa v)/\Q v H
def tC(v:V):TE:=λ_ H Q=>Q v H
def Yo(hN:X.N[i]?=aa x)(hv:Vis X.env.scope x)(hd:(x == #[11])=aj:=by decide)(hcd:(x == #[16])=aj:=by decide):PE X (.Name x pos) (yQ i):=by
 intro pq s O H Q I h;obtain⟨v,e,h⟩:=h;obtain⟨m,hn,hl⟩:=I.loc;obtain⟨u,r,l⟩:=hl i x v hN e hv;have fin:EP X pq O Q u s:=#[v,H,I,r,h];rcases l with⟨hk,hm⟩|⟨hk,c,hc,hcell⟩
 .exact iW (iu I.ok.kind hk hn hm fin) hd
 .rcases hk with hk|hk
  .exact iW (iQ I.ok.kind hk hc hcell fin) hd
  .exact iW (mT I.ok.kind hk hc hcell fin hcd) hd
def Qm{i j pos}:PE X (.Constant (.int i) j pos) (tC<|.int i):=λ_ _ _ H _ I h=>wpAny_Constant_int #[.int i,H,I.tok _,#[_,rfl],h]
def w6{b j pos}:PE X (.Constant (.bool b) j pos) (tC<|.bl b):=λ_ _ _ H _ I h=>Constant_bool #[.bl b,H,I,rfl,h]
def xp{j pos}:PE X (.Constant .none j pos) (tC .non):=λ_ _ _ H _ I h=>Constant_none #[.non,H,I,rfl,h]
def ZaO{x j pos}:PE X (.Constant (.str x) j pos) (tC<|.str x):=λ_ _ _ H _ I h=>Calls.Constant_str #[.str x,H,I.tok _,#[_,rfl],h]
def Gl(X:Cx)(x:bn):Prop:=X.env.kindOf x=aa .globalImplicit
def WW{E:au->aA->Prop}{Q:au->aA->Prop}(I:Inv X pq O H s)(hg:Gl X x)(hm:X.mg x=aa u)(h:Q u s)
  (hd:(x == #[11])=aj:=by decide):aX #[9] X.A (cD (.Name x pos) X.env) Q E s:=
 Calls.Name_function_global I.ok.kind hg (Calls.loadGlobal_global (by rw[I.ok.glob];exact I.mod.glob.keeps I.bk) hm h) hd
def X1{E:au->aA->Prop}{Q:au->aA->Prop}(I:Inv X pq O H s)(hg:Gl X x)(hm:X.mg x=ag)(hv:db x=aa u)(h:Q u s)
  (hn:x≠"__name__":=by decide)(hd:(x == #[11])=aj:=by decide):aX #[9] X.A (cD (.Name x pos) X.env) Q E s:=by
 obtain⟨mb,h1,h2⟩:=I.mod.blt;exact Calls.Name_function_global I.ok.kind hg (Calls.loadGlobal_builtin (by rw[I.ok.glob];exact I.mod.glob.keeps I.bk) hm (by rw[I.ok.blt];exact h1.keeps I.bk) ((h2 x hn).trans hv) h) hd
def Zc7(hg:Gl X x)(hm:X.mg x=aa u)(r:Zy v u)(hd:(x == #[11])=aj:=by decide):PE X (.Name x pos) (tC v):=
 λ_ _ _ H _ I h=>WW I hg hm #[v,H,I,r,h] hd
def Uj(hg:Gl X x)(hm:X.mg x=ag)(hv:db x=aa u)(r:Zy v u)(hn:x≠"__name__":=by decide)(hd:(x == #[11])=aj:=by decide):PE X (.Name x pos) (tC v):=
 λ_ _ _ H _ I h=>X1 I hg hm hv #[v,H,I,r,h] hn hd
def PC(X:Cx)(op:rJ)(a b:Expr)(t:TE):Prop:=
 ∀(pq:List (aD×eW))(s:aA)(O:St)(H:Hp)(Q:VK),Inv X pq O H s->t O H Q->
  aX #[9] X.A (cD a X.env) (λv s₁=>aX #[9] X.A (cD b X.env) (λu s₂=>aX #[9] X.A (du op v u) (EP X pq O Q) X.xe s₂) X.xe s₁) X.xe s
def jJ(b:Expr)(h:op≠.In)(h2:op≠.NotIn):ei op b=aj:=by
 have e1:(op == rJ.In)=aj:=by cases op<;>first|rfl|exact T7 rfl h
 have e2:(op == rJ.NotIn)=aj:=by cases op<;>first|rfl|exact T7 rfl h2
 cases b<;>simp[ei,e1,e2]
def Zg9(ta:TE):TE:=λO H Q=>ta O H λx H1=>Q (.bl<|ai<|x=.non) H1
def Zy.none_iff(r:Zy x v):(v == bG)=ai (x=.non):=by
 cases x with|non=>cases r;rfl|bl _=>cases r;rfl|int _=>obtain⟨t,rfl⟩:=r;rfl|str _=>obtain⟨t,rfl⟩:=r;rfl|ref _=>cases r;rfl|ty _=>cases r;rfl
def ZfL{j pos'}(ha:PE X a ta):PC X .Is a (.Constant .none j pos') (Zg9 ta):=by
 intro pq s O H Q I h;refine thn (ha pq s O H _ I h) λv s1 #[x,H1,I1,r1,q1]=>?_
 exact Constant_none<|is_none_gen #[.bl _,H1,I1,by rw[r1.none_iff];rfl,q1]
def tB(t:TE):TT:=λO H Q=>t O H λx H1=>∃c,x=.bl c/\Q c H1
def Zex{op:rJ}{t:TE}(h:PC X op a b t)(h1:ei op b=aj:=by first|exact jJ _ #[1] #[1]|rfl):PT X (.Compare a [op] [b] pos) (tB t):=by
 intro pq s O H Q I hw;refine md (thn (h pq s O H _ I hw) λv s1 h1=>thn h1 λu s2 h2=>thn h2 λc s3 #[x,H1,I1,r1,q1]=>?_) h1
 obtain⟨d,rfl,q⟩:=q1;cases r1;exact d5 #[H1,I1,q]
def Zfw{e:Expr}{t:TE}(h:PE X e t)(he:∀whole,isTrue e X.env whole=(do let v <-whole;nQ e.pos;kC [v] (rB v)):=by intro _;rfl):PT X e (tB t):=by
 intro pq s O H Q I hw;refine isTrue_plain (thn (h pq s O H _ I hw) λv s1 #[x,H1,I1,r1,q1]=>?_)<|he _
 obtain⟨d,rfl,q⟩:=q1;cases r1;exact d5 #[H1,I1,q]
def tOr(t u:TT):TT:=λO H Q=>t O H λc H1=>if c=al then Q al H1 else u O H1 Q
def Zgj(t:TT):TT:=λO H Q=>t O H λc H1=>Q (!c) H1
def jv(ha:PT X a tA):PW X (.BoolOp .Or [a] pos) tA:=by
 intro wh pq s O H Q I h;refine isTrue_or<|thn (ha pq s O H Q I h) λc s1 e=>?_
 cases c with|false=>exact isTrue_or_nil e|true=>exact e
def Zd7(ha:PT X a tA)(hb:PW X (.BoolOp .Or (b::rest) pos) tB'):PW X (.BoolOp .Or (a::b::rest) pos) (tOr tA tB'):=by
 intro wh pq s O H Q I h;refine isTrue_or<|thn (ha pq s O H _ I h) λc s1 #[H1,I1,q1]=>?_
 cases c with|true=>exact#[H1,I1,q1]|false=>exact hb wh pq s1 O H1 Q I1 q1
def Zbv(ha:PT X a tA):PT X (.UnaryOp .Not a pos) (Zgj tA):=by
 intro pq s O H Q I h;exact isTrue_not<|ha pq s O H (λc H1=>Q (!c) H1) I h
def Zg1(ta tb:TE):TE:=λO H Q=>ta O H λx H1=>∃c,x=.bl c/\if c=al then tb O H1 Q else Q (.bl aj) H1
def Zft{op}{t:TE}(h:PE X a t):PE X (.BoolOp op [a] pos) t:=λpq s O H Q I hw=>BoolOp_one<|h pq s O H Q I hw
def Zfv(ha:PE X a ta)(hb:PE X (.BoolOp .And (b::rest) pos) tb):PE X (.BoolOp .And (a::b::rest) pos) (Zg1 ta tb):=by
 intro pq s O H Q I h;refine BoolOp_and<|thn (ha pq s O H _ I h) λv s1 #[x,H1,I1,r1,q1]=>?_
 obtain⟨c,rfl,q1⟩:=q1;cases r1;refine d5 ?_;cases c with|true=>exact hb pq s1 O H1 Q I1 q1|false=>exact#[.bl aj,H1,I1,rfl,q1]
def SqL(K:ao)(H:Hp)(a:aD)(xs:List V):Prop:=
 Rd H a (.lst xs)\/
  ∃(o:eW)(its:Array au)(n:Nat),K.lookup a=aa o/\o.cls=.type "list"/\o.dict=ag/\o.data=.seq its n/\its.size<=aW/\Vals xs its.toList
def SqT(K:ao)(H:Hp)(a:aD)(xs:List V):Prop:=
 Rd H a (.tup xs)\/
  ∃(o:eW)(its:Array au)(n:Nat),K.lookup a=aa o/\o.cls=.type "tuple"/\o.data=.seq its n/\its.size<=aW/\Vals xs its.toList
noncomputable def Zhx:au->Option V
 |.none=>aa .non
 |.bool b=>aa<|.bl b
 |.int i _=>aa<|.int i
 |.str x _=>aa<|.str x
 |.ref a=>aa<|.ref a
 |.type n=>aa<|.ty n
 |_=>ag
def Zy.abs(r:Zy x u):Zhx u=aa x:=by
 cases x with|non=>cases r;rfl|bl _=>cases r;rfl|int _=>obtain⟨t,rfl⟩:=r;rfl|str _=>obtain⟨t,rfl⟩:=r;rfl|ref _=>cases r;rfl|ty _=>cases r;rfl
def Zy.inj{x y:V}{u:au}(r:Zy x u)(q:Zy y u):x=y:=aq<|r.abs.symm.trans q.abs
theorem Vals.inj:∀{xs ys:List V}{us:List au},Vals xs us->Vals ys us->xs=ys
 |_,_,_,.nil,.nil=>rfl
 |_,_,_,.cons r t,.cons r' t'=>by rw[r.inj r',Vals.inj t t']
def SqL.of{K:ao}(h:H a=aa (.lst xs)):SqL K H a xs:=.inl<|.inl h
def SqT.of{K:ao}(h:H a=aa (.tup xs)):SqT K H a xs:=.inl<|.inl h
def Inv.list(I:Inv X pq O H s)(h:SqL X.K H a xs):∃its:List au,Vals xs its/\PlainL s.heap a its.toArray/\xs.length<=aW:=by
 rcases h with h|⟨o,its,n,hk,hc,hd,hs,hz,r⟩
 .obtain⟨z,its,n,r,e⟩:=h.ok I.hok
  exact#[its,r,#[_,n,e,rfl,rfl,rfl],z]
 .refine#[its.toList,r,#[o,n,I.kIn a o hk,hc,hd,by simpa using hs],?_]
  have e:=r.length;simp only[aN]at e;lia
def Inv.tuple(I:Inv X pq O H s)(h:SqT X.K H a xs):∃its:List au,Vals xs its/\nP s.heap a its.toArray/\xs.length<=aW:=by
 rcases h with h|⟨o,its,n,hk,hc,hs,hz,r⟩
 .obtain⟨z,its,r,p⟩:=h.ok I.hok
  exact#[its,r,p,z]
 .refine#[its.toList,r,#[o,I.kIn a o hk,hc,n,by simpa using hs],?_]
  have e:=r.length;simp only[aN]at e;lia
def Inv.list_inj(I:Inv X pq O H s)(h:SqL X.K H a xs)(h':SqL X.K H a ys):xs=ys:=by
 obtain⟨its,r,⟨o,n,e,_,_,d⟩,_⟩:=I.list h;obtain⟨its',r',⟨o',n',e',_,_,d'⟩,_⟩:=I.list h';rw[e]at e';cases e';rw[d]at d';injection d' with d1 _
 have:its=its':=by simpa using congrArg nS d1
 subst this;exact r.inj r'
def Inv.tuple_inj(I:Inv X pq O H s)(h:SqT X.K H a xs)(h':SqT X.K H a ys):xs=ys:=by
 obtain⟨its,r,⟨o,e,_,n,d⟩,_⟩:=I.tuple h;obtain⟨its',r',⟨o',e',_,n',d'⟩,_⟩:=I.tuple h';rw[e]at e';cases e';rw[d]at d';injection d' with d1 _
 have:its=its':=by simpa using congrArg nS d1
 subst this;exact r.inj r'
section
variable{X:Cx}{st:ef}{rest:List ef}{t u:TS}{e:Expr}{te:TE}{pos:fD}
def ZaN:TS:=λD O H=>D.nx O H
def xK(t u:TS):TS:=λD O H=>t {D with nx:=u D} O H
def JF:PSs X [] ZaN:=λ_ _ O H _ I h=>fw #[O,H,I,h]
def YC(h1:PS X st t)(h2:PSs X rest u):PSs X (st::rest) (xK t u):=by
 intro pq s O H D I h;refine fV<|thn (h1 pq s O H {D with nx:=u D} I h) λf s1 q=>?_
 cases f with
 |next=>
  obtain⟨σ',H',I',q⟩:=q;exact h2 pq s1 σ' H' D I' q
 |ret v=>exact q
 |brk=>exact q
 |cont=>exact q
def Ul(h1:PS X st t):PSs X [st] t:=by
 intro pq s O H D I h;refine fV<|thn (h1 pq s O H D I h) λf s1 q=>?_
 cases f with|next=>exact fw q|ret v=>exact q|brk=>exact q|cont=>exact q
def Inv.quiet(I:Inv X pq O H s):interactive X.env=aj:=by simp[interactive,I.ok.kind]
def Zd9(te:TE):TS:=λD O H=>te O H λ_ H1=>D.nx O H1
def Um(he:PE X e te)(hs:ej e ag pos.line X.env=cy aj:=by rfl):PS X (.Expr e pos) (Zd9 te):=by
 intro pq s O H D I h;exact wpAny_Expr_any (thn (he pq s O H _ I h)<|by rintro v s1 ⟨x,H1,I1,r1,q1⟩;exact #[O,H1,I1,q1]) I.quiet hs
def ZcN(te:TE):TS:=λD O H=>te O H D.rt
def UN(he:PE X e te):PS X (.Return (aa e) pos) (ZcN te):=by
 intro pq s O H D I h;exact wpAny_Return_some<|thn (he pq s O H _ I h)<|by rintro v s1 ⟨x,H1,I1,r1,q1⟩;exact #[x,O,H1,I1,r1,q1]
def ZeP(c:TT)(t u:TS):TS:=λD O H=>c O H λb H1=>if b=al then t D O H1 else u D O H1
def ZaJ{c:Expr}{a b:List ef}{tc:TT}(hc:PT X c tc)(ha:PSs X a t)(hb:PSs X b u):PS X (.If c a b pos) (ZeP tc t u):=by
 intro pq s O H D I h;refine wpAny_If<|thn (hc pq s O H _ I h) λd s1 #[H1,I1,q1]=>?_
 cases d with|true=>exact ha pq s1 O H1 D I1 q1|false=>exact hb pq s1 O H1 D I1 q1
end
abbrev TG:=V->St->Hp->(St->Hp->Prop)->Prop
abbrev TGs:=List V->St->Hp->(St->Hp->Prop)->Prop
def PG(X:Cx)(target:Expr)(t:TG):Prop:=
 ∀(pq:List (aD×eW))(s:aA)(O:St)(H:Hp)(v:V)(u:au)(Q:St->Hp->Prop),Inv X pq O H s->Zy v u->t v O H Q->
  aX #[9] X.A (assign target X.env u) (λ_ s'=>∃σ' H',Inv X pq σ' H' s'/\Q σ' H') X.xe s
def PGs(X:Cx)(ts:List Expr)(t:TGs):Prop:=
 ∀(pq:List (aD×eW))(s:aA)(O:St)(H:Hp)(vs:List V)(us:List au)(Q:St->Hp->Prop),Inv X pq O H s->Vals vs us->t vs O H Q->
  aX #[9] X.A (mZ ((cf ts X.env).map (·.2)) us) (λ_ s'=>∃σ' H',Inv X pq σ' H' s'/\Q σ' H') X.xe s
abbrev TSet:=V->V->V->Hp->(Hp->Prop)->Prop
def PSet(X:Cx)(t:TSet):Prop:=
 ∀(pq:List (aD×eW))(s:aA)(O:St)(H:Hp)(o i v:V)(ov iv u:au)(Q:Hp->Prop),Inv X pq O H s->Zy o ov->Zy i iv->Zy v u->t o i v H Q->
  aX #[9] X.A (rE ov iv u) (λ_ s'=>∃H',Inv X pq O H' s'/\Q H') X.xe s
abbrev TIp:=V->V->Hp->VK->Prop
def PIp(X:Cx)(op:pG)(t:TIp):Prop:=
 ∀(pq:List (aD×eW))(s:aA)(O:St)(H:Hp)(x y:V)(v u:au)(Q:VK),Inv X pq O H s->Zy x v->Zy y u->t x y H Q->
  aX #[9] X.A (inplaceOp op v u) (EP X pq O Q) X.xe s
def z7(i:Nat):TG:=λv O H Q=>Q (O.set i<|aa v) H
def J7(hN:X.N.Nodup)(hi:X.N[i]?=aa x)(hx:Loc X.env.scope x)(hf:X.fn x=al\/X.env.scope.names.lookup x=aa .local:=by first|exact .inl rfl|exact .inr rfl|assumption):PG X (.Name x pos) (z7 i):=by
 intro pq s O H v u Q I r h;exact nU<|Xv I hN hi hx r (λs' I'=>#[_,H,I',h]) hf
def ZhB:TGs:=λvs O H Q=>vs=[]/\Q O H
def ZgR(t:TG)(u:TGs):TGs:=λvs O H Q=>∃v r,vs=v::r/\t v O H λσ' H'=>u r σ' H' Q
def ZbJ:PGs X [] ZhB:=by
 intro pq s O H vs us Q I r h;obtain⟨e,h⟩:=h;subst e;cases r;exact nV #[O,H,I,h]
def Zbf{e:Expr}{es:List Expr}{t:TG}{u:TGs}(h1:PG X e t)(h2:PGs X es u)
  (hs:(cf (e::es) X.env).map (·.2)=assign e X.env::(cf es X.env).map (·.2):=by rfl):PGs X (e::es) (ZgR t u):=by
 intro pq s O H vs us Q I r h;obtain⟨v,vr,e1,h⟩:=h;subst e1;cases r with
 |cons r rr=>
  rw[hs];refine iX<|thn (h1 pq s O H _ _ _ I r h) λ_ s1 #[σ1,H1,I1,q1]=>?_
  exact h2 pq s1 σ1 H1 _ _ Q I1 rr q1
def Zho(K:ao)(n:Nat)(t:TGs):TG:=λv O H Q=>∃a xs,v=.ref a/\SqT K H a xs/\xs.length=n/\t xs O H Q
def ZfT(hc:X.calm=al)(h:PGs X es t)
  (hn:(cf es X.env).length=n:=by rfl)(hst:(cf es X.env).findIdx? (·.1)=ag:=by rfl):PG X (.Tuple es k pos) (Zho X.K n t):=by
 intro pq s O H v u Q I r hw;obtain⟨a,xs,e1,hq,hl,hw⟩:=hw;subst e1;cases r;obtain⟨its,rv,ht,hz⟩:=I.tuple hq;refine assign_Tuple_tuple (I.ok.hd hc) ht (by simp[hn,<-hl,rv.length]) hst λh' hx=>?_
 have I1:=I.kept (t':=s.toks) λb o e=>hx b o (bh<|aH e) e
 exact h pq _ O H xs _ Q I1 (by simpa using rv) hw
def ZhM(to ti:TE)(t:TSet):TG:=λv O H Q=>to O H λo H1=>ti O H1 λi H2=>t o i v H2 λH3=>Q O H3
def Zfn{o i:Expr}{to ti:TE}{t:TSet}(ho:PE X o to)(hi:PE X i ti)(hs:PSet X t)
  (ha:∀v,assign (.Subscript o i pos) X.env v=(do
   let ov <-kC [v] (cD o X.env)
   let iv <-kC [v,ov] (cD i X.env)
   nQ pos
   kC [v,ov,iv] (rE ov iv v)
   release [v,ov,iv] []):=by intro _;rfl):PG X (.Subscript o i pos) (ZhM to ti t):=by
 intro pq s O H v u Q I r h;rw[ha];refine ae<|bT<|thn (ho pq s O H _ I h) λov s1 #[x,H1,I1,r1,q1]=>?_
 refine ae<|bT<|thn (hi pq s1 O H1 _ I1 q1) λiv s2 #[y,H2,I2,r2,q2]=>?_
 refine ae<|gz<|ae<|bT<|thn (hs pq s2 O H2 x y v ov iv u _ I2 r1 r2 r q2) λ_ s3 #[H3,I3,q3]=>?_
 exact wpAny_release #[O,H3,I3,q3]
def qE(te:TE)(g:TG):TS:=λD O H=>te O H λx H1=>g x O H1 D.nx
def XU{tg e:Expr}{te:TE}{g:TG}(he:PE X e te)(hg:PG X tg g)(hs:dy [tg] e pos.line X.env=cy aj:=by rfl)(hw:dz [tg] e X.env=cy ag:=by rfl)
  (h1:(cf [tg] X.env).map (·.2)=[assign tg X.env]:=by rfl):PS X (.Assign [tg] e pos) (qE te g):=by
 intro pq s O H D I h;refine wpAny_Assign_stores (thn (he pq s O H _ I h) λv s1 #[x,H1,I1,r1,q1]=>?_) hs hw
 rw[h1];exact thn (hg pq s1 O H1 x v _ I1 r1 q1) λ_ s2 q=>q
def UQ{i:Nat}{x:bn}{e:Expr}{te:TE}{pos':fD}(hN:X.N.Nodup)(hi:X.N[i]?=aa x)(hx:Loc X.env.scope x)(he:PE X e te)(hs:ej e (aa<|.Name x pos') pos.line X.env=cy aj:=by rfl)(hf:X.fn x=al\/X.env.scope.names.lookup x=aa .local:=by first|exact .inl rfl|exact .inr rfl|assumption) :
  PS X (.Assign [.Name x pos'] e pos) (qE te<|z7 i):=by
 intro pq s O H D I h;refine wpAny_Assign_Name (thn (he pq s O H _ I h) λv s1 #[y,H1,I1,r1,q1]=>?_) hs
 exact Xv I1 hN hi hx r1 (λs2 I2=>#[_,H1,I2,q1]) hf
def ZhJ(i j:Nat)(ta:TA):TS:=λD O H=>ta O H λvs H1=>∃v w,vs=[v,w]/\D.nx ((O.set i<|aa v).set j<|aa w) H1
def ZeF{i j:Nat}{x y:bn}{a b:Expr}{ta:TA}{px py pt:fD}{kt k2 pt2}(hc:X.calm=al)(hN:X.N.Nodup)(hi:X.N[i]?=aa x)(hj:X.N[j]?=aa y)(hij:i≠j)
  (hx:X.env.scope.names.lookup x=aa .local)(hy:X.env.scope.names.lookup y=aa .local)(ha:PA X [a,b] ta)
  (hw:dz [.Tuple [.Name x px,.Name y py] kt pt] (.Tuple [a,b] k2 pt2) X.env=cy (aa [x,y]))
  (hs:dy [.Tuple [.Name x px,.Name y py] kt pt] (.Tuple [a,b] k2 pt2) pos.line X.env=cy aj:=by rfl) :
  PS X (.Assign [.Tuple [.Name x px,.Name y py] kt pt] (.Tuple [a,b] k2 pt2) pos) (ZhJ i j ta):=by
 intro pq s O H D I h;rw[exec_Assign_arm];refine ae<|gz ?_;rw[hs];refine ae<|aB ?_;rw[T8 #[1]]
 refine ae<|Tuple_<|thn (ha _ pq s O H _ I h) λus s1 #[vs,H1,I1,r1,q1]=>?_
 obtain⟨v,w,e1,q1⟩:=q1;subst e1;obtain⟨u1,u2,rfl,rv,rw'⟩:∃u1 u2,us=[u1,u2]/\Zy v u1/\Zy w u2:=by
  cases r1 with
  |cons p q=>
   cases q with
   |cons p' q'=>
    cases q';exact#[_,_,rfl,p,p']
 refine bC ?_ (by show 2<=aW;decide)
 have I2:Inv X pq O H1 {s1 with heap:=s1.heap.push {cls:=.type "tuple",data:=.seq [u1,u2].toArray}}:=I1.kept (t':=s1.toks) λb o e=>av _ e
 rw[hw];refine ae<|aB ?_;show aX #[9] X.A (do nY "assign.swapped-stores";let items <-unpackItems (.ref s1.heap.objs.size) 2 ag;mZ [λv=>bindName X.env y v,λv=>bindName X.env x v] items.reverse;cy Flow.next) _ _ _
 refine ae<|fJ<|ae<|unpackItems_tuple (items:=[u1,u2].toArray) (I.ok.hd hc) (h9 s1.heap _) λh' hx'=>?_
 have I3:=I2.kept (h':=h') (t':=s1.toks) λb o e=>hx' b o (bh<|aH e) e
 refine ae<|iX<|wpAny_bindName<|Xv I3 hN hj (.inl hy) rw' (λs2 I4=>?_)<|.inr hy
 refine iX<|wpAny_bindName<|Xv I4 hN hi (.inl hx) rv (λs3 I5=>nV<|aB ?_)<|.inr hx
 rw[List.set_comm _ _<|Ne.symm hij]at I5;exact#[_,H1,I5,q1]
def ZhH(i:Nat)(te:TE)(ti:TIp):TS:=λD O H=>∃x,O[i]?=aa (aa x)/\te O H λy H1=>ti x y H1 λz H2=>D.nx (O.set i<|aa z) H2
def ZfS{i:Nat}{x:bn}{e:Expr}{te:TE}{op:pG}{ti:TIp}{pos':fD}(hN:X.N.Nodup)(hi:X.N[i]?=aa x)(hx:Loc X.env.scope x)(he:PE X e te)(ho:PIp X op ti)(hf:X.fn x=al\/X.env.scope.names.lookup x=aa .local:=by first|exact .inl rfl|exact .inr rfl|assumption) :
  PS X (.AugAssign (.Name x pos') op e pos) (ZhH i te ti):=by
 intro pq s O H D I h;obtain⟨v,e1,h⟩:=h;obtain⟨m,hn,hl⟩:=I.loc;have vis:Vis X.env.scope x:=by rcases hx with k|k;exact .inl k;exact .inr<|.inl k
 obtain⟨u,r,l⟩:=hl i x v hi e1 vis;refine wpAny_AugAssign_Name ?_;have go:aX #[9] X.A (cD e X.env) (λw s₂=>aX #[9] X.A (inplaceOp op u w) (λr s₃=>aX #[9] X.A (storeName X.env x r) (λ_=>SP X pq D .next) X.xe s₃) X.xe s₂) X.xe s:=by
  refine thn (he pq s O H _ I h) λw s1 #[y,H1,I1,r1,q1]=>?_
  refine thn (ho pq s1 O H1 v y u w _ I1 r r1 q1) λz s2 #[zv,H2,I2,r2,q2]=>?_
  exact Xv I2 hN hi hx r2 (λs3 I3=>#[_,H2,I3,q2]) hf
 rcases l with⟨hk,hm⟩|⟨hk,c,hc,hcell⟩
 .exact iu I.ok.kind hk hn hm go
 .rcases hk with hk|hk
  .exact iQ I.ok.kind hk hc hcell go
  .rcases hx with k|k
   .have:X.env.scope.names.lookup x=aa .free:=hk
    rw[k]at this;cases this
   .have:X.env.scope.names.lookup x=aa .free:=hk
    rw[k]at this;cases this
section
variable{X:Cx}{pos:fD}
def Zf3(c:TT)(tb:TS):TS:=λD O H=>∃W:Nat->St->Hp->Prop,(∃m,W m O H)/\∀m O H,W m O H->
 c O H λb H1=>if b=al then ∃N:St->Hp->Prop,(∀σ' H',N σ' H'->∃m',m'<m/\W m' σ' H')/\tb {D with nx:=N,ct:=N,bk:=D.nx} O H1 else D.nx O H1
def ZaM{c:Expr}{body:List ef}{tc:TT}{tb:TS}(hp:mP #[9] X.A X.env X.xe)(hc:PT X c tc)(hb:PSs X body tb):PS X (.While c body [] pos) (Zf3 tc tb):=by
 intro pq s O H D I h;obtain⟨W,⟨m0,w0⟩,turn⟩:=h;refine wpAny_While<|codeAny_whileLoop (λn s'=>∃σ' H',Inv X pq σ' H' s'/\W n σ' H') ?_ m0 #[O,H,I,w0]
 rintro n s1 ⟨σ1,H1,I1,w1⟩
 refine eL hp<|thn (hc pq s1 σ1 H1 _ I1<|turn n σ1 H1 w1) λb s2 #[H2,I2,q2]=>?_
 cases b with
 |true=>
  obtain⟨N,hN,q2⟩:=q2;rw[T9 rfl];refine eL hp<|thn (hb pq s2 σ1 H2 _ I2 q2) λf s3 q3=>?_
  cases f with
  |next=>
   obtain⟨σ3,H3,I3,n3⟩:=q3;obtain⟨m',hm,w3⟩:=hN σ3 H3 n3;exact#[m',hm,σ3,H3,I3,w3]
  |cont=>
   obtain⟨σ3,H3,I3,n3⟩:=q3;obtain⟨m',hm,w3⟩:=hN σ3 H3 n3;exact#[m',hm,σ3,H3,I3,w3]
  |brk=>exact q3
  |ret v=>exact q3
 |false=>
  rw[T8 aO];exact fw #[σ1,H2,I2,q2]
end
structure It where
 go:Nat->Hp->Prop
 yld:Nat->Hp->V->Hp->Prop
 stop:Nat->Hp->Prop
def Vk(X:Cx)(pq:List (aD×eW))(H:Hp)(b:aD):Prop:=
 H b=ag/\b≠X.env.locals/\b∉X.fs/\(b∈X.ex\/X.s₀.heap.objs.size<=b)/\(∀x c,X.env.cells.lookup x=aa c->c≠b)/\∀p∈X.pn++pq,p.1≠b
def Inv.fpOk(I:Inv X pq O H s)(hb:s.heap.objs.size<=b)(hn:H' b=ag):Vk X pq H' b:=by
 refine#[hn,eN<|bi I.lt hb,I.nofs hb,.inr<|cx I.sz hb,λx c e z=>?_,λp hp z=>?_]
 .obtain⟨v,q⟩:=I.cell x c e
  exact T7 (bi q.lt<|by rw[z];exact hb)<|bw _
 .exact T7 (bi (aH (I.pin p hp).1)<|by rw[z];exact hb)<|bw _
structure Turn(P:bt)(w:bN)(K:ao)(tg:Expr)(J:It)(fp:List aD)(it:aD)(tn:Nat->bV->Prop):Prop where
 mem:it∈fp
 obj:∀i h,tn i h->∀b∈fp,∃o,h.get? b=aa o/\∀v,o.data≠.cell v
 keep:∀i h h',tn i h->(∀b∈fp,∀o,h.get? b=aa o->h'.get? b=aa o)->tn i h'
 item:∀(X:Cx),X.prog=P->X.w=w->X.K=K->X.calm=al->∀(i:Nat)(pq:List (aD×eW))(s:aA)(O:St)(H:Hp)(E:au->aA->Prop),Inv X pq O H s->(∀b∈fp,Vk X pq H b)->tn i s.heap->J.go i H->
  aX (aT P w) X.A (mw<|.ref it) (λr s1=>∃u,r=aa u/\
   aX (aT P w) X.A (l0 tg (.ref it) u) (λ_ s2=>∃x H',Inv X pq O H' s2/\Zy x u/\J.yld i H x H'/\tn (i+1) s2.heap/\∀b∈fp,H' b=ag) E s1) E s
 done:∀(X:Cx),X.prog=P->X.w=w->X.K=K->X.calm=al->∀(i:Nat)(pq:List (aD×eW))(s:aA)(O:St)(H:Hp)(E:au->aA->Prop),Inv X pq O H s->(∀b∈fp,Vk X pq H b)->tn i s.heap->J.stop i H->
  aX (aT P w) X.A (mw<|.ref it) (λr s1=>r=ag/\Inv X pq O H s1) E s
 self:∀(A:bU)(i:Nat)(s:aA)(Q:au->aA->Prop)(E:au->aA->Prop),tn i s.heap->Q (.ref it) s->aX (aT P w) A (rF<|.ref it) Q E s
abbrev TI:=St->Hp->(It->Hp->Prop)->Prop
def PIE(X:Cx)(pq:List (aD×eW))(O:St)(tg:Expr)(R:It->Hp->Prop)(itv:au)(s2:aA):Prop:=
 ∃(it:aD)(fp:List aD)(tn:Nat->bV->Prop)(J:It)(H':Hp),itv=.ref it/\Inv X pq O H' s2/\Turn X.prog X.w X.K tg J fp it tn/\tn 0 s2.heap/\(∀b∈fp,Vk X pq H' b)/\R J H'
def PI(X:Cx)(tg iter:Expr)(wi:TI):Prop:=
 ∀(pq:List (aD×eW))(s:aA)(O:St)(H:Hp)(R:It->Hp->Prop),Inv X pq O H s->wi O H R->
  aX #[9] X.A (cD iter X.env) (λv s1=>aX #[9] X.A (rF v) (PIE X pq O tg R) X.xe s1) X.xe s
def Za5{E:au->aA->Prop}{Q:Unit->aA->Prop}(ho:s.heap.get? it=aa o)(hc:o.cls=.type n)(hd:o.data=.fields vs)
  (hn:["enumerate","zip","dict_itemiterator","dict_reverseitemiterator","odict_iterator","itertools.zip_longest","itertools.pairwise"].contains n=aj)(hQ:Q () s):aX M A (l0 tg (.ref it) u) Q E s:=by
 cases tg<;>first
  |exact aB hQ
  |(cases u<;>first
    |exact aB hQ
    |(refine ae (iY ho ?_)
      rw[hc,hd];show aX M A (if(["enumerate","zip","dict_itemiterator","dict_reverseitemiterator","odict_iterator","itertools.zip_longest","itertools.pairwise"].contains n&&vs[0]? == aa (gw _))=al then _ else _) Q E s
      rw[T8 (by intro h;rw[hn,my]at h;cases h)]
      exact aB hQ))
noncomputable def Itl(K:ao)(a:aD):It:=
 #[λi H=>∃xs x,SqL K H a xs/\xs[i]?=aa x,λi H x H'=>H'=H/\∀xs,SqL K H a xs->xs[i]?=aa x,λi H=>∃xs,SqL K H a xs/\xs.length<=i]
noncomputable def Itt(K:ao)(a:aD):It:=
 #[λi H=>∃xs x,SqT K H a xs/\xs[i]?=aa x,λi H x H'=>H'=H/\∀xs,SqT K H a xs->xs[i]?=aa x,λi H=>∃xs,SqT K H a xs/\xs.length<=i]
noncomputable def Itr(lo:Int)(n:Nat):It:=#[λi _=>i<n,λi H x H'=>H'=H/\x=.int (lo+i),λi _=>n<=i]
def uy{P:bt}{w:bN}{K:ao}{tg:Expr}(a it:aD):Turn P w K tg (Itl K a) [it] it (λi h=>h.IsListIter it a i) where
 mem:=by simp
 obj:=λi h st b hb=>by
  have e:b=it:=by simpa using hb
  subst e;obtain⟨o,e,c,d⟩:=st;exact#[o,e,λv z=>by rw[d]at z;cases z]
 keep:=λi h h' st k=>st.at λo e=>k it #[2] o e
 item:=by
  intro X hP hw hK hc i pq s O H E I hf st hg;subst hP hw hK;obtain⟨xs,x,hq,hx⟩:=hg;obtain⟨its,rv,p,hz⟩:=I.list hq;obtain⟨u,hu,ru⟩:=rv.get hx;obtain⟨f0,f1,f2,f3,f4,f5⟩:=hf it #[2]
  refine lI st p.isList (by simpa using hu) λh' st' sb=>?_
  have I1:=I.turned (t':=s.toks) (λb o hb e=>(sb.2 b hb).trans e) f0 f1 f3 f4 f5
  obtain⟨o,e,c,d⟩:=id st';exact#[u,rfl,Za5 e c d #[1] #[x,H,I1,ru,#[rfl,λys hy=>by rw[I.list_inj hy hq];exact hx],st',λb hb=>(hf b hb).1]]
 done:=by
  intro X hP hw hK hc i pq s O H E I hf st hg;subst hP hw hK;obtain⟨xs,hq,hx⟩:=hg;obtain⟨its,rv,p,hz⟩:=I.list hq;obtain⟨f0,f1,f2,f3,f4,f5⟩:=hf it #[2]
  have hl:=rv.length;exact me (I.ok.hd hc) st p.isList (by simp;lia) λh' eb=>#[rfl,I.turned (t':=s.toks) (λb o hb e=>eb b o hb e) f0 f1 f3 f4 f5]
 self:=λ_ _ _ _ _ st h=>wpAny_pyIter_listiter st h
def yI{P:bt}{w:bN}{K:ao}{tg:Expr}(a it:aD):Turn P w K tg (Itt K a) [it] it (λi h=>h.IsTupleIter it a i) where
 mem:=by simp
 obj:=λi h st b hb=>by
  have e:b=it:=by simpa using hb
  subst e;obtain⟨o,e,c,d⟩:=st;exact#[o,e,λv z=>by rw[d]at z;cases z]
 keep:=λi h h' st k=>st.at λo e=>k it #[2] o e
 item:=by
  intro X hP hw hK hc i pq s O H E I hf st hg;subst hP hw hK;obtain⟨xs,x,hq,hx⟩:=hg;obtain⟨its,rv,p,hz⟩:=I.tuple hq;obtain⟨u,hu,ru⟩:=rv.get hx;obtain⟨f0,f1,f2,f3,f4,f5⟩:=hf it #[2]
  refine wpAny_pyNext_tuple_item st (p) (by simpa using hu) λh' st' sb=>?_
  have I1:=I.turned (t':=s.toks) (λb o hb e=>(sb.2 b hb).trans e) f0 f1 f3 f4 f5
  obtain⟨o,e,c,d⟩:=id st';exact#[u,rfl,Za5 e c d #[1] #[x,H,I1,ru,#[rfl,λys hy=>by rw[I.tuple_inj hy hq];exact hx],st',λb hb=>(hf b hb).1]]
 done:=by
  intro X hP hw hK hc i pq s O H E I hf st hg;subst hP hw hK;obtain⟨xs,hq,hx⟩:=hg;obtain⟨its,rv,p,hz⟩:=I.tuple hq;obtain⟨f0,f1,f2,f3,f4,f5⟩:=hf it #[2]
  have hl:=rv.length;exact wpAny_pyNext_tuple_end (I.ok.hd hc) st (p) (by simp;lia) λh' eb=>#[rfl,I.turned (t':=s.toks) (λb o hb e=>eb b o hb e) f0 f1 f3 f4 f5]
 self:=λ_ _ _ _ _ st h=>wpAny_pyIter_tupleiter st h
def xN{P:bt}{w:bN}{K:ao}{tg:Expr}(it:aD)(lo:Int)(n:Nat):Turn P w K tg (Itr lo n) [it] it (λi h=>IsRangeIter h it (lo+(i:Nat)*1) ((n:Int)-(i:Nat)) 1) where
 mem:=by simp
 obj:=λi h st b hb=>by
  have e:b=it:=by simpa using hb
  subst e;exact#[_,st,λv z=>by
   have z':=z;cases z']
 keep:=λi h h' st k=>k it #[2] _ st
 item:=by
  intro X hP hw hK hc i pq s O H E I hf st hg;subst hP hw hK;obtain⟨f0,f1,f2,f3,f4,f5⟩:=hf it #[2]
  have W:=Walks.range (prog:=X.prog) (w:=X.w) (I.ok.hd hc) it lo 1 n;refine W.item i s _ _ hg st λv h' tk hv st' kk=>?_
  obtain⟨t,rfl⟩:=hv;have I1:Inv X pq O H {s with heap:=h',toks:=tk}:=I.turned (λb o hb e=>kk b o (by simpa using hb) e) f0 f1 f3 f4 f5
  refine#[_,rfl,Za5 st' rfl rfl #[1] #[.int<|lo+i,H,I1,#[t,?_],#[rfl,rfl],st',λb hb=>(hf b hb).1]]
  rw[Int.mul_one]
 done:=by
  intro X hP hw hK hc i pq s O H E I hf st hg;subst hP hw hK;obtain⟨f0,f1,f2,f3,f4,f5⟩:=hf it #[2]
  exact wpAny_pyNext_range_end (I.ok.hd hc) st (by have:n<=i:=hg;lia) λh' eb=>#[rfl,I.turned (t':=s.toks) (λb o hb e=>eb b o hb e) f0 f1 f3 f4 f5]
 self:=λ_ _ _ _ _ st h=>wpAny_pyIter_rangeiter st h
section
variable{X:Cx}{tg:Expr}
theorem zW{pq:List (aD×eW)}{O:St}{H:Hp}{s:aA}{R:It->Hp->Prop}{E:au->aA->Prop}{lo hi:Int}{t u v:rm}{tk:Nat}(I:Inv X pq O H s)(h1:-(2^62)<=lo)(h2:lo<2^62)(h3:-(2^62)<=hi)(h4:hi<2^62)
  (q:R (Itr lo (hi-lo).toNat) H):aX #[9] X.A (rF<|.ref s.heap.objs.size) (PIE X pq O tg R) E {s with heap:=s.heap.push {cls:=.type "range",data:=.fields [.int lo t,.int hi u,.int 1 v].toArray},toks:=tk}:=by
 refine wpAny_pyIter_range (IsRange.new ..) (small_one h1 h2 h3 h4) ?_;have I1:Inv X pq O H {s with heap:=s.heap.push {cls:=.type "range",data:=.fields [.int lo t,.int hi u,.int 1 v].toArray},toks:=tk}:=I.kept λb o e=>av _ e
 refine#[(s.heap.push {cls:=.type "range",data:=.fields [.int lo t,.int hi u,.int 1 v].toArray}).objs.size,[(s.heap.push {cls:=.type "range",data:=.fields [.int lo t,.int hi u,.int 1 v].toArray}).objs.size],_,_,H,rfl,
  I1.kept (t':=tk) λb o e=>av _ e,xN _ lo (hi-lo).toNat,?_,λb hb=>?_,q]
 .have e1:lo+((0:Nat):Int)*1=lo:=by simp
  have e2:(((hi-lo).toNat:Nat):Int)-((0:Nat):Int)=eQ.Range.rangeSize lo hi 1:=by rw[rangeSize_one];split<;>lia
  rw[e1,e2];exact aM _ rfl
 .have e:b=(s.heap.push {cls:=.type "range",data:=.fields [.int lo t,.int hi u,.int 1 v].toArray}).objs.size:=by simpa using hb
  subst e;exact I1.fpOk (aF _)<|I1.hok.fresh<|aF _
def ZgM(ta:TA):TI:=λO H R=>ta O H λvs H1=>∃j:Int,vs=[.int j]/\-(2^62)<=j/\j<2^62/\R (Itr 0 j.toNat) H1
def ZgQ(ta:TA):TI:=λO H R=>ta O H λvs H1=>∃i j:Int,vs=[.int i,.int j]/\(-(2^62)<=i/\i<2^62/\-(2^62)<=j/\j<2^62)/\R (Itr i (j-i).toNat) H1
theorem uo{a:Expr}{ta:TA}{p pos:fD}(hg:Gl X "range")(hm:X.mg "range" = ag)(ha:PA X [a] ta)(hs:aE [a] X.env=[(aj,cD a X.env)]:=by rfl):PI X tg (.Call (.Name "range" p) [a] [] pos) (ZgM ta):=by
 intro pq s O H R I h;refine Call_<|X1 I hg hm boot_range<|dF (thn (ha pos pq s O H _ I h) λus s1 #[vs,H1,I1,r1,q1]=>?_) hs rfl
 obtain⟨j,e,q1,q2,q⟩:=q1;subst e;cases r1 with
 |cons r rr=>
  cases rr;obtain⟨t,rfl⟩:=r;exact call_range_1<|zW I1 #[0] #[0] q1 q2 (by simpa using q)
def uZ{a b:Expr}{ta:TA}{p pos:fD}(hg:Gl X "range")(hm:X.mg "range" = ag)(ha:PA X [a,b] ta)(hs:aE [a,b] X.env=[(aj,cD a X.env),(aj,cD b X.env)]:=by rfl)(hs2:aE [b] X.env=[(aj,cD b X.env)]:=by rfl) :
  PI X tg (.Call (.Name "range" p) [a,b] [] pos) (ZgQ ta):=by
 intro pq s O H R I h;refine Call_<|X1 I hg hm boot_range<|dF (thn (ha pos pq s O H _ I h) λus s1 #[vs,H1,I1,r1,q1]=>?_) (by rw[hs,hs2]) (by rw[hs2];rfl)
 obtain⟨i,j,e,⟨q1,q2,q3,q4⟩,q⟩:=q1;subst e;cases r1 with
 |cons r rr=>
  cases rr with
  |cons r' rr=>
   cases rr;obtain⟨t,rfl⟩:=r;obtain⟨t',rfl⟩:=r';exact call_range_2<|zW I1 q1 q2 q3 q4 q
def Zhq(wi:TI)(g:TG)(tb:TS):TS:=λD O H=>wi O H λJ H1=>∃W:Nat->Nat->St->Hp->Prop,(∃m,W 0 m O H1)/\∀i m O H,W i m O H->
 (J.stop i H/\D.nx O H)\/(J.go i H/\∃N:St->Hp->Prop,(∀σ' H',N σ' H'->∃m',m'<m/\W (i+1) m' σ' H')/\∀x H',J.yld i H x H'->g x O H' λσ2 H2=>tb {D with nx:=N,ct:=N,bk:=D.nx} σ2 H2)
noncomputable def UC(fp:List aD)(h:bV):List (aD×eW):=fp.filterMap λb=>(h.get? b).map λo=>(b,o)
def XC(hb:b∈fp)(e:h.get? b=aa o):(b,o)∈UC fp h:=nv.mpr #[b,hb,by rw[e];rfl]
def uM(hp:p∈UC fp h):p.1∈fp/\h.get? p.1=aa p.2:=by
 obtain⟨b,hb,e⟩:=nv.mp hp;cases q:h.get? b with
 |none=>rw[q]at e;cases e
 |some o=>
  rw[q]at e;have e':=aq e;subst e';exact#[hb,q]
def Inv.pinned(I:Inv X pq O H s)(hf:∀b∈fp,Vk X pq H b)(ho:∀b∈fp,∃o,s.heap.get? b=aa o/\∀v,o.data≠.cell v):Inv X (pq++UC fp s.heap) O H s:=
 I.pins_of λp hp=>(cc.mp hp).elim (λz=>I.pin p<|bq _ z) λz=>by
  obtain⟨hb,e⟩:=uM z;obtain⟨f0,f1,f2,_⟩:=hf p.1 hb;obtain⟨o,e',d⟩:=ho p.1 hb;rw[e]at e';cases e';exact#[e,f0,f1,f2,d]
def Inv.unpinned(I:Inv X (pq++pl) O H s):Inv X pq O H s:=I.pins_of λp hp=>I.pin p<|bq _<|c8 _ hp
def ZaF{iter:Expr}{body:List ef}{wi:TI}{g:TG}{tb:TS}{pos:fD}(hp:mP #[9] X.A X.env X.xe)(hc:X.calm=al)(hi:PI X tg iter wi)(hg:PG X tg g)(hb:PSs X body tb)
  (hs:∀x,dH iter X.env x=cy x:=by intro _;rfl):PS X (.For tg iter body [] pos) (Zhq wi g tb):=by
 intro pq s O H D I h;refine wpAny_For (thn (hi pq s O H _ I h) λv s1 h1=>thn h1 λitv s2 h2=>?_) hs
 obtain⟨it,fp,tn,J,H2,e,I2,T,st2,f2,W,⟨m0,w0⟩,turn⟩:=h2;subst e;have stat:∀{H':Hp},(∀b∈fp,H' b=ag)->∀b∈fp,Vk X pq H' b:=λhn b hb=>#[hn b hb,(f2 b hb).2]
 refine codeAny_forLoop_any (λn s'=>∃i σ' H',Inv X pq σ' H' s'/\tn i s'.heap/\(∀b∈fp,H' b=ag)/\W i n σ' H') ?_ m0 #[0,O,H2,I2,st2,λb hb=>(f2 b hb).1,w0]
 rintro n s3 ⟨i,σ3,H3,I3,st3,fr3,w3⟩
 rcases turn i n σ3 H3 w3 with⟨stop,qn⟩|⟨go,N,hN,step⟩
 .refine eL hp (thn (T.done X rfl rfl rfl hc i pq s3 σ3 H3 X.xe I3 (stat fr3) st3 stop) λr s4 #[hr,I4]=>?_)
  subst hr;exact fw #[σ3,H3,I4,qn]
 .refine eL hp (thn (T.item X rfl rfl rfl hc i pq s3 σ3 H3 X.xe I3 (stat fr3) st3 go) λr s4 #[u,hr,h4]=>?_)
  subst hr;refine eL hp<|thn h4 λ_ s5 #[x,H5,I5,r5,y5,st5,fr5]=>?_
  have I5':=I5.pinned (stat fr5)<|T.obj _ _ st5;refine eL hp<|thn (hg _ s5 σ3 H5 x u _ I5' r5<|step x H5 y5) λ_ s6 #[σ6,H6,I6,q6]=>?_
  refine eL hp<|thn (hb _ s6 σ6 H6 _ I6 q6) λf s7 q7=>?_
  have rK:∀{σ7:St}{H7:Hp},Inv X (pq++UC fp s5.heap) σ7 H7 s7->N σ7 H7->∃m,m<n/\∃i σ' H',Inv X pq σ' H' s7/\tn i s7.heap/\(∀b∈fp,H' b=ag)/\W i m σ' H':=λ{σ7 H7} I7 n7=>by
   obtain⟨m',hm,w7⟩:=hN σ7 H7 n7;refine#[m',hm,i+1,σ7,H7,I7.unpinned,T.keep _ _ _ st5 λb hb o e=>(I7.pin (b,o)<|bq _<|bq _<|XC hb e).1,λb hb=>?_,w7]
   obtain⟨o,e,d⟩:=T.obj _ _ st5 b hb;exact(I7.pin (b,o)<|bq _<|bq _<|XC hb e).2.1
  cases f with|next=>obtain⟨σ7,H7,I7,n7⟩:=q7;exact rK I7 n7|cont=>obtain⟨σ7,H7,I7,n7⟩:=q7;exact rK I7 n7|brk=>obtain⟨σ7,H7,I7,q7⟩:=q7;exact#[σ7,H7,I7.unpinned,q7]|ret v=>obtain⟨x7,σ7,H7,I7,r7,q7⟩:=q7;exact#[x7,σ7,H7,I7.unpinned,r7,q7]
end
abbrev R2:=V->V->Hp->VK->Prop
def OpR(X:Cx)(f:au->au->nO au)(r:R2):Prop:=
 ∀(pq:List (aD×eW))(s:aA)(O:St)(H:Hp)(x y:V)(v u:au)(Q:VK),Inv X pq O H s->Zy x v->Zy y u->r x y H Q->
  aX #[9] X.A (f v u) (EP X pq O Q) X.xe s
def UnR(X:Cx)(f:au->nO au)(r:V->Hp->VK->Prop):Prop:=
 ∀(pq:List (aD×eW))(s:aA)(O:St)(H:Hp)(x:V)(v:au)(Q:VK),Inv X pq O H s->Zy x v->r x H Q->
  aX #[9] X.A (f v) (EP X pq O Q) X.xe s
def ZJ(X:Cx)(f:au)(r:List V->Hp->VK->Prop):Prop:=
 ∀(pq:List (aD×eW))(s:aA)(O:St)(H:Hp)(xs:List V)(us:List au)(Q:VK),Inv X pq O H s->Vals xs us->r xs H Q->
  aX #[9] X.A (call f us) (EP X pq O Q) X.xe s
def Zhp(X:Cx)(r:V->Hp->(Bool->Hp->Prop)->Prop):Prop:=
 ∀(pq:List (aD×eW))(s:aA)(O:St)(H:Hp)(x:V)(v:au)(Q:Bool->Hp->Prop),Inv X pq O H s->Zy x v->r x H Q->
  aX #[9] X.A (rB v) (TP X pq O Q) X.xe s
def tOp(r:R2)(ta tb:TE):TE:=λO H Q=>ta O H λx H1=>tb O H1 λy H2=>r x y H2 Q
def tUn(r:V->Hp->VK->Prop)(ta:TE):TE:=λO H Q=>ta O H λx H1=>r x H1 Q
def rI(C:Int->Int->Prop)(g:Int->Int->V):R2:=λx y H Q=>∃i j,x=.int i/\y=.int j/\C i j/\Q (g i j) H
def rI0(g:Int->Int->V):R2:=λx y H Q=>∃i j,x=.int i/\y=.int j/\Q (g i j) H
def rU(g:Int->V):V->Hp->VK->Prop:=λx H Q=>∃i,x=.int i/\Q (g i) H
def Zey(ha:PE X a ta)(hb:PE X b tb){pq:List (aD×eW)}{s:aA}{O:St}{H:Hp}{R:V->V->Hp->Prop}(I:Inv X pq O H s)
  (h:ta O H λx H1=>tb O H1 λy H2=>R x y H2){Q:au->aA->Prop}{f:au->au->nO au}
  (hf:∀v u s2 x y H2,Inv X pq O H2 s2->Zy x v->Zy y u->R x y H2->aX #[9] X.A (f v u) Q X.xe s2) :
  aX #[9] X.A (cD a X.env) (λv s₁=>aX #[9] X.A (cD b X.env) (λu s₂=>aX #[9] X.A (f v u) Q X.xe s₂) X.xe s₁) X.xe s:=by
 refine thn (ha pq s O H _ I h) λv s1 #[x,H1,I1,r1,q1]=>?_
 refine thn (hb pq s1 O H1 _ I1 q1) λu s2 #[y,H2,I2,r2,q2]=>?_
 exact hf v u s2 x y H2 I2 r1 r2 q2
def W0(ho:OpR X (eO op) r)(ha:PE X a ta)(hb:PE X b tb):PE X (.BinOp a op b pos) (tOp r ta tb):=by
 intro pq s O H Q I h;exact wpAny_BinOp<|Zey ha hb I h λv u s2 x y H2 I2 rx ry q=>ho pq s2 O H2 x y v u Q I2 rx ry q
def ZdJ{op:UnaryOp}{r:V->Hp->VK->Prop}(ho:UnR X (unaryOp op) r)(ha:PE X a ta):PE X (.UnaryOp op a pos) (tUn r ta):=by
 intro pq s O H Q I h;exact UnaryOp_<|thn (ha pq s O H _ I h)<|by rintro v s1 ⟨x,H1,I1,r1,q1⟩;exact ho pq s1 O H1 x v Q I1 r1 q1
def opI{f:au->au->nO au}{C:Int->Int->Prop}{g:Int->Int->Int}
  (nY:∀(i j:Int)(t u:rm)(s:aA)(Q:au->aA->Prop)(E:au->aA->Prop),C i j->Q (.int (g i j) s.toks) {s with toks:=s.toks+1}->aX #[9] X.A (f (.int i t)<|.int j u) Q E s) :
  OpR X f (rI C λi j=>.int<|g i j):=by
 intro pq s O H x y v u Q I rx ry h;obtain⟨i,j,rfl,rfl,hc,q⟩:=h;obtain⟨t,rfl⟩:=rx;obtain⟨t',rfl⟩:=ry;exact nY i j t t' s _ _ hc #[.int<|g i j,H,I.tok _,#[_,rfl],q]
def Ze6{f:au->au->nO au}{g:Int->Int->Int}
  (nY:∀(i j:Int)(t u:rm)(s:aA)(Q:au->aA->Prop)(E:au->aA->Prop),Q (.int (g i j) s.toks) {s with toks:=s.toks+1}->aX #[9] X.A (f (.int i t)<|.int j u) Q E s) :
  OpR X f (rI0 λi j=>.int<|g i j):=by
 intro pq s O H x y v u Q I rx ry h;obtain⟨i,j,rfl,rfl,q⟩:=h;obtain⟨t,rfl⟩:=rx;obtain⟨t',rfl⟩:=ry;exact nY i j t t' s _ _ #[.int<|g i j,H,I.tok _,#[_,rfl],q]
def ZbY{f:au->au->nO au}{g:Int->Int->Bool}
  (nY:∀(i j:Int)(t u:rm)(s:aA)(Q:au->aA->Prop)(E:au->aA->Prop),Q (.bool<|g i j) s->aX #[9] X.A (f (.int i t)<|.int j u) Q E s) :
  OpR X f (rI0 λi j=>.bl<|g i j):=by
 intro pq s O H x y v u Q I rx ry h;obtain⟨i,j,rfl,rfl,q⟩:=h;obtain⟨t,rfl⟩:=rx;obtain⟨t',rfl⟩:=ry;exact nY i j t t' s _ _ #[.bl<|g i j,H,I,rfl,q]
def CPow(i j:Int):Prop:=0<=j/\j<=1000000/\i.natAbs<2^64
def Ze7:OpR X (eO .Add) (rI0 λi j=>.int<|i+j):=Ze6 λ_ _ _ _ _ _ _ q=>add_int q
def ZeH:OpR X (eO .Sub) (rI0 λi j=>.int<|i-j):=Ze6 λ_ _ _ _ _ _ _ q=>sub_int q
def Zev:OpR X (eO .Mod) (rI (λ_ j=>0<j) λi j=>.int<|i%j):=opI λi j _ _ _ _ _ hc q=>by
 have h1:=hc;exact mod_int' #[0] (by rw[Int.fmod_eq_emod_of_nonneg i #[0]];exact q)
def ZeI:OpR X (eO .Pow) (rI CPow λi j=>.int<|i^j.toNat):=opI λ_ _ _ _ _ _ _ hc q=>pow_int_small hc.1 hc.2.1 hc.2.2 q
def ZbQ:OpR X (inplaceOp .Add) (rI0 λi j=>.int<|i+j):=Ze6 λ_ _ _ _ _ _ _ q=>iadd_int q
def unI{f:au->nO au}{g:Int->Int}
  (nY:∀(i:Int)(t:rm)(s:aA)(Q:au->aA->Prop)(E:au->aA->Prop),Q (.int (g i) s.toks) {s with toks:=s.toks+1}->aX #[9] X.A (f<|.int i t) Q E s) :
  UnR X f (rU λi=>.int<|g i):=by
 intro pq s O H x v Q I rx h;obtain⟨i,rfl,q⟩:=h;obtain⟨t,rfl⟩:=rx;exact nY i t s _ _ #[.int<|g i,H,I.tok _,#[_,rfl],q]
def ZaP:UnR X (unaryOp .USub) (rU λi=>.int<|-i):=unI λ_ _ _ _ _ q=>neg_int q
noncomputable def scal:V->V->Bool
 |.non,.non=>al|.non,.int _=>al|.int _,.non=>al|.non,.bl _=>al|.bl _,.non=>al|.non,.str _=>al|.str _,.non=>al
 |.int _,.int _=>al|.bl _,.bl _=>al|.str _,.str _=>al
 |.int _,.str _=>al|.str _,.int _=>al|.bl _,.str _=>al|.str _,.bl _=>al
 |_,_=>aj
def rEq:R2:=λx y H Q=>scal x y=al/\Q (.bl<|ai<|x=y) H
def rNe:R2:=λx y H Q=>scal x y=al/\Q (.bl<|!decide (x=y)) H
def wE :ai (V.int i=V.int j)=(i == j):=by
 rw[cR];simp
def js :ai (V.bl i=V.bl j)=(i == j):=by
 rw[cR];simp
def vF :ai (V.str i=V.str j)=(i == j):=by
 rw[cR];simp
section
variable{X:Cx}{a b c:Expr}{ta tb tc:TE}{pos:fD}
def ZI(I:Inv X pq O H s)(q:Q (.bl k) H)(e:k=k'):EP X pq O Q (.bool k') s:=by
 subst e;exact#[.bl k,H,I,rfl,q]
def Zgy:OpR X (du .Eq) rEq:=by
 intro pq s O H x y v u Q I rx ry h;obtain⟨hs,q⟩:=h;cases x with
 |non=>
  cases rx;cases y with|non=>cases ry;exact PySem.EqNone.eq_none_none<|ZI I q #[2]|bl j=>cases ry;exact PySem.EqNone.eq_none_bool<|ZI I q #[2]|int j=>obtain⟨t',rfl⟩:=ry;exact PySem.EqNone.eq_none_int<|ZI I q #[2]|str j=>obtain⟨t',rfl⟩:=ry;exact PySem.EqNone.eq_none_str<|ZI I q #[2]|_=>exact T7 (hs) aO
 |bl i=>
  cases rx;cases y with|non=>cases ry;exact PySem.EqNone.eq_bool_none<|ZI I q #[2]|bl j=>cases ry;exact eq_bool<|ZI I q js|str j=>obtain⟨t',rfl⟩:=ry;exact PySem.EqMixed.eq_bool_str<|ZI I q #[2]|_=>exact T7 (hs) aO
 |int i=>
  obtain⟨t,rfl⟩:=rx;cases y with|non=>cases ry;exact PySem.EqNone.eq_int_none<|ZI I q #[2]|int j=>obtain⟨t',rfl⟩:=ry;exact eq_int<|ZI I q wE|str j=>obtain⟨t',rfl⟩:=ry;exact PySem.EqMixed.eq_int_str<|ZI I q #[2]|_=>exact T7 (hs) aO
 |str i=>
  obtain⟨t,rfl⟩:=rx;cases y with|non=>cases ry;exact PySem.EqNone.eq_str_none<|ZI I q #[2]|bl j=>cases ry;exact PySem.EqMixed.eq_str_bool<|ZI I q #[2]|int j=>obtain⟨t',rfl⟩:=ry;exact PySem.EqMixed.eq_str_int<|ZI I q #[2]|str j=>obtain⟨t',rfl⟩:=ry;exact eq_str<|ZI I q vF|_=>exact T7 (hs) aO
 |_=>cases y<;>exact T7 (hs) aO
def Zg0:OpR X (du .NotEq) rNe:=by
 intro pq s O H x y v u Q I rx ry h;obtain⟨hs,q⟩:=h;cases x with
 |non=>
  cases rx;cases y with|non=>cases ry;exact PySem.EqNone.ne_none_none<|ZI I q #[2]|bl j=>cases ry;exact PySem.EqNone.ne_none_bool<|ZI I q #[2]|int j=>obtain⟨t',rfl⟩:=ry;exact PySem.EqNone.ne_none_int<|ZI I q #[2]|str j=>obtain⟨t',rfl⟩:=ry;exact PySem.EqNone.ne_none_str<|ZI I q #[2]|_=>exact T7 (hs) aO
 |bl i=>
  cases rx;cases y with|non=>cases ry;exact PySem.EqNone.ne_bool_none<|ZI I q #[2]|bl j=>cases ry;exact ne_bool<|ZI I q<|congrArg not js|str j=>obtain⟨t',rfl⟩:=ry;exact PySem.EqMixed.ne_bool_str<|ZI I q #[2]|_=>exact T7 (hs) aO
 |int i=>
  obtain⟨t,rfl⟩:=rx;cases y with|non=>cases ry;exact PySem.EqNone.ne_int_none<|ZI I q #[2]|int j=>obtain⟨t',rfl⟩:=ry;exact ne_int<|ZI I q<|congrArg not wE|str j=>obtain⟨t',rfl⟩:=ry;exact PySem.EqMixed.ne_int_str<|ZI I q #[2]|_=>exact T7 (hs) aO
 |str i=>
  obtain⟨t,rfl⟩:=rx;cases y with|non=>cases ry;exact PySem.EqNone.ne_str_none<|ZI I q #[2]|bl j=>cases ry;exact PySem.EqMixed.ne_str_bool<|ZI I q #[2]|int j=>obtain⟨t',rfl⟩:=ry;exact PySem.EqMixed.ne_str_int<|ZI I q #[2]|str j=>obtain⟨t',rfl⟩:=ry;exact ne_str<|ZI I q<|congrArg not vF|_=>exact T7 (hs) aO
 |_=>cases y<;>exact T7 (hs) aO
def Zgm:OpR X (du .Lt) (rI0 λi j=>.bl<|ai<|i<j):=ZbY λ_ _ _ _ _ _ _ q=>lt_int q
def Zhk:OpR X (du .LtE) (rI0 λi j=>.bl<|ai<|i<=j):=ZbY λ_ _ _ _ _ _ _ q=>le_int q
def Zhg:OpR X (du .Gt) (rI0 λi j=>.bl<|ai<|j<i):=ZbY λ_ _ _ _ _ _ _ q=>gt_int q
def Zg3:OpR X (du .GtE) (rI0 λi j=>.bl<|ai<|j<=i):=ZbY λ_ _ _ _ _ _ _ q=>ge_int q
def ZfI:OpR X (du .Is) (λx y H Q=>y=.non/\Q (.bl<|ai<|x=.non) H):=by
 intro pq s O H x y v u Q I rx ry h;obtain⟨rfl,q⟩:=h;cases ry;refine is_none_gen<|ZI I q ?_;cases x<;>first
  |(cases rx;rfl)
  |(obtain⟨t,rfl⟩:=rx;rfl)
def OpR.or(h:OpR X f r)(h':OpR X f r'):OpR X f (λx y H Q=>r x y H Q\/r' x y H Q):=by
 intro pq s O H x y v u Q I rx ry q;rcases q with q|q
 .exact h pq s O H x y v u Q I rx ry q
 .exact h' pq s O H x y v u Q I rx ry q
def Zeu(b:Expr)(h:op≠.In:=by decide)(h2:op≠.NotIn:=by decide):ei op b=aj:=by
 have e1:(op == rJ.In)=aj:=by cases op<;>first|rfl|exact T7 rfl h
 have e2:(op == rJ.NotIn)=aj:=by cases op<;>first|rfl|exact T7 rfl h2
 cases b<;>simp[ei,e1,e2]
def ZcX(ho:OpR X (du op) r)(ha:PE X a ta)(hb:PE X b tb)(hm:ei op b=aj):PE X (.Compare a [op] [b] pos) (tOp r ta tb):=by
 intro pq s O H Q I h;exact wpAny_Compare1 (Zey ha hb I h λv u s2 x y H2 I2 rx ry q=>ho pq s2 O H2 x y v u Q I2 rx ry q) hm
def Zgo(t:TE):TT:=λO H Q=>t O H λx H'=>∃k,x=.bl k/\Q k H'
def Zdq(ho:OpR X (du op) r)(ha:PE X a ta)(hb:PE X b tb)(hm:ei op b=aj):PT X (.Compare a [op] [b] pos) (Zgo<|tOp r ta tb):=by
 intro pq s O H Q I h;refine md (thn (ha pq s O H _ I h) λv s1 #[x,H1,I1,r1,q1]=>thn (hb pq s1 O H1 _ I1 q1) λu s2 #[y,H2,I2,r2,q2]=>
  thn (ho pq s2 O H2 x y v u _ I2 r1 r2 q2) λc s3 #[z,H3,I3,r3,k,e,q3]=>?_) hm
 subst e;cases r3;exact d5 #[H3,I3,q3]
def Zek(r r':R2)(ta tb tc:TE):TE:=λO H Q=>ta O H λx H1=>tb O H1 λy H2=>r x y H2 λz H3=>∃k,z=.bl k/\
 (if k=al then tc O H3 λw' H4=>r' y w' H4 Q else Q (.bl aj) H3)
def qz(ho:OpR X (du op) r)(ho':OpR X (du op') r')(ha:PE X a ta)(hb:PE X b tb)(hc:PE X c tc)
  (hm:lastMarks [op,op'] [b,c]=aj:=by with_unfolding_all rfl):PE X (.Compare a [op,op'] [b,c] pos) (Zek r r' ta tb tc):=by
 intro pq s O H Q I h;refine Compare_chain (thn (ha pq s O H _ I h) λv s1 #[x,H1,I1,r1,q1]=>chain_link (thn (hb pq s1 O H1 _ I1 q1) λu s2 #[y,H2,I2,r2,q2]=>
  thn (ho pq s2 O H2 x y v u _ I2 r1 r2 q2) λd s3 #[z,H3,I3,r3,k,e,q3]=>?_)) hm
 subst e;cases r3;refine d5 ?_;cases k with|false=>exact ite_ff #[.bl aj,H3,I3,rfl,q3]|true=>exact ite_tt<|chain_last<|thn (hc pq s3 O H3 _ I3 q3)<|by rintro w' s4 ⟨z',H4,I4,r4,q4⟩;exact ho' pq s4 O H4 y z' u w' Q I4 r2 r4 q4
def ZbM(K:ao)(x:V)(H:Hp)(k:Bool):Prop:=
 match x with
 |.non=>k=aj
 |.bl b=>k=b
 |.int i=>k=(i != 0)
 |.str y=>y.length<=aW/\k=((y.length:Int) != 0)
 |.ref p=>(∃xs,SqL K H p xs/\k = !xs.isEmpty)\/(∃xs,SqT K H p xs/\k = !xs.isEmpty)\/∃kvs,H p=aa (.dK kvs)/\k = !kvs.isEmpty
 |_=>False
def xG{κ:Type}{kvs:List (κ×V)}{vs:List (κ×au)}(r:KV kvs vs):(!vs.isEmpty) = !kvs.isEmpty:=by
 cases r<;>rfl
def Qq{xs:List V}{its:List au}(r:Vals xs its):(!its.toArray.isEmpty) = !xs.isEmpty:=by
 cases r<;>simp
def Ut:(aW:Nat)<2^63:=by rw[dP];decide
theorem qp:Zhp X (λx H Q=>∃k,ZbM X.K x H k/\Q k H):=by
 intro pq s O H x v Q I rx h;obtain⟨k,e,q⟩:=h;have hl:=Ut;have hs:=dP;cases x with
 |non=>
  cases rx;have e':=e;subst e';exact truthy_none #[H,I,q]
 |bl b=>
  cases rx;have e':k=b:=e;subst e';exact d5 #[H,I,q]
 |int i=>
  obtain⟨t,rfl⟩:=rx;have e':=e;subst e';exact ny #[H,I,q]
 |str y=>
  obtain⟨t,rfl⟩:=rx;obtain⟨hy,e'⟩:=e;subst e';exact PySem.P.truthy_str #[0] #[H,I.tok _,q]
 |ref p=>
  cases rx;have e':=e;rcases e' with⟨xs,hx,e'⟩|⟨xs,hx,e'⟩|⟨kvs,hx,e'⟩
  .subst e'
   obtain⟨its,r,pl,hz⟩:=I.list hx;have hlen:=r.length;exact wpAny_truthy_list pl.isList (by simp only[aC];lia) #[H,I.tok _,by rw[Qq r];exact q]
  .subst e'
   obtain⟨its,r,pl,hz⟩:=I.tuple hx;have hlen:=r.length;exact truthy_tuple pl (by simp only[aC];lia) #[H,I.tok _,by rw[Qq r];exact q]
  .subst e'
   obtain⟨hz,hS,vs,r,m⟩:=I.hok p _ hx;have hlen:=Paired.length r;exact wpAny_truthy_dict hS m #[0] #[H,I.tok _,by rw[xG r];exact q]
 |_=>exact(e).elim
def Zah(ha:PE X a ta)(he:∀whole,isTrue a X.env whole=(do let v <-whole;nQ a.pos;kC [v] (rB v))) :
  PT X a (λO H Q=>ta O H λx H'=>∃k,ZbM X.K x H' k/\Q k H'):=by
 intro pq s O H Q I h;exact isTrue_plain (thn (ha pq s O H _ I h)<|by rintro v s1 ⟨x,H1,I1,r1,q1⟩;exact qp pq s1 O H1 x v Q I1 r1 q1)<|he _
def Wc(r:Vals [x] us):∃u,us=[u]/\Zy x u:=by
 cases r with|cons r1 r2=>cases r2;exact#[_,rfl,r1]
def zI(r:Vals [x,y] us):∃u w',us=[u,w']/\Zy x u/\Zy y w':=by
 cases r with
 |cons r1 r2=>
  cases r2 with|cons r3 r4=>cases r4;exact#[_,_,rfl,r1,r3]
def uK(hc:X.calm=al):ZJ X (.builtin "max") (λxs H Q=>∃i j,xs=[.int i,.int j]/\Q (.int (if j>i then j else i)) H):=by
 intro pq s O H xs us Q I r h;obtain⟨i,j,rfl,q⟩:=h;obtain⟨u,w',rfl,⟨t,rfl⟩,⟨t',rfl⟩⟩:=zI r;refine max_two_ints (I.ok.hd hc) λh' tk k=>#[_,H,I.kept k,?_,q]
 by_cases hj:j>i
 .rw[T9 hj,T9 hj];exact#[_,rfl]
 .rw[T8 hj,T8 hj];exact#[_,rfl]
def ug(hc:X.calm=al):ZJ X (.builtin "min") (λxs H Q=>∃i j,xs=[.int i,.int j]/\Q (.int (if j<i then j else i)) H):=by
 intro pq s O H xs us Q I r h;obtain⟨i,j,rfl,q⟩:=h;obtain⟨u,w',rfl,⟨t,rfl⟩,⟨t',rfl⟩⟩:=zI r;refine min_two_ints (I.ok.hd hc) λh' tk k=>#[_,H,I.kept k,?_,q]
 by_cases hj:j<i
 .rw[T9 hj,T9 hj];exact#[_,rfl]
 .rw[T8 hj,T8 hj];exact#[_,rfl]
def um:ZJ X (.type "int") (λxs H Q=>(∃i,xs=[.int i]/\Q (.int i) H)\/∃k,xs=[.bl k]/\Q (.int (if k then 1 else 0)) H):=by
 intro pq s O H xs us Q I r h;rcases h with⟨i,rfl,q⟩|⟨k,rfl,q⟩
 .obtain⟨u,rfl,t,rfl⟩:=Wc r
  exact call_int_int #[.int i,H,I,#[_,rfl],q]
 .obtain⟨u,rfl,r1⟩:=Wc r
  cases r1;exact call_int_bool #[.int (if k then 1 else 0),H,I.tok _,#[_,rfl],q]
end
structure ObjM(h:bV)(x dx C:aD)(mA:bn->Option au):Prop where
 obj:h.get? x=aa (PySem.W.instObj C dx)
 ns:h.Ns1 dx mA
 ne:dx≠x
structure Cls(K:ao)(C:aD):Prop where
 pg:oF K C bn.empty=al
 hd:PySem.W.hasDictIn K C=al
 po:PySem.W.plainOver K C=al
 sa:PySem.W.findIn K (.ref C) "__setattr__" = aa (aa<|.builtin "object.__setattr__")
def Cls.get{K:ao}{C:aD}(c:Cls K C)(f:bn):oF K C f=al:=c.pg
section
variable{X:Cx}{pq:List (aD×eW)}{O:St}{H:Hp}{s:aA}{A:bU}{E:au->aA->Prop}{Q:au->aA->Prop}{c:au}{b:Bool}
inductive TyOf(K:ao)(H:Hp):V->au->Prop where
 |non:TyOf K H .non (.type "NoneType")
 |bl (x:Bool):TyOf K H (.bl x) (.type "bool")
 |int (i:Int):TyOf K H (.int i) (.type "int")
 |str (x:bn):TyOf K H (.str x) (.type "str")
 |lst {a:aD} {xs:List V} (e:H a=aa (.lst xs)):TyOf K H (.ref a) (.type "list")
 |frz {a:aD} {o:eW} {xs:List V} (e:H a=aa (.frz o<|.lst xs)):TyOf K H (.ref a) (.type "list")
 |tup {a:aD} {xs:List V} (e:H a=aa (.tup xs)):TyOf K H (.ref a) (.type "tuple")
 |dK {a:aD} {kvs:List (Key×V)} (e:H a=aa (.dK kvs)):TyOf K H (.ref a) (.type "dict")
 |dT {a:aD} {kvs:List (List Key×V)} (e:H a=aa (.dT kvs)):TyOf K H (.ref a) (.type "dict")
def vX(I:Inv X pq O H s)(rx:Zy x u)(ty:TyOf X.K H x t)(e:fK X.K t c=aa b)(h:∀tk,Q (.bool b) {s with toks:=tk}) :
  aX #[9] A (call (.builtin "isinstance") [u,c]) Q E s:=by
 cases ty with
 |non=>cases(rx);exact dB nZ I.kIn dJ e #[19] h
 |bl y=>cases(rx);exact dB n4 I.kIn dJ e #[19] h
 |int i=>obtain⟨t,q⟩:=(rx);cases q;exact dB oG I.kIn dJ e #[19] h
 |str y=>obtain⟨t,q⟩:=(rx);cases q;exact dB oH I.kIn dJ e #[19] h
 |@lst a xs ea=>
  cases(rx)
  obtain⟨_,_,n,_,h1⟩:=(I.hok a _ ea)
  exact dB gT I.kIn #[_,h1,rfl] e #[19] h
 |@frz a ob xs ea=>
  cases(rx)
  obtain⟨_,_,_,n,_,h1⟩:=(I.hok a _ ea)
  exact dB gT I.kIn #[_,h1,rfl] e #[19] h
 |@tup a xs ea=>
  cases(rx)
  obtain⟨_,_,_,p⟩:=(I.hok a _ ea)
  obtain⟨o,h1,h2,_⟩:=p;exact dB nz I.kIn #[o,h1,h2] e #[19] h
 |@dK a kvs ea=>
  cases(rx)
  obtain⟨_,_,vs,_,p⟩:=(I.hok a _ ea)
  obtain⟨o,es,ep,h1,h2,_⟩:=p;exact dB gU I.kIn #[o,h1,h2.1] e #[19] h
 |@dT a kvs ea=>
  cases(rx)
  obtain⟨_,_,xs,_,o,es,ep,h1,h2,_⟩:=(I.hok a _ ea)
  exact dB gU I.kIn #[o,h1,h2.1] e #[19] h
end
structure Room(k:Nat)(A:bU):Prop where
 hd:A.handled=ag
 dp:A.depth+3*k+5<recursionLimit
 un:A.units+16*k+200<d4
 gd:A.guards=aa []
def Room.mono{j k:Nat}{A:bU}(r:Room k A)(h:j<=k):Room j A:=#[r.hd,by have:=r.dp;lia,by have:=r.un;lia,r.gd]
theorem Room.deeper{k:Nat}{A:bU}(r:Room (k+1) A)(env:Env):Room k (A.deeper env):=
 #[r.hd,by have:=r.dp;show A.depth+1+3*k+5<_;lia,by have:=r.un;show A.units+3+16*k+200<_;lia,r.gd]
theorem Room.depth(r:Room k A):A.depth<recursionLimit:=by have:=r.dp;lia
def xH:TA:=λ_ H Q=>Q [] H
def Xe(ta:TE)(tr:TA):TA:=λO H Q=>ta O H λx H1=>tr O H1 λxs H2=>Q (x::xs) H2
section
variable{X:Cx}{e:Expr}{es:List Expr}{te:TE}{t:TA}{pos:fD}
def Yq:PA X [] xH:=λ_ _ _ _ H Q I h=>Calls.spliced_nil #[[],H,I,.nil,h]
def ZB(ha:PE X e te)(hr:PA X es t)(hs:aE (e::es) X.env=(aj,cD e X.env)::aE es X.env:=by rfl):PA X (e::es) (Xe te t):=by
 intro pos pq s O H Q I h;rw[hs];refine Calls.spliced_cons<|thn (ha pq s O H _ I h) λu s1 #[x,H1,I1,r1,q1]=>?_
 exact thn (hr pos pq s1 O H1 _ I1 q1)<|by rintro us s2 ⟨xs,H2,I2,r2,q2⟩;exact #[x::xs,H2,I2,.cons r1 r2,q2]
def ZhK(t:TA):TE:=λO H Q=>t O H λxs H1=>xs.length<=aW/\∀p,H1 p=ag->Q (.ref p) (upd H1 p<|.tup xs)
def ZcZ(t:TA):TE:=λO H Q=>t O H λxs H1=>xs.length<=aW/\∀p,H1 p=ag->Q (.ref p) (upd H1 p<|.lst xs)
def jI{x1}(h:PA X es t):PE X (.Tuple es x1 pos) (ZhK t):=by
 intro pq s O H Q I hq;refine wpAny_Tuple_spliced<|thn (h pos pq s O H _ I hq) λus s1 #[xs,H1,I1,r,z,q]=>#[by rw[<-r.length];exact z,?_]
 have hf:=I1.hok.fresh<|aF _;refine#[.ref s1.heap.objs.size,upd H1 s1.heap.objs.size<|.tup xs,I1.laid (t':=s1.toks) (λb u e=>av _ e) (aF _) ?_,rfl,q _ hf]
 exact#[z,us,r,#[_,aM _ rfl,rfl,_,rfl]]
def VH(h:PA X es t):PE X (.List es pos) (ZcZ t):=by
 intro pq s O H Q I hq;refine wpAny_List_spliced<|thn (h pos pq s O H _ I hq) λus s1 #[xs,H1,I1,r,z,q]=>#[by rw[<-r.length];exact z,?_]
 have hf:=I1.hok.fresh<|aF _;refine#[.ref s1.heap.objs.size,upd H1 s1.heap.objs.size<|.lst xs,I1.laid (t':=s1.toks) (λb u e=>av _ e) (aF _) ?_,rfl,q _ hf]
 exact#[z,us,0,r,aM _ rfl]
end
abbrev Sp:=List V->Hp->VK->XK->Prop
abbrev CXT:=List Env->Hp->aA->XK->au->aA->Prop
structure Env0(P:bt)(w:bN)(K:ao)(mg:bn->Option au)(base:bV)(A:bU)(outer:List Env)(s:aA)(H:Hp):Prop where
 frames:A.frames=aa outer
 mod:Mod K mg base
 bs:∀b o,base.get? b=aa o->s.heap.get? b=aa o/\H b=ag
 bsz:base.objs.size<=s.heap.objs.size
 funs:s.heap.FunFrames base outer
 frf:∀b∈frs outer,H b=ag
 hok:HOk P w H s.heap
 bare:im s.gens
def CE(outer:List Env)(P:bt)(w:bN)(H:Hp)(s:aA)(Q:VK)(u:au)(s':aA):Prop:=
 ∃v H',s'.os=s.os/\im s'.gens/\Un (frs outer) [] H H' s.heap s'.heap/\HOk P w H' s'.heap/\Zy v u/\Q v H'
def CR(CX:CXT)(outer:List Env)(P:bt)(w:bN)(H:Hp)(s:aA)(Q:VK)(E:XK)(r:rG)(s':aA):Prop:=
 match r with
 |.ok (.ret u)=>CE outer P w H s Q u s'
 |.ok _=>False
 |.error e=>CX outer H s E e s'
structure FnOk(P:bt)(w:bN)(K:ao)(mg:bn->Option au)(base:bV)(CX:CXT)(k:Nat)(f:aD)(fd:cB)(ps:List bn)(sp:Sp):Prop where
 len:∀vs H Q E,sp vs H Q E->vs.length=ps.length
 run:∀(A:bU)(outer:List Env)(s:aA)(H:Hp)(args:Args)(us:List au)(vs:List V)(Q:VK)(E:XK),Room k A->Env0 P w K mg base A outer s H->mQ s fd args (ps.zip us)->Vals vs us->sp vs H Q E->
  gV (aT P w) A (.call (.ref f) args) (CR CX outer P w H s Q E) s
section
variable{X:Cx}{pq:List (aD×eW)}{O:St}{H:Hp}{s s':aA}
def Inv.env0(I:Inv X pq O H s):Env0 X.prog X.w X.K X.mg X.base X.A X.stack s H:=
 #[I.ok.frames,I.ok.mod,I.bs,cx I.ok.bsz I.sz,I.stack,I.stkFree,I.hok,I.bare]
def Inv.after(I:Inv X pq O H s)(h:CE X.stack X.prog X.w H s Q u s'):EP X pq O Q u s':=by
 obtain⟨v,H',os,bare,un,hok,r,q⟩:=h;obtain⟨hh,g,d,t,os'⟩:=s';obtain rfl:os'=s.os:=os;exact#[v,H',I.call (h':=hh) (g':=g) (d':=d) (t':=t) un hok bare (λb z=>T7 z #[2]),r,q]
end
def Zd6(sp:Sp)(dvs:List V)(E:XK)(t:TA):TE:=λO H Q=>t O H λvs H1=>sp (vs++dvs) H1 Q E
def VW(K:ao)(fd:cB)(ps:List bn)(ds:List au):Prop:=
 ∀(s:aA)(us:List au),K.In s.heap->(us++ds).length=ps.length->mQ s fd #[us,[]] (ps.zip<|us++ds)
def VW.all{K:ao}{fd:cB}{ps:List bn}(h:∀us:List au,us.length=ps.length->mz fd #[us,[]]=cy (ps.zip us)):VW K fd ps []:=λs us _ hl=>by
 rw[cw]at hl ⊢;exact .of_eq<|h us hl
def Uw(CX:CXT)(X:Cx)(E:XK):Prop:=∀(pq:List (aD×eW))(O:St)(H:Hp)(s:aA)(e:au)(s':aA),Inv X pq O H s->CX X.stack H s E e s'->X.xe e s'
section
variable{X:Cx}{CX:CXT}{k:Nat}{f C:aD}{fd:cB}{ps:List bn}{sp:Sp}{dvs:List V}{ds:List au}{E:XK}{x m:bn}{p pos apos:fD}{e o:Expr}{es:List Expr}{ta:TE}{t:TA}
def ZfQ(F:FnOk X.prog X.w X.K X.mg X.base CX k f fd ps sp)(hr:Room k X.A)(hb:VW X.K fd ps ds)(hd:Vals dvs ds)(hx:Uw CX X E)
  (I:Inv X pq O H s)(r:Vals vs us)(h:sp (vs++dvs) H Q E):aX #[9] X.A (call (.ref f) us) (EP X pq O Q) X.xe s:=by
 have r2:=r.append hd;have hl:(us++ds).length=ps.length:=by rw[<-r2.length];exact F.len _ _ _ _ h
 refine pH<|gW (F.run X.A X.stack s H #[us,[]] (us++ds) (vs++dvs) Q E hr I.env0 (hb s us I.kIn hl) r2 h) λr s' hq=>?_
 cases r with
 |error e=>exact hx pq O H s e s' I hq
 |ok fl=>
  cases fl with|ret u=>exact I.after hq|next=>exact False.elim hq|brk=>exact False.elim hq|cont=>exact False.elim hq
def xT(F:FnOk X.prog X.w X.K X.mg X.base CX k f fd ps sp)(hr:Room k X.A)(hg:Gl X x)(hm:X.mg x=aa (.ref f))(hk:fM X.K (.ref f)=al)(hb:VW X.K fd ps ds)(hd:Vals dvs ds)(hx:Uw CX X E)
  (ha:PA X (e::es) t)(hdb:(x == #[11])=aj:=by decide)(he:aE (e::es) X.env=(aj,cD e X.env)::aE es X.env:=by rfl)(hpl:(dG pos<|aE es X.env).any (·.1)=aj:=by rfl) :
  PE X #[23] (Zd6 sp dvs E t):=by
 intro pq s O H Q I h;refine eB<|WW I hg hm ?_ hdb;refine nA I.ok.mod.kin hk (thn (ha pos pq s O H _ I h) λus s1 #[vs,H1,I1,r,q]=>#[I1.kIn,?_]) he hpl
 exact ZfQ F hr hb hd hx I1 r q
end
structure FnScope(N P:List bn)(sc:dO):Prop where
 kind:sc.kind=.function
 co:sc.isCoroutine=aj
 gen:sc.isGenerator=aj
 nd:N.Nodup
 pre:N.take P.length=P
 par:∀x∈P,sc.names.lookup x=aa .local\/sc.names.lookup x=aa .cell
 nofree:∀y∈sc.names,y.2≠.free
theorem QY{kindOf:bn->Option ee}{x:bn}:∀{binds:List (bn×au)}{m:bn->Option au},(∀v,(x,v)∉binds)->rn kindOf binds m x=m x
 |[],_,_=>rfl
 |(n,v)::r,m,h=>by
  unfold rn;rw[QY λw hw=>h w<|am _ hw]
  split
  .have:x≠n:=by rintro rfl;exact h v ak
   simp[this]
  .rfl
theorem JE{kindOf:bn->Option ee}{x:bn}:∀{binds:List (bn×au)}{m:bn->Option au},(∀v,(x,v)∉binds)->rA kindOf binds m x=m x
 |[],_,_=>rfl
 |(n,v)::r,m,h=>by
  unfold rA;rw[JE λw hw=>h w<|am _ hw]
  split
  .rfl
  .have:x≠n:=by rintro rfl;exact h v ak
   simp[this]
theorem Jy{kindOf:bn->Option ee}{x:bn}{v:au}:∀{P:List bn}{vs:List au}{i:Nat}{m:bn->Option au},P.Nodup->P[i]?=aa x->vs[i]?=aa v->kindOf x=aa .local->
  rn kindOf (P.zip vs) m x=aa v
 |[],_,_,_,_,h,_,_=>by simp at h
 |_::_,[],_,_,_,_,h,_=>by simp at h
 |p::P,w::vs,0,m,nd,h1,h2,hk=>by
  simp at h1 h2;subst h1;subst h2;show rn kindOf ((p,w)::P.zip vs) m p=_;unfold rn;rw[QY λv hv=>(da.mp nd).1 (gH hv).1,T9 hk]
  simp
 |p::P,w::vs,i+1,m,nd,h1,h2,hk=>by
  unfold rn;exact Jy (da.mp nd).2 (by simpa using h1) (by simpa using h2) hk
theorem Ju{kindOf:bn->Option ee}{x:bn}{v:au}:∀{P:List bn}{vs:List au}{i:Nat}{m:bn->Option au},P.Nodup->P[i]?=aa x->vs[i]?=aa v->kindOf x≠aa .local->
  rA kindOf (P.zip vs) m x=aa v
 |[],_,_,_,_,h,_,_=>by simp at h
 |_::_,[],_,_,_,_,h,_=>by simp at h
 |p::P,w::vs,0,m,nd,h1,h2,hk=>by
  simp at h1 h2;subst h1;subst h2;show rA kindOf ((p,w)::P.zip vs) m p=_;unfold rA;rw[JE λv hv=>(da.mp nd).1 (gH hv).1,T8 hk]
  simp
 |p::P,w::vs,i+1,m,nd,h1,h2,hk=>by
  unfold rA;exact Ju (da.mp nd).2 (by simpa using h1) (by simpa using h2) hk
noncomputable def start(N:List bn)(vs:List V):St:=vs.map aa++aw (N.length-vs.length) ag
noncomputable def XT(CX:CXT)(P:bt)(w:bN)(K:ao)(mg:bn->Option au)(base:bV)(N:List bn)(qual:bn)(scope:dO)(f:aD)(cd:au)(A:bU)(outer:List Env)(s:aA)(H:Hp)(E:XK):Cx where
 prog:=P
 w:=w
 K:=K
 mg:=mg
 base:=base
 A:=A.deeper<|dU qual scope s.heap.objs.size f cd
 N:=N
 s₀:=s
 H₀:=H
 env:=dU qual scope s.heap.objs.size f cd
 outer:=outer
 stack:=dU qual scope s.heap.objs.size f cd::outer
 ex:=[]
 calm:=al
 fn:=λ_=>al
 pn:=[]
 xe:=λe s'=>aX (aT P w) (A.deeper<|dU qual scope s.heap.objs.size f cd) (leaving (dU qual scope s.heap.objs.size f cd) e) (λ_ s''=>CX outer H s E e s'') (λe' s''=>CX outer H s E e' s'') s'
def U6{sc:dO}{n:Nat}{x:bn}(h:sc.names.lookup x=aa .cell):∃c,(dv n sc.names []).lookup x=aa c:=by
 have q:=gX sc.names n []<|.inl h;exact cU.mp q
def QU{CX:CXT}{P:bt}{w:bN}{K:ao}{mg:bn->Option au}{base:bV}{N ps:List bn}{qual:bn}{scope:dO}{f:aD}{cd:au}{A:bU}{outer:List Env}{s s1:aA}{H:Hp}{E:XK}{us:List au}{vs:List V}
  (S:FnScope N ps scope)(hd:A.handled=ag)(e0:Env0 P w K mg base A outer s H)(hl:vs.length=ps.length)(r:Vals vs us)
  (x:InCallC s s.heap.objs.size (rn (dU qual scope s.heap.objs.size f cd).kindOf (ps.zip us) λ_=>ag) (dv (s.heap.objs.size+1) scope.names []) (rA (dU qual scope s.heap.objs.size f cd).kindOf (ps.zip us) λ_=>ag) s1) :
  Inv (XT CX P w K mg base N qual scope f cd A outer s H E) [] (start N vs) H s1:=by
 have hpl:ps.length<=N.length:=by have:=congrArg kD S.pre;rw[b9]at this;lia
 obtain⟨h1,tk,rfl,hk⟩:=x.done;have noA:∀b:aD,b∉(XT CX P w K mg base N qual scope f cd A outer s H E).ex:=λb z=>T7 (show b∈([]:List aD)from z) #[2]
 refine#[#[e0.mod,S.kind,rfl,rfl,aF _,λy z c h1 h2=>?_,λy hy=>?_,λy c _ h=>?_,λ_=>hd,mB e0.frames,.inr #[rfl,rfl],λb z=>T7 z<|noA b,e0.bs,e0.bsz,λb _ _=>noA b,λb z=>T7 z<|noA b,e0.funs,e0.frf],
  rfl,e0.bare,Un.kept hk,#[_,x.toInCall.ns,λi y v h1 h2 h3=>?_],λy c h=>#[_,x.cell y c h],e0.hok.fresh<|aF _,λy c h=>?_,λp hp=>T7 (show p∈([]:List (aD×eW))from hp) #[2],e0.hok.kept hk,?_]
 .exact name_of_addr x.apart (dM h1)<|dM h2
 .have hy:=hy
  rcases hy with hy|hy
  .exact U6 hy
  .exact T7 rfl<|S.nofree _<|dM hy
 .exact gS<|x.above y c<|dM h
 .have hi:i<vs.length:=by
   unfold start at h2;by_cases hi:i<vs.length
   .exact hi
   .rw[cg<|by simpa using hi]at h2
    rw[cH]at h2;split at h2<;>cases h2
  have ha:vs[i]?=aa v:=by
   unfold start at h2;rw[cq (by simpa using hi),aJ]at h2
   cases e:vs[i]? with|none=>rw[e]at h2;cases h2|some a=>rw[e]at h2;cases h2;rfl
  obtain⟨u,hu,rv⟩:=r.get ha;have hp:ps[i]?=aa y:=by
   rw[<-S.pre,List.getElem?_take_of_lt #[0]];exact h1
  have ndP:ps.Nodup:=by rw[<-S.pre];exact S.nd.sublist<|n5 _ _
  refine#[u,rv,?_];rcases S.par y (cM hp)with k|k
  .exact .inl #[k,Jy ndP hp hu k]
  .obtain⟨c,e⟩:=U6 k
   refine .inr #[.inl k,c,e,?_];have q:=x.cell y c e;rw[Ju ndP hp hu<|by show scope.names.lookup y≠_;rw[k];decide]at q
   exact q
 .exact e0.hok.fresh<|gS<|x.above y c<|dM h
 .unfold start
  show _=N.length;rw[aU,ay,ck];lia
def Zd0{CX:CXT}{P:bt}{w:bN}{K:ao}{mg:bn->Option au}{base:bV}{k:Nat}{f:aD}{name qual:bn}{params:oI}{body:List ef}{scope:dO}{dV kV doc pm cdv ct oc:au}{an od:Option aD}
  {osl:Array (Option au)}{N ps:List bn}{sp:Sp}(lk:K.lookup f=aa #[oc,od,.func<|eg name qual params body scope dV kV doc pm an cdv ct,osl])(hcd:iZ K cdv qual=al)(S:FnScope N ps scope)
  (len:∀vs H Q E,sp vs H Q E->vs.length=ps.length)
  (hbody:∀(A:bU)(outer:List Env)(s:aA)(H:Hp)(vs:List V)(Q:VK)(E:XK),Room k (A.deeper<|dU qual scope s.heap.objs.size f cdv)->sp vs H Q E->
   ∃t,PSs (XT CX P w K mg base N qual scope f cdv A outer s H E) body t/\t {nx:=λ_ H'=>Q .non H',rt:=Q} (start N vs) H) :
  FnOk P w K mg base CX (k+1) f (eg name qual params body scope dV kV doc pm an cdv ct) ps sp:=by
 refine#[len,λA outer s H args us vs Q E hr e0 hb r hsp=>?_]
 have hl:=len _ _ _ _ hsp;have KX:=e0.mod.kin.keeps λb o e=>(e0.bs b o e).1
 have lim:=e0.mod.nolimit.keeps λb o e=>(e0.bs b o e).1
 have hkind:∀y∈ps.zip us,scope.names.lookup y.1=aa .local\/(scope.names.lookup y.1=aa .cell/\((dv (s.heap.objs.size+1) scope.names []).lookup y.1).isSome=al):=by
  rintro ⟨n,v⟩ hy;rcases S.par n (gH hy).1 with q|q
  .exact .inl q
  .exact .inr #[q,gX _ _ _<|.inl q]
 refine mf hr.depth (KX _ _ lk) rfl S.co S.gen rfl (nB KX hcd)<|hb _ _ _ _ ?_;refine i4 S.kind hkind λenv he s1 x=>?_
 subst he;refine#[lim.keeps x.toInCall.keep,codeAny_func ?_];obtain⟨t,ht,hq⟩:=hbody A outer s H vs Q E (hr.deeper _) hsp;have I:Inv (XT CX P w K mg base N qual scope f cdv A outer s H E) [] (start N vs) H s1:=QU S hr.hd e0 hl r x;refine dm (ht [] s1 (start N vs) H _ I hq) (λfl s' hs=>?_) λe s' hs=>hs
 have fin:∀{σ':St}{H':Hp}{v:V}{u:au},Inv (XT CX P w K mg base N qual scope f cdv A outer s H E) [] σ' H' s'->Zy v u->Q v H'->CE outer P w H s Q u s':=
  λ{σ' H' v u} J rv q=>#[v,H',J.os,J.bare,J.base,J.hok,rv,q]
 cases fl with
 |ret u=>
  obtain⟨v,σ',H',J,rv,q⟩:=hs;exact fin J rv q
 |next=>
  obtain⟨σ',H',J,q⟩:=hs;exact fin (v:=V.non) J rfl q
 |brk=>
  obtain⟨_,_,_,q⟩:=hs;exact False.elim q
 |cont=>
  obtain⟨_,_,_,q⟩:=hs;exact False.elim q
section
variable{X:Cx}{x:bn}{p pos:fD}{e:Expr}{es:List Expr}{t:TA}{id T:String}{r:List V->Hp->VK->Prop}
def tCB(r:List V->Hp->VK->Prop)(t:TA):TE:=λO H Q=>t O H λvs H1=>r vs H1 Q
def Xt(hc:ZJ X (.builtin id) r)(hg:Gl X x)(hm:X.mg x=ag)(hv:db x=aa (.builtin id))(ha:PA X (e::es) t)(hn:x≠"__name__":=by decide)(hdb:(x == #[11])=aj:=by decide)
  (he:aE (e::es) X.env=(aj,cD e X.env)::aE es X.env:=by rfl)(hpl:(dG pos<|aE es X.env).any (·.1)=aj:=by rfl):PE X #[23] (tCB r t):=by
 intro pq s O H Q I h;refine eB<|X1 I hg hm hv ?_ hn hdb;exact PyProof.Rows.callWith_builtin1 (thn (ha pos pq s O H _ I h)<|by rintro us s1 ⟨vs,H1,I1,r1,q1⟩;exact hc pq s1 O H1 vs us Q I1 r1 q1) he hpl
def Jv(hc:ZJ X (.type T) r)(hg:Gl X x)(hm:X.mg x=ag)(hv:db x=aa (.type T))(ha:PA X (e::es) t)(hn:x≠"__name__":=by decide)(hdb:(x == #[11])=aj:=by decide)
  (he:aE (e::es) X.env=(aj,cD e X.env)::aE es X.env:=by rfl)(hpl:(dG pos<|aE es X.env).any (·.1)=aj:=by rfl):PE X #[23] (tCB r t):=by
 intro pq s O H Q I h;refine eB<|X1 I hg hm hv ?_ hn hdb;exact dF (thn (ha pos pq s O H _ I h)<|by rintro us s1 ⟨vs,H1,I1,r1,q1⟩;exact hc pq s1 O H1 vs us Q I1 r1 q1) he hpl
end
end L2
namespace HT
open PySem PyProof.Rows
section
variable{prog:bt}{w:bN}{A:bU}{E:au->aA->Prop}{s:aA}
def Zcr{Q:au->aA->Prop}(ht:nP s.heap t vs.toArray)(hb:nP s.heap b ws.toArray)(hv:vs≠[])
  (h1:ws=[]->Q (.ref t) s)(h2:ws≠[]->Q (.ref s.heap.objs.size) {s with heap:=s.heap.push {cls:=.type "tuple",data:=.seq (vs++ws).toArray}})
  (hsz:vs.length+ws.length<=aW):aX #[8] A (eO .Add (.ref t)<|.ref b) Q E s:=by
 obtain⟨⟨cls,dd,data,sl⟩,ho,hc,n,hd⟩:=id ht;obtain⟨⟨cls2,dd2,data2,sl2⟩,ho2,hc2,n2,hd2⟩:=id hb;simp only at hc hd hc2 hd2;subst hc hd hc2 hd2;have e:vs.toArray++ws.toArray=(vs++ws).toArray:=by simp
 by_cases hw:ws=[]
 .exact n6 #[_,ho,rfl] #[_,ho2,rfl] k7 m5 gY gP (gA _ _)
   (tuple_addW1 t b vs.toArray ws.toArray n n2 dd dd2 sl sl2 (by simpa using hv)<|by simp[hw]) #[ho,ho2,h1 hw]
 .refine n6 #[_,ho,rfl] #[_,ho2,rfl] k7 m5 gY gP (gA _ _)
   (tuple_addW2 t b vs.toArray ws.toArray n n2 dd dd2 sl sl2 (by simpa using hv) (by simpa using hw)<|by rw[aC,aC];exact hsz) #[ho,ho2,?_]
  rw[e];exact h2 hw
noncomputable def sIx(n d:Nat):Option Int->Nat
 |none=>d
 |some v=>if v<0 then(v+(n:Int)).toNat else rO v.toNat n
theorem Zem(n d:Nat)(hd:d<=n)(o:Option Int):sIx n d o<=n:=by
 cases o with
 |none=>exact hd
 |some v=>
  show(if v<0 then(v+(n:Int)).toNat else rO v.toNat n)<=n
  by_cases hv:v<0
  .rw[T9 hv];lia
  .rw[T8 hv];exact oJ _ _
theorem vw(v:Int)(n d:Nat):(if v<0 then max (v+(n:Int)) 0 else rO v (n:Int))=((sIx n d (aa v):Nat):Int):=by
 show(if v<0 then max (v+(n:Int)) 0 else rO v (n:Int))=(((if v<0 then(v+(n:Int)).toNat else rO v.toNat n):Nat):Int)
 by_cases hv:v<0
 .simp only[T9 hv];lia
 .simp only[T8 hv];lia
theorem xM(lo hi:Option Int)(n:Nat):gn lo hi 1 (n:Int)=(((sIx n 0 lo:Nat):Int),((sIx n n hi:Nat):Int)):=by
 have h1:¬((1:Int)<0):=by lia
 unfold gn;simp only[h1,if_false];refine Prod.ext ?_ ?_
 .cases lo with|none=>rfl|some v=>exact vw v n 0
 .cases hi with|none=>rfl|some v=>exact vw v n n
theorem xj(i j:Nat):cP (i:Int) (j:Int) 1=j-i:=by
 unfold cP;have h1:(1:Int)>0:=by lia
 simp only[h1,if_true,Int.ediv_one];split<;>lia
def WO{Q:Option Int->aA->Prop}(p:i5 v o)(h:Q o s):aX #[8] A (eQ.Slice.slicePartIndex v) Q E s:=by
 cases p with|none=>exact i6 h|int i t=>exact slicePart_int h
def Xn{sl:aD}{vl vu:au}{lo hi:Option Int}{n:Nat}{Q:Int×Int×Nat->aA->Prop}(hs:s.heap.IsSliceOf sl vl vu .none)(pl:i5 vl lo)(pu:i5 vu hi)
  (h:Q (((sIx n 0 lo:Nat):Int),1,sIx n n hi-sIx n 0 lo) s):aX #[8] A (i7 (.ref sl)<|cy (n:Int)) Q E s:=by
 obtain⟨os,hos,hcs,hds⟩:=id hs;refine ae<|ae<|cO hos hds rfl<|ae<|cO hos hds rfl<|ae<|cO hos hds rfl<|aB ?_;refine ae<|i6 ?_;show aX _ _ (if((1:Int) == 0)=al then _ else _) _ _ s
 rw[T8 #[1]]
 refine ae<|WO pl<|ae<|WO pu<|ae<|aB ?_;show aX _ _ (match gn lo hi 1 (n:Int)with|(lo,hi)=>cy (lo,(1:Int),cP lo hi 1)) _ _ s
 rw[xM lo hi n];show aX _ _ (cy (((sIx n 0 lo:Nat):Int),(1:Int),cP ((sIx n 0 lo:Nat):Int) ((sIx n n hi:Nat):Int) 1)) _ _ s;rw[xj];exact aB h
theorem Zao(xs:Array au)(i k:Nat):((aP k).filterMap λ(m:Nat)=>xs[((i:Int)+(m:Int)*1).toNat]?).toArray=((xs.toList.drop i).take k).toArray:=by
 have e:(λ(m:Nat)=>xs[((i:Int)+(m:Int)*1).toNat]?)=λm=>xs[i+m]?:=by
  funext m
  have:((i:Int)+(m:Int)*1).toNat=i+m:=by lia
  rw[this]
 rw[e];have:=pick_run xs i k;rw[nC]at this;have e2:((λx=>xs[x]?)∘λx=>i+x)=λm=>xs[i+m]?:=rfl
 rw[e2]at this;rw[this]
theorem Vd{t sl:aD}{items:Array au}{vl vu:au}{lo hi:Option Int}{Q:au->aA->Prop}(ht:nP s.heap t items)(hs:s.heap.IsSliceOf sl vl vu .none)(pl:i5 vl lo)(pu:i5 vu hi)
  (hw:¬(sIx items.size 0 lo=0/\sIx items.size items.size hi=items.size))
  (h:Q (.ref s.heap.objs.size) {s with heap:=s.heap.push {cls:=.type "tuple",data:=.seq ((items.toList.drop<|sIx items.size 0 lo).take<|sIx items.size items.size hi-sIx items.size 0 lo).toArray}})
  (hsz:items.size<=aW):aX #[8] A (kF (.ref t)<|.ref sl) Q E s:=by
 have htake:sizeOk (.seq ((items.toList.drop<|sIx items.size 0 lo).take<|sIx items.size items.size hi-sIx items.size 0 lo).toArray):=by
  show((items.toList.drop<|sIx items.size 0 lo).take<|sIx items.size items.size hi-sIx items.size 0 lo).toArray.size<=aW;rw[aC,b9,bR,aN];lia
 have hj:sIx items.size items.size hi<=items.size:=Zem _ _ (aF _) hi;obtain⟨os,hos,hcs,hds⟩:=id hs;have hTs:s.TypeIs (.ref sl) "slice":=#[os,hos,hcs];unfold kF
 try with_reducible refine bT ?_
 first|refine ae<|aB ?_|skip
 refine ae<|kG ht.typeIs #[1] ?_
 refine ae (cI ht.typeIs cC
  (de cC ht.typeIs iR ?_<|i8 _ _))
 show aX _ _ (fN (.ref t) >>= _) _ _ s;refine ae<|m7 ht ?_;refine ae<|fW hTs ?_;rw[T9 #[1]]
 refine ae<|Xn hs pl pu ?_;have hno:¬((((sIx items.size 0 lo:Nat):Int) == 0&&(1:Int) == 1&&(sIx items.size items.size hi-sIx items.size 0 lo) == items.size)=al):=by
  intro q;rw[aG,aG]at q;have q1:=eY q.1.1;have q2:=eY q.2;exact hw #[by lia,by lia]
 show aX _ _ (if(((sIx items.size 0 lo:Nat):Int) == 0&&(1:Int) == 1&&(sIx items.size items.size hi-sIx items.size 0 lo) == items.size)=al then _ else _) _ _ s
 rw[T8 hno,Zao]
 first
  |exact ae<|bC (aB #[_,rfl,aB h]) htake
  |exact ae<|bC (ae<|aB<|aB #[_,rfl,aB h]) htake
  |exact ae<|ae<|bC (aB<|aB #[_,rfl,aB h]) htake
  |exact ae<|ae<|bC (aB #[_,rfl,aB h]) htake
end
end HT
namespace L2
open PySem PySem.Spec PyProof.Rows
abbrev TO:=St->Hp->(Option Int->Hp->Prop)->Prop
def PO(X:Cx)(e:Option Expr)(t:TO):Prop:=
 ∀(pq:List (aD×eW))(s:aA)(O:St)(H:Hp)(Q:Option Int->Hp->Prop),Inv X pq O H s->t O H Q->
  aX #[9] X.A (evalPart e X.env) (λu s'=>∃o H',Inv X pq O H' s'/\i5 u o/\Q o H') X.xe s
def ZcT:TO:=λ_ H Q=>Q ag H
def ZgY(t:TE):TO:=λO H Q=>t O H λx H1=>∃i,x=.int i/\Q (aa i) H1
section
variable{X:Cx}{e:Expr}{te:TE}{lo hi:Option Expr}{tl th:TO}{pos p2:fD}
def Zde:PO X ag ZcT:=by
 intro pq s O H Q I h;rw[m8];exact aB #[ag,H,I,.none,h]
def Z2(h:PE X e te):PO X (aa e) (ZgY te):=by
 intro pq s O H Q I hw;rw[evalPart_some];refine thn (h pq s O H _ I hw) λu s1 #[x,H1,I1,r1,q1]=>?_
 obtain⟨i,rfl,q⟩:=q1;obtain⟨t,rfl⟩:=r1;exact#[aa i,H1,I1,.int i t,q]
def SlR(X:Cx)(r:V->Option Int->Option Int->Hp->VK->Prop):Prop:=
 ∀(pq:List (aD×eW))(s:aA)(O:St)(H:Hp)(x:V)(v vl vu:au)(lo hi:Option Int)(sl:aD)(Q:VK),Inv X pq O H s->Zy x v->s.heap.IsSliceOf sl vl vu .none->i5 vl lo->i5 vu hi->r x lo hi H Q->
  ∃T id,i9 (.type T) "__getitem__" = cy (aa<|.builtin id)/\s.TypeIs v T/\aX #[9] X.A (kF v<|.ref sl) (EP X pq O Q) X.xe s
def SlR.or{r r':V->Option Int->Option Int->Hp->VK->Prop}(h:SlR X r)(h':SlR X r'):SlR X (λx lo hi H Q=>r x lo hi H Q\/r' x lo hi H Q):=by
 intro pq s O H x v vl vu lo hi sl Q I rx hs pl pu q;rcases q with q|q
 .exact h pq s O H x v vl vu lo hi sl Q I rx hs pl pu q
 .exact h' pq s O H x v vl vu lo hi sl Q I rx hs pl pu q
def tSl(r:V->Option Int->Option Int->Hp->VK->Prop)(te:TE)(tl th:TO):TE:=λO H Q=>te O H λx H1=>tl O H1 λl H2=>th O H2 λu H3=>r x l u H3 Q
def ZaK{r:V->Option Int->Option Int->Hp->VK->Prop}(hr:SlR X r)(he:PE X e te)(hl:PO X lo tl)(hu:PO X hi th):PE X (.Subscript e (.Slice lo hi ag p2) pos) (tSl r te tl th):=by
 intro pq s O H Q I h;refine pI<|thn (he pq s O H _ I h) λv s1 #[x,H1,I1,r1,q1]=>?_
 refine wpAny_Slice<|thn (hl pq s1 O H1 _ I1 q1) λvl s2 #[l,H2,I2,pl,q2]=>thn (hu pq s2 O H2 _ I2 q2) λvu s3 #[u,H3,I3,pu,q3]=>?_
 rw[m8];refine aB ?_;have I4:Inv X pq O H3 {s3 with heap:=s3.heap.push {cls:=.type "slice",data:=.fields [vl,vu,.none].toArray}}:=I3.kept (t':=s3.toks) λb ob q=>av _ q
 obtain⟨T,id,hT,ht,hg⟩:=hr pq {s3 with heap:=s3.heap.push {cls:=.type "slice",data:=.fields [vl,vu,.none].toArray}} O H3 x v vl vu l u s3.heap.objs.size Q I4 r1 (nD ..) pl pu q3
 exact tail_any ht hT hg (by with_unfolding_all rfl)
def YF(xs:List V)(lo hi:Option Int):List V:=(xs.drop<|HT.sIx xs.length 0 lo).take<|HT.sIx xs.length xs.length hi-HT.sIx xs.length 0 lo
theorem VZ(xs:List V)(lo hi:Option Int):(YF xs lo hi).length<=xs.length:=by
 unfold YF;rw[b9,bR];lia
def Zhm(K:ao):V->Option Int->Option Int->Hp->VK->Prop:=λx lo hi H Q=>∃a xs,x=.ref a/\SqT K H a xs/\
 ¬(HT.sIx xs.length 0 lo=0/\HT.sIx xs.length xs.length hi=xs.length)/\∀p,H p=ag->Q (.ref p) (upd H p<|.tup<|YF xs lo hi)
def Zf0:SlR X (Zhm X.K):=by
 intro pq s O H x v vl vu lo hi sl Q I rx hs pl pu h;obtain⟨a,xs,rfl,hx,hw,q⟩:=h;cases rx;obtain⟨its,r,ht,hz⟩:=I.tuple hx;have hlen:its.toArray.size=xs.length:=by rw[aC];exact r.length.symm
 refine#["tuple",_,cC.lookup,ht.typeIs,?_];refine HT.Vd ht hs pl pu (by rw[hlen];exact hw) ?_ (by rw[hlen];exact hz)
 rw[hlen];refine#[.ref s.heap.objs.size,_,I.laid (t':=s.toks) (λb ob q=>av _ q) (aF _) ?_,rfl,q _<|I.hok.fresh<|aF _]
 exact#[cx (VZ xs lo hi) hz,_,(r.drop<|HT.sIx xs.length 0 lo).take<|HT.sIx xs.length xs.length hi-HT.sIx xs.length 0 lo,h9 _ _]
def ZdW(K:ao):R2:=λx y H Q=>∃a b xs ys,x=.ref a/\y=.ref b/\SqT K H a xs/\SqT K H b ys/\xs≠[]/\xs.length+ys.length<=aW/\
 (ys=[]->Q (.ref a) H)/\(ys≠[]->∀p,H p=ag->Q (.ref p) (upd H p<|.tup<|xs++ys))
def Vals.nil_iff(r:Vals xs us):us=[]↔xs=[]:=by
 cases r with|nil=>simp|cons _ _=>simp
def ZcW:OpR X (eO .Add) (ZdW X.K):=by
 intro pq s O H x y v u Q I rx ry h;obtain⟨a,b,xs,ys,rfl,rfl,ha,hb,hx,hz,q1,q2⟩:=h;cases rx;cases ry;obtain⟨its,r1,p1,_⟩:=I.tuple ha;obtain⟨its2,r2,p2,_⟩:=I.tuple hb;refine HT.Zcr p1 p2 (λz=>hx<|r1.nil_iff.mp z) (λz=>#[.ref a,H,I,rfl,q1<|r2.nil_iff.mp z]) (λz=>?_) (by rw[<-r1.length,<-r2.length];exact hz)
 refine#[.ref s.heap.objs.size,_,I.laid (t':=s.toks) (λb ob q=>av _ q) (aF _) ?_,rfl,q2 (λw=>z<|r2.nil_iff.mpr w) _<|I.hok.fresh<|aF _]
 exact#[by rw[aU];exact hz,_,r1.append r2,h9 _ _]
end
noncomputable def ixN(n:Nat)(i:Int):Option Nat:=if 0<=i then(if i<n then aa i.toNat else ag)else if -(n:Int)<=i then aa (i+n).toNat else ag
def atI{B:Type}(xs:List B)(i:Int):Option B:=(ixN xs.length i).bind λj=>xs[j]?
def vq(h:ixN n i=aa j):seqIndex? i n=aa j/\j<n/\-(n:Int)<=i/\i<n:=by
 unfold ixN at h;by_cases h0:0<=i
 .rw[T9 h0]at h
  by_cases h1:i<n
  .rw[T9 h1]at h
   have e:=aq h;exact#[by rw[o5 h0 h1,e],by lia,by lia,h1]
  .rw[T8 h1]at h;cases h
 .rw[T8 h0]at h
  by_cases h1:-(n:Int)<=i
  .rw[T9 h1]at h
   have e:=aq h;exact#[by rw[n8 #[0] h1,e],by lia,h1,by lia]
  .rw[T8 h1]at h;cases h
def wy{B:Type}{xs:List B}{i:Int}{v:B}(h:atI xs i=aa v):∃j,seqIndex? i xs.length=aa j/\xs[j]?=aa v/\j<xs.length/\-(xs.length:Int)<=i/\i<xs.length:=by
 unfold atI at h;cases e:ixN xs.length i with
 |none=>rw[e]at h;cases h
 |some j=>
  rw[e]at h;obtain⟨h1,h2,h3,h4⟩:=vq e;exact#[j,h1,h,h2,h3,h4]
def wq(b:Expr):Prop:=∀o i,subscripted b aj o i=operate [o,i] (kF o i)
def IxR(X:Cx)(r:R2):Prop:=
 ∀(value slice:Expr)(pq:List (aD×eW))(s:aA)(O:St)(H:Hp)(x y:V)(v u:au)(Q:VK),Inv X pq O H s->Zy x v->Zy y u->r x y H Q->
  subscripted slice aj v u=operate [v,u] (kF v u)->aX #[9] X.A (subscriptTail value slice v u) (EP X pq O Q) X.xe s
def MtR(X:Cx)(id:String)(r:V->List V->Hp->VK->Prop):Prop:=
 ∀(pq:List (aD×eW))(s:aA)(O:St)(H:Hp)(x:V)(xs:List V)(v:au)(us:List au)(Q:VK),Inv X pq O H s->Zy x v->Vals xs us->r x xs H Q->
  aX #[9] X.A (call (.builtin id) (v::us)) (EP X pq O Q) X.xe s
section
variable{X:Cx}{a b:Expr}{ta tb:TE}{pos:fD}
def IxR.or(h:IxR X r)(h':IxR X r'):IxR X (λx y H Q=>r x y H Q\/r' x y H Q):=by
 intro value slice pq s O H x y v u Q I rx ry q hs;rcases q with q|q
 .exact h value slice pq s O H x y v u Q I rx ry q hs
 .exact h' value slice pq s O H x y v u Q I rx ry q hs
def j5(hr:IxR X r)(ha:PE X a ta)(hb:PE X b tb)(hs:wq b):PE X (.Subscript a b pos) (tOp r ta tb):=by
 intro pq s O H Q I h;exact pI<|Zey ha hb I h λv u s2 x y H2 I2 rx ry q=>hr a b pq s2 O H2 x y v u Q I2 rx ry q<|hs _ _
def ZhG(K:ao):R2:=λx y H Q=>∃p xs i v,x=.ref p/\y=.int i/\SqL K H p xs/\atI xs i=aa v/\Q v H
def Zhl(K:ao):R2:=λx y H Q=>∃p xs i v,x=.ref p/\y=.int i/\SqT K H p xs/\atI xs i=aa v/\Q v H
theorem JM:IxR X (ZhG X.K):=by
 intro value slice pq s O H x y v u Q I rx ry h hs;obtain⟨p,xs,i,z,rfl,rfl,hq,he,q⟩:=h;cases rx;obtain⟨t,rfl⟩:=ry;obtain⟨its,r,pl,hz⟩:=I.list hq;obtain⟨j,h1,h2,h3,h4,h5⟩:=wy he;obtain⟨w,ew,rw'⟩:=r.get h2;have hl:=r.length;have hn:=Ut;have fin:EP X pq O Q w s:=#[z,H,I,rw',q];by_cases h0:0<=i
 .have hj:i.toNat=j:=by
   rw[o5 h0 h5]at h1;exact aq h1
  exact item_listR pl.isList h0 #[0] (by rw[hj];simpa using ew) fin hs
 .have hj:(i+(its.toArray.size:Int)).toNat=j:=by
   rw[n8 #[0] h4]at h1
   rw[aC,<-hl];exact aq h1
  exact lJ pl.isList.typeIs slot_list_getitem.lookup
   (wpAny_getItem_list_neg pl.isList #[0] (by rw[aC]<;>lia) #[0] (by rw[hj];simpa using ew) #[rfl,fin]) hs
theorem ZfF:IxR X (Zhl X.K):=by
 intro value slice pq s O H x y v u Q I rx ry h hs;obtain⟨p,xs,i,z,rfl,rfl,hq,he,q⟩:=h;cases rx;obtain⟨t,rfl⟩:=ry;obtain⟨its,r,pl,hz⟩:=I.tuple hq;obtain⟨j,h1,h2,h3,h4,h5⟩:=wy he;obtain⟨w,ew,rw'⟩:=r.get h2;have hl:=r.length;have hn:=Ut;have fin:EP X pq O Q w s:=#[z,H,I,rw',q];exact lJ pl.typeIs slot_tuple_getitem.lookup
  (getItem_tuple pl #[0] #[0] (by rw[aC,<-hl];exact h1) (by simpa using ew) #[rfl,fin]) hs
def xL(its:List au)(n j:Nat)(u:au):eC (·.setIfInBounds j u) {cls:=.type "list",data:=.seq its.toArray n}={cls:=.type "list",data:=.seq (its.set j u).toArray n}:=by
 simp[eC]
theorem Inv.lst{pq:List (aD×eW)}{O:St}{H:Hp}{s:aA}{p:aD}{xs:List V}(I:Inv X pq O H s)(h:H p=aa (.lst xs)) :
  ∃(its:List au)(n:Nat),Vals xs its/\s.heap.get? p=aa {cls:=.type "list",data:=.seq its.toArray n}/\xs.length<=aW:=by
 obtain⟨z,its,n,r,e⟩:=I.hok p _ h;exact#[its,n,r,e,z]
def Inv.lstUpd{pq:List (aD×eW)}{O:St}{H:Hp}{s:aA}{p:aD}{xs ys:List V}{its its':List au}{n n':Nat}{f:eW->eW}(I:Inv X pq O H s)(h:H p=aa (.lst xs))
  (ho:s.heap.get? p=aa {cls:=.type "list",data:=.seq its.toArray n})(hf:f {cls:=.type "list",data:=.seq its.toArray n}={cls:=.type "list",data:=.seq its'.toArray n' })(r:Vals ys its')(hz:ys.length<=aW)(t:Nat) :
  Inv X pq O (upd H p<|.lst ys) {s with heap:=s.heap.update p f,toks:=t}:=by
 have e:(s.heap.update p f).get? p=aa {cls:=.type "list",data:=.seq its'.toArray n' }:=by
  rw[fC f ho (by rw[hf]<;>rfl),hf]
 refine I.write (by rw[h];trivial) (.inl rfl) (λb u hb q=>(lK _ _<|Ne.symm hb).trans q) #[_,e] ?_
 exact#[hz,its',n',r,e]
def ZgO:V->V->V->Hp->(Hp->Prop)->Prop:=λo i v H Q=>∃p xs k j,o=.ref p/\i=.int k/\H p=aa (.lst xs)/\ixN xs.length k=aa j/\Q (upd H p<|.lst<|xs.set j v)
theorem ZaX:PSet X ZgO:=by
 intro pq s O H o i v ov iv u Q I ro ri rv h;obtain⟨p,xs,k,j,rfl,rfl,hp,hj,q⟩:=h;cases ro;obtain⟨t,rfl⟩:=ri;obtain⟨its,n,r,ho,hz⟩:=I.lst hp;obtain⟨h1,h2,h3,h4⟩:=vq hj;have hl:=r.length;have hn:=Ut;have I':=
  I.lstUpd hp ho (xL its n j u) (r.set rv j) (by rw[bx];exact hz) s.toks
 by_cases h0:0<=k
 .have hk:k.toNat=j:=by
   rw[o5 h0 h4]at h1;exact aq h1
  exact PySem.W.ki_setAt ho h0 #[0] (by rw[aC,<-hl];exact h4) (by rw[hk];exact#[_,I',q])
 .have hk:(k+(its.toArray.size:Int)).toNat=j:=by
   rw[n8 #[0] h3]at h1
   rw[aC,<-hl];exact aq h1
  exact PySem.W.ki_setBack ho #[0] (by rw[aC,<-hl];exact h3) #[0] (by rw[hk];exact#[_,I',q])
theorem Gb(lo hi:Option Int)(n:Nat):(gQ lo hi ag n).1=((HT.sIx n 0 lo:Nat):Int)/\(gQ lo hi ag n).2.1=((HT.sIx n n hi:Nat):Int)/\(gQ lo hi ag n).2.2=1:=by
 refine#[?_,?_,rfl]
 .cases lo with
  |none=>simp[gQ,HT.sIx]
  |some i=>
   simp only[gQ,HT.sIx,oK,show(1:Int)>0 by decide,if_true]
   by_cases h:i<0
   .simp only[h,if_true]<;>lia
   .simp only[h,if_false]<;>lia
 .cases hi with
  |none=>simp[gQ,HT.sIx]
  |some i=>
   simp only[gQ,HT.sIx,oK,show(1:Int)>0 by decide,if_true]
   by_cases h:i<0
   .simp only[h,if_true]<;>lia
   .simp only[h,if_false]<;>lia
def QH(its:List au)(lo hi:Option Int):slicePick its.toArray lo hi ag=((its.drop<|HT.sIx its.length 0 lo).take<|HT.sIx its.length its.length hi-HT.sIx its.length 0 lo).toArray:=by
 obtain⟨h1,h2,h3⟩:=Gb lo hi its.toArray.size;unfold slicePick;rw[h1,h2,h3];simp only[sliceRange_one,pick_run,aC]<;>rfl
def ZhN(K:ao):V->Option Int->Option Int->Hp->VK->Prop:=λx lo hi H Q=>∃a xs,x=.ref a/\SqL K H a xs/\∀p,H p=ag->Q (.ref p) (upd H p<|.lst<|YF xs lo hi)
theorem ZcA:SlR X (ZhN X.K):=by
 intro pq s O H x v vl vu lo hi sl Q I rx hs pl pu h;obtain⟨a,xs,rfl,hx,q⟩:=h;cases rx;obtain⟨its,r,ht,hz⟩:=I.list hx;have hlen:=r.length;refine#["list",_,slot_list_getitem.lookup,ht.isList.typeIs,?_];refine wpAny_getItem_list_slice ht.isList hs pl pu .none #[2] ?_ (by rw[aC]<;>lia)
 rw[QH,<-hlen];refine#[.ref s.heap.objs.size,_,I.laid (t':=s.toks) (λb ob q=>av _ q) (aF _) ?_,rfl,q _<|I.hok.fresh<|aF _]
 exact#[cx (VZ xs lo hi) hz,_,0,(r.drop<|HT.sIx xs.length 0 lo).take<|HT.sIx xs.length xs.length hi-HT.sIx xs.length 0 lo,aM _ rfl]
noncomputable def wa:V->Bool
 |.non=>al
 |.bl _=>al
 |.int _=>al
 |.str _=>al
 |_=>aj
noncomputable def eqV:V->V->Bool
 |.non,.non=>al
 |.bl a,.bl b=>a == b
 |.bl a,.int b=>(if a then 1 else 0) == b
 |.int a,.bl b=>a == (if b then 1 else 0)
 |.int a,.int b=>a == b
 |.str a,.str b=>a == b
 |_,_=>aj
def ZeN{A:bU}{s:aA}{y x:V}{u v:au}(ry:Zy y u)(rx:Zy x v)(fy:wa y=al)(fx:wa x=al):kc A s u v (eqV y x):=by
 cases y with
 |non=>
  cases ry;cases x with|non=>cases rx;exact l4 _|bl b=>cases rx;exact kc.none_bool b|int b=>obtain⟨t,rfl⟩:=rx;exact kc.none_int b t|str b=>obtain⟨t,rfl⟩:=rx;exact kc.none_str b t|_=>exact T7 (fx) aO
 |bl a=>
  cases ry;cases x with|non=>cases rx;exact kc.bool_none a|bl b=>cases rx;exact kc.bool_bool a b|int b=>obtain⟨t,rfl⟩:=rx;exact kc.bool_int a b t|str b=>obtain⟨t,rfl⟩:=rx;exact kc.bool_str a b t|_=>exact T7 (fx) aO
 |int a=>
  obtain⟨t',rfl⟩:=ry;cases x with|non=>cases rx;exact kc.int_none a t'|bl b=>cases rx;exact kc.int_bool a t' b|int b=>obtain⟨t,rfl⟩:=rx;exact kc.int_int a t' b t|str b=>obtain⟨t,rfl⟩:=rx;exact nk a t' b t|_=>exact T7 (fx) aO
 |str a=>
  obtain⟨t',rfl⟩:=ry;cases x with|non=>cases rx;exact kc.str_none a t'|bl b=>cases rx;exact kc.str_bool a t' b|int b=>obtain⟨t,rfl⟩:=rx;exact nq a t' b t|str b=>obtain⟨t,rfl⟩:=rx;exact kc.str_str a t' b t|_=>exact T7 (fx) aO
 |_=>exact T7 (fy) aO
theorem JL:ZJ X (.builtin "len") (λxs H Q=>∃p ys,xs=[.ref p]/\(SqL X.K H p ys\/SqT X.K H p ys)/\Q (.int ys.length) H):=by
 intro pq s O H xs us Q I r h;obtain⟨p,ys,rfl,hq,q⟩:=h;obtain⟨u,rfl,rx⟩:=Wc r;cases rx;have hn:=Ut;rcases hq with hq|hq
 .obtain⟨its,r',pl,hz⟩:=I.list hq
  have hlen:=r'.length;exact Calls.call_len_list pl.isList (by simp only[aC]<;>lia) #[.int ys.length,H,I.tok _,#[s.toks+1,by rw[aC,hlen]],q]
 .obtain⟨its,r',pl,hz⟩:=I.tuple hq
  have hlen:=r'.length;exact len_tuple pl (by simp only[aC]<;>lia) #[.int ys.length,H,I.tok _,#[s.toks+1,by rw[aC,hlen]],q]
theorem JN:ZJ X (.type "list") (λxs H Q=>∃p ys,xs=[.ref p]/\(SqL X.K H p ys\/SqT X.K H p ys)/\∀l,H l=ag->Q (.ref l) (upd H l<|.lst ys)):=by
 intro pq s O H xs us Q I r h;obtain⟨p,ys,rfl,hq,q⟩:=h;obtain⟨u,rfl,rx⟩:=Wc r;cases rx;have fin:∀(its:List au),Vals ys its->ys.length<=aW->∀(h':bV)(c':Nat),(∀b o',s.heap.get? b=aa o'->h'.get? b=aa o')->
   h'.get? s.heap.objs.size=aa {cls:=.type "list",dict:=ag,data:=.seq its.toArray c',slots:=#[]}->EP X pq O Q (.ref s.heap.objs.size) {s with heap:=h' }:=λits r' hz h' c' kp e=>
  #[.ref s.heap.objs.size,_,I.laid (t':=s.toks) kp (aF _) (show Z1 X.prog X.w _ h' _ (.lst ys)from#[hz,its,c',r',e]),rfl,q _<|I.hok.fresh<|aF _]
 rcases hq with hq|hq
 .obtain⟨its,r',pl,hz⟩:=I.list hq
  have hlen:=r'.length;obtain⟨o,ho,hc,n,hd⟩:=pl.isList;exact call_list_seq p (.inl rfl) ho hc hd (λh' c' kp e=>fin its r' hz h' c' kp e) (by simp only[aC]<;>lia)
 .obtain⟨its,r',pl,hz⟩:=I.tuple hq
  have hlen:=r'.length;obtain⟨o,ho,hc,n,hd⟩:=pl;exact call_list_seq p (.inr rfl) ho hc hd (λh' c' kp e=>fin its r' hz h' c' kp e) (by simp only[aC]<;>lia)
theorem Qy:ZJ X (.type "tuple") (λxs H Q=>∃p ys,xs=[.ref p]/\((SqL X.K H p ys/\∀l,H l=ag->Q (.ref l) (upd H l<|.tup ys))\/(SqT X.K H p ys/\Q (.ref p) H))):=by
 intro pq s O H xs us Q I r h;obtain⟨p,ys,rfl,h⟩:=h;obtain⟨u,rfl,rx⟩:=Wc r;cases rx;rcases h with⟨hq,q⟩|⟨hq,q⟩
 .obtain⟨its,r',pl,hz⟩:=I.list hq
  have hlen:=r'.length;refine call_tuple_list pl.isList (λh' kp=>?_) (by simp only[aC]<;>lia)
  have I1:=I.kept (t':=s.toks) kp
  have I2:=
   I1.laid (t':=s.toks) (λb o e=>av _ e) (aF _) (show Z1 X.prog X.w _ _ _ (.tup ys)from#[hz,its,r',h9 _ _])
  exact#[.ref h'.objs.size,_,I2,rfl,q _<|I1.hok.fresh<|aF _]
 .obtain⟨its,r',pl,hz⟩:=I.tuple hq
  exact call_tuple_same pl #[.ref p,H,I,rfl,q]
def tyV(K:ao)(T:String)(x:V)(H:Hp):Prop:=match x with
 |.str _=>T = "str"
 |.int _=>T = "int"
 |.ref p=>(T = "list"/\∃xs,SqL K H p xs)\/(T = "tuple"/\∃o,K.lookup p=aa o/\o.cls=.type "tuple"/\o.dict=ag)\/
   (T = "dict"/\((∃kvs,H p=aa (.dK kvs))\/∃kvs,H p=aa (.dT kvs)))
 |_=>False
def Zfh(I:Inv X pq O H s)(r:Zy x v)(ty:tyV X.K T x H) :
  s.TypeIs v T/\∀a,v=.ref a->∃ob,s.heap.get? a=aa ob/\ob.dict=ag:=by
 cases x with
 |str z=>
  obtain⟨t,rfl⟩:=r;cases(ty)
  exact#[typeIs_str s z t,λ_ e=>nomatch e]
 |int i=>
  obtain⟨t,rfl⟩:=r;cases(ty)
  exact#[lL s i t,λ_ e=>nomatch e]
 |ref p=>
  cases r;rcases ty with⟨rfl,xs,hq⟩|⟨rfl,o,hk,hc,hd⟩|⟨rfl,hk⟩
  .obtain⟨its,_,pl,_⟩:=I.list hq
   refine#[pl.isList.typeIs,λa e=>?_]
   cases e;obtain⟨o,n,e,c,hd,_⟩:=pl;exact#[o,e,hd]
  .refine#[#[o,I.kIn p o hk,hc],λa e=>?_]
   cases e;exact#[o,I.kIn _ o hk,hd]
  .have z:∃o,s.heap.get? p=aa o/\o.ExactDict:=by
    rcases hk with⟨kvs,hk⟩|⟨kvs,hk⟩
    .obtain⟨_,_,_,_,o,_,_,e,ex,_⟩:=I.hok p _ hk
     exact#[o,e,ex]
    .obtain⟨_,_,_,_,o,_,_,e,ex,_⟩:=I.hok p _ hk
     exact#[o,e,ex]
   obtain⟨o,e,ex⟩:=z;refine#[#[o,e,ex.1],λa e2=>?_]
   cases e2;exact#[o,e,ex.2.1]
 |_=>exact False.elim ty
def tBM(K:ao)(T:String)(r:V->List V->Hp->VK->Prop)(to:TE)(t:TA):TE:=λO H Q=>to O H λx H1=>tyV K T x H1/\t O H1 λxs H2=>r x xs H2 Q
variable{o e:Expr}{es:List Expr}{to:TE}{t:TA}{name:bn}{apos cpos:fD}{T id:String}{r:V->List V->Hp->VK->Prop}
def wb(pa:PlainAttrs T)(slot:Slot T name id)(hty:typeOf (.builtin id)=cy (.type "method_descriptor"))(hm:MtR X id r)(ho:PE X o to)(ha:PA X (e::es) t)
  (hbase:m9 o name X.env (cD o X.env)=cD o X.env:=by rfl)
  (hfew:((dG cpos<|aE (e::es) X.env).all (λx=>!x.1)&&(backToKw cpos<|o6 [] X.env).all (λx=>x.1.isSome)
   && ai ((e::es).length+([]:List oa).length+(if([]:List oa).isEmpty then 0 else 1)<30))=al:=by rfl)
  (hline:(apos.endLine == cpos.line)=al:=by rfl)(hs:aE (e::es) X.env=(aj,cD e X.env)::aE es X.env:=by rfl)(hplain:(dG cpos<|aE es X.env).any (·.1)=aj:=by rfl) :
  PE X (.Call (.Attribute o name apos) (e::es) [] cpos) (tBM X.K T r to t):=by
 intro pq s O H Q I h;refine wpAny_Call_method_late hbase hfew hline rfl<|thn (ho pq s O H _ I h) λv s1 #[x,H1,I1,r1,ty,q1]=>?_
 obtain⟨h1,h2⟩:=Zfh I1 r1 ty;refine#[T,id,pa,slot,hty,h1,h2,?_];have hA:=ha cpos pq s1 O H1 _ I1 q1;rw[hs]at hA ⊢;refine Calls.callWith_builtin (by show(aj||(dG cpos<|aE es X.env).any (·.1))=aj;rw[hplain]<;>rfl)<|Calls.evalArgs_plain ?_
 exact thn hA<|by rintro us s2 ⟨vs,H2,I2,r2,q2⟩;exact hm pq s2 O H2 x vs v us Q I2 r1 r2 q2
end
def MtM(X:Cx)(id:String)(r:V->List V->Hp->VK->Prop):Prop:=
 ∀(pq:List (aD×eW))(s:aA)(O:St)(H:Hp)(x:V)(xs:List V)(v:au)(us:List au)(Q:VK),Inv X pq O H s->Zy x v->Vals xs us->r x xs H Q->
  aX #[9] X.A (call (.builtin id) (v::us)) (EP X pq O Q) X.xe s
def Vals.one:∀{x:V}{us:List au},Vals [x] us->∃u,us=[u]/\Zy x u
 |_,_,.cons r .nil=>#[_,rfl,r]
theorem Vals.reverse(h:Vals xs us):Vals xs.reverse us.reverse:=by
 induction h with|nil=>exact .nil|cons r t ih=>rw[eP,eP];exact Vals.append ih<|.cons r .nil
theorem Vals.rep(h:Vals xs us):∀k:Nat,Vals (aw k xs).flatten (aw k us).flatten
 |0=>.nil
 |k+1=>by
  rw[bO,bO,cY,cY];exact Vals.append h<|Vals.rep h k
theorem VF(its:List au):∀(k:Nat)(acc:List au),
  List.foldl (λx1 x2=>x1++x2) acc.toArray (aw k its.toArray)=(acc++(aw k its).flatten).toArray
 |0,acc=>by simp
 |k+1,acc=>by
  have e:acc.toArray++its.toArray=(acc++its).toArray:=by simp
  have e2:(acc++its)++(aw k its).flatten=acc++(aw (k+1) its).flatten:=by
   rw[bO,cY,bI]
  rw[<-e2,<-VF its k (acc++its),<-e,bO,dC]
section
variable{X:Cx}{pq:List (aD×eW)}{O:St}{H:Hp}{s:aA}{l b:aD}{xs ys zs:List V}
def Inv.lset{its its':List au}{n:Nat}{f:Array au->Array au}{t':Nat}(I:Inv X pq O H s)(hH:H l=aa (.lst xs))
  (e:s.heap.get? l=aa {cls:=.type "list",data:=.seq its.toArray n})(hf:f its.toArray=its'.toArray)(hv:Vals ys its')(hz:ys.length<=aW) :
  Inv X pq O (upd H l<|.lst ys) {s with heap:=s.heap.update l<|eC f,toks:=t' }:=by
 have q:=PySem.IsL.update e f;rw[hf]at q;refine I.write (by rw[hH];exact trivial) (.inl rfl) (λb' u hb hu=>(lK s.heap (eC f)<|Ne.symm hb).trans hu) #[_,q] ?_
 exact#[hz,its',_,hv,q]
def Inv.lnew(I:Inv X pq O H s)(hv:Vals ys its)(hz:ys.length<=aW) :
  Inv X pq O (upd H s.heap.objs.size<|.lst ys) {s with heap:=s.heap.push {cls:=.type "list",data:=.seq its.toArray},toks:=t' }:=
 I.laid (λ_ _ q=>av _ q) (aF _) #[hz,its,0,hv,aM _ rfl]
theorem Inv.fresh(I:Inv X pq O H s):H s.heap.objs.size=ag:=I.hok.fresh<|aF _
def Inv.lstM(I:Inv X pq O H s)(hH:H l=aa (.lst xs)):xs.length<=aW/\∃(its:List au)(n:Nat),Vals xs its/\xs.length=its.length/\s.heap.get? l=aa {cls:=.type "list",data:=.seq its.toArray n}:=by
 obtain⟨z,its,n,r,e⟩:=I.hok l _ hH;exact#[z,its,n,r,r.length,e]
end
section
variable{X:Cx}
def wv:V->List V->Hp->VK->Prop:=λx vs H Q=>∃l xs y,x=.ref l/\vs=[y]/\H l=aa (.lst xs)/\xs.length<aW/\Q .non (upd H l<|.lst<|xs++[y])
theorem Wv:MtM X "list.append" wv:=by
 intro pq s O H x vs v us Q I rx rv h;obtain⟨l,xs,y,rfl,rfl,hH,hz,q⟩:=h;cases rx;obtain⟨u,rfl,ru⟩:=rv.one;obtain⟨z,its,n,r,hl,e⟩:=I.lstM hH;refine gM F.slot_list_append #[_,e,rfl] F.entry_list_append (F.args_list_append_2 _ _) (PySem.list_append l its.toArray n u<|by rw[aC];lia) #[e,?_]
 refine#[.non,_,I.lset (its':=its++[u]) hH e #[2] (r.append<|.cons ru .nil) ?_,rfl,q]
 rw[aU,mh];lia
def Zc4:R2:=λx y H Q=>∃l b xs zs,x=.ref l/\y=.ref b/\H l=aa (.lst xs)/\H b=aa (.lst zs)/\xs.length+zs.length<=aW/\∀p,H p=ag->Q (.ref p) (upd H p<|.lst<|xs++zs)
theorem Gd:OpR X (eO .Add) Zc4:=by
 intro pq s O H x y v u Q I rx ry h;obtain⟨l,b,xs,zs,rfl,rfl,hH,hB,hz,q⟩:=h;cases rx;cases ry;obtain⟨z,its,n,r,hl,e⟩:=I.lstM hH;obtain⟨z2,its2,n2,r2,hl2,e2⟩:=I.lstM hB;refine PySem.P.add_list e e2 ?_ (by rw[aC,aC];lia)
 have ea:its.toArray++its2.toArray=(its++its2).toArray:=by simp
 rw[ea];exact#[.ref _,_,I.lnew (t':=s.toks) (r.append r2) (by rw[aU];lia),rfl,q _ I.fresh]
def JX{B:Type}(xs:List B)(k:Nat):(aw k xs).flatten.length=k*xs.length:=by
 induction k with|zero=>simp|succ k ih=>rw[bO,cY,aU,ih,Nat.succ_mul,iT]
end
end L2
namespace Att
open PySem PySem.W PySem.Calls PyProof.Rows
def V2 :∀(ns:List Int)(vs:List au),WellAll P h vs (ns.map WData.int)->pC vs ns:=by
 intro ns
 induction ns with
 |nil=>
  intro vs w;rw[List.map_nil]at w;cases w;exact .nil
 |cons n ns ih=>
  intro vs w;rw[aZ]at w;cases w with
  |cons a b=>
   cases a;exact .cons _ _<|ih _ b
def uU{l:OpenLaw}{n:Nat}(hn:l.most=aa n){P:Params}{h:bV}{args:List WData}{vals:List au}
  (hpre:l.row.toRowW.claim.pre args=al)(hwl:WellAll P h vals args) :
  ∃a vs ns,vals=[cG a]/\args=[WData.list<|ns.map WData.int]/\h.get? a=aa {cls:=.type "list",data:=.seq vs.toArray}/\pC vs ns/\ns.length<=n:=by
 have hsh:=(pre_splitW hpre).1;have hc:=(pre_splitW hpre).2;obtain⟨d,r,rfl,h1,h2⟩:=hasAllW_cons hsh;obtain rfl:=hasAllW_nil h2;obtain⟨xs,rfl,h3⟩:=hasW_list h1;obtain⟨ns,rfl⟩:=items_int h3;have hlen:ns.length<=n:=by
  have h4:(WTm.not<|.lt (.lit<|.int (n:Int))<|.len<|.arg 0).holds [] {args:=[.list<|ns.map .int]}=al:=by
   have h4:=(holds_andW hc).1;rw[hn]at h4;exact h4
  have h5:=condW_of h4<|w_not<|w_lt w_lit<|w_len_list<|w_arg rfl;rw[ay]at h5;refine eZ λq=>?_
  have q':(n:Int)<((ns.length:Nat):Int):=by lia
  first
   |(rw[T5 q']at h5;exact T7 h5 #[1])
   |(simp at h5;lia)
 cases hwl with
 |cons w1 w2=>
  cases w2;cases w1 with|list ho hall=>exact#[_,_,ns,rfl,rfl,ho,V2 ns _ hall,hlen]
def ub(l:OpenLaw)(args:List WData):l.row.toRowW.claim.post args (.bool al) args=al:=
 postW_of
  (by first|rfl|decide|simp[WShape.has,WShape.arms,WShape.armsAll])
  (w_eq_bool (w_res rfl) w_lit) rfl
def GW{l:OpenLaw}{n:Nat}{q:bt}{loose:List bn}{XP:(bn->Option au)->bV->Prop}{YP:bN->bV->Prop}{d:rH}
  (hn:l.most=aa n)(hdf:d.params.defaults=[])
  (call:∀(w:bN)(s₀ s₁:aA)(mg mb:bn->Option au)(fa:aD)(o:eW)(pm cd doc:au)(a:aD)(vs:List au)(ns:List Int),
   Ground q loose [] XP w s₀ mg mb s₁.heap->YP w s₁.heap->
   s₁.heap.get? fa=aa o->o.data=.func (docDef d.name d.params d.body d.scope pm cd doc)->s₁.heap.CodeRec cd d.name->mg d.name=aa (.ref fa)->
   s₁.heap.get? a=aa {cls:=.type "list",data:=.seq vs.toArray}->pC vs ns->ns.length<=n->s₁.gens = #[]->
   gV (aT l.prog w) mR (.call (.ref fa) #[[.ref a],[]]) (λr s'=>r=.ok (.ret<|.bool al)/\OldK s₁.heap s'.heap/\s'.os=s₁.os/\im s'.gens) s₁) :
  WalkO q loose XP YP l.row.toRowW d [] (λf vs=>pK f vs):=by
 intro w s₀ s₁ mg mb G Y fa o pm cd doc dV kV ho hd hcd hD hmg hg args vals as hpre hlay hrd hwl hlo;obtain rfl:dV=.none:=Dflts.none hD hdf;obtain rfl:kV=.none:=Dflts.noKw hD;obtain⟨a,vs,ns,rfl,rfl,hobj,hints,hlen⟩:=uU hn hpre hwl;refine enter_call<|gW (call w s₀ s₁ mg mb fa o pm cd doc a vs ns G Y ho (fd_plain hd) hcd hmg hobj hints hlen hg) λr s' hq=>?_
 obtain⟨rfl,h2,h3,h4⟩:=hq;exact#[.inl #[.bool al,.bool al,[],rfl,λ_=>rfl,.bool al,ub l _,λ_=>#[kH,λ_ hm=>(nomatch hm)]],h2,h3,h4]
end Att
namespace L2
open PySem PySem.Spec PyProof.Rows
theorem Q0:∀{vs:List au}{ns:List Int},pC vs ns->Vals (ns.map V.int) vs
 |_,_,.nil=>.nil
 |_,_,.cons n t h=>.cons #[t,rfl]<|Q0 h
noncomputable def Xd(s:ef):oI:=match s with
 |.FunctionDef _ a _ _ _ _ _ _ _ _=>a
 |_=>{posonlyargs:=[],args:=[],vararg:=ag,kwonlyargs:=[],kw_defaults:=[],kwarg:=ag,defaults:=[]}
noncomputable def ZC(s:ef):List ef:=match s with
 |.FunctionDef _ _ b _ _ _ _ _ _ _=>b
 |_=>[]
noncomputable def Zf(s:ef):dO:=match s with
 |.FunctionDef _ _ _ _ _ _ sc _ _ _=>sc
 |_=>{kind:=.function,names:=[],isGenerator:=aj,isCoroutine:=aj}
noncomputable abbrev E0:XK:=λ_ _ _=>False
structure Fun(K:ao)(x qual:bn)(st:ef)(f:aD)(fd:cB):Prop where
 ex:∃(oc:au)(od:Option aD)(kV doc pm:au)(an:Option aD)(cdv ct:au)(osl:Array (Option au)),
  fd=eg x qual (Xd st) (ZC st) (Zf st) .none kV doc pm an cdv ct/\K.lookup f=aa #[oc,od,.func fd,osl]/\iZ K cdv qual=al
 kp:fM K (.ref f)=al
section
variable{P:bt}{w:bN}{K:ao}{mg:bn->Option au}{base:bV}
def Fun.binds{x qual:bn}{st:ef}{f:aD}{fd:cB}{ps:List bn}(F:Fun K x qual st f fd)
  (h:∀(kV doc pm:au)(an:Option aD)(cdv ct:au)(us:List au),us.length=ps.length->mz (eg x qual (Xd st) (ZC st) (Zf st) .none kV doc pm an cdv ct) #[us,[]]=cy (ps.zip us)):VW K fd ps []:=by
 obtain⟨oc,od,kV,doc,pm,an,cdv,ct,osl,rfl,lk,hcd⟩:=F.ex;exact .all<|h kV doc pm an cdv ct
def Zgd{x qual:bn}{st:ef}{f:aD}{oc:au}{od an:Option aD}{osl:Array (Option au)}{kV doc pm cdv ct:au}(l:K.lookup f=aa #[oc,od,.func<|eg x qual (Xd st) (ZC st) (Zf st) .none kV doc pm an cdv ct,osl])
  (c:iZ K cdv qual=al)(k:fM K (.ref f)=al):Fun K x qual st f (eg x qual (Xd st) (ZC st) (Zf st) .none kV doc pm an cdv ct):=#[#[oc,od,kV,doc,pm,an,cdv,ct,osl,rfl,l,c],k]
end
section
variable{κ:Type}[DecidableEq κ]
noncomputable def V1(kvs:List (κ×V))(k:κ):Option V:=(kvs.find? λkv=>ai<|kv.1=k).map (·.2)
noncomputable def WG(kvs:List (κ×V))(k:κ)(v:V):List (κ×V):=
 if(kvs.any λkv=>ai<|kv.1=k)=al then kvs.map (λkv=>if kv.1=k then(kv.1,v)else kv)else kvs++[(k,v)]
def Ur{p:κ×V}{r:List (κ×V)}{k:κ}(e:p.1=k):V1 (p::r) k=aa p.2:=by simp[V1,eM,e]
def UZ{p:κ×V}{r:List (κ×V)}{k:κ}(e:¬p.1=k):V1 (p::r) k=V1 r k:=by simp[V1,eM,e]
theorem Wb(k:κ):∀kvs:List (κ×V),(kvs.any λkv=>ai<|kv.1=k)=(V1 kvs k).isSome
 |[]=>rfl
 |p::r=>by
  rw[fB];by_cases e:p.1=k
  .simp only[Ur e,T5 e,Bool.true_or,nE]
  .rw[UZ e,T4 e,kQ];exact Wb k r
theorem VS(kvs:List (κ×V))(k:κ)(v:V):(WG kvs k v).length<=kvs.length+1:=by
 unfold WG;split
 .rw[ay];lia
 .rw[aU,aQ,List.length_nil];lia
def qT{kvs:List (κ×V)}{k:κ}(v:V)(h:V1 kvs k=ag):WG kvs k v=kvs++[(k,v)]:=by
 unfold WG;rw[Wb,h];exact T8 #[1]
def ZcC.isSome_eq(r:ZcC o u):o.isSome=u.isSome:=by
 cases o with
 |none=>cases u with|none=>rfl|some _=>exact(r).elim
 |some _=>cases u with|none=>exact(r).elim|some _=>rfl
def KV.val{kvs:List (κ×V)}{vs:List (κ×au)}(r:KV kvs vs)(k:κ):ZcC (V1 kvs k) (oh vs k):=by
 unfold KV at r
 induction r with
 |nil=>exact dJ
 |@cons p q ps qs h t ih=>
  obtain⟨h1,h2⟩:=h;by_cases e:p.1=k
  .have e':=h1.symm.trans e
   have b:oh (q::qs) k=aa q.2:=by simp[oh,eM,e']
   rw[Ur e,b];exact h2
  .have e':¬q.1=k:=λz=>e (h1.trans z)
   have b:oh (q::qs) k=oh qs k:=by simp[oh,eM,e']
   rw[UZ e,b];exact ih
theorem KV.any(r:KV kvs vs)(k:κ):(kvs.any λkv=>ai<|kv.1=k)=vs.any λkv=>ai (kv.1=k):=by
 unfold KV at r
 induction r with|nil=>rfl|cons h t ih=>rw[fB,fB,ih,h.1]
def KV.repl(r:KV kvs vs)(k:κ)(ry:Zy y u) :
  KV (kvs.map λkv=>if kv.1=k then(kv.1,y)else kv) (vs.map λkv=>if kv.1=k then(kv.1,u)else kv):=by
 unfold KV at r ⊢
 induction r with
 |nil=>exact .nil
 |@cons p q ps qs h t ih=>
  rw[aZ,aZ];refine .cons ?_ ih;obtain⟨h1,h2⟩:=h;by_cases e:p.1=k
  .rw[T9 e,T9<|h1.symm.trans e];exact#[h1,ry]
  .rw[T8 e,T8 λz=>e<|h1.trans z];exact#[h1,h2]
def KV.put(r:KV kvs vs)(k:κ)(ry:Zy y u):KV (WG kvs k y) (stored vs k u):=by
 unfold WG stored;rw[r.any k];by_cases e:(vs.any λkv=>ai<|kv.1=k)=al
 .rw[T9 e,T9 e];exact r.repl k ry
 .rw[T8 e,T8 e];exact Paired.snoc r #[rfl,ry]
theorem KV.length{kvs:List (κ×V)}{vs:List (κ×au)}(r:KV kvs vs):kvs.length=vs.length:=Paired.length r
end
def Zbt(r:Zy (kV k) u):(ZQ P w).is k u=al:=by
 cases k with|inl i=>obtain⟨t,e⟩:=(r);subst e;exact yD P w i t|inr x=>obtain⟨t,e⟩:=(r);subst e;exact z5 P w x t
theorem Jb :∀{ks:List Key}{us:List au},Vals (ks.map kV) us->ItemsAre (ZQ P w) ks us
 |[],_,r=>by rw[List.map_nil]at r;cases r;exact .nil
 |k::ks,_,r=>by
  rw[aZ]at r;cases r with|cons h t=>exact .cons (Zbt h)<|Jb t
abbrev KT(H:Hp):List (List Key×V)->List (List Key×aD×au)->Prop:=Paired λp q=>p.1=q.1/\H q.2.1=aa (.tup<|p.1.map kV)/\Zy p.2 q.2.2
def KT.val{H:Hp}{kvs:List (List Key×V)}{xs:List (List Key×aD×au)}(r:KT H kvs xs)(k:List Key):ZcC (V1 kvs k) ((oi xs k).map (·.2)):=by
 induction r with
 |nil=>exact dJ
 |@cons p q ps qs h t ih=>
  obtain⟨h1,_,h2⟩:=h;by_cases e:p.1=k
  .have e':=h1.symm.trans e
   have b:oi (q::qs) k=aa q.2:=by simp[oi,eM,e']
   rw[Ur e,b];exact h2
  .have e':¬q.1=k:=λz=>e (h1.trans z)
   have b:oi (q::qs) k=oi qs k:=by simp[oi,eM,e']
   rw[UZ e,b];exact ih
def KT.repl{H:Hp}{kvs:List (List Key×V)}{xs:List (List Key×aD×au)}(r:KT H kvs xs)(k:List Key){y:V}{u:au}(ry:Zy y u) :
  KT H (kvs.map λkv=>if kv.1=k then(kv.1,y)else kv) (xs.map<|putAt k u):=by
 induction r with
 |nil=>exact .nil
 |@cons p q ps qs h t ih=>
  rw[aZ,aZ];refine .cons ?_ ih;obtain⟨h1,h2,h3⟩:=h;unfold putAt;by_cases e:p.1=k
  .rw[T9 e,T9<|h1.symm.trans e];exact#[h1,h2,ry]
  .rw[T8 e,T8 λz=>e<|h1.trans z];exact#[h1,h2,h3]
def KT.put{H:Hp}{kvs:List (List Key×V)}{xs:List (List Key×aD×au)}(r:KT H kvs xs)(k:List Key){b:aD}{y:V}{u:au}(hb:H b=aa (.tup<|k.map kV))(ry:Zy y u) :
  KT H (WG kvs k y) (storedH xs k b u):=by
 have e:(kvs.any λkv=>ai<|kv.1=k)=(oi xs k).isSome:=by
  rw[Wb,(r.val k).isSome_eq,oj]
 unfold WG storedH;rw[e];by_cases q:(oi xs k).isSome=al
 .rw[T9 q,T9 q];exact r.repl k ry
 .rw[T8 q,T8 q];exact Paired.snoc r #[rfl,hb,ry]
def KT.keeps{H H':Hp}{kvs:List (List Key×V)}{xs:List (List Key×aD×au)}(r:KT H kvs xs)(ht:∀b ys,H b=aa (.tup ys)->H' b=aa (.tup ys)):KT H' kvs xs:=
 Paired.mapP r λ_ _ z=>#[z.1,ht _ _ z.2.1,z.2.2]
def ZdO(ok:HOk P w H h)(e:Rd H a u):Z1 P w H h a u:=e.ok ok
def Zd5(ok:HOk P w H h)(e:Rd H a (.dK kvs)):kvs.length<=aW/\(a == cW)=aj/\∃vs,KV kvs vs/\h.DictOf (ZQ P w) a vs:=
 ZdO ok e
def Zg7(ok:HOk P w H h)(e:H a=aa (.dK kvs)):kvs.length<=aW/\(a == cW)=aj/\∃vs,KV kvs vs/\h.DictOf (ZQ P w) a vs:=Zd5 ok<|.inl e
def Qi(ok:HOk P w H h)(e:H a=aa (.tup<|ks.map kV)):(dS<|ZQ P w).is h ks a:=by
 obtain⟨_,its,r,o,h1,h2,n,h3⟩:=(ok a _ e)
 exact#[o,its.toArray,n,h1,h2,h3,by simpa using Jb r]
def ZdT(ok:HOk P w H h)(e:Rd H a (.dT kvs)):kvs.length<=aW/\(a == cW)=aj/\
  ∃xs,KT H kvs xs/\h.DictOfH (dS<|ZQ P w) a xs:=by
 obtain⟨z,y,xs,r,o,es,ep,h1,h2,h3,h4,h5⟩:=(ZdO ok e)
 refine#[z,y,xs,r,o,es,ep,h1,h2,h3,h4,λx hx=>?_,h5]
 have all:∀{l:List (List Key×V)}{m:List (List Key×aD×au)},KT H l m->∀x∈m,(dS<|ZQ P w).is h x.1 x.2.1:=by
  intro l m q
  induction q with
  |nil=>intro x hx;exact nomatch hx
  |@cons p q ps qs hq t ih=>
   intro x hx;rcases az.mp hx with e|hx
   .subst e
    exact Qi ok (by rw[<-hq.1];exact hq.2.1)
   .exact ih x hx
 exact all r x hx
def ZdE{kvs:List (List Key×V)}(ok:HOk P w H h)(e:H a=aa (.dT kvs)):kvs.length<=aW/\(a == cW)=aj/\
  ∃xs,KT H kvs xs/\h.DictOfH (dS<|ZQ P w) a xs:=ZdT ok<|.inl e
def DGet(H:Hp)(a:aD)(y:V)(r:Option V):Prop:=
 (∃kvs k,Rd H a (.dK kvs)/\y=kV k/\r=V1 kvs k)\/∃kvs k b,Rd H a (.dT kvs)/\y=.ref b/\H b=aa (.tup<|k.map kV)/\r=V1 kvs k
def DPut(H:Hp)(a:aD)(y v:V)(H':Hp):Prop:=
 (∃kvs k,H a=aa (.dK kvs)/\y=kV k/\kvs.length<aW/\H'=upd H a (.dK<|WG kvs k v))\/
 ∃kvs k b,H a=aa (.dT kvs)/\y=.ref b/\H b=aa (.tup<|k.map kV)/\kvs.length<aW/\H'=upd H a (.dT<|WG kvs k v)
def DPut.t{H:Hp}{a b:aD}{kvs:List (List Key×V)}{k:List Key}{v:V}(e:H a=aa (.dT kvs))(eb:H b=aa (.tup<|k.map kV))(hl:kvs.length<aW) :
  DPut H a (.ref b) v (upd H a<|.dT<|WG kvs k v):=.inr #[kvs,k,b,e,rfl,eb,hl,rfl]
def Inv.big(I:Inv X pq O H s):cW<s.heap.objs.size:=by
 have h:=(I.mod.glob.keeps I.bk).lt;exact dg #[1] h
def Zcq{Q:au->aA->Prop}(hu:A.units+1<d4)(I:Inv X pq O H s)(g:DGet H a y o)(ry:Zy y u)(h:∀s',Inv X pq O H s'->Q (.bool<|!o.isSome) s') :
  aX #[9] A (du .NotIn u<|.ref a) Q E s:=by
 rcases g with⟨kvs,k,e,ey,l⟩|⟨kvs,k,b,e,ey,eb,l⟩
 .subst ey
  obtain⟨z,hd,vs,rel,dd⟩:=Zd5 I.hok e;refine wpAny_notIn_of (Zbt ry) hd dd.mapOf ?_;rw[<-(rel.val k).isSome_eq,<-l];exact h _<|I.tok _
 .subst ey
  cases(ry)
  obtain⟨z,hd,xs,rel,dd⟩:=ZdT I.hok e;refine wpAny_notIn_heap (ke hu) (Qi I.hok eb) hd dd ?_;have q:=(rel.val k).isSome_eq;rw[oj]at q;rw[<-q,<-l];exact h _<|I.tok _
def Gf(I:Inv X pq O H s)(mu:Mut (H a))(hs:fe a s.heap h')(he:∃q,h'.get? a=aa q)(new:Z1 X.prog X.w (upd H a ob) h' a ob) :
  Inv X pq O (upd H a ob) {s with heap:=h',toks:=t' }:=
 I.write mu (.inl rfl) (λb q hb z=>(hs.2 b hb).trans z) he new
def Zf9(z:kvs.length<=aW)(hd:(a == cW)=aj)(rel:KV kvs vs)(dd:h'.DictOf (ZQ P w) a vs) :
  Z1 P w H' h' a (.dK kvs):=#[z,hd,vs,rel,dd]
def v6{H':Hp}{Q:Unit->aA->Prop}(hu:A.units+1<d4)(I:Inv X pq O H s)(g:DPut H a y v H')(ry:Zy y u)(rv:Zy v r)(h:∀s',Inv X pq O H' s'->Q () s') :
  aX #[9] A (rE (.ref a) u r) Q E s:=by
 rcases g with⟨kvs,k,e,ey,l,eH⟩|⟨kvs,k,b,e,ey,eb,l,eH⟩
 .subst ey eH
  obtain⟨z,hd,vs,rel,dd⟩:=Zg7 I.hok e;have hz:vs.length<=aW:=by rw[<-rel.length];exact z
  have hl:(WG kvs k v).length<=aW:=by have:=VS kvs k v;lia
  refine wpAny_setItem_pairs (hsz:=hz) (Zbt ry) dd λh' dd' hs=>h _ ?_
  have he:∃q,h'.get? a=aa q:=let #[q,_,_,hq,_]:=dd';#[q,hq];exact Gf I (by rw[e];exact dJ) hs he<|Zf9 hl hd (rel.put k rv) dd'
 .subst ey eH
  cases(show u=cG b from ry)
  obtain⟨z,hd,xs,rel,dd⟩:=ZdE I.hok e;have hz:xs.length<=aW:=by rw[<-Paired.length rel];exact z
  have hl:(WG kvs k v).length<=aW:=by have:=VS kvs k v;lia
  refine wpAny_setItem_heap (hsz:=hz) (ke hu) (Qi I.hok eb) dd λh' dd' hs=>h _ ?_
  obtain⟨q,es,ep,hq,h2,h3,h4,_,h5⟩:=dd';refine Gf I (by rw[e];exact dJ) hs #[q,hq] #[hl,hd,_,(rel.put k eb rv).keeps λc ys ec=>?_,q,es,ep,hq,h2,h3,h4,h5]
  rw[Zi (Zea ec e #[19])]
  exact ec
def ZgK(td ty tv:TE):TS:=λD O H=>tv O H λv H1=>td O H1 λx H2=>ty O H2 λy H3=>∃a H4,x=.ref a/\DPut H3 a y v H4/\D.nx O H4
section
variable{X:Cx}{o i e value:Expr}{pos pos' tpos:fD}{td ty tv:TE}
def Zda(hu:X.A.units+1<d4)(ho:PE X o td)(hi:PE X i ty)(hv:PE X value tv)(hs:ej value (aa<|.Subscript o i pos') pos.line X.env=cy aj) :
  PS X (.Assign [.Subscript o i pos'] value pos) (ZgK td ty tv):=by
 intro pq s O H D I h;refine wpAny_Assign_Subscript (thn (hv pq s O H _ I h) λr s1 #[v,H1,I1,rv,q1]=>thn (ho pq s1 O H1 _ I1 q1) λu s2 #[x,H2,I2,rx,q2]=>thn (hi pq s2 O H2 _ I2 q2) λiv s3 #[y,H3,I3,ry,a,H4,ex,g,q3]=>?_) hs
 subst ex;obtain rfl:u=cG a:=rx;exact v6 hu I3 g ry rv λs4 I4=>#[O,H4,I4,q3]
end
def qo(h:bV)(hb:cW<h.objs.size):Z1 P w H (h.push {cls:=.type "dict",data:=.dict #[]}) h.objs.size (.dK []):=
 #[dD _,beq_eq_false_iff_ne.mpr<|Ne.symm<|bh hb,[],.nil,bV.DictOf.new h]
def qm(h:bV)(hb:cW<h.objs.size):Z1 P w H (h.push {cls:=.type "dict",data:=.dict #[]}) h.objs.size (.dT []):=
 #[dD _,beq_eq_false_iff_ne.mpr<|Ne.symm<|bh hb,[],.nil,_,#[],0,aM _ rfl,#[rfl,rfl,rfl],rfl,rfl,mC]
def Ze4:TE:=λ_ H Q=>∀p,H p=ag->Q (.ref p) (upd H p<|.dK [])
section
variable{X:Cx}{pos:fD}
def jg:PE X (.Dict [] [] pos) Ze4:=λpq s O H Q I h=>
 wpAny_Dict_empty #[.ref s.heap.objs.size,_,I.laid (t':=s.toks) (λ_ _ q=>av _ q) (aF _)<|qo s.heap I.big,rfl,h _<|I.hok.fresh<|aF _]
end
def yS:List (TE×TE)->St->Hp->(List (V×V)->Hp->Prop)->Prop
 |[],_,H,Q=>Q [] H
 |(tk,tv)::r,O,H,Q=>tk O H λx H1=>tv O H1 λy H2=>yS r O H2 λps H3=>Q ((x,y)::ps) H3
abbrev VV:List (V×V)->List (au×au)->Prop:=Paired λp q=>Zy p.1 q.1/\Zy p.2 q.2
def PPs(X:Cx)(pos:fD)(keys:List (Option Expr))(values:List Expr)(trs:List (TE×TE)):Prop:=
 ∀(pq:List (aD×eW))(s:aA)(O:St)(H:Hp)(Q:List (V×V)->Hp->Prop),Inv X pq O H s->yS trs O H Q->
  aX #[9] X.A (evalPairs<|pairTrees keys values X.env pos) (λvs s'=>∃ps H',Inv X pq O H' s'/\VV ps vs/\Q ps H') X.xe s
def Zbx :PPs X pos [] [] []:=λpq s O H Q I h=>pairTrees_nil_walk #[[],H,I,.nil,h]
def Zag(hk:PE X k tk)(hv:PE X v tv)(hr:PPs X pos ks vs trs) :
  PPs X pos (aa k::ks) (v::vs) ((tk,tv)::trs):=λpq s O H Q I h=>
 pairTrees_cons_walk (thn (hk pq s O H _ I h) λu s1 #[x,H1,I1,rx,q1]=>thn (hv pq s1 O H1 _ I1 q1) λw2 s2 #[y,H2,I2,ry,q2]=>
  thn (hr pq s2 O H2 _ I2 q2)<|by rintro ws s3 ⟨ps,H3,I3,rel,q3⟩;exact #[(x,y)::ps,H3,I3,.cons #[rx,ry] rel,q3])
end L2
namespace Pv
open PySem (Str)
inductive V where
 |non|bl (b:Bool)|int (i:Int)|str (x:bn)|tup (xs:List V)|lst (xs:List V)|drw|dct (ks:Sum (List<|Int×Int) (List<|List Int))|scr (ns:List Int)
 |dow (ks:List (List Int))
 deriving Inhabited
end Pv
namespace Ev
open PySem (Str)
def nos{B:Type}{P:Prop}{b:B}(h:ag=aa b):P:=by cases h
noncomputable def lim:Nat:=16777216
inductive Bop where|add|sub|mul|fdiv|mod|pow
 deriving DecidableEq
inductive Cop where|eq|ne|lt|le|gt|ge|is|nin
 deriving DecidableEq
inductive Ty where|int|bool|str|tuple|list|dict|cls (c:Nat)
 deriving DecidableEq
inductive Bf where|len|max2|min2|toInt|tuple|list|all|sum|sortedR|dictP|listD|sortedD|index|rangeL
 deriving DecidableEq
inductive So where|join|split|find|ix
 deriving DecidableEq
inductive Mf where|append|index
 deriving DecidableEq
mutual
inductive E where
 |c (d:Pv.V)|v (i:Nat)
 |tup (es:List E)|lst (es:List E)|dnew
 |bin (op:Bop) (a b:E)|neg (a:E)|not (a:E)|and (a b:E)|or (a b:E)|ite (t a b:E)
 |cmp (op:Cop) (a b:E)|chain (o p:Cop) (a b d:E)
 |ix (a i:E)|sl (a:E) (lo hi:Option E)|rev (a:E)
 |call (f:Nat) (as:List E)|blt (f:Bf) (as:List E)|mt (m:Mf) (o:E) (as:List E)
 |isi (a:E) (ts:List Ty)
 |comp1 (cap:List Nat) (nl:Nat) (t:List Nat) (it:W) (ifs:List E) (elt:E)
 |refu (w:Bool) (e:E)
 |dix (a:E) (k:Bool)
inductive W where
 |of (e:E)|rng1 (a:E)|rng2 (a b:E)|zip (a b:E)|enum (a:E)
end
abbrev E.n(i:Int):E:=.c<|.int i
inductive Sm where
 |asg (t:List Nat) (e:E)|par (t:List Nat) (es:List E)|aug (i:Nat) (op:Bop) (e:E)|dput (o i e:E)
 |ret (e:E)|ex (e:E)|ite (t:E) (a b:List Sm)|forr (t:List Nat) (it:W) (b:List Sm)|whl (t:E) (b:List Sm)
 |raise (c:Nat) (as:List E)
 |dset (i:Nat) (e:E)|cel (i f:Nat) (as:List E) (b:List Sm)
 |dnw (i:Nat) (k:E)|forF (t:List Nat) (e:E) (b:List Sm)
 |lnw (i:Nat) (es:List E)|cat (i:Nat) (es:List E)|app (i:Nat) (e:E)
noncomputable def b2i(b:Bool):Int:=if b then 1 else 0
noncomputable def ZA:Nat:=6
noncomputable def ixN(n:Nat)(i:Int):Option Nat:=if 0<=i then(if i<n then aa i.toNat else ag)else if -(n:Int)<=i then aa (i+n).toNat else ag
def at'{B:Type}(xs:List B)(i:Int):Option B:=(ixN xs.length i).bind λj=>xs[j]?
noncomputable def sIx(n d:Nat):Option Int->Nat
 |none=>d
 |some i=>if i<0 then(i+n).toNat else rO i.toNat n
noncomputable def fits(i:Int):Bool:=ai<|i.natAbs<2^8000
noncomputable def big:Int:=2^8000
def jw(h:b<1073741824):b<big:=Int.lt_trans h (by decide +kernel)
noncomputable def ltI:List Int->List Int->Bool
 |[],[]=>aj
 |[],_::_=>al
 |_::_,[]=>aj
 |a::x,b::y=>if a=b then ltI x y else ai (a<b)
def Yw(x:List Int):List #[14]->List #[14]
 |[]=>[x]
 |y::r=>if ltI x y then x::y::r else y::Yw x r
def Zm:List #[14]->List #[14]
 |[]=>[]
 |x::r=>Yw x<|Zm r
noncomputable def QB{B:Type}(lt:B->B->Bool)(x:B):List B->List B
 |[]=>[x]
 |y::r=>if lt x y then x::y::r else y::QB lt x r
def Wa{B:Type}(lt:B->B->Bool):List B->List B
 |[]=>[]
 |x::r=>QB lt x<|Wa lt r
def ltP:List #[14]->List #[14]->Bool
 |[],[]=>aj
 |[],_::_=>al
 |_::_,[]=>aj
 |a::x,b::y=>if a=b then ltP x y else ltI a b
noncomputable def qg(is:List Int):Bool:=ai (is.length<=1000)&&is.all λi=>ai<|-1099511627776<=i/\i<=1099511627776
noncomputable def Z5(rs:List #[14]):Bool:=ai (rs.length<=100000)&&decide rs.Nodup&&rs.all λr=>!r.isEmpty
noncomputable def YS(ps:List (List<|List Int)):Bool:=ai (ps.length<=100000)&&decide ps.Nodup&&(ai (ps.length<=1)||ps.all λP=>!P.isEmpty)
def UI(ks:List #[14]):Bool:=ai (ks.length<=lim)&&decide ks.Nodup
noncomputable def WC(i:Int):Bool:=ai<|-(2^62)<=i/\i<2^62
noncomputable def few(i:Int):Bool:=ai<|0<=i/\i<=1000
noncomputable def zY:Nat:=1000
noncomputable def spcs:List (Nat×Nat):=[(2,1),(2,2),(2,3),(2,4),(3,1),(3,2),(3,3),(5,1),(5,2),(2,5),(2,6),(3,4),(5,3)]
def ZgT(rs:List #[14]):Bool:=Z5 rs&&(ai (rs.length<=300)&&spcs.any λq=>rs.all λr=>ai (r.length=q.2)&&r.all λa=>ai<|0<=a/\a<(q.1:Int))
noncomputable def ZgC(P:List #[14]):Int:=oM<|hJ<|P.map λr=>oM<|hJ<|r.map PySem.hashInt
def Zgf(ps:List (List<|List Int)):Bool:=YS ps&&(ai (ps.length<=1399)&&ai (ps.map ZgC).Nodup)
structure Fn where
 ps:Nat
 ns:Nat
 body:List Sm
end Ev
namespace Pv
open Ev
open PySem (Str)
noncomputable abbrev DS:=Int×Bool
inductive PR(B:Type) where
 |ok (a:B) (s:DS)|ex (c:Nat) (s:DS)|no
noncomputable def PR.bind{B β:Type}(r:PR B)(f:B->DS->PR β):PR β:=match r with
 |.ok a s=>f a s
 |.ex c s=>.ex c s
 |.no=>.no
noncomputable def PR.nox{B:Type}(r:PR B):PR B:=match r with
 |.ex _ _=>.no
 |r=>r
noncomputable def po{B:Type}(o:Option B)(s:DS):PR B:=match o with
 |some a=>.ok a s
 |none=>.no
abbrev Env:=List<|Option V
mutual
noncomputable def V.flat:V->Bool
 |.tup xs=>YQ xs
 |.lst _=>aj
 |.drw=>aj
 |.dct _=>aj
 |.dow _=>aj
 |_=>al
noncomputable def YQ:List V->Bool
 |[]=>al
 |x::xs=>x.flat&&YQ xs
end
mutual
noncomputable def ofD:V->Option V
 |.non=>aa .non
 |.bl b=>aa<|.bl b
 |.int i=>aa<|.int i
 |.str x=>aa<|.str x
 |.tup xs=>(ZgA xs).map .tup
 |_=>ag
noncomputable def ZgA:List V->Option (List V)
 |[]=>aa []
 |x::xs=>match ofD x,ZgA xs with
  |some a,aa b=>aa (a::b)
  |_,_=>ag
end
noncomputable def Zz:V->Option Bool
 |.non=>aa aj
 |.bl b=>aa b
 |.int i=>aa<|ai<|i≠0
 |.tup xs=>aa<|!xs.isEmpty
 |.lst xs=>aa<|!xs.isEmpty
 |_=>ag
noncomputable def Yt(f:V->V->Option Bool):List V->List V->Option Bool
 |[],[]=>aa al
 |x::xs,y::ys=>match f x y,Yt f xs ys with
  |some a,aa b=>aa<|a&&b
  |_,_=>ag
 |_,_=>aa aj
def eqV:Nat->V->V->Option Bool
 |0,_,_=>ag
 |k+1,x,y=>match x with
  |.non=>match y with
   |.non=>aa al
   |.bl _|.int _|.str _=>aa aj
   |_=>ag
  |.bl a=>match y with
   |.bl b=>aa<|ai<|a=b
   |.int b=>aa<|ai<|b2i a=b
   |.non|.str _=>aa aj
   |_=>ag
  |.int a=>match y with
   |.int b=>aa<|ai<|a=b
   |.bl b=>aa<|ai<|a=b2i b
   |.non|.str _=>aa aj
   |_=>ag
  |.str a=>match y with
   |.str b=>aa<|ai<|a=b
   |.non|.bl _|.int _=>aa aj
   |_=>ag
  |.tup xs=>match y with
   |.tup ys=>Yt (eqV k) xs ys
   |_=>ag
  |.lst xs=>match y with
   |.lst ys=>if xs.length=ys.length then Yt (eqV k) xs ys else aa aj
   |_=>ag
  |_=>ag
def Wz(x:V):List V->Option Bool
 |[]=>aa aj
 |y::ys=>match eqV ZA y x,Wz x ys with
  |some a,aa b=>aa (a||b)
  |_,_=>ag
def Zhv(x:V)(xs:List V):Option Nat:=if Wz x xs=aa al then xs.findIdx? λy=>eqV ZA y x == aa al else ag
noncomputable def YH:V->Ty->Option Bool
 |.non,_=>aa aj
 |.bl _,t=>aa<|ai<|t=.bool\/t=.int
 |.int _,t=>aa<|ai<|t=.int
 |.str _,t=>aa<|ai<|t=.str
 |.tup _,t=>aa<|ai<|t=.tuple
 |.lst _,t=>aa<|ai<|t=.list
 |.dct (.inl _),t=>aa<|ai<|t=.dict
 |_,_=>ag
def Z7(x:V):List Ty->Option Bool
 |[]=>aa aj
 |t::ts=>match YH x t with
  |some al=>aa al
  |some aj=>Z7 x ts
  |none=>ag
def YF(xs:List V)(lo hi:Option Int):List V:=(xs.drop<|sIx xs.length 0 lo).take<|sIx xs.length xs.length hi-sIx xs.length 0 lo
def V0(op:Bop)(a b:Int)(s:DS):PR V:=match op with
 |.add=>.ok (.int<|a+b) s
 |.sub=>.ok (.int<|a-b) s
 |.mul=>if(fits a&&fits b)=al then .ok (.int<|a*b) s else .no
 |.fdiv=>if 0<b/\b<Ev.big then .ok (.int<|a / b) s else .no
 |.mod=>if 0<b then .ok (.int<|a%b) s else .no
 |.pow=>if 0<=b/\b<=1000/\a.natAbs<2^64 then .ok (.int<|a^b.toNat) s else .no
def XS(op:Bop)(x y:V)(s:DS):PR V:=match x with
 |.int a=>match y with
  |.int b=>V0 op a b s
  |_=>.no
 |.tup a=>match y with
  |.tup b=>match op with
   |.add=>if a.length+b.length<=lim then .ok (.tup<|a++b) s else .no
   |_=>.no
  |.int b=>match op with
   |.mul=>if 0<=b/\b<1000/\a.length<=1000 then .ok (.tup (aw b.toNat a).flatten) s else .no
   |_=>.no
  |_=>.no
 |.lst a=>match y with
  |.lst b=>match op with
   |.add=>if a.length+b.length<=lim then .ok (.lst<|a++b) s else .no
   |_=>.no
  |.int b=>match op with
   |.mul=>if 0<=b/\b<1000/\a.length<=1000 then .ok (.lst (aw b.toNat a).flatten) s else .no
   |_=>.no
  |_=>.no
 |_=>.no
def ZgV(op:Bop)(x y:V)(s:DS):PR V:=match x,y with
 |.int _,.int _=>XS op x y s
 |_,_=>.no
noncomputable def intsV:List V->Option #[14]
 |[]=>aa []
 |.int i::r=>(intsV r).map (i :: ·)
 |_::_=>ag
def qL(x y:V):Option Bool:=match y with
 |.tup ys=>Wz x ys
 |.lst ys=>Wz x ys
 |.dct (.inr ks)=>match x with
  |.tup k=>(intsV k).map λk=>ks.contains k
  |_=>ag
 |.dow ks=>match x with
  |.tup k=>(intsV k).map λk=>ks.contains k
  |_=>ag
 |_=>ag
noncomputable def Qk:V->Bool
 |.non=>al
 |_=>aj
noncomputable def Zb(r:List Int):V:=.tup<|r.map .int
def Y2:List V->Option (List<|List Int)
 |[]=>aa []
 |.tup x::r=>match intsV x,Y2 r with
  |some a,aa b=>aa (a::b)
  |_,_=>ag
 |_::_=>ag
noncomputable def int2(x y:V):Option (Int×Int):=match x with
 |.int a=>match y with
  |.int b=>aa (a,b)
  |_=>ag
 |_=>ag
def isV(x y:V):Option Bool:=match y with
 |.non=>aa<|Qk x
 |.bl b=>match x with
  |.bl a=>aa<|ai<|a=b
  |_=>ag
 |_=>ag
def Y4(op:Cop)(x y:V):Option V:=match op with
 |.eq=>(eqV ZA x y).map .bl
 |.ne=>(eqV ZA x y).map λb=>.bl !b
 |.lt=>(int2 x y).map λz=>.bl<|ai<|z.1<z.2
 |.gt=>(int2 x y).map λz=>.bl<|ai<|z.2<z.1
 |.le=>(int2 x y).map λz=>.bl<|ai<|z.1<=z.2
 |.ge=>(int2 x y).map λz=>.bl<|ai<|z.2<=z.1
 |.is=>(isV x y).map .bl
 |.nin=>(qL x y).map λb=>.bl !b
def ixV(x y:V):Option V:=match x,y with
 |.tup xs,.int i=>at' xs i
 |.lst xs,.int i=>at' xs i
 |.scr xs,.int i=>(at' xs i).map .int
 |_,_=>ag
def slV(x:V)(lo hi:Option Int):Option V:=match x with
 |.tup xs=>aa<|.tup<|YF xs lo hi
 |.lst xs=>aa<|.lst<|YF xs lo hi
 |_=>ag
noncomputable def Zhi:V->Option V
 |.tup xs=>aa<|.tup xs.reverse
 |_=>ag
noncomputable def Ub:V->Option Bool
 |.non=>aa aj
 |.bl b=>aa b
 |.int i=>aa<|ai<|i≠0
 |_=>ag
def Yg:List V->Option (List Bool)
 |[]=>aa []
 |x::xs=>match Ub x,Yg xs with
  |some b,aa bs=>aa (b::bs)
  |_,_=>ag
def Zt(P:List #[14]):V:=.tup<|P.map Zb
noncomputable def YL:V->Option (List V)
 |.tup xs=>aa xs
 |.lst xs=>aa xs
 |.scr ns=>aa<|ns.map .int
 |_=>ag
noncomputable def YE(lo:Int)(n:Nat):List V:=(aP n).map λ(k:Nat)=>.int<|lo+(k:Int)
def ZdF:V->Option #[14]
 |.tup [.tup k,.bl b]=>if b=al then intsV k else ag
 |_=>ag
def WH:List V->Option (List<|List Int)
 |[]=>aa []
 |v::r=>(ZdF v).bind λa=>(WH r).map (a :: ·)
mutual
noncomputable def pdV:V->Option PySem.PyData
 |.non=>aa .none
 |.bl b=>aa<|.bool b
 |.int i=>aa<|.int i
 |.str x=>aa<|.str x
 |.tup xs=>(ZeJ xs).map .tuple
 |.lst xs=>(ZeJ xs).map .list
 |.dct (.inl kvs)=>aa<|.dict<|kvs.map λp=>(.int p.1,.int p.2)
 |_=>ag
noncomputable def ZeJ:List V->Option (List PySem.PyData)
 |[]=>aa []
 |x::xs=>(pdV x).bind λa=>(ZeJ xs).map (a :: ·)
end
mutual
noncomputable def noL:V->Bool
 |.lst _=>aj
 |.tup xs=>ZgF xs
 |_=>al
noncomputable def ZgF:List V->Bool
 |[]=>al
 |x::xs=>noL x&&ZgF xs
end
def blt1(f:Bf)(x:V):Option V:=match f with
 |.len=>(YL x).map λxs=>.int xs.length
 |.toInt=>match x with
  |.int a=>aa<|.int a
  |.bl b=>aa<|.int<|b2i b
  |_=>ag
 |.tuple=>(YL x).map .tup
 |.list=>(YL x).map .lst
 |.all=>match x with
  |.lst xs=>(Yg xs).map λbs=>.bl<|bs.all id
  |_=>ag
 |.sum=>match x with
  |.lst xs=>(intsV xs).bind λis=>if qg is=al then aa (.int is.sum)else ag
  |_=>ag
 |.sortedR=>match x with
  |.lst xs=>(Y2 xs).bind λrs=>if Z5 rs=al then aa (.lst<|(Zm rs).reverse.map Zb)else ag
  |_=>ag
 |.rangeL=>match x with
  |.int i=>if few i then aa (.lst<|YE 0 i.toNat)else ag
  |_=>ag
 |.listD=>match x with
  |.dow ks=>aa<|.lst<|ks.map Zb
  |_=>ag
 |.sortedD=>match x with
  |.dow ks=>if Z5 ks=al then aa (.lst<|(Zm ks).map Zb)else ag
  |_=>ag
 |.dictP=>match x with
  |.lst xs=>(WH xs).bind λks=>if UI ks=al then aa (.dct<|.inr ks)else ag
  |_=>ag
 |_=>ag
noncomputable def u4:V->Option Int
 |.int a=>aa a
 |_=>ag
noncomputable def Zhz:V->Option (List V)
 |.lst a=>aa a
 |_=>ag
def blt2(f:Bf)(x y:V):Option V:=match f with
 |.index=>(Zhz x).bind λxs=>(Zhv y xs).map λj:Nat=>.int j
 |.max2=>(u4 x).bind λa=>(u4 y).bind λb=>aa<|.int (if b>a then b else a)
 |.min2=>(u4 x).bind λa=>(u4 y).bind λb=>aa<|.int (if b<a then b else a)
 |_=>ag
def Qv{x:V}:blt1 .len x=(YL x).map λxs=>.int xs.length:=rfl
def Vg{op:Bop}{a b:Int}{s:DS}:XS op (.int a) (.int b) s=V0 op a b s:=rfl
def jR{k:Nat}{a b:Int}:eqV (k+1) (.int a) (.int b)=aa (ai<|a=b):=rfl
def Zbd{k:Nat}{a b:Bool}:eqV (k+1) (.bl a) (.bl b)=aa (ai<|a=b):=rfl
def wc{x:V}{a:Int}(h:u4 x=aa a):x=.int a:=by cases x<;>first|exact Ev.nos h|(cases h;rfl)
def Xp(f:Bf)(as:List V):Option V:=match as with
 |[x]=>blt1 f x
 |[x,y]=>blt2 f x y
 |_=>ag
noncomputable def YR:List Nat->List V->Env->Option Env
 |[],[],Z=>aa Z
 |i::t,x::xs,Z=>YR t xs<|Z.set i<|aa x
 |_,_,_=>ag
noncomputable def Za1:V->Option (List V)
 |.tup xs=>aa xs
 |.lst xs=>aa xs
 |_=>ag
def Zo(t:List Nat)(x:V)(Z:Env):Option Env:=match t with
 |[i]=>aa<|Z.set i<|aa x
 |t=>match Za1 x with
  |some xs=>YR t xs Z
  |none=>ag
abbrev Zs:=Nat->List V->DS->PR V
noncomputable def Yh(cap:List Nat)(nl:Nat)(Z:Env):Env:=aw nl ag++cap.map λi=>(Z[i]?).join
def mapP(f:V->DS->PR (List V)):List V->DS->PR (List V)
 |[],s=>.ok [] s
 |x::xs,s=>match f x s with
  |.ok ys s=>match mapP f xs s with
   |.ok zs s=>.ok (ys++zs) s
   |_=>.no
  |_=>.no
noncomputable def jq(w:Bool)(c:Nat):V:=.int c
def ZgX(w:Bool):PR V->PR V
 |.ok _ s=>.ok .non s
 |.ex c s=>if 1<=c/\c<=10 then .ok (jq w<|c-1) s else .no
 |.no=>.no
noncomputable def own(nl:Nat)(t:List Nat):Bool:=t.all λi=>ai<|i<nl
mutual
noncomputable def pv(C:Zs)(e:E)(Z:Env)(s:DS):PR V:=match e with
 |.c d=>po (ofD d) s
 |.v i=>po (Z[i]?).join s
 |.tup es=>(pvs C es Z s).bind λxs s=>if xs.length<=lim then .ok (.tup xs) s else .no
 |.lst es=>(pvs C es Z s).bind λxs s=>if xs.length<=lim then .ok (.lst xs) s else .no
 |.dnew=>.ok (.dct<|.inl []) s
 |.bin op a b=>(pv C a Z s).bind λx s=>(pv C b Z s).bind λy s=>XS op x y s
 |.neg a=>(pv C a Z s).bind λx s=>match x with
  |.int i=>.ok (.int<|-i) s
  |_=>.no
 |.not a=>(pv C a Z s).bind λx s=>(po (Zz x) s).bind λb s=>.ok (.bl !b) s
 |.and a b=>(pv C a Z s).bind λx s=>match x with
  |.bl c=>if c then pv C b Z s else .ok (.bl aj) s
  |_=>.no
 |.or a b=>(pv C a Z s).bind λx s=>match x with
  |.bl c=>if c then .ok (.bl al) s else pv C b Z s
  |_=>.no
 |.ite t a b=>(pv C t Z s).bind λx s=>(po (Zz x) s).bind λc s=>if c then pv C a Z s else pv C b Z s
 |.cmp op a b=>(pv C a Z s).bind λx s=>(pv C b Z s).bind λy s=>po (Y4 op x y) s
 |.chain o p a b d=>(pv C a Z s).bind λx s=>(pv C b Z s).bind λy s=>(po (Y4 o x y) s).bind λz s=>match z with
  |.bl c=>if c then(pv C d Z s).bind λw s=>po (Y4 p y w) s else .ok (.bl aj) s
  |_=>.no
 |.ix a i=>(pv C a Z s).bind λx s=>(pv C i Z s).bind λy s=>po (ixV x y) s
 |.sl a lo hi=>(pv C a Z s).bind λx s=>(pvo C lo Z s).bind λl s=>(pvo C hi Z s).bind λh s=>po (slV x l h) s
 |.rev a=>(pv C a Z s).bind λx s=>po (Zhi x) s
 |.call f as=>(pvs C as Z s).bind λxs s=>C f xs s
 |.blt f as=>(pvs C as Z s).bind λxs s=>po (Xp f xs) s
 |.mt _ _ _=>.no
 |.isi a ts=>(pv C a Z s).bind λx s=>(po (Z7 x ts) s).bind λb s=>.ok (.bl b) s
 |.comp1 cap nl t it ifs elt=>if own nl t=al then(pvw C it Z s).bind λw s=>
   ((mapP (λx s=>(po (Zo t x<|Yh cap nl Z) s).bind λO s=>(pvt C ifs O s).bind λb s=>if b then(pv C elt O s).bind λy s=>.ok [y] s else .ok [] s) w s).bind
    λys s=>if ys.length<=lim then .ok (.lst ys) s else .no).nox
  else .no
 |.refu w e=>ZgX w<|pv C e Z s
 |.dix a k=>(pv C a Z s).bind λx s=>match x with
  |.drw=>.ok (if k then .bl s.2 else .int s.1) s
  |_=>.no
noncomputable def pvs(C:Zs)(es:List E)(Z:Env)(s:DS):PR (List V):=match es with
 |[]=>.ok [] s
 |e::es=>(pv C e Z s).bind λx s=>(pvs C es Z s).bind λxs s=>.ok (x::xs) s
noncomputable def pvo(C:Zs)(o:Option E)(Z:Env)(s:DS):PR (Option Int):=match o with
 |none=>.ok ag s
 |some e=>(pv C e Z s).bind λx s=>match x with
  |.int i=>.ok (aa i) s
  |_=>.no
noncomputable def pvt(C:Zs)(es:List E)(Z:Env)(s:DS):PR Bool:=match es with
 |[]=>.ok al s
 |e::es=>(pv C e Z s).bind λx s=>(po (Zz x) s).bind λb s=>if b then pvt C es Z s else .ok aj s
noncomputable def pvw(C:Zs)(w:W)(Z:Env)(s:DS):PR (List V):=match w with
 |.rng1 a=>(pv C a Z s).bind λx s=>match x with
  |.int i=>if WC i then .ok (YE 0 i.toNat) s else .no
  |_=>.no
 |.rng2 a b=>(pv C a Z s).bind λx s=>(pv C b Z s).bind λy s=>match x,y with
  |.int i,.int j=>if(WC i&&WC j)=al then .ok (YE i (j-i).toNat) s else .no
  |_,_=>.no
 |.zip a b=>(pv C a Z s).bind λx s=>(pv C b Z s).bind λy s=>match YL x,YL y with
  |some v,aa w=>.ok ((v.zip w).map λp=>.tup [p.1,p.2]) s
  |_,_=>.no
 |.enum a=>(pv C a Z s).bind λx s=>match YL x with
  |some w=>.ok (((YE 0 w.length).zip w).map λp=>.tup [p.1,p.2]) s
  |none=>.no
 |.of e=>(pv C e Z s).bind λx s=>po (YL x) s
end
section
variable(C:Zs)(Z:Env)(s:DS)
def pE1(d):=@id (pv C (.c d) Z s=po _ _) rfl
def pE2(i):=@id (pv C (.v i) Z s=po _ _) rfl
def pE3(es):=@id (pv C (.tup es) Z s=.bind _ _) rfl
def pE4(es):=@id (pv C (.lst es) Z s=.bind _ _) rfl
def pE5:=@id (pv C .dnew Z s=.ok _ _) rfl
def pE7(op a b):=@id (pv C (.bin op a b) Z s=.bind _ _) rfl
def pE8(a):=@id (pv C (.neg a) Z s=.bind _ _) rfl
def pE9(a):=@id (pv C (.not a) Z s=.bind _ _) rfl
def Zb8(a b):=@id (pv C (.and a b) Z s=.bind _ _) rfl
def Zf7(a b):=@id (pv C (.or a b) Z s=.bind _ _) rfl
def XR(op a b):=@id (pv C (.cmp op a b) Z s=.bind _ _) rfl
def Zhs(o p a b d):=@id (pv C (.chain o p a b d) Z s=.bind _ _) rfl
def WA(a i):=@id (pv C (.ix a i) Z s=.bind _ _) rfl
def ZeZ(a lo hi):=@id (pv C (.sl a lo hi) Z s=.bind _ _) rfl
def Zhj(a):=@id (pv C (.rev a) Z s=.bind _ _) rfl
def Za0(f as):=@id (pv C (.call f as) Z s=.bind _ _) rfl
def YI(f as):=@id (pv C (.blt f as) Z s=.bind _ _) rfl
def ZgN(a ts):=@id (pv C (.isi a ts) Z s=.bind _ _) rfl
def Zc6(cap nl t it ifs elt):=@id (pv C (.comp1 cap nl t it ifs elt) Z s=ite (own nl t=al) _ _) rfl
def Zfa(w e):=@id (pv C (.refu w e) Z s=ZgX _ _) rfl
def Zdk(a k):=@id (pv C (.dix a k) Z s=.bind _ _) rfl
def wE1(a):=@id (pvw C (.rng1 a) Z s=.bind _ _) rfl
def wE2(a b):=@id (pvw C (.rng2 a b) Z s=.bind _ _) rfl
def wE5(a b):=@id (pvw C (.zip a b) Z s=.bind _ _) rfl
def wE6(a):=@id (pvw C (.enum a) Z s=.bind _ _) rfl
def wE7(e):=@id (pvw C (.of e) Z s=.bind _ _) rfl
end
inductive FlV where|nx (Z:Env) (os:List Nat)|ret (v:V)
noncomputable def hide(os:List Nat)(Z:Env):Env:=Z.mapIdx λi o=>if os.contains i then ag else o
noncomputable def fresh:E->Bool
 |.lst _=>al
 |.comp1 .. => al
 |.bin .mul (.lst _) _=>al
 |.blt .list _=>al
 |.blt .rangeL _=>al
 |.blt .listD _=>al
 |.blt .sortedD _=>al
 |_=>aj
def vJ:V->Bool
 |.lst xs=>YQ xs
 |_=>aj
def pvA(C:Zs)(e:E)(Z:Env)(os:List Nat)(s:DS):PR V:=match os with
 |[]=>pv C e Z s
 |os=>match pv C e (hide os Z) s with
  |.ok v s=>.ok v s
  |.ex c s=>.ex c s
  |.no=>(pv C e Z s).bind λv s=>if(v.flat||fresh e&&vJ v)=al then .ok v s else .no
def Zhn(C:Zs)(es:List E)(Z:Env)(os:List Nat)(s:DS):PR (List V):=match os with
 |[]=>pvs C es Z s
 |os=>match pvs C es (hide os Z) s with
  |.ok v s=>.ok v s
  |.ex c s=>.ex c s
  |.no=>(pvs C es Z s).bind λv s=>if YQ v then .ok v s else .no
def Yv(C:Zs)(e:E)(Z:Env)(s:DS):PR Bool:=(pv C e Z s).bind λx s=>po (Zz x) s
def YZ(body:V->Env->List Nat->DS->PR FlV):List V->Env->List Nat->DS->PR FlV
 |[],Z,os,s=>.ok (.nx Z os) s
 |x::xs,Z,os,s=>(body x Z os s).bind λf s=>match f with
  |.nx Z os=>YZ body xs Z os s
  |.ret v=>.ok (.ret v) s
def Ym(test:Env->DS->PR Bool)(body:Env->List Nat->DS->PR FlV):Nat->Env->List Nat->DS->PR FlV
 |0,_,_,_=>.no
 |n+1,Z,os,s=>(test Z s).bind λb s=>if b then(body Z os s).bind λf s=>match f with
  |.nx Z os=>Ym test body n Z os s
  |.ret v=>.ok (.ret v) s
  else .ok (.nx Z os) s
noncomputable def okS(x:Int)(b:Bool):Bool:=ai (0<=x)&&(b||decide (x<2147483647))
def UL:V->Option DS
 |.lst [.int a,.bl b]=>if okS a b=al then aa (a,b)else ag
 |_=>ag
def JC(o:Option V):Option V:=o.filter V.flat
def WU(i:Nat)(Z:Env):Env:=(Z.take i).map JC++aw (Z.length-i) ag
noncomputable def ZgG:Option (Option V)->Option (List<|List Int)
 |some (aa<|.dow ks)=>aa ks
 |_=>ag
noncomputable def YK(ks:List #[14])(k:List Int):List #[14]:=if ks.contains k then ks else ks++[k]
def Zfb:V->Option #[14]
 |.tup k=>intsV k
 |_=>ag
noncomputable def isT:V->Bool
 |.bl al=>al
 |_=>aj
noncomputable def vx:Option (Option V)->Option (List V)
 |some (aa<|.lst xs)=>aa xs
 |_=>ag
mutual
noncomputable def rv(C:Zs)(ms:List Nat)(m:Sm)(Z:Env)(os:List Nat)(s:DS):PR FlV:=match m with
 |.asg [i] e=>(pvA C e Z os s).bind λv s=>if(ms.contains i&&fresh e)=al then match v with
   |.lst xs=>if YQ xs=al/\i<Z.length then .ok (.nx (Z.set i<|aa v) (i::os.filter (· != i))) s else .no
   |_=>.no
  else .ok (.nx (Z.set i<|aa v) (os.filter (· != i))) s
 |.asg t e=>(pvA C e Z os s).bind λv s=>if(t.any os.contains)=al then .no else(po (Zo t v Z) s).bind λZ s=>.ok (.nx Z os) s
 |.par t es=>(Zhn C es Z os s).bind λvs s=>if(t.any os.contains)=al then .no else(po (YR t vs Z) s).bind λZ s=>.ok (.nx Z os) s
 |.aug i op e=>if os.contains i then .no else(po (Z[i]?).join s).bind λx s=>(pv C e Z s).bind λy s=>(ZgV op x y s).bind λz s=>.ok (.nx (Z.set i<|aa z) os) s
 |.dput (.v i) k e=>if os.contains i then(pv C e Z s).bind λv s=>if isT v=al then(po (ZgG Z[i]?) s).bind λks s=>(pv C k Z s).bind λy s=>(po (Zfb y) s).bind λr s=>if ks.length<lim then .ok (.nx (Z.set i<|aa<|.dow<|YK ks r) os) s else .no
  else .no else .no
 |.dput _ _ _=>.no
 |.ret e=>(pv C e Z s).bind λv s=>.ok (.ret v) s
 |.ex (.mt .append (.v i) [e])=>if os.contains i then(po (vx Z[i]?) s).bind λxs s=>(pv C e Z s).bind λv s=>if v.flat=al/\xs.length<lim then .ok (.nx (Z.set i<|aa<|.lst<|xs++[v]) os) s else .no else .no
 |.ex e=>(pv C e Z s).bind λ_ s=>.ok (.nx Z os) s
 |.ite t a b=>(Yv C t Z s).bind λc s=>if c then rvs C ms a Z os s else rvs C ms b Z os s
 |.forr t it b=>(pvw C it (hide os Z) s).bind λw s=>YZ (λx Z os s=>if(t.any os.contains)=al then .no else(po (Zo t x Z) s).bind λZ s=>rvs C ms b Z os s) w Z os s
 |.whl t b=>Ym (Yv C t) (rvs C ms b) zY Z os s
 |.raise c as=>(pvs C as Z s).bind λ_ s=>.ex c s
 |.dset i e=>(pv C e Z s).bind λv s=>match v with
  |.int x=>if okS x s.2=al then match(Z[i]?).join with
   |some .drw=>.ok (.nx Z os) (x,s.2)
   |_=>.no
   else .no
  |_=>.no
 |.cel i f as b=>if os.isEmpty=al then(pvs C as Z s).bind λxs s=>(C f xs s).bind λv s=>(po (UL v) s).bind λd s=>match rvs C ms b ((WU i Z).set i<|aa .drw) [] d with
  |.ok (.nx Z _) _=>.ok (.nx (Z.map JC) []) s
  |.ok (.ret v) _=>if v.flat=al then .ok (.ret v) s else .no
  |_=>.no
  else .no
 |.dnw i k=>(pv C k Z s).bind λy s=>(po (Zfb y) s).bind λr s=>if i<Z.length then .ok (.nx (Z.set i<|aa<|.dow [r]) (i::os.filter (· != i))) s else .no
 |.lnw i es=>(pvs C es (hide os Z) s).bind λxs s=>if xs.length<=lim/\i<Z.length then .ok (.nx (Z.set i<|aa<|.lst xs) (i::os.filter (· != i))) s else .no
 |.cat i es=>if os.contains i then(po (vx Z[i]?) s).bind λxs s=>(pvs C es (hide os Z) s).bind λys s=>if ys.length<=lim/\xs.length+ys.length<=lim/\i<Z.length then .ok (.nx (Z.set i<|aa<|.lst<|xs++ys) (i::os.filter (· != i))) s else .no else .no
 |.app i e=>if os.contains i then(po (vx Z[i]?) s).bind λxs s=>(pv C e (hide os Z) s).bind λv s=>if xs.length<lim then .ok (.nx (Z.set i<|aa<|.lst<|xs++[v]) os) s else .no else .no
 |.forF t e b=>(pvA C e Z os s).bind λv s=>match v with
  |.lst w=>YZ (λx Z os s=>if(t.any os.contains)=al then .no else(po (Zo t x Z) s).bind λZ s=>rvs C ms b Z os s) w Z os s
  |_=>.no
noncomputable def rvs(C:Zs)(ms:List Nat)(m:List Sm)(Z:Env)(os:List Nat)(s:DS):PR FlV:=match m with
 |[]=>.ok (.nx Z os) s
 |m::ss=>(rv C ms m Z os s).bind λf s=>match f with
  |.nx Z os=>rvs C ms ss Z os s
  |f=>.ok f s
end
section
variable(C:Zs)(Z:Env)(s:DS)(ms os:List Nat)
def rE1(i e):=@id (rv C ms (.asg [i] e) Z os s=.bind _ _) rfl
def rE3(t es):=@id (rv C ms (.par t es) Z os s=.bind _ _) rfl
def rE4(i op e):=@id (rv C ms (.aug i op e) Z os s=ite (os.contains i) _ _) rfl
def rE7(i k e):=@id (rv C ms (.dput (.v i) k e) Z os s=ite (os.contains i) _ _) rfl
def rE9(e):=@id (rv C ms (.ret e) Z os s=.bind _ _) rfl
def Zfr(i e):=@id (rv C ms (.ex<|.mt .append (.v i) [e]) Z os s=ite (os.contains i) _ _) rfl
def Zf6(f as):=@id (rv C ms (.ex<|.call f as) Z os s=.bind _ _) rfl
def GD(t a b):=@id (rv C ms (.ite t a b) Z os s=.bind _ _) rfl
def Qx(t it b):=@id (rv C ms (.forr t it b) Z os s=.bind _ _) rfl
def ZcK(t b):=@id (rv C ms (.whl t b) Z os s=Ym _ _ _ _ _ _) rfl
def ZhA(c as):=@id (rv C ms (.raise c as) Z os s=.bind _ _) rfl
def Zee(i e):=@id (rv C ms (.dset i e) Z os s=.bind _ _) rfl
def Zhf(i f as b):=@id (rv C ms (.cel i f as b) Z os s=ite (os.isEmpty=al) _ _) rfl
def ZgS(i k):=@id (rv C ms (.dnw i k) Z os s=.bind _ _) rfl
def ZgI(i es):=@id (rv C ms (.lnw i es) Z os s=.bind _ _) rfl
def ZgH(i es):=@id (rv C ms (.cat i es) Z os s=ite (os.contains i) _ _) rfl
def Zgs(i e):=@id (rv C ms (.app i e) Z os s=ite (os.contains i) _ _) rfl
def Zgv(t e b):=@id (rv C ms (.forF t e b) Z os s=.bind _ _) rfl
def rE2(t e)(h:∀i,t=[i]->False):rv C ms (.asg t e) Z os s=(pvA C e Z os s).bind λv s=>if(t.any os.contains)=al then .no else(po (Zo t v Z) s).bind λZ s=>.ok (.nx Z os) s:=by
 match t,h with
 |[],_=>rfl
 |[i],h=>exact(h i rfl).elim
 |_::_::_,_=>rfl
end
mutual
noncomputable def yu:Sm->List Nat
 |.ex (.mt .append (.v i) _)=>[i]
 |.ite _ a b=>muts a++muts b
 |.forr _ _ b=>muts b
 |.whl _ b=>muts b
 |.cel _ _ _ b=>muts b
 |.dput (.v i) _ _=>[i]
 |.forF _ _ b=>muts b
 |_=>[]
noncomputable def muts:List Sm->List Nat
 |[]=>[]
 |m::ss=>yu m++muts ss
end
def zu:muts []=[]:=rfl
def Jh{m:Sm}{ss:List Sm}:muts (m::ss)=yu m++muts ss:=rfl
def ZaI{t:List Nat}{e:E}:yu (.asg t e)=[]:=rfl
def ZaG{e:E}:yu (.ret e)=[]:=rfl
def Zbr{e:E}{a b:List Sm}:yu (.ite e a b)=muts a++muts b:=rfl
noncomputable def ZO(n:Nat)(xs:List V):Env:=xs.map aa++aw (n-xs.length) ag
noncomputable def X6(s:DS)(m:Int):Int×DS:=
 if s.2 then(s.1%m,(s.1 / m,al))else
  let x:=(s.1*48271+29)%2147483647
  let y:=(x*x+39373*x+7)%2147483629
  let z:=(y*y+16807*y)%2147483587
  (z / 8%m,(x,aj))
def ZdK(vs:List V)(s:DS):PR V:=match vs with
 |[.drw,.int m]=>if 0<m/\m<1073741824 then .ok (.int (X6 s m).1) (X6 s m).2 else .no
 |_=>.no
def Zk(F:List Fn)(tk:Nat):Nat->Zs
 |0,_,_,_=>.no
 |d+1,f,xs,s=>if f=tk then ZdK xs s else match F[f]? with
  |some fn=>if xs.length=fn.ps then(rvs (Zk F tk d) (muts fn.body) fn.body (ZO fn.ns xs) [] s).bind λf s=>match f with
    |.ret v=>.ok v s
    |.nx _ _=>.ok .non s
   else .no
  |none=>.no
end Pv
namespace Sd
open PySem PySem.Spec PyProof.Rows L2
section
open Ev (E Sm Fn Bop Cop Ty Bf Mf)
noncomputable abbrev D:=Pv.V
abbrev Zv:=Pv.DS
noncomputable abbrev Lc:=Pv.Env
noncomputable abbrev R:=Pv.PR
noncomputable abbrev Calls:=Pv.Zs
structure Mx where
 K:ao
 n0:Option aD
 X:aD->Prop
 xz:∀a,n0=aa a->X a
def Scr(K:ao)(H:Hp)(a:aD)(ns:List Int):Prop:=
 (∃o,H a=aa (.frz o<|.lst<|ns.map V.int))\/
  ∃(o:eW)(its:Array au)(n:Nat),K.lookup a=aa o/\o.cls=.type "list"/\o.dict=ag/\o.data=.seq its n/\its.size<=aW/\Vals (ns.map V.int) its.toList
def Scr.sq{K:ao}{H:Hp}{a:aD}{ns:List Int}(h:Scr K H a ns):SqL K H a (ns.map V.int):=by
 rcases h with⟨o,h⟩|h
 .exact .inl<|.inr #[o,h]
 .exact .inr h
def Dct(H:Hp)(a:aD):Sum (List<|Int×Int) (List<|List Int)->Prop
 |.inl kvs=>H a=aa (.dK<|kvs.map λp=>(cT p.1,V.int p.2))
 |.inr ks=>∃o vs,H a=aa (.frz o<|.dT vs)/\vs.map (·.1)=ks.map (·.map cT)
mutual
def Rep(Z:Mx)(H:Hp):D->V->Prop
 |.non,v=>v=.non
 |.bl b,v=>v=.bl b
 |.int i,v=>v=.int i
 |.str x,v=>v=.str x
 |.tup ds,v=>∃a xs,v=.ref a/\H a=aa (.tup xs)/\Rq Z H ds xs
 |.lst ds,v=>∃a xs,v=.ref a/\H a=aa (.lst xs)/\¬Z.X a/\Rq Z H ds xs
 |.drw,v=>∃a,v=.ref a/\Z.n0=aa a
 |.dct o,v=>∃a,v=.ref a/\Dct H a o
 |.scr ns,v=>∃a,v=.ref a/\Scr Z.K H a ns
 |.dow ks,v=>∃a vs,v=.ref a/\H a=aa (.dT vs)/\¬Z.X a/\vs.map (·.1)=ks.map (·.map cT)
def Rq(Z:Mx)(H:Hp):List D->List V->Prop
 |[],xs=>xs=[]
 |d::ds,xs=>∃v vs,xs=v::vs/\Rep Z H d v/\Rq Z H ds vs
end
structure Fut(Z:Mx)(H:Hp)(ρ':Mx)(H':Hp):Prop where
 eq:ρ'=Z
 keep:∀a o,H a=aa o->H' a=aa o\/(Z.n0=aa a/\∃xs,o=.lst xs)\/((∃ps,o=.tbl ps)/\∃ps,H' a=aa (.tbl ps))
def Fut.refl(Z:Mx)(H:Hp):Fut Z H Z H:=#[rfl,λ_ _ h=>.inl h]
def Fut.trans{Z ρ1 ρ2:Mx}{H H1 H2:Hp}(a:Fut Z H ρ1 H1)(b:Fut ρ1 H1 ρ2 H2):Fut Z H ρ2 H2:=by
 obtain⟨rfl,f⟩:=a;obtain⟨rfl,g⟩:=b;refine#[rfl,λa o h=>(f a o h).elim (λh=>g a o h) λz=>z.elim (λz=>.inr<|.inl z) λ#[e,ps,h]=>?_]
 rcases g a _ h with q|⟨_,xs,q⟩|⟨_,q⟩
 .exact .inr<|.inr #[e,ps,q]
 .cases q
 .exact .inr<|.inr #[e,q]
def Fut.there(f:Fut Z H ρ' H')(n:Z.n0≠.some a)(h:H a≠ag):H' a≠ag:=by
 obtain⟨o,e⟩:=kf.mp h;rcases f.keep a o e with q|q|⟨_,_,q⟩
 .rw[q];intro z;cases z
 .exact T7 q.1 n
 .rw[q];intro z;cases z
def Fut.new(f:Fut Z H ρ' H')(h:H' a=ag)(xd:∀a,Z.X a->H' a≠ag):H a=ag:=by
 cases q:H a with
 |none=>rfl
 |some o=>
  rcases f.keep a o q with e|e|⟨_,_,e⟩
  .rw[h]at e;cases e
  .exact T7 h<|xd a<|Z.xz a e.1
  .rw[h]at e;cases e
structure Lat(Z:Mx)(H:Hp)(ρ':Mx)(H':Hp):Prop where
 K:ρ'.K=Z.K
 n0:ρ'.n0=Z.n0
 keep':∀a o,H a=aa o->(∀xs,o=.lst xs->¬Z.X a)->(∀ps,o≠.tbl ps)->(∀vs,o=.dT vs->¬Z.X a)->H' a=aa o
 X:∀a,H a≠ag->ρ'.X a->Z.X a
def Lat.keep(f:Lat Z H ρ' H')(a:aD)(o:HO)(h:H a=aa o)(x:∀xs,o=.lst xs->¬Z.X a)(n:∀ps,o≠.tbl ps:=by intro _ z;cases z)(m:∀vs,o=.dT vs->¬Z.X a:=by intro _ z;cases z):H' a=aa o:=f.keep' a o h x n m
mutual
theorem Rep.lat{Z ρ':Mx}{H H':Hp}(f:Lat Z H ρ' H'):∀{d:D}{v:V},Rep Z H d v->Rep ρ' H' d v
 |.non,_,h|.bl _,_,h|.int _,_,h|.str _,_,h=>by unfold Rep at h ⊢;exact h
 |.tup ds,v,h=>by
  unfold Rep at h ⊢;obtain⟨a,xs,e,t,r⟩:=h;exact#[a,xs,e,f.keep a _ t (λ_ z=>by cases z),r.lat f]
 |.lst ds,v,h=>by
  unfold Rep at h ⊢;obtain⟨a,xs,e,t,x,r⟩:=h;exact#[a,xs,e,f.keep a _ t λ_ _=>x,λz=>x (f.X a (by rw[t];intro z;cases z) z),r.lat f]
 |.drw,v,h=>by unfold Rep at h ⊢;rw[f.n0];exact h
 |.dct o,v,h=>by
  unfold Rep at h ⊢;obtain⟨a,e,t⟩:=h;refine#[a,e,?_];cases o with|inl kvs=>exact f.keep a _ t λ_ z=>by cases z|inr ks=>obtain⟨o,vs,t,q⟩:=t;exact#[o,vs,f.keep a _ t (λ_ z=>by cases z),q]
 |.scr ns,v,h=>by
  unfold Rep at h ⊢;obtain⟨a,e,t⟩:=h;rw[f.K];refine#[a,e,?_];rcases t with⟨o,t⟩|t
  .exact .inl #[o,f.keep a _ t λ_ z=>by cases z]
  .exact .inr t
 |.dow ks,v,h=>by
  unfold Rep at h ⊢;obtain⟨a,vs,e,t,x,q⟩:=h;exact#[a,vs,e,f.keep a _ t (λ_ z=>by cases z) (by intro _ z;cases z) λ_ _=>x,λz=>x (f.X a (by rw[t];intro z;cases z) z),q]
theorem Rq.lat(f:Lat Z H ρ' H'):∀{ds:List D}{xs:List V},Rq Z H ds xs->Rq ρ' H' ds xs
 |[],_,h=>by exact h
 |d::ds,xs,h=>by
  obtain⟨v,vs,e,r,rs⟩:=h;exact#[v,vs,e,r.lat f,rs.lat f]
end
noncomputable def YU:bn:="law.<locals>.<lambda>"
def Tb(H:Hp):Prop:=∀(P:aD)(ps:Array au),H P=aa (.tbl ps)->oN ps.toList/\∀(pos:fD)(cv:au),iV pos ps.toList=aa cv->
 ∃(c:aD)(oc:eW)(vs:Array au)(t:rm),cv=.ref c/\H c=aa (.frz oc<|.own c)/\oc.data=.fields vs/\vs[1]?=aa (.str YU t)
theorem Tb.upd(h:Tb H)(hp:∀ob u,H p≠aa (.frz ob u))(ho:∀ps,o≠.tbl ps):Tb (upd H p o):=λP ps e=>by
 by_cases z:P=p
 .subst z;rw[Zj]at e;cases e;exact T7 rfl<|ho ps
 .rw[Zi z]at e
  obtain⟨a,b⟩:=h P ps e;refine#[a,λpos cv q=>?_]
  obtain⟨c,oc,vs,t,e1,e2,e3⟩:=b pos cv q;exact#[c,oc,vs,t,e1,by rw[Zi λz=>hp oc (.own c) (by rw[<-z];exact e2)];exact e2,e3]
structure St3(K:ao)(Z:Mx)(S:Zv)(H:Hp):Prop where
 hk:Z.K=K
 xd:∀a,Z.X a->H a≠ag
 dw:∀a,Z.n0=aa a->H a=aa (.lst [.int S.1,.bl S.2])/\Pv.okS S.1 S.2=al
 tb:Tb H
def Fut.lat(f:Fut Z H ρ' H'):Lat Z H ρ' H':=by
 obtain⟨rfl,f⟩:=f;exact#[rfl,rfl,λa o h x n _=>(f a o h).elim id λz=>z.elim (λz=>T7 (ρ'.xz a z.1) (let #[xs,e]:=z.2;x xs e))<|by rintro ⟨⟨ps,e⟩,_⟩;exact T7 e<|n ps,λ_ _ h=>h]
def Rep.mono(f:Fut Z H ρ' H')(h:Rep Z H d v):Rep ρ' H' d v:=h.lat f.lat
def Rq.mono(f:Fut Z H ρ' H')(h:Rq Z H d v):Rq ρ' H' d v:=h.lat f.lat
section
variable{Z:Mx}{H:Hp}{v:V}
def Rq.nil:Rq Z H [] []:=by rfl
def Rq.cons{d:D}{v:V}{ds:List D}{vs:List V}(r:Rep Z H d v)(rs:Rq Z H ds vs):Rq Z H (d::ds) (v::vs):=by
 exact#[v,vs,rfl,r,rs]
theorem Rq.length:∀{ds:List D}{xs:List V},Rq Z H ds xs->xs.length=ds.length
 |[],_,h=>by rw[h];rfl
 |d::ds,xs,h=>by
  obtain⟨v,vs,rfl,_,rs⟩:=h;rw[aQ,aQ,Rq.length rs]
theorem Rq.append:∀{ds es:List D}{xs ys:List V},Rq Z H ds xs->Rq Z H es ys->Rq Z H (ds++es) (xs++ys)
 |[],_,_,_,h,r=>by rw[h];exact r
 |d::ds,_,_,_,h,r=>by
  obtain⟨v,vs,rfl,a,rs⟩:=h;exact Rq.cons a<|Rq.append rs r
theorem Rq.take:∀{ds:List D}{xs:List V}(k:Nat),Rq Z H ds xs->Rq Z H (ds.take k) (xs.take k)
 |_,_,0,_=>Rq.nil
 |[],_,k+1,h=>by rw[h];exact Rq.nil
 |d::ds,_,k+1,h=>by
  obtain⟨v,vs,rfl,a,rs⟩:=h;exact Rq.cons a<|Rq.take k rs
theorem Rq.drop:∀{ds:List D}{xs:List V}(k:Nat),Rq Z H ds xs->Rq Z H (ds.drop k) (xs.drop k)
 |_,_,0,h=>h
 |[],_,k+1,h=>by rw[h];exact Rq.nil
 |d::ds,_,k+1,h=>by
  obtain⟨v,vs,rfl,a,rs⟩:=h;exact Rq.drop k rs
theorem Rq.get:∀{ds:List D}{xs:List V}{i:Nat}{d:D},Rq Z H ds xs->ds[i]?=aa d->∃v,xs[i]?=aa v/\Rep Z H d v
 |[],_,_,_,_,e=>by simp at e
 |d::ds,_,0,_,h,e=>by
  obtain⟨v,vs,rfl,a,rs⟩:=h;simp at e;subst e;exact#[v,rfl,a]
 |d::ds,_,i+1,_,h,e=>by
  obtain⟨v,vs,rfl,a,rs⟩:=h;obtain⟨u,q,r⟩:=Rq.get rs (by simpa using e)
  exact#[u,by simpa using q,r]
theorem Rq.reverse:∀{ds:List D}{xs:List V},Rq Z H ds xs->Rq Z H ds.reverse xs.reverse
 |[],_,h=>by rw[h];exact Rq.nil
 |d::ds,_,h=>by
  obtain⟨v,vs,rfl,a,rs⟩:=h;rw[eP,eP];exact Rq.append (Rq.reverse rs)<|Rq.cons a Rq.nil
theorem Rq.rep(h:Rq Z H ds xs):∀k:Nat,Rq Z H (aw k ds).flatten (aw k xs).flatten
 |0=>Rq.nil
 |k+1=>by
  rw[bO,bO,cY,cY];exact Rq.append h<|Rq.rep h k
theorem Rq.ints:∀ns:List Int,Rq Z H (ns.map Pv.V.int) (ns.map V.int)
 |[]=>Rq.nil
 |n::ns=>Rq.cons #[7]<|Rq.ints ns
def Rep.int'{i:Int}(h:Rep Z H (.int i) v):v=.int i:=by exact h
def Rep.bl'{b:Bool}(h:Rep Z H (.bl b) v):v=.bl b:=by exact h
def Rep.non'(h:Rep Z H .non v):v=.non:=by exact h
def Rep.str'{x:bn}(h:Rep Z H (.str x) v):v=.str x:=by exact h
def Rep.tup'{ds:List D}(h:Rep Z H (.tup ds) v):∃a xs,v=.ref a/\H a=aa (.tup xs)/\Rq Z H ds xs:=by exact h
def Rep.lst'{ds:List D}(h:Rep Z H (.lst ds) v):∃a xs,v=.ref a/\H a=aa (.lst xs)/\¬Z.X a/\Rq Z H ds xs:=by exact h
def Rep.drw'(h:Rep Z H .drw v):∃a,v=.ref a/\Z.n0=aa a:=by exact h
def Rep.dct'{o:Sum (List<|Int×Int) (List<|List Int)}(h:Rep Z H (.dct o) v):∃a,v=.ref a/\Dct H a o:=by unfold Rep at h;exact h
def Rep.scr'(h:Rep Z H (.scr ns) v):∃a,v=.ref a/\Scr Z.K H a ns:=by exact h
def Rep.dow'{ks:List #[14]}(h:Rep Z H (.dow ks) v):∃a vs,v=.ref a/\H a=aa (.dT vs)/\¬Z.X a/\vs.map (·.1)=ks.map (·.map cT):=by exact h
def ZT(i:Int):Rep Z H (.int i) (.int i):=by rfl
def Yj(b:Bool):Rep Z H (.bl b) (.bl b):=by rfl
def V5:Rep Z H .non .non:=by rfl
def ZbX(x:bn):Rep Z H (.str x) (.str x):=by rfl
def Xc(h:H a=aa (.tup xs))(r:Rq Z H ds xs):Rep Z H (.tup ds) (.ref a):=by exact#[a,xs,rfl,h,r]
def Wi(h:H a=aa (.lst xs))(x:¬Z.X a)(r:Rq Z H ds xs):Rep Z H (.lst ds) (.ref a):=by exact#[a,xs,rfl,h,x,r]
def Rep.seq(h:Rep Z H x v)(e:Pv.YL x=aa ds):∃p xs,v=.ref p/\(SqL Z.K H p xs\/SqT Z.K H p xs)/\Rq Z H ds xs:=by
 cases x with|tup es=>cases e;obtain⟨p,xs,rfl,h,r⟩:=h.tup';exact#[p,xs,rfl,.inr<|SqT.of h,r]|lst es=>cases e;obtain⟨p,xs,rfl,h,_,r⟩:=h.lst';exact#[p,xs,rfl,.inl<|SqL.of h,r]|scr ns=>cases e;obtain⟨p,e,q⟩:=h.scr';exact#[p,_,e,.inl q.sq,Rq.ints ns]|_=>cases e
end
structure LocR(Z:Mx)(H:Hp)(l:Lc)(O:L2.St):Prop where
 len:l.length=O.length
 val:∀(i:Nat)(d:D),l[i]?=aa (aa d)->∃v,O[i]?=aa (aa v)/\Rep Z H d v
theorem LocR.mono(f:Fut Z H ρ' H')(r:LocR Z H l O):LocR ρ' H' l O:=
 #[r.len,λi d e=>let #[v,q,h]:=r.val i d e;#[v,q,h.mono f]]
theorem LocR.set(r:LocR Z H l O)(i:Nat)(h:Rep Z H d v):LocR Z H (l.set i<|aa d) (O.set i<|aa v):=
 #[by rw[bx,bx];exact r.len,λj e q=>by
  rw[on]at q ⊢;split at q
  .rename_i hij
   subst hij;split at q
   .rename_i hl
    cases q;rw[T9 rfl,T9 (by rw[<-r.len];exact hl)]
    exact#[v,rfl,h]
   .cases q
  .rename_i hij
   rw[T8 hij];exact r.val j e q]
def End{B β:Type}(K:ao)(xw:Nat->Hp->Prop)(rep:Mx->Hp->B->β->Prop)(Z:Mx)(H:Hp)(Q:β->Hp->Prop):R B->Prop
 |.ok d S=>∀ρ' H' v,Fut Z H ρ' H'->St3 K ρ' S H'->rep ρ' H' d v->Q v H'
 |.ex c S=>∀ρ' H',Fut Z H ρ' H'->St3 K ρ' S H'->xw c H'
 |.no=>False
section
variable{K:ao}{xw:Nat->Hp->Prop}{Z ρ':Mx}{H H':Hp}{B β α' β':Type}{rep:Mx->Hp->B->β->Prop}{rep':Mx->Hp->α'->β'->Prop}
def End.mono{Q:β->Hp->Prop}(f:Fut Z H ρ' H')(h:End K xw rep Z H Q r):End K xw rep ρ' H' Q r:=by
 cases r with|ok d S=>exact λρ2 H2 v g st r=>h ρ2 H2 v (f.trans g) st r|ex c S=>exact λρ2 H2 g st=>h ρ2 H2 (f.trans g) st|no=>exact h
theorem End.bind{Q:β'->Hp->Prop}{Q1:β->Hp->Prop}(h:End K xw rep' Z H Q (r.bind f))
  (k:∀d S ρ1 H1 v,Fut Z H ρ1 H1->St3 K ρ1 S H1->rep ρ1 H1 d v->End K xw rep' ρ1 H1 Q (f d S)->Q1 v H1):End K xw rep Z H Q1 r:=by
 cases r with|ok d S=>exact λρ1 H1 v g st r=>k d S ρ1 H1 v g st r<|End.mono g h|ex c S=>exact h|no=>exact h
theorem End.ok{Q:β->Hp->Prop}(h:End K xw rep Z H Q (.ok a S))(st:St3 K Z S H)(r:rep Z H a v):Q v H:=h Z H v (Fut.refl Z H) st r
def End.ob{Q:β'->Hp->Prop}(h:End K xw rep' Z H Q ((Pv.po o S).bind f)):∃a,o=aa a/\End K xw rep' Z H Q (f a S):=by
 cases o with|none=>exact h.elim|some a=>exact#[a,rfl,h]
theorem End.po{Q:β->Hp->Prop}(h:End K xw rep Z H Q (Pv.po o S)):∃a,o=aa a/\End K xw rep Z H Q (.ok a S):=by
 cases o with|none=>exact h.elim|some a=>exact#[a,rfl,h]
theorem End.map{Q:β->Hp->Prop}(h:End K xw rep Z H Q (Pv.po (o.map f) S)):∃a,o=aa a/\End K xw rep Z H Q (.ok (f a) S):=by
 cases o with|none=>exact h.elim|some a=>exact#[a,rfl,h]
def End.ite{c:Prop}[Decidable c]{Q:β->Hp->Prop}(h:End K xw rep Z H Q (if c then a else b)):(c/\End K xw rep Z H Q a)\/(¬c/\End K xw rep Z H Q b):=by
 split at h
 .exact .inl #[‹_›,h]
 .exact .inr #[‹_›,h]
def End.guard{c:Prop}[Decidable c]{Q:β->Hp->Prop}(h:End K xw rep Z H Q (if c then a else .no)):c/\End K xw rep Z H Q a:=by
 rcases h.ite with h|⟨_,h⟩
 .exact h
 .exact h.elim
end
abbrev nx:Nat->Hp->Prop:=λ_ _=>False
theorem End.nox{B β:Type}{K:ao}{xw:Nat->Hp->Prop}{Z:Mx}{H:Hp}{rep:Mx->Hp->B->β->Prop}{Q:β->Hp->Prop}{r:R B}(h:End K xw rep Z H Q r.nox):End K nx rep Z H Q r:=by
 cases r with|ok d S=>exact h|ex c S=>exact h.elim|no=>exact h
def GC(_:Mx)(_:Hp)(a b:Bool):Prop:=a=b
def Zhr(_:Mx)(_:Hp)(a b:Option Int):Prop:=a=b
section
variable(X:Cx)(xw:Nat->Hp->Prop)
def tE(f:Lc->Zv->R D):TE:=λO H Q=>∃Z l S,St3 X.K Z S H/\LocR Z H l O/\End X.K xw Rep Z H Q (f l S)
def tA(f:Lc->Zv->R (List D)):TA:=λO H Q=>∃Z l S,St3 X.K Z S H/\LocR Z H l O/\End X.K xw Rq Z H Q (f l S)
def tB3(f:Lc->Zv->R Bool):TT:=λO H Q=>∃Z l S,St3 X.K Z S H/\LocR Z H l O/\End X.K xw GC Z H Q (f l S)
def tO(f:Lc->Zv->R (Option Int)):TO:=λO H Q=>∃Z l S,St3 X.K Z S H/\LocR Z H l O/\End X.K xw Zhr Z H Q (f l S)
variable(C:Calls)
structure CE(e:Expr)(i:E):Prop where
 h:PE X e (tE X xw<|Pv.pv C i)
structure CT(e:Expr)(i:E):Prop where
 h:PT X e (tB3 X xw<|Pv.Yv C i)
structure CA(es:List Expr)(is:List E):Prop where
 h:PA X es (tA X xw<|Pv.pvs C is)
structure CO(e:Option Expr)(i:Option E):Prop where
 h:PO X e (tO X xw<|Pv.pvo C i)
end
def PE.imp(h:PE X e t)(k:∀O H Q,t' O H Q->t O H Q):PE X e t':=λpq s O H Q I q=>h pq s O H Q I<|k O H Q q
def PT.imp(h:PT X e t)(k:∀O H Q,t' O H Q->t O H Q):PT X e t':=λpq s O H Q I q=>h pq s O H Q I<|k O H Q q
def PA.imp(h:PA X e t)(k:∀O H Q,t' O H Q->t O H Q):PA X e t':=λpos pq s O H Q I q=>h pos pq s O H Q I<|k O H Q q
def PO.imp(h:PO X e t)(k:∀O H Q,t' O H Q->t O H Q):PO X e t':=λpq s O H Q I q=>h pq s O H Q I<|k O H Q q
section
variable{K:ao}{Z ρ':Mx}{S:Zv}{H H':Hp}{a p:aD}
def Zp(hp:H p=ag):Fut Z H Z (upd H p o):=#[rfl,λb u h=>.inl (by rw[Zi<|ZR h hp];exact h)]
def St3.fresh(st:St3 K Z S H)(hp:H p=ag)(ho:∀ps,o≠.tbl ps:=by intro _ z;cases z):St3 K Z S (upd H p o):=
 have n:∀b,H b≠ag->b≠p:=λb h z=>h (by rw[z];exact hp)
 #[st.hk,λb h=>by rw[Zi<|n b<|st.xd b h];exact st.xd b h,λb h=>by
  have:=st.dw b h;rw[Zi<|n b (by rw[this.1];intro z;cases z)];exact this,st.tb.upd (λob u z=>by rw[hp]at z;cases z) ho]
def St3.nx(st:St3 K Z S H)(hp:H p=ag):¬Z.X p:=λz=>st.xd p z hp
end
def YO:Ev.lim=aW:=by rw[dP];rfl
section
variable{K:ao}{xw:Nat->Hp->Prop}{Z:Mx}{H:Hp}{S:Zv}{Q:VK}
def End.newT(h:End K xw Rep Z H Q (.ok (.tup ds) S))(st:St3 K Z S H)(r:Rq Z H ds xs):∀p,H p=ag->Q (.ref p) (upd H p<|.tup xs):=λp hp=>
 h Z _ _ (Zp hp) (st.fresh hp) (Xc Zj<|r.mono<|Zp hp)
def End.newL(h:End K xw Rep Z H Q (.ok (.lst ds) S))(st:St3 K Z S H)(r:Rq Z H ds xs):∀p,H p=ag->Q (.ref p) (upd H p<|.lst xs):=λp hp=>
 h Z _ _ (Zp hp) (st.fresh hp) (Wi Zj (st.nx hp)<|r.mono<|Zp hp)
end
section
variable{X:Cx}{xw:Nat->Hp->Prop}{C:Calls}{e a b c:Expr}{i j k:E}{pos:fD}
def Zfs{n:Int}{q}:CE X xw C (.Constant (.int n) q pos) (.c<|.int n):=.mk <| PE.imp Qm<|by left;exact End.ok h st<|ZT n
def ZgD{n:Bool}{q}:CE X xw C (.Constant (.bool n) q pos) (.c<|.bl n):=.mk <| PE.imp w6<|by left;exact End.ok h st<|Yj n
def Zfm{q}:CE X xw C (.Constant .none q pos) (.c .non):=.mk <| PE.imp xp<|by left;exact End.ok h st V5
def ZfH{x:bn}{q}:CE X xw C (.Constant (.str x) q pos) (.c<|.str x):=.mk <| PE.imp ZaO<|by left;exact End.ok h st<|ZbX x
def Zhu(n:Nat){x:bn}(hN:X.N[n]?=aa x)(hv:Vis X.env.scope x)(hd:(x == #[11])=aj)
  (hcd:(x == #[16])=aj):CE X xw C (.Name x pos) (.v n):=.mk <| PE.imp (Yo hN hv hd hcd)<|by
 left;rw[Pv.pE2]at h;cases q:l[n]? with
 |none=>rw[q]at h;exact h.elim
 |some o=>
  cases o with
  |none=>rw[q]at h;exact h.elim
  |some d=>
   rw[q]at h;obtain⟨v,q2,r⟩:=lr.val n d q;exact#[v,q2,End.ok h st r]
def ZeX:CA X xw C [] []:=.mk <| PA.imp Yq<|by
 left;rw[Pv.pvs]at h;exact End.ok h st Rq.nil
def Zb6{es:List Expr}{is:List E}(ha:CE X xw C e i)(hr:CA X xw C es is)(hs:aE (e::es) X.env=(aj,cD e X.env)::aE es X.env):CA X xw C (e::es) (i::is):=.mk <|
 PA.imp (ZB ha.h hr.h hs)<|by
  left;rw[Pv.pvs]at h;exact#[Z,l,S,st,lr,h.bind λx S1 ρ1 H1 v f1 st1 r1 h1=>#[ρ1,l,S1,st1,lr.mono f1,h1.bind λxs S2 ρ2 H2 vs f2 st2 r2 h2=>h2.ok st2<|Rq.cons (r1.mono f2) r2]]
def Zez{es:List Expr}{is:List E}{q}(h:CA X xw C es is):CE X xw C (.Tuple es q pos) (.tup is):=.mk <| PE.imp (jI h.h)<|by
 left;rw[Pv.pE3]at h;refine#[Z,l,S,st,lr,h.bind λxs S1 ρ1 H1 vs f1 st1 r1 h1=>?_]
 obtain⟨hl,h1⟩:=h1.guard;exact#[by rw[r1.length,<-YO];exact hl,h1.newT st1 r1]
def X3{r:R2}{g:D->D->Zv->R D}(hg:∀{Z H S x y v u Q},St3 X.K Z S H->Rep Z H x v->Rep Z H y u->End X.K xw Rep Z H Q (g x y S)->r v u H Q) :
  ∀O H Q,tE X xw (λl S=>(Pv.pv C i l S).bind λx S=>(Pv.pv C j l S).bind λy S=>g x y S) O H Q->tOp r (tE X xw<|Pv.pv C i) (tE X xw<|Pv.pv C j) O H Q:=λO H Q #[Z,l,S,st,lr,h]=>
 #[Z,l,S,st,lr,h.bind λx S1 ρ1 H1 v f1 st1 r1 h1=>#[ρ1,l,S1,st1,lr.mono f1,h1.bind λy S2 ρ2 H2 u f2 st2 r2 h2=>hg st2 (r1.mono f2) r2 h2]]
end
def qP(K:ao):R2:=λx y H Q=>∃a b ys,x=.ref a/\y=.ref b/\SqT K H a []/\SqT K H b ys/\Q (.ref b) H
def jd:OpR X (eO .Add) (qP X.K):=by
 intro pq s O H x y v u Q I rx ry h;obtain⟨a,b,ys,rfl,rfl,ha,hb,q⟩:=h;cases rx;cases ry;obtain⟨its,r1,p1,_⟩:=I.tuple ha;obtain⟨its2,r2,p2,_⟩:=I.tuple hb;have e0:=r1.nil_iff.mpr rfl;obtain⟨⟨cls,dd,data,sl⟩,ho,hc,n,hd⟩:=id p1;obtain⟨⟨cls2,dd2,data2,sl2⟩,ho2,hc2,n2,hd2⟩:=id p2;simp only at hc hd hc2 hd2;subst hc hd hc2 hd2;exact n6 #[_,ho,rfl] #[_,ho2,rfl] k7 m5 gY gP (gA _ _)
   (tuple_addW0 a b its.toArray its2.toArray n n2 dd dd2 sl sl2<|by rw[e0];rfl) #[ho,ho2,#[.ref b,H,I,rfl,q]]
def Zhy(K:ao):V->Option Int->Option Int->Hp->VK->Prop:=λx lo hi H Q=>∃a xs,x=.ref a/\SqT K H a xs/\
 (HT.sIx xs.length 0 lo=0/\HT.sIx xs.length xs.length hi=xs.length)/\Q (.ref a) H
def WB{prog:bt}{w:bN}{A:bU}{E:au->aA->Prop}{s:aA}{t sl:aD}{items:Array au}{vl vu:au}{lo hi:Option Int}{Q:au->aA->Prop}(ht:nP s.heap t items)(hs:s.heap.IsSliceOf sl vl vu .none)(pl:i5 vl lo)(pu:i5 vu hi)
  (hw:HT.sIx items.size 0 lo=0/\HT.sIx items.size items.size hi=items.size)(h:Q (.ref t) s):aX #[8] A (kF (.ref t)<|.ref sl) Q E s:=by
 obtain⟨os,hos,hcs,hds⟩:=id hs;have hTs:s.TypeIs (.ref sl) "slice":=#[os,hos,hcs];unfold kF
 try with_reducible refine bT ?_
 first|refine ae<|aB ?_|skip
 refine ae<|kG ht.typeIs #[1] ?_
 refine ae (cI ht.typeIs cC
  (de cC ht.typeIs iR ?_<|i8 _ _))
 show aX _ _ (fN (.ref t) >>= _) _ _ s;refine ae<|m7 ht ?_;refine ae<|fW hTs ?_;rw[T9 #[1]]
 refine ae<|HT.Xn hs pl pu ?_;have hyes:((((HT.sIx items.size 0 lo:Nat):Int) == 0&&(1:Int) == 1&&(HT.sIx items.size items.size hi-HT.sIx items.size 0 lo) == items.size)=al):=by
  rw[hw.1,hw.2];simp
 show aX _ _ (if(((HT.sIx items.size 0 lo:Nat):Int) == 0&&(1:Int) == 1&&(HT.sIx items.size items.size hi-HT.sIx items.size 0 lo) == items.size)=al then _ else _) _ _ s
 rw[T9 hyes];refine ae<|ae<|fW ht.typeIs<|aB ?_;rw[T9 #[1]]
 exact ae<|fJ<|aB #[_,rfl,aB h]
def jm:SlR X (Zhy X.K):=by
 intro pq s O H x v vl vu lo hi sl Q I rx hs pl pu h;obtain⟨a,xs,rfl,hx,hw,q⟩:=h;cases rx;obtain⟨its,r,ht,hz⟩:=I.tuple hx;have hlen:its.toArray.size=xs.length:=by rw[aC];exact r.length.symm
 refine#["tuple",_,cC.lookup,ht.typeIs,?_];exact WB ht hs pl pu (by rw[hlen];exact hw) #[.ref a,H,I,rfl,q]
def xW(h:Ev.fits i=al):mU i<=2^20:=by
 have h1:=T6 h;unfold mU;split
 .exact dD _
 .rename_i hz
  have hne:i.natAbs≠0:=by intro z;exact hz (by simp[Int.natAbs_eq_zero.mp z])
  have:=(Nat.log2_lt hne).mpr h1;have e:(2:Nat)^20=1048576:=by decide
  omega
def Zax:OpR X (eO .FloorDiv) (rI (λ_ j=>0<j/\j<Ev.big) λi j=>.int<|i / j):=opI λi j _ _ _ _ _ hc q=>by
 have h1:=hc.1;have h2:=hc.2;have hne:j.natAbs≠0:=by omega
 have h3:j.natAbs<2^8000:=by
  have e:(j.natAbs:Int)=j:=Int.natAbs_of_nonneg #[3]
  have h4:(j.natAbs:Int)<((2^8000:Nat):Int):=by rw[e,Int.natCast_pow];exact h2
  exact Int.ofNat_lt.mp h4
 have h5:=(Nat.log2_lt hne).mpr h3;exact floordiv_int #[3] (by rw[Int.fdiv_eq_ediv_of_nonneg i #[3]];exact q)<|.inl<|PyProof.noPylong_of_log2 #[3]
def ZbU:OpR X (eO .Mult) (rI (λi j=>Ev.fits i=al/\Ev.fits j=al) λi j=>.int<|i*j):=opI λ_ _ _ _ _ _ _ hc q=>mul_int q<|IntMulOk.of_bits (xW hc.1)<|xW hc.2
def ZfU:OpR X (du .Is) (λx y H Q=>∃a b,x=.bl a/\y=.bl b/\Q (.bl<|ai<|a=b) H):=by
 intro pq s O H x y v u Q I rx ry h;obtain⟨a,b,rfl,rfl,q⟩:=h;cases rx;cases ry;cases a<;>cases b<;>exact aB #[.bl _,H,I,rfl,q]
def Qz:fillsNumberSlot (.type "tuple") "mul" = cy aj:=
 PySem.fillsNumberSlot_seq k9.lookup (by decide +kernel) F.slot_tuple_rmul.lookup (by decide +kernel)
def J3:seqRepeat? (.type "tuple")=cy (aa<|.builtin "tuple.__mul__"):=by
 unfold seqRepeat?
 rw[oO (name:="__mul__") k9.lookup (by decide +kernel),oO (name:="__rmul__") F.slot_tuple_rmul.lookup (by decide +kernel)]
 rfl
def Qj(a:Int)(t:rm)(l:aD)(items:Array au)(n:Nat)(dd:Option aD)(sl:Array (Option au)) :
  rM (eQ.«int.__rmul__» #[[.int a t,.ref l],[]]) (λ_ R s=>s.heap.get? l=aa {cls:=.type "tuple",dict:=dd,data:=.seq items n,slots:=sl}/\R (.ok<|.ret au.notImplemented) s):=
 .of_wp λprog w A R s h=>by obtain⟨hp,g,d,tk,os⟩:=s;obtain⟨hl,h⟩:=h;wp_walk;exact#[_,rfl,h]
def JO(l:aD)(items:Array au)(n:Nat)(dd:Option aD)(sl:Array (Option au))(x:Int)(u:rm)(h0:¬(x < -(2^63)||x>=2^63)=al)(hc:(items.isEmpty||x == 1)=al) :
  rM (eQ.«tuple.__mul__» #[[.ref l,.int x u],[]]) (λ_ R s=>s.heap.get? l=aa {cls:=.type "tuple",dict:=dd,data:=.seq items n,slots:=sl}/\R (.ok<|.ret<|cG l) {s with heap:=s.heap,toks:=s.toks}):=
 .of_wp λprog w A R s h=>by obtain⟨hp,g,d,tk,os⟩:=s;obtain⟨hl,h⟩:=h;have f1:=k8;have f2:=gB;wp_walk;rw[T8 h0];wp_walk using dW hl;exact#[_,rfl,h]
def J9(l:aD)(items:Array au)(n:Nat)(dd:Option aD)(sl:Array (Option au))(x:Int)(u:rm)(h0:¬(x < -(2^63)||x>=2^63)=al)(hc:¬(items.isEmpty||x == 1)=al)(h1:(x<=0||items.isEmpty)=al) :
  rM (eQ.«tuple.__mul__» #[[.ref l,.int x u],[]]) (λ_ R s=>s.heap.get? l=aa {cls:=.type "tuple",dict:=dd,data:=.seq items n,slots:=sl}/\R (.ok<|.ret<|cG s.heap.objs.size) {s with heap:=s.heap.push {cls:=.type "tuple",data:=.seq #[]},toks:=s.toks}):=
 .of_wp λprog w A R s h=>by obtain⟨hp,g,d,tk,os⟩:=s;obtain⟨hl,h⟩:=h;have f1:=k8;have f2:=gB;wp_walk;rw[T8 h0];wp_walk using dW hl;exact#[_,rfl,h]
def G8(l:aD)(items:Array au)(n:Nat)(dd:Option aD)(sl:Array (Option au))(x:Int)(u:rm)(h0:¬(x < -(2^63)||x>=2^63)=al)(hc:¬(items.isEmpty||x == 1)=al)(h1:¬(x<=0||items.isEmpty)=al)
  (h2:¬(items.size*x>(2^63-1) / 8))(h3:¬kg (items.size*x)=al)(hsz:((aw x.toNat items).foldl (·++·) #[]).size<=aW) :
  rM (eQ.«tuple.__mul__» #[[.ref l,.int x u],[]]) (λ_ R s=>s.heap.get? l=aa {cls:=.type "tuple",dict:=dd,data:=.seq items n,slots:=sl}/\R (.ok<|.ret<|cG s.heap.objs.size) {s with heap:=s.heap.push {cls:=.type "tuple",data:=.seq ((aw x.toNat items).foldl (·++·) #[])},toks:=s.toks}):=
 .of_wp λprog w A R s h=>by obtain⟨hp,g,d,tk,os⟩:=s;obtain⟨hl,h⟩:=h;have f1:=k8;have f2:=gB;wp_walk;rw[T8 h0];wp_walk using dW hl;rw[T8 h2];wp_walk using dW hl;exact#[_,rfl,h]
def Zec(K:ao):R2:=λx y H Q=>∃a k xs,x=.ref a/\y=.int k/\SqT K H a xs/\(0<=k/\k<1000/\xs.length<=1000)/\
 ((xs=[]\/k=1)->Q (.ref a) H)/\(¬(xs=[]\/k=1)->∀p,H p=ag->Q (.ref p) (upd H p<|.tup (aw k.toNat xs).flatten))
def ZcG :OpR X (eO .Mult) (Zec X.K):=by
 intro pq s O H x y v u Q I rx ry h;obtain⟨a,k,xs,rfl,rfl,hx,⟨k0,k1,hz⟩,q1,q2⟩:=h;cases rx;obtain⟨t,rfl⟩:=ry;obtain⟨its,r,pt,_⟩:=I.tuple hx;have hl:=r.length;obtain⟨⟨cls,dd,data,sl⟩,ho,hc,n,hd⟩:=id pt;simp only at hc hd;subst hc hd;have h0:¬(ai (k < -(2^63))||decide (k>=2^63))=al:=by
  rw[T4 #[0],T4 #[0]];exact aO
 refine kz #[1] #[_,ho,rfl] (λs'=>lL s' k t) Qz pe iH J3 F.slot_int_index.lookup
  (gM iH (lL s k t) oP (oo _ _) (Qj k t a its.toArray n dd sl) #[ho,rfl,#[_,ho,rfl],?_])
 have hnil:=r.nil_iff;by_cases c:xs=[]\/k=1
 .have c':(its.toArray.isEmpty||k == 1)=al:=by
   rcases c with c|c
   .rw[hnil.mpr c];rfl
   .rw[c];simp
  exact gM k9 #[_,ho,rfl] kI (kh _ _) (JO a its.toArray n dd sl k t h0 c') #[ho,#[.ref a,H,I,rfl,q1 c]]
 .have ne:=λz=>c (.inl<|hnil.mp z)
  have k1:k≠1:=λz=>c<|.inr z
  have c':¬(its.toArray.isEmpty||k == 1)=al:=by
   rw[beq_eq_false_iff_ne.mpr k1,Bool.or_false,iw];cases its with|nil=>exact T7 rfl ne|cons _ _=>exact aO
  have fin:∀arr:List au,arr=(aw k.toNat its).flatten->EP X pq O Q (cG s.heap.objs.size) {s with heap:=s.heap.push {cls:=.type "tuple",data:=.seq arr.toArray}}:=λarr e=>by
   subst e;refine#[.ref s.heap.objs.size,_,I.laid (t':=s.toks) (λb ob q=>av _ q) (aF _) ?_,rfl,q2 c _<|I.hok.fresh<|aF _]
   refine#[?_,_,r.rep k.toNat,h9 _ _];rw[JX,dP];have:k.toNat*xs.length<=1000*1000:=mD #[0] hz
   lia
  by_cases z:k=0
  .have h1:(ai (k<=0)||its.toArray.isEmpty)=al:=by rw[z];rfl
   refine gM k9 #[_,ho,rfl] kI (kh _ _) (J9 a its.toArray n dd sl k t h0 c' h1) #[ho,?_];exact fin [] (by rw[z];rfl)
  .have h1:¬(ai (k<=0)||its.toArray.isEmpty)=al:=by
    rw[T4 #[0],kQ,iw]
    cases its with|nil=>exact T7 rfl ne|cons _ _=>exact aO
   have hm:(its.toArray.size:Int)*k<=1000*1000:=by
    rw[aC,<-hl];exact Int.mul_le_mul #[0] #[0] k0 #[0]
   have joined:(aw k.toNat its.toArray).foldl (·++·) #[]=(aw k.toNat its).flatten.toArray:=by
    have:=VF its k.toNat [];rw[fz]at this;exact this
   have hsz:((aw k.toNat its.toArray).foldl (·++·) #[]).size<=aW:=by
    rw[joined,aC,JX,dP,<-hl];have:k.toNat*xs.length<=1000*1000:=mD #[0] hz
    lia
   refine gM k9 #[_,ho,rfl] kI (kh _ _) (G8 a its.toArray n dd sl k t h0 c' h1 #[0] (by
    unfold kg;rw[T4 (by rw[dP];lia)]
    exact aO) hsz) #[ho,?_]
   rw[joined];exact fin _ rfl
def ZdU:R2:=λx y H Q=>∃a k xs,x=.ref a/\y=.int k/\H a=aa (.lst xs)/\(0<=k/\k<1000/\xs.length<=1000)/\∀p,H p=ag->Q (.ref p) (upd H p<|.lst (aw k.toNat xs).flatten)
def Zcf :OpR X (eO .Mult) ZdU:=by
 intro pq s O H x y v u Q I rx ry h;obtain⟨a,k,xs,rfl,rfl,hx,⟨k0,k1,hz⟩,q2⟩:=h;cases rx;obtain⟨t,rfl⟩:=ry;obtain⟨its,r,pl,_⟩:=I.list<|SqL.of hx;have hl:=r.length;obtain⟨⟨cls,dd,data,sl⟩,n,ho,hc,hd2,hd⟩:=id pl;simp only at hc hd hd2;subst hc hd;have hm:k.toNat*its.length<=1000*1000:=mD #[0] #[0]
 have hm2:its.length*k.toNat<=1000*1000:=by rw[oq];exact hm
 refine kz #[1] #[_,ho,rfl] (λs'=>lL s' k t) noFill_list_mul pe iH repeat_list F.slot_int_index.lookup
  (gM iH (lL s k t) oP (oo _ _) (lm_int_rmul_list_any k t a its.toArray n dd sl) #[ho,rfl,#[_,ho,rfl],
   gM F.slot_list_mul #[_,ho,rfl] F.entry_list_mul (F.args_list_mul_2 _ _) (lm_list_mul_any a its.toArray n dd sl k t (by simp[eQ.List.listFitsIndex];lia) (by rw[aC];lia)<|by rw[aC];simp[eQ.List.listTooLong,aW];lia) #[ho,?_]])
 have joined:(aw (if its.toArray.isEmpty=al then 0 else k.toNat) its.toArray).foldl (λx1 x2=>x1++x2) #[]=(aw k.toNat its).flatten.toArray:=by
  have h0:=VF its k.toNat [];rw[fz]at h0;by_cases z:its=[]
  .subst z
   have e:∀m:Nat,(aw m ([]:List au)).flatten=[]:=λm=>by induction m with|zero=>rfl|succ m ih=>rw[bO,cY,ih];rfl
   rw[e];rfl
  .rw[T8 (by rw[iw];cases its with|nil=>exact T7 rfl z|cons _ _=>exact aO)]
   exact h0
 rw[joined];refine#[.ref s.heap.objs.size,_,I.laid (t':=s.toks) (λb ob q=>av _ q) (aF _) ?_,rfl,q2 _<|I.hok.fresh<|aF _]
 refine#[?_,_,0,r.rep k.toNat,aM _ rfl];rw[JX,dP];rw[hl];lia
section
variable{X:Cx}{xw:Nat->Hp->Prop}{C:Calls}{e a b c:Expr}{i j k:E}{pos:fD}
variable{Z:Mx}{H:Hp}{S:Zv}{x y:D}{v u:V}{Q:VK}{K:ao}
def ZdZ(K:ao):R2:=λx y H Q=>rI0 (λi j=>.int<|i+j) x y H Q\/(ZdW K x y H Q\/(qP K x y H Q\/Zc4 x y H Q))
def ZbL:OpR X (eO .Add) (ZdZ X.K):=Ze7.or<|ZcW.or<|jd.or Gd
def Ze1(st:St3 K Z S H)(rx:Rep Z H x v)(ry:Rep Z H y u)(h:End K xw Rep Z H Q (Pv.XS .add x y S)):ZdZ K v u H Q:=by
 cases x with
 |int i=>cases y with|int j=>exact .inl #[i,j,rx.int',ry.int',End.ok h st<|ZT _]|_=>exact False.elim h
 |tup ds=>cases y with
  |tup es=>
   obtain⟨hl,h⟩:=End.guard h;obtain⟨p,xs,rfl,hp,r1⟩:=rx.tup';obtain⟨q,ys,rfl,hq,r2⟩:=ry.tup';have l1:=r1.length;have l2:=r2.length;by_cases z:xs=[]
   .subst z
    have e1:=d6.mp l1.symm;subst e1;exact .inr<|.inr<|.inl #[p,q,ys,rfl,rfl,SqT.of hp,SqT.of hq,End.ok h st<|Xc hq r2]
   .refine .inr (.inl #[p,q,xs,ys,rfl,rfl,SqT.of hp,SqT.of hq,z,by rw[l1,l2,<-YO];exact hl,λz2=>?_,λ_=>h.newT st<|r1.append r2])
    subst z2;have e2:=d6.mp l2.symm;subst e2;refine End.ok h st ?_;rw[cw];exact Xc hp r1
  |_=>exact False.elim h
 |lst ds=>cases y with
  |lst es=>
   obtain⟨hl,h⟩:=End.guard h;obtain⟨p,xs,rfl,hp,_,r1⟩:=rx.lst';obtain⟨q,ys,rfl,hq,_,r2⟩:=ry.lst';exact .inr<|.inr<|.inr #[p,q,xs,ys,rfl,rfl,hp,hq,by rw[r1.length,r2.length,<-YO];exact hl,h.newL st<|r1.append r2]
  |_=>exact False.elim h
 |_=>cases y<;>exact False.elim h
def ZeT(st:St3 K Z S H)(rx:Rep Z H x v)(ry:Rep Z H y u)(h:End K xw Rep Z H Q (Pv.XS .sub x y S)):rI0 (λi j=>.int<|i-j) v u H Q:=by
 cases x with
 |int i=>cases y with|int j=>exact#[i,j,rx.int',ry.int',End.ok h st<|ZT _]|_=>exact False.elim h
 |_=>cases y<;>exact False.elim h
def ZdL(K:ao):R2:=λx y H Q=>rI (λi j=>Ev.fits i=al/\Ev.fits j=al) (λi j=>.int<|i*j) x y H Q\/(Zec K x y H Q\/ZdU x y H Q)
def Zcg:OpR X (eO .Mult) (ZdL X.K):=ZbU.or<|ZcG.or Zcf
def ZeV(st:St3 K Z S H)(rx:Rep Z H x v)(ry:Rep Z H y u)(h:End K xw Rep Z H Q (Pv.XS .mul x y S)):ZdL K v u H Q:=by
 cases x with
 |int i=>cases y with
  |int j=>
   obtain⟨hc,h⟩:=End.guard h;exact .inl #[i,j,rx.int',ry.int',(aG _ _).mp hc,End.ok h st<|ZT _]
  |_=>exact False.elim h
 |tup ds=>cases y with
  |int k=>
   obtain⟨⟨h0,h1,h2⟩,h⟩:=End.guard h;obtain⟨p,xs,rfl,hp,r1⟩:=rx.tup';have l1:=r1.length;refine .inr <| .inl #[p,k,xs,rfl,ry.int',SqT.of hp,#[h0,h1,by rw[l1];exact h2],λz=>?_,λ_=>h.newT st<|r1.rep k.toNat]
   refine End.ok h st<|Xc hp ?_;rcases z with z|z
   .subst z
    have e1:=d6.mp l1.symm;subst e1;have:∀m:Nat,(aw m ([]:List D)).flatten=[]:=λm=>by induction m with|zero=>rfl|succ m ih=>rw[bO,cY,ih];rfl
    rw[this];exact Rq.nil
   .subst z
    show Rq Z H (aw 1 ds).flatten xs;rw[bO,List.replicate_zero,cY,List.flatten_nil,cw];exact r1
  |_=>exact False.elim h
 |lst ds=>cases y with
  |int k=>
   obtain⟨⟨h0,h1,h2⟩,h⟩:=End.guard h;obtain⟨p,xs,rfl,hp,_,r1⟩:=rx.lst';exact .inr<|.inr #[p,k,xs,rfl,ry.int',hp,#[h0,h1,by rw[r1.length];exact h2],h.newL st<|r1.rep k.toNat]
  |_=>exact False.elim h
 |_=>cases y<;>exact False.elim h
def Zdv(st:St3 K Z S H)(rx:Rep Z H x v)(ry:Rep Z H y u)(h:End K xw Rep Z H Q (Pv.XS .fdiv x y S)):rI (λ_ j=>0<j/\j<Ev.big) (λi j=>.int<|i / j) v u H Q:=by
 cases x with
 |int i=>cases y with
  |int j=>
   obtain⟨hc,h⟩:=End.guard h;exact#[i,j,rx.int',ry.int',hc,End.ok h st<|ZT _]
  |_=>exact False.elim h
 |_=>cases y<;>exact False.elim h
def Zf4(st:St3 K Z S H)(rx:Rep Z H x v)(ry:Rep Z H y u)(h:End K xw Rep Z H Q (Pv.XS .mod x y S)):rI (λ_ j=>0<j) (λi j=>.int<|i%j) v u H Q:=by
 cases x with
 |int i=>cases y with
  |int j=>
   obtain⟨hc,h⟩:=End.guard h;exact#[i,j,rx.int',ry.int',hc,End.ok h st<|ZT _]
  |_=>exact False.elim h
 |_=>cases y<;>exact False.elim h
theorem Zfy(st:St3 K Z S H)(rx:Rep Z H x v)(ry:Rep Z H y u)(h:End K xw Rep Z H Q (Pv.XS .pow x y S)):rI CPow (λi j=>.int<|i^j.toNat) v u H Q:=by
 cases x with
 |int i=>cases y with
  |int j=>
   obtain⟨hc,h⟩:=End.guard h;exact#[i,j,rx.int',ry.int',#[hc.1,by lia,hc.2.2],End.ok h st<|ZT _]
  |_=>exact False.elim h
 |_=>cases y<;>exact False.elim h
def Zfl(ha:CE X xw C a i)(hb:CE X xw C b j):CE X xw C (.BinOp a .Add b pos) (.bin .add i j):=.mk <| PE.imp (W0 ZbL ha.h hb.h) (X3 λst rx ry h=>Ze1 st rx ry h)
def Zf1(ha:CE X xw C a i)(hb:CE X xw C b j):CE X xw C (.BinOp a .Sub b pos) (.bin .sub i j):=.mk <| PE.imp (W0 ZeH ha.h hb.h) (X3 λst rx ry h=>ZeT st rx ry h)
def ZeA(ha:CE X xw C a i)(hb:CE X xw C b j):CE X xw C (.BinOp a .Mult b pos) (.bin .mul i j):=.mk <| PE.imp (W0 Zcg ha.h hb.h) (X3 λst rx ry h=>ZeV st rx ry h)
def Zc2(ha:CE X xw C a i)(hb:CE X xw C b j):CE X xw C (.BinOp a .FloorDiv b pos) (.bin .fdiv i j):=.mk <| PE.imp (W0 Zax ha.h hb.h) (X3 λst rx ry h=>Zdv st rx ry h)
def Zer(ha:CE X xw C a i)(hb:CE X xw C b j):CE X xw C (.BinOp a .Mod b pos) (.bin .mod i j):=.mk <| PE.imp (W0 Zev ha.h hb.h) (X3 λst rx ry h=>Zf4 st rx ry h)
def ZeO(ha:CE X xw C a i)(hb:CE X xw C b j):CE X xw C (.BinOp a .Pow b pos) (.bin .pow i j):=.mk <| PE.imp (W0 ZeI ha.h hb.h) (X3 λst rx ry h=>Zfy st rx ry h)
def ZfM(ha:CE X xw C a i):CE X xw C (.UnaryOp .USub a pos) (.neg i):=.mk <| PE.imp (ZdJ ZaP ha.h)<|by
 left;refine#[Z,l,S,st,lr,End.bind (h) λx S1 ρ1 H1 v f1 st1 r1 h1=>?_]
 cases x with|int n=>exact#[n,r1.int',End.ok h1 st1<|ZT _]|_=>exact False.elim h1
def ya(st:St3 K Z S H)(rx:Rep Z H x v)(h:Pv.Zz x=aa n):ZbM K v H n:=by
 cases x with
 |non=>rw[rx.non'];exact(aq h).symm
 |bl b=>rw[rx.bl'];exact(aq h).symm
 |int i=>
  rw[rx.int'];have h':=aq h;rw[<-h'];by_cases z:i=0
  .subst z;rfl
  .rw[T5 z];exact(bne_iff_ne.mpr z).symm
 |tup ds=>
  obtain⟨p,xs,rfl,hp,r⟩:=rx.tup';have h':=aq h;refine .inr<|.inl #[xs,SqT.of hp,?_];rw[<-h'];have:=r.length;cases ds<;>cases xs<;>first|rfl|(simp at this)
 |lst ds=>
  obtain⟨p,xs,rfl,hp,_,r⟩:=rx.lst';refine .inl #[xs,SqL.of hp,?_];rw[<-aq h];have:=r.length;cases ds<;>cases xs<;>first|rfl|(simp at this)
 |_=>cases h
def Zej(ha:CE X xw C a i)(he:∀whole,isTrue a X.env whole=(do let v <-whole;nQ a.pos;kC [v] (rB v))):CT X xw C a i:=.mk <|
 PT.imp (Zah ha.h he)<|by
  left;refine#[Z,l,S,st,lr,End.bind (h) λx S1 ρ1 H1 v f1 st1 r1 h1=>?_]
  cases q:Pv.Zz x with|none=>rw[q]at h1;exact False.elim h1|some n=>rw[q]at h1;exact#[n,ya st1 r1 q,End.ok h1 st1 rfl]
def Ze2(ha:CT X xw C a i):CT X xw C (.UnaryOp .Not a pos) (.not i):=.mk <| PT.imp (Zbv ha.h)<|by
 left;refine#[Z,l,S,st,lr,?_];have h':End X.K xw GC Z H Q (((Pv.pv C i l S).bind λx S=>(Pv.po (Pv.Zz x) S).bind λb S=>.ok (.bl !b) S).bind λx S=>Pv.po (Pv.Zz x) S):=h
 show End X.K xw GC Z H (λc H1=>Q (!c) H1) ((Pv.pv C i l S).bind λx S=>Pv.po (Pv.Zz x) S)
 cases q:Pv.pv C i l S with
 |no=>rw[q]at h';exact h'
 |ex c S1=>rw[q]at h';exact h'
 |ok x S1=>
  rw[q]at h';show End X.K xw GC Z H _ (Pv.po (Pv.Zz x) S1);have h2:End X.K xw GC Z H Q (((Pv.po (Pv.Zz x) S1).bind λb S=>.ok (.bl !b) S).bind λx S=>Pv.po (Pv.Zz x) S):=h'
  cases t:Pv.Zz x with
  |none=>rw[t]at h2;exact h2
  |some n=>
   rw[t]at h2;intro ρ1 H1 w f1 st1 e;exact h2 ρ1 H1 (!w) f1 st1 (by rw[<-(e)];rfl)
def Zen(ha:CE X xw C a i):CE X xw C (.UnaryOp .Not a pos) (.not i):=.mk <| by
 intro pq s O H Q I hq;obtain⟨Z,l,S,st,lr,h⟩:=hq;have h':=h
 refine UnaryOp_<|thn (ha.h pq s O H (λv H1=>∃k,ZbM X.K v H1 k/\Q (.bl !k) H1) I #[Z,l,S,st,lr,End.bind h' λx S1 ρ1 H1 v f1 st1 r1 h1=>?_]) λv s1 #[x,H1,I1,r1,q1]=>?_
 .cases q:Pv.Zz x with|none=>rw[q]at h1;exact False.elim h1|some n=>rw[q]at h1;exact#[n,ya st1 r1 q,End.ok h1 st1<|Yj _]
 .obtain⟨k,tk,q2⟩:=q1
  refine not_of<|thn (qp pq s1 O H1 x v (λk' H'=>Q (.bl !k') H') I1 r1 #[k,tk,q2]) λk' s2 #[H2,I2,q3]=>?_
  exact#[.bl<|!k',H2,I2,rfl,q3]
def ZeY{rest:List Expr}(ha:CE X xw C a i)(hb:CE X xw C (.BoolOp .And (b::rest) pos) j):CE X xw C (.BoolOp .And (a::b::rest) pos) (.and i j):=.mk <| PE.imp (Zfv ha.h hb.h)<|by
 left;refine#[Z,l,S,st,lr,End.bind (h) λx S1 ρ1 H1 v f1 st1 r1 h1=>?_]
 cases x with
 |bl c=>
  refine#[c,r1.bl',?_];cases c with|true=>exact#[ρ1,l,S1,st1,lr.mono f1,h1]|false=>exact End.ok h1 st1<|Yj _
 |_=>exact False.elim h1
def ZfK{op}(ha:CE X xw C a i):CE X xw C (.BoolOp op [a] pos) i:=.mk <| Zft ha.h
structure CWh(X:Cx)(xw:Nat->Hp->Prop)(C:Calls)(e:Expr)(i:E):Prop where
 h:PW X e (tB3 X xw<|Pv.Yv C i)
def CWh.ct(h:CWh X xw C e i):CT X xw C e i:=.mk <| PW.pt h.h
def PW.imp(h:PW X e t)(k:∀O H Q,t' O H Q->t O H Q):PW X e t':=λwh pq s O H Q I q=>h wh pq s O H Q I<|k O H Q q
def ZfC(ha:CT X xw C a i):CWh X xw C (.BoolOp .Or [a] pos) i:=.mk <| jv ha.h
def ZdP{rest:List Expr}(ha:CT X xw C a i)(hb:CWh X xw C (.BoolOp .Or (b::rest) pos) j):CWh X xw C (.BoolOp .Or (a::b::rest) pos) (.or i j):=.mk <| PW.imp (Zd7 ha.h hb.h)<|by
 left;have h':End X.K xw GC Z H Q (((Pv.pv C i l S).bind λx S=>match x with|.bl c=>if c then .ok (.bl al) S else Pv.pv C j l S|_=>.no).bind λx S=>Pv.po (Pv.Zz x) S):=h
 refine#[Z,l,S,st,lr,?_];show End X.K xw GC Z H _ ((Pv.pv C i l S).bind λx S=>Pv.po (Pv.Zz x) S)
 cases q:Pv.pv C i l S with
 |no=>rw[q]at h';exact h'
 |ex c S1=>rw[q]at h';exact h'
 |ok x S1=>
  rw[q]at h';cases x with
  |bl n=>
   intro ρ1 H1 w f1 st1 e;have e':n=w:=e;subst e';cases n with|false=>exact#[ρ1,l,S1,st1,lr.mono f1,End.mono f1 (h')]|true=>exact(h') ρ1 H1 al f1 st1 rfl
  |_=>exact False.elim h'
end
theorem Qo{f:D->D->Option Bool}(hf:∀x y v b,Rep Z H x v->Rep Z H y v->f x y=aa b->b=al):∀{ds es:List D}{xs:List V}{b:Bool},Rq Z H ds xs->Rq Z H es xs->Pv.Yt f ds es=aa b->b=al
 |[],[],_,b,_,_,h=>(aq h).symm
 |d::ds,e::es,_,b,r1,r2,h=>by
  obtain⟨v,vs,rfl,a1,b1⟩:=r1;obtain⟨v',vs',e',a2,b2⟩:=r2;cases e';unfold Pv.Yt at h;cases q1:f d e with
  |none=>rw[q1]at h;cases h
  |some p=>
   cases q2:Pv.Yt f ds es with
   |none=>rw[q1,q2]at h;cases h
   |some q=>
    rw[q1,q2]at h;have h':=aq h;rw[<-h',hf d e v p a1 a2 q1,Qo hf b1 b2 q2];rfl
 |[],_::_,_,b,r1,r2,h=>by
  have l1:=r1.length;have l2:=r2.length;rw[l1]at l2;simp at l2
 |_::_,[],_,b,r1,r2,h=>by
  have l1:=r1.length;have l2:=r2.length;rw[l1]at l2;simp at l2
def Rep.sc{x y:D}{v:V}(r1:Rep Z H x v)(r2:Rep Z H y v)(h:∀a,v≠.ref a):x=y:=by
 cases x<;>cases y<;>unfold Rep at r1 r2<;>subst_vars<;>first
  |rfl
  |(cases r2;rfl)
  |(cases r1;rfl)
  |(obtain⟨a,z,_⟩:=r1;exact T7 z<|h a)
  |(obtain⟨a,z,_⟩:=r2;exact T7 z<|h a)
  |(obtain⟨a,_,z,_⟩:=r1;exact T7 z<|h a)
  |(obtain⟨a,_,z,_⟩:=r2;exact T7 z<|h a)
  |cases r1
  |cases r2
def ZaV{k:Nat}{x:D}{v:V}{b:Bool}(r:Rep Z H x v)(hv:∀a,v≠.ref a)(h:Pv.eqV (k+1) x x=aa b):b=al:=by
 cases x<;>first
  |exact(aq h).symm
  |(rw[<-aq h];exact T5 rfl)
  |exact Ev.nos h
  |(obtain⟨a,_,z,_⟩:=r.tup';exact T7 z<|hv a)
  |(obtain⟨a,_,z,_⟩:=r.lst';exact T7 z<|hv a)
theorem Rep.ref{x:D}{p:aD}(r:Rep Z H x (.ref p)){y:D}{k:Nat}{b:Bool}(h:Pv.eqV (k+1) x y=aa b\/Pv.eqV (k+1) y x=aa b):(∃ds es,x=.tup ds/\y=.tup es)\/∃ds es,x=.lst ds/\y=.lst es:=by
 cases x with
 |tup ds=>cases y<;>first|exact .inl #[_,_,rfl,rfl]|(rcases h with h|h<;>exact Ev.nos h)
 |lst ds=>cases y<;>first|exact .inr #[_,_,rfl,rfl]|(rcases h with h|h<;>exact Ev.nos h)
 |non=>cases r.non'
 |bl _=>cases r.bl'
 |int _=>cases r.int'
 |str _=>cases r.str'
 |_=>cases y<;>rcases h with h|h<;>exact Ev.nos h
theorem Vb:∀(k:Nat)(x y:D)(v:V)(b:Bool),Rep Z H x v->Rep Z H y v->Pv.eqV k x y=aa b->b=al
 |0,_,_,_,_,_,_,h=>by cases h
 |k+1,x,y,v,b,r1,r2,h=>by
  by_cases hv:∃a,v=.ref a
  .obtain⟨p,rfl⟩:=hv
   rcases r1.ref (.inl h)with⟨ds,es,rfl,rfl⟩|⟨ds,es,rfl,rfl⟩
   .obtain⟨_,_,z,e1,q1⟩:=r1.tup'
    cases z;obtain⟨_,_,z,e2,q2⟩:=r2.tup';cases z;rw[e1]at e2;cases e2;exact Qo (λx y v b=>Vb k x y v b) q1 q2 h
   .obtain⟨_,_,z,e1,_,q1⟩:=r1.lst'
    cases z;obtain⟨_,_,z,e2,_,q2⟩:=r2.lst';cases z;rw[e1]at e2;cases e2;have h:(if ds.length=es.length then Pv.Yt (Pv.eqV k) ds es else aa aj)=aa b:=h
    rw[T9<|by rw[<-q1.length,q2.length]]at h
    exact Qo (λx y v b=>Vb k x y v b) q1 q2 h
  .have hv:=λa z=>hv #[a,z]
   cases r1.sc r2 hv;exact ZaV r1 hv h
noncomputable def eAt(f:D->D->Option Bool)(ds es:List D)(j:Nat):Bool:=match ds[j]?,es[j]? with
 |some x,aa y=>(f x y).getD aj
 |_,_=>aj
theorem Xf{f:D->D->Option Bool}:∀{ds es:List D}{b:Bool},Pv.Yt f ds es=aa b->
  ((aP<|rO ds.length es.length).all (eAt f ds es)&&ds.length == es.length)=b/\∀j x y,ds[j]?=aa x->es[j]?=aa y->f x y=aa (eAt f ds es j)
 |[],[],b,h=>#[aq h,λj x y e=>by simp at e]
 |[],_::es,b,h=>#[by rw[<-aq h];simp,λj x y e=>by simp at e]
 |_::ds,[],b,h=>#[by rw[<-aq h];simp,λj x y _ e=>by simp at e]
 |d::ds,e::es,b,h=>by
  unfold Pv.Yt at h;cases q1:f d e with
  |none=>rw[q1]at h;cases h
  |some p=>
   cases q2:Pv.Yt f ds es with
   |none=>rw[q1,q2]at h;cases h
   |some q=>
    rw[q1,q2]at h;obtain⟨ih,ih2⟩:=Xf q2;have h':=aq h;have e0:eAt f (d::ds) (e::es) 0=p:=by simp[eAt,q1]
    have es':∀j,eAt f (d::ds) (e::es) (j+1)=eAt f ds es j:=λj=>by simp[eAt]
    refine#[?_,λj x y hx hy=>?_]
    .rw[<-h',<-ih,aQ,aQ,Nat.succ_min_succ,gZ,kR,e0,List.all_map]
     have:((aP<|rO ds.length es.length).all<|eAt f (d::ds) (e::es)∘pL)=(aP<|rO ds.length es.length).all (eAt f ds es):=by
      exact congrArg (λg=>(aP<|rO ds.length es.length).all g)<|funext λj=>es' j
     rw[this,Bool.and_assoc]
     congr 2
     simp
    .cases j with
     |zero=>
      simp at hx hy;subst hx hy;rw[e0];exact q1
     |succ j=>
      rw[es' j];exact ih2 j x y (by simpa using hx) (by simpa using hy)
def Ws{A:bU}{k:Nat}(h:A.units+(k+1)<d4):A.in1.units+k<d4:=by
 have e:A.in1.units<=A.units+1:=by
  first|exact aF _|(simp[bU.in1,bU.units]<;>lia)
 lia
theorem xD(I:Inv X pq O H s):∀(k:Nat)(A:bU)(x y:D)(v u:V)(vv uu:au)(b:Bool),A.units+k<d4->Rep Z H x v->Rep Z H y u->Zy v vv->Zy u uu->Pv.eqV k x y=aa b->kc A s vv uu b
 |0,_,_,_,_,_,_,_,_,_,_,_,_,_,h=>by cases h
 |k+1,A,x,y,v,u,vv,uu,b,hu,r1,r2,e1,e2,h=>by
  have flat:wa v=al->wa u=al->eqV v u=b->kc A s vv uu b:=λf1 f2 e=>by rw[<-e];exact ZeN e1 e2 f1 f2
  have bb:∀{a c:Bool},(a == c)=ai (a=c):=λ{a c}=>by cases a<;>cases c<;>rfl
  have ii:∀{a c:Int},(a == c)=ai (a=c):=λ{a c}=>by rw[cR];simp
  have ss:∀{a c:bn},(a == c)=ai (a=c):=λ{a c}=>by rw[cR];simp
  have item:∀{ds es:List D}{xs ys:List V}(j:Nat)(its its2:List au)(j1:j<its.toArray.size)(j2:j<its2.toArray.size),its.toArray.size=ds.length->its2.toArray.size=es.length->Vals xs its->Vals ys its2->Rq Z H ds xs->Rq Z H es ys->(∀j x y,ds[j]?=aa x->es[j]?=aa y->Pv.eqV k x y=aa (eAt (Pv.eqV k) ds es j))->kc A.in1 s its.toArray[j] its2.toArray[j] (eAt (Pv.eqV k) ds es j):=λ{ds es xs ys} j its its2 j1 j2 n1 n2 v1 v2 q1 q2 ea=>by
   have d1:ds[j]?=aa ds[j]:=af #[0]
   have d2:es[j]?=aa es[j]:=af #[0]
   obtain⟨w1,g1,z1⟩:=q1.get d1;obtain⟨w2,g2,z2⟩:=q2.get d2;obtain⟨m1,k1,y1⟩:=v1.get g1;obtain⟨m2,k2,y2⟩:=v2.get g2;have o1:its.toArray[j]=m1:=by simpa using(aK.mp k1).2
   have o2:its2.toArray[j]=m2:=by simpa using(aK.mp k2).2
   rw[o1,o2];exact xD I k A.in1 ds[j] es[j] w1 w2 m1 m2 _ (Ws hu) z1 z2 y1 y2<|ea j _ _ d1 d2
  cases x with
  |non=>
   cases r1.non';cases y with|non=>cases r2.non';exact flat rfl rfl<|aq h|bl _=>cases r2.bl';exact flat rfl rfl<|aq h|int _=>cases r2.int';exact flat rfl rfl<|aq h|str _=>cases r2.str';exact flat rfl rfl<|aq h|_=>exact Ev.nos h
  |bl i=>
   cases r1.bl';cases y with|non=>cases r2.non';exact flat rfl rfl<|aq h|bl _=>cases r2.bl';exact flat rfl rfl<|bb.trans<|aq h|int _=>cases r2.int';exact flat rfl rfl<|ii.trans<|aq h|str _=>cases r2.str';exact flat rfl rfl<|aq h|_=>exact Ev.nos h
  |int i=>
   cases r1.int';cases y with|non=>cases r2.non';exact flat rfl rfl<|aq h|bl _=>cases r2.bl';exact flat rfl rfl<|ii.trans<|aq h|int _=>cases r2.int';exact flat rfl rfl<|ii.trans<|aq h|str _=>cases r2.str';exact flat rfl rfl<|aq h|_=>exact Ev.nos h
  |str i=>
   cases r1.str';cases y with|non=>cases r2.non';exact flat rfl rfl<|aq h|bl _=>cases r2.bl';exact flat rfl rfl<|aq h|int _=>cases r2.int';exact flat rfl rfl<|aq h|str _=>cases r2.str';exact flat rfl rfl<|ss.trans<|aq h|_=>exact Ev.nos h
  |tup ds=>
   obtain⟨p,xs,rfl,hp,q1⟩:=r1.tup';cases e1;cases y with
   |tup es=>
    obtain⟨p',ys,rfl,hp',q2⟩:=r2.tup';cases e2;by_cases hpp:p=p'
    .subst hpp
     rw[Vb (k+1) (.tup ds) (.tup es) (.ref p) b r1 r2 h];exact l4 _
    .obtain⟨its,v1,t1,_⟩:=I.tuple (SqT.of hp)
     obtain⟨its2,v2,t2,_⟩:=I.tuple<|SqT.of hp';have h':=h;obtain⟨ev,ea⟩:=Xf h';have n1:its.toArray.size=ds.length:=by rw[aC,<-v1.length,q1.length]
     have n2:its2.toArray.size=es.length:=by rw[aC,<-v2.length,q2.length]
     refine nF hpp ?_;rw[<-ev,<-n1,<-n2];exact ot t1 t2 #[0] λj j1 j2=>item j its its2 j1 j2 n1 n2 v1 v2 q1 q2 ea
   |_=>exact Ev.nos h
  |lst ds=>
   obtain⟨p,xs,rfl,u1,_,q1⟩:=r1.lst';cases e1;cases y with
   |lst es=>
    obtain⟨p',ys,rfl,u2,_,q2⟩:=r2.lst';cases e2;by_cases hpp:p=p'
    .subst hpp
     rw[Vb (k+1) (.lst ds) (.lst es) (.ref p) b r1 r2 h];exact l4 _
    .obtain⟨its,v1,p1,_⟩:=I.list (SqL.of u1)
     obtain⟨its2,v2,p2,_⟩:=I.list<|SqL.of u2;have n1:its.toArray.size=ds.length:=by rw[aC,<-v1.length,q1.length]
     have n2:its2.toArray.size=es.length:=by rw[aC,<-v2.length,q2.length]
     refine nF hpp ?_;have h2:(if ds.length=es.length then Pv.Yt (Pv.eqV k) ds es else aa aj)=aa b:=h
     by_cases hl:ds.length=es.length
     .rw[T9 hl]at h2
      obtain⟨ev,ea⟩:=Xf h2;have ev':(aP ds.length).all (eAt (Pv.eqV k) ds es)=b:=by
       rw[<-ev,<-hl,ou];simp
      rw[<-ev',<-n1];exact oQ p1.isList p2.isList #[0] #[0] λj j1 j2=>item j its its2 j1 j2 n1 n2 v1 v2 q1 q2 ea
     .rw[T8 hl]at h2
      rw[<-aq h2];exact kS p1.isList p2.isList (bne_iff_ne.mpr<|by lia) #[0]
   |_=>exact Ev.nos h
  |_=>exact Ev.nos h
def W6(I:Inv X pq O H s){k:Nat}{A:bU}{ds es:List D}{xs ys:List V}{its its2:List au}{b:Bool}(hu:A.units+(k+1)<d4)
  (q1:Rq Z H ds xs)(q2:Rq Z H es ys)(v1:Vals xs its)(v2:Vals ys its2)(h:Pv.Yt (Pv.eqV k) ds es=aa b) :
  ∀j (h1:j<its.toArray.size) (h2:j<its2.toArray.size),kc A.in1 s its.toArray[j] its2.toArray[j] (eAt (Pv.eqV k) ds es j):=λj j1 j2=>by
 obtain⟨_,ea⟩:=Xf h;have n1:its.toArray.size=ds.length:=by rw[aC,<-v1.length,q1.length]
 have n2:its2.toArray.size=es.length:=by rw[aC,<-v2.length,q2.length]
 have d1:ds[j]?=aa ds[j]:=af #[0]
 have d2:es[j]?=aa es[j]:=af #[0]
 obtain⟨w1,g1,z1⟩:=q1.get d1;obtain⟨w2,g2,z2⟩:=q2.get d2;obtain⟨m1,k1,y1⟩:=v1.get g1;obtain⟨m2,k2,y2⟩:=v2.get g2;have o1:its.toArray[j]=m1:=by
  have:=aK.mp k1
  simpa using this.2
 have o2:its2.toArray[j]=m2:=by
  have:=aK.mp k2
  simpa using this.2
 rw[o1,o2];exact xD I k A.in1 ds[j] es[j] w1 w2 m1 m2 _ (Ws hu) z1 z2 y1 y2<|ea j _ _ d1 d2
def Zc3(K:ao)(xw:Nat->Hp->Prop)(op:Cop):R2:=λv u H Q=>∃Z S x y,St3 K Z S H/\Rep Z H x v/\Rep Z H y u/\End K xw Rep Z H Q (Pv.po (Pv.Y4 op x y) S)
def ZeD :∀O H Q,tE X xw (Pv.pv C<|.cmp op i j) O H Q->tOp (Zc3 X.K xw op) (tE X xw<|Pv.pv C i) (tE X xw<|Pv.pv C j) O H Q:=λO H Q h=>
 X3 (λ{Z H S x y v u Q} st rx ry h=>#[Z,S,x,y,st,rx,ry,h]) O H Q h
def dI{a c:Int}:(a == c)=ai (a=c):=by rw[cR];simp
def wz{H:Hp}{Z:Mx}{k:Nat}{x y:D}{v u:V}{b:Bool}(rx:Rep Z H x v)(ry:Rep Z H y u)(hb:Pv.eqV (k+1) x y=aa b):(scal v u=al/\ai (v=u)=b)\/(∃i j,v=.bl i/\u=.int j/\ai (Ev.b2i i=j)=b)\/(∃i j,v=.int i/\u=.bl j/\ai (i=Ev.b2i j)=b)\/(∃ds es,x=.tup ds/\y=.tup es/\Pv.Yt (Pv.eqV k) ds es=aa b)\/∃ds es,x=.lst ds/\y=.lst es/\(if ds.length=es.length then Pv.Yt (Pv.eqV k) ds es else aa aj)=aa b:=by
 cases x with
 |non=>cases rx.non';cases y with|non=>cases ry.non';exact .inl #[rfl,aq hb▸by simp]|bl _=>cases ry.bl';exact .inl #[rfl,aq hb]|int _=>cases ry.int';exact .inl #[rfl,aq hb]|str _=>cases ry.str';exact .inl #[rfl,aq hb]|_=>exact Ev.nos hb
 |bl i=>cases rx.bl';cases y with|non=>cases ry.non';exact .inl #[rfl,aq hb]|bl j=>cases ry.bl';exact .inl #[rfl,aq hb▸by simp]|int j=>cases ry.int';exact .inr<|.inl #[i,j,rfl,rfl,aq hb]|str _=>cases ry.str';exact .inl #[rfl,aq hb]|_=>exact Ev.nos hb
 |int i=>cases rx.int';cases y with|non=>cases ry.non';exact .inl #[rfl,aq hb]|bl j=>cases ry.bl';exact .inr<|.inr<|.inl #[i,j,rfl,rfl,aq hb]|int _=>cases ry.int';exact .inl #[rfl,aq hb▸by simp]|str _=>cases ry.str';exact .inl #[rfl,aq hb]|_=>exact Ev.nos hb
 |str i=>cases rx.str';cases y with|non=>cases ry.non';exact .inl #[rfl,aq hb]|bl _=>cases ry.bl';exact .inl #[rfl,aq hb]|int _=>cases ry.int';exact .inl #[rfl,aq hb]|str _=>cases ry.str';exact .inl #[rfl,aq hb▸by simp]|_=>exact Ev.nos hb
 |tup ds=>cases y with|tup es=>exact .inr<|.inr<|.inr<|.inl #[ds,es,rfl,rfl,hb]|_=>exact Ev.nos hb
 |lst ds=>cases y with|lst es=>exact .inr<|.inr<|.inr<|.inr #[ds,es,rfl,rfl,hb]|_=>exact Ev.nos hb
 |_=>exact Ev.nos hb
def ZeE(hu:X.A.units+6<d4):OpR X (du .Eq) (Zc3 X.K xw .eq):=by
 intro pq s O H v u vv uu Q I e1 e2 h;obtain⟨Z,S,x,y,st,rx,ry,h⟩:=h;obtain⟨b,hb,h1⟩:=End.map h;have q:=End.ok h1 st<|Yj b;rcases wz rx ry hb with⟨hs,e⟩|⟨i,j,rfl,rfl,e⟩|⟨i,j,rfl,rfl,e⟩|⟨ds,es,rfl,rfl,hb'⟩|⟨ds,es,rfl,rfl,h2⟩
 .exact Zgy pq s O H v u vv uu Q I e1 e2 #[hs,by rw[e];exact q]
 .cases e1
  obtain⟨t,rfl⟩:=e2;refine EqBoolInt.eq_bool_int #[.bl b,H,I,?_,q];show bB ((if i then 1 else 0) == j)=bB b
  rw[dI];exact congrArg bB e
 .cases e2
  obtain⟨t,rfl⟩:=e1;refine EqBoolInt.eq_int_bool #[.bl b,H,I,?_,q];show bB (i == (if j then 1 else 0))=bB b
  rw[dI];exact congrArg bB e
 ·
  obtain⟨p,xs,rfl,hp,q1⟩:=rx.tup';cases e1;obtain⟨p',ys,rfl,hp',q2⟩:=ry.tup';cases e2;obtain⟨its,v1,t1,_⟩:=I.tuple<|SqT.of hp;obtain⟨its2,v2,t2,_⟩:=I.tuple<|SqT.of hp';obtain⟨ev,_⟩:=Xf hb';have n1:its.toArray.size=ds.length:=by rw[aC,<-v1.length,q1.length]
  have n2:its2.toArray.size=es.length:=by rw[aC,<-v2.length,q2.length]
  refine ot t1 t2 #[0] (W6 I hu q1 q2 v1 v2 hb') X.prog X.w X.xe _ ?_
  rw[n1,n2,ev];exact#[.bl b,H,I,rfl,q]
 ·
  obtain⟨p,xs,rfl,u1,_,q1⟩:=rx.lst';cases e1;obtain⟨p',ys,rfl,u2,_,q2⟩:=ry.lst';cases e2;obtain⟨its,v1,p1,_⟩:=I.list<|SqL.of u1;obtain⟨its2,v2,p2,_⟩:=I.list<|SqL.of u2;have n1:its.toArray.size=ds.length:=by rw[aC,<-v1.length,q1.length]
  have n2:its2.toArray.size=es.length:=by rw[aC,<-v2.length,q2.length]
  by_cases hl:ds.length=es.length
  .rw[T9 hl]at h2
   obtain⟨ev,_⟩:=Xf h2;have ev':(aP ds.length).all (eAt (Pv.eqV 5) ds es)=b:=by
    rw[<-ev,<-hl,ou];simp
   refine oQ p1.isList p2.isList #[0] #[0] (W6 I hu q1 q2 v1 v2 h2) X.prog X.w X.xe _ ?_
   rw[n1,ev'];exact#[.bl b,H,I,rfl,q]
  .rw[T8 hl]at h2
   refine kS p1.isList p2.isList (bne_iff_ne.mpr<|by lia) #[0] X.prog X.w X.xe _ ?_
   exact#[.bl b,H,I,congrArg bB<|aq h2,q]
def ZfX(hu:X.A.units+6<d4):OpR X (du .NotEq) (Zc3 X.K xw .ne):=by
 intro pq s O H v u vv uu Q I e1 e2 h;obtain⟨Z,S,x,y,st,rx,ry,h⟩:=h;obtain⟨b,hb,h1⟩:=End.map h;have q:=End.ok h1 st<|Yj _;rcases wz rx ry hb with⟨hs,e⟩|⟨i,j,rfl,rfl,e⟩|⟨i,j,rfl,rfl,e⟩|⟨ds,es,rfl,rfl,hb'⟩|⟨ds,es,rfl,rfl,h2⟩
 .exact Zg0 pq s O H v u vv uu Q I e1 e2 #[hs,by rw[e];exact q]
 .cases e1
  obtain⟨t,rfl⟩:=e2;refine EqBoolInt.ne_bool_int #[.bl !b,H,I,?_,q];show bB (!((if i then 1 else 0) == j))=bB !b
  rw[dI];exact congrArg (λz=>bB !z) e
 .cases e2
  obtain⟨t,rfl⟩:=e1;refine EqBoolInt.ne_int_bool #[.bl !b,H,I,?_,q];show bB (!(i == (if j then 1 else 0)))=bB !b
  rw[dI];exact congrArg (λz=>bB !z) e
 ·
  obtain⟨p,xs,rfl,hp,q1⟩:=rx.tup';cases e1;obtain⟨p',ys,rfl,hp',q2⟩:=ry.tup';cases e2;obtain⟨its,v1,t1,_⟩:=I.tuple<|SqT.of hp;obtain⟨its2,v2,t2,_⟩:=I.tuple<|SqT.of hp';obtain⟨ev,_⟩:=Xf hb';have n1:its.toArray.size=ds.length:=by rw[aC,<-v1.length,q1.length]
  have n2:its2.toArray.size=es.length:=by rw[aC,<-v2.length,q2.length]
  refine SeqAt.RcNeAt.tuples t1 t2 #[0] (W6 I hu q1 q2 v1 v2 hb') X.prog X.w X.xe _ ?_
  rw[n1,n2,ev];exact#[.bl !b,H,I,rfl,q]
 ·
  obtain⟨p,xs,rfl,u1,_,q1⟩:=rx.lst';cases e1;obtain⟨p',ys,rfl,u2,_,q2⟩:=ry.lst';cases e2;obtain⟨its,v1,p1,_⟩:=I.list<|SqL.of u1;obtain⟨its2,v2,p2,_⟩:=I.list<|SqL.of u2;have n1:its.toArray.size=ds.length:=by rw[aC,<-v1.length,q1.length]
  have n2:its2.toArray.size=es.length:=by rw[aC,<-v2.length,q2.length]
  by_cases hl:ds.length=es.length
  .rw[T9 hl]at h2
   obtain⟨ev,_⟩:=Xf h2;have ev':(aP ds.length).all (eAt (Pv.eqV 5) ds es)=b:=by
    rw[<-ev,<-hl,ou];simp
   refine SeqAt.RcNeAt.lists p1.isList p2.isList #[0] #[0] (W6 I hu q1 q2 v1 v2 h2) X.prog X.w X.xe _ ?_
   rw[n1,ev'];exact#[.bl !b,H,I,rfl,q]
  .rw[T8 hl]at h2
   refine SeqAt.RcNeAt.lists_lengths p1.isList p2.isList (bne_iff_ne.mpr<|by lia) #[0] X.prog X.w X.xe _ ?_
   exact#[.bl !b,H,I,congrArg (λz=>bB !z)<|aq h2,q]
theorem GS(hf:∀x x' y v b b',Rep Z H x v->Rep Z H x' v->f x y=aa b->f x' y=aa b'->b=b') :
  ∀{ds ds' es:List D}{xs:List V}{b b':Bool},Rq Z H ds xs->Rq Z H ds' xs->Pv.Yt f ds es=aa b->Pv.Yt f ds' es=aa b'->b=b'
 |[],[],[],_,b,b',_,_,h,h'=>(aq h).symm.trans<|aq h'
 |[],[],_::_,_,b,b',_,_,h,h'=>(aq h).symm.trans<|aq h'
 |_::_,_::_,[],_,b,b',_,_,h,h'=>(aq h).symm.trans<|aq h'
 |d::ds,d'::ds',e::es,_,b,b',r1,r2,h,h'=>by
  obtain⟨v,vs,rfl,a1,b1⟩:=r1;obtain⟨v',vs',e',a2,b2⟩:=r2;cases e';unfold Pv.Yt at h h';cases q1:f d e with
  |none=>rw[q1]at h;cases h
  |some p=>
   cases q2:Pv.Yt f ds es with
   |none=>rw[q1,q2]at h;cases h
   |some q=>
    cases q3:f d' e with
    |none=>rw[q3]at h';cases h'
    |some p'=>
     cases q4:Pv.Yt f ds' es with
     |none=>rw[q3,q4]at h';cases h'
     |some q'=>
      rw[q1,q2]at h;rw[q3,q4]at h';have z1:=aq h;have z2:=aq h';rw[<-z1,<-z2,hf d d' e v p p' a1 a2 q1 q3,GS hf b1 b2 q2 q4]
 |[],_::_,_,_,b,b',r1,r2,_,_=>by
  have l1:=r1.length;have l2:=r2.length;rw[l1]at l2;simp at l2
 |_::_,[],_,_,b,b',r1,r2,_,_=>by
  have l1:=r1.length;have l2:=r2.length;rw[l1]at l2;simp at l2
theorem JT:∀(k:Nat)(x x' y:D)(v:V)(b b':Bool),Rep Z H x v->Rep Z H x' v->Pv.eqV k x y=aa b->Pv.eqV k x' y=aa b'->b=b'
 |0,_,_,_,_,_,_,_,_,h,_=>by cases h
 |k+1,x,x',y,v,b,b',r1,r2,h,h'=>by
  by_cases hv:∃a,v=.ref a
  .obtain⟨p,rfl⟩:=hv
   rcases r1.ref (.inl h)with⟨ds,es,rfl,rfl⟩|⟨ds,es,rfl,rfl⟩<;>rcases r2.ref (.inl h')with⟨ds',es',rfl,z⟩|⟨ds',es',rfl,z⟩<;>cases z
   .obtain⟨_,_,z,e1,q1⟩:=r1.tup'
    cases z;obtain⟨_,_,z,e2,q2⟩:=r2.tup';cases z;rw[e1]at e2;cases e2;exact GS (λx x' y v b b'=>JT k x x' y v b b') q1 q2 h h'
   .obtain⟨_,_,z,e1,_,q1⟩:=r1.lst'
    cases z;obtain⟨_,_,z,e2,_,q2⟩:=r2.lst';cases z;rw[e1]at e2;cases e2;have l:ds'.length=ds.length:=by rw[<-q1.length,q2.length]
    have h:(if ds.length=es.length then Pv.Yt (Pv.eqV k) ds es else aa aj)=aa b:=h
    have h':(if ds'.length=es.length then Pv.Yt (Pv.eqV k) ds' es else aa aj)=aa b':=h'
    rw[l]at h';by_cases c:ds.length=es.length
    .rw[T9 c]at h h'
     exact GS (λx x' y v b b'=>JT k x x' y v b b') q1 q2 h h'
    .rw[T8 c]at h h'
     exact aq<|h.symm.trans h'
  .cases r1.sc r2 λa z=>hv #[a,z]
   exact aq<|h.symm.trans h'
theorem GL :∀{ds:List D}{b:Bool},Pv.Wz x ds=aa b->∀d∈ds,∃c,Pv.eqV Ev.ZA d x=aa c
 |[],_,_,d,hd=>by cases hd
 |y::ys,b,h,d,hd=>by
  unfold Pv.Wz at h;cases q1:Pv.eqV Ev.ZA y x with
  |none=>rw[q1]at h;cases h
  |some p=>
   cases q2:Pv.Wz x ys with
   |none=>rw[q1,q2]at h;cases h
   |some q=>
    rcases az.mp hd with rfl|hd
    .exact#[p,q1]
    .exact GL q2 d hd
theorem wn :∀{ds:List D}{b:Bool},Pv.Wz x ds=aa b->(ds.any λd=>(Pv.eqV Ev.ZA d x).getD aj)=b
 |[],_,h=>aq h
 |y::ys,b,h=>by
  unfold Pv.Wz at h;cases q1:Pv.eqV Ev.ZA y x with
  |none=>rw[q1]at h;cases h
  |some p=>
   cases q2:Pv.Wz x ys with
   |none=>rw[q1,q2]at h;cases h
   |some q=>
    rw[q1,q2]at h;rw[fB,wn q2,q1,<-aq h];rfl
open Classical in
def z8(I:Inv X pq O H s)(hu:A.units+6<d4)(rx:Rep Z H x v)(ex:Zy v vv)
  (q:Rq Z H ds xs)(vs:Vals xs its)(h:Pv.Wz x ds=aa b):∃e:au->Bool,(∀u,u∈its.toArray->kc A s u vv (e u))/\its.toArray.any e=b:=by
 refine#[λu=>ai (∃d∈ds,∃w,Rep Z H d w/\Zy w u/\Pv.eqV Ev.ZA d x=aa al),λu hu'=>?_,?_]
 .have hu2:u∈its:=by simpa using hu'
  obtain⟨j,hj,e⟩:=cE hu2;have hl:j<ds.length:=by rw[<-q.length,vs.length];exact hj
  obtain⟨w,g,r⟩:=q.get<|af hl;obtain⟨u',g',r'⟩:=vs.get g;have eu:u'=u:=by
   rw[af hj]at g';exact(aq g').symm.trans e
  subst eu;obtain⟨c,hc⟩:=GL h ds[j]<|aY hl;have ec:ai (∃d∈ds,∃w,Rep Z H d w/\Zy w u'/\Pv.eqV Ev.ZA d x=aa al)=c:=by
   cases c with
   |true=>exact T5 #[ds[j],aY hl,w,r,r',hc]
   |false=>
    refine T4 ?_
    rintro ⟨d,hd,w',a1,a2,a3⟩
    cases a2.inj r';exact T7 (JT 6 d ds[j] x w al aj a1 r a3 hc) #[1]
  dsimp only
  rw[ec];exact xD I 6 A ds[j] x w v u' vv c hu r rx r' ex hc
 .rw[<-wn h,List.any_toArray,cR,lg,lg]
  constructor
  .rintro ⟨u,hu1,h1⟩
   obtain⟨d,hd,w,a1,a2,a3⟩:=T6 h1;exact#[d,hd,by rw[a3];rfl]
  .rintro ⟨d,hd,h1⟩
   obtain⟨j,hj,e⟩:=cE hd;subst e;obtain⟨w,g,r⟩:=q.get<|af hj;obtain⟨u,g',r'⟩:=vs.get g;refine#[u,cM g',T5 #[ds[j],hd,w,r,r',?_]];obtain⟨c,hc⟩:=GL h ds[j] hd;rw[hc]at h1 ⊢;exact congrArg aa h1
section
variable{X:Cx}{xw:Nat->Hp->Prop}{C:Calls}{e a b c:Expr}{i j k:E}{pos p p':fD}
def ZbO(hu:X.A.units+7<d4):OpR X (du .NotIn) (λv u H Q=>∃Z S x ds b,St3 X.K Z S H/\Rep Z H x v/\(Rep Z H (.tup ds) u\/Rep Z H (.lst ds) u)/\Pv.Wz x ds=aa b/\Q (.bl !b) H):=by
 intro pq s O H v u vv uu Q I e1 e2 h;obtain⟨Z,S,x,ds,b,st,rx,ry,hb,q⟩:=h;rcases ry with ry|ry
 .obtain⟨p,xs,rfl,hp,q1⟩:=ry.tup'
  cases e2;obtain⟨its,v1,t1,_⟩:=I.tuple<|SqT.of hp;obtain⟨f,h1,h2⟩:=z8 I (Ws hu) rx e1 q1 v1 hb;exact SeqAt.notIn_tupleAt f t1 h1 (by rw[h2];exact#[.bl !b,H,I,rfl,q])
 .obtain⟨p,xs,rfl,hx,_,q1⟩:=ry.lst'
  cases e2;obtain⟨its,v1,t1,_⟩:=I.list<|SqL.of hx;obtain⟨f,h1,h2⟩:=z8 I (Ws hu) rx e1 q1 v1 hb;exact SeqAt.notIn_listAt f t1.isList h1 (by rw[h2];exact#[.bl !b,H,I,rfl,q])
variable{Z:Mx}{H:Hp}{S:Zv}{x y:D}{v u:V}{Q:VK}{K:ao}
def Zc5(h:Pv.int2 x y=aa z):x=.int z.1/\y=.int z.2:=by
 cases x<;>first|exact Ev.nos h|(cases y<;>first|exact Ev.nos h|(cases h;exact#[rfl,rfl]))
def JJ{f:Int×Int->Bool}(st:St3 K Z S H)(rx:Rep Z H x v)(ry:Rep Z H y u)(h:End K xw Rep Z H Q (Pv.po ((Pv.int2 x y).map λz=>.bl<|f z) S)):rI0 (λi j=>.bl<|f (i,j)) v u H Q:=by
 obtain⟨z,hz,h⟩:=End.map h;obtain⟨rfl,rfl⟩:=Zc5 hz;exact#[_,_,rx.int',ry.int',End.ok h st<|Yj _]
end
section
variable{X:Cx}{xw:Nat->Hp->Prop}{C:Calls}{e a b c:Expr}{i j k:E}{pos p p':fD}
def XV{B β γ:Type}(r:R B)(f:B->Zv->R β)(g:β->Zv->R γ):(r.bind f).bind g=r.bind λa S=>(f a S).bind g:=by cases r<;>rfl
def Zfk{B:Type}{o:Option B}{f:B->Bool}{z:D}(h:o.map (λa=>Pv.V.bl<|f a)=aa z):∃b,z=.bl b:=by
 obtain⟨a,_,rfl⟩:=bY.mp h;exact#[_,rfl]
def Zbj{o:Cop}{x y:D}{S S':Zv}{z:D}(h:Pv.po (Pv.Y4 o x y) S=.ok z S'):∃b,z=.bl b:=by
 have h:Pv.Y4 o x y=aa z:=by
  cases q:Pv.Y4 o x y<;>rw[q]at h<;>cases h;rfl
 cases o<;>exact Zfk h
def XJ(X:Cx)(xw:Nat->Hp->Prop)(op:rJ)(o:Cop):Prop:=OpR X (du op)<|Zc3 X.K xw o
def OpR.imp(h:OpR X f r)(k:∀v u H Q,r' v u H Q->r v u H Q):OpR X f r':=λpq s O H x y v u Q I e1 e2 q=>h pq s O H x y v u Q I e1 e2<|k x y H Q q
theorem Zbm(hu:X.A.units+7<d4):XJ X xw .Eq .eq:=ZeE #[0]
theorem jO(hu:X.A.units+7<d4):XJ X xw .NotEq .ne:=ZfX #[0]
def Jg(hu:X.A.units+7<d4):XJ X xw .LtE .le:=OpR.imp Zhk<|by rintro v u H Q ⟨Z,S,x,y,st,rx,ry,h⟩;exact JJ st rx ry h
def u9(hu:X.A.units+7<d4):XJ X xw .Gt .gt:=OpR.imp Zhg<|by rintro v u H Q ⟨Z,S,x,y,st,rx,ry,h⟩;exact JJ st rx ry h
def qF(hu:X.A.units+7<d4):XJ X xw .GtE .ge:=OpR.imp Zg3<|by rintro v u H Q ⟨Z,S,x,y,st,rx,ry,h⟩;exact JJ st rx ry h
def Zf2{Z:Mx}{H:Hp}{x y:D}{v u:V}{b:Bool}(rx:Rep Z H x v)(ry:Rep Z H y u)(h:Pv.isV x y=aa b):(u=.non/\ai (v=.non)=b)\/∃i j,v=.bl i/\u=.bl j/\ai (i=j)=b:=by
 cases y with
 |non=>
  refine .inl #[ry.non',?_];rw[<-aq h];cases x<;>unfold Rep at rx<;>first
   |(subst rx;rfl)
   |(obtain⟨_,z,_⟩:=rx;subst z;rfl)
   |(obtain⟨_,_,z,_⟩:=rx;subst z;rfl)
 |bl j=>cases x with|bl i=>exact .inr #[i,j,rx.bl',ry.bl',aq h]|_=>exact Ev.nos h
 |_=>exact Ev.nos h
def Zaw(hu:X.A.units+7<d4):XJ X xw .Is .is:=OpR.imp (ZfI.or ZfU)<|by
 rintro v u H Q ⟨Z,S,x,y,st,rx,ry,h⟩;obtain⟨b,hb,h⟩:=End.map h;have q:=End.ok h st<|Yj b;rcases Zf2 rx ry hb with⟨e,z⟩|⟨i,j,e,e2,z⟩
 .exact .inl #[e,by rw[z];exact q]
 .exact .inr #[i,j,e,e2,by rw[z];exact q]
def jY{Z:Mx}{H:Hp}{x y:D}{u:V}{b:Bool}(ry:Rep Z H y u)(h:Pv.qL x y=aa b) :
  (∃ds,(Rep Z H (.tup ds) u\/Rep Z H (.lst ds) u)/\Pv.Wz x ds=aa b)\/
  (∃(l:List #[14])(k:List D)(ks:List Int),(∃(p:aD)(vs:List (List Key×V)),u=.ref p/\Rd H p (.dT vs)/\vs.map (·.1)=l.map (·.map cT))/\x=.tup k/\Pv.intsV k=aa ks/\l.contains ks=b):=by
 cases y with
 |tup ys=>exact .inl #[ys,.inl ry,h]
 |lst ys=>exact .inl #[ys,.inr ry,h]
 |dct o=>
  cases o with
  |inl _=>exact Ev.nos h
  |inr l=>
   cases x with
   |tup k=>
    obtain⟨ks,e,z⟩:=bY.mp h;obtain⟨p,e1,o,vs,e2,e3⟩:=ry.dct';exact .inr #[l,k,ks,#[p,vs,e1,.inr #[o,e2],e3],rfl,e,z]
   |_=>exact Ev.nos h
 |dow l=>
  cases x with
  |tup k=>
   obtain⟨ks,e,z⟩:=bY.mp h;obtain⟨p,vs,e1,e2,_,e3⟩:=ry.dow';exact .inr #[l,k,ks,#[p,vs,e1,.inl e2,e3],rfl,e,z]
  |_=>exact Ev.nos h
 |_=>exact Ev.nos h
def X0{op:rJ}{o:Cop}(hc:XJ X xw op o)(ha:CE X xw C a i)(hb:CE X xw C b j)(hm:ei op b=aj):CE X xw C (.Compare a [op] [b] pos) (.cmp o i j):=.mk <|
 PE.imp (ZcX hc ha.h hb.h hm) (ZeD)
def Wd{op:rJ}{o:Cop}(hc:XJ X xw op o)(ha:CE X xw C a i)(hb:CE X xw C b j)(hm:ei op b=aj):CT X xw C (.Compare a [op] [b] pos) (.cmp o i j):=.mk <|
 PT.imp (Zdq hc ha.h hb.h hm)<|by
  left;have h':End X.K xw GC Z H Q (((Pv.pv C i l S).bind λx S=>(Pv.pv C j l S).bind λy S=>Pv.po (Pv.Y4 o x y) S).bind λx S=>Pv.po (Pv.Zz x) S):=h
  simp only[XV]at h';refine#[Z,l,S,st,lr,h'.bind λx S1 ρ1 H1 v f1 st1 r1 h1=>#[ρ1,l,S1,st1,lr.mono f1,h1.bind λy S2 ρ2 H2 u f2 st2 r2 h2=>#[ρ2,S2,x,y,st2,r1.mono f2,r2,?_]]]
  have h3:∀{r:R D},(∀z S',r=.ok z S'->∃b,z=.bl b)->End X.K xw GC ρ2 H2 Q (r.bind λx S=>Pv.po (Pv.Zz x) S)->End X.K xw Rep ρ2 H2 (λx H'=>∃k,x=V.bl k/\Q k H') r:=λ{r} hr h=>by
   cases r with
   |no=>exact h
   |ex _ _=>exact h
   |ok z S3=>
    obtain⟨b,rfl⟩:=hr z S3 rfl;exact λρ3 H3 w f3 st3 r3=>#[b,r3.bl',h ρ3 H3 b f3 st3 rfl]
  exact h3 (λz S' e=>Zbj e) h2
def yA{op op':rJ}{o o':Cop}{d:Expr}{k:E}(hc:XJ X xw op o)(hc':XJ X xw op' o')(ha:CE X xw C a i)(hb:CE X xw C b j)(hd:CE X xw C d k)
  (hm:lastMarks [op,op'] [b,d]=aj):CE X xw C (.Compare a [op,op'] [b,d] pos) (.chain o o' i j k):=.mk <|
 PE.imp (qz hc hc' ha.h hb.h hd.h hm)<|by
  left;refine#[Z,l,S,st,lr,End.bind (h) λx S1 ρ1 H1 v f1 st1 r1 h1=>#[ρ1,l,S1,st1,lr.mono f1,h1.bind λy S2 ρ2 H2 u f2 st2 r2 h2=>#[ρ2,S2,x,y,st2,r1.mono f2,r2,h2.bind λz S3 ρ3 H3 w f3 st3 r3 h3=>?_]]]
  cases z with
  |bl n=>
   refine#[n,r3.bl',?_];cases n with|true=>exact#[ρ3,l,S3,st3,((lr.mono f1).mono f2).mono f3,End.bind (h3) λt S4 ρ4 H4 t' f4 st4 r4 h4=>#[ρ4,S4,y,t,st4,(r2.mono f3).mono f4,r4,h4]]|false=>exact End.ok h3 st3<|Yj _
  |_=>exact False.elim h3
end
section
variable{X:Cx}{xw:Nat->Hp->Prop}{C:Calls}{e a b c:Expr}{i j k:E}{pos p p' p2:fD}
variable{Z:Mx}{H:Hp}{S:Zv}{x y:D}{v u:V}{Q:VK}{K:ao}
def Vm{d:D}{ks:List D}{k:List Int}(h:Pv.intsV (d::ks)=aa k):∃n r,d=.int n/\Pv.intsV ks=aa r/\k=n::r:=by
 cases d<;>first|exact Ev.nos h|(obtain⟨r,e,z⟩:=bY.mp h;exact#[_,r,rfl,e,z.symm])
theorem Wk:∀{ks:List D}{k:List Int}{xs:List V},Pv.intsV ks=aa k->Rq Z H ks xs->xs=(k.map (cT:Int->Key)).map kV
 |[],k,xs,h,r=>by cases h;rw[r];rfl
 |d::ks,k,xs,h,r=>by
  obtain⟨v,vs,rfl,a1,b1⟩:=r;obtain⟨n,r,rfl,e,rfl⟩:=Vm h;rw[a1.int',Wk e b1];rfl
theorem GH:∀{k k':List Int},k.map (cT:Int->Key)=k'.map cT->k=k'
 |[],[],_=>rfl
 |[],_::_,h=>by simp at h
 |_::_,[],h=>by simp at h
 |a::k,b::k',h=>by
  rw[aZ,aZ]at h;injection h with h1 h2
  rw[cT.inj h1,GH h2]
def Ja{k:List Int}{l:List #[14]}{vs:List (List Key×V)}(h:vs.map (·.1)=l.map (·.map (cT:Int->Key))):(V1 vs<|k.map cT).isSome=l.contains k:=by
 rw[<-Wb,show(vs.any λkv=>ai<|kv.1=k.map cT)=(vs.map (·.1)).any λy=>ai (y=k.map cT) by rw[List.any_map];rfl,h,List.any_map,List.contains_eq_any_beq]
 congr 1
 funext y
 show ai (y.map cT=k.map cT)=(k == y);by_cases z:y=k
 .subst z;simp
 .rw[T4 λw=>z<|GH w,beq_eq_false_iff_ne.mpr<|Ne.symm z]
theorem Zdw(hu:X.A.units+7<d4):OpR X (du .NotIn) (λv u H Q=>∃a y o,u=.ref a/\v=y/\DGet H a y o/\Q (.bl !o.isSome) H):=by
 intro pq s O H v u vv uu Q I e1 e2 h;obtain⟨a,y,o,rfl,rfl,g,q⟩:=h;cases e2;exact Zcq #[0] I g e1 λs' I'=>#[.bl !o.isSome,H,I',rfl,q]
def xE(hu:X.A.units+7<d4):XJ X xw .NotIn .nin:=OpR.imp ((ZbO hu).or<|Zdw hu)<|by
 rintro v u H Q ⟨Z,S,x,y,st,rx,ry,h⟩;obtain⟨b,hb,h⟩:=End.map h;have q:=End.ok h st<|Yj _;rcases jY ry hb with⟨ds,hy,hb⟩|⟨l,k,ks,hy,rfl,hk,e⟩
 .exact .inl #[Z,S,x,ds,b,st,rx,hy,hb,q]
 .obtain⟨p,vs,rfl,hx,r⟩:=hy
  obtain⟨a,xs,rfl,ha,r2⟩:=rx.tup';refine .inr #[p,.ref a,_,rfl,rfl,.inr #[vs,_,a,hx,rfl,by rw[ha,Wk hk r2],rfl],?_]
  rw[Ja r,e];exact q
def ZfD(r:Rq Z H ds xs)(q:Ev.at' ds n=aa d):∃w,atI xs n=aa w/\Rep Z H d w:=by
 obtain⟨m,q2,q⟩:=cJ.mp q;obtain⟨w,g,rw'⟩:=r.get q;refine#[w,?_,rw'];unfold atI;rw[r.length,show ixN ds.length n=aa m from q2]
 exact g
def Zha(ha:CE X xw C a i)(hb:CE X xw C b j)(hs:wq b):CE X xw C (.Subscript a b pos) (.ix i j):=.mk <| PE.imp (j5 (JM.or ZfF) ha.h hb.h hs) (X3 λ{Z H S x y v u Q} st rx ry h=>by
 obtain⟨d,hd,g0⟩:=End.po h;have k:∃ds n,Pv.YL x=aa ds/\y=.int n/\Ev.at' ds n=aa d:=by
  cases y with
  |int n=>
   cases x with
   |tup ds=>exact#[ds,n,rfl,rfl,hd]
   |lst ds=>exact#[ds,n,rfl,rfl,hd]
   |scr ns=>
    obtain⟨z,e,rfl⟩:=bY.mp hd;obtain⟨m,q2,q⟩:=cJ.mp e;refine#[_,n,rfl,rfl,?_];unfold Ev.at';rw[ay,q2];show(ns.map Pv.V.int)[m]?=_;rw[aJ,q];rfl
   |_=>exact Ev.nos hd
  |_=>cases x<;>exact Ev.nos hd
 obtain⟨ds,n,e,rfl,hn⟩:=k;obtain⟨p,xs,rfl,hp,r⟩:=rx.seq e;obtain⟨w,g,rw'⟩:=ZfD r hn;rw[st.hk]at hp;have q:=End.ok g0 st rw';rcases hp with hp|hp
 .exact .inl #[p,xs,n,w,rfl,ry.int',hp,g,q]
 .exact .inr #[p,xs,n,w,rfl,ry.int',hp,g,q])
def ZcO:CO X xw C ag ag:=.mk <| PO.imp Zde<|by left;exact End.ok h st rfl
def ZcM(h:CE X xw C e i):CO X xw C (aa e) (aa i):=.mk <| PO.imp (Z2 h.h)<|by
 left;refine#[Z,l,S,st,lr,End.bind (h) λx S1 ρ1 H1 v f1 st1 r1 h1=>?_]
 cases x with|int n=>exact#[n,r1.int',End.ok h1 st1 rfl]|_=>exact False.elim h1
def Gm(n d:Nat)(o:Option Int):Ev.sIx n d o=HT.sIx n d o:=by
 cases o with
 |none=>rfl
 |some i=>first|rfl|(rfl)
def wH(r:Rq Z H ds xs)(lo hi:Option Int):Rq Z H (Pv.YF ds lo hi) (YF xs lo hi):=by
 unfold Pv.YF YF;rw[Gm,Gm,r.length];exact(r.drop _).take _
def ZgL{lo hi:Option Expr}{il ih:Option E}(ha:CE X xw C a i)(hl:CO X xw C lo il)(hh:CO X xw C hi ih):CE X xw C (.Subscript a (.Slice lo hi ag p2) pos) (.sl i il ih):=.mk <|
 PE.imp (ZaK (Zf0.or<|jm.or ZcA) ha.h hl.h hh.h)<|by
  left;refine#[Z,l,S,st,lr,End.bind (h) λx S1 ρ1 H1 v f1 st1 r1 h1=>#[ρ1,l,S1,st1,lr.mono f1,h1.bind λy S2 ρ2 H2 u f2 st2 r2 h2=>#[ρ2,l,S2,st2,(lr.mono f1).mono f2,h2.bind λz S3 ρ3 H3 w f3 st3 r3 h3=>?_]]]
  have e1:y=u:=r2;have e2:z=w:=r3;subst e1 e2;have r0:=(r1.mono f2).mono f3;cases x with
  |tup ds=>
   obtain⟨p,xs,rfl,hp,r⟩:=r0.tup';have h':=h3;by_cases hw:HT.sIx xs.length 0 y=0/\HT.sIx xs.length xs.length z=xs.length
   .refine .inr (.inl #[p,xs,rfl,SqT.of hp,hw,End.ok h' st3 ?_])
    have ew:Pv.YF ds y z=ds:=by
     unfold Pv.YF;rw[Gm,Gm,<-r.length,hw.1,hw.2,ki,Nat.sub_zero,r.length,fX]
    rw[ew];exact Xc hp r
   .exact .inl #[p,xs,rfl,SqT.of hp,hw,h'.newT st3<|wH r y z]
  |lst ds=>
   obtain⟨p,xs,rfl,hp,_,r⟩:=r0.lst';exact .inr<|.inr #[p,xs,rfl,SqL.of hp,End.newL (h3) st3<|wH r y z]
  |_=>exact False.elim h3
def Qs(K:ao)(xw:Nat->Hp->Prop)(f:Bf):List V->Hp->VK->Prop:=λvs H Q=>∃Z S ds,St3 K Z S H/\Rq Z H ds vs/\End K xw Rep Z H Q (Pv.po (Pv.Xp f ds) S)
def ZJ.imp{r r':List V->Hp->VK->Prop}(h:ZJ X f r)(k:∀vs H Q,r' vs H Q->r vs H Q):ZJ X f r':=λpq s O H xs us Q I e q=>h pq s O H xs us Q I e<|k xs H Q q
def Za3 :∀O H Q,tE X xw (Pv.pv C<|.blt f is) O H Q->tCB (Qs X.K xw f) (tA X xw<|Pv.pvs C is) O H Q:=λO H Q #[Z,l,S,st,lr,h]=>
 #[Z,l,S,st,lr,End.bind (h) λxs S1 ρ1 H1 vs f1 st1 r1 h1=>#[ρ1,S1,xs,st1,r1,h1]]
def j6(r:Rq Z H [d] vs):∃v,vs=[v]/\Rep Z H d v:=by
 obtain⟨v,ws,rfl,a1,b1⟩:=r;exact#[v,by rw[b1],a1]
def zS{d e:D}{vs:List V}(r:Rq Z H [d,e] vs):∃v w,vs=[v,w]/\Rep Z H d v/\Rep Z H e w:=by
 obtain⟨v,ws,rfl,a1,b1⟩:=r;obtain⟨w,rfl,b2⟩:=j6 b1;exact#[v,w,rfl,a1,b2]
def WD{rep:Mx->Hp->D->V->Prop}{f:Bf}{ds:List D}{vs:List V}(h:End K xw rep Z H Q (Pv.po (Pv.Xp f ds) S))(r:Rq Z H ds vs)(h1:f≠.max2:=by decide)(h2:f≠.min2:=by decide)(h3:f≠.index:=by decide):∃d v z,vs=[v]/\Rep Z H d v/\Pv.blt1 f d=aa z/\End K xw rep Z H Q (.ok z S):=by
 obtain⟨z,hz,g⟩:=End.po h
 match ds,hz with
 |[d],hz=>obtain⟨v,rfl,rv⟩:=j6 r;exact#[d,v,z,rfl,rv,hz,g]
 |[x,y],hz=>
  have hz:Pv.blt2 f x y=aa z:=hz;cases f<;>first|exact Ev.nos hz|contradiction
def Zd4{f:Bf}{ds:List D}{vs:List V}(h:End K xw Rep Z H Q (Pv.po (Pv.Xp f ds) S))(r:Rq Z H ds vs)(h1:∀d,Pv.blt1 f d=ag)(h3:f≠.index:=by decide):∃m n z,vs=[.int m,.int n]/\Pv.blt2 f (.int m) (.int n)=aa z/\End K xw Rep Z H Q (.ok z S):=by
 obtain⟨z,hz,g⟩:=End.po h
 match ds,hz with
 |[d],hz=>exact Ev.nos<|(h1 d).symm.trans hz
 |[x,y],hz=>
  have hz:Pv.blt2 f x y=aa z:=hz;have:∃a b,x=.int a/\y=.int b:=by
   cases f<;>first|exact Ev.nos hz|contradiction|(obtain⟨a,ha,q⟩:=cJ.mp hz;obtain⟨b,hb,_⟩:=cJ.mp q;exact#[a,b,Pv.wc ha,Pv.wc hb])
  obtain⟨a,b,rfl,rfl⟩:=this;obtain⟨v,w,rfl,r1,r2⟩:=zS r;exact#[_,_,z,by rw[r1.int',r2.int'],hz,g]
def w4:ZJ X (.builtin "len") (Qs X.K xw .len):=ZJ.imp JL<|by
 rintro vs H Q ⟨Z,S,ds,st,r,h⟩;obtain⟨d,v,z,rfl,rv,hz,h⟩:=WD h r;obtain⟨xs,hx,rfl⟩:=bY.mp hz;obtain⟨p,ys,rfl,hq,r2⟩:=rv.seq hx;refine#[p,ys,rfl,by rw[<-st.hk];exact hq,?_]
 rw[r2.length];exact End.ok h st<|ZT _
def wU(hc:X.calm=al):ZJ X (.builtin "max") (Qs X.K xw .max2):=ZJ.imp (uK hc)<|by
 rintro vs H Q ⟨Z,S,ds,st,r,h⟩;obtain⟨m,n,z,rfl,hz,h⟩:=Zd4 h r λ_=>rfl
 cases hz;exact#[m,n,rfl,End.ok h st<|ZT _]
def vD(hc:X.calm=al):ZJ X (.builtin "min") (Qs X.K xw .min2):=ZJ.imp (ug hc)<|by
 rintro vs H Q ⟨Z,S,ds,st,r,h⟩;obtain⟨m,n,z,rfl,hz,h⟩:=Zd4 h r λ_=>rfl
 cases hz;exact#[m,n,rfl,End.ok h st<|ZT _]
def vB:ZJ X (.type "int") (Qs X.K xw .toInt):=ZJ.imp um<|by
 rintro vs H Q ⟨Z,S,ds,st,r,h⟩;obtain⟨d,v,z,rfl,r1,hz,h⟩:=WD h r;cases d with|int m=>cases hz;exact .inl #[m,by rw[r1.int'],End.ok h st<|ZT _]|bl m=>cases hz;exact .inr #[m,by rw[r1.bl'],End.ok h st<|ZT _]|_=>exact Ev.nos hz
def JD:ZJ X (.type "tuple") (Qs X.K xw .tuple):=ZJ.imp Qy<|by
 rintro vs H Q ⟨Z,S,ds,st,r,h⟩;obtain⟨d,v,z,rfl,r1,hz,h⟩:=WD h r;cases d with|tup ds=>cases hz;obtain⟨p,xs,rfl,hp,r2⟩:=r1.tup';exact#[p,xs,rfl,.inr #[SqT.of hp,End.ok h st r1]]|lst ds=>cases hz;obtain⟨p,xs,rfl,hp,_,r2⟩:=r1.lst';exact#[p,xs,rfl,.inl #[SqL.of hp,h.newT st r2]]|scr ns=>cases hz;obtain⟨p,rfl,hp⟩:=r1.scr';rw[st.hk]at hp;exact#[p,_,rfl,.inl #[hp.sq,h.newT st<|Rq.ints ns]]|_=>exact Ev.nos hz
def Vj{f:Bf}{id:String}{x:bn}{es:List Expr}{is:List E}(hc:ZJ X (.builtin id) (Qs X.K xw f))(hm:X.mg x=ag)(ha:CA X xw C (e::es) is)(hg:Gl X x)(hv:db x=aa (.builtin id))(hn:x≠"__name__")(hdb:(x == #[11])=aj)
  (he:aE (e::es) X.env=(aj,cD e X.env)::aE es X.env)(hpl:(dG pos<|aE es X.env).any (·.1)=aj):CE X xw C #[23] (.blt f is):=.mk <|
 PE.imp (Xt hc hg hm hv ha.h hn hdb he hpl) Za3
def GP{f:Bf}{id:String}{x:bn}{es:List Expr}{is:List E}(hc:ZJ X (.type id) (Qs X.K xw f))(hm:X.mg x=ag)(ha:CA X xw C (e::es) is)(hg:Gl X x)(hv:db x=aa (.type id))(hn:x≠"__name__")(hdb:(x == #[11])=aj)
  (he:aE (e::es) X.env=(aj,cD e X.env)::aE es X.env)(hpl:(dG pos<|aE es X.env).any (·.1)=aj):CE X xw C #[23] (.blt f is):=.mk <|
 PE.imp (Jv hc hg hm hv ha.h hn hdb he hpl) Za3
end
section
variable{X:Cx}{xw:Nat->Hp->Prop}{C:Calls}{e a b c:Expr}{i j k:E}{pos p p' p2:fD}
theorem UG:∀{ds:List D}{bs:List Bool},Pv.Yg ds=aa bs->bs.length=ds.length/\∀j d,ds[j]?=aa d->Pv.Ub d=aa (bs.getD j aj)
 |[],bs,h=>by cases h;exact#[rfl,λj d e=>by simp at e]
 |d::ds,bs,h=>by
  unfold Pv.Yg at h;cases q1:Pv.Ub d with
  |none=>rw[q1]at h;cases h
  |some b=>
   cases q2:Pv.Yg ds with
   |none=>rw[q1,q2]at h;cases h
   |some cs=>
    rw[q1,q2]at h;cases h;obtain⟨l,ih⟩:=UG q2;refine#[by rw[aQ,aQ,l],λj d' e=>?_]
    cases j with|zero=>simp at e;subst e;simpa using q1|succ j=>simpa using ih j d' (by simpa using e)
def uE(bs:List Bool):(aP bs.length).all (λj=>bs.getD j aj)=bs.all id:=by
 rw[cR,bp,bp]
 constructor
 .intro h b hb
  obtain⟨j,hj,e⟩:=cE hb;have:=h j<|aV.mpr hj
  simpa[af hj,e]using this
 .intro h j hj
  have hj':=aV.mp hj
  simpa[af hj']using h bs[j]<|aY hj'
def GF(r:Rep Z H d v)(e:Zy v u)(h:Pv.Ub d=aa n)(s:aA)(Q:Bool->aA->Prop)(E:au->aA->Prop)(q:Q n s) :
  aX #[8] A (rB u) Q E s:=by
 cases d with
 |non=>cases r.non';cases e;cases h;exact truthy_none q
 |bl b=>cases r.bl';cases e;cases h;exact d5 q
 |int m=>
  cases r.int';obtain⟨t,rfl⟩:=e;have h':=aq h;refine ny ?_;have:(m != 0)=n:=by
   rw[<-h'];by_cases z:m=0
   .subst z;rfl
   .rw[T5 z];exact bne_iff_ne.mpr z
  rw[this];exact q
 |_=>cases h
def vM(hc:X.calm=al):ZJ X (.builtin "all") (λvs H Q=>∃Z ds v bs,vs=[v]/\Rep Z H (.lst ds) v/\Pv.Yg ds=aa bs/\Q (.bl<|bs.all id) H):=by
 intro pq s O H vs us Q I r h;obtain⟨Z,ds,v,bs,rfl,rs,hb,q⟩:=h;obtain⟨p,xs,rfl,hx,_,rx⟩:=rs.lst';obtain⟨u,rfl,ru⟩:=Wc r;cases ru;obtain⟨its,rv,pl,hz⟩:=I.list<|SqL.of hx;obtain⟨lb,tb⟩:=UG hb;have hlt:p<s.heap.objs.size:=by obtain⟨_,e,_⟩:=pl.isList;exact aH e
 have hlen:its.toArray.size=bs.length:=by rw[aC,<-rv.length,rx.length,lb]
 refine call_all_walk<|fE pl.isList #[s.heap.objs.size,[s.heap.objs.size,p],[s.heap.objs.size],its.toArray.size,(λi v=>its.toArray[i]?=aa v),(λi h=>h.IsListIter s.heap.objs.size p i/\h.IsList p its.toArray),λj=>bs.getD j aj,rfl,Walks.list (A:=X.A.in1) (I.ok.hd hc) s.heap.objs.size p (bh hlt) its.toArray,#[#[_,aM _ rfl,rfl,rfl],pl.isList.push _],?_,?_]
 .intro j v s' Q' E' hv hQ'
  have hj:its[j]?=aa v:=by simpa using hv
  have jl:j<ds.length:=by
   have:=(aK.mp hj).1;rw[<-rv.length,rx.length]at this;exact this
  obtain⟨w',g,r'⟩:=rx.get<|af jl;obtain⟨u',g',ru'⟩:=rv.get g;rw[hj]at g';cases g';exact GF r' ru' (tb j _<|af jl) s' Q' E' hQ'
 .intro h' tk hk
  rw[hlen,uE];have kp:=λb o e=>hk b o (λhm=>by
   have:b=s.heap.objs.size:=by simpa using hm
   exact T7 (this▸aH e)<|bw _)<|av _ e
  exact#[.bl<|bs.all id,H,I.kept (t':=tk) kp,rfl,q]
def wK(hc:X.calm=al):ZJ X (.builtin "all") (Qs X.K xw .all):=ZJ.imp (vM hc)<|by
 rintro vs H Q ⟨Z,S,ds,st,r,h⟩;obtain⟨d,v,z,rfl,r1,hz,h⟩:=WD h r;cases d with|lst ds=>obtain⟨bs,hb,rfl⟩:=bY.mp hz;exact#[Z,ds,v,bs,rfl,r1,hb,End.ok h st<|Yj _]|_=>exact Ev.nos hz
noncomputable def ZS:Ty->String
 |.int=>"int" | .bool=>"bool" | .str=>"str" | .tuple=>"tuple" | .list=>"list" | .dict=>"dict" | .cls _=>""
def yO{K:ao}{Z:Mx}{H:Hp}{x:D}{v:V}{t:Ty}{n:Bool}(rx:Rep Z H x v)(ht:∀m,t≠.cls m)(h:Pv.YH x t=aa n) :
  ∃tv,TyOf K H v tv/\fK K tv (.type<|ZS t)=aa n:=by
 cases x with
 |non=>rw[rx.non'];refine#[_,.non,?_];cases h;cases t<;>first|rfl|exact T7 rfl<|ht _
 |bl b=>rw[rx.bl'];refine#[_,.bl b,?_];cases h;cases t<;>first|rfl|exact T7 rfl<|ht _
 |int b=>rw[rx.int'];refine#[_,.int b,?_];cases h;cases t<;>first|rfl|exact T7 rfl<|ht _
 |str b=>rw[rx.str'];refine#[_,.str b,?_];cases h;cases t<;>first|rfl|exact T7 rfl<|ht _
 |tup ds=>
  obtain⟨p,xs,rfl,hp,_⟩:=rx.tup';refine#[_,.tup hp,?_];cases h;cases t<;>first|rfl|exact T7 rfl<|ht _
 |lst ds=>
  obtain⟨p,xs,rfl,hp,_⟩:=rx.lst';refine#[_,.lst hp,?_];cases h;cases t<;>first|rfl|exact T7 rfl<|ht _
 |dct o=>
  cases o with
  |inr _=>exact Ev.nos h
  |inl _=>
   obtain⟨p,rfl,e⟩:=rx.dct';refine#[_,.dK e,?_];cases h;cases t<;>first|rfl|exact T7 rfl<|ht _
 |_=>exact Ev.nos h
def Zak(T:String):ZJ X (.builtin "isinstance") (λvs H Q=>∃v tv n,vs=[v,.ty T]/\TyOf X.K H v tv/\fK X.K tv (.type T)=aa n/\Q (.bl n) H):=by
 intro pq s O H vs us Q I r h;obtain⟨v,tv,n,rfl,ty,e,q⟩:=h;obtain⟨u,w',rfl,r1,r2⟩:=zI r;cases r2;exact vX I r1 ty e λtk=>#[.bl n,H,I.tok tk,rfl,q]
def Qn{T:bn}{t:Ty}(ht:∀m,t≠.cls m)(hm:X.mg "isinstance" = ag)(hmT:X.mg T=ag)(ha:CE X xw C a i)(hg:Gl X "isinstance")(hgT:Gl X T)(hvT:db T=aa (.type<|ZS t))(hnT:T≠"__name__")(hdT:(T == #[11])=aj)
  (hs1:aE [a,.Name T p2] X.env=(aj,cD a X.env)::aE [.Name T p2] X.env)(hs2:aE [.Name T p2] X.env=(aj,cD (.Name T p2) X.env)::aE [] X.env)(hpl:(dG pos<|aE [.Name T p2] X.env).any (·.1)=aj) :
  CE X xw C (.Call (.Name "isinstance" p) [a,.Name T p2] [] pos) (.isi i [t]):=.mk <|
 PE.imp (Xt (Zak<|ZS t) hg hm #[7] (ZB ha.h (ZB (Uj (v:=.ty<|ZS t) hgT hmT hvT rfl hnT hdT) Yq hs2) hs1) #[1] #[1] hs1 hpl)<|by
  left;refine#[Z,l,S,st,lr,End.bind (h) λx S1 ρ1 H1 v f1 st1 r1 h1=>?_]
  obtain⟨n,hn,h2⟩:=End.ob h1;have hn':Pv.YH x t=aa n:=by
   unfold Pv.Z7 at hn;cases q:Pv.YH x t with|none=>rw[q]at hn;cases hn|some m=>rw[q]at hn;cases m<;>exact hn
  obtain⟨tv,ty,e⟩:=yO r1 ht hn';exact#[v,tv,n,rfl,ty,e,End.ok h2 st1<|Yj _]
def ZgP(P:bt)(w:bN)(K:ao)(a:aD)(tab:List (Int×Int)):Prop:=(a == cW)=aj/\∃f:Int->Option au,(∀h:bV,K.In h->h.MapOf (kJ P w) a f)/\∀k,(tab.lookup k=ag->f k=ag)/\∀j,tab.lookup k=aa j->∃t,f k=aa (.int j t)
def Zcj:CE X xw C (.Dict [] [] pos) .dnew:=.mk <| PE.imp jg λO H Q #[Z,l,S,st,lr,h]=>λp hp=>
 (show End X.K xw Rep Z H Q (.ok (.dct<|.inl []) S)from h) Z _ _ (Zp hp) (st.fresh hp) (by unfold Rep;exact#[p,rfl,Zj])
def XO(fr:Bool)(H0:Hp)(Z:Mx)(H:Hp)(d:D)(v:V):Prop:=Rep Z H d v/\(fr=al->∀ds,d=.lst ds->∃a,v=.ref a/\H0 a=ag)
theorem End.fr{K:ao}{xw:Nat->Hp->Prop}{Z:Mx}{H H0:Hp}{Q:VK}{r:R D}{fr:Bool}(h:End K xw Rep Z H Q r):End K xw (XO fr H0) Z H Q r:=by
 cases r with|ok d S=>exact λρ' H' v f st r=>h ρ' H' v f st r.1|_=>exact h
end
abbrev Own:=Nat->Option aD
noncomputable def Mx.ex(Z:Mx)(W:Own):Mx:=#[Z.K,Z.n0,λa=>Z.X a\/∃i,W i=aa a,λa h=>.inl<|Z.xz a h]
mutual
theorem Rep.flat(hk:ρ'.K=Z.K)(k:∀a o,H a=aa o->(∀xs,o≠.lst xs)->(∀vs,o≠.dT vs)->H' a=aa o):∀{d:D}{v:V},d.flat=al->Rep Z H d v->Rep ρ' H' d v
 |.non,_,_,h|.bl _,_,_,h|.int _,_,_,h|.str _,_,_,h=>by exact h
 |.tup ds,v,f,h=>by
  obtain⟨a,xs,e,t,r⟩:=h;exact#[a,xs,e,k a _ t (λ_ z=>by cases z) (λ_ z=>by cases z),r.flat hk k (by exact f)]
 |.scr ns,v,_,h=>by
  unfold Rep at h ⊢;obtain⟨a,e,t⟩:=h;rw[hk];refine#[a,e,?_];rcases t with⟨o,t⟩|t
  .exact .inl #[o,k a _ t (λ_ z=>by cases z) λ_ z=>by cases z]
  .exact .inr t
 |.lst _,_,f,_|.drw,_,f,_|.dct _,_,f,_|.dow _,_,f,_=>by cases f
theorem Rq.flat(hk:ρ'.K=Z.K)(k:∀a o,H a=aa o->(∀xs,o≠.lst xs)->(∀vs,o≠.dT vs)->H' a=aa o):∀{ds:List D}{xs:List V},Pv.YQ ds=al->Rq Z H ds xs->Rq ρ' H' ds xs
 |[],_,_,h=>by exact h
 |d::ds,xs,f,h=>by
  obtain⟨v,vs,e,r,rs⟩:=h;have f:=(aG _ _).mp f;exact#[v,vs,e,r.flat hk k f.1,rs.flat hk k f.2]
end
def XN(Z:Mx)(H:Hp)(a:aD):D->Prop
 |.lst xs=>∃us,H a=aa (.lst us)/\Rq Z H xs us
 |.dow ks=>∃vs,H a=aa (.dT vs)/\vs.map (·.1)=ks.map (·.map cT)
 |_=>False
def XN.ob{Z:Mx}{H:Hp}{a:aD}{d:D}(h:XN Z H a d):(∃us,H a=aa (.lst us))\/∃vs,H a=aa (.dT vs):=by
 cases d with|lst xs=>obtain⟨us,e,_⟩:=h;exact .inl #[us,e]|dow ks=>obtain⟨vs,e,_⟩:=h;exact .inr #[vs,e]|_=>exact h.elim
def XN.ne{Z:Mx}{H:Hp}{a:aD}{d:D}(h:XN Z H a d):H a≠ag:=by
 rcases h.ob with⟨_,z⟩|⟨_,z⟩<;>(rw[z];intro q;cases q)
def XN.rep{Z:Mx}{H:Hp}{a:aD}{d:D}(h:XN Z H a d)(x:¬Z.X a):Rep Z H d (.ref a):=by
 cases d with|lst xs=>obtain⟨us,e,r⟩:=h;exact Wi e x r|dow ks=>obtain⟨vs,e,q⟩:=h;exact#[a,vs,rfl,e,x,q]|_=>exact h.elim
theorem XN.lat{Z ρ':Mx}{H H':Hp}{a:aD}{d:D}(h:XN Z H a d)(f:Lat Z H ρ' H')(e:H' a=H a):XN ρ' H' a d:=by
 cases d with|lst xs=>obtain⟨us,q,r⟩:=h;exact#[us,e.trans q,r.lat f]|dow ks=>obtain⟨vs,q,r⟩:=h;exact#[vs,e.trans q,r]|_=>exact h
def Lat.own{Z:Mx}{H:Hp}{b:aD}{o':HO}(x:Z.X b)(hb:(∃us,H b=aa (.lst us))\/∃vs,H b=aa (.dT vs)):Lat Z H Z (upd H b o'):=#[rfl,rfl,λc u z nx _ nd=>by
 rw[Zi (λq=>by
  rw[q]at z;rcases hb with⟨_,e⟩|⟨_,e⟩<;>(rw[e]at z;cases z)
  .exact nx _ rfl<|q▸x
  .exact nd _ rfl<|q▸x)]
 exact z,λ_ _ z=>z]
structure Eu(Z:Mx)(H0:Hp)(W:Own)(l:Lc)(os:List Nat)(O:L2.St)(H:Hp):Prop where
 fut:Fut Z H0 Z H
 xd:∀a,Z.X a->H0 a≠ag
 len:l.length=O.length
 osW:∀i,os.contains i=(W i).isSome
 inj:∀i j a,W i=aa a->W j=aa a->i=j
 new:∀i a,W i=aa a->H0 a=ag
 own:∀i a,W i=aa a->∃d,l[i]?=aa (aa d)/\O[i]?=aa (aa<|.ref a)/\XN (Z.ex W) H a d
 val:∀(i:Nat)(d:D),l[i]?=aa (aa d)->W i=ag->∃v,O[i]?=aa (aa v)/\Rep (Z.ex W) H d v
section
variable{K:ao}{Z:Mx}{H0 H H':Hp}{W W':Own}{l:Lc}{os:List Nat}{O:L2.St}{S:Zv}
def Lat.unex:Lat (Z.ex W) H Z H:=#[rfl,rfl,λ_ _ h _ _ _=>h,λ_ _ x=>.inl x]
theorem Fut.ex(f:Fut Z H Z H'):Fut (Z.ex W) H (Z.ex W) H':=#[rfl,f.keep]
def St3.unex(st:St3 K (Z.ex W) S H):St3 K Z S H:=#[st.hk,λa x=>st.xd a<|.inl x,st.dw,st.tb]
def Eu.nx(h:Eu Z H0 W l os O H)(e:W i=aa a):¬Z.X a:=λz=>h.xd a z<|h.new i a e
theorem Eu.st(h:Eu Z H0 W l os O H)(st:St3 K Z S H):St3 K (Z.ex W) S H:=
 #[st.hk,λa x=>x.elim (st.xd a) λ#[i,e]=>(let #[_,_,_,z]:=h.own i a e;z.ne),st.dw,st.tb]
def vt(f:Fut Z H Z H')(x:¬Z.X a)(h:H a=aa o)(n:∀ps,o≠.tbl ps:=by intro _ z;cases z):H' a=aa o:=(f.keep a o h).elim id λz=>z.elim (λz=>T7 (Z.xz a z.1) x)<|by rintro ⟨⟨ps,e⟩,_⟩;exact T7 e<|n ps
def Eu.all(h:Eu Z H0 W l os O H):LocR Z H l O:=#[h.len,λi v e=>by
 cases q:W i with
 |none=>obtain⟨d,a,b⟩:=h.val i v e q;exact#[d,a,b.lat Lat.unex]
 |some n=>
  obtain⟨d,a,c,r⟩:=h.own i n q;rw[a]at e;cases e;exact#[_,c,(r.lat Lat.unex rfl).rep<|h.nx q]]
def j4(e:(Pv.hide os l)[i]?=aa (aa v)):l[i]?=aa (aa v)/\os.contains i=aj:=by
 unfold Pv.hide at e;rw[iz]at e;cases q:l[i]? with
 |none=>rw[q]at e;cases e
 |some o=>
  rw[q]at e;have e':(if os.contains i=al then ag else o)=aa v:=aq e
  by_cases c:os.contains i=al
  .rw[T9 c]at e';cases e'
  .rw[T8 c]at e';exact#[by rw[e'],by simpa using c]
def hide_nil:Pv.hide [] l=l:=by
 unfold Pv.hide;refine cL λi=>?_
 rw[iz];cases l[i]?<;>rfl
def Eu.nW(h:Eu Z H0 W l os O H){i:Nat}(b:os.contains i=aj):W i=ag:=by
 rw[h.osW]at b;cases q:W i with|none=>rfl|some _=>rw[q]at b;cases b
def Eu.hid(h:Eu Z H0 W l os O H):LocR (Z.ex W) H (Pv.hide os l) O:=#[by unfold Pv.hide;rw[List.length_mapIdx];exact h.len,λi v e=>by
 obtain⟨a,b⟩:=j4 e;exact h.val i v a<|h.nW b]
theorem Eu.mono(h:Eu Z H0 W l os O H)(f:Fut Z H Z H'):Eu Z H0 W l os O H':=
 #[h.fut.trans f,h.xd,h.len,h.osW,h.inj,h.new,λi a q=>by
  obtain⟨d,p,c,r⟩:=h.own i a q;exact#[d,p,c,r.lat f.ex.lat (by rcases r.ob with⟨_,e⟩|⟨_,e⟩<;>rw[vt f (h.nx q) e,e])],λi v a b=>by
  obtain⟨d,c,r⟩:=h.val i v a b;exact#[d,c,r.mono f.ex]]
def JV{B:Type}{l:List (Option B)}{i j:Nat}{o:Option B}{v:B}(e:(l.set i o)[j]?=aa (aa v)):(i=j/\o=aa v/\i<l.length)\/(i≠j/\l[j]?=aa (aa v)):=by
 rw[on]at e;by_cases c:i=j
 .rw[T9 c]at e
  by_cases z:i<l.length
  .rw[T9 z]at e;exact .inl #[c,aq e,z]
  .rw[T8 z]at e;cases e
 .rw[T8 c]at e;exact .inr #[c,e]
theorem Eu.set{i:Nat}{o:Option D}{v:V}(h:Eu Z H0 W l os O H)(hi:os.contains i=aj)(r:∀d,o=aa d->Rep (Z.ex W) H d v):Eu Z H0 W (l.set i o) os (O.set i<|aa v) H:=by
 have hw:=h.nW hi;refine#[h.fut,h.xd,by rw[bx,bx];exact h.len,h.osW,h.inj,h.new,λj n q=>?_,λj w e q=>?_]
 .obtain⟨d,a,c,e⟩:=h.own j n q
  have ij:i≠j:=λz=>by rw[z,q]at hw;cases hw
  exact#[d,by rw[a9 ij];exact a,by rw[a9 ij];exact c,e]
 .rcases JV e with⟨rfl,z,hl⟩|⟨c,z⟩
  .exact#[v,bc (by rw[<-h.len];exact hl),r w z]
  .rw[a9 c];exact h.val j w z q
noncomputable def U7:List Nat->List V->L2.St->L2.St
 |i::t,x::xs,O=>U7 t xs<|O.set i<|aa x
 |_,_,O=>O
theorem Eu.fill:∀{t:List Nat}{vs:List D}{us:List V}{l l':Lc}{O:L2.St},Eu Z H0 W l os O H->(t.any os.contains)=aj->Rq (Z.ex W) H vs us->Pv.YR t vs l=aa l'->us.length=t.length/\Eu Z H0 W l' os (U7 t us O) H
 |[],[],_,l,l',O,h,_,r,e=>by rw[r];cases e;exact#[rfl,h]
 |[],_::_,_,_,_,_,_,_,_,e=>by cases e
 |_::_,[],_,_,_,_,_,_,_,e=>by cases e
 |i::t,v::vs,_,l,l',O,h,ht,r,e=>by
  obtain⟨d,ds,rfl,a,b⟩:=r;rw[fB,Bool.or_eq_false_iff]at ht;obtain⟨z,q⟩:=Eu.fill (h.set ht.1 λ_ z=>by cases z;exact a) ht.2 b e
  exact#[by rw[aQ,aQ,z],q]
def tGU(K:ao)(t:List Nat):TG:=λv O H Q=>match t with
 |[i]=>Q (O.set i<|aa v) H
 |t=>∃a xs,v=.ref a/\(SqT K H a xs\/H a=aa (.lst xs))/\xs.length=t.length/\Q (U7 t xs O) H
def Eu.assign{Q:L2.St->Hp->Prop}(h:Eu Z H0 W l os O H)(ht:(t.any os.contains)=aj)(r:Rep (Z.ex W) H d v)(e:Pv.Zo t d l=aa l')(q:∀σ',Eu Z H0 W l' os σ' H->Q σ' H):tGU K t v O H Q:=by
 have gen:∀t:List Nat,(t.any os.contains)=aj->(match Pv.Za1 d with
   |some xs=>Pv.YR t xs l
   |none=>ag)=aa l'->∃a xs,v=.ref a/\(SqT K H a xs\/H a=aa (.lst xs))/\xs.length=t.length/\Q (U7 t xs O) H:=by
  intro t ht e;cases d with|tup vs=>obtain⟨p,ds,rfl,hp,rs⟩:=r.tup';obtain⟨z,y⟩:=h.fill ht rs e;exact#[p,ds,rfl,.inl<|SqT.of hp,z,q _ y]|lst vs=>obtain⟨p,ds,rfl,hp,_,rs⟩:=r.lst';obtain⟨z,y⟩:=h.fill ht rs e;exact#[p,ds,rfl,.inr hp,z,q _ y]|_=>cases e
 match t,ht,e with
 |[i],ht,e=>cases e;exact q _<|h.set (by simpa using ht) λ_ z=>by cases z;exact r
 |[],ht,e=>exact gen [] ht e
 |i::j::t,ht,e=>exact gen (i::j::t) ht e
noncomputable def noW(W:Own)(i:Nat):Own:=λj=>if j=i then ag else W j
def Wm{i j:Nat}{a:aD}(z:noW W i j=aa a):j≠i/\W j=aa a:=by
 unfold noW at z;by_cases c:j=i
 .rw[T9 c]at z;cases z
 .rw[T8 c]at z;exact#[c,z]
theorem Lat.noW{i:Nat}:Lat (Z.ex W) H (Z.ex<|noW W i) H:=#[rfl,rfl,λ_ _ h _ _ _=>h,λ_ _ x=>x.elim .inl λ#[j,e]=>.inr #[j,(Wm e).2]]
def UM{i:Nat}(h:∀i,os.contains i=(W i).isSome)(j:Nat):(os.filter (· != i)).contains j=(noW W i j).isSome:=by
 unfold noW;by_cases c:j=i
 .simp[c]
 .simp only[c,if_false]
  rw[<-h j,cR,dR,dR,fv];simp[c]
def Eu.drop{i:Nat}{o:Option D}{v:V}(h:Eu Z H0 W l os O H)(r:∀d,o=aa d->Rep (Z.ex<|noW W i) H d v):Eu Z H0 (noW W i) (l.set i o) (os.filter (· != i)) (O.set i<|aa v) H:=by
 refine#[h.fut,h.xd,by rw[bx,bx];exact h.len,UM h.osW,λa b n x y=>h.inj a b n (Wm x).2 (Wm y).2,λj n z=>h.new j n (Wm z).2,λj n z=>?_,λj w e z=>?_]
 .obtain⟨d,a,c,e⟩:=h.own j n (Wm z).2
  have ij:i≠j:=Ne.symm (Wm z).1;exact#[d,by rw[a9 ij];exact a,by rw[a9 ij];exact c,e.lat Lat.noW rfl]
 .rcases JV e with⟨rfl,e,hl⟩|⟨c,e⟩
  .exact#[v,bc (by rw[<-h.len];exact hl),r w e]
  .rw[a9 c]
   unfold Sd.noW at z;rw[T8<|Ne.symm c]at z;obtain⟨d',a,b⟩:=h.val j w e z;exact#[d',a,b.lat Lat.noW]
noncomputable def Qp(W:Own)(i:Nat)(a:aD):Own:=λj=>if j=i then aa a else W j
def Lat.put{i:Nat}{a:aD}{o:HO}(ha:H a=ag):Lat (Z.ex W) H (Z.ex<|Qp W i a) (upd H a o):=#[rfl,rfl,(Zp (Z:=Z.ex W) ha).lat.keep',λb hb x=>by
 rcases x with x|⟨j,x⟩
 .exact .inl x
 .unfold Qp at x
  split at x
  .exact T7 ha<|aq x▸hb
  .exact .inr #[j,x]]
def Eu.takeO{i:Nat}{a:aD}{d:D}(h:Eu Z H0 W l os O H)(hd:∀a,Z.X a->H a≠ag)(f:Fut Z H Z H')(hn:H a=ag)(hx:¬(Z.ex W).X a)(r:XN (Z.ex<|Qp W i a) H' a d)(hi:i<l.length) :
  Eu Z H0 (Qp W i a) (l.set i<|aa d) (i::os.filter (· != i)) (O.set i<|aa<|.ref a) H':=by
 have h1:=h.mono f;have get:∀{j m},Qp W i a j=aa m->(j=i/\a=m)\/(j≠i/\W j=aa m):=λ{j m} z=>by
  unfold Qp at z;by_cases c:j=i
  .rw[T9 c]at z;exact .inl #[c,aq z]
  .rw[T8 c]at z;exact .inr #[c,z]
 have na:=h.fut.new hn hd;have lt:Lat (Z.ex W) H (Z.ex<|Qp W i a) H':=#[rfl,rfl,f.ex.lat.keep',λb hb x=>by
  rcases x with x|⟨j,x⟩
  .exact .inl x
  .rcases get x with⟨_,z⟩|⟨_,z⟩
   .exact T7 hn<|z▸hb
   .exact .inr #[j,z]]
 refine#[h1.fut,h.xd,by rw[bx,bx];exact h.len,λj=>?_,λp q m x y=>?_,λj m z=>?_,λj m z=>?_,λj w q z=>?_]
 .have:=UM (i:=i) h.osW j
  unfold Qp;by_cases c:j=i
  .simp[c]
  .unfold noW at this
   rw[T8 c]at this ⊢;rw[nG,this,beq_eq_false_iff_ne.mpr c,kQ]
 .rcases get x with⟨x1,x2⟩|⟨x1,x2⟩<;>rcases get y with⟨y1,y2⟩|⟨y1,y2⟩
  .rw[x1,y1]
  .exact T7 (.inr #[q,x2▸y2]) hx
  .exact T7 (.inr #[p,y2▸x2]) hx
  .exact h.inj p q m x2 y2
 .rcases get z with⟨_,z⟩|⟨_,z⟩
  .exact z▸na
  .exact h.new j m z
 .rcases get z with⟨z1,z2⟩|⟨z1,z2⟩
  .subst z1 z2
   exact#[d,bc hi,bc (by rw[<-h.len];exact hi),r]
  .obtain⟨d',p,c,q⟩:=h.own j m z2
   exact#[d',by rw[a9<|Ne.symm z1];exact p,by rw[a9<|Ne.symm z1];exact c,q.lat lt (by rcases q.ob with⟨_,e⟩|⟨_,e⟩<;>rw[vt f (h.nx z2) e,e])]
 .unfold Qp at z
  by_cases c:j=i
  .rw[T9 c]at z;cases z
  .rw[T8 c]at z
   rw[a9<|Ne.symm c]at q ⊢;obtain⟨d,p,b⟩:=h.val j w q z;exact#[d,p,b.lat lt]
def Eu.take(h:Eu Z H0 W l os O H)(hd:∀a,Z.X a->H a≠ag)(f:Fut Z H Z H')(hn:H a=ag)(hf:Pv.YQ xs=al)(r:Rep (Z.ex W) H' (.lst xs) (.ref a))(hi:i<l.length) :
  Eu Z H0 (Qp W i a) (l.set i<|aa<|.lst xs) (i::os.filter (· != i)) (O.set i<|aa<|.ref a) H':=by
 obtain⟨_,us,en,hs,hx,rs⟩:=r.lst';cases en;exact h.takeO hd f hn hx #[us,hs,rs.flat (Z:=Z.ex W) (ρ':=Z.ex<|Qp W i a) rfl (λ_ _ z _ _=>z) hf] hi
def Eu.mutO{i:Nat}{a:aD}{d':D}{o':HO}(h:Eu Z H0 W l os O H)(hw:W i=aa a)(r:XN (Z.ex W) (upd H a o') a d'):Eu Z H0 W (l.set i<|aa d') os O (upd H a o'):=by
 obtain⟨d,p,c,e⟩:=h.own i a hw;have hi:=(aK.mp p).1;have lt:Lat (Z.ex W) H (Z.ex W) (upd H a o'):=Lat.own (oR #[i,hw]) e.ob
 refine#[#[rfl,λb o z=>?_],h.xd,by rw[bx];exact h.len,h.osW,h.inj,h.new,λj m z=>?_,λj w q z=>?_]
 .rw[Zi λq=>by rw[q,h.new i a hw]at z;cases z]
  exact h.fut.keep b o z
 .by_cases k:i=j
  .subst k
   rw[hw]at z;cases z;exact#[d',bc hi,c,r]
  .obtain⟨d2,a',c',e'⟩:=h.own j m z
   exact#[d2,by rw[a9 k];exact a',c',e'.lat lt<|Zi λq:m=a=>k<|h.inj i j a hw<|q▸z]
 .have k:i≠j:=λk=>by rw[<-k,hw]at z;cases z
  rw[a9 k]at q;obtain⟨d,a',b'⟩:=h.val j w q z;exact#[d,a',b'.lat lt]
def Eu.mut(h:Eu Z H0 W l os O H)(hw:W i=aa a)(r:Rq (Z.ex W) H ys us):Eu Z H0 W (l.set i<|aa<|.lst ys) os O (upd H a<|.lst us):=by
 obtain⟨d,p,c,e⟩:=h.own i a hw;exact h.mutO hw (d':=.lst ys) #[us,Zj,r.lat<|Lat.own (oR #[i,hw]) e.ob]
def St3.mut{K:ao}{i:Nat}{a:aD}{o':HO}(st:St3 K Z S H)(h:Eu Z H0 W l os O H)(hw:W i=aa a)(ht:∀ps,o'≠.tbl ps:=by intro _ z;cases z):St3 K Z S (upd H a o'):=by
 obtain⟨d,p,c,e⟩:=h.own i a hw;have ne:∀b,Z.X b->b≠a:=λb x z=>h.nx hw<|z▸x
 exact#[st.hk,λb x=>by rw[Zi<|ne b x];exact st.xd b x,λb x=>by rw[Zi<|ne b<|Z.xz b x];exact st.dw b x,st.tb.upd (λo u z=>by rcases e.ob with⟨_,e⟩|⟨_,e⟩<;>(rw[e]at z;cases z)) ht]
structure Base(Z:Mx)(H0 H1:Hp):Prop where
 fut:Fut Z H0 Z H1
 dom:∀a,H1 a=ag->H0 a=ag
def Eu.rebase(b:Base Z H0 H1)(x:∀a,Z.X a->H0 a≠ag)(h:Eu Z H1 W l os O H):Eu Z H0 W l os O H:=#[b.fut.trans h.fut,x,h.len,h.osW,h.inj,λi a e=>b.dom a<|h.new i a e,h.own,h.val]
open Classical in
noncomputable def QD(H:Hp)(W:Own):Hp:=λa=>if ∃i,W i=aa a then ag else H a
def Eu.off(h:Eu Z H0 W l os O H)(hd:∀a,Z.X a->H a≠ag):Base Z H0 (QD H W)/\Eu Z (QD H W) W l os O H:=by
 have nw:∀a,H0 a≠ag->QD H W a=H a:=λa z=>T8 λ#[i,e]=>z<|h.new i a e
 refine#[#[#[rfl,λa o e=>?_],λa e=>?_],#[rfl,λa o e=>.inl ?_],λa x=>?_,h.len,h.osW,h.inj,λi a e=>T9 #[i,e],h.own,h.val]
 .rw[nw a (by rw[e];intro z;cases z)];exact h.fut.keep a o e
 .cases q:H0 a with
  |none=>rfl
  |some o=>
   rw[nw a<|by rw[q];intro z;cases z]at e
   rw[h.fut.new e hd]at q;cases q
 .unfold QD at e
  split at e
  .cases e
  .exact e
 .rw[nw a<|h.xd a x];exact hd a x
def Eu.walk(h:Eu Z H0 W l os O H)(h':Eu Z (QD H W) W' l' os' σ' H'):Lat (Z.ex W) H (Z.ex W') H':=by
 refine#[rfl,rfl,λa o e x n nd=>?_,λa e x=>?_]
 .have nw:¬∃i,W i=aa a:=by
   rintro ⟨i,w⟩;obtain⟨_,_,_,z⟩:=h.own i a w;rcases z.ob with⟨us,z⟩|⟨us,z⟩<;>rw[e]at z
   .exact x us (aq z)<|.inr #[i,w]
   .exact nd us (aq z)<|.inr #[i,w]
  rcases h'.fut.keep a o (by unfold QD;rw[T8 nw];exact e)with z|⟨z,xs,q⟩|⟨⟨ps,q⟩,_⟩
  .exact z
  .exact T7 (.inl<|Z.xz a z)<|x xs q
  .exact T7 q<|n ps
 .rcases x with x|⟨i,x⟩
  .exact .inl x
  .have:=h'.new i a x
   unfold QD at this;split at this
   .exact .inr ‹_›
   .exact T7 this e
end
section
variable(X:Cx)(xw:Nat->Hp->Prop)(C:Calls)
def tF(f:Lc->Zv->R D):TE:=λO H Q=>∃Z l S,St3 X.K Z S H/\LocR Z H l O/\End X.K xw (XO al H) Z H Q (f l S)
structure CF(e:Expr)(i:E):Prop where
 h:PE X e (tF X xw<|Pv.pv C i)
end
def CF.ce{X:Cx}{xw:Nat->Hp->Prop}{C:Calls}{e:Expr}{i:E}(h:CF X xw C e i):CE X xw C e i:=.mk <| PE.imp h.h<|by left;exact #[Z,l,S,st,lr,h.fr]
def End.newF{K:ao}{xw:Nat->Hp->Prop}{Z:Mx}{H0 H:Hp}{Q:VK}{S S0:Zv}{ds:List D}{xs:List V}(h:End K xw (XO al H0) Z H Q (.ok (.lst ds) S))(f:Fut Z H0 Z H)(s0:St3 K Z S0 H0)(st:St3 K Z S H)(r:Rq Z H ds xs):∀p,H p=ag->Q (.ref p) (upd H p<|.lst xs):=λp hp=>
 h Z _ _ (Zp hp) (st.fresh hp) #[Wi Zj (st.nx hp)<|r.mono<|Zp hp,λ_ _ _=>#[p,rfl,f.new hp st.xd]]
def QW(K:ao)(xw:Nat->Hp->Prop)(f:Bf):List V->Hp->VK->Prop:=λvs H Q=>∃Z S ds,St3 K Z S H/\Rq Z H ds vs/\∃H0 S0,Fut Z H0 Z H/\St3 K Z S0 H0/\End K xw (XO al H0) Z H Q (Pv.po (Pv.Xp f ds) S)
def vH{xw:Nat->Hp->Prop}:∀O H Q,tF X xw (Pv.pv C<|.blt f is) O H Q->tCB (QW X.K xw f) (tA X xw<|Pv.pvs C is) O H Q:=λO H Q #[Z,l,S,st,lr,h]=>
 #[Z,l,S,st,lr,End.bind (h) λxs S1 ρ1 H1 vs f1 st1 r1 h1=>by cases f1.eq;exact#[Z,S1,xs,st1,r1,H,S,f1,st,h1]]
def Zb4{X:Cx}{xw:Nat->Hp->Prop}{C:Calls}{e:Expr}{pos p:fD}{f:Bf}{id:String}{x:bn}{es:List Expr}{is:List E}(hc:ZJ X (.builtin id) (QW X.K xw f))(hm:X.mg x=ag)(ha:CA X xw C (e::es) is)(hg:Gl X x)(hv:db x=aa (.builtin id))(hn:x≠"__name__")(hdb:(x == #[11])=aj)
  (he:aE (e::es) X.env=(aj,cD e X.env)::aE es X.env)(hpl:(dG pos<|aE es X.env).any (·.1)=aj):CF X xw C #[23] (.blt f is):=.mk <|
 PE.imp (Xt hc hg hm hv ha.h hn hdb he hpl) vH
def va{X:Cx}{xw:Nat->Hp->Prop}{C:Calls}{e:Expr}{pos p:fD}{f:Bf}{id:String}{x:bn}{es:List Expr}{is:List E}(hc:ZJ X (.type id) (QW X.K xw f))(hm:X.mg x=ag)(ha:CA X xw C (e::es) is)(hg:Gl X x)(hv:db x=aa (.type id))(hn:x≠"__name__")(hdb:(x == #[11])=aj)
  (he:aE (e::es) X.env=(aj,cD e X.env)::aE es X.env)(hpl:(dG pos<|aE es X.env).any (·.1)=aj):CF X xw C #[23] (.blt f is):=.mk <|
 PE.imp (Jv hc hg hm hv ha.h hn hdb he hpl) vH
def yd{X:Cx}{xw:Nat->Hp->Prop}:ZJ X (.type "list") (QW X.K xw .list):=ZJ.imp JN<|by
 rintro vs H Q ⟨Z,S,ds,st,r,H0,S0,f0,s0,h⟩;obtain⟨d,v,z,rfl,r1,hz,h⟩:=WD h r;obtain⟨xs,hx,rfl⟩:=bY.mp hz;obtain⟨p,ys,rfl,hq,r2⟩:=r1.seq hx;exact#[p,ys,rfl,by rw[<-st.hk];exact hq,h.newF f0 s0 st r2]
def Zx(fr:Bool)(K:ao)(xw:Nat->Hp->Prop)(Z:Mx)(H0:Hp)(D:Ends):R Pv.FlV->Prop
 |.ok (.nx l os) S=>∀H' σ' W',St3 K Z S H'->Eu Z H0 W' l os σ' H'->D.nx σ' H'
 |.ok (.ret d) S=>∀H' v,Fut Z H0 Z H'->St3 K Z S H'->XO fr H0 Z H' d v->D.rt v H'
 |.ex c S=>∀H',Fut Z H0 Z H'->St3 K Z S H'->xw c H'
 |.no=>False
section
variable{fr:Bool}{K:ao}{xw:Nat->Hp->Prop}{Z:Mx}{H0 H:Hp}{B β:Type}{rep:Mx->Hp->B->β->Prop}{D:Ends}{W:Own}{l:Lc}{os:List Nat}{O:L2.St}{S:Zv}
theorem Zx.bind{Q1:β->Hp->Prop}(he:Eu Z H0 W l os O H)(h:Zx fr K xw Z H0 D (r.bind f))
  (k:∀d S H1 v,Fut Z H Z H1->St3 K Z S H1->rep Z H1 d v->Zx fr K xw Z H0 D (f d S)->Q1 v H1):End K xw rep Z H Q1 r:=by
 cases r with|ok d S=>exact λρ1 H1 v g st r=>by cases g.eq;exact k d S H1 v g st r h|ex c S=>exact λρ1 H1 g st=>by cases g.eq;exact h H1 (he.fut.trans g) st|no=>exact h
def Zx.bindW{Q1:β->Hp->Prop}(he:Eu Z H0 W l os O H)(h:Zx fr K xw Z H0 D (r.bind f))
  (k:∀d S H1 v,Fut Z H Z H1->St3 K Z S H1->rep (Z.ex W) H1 d v->Zx fr K xw Z H0 D (f d S)->Q1 v H1):End K xw rep (Z.ex W) H Q1 r:=by
 cases r with|ok d S=>exact λρ1 H1 v g st r=>by cases g.eq;exact k d S H1 v #[rfl,g.keep] st.unex r h|ex c S=>exact λρ1 H1 g st=>by cases g.eq;exact h H1 (he.fut.trans #[rfl,g.keep]) st.unex|no=>exact h
def Zx.ob(h:Zx fr K xw Z H0 D ((Pv.po o S).bind f)):∃a,o=aa a/\Zx fr K xw Z H0 D (f a S):=by
 cases o with|none=>exact h.elim|some a=>exact#[a,rfl,h]
def Zx.guard{c:Prop}[Decidable c](h:Zx fr K xw Z H0 D (if c then a else .no)):c/\Zx fr K xw Z H0 D a:=by
 split at h
 .exact#[‹_›,h]
 .exact h.elim
def Zx.guardN{c:Prop}[Decidable c](h:Zx fr K xw Z H0 D (if c then .no else a)):¬c/\Zx fr K xw Z H0 D a:=by
 split at h
 .exact h.elim
 .exact#[‹_›,h]
theorem Zx.rebase(b:Base Z H0 H1)(x:∀a,Z.X a->H0 a≠ag)(h:Zx fr K xw Z H0 D r):Zx fr K xw Z H1 D r:=by
 cases r with
 |ok f S=>
  cases f with|nx l os=>exact λH' σ' W' st e=>h H' σ' W' st<|e.rebase b x|ret d=>exact λH' v f st r=>h H' v (b.fut.trans f) st #[r.1,λz ds y=>let #[a,e,q]:=r.2 z ds y;#[a,e,b.dom a q]]
 |ex c S=>exact λH' f st=>h H' (b.fut.trans f) st
 |no=>exact h
end
section
variable(X:Cx)(xw:Nat->Hp->Prop)(fr:Bool)
def tS3(f:Lc->List Nat->Zv->R Pv.FlV):TS:=λD O H=>∃Z H0 W l os S,St3 X.K Z S H/\Eu Z H0 W l os O H/\Zx fr X.K xw Z H0 D (f l os S)
variable(C:Calls)(ms:List Nat)
structure CS(st:ef)(s:Sm):Prop where
 h:PS X st (tS3 X xw fr<|Pv.rv C ms s)
structure CSs(st:List ef)(s:List Sm):Prop where
 h:PSs X st (tS3 X xw fr<|Pv.rvs C ms s)
structure CG(tg:Expr)(t:List Nat):Prop where
 h:PG X tg (tGU X.K t)
def ZhC(t:List Nat):TGs:=λvs O H Q=>vs.length=t.length/\Q (U7 t vs O) H
structure CGs(tgs:List Expr)(t:List Nat):Prop where
 h:PGs X tgs (ZhC t)
end
def PS.imp(h:PS X e t)(k:∀D O H,t' D O H->t D O H):PS X e t':=λpq s O H D I q=>h pq s O H D I<|k D O H q
def PSs.imp(h:PSs X e t)(k:∀D O H,t' D O H->t D O H):PSs X e t':=λpq s O H D I q=>h pq s O H D I<|k D O H q
def PG.imp(h:PG X e t)(k:∀v O H Q,t' v O H Q->t v O H Q):PG X e t':=λpq s O H v u Q I r q=>h pq s O H v u Q I r<|k v O H Q q
def PGs.imp(h:PGs X e t)(k:∀v O H Q,t' v O H Q->t v O H Q):PGs X e t':=λpq s O H v u Q I r q=>h pq s O H v u Q I r<|k v O H Q q
section
variable{X:Cx}{xw:Nat->Hp->Prop}{fr:Bool}{C:Calls}{ns:List Nat}{e a b c:Expr}{i j k:E}{pos p p' p2:fD}{s0:ef}{ss:List ef}{m0:Sm}{ms ms':List Sm}
def ZfA{es:List Expr}{is:List E}(h:CA X xw C es is):CF X xw C (.List es pos) (.lst is):=.mk <| PE.imp (VH h.h)<|by
 left;rw[Pv.pE4]at h;refine#[Z,l,S,st,lr,h.bind λxs S1 ρ1 H1 vs f1 st1 r1 h1=>?_]
 obtain⟨hl,h1⟩:=h1.guard;cases f1.eq;exact#[by rw[r1.length,<-YO];exact hl,h1.newF f1 st st1 r1]
def Zfu:CSs X xw fr C ns [] []:=.mk <| PSs.imp JF<|by rintro D O H ⟨Z,H0,W,l,os,S,st,he,h⟩;exact h H O W st he
def Zdj(h1:CS X xw fr C ns s0 m0)(h2:CSs X xw fr C ns ss ms):CSs X xw fr C ns (s0::ss) (m0::ms):=.mk <| PSs.imp (YC h1.h h2.h)<|by
 rintro D O H ⟨Z,H0,W,l,os,S,st,he,h⟩;refine#[Z,H0,W,l,os,S,st,he,?_];rw[Pv.rvs]at h;cases q:Pv.rv C ns m0 l os S with
 |no=>rw[q]at h;exact h
 |ex c S1=>rw[q]at h;exact h
 |ok fl S1=>
  rw[q]at h;cases fl with|nx l1 os1=>exact λH1 σ1 W1 st1 he1=>#[Z,H0,W1,l1,os1,S1,st1,he1,h]|_=>exact h
def ZeB(he:CE X xw C e i):CS X xw aj C ns (.Return (aa e) pos) (.ret i):=.mk <| PS.imp (UN he.h)<|by
 right;rw[Pv.rE9]at h;exact#[Z,l,S,st,en.all,Zx.bind en h λx S1 H1 v f1 st1 r1 h1=>h1 H1 v (en.fut.trans f1) st1 #[r1,λz=>by cases z]]
def yw{K:ao}{Z:Mx}{H0 H:Hp}{W:Own}{l:Lc}{os:List Nat}{O:L2.St}{S:Zv}{a:aD}(en:Eu Z H0 W l os O H)(st:St3 K Z S H)(h:H a=ag):H0 a=ag:=en.fut.new h st.xd
def ZbV(he:CF X xw C e i):CS X xw fr C ns (.Return (aa e) pos) (.ret i):=.mk <| PS.imp (UN he.h)<|by
 right;rw[Pv.rE9]at h;exact#[Z,l,S,st,en.all,Zx.bind en h λx S1 H1 v f1 st1 r1 h1=>h1 H1 v (en.fut.trans f1) st1 #[r1.1,λ_ ds y=>let #[a,e,q]:=r1.2 rfl ds y;#[a,e,yw en st q]]]
def ZcL{n:Nat}{is:List E}(he:CE X xw C e (.call n is))(hs:ej e ag pos.line X.env=cy aj):CS X xw fr C ns (.Expr e pos) (.ex<|.call n is):=.mk <| PS.imp (Um he.h hs) λD O H #[Z,H0,W,l,os,S,st,en,h]=>
 #[Z,l,S,st,en.all,Zx.bind en (h) λx S1 H1 v f1 st1 r1 h1=>h1 H1 O W st1<|en.mono f1]
def ZgB{sa sb:List ef}(hc:CT X xw C c k)(ha:CSs X xw fr C ns sa ms)(hb:CSs X xw fr C ns sb ms'):CS X xw fr C ns (.If c sa sb pos) (.ite k ms ms'):=.mk <| PS.imp (ZaJ hc.h ha.h hb.h)<|by
 right;rw[Pv.GD]at h;refine#[Z,l,S,st,en.all,Zx.bind en h λx S1 H1 v f1 st1 r1 h1=>?_]
 have e1:x=v:=r1;subst e1;cases x with|true=>exact#[Z,H0,W,l,os,S1,st1,en.mono f1,h1]|false=>exact#[Z,H0,W,l,os,S1,st1,en.mono f1,h1]
def ZcH{n:Nat}{x:bn}(hN:X.N.Nodup)(hi:X.N[n]?=aa x)(hx:L2.Loc X.env.scope x)(hf:X.fn x=al\/X.env.scope.names.lookup x=aa .local):CG X (.Name x pos) [n]:=.mk <|
 PG.imp (J7 hN hi hx hf) λv O H Q q=>q
def ZbW:CGs X [] []:=.mk <| PGs.imp ZbJ<|by
 rintro vs O H Q ⟨h,q⟩;cases vs with|nil=>exact#[rfl,q]|cons _ _=>cases h
def ZaZ{tgs:List Expr}{n:Nat}{t:List Nat}{x:bn}(hN:X.N.Nodup)(h2:CGs X tgs t)(hi:X.N[n]?=aa x)(hx:L2.Loc X.env.scope x)(hf:X.fn x=al\/X.env.scope.names.lookup x=aa .local)
  (hs:(cf (.Name x pos::tgs) X.env).map (·.2)=dL (.Name x pos) X.env::(cf tgs X.env).map (·.2)):CGs X (.Name x pos::tgs) (n::t):=.mk <|
 PGs.imp (Zbf (J7 hN hi hx hf) h2.h hs)<|by
  rintro vs O H Q ⟨h,q⟩;cases vs with|nil=>cases h|cons v vs=>exact#[v,vs,rfl,pL.inj h,q]
theorem QR{E:au->aA->Prop}(hne:t≠it):∀(n i:Nat)(s:aA)(Q:List au->aA->Prop),s.heap.IsListIter it t i->s.heap.IsList t items->i+n<=items.size->
  (∀h',bV.IsListIter h' it t (i+n)->fe it s.heap h'->Q ((items.toList.drop i).take n) {s with heap:=h' })->aX #[8] A (draw (.ref it) n) Q E s
 |0,i,s,Q,hit,_,_,hQ=>by
  exact aB (by simpa using hQ s.heap hit<|fe.refl ..)
 |n+1,i,s,Q,hit,ht,hle,hQ=>by
  have hlt:i<items.size:=by lia
  refine ae<|lI hit ht (x:=items[i]) (by simp[hlt]) λh₁ hit₁ hs₁=>?_
  refine ae<|bT<|QR hne n (i+1) _ _ hit₁ (ht.extBut hs₁.extBut hne) #[0] λh₂ hit₂ hs₂=>aB ?_
  have hd:items.toList.drop i=items[i]::items.toList.drop (i+1):=by simp[cr,hlt]
  have:=hQ h₂ (by rw[show i+(n+1)=i+1+n by lia];exact hit₂)<|hs₁.trans hs₂
  rw[hd,List.take_succ_cons]at this;exact this
theorem zE{E:au->aA->Prop}{x1}{Q:Unit->aA->Prop}(hh:A.handled=ag)(ht:s.heap.IsList t items)
  (hn:(cf elts env).length=items.size)(hstar:(cf elts env).findIdx? (·.1)=ag)
  (h:∀h',fO s.heap.objs.size s.heap h'->aX #[8] A (mZ ((cf elts env).map (·.2)) items.toList) Q E {s with heap:=h' }) :
  aX #[8] A (dL (.Tuple elts x1 pos) env<|.ref t) Q E s:=by
 rw[assign_Tuple];refine ae<|gz ?_;have hlt:t≠s.heap.objs.size:=by obtain⟨o,ho,_⟩:=ht;exact bh<|aH ho
 unfold unpack;rw[hn,hstar];refine ae<|bT ?_;refine ae ?_;refine ae<|wpAny_specialOf ht.typeIs slot_list_iter.lookup ?_;refine aB ?_;simp only[cz,if_false];refine ae<|bT<|fE ht ?_;refine ae<|bT<|QR hlt items.size 0 _ _ #[_,aM _ rfl,rfl,rfl] (ht.push _) #[0] λh₁ hit₁ hs₁=>?_
 have hall:mS items.size (List.drop 0 items.toList)=items.toList:=by
  rw[ki];exact cQ #[2]
 rw[hall];rw[T8 #[2]]
 have ht₁:=(ht.push _).extBut hs₁.extBut hlt;refine ae<|bT<|me hh hit₁ ht₁ #[2] λh₂ he₂=>?_
 simp only[Option.isSome_none,cz,if_false];exact aB<|h h₂ λb o hb e=>he₂ b o hb<|hs₁.extBut b o hb<|av _ e
def gTL(K:ao)(n:Nat)(t:TGs):TG:=λv O H Q=>∃a xs,v=.ref a/\(SqT K H a xs\/H a=aa (.lst xs))/\xs.length=n/\t xs O H Q
def Zgr{X:Cx}{pos:fD}{es:List Expr}{k:Nat}{t:TGs}{n:Nat}(hc:X.calm=al)(h:PGs X es t)
  (hn:(cf es X.env).length=n:=by rfl)(hst:(cf es X.env).findIdx? (·.1)=ag:=by rfl):PG X (.Tuple es k pos) (gTL X.K n t):=by
 intro pq s O H v u Q I r hw;obtain⟨a,xs,e1,hq|hq,hl,hw⟩:=hw
 .exact ZfT hc h hn hst pq s O H v u Q I r #[a,xs,e1,hq,hl,hw]
 .subst e1
  cases r;obtain⟨its,rv,pl,hz⟩:=I.list<|SqL.of hq;refine zE (I.ok.hd hc) pl.isList (by simp[hn,<-hl,rv.length]) hst λh' hx=>?_
  have I1:=I.kept (t':=s.toks) λb o e=>hx b o (bh<|aH e) e
  exact h pq _ O H xs _ Q I1 (by simpa using rv) hw
def Zgb{tgs:List Expr}{q2:Nat}{n m:Nat}{r:List Nat}(hc:X.calm=al)(h:CGs X tgs (n::m::r))(hn:(cf tgs X.env).length=(n::m::r).length)(hst:(cf tgs X.env).findIdx? (·.1)=ag):CG X (.Tuple tgs q2 pos) (n::m::r):=.mk <|
 PG.imp (Zgr hc h.h hn hst)<|by rintro v O H Q ⟨a,xs,e,hp,hl,q⟩;exact #[a,xs,e,hp,hl,hl,q]
def Zx.evA{D:Ends}{K:ao}{Z:Mx}{H0 H:Hp}{W:Own}{l:Lc}{os:List Nat}{O:L2.St}{S:Zv}{f:Pv.V->Zv->R Pv.FlV}{Q1:VK}(z:Bool)(hz:Pv.fresh i=al->z=al)(st:St3 K Z S H)(en:Eu Z H0 W l os O H)(h:Zx fr K xw Z H0 D ((Pv.pvA C i l os S).bind f))
  (k:∀d S1 H1 v,Fut Z H Z H1->St3 K Z S1 H1->XO z H (Z.ex W) H1 d v->Zx fr K xw Z H0 D (f d S1)->Q1 v H1):∃ρ' l' S,St3 K ρ' S H/\LocR ρ' H l' O/\End K xw (XO z H) ρ' H Q1 (Pv.pv C i l' S):=by
 have hid:Zx fr K xw Z H0 D ((Pv.pv C i (Pv.hide os l) S).bind f)->∃ρ' l' S,St3 K ρ' S H/\LocR ρ' H l' O/\End K xw (XO z H) ρ' H Q1 (Pv.pv C i l' S):=λh=>#[Z.ex W,Pv.hide os l,S,en.st st,en.hid,Zx.bindW en h k]
 cases os with
 |nil=>exact hid (by rw[hide_nil];exact h)
 |cons o os=>
  have h:Zx fr K xw Z H0 D (Pv.PR.bind (match Pv.pv C i (Pv.hide (o::os) l) S with
   |.ok v s=>.ok v s
   |.ex c s=>.ex c s
   |.no=>(Pv.pv C i l S).bind λv s=>if(v.flat||Pv.fresh i&&Pv.vJ v)=al then .ok v s else .no) f):=h
  cases q:Pv.pv C i (Pv.hide (o::os) l) S with
  |ok v s=>rw[q]at h;exact hid (by rw[q];exact h)
  |ex c s=>rw[q]at h;exact hid (by rw[q];exact h)
  |no=>
   rw[q]at h;have h:=h
   rw[XV]at h;refine#[Z,l,S,st,en.all,Zx.bind en h λd S1 H1 v f1 st1 r1 h1=>?_]
   by_cases c:(d.flat||Pv.fresh i&&Pv.vJ d)=al
   case neg=>rw[T8 c]at h1;exact h1.elim
   rw[T9 c]at h1;refine k d S1 H1 v f1 st1 #[?_,r1.2] h1;rcases(iI _ _).mp c with c|c
   .exact Rep.flat (Z:=Z) (ρ':=Z.ex W) rfl (λ_ _ z _ _=>z) c r1.1
   .obtain⟨c1,c2⟩:=(aG _ _).mp c
    cases d with
    |lst xs=>
     obtain⟨a,rfl,ha⟩:=r1.2 (hz c1) xs rfl;obtain⟨_,us,e,hs,hx,rs⟩:=r1.1.lst';cases e;exact Wi hs (λx=>x.elim hx λ#[i,w]=>let #[_,_,_,z]:=en.own i a w;T7 ha z.ne)<|rs.flat (Z:=Z) (ρ':=Z.ex W) rfl (λ_ _ z _ _=>z) c2
    |_=>cases c2
def End.unfr{K:ao}{Z:Mx}{H H0:Hp}{Q:VK}{r:R D}(h:End K xw (XO aj H0) Z H Q r):End K xw Rep Z H Q r:=by
 cases r with|ok d S=>exact λρ' H' v f st r=>h ρ' H' v f st #[r,λz=>by cases z]|_=>exact h
def Zcl{n:Nat}{tg:Expr}(he:CE X xw C e i)(hg:CG X tg [n])(hf:Pv.fresh i=aj)(hs:dy [tg] e pos.line X.env=cy aj)(hw:dz [tg] e X.env=cy ag)
  (h1:(cf [tg] X.env).map (·.2)=[dL tg X.env]):CS X xw fr C ns (.Assign [tg] e pos) (.asg [n] i):=.mk <| PS.imp (XU he.h hg.h hs hw h1)<|by
 right;rw[Pv.rE1]at h;obtain⟨ρ',l',S',a,b,c⟩:=Zx.evA (Q1:=λx H1=>tGU X.K [n] x O H1 D.nx) aj (λz=>by rw[hf]at z;cases z) st en h λd S1 H1 v f1 st1 r1 h1=>by
  rw[hf,mE,T8 aO]at h1;exact h1 H1 _ _ st1<|(en.mono f1).drop (o:=aa d) λ_ z=>by cases z;exact r1.1.lat Lat.noW
 exact#[ρ',l',S',a,b,c.unfr]
def Zgx{D:Ends}{Z:Mx}{H0 H:Hp}{W:Own}{l:Lc}{os:List Nat}{O:L2.St}{S:Zv}{n:Nat}(st:St3 X.K Z S H)(en:Eu Z H0 W l os O H)(h:Zx fr X.K xw Z H0 D (Pv.rv C ns (.asg [n] i) l os S)):tF X xw (Pv.pv C i) O H λx H1=>D.nx (O.set n<|aa x) H1:=by
 rw[Pv.rE1]at h;refine Zx.evA al (λ_=>rfl) st en h λd S1 H1 v f1 st1 r1 h1=>?_
 by_cases c:(ns.contains n&&Pv.fresh i)=al
 .rw[T9 c]at h1
  cases d with
  |lst xs=>
   obtain⟨⟨hf,hl⟩,h1⟩:=Zx.guard h1;obtain⟨a,rfl,ha⟩:=r1.2 rfl xs rfl;exact h1 H1 _ _ st1<|en.take st.xd f1 ha hf r1.1 hl
  |_=>exact h1.elim
 .rw[T8 c]at h1
  exact h1 H1 _ _ st1<|(en.mono f1).drop (o:=aa d) λ_ z=>by cases z;exact r1.1.lat Lat.noW
def ZbC{n:Nat}{tg:Expr}(he:CF X xw C e i)(hg:CG X tg [n])(hs:dy [tg] e pos.line X.env=cy aj)(hw:dz [tg] e X.env=cy ag)
  (h1:(cf [tg] X.env).map (·.2)=[dL tg X.env]):CS X xw fr C ns (.Assign [tg] e pos) (.asg [n] i):=.mk <| PS.imp (XU he.h hg.h hs hw h1)<|by right;exact Zgx st en h
def Zeo{n m:Nat}{t:List Nat}{tg:Expr}(he:CE X xw C e i)(hg:CG X tg (n::m::t))(hf:Pv.fresh i=aj)(hs:dy [tg] e pos.line X.env=cy aj)(hw:dz [tg] e X.env=cy ag)
  (h1:(cf [tg] X.env).map (·.2)=[dL tg X.env]):CS X xw fr C ns (.Assign [tg] e pos) (.asg (n::m::t) i):=.mk <| PS.imp (XU he.h hg.h hs hw h1)<|by
 right;rw[Pv.rE2]at h
 .obtain⟨ρ',l',S',a,b,c⟩:=Zx.evA (Q1:=λx H1=>tGU X.K (n::m::t) x O H1 D.nx) aj (λz=>by rw[hf]at z;cases z) st en h λd S1 H1 v f1 st1 r1 h1=>by
   obtain⟨ht,h1⟩:=h1.guardN;obtain⟨l',hl,h1⟩:=Zx.ob h1;exact(en.mono f1).assign (by simpa using ht) r1.1 hl λσ' e'=>h1 H1 σ' W st1 e'
  exact#[ρ',l',S',a,b,c.unfr]
 .intro _ z;cases z
end
theorem Eu.at{Z:Mx}{H0 H:Hp}{W:Own}{l:Lc}{os:List Nat}{O:L2.St}{i:Nat}{xs:List D}(h:Eu Z H0 W l os O H)(hi:os.contains i=al)(hx:Pv.vx l[i]?=aa xs):∃a,W i=aa a/\O[i]?=aa (aa<|.ref a)/\∃us,H a=aa (.lst us)/\Rq (Z.ex W) H xs us:=by
 rw[h.osW]at hi;obtain⟨a,w⟩:=cU.mp hi;obtain⟨d,p,c,r⟩:=h.own i a w;rw[p]at hx;cases d with|lst ys=>cases hx;exact#[a,w,c,r]|_=>cases hx
section
variable{X:Cx}{xw:Nat->Hp->Prop}{fr:Bool}{C:Calls}{ns:List Nat}{e a b c:Expr}{i j k:E}{pos p p' p2:fD}{s0:ef}{ms ms':List Sm}{n:Nat}{x:bn}
def ua{apos cpos:fD}(he:CE X xw C e i)(hN:X.N[n]?=aa x)(hv:Vis X.env.scope x)(hd:(x == #[11])=aj)
  (hcd:(x == #[16])=aj)
  (hbase:m9 (.Name x p) "append" X.env (cD (.Name x p) X.env)=cD (.Name x p) X.env)
  (hfew:((dG cpos<|aE [e] X.env).all (λx=>!x.1)&&(backToKw cpos<|o6 [] X.env).all (λx=>x.1.isSome)
   && ai (([e]:List Expr).length+([]:List oa).length+(if([]:List oa).isEmpty then 0 else 1)<30))=al)
  (hline:(apos.endLine == cpos.line)=al)(hs:aE [e] X.env=(aj,cD e X.env)::aE [] X.env)(hplain:(dG cpos<|aE [] X.env).any (·.1)=aj)
  (hw:ej (.Call (.Attribute (.Name x p) "append" apos) [e] [] cpos) ag pos.line X.env=cy aj) :
  CS X xw fr C ns (.Expr (.Call (.Attribute (.Name x p) "append" apos) [e] [] cpos) pos) (.ex<|.mt .append (.v n) [i]):=.mk <|
 PS.imp (Um (wb fb gC gD Wv (Yo hN hv hd hcd) (ZB he.h Yq hs) hbase hfew hline hs hplain) hw)<|by
 right;rw[Pv.Zfr]at h;obtain⟨c,h⟩:=h.guard;obtain⟨xs,hx,h⟩:=Zx.ob h;obtain⟨a,ha,q,us,e1,_⟩:=en.at c hx;refine#[.ref a,q,.inl #[rfl,us,SqL.of e1],Z,l,S,st,en.all,Zx.bind en h λy S1 H1 v f1 st1 r1 h1=>?_]
 obtain⟨⟨hf,hl⟩,h1⟩:=h1.guard;have en1:=en.mono f1;obtain⟨a',ha',_,us,e2,r'⟩:=en1.at c hx;rw[ha]at ha';cases ha';exact#[a,us,v,rfl,rfl,e2,by rw[r'.length,<-YO];exact hl,h1 _ _ W (st1.mut en1 ha)<|en1.mut ha<|r'.append<|Rq.cons (Rep.flat (Z:=Z) (ρ':=Z.ex W) rfl (λ_ _ z _ _=>z) hf r1) Rq.nil]
def Ze3{es:List Expr}{is:List E}{tg:Expr}(h:CA X xw C es is)(hg:CG X tg [n])(hs:dy [tg] (.List es p) pos.line X.env=cy aj)(hw:dz [tg] (.List es p) X.env=cy ag)
  (h1:(cf [tg] X.env).map (·.2)=[dL tg X.env]):CS X xw fr C ns (.Assign [tg] (.List es p) pos) (.lnw n is):=.mk <| PS.imp (XU (VH h.h) hg.h hs hw h1)<|by
 right;rw[Pv.ZgI]at h;refine#[Z.ex W,Pv.hide os l,S,en.st st,en.hid,Zx.bindW en h λds S1 H1 vs f1 st1 r1 h1=>?_]
 obtain⟨⟨hl,hi⟩,h1⟩:=h1.guard;refine#[by rw[r1.length,<-YO];exact hl,λa ha=>?_]
 have en1:=en.mono f1;have nx:¬(Z.ex W).X a:=λz=>z.elim (λz=>st1.xd a z ha) λ#[j,w]=>let #[_,_,_,z]:=en1.own j a w;T7 ha z.ne
 exact h1 _ _ _ (st1.fresh ha)<|en1.takeO (d:=.lst ds) st1.xd (Zp ha) ha nx #[vs,Zj,r1.lat<|Lat.put ha] hi
def Zf5{es:List Expr}{is:List E}{tg:Expr}{q p3:fD}(h:CA X xw C es is)(hg:CG X tg [n])(hN:X.N[n]?=aa x)(hv:Vis X.env.scope x)(hd:(x == #[11])=aj)(hcd:(x == #[16])=aj)
  (hs:dy [tg] (.BinOp (.Name x p) .Add (.List es q) p3) pos.line X.env=cy aj)(hw:dz [tg] (.BinOp (.Name x p) .Add (.List es q) p3) X.env=cy ag)
  (h1:(cf [tg] X.env).map (·.2)=[dL tg X.env]):CS X xw fr C ns (.Assign [tg] (.BinOp (.Name x p) .Add (.List es q) p3) pos) (.cat n is):=.mk <| PS.imp (XU (W0 Gd (Yo hN hv hd hcd)<|VH h.h) hg.h hs hw h1)<|by
 right;rw[Pv.ZgH]at h;obtain⟨c,h⟩:=h.guard;obtain⟨xs,hx,h⟩:=Zx.ob h;obtain⟨a,ha,hq,us,e1,_⟩:=en.at c hx;refine#[.ref a,hq,Z.ex W,Pv.hide os l,S,en.st st,en.hid,Zx.bindW en h λds S1 H1 vs f1 st1 r1 h1=>?_]
 obtain⟨⟨hl,hm,hi⟩,h1⟩:=h1.guard;refine#[by rw[r1.length,<-YO];exact hl,λb hb=>?_]
 have en1:=en.mono f1;have en2:=en1.mono<|Zp (o:=.lst vs) hb;have st2:=st1.fresh (o:=.lst vs) hb;obtain⟨a',ha',_,us,e2,r'⟩:=en2.at c hx;rw[ha]at ha';cases ha';have r1:=r1.mono<|Zp (Z:=Z.ex W) (o:=.lst vs) hb;refine#[a,b,us,vs,rfl,rfl,e2,Zj,by rw[r'.length,r1.length,<-YO];exact hm,λd hd=>?_]
 have nx:¬(Z.ex W).X d:=λz=>z.elim (λz=>st2.xd d z hd) λ#[j,w]=>let #[_,_,_,z]:=en2.own j d w;T7 hd z.ne
 exact h1 _ _ _ (st2.fresh hd)<|en2.takeO (d:=.lst<|xs++ds) st2.xd (Zp hd) hd nx #[us++vs,Zj,(r'.append r1).lat<|Lat.put hd] hi
def Zff{apos cpos:fD}(he:CE X xw C e i)(hN:X.N[n]?=aa x)(hv:Vis X.env.scope x)(hd:(x == #[11])=aj)(hcd:(x == #[16])=aj)
  (hbase:m9 (.Name x p) "append" X.env (cD (.Name x p) X.env)=cD (.Name x p) X.env)
  (hfew:((dG cpos<|aE [e] X.env).all (λx=>!x.1)&&(backToKw cpos<|o6 [] X.env).all (λx=>x.1.isSome)
   && ai (([e]:List Expr).length+([]:List oa).length+(if([]:List oa).isEmpty then 0 else 1)<30))=al)
  (hline:(apos.endLine == cpos.line)=al)(hs:aE [e] X.env=(aj,cD e X.env)::aE [] X.env)(hplain:(dG cpos<|aE [] X.env).any (·.1)=aj)
  (hw:ej (.Call (.Attribute (.Name x p) "append" apos) [e] [] cpos) ag pos.line X.env=cy aj) :
  CS X xw fr C ns (.Expr (.Call (.Attribute (.Name x p) "append" apos) [e] [] cpos) pos) (.app n i):=.mk <|
 PS.imp (Um (wb fb gC gD Wv (Yo hN hv hd hcd) (ZB he.h Yq hs) hbase hfew hline hs hplain) hw)<|by
 right;rw[Pv.Zgs]at h;obtain⟨c,h⟩:=h.guard;obtain⟨xs,hx,h⟩:=Zx.ob h;obtain⟨a,ha,q,us,e1,_⟩:=en.at c hx;refine#[.ref a,q,.inl #[rfl,us,SqL.of e1],Z.ex W,Pv.hide os l,S,en.st st,en.hid,Zx.bindW en h λy S1 H1 v f1 st1 r1 h1=>?_]
 obtain⟨hl,h1⟩:=h1.guard;have en1:=en.mono f1;obtain⟨a',ha',_,us,e2,r'⟩:=en1.at c hx;rw[ha]at ha';cases ha';exact#[a,us,v,rfl,rfl,e2,by rw[r'.length,<-YO];exact hl,h1 _ _ W (st1.mut en1 ha)<|en1.mut ha<|r'.append<|Rq.cons r1 Rq.nil]
def Zga{m:Nat}{y:bn}{px py pt:fD}{kt k2 pt2}(hc:X.calm=al)(hN:X.N.Nodup)(ha:CA X xw C [a,b] [i,j])(hnm:n≠m)(hi:X.N[n]?=aa x)(hj:X.N[m]?=aa y)
  (hx:X.env.scope.names.lookup x=aa .local)(hy:X.env.scope.names.lookup y=aa .local)
  (hw:dz [.Tuple [.Name x px,.Name y py] kt pt] (.Tuple [a,b] k2 pt2) X.env=cy (aa [x,y]))
  (hs:dy [.Tuple [.Name x px,.Name y py] kt pt] (.Tuple [a,b] k2 pt2) pos.line X.env=cy aj) :
  CS X xw fr C ns (.Assign [.Tuple [.Name x px,.Name y py] kt pt] (.Tuple [a,b] k2 pt2) pos) (.par [n,m] [i,j]):=.mk <|
 PS.imp (ZeF hc hN hi hj hnm hx hy ha.h hw hs)<|by
 right;rw[Pv.rE3]at h;have fin:∀{vs:List Pv.V}{us:List V}{S1:Zv}{H1:Hp},Fut Z H Z H1->St3 X.K Z S1 H1->Rq (Z.ex W) H1 vs us->Zx fr X.K xw Z H0 D (if([n,m].any os.contains)=al then .no else(Pv.po (Pv.YR [n,m] vs l) S1).bind λZ s=>.ok (.nx Z os) s)->∃v w,us=[v,w]/\D.nx ((O.set n<|aa v).set m<|aa w) H1:=λ{vs us S1 H1} f1 st1 r1 h1=>by
  obtain⟨ht,h1⟩:=h1.guardN;obtain⟨l',hl,h1⟩:=Zx.ob h1;obtain⟨hz,e'⟩:=(en.mono f1).fill (by simpa using ht) r1 hl
  match us,hz,e' with
  |[v,w],_,e'=>exact#[v,w,rfl,h1 H1 _ W st1 e']
 cases os with
 |nil=>exact#[Z.ex W,Pv.hide [] l,S,en.st st,en.hid,Zx.bindW en (by rw[hide_nil];exact h) λvs S1 H1 us f1 st1 r1 h1=>fin f1 st1 r1 h1]
 |cons o os=>
  have h:Zx fr X.K xw Z H0 D (Pv.PR.bind (match Pv.pvs C [i,j] (Pv.hide (o::os) l) S with
   |.ok v s=>.ok v s
   |.ex c s=>.ex c s
   |.no=>(Pv.pvs C [i,j] l S).bind λv s=>if Pv.YQ v then .ok v s else .no) _):=h
  cases q:Pv.pvs C [i,j] (Pv.hide (o::os) l) S with
  |ok v s=>rw[q]at h;exact#[Z.ex W,_,S,en.st st,en.hid,Zx.bindW en (by rw[q];exact h) λvs S1 H1 us f1 st1 r1 h1=>fin f1 st1 r1 h1]
  |ex c s=>rw[q]at h;exact#[Z.ex W,_,S,en.st st,en.hid,Zx.bindW en (by rw[q];exact h) λvs S1 H1 us f1 st1 r1 h1=>fin f1 st1 r1 h1]
  |no=>
   rw[q]at h;have h:Zx fr X.K xw Z H0 D (((Pv.pvs C [i,j] l S).bind λv s=>if Pv.YQ v=al then Pv.PR.ok v s else .no).bind _):=h
   rw[XV]at h;refine#[Z,l,S,st,en.all,Zx.bind en h λvs S1 H1 us f1 st1 r1 h1=>?_]
   by_cases c:Pv.YQ vs=al
   case neg=>rw[T8 c]at h1;exact h1.elim
   rw[T9 c]at h1;exact fin f1 st1 (Rq.flat (Z:=Z) (ρ':=Z.ex W) rfl (λ_ _ z _ _=>z) c r1) h1
structure AugOk(X:Cx)(op:pG)(o:Bop):Prop where
 h:∃t:TIp,PIp X op t/\∀(xw:Nat->Hp->Prop) Z S H n m Q,St3 X.K Z S H->End X.K xw Rep Z H Q (Pv.XS o (.int n) (.int m) S)->t (.int n) (.int m) H Q
def Zbb:AugOk X .Add .add:=#[_,ZbQ,λxw Z S H n m Q st h=>#[n,m,rfl,rfl,End.ok h st<|ZT _]]
def qa{o:Bop}{a b:Int}{S S':Zv}{z:D}(h:Pv.V0 o a b S=.ok z S'):∃y,z=.int y:=by
 unfold Pv.V0 at h;cases o<;>simp only at h<;>first
  |(cases h;exact#[_,rfl])
  |(split at h<;>cases h;exact#[_,rfl])
def ZeR{op:pG}{o:Bop}(ho:AugOk X op o)(hN:X.N.Nodup)(he:CE X xw C e i)(hi:X.N[n]?=aa x)(hx:L2.Loc X.env.scope x)(hf:X.fn x=al\/X.env.scope.names.lookup x=aa .local) :
  CS X xw fr C ns (.AugAssign (.Name x p) op e pos) (.aug n o i):=.mk <| by
 obtain⟨t,ht,hq⟩:=ho.h;refine PS.imp (ZfS hN hi hx he.h ht hf) λD O H #[Z,H0,W,l,os,S,st,en,h]=>?_
 rw[Pv.rE4]at h;obtain⟨c,h⟩:=h.guardN;obtain⟨d,hd,h1⟩:=Zx.ob h;obtain⟨v,hv,rv⟩:=en.all.val n d (by cases q:l[n]?<;>rw[q]at hd<;>cases hd;rfl)
 refine#[v,hv,Z,l,S,st,en.all,Zx.bind en h1 λy S1 H1 u f1 st1 r1 h2=>?_]
 cases d with
 |int m=>cases y with
  |int m'=>
   rw[rv.int',r1.int'];have h2:Zx fr X.K xw Z H0 D ((Pv.V0 o m m' S1).bind λz S=>.ok (.nx (l.set n<|aa z) os) S):=h2
   refine hq xw Z S1 H1 m m' _ st1 (show End X.K xw Rep Z H1 _ (Pv.V0 o m m' S1)from ?_)
   have en1:=en.mono f1;cases q:Pv.V0 o m m' S1 with
   |no=>rw[q]at h2;exact h2
   |ex c S2=>rw[q]at h2;exact λρ1 H2 g s2=>by cases g.eq;exact h2 H2 (en1.fut.trans g) s2
   |ok z S2=>
    rw[q]at h2;obtain⟨y,rfl⟩:=qa q;exact λρ1 H2 w g s2 r2=>by
     cases g.eq;cases r2.int';exact h2 H2 _ W s2<|(en1.mono g).set (o:=aa<|.int y) (by simpa using c) λ_ z=>by cases z;exact ZT _
  |_=>exact False.elim h2
 |_=>exact False.elim h2
def ZaQ{body:List ef}(hp:mP #[9] X.A X.env X.xe)(hc:CT X xw C c k)(hb:CSs X xw fr C ns body ms):CS X xw fr C ns (.While c body [] pos) (.whl k ms):=.mk <| PS.imp (ZaM hp hc.h hb.h)<|by
 right;refine#[λm σ' H'=>∃W' l' os' S',St3 X.K Z S' H'/\Eu Z H0 W' l' os' σ' H'/\Zx fr X.K xw Z H0 D (Pv.Ym (Pv.Yv C k) (Pv.rvs C ns ms) m l' os' S'),#[Ev.zY,W,l,os,S,st,en,h],?_]
 rintro m σ' H' ⟨W',l',os',S',st',en',e'⟩
 cases m with
 |zero=>exact False.elim e'
 |succ m=>
  rw[Pv.Ym]at e';refine#[Z,l',S',st',en'.all,Zx.bind en' e' λb S1 H1 b' f1 st1 r1 h1=>?_]
  have eb:b=b':=r1;subst eb;cases b with
  |false=>
   rw[T8 aO]at h1 ⊢;exact h1 H1 σ' W' st1<|en'.mono f1
  |true=>
   rw[T9 rfl]at h1 ⊢;refine#[λσ2 H2=>∃W2 l2 os2 S2,St3 X.K Z S2 H2/\Eu Z H0 W2 l2 os2 σ2 H2/\Zx fr X.K xw Z H0 D (Pv.Ym (Pv.Yv C k) (Pv.rvs C ns ms) m l2 os2 S2),λσ2 H2 w=>#[m,fY m,w],Z,H0,W',l',os',S1,st1,en'.mono f1,?_]
   cases q:Pv.rvs C ns ms l' os' S1 with
   |no=>rw[q]at h1;exact h1
   |ex c S2=>rw[q]at h1;exact h1
   |ok fl S2=>
    rw[q]at h1;cases fl with|nx l3 os3=>exact λH4 σ4 W4 st4 lr4=>#[W4,l3,os3,S2,st4,lr4,h1]|ret d=>exact h1
end
structure WRel(K:ao)(Z:Mx)(H:Hp)(w:List D)(J:It):Prop where
 go:∀(i:Nat) ρ' S' H',Lat Z H ρ' H'->St3 K ρ' S' H'->i<w.length->J.go i H'/\∀x H'',J.yld i H' x H''->Fut ρ' H' ρ' H''/\St3 K ρ' S' H''/\∀d,w[i]?=aa d->Rep ρ' H'' d x
 stop:∀ρ' S' H',Lat Z H ρ' H'->St3 K ρ' S' H'->J.stop w.length H'
section
variable(X:Cx)(xw:Nat->Hp->Prop)
def tW3(f:Lc->Zv->R (List D)):TI:=λO H Q=>∃Z l S,St3 X.K Z S H/\LocR Z H l O/\End X.K xw (WRel X.K) Z H Q (f l S)
structure CW(C:Calls)(tg it:Expr)(w:Ev.W):Prop where
 h:PI X tg it (tW3 X xw<|Pv.pvw C w)
end
def PI.imp(h:PI X tg it t)(k:∀O H Q,t' O H Q->t O H Q):PI X tg it t':=λpq s O H R I q=>h pq s O H R I<|k O H R q
section
variable{X:Cx}{xw:Nat->Hp->Prop}{C:Calls}{e a b c tg it:Expr}{i j k:E}{pos p p' p2:fD}
def ZhL(K:ao)(tl:TE):TI:=λO H R=>tl O H λx H1=>∃a,x=.ref a/\(((∃xs,SqL K H1 a xs)/\R (Itl K a) H1)\/((∃xs,SqT K H1 a xs)/\R (Itt K a) H1))
def jG(hl:PE X l tl):PI X tg l (ZhL X.K tl):=by
 intro pq s O H R I h;refine thn (hl pq s O H _ I h) λv s1 #[x,H1,I1,r1,a,e,q]=>?_
 subst e;cases r1;rcases q with⟨⟨xs,hq⟩,q⟩|⟨⟨xs,hq⟩,q⟩
 .obtain⟨its,rv,p,hz⟩:=I1.list hq
  refine fE p.isList ?_;refine#[s1.heap.objs.size,[s1.heap.objs.size],_,_,H1,rfl,I1.kept (t':=s1.toks) λb o e=>av _ e,uy a _,#[_,aM _ rfl,rfl,rfl],λb hb=>?_,q]
  have e:b=s1.heap.objs.size:=by simpa using hb
  subst e;exact I1.fpOk (aF _)<|I1.hok.fresh<|aF _
 .obtain⟨its,rv,p,hz⟩:=I1.tuple hq
  refine gN (p) ?_
  refine#[s1.heap.objs.size,[s1.heap.objs.size],_,_,H1,rfl,I1.kept (t':=s1.toks) λb o e=>av _ e,yI a _,#[_,aM _ rfl,rfl,rfl],λb hb=>?_,q]
  have e:b=s1.heap.objs.size:=by simpa using hb
  subst e;exact I1.fpOk (aF _)<|I1.hok.fresh<|aF _
def VD{K:ao}{Z:Mx}{H:Hp}{ds:List D}{xs:List V}{J:It}(r:Rq Z H ds xs)(hg:∀ρ' H',Lat Z H ρ' H'->(∀i x,xs[i]?=aa x->J.go i H'/\∀y H'',J.yld i H' y H''->H''=H'/\y=x)/\∀n,n=xs.length->J.stop n H'):WRel K Z H ds J where
 go:=λi ρ' S' H' f st hi=>by
  obtain⟨v,g,r'⟩:=(r.lat f).get<|af hi;obtain⟨a,b⟩:=(hg ρ' H' f).1 i v g;refine#[a,λx H'' y=>?_]
  obtain⟨rfl,rfl⟩:=b x H'' y;exact#[Fut.refl _ _,st,λd hd=>by rw[af hi]at hd;cases hd;exact r']
 stop:=λρ' S' H' f st=>(hg ρ' H' f).2 _ r.length.symm
def jh{K K':ao}{Z:Mx}{H:Hp}{ds:List D}{a:aD}{xs:List V}(hp:H a=aa (.tup xs))(r:Rq Z H ds xs):WRel K Z H ds (Itt K' a):=VD r λρ' H' f=>by
 have h:=SqT.of (K:=K')<|f.keep a _ hp λ_ z=>by cases z
 exact#[λi x g=>#[#[xs,x,h,g],λy H'' z=>#[z.1,by have:=z.2 xs h;rw[g]at this;exact(aq this).symm]],λn e=>#[xs,h,by omega]]
def Gg{K K':ao}{Z:Mx}{H:Hp}{ds:List D}{a:aD}{xs:List V}(hp:∀ρ' H',Lat Z H ρ' H'->SqL K' H' a xs)(r:Rq Z H ds xs):WRel K Z H ds (Itl K' a):=VD r λρ' H' f=>by
 have h:=hp ρ' H' f;exact#[λi x g=>#[#[xs,x,h,g],λy H'' z=>#[z.1,by have:=z.2 xs h;rw[g]at this;exact(aq this).symm]],λn e=>#[xs,h,by omega]]
def Q6(lo:Int)(n:Nat):(Pv.YE lo n).length=n:=by unfold Pv.YE;rw[ay,bo]
theorem Q4(lo:Int):∀(l:List Nat),Rq Z H (l.map λ(k:Nat)=>Pv.V.int<|lo+(k:Int)) (l.map λ(k:Nat)=>V.int<|lo+(k:Int))
 |[]=>Rq.nil
 |_::l=>Rq.cons (ZT _)<|Q4 lo l
def yq{K:ao}{Z:Mx}{H:Hp}{lo:Int}{n:Nat}:WRel K Z H (Pv.YE lo n) (Itr lo n):=VD (Q4 lo<|aP n) λρ' H' f=>by
 refine#[λi x g=>?_,λm e=>?_]
 .have hi:i<n:=by have:=(aK.mp g).1;simpa using this
  rw[aJ,cp hi]at g;exact#[hi,λy H'' z=>#[z.1,z.2.trans<|aq g]]
 .rw[ay,bo]at e;show n<=m;omega
def ZgE(he:CE X xw C e i):CW X xw C tg e (.of i):=.mk <| PI.imp (jG he.h)<|by
 left;rw[Pv.wE7]at h;refine#[Z,l,S,st,lr,h.bind λx S1 ρ1 H1 v f1 st1 r1 h1=>?_]
 obtain⟨ds,hd,h1⟩:=End.po h1;have q:∀{J},WRel X.K ρ1 H1 ds J->Q J H1:=λw=>End.ok (rep:=WRel X.K) h1 st1 w
 cases x with
 |tup ds=>cases hd;obtain⟨a,xs,rfl,hp,r⟩:=r1.tup';exact#[a,rfl,.inr #[#[xs,SqT.of hp],q<|jh hp r]]
 |lst ds=>cases hd;obtain⟨a,xs,rfl,hp,hx,r⟩:=r1.lst';exact#[a,rfl,.inl #[#[xs,SqL.of hp],q<|Gg (λρ' H' f=>SqL.of<|f.keep a _ hp λ_ _=>hx) r]]
 |scr ns=>
  cases hd;obtain⟨a,rfl,hp⟩:=r1.scr';rw[st1.hk]at hp;refine#[a,rfl,.inl #[#[_,hp.sq],q<|Gg (λρ' H' f=>?_)<|Rq.ints ns]]
  rcases hp with⟨o,hp⟩|hp
  .exact .inl<|.inr #[o,f.keep a _ hp λ_ z=>by cases z]
  .exact .inr hp
 |_=>exact Ev.nos hd
def Zeb{B β:Type}{rep:Mx->Hp->B->β->Prop}{Z:Mx}{l:Lc}{S:Zv}{O:L2.St}{H:Hp}{Q:β->Hp->Prop}{Q1:List V->Hp->Prop}{g:D->Zv->R B}(st:St3 X.K Z S H)(lr:LocR Z H l O)(h:End X.K xw rep Z H Q ((Pv.pv C i l S).bind g))
  (k:∀x S1 ρ1 H1 v,St3 X.K ρ1 S1 H1->Rep ρ1 H1 x v->End X.K xw rep ρ1 H1 Q (g x S1)->Q1 [v] H1):tA X xw (Pv.pvs C [i]) O H Q1:=by
 refine#[Z,l,S,st,lr,?_];show End X.K xw Rq Z H _ ((Pv.pv C i l S).bind λx S=>.ok [x] S)
 cases q:Pv.pv C i l S with
 |no=>rw[q]at h;exact h
 |ex c S1=>rw[q]at h;exact h
 |ok x S1=>
  rw[q]at h;intro ρ1 H1 vs f1 st1 r1;obtain⟨v,rfl,r⟩:=j6 r1;exact k x S1 ρ1 H1 v st1 r<|End.mono f1 h
def ZdR{B β:Type}{rep:Mx->Hp->B->β->Prop}{Z:Mx}{l:Lc}{S:Zv}{O:L2.St}{H:Hp}{Q:β->Hp->Prop}{Q1:List V->Hp->Prop}{g:D->D->Zv->R B}(st:St3 X.K Z S H)(lr:LocR Z H l O)(h:End X.K xw rep Z H Q ((Pv.pv C i l S).bind λx S=>(Pv.pv C j l S).bind λy S=>g x y S))
  (k:∀x y S1 ρ1 H1 v u,St3 X.K ρ1 S1 H1->Rep ρ1 H1 x v->Rep ρ1 H1 y u->End X.K xw rep ρ1 H1 Q (g x y S1)->Q1 [v,u] H1):tA X xw (Pv.pvs C [i,j]) O H Q1:=by
 refine#[Z,l,S,st,lr,?_];show End X.K xw Rq Z H _ ((Pv.pv C i l S).bind λx S=>((Pv.pv C j l S).bind λy S=>.ok [y] S).bind λxs S=>.ok (x::xs) S)
 cases q:Pv.pv C i l S with
 |no=>rw[q]at h;exact h
 |ex c S1=>rw[q]at h;exact h
 |ok x S1=>
  rw[q]at h;have h:End X.K xw rep Z H Q ((Pv.pv C j l S1).bind λy S=>g x y S):=h
  show End X.K xw Rq Z H _ (((Pv.pv C j l S1).bind λy S=>.ok [y] S).bind λxs S=>.ok (x::xs) S)
  cases q2:Pv.pv C j l S1 with
  |no=>rw[q2]at h;exact h
  |ex c S2=>rw[q2]at h;exact h
  |ok y S2=>
   rw[q2]at h;intro ρ1 H1 vs f1 st1 r1;obtain⟨v,u,rfl,rv,ru⟩:=zS r1;exact k x y S2 ρ1 H1 v u st1 rv ru<|End.mono f1 h
def Xu(h:Ev.WC n=al):-(2^62)<=n/\n<2^62:=T6 h
def Zcz(hm:X.mg "range" = ag)(ha:CA X xw C [a] [i])(hg:Gl X "range")(hs:aE [a] X.env=[(aj,cD a X.env)]):CW X xw C tg (.Call (.Name "range" p) [a] [] pos) (.rng1 i):=.mk <|
 PI.imp (uo hg hm ha.h hs) λO H Q #[Z,l,S,st,lr,h]=>Zeb st lr h λx S1 ρ1 H1 v st1 r h1=>by
  cases x with
  |int n=>
   obtain⟨hs,h2⟩:=End.guard h1;exact#[n,by rw[r.int'],(Xu hs).1,(Xu hs).2,End.ok h2 st1 yq]
  |_=>exact False.elim h1
def ZbB(hm:X.mg "range" = ag)(ha:CA X xw C [a,b] [i,j])(hg:Gl X "range")(hs:aE [a,b] X.env=[(aj,cD a X.env),(aj,cD b X.env)])(hs2:aE [b] X.env=[(aj,cD b X.env)]) :
  CW X xw C tg (.Call (.Name "range" p) [a,b] [] pos) (.rng2 i j):=.mk <|
 PI.imp (uZ hg hm ha.h hs hs2) λO H Q #[Z,l,S,st,lr,h]=>ZdR st lr h λx y S1 ρ1 H1 v u st1 rv ru h1=>by
  cases x with
  |int n=>cases y with
   |int m=>
    obtain⟨hs,h3⟩:=End.guard h1;obtain⟨s1,s2⟩:=(aG _ _).mp hs;exact#[n,m,by rw[rv.int',ru.int'],#[(Xu s1).1,(Xu s1).2,(Xu s2).1,(Xu s2).2],End.ok h3 st1 yq]
   |_=>exact False.elim h1
  |_=>exact False.elim h1
def xU{D:Ends}{O:L2.St}{Z:Mx}{H0 H1:Hp}{W:Own}{l:Lc}{os:List Nat}{S1:Zv}{J:It}{wk:List Pv.V}{fr:Bool}{ns:List Nat}{ms:List Sm}{t:List Nat}(st1:St3 X.K Z S1 H1)(en:Eu Z H0 W l os O H1)(r1:WRel X.K (Z.ex W) H1 wk J)
  (h1:Zx fr X.K xw Z H0 D (Pv.YZ (λx Z os s=>if(t.any<|kT os)=al then(.no:Pv.PR Pv.FlV)else(Pv.po (Pv.Zo t x Z) s).bind λZ s=>Pv.rvs C ns ms Z os s) wk l os S1)):∃W:Nat->Nat->L2.St->Hp->Prop,(∃m,W 0 m O H1)/\∀i m O H,W i m O H->
   (J.stop i H/\D.nx O H)\/(J.go i H/\∃N:L2.St->Hp->Prop,(∀σ' H',N σ' H'->∃m',m'<m/\W (i+1) m' σ' H')/\∀x H',J.yld i H x H'->tGU X.K t x O H' λσ2 H2=>tS3 X xw fr (Pv.rvs C ns ms) {D with nx:=N,ct:=N,bk:=D.nx} σ2 H2):=by
 obtain⟨bs,en1⟩:=en.off st1.xd;have h1:=h1.rebase bs en.xd;generalize hB:(λx Z os s=>if(t.any<|kT os)=al then(.no:Pv.PR Pv.FlV)else(Pv.po (Pv.Zo t x Z) s).bind λZ s=>Pv.rvs C ns ms Z os s)=B at h1
 let I:Nat->L2.St->Hp->Prop:=λn σ' H'=>∃W' l' os' S',St3 X.K Z S' H'/\Eu Z (QD H1 W) W' l' os' σ' H'/\Zx fr X.K xw Z (QD H1 W) D (Pv.YZ B (wk.drop n) l' os' S')
 refine#[λn m σ' H'=>m=wk.length-n/\n<=wk.length/\I n σ' H',#[wk.length,rfl,dD _,W,l,os,S1,st1,en1,h1],?_]
 rintro n m σ' H' ⟨rfl,hn,W',l',os',S',st',en',e'⟩
 have lat:=en.walk en';by_cases hlt:n<wk.length
 .refine .inr ?_
  rw[cr hlt,Pv.YZ]at e';obtain⟨go,yl⟩:=r1.go n _ S' H' lat (en'.st st') hlt;refine#[go,I<|n+1,λσ2 H2 q=>#[wk.length-(n+1),iA _ _ hlt,rfl,hlt,q],λx H3 y=>?_]
  obtain⟨f3,st3,rp⟩:=yl x H3 y;have rx:=rp _<|af hlt;have f3:Fut Z H' Z H3:=#[rfl,f3.keep];have hBn:B wk[n] l' os' S'=if(t.any<|kT os')=al then(.no:Pv.PR Pv.FlV)else(Pv.po (Pv.Zo t wk[n] l') S').bind λZ s=>Pv.rvs C ns ms Z os' s:=by rw[<-hB]
  rw[hBn]at e';by_cases c:(t.any<|kT os')=al
  .rw[T9 c]at e';exact e'.elim
  rw[T8 c]at e';cases ha:Pv.Zo t wk[n] l' with
  |none=>rw[ha]at e';exact e'.elim
  |some l2=>
   rw[ha]at e';refine(en'.mono f3).assign (by simpa using c) rx ha λσ2 e2=>#[Z,_,W',l2,os',S',st3.unex,e2,?_]
   have e':Zx fr X.K xw Z (QD H1 W) D ((Pv.rvs C ns ms l2 os' S').bind _):=e';cases q:Pv.rvs C ns ms l2 os' S' with
   |no=>rw[q]at e';exact e'
   |ex c S2=>rw[q]at e';exact e'
   |ok fl S2=>
    rw[q]at e';cases fl with|nx l3 os3=>exact λH4 σ4 W4 st4 lr4=>#[W4,l3,os3,S2,st4,lr4,e']|ret d=>exact e'
 .refine .inl ?_
  have en2:n=wk.length:=by omega
  subst en2;rw[ek]at e';exact#[r1.stop _ S' H' lat<|en'.st st',e' H' σ' W' st' en']
def ZeC{body:List ef}{fr:Bool}{ns:List Nat}{ms:List Sm}{w:Ev.W}{t:List Nat}(hp:mP #[9] X.A X.env X.xe)(hc:X.calm=al)(hw:CW X xw C tg it w)(hg:CG X tg t)(hb:CSs X xw fr C ns body ms)
  (hs:∀x,dH it X.env x=cy x):CS X xw fr C ns (.For tg it body [] pos) (.forr t w ms):=.mk <| PS.imp (ZaF hp hc hw.h hg.h hb.h hs)<|by
 right;rw[Pv.Qx]at h;refine#[Z.ex W,Pv.hide os l,S,en.st st,en.hid,Zx.bindW en h λwk S1 H1 J f1 st1 r1 h1=>xU st1 (en.mono f1) r1 h1]
def Zc1{body:List ef}{fr:Bool}{ns:List Nat}{ms:List Sm}{t:List Nat}(hp:mP #[9] X.A X.env X.xe)(hc:X.calm=al)(he:CF X xw C it i)(hg:CG X tg t)(hb:CSs X xw fr C ns body ms)
  (hs:∀x,dH it X.env x=cy x):CS X xw fr C ns (.For tg it body [] pos) (.forF t i ms):=.mk <| PS.imp (ZaF hp hc (jG he.h) hg.h hb.h hs)<|by
 right;rw[Pv.Zgv]at h;refine Zx.evA al (λ_=>rfl) st en h λd S1 H1 v f1 st1 r1 h1=>?_
 cases d with|lst ds=>obtain⟨a,xs,rfl,hp,hx,r⟩:=r1.1.lst';exact#[a,rfl,.inl #[#[xs,SqL.of hp],xU st1 (en.mono f1) (Gg (λρ' H' f=>SqL.of<|f.keep a _ hp λ_ _=>hx) r) h1]]|_=>exact h1.elim
end
end
section
noncomputable def uD(env:Env):List (bn×ee)->List (bn×aD)->List (bn×aD)
 |[],acc=>acc
 |x::r,acc=>uD env r (if(x.2 == bD)=al then(x.1,(env.cells.lookup x.1).getD 0)::acc else acc)
theorem Ql{env:Env}{f:bn×ee->List (bn×aD)->nO (ForInStep<|List<|bn×aD)}:∀(names:List (bn×ee))(acc:List (bn×aD)),
  (∀x∈names,∀c,f x c=cy (.yield (if(x.2 == bD)=al then(x.1,(env.cells.lookup x.1).getD 0)::c else c)))->mF names acc f=cy (uD env names acc)
 |[],acc,_=>rfl
 |x::r,acc,h=>by
  rw[iJ,h x ak,pure_bind];exact Ql r _ λy hy=>h y<|am _ hy
theorem zN :∀(names:List (bn×ee))(acc:List (bn×aD)),(uD env names acc).lookup x=aa c->acc.lookup x=aa c\/(∃y∈names,y.1=x/\y.2=.free/\c=(env.cells.lookup x).getD 0)
 |[],acc,h=>.inl h
 |y::r,acc,h=>by
  rcases zN r _ h with h|⟨z,hz,e⟩
  .by_cases hf:(y.2 == bD)=al
   .rw[T9 hf,bK]at h
    cases q:(x == y.1)with
    |true=>
     rw[q]at h;have e:=eY q;exact .inr #[y,ak,e.symm,eY hf,by rw[e];exact(aq h).symm]
    |false=>rw[q]at h;exact .inl h
   .rw[T8 hf]at h;exact .inl h
  .exact .inr #[z,am _ hz,e]
theorem zF :∀(names:List (bn×ee))(acc:List (bn×aD)),(acc.lookup x).isSome=al->((uD env names acc).lookup x).isSome=al
 |[],acc,h=>h
 |y::r,acc,h=>by
  refine zF r _ ?_;split
  .rw[bK]
   cases(x == y.1)with|true=>rfl|false=>exact h
  .exact h
theorem zh :∀(names:List (bn×ee))(acc:List (bn×aD)),(x,bD)∈names->((uD env names acc).lookup x).isSome=al
 |[],acc,h=>by cases h
 |y::r,acc,h=>by
  rcases az.mp h with h|h
  .subst h
   refine zF r _ ?_;rw[T9 #[7],bK,beq_self_eq_true]
   rfl
  .exact zh r _ h
def WK{scope:dO}{env:Env}(h:∀y∈scope.names,y.2=.free->∃c,env.cells.lookup y.1=aa c) :
  ∃cl,ig scope env=cy cl/\(∀x c,cl.lookup x=aa c->env.cells.lookup x=aa c)/\∀x,(x,bD)∈scope.names->∃c,cl.lookup x=aa c:=by
 refine#[uD env scope.names [],?_,λx c e=>?_,λx hx=>cU.mp<|zh _ _ hx]
 .simp only[ig]
  rw[Ql (env:=env) scope.names [] (λx hx c=>by
   obtain⟨n,kind⟩:=x;by_cases hk:(kind == bD)=al
   .obtain⟨a,ha⟩:=h (n,kind) hx (eY hk)
    have ha':=ha;simp only[hk,if_true,cellOf,ha',pure_bind,lh]
   .simp only[hk,if_false]
    rfl),pure_bind]
 .rcases zN _ _ e with e|⟨y,hy,e1,e2,e3⟩
  .cases e
  .obtain⟨a,ha⟩:=h y hy e2
   rw[e1]at ha;rw[e3,ha];rfl
theorem Vl{x:bn}{c:aD}{lo:Nat}:∀(names:List (bn×ee))(h:bV)(acc:List (bn×aD)),lo<=h.objs.size->(dv h.objs.size names acc).lookup x=aa c->
  ((x,cV)∉names/\acc.lookup x=aa c)\/((x,cV)∈names/\lo<=c/\(oS h names).IsCell c ag)
 |[],h,acc,_,e=>.inl #[by simp,e]
 |(name,kind)::r,h,acc,hlo,e=>by
  unfold dv at e;unfold oS;split at e
  .rename_i hk
   rw[T9 hk];have hk:=eY hk;subst hk;rw[<-cS h {cls:=.type "cell",data:=.cell ag}]at e;rcases Vl r (h.push {cls:=.type "cell",data:=.cell ag}) ((name,h.objs.size)::acc) (cx hlo<|by rw[cS];exact kK _) e with⟨e1,e2⟩|⟨e1,e2⟩
   .rw[bK]at e2
    cases hb:x == name with
    |true=>
     rw[hb]at e2;cases e2;have:=eY hb;subst this;exact .inr #[ak,hlo,_,l6 _ _ _ _<|aM _ rfl,rfl]
    |false=>
     rw[hb]at e2;refine .inl #[λhm=>?_,e2]
     rcases az.mp hm with q|q
     .cases q
      rw[beq_self_eq_true]at hb;cases hb
     .exact e1 q
   .exact .inr #[am _ e1,e2]
  .rename_i hk
   rw[T8 hk];rcases Vl r _ _ hlo e with⟨e1,e2⟩|⟨e1,e2⟩
   .refine .inl #[λhm=>?_,e2]
    rcases az.mp hm with q|q
    .cases q
     exact hk rfl
    .exact e1 q
   .exact .inr #[am _ e1,e2]
theorem VA:∀(names:List (bn×ee))(n:Nat)(acc:List (bn×aD)),(∀x c,acc.lookup x=aa c->c<n)->(∀x y c,acc.lookup x=aa c->acc.lookup y=aa c->x=y)->
  ∀x y c,(dv n names acc).lookup x=aa c->(dv n names acc).lookup y=aa c->x=y
 |[],n,acc,_,h=>h
 |(name,kind)::r,n,acc,hl,h=>by
  unfold dv;split
  .refine VA r (n+1) _ (λx c e=>?_) λx y c e1 e2=>?_
   .rw[bK]at e
    split at e
    .cases e;exact fY _
    .exact dq<|hl x c e
   .rw[bK]at e1 e2
    cases p:x == name<;>cases q:y == name<;>rw[p]at e1<;>rw[q]at e2
    .exact h x y c e1 e2
    .cases e2;exact T7 (hl x _ e1)<|bw _
    .cases e1;exact T7 (hl y _ e2)<|bw _
    .rw[eY p,eY q]
  .exact VA r n acc hl h
theorem VB{x:bn}:∀(names:List (bn×ee))(n:Nat)(acc:List (bn×aD)),(∃c,acc.lookup x=aa c)\/(x,cV)∈names->∃c,(dv n names acc).lookup x=aa c
 |[],n,acc,h=>h.elim (λh=>h) λh=>by cases h
 |(name,kind)::r,n,acc,h=>by
  unfold dv;split
  .refine VB r _ _ ?_
   cases hb:x == name with
   |true=>exact .inl #[n,by rw[bK,hb]]
   |false=>
    rcases h with⟨c,e⟩|h
    .exact .inl #[c,by rw[bK,hb];exact e]
    .rcases az.mp h with q|q
     .cases q
      rw[beq_self_eq_true]at hb;cases hb
     .exact .inr q
  .rename_i hk
   refine VB r _ _<|h.imp (λh=>h) λh=>?_
   rcases az.mp h with q|q
   .cases q
    exact T7 rfl hk
   .exact q
def yJ{M:Model}{A:bU}{E:au->aA->Prop}{s:aA}{scope:dO}{g:aD}{cl:List (bn×aD)}{q:bn}{env:Env}{Q:Env->aA->Prop}
  (h:Q (newEnv scope s.heap.objs.size g (dv (s.heap.objs.size+1) scope.names cl) q ag .none (aa env) nr) {s with heap:=oS (s.heap.push {cls:=.type "dict",data:=.dict #[]}) scope.names}) :
  aX M A (newFunctionEnv scope g cl [] q ag .none<|aa env) Q E s:=by
 simp only[newFunctionEnv,nE,if_true];refine ae<|wpAny_alloc ?_;refine ae<|wpAny_layCells _ (λname kind cells=>by cases hkc:kind == cV<;>simp[hkc]) _ _ _ _ ?_
 rw[cS ..]
 exact aB h
def cxC(X:Cx)(N:List bn)(scope:dO)(cl:List (bn×aD))(s:aA)(H:Hp)(fp:List aD):Cx:=
 {X with N:=N,s₀:=s,H₀:=H,env:=compEnvC scope cl s.heap.objs.size X.env,outer:=X.stack,ex:=fp,fn:=λx=>scope.names.any λy=>y.2 == .cell&&y.1 == x,pn:=[],xe:=λ_ _=>False}
def PTs(X:Cx)(ifs:List Expr)(t:TT):Prop:=
 ∀(pq:List (aD×eW))(s:aA)(O:L2.St)(H:Hp)(Q:Bool->Hp->Prop),Inv X pq O H s->t O H Q->
  aX #[9] X.A (mF ifs al λc r=>if r=al then do let ok <-isTrue c X.env (cD c X.env);cy (iK ok)else cy (iK r)) (TP X pq O Q) X.xe s
def ZbT :PTs X [] (λO H Q=>Q al H):=λpq s O H Q I h=>wpAny_tests_nil #[H,I,h]
def ZcV(h:PT X c t):PTs X [c] t:=λpq s O H Q I hq=>wpAny_tests_one<|h pq s O H Q I hq
structure CompScope(sc:dO)(N0:List bn)(scope:dO)(N:List bn)(cap:List Nat)(nl:Nat):Prop where
 kind:scope.kind=.function
 cell:∀y∈scope.names,y.2=.cell->(y.1,bD)∉scope.names
 names:∀y∈scope.names,y.2=.local->scope.names.lookup y.1=aa .local
 free:∀y∈scope.names,y.2=.free->sc.names.lookup y.1=aa .cell\/sc.names.lookup y.1=aa .free
 apart:∀y∈scope.names,y.2=.free->scope.names.lookup y.1≠aa .local
 len:N.length=nl+cap.length
 cap:∀p∈cap.zipIdx,N[nl+p.2]?=N0[p.1]?/\(N0[p.1]?).map (λx=>ai<|(x,bD)∈scope.names)=aa al
def CompScope.capt{sc:dO}{N0:List bn}{scope:dO}{N:List bn}{cap:List Nat}{nl:Nat}(h:CompScope sc N0 scope N cap nl)(i j:Nat)(e:cap[i]?=aa j):∃x,N[nl+i]?=aa x/\N0[j]?=aa x/\(x,bD)∈scope.names:=by
 have hm:(j,i)∈cap.zipIdx:=by
  rw[iL];exact e
 obtain⟨h1,h2⟩:=h.cap (j,i) hm;cases q:N0[j]? with
 |none=>rw[q]at h2;cases h2
 |some x=>
  rw[q]at h1 h2
  exact#[x,h1,rfl,T6<|aq h2]
noncomputable def Xm(cap:List Nat)(nl:Nat)(O:L2.St):L2.St:=aw nl ag++cap.map λi=>(O[i]?).join
section
variable{X:Cx}{pq:List (aD×eW)}{O:L2.St}{H:Hp}{s:aA}
theorem W3{env:Env}{x:bn}:∀{names:List (bn×ee)},(names.map λ(n,k)=>if(k == bD&&env.scope.kind == .function&&env.kindOf n == aa .cell)then(n,cV)else(n,k)).lookup x=aa .cell\/
  (names.map λ(n,k)=>if(k == bD&&env.scope.kind == .function&&env.kindOf n == aa .cell)then(n,cV)else(n,k)).lookup x=aa .free->(x,bD)∈names\/(x,cV)∈names
 |[],h=>by rcases h with h|h<;>cases h
 |(n,k)::r,h=>by
  have ih:=@W3 env x r;rw[aZ]at h;by_cases e:x=n
  .subst e
   by_cases c:(k == bD&&env.scope.kind == .function&&env.kindOf x == aa .cell)=al
   .have:=(aG _ _).mp c
    rw[eY ((aG _ _).mp this.1).1];exact .inl ak
   .simp only[T8 c,bK,beq_self_eq_true,Option.some.injEq]at h
    rcases h with h|h
    .rw[h];exact .inr ak
    .rw[h];exact .inl ak
  .have hb:=beq_eq_false_iff_ne.mpr e
   refine(ih ?_).imp (am _)<|am _;by_cases c:(k == bD&&env.scope.kind == .function&&env.kindOf n == aa .cell)=al
   .simpa only[T9 c,bK,hb]using h
   .simpa only[T8 c,bK,hb]using h
theorem ZaA{N:List bn}{scope:dO}{cl:List (bn×aD)}{fp:List aD}{cap:List Nat}{nl:Nat}{h1:bV}{tk:Nat}(I:Inv X pq O H s)(CS:CompScope X.env.scope X.N scope N cap nl)(hN:X.N.Nodup)
  (c1:∀x c,cl.lookup x=aa c->((x,cV)∉scope.names/\X.env.cells.lookup x=aa c)\/((x,cV)∈scope.names/\s.heap.objs.size<=c/\h1.IsCell c ag))(c2:∀x,(x,bD)∈scope.names\/(x,cV)∈scope.names->∃c,cl.lookup x=aa c)
  (c3:∀x y c,cl.lookup x=aa c->cl.lookup y=aa c->x=y)(hf:∀b∈fp,Vk X pq H b)(hb:∀b∈fp,∃o,s.heap.get? b=aa o)(hns:∃m,h1.Ns s.heap.objs.size m)(hk:∀b o,s.heap.get? b=aa o->h1.get? b=aa o) :
  Inv #[15] [] (Xm cap nl O) H {s with heap:=h1,toks:=tk}:=by
 have bne:∀b∈fp,b≠s.heap.objs.size:=λb hb' e=>by
  obtain⟨o,ho⟩:=hb b hb';exact T7 (aH ho) (by rw[e];exact bw _)
 refine#[#[I.ok.mod,CS.kind,I.ok.glob,I.ok.blt,aF _,c3,λx hx=>c2 x<|W3 hx,λx c h e=>?_,I.ok.hd,I.ok.frames,.inl rfl,
  λb hb'=>#[bne b hb',λx c e=>(c1 x c e).elim (λq=>(hf b hb').2.2.2.2.1 x c q.2) λq z=>?_],I.bs,cx I.ok.bsz I.sz,λb o e hb'=>?_,λb hb' hm=>?_,I.stack,I.stkFree],
  rfl,I.bare,Un.kept hk,?_,λx c e=>?_,I.hok.fresh<|aF _,λx c e=>(c1 x c e).elim (λq=>I.freeC x c q.2) λq=>I.hok.fresh q.2.1,λp hp=>T7 hp (by simp[cxC]),I.hok.kept hk,?_]
 .rcases c1 x c e with q|q
  .obtain⟨y,hy,e⟩:=lg.mp h
   obtain⟨e1,e2⟩:=(aG _ _).mp e;obtain⟨y,k⟩:=y;have a1:=eY e1;have a2:y=x:=eY e2;subst a1 a2;exact T7 hy q.1
  .exact q.2.1
 .obtain⟨o,ho⟩:=hb b hb'
  have:=aH ho;rw[<-z]at this;exact T7 q.2.1<|Nat.not_le.mpr this
 .rcases(hf b hb').2.2.2.1 with z|z
  .exact I.ok.noex b o e z
  .exact T7 (aH e)<|Nat.not_lt.mpr<|cx I.ok.bsz z
 .rcases az.mp (I.stkSub b hm)with e|e
  .exact(hf b hb').2.1 e
  .exact(hf b hb').2.2.1 e
 .obtain⟨m1,hm1⟩:=hns
  refine#[m1,hm1,λi x v e1 e2 e3=>?_]
  obtain⟨m,hm,hl⟩:=I.loc;have hi:nl<=i:=by
   by_cases hi:nl<=i
   .exact hi
   .have z:(Xm cap nl O)[i]?=aa ag:=by
     unfold Xm;rw[cq (by simp;lia),cH,T9 #[0]]
    rw[z]at e2;cases e2
  have e2':(cap.map λi=>(O[i]?).join)[i-nl]?=aa (aa v):=by
   have:=e2;unfold Xm at this
   rwa [cg (by simp;exact hi),ck]at this
  rw[aJ]at e2';cases hj:cap[i-nl]? with
  |none=>rw[hj]at e2';cases e2'
  |some j=>
   rw[hj]at e2';have hv:O[j]?=aa (aa v):=by
    have:(O[j]?).join=aa v:=aq e2';cases q:O[j]? with
    |none=>rw[q]at this;cases this
    |some o=>rw[q]at this;cases o with|none=>cases this|some w=>cases this;rfl
   obtain⟨x',n1,n2,fr⟩:=CS.capt _ _ hj;have ex:x'=x:=by
    have:N[nl+(i-nl)]?=aa x:=by rw[show nl+(i-nl)=i by lia];exact e1
    rw[n1]at this;exact aq this
   subst ex;have kd:=CS.free _ fr rfl;have vis:Vis X.env.scope x':=by
    rcases kd with z|z
    .exact .inr<|.inl z
    .exact .inr<|.inr z
   obtain⟨u,r,lk⟩:=hl j x' v n2 hv vis;refine#[u,r,?_];rcases lk with⟨k,_⟩|⟨k,c,ec,hc⟩
   .have k':X.env.scope.names.lookup x'=aa .local:=k
    rcases kd with z|z<;>(rw[z]at k';cases k')
   .obtain⟨c',ec'⟩:=c2 x' (.inl fr)
    have ecc:c'=c:=by
     have:=(c1 x' c' ec').elim (λq=>q.2) λq=>T7 fr<|CS.cell _ q.1 rfl
     rw[ec]at this;exact(aq this).symm
    subst ecc;have vis2:=e3;refine .inr #[?_,c',ec',?_]
    .rcases vis2 with z|z|z
     .have z':=z
      exfalso
      have:∀(names:List (bn×ee)),(∀y∈names,y.2=ee.local->y.1≠x')->(names.map λ(n,k)=>if(k == bD&&X.env.scope.kind == .function&&X.env.kindOf n == aa .cell)then(n,cV)else(n,k)).lookup x'≠aa .local:=by
       intro names
       induction names with
       |nil=>intro _ h;cases h
       |cons y r ih=>
        obtain⟨n,k⟩:=y;intro hy h;rw[aZ]at h;by_cases e:x'=n
        .subst e
         by_cases c:(k == bD&&X.env.scope.kind == .function&&X.env.kindOf x' == aa .cell)=al
         .simp only[T9 c,bK,beq_self_eq_true]at h;cases h
         .simp only[T8 c,bK,beq_self_eq_true]at h
          exact hy (x',k) ak (aq h) rfl
        .have hb:=beq_eq_false_iff_ne.mpr e
         refine ih (λy hy'=>hy y<|am _ hy') ?_
         by_cases c:(k == bD&&X.env.scope.kind == .function&&X.env.kindOf n == aa .cell)=al
         .simp only[T9 c,bK,hb]at h;exact h
         .simp only[T8 c,bK,hb]at h;exact h
      refine this scope.names (λy hy hl e=>?_) z'
      have l1:=CS.names y hy hl;rw[e]at l1;exact CS.apart (x',.free) fr rfl l1
     .exact .inl z
     .exact .inr z
    .obtain⟨o,ho,hd⟩:=hc
     exact#[o,hk c' o ho,hd]
 .rcases c1 x c e with q|q
  .obtain⟨v,o,ho,hd⟩:=I.cell x c q.2
   exact#[v,o,hk c o ho,hd]
  .exact#[ag,q.2.2]
 .unfold Xm
  show _=N.length;rw[aU,ck,ay,CS.len]
end
abbrev TEm:=L2.St->Hp->(L2.St->Hp->Prop)->Prop
def Za7(X:Cx)(act:nO Fin->nO Fin)(te:TEm):Prop:=
 ∀(pq:List (aD×eW))(s:aA)(O:L2.St)(H:Hp)(Q:L2.St->Hp->Prop)(k:nO Fin)(QF:Fin->aA->Prop)(EE:au->aA->Prop),Inv X pq O H s->te O H Q->(∀s' σ' H',Inv X pq σ' H' s'->Q σ' H'->aX #[9] X.A k QF EE s')->
  aX #[9] X.A (act k) QF EE s
noncomputable def zi(ipos:fD)(tg:Expr)(ifs:List Expr)(act:nO Fin->nO Fin)(it:au)(env:Env)(c:Code):nO Fin:=do
 nQ ipos
 match <-mw it with
 |none=>cy<|.done .next
 |some v=>
  l0 tg it v
  assign tg env v
  let mut ok:=al
  for c in ifs do
   if ok then ok <-isTrue c env (cD c env)
  if ok then act (rK c)else rK c
def ZaD(J:It)(g:TG)(tt:TT)(te:TEm)(W:Nat->Nat->L2.St->Hp->Prop)(Q:L2.St->Hp->Prop):Prop:=∀i m σ' H',W i m σ' H'->
  (J.stop i H'/\Q σ' H')\/(J.go i H'/\∀x H'',J.yld i H' x H''->g x σ' H'' λσ2 H2=>tt σ2 H2 λok H3=>if ok=al then te σ2 H3 λσ3 H4=>∃m',m'<m/\W (i+1) m' σ3 H4 else ∃m',m'<m/\W (i+1) m' σ2 H3)
def uF{tn:Nat->bV->Prop}{Rr:rG->aA->Prop}{Q:L2.St->Hp->Prop}{W:Nat->Nat->L2.St->Hp->Prop}
  (hc:Y.calm=al)(hx:∀a b,Y.xe a b->False)(hT:compTurn e depth (.ref it) acc Y.env=zi ipos tg ifs act (.ref it) Y.env (.compLoop e depth (.ref it) acc Y.env))(hquiet:(rg e depth (.ref it) acc Y.env).isFrame=aj)
  (hq:(rg e depth (.ref it) acc Y.env).quiet=al)(T:Turn Y.prog Y.w Y.K tg J fp it tn)(hg:PG Y tg g)(ht:PTs Y ifs tt)(he:Za7 Y act te)(stat:∀{H':Hp},(∀b∈fp,H' b=ag)->∀b∈fp,Vk Y pq H' b)
  (turn:ZaD J g tt te W Q)(fin:∀O H s,Inv Y pq O H s->Q O H->Rr (.ok .next) s)
  (I0:Inv Y pq O H s)(st0:tn 0 s.heap)(fr0:∀b∈fp,H b=ag)(w0:W 0 m O H)(hden:(aT Y.prog Y.w).den (.compLoop e depth (.ref it) acc Y.env)=(compTurn e depth (.ref it) acc Y.env).onRaise (λx=>do noteFrame x Y.env;theTreesLotGoes x))
  (hund:Y.A.under (.compLoop e depth (.ref it) acc Y.env)=Y.A):gV (aT Y.prog Y.w) Y.A (.compLoop e depth (.ref it) acc Y.env) Rr s:=by
 refine codeAny_loop hq (λn s'=>∃i σ' H',Inv Y pq σ' H' s'/\tn i s'.heap/\(∀b∈fp,H' b=ag)/\W i n σ' H') (λn s5 hI=>?_) m #[0,O,H,I0,st0,fr0,w0]
 rw[hund,hden,hT];refine wpAny_noted ?_;obtain⟨i,σ5,H5,I5,st5,fr5,w5⟩:=hI;refine ae<|gz<|ae ?_;rcases turn i n σ5 H5 w5 with⟨stop,qn⟩|⟨go,step⟩
 .refine dm (T.done Y rfl rfl rfl hc i pq s5 σ5 H5 (λ_ _=>False) I5 (stat fr5) st5 stop) (λr s6 #[hr,I6]=>?_) λ_ _ h'=>h'.elim
  subst hr;exact aB<|fin σ5 H5 s6 I6 qn
 .refine dm (T.item Y rfl rfl rfl hc i pq s5 σ5 H5 (λ_ _=>False) I5 (stat fr5) st5 go) (λr s6 #[u,hr,h6]=>?_) λ_ _ h'=>h'.elim
  subst hr;refine ae<|dm h6 (λ_ s7 #[x,H7,I7,r7,y7,st7,fr7]=>?_) λ_ _ h'=>h'.elim
  have I7':=I7.pinned (stat fr7)<|T.obj _ _ st7;have back:∀{σ8:L2.St}{H8:Hp}{s8:aA}{m':Nat},Inv Y (pq++UC fp s7.heap) σ8 H8 s8->m'<n->W (i+1) m' σ8 H8->∃m,m<n/\∃i σ' H',Inv Y pq σ' H' s8/\tn i s8.heap/\(∀b∈fp,H' b=ag)/\W i m σ' H':=λ{σ8 H8 s8 m'} I8 hm w8=>by
   refine#[m',hm,i+1,σ8,H8,I8.unpinned,T.keep _ _ _ st7 λb hb' o e=>(I8.pin (b,o)<|bq _<|bq _<|XC hb' e).1,λb hb'=>?_,w8]
   obtain⟨o,e,d⟩:=T.obj _ _ st7 b hb';exact(I8.pin (b,o)<|bq _<|bq _<|XC hb' e).2.1
  refine ae<|dm (hg _ s7 σ5 H7 x u _ I7' r7<|step x H7 y7) (λ_ s8 #[σ8,H8,I8,q8]=>?_) λ_ _ h'=>(hx _ _ h').elim
  refine ae<|dm (ht _ s8 σ8 H8 _ I8 q8) (λok s9 #[H9,I9,q9]=>?_) λ_ _ h'=>(hx _ _ h').elim
  cases ok with
  |false=>
   rw[T8 aO]at q9;obtain⟨m',hm,w9⟩:=q9;exact aB #[rfl,back I9 hm w9]
  |true=>
   rw[T9 rfl]at q9;exact he _ s9 σ8 H9 _ _ _ _ I9 q9<|by rintro s10 σ10 H10 I10 ⟨m',hm,w10⟩;exact aB #[rfl,back I10 hm w10]
def zk{Y:Cx}{elt:Expr}{te:TE}{D:aD}(hx:∀a b,Y.xe a b->False)(he:PE Y elt te):Za7 Y (λk=>(do let _ <-call (.builtin "list.append") [.ref D,<-cD elt Y.env]:nO Unit) >>= λ_=>k) (λO H Q=>te O H λy H4=>∃ys,H4 D=aa (.lst ys)/\ys.length<aW/\Q O (upd H4 D<|.lst<|ys++[y])):=by
 intro pq s O H Q k QF EE I h hk;refine ae ?_;refine ae<|dm (he pq s O H _ I h) (λxv s10 #[y,H10,I10,r10,ys,hDy,hz,q]=>?_) λ_ _ h'=>(hx _ _ h').elim
 refine ae<|dm (Wv pq s10 O H10 (.ref D) [y] (.ref D) [xv] (λv H'=>v=.non/\H'=upd H10 D (.lst<|ys++[y])) I10 rfl (.cons r10 .nil) #[D,ys,y,rfl,rfl,hDy,hz,rfl,rfl]) (λ_ s11 #[v11,H11,I11,_,_,eH]=>?_) λ_ _ h'=>(hx _ _ h').elim
 subst eH;exact aB<|hk _ _ _ I11 q
def ZfZ(wi:TI)(g:TG)(tt:TT)(te:aD->TEm)(cap:List Nat)(nl:Nat):TE:=λO H Q=>wi O H λJ H1=>∀D,H1 D=ag->∃W:Nat->Nat->L2.St->Hp->Prop,(∃m,W 0 m (Xm cap nl O)<|upd H1 D<|.lst [])/\ZaD J g tt (te D) W λ_ H'=>Q (.ref D) H'
def ZaY(wi:TI)(g:TG)(tt:TT)(te:TE)(cap:List Nat)(nl:Nat):TE:=λO H Q=>wi O H λJ H1=>∀D,H1 D=ag->∃W:Nat->Nat->L2.St->Hp->Prop,(∃m,W 0 m (Xm cap nl O)<|upd H1 D<|.lst [])/\∀i m σ' H',W i m σ' H'->
  (J.stop i H'/\Q (.ref D) H')\/(J.go i H'/\∀x H'',J.yld i H' x H''->g x σ' H'' λσ2 H2=>tt σ2 H2 λok H3=>if ok=al then te σ2 H3 λy H4=>∃ys,H4 D=aa (.lst ys)/\ys.length<aW/\∃m',m'<m/\W (i+1) m' σ2 (upd H4 D<|.lst<|ys++[y])else ∃m',m'<m/\W (i+1) m' σ2 H3)
structure Gone(X:Cx)(pq:List (aD×eW))(H:Hp)(s:aA)(C:aD):Prop where
 free:H C=ag
 ns:∃m,s.heap.Ns C m
 loc:C≠X.env.locals
 big:X.s₀.heap.objs.size<=C
 cel:∀x c,X.env.cells.lookup x=aa c->c≠C
 pin:∀p∈X.pn++pq,p.1≠C
def Jm{tg iter elt:Expr}{ifs:List Expr}{scope:dO}{pos fpos:fD}{N:List bn}{cap:List Nat}{nl:Nat}{wi:TI}{g:TG}{tt:TT}{te:aD->TEm}{act:au->Env->nO Fin->nO Fin}{rest:List Comprehension}{pq:List (aD×eW)}{s:aA}{O:L2.St}{H:Hp}{Q:VK}{use:Option (au->nO Unit)}{QQ:au->aA->Prop}(hc:X.calm=al)(hN:X.N.Nodup)(CS:CompScope X.env.scope X.N scope N cap nl)(hi:PI X tg iter wi)
  (hT:∀it acc env,compTurn (.ListComp elt (#[tg,iter,ifs,0]::rest) scope pos) 0 it acc env=zi iter.pos tg ifs (act acc env) it env (.compLoop (.ListComp elt (#[tg,iter,ifs,0]::rest) scope pos) 0 it acc env))
  (hb:∀cl s H fp,PG #[15] tg g/\PTs #[15] ifs tt/\∀D,Za7 #[15] (act (.ref D) (cxC X N scope cl s H fp).env)<|te D)
  (hs:∀x,dH iter X.env x=cy x)(I:Inv X pq O H s)(h:ZfZ wi g tt te cap nl O H Q)
  (fin:∀D C H5 s6,Inv X pq O H5 s6->Gone X pq H5 s6 C->Q (.ref D) H5->compPost #[9] X.A X.xe use QQ (.ref D) C (.ok .next) s6) :
  aX #[9] X.A (comprehension (.ListComp elt (#[tg,iter,ifs,0]::rest) scope pos) scope X.env fpos (newList []) aj (cD iter X.env) use) QQ X.xe s:=by
 obtain⟨cl,hcl,c1,c2⟩:=WK λy hy hf=>I.ok.has y.1<|CS.free y hy hf
 refine wpAny_comprehension_free rfl hs hcl CS.kind CS.names ?_;refine thn (hi pq s O H _ I h) λv s1 h1=>thn h1 λitv s2 h2=>?_
 obtain⟨it,fp,tn,J,H2,rfl,I2,T,st2,f2,q2⟩:=h2;obtain⟨W,⟨m0,w0⟩,turn⟩:=q2 s2.heap.objs.size<|I2.hok.fresh<|aF _;refine bC<|yJ ?_
 dsimp only
 have I3:Inv X pq O (upd H2 s2.heap.objs.size<|.lst []) {s2 with heap:=s2.heap.push {cls:=.type "list",dict:=ag,data:=.seq ([]:List au).toArray},toks:=s2.toks}:=
  I2.laid (λb u e=>av _ e) (aF _) #[dD _,[],0,.nil,aM _ rfl]
 generalize hD:s2.heap.objs.size=D at I3 w0 turn ⊢;generalize hs3:({s2 with heap:=s2.heap.push {cls:=.type "list",dict:=ag,data:=.seq ([]:List au).toArray},toks:=s2.toks}:aA)=s3 at I3
 have hh3:s2.heap.push {cls:=.type "list",dict:=ag,data:=.seq ([]:List au).toArray}=s3.heap:=by rw[<-hs3]
 rw[hh3];have old:∀b o,s2.heap.get? b=aa o->s3.heap.get? b=aa o:=λb o e=>by rw[<-hh3];exact av _ e
 have neD:∀b∈fp,b≠D:=λb hb' e=>by
  obtain⟨o,ho,_⟩:=T.obj _ _ st2 b hb';exact T7 (aH ho) (by rw[e,<-hD];exact bw _)
 have f3:∀b∈fp,Vk X pq (upd H2 D<|.lst []) b:=λb hb'=>#[by rw[Zi<|neD b hb'];exact(f2 b hb').1,(f2 b hb').2]
 generalize hh4:oS (s3.heap.push {cls:=.type "dict",data:=.dict #[]}) scope.names=h₁;have keep4:∀b o,s3.heap.get? b=aa o->h₁.get? b=aa o:=λb o e=>by rw[<-hh4];exact l6 _ _ b o<|av _ e
 have hns₁:∃m,h₁.Ns s3.heap.objs.size m:=#[_,by rw[<-hh4];exact(bV.Ns.new s3.heap<|.type "dict").keeps<|l6 _ _]
 have lt3:∀x c,cl.lookup x=aa c->c<s3.heap.objs.size+1:=λx c e=>by
  obtain⟨v,q⟩:=I3.cell x c<|c1 x c e;exact dq q.lt
 have c3:=VA scope.names _ cl lt3 λx y c h1 h2=>I.ok.inj x y c (c1 x c h1)<|c1 y c h2
 have c2':∀x,(x,bD)∈scope.names\/(x,cV)∈scope.names->∃c,(dv (s3.heap.objs.size+1) scope.names cl).lookup x=aa c:=λx hx=>VB _ _ _<|hx.imp (c2 x) λh=>h
 have c1':∀x c,(dv (s3.heap.objs.size+1) scope.names cl).lookup x=aa c->((x,cV)∉scope.names/\X.env.cells.lookup x=aa c)\/((x,cV)∈scope.names/\s3.heap.objs.size<=c/\h₁.IsCell c ag):=λx c e=>by
  rw[<-cS s3.heap {cls:=.type "dict",data:=.dict #[]}]at e;refine(Vl _ _ _ (by rw[cS];exact kK _) e).imp (λq=>#[q.1,c1 x c q.2]) λq=>?_
  rw[hh4]at q;exact q
 generalize dv (s3.heap.objs.size+1) scope.names cl=cl at c1' c2' c3;have I4:=ZaA (tk:=s2.toks) I3 CS hN c1' c2' c3 f3 (λb hb'=>let #[o,ho,_]:=T.obj _ _ st2 b hb';#[o,old b o ho]) hns₁ keep4
 have e4:({s3 with heap:=h₁,toks:=s2.toks}:aA)={s2 with heap:=h₁,toks:=s2.toks}:=by rw[<-hs3]
 rw[e4]at I4;obtain⟨hg,ht,he⟩:=hb cl s3 (upd H2 D<|.lst []) fp;generalize hY:cxC X N scope cl s3 (upd H2 D<|.lst []) fp=Y at I4 hg ht he;have yP:Y.prog=X.prog:=by rw[<-hY];rfl
 have stat:∀{H':Hp},(∀b∈fp,H' b=ag)->∀b∈fp,Vk Y [] H' b:=λhn b hb'=>by
  subst hY;refine#[hn b hb',λe=>?_,λhm=>?_,.inl hb',λx c e=>(c1' x c e).elim (λq=>(f3 b hb').2.2.2.2.1 x c q.2) λq z=>?_,λp hp=>T7 hp (by simp[cxC])]
  .obtain⟨o,ho,_⟩:=T.obj _ _ st2 b hb'
   have:=aH<|old b o ho;rw[e]at this;exact T7 this<|bw _
  .rcases az.mp (I3.stkSub b hm)with e|e
   .exact(f3 b hb').2.1 e
   .exact(f3 b hb').2.2.1 e
  .obtain⟨o,ho,_⟩:=T.obj _ _ st2 b hb'
   have:=aH<|old b o ho;rw[<-z]at this;exact T7 q.2.1<|Nat.not_le.mpr this
 subst hY
 let Y:=cxC X N scope cl s3 (upd H2 D<|.lst []) fp
 have st4:=T.keep _ _ _ st2 λb hb' o e=>keep4 b o<|old b o e
 have fr4:=λb hb'=>(f3 b hb').1
 have loop:gV #[9] X.A (.compLoop (.ListComp elt (#[tg,iter,ifs,0]::rest) scope pos) 0 (.ref it) (.ref D)<|compEnvC scope cl s3.heap.objs.size X.env)
   (compPost #[9] X.A X.xe use QQ (.ref D) s3.heap.objs.size) {s2 with heap:=h₁,toks:=s2.toks}:=by
  refine uF (Y:=cxC X N scope cl s3 (upd H2 D<|.lst []) fp) hc (λ_ _ z=>z) (hT _ _ _) rfl rfl T hg ht (he D) stat turn (λσ5 H5 s6 I6 qn=>?_) I4 st4 fr4 w0 rfl rfl
  obtain⟨m6,hn6,_⟩:=I6.loc;have u:=I6.base;have IX:=Inv.call' (s':=s6) I3 I6.os #[u.keep,u.slot,u.free,u.there,u.tups,u.frzs,u.tbls] I6.hok I6.bare λb hb'=>#[(f3 b hb').2.2.2.1,(f3 b hb').2.1,(f3 b hb').2.2.2.2.1,λp hp e=>(f3 b hb').2.2.2.2.2 p hp e]
  refine fin D s3.heap.objs.size H5 s6 IX #[I6.free,#[m6,hn6],Ne.symm<|bh I3.lt,I3.sz,λx c e z=>?_,λp hp z=>?_] qn
  .obtain⟨v,q⟩:=I3.cell x c e
   exact T7 q.lt (by rw[z];exact bw _)
  .exact T7 (aH (I3.pin p hp).1) (by rw[z];exact bw _)
 subst hs3;exact codeAny_compStart_list loop<|T.self _ 0 _ _ _ st4 loop
def Gone.inv(G:Gone X pq H s C)(I:Inv X pq O H s)(hsb:fe C s.heap h'):Inv X pq O H {s with heap:=h' }:=
 I.turned (t':=s.toks) (λb o hb e=>(hsb.2 b hb).trans e) G.free G.loc (.inr G.big) G.cel G.pin
def ZhD(te:TE)(D:aD):TEm:=λO H Q=>te O H λy H4=>∃ys,H4 D=aa (.lst ys)/\ys.length<aW/\Q O (upd H4 D<|.lst<|ys++[y])
def ZbF(hc:X.calm=al)(hN:X.N.Nodup)(CS:CompScope X.env.scope X.N scope N cap nl)(hi:PI X tg iter wi)
  (hb:∀cl s H fp,PG #[15] tg g/\PTs #[15] ifs tt/\PE #[15] elt te)
  (hs:∀x,dH iter X.env x=cy x:=by intro _;rfl):PE X (.ListComp elt [#[tg,iter,ifs,0]] scope pos) (ZaY wi g tt te cap nl):=by
 intro pq s O H Q I h;rw[eval_ListComp];refine Jm (act:=λacc env k=>(do let _ <-call (.builtin "list.append") [acc,<-cD elt env]:nO Unit) >>= λ_=>k) hc hN CS hi (λ_ _ _=>rfl) (λcl s H fp=>#[(hb cl s H fp).1,(hb cl s H fp).2.1,λD=>zk (λ_ _ z=>z) (hb cl s H fp).2.2]) hs I h λD C H5 s6 I6 G q=>?_
 obtain⟨m6,hn6⟩:=G.ns;exact#[m6,hn6,λh' hsb=>#[.ref D,H5,G.inv I6 hsb,rfl,q]]
def qe(hc:X.calm=al)(hN:X.N.Nodup)(CS:CompScope X.env.scope X.N scope N cap nl)(hi:PI X tg iter wi)
  (hb:∀cl s H fp,PG #[15] tg g/\PTs #[15] ifs tt/\PE #[15] elt te)
  (hsw:ej (.ListComp elt [#[tg,iter,ifs,0]] scope pos) (aa<|.Name y py) spos.line X.env=cy al)
  (hy:X.N[i]?=aa y)(hx:L2.Loc X.env.scope y)(hf:X.fn y=al\/X.env.scope.names.lookup y=aa .local)
  (hs:∀x,dH iter X.env x=cy x:=by intro _;rfl):PS X (.Assign [.Name y py] (.ListComp elt [#[tg,iter,ifs,0]] scope pos) spos) (λD O H=>ZaY wi g tt te cap nl O H λv H1=>D.nx (O.set i<|aa v) H1):=by
 intro pq s O H D I h;rw[exec_Assign_Name_used _ _ _ _ hsw];refine ae<|gz<|ae ?_;refine ae<|dm (Jm (Q:=λv H1=>D.nx (O.set i<|aa v) H1) (act:=λacc env k=>(do let _ <-call (.builtin "list.append") [acc,<-cD elt env]:nO Unit) >>= λ_=>k) hc hN CS hi (λ_ _ _=>rfl) (λcl s H fp=>#[(hb cl s H fp).1,(hb cl s H fp).2.1,λD=>zk (λ_ _ z=>z) (hb cl s H fp).2.2]) hs I h λA C H5 s6 I6 G q=>?_) (λ_ s' hq=>aB<|aB hq) λ_ _ e=>e
 refine nU<|Q3 (v:=V.ref A) I6 hN hy hx rfl (λs7 I7 #[a,hsb,ha]=>?_) hf
 have hCa:C≠a:=by
  rcases ha with e|e
  .rw[e];exact G.loc
  .exact Ne.symm<|G.cel y a e
 obtain⟨m6,hn6⟩:=G.ns;have G7:Gone X pq H5 s7 C:=#[G.free,#[m6,hn6.sameBut hsb hCa],G.loc,G.big,G.cel,G.pin];exact#[m6,hn6.sameBut hsb hCa,λh' hs'=>#[O.set i<|aa<|.ref A,H5,G7.inv I7 hs',q]]
open Ev (E Sm Fn Bop Cop Ty Bf Mf)
section
variable{X:Cx}{xw:Nat->Hp->Prop}{C:Calls}{e a b c tg it:Expr}{i j k:E}{pos p p' p2:fD}
structure CTs(X:Cx)(xw:Nat->Hp->Prop)(C:Calls)(ifs:List Expr)(is:List E):Prop where
 h:PTs X ifs (tB3 X xw<|Pv.pvt C is)
def PTs.imp{X:Cx}{e:List Expr}{t t':TT}(h:PTs X e t)(k:∀O H Q,t' O H Q->t O H Q):PTs X e t':=λpq s O H Q I q=>h pq s O H Q I<|k O H Q q
def Zds:CTs X xw C [] []:=.mk <| PTs.imp ZbT<|by left;exact End.ok (h) st rfl
def Zdx(O:Lc)(S:Zv):Pv.pvt C [i] O S=Pv.Yv C i O S:=by
 show((Pv.pv C i O S).bind λx S=>(Pv.po (Pv.Zz x) S).bind λb S=>if b then Pv.pvt C [] O S else .ok aj S)=(Pv.pv C i O S).bind λx S=>Pv.po (Pv.Zz x) S
 congr 1
 funext x S
 cases Pv.Zz x with|none=>rfl|some b=>cases b<;>rfl
def Zdn(h:CT X xw C c i):CTs X xw C [c] [i]:=.mk <| PTs.imp (ZcV h.h)<|by left;exact #[Z,l,S,st,lr,by rw[<-Zdx];exact h]
def LocR.caught(lr:LocR Z H l O)(cap:List Nat)(nl:Nat):LocR Z H (Pv.Yh cap nl l) (Xm cap nl O):=by
 refine#[by unfold Pv.Yh Xm;simp,λn d e=>?_]
 unfold Pv.Yh at e;by_cases hn:n<nl
 .rw[cq (by simp;exact hn),cH,T9 hn]at e
  cases e
 .rw[cg (by simp;omega),ck,aJ]at e
  unfold Xm;rw[cg (by simp;omega),ck,aJ]
  cases q:cap[n-nl]? with
  |none=>rw[q]at e;cases e
  |some m=>
   rw[q]at e;have e':(l[m]?).join=aa d:=aq e;have:l[m]?=aa (aa d):=by
    cases z:l[m]? with
    |none=>rw[z]at e';cases e'
    |some o=>rw[z]at e';cases o with|none=>cases e'|some w=>cases e';rfl
   obtain⟨v,hv,r⟩:=lr.val m d this;exact#[v,by show aa ((O[m]?).join)=_;rw[hv];rfl,r]
noncomputable def Mx.at(Z:Mx)(A:aD):Mx:=#[Z.K,Z.n0,λa=>Z.X a\/a=A,λa h=>.inl<|Z.xz a h]
def XQ(Z:Mx)(A:aD)(H H':Hp):Prop:=∀a o,a≠A->H a=aa o->H' a=aa o\/(Z.n0=aa a/\∃xs,o=.lst xs)\/((∃ps,o=.tbl ps)/\∃ps,H' a=aa (.tbl ps))
def XQ.trans(f:XQ Z A H H1)(g:XQ Z A H1 H2):XQ Z A H H2:=λa o n h=>(f a o n h).elim (g a o n) λz=>z.elim (λz=>.inr<|.inl z)<|by
 rintro ⟨e,ps,h⟩;rcases g a _ n h with q|⟨_,xs,q⟩|⟨_,q⟩
 .exact .inr<|.inr #[e,ps,q]
 .cases q
 .exact .inr<|.inr #[e,q]
def XQ.of(f:Fut (Z.at A) H ρ' H1):XQ Z A H H1:=λa o _ h=>f.keep a o h
structure CI(K:ao)(Z:Mx)(A:aD)(acc:List D)(l:Lc)(O:L2.St)(H:Hp)(S:Zv):Prop where
 st:St3 K (Z.at A) S H
 lr:LocR (Z.at A) H l O
 ac:∃us,H A=aa (.lst us)/\Rq (Z.at A) H acc us
section
variable{K:ao}{Z:Mx}{A:aD}{acc:List D}{l l':Lc}{O:L2.St}{H H':Hp}{S S':Zv}
def XQ.lat(f:XQ Z A H H')(ha:H A=aa (.lst us)):Lat (Z.at A) H (Z.at A) H':=#[rfl,rfl,λa o h x n _=>by
 by_cases c:a=A
 .subst c;rw[ha]at h;cases h;exact T7 (.inr rfl)<|x us rfl
 .rcases f a o c h with z|⟨z,xs,e⟩|⟨⟨ps,e⟩,_⟩
  .exact z
  .exact T7 (.inl<|Z.xz a z)<|x xs e
  .exact T7 e<|n ps,λ_ _ x=>x]
theorem CI.mono(h:CI K Z A acc l O H S)(na:Z.n0≠aa A)(f:Fut (Z.at A) H ρ' H')(st:St3 K (Z.at A) S' H'):CI K Z A acc l O H' S':=by
 obtain⟨us,e,r⟩:=h.ac;cases f.eq;exact#[st,h.lr.mono f,us,(f.keep A _ e).elim id λz=>z.elim (λz=>T7 z.1 na)<|by rintro ⟨⟨_,z⟩,_⟩;exact (by cases z),r.mono f]
def Zfi{Q:L2.St->Hp->Prop}(lr:LocR Z H l O)(r:Rep Z H d v)(e:Pv.Zo t d l=aa l')(q:∀σ',LocR Z H l' σ'->Q σ' H):tGU K t v O H Q:=by
 have fill:∀{t:List Nat}{vs:List D}{us:List V}{l l':Lc}{O:L2.St},LocR Z H l O->Rq Z H vs us->Pv.YR t vs l=aa l'->us.length=t.length/\LocR Z H l' (U7 t us O):=λ{t}=>by
  induction t with
  |nil=>intro vs us l l' O h r e;cases vs with|nil=>rw[r];cases e;exact#[rfl,h]|cons _ _=>cases e
  |cons i t ih=>intro vs us l l' O h r e;cases vs with
   |nil=>cases e
   |cons v vs=>
    obtain⟨d,ds,rfl,a,b⟩:=r;obtain⟨z,q⟩:=ih (h.set i a) b e;exact#[by rw[aQ,aQ,z],q]
 have gen:∀t:List Nat,(match Pv.Za1 d with
   |some xs=>Pv.YR t xs l
   |none=>ag)=aa l'->∃a xs,v=.ref a/\(SqT K H a xs\/H a=aa (.lst xs))/\xs.length=t.length/\Q (U7 t xs O) H:=by
  intro t e;cases d with|tup vs=>obtain⟨p,ds,rfl,hp,rs⟩:=r.tup';obtain⟨z,y⟩:=fill lr rs e;exact#[p,ds,rfl,.inl<|SqT.of hp,z,q _ y]|lst vs=>obtain⟨p,ds,rfl,hp,_,rs⟩:=r.lst';obtain⟨z,y⟩:=fill lr rs e;exact#[p,ds,rfl,.inr hp,z,q _ y]|_=>cases e
 match t,e with
 |[i],e=>cases e;exact q _<|lr.set i r
 |[],e=>exact gen [] e
 |i::j::t,e=>exact gen (i::j::t) e
theorem Jx:∀{t:List Nat}{vs:List D}{l l':Lc},Pv.YR t vs l=aa l'->l'.length=l.length/\∀j,j∉t->l'[j]?=l[j]?
 |[],[],l,l',h=>by cases h;exact#[rfl,λ_ _=>rfl]
 |[],_::_,_,_,h=>by cases h
 |_::_,[],_,_,h=>by cases h
 |i::t,v::vs,l,l',h=>by
  obtain⟨a,b⟩:=Jx (t:=t) h;exact#[by rw[a,bx],λj hj=>by rw[b j λz=>hj<|am _ z,a9 λz=>hj (by rw[z];exact ak ..)]]
def yj(e:Pv.Zo t v l=aa l'):l'.length=l.length/\∀j,j∉t->l'[j]?=l[j]?:=by
 have gen:∀t:List Nat,(match Pv.Za1 v with
   |some xs=>Pv.YR t xs l
   |none=>ag)=aa l'->l'.length=l.length/\∀j,j∉t->l'[j]?=l[j]?:=λt e=>by
  cases q:Pv.Za1 v with|none=>rw[q]at e;cases e|some xs=>rw[q]at e;exact Jx e
 match t,e with
 |[i],e=>cases e;exact#[bx ..,λj hj=>a9 λz=>hj (by rw[z];exact ak ..)]
 |[],e=>exact gen [] e
 |i::j::t,e=>exact gen (i::j::t) e
def LocR.back(e:Pv.Zo t v l=aa l')(hn:∀i∈t,∀d,l[i]?≠aa (aa d))(lr:LocR Z H l' O):LocR Z H l O:=by
 obtain⟨a,b⟩:=yj e;exact#[by rw[<-a];exact lr.len,λi d q=>lr.val i d (by rw[b i λz=>hn i z d q];exact q)]
end
def ZdQ(C:Calls)(t:List Nat)(is:List E)(G:Lc->Zv->R (List D))(l:Lc)(x:D)(S:Zv):R (List D):=(Pv.po (Pv.Zo t x l) S).bind λl S=>(Pv.pvt C is l S).bind λb S=>if b then G l S else .ok [] S
def J4{B β:Type}{r:R B}{f:B->Zv->R β}{b:β}{S:Zv}(h:r.bind f=.ok b S):∃a S1,r=.ok a S1/\f a S1=.ok b S:=by
 cases r with|ok a S1=>exact#[a,S1,rfl,h]|ex _ _=>cases h|no=>cases h
def vP(h:Pv.mapP f (x::w) S=.ok rs S2):∃y S1 zs,f x S=.ok y S1/\Pv.mapP f w S1=.ok zs S2/\rs=y++zs:=by
 rw[Pv.mapP]at h;split at h
 .split at h
  .cases h;exact#[_,_,_,‹_›,‹_›,rfl]
  .cases h
 .cases h
def Zgw(K:ao)(Z:Mx)(A:aD)(P:Lc->Prop)(te:TEm)(G:Lc->Zv->R (List D)):Prop:=∀acc l O H S ys S2 QQ,P l->CI K Z A acc l O H S->G l S=.ok ys S2->(acc++ys).length<=Ev.lim->(∀σ3 H3,XQ Z A H H3->CI K Z A (acc++ys) l σ3 H3 S2->QQ σ3 H3)->te O H QQ
def jn{Z ρw:Mx}{A:aD}{Hw:Hp}{w:List D}{J:It}(r:WRel X.K ρw Hw w J)(na:Z.n0≠aa A){t:List Nat}{is:List E}{te:TEm}{G:Lc->Zv->R (List D)}{P:Lc->Prop}(em:Zgw X.K Z A P te G){l:Lc}(hn:∀i∈t,∀d,l[i]?≠aa (aa d))(hP:∀x l2,Pv.Zo t x l=aa l2->P l2){acc ys:List D}{O:L2.St}{H:Hp}{S S2:Zv}{QQ:L2.St->Hp->Prop}
  (hl:∀H',XQ Z A H H'->Lat ρw Hw (Z.at A) H')(c:CI X.K Z A acc l O H S)(h:Pv.mapP (ZdQ C t is G l) w S=.ok ys S2)(hz:(acc++ys).length<=Ev.lim)(k:∀σ3 H3,XQ Z A H H3->CI X.K Z A (acc++ys) l σ3 H3 S2->QQ σ3 H3) :
  ∃W:Nat->Nat->L2.St->Hp->Prop,(∃m,W 0 m O H)/\ZaD J (tGU X.K t) (tB3 X nx<|Pv.pvt C is) te W QQ:=by
 refine#[λn m σ' H'=>m=w.length-n/\n<=w.length/\XQ Z A H H'/\∃ac rs S',ac++rs=acc++ys/\Pv.mapP (ZdQ C t is G l) (w.drop n) S'=.ok rs S2/\CI X.K Z A ac l σ' H' S',#[w.length,rfl,dD _,λ_ _ _ h=>.inl h,acc,ys,S,rfl,h,c],?_]
 rintro n m σ' H' ⟨rfl,hn',ff,ac,rs,S',ea,e',c'⟩
 have lat:=hl H' ff;by_cases hlt:n<w.length
 .refine .inr ?_
  rw[cr hlt]at e';obtain⟨y1,S1,r1,q1,q2,rfl⟩:=vP e';obtain⟨go,yl⟩:=r.go n _ S' H' lat c'.st hlt;refine#[go,λx H3 y=>?_]
  obtain⟨f3,st3,rp⟩:=yl x H3 y;have rx:=rp _<|af hlt;obtain⟨l2,Sa,ha,q1⟩:=J4 q1;obtain⟨b,Sb,hb,q1⟩:=J4 q1;have hal:Pv.Zo t w[n] l=aa l2/\Sa=S':=by
   cases z:Pv.Zo t w[n] l<;>rw[z]at ha<;>cases ha;exact#[rfl,rfl]
  obtain⟨hal,rfl⟩:=hal;have ff3:=ff.trans<|XQ.of f3;have c3:=c'.mono na f3 st3;refine Zfi c3.lr rx hal λσ2 lr2=>#[Z.at A,l2,Sa,st3,lr2,?_]
  rw[hb];intro ρ4 H4 b' f4 st4 eb;have eb:b=b':=eb;subst eb;cases f4.eq;have ff4:=ff3.trans<|XQ.of f4;have c4:=c3.mono na f4 st4;cases b with
  |false=>
   rw[T8 aO]at q1 ⊢;cases q1;exact#[w.length-(n+1),iA _ _ hlt,rfl,hlt,ff4,ac,r1,_,ea,q2,c4.st,(lr2.mono f4).back hal hn,c4.ac]
  |true=>
   rw[T9 rfl]at q1 ⊢;refine em ac l2 σ2 H4 Sb y1 S1 _ (hP _ _ hal) #[c4.st,lr2.mono f4,c4.ac] q1 ?_ λσ3 H5 f5 c5=>#[w.length-(n+1),iA _ _ hlt,rfl,hlt,ff4.trans f5,ac++y1,r1,S1,by rw[bI];exact ea,q2,c5.st,c5.lr.back hal hn,c5.ac]
   rw[<-ea]at hz;simp only[aU]at hz ⊢;omega
 .refine .inl ?_
  have en:n=w.length:=by omega
  subst en;rw[ek]at e';cases e';rw[cw]at ea;subst ea;exact#[r.stop _ _ H' lat c'.st,k σ' H' ff c']
def ZfO{Z:Mx}{A:aD}(na:Z.n0≠aa A)(ie:E):Zgw X.K Z A (λ_=>True) (ZhD (tE X nx<|Pv.pv C ie) A) (λl S=>(Pv.pv C ie l S).bind λy S=>.ok [y] S):=λacc l O H S ys S2 QQ _ c h hz k=>by
 obtain⟨y,S1,hy,h⟩:=J4 h;cases h;refine#[Z.at A,l,S,c.st,c.lr,?_];rw[hy];intro ρ4 H4 v f4 st4 r4;cases f4.eq;have c4:=c.mono na f4 st4;obtain⟨us,e,r⟩:=c4.ac;rw[aU]at hz;have hz:acc.length+1<=Ev.lim:=hz;have fa:XQ Z A H4 (upd H4 A<|.lst<|us++[v]):=λa o n h=>.inl (by rw[Zi n];exact h)
 have lt:=fa.lat e;refine#[us,e,by rw[r.length,<-YO];omega,k O _ ((XQ.of f4).trans fa) #[#[st4.hk,λb x=>?_,λb x=>?_,st4.tb.upd (λo u z=>by rw[e]at z;cases z) λ_ z=>by cases z],#[c4.lr.len,λi d q=>let #[u,a,b]:=c4.lr.val i d q;#[u,a,b.lat lt]],_,Zj,(r.lat lt).append<|Rq.cons (r4.lat lt) Rq.nil]]
 .by_cases z:b=A
  .rw[z,Zj];intro q;cases q
  .rw[Zi z];exact st4.xd b x
 .rw[Zi λz=>na (by rw[<-z];exact x)];exact st4.dw b x
def ZcP(st:St3 X.K Z S H)(lr:LocR Z H l O)(hA:H A=ag):Z.n0≠aa A/\CI X.K Z A [] l O (upd H A<|.lst []) S/\∀H',XQ Z A (upd H A<|.lst []) H'->Fut Z H Z H'/\Lat Z H (Z.at A) H':=by
 have ne:∀a,H a≠ag->a≠A:=λa h z=>h<|z▸hA
 have f:∀H',XQ Z A (upd H A<|.lst []) H'->Fut Z H Z H'/\Lat Z H (Z.at A) H':=λH' g=>by
  have f:Fut Z H Z H':=#[rfl,λa o h=>g a o (ne a<|by rw[h];intro z;cases z) (by rw[Zi<|ne a (by rw[h];intro z;cases z)];exact h)]
  exact#[f,rfl,rfl,f.lat.keep',λa h x=>x.elim id λz=>T7 z<|ne a h]
 have s:=st.fresh (o:=.lst []) hA;obtain⟨f1,lt⟩:=f _ λ_ _ _ h=>.inl h
 refine#[λz=>st.xd A (Z.xz A z) hA,#[#[s.hk,λb x=>x.elim (s.xd b) λz=>(by rw[z,Zj];intro q;cases q),s.dw,s.tb],#[lr.len,λi d q=>let #[u,a,b]:=lr.val i d q;#[u,a,b.lat lt]],[],Zj,Rq.nil],f]
def u7{l:Lc}{cap:List Nat}{nl i:Nat}(h:i<nl)(v:D):(Pv.Yh cap nl l)[i]?≠aa (aa v):=by
 unfold Pv.Yh;rw[cq (by simpa using h),cH,T9 h]
 intro z;cases z
def qt(f0:Fut Z H0 Z H)(hA:H A=ag)(st:St3 X.K Z S H)(f:Fut Z H Z H')(c:CI X.K Z A ys l O H' S')(h:End X.K nx (XO al H0) Z H Q (.ok (.lst ys) S')):Q (.ref A) H':=by
 obtain⟨us,e,r⟩:=c.ac;have lt:Lat (Z.at A) H' Z H':=#[rfl,rfl,λ_ _ h _ _ _=>h,λ_ _ x=>.inl x]
 refine h Z H' _ f #[c.st.hk,λb x=>c.st.xd b<|.inl x,c.st.dw,c.st.tb] #[Wi e (st.nx hA)<|r.lat lt,λ_ _ _=>#[A,rfl,f0.new hA st.xd]]
def qy{K:ao}{rep:Mx->Hp->D->V->Prop}{Z:Mx}{H:Hp}{Q:VK}{r:R (List D)}(h:End K xw rep Z H Q (r.bind λys s=>if ys.length<=Ev.lim then Pv.PR.ok (.lst ys) s else .no).nox):∃ys S,r=.ok ys S/\ys.length<=Ev.lim/\End K nx rep Z H Q (.ok (.lst ys) S):=by
 cases r with
 |no=>exact h.elim
 |ex c S=>exact h.elim
 |ok ys S=>
  have h:=End.nox h
  obtain⟨hl,h⟩:=End.guard h;exact#[ys,S,rfl,hl,h]
def yt{is:List E}{ie:E}{cap:List Nat}{nl:Nat}{w:Ev.W}{t:List Nat}{O:L2.St}{H:Hp}{Q:VK}(hyp:tF X xw (Pv.pv C<|.comp1 cap nl t w is ie) O H Q):ZaY (tW3 X xw<|Pv.pvw C w) (tGU X.K t) (tB3 X nx<|Pv.pvt C is) (tE X nx<|Pv.pv C ie) cap nl O H Q:=by
 obtain⟨Z,l,S,st,lr,h⟩:=hyp;rw[Pv.Zc6]at h;obtain⟨ho,h⟩:=End.guard h;refine#[Z,l,S,st,lr,h.bind λwk S1 ρ1 H1 J f1 st1 r1 h1=>λA hA=>?_]
 cases f1.eq;obtain⟨ys,S2,hm,hl,h1⟩:=qy h1;obtain⟨na,ci,ft⟩:=ZcP st1 ((lr.mono f1).caught cap nl) hA;exact jn (C:=C) (G:=λl S=>(Pv.pv C ie l S).bind λy S=>.ok [y] S) r1 na (ZfO na ie) (λi hi d=>u7 (T6<|bp.mp ho i hi) d) (λ_ _ _=>dJ) (λH' f=>(ft H' f).2) ci hm hl λσ3 H3 f3 c3=>qt f1 hA st1 (ft H3 f3).1 c3 h1
def ZaL{elt:Expr}{ifs:List Expr}{is:List E}{ie:E}{scope:dO}{N:List bn}{cap:List Nat}{nl:Nat}{w:Ev.W}{t:List Nat}(hc:X.calm=al)(hN:X.N.Nodup)(CSc:CompScope X.env.scope X.N scope N cap nl)(hi:CW X xw C tg it w)
  (hb:∀cl s H fp,CG #[15] tg t/\CTs #[15] nx C ifs is/\CE #[15] nx C elt ie)
  (hs:∀x,dH it X.env x=cy x):CF X xw C (.ListComp elt [#[tg,it,ifs,0]] scope pos) (.comp1 cap nl t w is ie):=.mk <|
 PE.imp (ZbF hc hN CSc hi.h (λcl s H fp=>have#[a,b,c]:=hb cl s H fp;#[a.h,b.h,c.h]) hs) λO H Q hyp=>yt hyp
def jQ{fr:Bool}{ns:List Nat}{elt:Expr}{ifs:List Expr}{is:List E}{ie:E}{scope:dO}{N:List bn}{cap:List Nat}{nl:Nat}{w:Ev.W}{t:List Nat}{n:Nat}{y:bn}{spos py:fD}(hc:X.calm=al)(hN:X.N.Nodup)(CSc:CompScope X.env.scope X.N scope N cap nl)(hi:CW X xw C tg it w)
  (hb:∀cl s H fp,CG #[15] tg t/\CTs #[15] nx C ifs is/\CE #[15] nx C elt ie)
  (hsw:ej (.ListComp elt [#[tg,it,ifs,0]] scope pos) (aa<|.Name y py) spos.line X.env=cy al)
  (hy:X.N[n]?=aa y)(hx:L2.Loc X.env.scope y)(hf:X.fn y=al\/X.env.scope.names.lookup y=aa .local)
  (hs:∀x,dH it X.env x=cy x):CS X xw fr C ns (.Assign [.Name y py] (.ListComp elt [#[tg,it,ifs,0]] scope pos) spos) (.asg [n]<|.comp1 cap nl t w is ie):=.mk <|
 PS.imp (qe hc hN CSc hi.h (λcl s H fp=>have#[a,b,c]:=hb cl s H fp;#[a.h,b.h,c.h]) hsw hy hx hf hs)<|by right;exact yt<|Zgx st en h
end
theorem LocR.start(r:Rq Z H ds vs)(N:List bn)(n:Nat)(hn:n=N.length):LocR Z H (Pv.ZO n ds) (L2.start N vs):=by
 subst hn;have hl:=r.length;refine#[by unfold Pv.ZO L2.start;simp[hl],λi d e=>?_]
 unfold Pv.ZO at e;by_cases hi:i<ds.length
 .rw[cq (by simpa using hi),aJ]at e
  cases q:ds[i]? with
  |none=>rw[q]at e;cases e
  |some d'=>
   rw[q]at e;cases e;obtain⟨v,hv,r'⟩:=r.get q;refine#[v,?_,r'];unfold L2.start;rw[cq (by simp;lia),aJ,hv]
   rfl
 .rw[cg (by simp;lia),cH]at e
  split at e<;>cases e
theorem Eu.start{K:ao}{Z:Mx}{H:Hp}{S:Zv}{ds:List D}{vs:List V}(st:St3 K Z S H)(r:Rq Z H ds vs)(N:List bn)(n:Nat)(hn:n=N.length):Eu Z H (λ_=>ag) (Pv.ZO n ds) [] (L2.start N vs) H:=by
 have lr:=LocR.start r N n hn;refine#[Fut.refl _ _,st.xd,lr.len,λ_=>rfl,λ_ _ _ h=>?_,λ_ _ h=>?_,λ_ _ h=>?_,λi d e _=>?_]
 .cases h
 .cases h
 .cases h
 .obtain⟨v,a,b⟩:=lr.val i d e
  exact#[v,a,Rep.lat (Z:=Z) (ρ':=Z.ex λ_=>ag) #[rfl,rfl,λ_ _ h _ _ _=>h,λ_ _ x=>Or.elim x id λ#[_,z]=>by cases z] b]
section
variable{P:bt}{w:bN}{K:ao}{mg:bn->Option au}{base:bV}
def Gc(C:Calls)(fn:Fn)(ds:List D)(S:Zv):R D:=if ds.length=fn.ps then(Pv.rvs C (Pv.muts fn.body) fn.body (Pv.ZO fn.ns ds) [] S).bind λf S=>match f with
  |.ret x=>.ok x S
  |.nx _ _=>.ok .non S
 else .no
def zV{C:Calls}{fn:Fn}{fr:Bool}{xw:Nat->Hp->Prop}{Z:Mx}{H:Hp}{ds:List D}{S:Zv}{Q:VK}{E:L2.Ends}(hE:∀v H',Q v H'->E.rt v H')(hN:∀O H',Q .non H'->E.nx O H')(h:End K xw (XO fr H) Z H Q (Gc C fn ds S)):Zx fr K xw Z H E (Pv.rvs C (Pv.muts fn.body) fn.body (Pv.ZO fn.ns ds) [] S):=by
 obtain⟨_,h⟩:=End.guard h;cases q:Pv.rvs C (Pv.muts fn.body) fn.body (Pv.ZO fn.ns ds) [] S with
 |no=>rw[q]at h;exact h
 |ex c S2=>rw[q]at h;exact λH' f st=>h Z H' f st
 |ok fl S2=>
  rw[q]at h;cases fl with|ret x=>exact λH' v f st r=>hE v H'<|h Z H' v f st r|nx l os=>exact λH' σ' W' st en=>hN σ' H'<|h Z H' .non en.fut st #[V5,λ_ _ z=>by cases z]
end
section
variable{prog:bt}{w:bN}{A:bU}{E:au->aA->Prop}{s:aA}
theorem uh(n:Nat):cP ((n:Int)-1) (-1) (-1)=n:=by
 unfold cP;have h1:¬((-1:Int)>0):=by decide
 rw[T8 h1];by_cases h:(n:Int)-1 > -1
 .rw[T9 h,show(- -1:Int)=1 by decide,Int.ediv_one]
  lia
 .rw[T8 h]
  lia
def Vv{sl:aD}{vk:au}{n:Nat}{Q:Int×Int×Nat->aA->Prop}(hs:s.heap.IsSliceOf sl .none .none vk)(pk:i5 vk (aa<|-1))
  (h:Q ((n:Int)-1,-1,n) s):aX #[8] A (i7 (.ref sl)<|cy (n:Int)) Q E s:=by
 obtain⟨os,hos,hcs,hds⟩:=id hs;refine ae<|ae<|cO hos hds rfl<|ae<|cO hos hds rfl<|ae<|cO hos hds rfl<|aB ?_;refine ae<|HT.WO pk ?_;show aX _ _ (if((-1:Int) == 0)=al then _ else _) _ _ s
 rw[T8 #[1]]
 refine ae<|i6<|ae<|i6<|ae<|aB ?_;show aX _ _ (cy ((n:Int)-1,(-1:Int),cP ((n:Int)-1) (-1)<|-1)) _ _ s;rw[uh];exact aB h
theorem Zba(xs:Array au):((aP xs.size).filterMap λ(k:Nat)=>xs[((xs.size:Int)-1+(k:Int) * -1).toNat]?).toArray=xs.toList.reverse.toArray:=by
 congr 1
 have e:(aP xs.size).filterMap (λ(k:Nat)=>xs[((xs.size:Int)-1+(k:Int) * -1).toNat]?)=((aP xs.size).map λk=>xs.size-1-k).filterMap (xs[·]?):=by
  rw[nC]
  congr 1
  funext k
  have:((xs.size:Int)-1+(k:Int) * -1).toNat=xs.size-1-k:=by lia
  rw[this];rfl
 rw[e,PySem.W.krv_range,List.filterMap_reverse,PySem.W.krv_all]
def Vf{Q:au->aA->Prop}(ht:nP s.heap t items)(hs:s.heap.IsSliceOf sl .none .none vk)(pk:i5 vk (aa<|-1))
  (h:Q (.ref s.heap.objs.size) {s with heap:=s.heap.push {cls:=.type "tuple",data:=.seq items.toList.reverse.toArray}})
  (hsz:items.size<=aW):aX #[8] A (kF (.ref t)<|.ref sl) Q E s:=by
 have htake:sizeOk (.seq items.toList.reverse.toArray):=by
  show items.toList.reverse.toArray.size<=aW;rw[aC,gy,aN];exact hsz
 obtain⟨os,hos,hcs,hds⟩:=id hs;have hTs:s.TypeIs (.ref sl) "slice":=#[os,hos,hcs];unfold kF
 try with_reducible refine bT ?_
 first|refine ae<|aB ?_|skip
 refine ae<|kG ht.typeIs #[1] ?_
 refine ae (cI ht.typeIs cC
  (de cC ht.typeIs iR ?_<|i8 _ _))
 show aX _ _ (fN (.ref t) >>= _) _ _ s;refine ae<|m7 ht ?_;refine ae<|fW hTs ?_;rw[T9 #[1]]
 refine ae<|Vv hs pk ?_;have hno:¬(((items.size:Int)-1 == 0&&(-1:Int) == 1&&items.size == items.size)=al):=by
  intro q;rw[aG,aG]at q;exact T7 q.1.2 #[1]
 show aX _ _ (if((items.size:Int)-1 == 0&&(-1:Int) == 1&&items.size == items.size)=al then _ else _) _ _ s
 rw[T8 hno,Zba]
 first
  |exact ae<|bC (aB #[_,rfl,aB h]) htake
  |exact ae<|bC (ae<|aB<|aB #[_,rfl,aB h]) htake
  |exact ae<|ae<|bC (aB<|aB #[_,rfl,aB h]) htake
  |exact ae<|ae<|bC (aB #[_,rfl,aB h]) htake
end
section
variable{X:Cx}{xw:Nat->Hp->Prop}{C:Calls}{e a b c tg it:Expr}{i j k:E}{pos p p' p2 p3:fD}{q1:Option bn}
def ZeL{e1:Expr}(ha:CE X xw C a i)(h1:CE X xw C e1 (.neg<|.n 1)):CE X xw C (.Subscript a (.Slice ag ag (aa e1) p2) pos) (.rev i):=.mk <| by
 intro pq s O H Q I hq;obtain⟨Z,l,S,st,lr,h⟩:=hq;have h':=h
 refine pI<|thn (ha.h pq s O H (λx H1=>∃ρ1 S1 d,St3 X.K ρ1 S1 H1/\LocR ρ1 H1 l O/\Rep ρ1 H1 d x/\End X.K xw Rep ρ1 H1 Q (Pv.po (Pv.Zhi d) S1)) I #[Z,l,S,st,lr,h'.bind λd S1 ρ1 H1 v f1 st1 r1 h1=>#[ρ1,S1,d,st1,lr.mono f1,r1,h1]]) λv s1 #[x,H1,I1,r1,ρ1,S1,d,st1,lr1,rd,h2]=>?_
 refine wpAny_Slice ?_;rw[m8];refine aB<|aB ?_;rw[evalPart_some];refine thn (h1.h pq s1 O H1 (λy H2=>y=.int (-1)/\∃ρ2,Fut ρ1 H1 ρ2 H2/\St3 X.K ρ2 S1 H2) I1 #[ρ1,l,S1,st1,lr1,λρ2 H2 y f2 st2 ry=>#[ry.int',ρ2,f2,st2]]) λvk s2 #[y,H2,I2,ry,ey,ρ2,f2,st2]=>?_
 subst ey;obtain⟨t,rfl⟩:=ry;have rd2:=rd.mono f2;have h3:=End.mono f2 h2;cases d with
 |tup ds=>
  obtain⟨q,xs,rfl,hp,rs⟩:=rd2.tup';cases r1;have I4:Inv X pq O H2 {s2 with heap:=s2.heap.push {cls:=.type "slice",data:=.fields [.none,.none,.int (-1) t].toArray}}:=I2.kept (t':=s2.toks) λb ob q=>av _ q
  obtain⟨its,r,ht,hz⟩:=I4.tuple<|SqT.of hp;have hlen:its.toArray.size=xs.length:=by rw[aC];exact r.length.symm
  refine tail_any ht.typeIs cC.lookup ?_ (by with_unfolding_all rfl)
  refine Vf ht (nD ..) (i5.int _ _) ?_ (by rw[hlen];exact hz)
  refine#[.ref _,_,I4.laid (t':=s2.toks) (o:=.tup xs.reverse) (λb ob q=>av _ q) (aF _) #[by rw[gy];exact hz,_,r.reverse,h9 _ _],rfl,h3.newT st2 rs.reverse _<|I4.hok.fresh<|aF _]
 |_=>exact False.elim h3
end
def yv{a b c}:aE (.Constant a b c::es) env=(aj,cD (.Constant a b c) env)::aE es env:=rfl
def xP{a b}:aE (.Name a b::es) env=(aj,cD (.Name a b) env)::aE es env:=rfl
def qM{a b c}:aE (.Tuple a b c::es) env=(aj,cD (.Tuple a b c) env)::aE es env:=rfl
def qY{a b}:aE (.List a b::es) env=(aj,cD (.List a b) env)::aE es env:=rfl
def wj{a b c}:aE (.Dict a b c::es) env=(aj,cD (.Dict a b c) env)::aE es env:=rfl
def jC{a b c d}:aE (.BinOp a b c d::es) env=(aj,cD (.BinOp a b c d) env)::aE es env:=rfl
def ZdD{a b c}:aE (.UnaryOp a b c::es) env=(aj,cD (.UnaryOp a b c) env)::aE es env:=rfl
def j8{a b c d}:aE (.Compare a b c d::es) env=(aj,cD (.Compare a b c d) env)::aE es env:=rfl
def Zab{a b c}:aE (.Subscript a b c::es) env=(aj,cD (.Subscript a b c) env)::aE es env:=rfl
def wO{a b c d}:aE (.Call a b c d::es) env=(aj,cD (.Call a b c d) env)::aE es env:=rfl
def wA{a b c d}:aE (.ListComp a b c d::es) env=(aj,cD (.ListComp a b c d) env)::aE es env:=rfl
def Xj:List fZ->List (Int×Int)->Prop
 |[],[]=>True
 |e::r,(k,j)::q=>(∃t,e.key=.int k t)/\e.hash=hashInt k/\(∃u,e.val=.int j u)/\Xj r q
 |_,_=>False
theorem Xj.mem :∀{es:List fZ}{tab:List (Int×Int)},Xj es tab->∀e∈es,∃k,(kJ P w).is k e.key=al/\e.hash=(kJ P w).hash k
 |[],_,_,e,h=>by cases h
 |e::r,[],h,_,_=>h.elim
 |e::r,(k,j)::q,h,x,hx=>by
  obtain⟨⟨t,h1⟩,h2,_,h4⟩:=h;rcases az.mp hx with rfl|hx
  .exact#[k,by rw[h1];exact intKind_is P w k t,h2]
  .exact Xj.mem h4 x hx
theorem Xj.find(k:Int):∀{es:List fZ}{tab:List (Int×Int)},Xj es tab->(tab.lookup k=ag->(es.find? λe=>(kJ P w).is k e.key)=ag)/\∀j,tab.lookup k=aa j->∃e t,(es.find? λe=>(kJ P w).is k e.key)=aa e/\e.val=.int j t
 |[],[],_=>#[λ_=>rfl,λj h=>by cases h]
 |[],_::_,h=>h.elim
 |e::r,[],h=>h.elim
 |e::r,(k',j')::q,h=>by
  obtain⟨⟨t,h1⟩,h2,⟨u,h3⟩,h4⟩:=h;obtain⟨i1,i2⟩:=Xj.find k h4;rw[bK,eM];have hd:(kJ P w).is k e.key=ai (k=k'):=KeyKind.is_eq_decide (by rw[h1];exact intKind_is P w k' t) k
  rw[hd];by_cases z:k=k'
  .subst z
   rw[beq_self_eq_true,T5 rfl];exact#[λz=>(by cases z),λj z=>(by cases z;exact#[e,u,rfl,h3])]
  .rw[beq_eq_false_iff_ne.mpr z,T4 z]
   exact#[i1,i2]
def ZcB{P:bt}{w:bN}{K:ao}{a:aD}{es:Array fZ}{n:Nat}{tab:List (Int×Int)}(hl:K.lookup a=aa #[.type "dict",ag,.dict es n,#[]])(ht:Xj es.toList tab)(ha:(a == cW)=aj):ZgP P w K a tab:=by
 refine#[ha,λk=>findBy (kJ P w).is es k,λh X=>#[_,es,n,X _ _ hl,#[rfl,rfl,rfl],rfl,λe he=>ht.mem e<|Array.mem_toList_iff.mpr he,λ_=>rfl],λk=>?_]
 obtain⟨l⟩:=es;obtain⟨i1,i2⟩:=Xj.find k ht;refine#[λz=>?_,λj z=>?_]
 .show((l.toArray.find? λe=>(kJ P w).is k e.key).map (·.val))=ag
  rw[nH,i1 z];rfl
 .obtain⟨e,t,q1,q2⟩:=i2 j z
  refine#[t,?_];show((l.toArray.find? λe=>(kJ P w).is k e.key).map (·.val))=_
  rw[nH,q1];exact congrArg aa q2
def hu7(hr:Room k A):A.units+7<d4:=Nat.lt_of_le_of_lt #[0] hr.un
end
section
def Src(b:Bool)(h:bV)(it l:aD)(k:Nat):Prop:=match b with
 |true=>h.IsListIter it l k
 |false=>h.IsTupleIter it l k
def YV(b:Bool)(h:bV)(l:aD)(xs:Array au):Prop:=match b with
 |true=>h.IsList l xs
 |false=>h.IsTuple l xs
def Src.ext(x:Src b h it l k)(e:fO c h h')(n:it≠c):Src b h' it l k:=by
 cases b
 .exact bV.IsTupleIter.extBut x e n
 .exact bV.IsListIter.extBut x e n
def Src.keep(x:Src b h it l k)(e:∀o,h.get? it=aa o->h'.get? it=aa o):Src b h' it l k:=by
 cases b
 .obtain⟨o,ho,r⟩:=x;exact#[o,e o ho,r]
 .obtain⟨o,ho,r⟩:=x;exact#[o,e o ho,r]
def Src.obj(x:Src b h it l k):∃o,h.get? it=aa o/\∀v,o.data≠.cell v:=by
 cases b
 .obtain⟨o,ho,_,d⟩:=x;exact#[o,ho,λv z=>by rw[d]at z;cases z]
 .obtain⟨o,ho,_,d⟩:=x;exact#[o,ho,λv z=>by rw[d]at z;cases z]
def YV.keep(x:YV b h l xs)(e:∀o,h.get? l=aa o->h'.get? l=aa o):YV b h' l xs:=by
 cases b
 .obtain⟨o,ho,r⟩:=x;exact#[o,e o ho,r]
 .obtain⟨o,ho,r⟩:=x;exact#[o,e o ho,r]
def Zbl{Q:au->aA->Prop}(hit:s.heap.IsTupleIter it t i)(ht:s.heap.IsTuple t items)(hx:items[i]?=aa x)
  (hQ:∀h',h'.IsTupleIter it t (i+1)->fe it s.heap h'->Q x {s with heap:=h' }):aX #[8] A (eJ<|.ref it) Q E s:=by
 obtain⟨o,ho,hc,hd⟩:=id hit;obtain⟨ol,hol,_,nl,hdl⟩:=ht;refine ae<|cI hit.typeIs eD<|de eD hit.typeIs iU ?_<|iM _;show aX _ _ (field (.ref it) 0 >>= _) _ _ s;refine ae<|cO ho hd rfl ?_;show aX _ _ (if(cG t == bG)=al then _ else _) _ _ s
 rw[T8 (by exact aO)];refine ae<|cO ho hd rfl ?_
 refine ae<|eE hol hdl ?_;simp only[cZ,hx];refine ae<|kj ho hd #[2]<|aB #[x,rfl,aB<|hQ _ #[_,fC _ ho<|hZ<|fg hd _,(kL ..).trans hc,?_]<|eX ..]
 rw[fg hd];simp[gw]
def Go{Q:au->aA->Prop}(hh:A.handled=ag)(hit:s.heap.IsTupleIter it t i)(ht:s.heap.IsTuple t items)(hx:items[i]?=ag)
  (hE:∀h' e,fO it s.heap h'->(∃o,h'.get? e=aa o/\o.cls=.type "StopIteration")->E (.ref e) {s with heap:=h' }):aX #[8] A (eJ<|.ref it) Q E s:=by
 obtain⟨o,ho,hc,hd⟩:=id hit;obtain⟨ol,hol,_,nl,hdl⟩:=ht;refine ae<|cI hit.typeIs eD<|de eD hit.typeIs iU ?_<|iM _;show aX _ _ (field (.ref it) 0 >>= _) _ _ s;refine ae<|cO ho hd rfl ?_;show aX _ _ (if(cG t == bG)=al then _ else _) _ _ s
 rw[T8 (by exact aO)];refine ae<|cO ho hd rfl ?_
 refine ae<|eE hol hdl ?_;simp only[cZ,hx];refine ae<|fJ<|ae<|kj ho hd #[2] ?_;show aX _ _ (newExc (.type "StopIteration") [] >>= _) _ _ _
 refine ae ?_;simp only[newExc,newTuple];refine ae<|bC ?_ (by size_fits)
 refine ae (o7 (by first|rfl|(simp only[mG];rfl))<|bC ?_ (by size_fits))
 simp only[raiseNew];refine ae<|wpAny_handled ?_;first|rw[hh]|rw[hh]
 exact ae<|aB<|wpAny_throw<|hE _ _ (((eX ..).extBut.push _).push _) #[_,aM _ rfl,rfl]
def Vh{Q:au->aA->Prop}(hit:Src b s.heap it l k)(hl:YV b s.heap l xs)(hx:xs[k]?=aa x)
  (hQ:∀h',Src b h' it l (k+1)->fe it s.heap h'->Q x {s with heap:=h' }):aX #[8] A (eJ<|.ref it) Q E s:=by
 cases b
 .exact Zbl hit hl hx hQ
 .exact wpAny_nextOf_list_item hit hl hx hQ
def Ge{Q:au->aA->Prop}(hh:A.handled=ag)(hit:Src b s.heap it l k)(hl:YV b s.heap l xs)(hx:xs[k]?=ag)
  (hE:∀h' e,fO it s.heap h'->(∃o,h'.get? e=aa o/\o.cls=.type "StopIteration")->E (.ref e) {s with heap:=h' }):aX #[8] A (eJ<|.ref it) Q E s:=by
 cases b
 .exact Go hh hit hl hx hE
 .exact wpAny_nextOf_list_end hh hit hl hx hE
noncomputable def Yu(b:Bool)(l:aD):eW:={cls:=.type (if b then "list_iterator" else "tuple_iterator"),data:=.fields [.ref l,.int 0 0].toArray}
def U0{Q:au->aA->Prop}(hl:YV b s.heap l xs)(h:Q (.ref s.heap.objs.size) {s with heap:=s.heap.push (Yu b l)}):aX #[8] A (rF<|.ref l) Q E s:=by
 cases b
 .exact gN hl h
 .exact fE hl h
structure ZipSt(b1 b2:Bool)(z TI TO i1 i2 l1 l2:aD)(k:Nat)(f0:au)(h:bV):Prop where
 zp:o8 h z TI TO f0
 ti:lN h TI (.ref i1) (.ref i2)
 to:∃a b,lN h TO a b
 s1:Src b1 h i1 l1 k
 s2:Src b2 h i2 l2 k
def qO{b1 b2:Bool}{z TI TO i1 i2 l1 l2:aD}{k:Nat}{xs ys:Array au}{x y:au}{Q:au->aA->Prop}(D:mH z TI TO i1 i2 l1 l2)(Z:ZipSt b1 b2 z TI TO i1 i2 l1 l2 k .none s.heap)(hl1:YV b1 s.heap l1 xs)(hl2:YV b2 s.heap l2 ys)(hx:xs[k]?=aa x)(hy:ys[k]?=aa y)
  (hQ:∀h',ZipSt b1 b2 z TI TO i1 i2 l1 l2 (k+1) (gw s.heap.objs.size) h'->lN h' s.heap.objs.size x y->(∀c o,c∉[z,TO,i1,i2]->s.heap.get? c=aa o->h'.get? c=aa o)->Q (.ref s.heap.objs.size) {s with heap:=h' }) :
  aX #[8] A (eQ.«zip.__next__» #[[.ref z],[]]) (λfin s'=>∃v,fin=.done (.ret v)/\Q v s') E s:=by
 obtain⟨hz,hTI,⟨a,b,hTO⟩,h1,h2⟩:=Z;show aX _ _ (field (.ref z) 2 >>= _) _ _ _;refine ae<|cO hz rfl rfl ?_;refine ae<|cO hz rfl rfl<|ae<|eE hTI rfl ?_;refine ae ?_;refine ae<|cO hz rfl rfl<|aB ?_;simp only[if_true];refine ae<|fJ<|ae<|cO hz rfl rfl<|ae<|eF hz #[2] λh₁ hz₁ hs₁=>?_
 replace hz₁:o8 h₁ z TI TO .ellipsis:=by exact hz₁
 refine ae ?_;simp only[lj,pf,iJ,mI];refine ae<|ae<|kU ?_;refine ae<|Vh (h1.ext hs₁.extBut D.i1z) (hl1.keep λo e=>hs₁.extBut _ o D.l1z e) hx λh₂ h1₂ hs₂=>aB ?_
 have hTO₂:lN h₂ TO a b:=by exact hs₂.extBut _ _ D.TOi1<|hs₁.extBut _ _ D.TOz hTO
 refine ae<|eE hTO₂ rfl<|ae<|iB hTO₂ λh₃ hTO₃ hs₃=>?_
 replace hTO₃:lN h₃ TO x b:=by exact hTO₃
 refine ae<|o9<|aB<|ae<|ae<|kU ?_;have to3:∀c o,c≠z->c≠TO->c≠i1->s.heap.get? c=aa o->h₃.get? c=aa o:=λc o c1 c2 c3 e=>hs₃.extBut _ _ c2<|hs₂.extBut _ _ c3<|hs₁.extBut _ _ c1 e
 refine ae<|Vh (h2.keep λo e=>to3 _ o D.i2z D.TOi2.symm D.i12.symm e) (hl2.keep λo e=>to3 _ o D.l2z D.l2TO D.l2i1 e) hy λh₄ h2₄ hs₄=>aB ?_
 have hTO₄:lN h₄ TO x b:=by exact hs₄.extBut _ _ D.TOi2 hTO₃
 refine ae<|eE hTO₄ rfl<|ae<|iB hTO₄ λh₅ hTO₅ hs₅=>?_
 replace hTO₅:lN h₅ TO x y:=by exact hTO₅
 refine ae<|o9<|aB<|aB<|ae<|eE hTO₅ rfl<|ae<|wpAny_newTuple ?_;have hsz:h₅.objs.size=s.heap.objs.size:=by rw[hs₅.1,hs₄.1,hs₃.1,hs₂.1,hs₁.1]
 have to5:=λc o c1 c2 c3 c4 e=>hs₅.extBut _ _ c2<|hs₄.extBut _ _ c4<|to3 c o c1 c2 c3 e
 have hz₅:o8 h₅ z TI TO .ellipsis:=by exact hs₅.extBut _ _ D.TOz.symm<|hs₄.extBut _ _ D.i2z.symm<|hs₃.extBut _ _ D.TOz.symm<|hs₂.extBut _ _ D.i1z.symm hz₁
 have h1₅:=((h1₂.ext hs₃.extBut D.TOi1.symm).ext hs₄.extBut D.i12).ext hs₅.extBut D.TOi1.symm;have h2₅:=h2₄.ext hs₅.extBut D.TOi2.symm;have zl:=aH hz₅;refine ae ?_;have hz₆:o8 (h₅.push {cls:=.type "tuple",data:=.seq [x,y].toArray}) z TI TO .ellipsis:=by exact av _ hz₅
 refine ae<|eF hz₆ #[2] λh₇ hz₇ hs₇=>?_
 replace hz₇:o8 h₇ z TI TO (gw h₅.objs.size):=by exact hz₇
 refine eF hz₇ #[2] λh₈ hz₈ hs₈=>aB #[_,rfl,?_]
 replace hz₈:o8 h₈ z TI TO (gw h₅.objs.size):=by exact hz₈
 have up:∀c o,c≠z->h₅.get? c=aa o->h₈.get? c=aa o:=λc o c1 e=>by exact hs₈.extBut _ _ c1<|hs₇.extBut _ _ c1<|av _ e
 have hT₈:lN h₈ h₅.objs.size x y:=by exact hs₈.extBut _ _ (eN zl)<|hs₇.extBut _ _ (eN zl)<|aM _ rfl
 rw[hsz]at hz₈ hT₈ ⊢;refine hQ h₈ #[hz₈,up _ _ D.TIz<|to5 _ _ D.TIz D.TITO D.TIi1 D.TIi2 hTI,#[x,y,up _ _ D.TOz hTO₅],h1₅.keep λo e=>up _ o D.i1z e,h2₅.keep λo e=>up _ o D.i2z e] hT₈ λc o hc e=>?_
 simp only[az,bu,or_false,not_or]at hc;exact up c o hc.1<|to5 c o hc.1 hc.2.1 hc.2.2.1 hc.2.2.2 e
def QE{b1 b2:Bool}{z TI TO i1 i2 l1 l2:aD}{k:Nat}{xs ys:Array au}{Q:Fin->aA->Prop}(hh:A.handled=ag)(D:mH z TI TO i1 i2 l1 l2)(Z:ZipSt b1 b2 z TI TO i1 i2 l1 l2 k .none s.heap)(hl1:YV b1 s.heap l1 xs)(hl2:YV b2 s.heap l2 ys)(hend:xs[k]?=ag\/ys[k]?=ag)
  (hE:∀h' e,(∀c o,c∉[z,TO,i1,i2]->s.heap.get? c=aa o->h'.get? c=aa o)->(∃o,h'.get? e=aa o/\o.cls=.type "StopIteration")->E (.ref e) {s with heap:=h' }) :
  aX #[8] A (eQ.«zip.__next__» #[[.ref z],[]]) Q E s:=by
 obtain⟨hz,hTI,⟨a,b,hTO⟩,h1,h2⟩:=Z;have hk:∀{c:aD},c∉[z,TO,i1,i2]->c≠z/\c≠TO/\c≠i1/\c≠i2:=λhc=>by
  simp only[az,bu,or_false,not_or]at hc;exact hc
 show aX _ _ (field (.ref z) 2 >>= _) _ _ _;refine ae<|cO hz rfl rfl ?_;refine ae<|cO hz rfl rfl<|ae<|eE hTI rfl ?_;refine ae ?_;refine ae<|cO hz rfl rfl<|aB ?_;simp only[if_true];refine ae<|fJ<|ae<|cO hz rfl rfl<|ae<|eF hz #[2] λh₁ hz₁ hs₁=>?_
 replace hz₁:o8 h₁ z TI TO .ellipsis:=by exact hz₁
 refine ae ?_;simp only[lj,pf,iJ,mI];refine ae<|ae<|kU ?_;have l1₁:=hl1.keep λo e=>hs₁.extBut _ o D.l1z e
 cases hx:xs[k]? with
 |none=>
  refine ae<|Ge hh (h1.ext hs₁.extBut D.i1z) l1₁ hx λh₂ e hs₂ he=>?_
  obtain⟨oe,hoe,hce⟩:=he;have hz₂:o8 h₂ z TI TO .ellipsis:=by exact hs₂ _ _ D.i1z.symm hz₁
  have hez:e≠z:=λx=>by subst x;rw[hz₂]at hoe;cases hoe;simp at hce
  exact eF hz₂ #[2] λh₃ _ hs₃=>hE h₃ e (λc o hc x=>hs₃.extBut _ _ (hk hc).1<|hs₂ _ _ (hk hc).2.2.1<|hs₁.extBut _ _ (hk hc).1 x) #[oe,hs₃.extBut _ _ hez hoe,hce]
 |some x=>
  have hy:ys[k]?=ag:=by rcases hend with q|q;rw[hx]at q;cases q;exact q
  refine ae<|Vh (h1.ext hs₁.extBut D.i1z) l1₁ hx λh₂ h1₂ hs₂=>aB ?_
  have hTO₂:lN h₂ TO a b:=by exact hs₂.extBut _ _ D.TOi1<|hs₁.extBut _ _ D.TOz hTO
  refine ae<|eE hTO₂ rfl<|ae<|iB hTO₂ λh₃ hTO₃ hs₃=>?_
  refine ae<|o9<|aB<|ae<|ae<|kU ?_;have to3:∀c o,c≠z->c≠TO->c≠i1->s.heap.get? c=aa o->h₃.get? c=aa o:=λc o c1 c2 c3 e=>hs₃.extBut _ _ c2<|hs₂.extBut _ _ c3<|hs₁.extBut _ _ c1 e
  refine ae<|Ge hh (h2.keep λo e=>to3 _ o D.i2z D.TOi2.symm D.i12.symm e) (hl2.keep λo e=>to3 _ o D.l2z D.l2TO D.l2i1 e) hy λh₄ e hs₄ he=>?_
  obtain⟨oe,hoe,hce⟩:=he;have hz₄:o8 h₄ z TI TO .ellipsis:=by exact hs₄ _ _ D.i2z.symm<|hs₃.extBut _ _ D.TOz.symm<|hs₂.extBut _ _ D.i1z.symm hz₁
  have hez:e≠z:=λx=>by subst x;rw[hz₄]at hoe;cases hoe;simp at hce
  exact eF hz₄ #[2] λh₅ _ hs₅=>hE h₅ e (λc o hc x=>hs₅.extBut _ _ (hk hc).1<|hs₄ _ _ (hk hc).2.2.2<|to3 c o (hk hc).1 (hk hc).2.1 (hk hc).2.2.1 x) #[oe,hs₅.extBut _ _ hez hoe,hce]
def y8{b1 b2:Bool}{z TI TO i1 i2 l1 l2:aD}{k:Nat}{xs ys:Array au}{x y:au}{Q:Option au->aA->Prop}(D:mH z TI TO i1 i2 l1 l2)(Z:ZipSt b1 b2 z TI TO i1 i2 l1 l2 k .none s.heap)(hl1:YV b1 s.heap l1 xs)(hl2:YV b2 s.heap l2 ys)(hx:xs[k]?=aa x)(hy:ys[k]?=aa y)
  (hQ:∀h',ZipSt b1 b2 z TI TO i1 i2 l1 l2 (k+1) (gw s.heap.objs.size) h'->lN h' s.heap.objs.size x y->(∀c o,c∉[z,TO,i1,i2]->s.heap.get? c=aa o->h'.get? c=aa o)->Q (aa<|.ref s.heap.objs.size) {s with heap:=h' }) :
  aX #[8] A (mw<|.ref z) Q E s:=by
 have hT:s.TypeIs (.ref z) "zip":=#[_,Z.zp,rfl];exact ae<|io<|cI hT iN<|de iN hT oU (qO D Z hl1 hl2 hx hy λh' a1 a2 a3=>aB<|hQ h' a1 a2 a3)<|ow _
def U4{b1 b2:Bool}{z TI TO i1 i2 l1 l2:aD}{k:Nat}{xs ys:Array au}{Q:Option au->aA->Prop}(hh:A.handled=ag)(D:mH z TI TO i1 i2 l1 l2)(Z:ZipSt b1 b2 z TI TO i1 i2 l1 l2 k .none s.heap)(hl1:YV b1 s.heap l1 xs)(hl2:YV b2 s.heap l2 ys)(hend:xs[k]?=ag\/ys[k]?=ag)
  (hQ:∀h',(∀c o,c∉[z,TO,i1,i2]->s.heap.get? c=aa o->h'.get? c=aa o)->Q ag {s with heap:=h' }):aX #[8] A (mw<|.ref z) Q E s:=by
 have hT:s.TypeIs (.ref z) "zip":=#[_,Z.zp,rfl];refine ae<|io<|cI hT iN<|de iN hT oU (QE hh D Z hl1 hl2 hend λh' e hk he=>?_)<|ow _
 obtain⟨o,ho,hc⟩:=he;exact ae<|gf #[o,ho,hc] isSubtype_stop<|aB<|hQ _ hk
def zH1(h:bV)(b1:Bool)(l1:aD):bV:=h.push<|Yu b1 l1
def zH2(h:bV)(b1 b2:Bool)(l1 l2:aD):bV:=(zH1 h b1 l1).push<|Yu b2 l2
def zH3(h:bV)(b1 b2:Bool)(l1 l2:aD):bV:=(zH2 h b1 b2 l1 l2).push {cls:=.type "tuple",data:=.seq [.ref h.objs.size,.ref (zH1 h b1 l1).objs.size].toArray}
def zH4(h:bV)(b1 b2:Bool)(l1 l2:aD):bV:=(zH3 h b1 b2 l1 l2).push {cls:=.type "tuple",data:=.seq [.none,.none].toArray}
def zH5(h:bV)(b1 b2:Bool)(l1 l2:aD):bV:=(zH4 h b1 b2 l1 l2).push {cls:=.type "zip",data:=.fields [.none,.bool aj,.bool aj,.ref (zH2 h b1 b2 l1 l2).objs.size,.ref (zH3 h b1 b2 l1 l2).objs.size].toArray}
def Zcp(b1 b2:Bool)(l1 l2:aD)(xs ys:Array au) :
  rM (eQ.«zip.__new__» #[[.type "zip",.ref l1,.ref l2],[]]) (λ_ R s=>YV b1 s.heap l1 xs/\YV b2 s.heap l2 ys/\R (.ok<|.ret<|.ref (zH4 s.heap b1 b2 l1 l2).objs.size) {s with heap:=zH5 s.heap b1 b2 l1 l2}):=
 .of_wp λprog w A R s h=>by
  obtain⟨hp,g,d,tk,os⟩:=s;obtain⟨hl1,hl2,h⟩:=h;have hsub:=sub_zip;have hL1:=hl1;have hL2:YV b2 (aA.heap #[hp.push<|Yu b1 l1,g,d,tk,os]) l2 ys:=hl2.keep λo e=>av _ e
  wp_walk using U0 hL1,U0 hL2
  exact#[_,rfl,h]
def ZaH{Q:au->aA->Prop}(hl1:YV b1 s.heap l1 xs)(hl2:YV b2 s.heap l2 ys)
  (h:∀h' n,n=s.heap.objs.size->ZipSt b1 b2 (n+4) (n+2) (n+3) n (n+1) l1 l2 0 .none h'->(∀c o,s.heap.get? c=aa o->h'.get? c=aa o)->Q (.ref<|n+4) {s with heap:=h' }) :
  aX #[8] A (call (.type "zip") [.ref l1,.ref l2]) Q E s:=by
 refine callType_new F.called_zip #[1] (F.typeCall_zip_2 _ _) (F.newCall_zip_2 _ _) (λobj=>F.args_object_init_3 obj _ _) F.entry_zip_new (Zcp b1 b2 l1 l2 xs ys) #[hl1,hl2,?_]
 have z1:(zH1 s.heap b1 l1).objs.size=s.heap.objs.size+1:=cS ..;have z2:(zH2 s.heap b1 b2 l1 l2).objs.size=s.heap.objs.size+2:=by unfold zH2;rw[cS,z1]
 have z3:(zH3 s.heap b1 b2 l1 l2).objs.size=s.heap.objs.size+3:=by unfold zH3;rw[cS,z2]
 have z4:(zH4 s.heap b1 b2 l1 l2).objs.size=s.heap.objs.size+4:=by unfold zH4;rw[cS,z3]
 have g5:(zH5 s.heap b1 b2 l1 l2).get? (zH4 s.heap b1 b2 l1 l2).objs.size=aa {cls:=.type "zip",data:=.fields [.none,.bool aj,.bool aj,.ref (zH2 s.heap b1 b2 l1 l2).objs.size,.ref (zH3 s.heap b1 b2 l1 l2).objs.size].toArray}:=aM _ rfl;have k4:∀c o,(zH4 s.heap b1 b2 l1 l2).get? c=aa o->(zH5 s.heap b1 b2 l1 l2).get? c=aa o:=λc o e=>av _ e
 have k3:=λc o e=>k4 c o<|av _ e
 have k2:=λc o e=>k3 c o<|av _ e
 have k1:=λc o e=>k2 c o<|av _ e
 have g4:=k4 _ _<|aM (zH3 s.heap b1 b2 l1 l2) rfl;have g3:=k3 _ _<|aM (zH2 s.heap b1 b2 l1 l2) rfl;have g2:=k2 _ _<|aM (zH1 s.heap b1 l1) rfl;have g1:=k1 _ _<|aM s.heap rfl;rw[z2,z3,z4]at g5;rw[z1,z2]at g3;rw[z3]at g4;rw[z1]at g2;rw[z4];have src:∀b l it,(zH5 s.heap b1 b2 l1 l2).get? it=aa (Yu b l)->Src b (zH5 s.heap b1 b2 l1 l2) it l 0:=λb l it e=>by
  cases b
  .exact#[_,e,rfl,rfl]
  .exact#[_,e,rfl,rfl]
 exact#[#[_,g5,rfl],h _ _ rfl #[g5,g3,#[_,_,g4],src b1 l1 _ g1,src b2 l2 _ g2] λc o e=>k1 c o<|av _ e]
open Ev (E Sm Fn Bop Cop Ty Bf Mf)
def Ww{X:Cx}{pq:List (aD×eW)}{O:L2.St}{H:Hp}{s:aA}{h':bV}{t':Nat}{ch:List aD}(I:Inv X pq O H s)(k:∀b o,b∉ch->s.heap.get? b=aa o->h'.get? b=aa o)(hf:∀b∈ch,Vk X pq H b):Inv X pq O H {s with heap:=h',toks:=t' }:=by
 have nit:∀b u,H b=aa u->b∉ch:=λb u e z=>by have:=(hf b z).1;rw[e]at this;cases this
 refine I.step (g':=s.gens) (d':=s.drawn) (λb hb=>?_) (λb o _ _ hc e _=>k b o hc e) (λb o _ _ hc e _=>#[o.slots,k b o hc e]) (λ_ _ _ _ n=>n) (λb o hc e=>#[o,k b o hc e]) (λ_ _ e=>e) (λ_ _ _ e=>e) (λb ps e=>#[#[],by rw[e];simp]) (λm hm=>?_) (λb u e=>?_) I.bare
 .exact#[(hf b hb).2.2.2.1,(hf b hb).2.1,(hf b hb).2.2.2.2.1,(hf b hb).2.2.2.2.2]
 .obtain⟨o,es,ep,ho,r⟩:=hm
  exact#[o,es,ep,k _ o (λz=>(hf _ z).2.1 rfl) ho,r]
 .refine(I.hok b u e).stay (λc v hc q=>k c v ?_ q) (λ_ q=>q) λ_ _ q=>q
  rcases hc with z|z
  .rw[z];exact nit b u e
  .exact nit c _ z
def Ji{h:bV}{o o':eW}{b:aD}(e:(h.push o').get? b=aa o)(n:b≠h.objs.size):h.get? b=aa o:=by
 unfold bV.get? bV.push at *;simp only[Array.getElem?_push]at e;rw[T8 n]at e;exact e
def XZ{a b:Nat}(h:a<b\/b<a):(a:aD)≠b:=λe=>by
 have e':=e;omega
def Sq(b:Bool)(K:ao)(H:Hp)(l:aD)(xs:List V):Prop:=match b with
 |true=>SqL K H l xs
 |false=>SqT K H l xs
def Xk(I:Inv X pq O H s)(h:Sq b X.K H l xs):∃its:List au,Vals xs its/\YV b s.heap l its.toArray:=by
 cases b
 .obtain⟨its,r,p,_⟩:=I.tuple h;exact#[its,r,p]
 .obtain⟨its,r,p,_⟩:=I.list h;exact#[its,r,p.isList]
def xF(I:Inv X pq O H s)(h:Sq b X.K H l xs)(h':Sq b X.K H l ys):xs=ys:=by
 cases b
 .exact I.tuple_inj h h'
 .exact I.list_inj h h'
def Ue(x:YV b h l xs):l<h.objs.size:=by
 cases b
 .obtain⟨o,ho,_⟩:=x;exact aH ho
 .obtain⟨o,ho,_⟩:=x;exact aH ho
def Itz(K:ao)(b1 b2:Bool)(l1 l2:aD):It:=
 #[λi H=>∃xs ys x y,Sq b1 K H l1 xs/\Sq b2 K H l2 ys/\xs[i]?=aa x/\ys[i]?=aa y,
  λi H v H'=>∃T x y,(∀xs,Sq b1 K H l1 xs->xs[i]?=aa x)/\(∀ys,Sq b2 K H l2 ys->ys[i]?=aa y)/\H T=ag/\H'=upd H T (.tup [x,y])/\v=.ref T,
  λi H=>∃xs ys,Sq b1 K H l1 xs/\Sq b2 K H l2 ys/\(xs.length<=i\/ys.length<=i)]
def qZ{P:bt}{w:bN}{K:ao}{elts:List Expr}{kk:Nat}{tp:fD}{b1 b2:Bool}{z TI TO i1 i2 l1 l2:aD}(D:mH z TI TO i1 i2 l1 l2) :
  Turn P w K (.Tuple elts kk tp) (Itz K b1 b2 l1 l2) [z,TI,TO,i1,i2] z (λi h=>ZipSt b1 b2 z TI TO i1 i2 l1 l2 i .none h) where
 mem:=by simp
 obj:=λi h st b hb=>by
  simp only[az,bu,or_false]at hb;obtain⟨a,c,hTO⟩:=st.to;rcases hb with e|e|e|e|e<;>subst e
  .exact#[_,st.zp,λv q=>by cases q]
  .exact#[_,st.ti,λv q=>by cases q]
  .exact#[_,hTO,λv q=>by cases q]
  .exact st.s1.obj
  .exact st.s2.obj
 keep:=λi h h' st k=>by
  obtain⟨a,c,hTO⟩:=st.to;exact#[k z #[2] _ st.zp,k TI #[2] _ st.ti,#[a,c,k TO #[2] _ hTO],st.s1.keep λo e=>k i1 #[2] o e,st.s2.keep λo e=>k i2 #[2] o e]
 item:=by
  intro X hP hw hK hc i pq s O H E I hf st hg;subst hP hw hK;obtain⟨xs,ys,x,y,hq1,hq2,hx,hy⟩:=hg;obtain⟨its,rv,o1⟩:=Xk I hq1;obtain⟨its2,rv2,o2⟩:=Xk I hq2;obtain⟨u,hu,ru⟩:=rv.get hx;obtain⟨u2,hu2,ru2⟩:=rv2.get hy;refine y8 D st o1 o2 (by simpa using hu) (by simpa using hu2) λh' Z' hT hk=>?_
  have hfree:=I.hok.fresh<|aF _;have ltz:∀b∈[z,TI,TO,i1,i2],b≠s.heap.objs.size:=λb hb e=>by
   simp only[az,bu,or_false]at hb;obtain⟨a,c,hTO⟩:=st.to;rcases hb with q|q|q|q|q<;>subst q
   .exact T7 (aH st.zp) (by rw[e];exact bw _)
   .exact T7 (aH st.ti) (by rw[e];exact bw _)
   .exact T7 (aH hTO) (by rw[e];exact bw _)
   .obtain⟨o,ho,_⟩:=st.s1.obj;exact T7 (aH ho) (by rw[e];exact bw _)
   .obtain⟨o,ho,_⟩:=st.s2.obj;exact T7 (aH ho) (by rw[e];exact bw _)
  have IA:Inv X pq O (upd H s.heap.objs.size<|.tup [x,y]) {s with heap:=s.heap.push {cls:=.type "tuple",data:=.seq [u,u2].toArray},toks:=s.toks}:=
   I.laid (λb o e=>av _ e) (aF _) #[by show 2<=aW;decide,[u,u2],.cons ru<|.cons ru2 .nil,h9 _ _]
  have hf2:∀b∈[z,TI,TO,i1,i2],Vk X pq (upd H s.heap.objs.size<|.tup [x,y]) b:=λb hb=>#[by rw[Zi<|ltz b hb];exact(hf b hb).1,(hf b hb).2]
  have IB:Inv X pq O (upd H s.heap.objs.size<|.tup [x,y]) {s with heap:=h',toks:=s.toks}:=by
   refine Ww (s:={s with heap:=s.heap.push {cls:=.type "tuple",data:=.seq [u,u2].toArray},toks:=s.toks}) (ch:=[z,TO,i1,i2]) IA (λb o hb e=>?_) λb hb=>hf2 b (by simp only[az,bu,or_false]at hb ⊢;rcases hb with q|q|q|q<;>simp[q])
   by_cases hbs:b=s.heap.objs.size
   .subst hbs
    have e':=e;rw[aM _ rfl]at e';cases e';exact hT
   .refine hk b o hb ?_
    have e':=e;have hlt:=aH e';rw[cS]at hlt;exact Ji e' hbs
  refine#[.ref s.heap.objs.size,rfl,wpAny_letOwnedTupleGo_zip Z'.zp λh2 hz2 hs2=>?_]
  have IC:Inv X pq O (upd H s.heap.objs.size<|.tup [x,y]) {s with heap:=h2,toks:=s.toks}:=Ww (s:={s with heap:=h',toks:=s.toks}) (ch:=[z]) IB (λb o hb e=>(hs2.2 b<|by simpa using hb).trans e) λb hb=>hf2 b (by simp only[a8]at hb;simp[hb])
  obtain⟨a,c,hTO⟩:=Z'.to;refine#[.ref s.heap.objs.size,_,IC,rfl,#[_,x,y,λzs hz=>by rw[xF I hz hq1];exact hx,λzs hz=>by rw[xF I hz hq2];exact hy,hfree,rfl,rfl],?_,λb hb=>(hf2 b hb).1]
  exact#[hz2,hs2.extBut _ _ D.TIz Z'.ti,#[a,c,hs2.extBut _ _ D.TOz hTO],Z'.s1.ext hs2.extBut D.i1z,Z'.s2.ext hs2.extBut D.i2z]
 done:=by
  intro X hP hw hK hc i pq s O H E I hf st hg;subst hP hw hK;obtain⟨xs,ys,hq1,hq2,hend⟩:=hg;obtain⟨its,rv,o1⟩:=Xk I hq1;obtain⟨its2,rv2,o2⟩:=Xk I hq2;have e1:=rv.length;have e2:=rv2.length;refine U4 (I.ok.hd hc) D st o1 o2 (by rcases hend with q|q;exact .inl (by simp;omega);exact .inr<|by simp;omega) λh' hk=>#[rfl,Ww (t':=s.toks) I (λb o hb e=>hk b o hb e) λb hb=>hf b (by simp only[az,bu,or_false]at hb ⊢;rcases hb with q|q|q|q<;>simp[q])]
 self:=λ_ _ _ _ _ st h=>wpAny_pyIter_zip st.zp h
def ZhF(K:ao)(ta:TA):TI:=λO H R=>ta O H λvs H1=>∃b1 b2 l1 l2,vs=[.ref l1,.ref l2]/\(∃xs,Sq b1 K H1 l1 xs)/\(∃ys,Sq b2 K H1 l2 ys)/\R (Itz K b1 b2 l1 l2) H1
def Zeg{a b:Expr}{ta:TA}{p pos:fD}(hg:Gl X "zip")(hm:X.mg "zip" = ag)(ha:PA X [a,b] ta)(hs:aE [a,b] X.env=[(aj,cD a X.env),(aj,cD b X.env)]:=by rfl)(hs2:aE [b] X.env=[(aj,cD b X.env)]:=by rfl) :
  PI X (.Tuple elts kk tp) (.Call (.Name "zip" p) [a,b] [] pos) (ZhF X.K ta):=by
 intro pq s O H R I h;refine Call_<|X1 I hg hm #[7]<|dF (thn (ha pos pq s O H _ I h) λus s1 #[vs,H1,I1,r1,q1]=>?_) (by rw[hs,hs2]) (by rw[hs2];rfl)
 obtain⟨b1,b2,l1,l2,e,⟨xs,hq1⟩,⟨ys,hq2⟩,q⟩:=q1;subst e;cases r1 with
 |cons r rr=>
  cases rr with
  |cons r' rr=>
   cases rr;cases r;cases r';obtain⟨its,rv,o1⟩:=Xk I1 hq1;obtain⟨its2,rv2,o2⟩:=Xk I1 hq2;have lt1:=Ue o1;have lt2:=Ue o2;refine ZaH o1 o2 λh' n hn Z hk=>?_
   have I2:=I1.kept (t':=s1.toks) hk
   have q1:(l1:Nat)<n:=by rw[hn];exact lt1
   have q2:(l2:Nat)<n:=by rw[hn];exact lt2
   have D:mH (n+4) (n+2) (n+3) n (n+1) l1 l2:=by constructor<;>first|exact XZ #[3]|exact XZ<|.inl<|bi q1<|dE n _|exact XZ<|.inl<|bi q2<|dE n _|exact XZ<|.inl q1|exact XZ<|.inl q2
   refine wpAny_pyIter_zip Z.zp #[n+4,[n+4,n+2,n+3,n,n+1],_,_,H1,rfl,I2,qZ D,Z,λb hb=>?_,q]
   have hbn:s1.heap.objs.size<=b:=by
    rw[<-hn];simp only[az,bu,or_false]at hb;rcases hb with e|e|e|e|e<;>rw[e]
    .exact dE n 4
    .exact dE n 2
    .exact dE n 3
    .exact aF n
    .exact dE n 1
   exact I1.fpOk hbn<|I1.hok.fresh hbn
def Side(K:ao)(Z:Mx)(H:Hp)(wk:List D)(b:Bool)(l:aD):Prop:=∀ρ' H',Lat Z H ρ' H'->∃vs,Sq b K H' l vs/\Rq ρ' H' wk vs
def JP{K:ao}{Z:Mx}{H:Hp}{x:D}{v:V}{wk:List D}(hk:Z.K=K)(r:Rep Z H x v)(h:Pv.YL x=aa wk):∃b l,v=.ref l/\(∃xs,Sq b K H l xs)/\Side K Z H wk b l:=by
 cases x with
 |tup ds=>
  obtain⟨a,xs,rfl,hp,rs⟩:=r.tup';cases h;exact#[aj,a,rfl,#[xs,SqT.of hp],λρ' H' f=>#[xs,SqT.of (f.keep a _ hp λ_ z=>by cases z),rs.lat f]]
 |lst ds=>
  obtain⟨a,xs,rfl,hp,hx,rs⟩:=r.lst';cases h;exact#[al,a,rfl,#[xs,SqL.of hp],λρ' H' f=>#[xs,SqL.of<|f.keep a _ hp λ_ _=>hx,rs.lat f]]
 |scr ns=>
  obtain⟨a,rfl,hp⟩:=r.scr';cases h;rw[hk]at hp;refine#[al,a,rfl,#[_,hp.sq],λρ' H' f=>#[_,?_,Rq.ints ns]]
  rcases hp with⟨o,hp⟩|hp
  .exact .inl<|.inr #[o,f.keep a _ hp λ_ z=>by cases z]
  .exact .inr hp
 |_=>exact Ev.nos h
def jM{K:ao}{Z:Mx}{H:Hp}{v w:List D}{b1 b2:Bool}{l1 l2:aD}(h1:Side K Z H v b1 l1)(h2:Side K Z H w b2 l2):WRel K Z H ((v.zip w).map λp=>.tup [p.1,p.2]) (Itz K b1 b2 l1 l2) where
 go:=λi ρ' S' H' f st hi=>by
  obtain⟨xs,q1,r1⟩:=h1 ρ' H' f;obtain⟨ys,q2,r2⟩:=h2 ρ' H' f;have hi':i<rO v.length w.length:=by simpa using hi
  have ha:=(nI.mp hi').1;have hb:=(nI.mp hi').2;obtain⟨x,g1,rx⟩:=r1.get<|af ha;obtain⟨y,g2,ry⟩:=r2.get<|af hb;refine#[#[xs,ys,x,y,q1,q2,g1,g2],λu H'' #[T,x',y',e1,e2,hT,eH,eu]=>?_]
  subst eH eu;have ex:=(e1 xs q1).symm.trans g1;have ey:=(e2 ys q2).symm.trans g2;cases ex;cases ey;refine#[Zp hT,st.fresh hT,λd hd=>?_]
  have hz:(v.zip w)[i]?=aa (v[i],w[i]):=gp.mpr #[af ha,af hb];rw[aJ,hz]at hd;cases hd;exact Xc Zj<|Rq.cons (rx.mono<|Zp hT)<|Rq.cons (ry.mono<|Zp hT) Rq.nil
 stop:=λρ' S' H' f st=>by
  obtain⟨xs,q1,r1⟩:=h1 ρ' H' f;obtain⟨ys,q2,r2⟩:=h2 ρ' H' f;refine#[xs,ys,q1,q2,?_];show xs.length<=((v.zip w).map λp=>Pv.V.tup [p.1,p.2]).length\/_
  rw[r1.length,r2.length,ay,iO];omega
section
variable{X:Cx}{xw:Nat->Hp->Prop}{C:Calls}{a b:Expr}{i j:E}{pos p tp:fD}{elts:List Expr}{kk:Nat}
def Zep(hm:X.mg "zip" = ag)(ha:CA X xw C [a,b] [i,j])(hg:Gl X "zip")(hs:aE [a,b] X.env=[(aj,cD a X.env),(aj,cD b X.env)])(hs2:aE [b] X.env=[(aj,cD b X.env)]) :
  CW X xw C (.Tuple elts kk tp) (.Call (.Name "zip" p) [a,b] [] pos) (.zip i j):=.mk <|
 PI.imp (Zeg hg hm ha.h hs hs2) λO H Q #[Z,l,S,st,lr,h]=>ZdR st lr h λx y S1 ρ1 H1 v u st1 rv ru h1=>by
  cases e1:Pv.YL x with
  |none=>rw[e1]at h1;exact False.elim h1
  |some v1=>
   cases e2:Pv.YL y with
   |none=>rw[e1,e2]at h1;exact False.elim h1
   |some v2=>
    rw[e1,e2]at h1;obtain⟨b1,l1,rfl,s1,d1⟩:=JP st1.hk rv e1;obtain⟨b2,l2,rfl,s2,d2⟩:=JP st1.hk ru e2;exact#[b1,b2,l1,l2,rfl,s1,s2,End.ok h1 st1<|jM d1 d2]
end
def Jz(hh:A.handled=ag)(b:Bool)(it l:aD)(hne:l≠it)(xs:Array au) :
  Draws prog w A it [it,l] xs.size (λi v=>xs[i]?=aa v) (λi h=>Src b h it l i/\YV b h l xs) where
 live:=λ_ _ st=>let #[o,ho,_]:=st.1.obj;#[o,ho]
 frame:=λ_ _ _ st hk=>#[st.1.keep λo e=>hk it #[2] o e,st.2.keep λo e=>hk l #[2] o e]
 item:=λi s Q E hi st hQ=>Vh st.1 st.2 (br hi) λh' hit' hs'=>hQ _ h' s.toks (br hi) #[hit',st.2.keep λo e=>hs'.extBut _ o hne e] hs'
 done:=λs Q E st hE=>Ge hh st.1 st.2 (lO<|aF _) hE
def Ite(K:ao)(b:Bool)(l:aD):It:=
 #[λi H=>∃xs x,Sq b K H l xs/\xs[i]?=aa x,
  λi H v H'=>∃T x,(∀xs,Sq b K H l xs->xs[i]?=aa x)/\H T=ag/\H'=upd H T (.tup [.int i,x])/\v=.ref T,
  λi H=>∃xs,Sq b K H l xs/\xs.length=i]
def vT{P:bt}{w:bN}{K:ao}{elts:List Expr}{kk:Nat}{tp:fD}{b:Bool}{e it l:aD}(hei:e≠it)(hle:l≠e)(hli:l≠it) :
  Turn P w K (.Tuple elts kk tp) (Ite K b l) [e,it] e (λi h=>(∃old,IsEnum h e it i old)/\Src b h it l i) where
 mem:=by simp
 obj:=λi h st c hc=>by
  simp only[az,bu,or_false]at hc;obtain⟨⟨old,he⟩,hs⟩:=st;rcases hc with q|q<;>subst q
  .exact#[_,he,λv q=>by cases q]
  .exact hs.obj
 keep:=λi h h' st k=>by
  obtain⟨⟨old,he⟩,hs⟩:=st;exact#[#[old,k e #[2] _ he],hs.keep λo q=>k it #[2] o q]
 item:=by
  intro X hP hw hK hc i pq s O H E I hf st hg;subst hP hw hK;obtain⟨xs,x,hq,hx⟩:=hg;obtain⟨its,rv,o1⟩:=Xk I hq;obtain⟨⟨old,he⟩,hs⟩:=st;obtain⟨u,hu,ru⟩:=rv.get hx;have hlt:i<its.toArray.size:=by
   have:=(aK.mp hu).1
   simpa using this
  have hh:X.A.in1.handled=ag:=I.ok.hd hc;refine wpAny_pyNext_enum_itemD (Jz hh b it l hli its.toArray) he #[hs,o1] hlt hei (by simp only[az,bu,or_false,not_or];exact#[hei,Ne.symm hle]) λx' h' tk hP ho hst hT hsz hk=>?_
  have ex:x'=u:=by
   have:its.toArray[i]?=aa u:=by simpa using hu
   rw[this]at hP;exact(aq hP).symm
  subst ex;have hfree:=I.hok.fresh<|aF _;have ltz:∀c∈[e,it],c≠s.heap.objs.size:=λc hc q=>by
   simp only[az,bu,or_false]at hc;rcases hc with z|z<;>subst z
   .exact T7 (aH he) (by rw[q];exact bw _)
   .obtain⟨o,ho,_⟩:=hs.obj;exact T7 (aH ho) (by rw[q];exact bw _)
  have IA:Inv X pq O (upd H s.heap.objs.size<|.tup [.int i,x]) {s with heap:=s.heap.push {cls:=.type "tuple",data:=.seq [.int i tk,x'].toArray},toks:=tk+1}:=
   I.laid (λc o q=>av _ q) (aF _) #[by show 2<=aW;decide,[.int i tk,x'],.cons #[tk,rfl]<|.cons ru .nil,h9 _ _]
  have hf2:∀c∈[e,it],Vk X pq (upd H s.heap.objs.size<|.tup [.int i,x]) c:=λc hc=>#[by rw[Zi<|ltz c hc];exact(hf c hc).1,(hf c hc).2]
  have IB:Inv X pq O (upd H s.heap.objs.size<|.tup [.int i,x]) {s with heap:=h',toks:=tk+1}:=by
   refine Ww (s:={s with heap:=s.heap.push {cls:=.type "tuple",data:=.seq [.int i tk,x'].toArray},toks:=tk+1}) IA (λc o hc q=>?_) hf2
   by_cases hcs:c=s.heap.objs.size
   .subst hcs
    have q':=q;rw[aM _ rfl]at q';cases q';exact hT
   .simp only[az,bu,or_false,not_or]at hc
    exact hk c o hc.1 hc.2<|Ji q hcs
  refine#[.ref s.heap.objs.size,rfl,wpAny_letOwnedTupleGo_enum ho λh2 he2 hs2=>?_]
  have IC:Inv X pq O (upd H s.heap.objs.size<|.tup [.int i,x]) {s with heap:=h2,toks:=tk+1}:=Ww (s:={s with heap:=h',toks:=tk+1}) (ch:=[e]) IB (λc o hc q=>(hs2.2 c<|by simpa using hc).trans q) λc hc=>hf2 c (by simp only[a8]at hc;simp[hc])
  refine#[.ref s.heap.objs.size,_,IC,rfl,#[_,x,λzs hz=>by rw[xF I hz hq];exact hx,hfree,rfl,rfl],#[#[x',by simpa using he2],hst.1.ext hs2.extBut<|Ne.symm hei],λc hc=>(hf2 c hc).1]
 done:=by
  intro X hP hw hK hc i pq s O H E I hf st hg;subst hP hw hK;obtain⟨xs,hq,hend⟩:=hg;obtain⟨its,rv,o1⟩:=Xk I hq;obtain⟨⟨old,he⟩,hs⟩:=st;have e1:=rv.length;have hh:X.A.in1.handled=ag:=I.ok.hd hc;have en:i=its.toArray.size:=by simp;lia
  subst en;exact wpAny_pyNext_enum_endD (Jz hh b it l hli its.toArray) he #[hs,o1] λh' hx=>#[rfl,Ww (t':=s.toks) I (λc o hc q=>hx c o (λz=>hc<|by simp[z]) q) hf]
 self:=λ_ _ _ _ _ st h=>by
  obtain⟨⟨old,he⟩,_⟩:=st;exact ox he h
section
variable{prog:bt}{w:bN}{A:bU}{E:au->aA->Prop}{s:aA}
def ju(l:aD)(items:Array au)(n:Nat)(dct:Option aD)(sl:Array (Option au)) :
  rM (eQ.«enumerate.__new__» #[[.type "enumerate",.ref l],[]]) (λ_ R s=>s.heap.get? l=aa {cls:=.type "tuple",dict:=dct,data:=.seq items n,slots:=sl}/\
   R (.ok<|.ret<|.ref (s.heap.push<|Yu aj l).objs.size) {s with heap:=(s.heap.push<|Yu aj l).push {cls:=.type "enumerate",data:=.fields [.none,.bool aj,.ref s.heap.objs.size,gw 0,.none,.none].toArray}}):=
 .of_wp λprog w A R s h=>by
  obtain⟨hp,g,d,tk,os⟩:=s;obtain⟨hl,h⟩:=h;have hsub:=sub_enumerate;have hL:bV.IsTuple (aA.heap #[hp,g,d,tk,os]) l items:=#[_,hl,rfl,n,rfl]
  wp_walk using gE hl;refine wpAny_stack_any λst=>aB ?_;split
  .rename_i c _ _ _ _ _;cases(c == au.type "enumerate")<;>(wp_walk using gE hl,gN hL;exact#[_,rfl,h])
  .wp_walk using gE hl,gN hL;exact#[_,rfl,h]
def uP{Q:au->aA->Prop}(hL:YV b s.heap l xs)
  (h:∀h' n,n=s.heap.objs.size->IsEnum h' (n+1) n 0 .none->Src b h' n l 0->(∀c o,s.heap.get? c=aa o->h'.get? c=aa o)->Q (.ref<|n+1) {s with heap:=h' }):aX #[8] A (call (.type "enumerate") [.ref l]) Q E s:=by
 cases b with
 |true=>exact call_enumerate_list hL λh' a1 a2 _ a4=>h h' _ rfl a1 a2 a4
 |false=>
  obtain⟨⟨c,dct,dt,sl⟩,hl,hc,n,hd⟩:=hL;simp only at hc hd;subst hc hd;refine callType_new F.called_enumerate #[1] (F.typeCall_enumerate_1 _) (F.newCall_enumerate_1 _) (λobj=>F.args_object_init_2 obj _) F.entry_enumerate_new (ju l xs n dct sl) #[hl,?_]
  have hz:(s.heap.push<|Yu aj l).objs.size=s.heap.objs.size+1:=cS ..;have g2:=aM (s.heap.push<|Yu aj l) (o:={cls:=.type "enumerate",data:=.fields [.none,.bool aj,.ref s.heap.objs.size,gw 0,.none,.none].toArray}) rfl;have g1:((s.heap.push<|Yu aj l).push {cls:=.type "enumerate",data:=.fields [.none,.bool aj,.ref s.heap.objs.size,gw 0,.none,.none].toArray}).get? s.heap.objs.size=aa (Yu aj l):=av _<|aM _ rfl;rw[hz]at g2 ⊢;exact#[#[_,g2,rfl],h _ _ rfl g2 #[_,g1,rfl,rfl] λc o q=>av _<|av _ q]
end
def Zgp(K:ao)(ta:TA):TI:=λO H R=>ta O H λvs H1=>∃b l,vs=[.ref l]/\(∃xs,Sq b K H1 l xs)/\R (Ite K b l) H1
def Zcc{a:Expr}{ta:TA}{p pos:fD}(hg:Gl X "enumerate")(hm:X.mg "enumerate" = ag)(ha:PA X [a] ta)(hs:aE [a] X.env=[(aj,cD a X.env)]:=by rfl):PI X (.Tuple elts kk tp) (.Call (.Name "enumerate" p) [a] [] pos) (Zgp X.K ta):=by
 intro pq s O H R I h;refine Call_<|X1 I hg hm #[7]<|dF (thn (ha pos pq s O H _ I h) λus s1 #[vs,H1,I1,r1,q1]=>?_) hs rfl
 obtain⟨b,l,e,⟨xs,hq⟩,q⟩:=q1;subst e;cases r1 with
 |cons r rr=>
  cases rr;cases r;obtain⟨its,rv,o1⟩:=Xk I1 hq;have lt1:=Ue o1;refine uP o1 λh' n hn he hs' hk=>?_
  have I2:=I1.kept (t':=s1.toks) hk
  have q1:(l:Nat)<n:=by rw[hn];exact lt1
  refine ox he #[n+1,[n+1,n],_,_,H1,rfl,I2,vT (XZ<|.inr<|fY n) (XZ<|.inl<|dq q1)<|XZ<|.inl q1,#[#[_,he],hs'],λc hc=>?_,q]
  have hbn:s1.heap.objs.size<=c:=by
   rw[<-hn];simp only[az,bu,or_false]at hc;rcases hc with e|e<;>rw[e]
   .exact kK n
   .exact aF n
  exact I1.fpOk hbn<|I1.hok.fresh hbn
def jk{lo:Int}{n i:Nat}(h:i<n):(Pv.YE lo n)[i]?=aa (.int<|lo+i):=by
 unfold Pv.YE;rw[aJ,cp h];rfl
def vZ{K:ao}{Z:Mx}{H:Hp}{w:List D}{b:Bool}{l:aD}(h1:Side K Z H w b l):WRel K Z H (((Pv.YE 0 w.length).zip w).map λp=>.tup [p.1,p.2]) (Ite K b l) where
 go:=λi ρ' S' H' f st hi=>by
  obtain⟨xs,q1,r1⟩:=h1 ρ' H' f;have hi':i<w.length:=by
   rw[ay,iO,Q6]at hi;lia
  obtain⟨x,g1,rx⟩:=r1.get<|af hi';refine#[#[xs,x,q1,g1],λu H'' #[T,x',e1,hT,eH,eu]=>?_]
  subst eH eu;have ex:=(e1 xs q1).symm.trans g1;cases ex;refine#[Zp hT,st.fresh hT,λd hd=>?_]
  have hz:((Pv.YE 0 w.length).zip w)[i]?=aa (.int<|0+i,w[i]):=gp.mpr #[jk hi',af hi'];rw[aJ,hz]at hd;cases hd;refine Xc Zj<|Rq.cons ?_<|Rq.cons (rx.mono<|Zp hT) Rq.nil;rw[show((0:Int)+i)=i by lia]
  exact ZT _
 stop:=λρ' S' H' f st=>by
  obtain⟨xs,q1,r1⟩:=h1 ρ' H' f;refine#[xs,q1,?_];show xs.length=(((Pv.YE 0 w.length).zip w).map λp=>Pv.V.tup [p.1,p.2]).length
  rw[ay,iO,Q6,r1.length];lia
section
variable{X:Cx}{xw:Nat->Hp->Prop}{C:Calls}{a b:Expr}{i j:E}{pos p tp:fD}{elts:List Expr}{kk:Nat}
def Zdc(hm:X.mg "enumerate" = ag)(ha:CA X xw C [a] [i])(hg:Gl X "enumerate")(hs:aE [a] X.env=[(aj,cD a X.env)]) :
  CW X xw C (.Tuple elts kk tp) (.Call (.Name "enumerate" p) [a] [] pos) (.enum i):=.mk <|
 PI.imp (Zcc hg hm ha.h hs) λO H Q #[Z,l,S,st,lr,h]=>Zeb st lr h λx S1 ρ1 H1 v st1 r h1=>by
  cases e1:Pv.YL x with
  |none=>rw[e1]at h1;exact False.elim h1
  |some wk=>
   rw[e1]at h1;obtain⟨b1,l1,rfl,s1,d1⟩:=JP st1.hk r e1;exact#[b1,l1,rfl,s1,End.ok h1 st1<|vZ d1]
end
def Je(hh:A.handled=ag)(b:Bool)(it l:aD)(hne:l≠it)(xs:Array au) :
  Walks prog w A it [it,l] [it] xs.size (λi v=>xs[i]?=aa v) (λi h=>Src b h it l i/\YV b h l xs):=by
 cases b
 .exact Walks.tuple hh it l hne xs
 .exact Walks.list hh it l hne xs
def wp{b:Bool}{h:bV}{l:aD}:Src b (h.push<|Yu b l) h.objs.size l 0:=by
 cases b
 .exact#[_,aM _ rfl,rfl,rfl]
 .exact#[_,aM _ rfl,rfl,rfl]
theorem UA :∀{ds:List D}{is:List Int}{xs:List V},Pv.intsV ds=aa is->Rq Z H ds xs->xs=is.map V.int
 |[],is,xs,h,r=>by cases h;rw[r];rfl
 |d::ds,is,xs,h,r=>by
  obtain⟨v,vs,rfl,a1,b1⟩:=r;obtain⟨n,r,rfl,e,rfl⟩:=Vm h;rw[a1.int',UA e b1];rfl
def U5(f:Nat->Int)(n:Nat):oV f (n+1)=oV f n+f n:=rfl
def zT:∀(is:List Int),oV (λj=>is.getD j 0) is.length=is.sum:=by
 have gen:∀(is:List Int)(n:Nat),n<=is.length->oV (λj=>is.getD j 0) n=(is.take n).sum:=by
  intro is n
  induction n with
  |zero=>intro _;rfl
  |succ n ih=>
   intro h;rw[U5,ih #[0],kM,List.sum_append]
   have:is[n]?=aa is[n]:=af #[0]
   simp[this]
 intro is;rw[gen is is.length<|aF _,fX]
theorem W7(h:∀j,-M<=f j/\f j<=M)(hM:0<=M):∀n:Nat,-(M*n)<=oV f n/\oV f n<=M*n
 |0=>by rw[show oV f 0=0 from rfl];simp
 |n+1=>by
  obtain⟨a,b⟩:=W7 h hM n;obtain⟨c,d⟩:=h n;rw[U5];have:M*((n+1:Nat):Int)=M*n+M:=by rw[pi,Int.mul_add];simp
  rw[this];lia
def vO(hc:X.calm=al):ZJ X (.builtin "sum") (λvs H Q=>∃Z ds v is,vs=[v]/\Rep Z H (.lst ds) v/\Pv.intsV ds=aa is/\Ev.qg is=al/\Q (.int is.sum) H):=by
 intro pq s O H vs us Q I r h;obtain⟨Z,ds,v,is,rfl,r1,hb,hok,q⟩:=h;obtain⟨l,xs,rfl,hx,_,rx⟩:=r1.lst';obtain⟨u,rfl,ru⟩:=Wc r;cases ru;have hq:Sq al X.K H l xs:=SqL.of hx;obtain⟨its,rv,o1⟩:=Xk I hq;have hlt:=Ue o1;have ex:=UA hb rx;subst ex;have hlen:its.toArray.size=is.length:=by rw[aC,<-rv.length,ay]
 obtain⟨k1,k2⟩:=(aG _ _).mp hok;have k1':=T6 k1;have bd:∀j,-1099511627776<=is.getD j 0/\is.getD j 0<=1099511627776:=λj=>by
  cases e:is[j]? with
  |none=>rw[ax,e];simp
  |some y=>
   have:=T6<|bp.mp k2 y<|cM e;rw[ax,e];exact this
 refine call_sum_walk<|U0 o1 #[s.heap.objs.size,[s.heap.objs.size,l],[s.heap.objs.size],its.toArray.size,_,_,λj=>is.getD j 0,rfl,Je (A:=X.A.in1) (I.ok.hd hc) al s.heap.objs.size l (bh hlt) its.toArray,#[wp,o1.keep λo q=>av _ q],λb hb=>?_,λj v hv=>?_,λj hj=>?_,?_]
 .rw[cS]
  simp only[az,bu,or_false]at hb;rcases hb with q|q<;>rw[q]
  .exact fY _
  .exact dq hlt
 .have hj:its[j]?=aa v:=by simpa using hv
  have jl:j<is.length:=by
   have:=(aK.mp hj).1;rw[<-rv.length,ay]at this;exact this
  obtain⟨u',g',ru'⟩:=rv.get (by rw[aJ,af jl];rfl)
  rw[hj]at g';cases g';obtain⟨t,e⟩:=ru';exact#[t,by rw[e];show mM is[j] t=mM (is.getD j 0) t;rw[ax,af jl];rfl]
 .have b1:=bd j
  have b2:=W7 bd #[0]<|j+1
  have jl:j+1<=1000:=by lia
  have b3:(1099511627776:Int)*((j+1:Nat):Int)<=1099511627776*1000:=Int.mul_le_mul_of_nonneg_left #[0] #[0]
  refine#[show InLong (is.getD j 0)from ?_,?_]<;>(unfold InLong;lia)
 .intro h' tk t' hk
  rw[hlen,zT];exact#[.int is.sum,H,I.kept (t':=tk) λb o e=>hk b o (λhm=>by
   have:b=s.heap.objs.size:=by simpa using hm
   exact T7 (this▸aH e)<|bw _)<|av _ e,#[t',rfl],q]
def vA(hc:X.calm=al):ZJ X (.builtin "sum") (Qs X.K xw .sum):=ZJ.imp (vO hc)<|by
 rintro vs H Q ⟨Z,S,ds,st,r,h⟩;obtain⟨d,v,z,rfl,r1,hz,h⟩:=WD h r;cases d with
 |lst ds=>
  obtain⟨is,hb,hz⟩:=cJ.mp hz;split at hz
  .cases hz;exact#[Z,ds,v,is,rfl,r1,hb,‹_›,End.ok h st<|ZT _]
  .cases hz
 |_=>exact Ev.nos hz
end
end Sd
namespace Tq
open PySem PyProof.Rows
noncomputable def Yl:Bool->bW->Array bW->Nat->Nat->Nat->StateT bQ nO (Option Nat):=sortPriv% PySem.Builtin.gallop
def yR(lf:Bool)(k:bW)(ar:Array bW)(bs n hn:Nat):Yl lf k ar bs n hn=(do
 let bd (i:Nat):StateT bQ nO (Option Bool):=do
  let x <-gq ar (bs+i)
  if lf then lt' x k else return (<-lt' k x).map (!·)
 let mut la:=0
 let mut of:=1
 let mut lo:=0
 let mut hi:=0
 let aa rt <-bd hn|return ag
 if rt then
  let mx:=n-hn
  for _ in [0:n] do
   if of>=mx then break
   let aa mo <-bd (hn+of)|return ag
   if !mo then break
   la:=of
   of:=2*of+1
  lo:=hn+la+1
  hi:=hn+rO of mx
 else
  let mx:=hn+1
  for _ in [0:n] do
   if of>=mx then break
   let aa fo <-bd (hn-of)|return ag
   if fo then break
   la:=of
   of:=2*of+1
  lo:=hn+1-rO of mx
  hi:=hn-la
 for _ in [0:n] do
  if lo>=hi then break
  let m:=lo+(hi-lo) / 2
  let aa mo <-bd m|return ag
  if mo then lo:=m+1 else hi:=m
 return aa hi):=rfl
noncomputable abbrev BT:=Option (Option Nat)×Nat×Nat
def mid{lo hi:Nat}(c:lo<hi):lo+(hi-lo) / 2<hi:=by omega
def Za9{F:Nat->BT->StateT bQ nO (ForInStep BT)}{n:Nat}{τ:bQ}{B:Nat->Bool}{Q:BT->bQ->Prop}
  (hF:∀i lo hi (Q:ForInStep BT->bQ->Prop),hi<=n->(lo>=hi->Q (.done (ag,lo,hi)) τ)->(lo<hi->Q (.yield (ag,if B (lo+(hi-lo) / 2)=al then(lo+(hi-lo) / 2+1,hi)else(lo,lo+(hi-lo) / 2))) τ)->mv #[8] A E s (F i (ag,lo,hi)) Q τ)
  (mono:∀i j,i<=j->j<n->B j=al->B i=al)(hq:∀r,r<=n->(∀i,i<n->(B i=al↔i<r))->Q (ag,r,r) τ){lo hi:Nat}(h1:lo<=hi)(h2:hi<=n)(h3:∀i,i<lo->B i=al)(h4:∀i,hi<=i->i<n->B i=aj) :
  mv #[8] A E s (mF [0:n] ((ag,lo,hi):BT) F) Q τ:=by
 have fin:∀lo,lo<=n->(∀i,i<lo->B i=al)->(∀i,lo<=i->i<n->B i=aj)->Q (ag,lo,lo) τ:=λlo a2 a4 a5=>hq _ a2 λi hi=>by
  refine#[λhB=>?_,a4 i]
  by_cases c:i<lo
  .exact c
  .rw[a5 i #[3] hi]at hB;cases hB
 refine cF
  (I:=λi c st'=>st'=τ/\c.1=ag/\c.2.1<=c.2.2/\c.2.2<=n/\c.2.2+i<=n+c.2.1/\(∀i,i<c.2.1->B i=al)/\∀i,c.2.2<=i->i<n->B i=aj) ?_ ?_ #[rfl,rfl,h1,h2,by dsimp only;omega,h3,h4]
 .rintro i ⟨r,lo,hi⟩ st' hi0 hin ⟨rfl,rfl,a1,a2,a3,a4,a5⟩
  dsimp only at a1 a2 a3 a4 a5 ⊢
  refine hF i lo hi _ a2 (λc=>?_) λc=>?_
  .have e:lo=hi:=by omega
   subst e;exact fin lo a2 a4 a5
  .have m1:=dE lo ((hi-lo) / 2)
   have m2:=mid c;generalize lo+(hi-lo) / 2=m at *;cases hm:B m with
   |true=>
    simp only[if_true];exact#[trivial,trivial,by omega,a2,by omega,λj hj=>mono j _ #[3] #[3] hm,a5]
   |false=>
    simp only[cz,if_false];refine#[trivial,trivial,by omega,by omega,by omega,a4,λj hj hn=>?_]
    cases hj2:B j with|false=>rfl|true=>rw[mono _ j hj hn hj2]at hm;cases hm
 .rintro ⟨r,lo,hi⟩ st' ⟨rfl,rfl,a1,a2,a3,a4,a5⟩
  dsimp only at a1 a2 a3 a4 a5 ⊢
  have e:lo=hi:=by omega
  subst e;exact fin lo a2 a4 a5
def Zfo{lf:Bool}{k:bW}{ar:Array bW}{bs n hn:Nat}{τ:bQ}{B:Nat->Bool}{Q:Option Nat->bQ->Prop}(hh:hn<n)
  (hb:∀i,i<n->∀Q:Option Bool->bQ->Prop,Q (aa<|B i) τ->mv #[8] A E s (do
   let x <-gq ar (bs+i)
   if lf then lt' x k else return (<-lt' k x).map (!·)) Q τ)
  (mono:∀i j,i<=j->j<n->B j=al->B i=al)(hq:∀r,r<=n->(∀i,i<n->(B i=al↔i<r))->Q (aa r) τ):mv #[8] A E s (Yl lf k ar bs n hn) Q τ:=by
 have no:∀{i j},i<=j->j<n->B i=aj->B j=aj:=λ{i j} h hj hi=>by
  cases q:B j with|false=>rfl|true=>rw[mono i j h hj q]at hi;cases hi
 rw[yR]
 dsimp only
 refine aI<|hb hn hh _ ?_
 dsimp only
 cases h0:B hn with
 |true=>
  rw[T9 rfl];refine aI (eR (cF
   (I:=λi (c:BT) st'=>st'=τ/\c.1=ag/\c.2.1<c.2.2/\i<c.2.2/\hn+c.2.1<n/\B (hn+c.2.1)=al)
   (Q:=λ(c:BT) st'=>st'=τ/\c.1=ag/\c.2.1<c.2.2/\hn+c.2.1<n/\B (hn+c.2.1)=al/\(n<=hn+c.2.2\/B (hn+c.2.2)=aj)) ?_ ?_ #[rfl,rfl,by decide,by decide,hh,h0]) ?_)
  .rintro i ⟨r,la,f⟩ st' _ hin ⟨rfl,rfl,a1,a2,a3,a4⟩
   dsimp only at a1 a2 a3 a4 ⊢
   by_cases c:f>=n-hn
   .rw[T9 c]
    exact aS #[rfl,rfl,a1,a3,a4,.inl (by dsimp only;omega)]
   .rw[T8 c]
    refine aI<|hb _ #[3] _ ?_
    dsimp only
    cases hm:B (hn+f)with|true=>exact aS #[rfl,rfl,by dsimp only;omega,by dsimp only;omega,by dsimp only;omega,hm]|false=>exact aS #[rfl,rfl,a1,a3,a4,.inr hm]
  .rintro ⟨r,la,f⟩ st' ⟨rfl,rfl,a1,a2,a3,a4⟩
   dsimp only at a1 a2 a3 a4 ⊢
   exact#[rfl,rfl,a1,a3,a4,.inl #[3]]
  .rintro ⟨r,la,f⟩ st' ⟨rfl,rfl,a1,a3,a4,a5⟩
   dsimp only at a1 a3 a4 a5 ⊢
   refine aI (Za9 (n:=n) (B:=B) (λi lo hi Q h1 h2 h3=>by
    by_cases c:lo>=hi
    .simp only[T9 c];exact aS<|h2 c
    .simp only[T8 c]
     have c:=oW c;refine aI<|hb _ (bi (mid c) h1) _ ?_;have h3:=h3 c;cases hm:B (lo+(hi-lo) / 2)<;>(rw[hm]at h3;exact aS h3)) mono (λr hr hB=>aS<|hq r hr hB) #[3] #[3] (λi hi=>mono i _ #[3] a3 a4) λi h1 h2=>?_)
   rcases a5 with a5|a5
   .omega
   .exact no #[3] h2 a5
 |false=>
  rw[T8 #[2]]
  refine aI (eR (cF
   (I:=λi (c:BT) st'=>st'=τ/\c.1=ag/\c.2.1<c.2.2/\i<c.2.2/\c.2.1<=hn/\B (hn-c.2.1)=aj)
   (Q:=λ(c:BT) st'=>st'=τ/\c.1=ag/\c.2.1<c.2.2/\c.2.1<=hn/\B (hn-c.2.1)=aj/\(hn<c.2.2\/B (hn-c.2.2)=al)) ?_ ?_ #[rfl,rfl,by decide,by decide,dD _,h0]) ?_)
  .rintro i ⟨r,la,f⟩ st' _ hin ⟨rfl,rfl,a1,a2,a3,a4⟩
   dsimp only at a1 a2 a3 a4 ⊢
   by_cases c:f>=hn+1
   .rw[T9 c]
    exact aS #[rfl,rfl,a1,a3,a4,.inl (by dsimp only;omega)]
   .rw[T8 c]
    refine aI<|hb _ #[3] _ ?_
    dsimp only
    cases hm:B (hn-f)with|true=>exact aS #[rfl,rfl,a1,a3,a4,.inr hm]|false=>exact aS #[rfl,rfl,by dsimp only;omega,by dsimp only;omega,by dsimp only;omega,hm]
  .rintro ⟨r,la,f⟩ st' ⟨rfl,rfl,a1,a2,a3,a4⟩
   dsimp only at a1 a2 a3 a4 ⊢
   exact#[rfl,rfl,a1,a3,a4,.inl #[3]]
  .rintro ⟨r,la,f⟩ st' ⟨rfl,rfl,a1,a3,a4,a5⟩
   dsimp only at a1 a3 a4 a5 ⊢
   refine aI (Za9 (n:=n) (B:=B) (λi lo hi Q h1 h2 h3=>by
    by_cases c:lo>=hi
    .simp only[T9 c];exact aS<|h2 c
    .simp only[T8 c]
     have c:=oW c;refine aI<|hb _ (bi (mid c) h1) _ ?_;have h3:=h3 c;cases hm:B (lo+(hi-lo) / 2)<;>(rw[hm]at h3;exact aS h3)) mono (λr hr hB=>aS<|hq r hr hB) #[3] #[3] (λi hi=>?_) λi h1 h2=>no h1 h2 a4)
   rcases a5 with a5|a5
   .omega
   .exact mono i _ #[3] #[3] a5
abbrev Srt(R:B->B->Prop)(l:List B):Prop:=l.Pairwise R
abbrev lr(rk:B->Nat):B->B->Prop:=λx y=>rk x<rk y
abbrev gr(rk:B->Nat):B->B->Prop:=λx y=>rk y<rk x
structure ML(R:B->B->Prop)(T o ra rb:List B):Prop where
 perm:(o++ra++rb).Perm T
 so:Srt R o
 sa:Srt R ra
 sb:Srt R rb
 lt:∀x∈o,∀y,y∈ra\/y∈rb->R x y
def ML.as{T o xs ra rb:List B}(h:ML R T o (xs++ra) rb)(hx:∀x∈xs,∀y∈rb,R x y):ML R T (o++xs) ra rb:=by
 obtain⟨s1,s2,s3⟩:=eS.mp h.sa;refine#[by simpa[bI]using h.perm,eS.mpr #[h.so,s1,λx hx y hy=>h.lt x hx y<|.inl<|c8 _ hy],s2,h.sb,λx hx2 y hy=>?_]
 rcases cc.mp hx2 with z|z
 .exact h.lt x z y<|hy.imp (bq _) id
 .rcases hy with hy|hy
  .exact s3 x z y hy
  .exact hx x z y hy
def ML.swap{T o ra rb:List B}(h:ML R T o ra rb):ML R T o rb ra:=by
 refine#[List.Perm.trans ?_ h.perm,h.so,h.sb,h.sa,λx hx y hy=>h.lt x hx y hy.symm]
 rw[bI,bI];exact List.perm_append_comm.append_left _
def ML.bs(h:ML R T o ra (xs++rb))(hx:∀x∈xs,∀y∈ra,R x y):ML R T (o++xs) ra rb:=(h.swap.as hx).swap
def ML.fin{T o ra:List B}(h:ML R T o ra []):(o++ra).Perm T/\Srt R (o++ra):=by
 have h':=ML.as (ra:=[]) (by simpa using h) λx _ y hy=>by cases hy
 exact#[by simpa using h'.perm,h'.so]
def ML.ne(h:ML R T o ra rb)(hT:(T.map rk).Nodup)(hx:x∈ra)(hy:y∈rb):rk x≠rk y:=by
 have n:=((h.perm.map rk).nodup_iff).mpr hT;rw[bL,eT]at n;exact n.2.2 _ (dN<|bq _ hx) _<|dN hy
structure Od(prog:bt)(w:bN)(A:bU)(E:au->aA->Prop)(s:aA)(κ:fP)(In:bW->Prop)(rk:bW->Nat):Prop where
 ask:∀{x y:bW}{τ:bQ}{Q:Option Bool->bQ->Prop},In x->In y->kindOf τ=κ->Q (aa<|ai<|rk x<rk y) τ->mv (aT prog w) A E s (lt' x y) Q τ
def Sg(τ st':bQ):Prop:=kindOf st'=kindOf τ/\ba st'=ba τ/\bf st'=bf τ/\fQ st'=fQ τ
section
variable{In:bW->Prop}
def ZG{Q:bW->bQ->Prop}(h:ar[i]?=aa x)(hq:Q x τ):mv #[8] A E s (gq ar i) Q τ:=by
 rw[elem'_eq,h];exact aS hq
def Wx{Q:Unit->bQ->Prop}(hq:Q () τ):mv #[8] A E s (liftM (nY t):StateT bQ nO Unit) Q τ:=wpS_lift<|fJ #[rfl,hq]
theorem vc(O:Od prog w A E s κ In rk){Q:Option Nat->bQ->Prop}(hk:kindOf τ=κ)(ik:In k)(hh:h0<n)(hn:i+n<=ar.size)(ia:∀x∈ar.toList,In x)
  (so:Srt (lr rk) ((ar.toList.drop i).take n))(ne:∀x∈(ar.toList.drop i).take n,rk x≠rk k)
  (hq:∀r,r<=n->(∀x∈((ar.toList.drop i).take n).take r,rk x<rk k)->(∀x∈((ar.toList.drop i).take n).drop r,rk k<rk x)->Q (aa r) τ):mv #[8] A E s (Yl lf k ar i n h0) Q τ:=by
 generalize hl:(ar.toList.drop i).take n=l at so ne hq;have ll:l.length=n:=by rw[<-hl,b9,bR,aN];lia
 have at_:∀j (hj:j<n),ar[i+j]?=aa (l[j]'#[0]):=λj hj=>by
  have:ar.toList[i+j]?=aa (l[j]'#[0]):=by
   subst hl;rw[fF,fG];exact af _
  simpa using this
 have mem:∀j (hj:j<n),In (l[j]'#[0]):=λj hj=>ia _ (by
  have h2:∀x∈l,x∈ar.toList:=λx hx=>by rw[<-hl]at hx;exact bZ<|c9 hx
  exact h2 _<|aY _)
 have hB:∀j (hj:j<n),((l[j]?).any λx=>ai<|rk x<rk k)=ai (rk (l[j]'#[0])<rk k):=λj hj=>by
  rw[af #[0]];rfl
 refine Zfo (B:=λj=>(l[j]?).any λx=>ai<|rk x<rk k) hh (λj hj Q hQ=>?_) (λa b hab hb h=>?_) λr hr hr2=>hq r hr (λx hx=>?_) λx hx=>?_
 .rw[hB j hj]at hQ
  refine aI<|ZG (at_ j hj) ?_;cases lf with
  |true=>exact O.ask (mem j hj) ik hk hQ
  |false=>
   refine aI<|O.ask ik (mem j hj) hk<|aS ?_;have e:(!decide (rk k<rk (l[j]'#[0])))=ai (rk (l[j]'#[0])<rk k):=by
    have:=ne _<|aY (n:=j) #[0]
    by_cases c:rk k<rk (l[j]'#[0])
    .rw[T5 c,T4 #[0]];rfl
    .rw[T4 c,T5 #[0]];rfl
   show Q (aa<|!decide (rk k<rk (l[j]'#[0]))) τ
   rw[e];exact hQ
 .rw[hB b hb]at h
  rw[hB a #[0]]
  rcases Nat.lt_or_eq_of_le hab with c|c
  .have:=cu.mp so a b #[0] #[0] c
   have h:=T6 h;exact T5 #[0]
  .subst c;exact h
 .obtain⟨j,hj,rfl⟩:=cE hx
  rw[b9]at hj;have:=(hr2 j<|by lia).mpr #[0]
  rw[hB j<|by lia]at this
  rw[fF];exact T6 this
 .obtain⟨j,hj,rfl⟩:=cE hx
  rw[bR]at hj;rw[fG];have h1:=hr2 (r+j) #[0]
  rw[hB _<|by lia]at h1
  have h2:=ne _<|aY (n:=r+j) #[0]
  have h3:¬rk (l[r+j]'#[0])<rk k:=λz=>T7 (h1.mp<|T5 z) #[0]
  lia
end
noncomputable abbrev KA:=Array bW
noncomputable abbrev SM:=StateT bQ nO
noncomputable def UH:KA->KA->SM KA:=sortPriv% PySem.Builtin.mergeLo
noncomputable def Q9:Nat->SM Unit:=sortPriv% PySem.Builtin.setMinGallop
def Zas(g:Nat):Q9 g=modify λs=>pN (kindOf s) (ba s) (bf s) g (fQ s):=rfl
noncomputable abbrev dn(a b o:KA)(i j:Nat):KA:=o++a.extract i a.size++b.extract j b.size
noncomputable abbrev ls(a b o:KA)(i j:Nat):KA:=o++b.extract j b.size++a.extract i a.size
abbrev T2:=Option KA×KA×Nat×Nat×Nat×Nat
abbrev T3:=Option KA×KA×Nat×Nat×Nat×Nat×Nat
abbrev T1:=Option KA×KA×Nat×Nat×Nat
def F1(a b:KA)(g:Nat)(c:T2):SM (ForInStep T2):=do
 let o:=c.2.1
 let i:=c.2.2.1
 let j:=c.2.2.2.1
 let ca:=c.2.2.2.2.1
 let cb:=c.2.2.2.2.2
 let aa t <-lt' (<-gq b j) (<-gq a i)|return .done (aa<|dn a b o i j,o,i,j,ca,cb)
 if t then
  let o:=o.push<|<-gq b j
  let j:=j+1
  if j == b.size then return .done (aa<|dn a b o i j,o,i,j,0,cb+1)
  if cb+1>=g then return .done (ag,o,i,j,0,cb+1)
  return .yield (ag,o,i,j,0,cb+1)
 else
  let o:=o.push<|<-gq a i
  let i:=i+1
  if i+1 == a.size then return .done (aa<|ls a b o i j,o,i,j,ca+1,0)
  if ca+1>=g then return .done (ag,o,i,j,ca+1,0)
  return .yield (ag,o,i,j,ca+1,0)
def G3(a b:KA)(g ca cb i:Nat)(o:KA)(j:Nat):SM (ForInStep T3):=do
 let o:=o.push<|<-gq a i
 let i:=i+1
 if i+1 == a.size then return .done (aa<|ls a b o i j,o,i,j,g,ca,cb)
 if ca<7&&cb<7 then return .done (ag,o,i,j,g,ca,cb)
 return .yield (ag,o,i,j,g,ca,cb)
def G2(a b:KA)(g ca cb j:Nat)(o:KA)(i:Nat):SM (ForInStep T3):=do
 let o:=o.push<|<-gq b j
 let j:=j+1
 if j == b.size then return .done (aa<|dn a b o i j,o,i,j,g,ca,cb)
 let aa k <-Yl al (<-gq a i) b j (b.size-j) 0|return .done (aa<|dn a b o i j,o,i,j,g,ca,cb)
 if k>0 then
  let o:=o++b.extract j (j+k)
  let j:=j+k
  if j == b.size then return .done (aa<|dn a b o i j,o,i,j,g,ca,k)
  else G3 a b g ca k i o j
 else G3 a b g ca k i o j
def G1(a b:KA)(o:KA)(i j ca cb g:Nat):SM (ForInStep T3):=do
 Q9 g
 let aa k <-Yl aj (<-gq b j) a i (a.size-i) 0|return .done (aa<|dn a b o i j,o,i,j,g,ca,cb)
 if k>0 then
  let o:=o++a.extract i (i+k)
  let i:=i+k
  if i+1 == a.size then return .done (aa<|ls a b o i j,o,i,j,g,k,cb)
  else if i == a.size then return .done (aa<|dn a b o i j,o,i,j,g,k,cb)
  else G2 a b g k cb j o i
 else G2 a b g k cb j o i
def F2(a b:KA)(c:T3):SM (ForInStep T3):=
 if c.2.2.2.2.1>1 then G1 a b c.2.1 c.2.2.1 c.2.2.2.1 c.2.2.2.2.2.1 c.2.2.2.2.2.2 (c.2.2.2.2.1-1)
 else G1 a b c.2.1 c.2.2.1 c.2.2.2.1 c.2.2.2.2.2.1 c.2.2.2.2.2.2 c.2.2.2.2.1
def F0(a b:KA)(c:T1):SM (ForInStep T1):=do
 let d <-mF [0:a.size+b.size] ((ag,c.2.1,c.2.2.1,c.2.2.2.1,0,0):T2) λ_ d=>F1 a b c.2.2.2.2 d
 kl d.1 (λ_=>do
  nY "list.sort.gallop"
  let e <-mF [0:a.size+b.size] ((ag,d.2.1,d.2.2.1,d.2.2.2.1,c.2.2.2.2+1,d.2.2.2.2.1,d.2.2.2.2.2):T3) λ_ d=>F2 a b d
  kl e.1 (λ_=>do
   Q9 (e.2.2.2.2.1+1)
   cy (.yield (ag,e.2.1,e.2.2.1,e.2.2.2.1,e.2.2.2.2.1+1))) λr=>cy<|.done (aa r,e.2.1,e.2.2.1,e.2.2.2.1,e.2.2.2.2.1)) λr=>cy<|.done (aa r,d.2.1,d.2.2.1,d.2.2.2.1,c.2.2.2.2)
def z0(a b:KA):UH a b=(do
 nY "list.sort.merge-lo"
 let y <-gq b 0
 if 1 == b.size then return dn a b #[y] 0 1
 if 0+1 == a.size then return ls a b #[y] 0 1
 let τ <-get
 let c <-mF [0:a.size+b.size] ((ag,#[y],0,1,gallopOf τ):T1) λ_ c=>F0 a b c
 kl c.1 (λ_=>pb "internal:list.sort.merge-bound") λr=>cy r):=rfl
def Wh(a:KA)(i:Nat):(a.extract i a.size).toList=a.toList.drop i:=by
 rw[iC,gu,<-aN];exact cQ (by rw[bR];exact aF _)
def vi(a:KA)(i k:Nat):(a.extract i<|i+k).toList=(a.toList.drop i).take k:=by
 rw[iC,gu,bS]
def Z6{a:KA}{i:Nat}(h:i<a.size):a.toList.drop i=a[i]::a.toList.drop (i+1):=by
 rw[cr (by simpa using h)];rfl
def td{B:Type}(l:List B)(n r:Nat):(l.drop n).take r++l.drop (n+r)=l.drop n:=by rw[<-km,cX]
def ZP{a:KA}{i:Nat}(h:i<a.size):a[i]?=aa a[i]:=br h
section
variable{prog:bt}{w:bN}{A:bU}{E:au->aA->Prop}{s:aA}{κ:fP}{In:bW->Prop}{rk:bW->Nat}
def ZF{B:Type}{c:Prop}[Decidable c]{x y:SM B}{Q:B->bQ->Prop}{τ:bQ}(h1:c->mv #[8] A E s x Q τ)(h2:¬c->mv #[8] A E s y Q τ):mv #[8] A E s (if c then x else y) Q τ:=by
 by_cases h:c
 .rw[T9 h];exact h1 h
 .rw[T8 h];exact h2 h
theorem xV(O:Od prog w A E s κ In rk){Q:Option Nat->bQ->Prop}(hk:kindOf τ=κ)(ik:In k)(hi:i<ar.size)(ia:∀x∈ar.toList,In x)(so:Srt (lr rk) (ar.toList.drop i))(ne:∀x∈ar.toList.drop i,rk x≠rk k)
  (hq:∀r,i+r<=ar.size->(∀x∈(ar.toList.drop i).take r,rk x<rk k)->(∀x∈ar.toList.drop (i+r),rk k<rk x)->Q (aa r) τ):mv #[8] A E s (Yl lf k ar i (ar.size-i) 0) Q τ:=by
 have e:(ar.toList.drop i).take (ar.size-i)=ar.toList.drop i:=cQ (by rw[bR,aN];exact aF _)
 refine vc O hk ik (Nat.sub_pos_of_lt hi) (oy<|mV<|gS hi) ia (e.symm▸so) (e.symm▸ne) λr h1 h2 h3=>?_
 rw[e]at h2 h3;rw[km]at h3;exact hq r #[0] h2 h3
structure Mg(κ:fP)(In:bW->Prop)(rk:bW->Nat)(a b:KA)(T:List bW):Prop where
 nd:(T.map rk).Nodup
 ia:∀x∈a.toList,In x
 ib:∀x∈b.toList,In x
 last:∀y∈b.toList,∀x∈a.toList.drop (a.size-1),rk y<rk x
def Res(rk:bW->Nat)(T:List bW)(r:KA):Prop:=r.toList.Perm T/\Srt (lr rk) r.toList
abbrev Lo(rk:bW->Nat)(a b:KA)(T:List bW)(o:KA)(i j:Nat):Prop:=ML (lr rk) T o.toList (a.toList.drop i)<|b.toList.drop j
structure Iv(rk:bW->Nat)(a b:KA)(T:List bW)(o:KA)(i j:Nat):Prop where
 m:Lo rk a b T o i j
 hi:i+1<a.size
 hj:j<b.size
 z:o.size=i+j
variable{a b:KA}{T:List bW}
def GM(h:Lo rk a b T o i j)(hj:(j == b.size)=al):Res rk T (dn a b o i j):=by
 have hj:=beq_iff_eq.mp hj;unfold Lo at h;rw[hj,<-aN,ek]at h;have:=h.fin;unfold Res dn;rw[bX,bX,Wh,Wh,hj,<-aN,ek,cw];exact this
def Zdu(h:Lo rk a b T o i j)(hi:(i == a.size)=al):Res rk T (dn a b o i j):=by
 have hi:=beq_iff_eq.mp hi;unfold Lo at h;rw[hi,<-aN,ek]at h;have:=h.swap.fin;unfold Res dn;rw[bX,bX,Wh,Wh,hi,<-aN,ek,cw];exact this
theorem JW(G:Mg κ In rk a b T)(h:Lo rk a b T o i j)(hi:(i+1 == a.size)=al):Res rk T (ls a b o i j):=by
 have hi:=beq_iff_eq.mp hi;have e:a.size-1=i:=by lia
 have:=(ML.bs (by rw[cw];exact h) λy hy x hx=>G.last y (bZ hy) x<|by rw[e];exact hx).fin
 unfold Res ls;rw[bX,bX,Wh,Wh];exact this
def Zan(h:Lo rk a b T o i j)(hj:j<b.size)(hy:∀x∈a.toList.drop i,rk b[j]<rk x):Lo rk a b T (o.push b[j]) i (j+1):=by
 unfold Lo at h ⊢;rw[Z6 hj]at h;rw[fH];exact ML.bs h λx hx y hy'=>by rw[a8.mp hx];exact hy y hy'
def ZdV(h:Lo rk a b T o i j)(hi:i<a.size)(hx:∀y∈b.toList.drop j,rk a[i]<rk y):Lo rk a b T (o.push a[i]) (i+1) j:=by
 unfold Lo at h ⊢;rw[Z6 hi]at h;rw[fH];exact ML.as h λx hx' y hy'=>by rw[a8.mp hx'];exact hx y hy'
def x9(h:Srt (lr rk) (x::l))(hx:rk y<rk x):∀z∈x::l,rk y<rk z:=λz hz=>by
 rcases az.mp hz with rfl|hz
 .exact hx
 .exact dg hx<|(bj.mp h).1 z hz
def UB(h:m<n)(q:¬(m+1 == n)=al):m+1<n:=fj h λz=>q<|beq_iff_eq.mpr z
theorem Zgz(O:Od prog w A E s κ In rk)(G:Mg κ In rk a b T){g ca cb:Nat}{r0:Option KA}{τ:bQ}{Q:ForInStep T2->bQ->Prop}(hk:kindOf τ=κ)(I:Iv rk a b T o i j)
  (hd:∀r c,Res rk T r->Q (.done (aa r,c)) τ)(hb:∀o' i' j' ca cb,Iv rk a b T o' i' j'->o'.size=o.size+1->Q (.done (ag,o',i',j',ca,cb)) τ/\Q (.yield (ag,o',i',j',ca,cb)) τ):mv #[8] A E s (F1 a b g (r0,o,i,j,ca,cb)) Q τ:=by
 have hi:=d7 I.hi;have ha:a[i]∈a.toList.drop i:=by rw[Z6 hi];exact ak ..
 have hb':b[j]'I.hj∈b.toList.drop j:=by rw[Z6 I.hj];exact ak ..
 have sa:=I.m.sa;have sb:=I.m.sb;rw[Z6 hi]at sa;rw[Z6 I.hj]at sb;refine aI<|ZG (ZP I.hj)<|aI<|ZG (ZP hi)<|aI<|O.ask (G.ib _<|bZ hb') (G.ia _<|bZ ha) hk ?_;by_cases c:rk (b[j]'I.hj)<rk a[i]
 .rw[T5 c]
  refine aI<|ZG (ZP I.hj) ?_;have m:=Zan I.m I.hj (by rw[Z6 hi];exact x9 sa c)
  have z:(o.push<|b[j]'I.hj).size=o.size+1:=d9 ..;refine ZF (λq=>aS<|hd _ _<|GM m q) λq=>?_
  have h:=hb _ _ _ 0 (cb+1) #[m,I.hi,UB I.hj q,by rw[z,I.z];lia] z
  exact ZF (λ_=>aS h.1) λ_=>aS h.2
 .rw[T4 c]
  refine aI<|ZG (ZP hi) ?_;have c':=fj (eZ c)<|I.m.ne G.nd ha hb';have m:=ZdV I.m hi (by rw[Z6 I.hj];exact x9 sb c')
  have z:(o.push a[i]).size=o.size+1:=d9 ..;refine ZF (λq=>aS<|hd _ _<|JW G m q) λq=>?_
  have h:=hb _ _ _ (ca+1) 0 #[m,UB I.hi q,I.hj,by rw[z,I.z];lia] z
  exact ZF (λ_=>aS h.1) λ_=>aS h.2
theorem Sg.trans(h:Sg s1 s2)(k:Sg s2 s3):Sg s1 s3:=#[k.1.trans h.1,k.2.1.trans h.2.1,k.2.2.1.trans h.2.2.1,k.2.2.2.trans h.2.2.2]
def V3{Q:Unit->bQ->Prop}(h:∀st',Sg τ st'->Q () st'):mv #[8] A E s (Q9 g) Q τ:=by
 rw[Zas];exact fk<|h _ #[rfl,rfl,rfl,rfl]
section
variable(O:Od prog w A E s κ In rk)(G:Mg κ In rk a b T)
include O G
theorem Zd2{g ca cb:Nat}{τ:bQ}(m:Lo rk a b T o i j)(hi:i+1<a.size)(hj:j<b.size)(z:o.size=i+j)(hx:∀y∈b.toList.drop j,rk a[i]<rk y)
  (hd:∀r c,Res rk T r->Q (.done (aa r,c)) τ)(hb:∀o' i' j' g ca cb,Iv rk a b T o' i' j'->o'.size=o.size+1->Q (.done (ag,o',i',j',g,ca,cb)) τ/\Q (.yield (ag,o',i',j',g,ca,cb)) τ):mv #[8] A E s (G3 a b g ca cb i o j) Q τ:=by
 have hi':=d7 hi;refine aI<|ZG (ZP hi') ?_;have m:=ZdV m hi' hx;have z':(o.push a[i]).size=o.size+1:=d9 ..;refine ZF (λq=>aS<|hd _ _<|JW G m q) λq=>?_
 have h:=hb _ _ _ g ca cb #[m,UB hi q,hj,by rw[z',z];lia] z'
 exact ZF (λ_=>aS h.1) λ_=>aS h.2
theorem ZdI{g ca cb:Nat}{τ:bQ}(hk:kindOf τ=κ)(m:Lo rk a b T o i j)(hi:i+1<a.size)(hj:j<b.size)(z:o.size=i+j)(hy:∀x∈a.toList.drop i,rk b[j]<rk x)
  (hd:∀r c,Res rk T r->Q (.done (aa r,c)) τ)(hb:∀o' i' j' g ca cb,Iv rk a b T o' i' j'->o.size<o'.size->Q (.done (ag,o',i',j',g,ca,cb)) τ/\Q (.yield (ag,o',i',j',g,ca,cb)) τ):mv #[8] A E s (G2 a b g ca cb j o i) Q τ:=by
 have hi':=d7 hi;unfold G2;refine aI<|ZG (ZP hj) ?_;have m:=Zan m hj hy;have z':(o.push b[j]).size=o.size+1:=d9 ..;refine ZF (λq=>aS<|hd _ _<|GM m q) λq=>?_
 have hj:=UB hj q;have ha:a[i]∈a.toList.drop i:=by rw[Z6 hi'];exact ak ..
 refine aI<|ZG (ZP hi')<|aI<|xV O hk (G.ia _<|bZ ha) hj G.ib m.sb (λy hy=>(m.ne G.nd ha hy).symm) λr hr h1 h2=>?_
 refine ZF (λ_=>?_) λc=>?_
 .have m2:Lo rk a b T (o.push b[j]++b.extract (j+1) (j+1+r)) i (j+1+r):=by
   unfold Lo;rw[bX,vi];refine ML.bs ?_ λy hy x hx=>?_
   .rw[td];exact m
   .have sa:=m.sa
    rw[Z6 hi']at sa hx;exact x9 sa (h1 y hy) x hx
  have z2:(o.push b[j]++b.extract (j+1) (j+1+r)).size=o.size+1+r:=by rw[g7,z',eV #[0],bS]
  refine ZF (λq=>aS<|hd _ _<|GM m2 q) λq=>?_
  have hj2:j+1+r<b.size:=fj hr λz=>q<|beq_iff_eq.mpr z
  exact Zd2 O G m2 hi hj2 (by rw[z2,z];lia) h2 hd λo' i' j' g ca cb I e=>hb o' i' j' g ca cb I #[0]
 .have e:r=0:=by lia
  subst e;exact Zd2 O G m hi hj (by rw[z',z];lia) h2 hd λo' i' j' g ca cb I e=>hb o' i' j' g ca cb I #[0]
theorem ZdC{g ca cb:Nat}{τ:bQ}(hk:kindOf τ=κ)(I:Iv rk a b T o i j)
  (hd:∀r c st',Sg τ st'->Res rk T r->Q (.done (aa r,c)) st')(hb:∀o' i' j' g ca cb st',Sg τ st'->Iv rk a b T o' i' j'->o.size<o'.size->Q (.done (ag,o',i',j',g,ca,cb)) st'/\Q (.yield (ag,o',i',j',g,ca,cb)) st'):mv #[8] A E s (G1 a b o i j ca cb g) Q τ:=by
 obtain⟨m,hi,hj,z⟩:=I;have hi':=d7 hi;have hb':b[j]∈b.toList.drop j:=by rw[Z6 hj];exact ak ..
 unfold G1;refine aI<|V3 λst' sg=>aI<|ZG (ZP hj)<|aI<|xV O (sg.1.trans hk) (G.ib _<|bZ hb') hi' G.ia m.sa (λx hx=>m.ne G.nd hx hb') λr hr h1 h2=>?_
 refine ZF (λ_=>?_) λc=>?_
 .have m2:Lo rk a b T (o++a.extract i (i+r)) (i+r) j:=by
   unfold Lo;rw[bX,vi];refine ML.as ?_ λx hx y hy=>?_
   .rw[td];exact m
   .have sb:=m.sb
    rw[Z6 hj]at sb hy;exact x9 sb (h1 x hx) y hy
  have z2:(o++a.extract i (i+r)).size=o.size+r:=by rw[g7,eV #[0],bS]
  refine ZF (λq=>aS<|hd _ _ st' sg<|JW G m2 q) λq=>ZF (λq=>aS<|hd _ _ st' sg<|Zdu m2 q) λq2=>?_
  have q2:i+r≠a.size:=λz=>q2<|beq_iff_eq.mpr z
  exact ZdI O G (sg.1.trans hk) m2 (UB #[0] q) hj (by rw[z2,z];lia) h2 (λr c=>hd r c st' sg) λo' i' j' g ca cb I e=>hb o' i' j' g ca cb st' sg I #[0]
 .have e:r=0:=by lia
  subst e;exact ZdI O G (sg.1.trans hk) m hi hj z h2 (λr c=>hd r c st' sg) λo' i' j' g ca cb I e=>hb o' i' j' g ca cb st' sg I #[0]
theorem Zhc{g ca cb:Nat}{r0:Option KA}{τ:bQ}(hk:kindOf τ=κ)(I:Iv rk a b T o i j)
  (hd:∀r c st',Sg τ st'->Res rk T r->Q (.done (aa r,c)) st')(hb:∀o' i' j' g ca cb st',Sg τ st'->Iv rk a b T o' i' j'->o.size<o'.size->Q (.done (ag,o',i',j',g,ca,cb)) st'/\Q (.yield (ag,o',i',j',g,ca,cb)) st'):mv #[8] A E s (F2 a b (r0,o,i,j,g,ca,cb)) Q τ:=by
 exact ZF (λ_=>ZdC O G hk I hd hb) λ_=>ZdC O G hk I hd hb
theorem Zg2{Q:ForInStep T1->bQ->Prop}(hk:kindOf τ=κ)(I:Iv rk a b T o i j)
  (hd:∀r c st',Sg τ st'->Res rk T r->Q (.done (aa r,c)) st')(hy:∀o' i' j' g st',Sg τ st'->Iv rk a b T o' i' j'->o.size<o'.size->Q (.yield (ag,o',i',j',g)) st'):mv #[8] A E s (F0 a b (r0,o,i,j,g)) Q τ:=by
 refine aI (eR (cF
  (I:=λx (c:T2) st'=>st'=τ/\c.1=ag/\Iv rk a b T c.2.1 c.2.2.1 c.2.2.2.1/\o.size+x<=c.2.1.size)
  (Q:=λ(c:T2) st'=>st'=τ/\((∃r,c.1=aa r/\Res rk T r)\/c.1=ag/\Iv rk a b T c.2.1 c.2.2.1 c.2.2.2.1/\o.size<c.2.1.size)) ?_ ?_ #[rfl,rfl,I,aF _]) ?_)
 .rintro x ⟨r,o',i',j',ca,cb⟩ st' _ _ ⟨rfl,rfl,I',hz⟩
  exact Zgz O G hk I' (λr c h=>#[rfl,.inl #[r,rfl,h]]) λo2 i2 j2 ca cb I2 e=>#[#[rfl,.inr #[rfl,I2,by dsimp only at hz ⊢;lia]],rfl,rfl,I2,by dsimp only at hz ⊢;lia]
 .rintro ⟨r,o',i',j',ca,cb⟩ st' ⟨rfl,rfl,I',hz⟩
  have:=I'.hi;have:=I'.hj;have:=I'.z;lia
 .rintro ⟨r,o',i',j',ca,cb⟩ st' ⟨rfl,⟨r',rfl,h⟩|⟨rfl,I',hz⟩⟩
  .exact aS<|hd _ _ _ #[rfl,rfl,rfl,rfl] h
  .dsimp only at I' hz
   refine aI (Wx (aI (eR (cF
    (I:=λx (c:T3) st''=>Sg st' st''/\c.1=ag/\Iv rk a b T c.2.1 c.2.2.1 c.2.2.2.1/\o'.size+x<=c.2.1.size)
    (Q:=λ(c:T3) st''=>Sg st' st''/\((∃r,c.1=aa r/\Res rk T r)\/c.1=ag/\Iv rk a b T c.2.1 c.2.2.1 c.2.2.2.1/\o'.size<c.2.1.size)) ?_ ?_ #[#[rfl,rfl,rfl,rfl],rfl,I',aF _]) ?_)))
   .rintro x ⟨r,o2,i2,j2,g,ca,cb⟩ st2 _ _ ⟨sg,rfl,I2,hz2⟩
    dsimp only at I2 hz2
    exact Zhc O G (sg.1.trans hk) I2 (λr c st3 s3 h=>#[sg.trans s3,.inl #[r,rfl,h]]) λo3 i3 j3 g ca cb st3 s3 I3 e=>#[#[sg.trans s3,.inr #[rfl,I3,by dsimp only;lia]],sg.trans s3,rfl,I3,by dsimp only;lia]
   .rintro ⟨r,o2,i2,j2,g,ca,cb⟩ st2 ⟨sg,rfl,I2,hz2⟩
    have:=I2.hi;have:=I2.hj;have:=I2.z;lia
   .rintro ⟨r,o2,i2,j2,g,ca,cb⟩ st2 ⟨sg,⟨r',rfl,h⟩|⟨rfl,I2,hz2⟩⟩
    .exact aS<|hd _ _ _ sg h
    .exact aI<|V3 λst3 s3=>aS<|hy _ _ _ _ _ (sg.trans s3) I2<|dg hz hz2
theorem yK{τ:bQ}{Q:KA->bQ->Prop}(hk:kindOf τ=κ)(ha:0<a.size)(hb:0<b.size)(sa:Srt (lr rk) a.toList)(sb:Srt (lr rk) b.toList)(hT:(a.toList++b.toList).Perm T)(h0:∀x∈a.toList,rk b[0]<rk x)
  (hq:∀r st',Sg τ st'->Res rk T r->Q r st'):mv #[8] A E s (UH a b) Q τ:=by
 rw[z0];refine aI<|Wx<|aI<|ZG (ZP hb) ?_;have m0:Lo rk a b T #[] 0 0:=#[by simpa using hT,.nil,by simpa using sa,by simpa using sb,λx hx=>by cases hx]
 have m:=Zan m0 hb (by simpa using h0)
 have sg0:Sg τ τ:=#[rfl,rfl,rfl,rfl];refine ZF (λq=>aS<|hq _ _ sg0<|GM m q) λq1=>ZF (λq=>aS<|hq _ _ sg0<|JW G m q) λq2=>aI (g8 (aI (eR (cF
  (I:=λx (c:T1) st''=>Sg τ st''/\c.1=ag/\Iv rk a b T c.2.1 c.2.2.1 c.2.2.2.1/\x<=c.2.1.size)
  (Q:=λ(c:T1) st''=>Sg τ st''/\∃r,c.1=aa r/\Res rk T r) ?_ ?_ #[sg0,rfl,#[m,UB ha q2,UB hb q1,rfl],dD _]) ?_)))
 .rintro x ⟨r,o,i,j,g⟩ st2 _ _ ⟨sg,rfl,I,hz⟩
  dsimp only at I hz
  exact Zg2 O G (sg.1.trans hk) I (λr c st3 s3 h=>#[sg.trans s3,r,rfl,h]) λo3 i3 j3 g st3 s3 I3 e=>#[sg.trans s3,rfl,I3,by dsimp only;lia]
 .rintro ⟨r,o,i,j,g⟩ st2 ⟨sg,rfl,I,hz⟩
  have:=I.hi;have:=I.hj;have:=I.z;lia
 .rintro ⟨r,o,i,j,g⟩ st2 ⟨sg,r',rfl,h⟩
  exact aS<|hq _ _ sg h
end
end
noncomputable def Qt:KA->KA->SM KA:=sortPriv% PySem.Builtin.mergeHi
noncomputable abbrev dh(a b o:KA)(i j:Nat):KA:=a.extract 0 i++b.extract 0 j++o.reverse
noncomputable abbrev fh(a b o:KA)(i j:Nat):KA:=b.extract 0 j++a.extract 0 i++o.reverse
abbrev U1:=Option KA×Nat×Nat×KA×Nat
abbrev U2:=Option KA×Nat×Nat×KA×Nat×Nat
abbrev U3:=Option KA×Nat×Nat×KA×Nat×Nat×Nat
def H1(a b:KA)(g:Nat)(c:U2):SM (ForInStep U2):=do
 let i:=c.2.1
 let j:=c.2.2.1
 let o:=c.2.2.2.1
 let ca:=c.2.2.2.2.1
 let cb:=c.2.2.2.2.2
 let aa t <-lt' (<-gq b (j-1)) (<-gq a (i-1))|return .done (aa<|dh a b o i j,i,j,o,ca,cb)
 if t then
  let i:=i-1
  let o:=o.push<|<-gq a i
  if i == 0 then return .done (aa<|dh a b o i j,i,j,o,ca+1,0)
  if ca+1>=g then return .done (ag,i,j,o,ca+1,0)
  return .yield (ag,i,j,o,ca+1,0)
 else
  let j:=j-1
  let o:=o.push<|<-gq b j
  if j == 1 then return .done (aa<|fh a b o i j,i,j,o,0,cb+1)
  if cb+1>=g then return .done (ag,i,j,o,0,cb+1)
  return .yield (ag,i,j,o,0,cb+1)
def K3(a b:KA)(g ca cb i:Nat)(o:KA)(j:Nat):SM (ForInStep U3):=do
 let i:=i-1
 let o:=o.push<|<-gq a i
 if i == 0 then return .done (aa<|dh a b o i j,i,j,o,g,ca,cb)
 if ca<7&&cb<7 then return .done (ag,i,j,o,g,ca,cb)
 return .yield (ag,i,j,o,g,ca,cb)
def K2(a b:KA)(g ca cb j:Nat)(o:KA)(i:Nat):SM (ForInStep U3):=do
 let j:=j-1
 let o:=o.push<|<-gq b j
 if j == 1 then return .done (aa<|fh a b o i j,i,j,o,g,ca,cb)
 let aa t <-Yl al (<-gq a (i-1)) b 0 j (j-1)|return .done (aa<|dh a b o i j,i,j,o,g,ca,cb)
 if j-t>0 then
  let o:=o++(b.extract t j).reverse
  if t == 1 then return .done (aa<|fh a b o i t,i,t,o,g,ca,j-t)
  else if t == 0 then return .done (aa<|dh a b o i t,i,t,o,g,ca,j-t)
  else K3 a b g ca (j-t) i o t
 else K3 a b g ca (j-t) i o j
def K1(a b:KA)(o:KA)(i j ca cb g:Nat):SM (ForInStep U3):=do
 Q9 g
 let aa t <-Yl aj (<-gq b (j-1)) a 0 i (i-1)|return .done (aa<|dh a b o i j,i,j,o,g,ca,cb)
 if i-t>0 then
  let o:=o++(a.extract t i).reverse
  if t == 0 then return .done (aa<|dh a b o t j,t,j,o,g,i-t,cb)
  else K2 a b g (i-t) cb j o t
 else K2 a b g (i-t) cb j o i
def H2(a b:KA)(c:U3):SM (ForInStep U3):=
 if c.2.2.2.2.1>1 then K1 a b c.2.2.2.1 c.2.1 c.2.2.1 c.2.2.2.2.2.1 c.2.2.2.2.2.2 (c.2.2.2.2.1-1)
 else K1 a b c.2.2.2.1 c.2.1 c.2.2.1 c.2.2.2.2.2.1 c.2.2.2.2.2.2 c.2.2.2.2.1
def TT(n:Nat)(f1:Nat->U2->SM (ForInStep U2))(f2:U3->SM (ForInStep U3))(c:U1):SM (ForInStep U1):=do
 let d <-mF [0:n] ((ag,c.2.1,c.2.2.1,c.2.2.2.1,0,0):U2) λ_ d=>f1 c.2.2.2.2 d
 kl d.1 (λ_=>do
  nY "list.sort.gallop"
  let e <-mF [0:n] ((ag,d.2.1,d.2.2.1,d.2.2.2.1,c.2.2.2.2+1,d.2.2.2.2.1,d.2.2.2.2.2):U3) λ_ d=>f2 d
  kl e.1 (λ_=>do
   Q9 (e.2.2.2.2.1+1)
   cy (.yield (ag,e.2.1,e.2.2.1,e.2.2.2.1,e.2.2.2.2.1+1))) λr=>cy<|.done (aa r,e.2.1,e.2.2.1,e.2.2.2.1,e.2.2.2.2.1)) λr=>cy<|.done (aa r,d.2.1,d.2.2.1,d.2.2.2.1,c.2.2.2.2)
def GU(a b:KA):Qt a b=(do
 nY "list.sort.merge-hi"
 let x <-gq a (a.size-1)
 if a.size-1 == 0 then return dh a b #[x] (a.size-1) b.size
 if b.size == 1 then return fh a b #[x] (a.size-1) b.size
 let τ <-get
 let c <-mF [0:a.size+b.size] ((ag,a.size-1,b.size,#[x],gallopOf τ):U1) λ_ c=>TT (a.size+b.size) (H1 a b) (H2 a b) c
 kl c.1 (λ_=>pb "internal:list.sort.merge-bound") λr=>cy r):=rfl
def jo{a:KA}{t i:Nat}:(a.extract t i).toList=(a.toList.take i).drop t:=by
 rw[iC,gu,List.drop_take]
noncomputable abbrev rv(a:KA)(i:Nat):List bW:=(a.toList.take i).reverse
def WX{a:KA}{i:Nat}(h:0<i)(h2:i<=a.size):rv a i=a[i-1]::rv a (i-1):=by
 obtain⟨k,rfl⟩:∃k,i=k+1:=#[i-1,by lia]
 show(a.toList.take<|k+1).reverse=_;rw[List.take_succ_eq_append_getElem (by rw[aN];exact h2),mW];rfl
def ZaT{a:KA}{t i:Nat}(h:t<=i):rv a i=((a.toList.take i).drop t).reverse++rv a t:=by
 rw[<-mW];have:=cX t<|a.toList.take i;rw[pO,l8 h]at this;rw[this]
section
variable{prog:bt}{w:bN}{A:bU}{E:au->aA->Prop}{s:aA}{κ:fP}{In:bW->Prop}{rk:bW->Nat}{a b:KA}{T:List bW}
abbrev Hi(rk:bW->Nat)(a b:KA)(T:List bW)(o:KA)(i j:Nat):Prop:=ML (gr rk) T o.toList (rv a i)<|rv b j
structure Ih(rk:bW->Nat)(a b:KA)(T:List bW)(o:KA)(i j:Nat):Prop where
 m:Hi rk a b T o i j
 i0:0<i
 i1:i<=a.size
 j0:1<j
 j1:j<=b.size
 z:o.size+i+j=a.size+b.size
def Gk{l:List bW}{r:KA}(h:l.Perm T/\Srt (gr rk) l)(e:r.toList=l.reverse):Res rk T r:=by
 unfold Res;rw[e];exact#[(d8 l).trans h.1,eI.mpr h.2]
def Zb2(h:Hi rk a b T o i j)(hi:(i == 0)=al):Res rk T (dh a b o i j):=by
 cases beq_iff_eq.mp hi;refine Gk (ML.fin h.swap) ?_;simp
def Zht(h:Hi rk a b T o i j)(hj:(j == 0)=al):Res rk T (dh a b o i j):=by
 cases beq_iff_eq.mp hj;refine Gk (ML.fin h) ?_;simp
def GR(fs:∀x∈a.toList,∀y∈b.toList.take 1,rk y<rk x)(h:Hi rk a b T o i j)(hj:(j == 1)=al):Res rk T (fh a b o i j):=by
 cases beq_iff_eq.mp hj;have:=(ML.as (by rw[cw];exact h) λx hx y hy=>fs x (c9<|ez.mp hx) y<|ez.mp hy).swap.fin
 refine Gk this ?_;simp
def jN(h:Hi rk a b T o i j)(i0:0<i)(i1:i<=a.size)(hx:∀y∈rv b j,rk y<rk a[i-1]):Hi rk a b T (o.push a[i-1]) (i-1) j:=by
 unfold Hi at h ⊢;rw[WX i0 i1]at h;rw[fH];exact ML.as h λx hx' y hy'=>by rw[a8.mp hx'];exact hx y hy'
def ZdX(h:Hi rk a b T o i j)(j0:0<j)(j1:j<=b.size)(hx:∀y∈rv a i,rk y<rk b[j-1]):Hi rk a b T (o.push b[j-1]) i (j-1):=by
 unfold Hi at h ⊢;rw[WX j0 j1]at h;rw[fH];exact ML.bs h λx hx' y hy'=>by rw[a8.mp hx'];exact hx y hy'
def vG{l:List bW}{x y:bW}(h:Srt (gr rk) (x::l))(hx:rk x<rk y):∀z∈x::l,rk z<rk y:=λz hz=>by
 rcases az.mp hz with rfl|hz
 .exact hx
 .exact dg ((bj.mp h).1 z hz) hx
theorem wL(O:Od prog w A E s κ In rk){lf:Bool}{k:bW}{ar:KA}{n:Nat}{τ:bQ}{Q:Option Nat->bQ->Prop}(hk:kindOf τ=κ)(ik:In k)(hn:0<n)(h1:n<=ar.size)(ia:∀x∈ar.toList,In x)(so:Srt (gr rk) (rv ar n))(ne:∀x∈rv ar n,rk x≠rk k)
  (hq:∀r,r<=n->(∀x∈rv ar r,rk x<rk k)->(∀x∈((ar.toList.take n).drop r).reverse,rk k<rk x)->Q (aa r) τ):mv #[8] A E s (Yl lf k ar 0 n<|n-1) Q τ:=by
 refine vc O hk ik (Nat.sub_lt hn Nat.one_pos) #[0] ia (eI.mp so) (λx hx=>ne x<|ez.mpr hx) λr h2 h3 h4=>hq r h2 (λx hx=>h3 x ?_) λx hx=>h4 x<|ez.mp hx
 have hx:=ez.mp hx;rw[pO,l8 h2];exact hx
def V7{a:KA}{i:Nat}(i0:0<i)(i1:i<=a.size):a[i-1]∈rv a i:=by rw[WX i0 i1];exact ak ..
def yi{a:KA}{i:Nat}{x:bW}(h:x∈rv a i):x∈a.toList:=c9<|ez.mp h
section
variable(O:Od prog w A E s κ In rk)(G:Mg κ In rk a b T)(fs:∀x∈a.toList,∀y∈b.toList.take 1,rk y<rk x)
include O G fs
theorem Zhb{g ca cb:Nat}{r0:Option KA}{τ:bQ}{Q:ForInStep U2->bQ->Prop}(hk:kindOf τ=κ)(I:Ih rk a b T o i j)
  (hd:∀r c,Res rk T r->Q (.done (aa r,c)) τ)(hb:∀o' i' j' ca cb,Ih rk a b T o' i' j'->o'.size=o.size+1->Q (.done (ag,i',j',o',ca,cb)) τ/\Q (.yield (ag,i',j',o',ca,cb)) τ):mv #[8] A E s (H1 a b g (r0,i,j,o,ca,cb)) Q τ:=by
 obtain⟨m,i0,i1,j0,j1,z⟩:=I;have j0':=d7 j0;have hja:j-1<b.size:=by lia
 have hia:i-1<a.size:=by lia
 have ha:=V7 i0 i1;have hb':=V7 j0' j1;have sa:=m.sa;have sb:=m.sb;rw[WX i0 i1]at sa;rw[WX j0' j1]at sb;refine aI<|ZG (ZP hja)<|aI<|ZG (ZP hia)<|aI<|O.ask (G.ib _<|yi hb') (G.ia _<|yi ha) hk ?_;by_cases c:rk b[j-1]<rk a[i-1]
 .rw[T5 c]
  refine aI<|ZG (ZP hia) ?_;have m:=jN m i0 i1 (by rw[WX j0' j1];exact vG sb c)
  have z':(o.push a[i-1]).size=o.size+1:=d9 ..;refine ZF (λq=>aS<|hd _ _<|Zb2 m q) λq=>?_
  have q:i-1≠0:=λz=>q<|beq_iff_eq.mpr z
  have h:=hb _ _ _ (ca+1) 0 #[m,by lia,by lia,j0,j1,by lia] z'
  exact ZF (λ_=>aS h.1) λ_=>aS h.2
 .rw[T4 c]
  refine aI<|ZG (ZP hja) ?_;have c':=fj (eZ c)<|m.ne G.nd ha hb';have m:=ZdX m j0' j1 (by rw[WX i0 i1];exact vG sa c')
  have z':(o.push b[j-1]).size=o.size+1:=d9 ..;refine ZF (λq=>aS<|hd _ _<|GR fs m q) λq=>?_
  have q:j-1≠1:=λz=>q<|beq_iff_eq.mpr z
  have h:=hb _ _ _ 0 (cb+1) #[m,i0,i1,by lia,by lia,by lia] z'
  exact ZF (λ_=>aS h.1) λ_=>aS h.2
theorem Zd3{g ca cb:Nat}{τ:bQ}(I:Ih rk a b T o i j)(hx:∀y∈rv b j,rk y<rk (a[i-1]'(by have:=I.i0;have:=I.i1;lia)))
  (hd:∀r c,Res rk T r->Q (.done (aa r,c)) τ)(hb:∀o' i' j' g ca cb,Ih rk a b T o' i' j'->o'.size=o.size+1->Q (.done (ag,i',j',o',g,ca,cb)) τ/\Q (.yield (ag,i',j',o',g,ca,cb)) τ):mv #[8] A E s (K3 a b g ca cb i o j) Q τ:=by
 obtain⟨m,i0,i1,j0,j1,z⟩:=I;refine aI<|ZG (ZP<|by lia) ?_
 have m:=jN m i0 i1 hx;have z':(o.push a[i-1]).size=o.size+1:=d9 ..;refine ZF (λq=>aS<|hd _ _<|Zb2 m q) λq=>?_
 have q:i-1≠0:=λz=>q<|beq_iff_eq.mpr z
 have h:=hb _ _ _ g ca cb #[m,by lia,by lia,j0,j1,by lia] z'
 exact ZF (λ_=>aS h.1) λ_=>aS h.2
theorem ZdG{g ca cb:Nat}{τ:bQ}(hk:kindOf τ=κ)(I:Ih rk a b T o i j)(hy:∀y∈rv a i,rk y<rk (b[j-1]'(by have:=I.j0;have:=I.j1;lia)))
  (hd:∀r c,Res rk T r->Q (.done (aa r,c)) τ)(hb:∀o' i' j' g ca cb,Ih rk a b T o' i' j'->o.size<o'.size->Q (.done (ag,i',j',o',g,ca,cb)) τ/\Q (.yield (ag,i',j',o',g,ca,cb)) τ):mv #[8] A E s (K2 a b g ca cb j o i) Q τ:=by
 obtain⟨m,i0,i1,j0,j1,z⟩:=I;unfold K2;refine aI<|ZG (ZP<|by lia) ?_
 have m:=ZdX m (d7 j0) j1 hy;have z':(o.push b[j-1]).size=o.size+1:=d9 ..;refine ZF (λq=>aS<|hd _ _<|GR fs m q) λq=>?_
 have q:j-1≠1:=λz=>q<|beq_iff_eq.mpr z
 have ha:=V7 i0 i1;refine aI<|ZG (ZP<|by lia)<|aI<|wL O hk (G.ia _<|yi ha) #[0] #[0] G.ib m.sb (λy hy=>(m.ne G.nd ha hy).symm) λr hr h1 h2=>?_
 refine ZF (λc=>?_) λc=>?_
 .have m2:Hi rk a b T (o.push b[j-1]++(b.extract r<|j-1).reverse) i r:=by
   unfold Hi;rw[bX,mJ,jo];refine ML.bs ?_ λy hy x hx=>?_
   .rw[<-ZaT hr];exact m
   .have sa:=m.sa
    rw[WX i0 i1]at sa hx;exact vG sa (h2 y hy) x hx
  have z2:(o.push b[j-1]++(b.extract r<|j-1).reverse).size=o.size+1+(j-1-r):=by rw[g7,z',nJ,eV #[0]]
  refine ZF (λq=>aS<|hd _ _<|GR fs m2 q) λq1=>ZF (λq=>aS<|hd _ _<|Zht m2 q) λq2=>?_
  have q1:r≠1:=λz=>q1<|beq_iff_eq.mpr z
  have q2:r≠0:=λz=>q2<|beq_iff_eq.mpr z
  exact Zd3 O G fs #[m2,i0,i1,by lia,by lia,by lia] h1 hd λo' i' j' g ca cb I e=>hb o' i' j' g ca cb I #[0]
 .have e:r=j-1:=by lia
  subst e;exact Zd3 O G fs #[m,i0,i1,by lia,by lia,by lia] h1 hd λo' i' j' g ca cb I e=>hb o' i' j' g ca cb I #[0]
theorem ZdS{g ca cb:Nat}{τ:bQ}(hk:kindOf τ=κ)(I:Ih rk a b T o i j)
  (hd:∀r c st',Sg τ st'->Res rk T r->Q (.done (aa r,c)) st')(hb:∀o' i' j' g ca cb st',Sg τ st'->Ih rk a b T o' i' j'->o.size<o'.size->Q (.done (ag,i',j',o',g,ca,cb)) st'/\Q (.yield (ag,i',j',o',g,ca,cb)) st'):mv #[8] A E s (K1 a b o i j ca cb g) Q τ:=by
 obtain⟨m,i0,i1,j0,j1,z⟩:=I;have j0':=d7 j0;have hb':=V7 j0' j1;unfold K1;refine aI<|V3 λst' sg=>aI<|ZG (ZP<|by lia)<|aI<|wL O (sg.1.trans hk) (G.ib _<|yi hb') i0 i1 G.ia m.sa (λx hx=>m.ne G.nd hx hb') λr hr h1 h2=>?_
 refine ZF (λc=>?_) λc=>?_
 .have m2:Hi rk a b T (o++(a.extract r i).reverse) r j:=by
   unfold Hi;rw[bX,mJ,jo];refine ML.as ?_ λx hx y hy=>?_
   .rw[<-ZaT hr];exact m
   .have sb:=m.sb
    rw[WX j0' j1]at sb hy;exact vG sb (h2 x hx) y hy
  have z2:(o++(a.extract r i).reverse).size=o.size+(i-r):=by rw[g7,nJ,eV #[0]]
  refine ZF (λq=>aS<|hd _ _ st' sg<|Zb2 m2 q) λq=>?_
  have q:r≠0:=λz=>q<|beq_iff_eq.mpr z
  exact ZdG O G fs (sg.1.trans hk) #[m2,by lia,by lia,j0,j1,by lia] h1 (λr c=>hd r c st' sg) λo' i' j' g ca cb I e=>hb o' i' j' g ca cb st' sg I #[0]
 .have e:r=i:=by lia
  subst e;exact ZdG O G fs (sg.1.trans hk) #[m,i0,i1,j0,j1,z] h1 (λr c=>hd r c st' sg) λo' i' j' g ca cb I e=>hb o' i' j' g ca cb st' sg I #[0]
theorem Zgg{g ca cb:Nat}{r0:Option KA}{τ:bQ}(hk:kindOf τ=κ)(I:Ih rk a b T o i j)
  (hd:∀r c st',Sg τ st'->Res rk T r->Q (.done (aa r,c)) st')(hb:∀o' i' j' g ca cb st',Sg τ st'->Ih rk a b T o' i' j'->o.size<o'.size->Q (.done (ag,i',j',o',g,ca,cb)) st'/\Q (.yield (ag,i',j',o',g,ca,cb)) st'):mv #[8] A E s (H2 a b (r0,i,j,o,g,ca,cb)) Q τ:=by
 exact ZF (λ_=>ZdS O G fs hk I hd hb) λ_=>ZdS O G fs hk I hd hb
theorem Zhh{g:Nat}{r0:Option KA}{τ:bQ}{Q:ForInStep U1->bQ->Prop}(hk:kindOf τ=κ)(I:Ih rk a b T o i j)
  (hd:∀r c st',Sg τ st'->Res rk T r->Q (.done (aa r,c)) st')(hy:∀o' i' j' g st',Sg τ st'->Ih rk a b T o' i' j'->o.size<o'.size->Q (.yield (ag,i',j',o',g)) st'):mv #[8] A E s (TT (a.size+b.size) (H1 a b) (H2 a b) (r0,i,j,o,g)) Q τ:=by
 refine aI (eR (cF
  (I:=λx (c:U2) st'=>st'=τ/\c.1=ag/\Ih rk a b T c.2.2.2.1 c.2.1 c.2.2.1/\o.size+x<=c.2.2.2.1.size)
  (Q:=λ(c:U2) st'=>st'=τ/\((∃r,c.1=aa r/\Res rk T r)\/c.1=ag/\Ih rk a b T c.2.2.2.1 c.2.1 c.2.2.1/\o.size<c.2.2.2.1.size)) ?_ ?_ #[rfl,rfl,I,aF _]) ?_)
 .rintro x ⟨r,i',j',o',ca,cb⟩ st' _ _ ⟨rfl,rfl,I',hz⟩
  exact Zhb O G fs hk I' (λr c h=>#[rfl,.inl #[r,rfl,h]]) λo2 i2 j2 ca cb I2 e=>#[#[rfl,.inr #[rfl,I2,by dsimp only at hz ⊢;lia]],rfl,rfl,I2,by dsimp only at hz ⊢;lia]
 .rintro ⟨r,i',j',o',ca,cb⟩ st' ⟨rfl,rfl,I',hz⟩
  have:=I'.i0;have:=I'.j0;have:=I'.z;lia
 .rintro ⟨r,i',j',o',ca,cb⟩ st' ⟨rfl,⟨r',rfl,h⟩|⟨rfl,I',hz⟩⟩
  .exact aS<|hd _ _ _ #[rfl,rfl,rfl,rfl] h
  .dsimp only at I' hz
   refine aI (Wx (aI (eR (cF
    (I:=λx (c:U3) st''=>Sg st' st''/\c.1=ag/\Ih rk a b T c.2.2.2.1 c.2.1 c.2.2.1/\o'.size+x<=c.2.2.2.1.size)
    (Q:=λ(c:U3) st''=>Sg st' st''/\((∃r,c.1=aa r/\Res rk T r)\/c.1=ag/\Ih rk a b T c.2.2.2.1 c.2.1 c.2.2.1/\o'.size<c.2.2.2.1.size)) ?_ ?_ #[#[rfl,rfl,rfl,rfl],rfl,I',aF _]) ?_)))
   .rintro x ⟨r,i2,j2,o2,g,ca,cb⟩ st2 _ _ ⟨sg,rfl,I2,hz2⟩
    dsimp only at I2 hz2
    exact Zgg O G fs (sg.1.trans hk) I2 (λr c st3 s3 h=>#[sg.trans s3,.inl #[r,rfl,h]]) λo3 i3 j3 g ca cb st3 s3 I3 e=>#[#[sg.trans s3,.inr #[rfl,I3,by dsimp only;lia]],sg.trans s3,rfl,I3,by dsimp only;lia]
   .rintro ⟨r,i2,j2,o2,g,ca,cb⟩ st2 ⟨sg,rfl,I2,hz2⟩
    have:=I2.i0;have:=I2.j0;have:=I2.z;lia
   .rintro ⟨r,i2,j2,o2,g,ca,cb⟩ st2 ⟨sg,⟨r',rfl,h⟩|⟨rfl,I2,hz2⟩⟩
    .exact aS<|hd _ _ _ sg h
    .exact aI<|V3 λst3 s3=>aS<|hy _ _ _ _ _ (sg.trans s3) I2<|dg hz hz2
theorem xm{τ:bQ}{Q:KA->bQ->Prop}(hk:kindOf τ=κ)(ha:0<a.size)(hb:0<b.size)(sa:Srt (lr rk) a.toList)(sb:Srt (lr rk) b.toList)(hT:(a.toList++b.toList).Perm T)
  (hq:∀r st',Sg τ st'->Res rk T r->Q r st'):mv #[8] A E s (Qt a b) Q τ:=by
 rw[GU];refine aI<|Wx<|aI<|ZG (ZP<|by lia) ?_
 have ea:rv a a.size=a.toList.reverse:=by show(a.toList.take a.size).reverse=_;rw[<-aN,fX]
 have eb:rv b b.size=b.toList.reverse:=by show(b.toList.take b.size).reverse=_;rw[<-aN,fX]
 have m0:Hi rk a b T #[] a.size b.size:=by
  unfold Hi;rw[ea,eb];exact#[by simpa using((d8 _).append<|d8 _).trans hT,.nil,eI.mpr sa,eI.mpr sb,λx hx=>by cases hx]
 have m:=jN m0 ha (aF _) λy hy=>G.last y (yi hy) _ (by rw[Z6 #[0]];exact ak ..)
 have sg0:Sg τ τ:=#[rfl,rfl,rfl,rfl];refine ZF (λq=>aS<|hq _ _ sg0<|Zb2 m q) λq1=>ZF (λq=>aS<|hq _ _ sg0<|GR fs m q) λq2=>?_
 have q1:a.size-1≠0:=λz=>q1<|beq_iff_eq.mpr z
 have q2:b.size≠1:=λz=>q2<|beq_iff_eq.mpr z
 refine aI (g8 (aI (eR (cF
  (I:=λx (c:U1) st''=>Sg τ st''/\c.1=ag/\Ih rk a b T c.2.2.2.1 c.2.1 c.2.2.1/\x<=c.2.2.2.1.size)
  (Q:=λ(c:U1) st''=>Sg τ st''/\∃r,c.1=aa r/\Res rk T r) ?_ ?_ #[sg0,rfl,#[m,by dsimp only;lia,by dsimp only;lia,by dsimp only;lia,aF _,by show 1+(a.size-1)+b.size=_;lia],dD _]) ?_)))
 .rintro x ⟨r,i,j,o,g⟩ st2 _ _ ⟨sg,rfl,I,hz⟩
  dsimp only at I hz
  exact Zhh O G fs (sg.1.trans hk) I (λr c st3 s3 h=>#[sg.trans s3,r,rfl,h]) λo3 i3 j3 g st3 s3 I3 e=>#[sg.trans s3,rfl,I3,by dsimp only;lia]
 .rintro ⟨r,i,j,o,g⟩ st2 ⟨sg,rfl,I,hz⟩
  have:=I.i0;have:=I.j0;have:=I.z;lia
 .rintro ⟨r,i,j,o,g⟩ st2 ⟨sg,r',rfl,h⟩
  exact aS<|hq _ _ sg h
end
end
noncomputable def Kr(rk:bW->Nat)(xs:Array bW)(i:Nat):Nat:=match xs[i]? with
 |some p=>rk p
 |none=>0
def Vc(h:xs[i]?=ys[j]?):Kr rk xs i=Kr rk ys j:=by unfold Kr;rw[h]
structure Sb(κ:fP)(a₀:Array bW)(P:Array (Nat×Nat×Nat))(lo:Nat)(L:List bW)(τ:bQ):Prop where
 kd:kindOf τ=κ
 pm:(ba τ).Perm a₀
 fl:fQ τ=ag
 pd:bf τ=P
 ah:(ba τ).toList.take lo=L
def Up(rk:bW->Nat)(xs:Array bW)(lo m:Nat):Prop:=∀i j,lo<=i->i<j->j<lo+m->Kr rk xs i<Kr rk xs j
def Dn(rk:bW->Nat)(xs:Array bW)(lo m:Nat):Prop:=∀i j,lo<=i->i<j->j<lo+m->Kr rk xs j<Kr rk xs i
section
variable{κ:fP}{a₀:Array bW}{P:Array (Nat×Nat×Nat)}{lo:Nat}{L:List bW}{τ:bQ}{In:bW->Prop}{rk:bW->Nat}
theorem Sb.size(h:Sb κ a₀ P lo L τ):(ba τ).size=a₀.size:=h.pm.size_eq
def Sb.in(h:Sb κ a₀ P lo L τ)(ia:∀x∈a₀.toList,In x):∀x∈(ba τ).toList,In x:=λx hx=>ia x<|(bJ.mp h.pm).mem_iff.mp hx
def zj(hi:i<xs.size):Kr rk xs i=rk xs[i]:=by unfold Kr;rw[br hi]
theorem Sb.ne(h:Sb κ a₀ P lo L τ)(nd:(a₀.toList.map rk).Nodup)(hi:i<a₀.size)(hj:j<a₀.size)(e:Kr rk (ba τ) i=Kr rk (ba τ) j):i=j:=by
 have hs:=h.size;have n:=(((bJ.mp h.pm).map rk).nodup_iff).mpr nd;have g:∀k,k<a₀.size->((ba τ).toList.map rk)[k]?=aa (Kr rk (ba τ) k):=λk hk=>by
  rw[aJ,bz,br #[0],zj #[0]];rfl
 exact(kN (by rw[ay,aN];lia) n).mp (by rw[g i hi,g j hj,e])
def Sb.setA(h:Sb κ a₀ P lo L τ)(hp:xs.Perm (ba τ))(hf:∀k,k<lo->xs[k]?=(ba τ)[k]?):Sb κ a₀ P lo L (pP τ xs):=
 #[h.kd,hp.trans h.pm,h.fl,h.pd,by
  rw[<-h.ah];refine cL λk=>?_
  rw[cA,cA];split
  .rw[bz,bz];exact hf k ‹_›
  .rfl]
variable{prog:bt}{w:bN}{A:bU}{E:au->aA->Prop}{s:aA}
theorem Jt(O:Od prog w A E s κ In rk)(h:Sb κ a₀ P lo L τ)(ia:∀x∈a₀.toList,In x){Q:Option Bool->bQ->Prop}(hi:i<a₀.size)(hj:j<a₀.size)(q:Q (aa<|ai<|Kr rk (ba τ) i<Kr rk (ba τ) j) τ):mv #[8] A E s (ltAt' i j) Q τ:=by
 have hs:=h.size;have m:∀k (hk:k<(ba τ).size),In (ba τ)[k]:=λk hk=>h.in ia _ #[2]
 rw[ltAt'_eq];refine aI<|g8 ?_;refine aI<|ZG (ZP<|by lia)<|aI<|ZG (ZP<|by lia) ?_
 rw[zj #[0],zj<|by lia]at q
 exact O.ask (m i _) (m j _) h.kd q
theorem Zed(xs:Array bW):Up rk xs lo 1:=λi j a b c=>by lia
theorem Zb7(h1:1<=m)(u:Up rk xs lo m)(c:Kr rk xs (lo+m-1)<Kr rk xs (lo+m)):Up rk xs lo (m+1):=λi j a b d=>by
 by_cases z:j=lo+m
 .subst z
  by_cases y:i=lo+m-1
  .rw[y];exact c
  .exact dg (u i (lo+m-1) a #[0]<|by lia) c
 .exact u i j a b #[0]
theorem Zcv(h1:1<=m)(u:Dn rk xs lo m)(c:Kr rk xs (lo+m)<Kr rk xs (lo+m-1)):Dn rk xs lo (m+1):=λi j a b d=>by
 by_cases z:j=lo+m
 .subst z
  by_cases y:i=lo+m-1
  .rw[y];exact c
  .exact dg c<|u i (lo+m-1) a #[0] #[0]
 .exact u i j a b #[0]
theorem qU(O:Od prog w A E s κ In rk)(ia:∀x∈a₀.toList,In x)(nd:(a₀.toList.map rk).Nodup){n0 nrem:Nat}{F:Nat->AscSt->StateT bQ nO (ForInStep AscSt)}{Q:AscSt->bQ->Prop}
  (hF:∀i m (Q:ForInStep AscSt->bQ->Prop),1<=m->m<nrem->(Kr rk (ba τ) (lo+m)<Kr rk (ba τ) (lo+m-1)->Q (.done (ag,m)) τ)->(¬Kr rk (ba τ) (lo+m)<Kr rk (ba τ) (lo+m-1)->Q (.yield (ag,m+1)) τ)->mv #[8] A E s (F i (ag,m)) Q τ)
  (hn:lo+nrem<=a₀.size)(h1:1<=n0)(hl:n0<=nrem)(hB:Sb κ a₀ P lo L τ)(u:Up rk (ba τ) lo n0)
  (q:∀m,n0<=m->m<=nrem->Up rk (ba τ) lo m->(m<nrem->Kr rk (ba τ) (lo+m)<Kr rk (ba τ) (lo+m-1))->Q (ag,m) τ):mv #[8] A E s (mF [n0:nrem] ((ag,n0):AscSt) F) Q τ:=by
 refine cF (I:=λi c st'=>st'=τ/\c=(ag,i)/\Up rk (ba τ) lo i) ?_ ?_ #[rfl,rfl,u]
 .rintro i c st' ha hb ⟨rfl,rfl,u⟩
  refine hF i i _ #[0] hb (λc=>q i ha #[0] u λ_=>c) λc=>#[rfl,rfl,Zb7 #[0] u ?_]
  have:Kr rk (ba st') (lo+i-1)≠Kr rk (ba st') (lo+i):=λe=>by
   have:=hB.ne nd #[0] #[0] e
   lia
  lia
 .rintro c st' ⟨rfl,rfl,u⟩
  have e:max n0 nrem=nrem:=ln #[0]
  rw[e]at u ⊢;exact q nrem hl (aF _) u λz=>T7 z<|bw _
theorem qJ(O:Od prog w A E s κ In rk)(ia:∀x∈a₀.toList,In x)(nd:(a₀.toList.map rk).Nodup){nrem:Nat}{Q:Option Nat->bQ->Prop}(hn:lo+nrem<=a₀.size)(h1:1<=nrem)(hB:Sb κ a₀ P lo L τ)
  (q:∀m st',Sb κ a₀ P lo L st'->1<=m->m<=nrem->Up rk (ba st') lo m->Q (aa m) st'):mv #[8] A E s (countRun' lo nrem) Q τ:=by
 rw[countRun'_eq];refine aI<|qU O ia nd (λi m Q a b k1 k2=>?_) hn (aF _) h1 hB (Zed _) λm m1 m2 u c=>?_
 .refine aI (Jt O hB ia (by dsimp only;lia) (by dsimp only;lia) ?_)
  dsimp only
  split
  .exact aS<|k1<|T6 ‹_›
  .exact aS<|k2 λz=>‹¬_› (T5 z)
 dsimp only
 by_cases e:m=nrem
 .rw[T9 (by simpa using e)]
  exact aS<|q m τ hB m1 m2 u
 rw[T8 (by simpa using e)]
 by_cases c1:m>1
 .rw[T9 c1]
  refine aI<|Jt O hB ia #[0] #[0] ?_
  dsimp only
  rw[T9<|T5<|u lo (lo+m-1) (aF _) #[0] #[0]]
  exact aS<|q m τ hB m1 m2 u
 rw[T8 c1];obtain rfl:m=1:=by lia
 refine aI<|Wx ?_;have nl:∀i j,i<a₀.size->j<a₀.size->i≠j->¬Kr rk (ba τ) i<Kr rk (ba τ) j->Kr rk (ba τ) j<Kr rk (ba τ) i:=λi j hi hj ne c=>by
  have:Kr rk (ba τ) i≠Kr rk (ba τ) j:=λe=>ne<|hB.ne nd hi hj e
  lia
 have d2:Dn rk (ba τ) lo 2:=λi j a b d=>by
  obtain⟨rfl,rfl⟩:i=lo/\j=lo+1:=by lia
  exact c #[0]
 refine aI<|eR (cF (I:=λi c st'=>st'=τ/\c=(ag,i,0)/\Dn rk (ba τ) lo i) (Q:=λc st'=>st'=τ/\∃i,c=(ag,i,0)/\2<=i/\i<=nrem/\Dn rk (ba τ) lo i) ?_ ?_ #[rfl,rfl,d2]) ?_
 .rintro i c st' ha hb ⟨rfl,rfl,u⟩
  dsimp only
  refine aI<|Jt O hB ia #[0] #[0] ?_
  dsimp only
  split
  .rw[T8<|bw 0]
   exact aS #[rfl,rfl,Zcv #[0] u<|T6 ‹_›]
  .refine aI (Jt O hB ia #[0] #[0] ?_)
   dsimp only
   rw[T9<|T5<|nl (lo+i) (lo+i-1) #[0] #[0] #[0] λz=>‹¬_› (T5 z)]
   exact aS #[rfl,i,rfl,by lia,by lia,u]
 .rintro c st' ⟨rfl,rfl,u⟩
  have e:max (1+1) nrem=nrem:=ln #[0]
  rw[e]at u ⊢;exact#[rfl,nrem,rfl,by lia,aF _,u]
 .rintro c st' ⟨rfl,i,rfl,h2,hi,u⟩
  dsimp only
  rw[T8<|bw 0];refine aI<|wpS_reverse ?_;have hs:=hB.size;have gm:=λk=>getElem?_mirror_all (xs:=ba st') (i:=lo) (j:=lo+i) #[0] k
  have hB2:Sb κ a₀ P lo L (pP st'<|mirror (ba st') lo (lo+i)<|(lo+i-lo) / 2):=hB.setA (mirror_perm ..) λk hk=>by
   rw[gm k,T8 #[0]]
  have u2:Up rk (mirror (ba st') lo (lo+i)<|(lo+i-lo) / 2) lo i:=λa b h1 h2 h3=>by
   have e:∀k,lo<=k->k<lo+i->Kr rk (mirror (ba st') lo (lo+i)<|(lo+i-lo) / 2) k=Kr rk (ba st') (lo+(lo+i-1-k)):=λk ka kb=>Vc (by rw[gm k,T9 #[ka,kb],Nat.sub_sub,Nat.sub_sub,Nat.add_sub_assoc #[0]])
   rw[e a h1 #[0],e b #[0] h3]
   exact u _ _ (dE ..) (Nat.add_lt_add_left (Nat.sub_lt_sub_left (bi h2<|Nat.le_sub_one_of_lt h3) h2) _) #[0]
  refine aI<|qU O ia nd (τ:=pP st'<|mirror (ba st') lo (lo+i)<|(lo+i-lo) / 2) (λi m Q a b k1 k2=>?_) hn #[0] hi hB2 u2 λm m1 m2 u c=>?_
  .refine aI (Jt O hB2 ia (by dsimp only;lia) (by dsimp only;lia) ?_)
   dsimp only
   split
   .exact aS<|k1<|T6 ‹_›
   .exact aS<|k2 λz=>‹¬_› (T5 z)
  .exact aS<|q m _ hB2 #[0] m2 u
theorem Zdz(O:Od prog w A E s κ In rk)(ia:∀x∈a₀.toList,In x)(nd:(a₀.toList.map rk).Nodup){n ok:Nat}{Q:Bool->bQ->Prop}(hn:lo+n<=a₀.size)(h1:1<=ok)(hok:ok<=n)(hB:Sb κ a₀ P lo L τ)(u:Up rk (ba τ) lo ok)
  (q:∀st',Sb κ a₀ P lo L st'->Up rk (ba st') lo n->Q al st'):mv #[8] A E s (binarySort' lo n ok) Q τ:=by
 rw[binarySort'_eq];refine aI<|eR (cF (I:=λk c st'=>c=(ag,())/\Sb κ a₀ P lo L st'/\Up rk (ba st') lo k) (Q:=λc st'=>c=(ag,())/\Sb κ a₀ P lo L st'/\Up rk (ba st') lo n) ?_ ?_ #[rfl,hB,by rw[pj h1];exact u]) ?_
 .rintro k c st' ha hb ⟨rfl,B,u⟩
  have hs:=B.size;refine aI (eR (cF (I:=λx c st2=>st2=st'/\∃l r,c=(ag,l,r)/\l<=r/\r<=k/\r+x<=k+l/\(∀i,i<l->Kr rk (ba st') (lo+i)<Kr rk (ba st') (lo+k))/\∀i,r<=i->i<k->Kr rk (ba st') (lo+k)<Kr rk (ba st') (lo+i))
   (Q:=λc st2=>st2=st'/\∃l r,c=(ag,l,r)/\l<=k/\(∀i,i<l->Kr rk (ba st') (lo+i)<Kr rk (ba st') (lo+k))/\∀i,l<=i->i<k->Kr rk (ba st') (lo+k)<Kr rk (ba st') (lo+i)) ?_ ?_ #[rfl,0,k,rfl,by lia,by lia,by lia,λi hi=>by lia,λi a b=>by lia]) ?_)
  .rintro x c st2 _ hx ⟨rfl,l,r,rfl,g1,g2,g3,g4,g5⟩
   dsimp only
   by_cases c:l>=r
   .rw[T9 c]
    exact aS #[rfl,l,r,rfl,by lia,g4,λi a b=>g5 i #[0] b]
   .rw[T8 c]
    have m1:l<=(l+r) / 2:=by lia
    have m2:(l+r) / 2<r:=by lia
    generalize (l+r) / 2=m at *;refine aI<|Jt O B ia #[0] #[0] ?_
    dsimp only
    split
    .have cm:=T6 ‹_›
     refine aS #[rfl,l,m,rfl,by lia,by lia,by lia,g4,λi a b=>?_]
     by_cases y:i=m
     .rw[y];exact cm
     .exact dg cm<|u _ _ #[0] #[0] #[0]
    .have cm:Kr rk (ba st2) (lo+m)<Kr rk (ba st2) (lo+k):=by
      have z:¬Kr rk (ba st2) (lo+k)<Kr rk (ba st2) (lo+m):=λz=>‹¬_› (T5 z)
      have:Kr rk (ba st2) (lo+k)≠Kr rk (ba st2) (lo+m):=λe=>by
       have:=B.ne nd #[0] #[0] e
       lia
      lia
     refine aS #[rfl,m+1,r,rfl,by lia,by lia,by lia,λi a=>?_,g5]
     by_cases y:i=m
     .rw[y];exact cm
     .exact dg (u _ _ #[0] #[0]<|by lia) cm
  .rintro c st2 ⟨rfl,l,r,rfl,g1,g2,g3,g4,g5⟩
   exact#[rfl,l,r,rfl,by lia,g4,λi a b=>g5 i #[0] b]
  .rintro c st2 ⟨rfl,l,r,rfl,g2,g4,g5⟩
   dsimp only
   rw[moveDown'_eq];refine aI<|fk<|aS ?_;have gb:=λi=>getElem?_bubble (xs:=ba st2) (src:=lo+k) #[0] (lo+k-(lo+l)) #[0] i
   rw[Nat.sub_sub_self<|Nat.add_le_add_left g2 lo]at gb;refine#[rfl,B.setA (bubble_perm ..) λi hi=>?_,λi j a b d=>?_]
   .rw[gb i,T8 #[0],T8 #[0]]
   .have e:∀i,Kr rk (bubble (ba st2) (lo+k)<|lo+k-(lo+l)) i=if i=lo+l then Kr rk (ba st2) (lo+k)else if lo+l<i/\i<=lo+k then Kr rk (ba st2) (i-1)else Kr rk (ba st2) i:=λi=>by
     have h:=gb i;split at h
     .rw[T9 ‹_›];exact Vc h
     .rw[T8 ‹_›]
      split at h
      .rw[T9 ‹_›];exact Vc h
      .rw[T8 ‹_›];exact Vc h
    show Kr rk (bubble _ _ _) i<Kr rk (bubble _ _ _) j;rw[e i,e j];have low:∀x,lo<=x->x<lo+l->Kr rk (ba st2) x<Kr rk (ba st2) (lo+k):=λx a b=>by
     obtain⟨y,rfl⟩:=lq a;exact g4 y<|kA b
    have high:∀x,lo+l<=x->x<lo+k->Kr rk (ba st2) (lo+k)<Kr rk (ba st2) x:=λx a b=>by
     obtain⟨y,rfl⟩:=lq<|Nat.le_of_add_right_le a;exact g5 y (Nat.le_of_add_le_add_left a)<|kA b
    by_cases ci:i=lo+l
    .rw[T9 ci,T8 #[0],T9 #[0]]
     exact high _ #[0] #[0]
    .rw[T8 ci]
     by_cases cj:j=lo+l
     .rw[T9 cj,T8 #[0]]
      exact low _ a #[0]
     .rw[T8 cj]
      by_cases di:lo+l<i/\i<=lo+k
      .rw[T9 di,T9 #[0]];exact u _ _ #[0] #[0] #[0]
      .rw[T8 di]
       by_cases dj:lo+l<j/\j<=lo+k
       .obtain⟨m,rfl⟩:=lv dj.1
        rw[T9 dj];exact u _ (lo+l+m) a #[0] #[0]
       .rw[T8 dj];exact u _ _ a b #[0]
 .rintro c st' ⟨rfl,B,u⟩
  have e:max (max ok 1) n=n:=by rw[pj h1,ln hok]
  rw[e]at u;exact#[rfl,B,u]
 .rintro c st' ⟨rfl,B,u⟩
  exact aS<|q st' B u
end
def yn(i:Nat):mergeAt' i=(do
 let t <-get
 let (aa (ia,ma,pw),aa (ib,mb,_)):=((bf t)[i]?,(bf t)[i+1]?)|unsupported "internal:list.sort.pending"
 set (gO t<|((bf t).setIfInBounds i (ia,ma+mb,pw)).eraseIdxIfInBounds<|i+1)
 let aa r <-Yl aj (<-gq (ba t) ib) (ba t) ia ma 0|return aj
 let (ja,la):=(ia+r,ma-r)
 if la == 0 then return al
 let aa lb <-Yl al (<-gq (ba t) (ja+la-1)) (ba t) ib mb (mb-1)|return aj
 if lb == 0 then return al
 let u:=(ba t).extract ja ib
 let v:=(ba t).extract ib<|ib+lb
 let mg <-if la<=lb then UH u v else Qt u v
 modify λt=>pP t<|mg.toList.zipIdx.foldl (λa (p,j)=>a.setIfInBounds (ja+j) p)<|ba t
 return (fQ<|<-get).isNone):=rfl
theorem zX(b:Nat):∀(m:List bW)(j:Nat)(a:Array bW),b+j+m.length<=a.size->((m.zipIdx j).foldl (λa q=>a.setIfInBounds (b+q.2) q.1) a).toList=a.toList.take (b+j)++m++a.toList.drop (b+j+m.length)
 |[],j,a,h=>by simp
 |x::r,j,a,h=>by
  rw[aQ]at h;rw[lj,dC,zX b r (j+1) _ (by rw[Array.size_setIfInBounds];lia)]
  dsimp only
  rw[kn,aQ,<-d3 b j 1,kM,List.take_set_of_le<|aF _,bc (by simpa using(by lia:b+j<a.size)),List.drop_set_of_lt #[0]]
  simp[d3,iT 1]
def Runs(rk:bW->Nat):List (Nat×Nat)->Nat->Nat->List bW->Prop
 |[],a,b,_=>a=b
 |(i,n)::r,a,b,l=>i=a/\1<=n/\Srt (lr rk) ((l.drop a).take n)/\Runs rk r (a+n) b l
section
theorem Runs.le:∀{r:List (Nat×Nat)}{a b:Nat}{l:List bW},Runs rk r a b l->a+r.length<=b
 |[],a,b,l,h=>oy h
 |(i,n)::r,a,b,l,#[_,h1,_,h]=>by have:=h.le;rw[aQ];lia
theorem Runs.app:∀{r q:List (Nat×Nat)}{a b:Nat}{l:List bW},Runs rk (r++q) a b l↔∃c,Runs rk r a c l/\Runs rk q c b l
 |[],q,a,b,l=>#[λh=>#[a,rfl,h],λ#[c,h1,h2]=>by cases h1;exact h2]
 |(i,n)::r,q,a,b,l=>by
  constructor
  .rintro ⟨h1,h2,h3,h4⟩
   obtain⟨c,h5,h6⟩:=Runs.app.mp h4;exact#[c,#[h1,h2,h3,h5],h6]
  .rintro ⟨c,⟨h1,h2,h3,h4⟩,h5⟩
   exact#[h1,h2,h3,Runs.app.mpr #[c,h4,h5]]
theorem Runs.congr:∀{r:List (Nat×Nat)}{a b:Nat}{l l':List bW},Runs rk r a b l->(∀k,a<=k->k<b->l'[k]?=l[k]?)->Runs rk r a b l'
 |[],a,b,l,l',h,_=>h
 |(i,n)::r,a,b,l,l',#[h1,h2,h3,h4],e=>by
  have:=h4.le;refine#[h1,h2,?_,h4.congr λk ha hb=>e k #[0] hb]
  have:(l'.drop a).take n=(l.drop a).take n:=cL λk=>by
   rw[cA,cA,eG,eG];split
   .exact e _ #[0] #[0]
   .rfl
  rw[this];exact h3
def Gu(hx:Srt (lr rk) x)(hy:Srt (lr rk) y)(h:∀a∈x,∀b∈y,rk a<rk b):Srt (lr rk) (x++y):=eS.mpr #[hx,hy,h]
structure Sc(κ:fP)(a₀:Array bW)(τ:bQ):Prop where
 kd:kindOf τ=κ
 pm:(ba τ).Perm a₀
 fl:fQ τ=ag
variable{In:bW->Prop}
theorem y9(O:Od prog w A E s κ In rk)(ia:∀x∈a₀.toList,In x)(nd:(a₀.toList.map rk).Nodup){Q:Bool->bQ->Prop}{i a na nb pw qw:Nat}{U X Y Z:List bW}(h:Sc κ a₀ τ)(h1:(bf τ)[i]?=aa (a,na,pw))(h2:(bf τ)[i+1]?=aa (a+na,nb,qw))
  (hl:(ba τ).toList=U++(X++(Y++Z)))(lU:U.length=a)(lX:X.length=na)(lY:Y.length=nb)(xa:1<=na)(yb:1<=nb)(sx:Srt (lr rk) X)(sy:Srt (lr rk) Y)
  (q:∀st' M,Sc κ a₀ st'->bf st'=((bf τ).setIfInBounds i (a,na+nb,pw)).eraseIdxIfInBounds (i+1)->(ba st').toList=U++(M++Z)->M.length=na+nb->Srt (lr rk) M->Q al st'):mv #[8] A E s (mergeAt' i) Q τ:=by
 have hp:=bJ.mp h.pm;have ial:∀x∈(ba τ).toList,In x:=λx hx=>ia x<|hp.mem_iff.mp hx
 have ndl:=((hp.map rk).nodup_iff).mpr nd;have hsz:(ba τ).size=a+(na+(nb+Z.length)):=by rw[<-aN,hl];simp[lU,lX,lY]
 have dX:((ba τ).toList.drop a).take na=X:=by rw[hl,<-lU,ko,<-lX,kq]
 have dY:((ba τ).toList.drop<|a+na).take nb=Y:=by rw[hl,<-bI,<-lU,<-lX,<-aU,ko,<-lY,kq]
 have ndXY:∀x∈X,∀y∈Y,rk x≠rk y:=λx hx y hy e=>by
  rw[hl,bL,eT,bL,eT]at ndl;exact ndl.2.1.2.2 _ (dN hx) _ (by rw[bL];exact c8 _<|dN hy) e
 have inX:∀x∈X,In x:=λx hx=>ial x (by rw[hl];simp[hx])
 have inY:∀y∈Y,In y:=λy hy=>ial y (by rw[hl];simp[hy])
 obtain⟨y0,Y',rfl⟩:∃y0 Y',Y=y0::Y':=by cases Y with|nil=>simp at lY;lia|cons y Y'=>exact#[y,Y',rfl]
 have e0:(ba τ)[a+na]?=aa y0:=by
  rw[<-bz,hl,<-bI,cg (by simp;lia)]
  simp[lU,lX]
 rw[yn];refine aI<|g8 ?_;rw[h1,h2]
 dsimp only
 refine aI<|fk (f:=λ_=>gO τ<|((bf τ).setIfInBounds i (a,na+nb,pw)).eraseIdxIfInBounds<|i+1) ?_
 generalize hst:gO τ (((bf τ).setIfInBounds i (a,na+nb,pw)).eraseIdxIfInBounds<|i+1)=st1;have S1:Sc κ a₀ st1:=by rw[<-hst];exact#[h.kd,h.pm,h.fl]
 have P1:bf st1=((bf τ).setIfInBounds i (a,na+nb,pw)).eraseIdxIfInBounds (i+1):=by rw[<-hst]
 have A1:ba st1=ba τ:=by rw[<-hst]
 refine aI<|ZG e0<|aI<|vc O S1.kd (inY y0<|ak ..) xa #[0] ial (by rw[dX];exact sx) (by rw[dX];exact λx hx=>ndXY x hx y0<|ak ..) λr hr r1 r2=>?_
 rw[dX]at r1 r2
 dsimp only
 have lowY:∀x∈X.take r,∀y∈y0::Y',rk x<rk y:=λx hx y hy=>by
  rcases az.mp hy with rfl|hy
  .exact r1 x hx
  .exact dg (r1 x hx)<|(bj.mp sy).1 y hy
 by_cases c:na-r=0
 .rw[T9 (by simpa using c)]
  have:X.take r=X:=cQ #[0]
  rw[this]at lowY;exact aS<|q st1 (X++y0::Y') S1 P1 (by rw[A1,hl,bI]) (by rw[aU,lX,lY])<|Gu sx sy lowY
 rw[T8 (by simpa using c)]
 obtain⟨d,hd⟩:=lv<|Nat.lt_of_sub_ne_zero c;have n9:na-r=d+1:=by rw[hd,d3,bS]
 rw[n9];have hd':r+d<X.length:=by lia
 have exl:(ba τ)[a+r+(d+1)-1]?=X[r+d]?:=by
  show(ba τ)[a+r+d]?=_;rw[<-bz,hl,<-lU,d3,cg<|dE ..,bS,cq hd']
 have xl:X[r+d]?=aa (X[r+d]'hd'):=af _;generalize hx0:X[r+d]'hd'=x0 at xl;have mx0:x0∈X:=cM xl;have mx1:x0∈X.drop r:=cM (i:=d) (by rw[eG,<-xl])
 have maxX:∀x∈X,x=x0\/rk x<rk x0:=λx hx=>by
  obtain⟨k,hk,rfl⟩:=mK.mp hx;by_cases z:k=r+d
  .subst z;exact .inl hx0
  .refine .inr ?_;rw[<-hx0];exact cu.mp sx k (r+d) hk hd' #[0]
 refine aI<|ZG (exl.trans xl)<|aI<|vc O S1.kd (inX x0 mx0) #[0] #[0] ial (by rw[dY];exact sy) (by rw[dY];exact λy hy=>Ne.symm<|ndXY x0 mx0 y hy) λt ht t1 t2=>?_
 rw[dY]at t1 t2
 dsimp only
 have t0:t≠0:=λz=>by
  subst z;have a1:=r2 x0 mx1;have a2:=t2 y0<|ak ..;lia
 rw[T8 (by simpa using t0)]
 generalize hY:y0::Y'=Y at *;have eu:((ba τ).extract (a+r)<|a+na).toList=X.drop r:=by
  have:a+na=(a+r)+(d+1):=by lia
  rw[this,vi,<-km,hl,<-lU,ko,iD #[0]]
  rw[show d+1=(X.drop r).length by rw[bR,lX,n9],kq]
 have ev:((ba τ).extract (a+na)<|a+na+t).toList=Y.take t:=by
  rw[vi,hl,<-bI,<-lU,<-lX,<-aU,ko,iE #[0]]
 generalize hu:(ba τ).extract (a+r) (a+na)=u at *;generalize hv:(ba τ).extract (a+na) (a+na+t)=v at *;have ul:u.size=d+1:=by rw[<-aN,eu,bR,lX,n9]
 clear n9;have vl:v.size=t:=by rw[<-aN,ev,fm #[0]]
 have su:Srt (lr rk) u.toList:=by rw[eu];exact sx.sublist<|List.drop_sublist ..
 have sv:Srt (lr rk) v.toList:=by rw[ev];exact sy.sublist<|n5 ..
 have v0:∀x∈u.toList,rk (v[0]'#[0])<rk x:=λx hx=>by
  have:v.toList[0]?=aa y0:=by
   rw[ev,<-hY];obtain⟨t',rfl⟩:=Nat.exists_eq_succ_of_ne_zero t0;rfl
  have e:v[0]'#[0]=y0:=by
   rw[bz,br<|by lia]at this
   exact aq this
  rw[e];exact r2 x (by rw[<-eu];exact hx)
 have G:Mg κ In rk u v (u.toList++v.toList):=by
  refine#[?_,λx hx=>inX x<|bZ<|eu▸hx,λy hy=>inY y<|c9<|ev▸hy,λy hy x hx=>?_]
  .rw[bL,eT]
   have nx:∀{z:List bW},Srt (lr rk) z->(z.map rk).Nodup:=λ{z} hz=>c6.mpr<|hz.imp λhab=>bh hab
   refine#[nx su,nx sv,λp hp p' hp' e=>?_]
   obtain⟨x,hx,rfl⟩:=aR.mp hp;obtain⟨y,hy,rfl⟩:=aR.mp hp';exact ndXY x (bZ<|eu▸hx) y (c9<|ev▸hy) e
  .have hx:x=x0:=by
    rw[eu,ul,km,nK,cr hd',show r+d+1=X.length by lia,ek,a8]at hx
    rw[hx];exact hx0
   rw[hx];exact t1 y (by rw[<-ev];exact hy)
 have fin:∀r' st',Sg st1 st'->Res rk (u.toList++v.toList) r'->mv #[8] A E s (do
   modify λt=>pP t<|r'.toList.zipIdx.foldl (λz (p,j)=>z.setIfInBounds (a+r+j) p)<|ba t
   return (fQ<|<-get).isNone) Q st':=λr' st' sg hr'=>by
  obtain⟨g1,g2,g3,g4⟩:=sg;obtain⟨k1,k2⟩:=hr';have rl:r'.toList.length=(d+1)+t:=by rw[k1.length_eq,aU,aN,aN,ul,vl]
  refine aI<|fk<|aI<|g8<|aS ?_;have fo:=zX (a+r) r'.toList 0 (ba τ) #[0]
  have el:((r'.toList.zipIdx.foldl (λz (q:bW×Nat)=>z.setIfInBounds (a+r+q.2) q.1)<|ba τ).toList)=U++((X.take r++(r'.toList++Y.drop t))++Z):=by
   rw[fo,Nat.add_zero,hl,<-lU,List.take_append,oX,rl];have e2:U.length+r+(d+1+t)-U.length=na+t:=by rw[d3,bS,hd,<-d3,<-d3]
   rw[bS,e2,cQ #[0],lQ #[0],fz,iE #[0],<-lX,oX,lQ #[0],fz,bS,iD #[0]]
   simp[bI]
  have hX:X.take r++X.drop r=X:=cX ..;have hYt:Y.take t++Y.drop t=Y:=cX ..;have pM:(X.take r++(r'.toList++Y.drop t)).Perm (X++Y):=by
   rw[eu,ev]at k1;have:(X.take r++(r'.toList++Y.drop t)).Perm (X.take r++((X.drop r++Y.take t)++Y.drop t)):=(k1.append_right _).append_left _;refine this.trans<|pz ?_;rw[bI<|X.drop r,hYt,<-bI,hX]
  show Q (fQ st').isNone _;rw[g4,S1.fl];refine q (pP st'<|r'.toList.zipIdx.foldl (λz (q:bW×Nat)=>z.setIfInBounds (a+r+q.2) q.1)<|ba st') (X.take r++(r'.toList++Y.drop t)) #[g1.trans S1.kd,?_,g4.trans S1.fl] (g3.trans P1) (by rw[<-el,<-A1,<-g2]) (by rw[pM.length_eq,aU,lX,lY]) ?_
  .refine(bJ.mpr ?_).trans h.pm
   show(nS<|List.foldl _ (ba st') _).Perm _;rw[g2,A1,el,hl,<-bI X Y Z];exact(pM.append_right _).append_left _
  .have memR:∀z∈r'.toList,z∈X.drop r\/z∈Y.take t:=λz hz=>by
    have:=k1.mem_iff.mp hz;rw[eu,ev]at this;exact cc.mp this
   have sX:=eS.mp<|hX.symm▸sx;have sY:=eS.mp<|hYt.symm▸sy;refine Gu sX.1 (Gu k2 sY.2.1 λp hp y hy=>?_) λx hx z hz=>?_
   .rcases memR p hp with m|m
    .have:=t2 y hy
     rcases maxX p (bZ m)with rfl|m
     .exact this
     .exact dg m this
    .exact sY.2.2 p m y hy
   .rcases cc.mp hz with m|m
    .rcases memR z m with m|m
     .exact sX.2.2 x hx z m
     .exact lowY x hx z<|c9 m
    .exact lowY x hx z<|bZ m
 by_cases cl:d+1<=t
 .rw[T9 cl]
  exact aI<|yK O G S1.kd #[0] #[0] su sv (cK _) v0 λr' st' sg hr'=>fin r' st' sg hr'
 .rw[T8 cl]
  have fs:∀x∈u.toList,∀y∈v.toList.take 1,rk y<rk x:=λx hx y hy=>by
   have e:=Z6 (a:=v) (i:=0) #[0]
   rw[ki]at e;rw[e]at hy;rw[a8.mp hy];exact v0 x hx
  exact aI<|xm O G fs S1.kd #[0] #[0] su sv (cK _) λr' st' sg hr'=>fin r' st' sg hr'
end
section
variable{In:bW->Prop}
noncomputable abbrev g2(q:Nat×Nat×Nat):Nat×Nat:=(q.1,q.2.1)
def pl(τ:bQ):List (Nat×Nat):=(bf τ).toList.map g2
def cut2{B:Type}{l:List B}{i:Nat}{x y:B}(h1:l[i]?=aa x)(h2:l[i+1]?=aa y):l=l.take i++(x::y::l.drop (i+2)):=by
 obtain⟨a,e1⟩:=aK.mp h1;obtain⟨b,e2⟩:=aK.mp h2
 conv=>lhs;rw[<-cX i l,cr a,cr b,e1,e2]
theorem WN(O:Od prog w A E s κ In rk)(ia:∀x∈a₀.toList,In x)(nd:(a₀.toList.map rk).Nodup){Q:Bool->bQ->Prop}{i b:Nat}{R3:List (Nat×Nat)}(h:Sc κ a₀ τ)(hi:i+1<(bf τ).size)(hb:b<=a₀.size)(hr:Runs rk (pl τ++R3) 0 b (ba τ).toList)
  (q:∀st',Sc κ a₀ st'->(bf st').size=(bf τ).size-1->Runs rk (pl st'++R3) 0 b (ba st').toList->Q al st'):mv #[8] A E s (mergeAt' i) Q τ:=by
 obtain⟨⟨a,na,pw⟩,h1⟩:∃x,(bf τ)[i]?=aa x:=#[_,br #[0]]
 obtain⟨⟨b1,nb,qw⟩,h2⟩:∃x,(bf τ)[i+1]?=aa x:=#[_,br hi];have e:=cut2 (l:=(bf τ).toList) (by rw[bz];exact h1) (by rw[bz];exact h2)
 generalize hA:(bf τ).toList.take i=RA at e;generalize hC:(bf τ).toList.drop (i+2)=RC at e;have lA:RA.length=i:=by rw[<-hA,b9,aN];lia
 unfold pl at hr;rw[e,bL,bI]at hr;obtain⟨c,r1,r2⟩:=Runs.app.mp hr;obtain⟨z1,n1,s1,z2,n2,s2,r3⟩:=r2
 dsimp only[g2]at z1 n1 s1 z2 n2 s2 r3
 subst z1 z2;have hle:=r3.le;have hsz:(ba τ).toList.length=a₀.size:=by rw[aN];exact h.pm.size_eq
 generalize hl:(ba τ).toList=l at *;have el:l=l.take a++((l.drop a).take na++((l.drop<|a+na).take nb++l.drop (a+na+nb))):=by
  rw[td,td,cX]
 have lU:(l.take a).length=a:=fm #[0]
 refine y9 O ia nd h h1 h2 (hl.trans el) lU (fm<|by rw[bR];exact mi<|by lia) (fm<|by rw[bR];exact mi<|by lia) n1 n2 s1 s2 λst' M S' hp' hl' lM sM=>?_
 have hpl:(bf st').toList=RA++((a,na+nb,pw)::RC):=by
  rw[hp',Array.toList_eraseIdxIfInBounds,kn,e,List.set_append_right _ _ #[0],lA,Nat.sub_self]
  rw[List.eraseIdx_append_of_length_le #[0],lA,bS]
  rfl
 refine q st' S' ?_ ?_
 .rw[<-aN,hpl,<-aN,e]
  simp
 .have at_:∀k,(k<a\/a+na+nb<=k)->(ba st').toList[k]?=l[k]?:=λk hk=>by
   rw[hl'];rcases hk with hk|hk
   .rw[cq<|lU.symm▸hk,cA,T9 hk]
   .obtain⟨d,rfl⟩:=Nat.le.dest hk
    have e1:(l.take a++M).length=a+na+nb:=by rw[aU,lU,lM,d3]
    rw[<-bI,cg<|e1▸hk,e1,bS,eG]
  unfold pl;rw[hpl,bL,bI];refine Runs.app.mpr #[a,r1.congr λk _ hk=>at_ k<|.inl hk,rfl,by dsimp only[g2];lia,?_,?_]
  .show Srt (lr rk) (((ba st').toList.drop a).take<|na+nb)
   rw[hl',<-lM,List.drop_left' lU,kq];exact sM
  .show Runs rk _ (a+(na+nb)) b _
   rw[<-d3];exact r3.congr λk hk _=>at_ k<|.inr hk
theorem Za6{lo n:Nat}{xs:Array bW}(hn:lo+n<=xs.size)(u:Up rk xs lo n):Srt (lr rk) ((xs.toList.drop lo).take n):=by
 refine cu.mpr λi j hi hj hij=>?_
 rw[b9,bR,aN]at hi hj;have g:∀k (hk:k<((xs.toList.drop lo).take n).length),((xs.toList.drop lo).take n)[k]=xs[lo+k]'(by rw[b9,bR,aN]at hk;lia):=λk hk=>by
  rw[fF,fG,Array.getElem_toList]
 rw[g,g];have:=u (lo+i) (lo+j) #[0] #[0] #[0]
 rw[zj #[0],zj<|by lia]at this
 exact this
def QS{P:Array (Nat×Nat×Nat)}{k pw:Nat}:(P.modify k λq=>(q.1,q.2.1,pw)).toList.map g2=P.toList.map g2:=by
 refine cL λi=>?_
 rw[aJ,aJ,bz,bz,Array.getElem?_modify];split
 .cases P[i]?<;>rfl
 .rfl
theorem sort_ok(O:Od prog w A E s κ In rk)(ia:∀x∈a₀.toList,In x)(nd:(a₀.toList.map rk).Nodup){Q:Unit->bQ->Prop}(hk:kindOf τ=κ)(ha:ba τ=a₀)(hp:bf τ = #[])(hf:fQ τ=ag)(h1:1<=a₀.size)
  (q:∀st',(ba st').Perm a₀->fQ st'=ag->Srt (lr rk) (ba st').toList->Q () st'):mv #[8] A E s sortRuns' Q τ:=by
 rw[sortRuns'_eq];refine aI<|g8 ?_;rw[ha]
 dsimp only
 have S0:Sc κ a₀ τ:=#[hk,by rw[ha],hf]
 refine aI (eR (cF
  (I:=λx c st'=>∃lo,c=(ag,lo)/\x<=lo/\lo<=a₀.size/\Sc κ a₀ st'/\Runs rk (pl st') 0 lo (ba st').toList)
  (Q:=λc st'=>c=(ag,a₀.size)/\Sc κ a₀ st'/\Runs rk (pl st') 0 a₀.size (ba st').toList) ?_ ?_ #[0,rfl,aF _,dD _,S0,by unfold pl;rw[hp];rfl]) ?_)
 .rintro x c st1 _ hx ⟨lo,rfl,g1,g2',S1,R1⟩
  dsimp only
  by_cases c:lo>=a₀.size
  .rw[T9 c]
   obtain rfl:lo=a₀.size:=by lia
   exact aS #[rfl,S1,R1]
  rw[T8 c];have B1:Sb κ a₀ (bf st1) lo ((ba st1).toList.take lo) st1:=#[S1.kd,S1.pm,S1.fl,rfl,rfl];refine aI<|qJ O ia nd #[0] #[0] B1 λm st2 B2 m1 m2 u2=>?_
  dsimp only
  have done:∀n st3,1<=n->lo+n<=a₀.size->Sc κ a₀ st3->Runs rk (pl st3++[(lo,n)]) 0 (lo+n) (ba st3).toList->∃lo',((ag,lo+n):Option PUnit×Nat)=(ag,lo')/\x+1<=lo'/\lo'<=a₀.size/\Sc κ a₀ (gO st3<|(bf st3).push (lo,n,0))/\Runs rk (pl<|gO st3<|(bf st3).push (lo,n,0)) 0 lo' (ba st3).toList:=λn st3 n1 n2 S3 R3=>
   #[lo+n,rfl,by lia,n2,#[S3.kd,S3.pm,S3.fl],by
    have:pl (gO st3<|(bf st3).push (lo,n,0))=pl st3++[(lo,n)]:=by
     show pQ g2 ((bf st3).push (lo,n,0)).toList=_;rw[fH,bL];rfl
    rw[this];exact R3]
  by_cases c2:m<pD a₀.size a₀.size 0
  .rw[T9 c2]
   refine aI<|Wx<|aI<|Zdz (n:=rO (a₀.size-lo)<|pD a₀.size a₀.size 0) O ia nd #[0] m1 #[0] B2 u2 λst5 B u=>?_
   have n1:1<=rO (a₀.size-lo) (pD a₀.size a₀.size 0):=by lia
   have n2:lo+rO (a₀.size-lo) (pD a₀.size a₀.size 0)<=a₀.size:=by lia
   simp only[ip,cz,if_false];generalize rO (a₀.size-lo) (pD a₀.size a₀.size 0)=n at *;clear B2 u2;refine aI<|g8 ?_;have S5:Sc κ a₀ st5:=#[B.kd,B.pm,B.fl];have hz:(ba st5).size=a₀.size:=B.size;have R5:Runs rk (pl st5++[(lo,n)]) 0 (lo+n) (ba st5).toList:=Runs.app.mpr #[lo,by
    unfold pl at R1 ⊢;rw[B.pd];refine R1.congr λk _ hk=>?_
    have e:(mS lo _)[k]?=(mS lo _)[k]?:=congrArg (λl=>l[k]?) B.ah
    rw[cA,cA,T9 hk,T9 hk]at e;exact e,rfl,n1,Za6 #[0] u,rfl]
   cases hbk:(bf st5).back? with
   |none=>
    exact aI<|fk<|aS<|done n st5 n1 n2 S5 R5
   |some q5=>
    obtain⟨x1,x2,x3⟩:=q5
    dsimp only
    refine aI<|eR (cF (I:=λ_ c st3=>c=(ag,())/\Sc κ a₀ st3/\Runs rk (pl st3++[(lo,n)]) 0 (lo+n) (ba st3).toList) ?_ (λc st3 h=>h) #[rfl,S5,R5]) ?_
    .rintro x c st3 _ _ ⟨rfl,S3,R3⟩
     refine aI<|g8 ?_;by_cases c:(bf st3).size>1
     .rw[T9 c,br<|show(bf st3).size-2<(bf st3).size by lia]
      dsimp only
      split
      .exact aS #[rfl,S3,R3]
      .refine aI (WN O ia nd S3 #[0] n2 R3 λst4 S4 _ R4=>?_)
       simp only[ip,cz,if_false];exact aS #[rfl,S4,R4]
     .rw[T8 c]
      exact aS #[rfl,S3,R3]
    .rintro c st3 ⟨rfl,S3,R3⟩
     dsimp only
     exact aI (fk (aI (fk (aS (done n (gO st3 _) n1 n2 #[S3.kd,S3.pm,S3.fl] (by
      show Runs rk (pQ g2 (Array.modify _ _ _).toList++_) _ _ _;rw[QS];exact R3))))))
  .rw[T8 c2]
   have n2:lo+m<=a₀.size:=by lia
   refine aI<|g8 ?_;have S5:Sc κ a₀ st2:=#[B2.kd,B2.pm,B2.fl];have hz:(ba st2).size=a₀.size:=B2.size;have R5:Runs rk (pl st2++[(lo,m)]) 0 (lo+m) (ba st2).toList:=Runs.app.mpr #[lo,by
    unfold pl at R1 ⊢;rw[B2.pd];refine R1.congr λk _ hk=>?_
    have e:(mS lo _)[k]?=(mS lo _)[k]?:=congrArg (λl=>l[k]?) B2.ah
    rw[cA,cA,T9 hk,T9 hk]at e;exact e,rfl,m1,Za6 #[0] u2,rfl]
   cases hbk:(bf st2).back? with
   |none=>
    exact aI<|fk<|aS<|done m st2 m1 n2 S5 R5
   |some q5=>
    obtain⟨x1,x2,x3⟩:=q5
    dsimp only
    refine aI<|eR (cF (I:=λ_ c st3=>c=(ag,())/\Sc κ a₀ st3/\Runs rk (pl st3++[(lo,m)]) 0 (lo+m) (ba st3).toList) ?_ (λc st3 h=>h) #[rfl,S5,R5]) ?_
    .rintro x c st3 _ _ ⟨rfl,S3,R3⟩
     refine aI<|g8 ?_;by_cases c:(bf st3).size>1
     .rw[T9 c,br<|show(bf st3).size-2<(bf st3).size by lia]
      dsimp only
      split
      .exact aS #[rfl,S3,R3]
      .refine aI (WN O ia nd S3 #[0] n2 R3 λst4 S4 _ R4=>?_)
       simp only[ip,cz,if_false];exact aS #[rfl,S4,R4]
     .rw[T8 c]
      exact aS #[rfl,S3,R3]
    .rintro c st3 ⟨rfl,S3,R3⟩
     dsimp only
     exact aI (fk (aI (fk (aS (done m (gO st3 _) m1 n2 #[S3.kd,S3.pm,S3.fl] (by
      show Runs rk (pQ g2 (Array.modify _ _ _).toList++_) _ _ _;rw[QS];exact R3))))))
 .rintro c st1 ⟨lo,rfl,g1,g2',S1,R1⟩
  obtain rfl:lo=a₀.size:=by lia
  exact#[rfl,S1,R1]
 .rintro c st1 ⟨rfl,S1,R1⟩
  dsimp only
  have len1:=R1.le;refine aI (eR (cF
   (I:=λx c st2=>c=(ag,())/\Sc κ a₀ st2/\Runs rk (pl st2) 0 a₀.size (ba st2).toList/\(bf st2).size<=max 1 (a₀.size-x))
   (Q:=λc st2=>c=(ag,())/\Sc κ a₀ st2/\Runs rk (pl st2) 0 a₀.size (ba st2).toList/\(bf st2).size<=1) ?_ ?_ #[rfl,S1,R1,by unfold pl at len1;rw[ay,aN]at len1;lia]) ?_)
  .rintro x c st2 _ hx ⟨rfl,S2,R2,l2⟩
   refine aI<|g8 ?_;by_cases c:(bf st2).size<=1
   .rw[T9 c]
    exact aS #[rfl,S2,R2,c]
   rw[T8 c];generalize hj:(if(Option.any (λx=>ai<|x<((bf st2)[(bf st2).size-2+1]?).elim 0 λx=>x.2.1)<|if(bf st2).size-2>0 then Option.map (λx=>x.2.1) (bf st2)[(bf st2).size-2-1]? else ag)=al then(bf st2).size-2-1 else(bf st2).size-2)=j
   have hj1:j+1<(bf st2).size:=by
    have g:∀b:Bool,(if b=al then(bf st2).size-2-1 else(bf st2).size-2)+1<(bf st2).size:=λb=>by cases b<;>simp<;>lia
    rw[<-hj];exact g _
   refine aI<|WN (R3:=[]) O ia nd S2 hj1 (aF _) (by rw[cw];exact R2) λst3 S3 l3 R3=>?_
   rw[cw]at R3;simp only[ip,cz,if_false];exact aS #[rfl,S3,R3,by lia]
  .rintro c st2 ⟨rfl,S2,R2,l2⟩
   exact#[rfl,S2,R2,by lia]
  .rintro c st2 ⟨rfl,S2,R2,l2⟩
   dsimp only
   refine aS<|q st2 S2.pm S2.fl ?_;have hz:(ba st2).toList.length=a₀.size:=by rw[aN];exact S2.pm.size_eq
   unfold pl at R2
   match hP:(bf st2).toList,R2 with
   |[],R2=>exact T7 (show 0=a₀.size from R2) #[0]
   |[(i,n,pw)],R2=>
    obtain⟨_,_,z,e⟩:=R2;have e:0+n=a₀.size:=e;rw[ki,cQ<|by dsimp only[g2];lia]at z
    exact z
   |_::_::_,_=>rw[<-aN,hP]at l2;simp at l2
end
end Tq
namespace Sq
open PySem PySem.W PyProof.Rows
structure Ord(n:Nat)(lt:Nat->Nat->Bool):Prop where
 tot:∀i j,i<n->j<n->i≠j->lt i j=aj->lt j i=al
 asy:∀i j,i<n->j<n->lt i j=al->lt j i=aj
 tr:∀i j k,i<n->j<n->k<n->lt i j=al->lt j k=al->lt i k=al
noncomputable abbrev g(p:Array Nat)(i:Nat):Nat:=p.getD i 0
def Pm(n:Nat)(p:Array Nat):Prop:=p.Perm<|dk<|aP n
theorem Pm.size(h:Pm n p):p.size=n:=by have:=Array.Perm.size_eq h;simpa using this
def Zei(h:i<p.size):p[i]?=aa (g p i):=by simp[g,h]
def Pm.lt(h:Pm n p)(hi:i<n):g p i<n:=by
 have hs:=h.size;have h1:g p i∈p.toList:=by
  have:p.toList[i]?=aa (g p i):=by rw[bz];exact Zei #[0]
  exact cM this
 have h2:p.toList.Perm (aP n):=by simpa using bJ.mp h
 exact aV.mp<|h2.mem_iff.mp h1
def Up(lt:Nat->Nat->Bool)(p:Array Nat)(m:Nat):Prop:=∀i j,i<j->j<m->lt (g p i) (g p j)=al
theorem QV{B:Type}{p q:B->Bool}:∀{l:List B},(∀x∈l,p x=al->q x=al)->(∃x∈l,q x=al/\p x=aj)->l.countP p<l.countP q
 |[],_,#[x,hx,_]=>by cases hx
 |y::l,h,#[x,hx,h1,h2]=>by
  have hm:=List.countP_mono_left λz hz=>h z<|am _ hz
  rw[oY,oY];rcases az.mp hx with rfl|hx
  .rw[h1,h2,T9 rfl,T8 aO];lia
  .have:=QV (λz hz=>h z<|am _ hz) #[x,hx,h1,h2]
   have hy:=h y<|ak ..;cases e:p y with|false=>rw[T8 aO];lia|true=>rw[hy e,T9 rfl];lia
noncomputable def rank(n:Nat)(lt:Nat->Nat->Bool)(i:Nat):Nat:=(aP n).countP λj=>lt j i
def Ui{n:Nat}{lt:Nat->Nat->Bool}(O:Ord n lt){i j:Nat}(hi:i<n)(hj:j<n):ai (rank n lt i<rank n lt j)=lt i j:=by
 have irr:∀k,k<n->lt k k=aj:=λk hk=>by
  cases e:lt k k with|false=>rfl|true=>rw[<-e];exact O.asy k k hk hk e
 have up:=λ{a b} ha hb e=>
  QV (λx hx h=>O.tr x a b (aV.mp hx) ha hb h e) #[a,aV.mpr ha,e,irr a ha]
 cases e:lt i j with
 |true=>exact T5<|up hi hj e
 |false=>
  refine T4 λh=>?_
  by_cases z:i=j
  .subst z;exact bw _ h
  .exact Nat.lt_asymm h<|up hj hi<|O.tot i j hi hj z e
section
open Classical
noncomputable def idx(vs:List au)(v:au):Nat:=if h:∃i:Nat,vs[i]?=aa v then choose h else 0
def xC(nd:vs.Nodup)(h:vs[i]?=aa v):idx vs v=i:=by
 have hx:∃i:Nat,vs[i]?=aa v:=#[i,h];unfold idx;rw[dif_pos hx];have e:=choose_spec hx;have hl:=(aK.mp e).1;exact(kN hl nd).mp<|e.trans h.symm
end
def ZeM{vs:List au}{κ:fP}{lt:Nat->Nat->Bool}(nd:vs.Nodup)(h1:1<=vs.length)(O:Ord vs.length lt)
  (ask:∀i j,i<vs.length->j<vs.length->∀(C:Bool->aA->Prop)(E:au->aA->Prop),C (lt i j) s->aX #[8] A (keyLt' κ (vs.getD i bG)<|vs.getD j bG) C E s) :
  aX #[8] A ((sortRuns').run<|pN κ (vs.toArray.zip vs.toArray) #[] 7 ag) (λr s'=>s'=s/\∃p,Pm vs.length p/\Up lt p vs.length/\fQ r.2=ag/\(ba r.2).map (·.2)=dk (p.toList.map λi=>vs.getD i bG)) E s:=by
 have hz:(vs.toArray.zip vs.toArray).toList=vs.map λv=>(v,v):=by
  rw[ksk_zip];clear ask O h1 nd
  induction vs with|nil=>rfl|cons v l ih=>rw[dZ,ih];rfl
 let rk:bW->Nat:=λx=>rank vs.length lt<|idx vs x.1
 let In:bW->Prop:=λx=>∃i:Nat,vs[i]?=aa x.1/\x=(x.1,x.1)
 have atI:∀{x:bW},In x->idx vs x.1<vs.length/\vs.getD (idx vs x.1) bG=x.1:=λ{x} #[i,e,_]=>by
  rw[xC nd e];exact#[(aK.mp e).1,by rw[ax,e];rfl]
 have od:Tq.Od prog w A E s κ In rk:=⟨λ{x y τ Q} ix iy hk q=>by
  obtain⟨a1,a2⟩:=atI ix;obtain⟨b1,b2⟩:=atI iy;rw[lt'_eq];refine aI<|g8 ?_;rw[hk];have:=ask _ _ a1 b1 (λb s'=>s'=s/\b=lt (idx vs x.1) (idx vs y.1)) (λ_ _=>False) #[rfl,rfl]
  rw[a2,b2]at this;refine aI<|wpS_lift<|io<|dm this (λb s' h=>?_) λ_ _ h=>h.elim
  obtain⟨rfl,rfl⟩:=h;refine#[rfl,aS ?_];rw[<-Ui O a1 b1];exact q⟩
 have ia:∀x∈(vs.toArray.zip vs.toArray).toList,In x:=λx hx=>by
  rw[hz]at hx;obtain⟨v,hv,rfl⟩:=aR.mp hx;obtain⟨i,hi,e⟩:=mK.mp hv;exact#[i,by rw[af hi,e],rfl]
 have rks:(vs.toArray.zip vs.toArray).toList.map rk=(aP vs.length).map (rank vs.length lt):=by
  rw[hz,bH];refine cL λi=>?_
  rw[aJ,aJ];by_cases h:i<vs.length
  .rw[cp h,af h]
   exact congrArg (λk=>aa<|rank vs.length lt k)<|xC nd<|af h
  .rw[bM #[0],bM (by rw[bo];lia)];rfl
 have ndr:((vs.toArray.zip vs.toArray).toList.map rk).Nodup:=by
  rw[rks];refine c6.mpr<|kW ?_ lw;intro a b ha hb ne e;have ha:=aV.mp ha;have hb:=aV.mp hb;have h1:=Ui O ha hb;have h2:=Ui O hb ha;rw[e,T4<|bw _]at h1 h2;exact T7 (O.tot a b ha hb ne h1.symm) (by rw[<-h2];simp)
 have sz:(vs.toArray.zip vs.toArray).size=vs.length:=by rw[<-aN,hz,ay]
 refine Tq.sort_ok (Q:=λ_ st'=>∃p,Pm vs.length p/\Up lt p vs.length/\fQ st'=ag/\(ba st').map (·.2)=dk (p.toList.map λi=>vs.getD i bG)) od ia ndr rfl rfl rfl rfl #[0] λst' pm fl so=>?_
 have pl:=bJ.mp pm;have inS:=λx hx=>ia x<|pl.mem_iff.mp hx
 have pp:((ba st').toList.map λx=>idx vs x.1).Perm (aP vs.length):=by
  refine(pl.map _).trans<|pz ?_;rw[hz,bH];refine cL λi=>?_
  rw[aJ];by_cases h:i<vs.length
  .rw[cp h,af h]
   exact congrArg aa<|xC nd<|af h
  .rw[bM #[0],bM (by rw[bo];lia)];rfl
 have sl:(ba st').toList.length=vs.length:=by rw[pl.length_eq,hz,ay]
 refine#[dk<|(ba st').toList.map λx=>idx vs x.1,bJ.mpr pp,λi j hij hj=>?_,fl,?_]
 .have gk:∀k (hk:k<(ba st').toList.length),g (dk<|(ba st').toList.map λx=>idx vs x.1) k=idx vs ((ba st').toList[k]).1:=λk hk=>by
   show((dk<|(ba st').toList.map λx=>idx vs x.1).getD k 0)=_
   rw[Array.getD_eq_getD_getElem?,List.getElem?_toArray,aJ,af hk];rfl
  rw[gk i #[0],gk j #[0]]
  have:=cu.mp so i j #[0] #[0] hij
  rw[<-Ui O (atI<|inS _<|aY _).1 (atI<|inS _<|aY _).1];exact T5 this
 .apply lx.mp
  rw[oZ,bH];refine bP λx hx=>?_
  have hi:=inS x hx;show x.2=vs.getD (idx vs x.1) bG;rw[(atI hi).2];obtain⟨_,_,e⟩:=hi;rw[e]
open PySem.Calls
def Lat(h h':bV):Prop:=∀b o,h.get? b=aa o->h'.get? b=aa o
structure Asks(prog:bt)(w:bN)(A:bU)(h:bV)(vs:List au)(κ:fP)(lt:Nat->Nat->Bool):Prop where
 kind:2<=vs.length->∀(s':aA)(E:au->aA->Prop)(Q:fP->aA->Prop),Lat h s'.heap->Q κ s'->aX (aT prog w) A (keyKind' vs.toArray) Q E s'
 nd:vs.Nodup
 cmp:∀i j,i<vs.length->j<vs.length->∀(s':aA)(C:Bool->aA->Prop)(E:au->aA->Prop),Lat h s'.heap->C (lt i j) s'->aX (aT prog w) A (keyLt' κ (vs.getD i bG)<|vs.getD j bG) C E s'
noncomputable def ltR(b:Bool)(n:Nat)(lt:Nat->Nat->Bool):Nat->Nat->Bool:=λi j=>if b=al then lt (n-1-i) (n-1-j)else lt i j
def ZbG(O:Ord n lt):Ord n (ltR b n lt):=by
 cases b
 .exact O
 .exact#[λi j hi hj ne h=>O.tot _ _ #[0] #[0] #[0] h,λi j hi hj h=>O.asy _ _ #[0] #[0] h,λi j k hi hj hk h1 h2=>O.tr _ _ _ #[0] #[0] #[0] h1 h2]
def G0(hi:i<vs.length):(kX b vs).getD i bG=vs.getD (if b=al then vs.length-1-i else i) bG:=by
 cases b
 .rfl
 .show vs.reverse.getD i bG=vs.getD (vs.length-1-i) bG
  simp only[ax];rw[mj hi]
def uN(vs:List au):(aP vs.length).map (λi=>vs.getD i bG)=vs:=by
 apply cL
 intro i;rw[aJ];by_cases h:i<vs.length
 .rw[cp h];simp[h]
 .simp[eZ h]
def list_sort_rev{P:PySem.Fin->aA->Prop}(ho:s.heap.get? a=aa (fR "list" vs.toArray n))(h64:vs.length<=100000)
  (h00:∀b o,h0.get? b=aa o->b≠a/\s.heap.get? b=aa o)(O:Ord vs.length lt)(K:Asks prog w A h0 vs κ lt)
  (h:∀p,Pm vs.length p->Up (ltR b vs.length lt) p vs.length->P (.done<|.ret .none) {s with heap:=sortedHeap s.heap a vs (dk<|kX b<|p.toList.map λi=>(kX b vs).getD i bG)}) :
  aX #[8] A (eQ.«list.sort» #[[.ref a],[(oz "reverse",.bool b)]]) P E s:=by
 rw[kr];have ha:=aH ho;refine ae<|listItems_at ho rfl ?_;refine ae<|ng ho rfl ?_;obtain⟨e1,ho1⟩:∃e1,(s.heap.update a<|eC λ_=>#[]).get? a=aa (fR "list" #[] e1):=#[_,get?_update_seq ho λ_=>#[]]
 refine ae<|pc ho1 rfl ?_;refine ae<|wpAny_newTuple ?_;refine ae<|ni ?_;refine bT ?_;have ho6:(((s.heap.update a<|eC λ_=>#[]).push<|fR "tuple" vs.toArray 0).push<|fR "list" #[] 0).get? a=aa (fR "list" #[] e1):=by
  rw[g9 _ _ _ (by rw[pR,ly];exact bh<|dq ha),g9 _ _ _ (by rw[ly];exact bh ha)]
  exact ho1
 have lat:Lat h0 (((s.heap.update a<|eC λ_=>#[]).push<|fR "tuple" vs.toArray 0).push<|fR "list" #[] 0):=λb o e=>by
  obtain⟨nb,e⟩:=h00 b o e;exact av _<|av _ (by rw[mX _ _ _ _ nb];exact e)
 generalize hs':((s.heap.update a<|eC λ_=>#[]).push<|fR "tuple" vs.toArray 0).push (fR "list" #[] 0)=h1 at ho6 lat ⊢
 dsimp only
 have step:∀t:nO PySem.Fin,aX #[8] A t P E {s with heap:=h1}->aX #[8] A (if b=al then(do let _ <-nY "list.sort.reverse";t)else t) P E {s with heap:=h1}:=by
  intro t ht;split
  .exact ae<|fJ ht
  .exact ht
 refine step _ ?_;have hrl:=pE b vs;have fin:∀out:List au,out.length=vs.length->(∃p,Pm vs.length p/\Up (ltR b vs.length lt) p vs.length/\out=p.toList.map λi=>(kX b vs).getD i bG)->
   P (.done<|.ret .none) {s with heap:=h1.update a (eC λ_=>dk<|kX b out)}:=by
  rintro out _ ⟨p,h1',h2',rfl⟩
  subst hs';exact h p h1' h2'
 by_cases h2:vs.toArray.size<2
 .rw[T9 h2,T9 h2]
  refine ae<|aB ?_;rw[StateT.run_pure];refine ae<|aB ?_
  dsimp only
  have hz:((ba<|pN general' (if b=al then(vs.toArray.zip vs.toArray).reverse else vs.toArray.zip vs.toArray) #[] 7 ag).map (·.2))=dk (kX b vs):=by
   rw[kat_pairs b rfl];apply lx.mp;rw[oZ,ksk_zip];exact List.map_snd_zip<|aF _
  rw[hz];refine ae<|pc ho6 rfl ?_;rw[kat_outs];refine ae<|ng ho6 rfl ?_ (hsz2:=by rw[aC];(try rw[pE]);(try rw[pE]);rw[dP];lia)
  simp only[bne_self_eq_false,cz,if_false];refine aB<|fin (kX b vs) (pE b vs) #[dk<|aP vs.length,Array.Perm.refl _,λi j a1 a2=>by rw[aC]at h2;lia,?_]
  rw[<-hrl];exact(uN _).symm
 .rw[T8 h2,T8 h2]
  have l2:2<=vs.length:=by rw[aC]at h2;lia
  refine ae<|K.kind l2 _ _ _ lat ?_;rw[kat_pairs b rfl];have ndR:(kX b vs).Nodup:=by
   cases b
   .exact K.nd
   .exact(d8 vs).nodup_iff.mpr K.nd
  refine ae (dm (ZeM ndR #[0] (by rw[hrl];exact ZbG (b:=b) O) (by
    rw[hrl];intro i j hi hj C E hC;rw[G0 hi,G0 hj];cases b
    .exact K.cmp i j hi hj _ _ _ lat hC
    .exact K.cmp _ _ (by simp only[if_true];lia) (by simp only[if_true];lia) _ _ _ lat hC)) ?_ λ_ _ x=>x)
  rintro ⟨⟨⟩,st'⟩ s' ⟨rfl,p,e2,e3,hf,har⟩
  rw[hrl]at e2 e3
  dsimp only
  rw[har];have hl:(p.toList.map λi=>(kX b vs).getD i bG).length=vs.length:=by rw[ay,aN,e2.size]
  refine ae<|pc ho6 rfl ?_;rw[kat_outs];refine ae<|ng ho6 rfl ?_ (hsz2:=by rw[aC];(try rw[pE]);rw[hl,dP];lia)
  rw[hf];simp only[bne_self_eq_false,cz,if_false];exact aB<|fin _ hl #[p,e2,e3,rfl]
def yW{l:aD}{vs:List au}{b:Bool}{κ:fP}{lt:Nat->Nat->Bool}{Q:au->aA->Prop}(hl:s.heap.IsList l vs.toArray)(h64:vs.length<=100000)(O:Ord vs.length lt)(K:Asks prog w A.in1.in1 s.heap vs κ lt)
  (h:∀p,Pm vs.length p->Up (ltR b vs.length lt) p vs.length->Q (.ref<|s.heap.objs.size+1) {s with heap:=sortedAll s.heap vs (dk<|kX b<|p.toList.map λi=>(kX b vs).getD i bG)}) :
  aX #[8] A (call (.builtin "sorted") [.ref l] [(oz "reverse",.bool b)]) Q E s:=by
 refine call_function_entry_kw kind_sorted plain_sorted entry_sorted (args_sorted_rev _ _) ?_;unfold eQ.«sorted»;refine ae (m:=checkCount "sorted" 1 1 _)<|aB ?_;refine ae<|collect_list hl ?_;refine ae<|ni ?_;have hsz:((s.heap.push<|fR "list" #[] 0).update s.heap.objs.size (eC (·++vs.toArray))).objs.size=s.heap.objs.size+1:=by
  rw[ly,pR]
 have hoL:(((s.heap.push<|fR "list" #[] 0).update s.heap.objs.size (eC (·++vs.toArray))).push<|fR "list" vs.toArray 0).get? (s.heap.objs.size+1)=aa (fR "list" vs.toArray 0):=by
  rw[<-hsz];exact aM _ rfl
 show aX _ _ _ _ _ {s with heap:=((s.heap.push<|fR "list" #[] 0).update s.heap.objs.size (eC (·++vs.toArray))).push (fR "list" vs.toArray 0)}
 rw[hsz];refine ae<|bT<|wpAny_call_entry_kw slot_list_sort #[_,hoL,rfl] entry_list_sort (list_sort_rev (h0:=s.heap) hoL h64 (λb o e=>?_) O K  λp a1 a2=>#[_,rfl,?_])<|args_list_sort_rev _ _
 .have hlt:b<s.heap.objs.size:=aH e
  refine#[bh<|dq hlt,?_];rw[g9 _ _ _ (by rw[hsz];exact bh<|dq hlt),mX _ _ _ _<|bh hlt,g9 _ _ _<|bh hlt]
  exact e
 .exact aB #[_,rfl,h p a1 a2]
def uC(a:aD):eQ.«list.sort» #[[.ref a],[]]=eQ.«list.sort» #[[.ref a],[(oz "reverse",.bool aj)]]:=by
 rw[PyProof.Rows.list_sort_plain,kr];rfl
end Sq
namespace Sd
open PySem PySem.Spec PyProof.Rows L2
open Ev (E Sm Fn Bop Cop Ty Bf Mf)
section
variable{X:Cx}{pq:List (aD×eW)}{O:L2.St}{H:Hp}{s:aA}{A:bU}{E:au->aA->Prop}{b:Bool}{Q:au->aA->Prop}
def xO(I:Inv X pq O H s)(rx:Zy x u)(ty:TyOf X.K H x t)(htp:s.heap.get? tp=aa #[.type "tuple",dd,.seq its.toArray n,sl])
  (e:fS X.K t its=aa b)(h:∀tk,Q (.bool b) {s with toks:=tk}):aX #[9] A (call (.builtin "isinstance") [u,.ref tp]) Q E s:=by
 cases ty with
 |non=>cases(rx);exact dQ nZ I.kIn dJ htp e #[19] h
 |bl y=>cases(rx);exact dQ n4 I.kIn dJ htp e #[19] h
 |int i=>obtain⟨t,q⟩:=(rx);cases q;exact dQ oG I.kIn dJ htp e #[19] h
 |str y=>obtain⟨t,q⟩:=(rx);cases q;exact dQ oH I.kIn dJ htp e #[19] h
 |@lst a xs ea=>
  cases(rx);obtain⟨_,_,n,_,h1⟩:=(I.hok a _ ea)
  exact dQ gT I.kIn #[_,h1,rfl] htp e #[19] h
 |@frz a ob xs ea=>
  cases(rx);obtain⟨_,_,_,n,_,h1⟩:=(I.hok a _ ea)
  exact dQ gT I.kIn #[_,h1,rfl] htp e #[19] h
 |@tup a xs ea=>
  cases(rx);obtain⟨_,_,_,p⟩:=(I.hok a _ ea)
  obtain⟨o,h1,h2,_⟩:=p;exact dQ nz I.kIn #[o,h1,h2] htp e #[19] h
 |@dK a kvs ea=>
  cases(rx);obtain⟨_,_,vs,_,p⟩:=(I.hok a _ ea)
  obtain⟨o,es,ep,h1,h2,_⟩:=p;exact dQ gU I.kIn #[o,h1,h2.1] htp e #[19] h
 |@dT a kvs ea=>
  cases(rx);obtain⟨_,_,xs,_,o,es,ep,h1,h2,_⟩:=(I.hok a _ ea)
  exact dQ gU I.kIn #[o,h1,h2.1] htp e #[19] h
end
section
variable{X:Cx}{xw:Nat->Hp->Prop}{C:Calls}{e a b c:Expr}{i j k:E}{pos p p' p2 p3:fD}
def vK(T U:String):ZJ X (.builtin "isinstance") (λvs H Q=>∃v tv n q,vs=[v,.ref q]/\H q=aa (.tup [.ty T,.ty U])/\TyOf X.K H v tv/\fS X.K tv [.type T,.type U]=aa n/\Q (.bl n) H):=by
 intro pq s O H vs us Q I r h;obtain⟨v,tv,n,q,rfl,hq,ty,e,qq⟩:=h;obtain⟨u,w',rfl,r1,r2⟩:=zI r;cases r2;obtain⟨its,rv,⟨o,ho,hc,m,hd⟩,_⟩:=I.tuple<|SqT.of hq;obtain⟨cls,dd,data,sl⟩:=o;simp only at hc hd;subst hc hd;obtain⟨z1,z2,rfl,q1,q2⟩:=zI rv;cases q1;cases q2;exact xO I r1 ty ho e λtk=>#[.bl n,H,I.tok tk,rfl,qq]
def TyOf.later{K:ao}{H:Hp}{v:V}{tv:au}{q:aD}{o:HO}(h:TyOf K H v tv)(hq:H q=ag):TyOf K (upd H q o) v tv:=by
 cases h with|non=>exact .non|bl b=>exact .bl b|int b=>exact .int b|str b=>exact .str b|lst e=>exact .lst (by rw[Zi<|ZR e hq];exact e)|frz e=>exact .frz (by rw[Zi<|ZR e hq];exact e)|tup e=>exact .tup (by rw[Zi<|ZR e hq];exact e)|dK e=>exact .dK (by rw[Zi<|ZR e hq];exact e)|dT e=>exact .dT (by rw[Zi<|ZR e hq];exact e)
def TyOf.uniq{K:ao}{H:Hp}{v:V}{t1 t2:au}(h1:TyOf K H v t1)(h2:TyOf K H v t2):t1=t2:=by
 cases h1<;>cases h2<;>first|rfl|simp_all
theorem Zdd{T U:bn}{t u:Ty}{k0:Nat}{p4:fD}(ht:∀m,t≠.cls m)(hu:∀m,u≠.cls m)(hm:X.mg "isinstance" = ag)(hmT:X.mg T=ag)(hmU:X.mg U=ag)(ha:CE X xw C a i)(hg:Gl X "isinstance")(hgT:Gl X T)(hgU:Gl X U)(hvT:db T=aa (.type<|ZS t))(hvU:db U=aa (.type<|ZS u))(hnT:T≠"__name__")(hdT:(T == #[11])=aj)(hnU:U≠"__name__")(hdU:(U == #[11])=aj)
  (hs0:aE [.Name T p2,.Name U p3] X.env=(aj,cD (.Name T p2) X.env)::aE [.Name U p3] X.env)(hs00:aE [.Name U p3] X.env=(aj,cD (.Name U p3) X.env)::aE [] X.env)
  (hs1:aE [a,.Tuple [.Name T p2,.Name U p3] k0 p4] X.env=(aj,cD a X.env)::aE [.Tuple [.Name T p2,.Name U p3] k0 p4] X.env)(hs2:aE [.Tuple [.Name T p2,.Name U p3] k0 p4] X.env=(aj,cD (.Tuple [.Name T p2,.Name U p3] k0 p4) X.env)::aE [] X.env)(hpl:(dG pos<|aE [.Tuple [.Name T p2,.Name U p3] k0 p4] X.env).any (·.1)=aj) :
  CE X xw C (.Call (.Name "isinstance" p) [a,.Tuple [.Name T p2,.Name U p3] k0 p4] [] pos) (.isi i [t,u]):=.mk <|
 PE.imp (Xt (vK (ZS t)<|ZS u) hg hm #[7] (ZB ha.h (ZB (jI<|ZB (Uj (v:=.ty<|ZS t) hgT hmT hvT rfl hnT hdT) (ZB (Uj (v:=.ty<|ZS u) hgU hmU hvU rfl hnU hdU) Yq hs00) hs0) Yq hs2) hs1) #[1] #[1] hs1 hpl)<|by
  left;refine#[Z,l,S,st,lr,End.bind (h) λx S1 ρ1 H1 v f1 st1 r1 h1=>#[by show 2<=aW;rw[dP];lia,λq hq=>?_]]
  obtain⟨n,hn,h2⟩:=End.ob h1;have st2:=st1.fresh (o:=.tup [.ty<|ZS t,.ty<|ZS u]) hq;have f2:=Zp (Z:=ρ1) (o:=.tup [.ty<|ZS t,.ty<|ZS u]) hq;have fin:=λtv ty e=>(#[v,tv,n,q,rfl,Zj,TyOf.later ty hq,e,h2 ρ1 _ _ f2 st2<|Yj n]:∃v' tv n q',[v,V.ref q]=[v',.ref q']/\upd H1 q (.tup [.ty<|ZS t,.ty<|ZS u]) q'=aa (.tup [.ty<|ZS t,.ty<|ZS u])/\TyOf X.K (upd H1 q<|.tup [.ty<|ZS t,.ty<|ZS u]) v' tv/\fS X.K tv [.type<|ZS t,.type<|ZS u]=aa n/\Q (.bl n) (upd H1 q<|.tup [.ty<|ZS t,.ty<|ZS u]))
  unfold Pv.Z7 at hn;cases q1:Pv.YH x t with
  |none=>rw[q1]at hn;cases hn
  |some m=>
   rw[q1]at hn;obtain⟨tv,ty,e⟩:=yO r1 ht q1;cases m with
   |true=>
    have hn':=(aq hn).symm;exact fin tv ty (by unfold fS;rw[e,hn'])
   |false=>
    have hn1:(match Pv.YH x u with
     |some al=>aa al
     |some aj=>Pv.Z7 x []
     |none=>ag)=aa n:=hn
    cases q2:Pv.YH x u with
    |none=>rw[q2]at hn1;cases hn1
    |some m2=>
     rw[q2]at hn1;obtain⟨tv2,ty2,e2⟩:=yO r1 hu q2;have et:=TyOf.uniq ty2 ty;subst et;refine fin tv2 ty ?_;unfold fS;rw[e];unfold fS;rw[e2];cases m2 with|true=>exact hn1|false=>exact hn1
end
end Sd
namespace Sd
open Ev (ltI Yw Zm)
theorem JZ:∀{x y:List Int},x≠y->ltI x y=aj->ltI y x=al
 |[],[],h,_=>T7 rfl h
 |[],_::_,_,h=>by cases h
 |_::_,[],_,_=>rfl
 |a::x,b::y,h,e=>by
  unfold ltI at e ⊢;by_cases c:a=b
  .subst c
   rw[T9 rfl]at e ⊢;exact JZ (λz=>h<|by rw[z]) e
  .rw[T8 c]at e
   rw[T8<|Ne.symm c];have:=of_decide_eq_false e;exact T5 #[3]
theorem Uf:∀{x y:List Int},ltI x y=al->ltI y x=aj
 |[],[],h=>by cases h
 |[],_::_,_=>rfl
 |_::_,[],h=>by cases h
 |a::x,b::y,e=>by
  unfold ltI at e ⊢;by_cases c:a=b
  .subst c
   rw[T9 rfl]at e ⊢;exact Uf e
  .rw[T8 c]at e
   rw[T8<|Ne.symm c];have:=T6 e;exact T4 #[3]
theorem yY:∀{x y z:List Int},ltI x y=al->ltI y z=al->ltI x z=al
 |[],[],_,h,_=>by cases h
 |_::_,[],_,h,_=>by cases h
 |_,_::_,[],_,h=>by cases h
 |[],_::_,_::_,_,_=>rfl
 |a::x,b::y,c::z,e,f=>by
  unfold ltI at e f ⊢;by_cases h1:a=b
  .subst h1
   rw[T9 rfl]at e;by_cases h2:a=c
   .subst h2
    rw[T9 rfl]at f ⊢;exact yY e f
   .rw[T8 h2]at f ⊢;exact f
  .rw[T8 h1]at e
   have e':=T6 e;by_cases h2:b=c
   .subst h2
    rw[T8 h1];exact e
   .rw[T8 h2]at f
    have f':=T6 f;rw[T8 #[3]]
    exact T5 #[3]
theorem VE(x:List Int):∀l:List #[14],(Yw x l).Perm (x::l)
 |[]=>cK _
 |y::r=>by
  unfold Yw;split
  .exact cK _
  .exact((VE x r).cons y).trans<|ku x y r
theorem Y6:∀l:List #[14],(Zm l).Perm l
 |[]=>cK _
 |x::r=>(VE x<|Zm r).trans<|(Y6 r).cons x
theorem VX(x:List Int):∀{l:List #[14]},(∀y∈l,x≠y)->l.Pairwise (λa b=>ltI a b=al)->(Yw x l).Pairwise (λa b=>ltI a b=al)
 |[],_,_=>by exact lz ..
 |y::r,hn,h=>by
  rw[bj]at h;unfold Yw;split
  .rename_i c
   rw[bj,bj];refine#[λz hz=>?_,h]
   rcases az.mp hz with rfl|hz
   .exact c
   .exact yY c<|h.1 z hz
  .rename_i c
   rw[bj];refine#[λz hz=>?_,VX x (λy hy=>hn y<|am _ hy) h.2]
   rcases az.mp ((VE x r).mem_iff.mp hz)with rfl|hz
   .exact JZ (hn y<|ak ..) (by simpa using c)
   .exact h.1 z hz
theorem XF:∀{l:List #[14]},l.Nodup->(Zm l).Pairwise (λa b=>ltI a b=al)
 |[],_=>kH
 |x::r,h=>by
  rw[da]at h;exact VX x (λy hy e=>h.1<|by rw[e];exact(Y6 r).mem_iff.mp hy)<|XF h.2
theorem XW:∀{a b:List #[14]},a.Perm b->a.Pairwise (λx y=>ltI x y=al)->b.Pairwise (λx y=>ltI x y=al)->a=b
 |[],b,p,_,_=>(List.Perm.nil_eq p)
 |x::a,[],p,_,_=>by have:=p.length_eq;simp at this
 |x::a,y::b,p,ha,hb=>by
  rw[bj]at ha hb;have e:x=y:=by
   rcases az.mp (p.mem_iff.mp<|ak ..)with h|h
   .exact h
   .rcases az.mp (p.mem_iff.mpr (ak))with h2|h2
    .exact h2.symm
    .have z1:=hb.1 x h
     have z2:=ha.1 y h2;rw[Uf z1]at z2;cases z2
  subst e;rw[XW (List.perm_cons x |>.mp p) ha.2 hb.2]
open PySem PySem.Spec PyProof.Rows L2
open Ev (E Sm Fn Bop Cop Ty Bf Mf Z5 QB Wa ltP YS)
noncomputable def xk(fin:Bool):List Int->List Int->Bool
 |[],_=>fin
 |_::_,[]=>fin
 |a::x,b::y=>if a=b then xk fin x y else ai (a<b)
theorem vf:∀(x y:List Int),xk (ai<|x.length<y.length) x y=ltI x y
 |[],[]=>rfl
 |[],_::_=>by unfold xk ltI;simp
 |_::_,[]=>by unfold xk ltI;simp
 |a::x,b::y=>by
  unfold xk ltI;have:ai ((a::x).length<(b::y).length)=ai (x.length<y.length):=by simp
  rw[this,vf x y]
theorem yf{C:Bool->aA->Prop}:∀{x y:List Int}{u v:List au}{i:Nat},Vals (x.map V.int) u->Vals (y.map V.int) v->C (xk fin x y) s->PySem.W.KatLex prog w A b fin C (u.zip v) i s
 |[],_,_,_,_,.nil,_,h=>by rw[List.zip_nil_left];exact pA h
 |_::_,[],_,_,_,_,.nil,h=>by rw[List.zip_nil_right];exact pA h
 |a::x,c::y,_,_,i,.cons ra ta,.cons rb tb,h=>by
  obtain⟨t,rfl⟩:=ra;obtain⟨t',rfl⟩:=rb;rw[dZ];refine PySem.W.kat_cons<|wpAny_eqBool_int ?_;unfold xk at h;by_cases e:a=c
  .rw[T9 e]at h
   rw[beq_iff_eq.mpr e];exact PySem.W.kat_yes<|yf ta tb h
  .rw[T8 e]at h
   rw[beq_eq_false_iff_ne.mpr e];refine PySem.W.kat_no ?_;cases q:(b&&i == 0)with|true=>exact oneLt_int h|false=>exact PySem.W.kat_one _ _<|lt_int h
inductive RowsAt(h:bV):List (List Int)->List au->Prop where
 |nil:RowsAt h [] []
 |cons {r:List Int} {rs:List (List Int)} {vs:List au} {a:aD} {o:eW} {us:List au} {m:Nat} (ho:h.get? a=aa o) (hc:o.cls=.type "tuple") (hd:o.data=.seq us.toArray m) (hv:Vals (r.map V.int) us) (t:RowsAt h rs vs):RowsAt h (r::rs) (.ref a::vs)
theorem Qb:∀{ks:List D}{k:List Int},Pv.intsV ks=aa k->ks=k.map Pv.V.int
 |[],k,h=>by cases h;rfl
 |d::ks,k,h=>by
  obtain⟨n,r,rfl,e,rfl⟩:=Vm h;rw[Qb e];rfl
def vQ(h:Pv.Y2 (d::ds)=aa rs):∃a b,d=Pv.Zb a/\Pv.Y2 ds=aa b/\rs=a::b:=by
 cases d with
 |tup x=>
  have h:(match Pv.intsV x,Pv.Y2 ds with
   |some a,aa b=>aa (a::b)
   |_,_=>ag)=aa rs:=h
  cases q1:Pv.intsV x with
  |none=>rw[q1]at h;cases h
  |some a=>
   cases q2:Pv.Y2 ds with
   |none=>rw[q1,q2]at h;cases h
   |some b=>
    rw[q1,q2]at h;exact#[a,b,congrArg Pv.V.tup<|Qb q1,rfl,(aq h).symm]
 |_=>exact Ev.nos h
theorem Rq.intsV:∀{r:List Int}{xs:List V},Rq Z H (r.map Pv.V.int) xs->xs=r.map V.int
 |[],xs,h=>by exact h
 |n::r,xs,h=>by
  have h':=h;obtain⟨v,vs,rfl,a,b⟩:=h';rw[a.int',Rq.intsV b];rfl
theorem JR(I:Inv X pq O H s):∀{ds:List D}{rs:List #[14]}{xs:List V}{its:List au},Pv.Y2 ds=aa rs->Rq Z H ds xs->Vals xs its->RowsAt s.heap rs its/\ds=rs.map Pv.Zb
 |[],rs,xs,its,h,r,v=>by
  subst r;cases v;cases h;exact#[.nil,rfl]
 |d::ds,rs,xs,its,h,r,v=>by
  obtain⟨x,xs',rfl,r1,r2⟩:=r;cases v with
  |cons v1 v2=>
   obtain⟨a,b,rfl,q2,rfl⟩:=vQ h;obtain⟨t,e⟩:=JR I q2 r2 v2;obtain⟨p,ys,rfl,hp,ry⟩:=r1.tup';have ey:=Rq.intsV ry;subst ey;cases v1;obtain⟨us,rv,⟨o,ho,hc,m,hd⟩,_⟩:=I.tuple<|SqT.of hp;exact#[.cons ho hc hd rv t,by rw[e];rfl]
theorem RowsAt.length{h:bV}:∀{rs:List #[14]}{vs:List au},RowsAt h rs vs->rs.length=vs.length
 |_,_,.nil=>rfl
 |_,_,.cons _ _ _ _ t=>by rw[aQ,aQ,RowsAt.length t]
theorem RowsAt.at{h:bV}:∀{rs:List #[14]}{vs:List au}(i:Nat),RowsAt h rs vs->i<vs.length->∃a o us m,vs.getD i bG=.ref a/\h.get? a=aa o/\o.data=.seq us.toArray m/\Vals ((rs.getD i []).map V.int) us
 |_,_,_,.nil,hi=>by simp at hi
 |_,_,0,.cons ho hc hd hv t,_=>#[_,_,_,_,rfl,ho,hd,hv]
 |_,_,i+1,.cons ho hc hd hv t,hi=>by
  obtain⟨a,o,us,m,e1,e2,e3,e4⟩:=RowsAt.at i t (by simpa using hi)
  exact#[a,o,us,m,by simpa using e1,e2,e3,by simpa using e4]
theorem RowsAt.tups(k:Sq.Lat h h'):∀{rs:List #[14]}{vs:List au},RowsAt h rs vs->(∀r∈rs,r≠[])->∃fs,PySem.W.KatTups h' vs fs/\fs.length=vs.length/\∀v∈fs,∃n t,v=mM n t
 |_,_,.nil,_=>#[[],.nil,rfl,λv hv=>by cases hv]
 |_,_,.cons (r:=r) ho hc hd hv t,hn=>by
  obtain⟨fs,t1,t2,t3⟩:=RowsAt.tups k t λr hr=>hn r<|am _ hr
  have hr:=hn r<|ak ..;cases r with
  |nil=>exact T7 rfl hr
  |cons n r=>
   obtain⟨u,g,rel⟩:=hv.get (i:=0) rfl;refine#[u::fs,.cons (k _ _ ho) hc hd (by simpa using g) t1,by rw[aQ,aQ,t2],λv hv=>?_]
   rcases az.mp hv with rfl|hv
   .obtain⟨tk,e⟩:=rel
    exact#[n,tk,e]
   .exact t3 v hv
theorem yo:∀{x y:List Int}{us:List au},Vals (x.map V.int) us->Vals (y.map V.int) us->x=y
 |[],[],_,_,_=>rfl
 |[],_::_,_,.nil,h=>by cases h
 |_::_,[],_,h,.nil=>by cases h
 |a::x,b::y,_,.cons r t,.cons r' t'=>by
  obtain⟨k,rfl⟩:=r;obtain⟨k',e⟩:=r';cases e;rw[yo t t']
def qB{B:Type}{df:B}{rs:List B}{vs:List au}(hl:rs.length=vs.length)(nd:rs.Nodup)(h:∀i j,i<vs.length->j<vs.length->vs.getD i bG=vs.getD j bG->rs.getD i df=rs.getD j df):vs.Nodup:=by
 refine cu.mpr λi j hi hj hij e=>?_
 have:=h i j hi hj (by simp[hi,hj,e])
 simp only[ax,af (show i<rs.length by lia),af (show j<rs.length by lia)]at this
 exact cu.mp nd i j #[0] #[0] hij this
def Q2{prog:bt}{w:bN}{A:bU}{h:bV}{rs:List #[14]}{vs:List au}(R:RowsAt h rs vs)(nd:rs.Nodup)(hn:∀r∈rs,r≠[]):Sq.Asks prog w A h vs (tuples' al) (λi j=>ltI (rs.getD i [])<|rs.getD j []):=by
 refine#[λh2 s' E Q k q=>?_,qB (df:=[]) R.length nd λi j hi hj e=>?_,λi j hi hj s' C E k q=>?_]
 .obtain⟨fs,t1,t2,t3⟩:=R.tups k hn
  exact PySem.W.kat_kind (T:=.type "int") t1 #[0] (λv hv=>by obtain⟨n,t,rfl⟩:=t3 v hv;exact PySem.W.Looks.of_pure rfl) rfl q
 .obtain⟨a,o,us,m,e1,e2,e3,e4⟩:=R.at i hi
  obtain⟨a',o',us',m',f1,f2,f3,f4⟩:=R.at j hj;rw[e1,f1]at e;cases e;rw[e2]at f2;cases f2;rw[e3]at f3;cases f3;exact yo e4 f4
 .obtain⟨a,o,us,m,e1,e2,e3,e4⟩:=R.at i hi
  obtain⟨a',o',us',m',f1,f2,f3,f4⟩:=R.at j hj;rw[e1,f1];refine PySem.W.kat_lt (k _ _ e2) e3 (k _ _ f2) f3<|yf e4 f4 ?_;have l1:us.toArray.size=(rs.getD i []).length:=by rw[aC,<-e4.length,ay]
  have l2:us'.toArray.size=(rs.getD j []).length:=by rw[aC,<-f4.length,ay]
  rw[l1,l2,vf];exact q
def yc{rs:List #[14]}{n:Nat}(hn:rs.Nodup)(hl:rs.length=n):Sq.Ord n (λi j=>ltI (rs.getD i [])<|rs.getD j []):=by
 have hd:∀i j,i<n->j<n->i≠j->rs.getD i []≠rs.getD j []:=λi j hi hj ne e=>by
  simp only[ax]at e;have hi':i<rs.length:=by lia
  have hj':j<rs.length:=by lia
  refine ne<|(kN hi' hn).mp ?_;rw[af hi',af hj']at e ⊢;exact congrArg aa e
 exact#[λi j hi hj ne e=>JZ (hd i j hi hj ne) e,λi j _ _ e=>Uf e,λi j k _ _ _ e f=>yY e f]
def Qh{B β:Type}(b:Bool)(f:B->β)(l:List B):bE b (l.map f)=(bE b l).map f:=by
 cases b
 .rfl
 .exact o0.symm
def ze{B:Type}(b:Bool)(l:List B):(bE b l).Perm l:=by
 cases b
 .exact cK _
 .exact d8 l
def VT{B:Type}{d:B}{b:Bool}{vs:List B}{i:Nat}(hi:i<vs.length):(bE b vs).getD i d=vs.getD (if b=al then vs.length-1-i else i) d:=by
 cases b
 .rfl
 .show vs.reverse.getD i d=vs.getD (vs.length-1-i) d
  simp only[ax];rw[mj hi]
def zD{rs:List #[14]}{b:Bool}{p:Array Nat}(hn:rs.Nodup)(h1:Sq.Pm rs.length p)(h2:Sq.Up (Sq.ltR b rs.length λi j=>ltI (rs.getD i [])<|rs.getD j []) p rs.length) :
  (p.toList.map λi=>(bE b rs).getD i [])=Zm rs:=by
 have hp:p.toList.Perm (aP rs.length):=by simpa using bJ.mp h1
 have hl:p.toList.length=rs.length:=by rw[hp.length_eq,bo]
 refine XW ?_ ?_<|XF hn
 .refine((hp.map _).trans ?_).trans (Y6 rs).symm
  have e:(aP rs.length).map (λi=>(bE b rs).getD i [])=bE b rs:=by
   apply cL
   intro i;rw[aJ];by_cases h:i<rs.length
   .have:i<(bE b rs).length:=by rw[gI];exact h
    rw[cp h];simp[this]
   .have:(bE b rs).length<=i:=by rw[gI];lia
    simp[eZ h,this]
  rw[e];exact ze b rs
 .rw[c6,cu]
  intro i j hi hj hij;have g1:p.toList[i]=Sq.g p i:=by
   have:=Sq.Zei (by simpa using hi)
   rw[<-bz,af hi]at this;exact aq this
  have g2:p.toList[j]=Sq.g p j:=by
   have:=Sq.Zei (by simpa using hj)
   rw[<-bz,af hj]at this;exact aq this
  rw[g1,g2,VT (h1.lt #[0]),VT<|h1.lt #[0]]
  have:=h2 i j hij #[0]
  cases b
  .exact this
  .exact this
def G4{F:List Nat}{xs:List V}{rs:List #[14]}(h:Rq Z H (rs.map Pv.Zb) xs)(hF:∀i∈F,i<rs.length):Rq Z H ((F.map λi=>rs.getD i []).map Pv.Zb) (F.map λi=>xs.getD i V.non):=by
 induction F with
 |nil=>exact Rq.nil
 |cons i F ih=>
  refine Rq.cons ?_<|ih λj hj=>hF j<|am _ hj
  have hi:=hF i<|ak ..;obtain⟨v,g,r⟩:=h.get (by rw[aJ,af hi];rfl)
  show Rep Z H (Pv.Zb<|rs.getD i []) (xs.getD i V.non);rw[ax,ax,g,af hi];exact r
def GZ{F:List Nat}{xs:List V}{us:List au}(h:Vals xs us)(hF:∀i∈F,i<xs.length):Vals (F.map λi=>xs.getD i V.non) (F.map λi=>us.getD i bG):=by
 induction F with
 |nil=>exact .nil
 |cons i F ih=>
  refine .cons ?_<|ih λj hj=>hF j<|am _ hj
  have hi:=hF i<|ak ..;obtain⟨u,g,r⟩:=h.get<|af hi;show Zy (xs.getD i V.non) (us.getD i bG);rw[ax,ax,g,af hi];exact r
def zm(h:Rq Z H ds xs):Rq Z H (bE b ds) (bE b xs):=by
 cases b
 .exact h
 .exact h.reverse
def zg :∀{xs:List V}{us:List au},Vals xs us->Vals (bE b xs) (bE b us):=by
 cases b
 .exact λh=>h
 .have snoc:∀{xs:List V}{us:List au}{x:V}{u:au},Vals xs us->Zy x u->Vals (xs++[x]) (us++[u]):=by
   intro xs us x u h r
   induction h with|nil=>exact .cons r .nil|cons a _ ih=>exact .cons a ih
  intro xs us h;show Vals xs.reverse us.reverse
  induction h with|nil=>exact .nil|cons r t ih=>rw[eP,eP];exact snoc ih r
def ZdM(b:Bool):List V->Hp->VK->Prop:=λvs H Q=>∃Z ds rws v,vs=[v]/\Rep Z H (.lst ds) v/\Pv.Y2 ds=aa rws/\Z5 rws=al/\∀ys,Rq Z H ((if b then(Zm rws).reverse else Zm rws).map Pv.Zb) ys->∀p,H p=ag->Q (.ref p) (upd H p<|.lst ys)
def uO{pq:List (aD×eW)}{s:aA}{O:L2.St}{H:Hp}{vs:List V}{us:List au}{Q:VK}{b:Bool}(I:Inv X pq O H s)(r:Vals vs us)(h:ZdM b vs H Q) :
  ∃(l:aD)(its:List au)(rs:List #[14]),us=[.ref l]/\s.heap.IsList l its.toArray/\its.length<=100000/\rs.length=its.length/\Sq.Ord its.length (λi j=>ltI (rs.getD i [])<|rs.getD j [])/\(∀A,Sq.Asks X.prog X.w A s.heap its (tuples' al) λi j=>ltI (rs.getD i [])<|rs.getD j [])/\
   ∀p,Sq.Pm its.length p->Sq.Up (Sq.ltR b its.length λi j=>ltI (rs.getD i [])<|rs.getD j []) p its.length->
    EP X pq O Q (.ref<|s.heap.objs.size+1) {s with heap:=sortedAll s.heap its (dk<|bE b<|p.toList.map λi=>(bE b its).getD i bG)}:=by
 obtain⟨Z,ds,rws,v,rfl,r1,hrw,hok,h3⟩:=h;obtain⟨l,xs,rfl,hx,_,rx⟩:=r1.lst';obtain⟨u,rfl,ru⟩:=Wc r;cases ru;obtain⟨its,rv,pl,hz⟩:=I.list<|SqL.of hx;obtain⟨RA,ed⟩:=JR I hrw rx rv;obtain⟨hok1,hok3⟩:=(aG _ _).mp hok;obtain⟨hok1,hok2⟩:=(aG _ _).mp hok1;have h64:=T6 hok1;have hnd:=T6 hok2;have hne:∀r∈rws,r≠[]:=λr hr e=>by
  have:=bp.mp hok3 r hr;rw[e]at this;cases this
 have hlen:=RA.length;refine#[l,its,rws,rfl,pl.isList,by lia,hlen,yc hnd hlen,λA=>Q2 RA hnd hne,λp hp hu=>?_]
 rw[<-hlen]at hp hu;have out:=zD hnd hp hu;have hmem:∀i∈p.toList,i<rws.length:=λi hi=>by
  have hp':p.toList.Perm (aP rws.length):=by simpa using bJ.mp hp
  exact aV.mp<|hp'.mem_iff.mp hi
 subst ed;have xl:xs.length=rws.length:=by rw[rx.length,ay]
 have rx1:Rq Z H ((bE b rws).map Pv.Zb) (bE b xs):=by rw[<-Qh];exact zm rx
 have rx2:=G4 rx1 (by rw[gI];exact hmem)
 rw[out]at rx2;have rx3:=zm (b:=b) rx2;have rv2:=zg (b:=b)<|GZ (zg (b:=b) rv) (by rw[gI,xl];exact hmem)
 have eb:(if b=al then(Zm rws).reverse else Zm rws)=bE b (Zm rws):=rfl
 rw[eb,<-Qh]at h3;obtain⟨ep,he⟩:=sortedAll_at s.heap its<|dk<|bE b<|p.toList.map λi=>(bE b its).getD i bG
 refine#[.ref<|s.heap.objs.size+1,_,I.laid (t':=s.toks) (λb ob q=>sortedAll_old q) (kK _) ?_,rfl,h3 _ rx3 _<|I.hok.fresh<|kK _]
 refine#[?_,_,ep,rv2,he];rw[gI,ay,aN,hp.size,dP];lia
def yU{kp kp2:fD}{q0}(hm:X.mg "sorted" = ag)(ha:CA X xw C [e] [i])(hg:Gl X "sorted")
  (he:dG pos (aE [e] X.env)=(aj,cD e X.env)::dG pos (aE [] X.env))(hpl:(dG pos<|aE [e] X.env).any (·.1)=aj) :
  CE X xw C (.Call (.Name "sorted" p) [e] [#[aa "reverse",.Constant (.bool al) q0 kp,kp2]] pos) (.blt .sortedR [i]):=.mk <| by
 intro pq s O H Q I hq;obtain⟨Z,l,S,st,lr,h⟩:=hq;refine eB<|X1 I hg hm (show db "sorted" = aa (.builtin "sorted")from rfl) ?_ #[1] #[1]
 refine callWith_kw (thn (ha.h pos pq s O H (λvs H1=>ZdM al vs H1 Q) I ?_) λus s1 #[vs,H1,I1,r1,q1]=>?_) he hpl rfl rfl
 .refine#[Z,l,S,st,lr,End.bind (show End X.K xw Rep Z H Q ((Pv.pvs C [i] l S).bind λxs S=>Pv.po (Pv.Xp .sortedR xs) S)from h) λxs S1 ρ1 H1 vs f1 st1 r1 h1=>?_]
  obtain⟨d,v,z,rfl,r1,hz,h1⟩:=WD h1 r1;cases d with
  |lst ds=>
   obtain⟨rws,hr,hz⟩:=cJ.mp hz;split at hz
   .cases hz;exact#[ρ1,ds,rws,v,rfl,r1,hr,‹_›,λys r=>h1.newL st1 r]
   .cases hz
  |_=>exact Ev.nos hz
 .refine kws_cons (thn (w6 pq s1 O H1 (λv H2=>v=.bl al/\H2=H1) I1 #[rfl,rfl]) λu s2 #[x,H2,I2,r2,e1,e2]=>kws_nil ?_)
  subst e1 e2;cases r2;obtain⟨l,its,rs,rfl,h1,h2,h3,h4,h5,h6⟩:=uO I2 r1 q1;exact Sq.yW (b:=al) h1 h2 h4 (h5 _) λp a b=>h6 p a b
open PySem.SeqAt PySem.MeetsSeq PySem.MeetsSeq2 PySem.MeetsSeq3 PySem.SeqRoads2
open PySem.AutoSeq1 (wpAny_loadPart')
end Sd
namespace Sd
open Ev (ltI ltP QB Wa)
open PySem PySem.Spec PyProof.Rows L2
def Zhe(h:bV)(r:List Int)(v:au):Prop:=∃a o us m,v=.ref a/\h.get? a=aa o/\o.cls=.type "tuple"/\o.data=.seq us.toArray m/\Vals (r.map V.int) us
inductive RowsIn(h:bV):List (List Int)->List au->Prop where
 |nil:RowsIn h [] []
 |cons {r:List Int} {rs:List (List Int)} {v:au} {vs:List au} (a:Zhe h r v) (t:RowsIn h rs vs):RowsIn h (r::rs) (v::vs)
open Ev (E Sm Fn Bop Cop Ty Bf Mf Yw Zm Z5 YS)
section
variable{X:Cx}{pq:List (aD×eW)}{O:L2.St}{H:Hp}{s:aA}{Z:Mx}
theorem RowsAt.ins{h:bV}:∀{rs:List #[14]}{vs:List au},RowsAt h rs vs->RowsIn h rs vs
 |_,_,.nil=>.nil
 |_,_,.cons ho hc hd hv t=>.cons #[_,_,_,_,rfl,ho,hc,hd,hv]<|RowsAt.ins t
end
open PySem.SeqAt PySem.MeetsSeq PySem.MeetsSeq2 PySem.MeetsSeq3 PySem.SeqRoads2
open PySem.AutoSeq1 (wpAny_loadPart')
def wg(hu:X.A.units+7<d4):XJ X xw .Lt .lt:=OpR.imp Zgm<|by rintro v u H Q ⟨Z,S,x,y,st,rx,ry,h⟩;exact JJ (f:=λz=>ai<|z.1<z.2) st rx ry h
end Sd
namespace Sd
open PySem PySem.Spec PyProof.Rows L2
open Ev (E Sm Fn Bop Cop Ty Bf Mf)
section
variable{prog:bt}{w:bN}{A:bU}{E:au->aA->Prop}{s:aA}{it d:aD}{i n ep:Nat}{od:eW}{es:Array fZ}
def vY{Q:au->aA->Prop}(hd:(d == cW)=aj)(ho:s.heap.get? d=aa od)(hc:od.ExactDict)(hdat:od.data=.dict es ep)
  (hQ:Q (.ref s.heap.objs.size) {s with heap:=s.heap.push {cls:=.type "dict_keyiterator",data:=.fields [.ref d,.int 0 0,.int es.size 0,.int ep 0].toArray}}) :
  aX #[8] A (rF<|.ref d) Q E s:=by
 have hT:s.TypeIs (.ref d) "dict":=#[_,ho,hc.1];refine wpAny_pyIter_slot hT o4<|de o4 hT F.entry_dict_iter ?_<|F.args_dict_iter_1 _;unfold eQ.«dict.__iter__»;refine ae ?_;refine ae<|ml hT<|aB (show aX _ _ (mm d >>= _) _ _ s from ?_)
 unfold mm;rw[T8 (by rw[hd];exact aO)]
 refine ae<|aB<|ae<|oA ho hdat<|ae<|wpAny_dictEpoch ho hdat ?_;refine ae<|bC<|aB #[_,rfl,"dict_keyiterator",_,#[_,aM _ rfl,rfl],iP.lookup,?_]
 simpa[gw]using hQ
def QX{Q:Option au->aA->Prop}(hit:s.heap.IsKeyIter it d i es.size ep)(ho:s.heap.get? d=aa od)(hdat:od.data=.dict es ep)
  (h1:∀(hlt:i<es.size) h',h'.IsKeyIter it d (i+1) es.size ep->fe it s.heap h'->Q (aa es[i].key) {s with heap:=h' })
  (h2:es.size<=i->A.handled=ag/\∀h',fO it s.heap h'->Q ag {s with heap:=h' }):aX #[8] A (mw<|.ref it) Q E s:=by
 obtain⟨o,hi,hc,hd⟩:=id hit;unfold mw;refine ae (io (cI hit.typeIs iP
  (de iP hit.typeIs F.entry_dict_keyiterator_next ?_<|F.args_dict_keyiterator_next_1 _)))
 refine ae<|aB<|ae<|ae ?_
 first|refine ae<|fc hit.typeIs<|aB ?_|refine ae<|gF hit.typeIs<|aB ?_
 refine ae<|wpAny_fieldsOf hi hd ?_;have hown:eQ.Dict_items.ownsTuple "dict_keyiterator" = aj:=by decide
 simp only[hown,cz,if_false];show aX _ _ (if(cG d == bG)=al then _ else _) _ _ s
 rw[T8<|show¬((cG d == bG)=al)from aO]
 refine ae<|aB<|ae<|oA ho hdat ?_;rw[T8 #[2]]
 refine ae<|aB<|ae<|wpAny_dictEpoch ho hdat ?_;rw[T8 #[2]]
 refine aB ?_;by_cases hlt:i<es.size
 .simp only[by omega,if_false,cZ,br hlt]
  refine ae ?_
  first|refine ae<|fc hit.typeIs<|aB ?_|refine ae<|gF hit.typeIs<|aB ?_
  refine ae<|mn hit.typeIs (show aX _ _ (setField (.ref it) 1 (gw<|(i:Int)+1) >>= _) _ _ s from ae<|kj hi hd #[2] ?_)
  have hit':(s.heap.update it (eW.mapFields (·.setIfInBounds 1 (gw<|(i:Int)+1)))).IsKeyIter it d (i+1) es.size ep:=
   #[_,fC _ hi<|hZ<|fg hd _,(kL ..).trans hc,by rw[fg hd];simp[gw]]
  refine ae<|bT<|ae<|mn hit'.typeIs ?_
  exact aB<|aB #[_,rfl,aB<|h1 hlt _ hit'<|eX ..]
 .obtain⟨hh,hQ⟩:=h2 #[3]
  simp only[by omega,if_false,cZ,lO (show es.size<=i by omega)]
  refine ae ?_
  first|refine ae<|fc hit.typeIs<|aB ?_|refine ae<|gF hit.typeIs<|aB ?_
  show aX _ _ (setField (.ref it) 0 .none >>= _) _ _ s;refine ae<|kj hi hd #[2]<|ae ?_
  simp only[newExc,newTuple];refine ae<|bC ?_ (by size_fits)
  refine ae (o7 (a:=bG) (by first|rfl|(simp only[mG];rfl))<|bC ?_ (by size_fits))
  simp only[raiseNew];refine ae<|wpAny_handled ?_;rw[hh]
  refine ae<|aB<|wpAny_throw ?_;refine ae<|gf (T:="StopIteration") (b:=al) #[_,aM _ rfl,rfl] isSubtype_stop ?_;exact aB<|hQ _<|((eX ..).extBut.push _).push _
end
theorem QP{B β:Type}{F:B->β->Prop}:∀{l:List B}{m:List β}{i:Nat}{p:B},Paired F l m->l[i]?=aa p->∃q,m[i]?=aa q/\F p q
 |_,_,_,_,.nil,e=>by simp at e
 |_,_,0,_,.cons r t,e=>by simp at e;subst e;exact#[_,rfl,r]
 |_,_,i+1,_,.cons r t,e=>by
  obtain⟨q,h1,h2⟩:=QP t (by simpa using e)
  exact#[q,by simpa using h1,h2]
def J8:i9 (.type "list") "keys" = cy ag:=by rw[typeLookup_type,mq];kernel_rfl
def xI:isSubtype (.type "AttributeError") (.type "AttributeError")=cy al:=by rw[isSubtype_type];kernel_rfl
section
variable{prog:bt}{w:bN}{A:bU}{E:au->aA->Prop}{s:aA}{a:aD}{B:Type}{name msg:bn}
def ur{Q:Unit->aA->Prop}(he:s.heap.get? e=aa {cls:=.type "AttributeError",data:=.fields vs})(h6:vs[6]?=aa unsetMember)(h7:vs[7]?=aa unsetMember)
  (hQ:∀h',fO e s.heap h'->(∃ob,h'.get? e=aa ob/\ob.cls=.type "AttributeError")->Q () {s with heap:=h' }):aX #[8] A (noteAttr (.ref e) ov nm) Q E s:=by
 have hT:s.TypeIs (.ref e) "AttributeError":=#[_,he,rfl];refine ae<|ae<|gf hT xI ?_;simp only[ip,cz,if_false];refine ae<|iY he ?_;simp only[h6,h7];rw[T8 #[1],T8 #[1]]
 refine aB ?_;simp only[if_true];refine ae<|fJ<|ae<|fW hT ?_;simp only[layMembers];refine ae<|iY he<|wpAny_update he<|hQ _ (eX ..).extBut #[_,fC _ he<|hZ<|fg rfl _,kL ..]
def yX{Q:B->aA->Prop}(hh:A.handled=ag)(hm:msg.length<=aW)(hq:∀h' t' e,(∀b o,s.heap.get? b=aa o->h'.get? b=aa o)->(∃ob,h'.get? e=aa ob/\ob.cls=.type "AttributeError")->E (.ref e) {s with heap:=h',toks:=t' }):aX #[8] A (raiseAttrError (.ref a) name msg:nO B) Q E s:=by
 refine ae<|wpAny_mkStr ?_ hm;simp only[newExc,newTuple];refine ae<|ae<|bC ?_ (by size_fits)
 refine ae (o7 (by first|rfl|(simp only[mG];rfl)) ?_)
 refine bC ?_ (by size_fits)
 refine ae<|wpAny_mkText<|ae<|ur (aM _ rfl) rfl rfl λh' eb ob=>?_
 refine wpAny_raiseNew_none hh<|hq _ _ _ (λb o e=>eb b o (λz=>?_)<|av _<|av _ e) ob
 have q:=aH e;subst z;exact T7 q (by show¬(s.heap.push _).objs.size<s.heap.objs.size;rw[cS];omega)
end
section
variable{prog:bt}{w:bN}{A:bU}{E:au->aA->Prop}{h:bV}{g:Array pF}{d:Drawn}{t:Nat}{os:OsState}{a:aD}{its:Array au}{n:Nat}
def yV{Q:Fin->aA->Prop}(hx:h.get? a=aa {cls:=.type "list",data:=.seq its n})(hh:A.handled=ag)(hq:∀h' t' e,(∀b o,h.get? b=aa o->h'.get? b=aa o)->(∃ob,h'.get? e=aa ob/\ob.cls=.type "AttributeError")->E (.ref e) #[h',g,d,t',os]) :
  aX #[8] A (eQ.«object.__getattribute__» #[[.ref a,.str "keys" tk],[]]) Q E #[h,g,d,t,os]:=by
 have hT:(#[h,g,d,t,os]:aA).TypeIs (.ref a) "list":=#[_,hx,rfl];have f4:=J8
 repeat(any_goals (first|assumption|wp_step))
 exact yX hh (by decide +kernel) hq
def ux{R:rG->aA->Prop}(hx:h.get? a=aa {cls:=.type "list",data:=.seq its n})(hh:A.handled=ag)(hq:∀h' t' e,(∀b o,h.get? b=aa o->h'.get? b=aa o)->(∃ob,h'.get? e=aa ob/\ob.cls=.type "AttributeError")->R (.error<|.ref e) #[h',g,d,t',os]) :
  gV #[8] A (.call (.builtin "list.__getattribute__") #[[.ref a,.str "keys" tk],[]]) R #[h,g,d,t,os]:=
 iF F.slot_list_getattribute.plain F.entry_list_ga (F.slot_list_getattribute.check _ _ _ _ _ _ _ _ (#[_,hx,rfl]) (F.args_list_getattribute_2 _ _)<|yV hx hh hq)
def ZcR{Q:au->aA->Prop}(hx:h.get? a=aa {cls:=.type "list",data:=.seq its n})(hh:A.handled=ag)(hq:∀h' t' e,(∀b o,h.get? b=aa o->h'.get? b=aa o)->(∃ob,h'.get? e=aa ob/\ob.cls=.type "AttributeError")->E (.ref e) #[h',g,d,t',os]):aX #[8] A (getAttrBy (.ref a) (.str "keys" tk) aj) Q E #[h,g,d,t,os]:=by
 have hT:(#[h,g,d,t,os]:aA).TypeIs (.ref a) "list":=#[_,hx,rfl];have f2:=F.slot_list_getattribute.lookup;have f3:=F.slot_list_getattribute.bind<|.ref a
 repeat(any_goals (first|assumption|wp_step))
 refine ux hx hh λh' t' e k ob=>?_
 have hTe:(#[h',g,d,t',os]:aA).TypeIs (.ref e) "AttributeError":=ob;have f9:i9 (.type "list") "__getattr__" = cy ag:=by rw[typeLookup_type,mq];kernel_rfl
 have hE:=hq h' t' e k ob
 repeat(any_goals (first|assumption|with_reducible apply gf hTe xI|wp_step))
def uw{Q:Option au->aA->Prop}(hx:h.get? a=aa {cls:=.type "list",data:=.seq its n})(hh:A.handled=ag)(hq:∀h' t',(∀b o,h.get? b=aa o->h'.get? b=aa o)->Q ag #[h',g,d,t',os]):aX #[8] A (pS (.ref a) "keys") Q E #[h,g,d,t,os]:=by
 unfold pS getAttrBy?
 refine ae<|wpAny_mkText<|ae<|io<|ZcR hx hh λh' t' e k ob=>?_
 exact ae<|gf (ob) xI<|aB<|hq h' t' k
end
def Wl:plainId "dict.update.loop" = al:=by decide +kernel
def Jj:entryFor table "dict.update.loop" = aa eQ.«dict.update.loop»:=entryFor_of_tree (by kernel_rfl)
section
variable{prog:bt}{w:bN}{A:bU}{E:au->aA->Prop}
def yT{Q:List au->aA->Prop}(hp:nP s.heap p its)(h:Q its.toList s):aX #[8] A (eQ.Dict.pairItems<|.ref p) Q E s:=by
 obtain⟨o,ho,hc,n,hd⟩:=hp;refine ae<|fW #[_,ho,hc] ?_;rw[T9 #[1]]
 unfold seqItems?
 refine ae<|ae<|iY ho ?_;rw[hd];exact aB<|aB h
def wI{K:Type}[DecidableEq K]{knd:KeyKind prog w K}{h h':bV}{k:List K}{a:aD}(x:(dS knd).is h k a)(hk:∀o,h.get? a=aa o->h'.get? a=aa o):(dS knd).is h' k a:=by
 obtain⟨o,its,n,h1,r⟩:=x;exact#[o,its,n,hk _ h1,r]
def WJ{K:Type}[DecidableEq K]{knd:KeyKind prog w K}{h h':bV}{d:aD}{xs:List (List K×aD×au)}(x:h.DictOfH (dS knd) d xs)(hd:∀o,h.get? d=aa o->h'.get? d=aa o)(hx:∀x∈xs,∀o,h.get? x.2.1=aa o->h'.get? x.2.1=aa o):h'.DictOfH (dS knd) d xs:=by
 obtain⟨o,es,ep,h1,h2,h3,h4,h5,h6⟩:=x;exact#[o,es,ep,hd _ h1,h2,h3,h4,λy hy=>wI (h5 y hy)<|hx y hy,h6]
abbrev Pr:=List Key×aD×aD
def qi{I d:aD}{fp wr:List aD}{its:Array au}{St:Nat->bV->Prop}{R:rG->aA->Prop}{h0:bV}{ps:List Pr}{res:au}(W:Walks prog w A.in1 I fp wr its.size (λi v=>its[i]?=aa v) St)(hu:A.units+2<d4)(hf:d∉fp)
  (hl:ps.length=its.size)(hi:∀(i:Nat)(p:Pr),ps[i]?=aa p->its[i]?=aa (cG p.2.2))
  (hp:∀p∈ps,nP h0 p.2.2 [cG p.2.1,bB al].toArray/\(dS<|ZQ prog w).is h0 p.1 p.2.1/\p.2.2∉wr/\p.2.2≠d/\p.2.1∉wr/\p.2.1≠d)(hn:(ps.map (·.1)).Nodup)(hz:ps.length<=aW) :
  ∀(k i:Nat)(s:aA),i+k=its.size->i<=its.size->St i s.heap->(∀b o,b∉wr->b≠d->h0.get? b=aa o->s.heap.get? b=aa o)->
  s.heap.DictOfH (dS<|ZQ prog w) d ((ps.take i).map λp=>(p.1,p.2.1,bB al))->
  (∀h' tk,(∀b o,b∉wr->b≠d->h0.get? b=aa o->h'.get? b=aa o)->h'.DictOfH (dS<|ZQ prog w) d (ps.map λp=>(p.1,p.2.1,bB al))->R (.ok<|.ret res) {s with heap:=h',toks:=tk})->
  gV #[8] A (.builtin "dict.update.loop" #[[.ref d,.ref I,gw i,res],[]]) R s:=by
 intro k
 induction k with
 |zero=>
  intro i s hk hi' hst kp dd hR;subst hk;refine gJ Jj ?_;rw[fT Wl _];show aX _ A.in1 (mw (.ref I) >>= _) _ _ s;refine ae<|W.done s _ _ hst λh' tk hk'=>?_
  refine ae<|aB<|aB<|hR h' tk (λb o hb hd z=>hk' b o hb<|kp b o hb hd z) ?_
  rw[cQ<|by omega]at dd
  exact WJ dd (λo e=>hk' _ o (λz=>hf<|W.sub _ z) e) λx hx o e=>by
   obtain⟨y,hy,rfl⟩:=aR.mp hx;exact hk' _ o (hp y hy).2.2.2.2.1 e
 |succ k ih=>
  intro i s hk hi' hst kp dd hR;have hlt:i<its.size:=by omega
  have hp':=hp _<|aY (l:=ps) (n:=i) #[3]
  have hv:=hi i _<|af (l:=ps) (i:=i) #[3]
  refine gJ Jj ?_;rw[fT Wl _];show aX _ A.in1 (mw (.ref I) >>= _) _ _ s;refine ae<|W.item i s _ _ hlt hst λv h' tk hP hst' hk'=>?_
  rw[hv]at hP;cases hP;obtain⟨p1,p2,p3,p4,p5,p6⟩:=hp';have kp2:∀b o,b∉wr->b≠d->h0.get? b=aa o->h'.get? b=aa o:=λb o hb hd z=>hk' b o hb<|kp b o hb hd z
  have dd2:h'.DictOfH (dS<|ZQ prog w) d ((ps.take i).map λp=>(p.1,p.2.1,bB al)):=WJ dd (λo e=>hk' _ o (λz=>hf<|W.sub _ z) e) λx hx o e=>by
   obtain⟨y,hy,rfl⟩:=aR.mp hx;exact hk' _ o (hp y<|c9 hy).2.2.2.2.1 e
  obtain⟨po,g1,g2,pn,g3⟩:=p1;refine ae<|bT<|ae<|wpAny_tryCatch<|yT (its:=[cG ps[i].2.1,bB al].toArray) #[po,kp2 _ _ p3 p4 g1,g2,pn,g3] ?_;have hsz:((ps.take i).map λp=>(p.1,p.2.1,bB al)).length<=aW:=by rw[ay,b9];exact cx (oJ ..) hz
  refine bT<|nL (hsz:=hsz) (ke<|by omega) (wI p2 λo e=>kp2 _ o p5 p6 e) dd2 λh2 dd3 sb=>?_
  refine aB #[nj Wl _,ih (i+1) _ #[3] hlt (W.frame _ _ _ hst' λb hb o e=>(sb.2 b λz=>hf<|z▸hb).trans e) (λb o hb hd z=>(sb.2 b hd).trans<|kp2 b o hb hd z) ?_ hR]
  have hnew:oi ((ps.take i).map λp=>(p.1,p.2.1,bB al)) ps[i].1=ag:=by
   unfold oi;rw[lT,nM];intro x hx z;obtain⟨y,hy,rfl⟩:=aR.mp hx;have hn2:=hn;rw[<-cX i ps,bL,eT,cr<|by omega]at hn2
   exact hn2.2.2 _ (dN hy) _ (dN ak)<|T6 z
  rw[storedH_new hnew]at dd3;rw[kM,af #[3],bL]
  exact dd3
def yG{s:aA}{l:aD}{its:Array au}{n:Nat}{ps:List Pr}{Q:au->aA->Prop}(hh:A.handled=ag)(hu:A.units+3<d4)(hx:s.heap.get? l=aa {cls:=.type "list",data:=.seq its n})
  (hl:ps.length=its.size)(hi:∀(i:Nat)(p:Pr),ps[i]?=aa p->its[i]?=aa (cG p.2.2))
  (hp:∀p∈ps,nP s.heap p.2.2 [cG p.2.1,bB al].toArray/\(dS<|ZQ prog w).is s.heap p.1 p.2.1)(hn:(ps.map (·.1)).Nodup)(hz:ps.length<=aW)
  (h:∀h' tk,(∀b o,s.heap.get? b=aa o->h'.get? b=aa o)->h'.DictOfH (dS<|ZQ prog w) s.heap.objs.size (ps.map λp=>(p.1,p.2.1,bB al))->Q (.ref s.heap.objs.size) {s with heap:=h',toks:=tk}) :
  aX #[8] A (call (.type "dict") [.ref l]) Q E s:=by
 refine callType_codes (Q₁:=λobj s₁=>obj=.ref s.heap.objs.size/\s₁={s with heap:=s.heap.push {cls:=.type "dict",data:=.dict #[]}}) F.kt_called_dict (F.kt_typeCall_dict_1 _) F.entry_dict_init (kt_code_dict_new _ #[rfl,rfl]) ?_
 rintro obj s₁ ⟨rfl,rfl⟩
 have hnew:(s.heap.push {cls:=.type "dict",data:=.dict #[]}).DictOfH (dS<|ZQ prog w) s.heap.objs.size []:=bV.DictOfH.new s.heap;have hx':=av {cls:=.type "dict",data:=.dict #[]} hx;refine#[hnew.typeIs (s:={s with heap:=_}),F.args_dict_init_2 _ _,?_]
 unfold eQ.«dict.__init__»;refine ae ?_;unfold eQ.Dict.selfAndRest;refine ae<|ml (hnew.typeIs (s:={s with heap:=_})) ?_
 show aX _ _ (cy (s.heap.objs.size,[cG l])) _ _ _;refine aB ?_;show aX _ _ (lB "dict.__init__" s.heap.objs.size (.ref l) [] .none) _ _ _;unfold lB;refine ae<|fW (T:="list") #[_,hx',rfl] ?_;rw[T9 #[1]]
 refine ae<|uw hx' hh λh1 t1 k1=>?_
 rw[T9<|show(ag:Option au).isNone=al from rfl]
 have hx1:=k1 _ _ hx';obtain⟨od,es,ep,g1,g2⟩:=id hnew;have hd1:s.heap.objs.size<h1.objs.size:=aH<|k1 _ _ g1;have hl0:l<s.heap.objs.size:=aH hx;refine ae<|fJ<|ae<|fE (items:=its) #[_,hx1,rfl,n,rfl]<|aB #[nj Wl _,?_];have lt:∀{b:aD}{o:eW},s.heap.get? b=aa o->b∉[h1.objs.size]/\b≠s.heap.objs.size:=λ{b o} e=>by
  have q:=aH e;exact#[λz=>T7 (a8.mp z)<|bh<|dg q hd1,bh q]
 refine qi (A:=A.in1) (h0:=s.heap) (ps:=ps) (i:=0) (s:={s with heap:=h1.push<|Yu al l,toks:=t1}) (Je (A:=A.in1.in1) hh al h1.objs.size l (bh<|dg hl0 hd1) its) (by show A.units+1+2<d4;omega) (λz=>?_) hl hi (λp hq=>?_) hn hz _ (oB _) (dD _) #[wp,?_] (λb o _ _ e=>av _<|k1 _ _<|av _ e) ?_ λh' tk kp dd=>#[rfl,h h' tk (λb o e=>kp b o (lt e).1 (lt e).2 e) dd]
 .simp only[az,bu,or_false]at z
  rcases z with z|z
  .exact bh hd1 z
  .exact eN hl0 z
 .obtain⟨x1,x2⟩:=hp p hq
  obtain⟨_,y1,_⟩:=id x1;obtain⟨_,_,_,y2,_⟩:=id x2;exact#[x1,x2,(lt y1).1,(lt y1).2,(lt y2).1,(lt y2).2]
 .exact#[_,av _ hx1,rfl,n,rfl]
 .exact WJ hnew (λo e=>av _<|k1 _ _ e) λx hx=>by cases hx
end
section
variable{X:Cx}{xw:Nat->Hp->Prop}{Z:Mx}{H:Hp}
theorem zG:∀{ds:List D}{ks:List #[14]}{ys:List V},Pv.WH ds=aa ks->Rq Z H ds ys->∃ps:List Pr,ps.map (·.1)=ks.map (·.map cT)/\ps.length=ys.length/\
  ∀(i:Nat)(p:Pr),ps[i]?=aa p->ys[i]?=aa (.ref p.2.2)/\H p.2.2=aa (.tup [.ref p.2.1,.bl al])/\H p.2.1=aa (.tup<|p.1.map kV)
 |[],ks,ys,h,r=>by
  cases h;subst r;exact#[[],rfl,rfl,λi p e=>by simp at e]
 |d::ds,ks,ys,h,r=>by
  obtain⟨v,vs,rfl,r1,r2⟩:=r;obtain⟨a,e1,h⟩:=cJ.mp (h)
  obtain⟨b,e2,rfl⟩:=bY.mp h;obtain⟨ps,h1,h2,h3⟩:=zG e2 r2;unfold Pv.ZdF at e1;split at e1
  .split at e1
   .rename_i k b hb
    subst hb;obtain⟨p,zs,rfl,hp,rz⟩:=r1.tup';obtain⟨u,u2,rfl,ru,ru2⟩:=zS rz;rw[ru2.bl']at hp;obtain⟨q,ws,rfl,hq,rw'⟩:=ru.tup';rw[Wk e1 rw']at hq;refine#[(a.map cT,q,p)::ps,by rw[aZ,h1];rfl,by simp[h2],λi y hy=>?_]
    cases i with|zero=>simp at hy;subst hy;exact#[rfl,hp,hq]|succ i=>exact h3 i y (by simpa using hy)
   .cases e1
  .cases e1
def Q8(hc:X.calm=al)(hu:X.A.units+7<d4):ZJ X (.type "dict") (Qs X.K xw .dictP):=by
 intro pq s O H vs us Q I r h;obtain⟨Z,S,ds,st,rs,h⟩:=h;obtain⟨d,v,z,rfl,r1,hz,h3⟩:=WD h rs;have hd:∃ds ks,d=.lst ds/\Pv.WH ds=aa ks/\Ev.UI ks=al/\z=.dct (.inr ks):=by
  cases d with
  |lst ds=>
   obtain⟨ks,hk,hz⟩:=cJ.mp hz;split at hz
   .cases hz;exact#[ds,ks,rfl,hk,‹_›,rfl]
   .cases hz
  |_=>exact Ev.nos hz
 obtain⟨ds,ks,rfl,hk,hok,rfl⟩:=hd;obtain⟨l,ys,rfl,hl,_,ry⟩:=r1.lst';obtain⟨u,rfl,ru⟩:=Wc r;cases ru;obtain⟨ps,p1,p2,p3⟩:=zG hk ry;obtain⟨_,its,c,rv,hg⟩:=(show Z1 X.prog X.w H s.heap l (.lst ys)from I.hok l _ hl)
 obtain⟨k1,k2⟩:=(aG _ _).mp hok;have hn:(ps.map (·.1)).Nodup:=by
  rw[p1];exact List.Pairwise.map _ (λa b ne e=>ne<|GH e)<|T6 k2
 have hlen:ps.length=ks.length:=by have:=congrArg kD p1;simpa using this
 have hz:ps.length<=aW:=by rw[hlen,<-YO];exact T6 k1
 have hp0:H s.heap.objs.size=ag:=I.hok.fresh<|aF _;refine yG (I.ok.hd hc) #[3] hg (by rw[p2,rv.length,aC]) (λi p e=>?_) (λp hp=>?_) hn hz λh' tk kp dd=>?_
 .obtain⟨w',g',ru'⟩:=rv.get (p3 i p e).1
  rw[show w'=.ref p.2.2 from ru']at g'
  simpa using g'
 .obtain⟨i,hi,e⟩:=cE hp
  obtain⟨_,a2,a3⟩:=p3 i p (by rw[<-e];exact af hi)
  obtain⟨_,zs,rz,tz⟩:=(show Z1 X.prog X.w H s.heap p.2.2 (.tup [.ref p.2.1,.bl al])from I.hok _ _ a2)
  refine#[?_,Qi I.hok a3];cases rz with
  |cons x rz=>cases rz with
   |cons y rz=>
    cases rz;cases(show _=cG p.2.1 from x)
    cases(show _=bB al from y)
    exact tz
 .obtain⟨od,es,ep,g1,g2,g3,g4,g5,g6⟩:=dd
  have hb:(s.heap.objs.size == cW)=aj:=beq_eq_false_iff_ne.mpr<|eN I.big;have hpr:∀{l:List Pr},(∀p∈l,H p.2.1=aa (.tup<|p.1.map kV))->Paired (λ(p:List Key×V) (q:List Key×aD×au)=>p.1=q.1/\upd H s.heap.objs.size (.frz od<|.dT<|ps.map λp=>(p.1,V.bl al)) q.2.1=aa (.tup<|p.1.map kV)/\Zy p.2 q.2.2) (l.map λp=>(p.1,V.bl al)) (l.map λp=>(p.1,p.2.1,bB al)):=λ{l}=>by
   induction l with|nil=>intro _;exact .nil|cons p l ih=>intro hl;exact .cons #[rfl,by rw[Zi<|ZR (hl p ak) hp0];exact hl p ak,rfl]<|ih λq hq=>hl q<|am _ hq
  refine#[.ref s.heap.objs.size,upd H s.heap.objs.size<|.frz od<|.dT<|ps.map λp=>(p.1,V.bl al),I.laid (t':=tk) kp (aF _) (show Z1 X.prog X.w _ h' _ (.frz od<|.dT<|ps.map λp=>(p.1,V.bl al))from#[g1,by rw[ay];exact hz,hb,ps.map λp=>(p.1,p.2.1,bB al),hpr λp hp=>?_,od,es,ep,g1,g2,g3,g4,g6]),rfl,?_]
  .obtain⟨i,hi,e⟩:=cE hp
   exact(p3 i p<|by rw[<-e];exact af hi).2.2
  .exact h3 Z _ _ (Zp hp0) (st.fresh hp0) (by unfold Rep;exact#[_,rfl,od,_,Zj,by rw[bH];exact p1])
end
section
variable{X:Cx}{xw:Nat->Hp->Prop}{fr:Bool}{C:Calls}{ns:List Nat}{e a:Expr}{i:E}{pos p p' p2:fD}{n:Nat}{x:bn}{q:Option bn}
def Zb3{q}(ha:CE X xw C a i):CE X xw C (.Subscript a (.Constant (.int 0) q p2) pos) (.dix i aj):=.mk <| PE.imp (j5 JM ha.h Qm<|by intro _ _;with_unfolding_all rfl)<|by
 left;rw[Pv.Zdk]at h;refine#[Z,l,S,st,lr,h.bind λx S1 ρ1 H1 v f1 st1 r1 h1=>?_]
 cases x with|drw=>obtain⟨p,rfl,hn⟩:=r1.drw';exact#[p,_,0,_,rfl,rfl,SqL.of (st1.dw p hn).1,rfl,End.ok h1 st1<|ZT _]|_=>exact h1.elim
def Zdg{q}(ha:CE X xw C a i):CE X xw C (.Subscript a (.Constant (.int 1) q p2) pos) (.dix i al):=.mk <| PE.imp (j5 JM ha.h Qm<|by intro _ _;with_unfolding_all rfl)<|by
 left;rw[Pv.Zdk]at h;refine#[Z,l,S,st,lr,h.bind λx S1 ρ1 H1 v f1 st1 r1 h1=>?_]
 cases x with|drw=>obtain⟨p,rfl,hn⟩:=r1.drw';exact#[p,_,1,_,rfl,rfl,SqL.of (st1.dw p hn).1,rfl,End.ok h1 st1<|Yj _]|_=>exact h1.elim
def Zct{q}(he:CE X xw C e i)(hN:X.N[n]?=aa x)(hv:Vis X.env.scope x)(hd:(x == #[11])=aj)
  (hcd:(x == #[16])=aj)
  (ha:∀v,dL (.Subscript (.Name x p') (.Constant (.int 0) q p2) p) X.env v=(do
   let ov <-kC [v] (cD (.Name x p') X.env)
   let iv <-kC [v,ov] (cD (.Constant (.int 0) q p2) X.env)
   nQ p
   kC [v,ov,iv] (rE ov iv v)
   release [v,ov,iv] []))(hs:dy [.Subscript (.Name x p') (.Constant (.int 0) q p2) p] e pos.line X.env=cy aj)(hw:dz [.Subscript (.Name x p') (.Constant (.int 0) q p2) p] e X.env=cy ag)
  (h1:(cf [.Subscript (.Name x p') (.Constant (.int 0) q p2) p] X.env).map (·.2)=[dL (.Subscript (.Name x p') (.Constant (.int 0) q p2) p) X.env]):CS X xw fr C ns (.Assign [.Subscript (.Name x p') (.Constant (.int 0) q p2) p] e pos) (.dset n i):=.mk <|
 PS.imp (XU he.h (Zfn (Yo hN hv hd hcd) Qm (ZaX (X:=X)) ha) hs hw h1)<|by
 right;rw[Pv.Zee]at h;refine#[Z,l,S,st,en.all,Zx.bind en h λy S1 H1 v f1 st1 r1 h1=>?_]
 cases y with
 |int y=>
  obtain⟨hk,h1⟩:=h1.guard;have hx:l[n]?=aa (aa .drw):=by
   cases z:l[n]? with
   |none=>rw[z]at h1;exact h1.elim
   |some o=>cases o with
    |none=>rw[z]at h1;exact h1.elim
    |some d=>cases d<;>rw[z]at h1<;>first|rfl|exact h1.elim
  rw[hx]at h1;obtain⟨u,hu,r⟩:=(en.mono f1).all.val n .drw hx;obtain⟨a,rfl,hn⟩:=r.drw';obtain⟨e1,_⟩:=st1.dw a hn;refine#[.ref a,hu,a,_,0,0,rfl,rfl,e1,rfl,?_];rw[r1.int'];have f2:Fut Z H1 Z (upd H1 a<|.lst [.int y,.bl S1.2]):=#[rfl,λb o z=>by
   by_cases c:b=a
   .subst c;rw[e1]at z;cases z;exact .inr<|.inl #[hn,_,rfl]
   .exact .inl (by rw[Zi c];exact z)]
  refine h1 _ O W #[st1.hk,λb x=>?_,λb x=>?_,st1.tb.upd (λo u z=>by rw[e1]at z;cases z) λ_ z=>by cases z]<|(en.mono f1).mono f2
  .by_cases c:b=a
   .rw[c];show upd _ _ _ _≠ag;rw[Zj];intro z;cases z
   .show upd _ _ _ _≠ag;rw[Zi c];exact st1.xd b x
  .rw[hn]at x
   cases x;exact#[Zj,hk]
 |_=>exact h1.elim
end
open Ev in
noncomputable def WQ:Fn:=#[2,4,
 [.ite (.dix (.v 0) al) [.asg [2]<|.bin .mod (.dix (.v 0) aj)<|.v 1,
  .dset 0 (.bin .fdiv (.dix (.v 0) aj)<|.v 1),
  .ret (.v 2)] [],
  .dset 0 (.bin .mod (.bin .add (.bin .mul (.dix (.v 0) aj)<|.n 48271)<|.n 29)<|.n 2147483647),
  .asg [3] (.bin .mod (.bin .add (.bin .add (.bin .mul (.dix (.v 0) aj)<|.dix (.v 0) aj)<|.bin .mul (.n 39373)<|.dix (.v 0) aj)<|.n 7)<|.n 2147483629),
  .asg [3] (.bin .mod (.bin .add (.bin .mul (.v 3)<|.v 3)<|.bin .mul (.n 16807)<|.v 3)<|.n 2147483587),
  .ret (.bin .mod (.bin .fdiv (.v 3)<|.n 8)<|.v 1)]]
open Ev Pv in
def Wg(h0:0<=a)(h:a<4294967296):fits a=al:=by
 refine T5 ?_;have h1:a.natAbs<2^32:=by lia
 exact bi h1<|fU #[1] #[1]
open Ev Pv in
def Yn{C:Calls}{s:Zv}{m:Int}(h:okS s.1 s.2=al)(m0:0<m)(m1:m<1073741824):Gc C WQ [.drw,.int m] s=.ok (.int (X6 s m).1) (X6 s m).2:=by
 obtain⟨a,b⟩:=s;unfold okS at h;have hm:muts WQ.body=[]:=rfl;unfold Gc;rw[hm];have ha:0<=a:=T6 ((aG _ _).mp h).1;have lt8:(8:Int)<big:=jw #[1]
 cases b with
 |true=>
  have o2:okS (a / m) al=al:=by simp[okS];exact Int.ediv_nonneg ha #[0]
  simp[WQ,X6,rvs,rE1,rE9,GD,Zee,pvA,pE1,pE2,pE7,Zdk,Yv,PR.bind,po,Zz,ZO,ofD,Vg,Pv.V0,m0,m1,jw m1,o2,hide]
 |false=>
  have hb:a<2147483647:=by simpa using((aG _ _).mp h).2
  have h1:=Wg ha #[0]
  have x0:0<=(a*48271+29)%2147483647:=by lia
  have x1:(a*48271+29)%2147483647<2147483647:=by lia
  generalize hxx:(a*48271+29)%2147483647=x at x0 x1;have y0:0<=(x*x+39373*x+7)%2147483629:=by lia
  have y1:(x*x+39373*x+7)%2147483629<2147483629:=by lia
  generalize hyy:(x*x+39373*x+7)%2147483629=y at y0 y1;have f1:=Wg x0 #[0]
  have f2:=Wg y0 #[0]
  have f3:fits 48271=al:=Wg #[0] #[0]
  have f4:fits 39373=al:=Wg #[0] #[0]
  have f5:fits 16807=al:=Wg #[0] #[0]
  have o2:okS x aj=al:=by simp[okS,x0,x1]
  simp[WQ,X6,rvs,rE1,rE9,GD,Zee,pvA,pE1,pE2,pE7,Zdk,Yv,PR.bind,po,Zz,ZO,ofD,Vg,Pv.V0,m0,m1,lt8,h1,hxx,hyy,f1,f2,f3,f4,f5,o2,hide]
def ZbD{K:ao}{F:List Fn}{tk d:Nat}:∀Z S H ds vs,St3 K Z S H->Rq Z H ds vs->Pv.Zk F tk (d+1) tk ds S=.no\/Pv.Zk F tk (d+1) tk ds S=Gc (Pv.Zk F tk d) WQ ds S:=λZ S H ds vs st r=>by
 rw[Pv.Zk,T9 rfl];unfold Pv.ZdK;split
 .rename_i m
  obtain⟨v,u,rfl,r1,_⟩:=zS r;obtain⟨a,_,hn⟩:=r1.drw';split
  .rename_i hm
   exact .inr (Yn (st.dw a hn).2 hm.1 hm.2).symm
  .exact .inl rfl
 .exact .inl rfl
def wu{K:ao}{F:List Fn}{tk n d:Nat}{fn:Fn}(hn:n≠tk)(hf:F[n]?=aa fn):∀Z S H ds vs,St3 K Z S H->Rq Z H ds vs->Pv.Zk F tk (d+1) n ds S=.no\/Pv.Zk F tk (d+1) n ds S=Gc (Pv.Zk F tk d) fn ds S:=λZ S H ds vs st r=>by
 rw[Pv.Zk,T8 hn,hf]
 all_goals exact .inr rfl
def ZbS(h:Pv.UL v=aa d):v=.lst [.int d.1,.bl d.2]/\Pv.okS d.1 d.2=al:=by
 unfold Pv.UL at h;split at h
 .split at h
  .cases h;exact#[rfl,‹_›]
  .cases h
 .cases h
def yx{l:Lc}{i:Nat}{d:D}(h:(l.map Pv.JC)[i]?=aa (aa d)):l[i]?=aa (aa d)/\d.flat=al:=by
 rw[aJ]at h;cases q:l[i]? with
 |none=>rw[q]at h;cases h
 |some o=>
  rw[q]at h;have h:=aq h;obtain⟨a,b⟩:=Option.filter_eq_some_iff.mp h;exact#[by rw[a],b]
def Zbo{n:Nat}{l:Lc}{i:Nat}{d:D}(h:(Pv.WU n l)[i]?=aa (aa d)):l[i]?=aa (aa d)/\d.flat=al:=by
 unfold Pv.WU at h;rw[List.getElem?_append]at h;split at h
 .obtain⟨a,b⟩:=yx h
  rw[cA]at a;split at a
  .exact#[a,b]
  .cases a
 .rw[cH]at h
  split at h<;>cases h
def z6 :(Pv.WU n l).length=l.length:=by
 unfold Pv.WU;rw[aU,ay,b9,ck];omega
def tCl(X:Cx)(xw:Nat->Hp->Prop)(C:Calls)(fi:Nat)(is:List E):TE:=λO H Q=>tA X xw (Pv.pvs C is) O H λvs H1=>∃Z ds S,St3 X.K Z S H1/\Rq Z H1 ds vs/\End X.K xw (XO al H1) Z H1 Q (C fi ds S)
def Zfd{xw:Nat->Hp->Prop}{fi:Nat}{y:bn}{es:List Expr}{is:List E}{ss:List ef}{B:List Sm}(hc:PE X (.Call (.Name y p') (e::es) [] p) (tCl X xw C fi is))(hB:CSs X xw fr C ns ss B)(hN:X.N.Nodup)
  (hi:X.N[n]?=aa x:=by rfl)(hx:L2.Loc X.env.scope x:=by first|exact Or.inl rfl|exact oR rfl)(hf:X.fn x=al\/X.env.scope.names.lookup x=aa .local:=by first|exact .inl rfl|exact .inr rfl)
  (hs:dy [.Name x px] (.Call (.Name y p') (e::es) [] p) pos.line X.env=cy aj:=by rfl)(hw:dz [.Name x px] (.Call (.Name y p') (e::es) [] p) X.env=cy ag:=by rfl)
  (h1:(cf [.Name x px] X.env).map (·.2)=[dL (.Name x px) X.env]:=by rfl) :
  CSs X xw fr C ns (.Assign [.Name x px] (.Call (.Name y p') (e::es) [] p) pos::ss) [.cel n fi is B]:=.mk <|
 PSs.imp (YC (XU hc (J7 hN hi hx hf) hs hw h1) hB.h)<|by
 right;have h:Zx fr X.K xw Z H0 D (Pv.rv C ns (.cel n fi is B) l os S):=by
  rw[Pv.rvs]at h;cases q:Pv.rv C ns (.cel n fi is B) l os S with|no=>rw[q]at h;exact h|ex c s=>rw[q]at h;exact h|ok g s=>rw[q]at h;cases g<;>exact h
 rw[Pv.Zhf]at h;obtain⟨ho,h⟩:=h.guard;refine#[Z,l,S,st,en.all,Zx.bind en h λxs S1 H1 vs f1 st1 r1 h1=>?_]
 refine#[Z,xs,S1,st1,r1,Zx.bind (rep:=XO al H1) (en.mono f1) h1 λv S2 H2 u f2 st2 r2 h2=>?_]
 obtain⟨d,hd,h3⟩:=Zx.ob h2;obtain⟨rfl,hok⟩:=ZbS hd;obtain⟨a,rfl,na⟩:=r2.2 rfl _ rfl;obtain⟨_,us,z,ea,_,ru⟩:=r2.1.lst';cases z;obtain⟨u1,u2,rfl,q1,q2⟩:=zS ru;cases q1.int';cases q2.bl';have en2:=(en.mono f1).mono f2;have nX:∀q,Z.X q->q≠a:=λq x z=>st1.xd q x<|z▸na
 let ρ':Mx:=#[Z.K,aa a,λq=>Z.X q\/q=a,λq h=>.inr (aq h).symm]
 have st':St3 X.K ρ' d H2:=#[st2.hk,λq x=>x.elim (st2.xd q) λz=>(by rw[z,ea];intro w;cases w),λq x=>(by cases x;exact#[ea,hok]),st2.tb]
 have en':Eu ρ' H2 (λ_=>ag) ((Pv.WU n l).set n<|aa .drw) [] (O.set n<|aa<|.ref a) H2:=by
  refine#[Fut.refl _ _,st'.xd,by rw[bx,bx,z6];exact en.len,λ_=>rfl,λ_ _ _ z=>?_,λ_ _ z=>?_,λ_ _ z=>?_,λi w q _=>?_]
  .cases z
  .cases z
  .cases z
  .rcases JV q with⟨rfl,z,hl⟩|⟨c,z⟩
   .cases z
    exact#[.ref a,bc (by rw[<-en.len,<-z6 (n:=n)];exact hl),by unfold Rep;exact#[a,rfl,rfl]]
   .obtain⟨z,hfl⟩:=Zbo z
    obtain⟨v,hv,r⟩:=en2.all.val i w z;exact#[v,by rw[a9 c];exact hv,Rep.flat (Z:=Z) (ρ':=ρ'.ex λ_=>ag) rfl (λ_ _ z _ _=>z) hfl r]
 have n0:∀{b},b≠a->ρ'.n0≠aa b:=λc w=>T7 (aq w).symm c
 have keep:∀{H'},Fut ρ' H2 ρ' H'->∀b o,b≠a->H2 b=aa o->(∀ps,o≠.tbl ps)->H' b=aa o:=λ{H'} f b o c z n=>(f.keep b o z).elim id λw=>w.elim (λw=>T7 w.1<|n0 c) λ#[#[ps,e],_]=>T7 e<|n ps
 have back:∀{H':Hp}{s:Zv},Fut ρ' H2 ρ' H'->St3 X.K ρ' s H'->St3 X.K Z S2 H'/\Fut Z H0 Z H':=λ{H' s} f w=>by
  refine#[#[st2.hk,λq x=>?_,λq x=>?_,w.tb],rfl,λb o z=>?_]
  .exact f.there (n0<|nX q x)<|st2.xd q x
  .obtain⟨e1,e2⟩:=st2.dw q x
   exact#[keep f q _ (nX q<|Z.xz q x) e1 (by intro _ z;cases z),e2]
  .have ne:b≠a:=λc=>by rw[c,yw (en.mono f1) st1 na]at z;cases z
   rcases en2.fut.keep b o z with y|y|⟨e,ps,y⟩
   .rcases f.keep b o y with q|q|q
    .exact .inl q
    .exact T7 q.1<|n0 ne
    .exact .inr<|.inr q
   .exact .inr<|.inl y
   .rcases f.keep b _ y with q|⟨_,xs,q⟩|⟨_,q⟩
    .exact .inr<|.inr #[e,ps,q]
    .cases q
    .exact .inr<|.inr #[e,q]
 have backE:∀{H':Hp}{s:Zv}{W':Own}{l':Lc}{os':List Nat}{σ':L2.St},Eu ρ' H2 W' l' os' σ' H'->St3 X.K ρ' s H'->St3 X.K Z S2 H'/\Eu Z H0 (λ_=>ag) (l'.map Pv.JC) [] σ' H':=λ{H' s W' l' os' σ'} g w=>by
  obtain⟨a1,a2⟩:=back g.fut w;refine#[a1,a2,en.xd,by rw[ay];exact g.len,λ_=>rfl,λ_ _ _ z=>?_,λ_ _ z=>?_,λ_ _ z=>?_,λi w q _=>?_]
  .cases z
  .cases z
  .cases z
  .obtain⟨z,hfl⟩:=yx q
   obtain⟨v,hv,r⟩:=g.all.val i w z;exact#[v,hv,Rep.flat (Z:=ρ') (ρ':=Z.ex λ_=>ag) rfl (λ_ _ z _ _=>z) hfl r]
 refine#[ρ',H2,λ_=>ag,_,[],d,st',en',?_]
 cases q:Pv.rvs C ns B ((Pv.WU n l).set n<|aa .drw) [] d with
 |no=>rw[q]at h3;exact h3
 |ex c s=>rw[q]at h3;exact h3.elim
 |ok g s=>
  rw[q]at h3;cases g with
  |nx l' os'=>exact λH' σ' W' w g=>let #[a1,a2]:=backE g w;h3 H' σ' _ a1 a2
  |ret v=>
   obtain⟨hfl,h3⟩:=Zx.guard h3;exact λH' v' f w r=>let #[a1,a2]:=back f w;h3 H' v' a2 a1 #[Rep.flat (Z:=ρ') (ρ':=Z) rfl (λ_ _ z _ _=>z) hfl r.1,λ_ ds z=>by rw[z]at hfl;cases hfl]
open Ev (ltI Yw Zm Z5)
section
variable{prog:bt}{w:bN}{A:bU}{E:au->aA->Prop}{s:aA}{d:aD}{ep:Nat}{od:eW}{es:Array fZ}
def vg(lo:(d == cW)=aj)(hc:od.ExactDict)(hdat:od.data=.dict es ep):pT prog w "dict" d d es.size (λi v=>(es[i]?).map (·.key)=aa v) (λh=>h.get? d=aa od) where
 type:=λ_ hm=>#[_,hm,hc.1]
 there:=λ_ hm=>#[aH hm,aH hm]
 keep:=λ_ _ hm hk=>hk d (.inl rfl) _ hm
 notList:=by decide
 notTuple:=by decide
 hint:=λ_ _ _ _ hm hq=>PySem.W.kdl_hint_dict #[_,hm,hc.1] hq
 iter:=λA s hh hm=>by
  have hne:=bh<|aH hm;refine#[_,λi h=>h.IsKeyIter s.heap.objs.size d i es.size ep/\h.get? d=aa od,λE Q hq=>vY lo hm hc hdat hq,?_,#[_,aM _ rfl,rfl,rfl],av _ hm]
  exact{
   sub:=λb hb=>by simp at hb;simp[hb]
   frame:=λ_ _ _ st hk=>#[st.1.at λo e=>hk _ #[2] o e,hk d #[2] _ st.2]
   item:=λi s' Q E hi st hQ=>QX st.1 st.2 hdat (λhlt h' hit' sb=>hQ _ h' s'.toks (by simp[hlt]) #[hit',sb.extBut _ _ hne st.2] λb o hb e=>sb.extBut b o (λz=>hb<|by simp[z]) e) λz=>T7 hi #[3]
   done:=λs' Q E st hQ=>QX st.1 st.2 hdat (λhlt _ _ _=>T7 hlt<|by omega) λ_=>#[hh,λh' eb=>hQ h' s'.toks λb o hb e=>eb b o (λz=>hb<|by simp[z]) e]
   self:=λ_ _ _ _ st hQ=>wpAny_pyIter_keyiter st.1 hQ}
def wW{acc:Array au}(h:ItemsOf (λi v=>(es[i]?).map (·.key)=aa v) acc es.size):acc.toList=es.toList.map (·.key):=by
 refine cL λi=>?_
 by_cases hi:i<es.size
 .have hl:i<acc.size:=by rw[h.1];exact hi
  have:=h.2 i acc[i]<|br hl;rw[aJ,bz,bz,this,br hl]
 .rw[bM (by rw[aN,h.1];omega),bM (by simp;omega)]
def jt{T:String}{r:aD}{n:Nat}{P:Nat->au->Prop}{OK:bV->Prop}{R:List au->aA->Prop}(K:pT prog w T r d n P OK)(hh:A.handled=ag)(hok:OK s.heap)(hn:n<=aW)
  (h:∀h' tk acc,(∀b o,s.heap.get? b=aa o->h'.get? b=aa o)->s.heap.objs.size<=h'.objs.size->ItemsOf P acc n->R acc.toList {s with heap:=h',toks:=tk}):aX #[8] A (collect<|.ref r) R E s:=by
 obtain⟨l1,l2⟩:=K.there _ hok
 let S:=s.heap.objs.size
 have hS:(s.heap.push {cls:=.type "list",data:=.seq #[]}).get? S=aa {cls:=.type "list",data:=.seq #[]}:=aM _ rfl;have fin:∀{h':bV}{tk c:Nat}{acc:Array au},(∀b o,b≠S->(s.heap.push {cls:=.type "list",data:=.seq #[]}).get? b=aa o->h'.get? b=aa o)->h'.get? S=aa {cls:=.type "list",dict:=ag,data:=.seq acc c,slots:=#[]}->ItemsOf P acc n->R acc.toList {s with heap:=h',toks:=tk}:=
  λk e i=>h _ _ _ (λb o z=>k b o (bh<|aH z)<|av _ z) (gS<|aH e) i
 refine ae<|wpAny_runValue<|gJ entry_proto_collect' ?_;rw[fT PySem.F.plain_proto_collect _];refine ae<|bC<|aB #[nj lC _,gJ entry_list_iadd' ?_];rw[fT lC _];refine dm (PySem.W.kdl_extend (R:=λq s'=>∃h' tk acc c,q=.ok (.ret<|.ref S)/\s'={s with heap:=h',toks:=tk}/\h'.get? S=aa {cls:=.type "list",dict:=ag,data:=.seq acc c,slots:=#[]}/\R acc.toList s') K hh (K.keep _ _ hok λb _ o e=>av _ e) S (eN l1) (eN l2) _ 0 hS (λh' tk acc c k e i=>#[h',tk,acc,c,rfl,rfl,e,fin k e i]) hn) (λf s' x=>?_) λe s' x=>?_
 .cases f with
  |done f=>
   obtain⟨h',tk,acc,c,z,rfl,e,q⟩:=x;cases z;exact ae<|iY e<|aB q
  |again c'=>
   refine#[x.1,gW x.2 λy s2 z=>?_]
   obtain⟨h',tk,acc,c,rfl,rfl,e,q⟩:=z;exact ae<|iY e<|aB q
 .obtain⟨_,_,_,_,z,_⟩:=x
  cases z
def zc{κ:fP}{lt:Nat->Nat->Bool}{vs:List au}{Q:au->aA->Prop}(hh:A.handled=ag)(lo:(d == cW)=aj)(ho:s.heap.get? d=aa od)(hc:od.ExactDict)(hdat:od.data=.dict es ep)(hv:es.toList.map (·.key)=vs)(h64:vs.length<=100000)
  (O:Sq.Ord vs.length lt)(K:Sq.Asks prog w A.in1.in1 s.heap vs κ lt)
  (h:∀p h' tk D n,Sq.Pm vs.length p->Sq.Up (Sq.ltR aj vs.length lt) p vs.length->(∀b o,s.heap.get? b=aa o->h'.get? b=aa o)->s.heap.objs.size<=D->h'.get? D=aa (fR "list" (dk<|bE aj<|p.toList.map λi=>(bE aj vs).getD i bG) n)->Q (.ref D) {s with heap:=h',toks:=tk}) :
  aX #[8] A (call (.builtin "sorted") [.ref d]) Q E s:=by
 have hl:vs.length=es.size:=by rw[<-hv];simp
 refine Calls.call_function_entry kind_sorted plain_sorted entry_sorted (args_sorted1 _) ?_;unfold eQ.«sorted»;refine ae<|aB ?_;refine ae<|jt (vg lo hc hdat) hh ho (by rw[dP];omega) λh1 tk acc hk big hacc=>?_
 rw[wW hacc,hv];refine ae<|ni ?_ (by rw[dP];omega)
 have hoL:(h1.push<|fR "list" vs.toArray 0).get? h1.objs.size=aa (fR "list" vs.toArray 0):=aM _ rfl;refine ae (bT (de slot_list_sort #[_,hoL,rfl] entry_list_sort (by
  rw[Sq.uC];exact Sq.list_sort_rev hoL h64 (λb o e=>by
   have hlt:=aH<|hk b o e;exact#[bh hlt,av _<|hk b o e]) O K λp a1 a2=>#[_,rfl,aB #[_,rfl,by
    obtain⟨n,hn⟩:=sortedHeap_at hoL;exact h p _ tk _ n a1 a2 (λb o e=>by
     have hlt:=aH<|hk b o e;rw[sortedHeap_old (bh hlt) (by rw[pR];exact dq hlt)]
     exact av _<|hk b o e) big hn]])<|args_list_sort _))
end
def ZeG(tk tv:TE):TE:=λO H Q=>∀p,H p=ag->yS [(tk,tv)] O (upd H p<|.dT []) λps H2=>∃b r z,ps=[(.ref b,z)]/\H2 b=aa (.tup<|r.map kV)/\H2 p=aa (.dT [])/\Q (.ref p) (upd H2 p<|.dT [(r,z)])
def ZaB{X:Cx}{k v:Expr}{tk tv:TE}{pos:fD}(hu:X.A.units+7<d4)(hk:PE X k tk)(hv:PE X v tv):PE X (.Dict [aa k] [v] pos) (ZeG tk tv):=by
 intro pq s O H Q I h;have I1:=I.laid (t':=s.toks) (λ_ _ q=>av _ q) (aF _)<|qm s.heap I.big
 rw[arm_eval_Dict,zip_pairTrees [aa k] [v] X.env pos rfl rfl,dictDisplay_pairs (pairTrees [aa k] [v] X.env pos) (by simp[pairTrees]) (by rw[pairTrees_length _ _ _ _ rfl rfl];show 1<17;omega)]
 refine ae<|gz<|ae ?_;refine ae<|wpAny_alloc<|ae<|bT ?_;rw[T9 (by rw[pairTrees_length _ _ _ _ rfl rfl];show 1<=15;omega)]
 refine ae<|thn (Zag hk hv Zbx pq _ O _ _ I1<|h _<|I.hok.fresh<|aF s.heap.objs.size) λws s2 #[ps,H2,I2,rel,b,r,z,e,hb,hp,q]=>?_
 subst e;cases rel with
 |@cons _ y _ ys h1 t=>
  cases t;obtain⟨u,x⟩:=y;obtain⟨h1,h2⟩:=h1;cases(h1);obtain⟨zz,hd,xs,rl,dd⟩:=ZdE I2.hok hp;cases rl;refine bT ?_;rw[iJ];refine ae (ae<|ae<|nL ((show X.A.units<d4 by omega)) (Qi I2.hok hb) dd λh' dd' hs=>aB ?_)
  show aX _ _ (mF [] _ _) _ _ _;rw[mI];refine aB<|aB<|aB<|aB #[.ref s.heap.objs.size,_,?_,rfl,q];obtain⟨o,es,ep,hq,g2,g3,g4,_,g5⟩:=dd';refine Gf I2 (by rw[hp];exact dJ) hs #[o,hq] #[by show 1<=aW;decide,hd,[(r,b,x)],.cons #[rfl,?_,h2] .nil,o,es,ep,hq,g2,g3,g4,g5]
  rw[Zi (Zea hb hp #[19])]
  exact hb
def zC{Z:Mx}{H:Hp}{d:D}{v:V}{r:List Int}(h:Rep Z H d v)(e:Pv.Zfb d=aa r):∃b,v=.ref b/\H b=aa (.tup<|(r.map (cT:Int->Key)).map kV):=by
 cases d with|tup ks=>obtain⟨b,xs,rfl,hb,rs⟩:=h.tup';exact#[b,rfl,by rw[hb,Wk e rs]]|_=>exact Ev.nos e
def ZcD{Z:Mx}{H:Hp}{d:D}{v:V}(h:Rep Z H d v)(e:Pv.isT d=al):v=.bl al:=by
 cases d with
 |bl b=>cases b with|true=>exact h.bl'|false=>cases e
 |_=>cases e
def uA{ks:List #[14]}{vs:List (List Key×V)}{r:List Int}{v:V}(h:vs.map (·.1)=ks.map (·.map (cT:Int->Key))):(WG vs (r.map cT) v).map (·.1)=(Pv.YK ks r).map (·.map cT):=by
 have hv:=Ja (k:=r) h;unfold Pv.YK;cases c:ks.contains r with
 |true=>
  rw[c]at hv;unfold WG;rw[Wb,hv,T9 rfl,bH,T9 rfl,<-h];refine bP λx _=>?_
  show(if x.1=_ then(x.1,v)else x).1=x.1
  split<;>rfl
 |false=>
  rw[c]at hv;rw[qT v (by simpa using hv),bL,h,T8 aO,bL]
  rfl
section
variable{X:Cx}{xw:Nat->Hp->Prop}{fr:Bool}{C:Calls}{ns:List Nat}{e a b c tg:Expr}{i j k:E}{pos p p' p2 dp:fD}{n:Nat}{x:bn}
def ZfJ{q:Nat}(hu:X.A.units+7<d4)(he:CE X xw C e i)(hg:CG X tg [n])(hs:dy [tg] (.Dict [aa e] [.Constant (.bool al) q p] dp) pos.line X.env=cy aj)(hw:dz [tg] (.Dict [aa e] [.Constant (.bool al) q p] dp) X.env=cy ag)
  (h1:(cf [tg] X.env).map (·.2)=[dL tg X.env]):CS X xw fr C ns (.Assign [tg] (.Dict [aa e] [.Constant (.bool al) q p] dp) pos) (.dnw n i):=.mk <| PS.imp (XU (ZaB hu he.h w6) hg.h hs hw h1) λD O H #[Z,H0,W,l,os,S,st,en,h]=>λa ha=>by
 rw[Pv.ZgS]at h;have f0:Fut Z H Z (upd H a<|.dT []):=Zp ha;have en0:=en.mono f0;refine#[Z,l,S,st.fresh ha,en0.all,Zx.bind en0 h λy S1 H1 v f1 st1 r1 h1=>?_]
 obtain⟨r,hr,h1⟩:=Zx.ob h1;obtain⟨hl,h1⟩:=h1.guard;obtain⟨b,rfl,hb⟩:=zC r1 hr;have nx:=st.nx ha;have hp:=vt f1 nx Zj;have hx:¬(Z.ex W).X a:=λz=>z.elim nx λ#[j,w]=>let #[_,_,_,z]:=en.own j a w;T7 ha z.ne
 have f2:Fut Z H Z (upd H1 a<|.dT [(r.map cT,.bl al)]):=#[rfl,λc o z=>by
  have ne:c≠a:=λq=>by rw[q,ha]at z;cases z
  rw[Zi ne];exact(f0.trans f1).keep c o z]
 refine#[b,r.map cT,.bl al,rfl,hb,hp,h1 _ _ _ ?_<|en.takeO st.xd f2 ha hx #[_,Zj,rfl] hl];exact#[st1.hk,λc z=>by rw[Zi λq:c=a=>nx (by rw[<-q];exact z)];exact st1.xd c z,λc z=>by rw[Zi λq:c=a=>nx (by rw[<-q];exact Z.xz c z)];exact st1.dw c z,st1.tb.upd (λo u z=>by rw[hp]at z;cases z) λ_ z=>by cases z]
def ZbP{ix:Expr}{ii:E}(hu:X.A.units+7<d4)(hi:CE X xw C ix ii)(he:CE X xw C e i)(hN:X.N[n]?=aa x)(hv:Vis X.env.scope x)(hd:(x == #[11])=aj)(hcd:(x == #[16])=aj)
  (hs:ej e (aa<|.Subscript (.Name x p') ix p) pos.line X.env=cy aj):CS X xw fr C ns (.Assign [.Subscript (.Name x p') ix p] e pos) (.dput (.v n) ii i):=.mk <| PS.imp (Zda #[3] (Yo hN hv hd hcd) hi.h he.h hs)<|by
 right;rw[Pv.rE7]at h;obtain⟨c,h⟩:=h.guard;refine#[Z,l,S,st,en.all,Zx.bind en h λy S1 H1 v f1 st1 r1 h1=>?_]
 obtain⟨ht,h1⟩:=h1.guard;obtain⟨ks,hk,h1⟩:=Zx.ob h1;have en1:=en.mono f1;obtain⟨a,ha⟩:=cU.mp<|(en.osW n).symm.trans c;have own:∀{H2},Eu Z H0 W l os O H2->O[n]?=aa (aa<|.ref a)/\∃vs,H2 a=aa (.dT vs)/\vs.map (·.1)=ks.map (·.map cT):=λ{H2} en=>by
  obtain⟨d,p,q,r⟩:=en.own n a ha;rw[p]at hk;cases d with|dow ks'=>cases hk;exact#[q,r]|_=>cases hk
 refine#[.ref a,(own en1).1,Z,l,S1,st1,en1.all,Zx.bind en1 h1 λz S2 H2 w f2 st2 r2 h2=>?_]
 obtain⟨r,hr,h2⟩:=Zx.ob h2;obtain⟨hl,h2⟩:=h2.guard;have en2:=en1.mono f2;obtain⟨b,rfl,hb⟩:=zC r2 hr;obtain⟨_,vs,e2,e3⟩:=own en2;have hz:vs.length<aW:=by
  have:=congrArg kD e3;rw[ay,ay]at this;rw[this,<-YO];exact hl
 rw[ZcD r1 ht];exact#[a,_,rfl,DPut.t e2 hb hz,h2 _ _ W (st2.mut en2 ha)<|en2.mutO ha #[_,Zj,uA e3]]
def ZgW{P:bt}{w:bN}{H:Hp}{h:bV}{a:aD}{kvs:List (List Key×V)}(ok:HOk P w H h)(e:H a=aa (.dT kvs)):(a == cW)=aj/\kvs.length<=aW/\
  ∃(o:eW)(es:Array fZ)(ep:Nat),h.get? a=aa o/\o.ExactDict/\o.data=.dict es ep/\es.size=kvs.length/\∃qs:List aD,es.toList.map (·.key)=qs.map cG/\qs.length=kvs.length/\∀(i:Nat)(p:List Key×V),kvs[i]?=aa p->∃q,qs[i]?=aa q/\H q=aa (.tup<|p.1.map kV):=by
 obtain⟨z,y,xs,r,o,es,ep,h1,h2,h3,h4,h5⟩:=(ok a _ e);have hl:es.size=kvs.length:=by
  have:=congrArg kD h4;rw[ay,<-Paired.length r]at this
  simpa using this
 refine#[y,z,o,es,ep,h1,h2,h3,hl,xs.map (·.2.1),?_,by rw[ay,<-Paired.length r],λi p hp=>?_]
 .rw[h4,bH,bH];rfl
 .obtain⟨q,hq,e1,e2,e3⟩:=QP r hp
  exact#[q.2.1,by rw[aJ,hq];rfl,e2]
theorem Jf{Z:Mx}{H:Hp}:∀{ks:List #[14]}{qs:List aD},qs.length=ks.length->(∀(i:Nat)(k:List Int),ks[i]?=aa k->∃q,qs[i]?=aa q/\H q=aa (.tup<|k.map V.int))->Rq Z H (ks.map Pv.Zb) (qs.map V.ref)
 |[],[],_,_=>Rq.nil
 |k::ks,q::qs,hl,h=>by
  obtain⟨q',e,hq⟩:=h 0 k rfl;cases e;exact Rq.cons (Xc hq<|Rq.ints k)<|Jf (by simpa using hl) λi k e=>h (i+1) k e
 |[],_::_,hl,_=>by cases hl
 |_::_,[],hl,_=>by cases hl
theorem VG:∀qs:List aD,Vals (qs.map V.ref) (qs.map cG)
 |[]=>.nil
 |q::qs=>.cons rfl<|VG qs
theorem zO:∀ks:List #[14],Pv.Y2 (ks.map Pv.Zb)=aa ks
 |[]=>rfl
 |k::ks=>by
  have hi:∀k:List Int,Pv.intsV (k.map Pv.V.int)=aa k:=λk=>by
   induction k with|nil=>rfl|cons n k ih=>show(Pv.intsV<|k.map Pv.V.int).map (n :: ·)=_;rw[ih];rfl
  show(match Pv.intsV (k.map Pv.V.int),Pv.Y2 (ks.map Pv.Zb)with|some a,aa b=>aa (a::b)|_,_=>ag)=_
  rw[hi,zO ks]
def qd{Z:Mx}{pq:List (aD×eW)}{s:aA}{O:L2.St}{H:Hp}{v:V}{ks:List #[14]}(I:Inv X pq O H s)(r:Rep Z H (.dow ks) v):∃(a:aD)(o:eW)(es:Array fZ)(ep:Nat)(qs:List aD),v=.ref a/\(a == cW)=aj/\ks.length<=aW/\s.heap.get? a=aa o/\o.ExactDict/\o.data=.dict es ep/\es.size=ks.length/\es.toList.map (·.key)=qs.map cG/\qs.length=ks.length/\Rq Z H (ks.map Pv.Zb) (qs.map V.ref):=by
 obtain⟨a,vs,e,ha,_,hk⟩:=r.dow';obtain⟨lo,hz,o,es,ep,g1,g2,g3,hl,qs,e1,e2,e3⟩:=ZgW I.hok ha;have hn:vs.length=ks.length:=by have:=congrArg kD hk;simpa using this
 refine#[a,o,es,ep,qs,e,lo,by omega,g1,g2,g3,by omega,e1,by omega,Jf #[3] λi k q=>?_]
 have e4:=congrArg (·[i]?) hk
 simp only[aJ,q,pB]at e4;obtain⟨p,e5,e6⟩:=bY.mp e4;obtain⟨q',e7,e8⟩:=e3 i p e5;rw[e6,bH]at e8;exact#[q',e7,e8]
def v7(hc:X.calm=al):ZJ X (.type "list") (QW X.K xw .listD):=by
 intro pq s O H vs us Q I r h;obtain⟨Z,S,ds,st,rs,H0,S0,f0,s0,h⟩:=h;obtain⟨d,v,z,rfl,r1,hz,h⟩:=WD h rs;cases d with
 |dow ks=>
  cases hz;obtain⟨a,o,es,ep,qs,rfl,lo,hn,g1,g2,g3,g4,g5,g6,rq⟩:=qd I r1;obtain⟨u,rfl,ru⟩:=Wc r;cases ru;refine PySem.W.kdl_call (vg lo g2 g3) (I.ok.hd hc) g1 #[3] λh' tk acc c' kp hL hacc=>?_
  refine#[.ref _,_,I.laid (o:=.lst<|qs.map V.ref) kp (aF _) #[by rw[ay];omega,acc.toList,c',by rw[wW hacc,g5];exact VG qs,hL],rfl,h.newF f0 s0 st rq _<|I.hok.fresh<|aF _]
 |_=>exact Ev.nos hz
def zP(hc:X.calm=al):ZJ X (.builtin "sorted") (QW X.K xw .sortedD):=by
 intro pq s O H vs us Q I r h;obtain⟨Z,S,ds,st,rs,H0,S0,f0,s0,h⟩:=h;obtain⟨d,v,z,rfl,r1,hz,h⟩:=WD h rs;cases d with
 |dow ks=>
  have hz:(if Z5 ks=al then aa (Pv.V.lst<|(Zm ks).map Pv.Zb)else ag)=aa z:=hz
  split at hz
  case isFalse=>cases hz
  rename_i hok
  cases hz;obtain⟨a,o,es,ep,qs,rfl,lo,hn,g1,g2,g3,g4,g5,g6,rq⟩:=qd I r1;obtain⟨u,rfl,ru⟩:=Wc r;cases ru;have rv:=VG qs;obtain⟨RA,_⟩:=JR I (zO ks) rq rv;obtain⟨hok1,hok3⟩:=(aG _ _).mp hok;obtain⟨hok1,hok2⟩:=(aG _ _).mp hok1;have h64:=T6 hok1;have hnd:=T6 hok2;have hne:∀r∈ks,r≠[]:=λr hr e=>by
   have:=bp.mp hok3 r hr;rw[e]at this;cases this
  have hlen:=RA.length;refine zc (I.ok.hd hc) lo g1 g2 g3 g5 #[3] (yc hnd hlen) (Q2 RA hnd hne) λp h' tk D n hp hu kp hD hL=>?_
  rw[<-hlen]at hp hu;have out:=zD hnd hp hu;have hmem:∀i∈p.toList,i<ks.length:=λi hi=>by
   have hp':p.toList.Perm (aP ks.length):=by simpa using bJ.mp hp
   exact aV.mp<|hp'.mem_iff.mp hi
  have rx2:=G4 rq hmem;have out:(p.toList.map λi=>ks.getD i [])=Zm ks:=out
  rw[out]at rx2;have rv2:=GZ rv (by rw[ay,g6];exact hmem)
  refine#[.ref D,_,I.laid (o:=.lst<|p.toList.map λi=>(qs.map V.ref).getD i V.non) kp hD #[?_,_,n,rv2,hL],rfl,h.newF f0 s0 st rx2 _<|I.hok.fresh hD]
  rw[ay,aN,hp.size];exact hn
 |_=>exact Ev.nos hz
end
end Sd
namespace Sd
open PySem PySem.Spec PyProof.Rows
section
open L2
open Ev (E Sm Fn Bop Cop Ty Bf Mf)
end
section
open L2
end
section
open L2
open Ev (ltI Yw Zm)
open Ev (E Sm Fn Bop Cop Ty Bf Mf spcs ZgT Z5)
end
end Sd
namespace Sd
open PySem PyProof.Rows L2 Ev
variable{X:Cx}{xw:Nat->Hp->Prop}{C:Calls}{ns:List Nat}{e:Expr}{i:E}{pos:fD}
end Sd
namespace Sd
open PySem PySem.Spec PyProof.Rows L2
open Ev (ltP QB Wa)
open Ev (E Sm Fn Bop Cop Ty Bf Mf Zgf YS)
open Ev (So)
open PySem.Builtin.Str (occurrences partsBetween strKind)
end Sd
namespace Gn
open PySem PySem.Spec PyProof.Rows L2
open Ev (E Sm Fn Bop Cop Ty Bf Mf)
open Sd (Calls CompScope cxC hu7)
structure FR where
 x:bn
 st:ef
 N:List bn
 k:Nat
noncomputable def FR.ps(r:FR):List bn:=r.N.take r.k
noncomputable def scB(N:List bn)(k:Nat)(sc:dO):Bool:=
 (match sc.kind with|.function=>al|_=>aj)&&(!sc.isCoroutine&&(!sc.isGenerator&&(decide N.Nodup&&((N.take k).all (λx=>ai (sc.names.lookup x=aa .local)||decide (sc.names.lookup x=aa .cell))&&sc.names.all λy=>ai<|y.2≠.free))))
def Vq(h:scB N k sc=al):FnScope N (N.take k) sc:=by
 unfold scB at h;simp only[aG,kO,T0,bp,iI]at h;obtain⟨h1,h2,h3,h4,h5,h6⟩:=h;refine#[?_,h2,h3,h4,?_,h5,h6]
 .cases e:sc.kind<;>rw[e]at h1<;>first|rfl|cases h1
 .rw[b9]
  by_cases hk:k<=N.length
  .rw[l8 hk]
  .rw[Nat.min_eq_right #[3],fX,cQ #[3]]
inductive Gv where
 |int (n:Int)|tab (t:List (Int×Int))|str (x:bn)
 deriving DecidableEq
def Zgk(K:ao)(mg:bn->Option au)(x:bn):Gv->Prop
 |.int n=>∃t:rm,mg x=aa (.int n t)
 |.str z=>∃t:rm,mg x=aa (.str z t)
 |.tab t=>∃tb:aD,(∀P w,Sd.ZgP P w K tb t)/\mg x=aa (.ref tb)
structure Top(K:ao)(mg:bn->Option au)(fs:List FR)(zs:List bn)(gs:List (bn×Gv))(f:Nat->aD)(fd:Nat->cB):Prop where
 d:∀i r,fs[i]?=aa r->Fun K r.x r.x r.st (f i) (fd i)
 b:∀i r,fs[i]?=aa r->VW K (fd i) r.ps []
 m:∀i r,fs[i]?=aa r->mg r.x=aa (.ref<|f i)
 z:∀x∈zs,mg x=ag
 g:∀y∈gs,Zgk K mg y.1 y.2
def Jl(r:FR):Prop:=∀(kV doc pm:au)(an:Option aD)(cdv ct:au)(us:List au),us.length=r.ps.length->mz (eg r.x r.x (Xd r.st) (ZC r.st) (Zf r.st) .none kV doc pm an cdv ct) #[us,[]]=cy (r.ps.zip us)
section
variable{x:bn}{st:ef}
abbrev bA(x:bn)(st:ef)(kV doc pm:au)(an:Option aD)(cdv ct:au)(us:List au):=mz (eg x x (Xd st) (ZC st) (Zf st) .none kV doc pm an cdv ct) #[us,[]]
def bd1(h:∀kV doc pm an cdv ct a0,bA x st kV doc pm an cdv ct [a0]=cy ((N.take n).zip [a0]))(hl:(N.take n).length=1:=by rfl):Jl #[x,st,N,n]:=λkV doc pm an cdv ct us e=>match us,e.trans hl with|[a0],_=>h kV doc pm an cdv ct a0
def bd2(h:∀kV doc pm an cdv ct a0 a1,bA x st kV doc pm an cdv ct [a0,a1]=cy ((N.take n).zip [a0,a1]))(hl:(N.take n).length=2:=by rfl):Jl #[x,st,N,n]:=λkV doc pm an cdv ct us e=>match us,e.trans hl with|[a0,a1],_=>h kV doc pm an cdv ct a0 a1
def bd3(h:∀kV doc pm an cdv ct a0 a1 a2,bA x st kV doc pm an cdv ct [a0,a1,a2]=cy ((N.take n).zip [a0,a1,a2]))(hl:(N.take n).length=3:=by rfl):Jl #[x,st,N,n]:=λkV doc pm an cdv ct us e=>match us,e.trans hl with|[a0,a1,a2],_=>h kV doc pm an cdv ct a0 a1 a2
def bd4(h:∀kV doc pm an cdv ct a0 a1 a2 a3,bA x st kV doc pm an cdv ct [a0,a1,a2,a3]=cy ((N.take n).zip [a0,a1,a2,a3]))(hl:(N.take n).length=4:=by rfl):Jl #[x,st,N,n]:=λkV doc pm an cdv ct us e=>match us,e.trans hl with|[a0,a1,a2,a3],_=>h kV doc pm an cdv ct a0 a1 a2 a3
end
inductive FnsAt(K:ao):List FR->List aD->List cB->Prop
 |nil:FnsAt K [] [] []
 |cons {x:bn} {st:ef} {N:List bn} {n:Nat} {a:aD} {rs:List FR} {as:List aD} {fds:List cB} {oc kV dc pm cd ct:au} {od an:Option aD} {sl:Array (Option au)}
   (h1:gh K bv x=aa (aa<|.ref a)) (h2:K.lookup a=aa #[oc,od,.func<|eg x x (Xd st) (ZC st) (Zf st) .none kV dc pm an cd ct,sl])
   (h3:iZ K cd x=al) (h4:fM K (.ref a)=al) (h5:Jl #[x,st,N,n]) (t:FnsAt K rs as fds) :
   FnsAt K (#[x,st,N,n]::rs) (a::as) (eg x x (Xd st) (ZC st) (Zf st) .none kV dc pm an cd ct::fds)
inductive ZsAt(K:ao):List bn->Prop
 |nil:ZsAt K []
 |cons {x:bn} {zs:List bn} (h:gh K bv x=aa ag) (t:ZsAt K zs):ZsAt K (x::zs)
inductive GsAt(K:ao):List (bn×Gv)->Prop
 |nil:GsAt K []
 |cons {x:bn} {n:Int} {u:rm} {gs:List (bn×Gv)} (h:gh K bv x=aa (aa<|.int n u)) (t:GsAt K gs):GsAt K ((x,.int n)::gs)
 |tab {x:bn} {a:aD} {es:Array fZ} {n:Nat} {tb:List (Int×Int)} {gs:List (bn×Gv)} (h:gh K bv x=aa (aa<|.ref a)) (h2:K.lookup a=aa #[.type "dict",ag,.dict es n,#[]]) (h3:Sd.Xj es.toList tb) (h4:(a == cW)=aj) (t:GsAt K gs):GsAt K ((x,.tab tb)::gs)
 |str {x z:bn} {u:rm} {gs:List (bn×Gv)} (h:gh K bv x=aa (aa<|.str z u)) (t:GsAt K gs):GsAt K ((x,.str z)::gs)
theorem GsAt.get{K:ao}{h:bV}{mg:bn->Option au}(X:K.In h)(G:h.Ns bv mg):∀{gs:List (bn×Gv)},GsAt K gs->∀y∈gs,Zgk K mg y.1 y.2
 |_,.nil,x,h=>by simp at h
 |_,.cons h t,x,m=>by
  rcases az.mp m with rfl|m
  .exact#[_,iq X G h]
  .exact t.get X G x m
 |_,.str h t,x,m=>by
  rcases az.mp m with rfl|m
  .exact#[_,iq X G h]
  .exact t.get X G x m
 |_,.tab h h2 h3 h4 t,x,m=>by
  rcases az.mp m with rfl|m
  .exact#[_,λP w=>Sd.ZcB h2 h3 h4,iq X G h]
  .exact t.get X G x m
theorem FnsAt.get{K:ao}{fd0:cB}:∀{fs:List FR}{as:List aD}{fds:List cB},FnsAt K fs as fds->∀i r,fs[i]?=aa r->
  gh K bv r.x=aa (aa<|.ref<|as.getD i 0)/\Fun K r.x r.x r.st (as.getD i 0) (fds.getD i fd0)/\Jl r
 |_,_,_,.nil,i,r,e=>by simp at e
 |_,_,_,.cons h1 h2 h3 h4 h5 t,0,r,e=>by
  simp at e;subst e;exact#[h1,Zgd h2 h3 h4,h5]
 |_,_,_,.cons h1 h2 h3 h4 h5 t,i+1,r,e=>by
  obtain⟨a,b,c⟩:=t.get i r (by simpa using e)
  exact#[by simpa using a,by simpa using b,c]
theorem ZsAt.get{K:ao}:∀{zs:List bn},ZsAt K zs->∀x∈zs,gh K bv x=aa ag
 |_,.nil,x,h=>by simp at h
 |_,.cons h t,x,m=>by
  rcases az.mp m with rfl|m
  .exact h
  .exact t.get x m
def Top.no{K:ao}{mg:bn->Option au}{x:bn}(T:Top K mg fs zs gs f fd)(h:zs.contains x=al):mg x=ag:=T.z x (by simpa using h)
noncomputable def csB(sc:dO)(N0:List bn)(scope:dO)(N:List bn)(cap:List Nat)(nl:Nat):Bool:=
 ((N.take nl).all (λx=>ai (scope.names.lookup x=aa .local)||decide (scope.names.lookup x=aa .cell))&&(ai (N.length=nl+cap.length)&&(cap.zipIdx.all (λp=>ai (N[nl+p.2]?=N0[p.1]?)&&ai ((N0[p.1]?).map (λx=>ai<|(x,bD)∈scope.names)=aa al)) &&
  ((match scope.kind with|.function=>al|_=>aj)&&scope.names.all λy=>(!decide (y.2=.cell) || !decide ((y.1,bD)∈scope.names))&&((!decide (y.2=.local)||decide (scope.names.lookup y.1=aa .local))&&(!decide (y.2=.free)||((ai (sc.names.lookup y.1=aa .cell)||decide (sc.names.lookup y.1=aa .free))&&ai (scope.names.lookup y.1≠aa .local))))))))
def Zel{sc:dO}{N0:List bn}{scope:dO}{N:List bn}{cap:List Nat}{nl:Nat}(h:csB sc N0 scope N cap nl=al):CompScope sc N0 scope N cap nl:=by
 unfold csB at h;simp only[aG,iI,kO,T0,decide_eq_false_iff_not,bp]at h;obtain⟨_,h1,h2,h3,h4⟩:=h;refine#[?_,λy hy z=>(h4 y hy).1.resolve_left λq=>q z,λy hy z=>?_,λy hy z=>?_,λy hy z=>?_,h1,h2]
 .cases e:scope.kind<;>rw[e]at h3<;>first|rfl|cases h3
 .rcases(h4 y hy).2.1 with q|q
  .exact T7 z q
  .exact q
 .rcases(h4 y hy).2.2 with q|q
  .exact T7 z q
  .exact q.1
 .rcases(h4 y hy).2.2 with q|q
  .exact T7 z q
  .exact q.2
noncomputable def cN(scope:dO)(nl:Nat)(cap:List Nat)(N0:List bn):List bn:=((scope.names.drop 1).take nl).map (·.1)++cap.map λi=>N0.getD i ""
def jV{sc:dO}{N0:List bn}{scope:dO}{cap:List Nat}{nl:Nat}(h:csB sc N0 scope (cN scope nl cap N0) cap nl=al):CompScope sc N0 scope (cN scope nl cap N0) cap nl:=Zel h
end Gn
namespace Sd
open PySem PySem.Spec PyProof.Rows L2
def Fly(h:bV)(e T C:aD):Prop:=
 ∃(oe:eW)(vs:Array au)(a0:au)(oT:eW)(ts:Array au),h.get? e=aa oe/\(oe.cls=.ref C/\vs[0]?=aa a0)/\oe.data=.fields vs/\vs[1]?=aa (.ref T)/\T≠e/\h.get? T=aa oT/\oT.data=.fields ts/\ts[3]?=aa .none
def CX1(P:bt)(w:bN):CXT:=λouter H s E e s'=>
 ∃(a T C:aD)(H':Hp),e=.ref a/\s'.os=s.os/\im s'.gens/\Un (frs outer) [] H H' s.heap s'.heap/\HOk P w H' s'.heap/\Fly s'.heap a T C/\s.heap.get? a=ag/\s.heap.get? T=ag/\H' a=ag/\H' T=ag/\E (.ref C) ag H'
def Z1.there(x:Z1 P w H h a o):∃u,h.get? a=aa u:=by
 cases o with|lst xs=>obtain⟨_,_,_,_,e⟩:=x;exact#[_,e]|tup xs=>obtain⟨_,_,_,_,e,_⟩:=x;exact#[_,e]|dK kvs=>obtain⟨_,_,_,_,o,_,_,e,_⟩:=x;exact#[_,e]|dT kvs=>obtain⟨_,_,_,_,o,_,_,e,_⟩:=x;exact#[_,e]|own y=>obtain⟨_,e⟩:=x;exact#[_,e]|frz ob u=>obtain⟨e,_⟩:=x;exact#[_,e]|tbl ps=>exact#[_,(x)]
theorem FunFrames.rebase{h h' base base':bV}:∀{l:List Env},h.FunFrames base l->(∀b∈frs l,∀o,h.get? b=aa o->∃sl,h'.get? b=aa {o with slots:=sl})->(∀b∈frs l,base'.get? b=ag)->h'.FunFrames base' l
 |[],_,_,_=>trivial
 |env::l,#[hk,#[L,o,hf,hn,ho,hd],hr],k,n=>by
  have hm:L∈frs (env::l):=by unfold frs;rw[cn,hf];exact ak ..
  obtain⟨sl,e⟩:=k L hm o ho;refine#[hk,#[L,_,hf,n L hm,e,hd],FunFrames.rebase hr (λb hb=>k b ?_) λb hb=>n b ?_]
  all_goals unfold frs at hb ⊢;rw[cn,hf];exact am _ hb
structure DefX(X:Cx)(E:XK):Prop where
 xe:X.xe=λe s'=>aX (aT X.prog X.w) X.A (leaving X.env e) (λ_ s''=>CX1 X.prog X.w X.outer X.H₀ X.s₀ E e s'') (λe' s''=>CX1 X.prog X.w X.outer X.H₀ X.s₀ E e' s'') s'
 st:X.stack=X.env::X.outer
 fr:X.env.frame=aa X.env.locals
 ex:X.ex=[]
section
variable{X:Cx}{E:XK}{pq:List (aD×eW)}{O:L2.St}{H H':Hp}{s s':aA}
def Inv.outside(D:DefX X E)(I:Inv X pq O H s)(un:Un (frs X.stack) [] H H' s.heap s'.heap)(hos:s'.os=s.os)(bare:im s'.gens)(hok:HOk X.prog X.w H' s'.heap)(na:s.heap.get? a=ag)(Ha:H' a=ag)
   (hh:∀b∈hid,b∈frs X.stack\/(s.heap.get? b=ag/\H' b=ag))(st:(eK s'.heap hid).StaysIn h')(up:s'.heap.UpToSlots h')(fl:Fly h' a T C)(hT:(eK s'.heap hid).get? T=ag)(hE:E (.ref C) ag H') :
  CX1 X.prog X.w X.outer X.H₀ X.s₀ E (.ref a) {s' with heap:=h' }:=by
 have U1:=I.base;rw[D.ex]at U1;have sub:∀b∈frs X.outer,b∈frs X.stack:=λb hb=>by
  rw[D.st];unfold frs at hb ⊢;rw[cn,D.fr];exact am _ hb
 have own:∀b o,X.s₀.heap.get? b=aa o->b∈frs X.stack->b∈frs X.outer:=λb o e hb=>by
  rw[D.st]at hb;unfold frs at hb ⊢;rw[cn,D.fr]at hb;rcases az.mp hb with z|z
  .exact T7 (aH e) (by rw[z];exact lD I.ok.above)
  .exact z
 have nx:∀b:aD,b∉([]:List aD):=λb=>by simp
 have frN:∀b∈frs X.stack,H' b=ag:=λb hb=>by
  obtain⟨_,o,ho,_⟩:=I.stack.mem hb;exact un.free b o ho (I.stkFree b hb)<|nx b
 have hidN:∀b∈hid,H' b=ag:=λb hb=>by
  rcases hh b hb with z|z
  .exact frN b z
  .exact z.2
 have old:∀b o,s.heap.get? b=aa o->b∉frs X.stack->b∉hid:=λb o e hb hm=>by
  rcases hh b hm with z|z
  .exact hb z
  .rw[e]at z;cases z.1
 have keep:=λb u e n=>st b u<|gv _ e n
 have nof:∀b∈frs X.stack,∀o,s'.heap.get? b=aa o->∀vs,o.data≠.fields vs:=λb hb o e=>by
  obtain⟨_,o1,ho,hd⟩:=I.stack.mem hb;obtain⟨sl,e1⟩:=un.any ho (I.stkFree b hb)<|nx b;rw[e]at e1;cases e1;exact hd
 have frS:=λb hb o e=>up b o e<|nof b hb o e
 have trk:∀b u,H' b=aa u->b∉hid:=λb u e hm=>by rw[hidN b hm]at e;cases e
 have hT2:∀o,s'.heap.get? T=aa o->H' T=ag/\s.heap.get? T=ag\/False:=λo e=>by
  by_cases hm:T∈hid
  .rcases hh T hm with z|z
   .obtain⟨oe,vs,a0,oT,ts,_,_,_,_,_,g1,g2,_⟩:=fl
    obtain⟨sl,e2⟩:=frS T z o e;rw[g1]at e2;cases e2;exact T7 g2<|nof T z o e ts
   .exact .inl #[z.2,z.1]
  .rw[gv _ e hm]at hT;cases hT
 have there:∀b o,X.s₀.heap.get? b=aa o->∃o',s'.heap.get? b=aa o':=λb o e=>by
  obtain⟨o1,e1⟩:=U1.there b o e<|nx b;exact un.there b o1 e1<|nx b
 refine#[a,T,C,H',rfl,hos.trans I.os,bare,#[λb o e n hb _=>?_,λb o e n hb _=>?_,λb o e n _=>?_,λb o e _=>?_,λb xs e=>un.tups b xs<|U1.tups b xs e,λb o u e=>un.frzs b o u<|U1.frzs b o u e,λb ps e=>?_],λc o e=>?_,fl,?_,?_,Ha,?_,hE]
 .have e1:=U1.keep b o e n hb (nx b)
  have hn:=λz=>hb<|own b o e z
  exact keep b o (un.keep b o e1 (U1.free b o e n<|nx b) hn<|nx b)<|old b o e1 hn
 .obtain⟨sl,e1⟩:=U1.slot b o e n hb (nx b)
  obtain⟨sl2,e2⟩:=un.slot b _ e1 (U1.free b o e n<|nx b) (sub b hb)<|nx b;obtain⟨sl3,e3⟩:=frS b (sub b hb) _ e2;exact#[sl3,e3]
 .obtain⟨o1,e1⟩:=U1.there b o e (nx b)
  exact un.free b o1 e1 (U1.free b o e n<|nx b)<|nx b
 .obtain⟨o1,e1⟩:=U1.there b o e (nx b)
  obtain⟨o2,e2⟩:=un.there b o1 e1<|nx b;by_cases hm:b∈frs X.stack
  .obtain⟨sl,e3⟩:=frS b hm o2 e2
   exact#[_,e3]
  .exact#[o2,keep b o2 e2<|old b o1 e1 hm]
 .obtain⟨m1,e1⟩:=U1.tbls b ps e
  obtain⟨m2,e2⟩:=un.tbls b _ e1;exact#[m1++m2,by rw[e2,nt]]
 .refine(hok c o e).stay (λb u hb q=>?_) (λ_ q=>q) λ_ _ q=>q
  rcases hb with rfl|hb
  .exact keep _ u q<|trk _ _ e
  .exact keep _ u q<|trk _ _ hb
 .cases q:X.s₀.heap.get? a with
  |none=>rfl
  |some o=>
   obtain⟨o1,e1⟩:=U1.there a o q<|nx a;rw[na]at e1;cases e1
 .cases q:X.s₀.heap.get? T with
  |none=>rfl
  |some o=>
   obtain⟨o1,e1⟩:=U1.there T o q<|nx T;obtain⟨o2,e2⟩:=un.there T o1 e1<|nx T;rcases hT2 o2 e2 with z|z
   .rw[e1]at z;cases z.2
   .exact z.elim
 .cases q:H' T with
  |none=>rfl
  |some u=>
   obtain⟨o,e⟩:=Z1.there<|hok T u q;rcases hT2 o e with z|z
   .rw[q]at z;cases z.1
   .exact z.elim
def ZdH(D:DefX X E):Uw (CX1 X.prog X.w) X E:=by
 rintro pq O H s e s' I ⟨a,T,C,H',rfl,os,bare,un,hok,fly,na,nT,Ha,HT,hE⟩
 rw[D.xe];have nx:∀b:aD,b∉([]:List aD):=λb=>by simp
 have hfr:X.A.frames=aa (X.env::X.outer):=by rw[<-D.st];exact I.ok.frames
 let hid:=frs X.stack++[a,T]
 have hin:∀b∈frs X.stack,b∈hid:=λb hb=>c8 _ hb
 have FF:s'.heap.FunFrames (eK s'.heap hid) (X.env::X.outer):=by
  rw[<-D.st];exact FunFrames.rebase I.stack (λb hb o e=>un.any e (I.stkFree b hb)<|nx b) λb hb=>c7 _<|hin b hb
 obtain⟨oe,vs,a0,oT,ts,f1,f2,f3,f4,f5,f6,f7,f8⟩:=fly;refine wpAny_leaves_onW hfr D.fr #[λb o e=>gL _ e,c7 _<|bq _<|ak ..,FF,oe,vs,T,oT,ts,f1,f2,f3,f4,c7 _<|bq _<|am _<|ak ..,f5,f6,f7,f8] λh' fl' up=>?_
 obtain⟨g1,_,_,oe',vs',T',oT',ts',e1,e2,e3,e4,e5,e6,e7,e8,e9⟩:=fl';refine Inv.outside D I un os bare hok na Ha (λb hb=>?_) g1 up #[oe',vs',a0,oT',ts',e1,e2,e3,e4,e6,e7,e8,e9] e5 hE
 rcases cc.mp hb with z|z
 .exact .inl z
 .rcases az.mp z with rfl|z
  .exact .inr #[na,Ha]
  .rw[a8.mp z];exact .inr #[nT,HT]
end
open Ev (E Sm Fn Bop Cop Ty Bf Mf)
noncomputable abbrev veM:List au:=[.type "ValueError",.type "Exception",.type "BaseException",.type "object"]
structure Cls1(h:bV)(S C:aD):Prop where
 ob:∃bm N nm q bs hdct sn sub ab col dd k0 k1 k2 k3 k5 mN,h.get? C=aa (excClassObj nm q C N bs bm hdct sn sub ab col dd k0 k1 k2 k3 k5 "ValueError.__new__")/\h.Ns N mN/\mN "__init__" = ag/\OwnTail h veM bm
section
variable{X:Cx}{E:XK}{S C:aD}{x:bn}{np cpos pos:fD}{e:Expr}{es:List Expr}{t:TA}
def Ze0(C:aD)(E:XK)(t:TA):TS:=λ_ O H=>t O H λvs H'=>vs.length<=aW/\E (.ref C) ag H'
def jZ(D:DefX X E)(hc:X.calm=al)(Z:Cls1 X.base S C)(hg:Gl X x)(hm:X.mg x=aa (.ref C))(ha:PA X (e::es) t)(hd:(x == #[11])=aj)
  (he:aE (e::es) X.env=(aj,cD e X.env)::aE es X.env)(hpl:(dG cpos<|aE es X.env).any (·.1)=aj) :
  PS X (.Raise (aa<|.Call (.Name x np) (e::es) [] cpos) ag pos) (Ze0 C E t):=by
 intro pq s O H Dn I h;obtain⟨bm,N,nm,q,bs,hdct,sn,sub,ab,col,dd,k0,k1,k2,k3,k5,mN,hC,hN,hi,tl⟩:=Z.ob;refine wpAny_Raise_call_subT (nm:=nm) (q:=q) (N:=N) (bs:=bs) (hdct:=hdct) (sn:=sn) (sub:=sub) (ab:=ab) (col:=col) (dd:=dd) (k0:=k0) (k1:=k1) (k2:=k2) (k3:=k3) (k5:=k5)
  PySem.F.excBase_ValueError (tl.hasType PySem.F.excBase_ValueError.hasBase) (I.ok.hd hc) (by rw[he];show(aj||(dG cpos<|aE es X.env).any (·.1))=aj;rw[hpl];rfl) hi (WW I hg hm #[rfl,?_] hd)
 have ha':=ha cpos pq s O H _ I h;rw[he]at ha' ⊢;refine Calls.evalArgs_plain<|dm ha' (λus s2 #[vs,H2,I2,r2,hl,hE]=>#[rfl,by rw[<-r2.length];exact hl,I2.bk _ _ hC,hN.keeps I2.bk,tl.keeps I2.bk,λh' a hx=>?_]) λ_ _ y=>y
 rw[D.xe];have hfr:X.A.frames=aa (X.env::X.outer):=by rw[<-D.st];exact I2.ok.frames
 let hid:=frs X.stack
 have FF:s2.heap.FunFrames (eK s2.heap hid) (X.env::X.outer):=by
  rw[<-D.st];exact FunFrames.rebase I2.stack (λb hb o e=>#[o.slots,e]) λb hb=>c7 _ hb
 have nx:∀b:aD,b∉([]:List aD):=λb=>by simp
 refine wpAny_leaves_madeW hfr D.fr (λb o e=>gL _ e) FF hx λh2 t fl _ _ up=>?_
 obtain⟨g1,_,_,oe,vs',T,oT,ts,e1,e2,e3,e4,e5,e6,e7,e8,e9⟩:=fl;have na:=hx.new;have Ha:H2 a=ag:=by
  cases q:H2 a with
  |none=>rfl
  |some u=>
   obtain⟨o,e⟩:=Z1.there<|I2.hok a u q;rw[na]at e;cases e
 exact Inv.outside (s':=s2) (H':=H2) D I2 (Un.kept λb o e=>e) rfl I2.bare I2.hok na Ha (λb hb=>.inl hb) g1
  ((bV.UpToSlots.of_keeps hx.keeps).trans up) #[oe,vs',.ref t,oT,ts,e1,e2,e3,e4,e6,e7,e8,e9] e5 hE
end
def xwE(cl:List aD)(E:XK):Nat->Hp->Prop:=λc H=>∃C,cl[c]?=aa C/\E (.ref C) ag H
def End.ex_mono{B β:Type}{K:ao}{xw xw':Nat->Hp->Prop}{Z:Mx}{H:Hp}{rep:Mx->Hp->B->β->Prop}{Q:β->Hp->Prop}{r:R B}(k:∀c H,xw c H->xw' c H)(h:End K xw rep Z H Q r):End K xw' rep Z H Q r:=by
 cases r with|ok d S=>exact h|ex c S=>exact λρ' H' f st=>k c H'<|h ρ' H' f st|no=>exact h
section
variable{X:Cx}{E:XK}{S C:aD}{x:bn}{np cpos pos jp p:fD}{e v1 v2:Expr}{es rest:List Expr}{xw:Nat->Hp->Prop}{cl:List aD}{Cc:Calls}{fr:Bool}{ns:List Nat}{n m:Nat}{is:List Ev.E}{i:Ev.E}
def Zbq(D:DefX X E)(hc:X.calm=al)(Y:Cls1 X.base S C)(hn:cl[n]?=aa C)(hg:Gl X x)(hm:X.mg x=aa (.ref C))(hd:(x == #[11])=aj)
  (he:aE [.Constant (.str y) j p] X.env=(aj,cD (.Constant (.str y) j p) X.env)::aE [] X.env)(hpl:(dG cpos<|aE [] X.env).any (·.1)=aj) :
  CS X (xwE cl E) fr Cc ns (.Raise (aa<|.Call (.Name x np) [.Constant (.str y) j p] [] cpos) ag pos) (.raise n []):=.mk <|
 PS.imp (jZ D hc Y hg hm (ZB ZaO Yq he) hd he hpl)<|by
  rintro Dn O H ⟨Z,H0,W,l,os,S,st,en,h⟩;refine#[by show 1<=aW;decide,?_]
  have h:=h;obtain⟨C',e1,e2⟩:=h H en.fut st;rw[hn]at e1;cases e1;exact e2
def spX(K:ao)(cl:List aD)(C:Calls)(fr:Bool)(n:Nat):Sp:=λvs H Q E=>∃Z ds S,St3 K Z S H/\Rq Z H ds vs/\End K (xwE cl E) (XO fr H) Z H Q (C n ds S)
def zt{kk:Nat}{f:aD}{fd:cB}{ps:List bn}(F:FnOk X.prog X.w X.K X.mg X.base (CX1 X.prog X.w) kk f fd ps (spX X.K cl Cc fr n))(hr:Room kk X.A)(hx:Uw (CX1 X.prog X.w) X E)(hw:∀c H,xw c H->xwE cl E c H)(hm:X.mg x=aa (.ref f))(hk:fM X.K (.ref f)=al)(hb:VW X.K fd ps [])
  (ha:CA X xw Cc (e::es) is)(hg:Gl X x)(hdb:(x == #[11])=aj)(he:aE (e::es) X.env=(aj,cD e X.env)::aE es X.env)(hpl:(dG pos<|aE es X.env).any (·.1)=aj) :
  CE X xw Cc #[23] (.call n is):=.mk <|
 PE.imp (xT F hr hg hm hk hb .nil hx ha.h hdb he hpl) λO H Q #[Z,l,S,st,lr,h]=>
  #[Z,l,S,st,lr,End.bind (h) λxs S1 ρ1 H1 vs f1 st1 r1 h1=>by
   rw[cw];exact#[ρ1,xs,S1,st1,r1,(End.ex_mono hw h1).fr]]
end
section
variable{P:bt}{w:bN}{K:ao}{mg:bn->Option au}{base:bV}{cl:List aD}
def za{C C':Calls}{n:Nat}{fn:Fn}{fr:Bool}{x qual:bn}{st:ef}{f:aD}{fd:cB}{N ps:List bn}{k:Nat}(hF:∀Z S H ds vs,St3 K Z S H->Rq Z H ds vs->C' n ds S=.no\/C' n ds S=Gc C fn ds S)(hns:fn.ns=N.length)(hps:fn.ps=ps.length)(Fu:Fun K x qual st f fd)(S:FnScope N ps (Zf st))
  (hb:∀(cdv:au)(A:bU)(outer:List Env)(s:aA)(H:Hp)(E:XK),Room k (A.deeper<|dU qual (Zf st) s.heap.objs.size f cdv)->
   CSs (XT (CX1 P w) P w K mg base N qual (Zf st) f cdv A outer s H E) (xwE cl E) fr C (Pv.muts fn.body) (ZC st) fn.body) :
  FnOk P w K mg base (CX1 P w) (k+1) f fd ps (spX K cl C' fr n):=by
 have eq:∀{Z S H ds vs Q E},St3 K Z S H->Rq Z H ds vs->End K (xwE cl E) (XO fr H) Z H Q (C' n ds S)->End K (xwE cl E) (XO fr H) Z H Q (Gc C fn ds S):=λ{Z S H ds vs Q E} st r h=>by
  rcases hF Z S H ds vs st r with e|e
  .rw[e]at h;exact h.elim
  .rw[e]at h;exact h
 obtain⟨oc,od,kV,doc,pm,an,cdv,ct,osl,rfl,lk,hcd⟩:=Fu.ex;refine Zd0 lk hcd S (λvs H Q E #[Z,ds,S,st,r,h]=>?_) λA outer s H vs Q E hr #[Z,ds,S',st,r,h]=>#[_,(hb cdv A outer s H E hr).h,Z,H,λ_=>ag,Pv.ZO fn.ns ds,[],S',st,Eu.start st r N fn.ns hns,zV (λ_ _ q=>q) (λ_ _ q=>q)<|eq st r h]
 have h:=eq st r h;obtain⟨hl,_⟩:=End.guard h;rw[r.length,hl,hps]
def Zam :FnOk P w K mg base (CX1 P w) k f fd ps (spX K cl (Pv.Zk F tk 0) fr n):=
 #[λvs H Q E #[Z,ds,S,st,r,h]=>False.elim h,by rintro A outer s H args us vs Q E hr e0 hb r ⟨Z,ds,S,st,r',h⟩;exact False.elim h]
def Zay{N:List bn}{qual:bn}{sc:dO}{f:aD}{cdv:au}{A:bU}{outer:List Env}{s:aA}{H:Hp}{E:XK}:DefX (XT (CX1 P w) P w K mg base N qual sc f cdv A outer s H E) E:=#[rfl,rfl,rfl,rfl]
def Zgl :Uw (CX1 X.prog X.w) X E0:=by rintro pq O H s e s' I ⟨_,_,_,_,_,_,_,_,_,_,_,_,_,_,z⟩;exact z.elim
end
end Sd
namespace Sd
open PySem PySem.Spec PyProof.Rows L2 PySem.W
structure ExK(K:Frag)(C:aD):Prop where
 cd:(clsIn K C).isSome=al
 ga:pU K (.ref C) "__getattribute__" = aa (aa<|.builtin "BaseException.__getattribute__")
 gx:pU K (.ref C) "__getattr__" = aa ag
 gc:pU K (.ref C) "__class__" = aa (aa<|.builtin "object.__class__")
 be:mroIn K C (.type "BaseException")=aa al
 ob:mroIn K C (.type "object")=aa al
section
variable{prog:bt}{w:bN}{A:bU}{E:au->aA->Prop}{h:bV}{g:Array pF}{d:Drawn}{t:Nat}{os:OsState}{a C:aD}{o:eW}{K:Frag}
def ZbI{R:rG->aA->Prop}(X:K.In h)(k:ExK K C)(hx:h.get? a=aa o)(hc:o.cls=.ref C)(hq:R (.ok<|.ret<|.ref C) #[h,g,d,t,os]) :
  gV #[8] A (.call (.builtin "getset_descriptor.__get__") #[[.builtin "object.__class__",.ref a,.ref C],[]]) R #[h,g,d,t,os]:=by
 have hT5:=h8;have L1:Looks #[8] h (isSubtype (.ref C)<|.type<|".".intercalate ("object.__class__".cutAt '.').dropLast) al:=by
  rw[F.owner_object_class];exact looks_mroIn X k.ob
 refine iF F.slot_gs_get.plain F.entry_gs_get<|F.slot_gs_get.check _ _ _ _ _ _ _ _ hT5 (F.args_gs_get _ _ _) ?_
 repeat(any_goals (first|assumption|(with_reducible refine fI hx ?_;rw[hc])|with_reducible refine L1.at ?_|wp_step))
 refine#[Code.quiet_builtin _ (by decide +kernel),gJ F.entry_object_class ?_]
 repeat(any_goals (first|assumption|(with_reducible refine fI hx ?_;rw[hc])|wp_step))
def uW{Q:Unit->aA->Prop}(X:K.In h)(k:ExK K C)(hx:h.get? a=aa o)(hc:o.cls=.ref C)(hq:Q () #[h,g,d,t,os]) :
  aX M A (checkBuiltinCall "BaseException.__getattribute__" #[[.ref a,nameV],[]]) Q E #[h,g,d,t,os]:=by
 have hk:builtinKind "BaseException.__getattribute__" = aa .slot:=by decide +kernel
 have hsplit:splitId "BaseException.__getattribute__" = aa ("BaseException","__getattribute__"):=by decide +kernel
 have L1:Looks M h (isSubtype (.ref C)<|.type "BaseException") al:=looks_mroIn X k.be;have ha:=F.args_bexc_ga (.ref a) nameV;simp only[checkBuiltinCall,hk,hsplit];refine ae ?_;unfold isInstance
 repeat(first|(with_reducible refine fI hx ?_;rw[hc])|with_reducible refine L1.at ?_|wp_step)
 exact hq
def ut{Q:Fin->aA->Prop}(X:K.In h)(k:ExK K C)(hx:h.get? a=aa o)(hc:o.cls=.ref C)(hq:Q (.done<|.ret<|.ref C) #[h,g,d,t,os]) :
  aX #[8] A (eQ.«object.__getattribute__» #[[.ref a,.str "__class__" tk],[]]) Q E #[h,g,d,t,os]:=by
 have hT5:=h8;have f5:=h8;have f6:=F.slot_gs_get.lookup;have f7:=F.slot_gs_set.lookup;have L1:Looks #[8] h (i9 (.ref C) "__class__") (aa<|.builtin "object.__class__"):=oC X k.gc
 repeat(any_goals (first|assumption|(with_reducible refine fI hx ?_;rw[hc])|with_reducible refine L1.at ?_|wp_step))
 refine ZbI X k hx hc ?_
 repeat(any_goals (first|assumption|wp_step))
def Zet{Q:au->aA->Prop}(X:K.In h)(k:ExK K C)(hx:h.get? a=aa o)(hc:o.cls=.ref C)(hq:Q (.ref C) #[h,g,d,t,os]) :
  aX #[8] A (getAttrBy (.ref a) (.str "__class__" tk) aj) Q E #[h,g,d,t,os]:=by
 have f3:=PySem.F.excAttr_ValueError.ga.bind<|.ref a;have hx2:(kY "BaseException.__getattribute__" == kY "object.__getattribute__")=aj:=by decide +kernel
 have hx1:(onTheHeap (cG C)&&kY "BaseException.__getattribute__" == kY "object.__getattribute__")=aj:=by rw[hx2];rfl
 have L1:Looks #[8] h (i9 (.ref C) "__getattribute__") (aa<|.builtin "BaseException.__getattribute__"):=oC X k.ga;have L2:Looks #[8] h (i9 (.ref C) "__getattr__") ag:=oC X k.gx
 repeat(any_goals (first|assumption|(with_reducible refine fI hx ?_;rw[hc])|with_reducible refine L1.at ?_|with_reducible refine L2.at ?_|wp_step))
 refine iF PySem.F.excAttr_ValueError.ga.plain F.entry_bexc_ga<|uW X k hx hc<|ut X k hx hc ?_
 repeat(any_goals (first|assumption|wp_step))
def uc{Q:Option au->aA->Prop}(X:K.In h)(k:ExK K C)(hx:h.get? a=aa o)(hc:o.cls=.ref C)(hq:Q (aa<|.ref C) #[h,g,d,t+1,os]) :
  aX #[8] A (pS (.ref a) "__class__") Q E #[h,g,d,t,os]:=by
 unfold pS getAttrBy?
 repeat(any_goals (first|assumption|with_reducible apply Zet X k hx hc|wp_step))
end
def Zaf{K:Frag}{a C:aD}(k:ExK K C):KitX K (.ref a) (.ref C) (λh=>∃o,h.get? a=aa o/\o.cls=.ref C) where
 ty:=λ_ _ _ #[o,hx,hc]=>hc▸(Looks.ld hx).andThen .now
 it:=λ_ _ X _=>by
  have hcD:=k.cd;unfold clsIn at hcD;split at hcD
  .rename_i c' d' cd' sl' ho
   intro A' Q' E' s' kk q;exact ae<|wpAny_loadPart (kk _ _<|X _ _ ho)<|aB q
  .cases hcD
 ne:=λh tp dd its n sl X htp=>by
  have hcD:=k.cd;refine Bool.eq_false_iff.mpr λq=>?_
  have e:=cG.inj<|beq_iff_eq.mp q;subst e;unfold clsIn at hcD;split at hcD
  .rename_i c' d' cd' sl' ho
   have z:=(X _ _ ho).symm.trans htp;cases z
  .cases hcD
 ca:=λ{_ _ _ _ _ s} X #[o,hx,hc] q=>by obtain⟨h,g,d,t,os⟩:=s;exact uc X k hx hc q
end Sd
namespace Sd
open PySem PySem.Spec PyProof.Rows L2
section
def Inv.slots(D:DefX X E)(I:L2.Inv X pq O H s)(hh:∀b∈hid,b∈frs X.stack\/(X.s₀.heap.get? b=ag/\H b=ag/\∀p∈X.pn++pq,p.1≠b))
  (st:(eK s.heap hid).StaysIn h')(up:s.heap.UpToSlots h'):L2.Inv X pq O H {s with heap:=h' }:=by
 have keep:=λb u e n=>st b u<|gv _ e n
 have nof:∀b∈frs X.stack,∀o,s.heap.get? b=aa o->∀vs,o.data≠.fields vs:=λb hb o e=>by
  obtain⟨_,o1,ho,hd⟩:=I.stack.mem hb;rw[e]at ho;cases ho;exact hd
 have frS:=λb hb o e=>up b o e<|nof b hb o e
 have frH:=I.stkFree;have sub:∀b∈X.fs,b∈frs X.stack:=λb hb=>by
  change b∈frs X.outer at hb
  rw[D.st];unfold frs at hb ⊢;rw[cn,D.fr];exact am _ hb
 have own:∀b o,X.s₀.heap.get? b=aa o->b∈frs X.stack->b∈X.fs:=λb o e hb=>by
  rw[D.st]at hb;show b∈frs X.outer;unfold frs at hb ⊢;rw[cn,D.fr]at hb;rcases az.mp hb with z|z
  .exact T7 (aH e) (by rw[z];exact lD I.ok.above)
  .exact z
 have hidN:=λb hb=>(hh b hb).elim (frH b) λz=>z.2.1
 have old:∀b o,X.s₀.heap.get? b=aa o->b∉X.fs->b∉hid:=λb o e hb hm=>by
  rcases hh b hm with z|z
  .exact hb<|own b o e z
  .rw[e]at z;cases z.1
 have U:=I.base;refine#[I.ok,I.os,I.bare,#[λb o e n hb hx=>keep b o (U.keep b o e n hb hx)<|old b o e hb,λb o e n hb hx=>?_,U.free,λb o e hx=>?_,U.tups,U.frzs,U.tbls],?_,λy c e=>?_,I.free,I.freeC,λp hp=>?_,λc o e=>?_,I.len]
 .obtain⟨sl,e1⟩:=U.slot b o e n hb hx
  obtain⟨sl2,e2⟩:=frS b (sub b hb) _ e1;exact#[sl2,e2]
 .obtain⟨o1,e1⟩:=U.there b o e hx
  by_cases hm:b∈frs X.stack
  .obtain⟨sl,e2⟩:=frS b hm o1 e1
   exact#[_,e2]
  .refine#[o1,keep b o1 e1 λz=>?_]
   rcases hh b z with q|q
   .exact hm q
   .rw[e]at q;cases q.1
 .obtain⟨m,hn,hl⟩:=I.loc
  refine#[m,up.ns hn,λi x v e1 e2 e3=>?_]
  obtain⟨u,r,q⟩:=hl i x v e1 e2 e3;refine#[u,r,?_];rcases q with q|⟨k,c,e,z⟩
  .exact .inl q
  .refine .inr #[k,c,e,?_]
   obtain⟨o,ho,hd⟩:=z;obtain⟨sl,e2⟩:=up c o ho λvs q=>by rw[hd]at q;cases q
   exact#[_,e2,hd]
 .obtain⟨v,o,ho,hd⟩:=I.cell y c e
  obtain⟨sl,e2⟩:=up c o ho λvs q=>by rw[hd]at q;cases q
  exact#[v,_,e2,hd]
 .obtain⟨e,n,ne,nf,d⟩:=I.pin p hp
  refine#[keep _ _ e λz=>?_,n,ne,nf,d]
  rcases hh p.1 z with q|q
  .rw[D.st]at q;unfold frs at q;rw[cn,D.fr]at q
   rcases az.mp q with q|q
   .exact ne q
   .exact nf q
  .exact q.2.2 p hp rfl
 .refine(I.hok c o e).stay (λb u hb q=>?_) (λ_ q=>q) λ_ _ q=>q
  have nh:∀b u,H b=aa u->b∉hid:=λb u e hm=>by rw[hidN b hm]at e;cases e
  rcases hb with rfl|hb
  .exact keep _ u q<|nh _ _ e
  .exact keep _ u q<|nh _ _ hb
def Inv.freeze(I:L2.Inv X pq O H s)(ha:s.heap.get? a=aa o)(Ha:H a=ag)(n0:X.s₀.heap.get? a=ag)(hl:a≠X.env.locals)(hc:∀x c,X.env.cells.lookup x=aa c->c≠a)(hp:∀p∈X.pn++pq,p.1≠a) :
  L2.Inv X pq O (upd H a<|.frz o<|.own a) s:=by
 have nu:∀b u,H b=aa u->upd H a (.frz o<|.own a) b=aa u:=λb u e=>by rw[Zi λz=>by rw[z,Ha]at e;cases e];exact e
 have nn:∀b,b≠a->H b=ag->upd H a (.frz o<|.own a) b=ag:=λb z e=>by rw[Zi z];exact e
 have U:=I.base;refine#[I.ok,I.os,I.bare,#[U.keep,U.slot,λb o e n hx=>nn b (λz=>by rw[z,n0]at e;cases e)<|U.free b o e n hx,U.there,λb xs e=>nu _ _<|U.tups b xs e,λb o u e=>nu _ _<|U.frzs b o u e,λb ps e=>?_],I.loc,I.cell,nn _ (Ne.symm hl) I.free,λx c e=>nn _ (hc x c e)<|I.freeC x c e,λp hp'=>?_,λc u e=>?_,I.len]
 .obtain⟨more,e1⟩:=U.tbls b ps e
  exact#[more,nu _ _ e1]
 .obtain⟨e,n,r⟩:=I.pin p hp'
  exact#[e,nn _ (hp p hp') n,r]
 .by_cases z:c=a
  .subst z
   rw[Zj]at e;cases e;exact#[ha,_,ha]
  .rw[Zi z]at e
   exact(I.hok c u e).stay (λb v hb q=>q) (λ_ q=>nu _ _ q) λ_ _ q=>nu _ _ q
def ZcI{E:au->aA->Prop}{Q:Unit->aA->Prop}(I:L2.Inv X pq O H s)(hN:X.N.Nodup)(hi:X.N[i]?=aa n)(hk:X.env.kindOf n=aa .local)
  (h:∀s',L2.Inv X pq (O.set i ag) H s'->Q () s'):aX M A (do bindName X.env n .none;unbindBehindTheSuite X.env n pos) Q E s:=by
 obtain⟨m,hn,hl⟩:=id I.loc;have hcls:(X.env.scope.kind == .class||(X.env.scope.kind == .module&&X.env.locals != X.env.globals))=aj:=by rw[I.ok.kind];rfl
 have hiσ:i<O.length:=by rw[I.len];exact(aK.mp hi).1
 refine wpAny_nameGoes_keeps hk hn hcls λh' v hn' hs=>?_
 obtain⟨oL,_,_,hoL,_⟩:=id hn;have ab:∀b o,X.s₀.heap.get? b=aa o->b≠X.env.locals:=λb o e=>bh<|bi (aH e) I.ok.above
 have U:=I.base;refine h _ #[I.ok,I.os,I.bare,#[λb o e n hb hx=>(hs.2 b<|ab b o e).trans<|U.keep b o e n hb hx,λb o e n hb hx=>?_,U.free,λb o e hx=>?_,U.tups,U.frzs,U.tbls],#[_,hn',λj y v' e1 e2 e3=>?_],λy c e=>?_,I.free,I.freeC,λp hp=>?_,λc o e=>?_,by simpa using I.len]
 .obtain⟨sl,e1⟩:=U.slot b o e n hb hx
  exact#[sl,(hs.2 b<|ab b o e).trans e1]
 .obtain⟨o',e1⟩:=U.there b o e hx
  exact#[o',(hs.2 b<|ab b o e).trans e1]
 .by_cases hj:j=i
  .subst hj
   rw[bc hiσ]at e2;cases e2
  .rw[a9<|Ne.symm hj]at e2
   obtain⟨u',r',q⟩:=hl j y v' e1 e2 e3;refine#[u',r',?_];rcases q with⟨k,e⟩|⟨k,c,e,z⟩
   .refine .inl #[k,?_]
    have:y≠n:=λe=>hj<|Uo hN e1<|e▸hi
    simp[this,e]
   .exact .inr #[k,c,e,z.sameBut hs<|I.cne y c e]
 .obtain⟨w',z⟩:=I.cell y c e
  exact#[w',z.sameBut hs<|I.cne y c e]
 .obtain⟨e,n,ne,nf,d⟩:=I.pin p hp
  exact#[(hs.2 p.1 ne).trans e,n,ne,nf,d]
 .refine(I.hok c o e).stay (λb u hb q=>(hs.2 b λz=>?_).trans q) (λ_ q=>q) λ_ _ q=>q
  subst z;rcases hb with rfl|hb
  .rw[I.free]at e;cases e
  .rw[I.free]at hb;cases hb
noncomputable abbrev Cx.held(X:Cx)(a:aD):Cx:={X with A:=X.A.mark<|aa<|.ref a,calm:=aj,xe:=λ_ _=>False}
theorem Inv.held(I:L2.Inv X pq O H s):L2.Inv (Cx.held X a) pq O H s:=
 #[#[I.ok.mod,I.ok.kind,I.ok.glob,I.ok.blt,I.ok.above,I.ok.inj,I.ok.has,I.ok.cab,(λz=>by cases z),I.ok.frames,I.ok.stk,I.ok.exf,I.ok.bs,I.ok.bsz,I.ok.noex,I.ok.exfs,I.ok.funs,I.ok.frf],I.os,I.bare,I.base,I.loc,I.cell,I.free,I.freeC,I.pin,I.hok,I.len]
def Inv.unheld(ok:X.Ok)(I:L2.Inv (Cx.held X a) pq O H s):L2.Inv X pq O H s:=
 #[ok,I.os,I.bare,I.base,I.loc,I.cell,I.free,I.freeC,I.pin,I.hok,I.len]
def ZfP{M:Model}{A:bU}{E:au->aA->Prop}{i:Nat}{x:bn}{pos:fD}{v:V}{Q:au->aA->Prop}(I:L2.Inv X pq O H s)(hi:X.N[i]?=aa x)(hv:Vis X.env.scope x)(e:O[i]?=aa (aa v))(h:∀u,Zy v u->Q u s)
  (hd:(x == #[11])=aj)(hcd:(x == #[16])=aj):aX M A (cD (.Name x pos) X.env) Q E s:=by
 obtain⟨m,hn,hl⟩:=I.loc;obtain⟨u,r,l⟩:=hl i x v hi e hv;rcases l with⟨hk,hm⟩|⟨hk,c,hc,hcell⟩
 .exact iW (iu I.ok.kind hk hn hm<|h u r) hd
 .rcases hk with hk|hk
  .exact iW (iQ I.ok.kind hk hc hcell<|h u r) hd
  .exact iW (mT I.ok.kind hk hc hcell (h u r) hcd) hd
def Zdh{Dn:Ends}{E1:XK}{g S:aD}{ic ie ir:Nat}{xc n xr xS:bn}{p1 p2 p3 p4 p5 p6 p7 p8 p9:fD}(D:DefX X E)(I:L2.Inv X pq O H s)(hN:X.N.Nodup)
  (hic:X.N[ic]?=aa xc)(hvc:Vis X.env.scope xc)(hsc:O[ic]?=aa (aa<|.ref g))(hie:X.N[ie]?=aa n)(hke:X.env.scope.names.lookup n=aa .local)(hir:X.N[ir]?=aa xr)(hlr:X.env.scope.names.lookup xr=aa .local)
  (hgS:Gl X xS)(hmS:X.mg xS=aa (.ref S))(hg:PySem.W.FnAt g s.heap)
  (run:gV #[9] X.A (.call (.ref g) #[[],[]]) (CR (CX1 X.prog X.w) X.stack X.prog X.w H s (λ_ H'=>Dn.nx O H') E1) s)
  (hE1:∀C H',E1 (.ref C) ag H'->pV X.K (.ref C) (.ref S)=aa al/\∀a oe,H' a=ag->oe.cls=.ref C->Dn.nx (((O.set ie<|aa<|.ref a).set ir<|aa<|.ref a).set ie ag) (upd H' a<|.frz oe<|.own a))
  (hd1:(xc == #[11])=aj)(hd2:(xc == #[16])=aj)(hd3:(n == #[11])=aj)(hd4:(n == #[16])=aj)(hd5:(xS == #[11])=aj)
  (hs1:ej (.Call (.Name xc p1) [] [] p2) ag p3.line X.env=cy aj)(hs2:ej (.Name n p6) (aa<|.Name xr p5) p7.line X.env=cy aj) :
  aX #[9] X.A (exec (.Try [.Expr (.Call (.Name xc p1) [] [] p2) p3] [.ExceptHandler (aa<|.Name xS p4) (aa n) [.Assign [.Name xr p5] (.Name n p6) p7] p8] [] [] p9) X.env) (SP X pq Dn) X.xe s:=by
 refine wpAny_Try_except<|fV<|wpAny_Expr_any ?_ I.quiet hs1;refine eB ?_;refine ZfP I hic hvc hsc (λu r=>?_) hd1 hd2
 obtain rfl:u=cG g:=r;refine PySem.W.callWith_F0 hg<|pH<|gW run λr s' hq=>?_
 cases r with
 |ok fl=>
  cases fl with
  |ret u=>
   obtain⟨v,H',I',r',q'⟩:=I.after hq;exact fw<|fw #[O,H',I',q']
  |next=>exact False.elim hq
  |brk=>exact False.elim hq
  |cont=>exact False.elim hq
 |error e=>
  obtain⟨a,T,C,H',rfl,os,bare,un,hok,fly,na,nT,Ha,HT,hE⟩:=hq;obtain⟨exm,fin⟩:=hE1 C H' hE;have nx:∀b:aD,b∉([]:List aD):=λb=>by simp
  have hfr:X.A.frames=aa (X.env::X.outer):=by rw[<-D.st];exact I.ok.frames
  have I1:L2.Inv X pq O H' s':=by
   obtain⟨hh,gg,d,t,os'⟩:=s';obtain rfl:os'=s.os:=os;exact I.call (h':=hh) (g':=gg) (d':=d) (t':=t) un hok bare (λb z=>T7 z #[2])
  let hid:=frs X.stack++[a,T]
  have hin:∀b∈frs X.stack,b∈hid:=λb hb=>c8 _ hb
  have old0:∀b,s.heap.get? b=ag->X.s₀.heap.get? b=ag:=λb e=>by
   cases q:X.s₀.heap.get? b with
   |none=>rfl
   |some o=>
    have U1:=I.base;rw[D.ex]at U1;obtain⟨o1,e1⟩:=U1.there b o q<|nx b;rw[e]at e1;cases e1
  have pn:∀b,s.heap.get? b=ag->∀p∈X.pn++pq,p.1≠b:=λb e p hp z=>by
   have:=(I.pin p hp).1;rw[z,e]at this;cases this
  have hhid:∀b∈hid,b∈frs X.stack\/(X.s₀.heap.get? b=ag/\H' b=ag/\∀p∈X.pn++pq,p.1≠b):=λb hb=>by
   rcases cc.mp hb with z|z
   .exact .inl z
   .rcases az.mp z with rfl|z
    .exact .inr #[old0 _ na,Ha,pn _ na]
    .rw[a8.mp z];exact .inr #[old0 _ nT,HT,pn _ nT]
  have FF:s'.heap.FunFrames (eK s'.heap hid) (X.env::X.outer):=by
   rw[<-D.st];exact FunFrames.rebase I1.stack (λb hb o e=>#[o.slots,e]) λb hb=>c7 _<|hin b hb
  obtain⟨oe,vs,a0,oT,ts,f1,f2,f3,f4,f5,f6,f7,f8⟩:=fly;refine wpAny_looks_onW hfr D.fr #[λb o e=>gL _ e,c7 _<|bq _<|ak ..,FF,oe,vs,T,oT,ts,f1,f2,f3,f4,c7 _<|bq _<|am _<|ak ..,f5,f6,f7,f8] λh1 held up1=>?_
  refine wpAny_landsW held λh2 fly2 up2=>?_
  have I2:=Inv.slots D I1 hhid fly2.1<|up1.trans up2
  obtain⟨oe2,ge2,ce2⟩:=fly2.there;have K2:=I2.kIn;refine wpAny_handleBy_cons (codeAny_handlers_test<|WW (Inv.held I2) hgS hmS ?_ hd5) (by intro q;cases q)
  refine(PySem.W.exm_one K2 (ce2▸(PySem.W.Looks.ld ge2).andThen .now) exm).here ?_;refine codeAny_handlers_suite_as ?_;obtain⟨k1,k2,k3,k4⟩:=fly2;refine wpAny_setFlight_noneW k1 k3 k4 λh3 m1 m2 m3 m4=>?_
  have I3:=Inv.slots D I1 hhid m1<|(up1.trans up2).trans λb o e hn=>#[o.slots,m4 b o e hn]
  obtain⟨oe3,vs3,T3,oT3,ts3,ge3,⟨ce3,_⟩,de3,_⟩:=m3;have I4:=Inv.freeze I3 ge3 Ha (old0 _ na)
   (λz=>by
    obtain⟨m,⟨o,es,ep,ho,hd,_⟩,_⟩:=I3.loc;have e1:=ho;rw[<-z,ge3]at e1;cases e1;rw[de3]at hd;cases hd)
   (λx c e z=>by
    obtain⟨v,o,ho,hd⟩:=I3.cell x c e;have e1:=ho;rw[z,ge3]at e1;cases e1;rw[de3]at hd;cases hd) (pn _ na)
  refine Xv I4 hN hie (.inl hke) (v:=.ref a) rfl (λs4 I5=>?_)<|.inr hke
  have hiσ:ie<O.length:=by rw[I.len];exact(aK.mp hie).1
  refine dm ((Ul<|UQ (X:=Cx.held X a) (pos':=p5) hN hir (.inl hlr) (Yo hie (.inl hke) hd3 hd4) hs2<|.inr hlr) pq s4 _ _
   {nx:=λσ' H1=>σ'=(O.set ie<|aa<|.ref a).set ir (aa<|.ref a)/\H1=upd H' a (.frz oe3<|.own a),rt:=λ_ _=>False} (Inv.held I5) #[.ref a,bc hiσ,rfl,rfl]) (λf s5 hsp=>?_) λ_ _ z=>False.elim z
  cases f with
  |next=>
   obtain⟨σ',H1,J,rfl,rfl⟩:=hsp;exact ZcI (Inv.unheld I.ok J) hN hie hke λs6 I6=>#[_,_,I6,fin a oe3 Ha ce3]
  |ret u=>obtain⟨_,_,_,_,_,z⟩:=hsp;exact z.elim
  |brk=>obtain⟨_,_,_,z⟩:=hsp;exact False.elim z
  |cont=>obtain⟨_,_,_,z⟩:=hsp;exact False.elim z
open Ev (E Sm Fn Bop Cop Ty Bf Mf)
structure Gr(H H':Hp):Prop where
 k:∀b u,H b=aa u->(∀ps,u≠.tbl ps)->H' b=aa u
 t:∀b ps,H b=aa (.tbl ps)->∃qs,H' b=aa (.tbl qs)
def Gr.fut(g:Gr H H'):Fut Z H Z H':=#[rfl,λa o e=>by
 cases o with
 |tbl ps=>exact .inr<|.inr #[#[ps,rfl],g.t a ps e]
 |_=>exact .inl<|g.k a _ e λps z=>by cases z]
def St3.grow{K:ao}{Z:Mx}{S:Zv}{H H':Hp}(st:St3 K Z S H)(g:Gr H H')(tb:Tb H'):St3 K Z S H':=
 #[st.hk,λa x=>by
  obtain⟨o,e⟩:=kf.mp<|st.xd a x;rcases(g.fut).keep a o e with q|⟨h,_⟩|⟨_,_,q⟩
  .rw[q];intro z;cases z
  .rw[g.k a _ (st.dw a h).1 λps z=>by cases z];intro z;cases z
  .rw[q];exact Option.some_ne_none _,λa h=>#[g.k a _ (st.dw a h).1 λps z=>(by cases z),(st.dw a h).2],tb]
def xJ(l:List au)(h:oN l)(e:iV q (l++[gw a,gw b,c])=aa cv):iV q l=aa cv\/cv=c:=by
 fun_induction oN l with
 |case1=>
  simp only[fz,iV,gw]at e;split at e
  .cases e;exact .inr rfl
  .cases e
 |case2 a' t b' u x rest ih=>
  simp only[List.cons_append,iV]at e ⊢;split at e
  .rename_i z;rw[T9 z];exact .inl e
  .rename_i z;rw[T8 z];exact ih h e
 |case3 l h1 h2=>exact h.elim
section
variable{X:Cx}{E:au->aA->Prop}{pq:List (aD×eW)}{O:L2.St}{H:Hp}{s:aA}
theorem Inv.grow(I:L2.Inv X pq O H s){h':bV}{tk:rm}{P:aD}{ps more:Array au}(hP:H P=aa (.tbl ps))(hx:fO P s.heap h')(hT:h'.get? P=aa {cls:=.none,data:=.fields (ps++more)}){new:List (aD×eW)}
  (hn:∀p∈new,s.heap.objs.size<=p.1/\h'.get? p.1=aa p.2)(nd:(new.map (·.1)).Nodup) :
  let H':=new.foldl (λG p=>upd G p.1<|.frz p.2<|.own p.1)<|upd H P<|.tbl<|ps++more
  L2.Inv X pq O H' {s with heap:=h',toks:=tk}/\Gr H H'/\(∀p∈new,H' p.1=aa (.frz p.2<|.own p.1))/\H' P=aa (.tbl<|ps++more)/\∀b qs,H' b=aa (.tbl qs)->(b=P/\qs=ps++more)\/H b=aa (.tbl qs):=by
 intro H';have hPs:=Z1.lt<|I.hok P _ hP;have H0:∀b,(∀p∈new,p.1≠b)->H' b=upd H P (.tbl<|ps++more) b:=by
  have gen:∀(l:List (aD×eW))(G:Hp)(b:aD),(∀p∈l,p.1≠b)->l.foldl (λG p=>upd G p.1<|.frz p.2<|.own p.1) G b=G b:=by
   intro l
   induction l with
   |nil=>intro G b _;rfl
   |cons p l ih=>
    intro G b h;rw[dC,ih _ b λq hq=>h q<|am _ hq,Zi<|Ne.symm<|h p<|ak ..]
  exact λb h=>gen new _ b h
 have H1:∀p∈new,H' p.1=aa (.frz p.2<|.own p.1):=by
  have gen:∀(l:List (aD×eW))(G:Hp),(l.map (·.1)).Nodup->∀p∈l,l.foldl (λG p=>upd G p.1<|.frz p.2<|.own p.1) G p.1=aa (.frz p.2<|.own p.1):=by
   intro l
   induction l with
   |nil=>intro G _ p hp;simp at hp
   |cons q l ih=>
    intro G hd p hp;rw[aZ,da]at hd;rw[dC];rcases az.mp hp with rfl|hp
    .have rest:∀(l:List (aD×eW))(G:Hp)(b:aD),b∉l.map (·.1)->l.foldl (λG p=>upd G p.1<|.frz p.2<|.own p.1) G b=G b:=by
      intro l
      induction l with
      |nil=>intro G b _;rfl
      |cons p l ih=>
       intro G b h;rw[aZ,az,not_or]at h;rw[dC,ih _ b h.2,Zi h.1]
     rw[rest l _ _ hd.1,Zj]
    .exact ih _ hd.2 p hp
  exact gen new _ nd
 have new0:∀b,b<s.heap.objs.size->∀p∈new,p.1≠b:=λb hb p hp z=>by have q:=(hn p hp).1;rw[z]at q;lia
 have old:∀b u,H b=aa u->b≠P->H' b=aa u:=λb u e z=>by
  rw[H0 b<|new0 b<|Z1.lt<|I.hok b u e,Zi z];exact e
 have HP:H' P=aa (.tbl<|ps++more):=by rw[H0 P<|new0 P hPs,Zj]
 have cases':∀b u,H' b=aa u->(∃p∈new,p.1=b/\u=.frz p.2 (.own p.1))\/(b=P/\u=.tbl (ps++more))\/(b≠P/\H b=aa u):=λb u e=>by
  by_cases q:∃p∈new,p.1=b
  .obtain⟨p,hp,rfl⟩:=q
   rw[H1 p hp]at e;cases e;exact .inl #[p,hp,rfl,rfl]
  .rw[H0 b λp hp z=>q #[p,hp,z]]at e
   by_cases z:b=P
   .subst z;rw[Zj]at e;cases e;exact .inr<|.inl #[rfl,rfl]
   .rw[Zi z]at e;exact .inr<|.inr #[z,e]
 have gr:Gr H H':=#[λb u e n=>old b u e λz=>(by rw[z,hP]at e;cases e;exact n ps rfl),λb qs e=>by
  by_cases z:b=P
  .subst z;exact#[_,HP]
  .exact#[qs,old b _ e z]]
 refine#[I.un #[λb o e n _ _=>hx b o (λz=>by rw[z,hP]at n;cases n) e,λb o e n _ _=>#[o.slots,hx b o (λz=>by rw[z,hP]at n;cases n) e],λb o e n _=>?_,λb o e _=>?_,λb xs e=>gr.k b _ e (λps z=>by cases z),λb o u e=>gr.k b _ e (λps z=>by cases z),λb qs e=>?_] λb u e=>?_,gr,H1,HP,λb qs e=>?_]
 .rw[H0 b<|new0 b<|aH e,Zi λz=>by rw[z,hP]at n;cases n];exact n
 .by_cases z:b=P
  .subst z;exact#[_,hT]
  .exact#[o,hx b o z e]
 .by_cases z:b=P
  .subst z;rw[hP]at e;cases e;exact#[more,HP]
  .exact#[#[],by rw[old b _ e z];simp]
 .rcases cases' b u e with⟨p,hp,rfl,rfl⟩|⟨rfl,rfl⟩|⟨z,e0⟩
  .exact#[(hn p hp).2,_,(hn p hp).2]
  .exact hT
  .refine(I.hok b u e0).stay (λc v hc q=>hx c v ?_ q) (λc q=>gr.k c _ q λps z=>by cases z) λc xs q=>gr.k c _ q λps z=>by cases z
   rcases hc with rfl|hc
   .exact z
   .intro y;rw[y,hP]at hc;cases hc
 .rcases cases' b _ e with⟨p,hp,rfl,z⟩|⟨rfl,z⟩|⟨z,e0⟩
  .cases z
  .cases z;exact .inl #[rfl,rfl]
  .exact .inr e0
def Tb.grow(tb:Tb H)(g:Gr H H')(hb:∀b rs,H' b=aa (.tbl rs)->(b=P/\rs=qs)\/H b=aa (.tbl rs))(ht:oN qs.toList)
  (hc:∀pos cv,iV pos qs.toList=aa cv->∃(c:aD)(oc:eW)(vs:Array au)(t:rm),cv=.ref c/\H' c=aa (.frz oc<|.own c)/\oc.data=.fields vs/\vs[1]?=aa (.str YU t)):Tb H':=λb rs e=>by
 rcases hb b rs e with⟨_,rfl⟩|e0
 .exact#[ht,hc]
 .obtain⟨h1,h2⟩:=tb b rs e0
  refine#[h1,λpos cv q=>?_]
  obtain⟨c,oc,vs,t,e1,e2,e3⟩:=h2 pos cv q;exact#[c,oc,vs,t,e1,g.k c _ e2 (λps z=>by cases z),e3]
def Zai{P c:aD}{ps:Array au}{params:oI}{body:Expr}{scope:dO}{pos:fD}{clos:List (bn×aD)}{Q:au->aA->Prop}(I:L2.Inv X pq O H s)(tb:Tb H)(hP:H P=aa (.tbl ps))(hcode:X.env.code=.ref c)(C:dA X.base c P)(hB:X.base.BuiltinsAt X.mg P)(hgP:bv≠P)
  (hq:X.env.qual++"<lambda>" = YU)(hcl:ig scope X.env=cy clos)(hdef:defaultsOf params X.env=([],[]))
  (h:∀(g c':aD)(oc:eW)(vs:Array au)(t:rm)(pm ctv:au)(H':Hp)(s':aA),L2.Inv X pq O H' s'->Gr H H'->Tb H'->(∃ps',H' P=aa (.tbl ps'))->H' g=aa (.frz (fA "<lambda>" YU params body scope clos pm c' ctv)<|.own g)->
   H' c'=aa (.frz oc<|.own c')->oc.data=.fields vs->vs[1]?=aa (.str YU t)->Q (.ref g) s') :
  aX #[9] X.A (cD (.Lambda params body scope pos) X.env) Q E s:=by
 refine PySem.W.kla_eval hdef ?_;rw[hq];have hPo:=I.hok P _ hP;obtain⟨ht,hcs⟩:=tb P ps hP;have hg:=I.ok.mod.glob.keeps I.bk;have hBs:s.heap.BuiltinsAt X.mg P:=by
  obtain⟨bm,o,b1,b2,b3,b4,b5,b6⟩:=hB;exact#[bm,o,b1,b2,b3,b4,I.bk _ _ b5,b6]
 cases q:iV pos ps.toList with
 |some cv=>
  obtain⟨c',oc,vs,t,rfl,e2,e3,e4⟩:=hcs pos cv q;refine PySem.W.kla_makeFunctionHit hcl I.ok.glob hg hcode (C.keeps I.bk) hPo ht q hBs λctv h' tk hk hz=>?_
  have kp:∀b o,s.heap.get? b=aa o->(h'.push<|fA "<lambda>" YU params body scope clos ((X.mg "__name__").getD .none) c' ctv).get? b=aa o:=λb o e=>av _<|hk b o e
  obtain⟨I',gr,n1,hP',tbs⟩:=Inv.grow I hP (λb o _ e=>kp b o e) (by rw[kw];exact kp _ _ hPo)
   (new:=[(h'.objs.size,fA "<lambda>" YU params body scope clos ((X.mg "__name__").getD .none) c' ctv)]) (λp hp=>by
    rw[a8.mp hp];exact#[hz,aM _ rfl]) #[2]
  refine h _ c' oc vs t _ ctv _ _ I' gr (tb.grow gr tbs (by rw[kw];exact ht) λpos' cv' q'=>?_) #[_,hP'] (n1 _<|ak ..) (gr.k _ _ e2 λps z=>by cases z) e3 e4
  rw[kw]at q';obtain⟨c2,oc2,vs2,t2,f1,f2,f3⟩:=hcs pos' cv' q';exact#[c2,oc2,vs2,t2,f1,gr.k _ _ f2 (λps z=>by cases z),f3]
 |none=>
  refine PySem.W.kla_makeFunction hcl I.ok.glob hg hcode (C.keeps I.bk) hPo ht q hgP hBs λc' ctv h' tk hx hge hlt hrec htb=>?_
  obtain⟨c2,oc,vs,t,e2,hoc,hd,hv⟩:=hrec;cases e2;have kp:fO P s.heap (h'.push<|fA "<lambda>" YU params body scope clos ((X.mg "__name__").getD .none) c' ctv):=λb o hb e=>av _<|hx b o hb e
  have hsz:=cx hge<|gS hlt;obtain⟨I',gr,n1,hP',tbs⟩:=Inv.grow I hP kp (av _ htb)
   (new:=[(c',oc),(h'.objs.size,fA "<lambda>" YU params body scope clos ((X.mg "__name__").getD .none) c' ctv)]) (λp hp=>by
    rcases az.mp hp with rfl|hp
    .exact#[hge,av _ hoc]
    .rw[a8.mp hp];exact#[hsz,aM _ rfl]) (da.mpr #[λz=>T7 (a8.mp z)<|bh hlt,da.mpr #[by simp,mC]])
  refine h _ c' oc vs t _ ctv _ _ I' gr (tb.grow gr tbs (by rw[bX];exact TriplesOk_snoc _ _ _ _ ht) λpos' cv' q'=>?_) #[_,hP'] (n1 _<|am _<|ak ..) (n1 _<|ak ..) hd hv
  rw[bX]at q';rcases xJ _ ht q' with z|rfl
  .obtain⟨c2,oc2,vs2,t2,f1,f2,f3⟩:=hcs pos' cv' z
   exact#[c2,oc2,vs2,t2,f1,gr.k _ _ f2 (λps z=>by cases z),f3]
  .exact#[c',oc,vs,t,rfl,n1 _<|ak ..,hd,hv]
end
end
section
def cxL(P:bt)(w:bN)(K:ao)(mg:bn->Option au)(base:bV)(N:List bn)(scope:dO)(g:aD)(cd:au)(clos:List (bn×aD))(A:bU)(outer:List Env)(s:aA)(H:Hp)(E:XK):Cx where
 prog:=P
 w:=w
 K:=K
 mg:=mg
 base:=base
 A:=A.deeper<|fq YU scope s.heap.objs.size g cd clos
 N:=N
 s₀:=s
 H₀:=H
 env:=fq YU scope s.heap.objs.size g cd clos
 outer:=outer
 stack:=fq YU scope s.heap.objs.size g cd clos::outer
 ex:=[]
 calm:=al
 fn:=λ_=>aj
 pn:=[]
 xe:=λe s'=>aX (aT P w) (A.deeper<|fq YU scope s.heap.objs.size g cd clos) (leaving (fq YU scope s.heap.objs.size g cd clos) e) (λ_ s''=>CX1 P w outer H s E e s'') (λe' s''=>CX1 P w outer H s E e' s'') s'
section
variable{P:bt}{w:bN}{K:ao}{mg:bn->Option au}{base:bV}{N:List bn}{scope:dO}{g c':aD}{clos:List (bn×aD)}{A:bU}{outer:List Env}{s:aA}{H:Hp}{E:XK}
def ZhI :DefX (cxL P w K mg base N scope g cd clos A outer s H E) E:=#[rfl,rfl,rfl,rfl]
structure LamS(scope:dO)(clos:List (bn×aD)):Prop where
 kind:scope.kind=.function
 co:scope.isCoroutine=aj
 gen:scope.isGenerator=aj
 nc:∀x∈scope.names,x.2≠.cell
 vis:∀x,Vis scope x->scope.names.lookup x=aa .free
 has:∀x,scope.names.lookup x=aa .free->∃c,clos.lookup x=aa c
 inj:∀x y c,clos.lookup x=aa c->clos.lookup y=aa c->x=y
def Zbp(hr:Room (k+1) A)(e0:Env0 P w K mg base A outer s H)(L:LamS scope clos)
  (hg:s.heap.get? g=aa (fA "<lambda>" YU params body scope clos pm c' ctv))(hcd:s.heap.CodeRec (.ref c') YU)(hbind:mz (pW "<lambda>" YU params body scope clos pm (.ref c') ctv) #[[],[]]=cy [])
  (hcell:∀x c,clos.lookup x=aa c->(∃v,s.heap.IsCell c v)/\H c=ag)(hlen:O.length=N.length)
  (hval:∀(i:Nat)(x:bn)(v:V),N[i]?=aa x->O[i]?=aa (aa v)->scope.names.lookup x=aa .free->∃u c,Zy v u/\clos.lookup x=aa c/\s.heap.IsCell c (aa u))
  (hb:PE (cxL P w K mg base N scope g (.ref c') clos A outer s H E) body t)(ht:t O H Q) :
  gV (aT P w) A (.call (.ref g) #[[],[]]) (CR (CX1 P w) outer P w H s Q E) s:=by
 have lim:=e0.mod.nolimit.keeps λb o e=>(e0.bs b o e).1
 refine PySem.W.kla_callFunE hr.depth hg rfl L.co L.gen rfl hcd ?_;rw[hbind];refine aB<|wpAny_newFunctionEnv L.nc (λx hx=>by simp at hx) (λh1 hns hsb=>?_) L.kind
 have hk1:=λb o e=>hsb.extBut b o (bh<|aH e)<|av _ e
 refine#[lim.keeps hk1,?_];have noA:∀b:aD,b∉(cxL P w K mg base N scope g (.ref c') clos A outer s H E).ex:=λb z=>T7 (show b∈([]:List aD)from z) #[2]
 have I:L2.Inv (cxL P w K mg base N scope g (.ref c') clos A outer s H E) [] O H {s with heap:=h1,toks:=s.toks+([]:List (bn×au)).length}:=by
  refine#[#[e0.mod,L.kind,rfl,rfl,aF _,L.inj,λx hx=>?_,λx c z=>(by cases z),λ_=>hr.hd,mB e0.frames,.inr #[rfl,rfl],λb z=>T7 z<|noA b,e0.bs,e0.bsz,λb _ _=>noA b,λb z=>T7 z<|noA b,e0.funs,e0.frf],
   rfl,e0.bare,Un.kept hk1,#[_,hns,λi x v e1 e2 e3=>?_],λx c e=>?_,e0.hok.fresh<|aF _,λx c e=>(hcell x c e).2,λp hp=>T7 (show p∈([]:List (aD×eW))from hp) #[2],e0.hok.kept hk1,hlen]
  .have hx:=hx
   rcases hx with z|z
   .exact T7 rfl<|L.nc _<|dM z
   .exact L.has x z
  .have fr:=L.vis x e3
   obtain⟨u,c,r,e,z⟩:=hval i x v e1 e2 fr;refine#[u,r,.inr #[.inr fr,c,e,?_]];obtain⟨o,ho,hd⟩:=z;exact#[o,hk1 _ _ ho,hd]
  .obtain⟨⟨v,o,ho,hd⟩,_⟩:=hcell x c e
   exact#[v,o,hk1 _ _ ho,hd]
 exact PySem.W.kla_codeExpr<|dm (hb [] _ O H Q I ht) (by rintro u s' ⟨v,H',J,r,q⟩;exact #[v,H',J.os,J.bare,J.base,J.hok,r,q]) λ_ _ y=>y
end
def Zgi(K:ao):List V->Hp->VK->Prop:=λvs H Q=>∃a oe C Dv u b,vs=[.ref a,Dv]/\Zy Dv u/\(∀u',Zy Dv u'->u'=u)/\H a=aa (.frz oe<|.own a)/\oe.cls=.ref C/\ExK K C/\fK K (.ref C) u=aa b/\Q (.bl b) H
def G5:ZJ X (.builtin "isinstance") (Zgi X.K):=by
 intro pq s O H xs us Q I r h;obtain⟨a,oe,C,Dv,u,b,rfl,ru,uq,Ha,ce,k,e,q⟩:=h;cases r with
 |cons ra r=>
  cases r with
  |cons rD r=>
   cases r;cases ra;obtain rfl:=uq _ rD;obtain⟨ge,_⟩:=I.hok a _ Ha;exact dB (Zaf k) I.kIn #[oe,ge,ce] e (by intro q;cases q) λtk=>#[.bl b,H,I.tok tk,rfl,q]
def vm:V->List V->Hp->VK->Prop:=λx vs H Q=>∃(l:aD)(bs:List Bool)(j:Nat),x=.ref l/\vs=[.bl al]/\H l=aa (.lst<|bs.map .bl)/\bs[j]?=aa al/\(∀m,m<j->bs[m]?=aa aj)/\Q (.int j) H
theorem vI:∀{bs:List Bool}{us:List au},Vals (bs.map V.bl) us->us=bs.map bB
 |[],_,.nil=>rfl
 |b::bs,_,.cons r t=>by cases r;rw[vI t];rfl
def Zbu:MtM X "list.index" vm:=by
 intro pq s O H x vs v us Q I rx rv h;obtain⟨l,bs,j,rfl,rfl,hH,hj,hno,q⟩:=h;cases rx;obtain⟨u,rfl,ru⟩:=rv.one;cases ru;obtain⟨z,its,n,r,hl,e⟩:=I.lstM hH;obtain rfl:=vI r;have hjl:=(aK.mp hj).1;have hsz:(bs.map bB).toArray.size=bs.length:=by simp
 have get:∀m (hm:m<(bs.map bB).toArray.size),(bs.map bB).toArray[m]=bB (bs[m]'(by rw[hsz]at hm;exact hm)):=λm hm=>by simp
 refine gM F.slot_list_index #[_,e,rfl] F.entry_list_index (F.args_list_index_2 _ _) (PySem.SeqAt.list_indexAt l (bs.map bB).toArray n ag #[] (.bool al) (λy=>y == .bool al) j (by rw[hsz];exact hjl) (by
  rw[ay]at z;have:aW=16777216:=rfl;lia) (by rw[get];rw[(aK.mp hj).2];rfl) λm hm hmj=>by
   rw[get];have:=aK.mp<|hno m hmj;rw[this.2];rfl) #[e,λy hy=>?_,?_]
 .obtain⟨b,_,rfl⟩:=aR.mp (List.mem_toArray.mp hy)
  cases b
  .exact kx aj al
  .exact kx al al
 .exact#[.int j,H,I.tok _,#[_,rfl],q]
def Zgh{CX:CXT}{P:bt}{w:bN}{K:ao}{mg:bn->Option au}{base:bV}{k:Nat}{f:aD}{x qual:bn}{st:ef}{fd:cB}{N ps:List bn}{A:bU}{outer:List Env}{s:aA}{H:Hp}{args:Args}{us:List au}{vs:List V}{Q:VK}{E:XK}
  (Fu:Fun K x qual st f fd)(S:FnScope N ps (Zf st))(hr:Room (k+1) A)(e0:Env0 P w K mg base A outer s H)(hb:mQ s fd args (ps.zip us))(r:Vals vs us)(hl:vs.length=ps.length)
  (hbody:∀(cdv:au)(s1:aA),Room k (A.deeper<|dU qual (Zf st) s.heap.objs.size f cdv)->L2.Inv (XT CX P w K mg base N qual (Zf st) f cdv A outer s H E) [] (start N vs) H s1->
   aX (aT P w) (A.deeper<|dU qual (Zf st) s.heap.objs.size f cdv) (execs (ZC st)<|dU qual (Zf st) s.heap.objs.size f cdv) (SP (XT CX P w K mg base N qual (Zf st) f cdv A outer s H E) [] {nx:=λ_ H'=>Q .non H',rt:=Q}) (XT CX P w K mg base N qual (Zf st) f cdv A outer s H E).xe s1) :
  gV (aT P w) A (.call (.ref f) args) (CR CX outer P w H s Q E) s:=by
 obtain⟨oc,od,kV,doc,pm,an,cdv,ct,osl,rfl,lk,hcd⟩:=Fu.ex;have KX:=e0.mod.kin.keeps λb o e=>(e0.bs b o e).1
 have lim:=e0.mod.nolimit.keeps λb o e=>(e0.bs b o e).1
 have hkind:∀y∈ps.zip us,(Zf st).names.lookup y.1=aa .local\/((Zf st).names.lookup y.1=aa .cell/\((dv (s.heap.objs.size+1) (Zf st).names []).lookup y.1).isSome=al):=by
  rintro ⟨n,v⟩ hy;rcases S.par n (gH hy).1 with q|q
  .exact .inl q
  .exact .inr #[q,gX _ _ _<|.inl q]
 refine mf hr.depth (KX _ _ lk) rfl S.co S.gen rfl (nB KX hcd)<|hb _ _ _ _ ?_;refine i4 S.kind hkind λenv he s1 x=>?_
 subst he;refine#[lim.keeps x.toInCall.keep,codeAny_func ?_];have I:=QU (CX:=CX) (E:=E) S hr.hd e0 hl r x;refine dm (hbody cdv s1 (hr.deeper _) I) (λfl s' hs=>?_) λe s' hs=>hs
 cases fl with
 |ret u=>
  obtain⟨v,σ',H',J,rv,q⟩:=hs;exact#[v,H',J.os,J.bare,J.base,J.hok,rv,q]
 |next=>
  obtain⟨σ',H',J,q⟩:=hs;exact#[.non,H',J.os,J.bare,J.base,J.hok,rfl,q]
 |brk=>
  obtain⟨_,_,_,q⟩:=hs;exact False.elim q
 |cont=>
  obtain⟨_,_,_,q⟩:=hs;exact False.elim q
def vp(Pt:aD)(H:Hp):Prop:=H Pt=aa (.tbl #[])/\∀b,b≠Pt->H b=ag\/∃o xs,H b=aa (.frz o<|.lst xs)
def uG{P:bt}{w:bN}{K:ao}{mg mb:bn->Option au}{CX:CXT}{k:Nat}{fa a c Pt:aD}{fd:cB}{x:bn}{sp:Sp}{s₁:aA}{vs:List au}{ns:List Int}
  (KX:K.In s₁.heap)(hns:s₁.heap.Ns bv mg)(hb:s₁.heap.Ns nr mb)(hbb:∀x:bn,x≠"__name__"->mb x=db x)(hlim:s₁.heap.NoLimit)(hg:s₁.gens = #[])
  (hC:dA s₁.heap c Pt)(hPt:s₁.heap.get? Pt=aa (pX #[]))(hK:mL K=al)(hB:s₁.heap.BuiltinsAt mg Pt)
  (ha:s₁.heap.get? a=aa {cls:=.type "list",data:=.seq vs.toArray})(hi:pC vs ns)(hl:ns.length<=aW)(hr:Room k mR)
  (F:∀base:bV,K.In base->base.Ns bv mg->dA base c Pt->base.BuiltinsAt mg Pt->bv≠Pt->FnOk P w K mg base CX k fa fd [x] sp)(hbind:∀(s:aA)(u:au),mQ s fd #[[u],[]] [(x,u)])
  (hsp:∀H:Hp,vp Pt H->SqL K H a (ns.map V.int)->sp [.ref a] H (λv _=>v=.bl al) λ_ _ _=>False)
  (hCX:∀H e s',CX [] H s₁ (λ_ _ _=>False) e s'->False) :
  gV (aT P w) mR (.call (.ref fa) #[[.ref a],[]]) (λr s'=>r=.ok (.ret<|.bool al)/\OldK s₁.heap s'.heap/\s'.os=s₁.os/\im s'.gens) s₁:=by
 have rv:=Q0 hi;have lenV:=hi.length;have hPa:Pt≠a:=λz=>by rw[z,ha]at hPt;cases hPt
 have hKP:K.lookup Pt=ag:=by
  cases q:K.lookup Pt with
  |none=>rfl
  |some o=>
   have e:=KX Pt o q;rw[hPt]at e;cases e;have h2:=bp.mp hK (Pt,pX #[])<|PySem.W.mem_of_lookupK q;exact T7 (h2) aO
 have core:∀H:Hp,vp Pt H->SqL K H a (ns.map V.int)->HOk P w H s₁.heap->(∀b,H b≠ag->b=a\/b=Pt)->(H a≠ag->K.lookup a=ag)->
   gV (aT P w) mR (.call (.ref fa) #[[.ref a],[]]) (λr s'=>r=.ok (.ret<|.bool al)/\OldK s₁.heap s'.heap/\s'.os=s₁.os/\im s'.gens) s₁:=by
  intro H hO hS hok hA hK;have base_of:∀{b:aD}{o:eW},s₁.heap.get? b=aa o->H b=ag->(QK s₁.heap H).get? b=aa o:=λe n=>jX e n
  have noT:∀{b:aD}{o:eW},s₁.heap.get? b=aa o->b≠a->b≠Pt->H b=ag:=λ{b o} e z1 z2=>by
   cases q:H b with|none=>rfl|some u=>exact((hA b<|by rw[q];simp).elim z1 z2).elim
  have noA:∀{b:aD}{o:eW}{es:Array fZ}{ep:Nat},s₁.heap.get? b=aa o->o.data=.dict es ep->H b=ag:=λ{b o es ep} e d=>
   noT e (λz=>by subst z;rw[ha]at e;cases e;cases d) λz=>by subst z;rw[hPt]at e;cases e;cases d
  have nsK:∀{b:aD}{m:bn->Option au},s₁.heap.Ns b m->(QK s₁.heap H).Ns b m:=λ{b m} #[o,es,ep,e,d,r]=>#[o,es,ep,base_of e<|noA e d,d,r]
  have hKb:=λb o e=>base_of (KX b o e) (by
   cases q:H b with
   |none=>rfl
   |some u=>
    rcases hA b (by rw[q];simp)with z|z
    .subst z;rw[hK<|by rw[q];simp]at e;cases e
    .subst z;rw[hKP]at e;cases e)
  have hM:Mod K mg (QK s₁.heap H):=#[hKb,nsK hns,#[mb,nsK hb,hbb],let #[mc,h1,h2]:=hlim;#[mc,nsK h1,h2]];have e0:Env0 P w K mg (QK s₁.heap H) mR [] s₁ H:=#[rfl,hM,λb o e=>Zb0 e,oy<|u0 _ _,trivial,λb hb=>T7 (show b∈([]:List aD)from hb) #[2],hok,.of_eq hg]
  have hCb:dA (QK s₁.heap H) c Pt:=by
   obtain⟨o,vs',file,tf,flags,tg,inF,text,tt,e1,r1,r⟩:=hC;refine#[o,vs',file,tf,flags,tg,inF,text,tt,base_of e1<|noT e1 (λz=>?_) λz=>?_,r1,r]
   .subst z;rw[ha]at e1;cases e1;exact T7 (pY r1) #[1]
   .subst z;rw[hPt]at e1;cases e1;cases r1
  have hBb:(QK s₁.heap H).BuiltinsAt mg Pt:=by
   obtain⟨bm,o,b1,b2,b3,b4,b5,b6,b7,b8⟩:=hB;refine#[bm,o,b1,b2,b3,b4,base_of b5<|noT b5 (λz=>?_) b4,b6,b7,b8]
   subst z;rw[ha]at b5;cases b5;exact T7 (pY b6) #[1]
  have hgP:bv≠Pt:=λz=>by
   obtain⟨o,es,ep,e,d,_⟩:=hns;rw[z,hPt]at e;cases e;cases d
  refine gW ((F _ hKb (nsK hns) hCb hBb hgP).run mR [] s₁ H #[[.ref a],[]] [.ref a] [.ref a] _ _ hr e0 (hbind s₁<|.ref a) (.cons rfl .nil)<|hsp H hO hS) λr s' h=>?_
  cases r with
  |error e=>exact(hCX H e s' h).elim
  |ok fl=>
   cases fl with
   |next=>exact False.elim h
   |brk=>exact False.elim h
   |cont=>exact False.elim h
   |ret u=>
    obtain⟨v,H',os,bare,un,hok',r',q⟩:=h;have q':=q;subst q';obtain rfl:u=bB al:=r';have keep:=λb o z e=>by
     cases q:H b with
     |none=>exact un.keep b o e q (by intro z;exact T7 (show b∈([]:List aD)from z)<|by simp) #[2]
     |some u=>
      rcases hO.2 b z with z|⟨ob,xs,z⟩
      .rw[q]at z;cases z
      .have z2:=un.frzs b ob _ z
       obtain⟨e1,_⟩:=hok b _ z;obtain⟨e2,_⟩:=hok' b _ z2;rw[e]at e1;cases e1;exact e2
    obtain⟨more,hm⟩:=un.tbls Pt #[] hO.1;have hT':=hok' Pt _ hm;refine#[rfl,#[λb o e=>?_,λb o e=>?_],os,bare]
    .by_cases z:b=Pt
     .subst z
      rw[hPt]at e;cases e;exact .inr<|.inl #[(hC.tab hPt).isCodeTable,rfl,#[],more,rfl,hT']
     .exact .inl<|keep b o z e
    .by_cases z:b=Pt
     .subst z;exact#[_,hT']
     .exact#[o,keep b o z e]
 have tbOk:=hPt
 cases hk:K.lookup a with
 |some o=>
  have e:=KX a o hk;rw[ha]at e;cases e;refine core (upd (λ_=>ag) Pt<|.tbl #[]) #[Zj,λb z=>.inl<|Zi z] (.inr #[_,vs.toArray,_,hk,rfl,rfl,rfl,by rw[aC,lenV];exact hl,by simpa using rv]) (λb u z=>?_) (λb z=>?_) λz=>T7 (Zi<|Ne.symm hPa) z
  .by_cases q:b=Pt
   .subst q;rw[Zj]at z;cases z;exact hPt
   .rw[Zi q]at z;cases z
  .by_cases q:b=Pt
   .exact .inr q
   .exact T7 (Zi q) z
 |none=>
  refine core (upd (λb=>if b=a then aa (.frz {cls:=.type "list",data:=.seq vs.toArray}<|.lst<|ns.map V.int)else ag) Pt<|.tbl #[]) #[Zj,λb z=>?_] (.inl<|.inr #[{cls:=.type "list",data:=.seq vs.toArray},by rw[Zi<|Ne.symm hPa];exact T9 rfl]) (λb u z=>?_) (λb z=>?_) λ_=>hk
  .rw[Zi z]
   by_cases hb:b=a
   .exact .inr #[_,_,T9 hb]
   .exact .inl<|T8 hb
  .by_cases q:b=Pt
   .subst q;rw[Zj]at z;cases z;exact hPt
   .rw[Zi q]at z
    by_cases hb:b=a
    .have z':=(T9 hb).symm.trans z
     cases z';subst hb;exact#[ha,by rw[ay];exact hl,vs,_,rv,ha]
    .have z':=(T8 hb).symm.trans z
     cases z'
  .by_cases q:b=Pt
   .exact .inr q
   .rw[Zi q]at z
    by_cases hb:b=a
    .exact .inl hb
    .exact T7 (T8 hb) z
def Zbs{l:l9}{n k:Nat}{q:bt}{loose:List bn}{XP:(bn->Option au)->bV->Prop}{YP:bN->bV->Prop}{d:rH}{K:Params->ao}{CX:bN->CXT}{sp:bN->aD->Sp}{x:bn}{c Pt:aD}{dr:rH}
  (hn:l.most=aa n)(hn2:n<=aW)(hdf:d.params.defaults=[])(hr:Room k mR)
  (hY:∀(w:bN)(h:bV),YP w h->(K w.params).In h)(hrec:(recsOf q).find? (λe=>e.name == d.name)=aa dr)(ht:∀w:bN,rh (K w.params) d.name=aa (c,Pt))(hK:∀w:bN,mL (K w.params)=al)
  (F:∀(w:bN)(mg:bn->Option au)(fa:aD)(h:bV),(K w.params).In h->h.Ns bv mg->mg d.name=aa (.ref fa)->
   ∃fd:cB,(∀(s:aA)(u:au),mQ s fd #[[u],[]] [(x,u)])/\
    ∀base:bV,(K w.params).In base->base.Ns bv mg->dA base c Pt->base.BuiltinsAt mg Pt->bv≠Pt->FnOk l.prog w (K w.params) mg base (CX w) k fa fd [x] (sp w Pt))
  (hsp:∀(w:bN)(H:Hp)(a:aD)(ns:List Int),ns.length<=n->vp Pt H->SqL (K w.params) H a (ns.map V.int)->sp w Pt [.ref a] H (λv _=>v=.bl al) λ_ _ _=>False)
  (hCX:∀(w:bN)(H:Hp)(s:aA)(e:au)(s':aA),CX w [] H s (λ_ _ _=>False) e s'->False) :
  rj q loose XP YP l.row.toRowW d [] (λf vs=>pK f vs):=by
 refine Att.GW hn hdf λw s₀ s₁ mg mb fa o pm cd doc a vs ns G Y ho hd hcd hmg hobj hints hlen hg=>?_
 have KX:=hY w _ Y;obtain⟨fd,hb,hF⟩:=F w mg fa _ KX G.T.g hmg;obtain⟨hC,hPt⟩:=PySem.W.tab_of G.T KX hrec<|ht w;obtain⟨bm,ob,b1,b2,b3,b4,b5,b6⟩:=G.T.bmain;have hbP:bm≠Pt:=λz=>by rw[z,hPt]at b3;cases b3;cases b4
 have hbG:bm≠bv:=λz=>by
  obtain⟨o,es,ep,e,hd,_⟩:=G.T.g;rw[z,e]at b3;cases b3;rw[hd]at b6;cases b6
 exact uG KX G.T.g G.T.b G.T.builtins G.T.nolimit hg hC hPt (hK w) #[bm,ob,b1,b2,hbG,hbP,b3,b4,b5,b6] hobj hints (cx hlen hn2) hr hF hb (λH hO hS=>hsp w H a ns hlen hO hS) λH e s'=>hCX w H s₁ e s'
open Ev (E Sm Fn Bop Cop Ty Bf Mf)
noncomputable def Y3:List bn:=["SpaceError","NoRow","NoPart","NoNumber","NoHeads","NotBeside","NotIn","NoTurn","NoLot","TooMany","BadNote"]
structure Errs(K:ao)(mg:bn->Option au)(cl:List aD):Prop where
 len:cl.length=11
 nm:∀(j:Nat)(C:aD)(x:bn),cl[j]?=aa C->Y3[j]?=aa x->mg x=aa (.ref C)
 exk:∀(j:Nat)(C:aD),cl[j+1]?=aa C->ExK K C
 one:∀(i j:Nat)(C D:aD),cl[i+1]?=aa C->cl[j+1]?=aa D->fK K (.ref C) (.ref D)=aa (ai<|i=j)
 ve:∀(i:Nat)(C:aD),cl[i+1]?=aa C->fK K (.ref C) (.type "ValueError")=aa al
 exm:∀(i:Nat)(C S:aD),cl[i+1]?=aa C->cl[0]?=aa S->pV K (.ref C) (.ref S)=aa al
def tIs(K:ao)(ir:Nat)(Dv:V):TE:=tCB (Zgi K)<|Xe (yQ ir)<|Xe (tC Dv) xH
structure ErAt(K:ao)(cl:List aD)(ir c:Nat)(O:L2.St)(H:Hp):Prop where
 ex:∃a oe C,O[ir]?=aa (aa<|.ref a)/\H a=aa (.frz oe<|.own a)/\oe.cls=.ref C/\cl[c+1]?=aa C
theorem ErAt.upd{K:ao}{c:Nat}{q:aD}{o:HO}(e:ErAt K cl ir c O H)(hq:H q=ag):ErAt K cl ir c O (L2.upd H q o):=by
 obtain⟨a,oe,C,h1,h2,h3⟩:=e.ex;exact#[a,oe,C,h1,by rw[Zi λz=>by rw[z,hq]at h2;cases h2];exact h2,h3]
def ErAt.wr{K:ao}{c:Nat}{q:aD}{xs:List V}{o:HO}(e:ErAt K cl ir c O H)(hq:H q=aa (.lst xs)):ErAt K cl ir c O (L2.upd H q o):=by
 obtain⟨a,oe,C,h1,h2,h3⟩:=e.ex;exact#[a,oe,C,h1,by rw[Zi λz=>by rw[z,hq]at h2;cases h2];exact h2,h3]
theorem ErAt.set{K:ao}{c j:Nat}{v:V}(e:ErAt K cl ir c O H)(hj:ir≠j):ErAt K cl ir c (O.set j<|aa v) H:=by
 obtain⟨a,oe,C,h1,h2⟩:=e.ex;exact#[a,oe,C,by rw[a9<|Ne.symm hj];exact h1,h2]
def Xl{K:ao}{mg:bn->Option au}{c j:Nat}{Dj:aD}(R:Errs K mg cl)(e:ErAt K cl ir c O H)(hj:cl[j+1]?=aa Dj)(q:Q (.bl<|ai<|c=j) H):tIs K ir (.ref Dj) O H Q:=by
 obtain⟨a,oe,C,h1,h2,h3,h4⟩:=e.ex;exact#[.ref a,h1,a,oe,C,.ref Dj,.ref Dj,ai<|c=j,rfl,rfl,λu' r=>r,h2,h3,R.exk c C h4,R.one c j C Dj h4 hj,q]
def ZfR{K:ao}{mg:bn->Option au}{c:Nat}(R:Errs K mg cl)(e:ErAt K cl ir c O H)(q:Q (.bl al) H):tIs K ir (.ty "ValueError") O H Q:=by
 obtain⟨a,oe,C,h1,h2,h3,h4⟩:=e.ex;exact#[.ref a,h1,a,oe,C,.ty "ValueError",.type "ValueError",al,rfl,rfl,λu' r=>r,h2,h3,R.exk c C h4,R.ve c C h4,q]
def Zgq(hi:X.N[ir]?=aa xr)(hv:Vis X.env.scope xr)(hg0:Gl X "isinstance")(hm0:X.mg "isinstance" = ag)(hg:Gl X x)(hm:X.mg x=aa (.ref Dj))(hd1:(xr == #[11])=aj)(hd2:(xr == #[16])=aj)(hd3:(x == #[11])=aj)
  (hs:aE [.Name xr p1,.Name x p2] X.env=(aj,cD (.Name xr p1) X.env)::aE [.Name x p2] X.env:=by rfl)(hs2:aE [.Name x p2] X.env=(aj,cD (.Name x p2) X.env)::aE [] X.env:=by rfl)(hpl:(dG pos<|aE [.Name x p2] X.env).any (·.1)=aj:=by rfl) :
  PE X (.Call (.Name "isinstance" p) [.Name xr p1,.Name x p2] [] pos) (tIs X.K ir<|.ref Dj):=
 Xt G5 hg0 hm0 rfl (ZB (Yo hi hv hd1 hd2) (ZB (Zc7 hg hm rfl hd3) Yq hs2) hs) #[1] #[1] hs hpl
def ZfW(hi:X.N[ir]?=aa xr)(hv:Vis X.env.scope xr)(hg0:Gl X "isinstance")(hm0:X.mg "isinstance" = ag)(hg:Gl X "ValueError")(hm:X.mg "ValueError" = ag)(hd1:(xr == #[11])=aj)(hd2:(xr == #[16])=aj)
  (hs:aE [.Name xr p1,.Name "ValueError" p2] X.env=(aj,cD (.Name xr p1) X.env)::aE [.Name "ValueError" p2] X.env:=by rfl)(hs2:aE [.Name "ValueError" p2] X.env=(aj,cD (.Name "ValueError" p2) X.env)::aE [] X.env:=by rfl)(hpl:(dG pos<|aE [.Name "ValueError" p2] X.env).any (·.1)=aj:=by rfl) :
  PE X (.Call (.Name "isinstance" p) [.Name xr p1,.Name "ValueError" p2] [] pos) (tIs X.K ir<|.ty "ValueError"):=
 Xt G5 hg0 hm0 rfl (ZB (Yo hi hv hd1 hd2) (ZB (Uj hg hm rfl rfl) Yq hs2) hs) #[1] #[1] hs hpl
def Va(K:ao)(ir is:Nat)(cl:List aD)(ts:TT)(rb:TE)(fin:TS):TS:=
 let I:=λj=>tIs K ir<|.ref<|cl.getD (j+1) 0
 xK (ZeP (tB<|Zg9<|yQ ir) (ZcN<|tC .non) ZaN) (xK (qE (ZcZ<|Xe (I 0)<|Xe (I 1)<|Xe (I 2) xH)<|z7 is)
  (xK (qE (tOp Zc4 (yQ is)<|ZcZ<|Xe (I 3)<|Xe (I 4)<|Xe (I 5) xH)<|z7 is) (xK (qE (tOp Zc4 (yQ is)<|ZcZ<|Xe (I 6)<|Xe (I 7)<|Xe (I 8) xH)<|z7 is)
   (xK (Zd9<|tBM K "list" wv (yQ is)<|Xe (I 9) xH)<|xK (ZeP (tOr (Zgj<|tB<|tIs K ir<|.ty "ValueError") ts) (ZcN rb) ZaN) fin))))
def xq{K:ao}{ts:TT}{rb:TE}{fin:TS}{Dn:Ends}(h:O[ir]?=aa (aa .non))(q:Dn.rt .non H):Va K ir is cl ts rb fin Dn O H:=by
 refine#[.non,h,al,rfl,?_]
 change (if al=al then _ else _)
 rw[T9 rfl];exact q
def ye(xs:List V):∀ps,HO.lst xs≠.tbl ps:=λ_ z=>by cases z
noncomputable def Z4(c:Nat):List Bool:=(aP 10).map λj=>ai<|c=j
def Ze8:∀c,c<10->(Z4 c)[c]?=aa al:=by decide
def Zf8:∀c,c<10->∀m,m<c->(Z4 c)[m]?=aa aj:=by decide
theorem wQ :∀(bs:List Bool),Rq Z H (bs.map Pv.V.bl) (bs.map V.bl)
 |[]=>Rq.nil
 |b::bs=>Rq.cons (Yj b)<|wQ bs
def upd2{H:Hp}{p:aD}{o u:HO}:upd (upd H p o) p u=upd H p u:=by
 funext b
 by_cases z:b=p
 .subst z;rw[Zj,Zj]
 .rw[Zi z,Zi z,Zi z]
def vN{K:ao}{mg:bn->Option au}{ts:TT}{rb:TE}{fi:TS}{Dn:Ends}{c:Nat}{Z:Mx}{S:Zv}(R:Errs K mg cl)(hc:c<10)(e:ErAt K cl ir c O H)(hne:ir≠is)(hsl:is<O.length)(st:St3 K Z S H)
  (hts:∀(σ':L2.St)(H':Hp)(p:aD)(Q':Bool->Hp->Prop),σ'[is]?=aa (aa<|.ref p)->H' p=aa (.lst<|(Z4 c).map .bl)->¬Z.X p->St3 K Z S H'->(∀H2,Fut Z H' Z H2->St3 K Z S H2->Q' aj H2)->ts σ' H' Q')
  (fin:∀(σ':L2.St)(H':Hp)(q:aD),σ'[is]?=aa (aa<|.ref q)->σ'.length=O.length->H' q=aa (.lst<|(Z4 c).map .bl)->Fut Z H Z H'->St3 K Z S H'->fi Dn σ' H'):Va K ir is cl ts rb fi Dn O H:=by
 have cj:∀j,j<10->cl[j+1]?=aa (cl.getD (j+1) 0):=λj hj=>by
  have hl:j+1<cl.length:=by rw[R.len];lia
  rw[af hl,ax,af hl];rfl
 obtain⟨a,oe,C,h1,h2,h3,h4⟩:=id e.ex;refine#[.ref a,h1,aj,rfl,?_]
 change (if aj=al then _ else _)
 rw[T8 aO]
 let A1:HO:=.lst [.bl<|ai<|c=0,.bl<|ai<|c=1,.bl<|ai<|c=2]
 let A2:HO:=.lst [.bl<|ai<|c=3,.bl<|ai<|c=4,.bl<|ai<|c=5]
 let A3:HO:=.lst [.bl<|ai<|c=0,.bl<|ai<|c=1,.bl<|ai<|c=2,.bl<|ai<|c=3,.bl<|ai<|c=4,.bl<|ai<|c=5]
 let A4:HO:=.lst [.bl<|ai<|c=6,.bl<|ai<|c=7,.bl<|ai<|c=8]
 let L5:List Bool:=[ai<|c=0,ai<|c=1,ai<|c=2,ai<|c=3,ai<|c=4,ai<|c=5,ai<|c=6,ai<|c=7,ai<|c=8]
 let A5:HO:=.lst<|L5.map .bl
 let A6:HO:=.lst<|(Z4 c).map .bl
 have neq:∀{G:Hp}{b d:aD}{u:HO},G b=aa u->G d=ag->b≠d:=λh1 h2 z=>by rw[z,h2]at h1;cases h1
 refine Xl R e (cj 0<|by lia)<|Xl R e (cj 1<|by lia)<|Xl R e (cj 2<|by lia) #[by show 3<=aW;decide,λq1 hq1=>?_]
 have e1:=(e.upd (o:=A1) hq1).set (v:=.ref q1) hne;have st1:=st.fresh (o:=A1) hq1<|ye _;have f1:Fut Z H Z (upd H q1 A1):=Zp hq1;have g1:upd H q1 A1 q1=aa A1:=Zj;have l1:(O.set is<|aa<|.ref q1).length=O.length:=bx;refine#[.ref q1,bc hsl,?_];refine Xl R e1 (cj 3<|by lia)<|Xl R e1 (cj 4<|by lia)<|Xl R e1 (cj 5<|by lia) #[by show 3<=aW;decide,λq2 hq2=>?_]
 have g2:upd (upd H q1 A1) q2 A2 q1=aa A1:=by rw[Zi<|neq g1 hq2];exact g1
 have st2:=st1.fresh (o:=A2) hq2<|ye _;have f2:Fut Z H Z (upd (upd H q1 A1) q2 A2):=f1.trans<|Zp hq2;refine#[q1,q2,_,_,rfl,rfl,g2,Zj,by show 6<=aW;decide,λq3 hq3=>?_]
 let H3:=upd (upd (upd H q1 A1) q2 A2) q3 A3
 have e3:=((e1.upd hq2).upd (o:=A3) hq3).set (v:=.ref q3) hne;have st3:=st2.fresh (o:=A3) hq3<|ye _;have f3:Fut Z H Z H3:=f2.trans<|Zp hq3;have g3:H3 q3=aa A3:=Zj;have l3:((O.set is<|aa<|.ref q1).set is<|aa<|.ref q3).length=O.length:=by rw[bx,l1]
 refine#[.ref q3,bc (by rw[l1];exact hsl),?_]
 refine Xl R e3 (cj 6<|by lia)<|Xl R e3 (cj 7<|by lia)<|Xl R e3 (cj 8<|by lia) #[by show 3<=aW;decide,λq4 hq4=>?_]
 have g4:upd H3 q4 A4 q3=aa A3:=by rw[Zi<|neq g3 hq4];exact g3
 have st4:=st3.fresh (o:=A4) hq4<|ye _;have f4:Fut Z H Z (upd H3 q4 A4):=f3.trans<|Zp hq4;refine#[q3,q4,_,_,rfl,rfl,g4,Zj,by show 9<=aW;decide,λq5 hq5=>?_]
 let H5:=upd (upd H3 q4 A4) q5 A5
 let σ5:=((O.set is<|aa<|.ref q1).set is<|aa<|.ref q3).set is<|aa<|.ref q5
 have e5:=((e3.upd (o:=A4) hq4).upd (o:=A5) hq5).set (j:=is) (v:=.ref q5) hne;have l5:σ5.length=O.length:=by rw[bx,l3]
 have v5:σ5[is]?=aa (aa<|.ref q5):=bc (by rw[l3];exact hsl)
 have g5:H5 q5=aa A5:=Zj;refine#[.ref q5,v5,.inl #[rfl,_,SqL.of g5],?_];refine Xl R e5 (cj 9<|by lia) #[q5,_,_,rfl,rfl,g5,by show 9<aW;decide,?_]
 let H6:=upd H5 q5 A6
 have h6:H6=upd (upd H3 q4 A4) q5 A6:=upd2;have st6:St3 K Z S H6:=by rw[h6];exact st4.fresh (o:=A6) hq5<|ye _
 have f6:Fut Z H Z H6:=by rw[h6];exact f4.trans<|Zp hq5
 have e6:ErAt K cl ir c σ5 H6:=e5.wr g5;have g6:H6 q5=aa A6:=Zj;have nx5:=st4.nx hq5;refine ZfR R e6 #[al,rfl,?_]
 change (if aj=al then _ else _)
 rw[T8 aO];refine hts σ5 H6 q5 _ v5 g6 nx5 st6 λH7 f7 st7=>?_
 change (if aj=al then _ else _)
 rw[T8 aO];exact fin σ5 H7 q5 v5 l5 (vt f7 nx5 g6) (f6.trans f7) st7
def rbI:TE:=tUn (rU λi=>.int<|-i)<|tC<|.int 1
def Zfz(K:ao)(is:Nat):TS:=ZcN<|tBM K "list" vm (yQ is)<|Xe (tC<|.bl al) xH
def ZcY{K:ao}{c:Nat}{Dn:Ends}{q:aD}(hc:c<10)(v:O[is]?=aa (aa<|.ref q))(h:H q=aa (.lst<|(Z4 c).map .bl))(k:Dn.rt (.int c) H):Zfz K is Dn O H:=
 #[.ref q,v,.inl #[rfl,_,SqL.of h],q,Z4 c,c,rfl,rfl,h,Ze8 c hc,Zf8 c hc,k]
structure LamIn(X:Cx)(scope:dO)(clos:List (bn×aD)):Prop where
 S:LamS scope clos
 cl:∀x c,clos.lookup x=aa c->X.env.cells.lookup x=aa c
 kd:∀x,scope.names.lookup x=aa .free->X.env.scope.names.lookup x=aa .cell
section
variable{X:Cx}{E:XK}{cl:List aD}{Cc:Calls}{i:Ev.E}{xw:Nat->Hp->Prop}
noncomputable def vR(w:Bool)(c:Nat):V:=.int c
def Zgc(w:Bool)(c:Nat):Rep Z H (Pv.jq w c) (vR w c):=rfl
theorem Zc9{wd:Bool}{rb:TE}{fi:TS}{k:Nat}{f P c S0:aD}{fd:cB}{xf xc xr n xS:bn}{st:ef}{Nr:List bn}{ic ie ir is:Nat}{params:oI}{body:Expr}{scope:dO}{lp p pos p0 p1 p2 p3 p4 p5 p6 p7 p8 p9 q0 q1:fD}{j0:Nat}{clos:List (bn×aD)}{rest:List ef}{ts:Cx->TT}
  (D:DefX X E)(hfn:∀x,X.fn x=al)(hr:Room (k+2) X.A)(R:Errs X.K X.mg cl)(hS0:cl[0]?=aa S0)
  (hP:∃ps,X.H₀ P=aa (.tbl ps))(hcode:X.env.code=.ref c)(C:dA X.base c P)(hB:X.base.BuiltinsAt X.mg P)(hgP:bv≠P)(hq:X.env.qual++"<lambda>" = YU)(hcl:ig scope X.env=cy clos)(hdef:defaultsOf params X.env=([],[]))(L:LamIn X scope clos)
  (hbind0:∀pm c' ctv,mz (pW "<lambda>" YU params body scope clos pm (.ref c') ctv) #[[],[]]=cy [])
  (hbody:∀(g:aD)(c':aD)(A:bU)(outer:List Env)(s:aA)(H:Hp)(E1:XK),Room k (A.deeper<|fq YU scope s.heap.objs.size g (.ref c') clos)->CE (cxL X.prog X.w X.K X.mg X.base X.N scope g (.ref c') clos A outer s H E1) (xwE cl E1) Cc body i)
  (hg:Gl X xf)(hm:X.mg xf=aa (.ref f))(hk:fM X.K (.ref f)=al)(Fu:Fun X.K xf xf st f fd)(Sc:FnScope Nr [xc] (Zf st))(hb:VW X.K fd [xc] [])(hdb:(xf == #[11])=aj)
  (he:aE [.Lambda params body scope lp] X.env=(aj,cD (.Lambda params body scope lp) X.env)::aE [] X.env)(hpl:(dG pos<|aE [] X.env).any (·.1)=aj)
  (hst:ZC st=.Assign [.Name xr p0] (.Constant .none j0 q0) q1 :: .Try [.Expr (.Call (.Name xc p1) [] [] p2) p3] [.ExceptHandler (aa<|.Name xS p4) (aa n) [.Assign [.Name xr p5] (.Name n p6) p7] p8] [] [] p9::rest)
  (hN:Nr.Nodup)(hic:Nr[ic]?=aa xc)(hic0:ic=0)(hie:Nr[ie]?=aa n)(hir:Nr[ir]?=aa xr)(his:is<Nr.length)(hne:ir≠is)(hne2:ir≠ie)(hne3:ir≠0)
  (hkc:(Zf st).names.lookup xc=aa .local)(hke:(Zf st).names.lookup n=aa .local)(hkr:(Zf st).names.lookup xr=aa .local)(hkS:∀L f cdv,(dU xf (Zf st) L f cdv).kindOf xS=aa .globalImplicit)(hmS:X.mg xS=aa (.ref S0))
  (hd1:(xc == #[11])=aj)(hd2:(xc == #[16])=aj)(hd3:(n == #[11])=aj)(hd4:(n == #[16])=aj)(hd5:(xS == #[11])=aj)
  (hs0:∀L f cdv,ej (.Constant .none j0 q0) (aa<|.Name xr p0) q1.line (dU xf (Zf st) L f cdv)=cy aj)(hs1:∀L f cdv,ej (.Call (.Name xc p1) [] [] p2) ag p3.line (dU xf (Zf st) L f cdv)=cy aj)
  (hs2:∀L f cdv,ej (.Name n p6) (aa<|.Name xr p5) p7.line (dU xf (Zf st) L f cdv)=cy aj)
  (hrest:∀(cdv:au)(A:bU)(outer:List Env)(s:aA)(H:Hp),Room (k+1) (A.deeper<|dU xf (Zf st) s.heap.objs.size f cdv)->
   PSs (XT (CX1 X.prog X.w) X.prog X.w X.K X.mg X.base Nr xf (Zf st) f cdv A outer s H E0) rest (Va X.K ir is cl (ts<|XT (CX1 X.prog X.w) X.prog X.w X.K X.mg X.base Nr xf (Zf st) f cdv A outer s H E0) rb fi))
  (hts:∀(Y:Cx)(Z:Mx)(S:Zv)(e:Nat)(σ':L2.St)(H':Hp)(q:aD)(Q':Bool->Hp->Prop),Y.K=X.K->e<10->σ'[is]?=aa (aa<|.ref q)->H' q=aa (.lst<|(Z4 e).map .bl)->¬Z.X q->St3 X.K Z S H'->(∀H2,Fut Z H' Z H2->St3 X.K Z S H2->Q' aj H2)->ts Y σ' H' Q')
  (hfi:∀(Dn:Ends)(σ':L2.St)(Z:Mx)(H':Hp)(S:Zv)(e:Nat)(q:aD),e<10->σ'[is]?=aa (aa<|.ref q)->σ'.length=Nr.length->H' q=aa (.lst<|(Z4 e).map .bl)->St3 X.K Z S H'->(∀H2,Fut Z H' Z H2->St3 X.K Z S H2->Dn.rt (vR wd e) H2)->fi Dn σ' H') :
  CE X xw Cc (.Call (.Name xf p) [.Lambda params body scope lp] [] pos) (.refu wd i):=.mk <| by
 rintro pq s O H Q I ⟨Z,l,S,st0,lr,h⟩
 obtain⟨ps0,hP0⟩:=hP;obtain⟨more,hPH⟩:=I.base.tbls P ps0 hP0;refine eB<|WW I hg hm ?_ hdb;refine nA (h₀:=X.base) I.ok.mod.kin hk ?_ he hpl;rw[he];refine Calls.spliced_cons<|Zai I st0.tb hPH hcode C hB hgP hq hcl hdef λg c' oc vs t pm ctv H1 s1 I1 gr tb1 _ hg1 hc1 d1 v1=>Calls.spliced_nil #[I1.kIn,?_]
 have nx:∀b:aD,b∉([]:List aD):=λb=>by simp
 have hbd:=hb s1 [.ref g] I1.kIn rfl;have st1:=st0.grow gr tb1;have f1:Fut Z H Z H1:=gr.fut;refine pH<|gW (Zgh (CX:=CX1 X.prog X.w) (k:=k+1) (Q:=Q) (E:=E0) (us:=[.ref g]) (vs:=[.ref g]) Fu Sc hr I1.env0 (by simpa using hbd) (.cons rfl .nil) rfl λcdv s2 hrm I2=>?_) λr s' hq=>?_
 rotate_left
 .cases r with
  |error e=>obtain⟨_,_,_,_,_,_,_,_,_,_,_,_,_,_,z⟩:=hq;exact z.elim
  |ok fl=>
   cases fl with|ret u=>exact I1.after hq|next=>exact False.elim hq|brk=>exact False.elim hq|cont=>exact False.elim hq
 rw[hst]
 let Xr:=XT (CX1 X.prog X.w) X.prog X.w X.K X.mg X.base Nr xf (Zf st) f cdv X.A X.stack s1 H1 E0
 let D0:Ends:={nx:=λ_ H'=>Q .non H',rt:=Q}
 let σ2:L2.St:=(start Nr [.ref g]).set ir<|aa .non
 have b0:=UQ (X:=Xr) (pos:=q1) (pos':=p0) hN hir (.inl hkr) (xp (j:=j0) (pos:=q0)) (hs0 _ _ _)<|.inr hkr;refine fV<|thn (b0 [] s2 _ H1 {nx:=λσ' H'=>σ'=σ2/\H'=H1,rt:=λ_ _=>False} I2 #[rfl,rfl]) λfl s3 hq3=>?_
 cases fl with
 |ret v=>obtain⟨_,_,_,_,_,z⟩:=hq3;exact z.elim
 |brk=>obtain⟨_,_,_,z⟩:=hq3;exact False.elim z
 |cont=>obtain⟨_,_,_,z⟩:=hq3;exact False.elim z
 |next=>
 obtain⟨σx,Hx,I3,z1,z2⟩:=hq3;rw[z1,z2]at I3
 let E1:XK:=λCv _ H'=>∃e Ce S' ρ',Cv=.ref Ce/\cl[e]?=aa Ce/\Pv.pv Cc i l S=.ex e S'/\Fut Z H1 ρ' H'/\St3 X.K ρ' S' H'
 have hl0:0<Nr.length:=by have:=(aK.mp hic).1;lia
 have hσl:σ2.length=Nr.length:=I3.len;have hirl:ir<σ2.length:=by rw[hσl];exact(aK.mp hir).1
 have hσ0:σ2[ic]?=aa (aa<|.ref g):=by
  rw[hic0,a9 hne3];rfl
 have hσr:σ2[ir]?=aa (aa .non):=bc (by simpa[σ2]using hirl)
 have og:=(I3.hok g _ hg1).1;have oc':=(I3.hok c' _ hc1).1;have notin:∀x c0,X.env.cells.lookup x=aa c0->c0∉frs X.stack:=λx c0 hx hb=>by
  rw[D.st]at hb;unfold frs at hb;rw[cn,D.fr]at hb;rcases az.mp hb with z|z
  .exact I1.cne x c0 hx z
  .obtain⟨_,o,ho,_⟩:=I1.ok.funs.mem z
   exact T7 (aH ho)<|lD<|I1.ok.cab x c0 (hfn x) hx
 have cellKeep:∀x c0 v,X.env.cells.lookup x=aa c0->s1.heap.IsCell c0 v->s3.heap.IsCell c0 v:=λx c0 v hx #[o,ho,hd]=>
  #[o,I3.base.keep c0 o ho (I1.freeC x c0 hx) (notin x c0 hx)<|nx c0,hd]
 have hEnd:End X.K (xwE cl E1) Rep Z H1 (λ_ H'=>Va X.K ir is cl (ts Xr) rb fi D0 σ2 H') (Pv.pv Cc i l S):=by
  have h:End X.K xw Rep Z H Q (match Pv.pv Cc i l S with
   |.ok _ S=>.ok .non S
   |.ex c S=>if 1<=c/\c<=10 then .ok (Pv.jq wd<|c-1) S else .no
   |.no=>.no):=by
   have h0:=h;rw[Pv.Zfa]at h0;exact h0
  cases q:Pv.pv Cc i l S with
  |no=>rw[q]at h;exact h.elim
  |ok d S'=>
   rw[q]at h;exact λρ' H' v f st' r=>xq hσr<|h ρ' H' .non (f1.trans f) st' V5
  |ex e S'=>
   rw[q]at h;have hg:=(End.guard h).1;intro ρ' H' f st';have he:e<cl.length:=by rw[R.len];lia
   exact#[cl[e],af he,e,cl[e],S',ρ',rfl,af he,q,f,st']
 refine fV<|thn (Zdh (X:=Xr) (E:=E0) (Dn:={nx:=λσ' H'=>Va X.K ir is cl (ts Xr) rb fi D0 σ' H',rt:=λ_ _=>False}) (E1:=E1) (S:=S0) (ic:=ic) (ie:=ie) (ir:=ir) Zay I3 hN hic (.inl hkc) hσ0 hie hke hir hkr (hkS _ _ _) hmS #[_,_,_,_,og] ?run ?e1 hd1 hd2 hd3 hd4 hd5 (hs1 _ _ _)<|hs2 _ _ _) λfl s4 hq4=>?_
 case run=>
  exact Zbp (k:=k) (N:=X.N) (O:=O) hrm I3.env0 L.S og #[c',oc,vs,t,rfl,oc',d1,v1] (hbind0 pm c' ctv) (λx c0 e=>#[let #[v,z]:=I1.cell x c0<|L.cl x c0 e;#[v,cellKeep x c0 v (L.cl x c0 e) z],I1.freeC x c0<|L.cl x c0 e]) I1.len
   (λj x v e1 e2 fr=>by
    obtain⟨m,hn,hl⟩:=I1.loc;obtain⟨u,r,lk⟩:=hl j x v e1 e2<|.inr<|.inl<|L.kd x fr;obtain⟨c1,hc1⟩:=L.S.has x fr;rcases lk with⟨k1,_⟩|⟨_,c0,hc0,z⟩
    .have k1:X.env.scope.names.lookup x=aa .local:=k1
     rw[L.kd x fr]at k1;cases k1
    .have:=L.cl x c1 hc1
     rw[hc0]at this;cases this;exact#[u,c1,r,hc1,cellKeep x c1 _ hc0 z])
   (hbody g c' Xr.A Xr.stack s3 H1 E1<|hrm.deeper _).h #[Z,l,S,st1,lr.mono f1,hEnd]
 case e1=>
  rintro Ce H' ⟨e,Ce',S',ρ',z,hce,hev,f,st'⟩
  cases z;have h2:End X.K xw Rep Z H Q (if 1<=e/\e<=10 then .ok (Pv.jq wd<|e-1) S' else .no):=by
   have h0:=h;rw[Pv.Zfa,hev]at h0;exact h0
  obtain⟨hge,h3⟩:=End.guard h2;obtain⟨e',rfl⟩:∃e',e=e'+1:=#[e-1,by lia]
  refine#[R.exm e' Ce S0 hce hS0,λa oe Ha ce=>?_]
  have stA:St3 X.K ρ' S' (upd H' a<|.frz oe<|.own a):=st'.fresh (o:=.frz oe<|.own a) Ha;have er:ErAt X.K cl ir e' (((σ2.set ie<|aa<|.ref a).set ir<|aa<|.ref a).set ie ag) (upd H' a<|.frz oe<|.own a):=
   #[a,oe,Ce,by rw[a9<|Ne.symm hne2,bc (by rw[bx];exact hirl)],Zj,ce,hce]
  have len':(((σ2.set ie<|aa<|.ref a).set ir<|aa<|.ref a).set ie ag).length=Nr.length:=by rw[bx,bx,bx];exact hσl
  refine vN R #[0] er hne (by rw[len'];exact his) stA (λσ' H2 q Q' a1 a2 a3 a4 a5=>hts Xr ρ' S' e' σ' H2 q Q' rfl #[0] a1 a2 a3 a4 a5) λσ' H2 q b1 b2 b3 f2 st2=>?_
  refine hfi D0 σ' ρ' H2 S' e' q #[0] b1 (b2.trans len') b3 st2 λH3 f3 st3=>?_
  exact h3 ρ' H3 (vR wd e') (f1.trans<|f.trans<|(Zp Ha).trans<|f2.trans f3) st3 (by rw[nK];exact Zgc wd e')
 cases fl with
 |ret v=>obtain⟨_,_,_,_,_,z⟩:=hq4;exact z.elim
 |brk=>obtain⟨_,_,_,z⟩:=hq4;exact False.elim z
 |cont=>obtain⟨_,_,_,z⟩:=hq4;exact False.elim z
 |next=>
  obtain⟨σ4,H4,I4,q4⟩:=hq4;exact hrest cdv X.A X.stack s1 H1 hrm [] s4 σ4 H4 D0 I4 q4
end
noncomputable def ksum(is:Nat):Ev.E:=.cmp .ne (.blt .sum [.comp1 [] 1 [0] (.of<|.v is) []<|.blt .toInt [.v 0]])<|.n 1
theorem wo:∀(bs:List Bool),Pv.mapP (λx s=>(Pv.po (Pv.Zo [0] x<|Pv.Yh [] 1 l) s).bind λO s=>(Pv.pvt Cc [] O s).bind λb s=>if b then(Pv.pv Cc (.blt .toInt [.v 0]) O s).bind λy s=>.ok [y] s else .ok [] s) (bs.map .bl) S=.ok (bs.map λb=>.int<|Ev.b2i b) S
 |[]=>rfl
 |b::bs=>by
  rw[aZ,Pv.mapP,show((Pv.po (Pv.Zo [0] (Pv.V.bl b)<|Pv.Yh [] 1 l) S).bind λO s=>(Pv.pvt Cc [] O s).bind λb s=>if b then(Pv.pv Cc (.blt .toInt [.v 0]) O s).bind λy s=>.ok [y] s else .ok [] s)=Pv.PR.ok [Pv.V.int<|Ev.b2i b] S from rfl]
  dsimp only
  rw[wo bs];rfl
theorem zK:∀(bs:List Bool),Pv.intsV (bs.map λb=>Pv.V.int<|Ev.b2i b)=aa (bs.map Ev.b2i)
 |[]=>rfl
 |b::bs=>by rw[aZ,Pv.intsV,zK bs];rfl
def wN:∀e,e<10->((Z4 e).map Ev.b2i).sum=1/\Ev.qg ((Z4 e).map Ev.b2i)=al:=by decide
def ZbH{e:Nat}(he:e<10)(hl:l[is]?=aa (aa<|.lst<|(Z4 e).map .bl)):Pv.Yv Cc (ksum is) l S=.ok aj S:=by
 have w:Pv.pvw Cc (.of<|.v is) l S=.ok ((Z4 e).map .bl) S:=by
  rw[Pv.wE7,Pv.pE2,hl];rfl
 have c1:Pv.pv Cc (.comp1 [] 1 [0] (.of<|.v is) []<|.blt .toInt [.v 0]) l S=.ok (.lst<|(Z4 e).map λb=>.int<|Ev.b2i b) S:=by
  rw[Pv.Zc6,T9 (show Pv.own 1 [0]=al from rfl),w]
  rw[show ∀(a:List Pv.V)(s:Pv.DS)(f:List Pv.V->Pv.DS->Pv.PR Pv.V),(Pv.PR.ok a s).bind f=f a s from λ_ _ _=>rfl,wo]
  rfl
 have c2:Pv.pv Cc (.blt .sum [.comp1 [] 1 [0] (.of<|.v is) []<|.blt .toInt [.v 0]]) l S=.ok (.int 1) S:=by
  rw[Pv.YI,Pv.pvs,c1];show Pv.po (Pv.Xp .sum [.lst<|(Z4 e).map λb=>.int<|Ev.b2i b]) S=_
  unfold Pv.Xp Pv.blt1;simp only[zK,Option.bind,(wN e he).2,if_true,(wN e he).1];rfl
 unfold Pv.Yv ksum;rw[Pv.XR,c2];rfl
def ZeQ{Q':Bool->Hp->Prop}{xw:Nat->Hp->Prop}(he:e<10)(h1:σ'[is]?=aa (aa<|.ref q))(h2:H' q=aa (.lst<|(Z4 e).map .bl))(h3:¬Z.X q)(st:St3 Y.K Z S H')
  (hQ:∀H2,Fut Z H' Z H2->St3 Y.K Z S H2->Q' aj H2):tB3 Y xw (Pv.Yv Cc<|ksum is) σ' H' Q':=by
 have hl:=(aK.mp h1).1;refine#[Z,(aw σ'.length ag).set is<|aa<|.lst<|(Z4 e).map .bl,S,st,#[by simp,λi d e1=>?_],?_]
 .by_cases z:i=is
  .subst z
   rw[bc<|by simpa using hl]at e1
   cases e1;exact#[.ref q,h1,Wi h2 h3<|wQ _]
  .rw[a9<|Ne.symm z,cH]at e1
   split at e1<;>cases e1
 .rw[ZbH he<|bc (by simpa using hl)]
  exact λρ2 H2 v f s2 r=>by
   have r:=r;subst r;obtain rfl:=f.eq;exact hQ H2 f s2
def ZbN{xr xs:bn}{ts:TT}{rb:TE}{fi:TS}{badE:Expr}{last:List ef}{sumE:Expr}{P:Nat->fD}{J:Nat->Nat}(R:Errs X.K X.mg cl)(hN:X.N.Nodup)(hi:X.N[ir]?=aa xr)(hv:X.env.scope.names.lookup xr=aa .local)(hj:X.N[is]?=aa xs)(hw:X.env.scope.names.lookup xs=aa .local)
  (g0:Gl X "isinstance")(m0:X.mg "isinstance" = ag)(g1:Gl X "ValueError")(m1:X.mg "ValueError" = ag)(gc:∀x∈Y3,Gl X x)
  (r1:(xr == #[11])=aj)(r2:(xr == #[16])=aj)(s1:(xs == #[11])=aj)(s2:(xs == #[16])=aj)(hs:PT X sumE ts)
  (l1:((P 30).endLine == (P 31).line)=al)(hbad:PE X badE rb)(hlast:PSs X last fi) :
  PSs X (.If (.Compare (.Name xr<|P 0) [.Is] [.Constant .none (J 0)<|P 1]<|P 2) [.Return (aa<|.Constant .none (J 1)<|P 3)<|P 4] [] (P 5) ::
   .Assign [.Name xs<|P 6] (.List [.Call (.Name "isinstance"<|P 40) [.Name xr<|P 41,.Name "NoRow"<|P 42] []<|P 43,.Call (.Name "isinstance"<|P 44) [.Name xr<|P 45,.Name "NoPart"<|P 46] []<|P 47,.Call (.Name "isinstance"<|P 48) [.Name xr<|P 49,.Name "NoNumber"<|P 50] []<|P 51]<|P 7) (P 8) ::
   .Assign [.Name xs<|P 9] (.BinOp (.Name xs<|P 10) .Add (.List [.Call (.Name "isinstance"<|P 52) [.Name xr<|P 53,.Name "NoHeads"<|P 54] []<|P 55,.Call (.Name "isinstance"<|P 56) [.Name xr<|P 57,.Name "NotBeside"<|P 58] []<|P 59,.Call (.Name "isinstance"<|P 60) [.Name xr<|P 61,.Name "NotIn"<|P 62] []<|P 63]<|P 11)<|P 12) (P 13) ::
   .Assign [.Name xs<|P 14] (.BinOp (.Name xs<|P 15) .Add (.List [.Call (.Name "isinstance"<|P 64) [.Name xr<|P 65,.Name "NoTurn"<|P 66] []<|P 67,.Call (.Name "isinstance"<|P 68) [.Name xr<|P 69,.Name "NoLot"<|P 70] []<|P 71,.Call (.Name "isinstance"<|P 72) [.Name xr<|P 73,.Name "TooMany"<|P 74] []<|P 75]<|P 16)<|P 17) (P 18) ::
   .Expr (.Call (.Attribute (.Name xs<|P 19) "append"<|P 30) [.Call (.Name "isinstance"<|P 76) [.Name xr<|P 77,.Name "BadNote"<|P 78] []<|P 79] []<|P 31) (P 20) ::
   .If (.BoolOp .Or [.UnaryOp .Not (.Call (.Name "isinstance"<|P 80) [.Name xr<|P 81,.Name "ValueError"<|P 82] []<|P 83)<|P 21,sumE]<|P 22) [.Return (aa badE)<|P 25] [] (P 26) ::
   last) (Va X.K ir is cl ts rb fi):=by
 have cj:∀j (x:bn),j<11->Y3[j]?=aa x->X.mg x=aa (.ref<|cl.getD j 0):=λj x hj e=>by
  have hl:j<cl.length:=by rw[R.len];exact hj
  exact R.nm j _ x (by rw[af hl,ax,af hl];rfl) e
 have vr:Vis X.env.scope xr:=.inl hv;have vs:Vis X.env.scope xs:=.inl hw;have is:∀{a b c d:fD}(j:Nat)(x:bn),j<11->Y3[j]?=aa x->(x == #[11])=aj->PE X (.Call (.Name "isinstance" a) [.Name xr b,.Name x c] [] d) (tIs X.K ir<|.ref<|cl.getD j 0):=λj x h e hd=>
  Zgq hi vr g0 m0 (gc x<|cM e) (cj j x h e) r1 r2 hd
 unfold Va
 dsimp only
 refine YC (ZaJ (Zex<|ZfL<|Yo hi vr r1 r2) (Ul<|UN xp) JF) ?_;refine YC (UQ hN hj (.inl hw) (VH<|ZB (is 1 "NoRow" #[1] rfl<|by decide)<|ZB (is 2 "NoPart" #[1] rfl<|by decide)<|ZB (is 3 "NoNumber" #[1] rfl<|by decide) Yq) rfl<|.inr hw) ?_
 refine YC (UQ hN hj (.inl hw) (W0 Gd (Yo hj vs s1 s2)<|VH<|ZB (is 4 "NoHeads" #[1] rfl<|by decide)<|ZB (is 5 "NotBeside" #[1] rfl<|by decide)<|ZB (is 6 "NotIn" #[1] rfl<|by decide) Yq) rfl<|.inr hw) ?_
 refine YC (UQ hN hj (.inl hw) (W0 Gd (Yo hj vs s1 s2)<|VH<|ZB (is 7 "NoTurn" #[1] rfl<|by decide)<|ZB (is 8 "NoLot" #[1] rfl<|by decide)<|ZB (is 9 "TooMany" #[1] rfl<|by decide) Yq) rfl<|.inr hw) ?_
 refine YC (Um (wb fb gC gD Wv (Yo hj vs s1 s2) (ZB (is 10 "BadNote" #[1] rfl<|by decide) Yq) rfl rfl l1 rfl rfl) rfl) ?_
 exact YC (ZaJ (PW.pt<|Zd7 (Zbv<|Zfw<|ZfW hi vr g0 m0 g1 m1 r1 r2)<|jv hs) (Ul<|UN hbad) JF) hlast
def Zgt{xs:bn}{P:Nat->fD}{J:Nat->Nat}(hj:X.N[is]?=aa xs)(hw:X.env.scope.names.lookup xs=aa .local)(s1:(xs == #[11])=aj)(s2:(xs == #[16])=aj)(l2:((P 32).endLine == (P 33).line)=al) :
  PSs X [.Return (aa<|.Call (.Attribute (.Name xs<|P 27) "index"<|P 32) [.Constant (.bool al) (J 3)<|P 28] []<|P 33)<|P 29] (Zfz X.K is):=
 Ul (UN<|wb fb PySem.F.slot_list_index PySem.F.type_list_index Zbu (Yo hj (.inl hw) s1 s2) (ZB w6 Yq) rfl rfl l2 rfl rfl)
def Zhw{P:Nat->fD}{J:Nat->Nat}:PE X (.UnaryOp .USub (.Constant (.int 1) (J 2)<|P 23)<|P 24) rbI:=ZdJ ZaP Qm
structure BSs(X:Cx)(s:List ef)(t:TS):Prop where
 h:PSs X s t
end
end Sd
namespace Gn
open PySem PySem.Spec PyProof.Rows L2
section
open Ev (E Sm Fn Bop Cop Ty Bf Mf)
open Sd (hu7 Calls CX1 spX xwE Errs Cls1 DefX)
structure Cls(K:ao)(mg:bn->Option au)(base:bV)(cl:List aD):Prop where
 er:Errs K mg cl
 rs:∀(c:Nat)(S C:aD),cl[0]?=aa S->cl[c+1]?=aa C->Cls1 base S C
def xn(P:bt)(w:bN)(K:ao)(mg:bn->Option au)(base:bV)(cl:List aD)(fs:List FR)(F:List Fn)(tk:Nat)(sn:List Nat)(f:Nat->aD)(fd:Nat->cB)(d:Nat):Prop:=
 ∀i r,fs[i]?=aa r->FnOk P w K mg base (CX1 P w) d (f i) (fd i) r.ps (spX K cl (Pv.Zk F tk d) (sn.contains i) i)
def BdX(fs:List FR)(zs:List bn)(gs:List (bn×Gv))(F:List Fn)(tk:Nat)(sn:List Nat)(i:Nat)(r:FR)(fn:Fn):Prop:=
 ∀(P:bt)(w:bN)(K:ao)(mg:bn->Option au)(base:bV)(cl:List aD)(f:Nat->aD)(fd:Nat->cB)(d:Nat),Top K mg fs zs gs f fd->Cls K mg base cl->xn P w K mg base cl fs F tk sn f fd d->r.N.Nodup->
  ∀(cdv:au)(A:bU)(outer:List Env)(s:aA)(H:Hp)(E:XK),Room d (A.deeper<|dU r.x (Zf r.st) s.heap.objs.size (f i) cdv)->(A.deeper<|dU r.x (Zf r.st) s.heap.objs.size (f i) cdv).units+7<d4->
   Sd.CSs (XT (CX1 P w) P w K mg base r.N r.x (Zf r.st) (f i) cdv A outer s H E) (xwE cl E) (sn.contains i) (Pv.Zk F tk d) (Pv.muts fn.body) (ZC r.st) fn.body
def OkX(fs:List FR)(zs:List bn)(gs:List (bn×Gv))(F:List Fn)(tk:Nat)(sn:List Nat):Nat->List FR->List Fn->Prop
 |_,[],[]=>True
 |i,r::rs,fn::fns=>(fn.ns=r.N.length/\fn.ps=r.ps.length/\scB r.N r.k (Zf r.st)=al/\BdX fs zs gs F tk sn i r fn)/\OkX fs zs gs F tk sn (i+1) rs fns
 |_,_,_=>False
theorem OkX.get{fs:List FR}{zs:List bn}{gs:List (bn×Gv)}{F:List Fn}{tk:Nat}{sn:List Nat}:∀{rs:List FR}{fns:List Fn}{i0:Nat},OkX fs zs gs F tk sn i0 rs fns->∀i r,rs[i]?=aa r->∃fn,fns[i]?=aa fn/\fn.ns=r.N.length/\fn.ps=r.ps.length/\scB r.N r.k (Zf r.st)=al/\BdX fs zs gs F tk sn (i0+i) r fn
 |[],_,_,_,i,r,e=>by simp at e
 |_::_,[],_,h,_,_,_=>h.elim
 |r::rs,fn::fns,i0,h,0,r',e=>by
  simp at e;subst e;exact#[fn,rfl,h.1.1,h.1.2.1,h.1.2.2.1,h.1.2.2.2]
 |r::rs,fn::fns,i0,h,i+1,r',e=>by
  obtain⟨g,a,b,c,d,q⟩:=OkX.get h.2 i r' (by simpa using e)
  exact#[g,by simpa using a,b,c,d,by rw[d3,iT 1 i]at q;exact q]
theorem xR{P:bt}{w:bN}{K:ao}{mg:bn->Option au}{base:bV}{cl:List aD}{fs:List FR}{zs:List bn}{gs:List (bn×Gv)}{F G:List Fn}{tk:Nat}{sn:List Nat}{f:Nat->aD}{fd:Nat->cB}(O:OkX fs zs gs F tk sn 0 fs G)(hG:∀(i:Nat)(fn:Fn),G[i]?=aa fn->F[i]?=aa fn)(hT:F[tk]?=aa Sd.WQ)(T:Top K mg fs zs gs f fd)(L:Cls K mg base cl):∀d,xn P w K mg base cl fs F tk sn f fd d
 |0=>λi r h=>Sd.Zam
 |d+1=>λi r h=>by
  obtain⟨fn,a,b,c,e,q⟩:=O.get i r h;rw[oB]at q;have S:=Vq e;have a:=hG i fn a;have hb:=λcdv A outer s H E hr=>(q P w K mg base cl f fd d T L (xR O hG hT T L d) S.nd cdv A outer s H E hr<|hu7 hr)
  by_cases ht:i=tk
  .subst ht
   rw[hT]at a;cases a;exact Sd.za Sd.ZbD b c (T.d i r h) S hb
  .exact Sd.za (Sd.wu ht a) b c (T.d i r h) S hb
def Zal{n:Nat}{x:bn}{E:XK}(D:DefX X E)(T:Top X.K X.mg fs zs gs f fd)(h:xn X.prog X.w X.K X.mg X.base cl fs F tk sn f fd d)(hr:Room d X.A)(ha:Sd.CA X (xwE cl E) (Pv.Zk F tk d) (e::es) is)(hx:(fs[n]?).map FR.x=aa x)(hg:Gl X x)(hdb:(x == #[11])=aj)
  (he:aE (e::es) X.env=(aj,cD e X.env)::aE es X.env)(hpl:(dG pos<|aE es X.env).any (·.1)=aj):Sd.CE X (xwE cl E) (Pv.Zk F tk d) #[23] (.call n is):=by
 cases e0:fs[n]? with
 |none=>rw[e0]at hx;cases hx
 |some r=>
  rw[e0]at hx;obtain rfl:r.x=x:=aq hx;exact Sd.zt (h n r e0) hr (Sd.ZdH D) (λ_ _ z=>z) (T.m n r e0) (T.d n r e0).kp (T.b n r e0) ha hg hdb he hpl
def ZfE(T:Top X.K X.mg fs zs gs f fd)(h:xn X.prog X.w X.K X.mg X.base cl fs F tk sn f fd d)(hr:Room d X.A)(ha:Sd.CA X Sd.nx (Pv.Zk F tk d) (e::es) is)(hx:(fs[n]?).map FR.x=aa x)(hg:Gl X x)(hdb:(x == #[11])=aj)
  (he:aE (e::es) X.env=(aj,cD e X.env)::aE es X.env)(hpl:(dG pos<|aE es X.env).any (·.1)=aj):Sd.CE X Sd.nx (Pv.Zk F tk d) #[23] (.call n is):=by
 cases e0:fs[n]? with
 |none=>rw[e0]at hx;cases hx
 |some r=>
  rw[e0]at hx;obtain rfl:r.x=x:=aq hx;exact Sd.zt (h n r e0) hr Sd.Zgl (λ_ _ z=>z.elim) (T.m n r e0) (T.d n r e0).kp (T.b n r e0) ha hg hdb he hpl
def Zfc{x y:bn}{n k:Nat}{px p':fD}{ss:List ef}{B:List Sm}{E:XK}(D:DefX X E)(T:Top X.K X.mg fs zs gs f fd)(h:xn X.prog X.w X.K X.mg X.base cl fs F tk sn f fd d)(hr:Room d X.A)(ha:Sd.CA X (xwE cl E) (Pv.Zk F tk d) (e::es) is)(hB:Sd.CSs X (xwE cl E) fr (Pv.Zk F tk d) ns ss B)(hN:X.N.Nodup)(hx:(fs[k]?).map FR.x=aa y)(hk:sn.contains k=al)
  (hg:Gl X y)(hdb:(y == #[11])=aj)(he:aE (e::es) X.env=(aj,cD e X.env)::aE es X.env)(hpl:(dG p<|aE es X.env).any (·.1)=aj)(hi:X.N[n]?=aa x)(hl:L2.Loc X.env.scope x)(hf:X.fn x=al\/X.env.scope.names.lookup x=aa .local)
  (hs:dy [.Name x px] (.Call (.Name y p') (e::es) [] p) pos.line X.env=cy aj)(hw:dz [.Name x px] (.Call (.Name y p') (e::es) [] p) X.env=cy ag)(h1:(cf [.Name x px] X.env).map (·.2)=[dL (.Name x px) X.env]) :
  Sd.CSs X (xwE cl E) fr (Pv.Zk F tk d) ns (.Assign [.Name x px] (.Call (.Name y p') (e::es) [] p) pos::ss) [.cel n k is B]:=by
 cases e0:fs[k]? with
 |none=>rw[e0]at hx;cases hx
 |some r=>
  rw[e0]at hx;obtain rfl:r.x=y:=aq hx;have q:=h k r e0;rw[hk]at q;refine Sd.Zfd (Sd.PE.imp (xT q hr hg (T.m k r e0) (T.d k r e0).kp (T.b k r e0) .nil (Sd.ZdH D) ha.h hdb he hpl) λO H Q z=>?_) hB hN hi hl hf hs hw h1
  unfold Zd6;simp only[cw];exact z
def Zg8{c:Nat}{x y:bn}{k:Nat}{E:XK}(D:DefX X E)(hc:X.calm=al)(L:Cls X.K X.mg X.base cl)(hx:Sd.Y3[c+1]?=aa x)(hg:Gl X x)(hd:(x == #[11])=aj)
  (he:aE [.Constant (.str y) k p] X.env=(aj,cD (.Constant (.str y) k p) X.env)::aE [] X.env)(hpl:(dG cpos<|aE [] X.env).any (·.1)=aj) :
  Sd.CS X (xwE cl E) fr C ns (.Raise (aa<|.Call (.Name x np) [.Constant (.str y) k p] [] cpos) ag pos) (.raise (c+1) []):=by
 have hl:c+1<cl.length:=by rw[L.er.len];have:=(aK.mp hx).1;exact this
 have h0:0<cl.length:=by lia
 exact Sd.Zbq D hc (L.rs c _ _ (af h0)<|af hl) (af hl) hg (L.er.nm (c+1) _ x (af hl) hx) hd he hpl
open Sd (St3 End Rep Rq LocR V5)
def spL(Pt:aD)(K:ao)(cl:List aD)(C:Calls)(n:Nat):Sp:=λvs H Q E=>(∃ps,H Pt=aa (.tbl ps))/\spX K cl C aj n vs H Q E
section
variable{P:bt}{w:bN}{K:ao}{mg:bn->Option au}{base:bV}{cl:List aD}
def jK{C C':Calls}{n:Nat}{fn:Fn}{x qual:bn}{st:ef}{f c Pt:aD}{fd:cB}{N ps:List bn}{k:Nat}(hF:∀Z S H ds vs,St3 K Z S H->Rq Z H ds vs->C' n ds S=.no\/C' n ds S=Sd.Gc C fn ds S)(hns:fn.ns=N.length)(hps:fn.ps=ps.length)(Fu:Fun K x qual st f fd)(S:FnScope N ps (Zf st))(hcd:fd.code=.ref c)
  (hb:∀(A:bU)(outer:List Env)(s:aA)(H:Hp)(E:XK),(∃ps,H Pt=aa (.tbl ps))->Room k (A.deeper<|dU qual (Zf st) s.heap.objs.size f<|.ref c)->
   Sd.CSs (XT (CX1 P w) P w K mg base N qual (Zf st) f (.ref c) A outer s H E) (xwE cl E) aj C (Pv.muts fn.body) (ZC st) fn.body) :
  FnOk P w K mg base (CX1 P w) (k+1) f fd ps (spL Pt K cl C' n):=by
 have eq:∀{Z S H ds vs Q E},St3 K Z S H->Rq Z H ds vs->End K (xwE cl E) (Sd.XO aj H) Z H Q (C' n ds S)->End K (xwE cl E) (Sd.XO aj H) Z H Q (Sd.Gc C fn ds S):=λ{Z S H ds vs Q E} st r h=>by
  rcases hF Z S H ds vs st r with e|e
  .rw[e]at h;exact h.elim
  .rw[e]at h;exact h
 obtain⟨oc,od,kV,doc,pm,an,cdv,ct,osl,rfl,lk,hcode⟩:=Fu.ex;obtain rfl:cdv=.ref c:=hcd;refine Zd0 lk hcode S (λvs H Q E #[_,Z,ds,S,st,r,h]=>?_) λA outer s H vs Q E hr #[hP,Z,ds,S',st,r,h]=>#[_,(hb A outer s H E hP hr).h,Z,H,λ_=>ag,Pv.ZO fn.ns ds,[],S',st,Sd.Eu.start st r N fn.ns hns,Sd.zV (λ_ _ q=>q) (λ_ _ q=>q)<|eq st r h]
 have h:=eq st r h;obtain⟨hl,_⟩:=Sd.End.guard h;rw[r.length,hl,hps]
def ZcE(hO:Sd.vp Pt H)(hS:SqL K H a (ns.map V.int))(h:∀s,∃S',C n [.scr ns] s=.ok (.bl al) S'):spL Pt K cl C n [.ref a] H (λv _=>v=.bl al) λ_ _ _=>False:=by
 obtain⟨S',e⟩:=h (0,aj);have sc:Sd.Scr K H a ns:=by
  rcases hS with(hS|hS)|hS
  .by_cases z:a=Pt
   .rw[z,hO.1]at hS;cases hS
   .rcases hO.2 a z with z|⟨o,xs,z⟩
    .rw[z]at hS;cases hS
    .rw[z]at hS;cases hS
  .exact .inl hS
  .exact .inr hS
 refine#[#[_,hO.1],#[K,ag,λ_=>False,λ_ h=>by cases h],[.scr ns],(0,aj),#[rfl,λ_ h=>h.elim,λ_ h=>(by cases h),λQ ps e=>?_],Sd.Rq.cons (by exact#[a,rfl,sc]) Sd.Rq.nil,?_]
 .by_cases z:Q=Pt
  .subst z
   rw[hO.1]at e;cases e;exact#[trivial,λpos cv q=>by cases q]
  .rcases hO.2 Q z with z|⟨_,_,z⟩<;>(rw[z]at e;cases e)
 .rw[e]
  exact λρ' H' v _ _ r=>r.1.bl'
end
def BdL(fs:List FR)(zs:List bn)(gs:List (bn×Gv))(F:List Fn)(tk:Nat)(sn:List Nat)(r:FR)(fn:Fn):Prop:=
 ∀(P:bt)(w:bN)(K:ao)(mg:bn->Option au)(base:bV)(cl:List aD)(f:Nat->aD)(fd:Nat->cB)(fL c Pt:aD)(d:Nat),Top K mg fs zs gs f fd->Cls K mg base cl->xn P w K mg base cl fs F tk sn f fd d->r.N.Nodup->
  dA base c Pt->base.BuiltinsAt mg Pt->bv≠Pt->
  ∀(A:bU)(outer:List Env)(s:aA)(H:Hp)(E:XK),(∃ps,H Pt=aa (.tbl ps))->Room (d+2) (A.deeper<|dU r.x (Zf r.st) s.heap.objs.size fL<|.ref c)->(A.deeper<|dU r.x (Zf r.st) s.heap.objs.size fL<|.ref c).units+7<d4->
   Sd.CSs (XT (CX1 P w) P w K mg base r.N r.x (Zf r.st) fL (.ref c) A outer s H E) (xwE cl E) aj (Pv.Zk F tk d) (Pv.muts fn.body) (ZC r.st) fn.body
open PySem.W
open Sd (ExK Y3 veM)
def Zcs(K:Frag)(cl:List aD)(i:Nat)(C:aD):Bool:=
 excIn K C veM "ValueError.__new__" && ((clsIn K C).isSome&&(pU K (.ref C) "__getattribute__" == aa (aa<|.builtin "BaseException.__getattribute__")&&(pU K (.ref C) "__getattr__" == aa ag &&
  (pU K (.ref C) "__class__" == aa (aa<|.builtin "object.__class__")&&(mroIn K C (.type "BaseException") == aa al&&(mroIn K C (.type "object") == aa al&&(kitOne K (.ref C) (.type "ValueError") == aa al &&
   (exmOne K (.ref C) (.ref<|cl.getD 0 0) == aa al&&(cl.drop 1).zipIdx.all λq=>kitOne K (.ref C) (.ref q.1) == aa (ai<|i=q.2)))))))))
def Q7(K:Frag)(cl:List aD):Bool:=
 decide (cl.length=11)&&((cl.zip Y3).all (λq=>nsIn K bv q.2 == aa (aa<|.ref q.1))&&(cl.drop 1).zipIdx.all λq=>Zcs K cl q.2 q.1)
def Ux{B:Type}{l:List B}{f:B×Nat->Bool}(h:l.zipIdx.all f=al){i:Nat}{a:B}(e:l[i]?=aa a):f (a,i)=al:=by
 refine bp.mp h (a,i) ?_;rw[iL];exact e
section
variable{K:Frag}{cl:List aD}
def yB(h:Q7 K cl=al){i:Nat}{C:aD}(e:cl[i+1]?=aa C):Zcs K cl i C=al:=by
 unfold Q7 at h;rw[aG,aG]at h;have e1:(cl.drop 1)[i]?=aa C:=by rw[eG,iT];exact e
 exact Ux h.2.2 e1
def Zch{hh:bV}{mg:bn->Option au}(X:K.In hh)(G:hh.Ns bv mg)(h:Q7 K cl=al):Errs K mg cl:=by
 have h0:=h;unfold Q7 at h0;rw[aG,aG,T0]at h0;obtain⟨hl,hn,_⟩:=h0;have parts:∀{i:Nat}{C:aD},cl[i+1]?=aa C->_:=λ{i C} e=>by
  have:=yB h e;unfold Zcs at this;simp only[aG,beq_iff_eq]at this;exact this
 refine#[hl,λj C x e1 e2=>?_,λj C e=>?_,λi j C D e1 e2=>?_,λi C e=>?_,λi C S e1 e2=>?_]
 .have:=bp.mp hn (C,x) (cM (by rw[gp];exact#[e1,e2]))
  exact mg_of X G<|beq_iff_eq.mp this
 .obtain⟨_,a,b,c,d,e5,e6,_⟩:=parts e
  exact#[a,b,c,d,e5,e6]
 .obtain⟨_,_,_,_,_,_,_,_,_,z⟩:=parts e1
  have e3:(cl.drop 1)[j]?=aa D:=by rw[eG,iT];exact e2
  exact beq_iff_eq.mp<|Ux z e3
 .obtain⟨_,_,_,_,_,_,_,z,_⟩:=parts e
  exact z
 .obtain⟨_,_,_,_,_,_,_,_,z,_⟩:=parts e1
  have:cl.getD 0 0=S:=by rw[ax,e2];rfl
  rw[this]at z;exact z
def ZeS(X:K.In base)(q:excIn K C veM "ValueError.__new__" = al):Cls1 base S C:=by
 unfold excIn at q;split at q
 case h_2=>cases q
 case h_1 d0 k sl lk=>
  split at q
  case h_2=>cases q
  case h_1 c0 rest s0 s1 s2 s3 made s5 em es=>
   repeat rw[aG]at q
   obtain⟨⟨⟨⟨⟨y1,y2⟩,y3⟩,y4⟩,y5⟩,y6⟩:=q;cases beq_iff_eq.mp y1;cases beq_iff_eq.mp y2;have y3:k.hasDel=aj:=by simpa using y3
   cases k;cases em;cases y3;have es:=lx.mp es;cases es;exact#[rest,_,_,_,_,_,_,_,_,_,d0,s0,s1,s2,s3,s5,_,X _ _ lk,.of_isNs<|isNs_of_in X y5,nsMap_none_of_in X y5<|beq_iff_eq.mp y6,tail_of_in X y4]
def Zcw(X:K.In hh)(G:hh.Ns bv mg)(XB:K.In base)(h:Q7 K cl=al):Cls K mg base cl:=by
 refine#[Zch X G h,λc S C e0 e1=>ZeS XB ?_]
 have:=yB h e1;unfold Zcs at this;rw[aG]at this;exact this.1
end
end
section
open Ev (E Sm Fn Bop Cop Ty Bf Mf)
open Sd (Calls CX1)
def Zdl{l:l9}{w:bN}{K:ao}{h:bV}{mg:bn->Option au}{fa c Pt aL:aD}{fs:List FR}{zs:List bn}{gs:List (bn×Gv)}{F G:List Fn}{tk L:Nat}{sn:List Nat}{fnL:Fn}{fdL:cB}{st:ef}{N:List bn}{as cl:List aD}{fds:List cB}
  (X:K.In h)(Gs:h.Ns bv mg)(hfa:mg "law" = aa (.ref fa))(O:OkX fs zs gs F tk sn 0 fs G)(hG:∀(i:Nat)(fn:Fn),G[i]?=aa fn->F[i]?=aa fn)(hT:F[tk]?=aa Sd.WQ)(hLt:L≠tk)(A:FnsAt K fs as fds)(Z:ZsAt K zs)(Y:GsAt K gs)(Er:Q7 K cl=al)
  (AL:FnsAt K [#["law",st,"_law_script" :: N,1]] [aL] [fdL])(hFL:F[L]?=aa fnL)(h1:fnL.ns=N.length+1)(h2:fnL.ps=1)(hsc:scB ("_law_script" :: N) 1 (Zf st)=al)(B:BdL fs zs gs F tk sn #["law",st,"_law_script" :: N,1] fnL)(hcode:fdL.code=.ref c) :
  ∃fd:cB,(∀(s:aA)(v:au),mQ s fd #[[v],[]] [("_law_script",v)])/\∀base:bV,K.In base->base.Ns bv mg->dA base c Pt->base.BuiltinsAt mg Pt->bv≠Pt->FnOk l.prog w K mg base (CX1 l.prog w) 65 fa fd ["_law_script"] (spL Pt K cl (Pv.Zk F tk 63) L):=by
 have T:Top K mg fs zs gs (λi=>as.getD i 0) (λi=>fds.getD i fdL):=
  #[λi r e=>(A.get i r e).2.1,λi r e=>by
   obtain⟨_,F,B⟩:=A.get i r e;exact F.binds B,λi r e=>iq X Gs (A.get (fd0:=fdL) i r e).1,λx hx=>PySem.W.mg_none_of X Gs<|Z.get x hx,λy hy=>Y.get X Gs y hy]
 obtain⟨hn,Fu,Bn⟩:=AL.get (fd0:=fdL) 0 _ rfl;have e:=hfa.symm.trans<|iq X Gs hn;cases e;have S:=Vq hsc;refine#[fdL,λs v=>?_,λbase XB GB hC hB hP=>?_]
 .obtain⟨oc,od,kV,doc,pm,an,cdv,ct,osl,e,lk,hcd⟩:=Fu.ex
  have e:fdL=_:=e;rw[e];exact .of_eq<|Bn kV doc pm an cdv ct [v] rfl
 .have Lc:=Zcw X Gs XB Er
  exact jK (N:="_law_script" :: N) (Sd.wu hLt hFL) h1 h2 Fu S hcode λA outer s H E hp hr=>(B l.prog w K mg base cl _ _ _ c Pt 62 T Lc (xR O hG hT T Lc 62) S.nd hC hB hP A outer s H E hp hr<|Sd.hu7 hr)
theorem Zbs{l:l9}{q:bt}{loose:List bn}{XP:(bn->Option au)->bV->Prop}{YP:bN->bV->Prop}{d:rH}{K:Params->ao}{F:List Fn}{tk L:Nat}{c Pt:aD}{dr:rH}{cl:bN->List aD}(hok:∀(ns:List Int) s,∃S,Pv.Zk F tk 63 L [.scr ns] s=.ok (.bl al) S)(hn:l.most=aa 63)(hdf:d.params.defaults=[])
  (hY:∀(w:bN)(h:bV),YP w h->(K w.params).In h)(hrec:(recsOf q).find? (λe=>e.name == d.name)=aa dr)(ht:∀w:bN,rh (K w.params) d.name=aa (c,Pt))(hK:∀w:bN,mL (K w.params)=al)
  (hF:∀(w:bN)(mg:bn->Option au)(fa:aD)(h:bV),(K w.params).In h->h.Ns bv mg->mg d.name=aa (.ref fa)->
   ∃fd:cB,(∀(s:aA)(u:au),mQ s fd #[[u],[]] [("_law_script",u)])/\∀base:bV,(K w.params).In base->base.Ns bv mg->dA base c Pt->base.BuiltinsAt mg Pt->bv≠Pt->FnOk l.prog w (K w.params) mg base (CX1 l.prog w) 65 fa fd ["_law_script"] (spL Pt (K w.params) (cl w) (Pv.Zk F tk 63) L)) :
  rj q loose XP YP l.row.toRowW d [] (λf vs=>pK f vs):=
 Sd.Zbs (n:=63) (k:=65) (x:="_law_script") (CX:=λw=>CX1 l.prog w) (sp:=λw Pt=>spL Pt (K w.params) (cl w) (Pv.Zk F tk 63) L) hn #[1] hdf #[rfl,by decide,by decide,rfl] hY hrec ht hK hF (λw H a ns hl hO hS=>ZcE hO hS<|hok ns)<|by rintro _ _ _ _ _ ⟨_,_,_,_,_,_,_,_,_,_,_,_,_,_,z⟩;exact z
end
end Gn
namespace Sd
open PySem PySem.Spec PyProof.Rows L2
open Ev (E Sm Fn Bop Cop Ty Bf Mf)
end Sd
namespace Gn
open PySem PySem.Spec PyProof.Rows L2
open Ev (E Sm Fn Bop Cop Ty Bf Mf)
open Sd (Calls CX1 spX xwE Errs Cls1 DefX LamS LamIn Va tB3 ksum YU Y3)
theorem WP :∀(l:List (bn×ee))(acc:List (bn×aD)),(∀y∈l,y.2=.free->(env.cells.lookup y.1).isSome=al)->(∀x c,(x,c)∈acc->env.cells.lookup x=aa c)->
  ∃cs,(mF l acc (λy r=>if y.2 == .free then do let a <-cellOf env y.1;cy (iK ((y.1,a)::r))else cy (iK r)):nO _)=cy cs/\(∀x c,(x,c)∈cs->env.cells.lookup x=aa c)/\(∀x c,(x,c)∈acc->(x,c)∈cs)/\∀x,(x,bD)∈l->∃c,(x,c)∈cs
 |[],acc,_,ha=>#[acc,rfl,ha,λ_ _ h=>h,λx h=>by simp at h]
 |(x,k)::l,acc,hl,ha=>by
  by_cases e:k=.free
  .subst e
   have h0:=hl (x,.free) #[2] rfl
   obtain⟨c,hc⟩:=cU.mp h0;obtain⟨cs,e1,h1,h2,h3⟩:=WP l ((x,c)::acc) (λy hy=>hl y<|by simp[hy]) (λy d hd=>by
    rcases az.mp hd with z|z
    .cases z;exact hc
    .exact ha y d z)
   refine#[cs,?_,h1,λy d hd=>h2 y d (by simp[hd]),λy hy=>?_]
   .rw[<-e1]
    unfold cellOf;have hc:=hc;simp[hc]
   .rcases az.mp hy with z|z
    .cases z;exact#[c,h2 x c #[2]]
    .exact h3 y z
  .obtain⟨cs,e1,h1,h2,h3⟩:=WP l acc (λy hy=>hl y<|by simp[hy]) ha
   refine#[cs,?_,h1,h2,λy hy=>?_]
   .rw[<-e1]
    simp[e]
   .rcases az.mp hy with z|z
    .cases z;exact T7 rfl e
    .exact h3 y z
def WK(hl:∀y∈scope.names,y.2=.free->(env.cells.lookup y.1).isSome=al):∃cs,ig scope env=cy cs/\(∀x c,(x,c)∈cs->env.cells.lookup x=aa c)/\∀x,(x,bD)∈scope.names->∃c,(x,c)∈cs:=by
 obtain⟨cs,e,h1,_,h3⟩:=WP scope.names [] hl (λx c h=>by simp at h)
 refine#[cs,?_,h1,h3];rw[<-e];unfold ig;simp
theorem X4:∀(names:List (bn×ee))(n:Nat)(acc:List (bn×aD)),(acc.Pairwise λx y=>x.2≠y.2)->(∀y∈acc,y.2<n)->(dv n names acc).Pairwise λx y=>x.2≠y.2
 |[],_,_,h,_=>h
 |(x,k)::r,n,acc,h,hn=>by
  unfold dv;split
  .refine X4 r (n+1) _ (bj.mpr #[λy hy z=>?_,h]) λy hy=>?_
   .have:=hn y hy
    exact T7 (z)<|eN this
   .rcases az.mp hy with rfl|hy
    .exact fY n
    .exact dq<|hn y hy
  .exact X4 r n acc h hn
def Yd{B:Type}{l:List (bn×B)}{x:bn}{a:B}(h:l.lookup x=aa a):(x,a)∈l:=dM h
def uQ{l:List (bn×aD)}(h:l.Pairwise λx y=>x.2≠y.2){x y:bn}{c:aD}(h1:(x,c)∈l)(h2:(y,c)∈l):x=y:=by
 induction h with
 |nil=>simp at h1
 |cons hd _ ih=>
  rcases az.mp h1 with z1|z1<;>rcases az.mp h2 with z2|z2
  .exact congrArg Prod.fst<|z1.trans z2.symm
  .rw[<-z1]at hd;exact T7 rfl<|hd (y,c) z2
  .rw[<-z2]at hd;exact T7 rfl<|hd (x,c) z1
  .exact ih z1 z2
def QG{l:List (bn×aD)}{x:bn}{c:aD}(h:(x,c)∈l):∃d,l.lookup x=aa d:=by
 induction l with
 |nil=>simp at h
 |cons p l ih=>
  obtain⟨y,d⟩:=p;rw[bK];by_cases e:x=y
  .subst e;exact#[d,by simp]
  .rcases az.mp h with z|z
   .cases z;exact T7 rfl e
   .have:(x == y)=aj:=by simpa using e
    rw[this];exact ih z
noncomputable def Zeq(sc scope:dO):Bool:=
 (match scope.kind with|.function=>al|_=>aj)&&(!scope.isCoroutine&&(!scope.isGenerator&&scope.names.all λy=>ai (y.2≠.cell)&&(ai (y.2≠.local)&&(!decide (y.2=.free)||decide (sc.names.lookup y.1=aa .cell)))))
def Zeh{X:Cx}{sc scope:dO}{n:Nat}(hs:X.env.scope=sc)(hc:X.env.cells=dv n sc.names [])(h:Zeq sc scope=al):∃clos,ig scope X.env=cy clos/\LamIn X scope clos:=by
 unfold Zeq at h;simp only[aG,kO,T0,bp,iI,decide_eq_false_iff_not]at h;obtain⟨h1,h2,h3,h4⟩:=h;have fr:∀x,(x,bD)∈scope.names->sc.names.lookup x=aa .cell:=λx hx=>by
  rcases(h4 _ hx).2.2 with z|z
  .exact T7 rfl z
  .exact z
 obtain⟨cs,e,c1,c2⟩:=WK λy hy z=>by
  obtain⟨x,k⟩:=y;cases z;obtain⟨c,q⟩:=L2.U6<|fr x hy;rw[hc,q];rfl
 have ap:=X4 sc.names n [] #[2] #[2]
 have lk:=λx c q=>c1 x c<|Yd q
 refine#[cs,e,#[?_,h2,h3,λy hy=>(h4 y hy).1,λx v=>?_,λx q=>?_,λx y c q1 q2=>?_],lk,λx q=>?_]
 .cases e:scope.kind<;>rw[e]at h1<;>first|rfl|cases h1
 .rcases v with v|v|v
  .exact T7 rfl (h4 _<|Yd v).2.1
  .exact T7 rfl (h4 _<|Yd v).1
  .exact v
 .obtain⟨c,q⟩:=c2 x (Yd q)
  exact QG q
 .have a1:=Yd (lk x c q1)
  have a2:=Yd<|lk y c q2;rw[hc]at a1 a2;exact uQ ap a1 a2
 .rw[hs]
  exact fr x<|Yd q
noncomputable abbrev rN(wd:Bool):List bn:=["_law_call","_law_error","e","_law_sorts"]
noncomputable def Zgu(wd:Bool)(P:Nat->fD):Expr:=.UnaryOp .USub (.Constant (.int 1) 0<|P 23)<|P 24
noncomputable def ZdN(wd:Bool)(P:Nat->fD):List ef:=[.Return (aa<|.Call (.Attribute (.Name "_law_sorts"<|P 27) "index"<|P 32) [.Constant (.bool al) 0<|P 28] []<|P 33)<|P 29]
def rbR(wd:Bool):TE:=Sd.rbI
def fiR(K:ao)(wd:Bool):TS:=Sd.Zfz K 3
def vE(wd:Bool)(P:Nat->fD)(sumE:Expr):List ef:=
 let n:="_law_error"
 let s:="_law_sorts"
 let i:=λ(x:bn) (k:Nat)=>Expr.Call (.Name "isinstance"<|P k) [.Name n<|P<|k+1,.Name x<|P<|k+2] []<|P<|k+3
 .If (.Compare (.Name n<|P 0) [.Is] [.Constant .none 0<|P 1]<|P 2) [.Return (aa<|.Constant .none 0<|P 3)<|P 4] [] (P 5) ::
   .Assign [.Name s<|P 6] (.List [i "NoRow" 40,i "NoPart" 44,i "NoNumber" 48]<|P 7) (P 8) ::
   .Assign [.Name s<|P 9] (.BinOp (.Name s<|P 10) .Add (.List [i "NoHeads" 52,i "NotBeside" 56,i "NotIn" 60]<|P 11)<|P 12) (P 13) ::
   .Assign [.Name s<|P 14] (.BinOp (.Name s<|P 15) .Add (.List [i "NoTurn" 64,i "NoLot" 68,i "TooMany" 72]<|P 16)<|P 17) (P 18) ::
   .Expr (.Call (.Attribute (.Name s<|P 19) "append"<|P 30) [i "BadNote" 76] []<|P 31) (P 20) ::
   .If (.BoolOp .Or [.UnaryOp .Not (i "ValueError" 80)<|P 21,sumE]<|P 22) [.Return (aa<|Zgu wd P)<|P 25] [] (P 26)::ZdN wd P
noncomputable def wT(P:Nat->fD):List ef:=
 [.Assign [.Name "_law_error"<|P 90] (.Constant .none 0<|P 91)<|P 92,.Try [.Expr (.Call (.Name "_law_call"<|P 93) [] []<|P 94)<|P 95] [.ExceptHandler (aa<|.Name "SpaceError"<|P 96) (aa "e") [.Assign [.Name "_law_error"<|P 97] (.Name "e"<|P 98)<|P 99]<|P 100] [] []<|P 101]
noncomputable def vy(b:List ef):Expr:=match b.getD 7 (.Pass #[0,0,0,0])with
 |.If (.BoolOp _ [_,e] _) _ _ _=>e
 |_=>.Constant .none 0 #[0,0,0,0]
def Zbk(wd:Bool)(P:Nat->fD)(sc:dO):Bool:=
 (rN wd).all (λx=>ai<|sc.names.lookup x=aa .local)&&(((["isinstance","ValueError"]:List bn)++Y3).all (λx=>ai<|sc.names.lookup x=aa .globalImplicit)&&((P 30).endLine == (P 31).line&&(P 32).endLine == (P 33).line))
abbrev cxR(wd:Bool)(P:bt)(w:bN)(K:ao)(mg:bn->Option au)(base:bV)(st:ef)(f:aD)(cdv:au)(A:bU)(outer:List Env)(s:aA)(H:Hp):Cx:=XT (CX1 P w) P w K mg base (rN wd) "_law_refused" (Zf st) f cdv A outer s H E0
def Zaq(wd:Bool)(P:bt)(w:bN)(K:ao)(mg:bn->Option au)(base:bV)(cl:List aD)(C:Calls)(d:Nat)(st:ef)(f:aD):Prop:=
 ∀(cdv:au)(A:bU)(outer:List Env)(s:aA)(H:Hp),Room (d+1) (A.deeper<|dU "_law_refused" (Zf st) s.heap.objs.size f cdv)->
  PSs (cxR wd P w K mg base st f cdv A outer s H) ((ZC st).drop 2) (Va K 1 3 cl (tB3 (cxR wd P w K mg base st f cdv A outer s H) Sd.nx<|Pv.Yv C<|ksum 3) (rbR wd)<|fiR K wd)
section
variable{wd:Bool}{P:bt}{w:bN}{K:ao}{mg:bn->Option au}{base:bV}{cl:List aD}{fs:List FR}{zs:List bn}{gs:List (bn×Gv)}{F:List Fn}{f:Nat->aD}{fd:Nat->cB}{d nR:Nat}{st:ef}{Pp:Nat->fD}{C:Calls}
def wG(h:Zbk wd Pp sc=al):(∀x∈rN wd,sc.names.lookup x=aa .local)/\(∀x∈(["isinstance","ValueError"]:List bn)++Y3,sc.names.lookup x=aa .globalImplicit)/\((Pp 30).endLine == (Pp 31).line)=al/\((Pp 32).endLine == (Pp 33).line)=al:=by
 unfold Zbk at h;simp only[aG,bp,T0]at h;exact#[h.1,h.2.1,h.2.2.1,h.2.2.2]
def ZfY(T:Top K mg fs zs gs f fd)(L:Cls K mg base cl)(hst:(ZC st).drop 2=vE wd Pp (vy<|ZC st))(hB:Zbk wd Pp (Zf st)=al)(hsc:scB (rN wd) 1 (Zf st)=al)(hz:zs.contains "isinstance" = al)(hz2:zs.contains "ValueError" = al)
  (hsum:∀(cdv:au)(A:bU)(outer:List Env)(s:aA)(H:Hp),(A.deeper<|dU "_law_refused" (Zf st) s.heap.objs.size (f nR) cdv).units+7<d4->Sd.CT (cxR wd P w K mg base st (f nR) cdv A outer s H) Sd.nx C (vy<|ZC st) (ksum 3)) :
  Zaq wd P w K mg base cl C d st (f nR):=by
 intro cdv A outer s H hr;obtain⟨b1,b2,b3,b4⟩:=wG hB;rw[hst];have gl:=λx hx=>b2 x hx
 have nd:=(Vq hsc).nd;have hs:=(hsum cdv A outer s H<|Sd.hu7 hr).h;have hl:Sd.BSs (cxR wd P w K mg base st (f nR) cdv A outer s H) (ZdN wd Pp) (fiR K wd):=by
  exact⟨Sd.Zgt (J:=λ_=>0) rfl (b1 _<|by simp[rN]) rfl rfl b4⟩
 have hb:PE (cxR wd P w K mg base st (f nR) cdv A outer s H) (Zgu wd Pp) (rbR wd):=by
  exact Sd.Zhw (J:=λ_=>0)
 have hir:(rN wd)[1]?=aa ("_law_error" : bn):=rfl
 have his:(rN wd)[3]?=aa ("_law_sorts" : bn):=rfl
 have mem:∀x∈[("_law_error" : bn),"_law_sorts"],x∈rN wd:=by simp[rN]
 exact Sd.ZbN (J:=λ_=>0) L.er nd hir (b1 _<|mem _<|by simp) his (b1 _<|mem _<|by simp) (gl _<|by simp) (T.no hz) (gl _<|by simp) (T.no hz2) (λx hx=>gl x<|by simp[hx]) rfl rfl rfl rfl hs b3 hb hl.h
def Ze9(he:e<10)(v:σ'[3]?=aa (aa<|.ref q))(hl:σ'.length=(rN wd).length)(h:H' q=aa (.lst<|(Sd.Z4 e).map .bl))(st:Sd.St3 K Z S H')(k:∀H2,Sd.Fut Z H' Z H2->Sd.St3 K Z S H2->Dn.rt (Sd.vR wd e) H2):fiR K wd Dn σ' H':=by
 exact Sd.ZcY he v h<|k H' (Sd.Fut.refl _ _) st
def ZgJ{X:Cx}{E:XK}{sc:dO}{n:Nat}{c Pt:aD}{i:Ev.E}{xw:Nat->Hp->Prop}{body:Expr}{scope:dO}{lp p pos:fD}
  (D:DefX X E)(hr:Room (d+2) X.A)(T:Top X.K X.mg fs zs gs f fd)(L:Cls X.K X.mg X.base cl)(RA:Zaq wd X.prog X.w X.K X.mg X.base cl C d st (f nR))(hx:fs[nR]?=aa #["_law_refused",st,rN wd,1])
  (hst:(ZC st).take 2=wT Pp)(hB:Zbk wd Pp (Zf st)=al)(hsc:scB (rN wd) 1 (Zf st)=al)
  (hP:∃ps,X.H₀ Pt=aa (.tbl ps))(CH:dA X.base c Pt)(hBi:X.base.BuiltinsAt X.mg Pt)(hgP:bv≠Pt)
  (hfn:X.fn=λ_=>al)(hcode:X.env.code=.ref c)(hs:X.env.scope=sc)(hc:X.env.cells=dv n sc.names [])(hq:X.env.qual++"<lambda>" = YU)(hl:Zeq sc scope=al)(hg:Gl X "_law_refused")
  (hbody:∀(g:aD)(c':aD)(clos:List (bn×aD))(A:bU)(outer:List Env)(s:aA)(H:Hp)(E1:XK),LamS scope clos->Room d (A.deeper<|fq YU scope s.heap.objs.size g (.ref c') clos)->(A.deeper<|fq YU scope s.heap.objs.size g (.ref c') clos).units+7<d4->Sd.CE (Sd.cxL X.prog X.w X.K X.mg X.base X.N scope g (.ref c') clos A outer s H E1) (xwE cl E1) C body i) :
  Sd.CE X xw C (.Call (.Name "_law_refused" p) [.Lambda #[[],[],ag,[],[],ag,[]] body scope lp] [] pos) (.refu wd i):=by
 obtain⟨b1,b2,b3,b4⟩:=wG hB;obtain⟨clos,hcl,LI⟩:=Zeh hs hc hl;have hl0:0<cl.length:=by rw[L.er.len];decide
 have h0:=af hl0;have hst:ZC st=wT Pp++(ZC st).drop 2:=by rw[<-hst,cX]
 have hic:(rN wd)[0]?=aa ("_law_call" : bn):=rfl
 have hie:(rN wd)[2]?=aa ("e" : bn):=rfl
 have hir:(rN wd)[1]?=aa ("_law_error" : bn):=rfl
 have hil:3<(rN wd).length:=show 3<4 by decide
 have mem:∀x∈[("_law_call" : bn),"_law_error","e"],x∈rN wd:=by simp[rN]
 have pr:(#["_law_refused",st,rN wd,1]:FR).ps=[("_law_call" : bn)]:=rfl
 have hbn:=T.b nR _ hx;rw[pr]at hbn;have hsc1:=Vq hsc;have tk:(rN wd).take 1=[("_law_call" : bn)]:=rfl
 rw[tk]at hsc1;exact Sd.Zc9 (ts:=λY=>tB3 Y Sd.nx<|Pv.Yv C<|ksum 3) D (λx=>by rw[hfn]) hr L.er h0 hP hcode CH hBi hgP hq hcl rfl LI (λpm c' ctv=>rfl)
  (λg c' A outer s H E1 hr=>(hbody g c' clos A outer s H E1 LI.S hr<|Sd.hu7 hr)) hg (T.m nR _ hx) (T.d nR _ hx).kp (T.d nR _ hx) hsc1 hbn rfl rfl rfl hst (Vq hsc).nd hic rfl hie hir hil #[1] #[1] #[1]
  (b1 _<|mem _<|by simp) (b1 _<|mem _<|by simp) (b1 _<|mem _<|by simp) (λ_ _ _=>b2 _<|by simp[Y3]) (L.er.nm 0 _ _ h0 rfl) rfl rfl rfl rfl rfl (λ_ _ _=>rfl) (λ_ _ _=>rfl) (λ_ _ _=>rfl) RA
  (λY Z S e σ' H' q Q' hK he h1 h2 h3 st' hQ=>Sd.ZeQ he h1 h2 h3 (hK▸st') λH2 f2 s2=>hQ H2 f2<|hK▸s2)
  (λDn σ' ρ' H' S e q he v hl h st k=>Ze9 he v hl h st k)
end
def ji{fs:List FR}{zs:List bn}{gs:List (bn×Gv)}{F:List Fn}{tk:Nat}{sn:List Nat}{i:Nat}{r:FR}{a b:Nat}:BdX fs zs gs F tk sn i r #[a,b,[.asg []<|.c .non]]:=λP w K mg base cl f fd d T L h hn cdv A outer s H E hr hu=>
 ⟨by
  rintro pq s O H D I ⟨Z,H0,W,l,os,S,st,en,h⟩;cases os<;>exact False.elim h⟩
def ZgZ(wd:Bool)(fs:List FR)(zs:List bn)(gs:List (bn×Gv))(F:List Fn)(tk nR:Nat)(st:ef):Prop:=
 ∀(P:bt)(w:bN)(K:ao)(mg:bn->Option au)(base:bV)(f:Nat->aD)(fd:Nat->cB)(d:Nat),Top K mg fs zs gs f fd->(rN wd).Nodup->∀(cdv:au)(A:bU)(outer:List Env)(s:aA)(H:Hp),(A.deeper<|dU "_law_refused" (Zf st) s.heap.objs.size (f nR) cdv).units+7<d4->Sd.CT (cxR wd P w K mg base st (f nR) cdv A outer s H) Sd.nx (Pv.Zk F tk d) (vy<|ZC st) (ksum 3)
def BdR(wd:Bool)(fs:List FR)(zs:List bn)(gs:List (bn×Gv))(F:List Fn)(tk:Nat)(sn:List Nat)(nR:Nat)(st:ef)(r:FR)(fn:Fn):Prop:=
 ∀(P:bt)(w:bN)(K:ao)(mg:bn->Option au)(base:bV)(cl:List aD)(f:Nat->aD)(fd:Nat->cB)(fL c Pt:aD)(d:Nat),Top K mg fs zs gs f fd->Cls K mg base cl->xn P w K mg base cl fs F tk sn f fd d->Zaq wd P w K mg base cl (Pv.Zk F tk d) d st (f nR)->r.N.Nodup->
  dA base c Pt->base.BuiltinsAt mg Pt->bv≠Pt->
  ∀(A:bU)(outer:List Env)(s:aA)(H:Hp)(E:XK),(∃ps,H Pt=aa (.tbl ps))->Room (d+2) (A.deeper<|dU r.x (Zf r.st) s.heap.objs.size fL<|.ref c)->Room d (A.deeper<|dU r.x (Zf r.st) s.heap.objs.size fL<|.ref c)->(A.deeper<|dU r.x (Zf r.st) s.heap.objs.size fL<|.ref c).units+7<d4->
   Sd.CSs (XT (CX1 P w) P w K mg base r.N r.x (Zf r.st) fL (.ref c) A outer s H E) (xwE cl E) aj (Pv.Zk F tk d) (Pv.muts fn.body) (ZC r.st) fn.body
def Zfe{wd:Bool}{fs:List FR}{zs:List bn}{gs:List (bn×Gv)}{F:List Fn}{tk nR:Nat}{sn:List Nat}{st:ef}{r:FR}{fn:Fn}{Pp:Nat->fD}(S:ZgZ wd fs zs gs F tk nR st)(B:BdR wd fs zs gs F tk sn nR st r fn)(hst:(ZC st).drop 2=vE wd Pp (vy<|ZC st))(hB:Zbk wd Pp (Zf st)=al)(hsc:scB (rN wd) 1 (Zf st)=al)(hz:zs.contains "isinstance" = al)(hz2:zs.contains "ValueError" = al):BdL fs zs gs F tk sn r fn:=
 λP w K mg base cl f fd fL c Pt d T L h hn hC hBi hP A outer s H E hp hr hu=>
  B P w K mg base cl f fd fL c Pt d T L h (ZfY T L hst hB hsc hz hz2<|S P w K mg base f fd d T (Vq hsc).nd) hn hC hBi hP A outer s H E hp hr (hr.mono<|by lia) hu
end Gn
namespace K73
open Ev
noncomputable def U9:Fn:=#[2,2,
 [.ite (.cmp .lt (.v 1)<|.blt .len [(.v 0)]) [.ret<|.ix (.v 0)<|.v 1] [],
  .ret (.n 0)]]
noncomputable def J0:Fn:=#[2,3,
 [.asg [2]<|.call 0 #[20],
  .ite (.cmp .ge (.v 2)<|.bin .pow (.n 10)<|.n 18) [.ret<|.lst [(.bin .sub (.v 2)<|.bin .pow (.n 10)<|.n 18),(.c<|.bl al)]] [],
  .ret (.lst [(.bin .mod (.v 2)<|.n 2147483647),(.c<|.bl aj)])]]
noncomputable def G9:Fn:=#[2,4,
 [.ite (.dix (.v 0) al) [.asg [2]<|.bin .mod (.dix (.v 0) aj)<|.v 1,
  .dset 0 (.bin .fdiv (.dix (.v 0) aj)<|.v 1),
  .ret (.v 2)] [],
  .dset 0 (.bin .mod (.bin .add (.bin .mul (.dix (.v 0) aj)<|.n 48271)<|.n 29)<|.n 2147483647),
  .asg [3] (.bin .mod (.bin .add (.bin .add (.bin .mul (.dix (.v 0) aj)<|.dix (.v 0) aj)<|.bin .mul (.n 39373)<|.dix (.v 0) aj)<|.n 7)<|.n 2147483629),
  .asg [3] (.bin .mod (.bin .add (.bin .mul (.v 3)<|.v 3)<|.bin .mul (.n 16807)<|.v 3)<|.n 2147483587),
  .ret (.bin .mod (.bin .fdiv (.v 3)<|.n 8)<|.v 1)]]
noncomputable def XH:Fn:=#[2,3,
 [.asg [2]<|.lst [(.tup [(.n 2),(.n 1)]),(.tup [(.n 2),(.n 2)]),(.tup [(.n 2),(.n 3)]),(.tup [(.n 2),(.n 4)]),(.tup [(.n 3),(.n 1)]),(.tup [(.n 3),(.n 2)]),(.tup [(.n 3),(.n 3)]),(.tup [(.n 5),(.n 1)]),(.tup [(.n 5),(.n 2)]),(.tup [(.n 2),(.n 3)]),(.tup [(.n 2),(.n 4)]),(.tup [(.n 3),(.n 3)])],
  .ite (.cmp .gt (.v 1)<|.n 27) [.asg [2]<|.bin .add (.v 2)<|.lst [(.tup [(.n 2),(.n 5)]),(.tup [(.n 2),(.n 6)]),(.tup [(.n 3),(.n 4)]),(.tup [(.n 5),(.n 3)])]] [],
  .ret (.ix (.v 2)<|.call 2 [(.v 0),(.blt .len [(.v 2)])])]]
noncomputable def Y0:Fn:=#[3,3,
 [.ret<|.and (.isi (.v 0) [.int])<|.and (.not<|.isi (.v 0) [.bool])<|.chain .le .le (.v 1) (.v 0)<|.v 2]]
noncomputable def zB:Fn:=#[2,4,
 [.asg [2,3]<|.v 0,
  .ite (.or (.not<|.isi (.v 1) [.tuple])<|.cmp .ne (.blt .len [(.v 1)])<|.v 3) #[12] [],
  .ret (.blt .all [(.comp1 [2] 1 [0] (.of<|.v 1) []<|.call 4 [(.v 0),(.n 0),(.bin .sub (.v 1)<|.n 1)])])]]
noncomputable def Ve:Fn:=#[4,4,
 [.ret<|.blt .tuple [(.comp1 [3,0] 2 [0,1] (.zip (.v 1)<|.v 2) []<|.bin .mod (.bin .add (.v 0)<|.bin .mul (.v 2)<|.v 1)<|.v 3)]]]
noncomputable def Jd:Fn:=#[4,4,
 [.ret<|.call 6 [(.v 0),(.v 1),(.v 2),(.neg<|.ix (.v 1)<|.v 3)]]]
noncomputable def vL:Fn:=#[1,3,
 [.forr [1,2] (.enum<|.v 0) [.ite (.cmp .ne (.v 2)<|.n 0) [.ret<|.v 1] []],
  .ret (.c .non)]]
noncomputable def zw:Fn:=#[3,7,
 [.asg [3,4]<|.v 0,
  .asg [5] (.v 2),
  .forr [6] (.of<|.v 1) [.asg [5]<|.call 7 [(.v 3),(.v 5),(.v 6),(.call 8 [(.v 6)])]],
  .ret (.v 5)]]
noncomputable def Ga:Fn:=#[3,3,
 [.ret<|.blt .tuple [(.comp1 [2,0] 1 [0] (.of<|.v 1) []<|.bin .mod (.bin .mul (.v 1)<|.v 0)<|.v 2)]]]
noncomputable def Q5:Fn:=#[2,3,
 [.asg [2]<|.n 1,
  .whl (.cmp .ne (.bin .mod (.bin .mul (.v 2)<|.v 1)<|.v 0)<|.n 1) [.aug 2 .add<|.n 1],
  .ret (.v 2)]]
noncomputable def Wy:Fn:=#[3,9,
 [.asg [3,4]<|.v 0,
  .asg [5] (.call 9 [(.v 0),(.v 1),(.v 2)]),
  .asg [6] (.call 8 [(.v 5)]),
  .ite (.cmp .is (.v 6)<|.c .non) [.ret<|.v 1] [],
  .asg [7] (.call 10 [(.v 3),(.v 5),(.call 11 [(.v 3),(.ix (.v 5)<|.v 6)])]),
  .asg [8] (.comp1 [3,7,6] 1 [0] (.of<|.v 1) []<|.call 7 [(.v 1),(.v 0),(.v 2),(.v 3)]),
  .ret (.blt .tuple [(.blt .sortedR [(.bin .add (.v 8)<|.lst [(.v 7)])])])]]
noncomputable def Z8:Fn:=#[3,5,
 [.asg [3]<|.v 1,
  .forr [4] (.of<|.v 2) [.asg [3]<|.call 12 [(.v 0),(.v 3),(.v 4)]],
  .ret (.v 3)]]
noncomputable def vU:Fn:=#[2,4,
 [.asg [2,3]<|.v 0,
  .ite (.or (.not<|.isi (.v 1) [.tuple])<|.cmp .ne (.blt .len [(.v 1)])<|.v 3) #[12] [],
  .ret (.and (.blt .all [(.comp1 [0] 1 [0] (.of<|.v 1) []<|.call 5 [(.v 1),(.v 0)])])<|.cmp .eq (.blt .len [(.call 13 [(.v 0),(.tup []),(.v 1)])])<|.v 3)]]
noncomputable def XX:Fn:=#[2,2,
 [.ite (.not<|.call 14 #[20]) [.raise 7 []] []]]
noncomputable def Qg:Fn:=#[2,2,
 [.ret<|.bin .add (.bin .add (.bin .mul (.tup [(.n 0)])<|.v 1)<|.tup [(.n 1)])<|.bin .mul (.tup [(.n 0)])<|.bin .sub (.bin .sub (.v 0)<|.v 1)<|.n 1]]
noncomputable def YM:Fn:=#[2,5,
 [.asg [2,3]<|.v 0,
  .asg [4] (.comp1 [] 1 [0] (.of<|.v 1) []<|.call 8 [(.v 0)]),
  .ret (.bin .add (.v 1)<|.blt .tuple [(.comp1 [3,4] 1 [0] (.rng1<|.v 3) [(.cmp .nin (.v 0)<|.v 2)]<|.call 16 [(.v 1),(.v 0)])])]]
noncomputable def XI:Fn:=#[3,8,
 [.asg [3,4]<|.v 0,
  .asg [5] (.bin .mul (.tup [(.n 0)])<|.v 4),
  .forr [6,7] (.zip (.v 2)<|.v 1) [.asg [5]<|.call 6 [(.v 3),(.v 5),(.v 7),(.v 6)]],
  .ret (.v 5)]]
noncomputable def Yy:Fn:=#[3,3,
 [.ret<|.blt .tuple [(.comp1 [0,2] 1 [0] (.of<|.v 1) []<|.call 18 [(.v 1),(.v 2),(.v 0)])]]]
def Xi:Fn:=#[2,5,
 [.asg [2]<|.call 17 [(.v 0),(.tup [])],
  .asg [3] (.lst [(.v 2)]),
  .asg [4] (.v 1),
  .whl (.cmp .ne (.v 4)<|.v 2) [.ex<|.mt .append (.v 3) [(.v 4)],
  .asg [4] (.call 19 [(.v 0),(.v 4),(.v 1)])],
  .ret (.v 3)]]
def yL:Fn:=#[2,2,
 [.ex<|.call 15 #[20],
  .ret (.ix (.call 20 #[20])<|.neg<|.n 1)]]
noncomputable def YN:Fn:=#[3,6,
 [.asg [3]<|.call 2 [(.v 0),(.bin .add (.blt .len [(.v 2)])<|.n 1)],
  .asg [4] (.ix (.lst [(.ix (.v 1)<|.n 0),(.neg<|.n 1),(.c<|.bl al),(.c<|.bl aj),(.c .non),(.c<|.str<|ky "0"),(.tup [(.n 0)]),(.bin .pow (.n 10)<|.n 29),(.n 0),(.n 1),(.bin .sub (.ix (.v 1)<|.n 0)<|.n 1)])<|.call 2 [(.v 0),(.n 11)]),
  .asg [5] (.lst [(.bin .add (.bin .add #[17]<|.tup [(.v 4)])<|.sl (.v 2) #[21] ag),(.bin .add (.bin .add #[17]<|.tup [(.v 4)])<|.sl (.v 2) (aa<|.v 3) ag),(.bin .add #[17]<|.sl (.v 2) #[21] ag),(.blt .list [(.v 2)])]),
  .ret (.ix (.bin .add (.v 5)<|.lst [(.rev<|.v 2),(.c .non),.dnew,(.lst [(.v 4)]),(.tup [(.v 2)])])<|.ix (.lst [(.n 0),(.n 0),(.n 0),(.n 0),(.n 1),(.n 2),(.n 3),(.n 4),(.n 5),(.n 6),(.n 7),(.n 8)])<|.call 2 [(.v 0),(.n 12)])]]
noncomputable def G6:Fn:=#[4,4,
 [.ret<|.blt .tuple [(.comp1 [1,2,3,0] 1 [0] (.rng1<|.ix (.v 0)<|.n 1) []<|.bin .mod (.bin .add (.ix (.v 1)<|.v 0)<|.bin .mul (.v 2)<|.ix (.v 3)<|.v 0)<|.ix (.v 4)<|.n 0)]]]
noncomputable def Ys:Fn:=#[3,7,
 [.asg [3]<|.call 2 [(.v 0),(.ix (.v 1)<|.n 1)],
  .asg [4] (.call 22 [(.v 0),(.v 1),(.ix (.v 2)<|.v 3)]),
  .asg [5] (.ix (.v 2)<|.call 2 [(.v 0),(.ix (.v 1)<|.n 1)]),
  .lnw 6 [(.bin .add (.bin .add #[17]<|.tup [(.v 4)])<|.sl (.v 2) #[21] ag),(.bin .add (.bin .add #[17]<|.tup [(.v 5)])<|.sl (.v 2) #[21] ag),(.bin .add #[17]<|.sl (.v 2) #[21] ag)],
  .cat 6 [(.bin .add (.v 2)<|.tup [(.ix (.v 2)<|.v 3)]),(.blt .list [(.v 2)]),(.rev<|.v 2),(.c .non),.dnew,(.tup [(.v 2)]),(.ix (.v 2)<|.v 3),(.lst [(.v 4)])],
  .app 6 (.bin .add (.bin .add #[17]<|.tup [(.call 23 [(.v 1),(.ix (.v 2)<|.v 3),(.bin .add (.n 1)<|.call 2 [(.v 0),(.n 2)]),(.v 5)])])<|.sl (.v 2) #[21] ag),
  .ret (.ix (.v 6)<|.ix (.lst [(.n 0),(.n 0),(.n 0),(.n 1),(.n 1),(.n 2),(.n 3),(.n 4),(.n 5),(.n 6),(.n 7),(.n 8),(.n 9),(.n 10),(.n 11),(.n 11)])<|.call 2 [(.v 0),(.n 16)])]]
noncomputable def zf:Fn:=#[2,6,
 [.dnw 2<|.bin .mul (.tup [(.n 0)])<|.ix (.v 0)<|.n 1,
  .forr [3] (.of<|.v 1) [.ite (.cmp .nin (.v 3)<|.v 2) [.forF [4] (.blt .listD [(.v 2)]) [.forr [5] (.rng2 (.n 1)<|.ix (.v 0)<|.n 0) [.dput (.v 2) (.call 23 [(.v 0),(.v 4),(.v 5),(.v 3)])<|.c<|.bl al]]] []],
  .ret (.blt .sortedD [(.v 2)])]]
noncomputable def J6:Fn:=#[1,1,
 [.ret<|.comp1 [0] 1 [0] (.rng1<|.ix (.v 0)<|.n 1) []<|.blt .tuple [(.comp1 [0] 1 [0] (.rng1<|.ix (.v 1)<|.n 1) []<|.blt .toInt [(.cmp .eq (.v 0)<|.v 1)])]]]
noncomputable def We:Fn:=#[2,8,
 [.asg [2]<|.tup [],
  .asg [3] (.lst [(.bin .mul (.tup [(.n 0)])<|.ix (.v 1)<|.n 1)]),
  .asg [4] (.call 25 [(.v 1),(.call 26 [(.v 1)])]),
  .forr [5] (.rng1<|.ix (.v 1)<|.n 1) [.asg [6]<|.blt .dictP [(.comp1 [] 1 [0] (.of<|.v 3) []<|.tup [(.v 0),(.c<|.bl al)])],
  .asg [7] (.comp1 [6] 1 [0] (.of<|.v 4) [(.cmp .nin (.v 0)<|.v 1)]<|.v 0),
  .asg [2] (.bin .add (.v 2)<|.tup [(.ix (.v 7)<|.call 2 [(.v 0),(.blt .len [(.v 7)])])]),
  .asg [3] (.call 25 [(.v 1),(.v 2)])],
  .ret (.v 2)]]
noncomputable def Yf:Fn:=#[3,3,
 [.ret<|.and (.isi (.v 0) [.int])<|.and (.not<|.isi (.v 0) [.bool])<|.chain .le .le (.v 1) (.v 0)<|.v 2]]
noncomputable def QA:Fn:=#[2,2,
 [.ite (.or (.not<|.isi (.v 1) [.tuple])<|.cmp .ne (.blt .len [(.v 1)])<|.ix (.v 0)<|.n 1) #[12] [],
  .ret (.blt .all [(.comp1 [0] 1 [0] (.of<|.v 1) []<|.call 28 [(.v 0),(.n 0),(.bin .sub (.ix (.v 1)<|.n 0)<|.n 1)])])]]
noncomputable def Uz:Fn:=#[2,3,
 [.ite (.or (.not<|.isi (.v 1) [.tuple])<|.cmp .ne (.blt .len [(.v 1)])<|.ix (.v 0)<|.n 1) #[12] [],
  .forr [2] (.of<|.v 1) [.ite (.not<|.call 29 [(.v 0),(.v 2)]) #[12] []],
  .ret (.cmp .eq (.blt .len [(.call 25 #[20])])<|.blt .len [(.call 25 [(.v 0),(.call 26 [(.v 0)])])])]]
noncomputable def Y7:Fn:=#[2,4,
 [.forr [2] (.rng1<|.n 8) [.asg [3]<|.call 24 [(.v 0),(.v 1),(.call 27 #[20])],
  .ite (.not<|.call 30 [(.v 1),(.v 3)]) [.ret<|.v 3] []],
  .ret (.ix (.lst [(.c .non),(.tup []),(.bin .mul (.tup [(.bin .mul (.tup [(.n 0)])<|.ix (.v 1)<|.n 1)])<|.ix (.v 1)<|.n 1)])<|.call 2 [(.v 0),(.n 3)])]]
noncomputable def X8:Fn:=#[2,2,
 [.ite (.isi (.v 1) [.list,.tuple]) [.ite (.or (.cmp .ne (.isi (.v 0) [.list])<|.isi (.v 1) [.list])<|.cmp .ne (.isi (.v 0) [.tuple])<|.isi (.v 1) [.tuple]) #[12] [],
  .ret (.and (.cmp .eq (.blt .len [(.v 0)])<|.blt .len [(.v 1)])<|.blt .all [(.comp1 [] 2 [0,1] (.zip (.v 0)<|.v 1) []<|.call 32 #[20])])] [],
  .ret (.and (.cmp .eq (.isi (.v 0) [.bool])<|.isi (.v 1) [.bool])<|.cmp .eq (.v 0)<|.v 1)]]
def UO:Fn:=#[2,2,
 [.ex<|.call 15 #[20],
  .ret (.blt .len [(.call 20 #[20])])]]
noncomputable def WI:Fn:=#[3,5,
 [.asg [3]<|.bin .mul (.tup [(.n 0)])<|.ix (.v 0)<|.n 1,
  .forr [4] (.rng1<|.ix (.v 0)<|.n 1) [.asg [3]<|.call 23 [(.v 0),(.v 3),(.ix (.v 2)<|.v 4),(.ix (.v 1)<|.v 4)]],
  .ret (.v 3)]]
noncomputable def Xh:Fn:=#[3,3,
 [.ret<|.blt .tuple [(.comp1 [0,2] 1 [0] (.of<|.v 1) []<|.call 34 [(.v 1),(.v 2),(.v 0)])]]]
noncomputable def Xw:Fn:=#[2,4,
 [.par [2,3] [(.v 1),(.n 1)],
  .whl (.cmp .ne (.v 2)<|.blt .tuple [(.call 26 [(.v 0)])]) [.par [2,3] [(.call 35 [(.v 0),(.v 2),(.v 1)]),(.bin .add (.v 3)<|.n 1)]],
  .ret (.v 3)]]
def UU:Fn:=#[3,3,
 [.ex<|.call 15 #[20],
  .ex (.call 15 [(.v 0),(.v 2)]),
  .ret (.call 19 [(.v 0),(.v 1),(.v 2)])]]
noncomputable def U8:Fn:=#[1,4,
 [.asg []<|.c .non]]
noncomputable def Zd1:Fn:=#[1,9,
 [.forr [1] (.rng1<|.blt .max2 [(.n 1),(.blt .min2 [(.blt .len [(.v 0)]),(.n 8)])]) [.cel 2 1 #[20]
  [.asg [3]<|.call 3 [(.v 2),(.ix (.lst [(.n 27),(.n 125)])<|.blt .toInt [(.cmp .eq (.v 1)<|.n 0)])],
  .par [4,5] [(.call 27 [(.v 2),(.v 3)]),(.call 27 [(.v 2),(.v 3)])],
  .forr [6] (.of<|.lst [(.tup [(.v 4),(.v 5)]),(.tup [(.v 5),(.v 4)]),(.tup [(.v 4),(.v 4)])]) [.ite (.not<|.call 32 [(.call 37 [(.v 3),(.ix (.v 6)<|.n 0),(.ix (.v 6)<|.n 1)]),(.call 35 [(.v 3),(.ix (.v 6)<|.n 0),(.ix (.v 6)<|.n 1)])]) #[12] []],
  .asg [7] (.call 21 [(.v 3),(.v 4)]),
  .ite (.or (.not<|.call 30 [(.v 3),(.v 7)])<|.cmp .ne (.call 35 [(.v 3),(.v 4),(.v 7)])<|.blt .tuple [(.call 26 [(.v 3)])]) #[12] [],
  .ite (.not<|.call 32 [(.call 33 [(.v 3),(.v 4)]),(.call 36 [(.v 3),(.v 4)])]) #[12] [],
  .asg [8] (.call 31 [(.v 2),(.v 3)]),
  .forr [6] (.of<|.lst [(.tup [(.v 8),(.v 4)]),(.tup [(.v 4),(.v 8)]),(.tup [(.v 8),(.v 8)])]) [.ite (.cmp .ne (.refu aj<|.call 37 [(.v 3),(.ix (.v 6)<|.n 0),(.ix (.v 6)<|.n 1)])<|.n 6) #[12] []],
  .ite (.cmp .ne (.refu aj<|.call 21 [(.v 3),(.v 8)])<|.n 6) #[12] [],
  .ite (.cmp .ne (.refu aj<|.call 33 [(.v 3),(.v 8)])<|.n 6) #[12] []]],
  .ret (.and (.cmp .eq (.call 21 [(.tup [(.n 5),(.n 1)]),(.tup [(.tup [(.n 2)])])])<|.tup [(.tup [(.n 3)])])<|.cmp .eq (.call 33 [(.tup [(.n 5),(.n 1)]),(.tup [(.tup [(.n 2)])])])<|.n 4)]]
def fns:List Fn:=[U9,J0,G9,XH,Y0,zB,Ve,Jd,vL,zw,Ga,Q5,Wy,Z8,vU,XX,Qg,YM,XI,Yy,Xi,yL,YN,G6,Ys,zf,J6,We,Yf,QA,Uz,Y7,X8,UO,WI,Xh,Xw,UU,U8,Zd1]
noncomputable abbrev tk:Nat:=2
noncomputable abbrev sn:List Nat:=[1]
end K73
namespace La
variable{F:Type}[iS F]
noncomputable abbrev Vec(F:Type):=Nat->F
abbrev Pt(F:Type):=List<|Nat×Vec F
def pr:Pt F->Vec F->Vec F
 |[],_,_=>0
 |a::P,v,j=>v a.1*a.2 j+pr P v j
structure Rf(P:Pt F):Prop where
 inc:P.Pairwise λa b=>a.1<b.1
 low:∀a∈P,∀j,j<a.1->a.2 j=0
 one:∀a∈P,a.2 a.1=1
 zer:∀a∈P,∀b∈P,a.1≠b.1->b.2 a.1=0
def Mem(P:Pt F)(v:Vec F):Prop:=∀j,v j=pr P v j
theorem Zef(P:Pt F)(u v:Vec F)(c:F)(j:Nat):pr P (λj=>u j+c*v j) j=pr P u j+c*pr P v j:=by
 induction P with|nil=>show(0:F)=0+c*0;grind|cons a P ih=>show(u a.1+c*v a.1)*a.2 j+pr P _ j=(u a.1*a.2 j+pr P u j)+c*(v a.1*a.2 j+pr P v j);grind
theorem Gy(P:Pt F)(u v:Vec F)(c:F)(j:Nat):pr P (λj=>u j-c*v j) j=pr P u j-c*pr P v j:=by
 induction P with|nil=>show(0:F)=0-c*0;grind|cons a P ih=>show(u a.1-c*v a.1)*a.2 j+pr P _ j=(u a.1*a.2 j+pr P u j)-c*(v a.1*a.2 j+pr P v j);grind
def jz{P:Pt F}{u v:Vec F}(h:∀b∈P,u b.1=v b.1)(j:Nat):pr P u j=pr P v j:=by
 induction P with
 |nil=>rfl
 |cons a P ih=>
  show u a.1*a.2 j+pr P u j=v a.1*a.2 j+pr P v j;rw[h a<|ak ..,ih λb hb=>h b<|am _ hb]
theorem Xy{P:Pt F}{v:Vec F}{j:Nat}(h:∀b∈P,v b.1*b.2 j=0):pr P v j=0:=by
 induction P with
 |nil=>rfl
 |cons a P ih=>
  show v a.1*a.2 j+pr P v j=0;rw[h a<|ak ..,ih λb hb=>h b<|am _ hb];grind
theorem vb{P:Pt F}{v:Vec F}{j:Nat}{a:Nat×Vec F}(inc:P.Pairwise λa b=>a.1<b.1)(ha:a∈P)(h:∀b∈P,b.1≠a.1->v b.1*b.2 j=0):pr P v j=v a.1*a.2 j:=by
 induction P with
 |nil=>cases ha
 |cons b P ih=>
  rw[bj]at inc;show v b.1*b.2 j+pr P v j=_;rcases az.mp ha with e|hm
  .subst e
   rw[Xy λc hc=>h c (am _ hc) (by have:=inc.1 c hc;lia)];grind
  .rw[ih inc.2 hm λc hc=>h c<|am _ hc,h b (ak ..) (by have:=inc.1 a hm;lia)];grind
def Rf.tail{a:Nat×Vec F}{P:Pt F}(h:Rf (a::P)):Rf P:=
 #[(bj.mp h.inc).2,λb hb=>h.low b<|am _ hb,λb hb=>h.one b<|am _ hb,λb hb c hc=>h.zer b (am _ hb) c<|am _ hc]
def Rf.nil:Rf ([]:Pt F):=#[kH,λ_ h=>(by cases h),λ_ h=>(by cases h),λ_ h=>(by cases h)]
theorem vd{P:Pt F}(h:Rf P){a:Nat×Vec F}(ha:a∈P)(v:Vec F):pr P v a.1=v a.1:=by
 rw[vb h.inc ha λb hb ne=>by rw[h.zer a ha b hb<|Ne.symm ne];grind,h.one a ha];grind
theorem Wp{P:Pt F}(h:Rf P){a:Nat×Vec F}(ha:a∈P):Mem P a.2:=λj=>by
 rw[vb h.inc ha λb hb ne=>by rw[h.zer b hb a ha ne];grind,h.one a ha];grind
def YA(c:F)(hu:Mem P u)(hv:Mem P v):Mem P λj=>u j+c*v j:=λj=>by
 rw[Zef,<-hu j,<-hv j]
def JI(c:F)(hu:Mem P u)(hv:Mem P v):Mem P λj=>u j-c*v j:=λj=>by
 rw[Gy,<-hu j,<-hv j]
theorem Yk{P:Pt F}:Mem P λ_=>0:=λj=>(Xy λb _=>by grind).symm
def ZaS{P:Pt F}(h:Rf P)(v:Vec F):Mem P (pr P v):=λj=>jz (λb hb=>(vd h hb v).symm) j
def ZcQ{v:Vec F}:Mem ([]:Pt F) v↔∀j,v j=0:=Iff.rfl
theorem ZaE{P:Pt F}{v:Vec F}(h:Mem P v)(z:∀b∈P,v b.1=0)(j:Nat):v j=0:=by
 rw[h j];exact Xy λb hb=>by rw[z b hb];grind
theorem qh{P:Pt F}(h:Rf P){v:Vec F}(hv:Mem P v){k:Nat}(hk:v k≠0)(hl:∀j,j<k->v j=0):∃a∈P,a.1=k:=by
 have inc:=h.inc;have low:=h.low;have gen:∀Q:Pt F,Q.Pairwise (λa b=>a.1<b.1)->(∀a∈Q,∀j,j<a.1->a.2 j=0)->(∀j,v j=pr Q v j)->∃a∈Q,v a.1≠0/\∀j,j<a.1->v j=0:=by
  intro Q
  induction Q with
  |nil=>intro _ _ e;exact T7 (e k) hk
  |cons a Q ih=>
   intro inc low e;rw[bj]at inc;by_cases c:v a.1=0
   .obtain⟨b,hb,r⟩:=ih inc.2 (λb hb=>low b<|am _ hb) λj=>by
     have:v j=v a.1*a.2 j+pr Q v j:=e j;rw[c]at this;grind
    exact#[b,am _ hb,r]
   .refine#[a,ak ..,c,λj hj=>?_]
    have e1:v j=v a.1*a.2 j+pr Q v j:=e j;have e2:pr Q v j=0:=Xy λb hb=>by rw[low b (am _ hb) j (by have:=inc.1 b hb;lia)];grind
    rw[e1,e2,low a (ak ..) j hj];grind
 obtain⟨a,ha,h1,h2⟩:=gen P inc low hv;refine#[a,ha,?_];by_cases c:a.1<k
 .exact T7 (hl _ c) h1
 .by_cases c2:k<a.1
  .exact T7 (h2 _ c2) hk
  .lia
def JB{P Q:Pt F}(one0:(1:F)≠0)(hP:Rf P)(hQ:Rf Q)(h:∀v,Mem P v->Mem Q v):∀a∈P,∃b∈Q,b.1=a.1:=λa ha=>
 qh hQ (h _<|Wp hP ha) (by rw[hP.one a ha];exact one0) (hP.low a ha)
theorem xb:∀{a b:List Nat},a.Pairwise (· < ·)->b.Pairwise (· < ·)->(∀x,x∈a↔x∈b)->a=b
 |[],[],_,_,_=>rfl
 |[],y::b,_,_,h=>by have:=(h y).mpr<|ak ..;cases this
 |x::a,[],_,_,h=>by have:=(h x).mp<|ak ..;cases this
 |x::a,y::b,ha,hb,h=>by
  rw[bj]at ha hb;have e:x=y:=by
   rcases az.mp ((h x).mp<|ak ..)with e|e
   .exact e
   .rcases az.mp ((h y).mpr<|ak ..)with e'|e'
    .exact e'.symm
    .have:=hb.1 x e;have:=ha.1 y e';lia
  subst e;rw[xb ha.2 hb.2 λz=>?_]
  constructor
  .intro hz
   rcases az.mp ((h z).mp<|am _ hz)with e|e
   .have:=ha.1 z hz;lia
   .exact e
  .intro hz
   rcases az.mp ((h z).mpr<|am _ hz)with e|e
   .have:=hb.1 z hz;lia
   .exact e
theorem Gj:∀{a b:List Nat},a.Pairwise (· < ·)->b.Pairwise (· < ·)->(∀x∈a,x∈b)->a.length<=b.length/\(a.length=b.length->a=b)
 |[],b,_,_,_=>#[dD _,λe=>(d6.mp e.symm).symm]
 |x::a,[],_,_,h=>by have:=h x<|ak ..;cases this
 |x::a,y::b,ha,hb,h=>by
  have ha':=ha;rw[bj]at ha hb;by_cases e:x=y
  .subst e
   obtain⟨h1,h2⟩:=Gj ha.2 hb.2 λz hz=>by
    rcases az.mp (h z<|am _ hz)with e|e
    .have:=ha.1 z hz;lia
    .exact e
   refine#[by simp only[aQ];lia,λe=>?_]
   rw[h2 (by simpa using e)]
  .have hxb:x∈b:=by
    rcases az.mp (h x<|ak ..)with e'|e'
    .exact T7 e' e
    .exact e'
   have:=hb.1 x hxb;obtain⟨h1,h2⟩:=Gj ha' hb.2 λz hz=>by
    rcases az.mp (h z hz)with e'|e'
    .rcases az.mp hz with e2|e2
     .lia
     .have:=ha.1 z e2;lia
    .exact e'
   simp only[aQ]at h1 ⊢;exact#[by lia,λe=>by lia]
def Rf.heads{P:Pt F}(h:Rf P):(P.map (·.1)).Pairwise (· < ·):=c6.mpr h.inc
theorem uniq{P Q:Pt F}(one0:(1:F)≠0)(hP:Rf P)(hQ:Rf Q)(h:∀v,Mem P v↔Mem Q v):P=Q:=by
 have eh:=xb hP.heads hQ.heads λx=>by
  constructor
  .intro hx
   obtain⟨a,ha,rfl⟩:=aR.mp hx;obtain⟨b,hb,e⟩:=JB one0 hP hQ (λv=>(h v).mp) a ha
   exact aR.mpr #[b,hb,e]
  .intro hx
   obtain⟨a,ha,rfl⟩:=aR.mp hx;obtain⟨b,hb,e⟩:=JB one0 hQ hP (λv=>(h v).mpr) a ha
   exact aR.mpr #[b,hb,e]
 have ev:∀a∈P,∀b∈Q,a.1=b.1->a.2=b.2:=by
  intro a ha b hb e;have hd:=JI 1 (Wp hP ha)<|(h _).mpr<|Wp hQ hb
  funext j
  have:=ZaE hd (λc hc=>by
   have:c.1∈Q.map (·.1):=by rw[<-eh];exact aR.mpr #[c,hc,rfl]
   obtain⟨c',hc',ec⟩:=aR.mp this;by_cases z:c.1=a.1
   .rw[z,hP.one a ha,e,hQ.one b hb];grind
   .rw[hP.zer c hc a ha z,<-ec,hQ.zer c' hc' b hb #[0]];grind) j
  grind
 clear h hP hQ
 induction P generalizing Q with
 |nil=>cases Q with|nil=>rfl|cons b Q=>cases eh
 |cons a P ih=>cases Q with
  |nil=>cases eh
  |cons b Q=>
   rw[aZ,aZ]at eh;injection eh with e1 e2
   have e3:=ev a (ak ..) b (ak ..) e1;rw[ih e2 λx hx y hy=>ev x (am _ hx) y<|am _ hy]
   rw[Prod.ext e1 e3]
def ins(x:Nat×Vec F):Pt F->Pt F
 |[]=>[x]
 |y::P=>if x.1<y.1 then x::y::P else y::ins x P
theorem YG(x:Nat×Vec F):∀P:Pt F,(ins x P).Perm (x::P)
 |[]=>cK _
 |y::P=>by
  unfold ins;split
  .exact cK _
  .exact((YG x P).cons y).trans<|ku x y P
theorem wX(x:Nat×Vec F):∀{P:Pt F},P.Pairwise (λa b=>a.1<b.1)->(∀a∈P,a.1≠x.1)->(ins x P).Pairwise λa b=>a.1<b.1
 |[],_,_=>by exact lz ..
 |y::P,h,hn=>by
  have h':=bj.mp h;unfold ins;split
  .rename_i c
   refine bj.mpr #[λz hz=>?_,h]
   rcases az.mp hz with rfl|hz
   .exact c
   .have:=h'.1 z hz;lia
  .rename_i c
   refine bj.mpr #[λz hz=>?_,wX x h'.2 λa ha=>hn a<|am _ ha]
   rcases az.mp ((YG x P).mem_iff.mp hz)with rfl|hz
   .have:=hn y<|ak ..;lia
   .exact h'.1 z hz
theorem Za8(x:Nat×Vec F)(v:Vec F)(j:Nat):∀P:Pt F,pr (ins x P) v j=v x.1*x.2 j+pr P v j
 |[]=>rfl
 |y::P=>by
  unfold ins;split
  .rfl
  .show v y.1*y.2 j+pr (ins x P) v j=v x.1*x.2 j+(v y.1*y.2 j+pr P v j)
   rw[Za8 x v j P];grind
noncomputable def off(h:Nat)(l:Vec F)(a:Nat×Vec F):Nat×Vec F:=(a.1,λj=>a.2 j-a.2 h*l j)
def wid(P:Pt F)(h:Nat)(l:Vec F):Pt F:=ins (h,l)<|P.map<|off h l
theorem Za2(h:Nat)(l v:Vec F)(j:Nat):∀P:Pt F,pr (P.map<|off h l) v j=pr P v j-pr P v h*l j
 |[]=>by show(0:F)=0-0*l j;grind
 |a::P=>by
  show v a.1*(a.2 j-a.2 h*l j)+pr (P.map<|off h l) v j=(v a.1*a.2 j+pr P v j)-(v a.1*a.2 h+pr P v h)*l j;rw[Za2 h l v j P];grind
structure Lead(P:Pt F)(h:Nat)(l:Vec F):Prop where
 one:l h=1
 low:∀j,j<h->l j=0
 zer:∀a∈P,l a.1=0
def Lead.ne{P:Pt F}{h:Nat}{l:Vec F}(one0:(1:F)≠0)(L:Lead P h l){a:Nat×Vec F}(ha:a∈P):a.1≠h:=λe=>by
 have:=L.zer a ha;rw[e,L.one]at this;exact one0 this
theorem ZeK{P:Pt F}{h:Nat}{l:Vec F}(one0:(1:F)≠0)(hP:Rf P)(L:Lead P h l):Rf (wid P h l):=by
 have mem:∀{x},x∈wid P h l->x=(h,l)\/∃a∈P,x=off h l a:=λ{x} hx=>by
  rcases az.mp ((YG _ _).mem_iff.mp hx)with e|e
  .exact .inl e
  .obtain⟨a,ha,e⟩:=aR.mp e
   exact .inr #[a,ha,e.symm]
 refine#[wX _ ?_ ?_,λx hx j hj=>?_,λx hx=>?_,λx hx y hy ne=>?_]
 .exact c6.mpr hP.inc
 .intro a ha
  obtain⟨b,hb,rfl⟩:=aR.mp ha;exact L.ne (a:=b) one0 hb
 .rcases mem hx with rfl|⟨a,ha,rfl⟩
  .exact L.low j hj
  .show a.2 j-a.2 h*l j=0
   rw[hP.low a ha j hj];by_cases c:h<a.1
   .rw[hP.low a ha h c];grind
   .have:j<a.1:=hj
    rw[L.low j (by have:=L.ne one0 ha;lia)];grind
 .rcases mem hx with rfl|⟨a,ha,rfl⟩
  .exact L.one
  .show a.2 a.1-a.2 h*l a.1=1
   rw[hP.one a ha,L.zer a ha];grind
 .rcases mem hx with rfl|⟨a,ha,rfl⟩
  .rcases mem hy with rfl|⟨b,hb,rfl⟩
   .exact T7 rfl ne
   .show b.2 h-b.2 h*l h=0
    rw[L.one];grind
  .rcases mem hy with rfl|⟨b,hb,rfl⟩
   .exact L.zer a ha
   .show b.2 a.1-b.2 h*l a.1=0
    rw[hP.zer a ha b hb ne,L.zer a ha];grind
def GT(P:Pt F)(h:Nat)(l:Vec F):(wid P h l).length=P.length+1:=by
 have:=(YG (h,l)<|P.map<|off h l).length_eq;rw[aQ,ay]at this;exact this
theorem ZcF{P:Pt F}{h:Nat}{l:Vec F}(hP:Rf P)(L:Lead P h l)(u:Vec F):Mem (wid P h l) u↔∃c,Mem P λj=>u j-c*l j:=by
 have e:∀j,pr (wid P h l) u j=u h*l j+(pr P u j-pr P u h*l j):=λj=>by
  unfold wid;rw[Za8,Za2]
 have pl:∀j,pr P l j=0:=λj=>Xy λb hb=>by rw[L.zer b hb];grind
 constructor
 .intro hu
  refine#[u h-pr P u h,λj=>?_]
  rw[Gy,pl];have:=hu j;rw[e j]at this;show u j-(u h-pr P u h)*l j=_
  grind
 .rintro ⟨c,hc⟩ j
  rw[e j];have h1:=hc j;have h2:u h-c*l h=_:=hc h;rw[Gy,pl]at h1 h2;rw[L.one]at h2
  grind
def rest(P:Pt F)(v:Vec F):Vec F:=λj=>v j-pr P v j
theorem qv(hP:Rf P)(v:Vec F)(ha:a∈P):rest P v a.1=0:=by
 unfold rest;rw[vd hP ha];grind
theorem UW{P:Pt F}{v:Vec F}:(∀j,rest P v j=0)↔Mem P v:=by
 constructor
 .intro h j;have:=h j;unfold rest at this;grind
 .intro h j;have:=h j;unfold rest;grind
theorem wV{P:Pt F}(hP:Rf P){v:Vec F}{h:Nat}{i:F}(hi:i*rest P v h=1)(hl:∀j,j<h->rest P v j=0):Lead P h λj=>i*rest P v j:=
 #[hi,λj hj=>by rw[hl j hj];grind,λa ha=>by rw[qv hP v ha];grind]
theorem jj{P:Pt F}(hP:Rf P){v:Vec F}{h:Nat}{i:F}(hi:i*rest P v h=1)(hl:∀j,j<h->rest P v j=0)(u:Vec F) :
  Mem (wid P h λj=>i*rest P v j) u↔∃c,Mem P λj=>u j-c*v j:=by
 rw[ZcF hP<|wV hP hi hl]
 constructor
 .rintro ⟨c,hc⟩
  refine#[c*i,?_];have:=JI (c*i) hc<|ZaS hP v;have e:(λj=>(u j-c*(i*rest P v j))-c*i*pr P v j)=λj=>u j-c*i*v j:=by funext j;unfold rest;grind
  rw[e]at this;exact this
 .rintro ⟨c,hc⟩
  refine#[c*rest P v h,?_];have:=YA c hc<|ZaS hP v;have e:(λj=>(u j-c*v j)+c*pr P v j)=λj=>u j-c*rest P v h*(i*rest P v j):=by funext j;unfold rest at hi ⊢;grind
  rw[e]at this;exact this
theorem jB(hv:Mem P v)(u:Vec F):Mem P u↔∃c,Mem P λj=>u j-c*v j:=by
 constructor
 .intro h;exact#[0,by have:=JI 0 h hv;exact this]
 .rintro ⟨c,hc⟩
  have:=YA c hc hv;have e:(λj=>(u j-c*v j)+c*v j)=u:=by funext j;grind
  rw[e]at this;exact this
def WS(P:Pt F):List (Vec F)->Vec F->Prop
 |[],u=>Mem P u
 |v::vs,u=>∃c,WS P vs λj=>u j-c*v j
theorem VC{P P':Pt F}{v:Vec F}(h:∀u,Mem P' u↔∃c,Mem P λj=>u j-c*v j):∀(vs:List (Vec F))(u:Vec F),WS P' vs u↔WS P (v::vs) u
 |[],u=>h u
 |w::vs,u=>by
  constructor
  .rintro ⟨d,hd⟩
   obtain⟨c,hc⟩:=(VC h vs _).mp hd;refine#[c,d,?_];have e:(λj=>u j-c*v j-d*w j)=λj=>u j-d*w j-c*v j:=by funext j;grind
   show WS P vs λj=>u j-c*v j-d*w j
   rw[e];exact hc
  .rintro ⟨c,d,hc⟩
   refine#[d,(VC h vs _).mpr #[c,?_]];have e:(λj=>u j-d*w j-c*v j)=λj=>u j-c*v j-d*w j:=by funext j;grind
   show WS P vs λj=>u j-d*w j-c*v j
   rw[e];exact hc
theorem uz{P Q:Pt F}(hQ:Rf Q)(u:Vec F):WS P (Q.map (·.2)) u↔∃q,Mem Q q/\Mem P λj=>u j-q j:=by
 constructor
 .have gen:∀(ws:List (Vec F))(u:Vec F),(∀w∈ws,Mem Q w)->WS P ws u->∃q,Mem Q q/\Mem P λj=>u j-q j:=by
   intro ws
   induction ws with
   |nil=>intro u _ h;exact#[λ_=>0,Yk,by
    have e:(λj=>u j-0)=u:=by funext j;grind
    rw[e];exact h]
   |cons w ws ih=>
    rintro u hw ⟨c,h⟩
    obtain⟨q,hq,hp⟩:=ih _ (λx hx=>hw x<|am _ hx) h
    refine#[λj=>q j+c*w j,YA c hq<|hw w<|ak ..,?_]
    have e:(λj=>u j-(q j+c*w j))=λj=>u j-c*w j-q j:=by funext j;grind
    rw[e];exact hp
  exact gen _ u λw hw=>by obtain⟨a,ha,rfl⟩:=aR.mp hw;exact Wp hQ ha
 .rintro ⟨q,hq,hp⟩
  have gen:∀(R:Pt F)(u:Vec F),(Mem P λj=>u j-pr R q j)->WS P (R.map (·.2)) u:=by
   intro R
   induction R with
   |nil=>
    intro u h;have e:(λj=>u j-pr [] q j)=u:=by funext j;show u j-0=u j;grind
    rw[e]at h;exact h
   |cons a R ih=>
    intro u h;refine#[q a.1,ih _ ?_];have e:(λj=>u j-q a.1*a.2 j-pr R q j)=λj=>u j-pr (a::R) q j:=by funext j;show _=u j-(q a.1*a.2 j+pr R q j);grind
    show Mem P λj=>u j-q a.1*a.2 j-pr R q j
    rw[e];exact h
  refine gen Q u ?_;have e:(λj=>u j-pr Q q j)=λj=>u j-q j:=by funext j;rw[<-hq j]
  rw[e];exact hp
variable{F:Type}[iS F][DecidableEq F]
def Supp(n:Nat)(v:Vec F):Prop:=∀j,n<=j->v j=0
structure Pn(n:Nat)(P:Pt F):Prop where
 rf:Rf P
 lt:∀a∈P,a.1<n
 sp:∀a∈P,Supp n a.2
theorem Pn.nil{n:Nat}:Pn n ([]:Pt F):=#[Rf.nil,λ_ h=>(by cases h),λ_ h=>(by cases h)]
def UP{n:Nat}{P:Pt F}(h:Pn n P):P.length<=n:=by
 have:=(Gj h.rf.heads (lV (n:=n)) λx hx=>by
  obtain⟨a,ha,rfl⟩:=aR.mp hx;exact aV.mpr<|h.lt a ha).1
 rwa [ay,bo]at this
theorem Zcu(h:Pn n P)(v:Vec F):Supp n (pr P v):=λj hj=>Xy λb hb=>by rw[h.sp b hb j hj];grind
noncomputable def hdV(n:Nat)(v:Vec F):Option Nat:=(aP n).find? λj=>ai<|v j≠0
theorem Zbe{n:Nat}{v:Vec F}(hs:Supp n v)(h:hdV n v=ag)(j:Nat):v j=0:=by
 by_cases c:j<n
 .have:=nM.mp h j (aV.mpr c)
  simpa using this
 .exact hs j #[0]
def zb{n:Nat}{v:Vec F}{k:Nat}(h:hdV n v=aa k):k<n/\v k≠0/\∀j,j<k->v j=0:=by
 unfold hdV at h;rw[kZ]at h;obtain⟨h1,h2,h3⟩:=h;refine#[aV.mp h2,by simpa using h1,λj hj=>?_]
 have:=h3 j hj
 simpa using this
def Zbn{n:Nat}{v:Vec F}{k:Nat}(hk:k<n)(h1:v k≠0)(h2:∀j,j<k->v j=0):hdV n v=aa k:=by
 unfold hdV;rw[kZ];exact#[by simpa using h1,aV.mpr hk,λj hj=>by simpa using h2 j hj]
structure Fld(inv:F->F):Prop where
 inv:∀a,a≠0->inv a*a=1
 one0:(1:F)≠0
section
variable{inv:F->F}{n:Nat}
def more(inv:F->F)(n:Nat)(P:Pt F)(v:Vec F):Pt F:=match hdV n (rest P v)with
 |none=>P
 |some h=>wid P h λj=>inv (rest P v h)*rest P v j
structure Grow(n:Nat)(P:Pt F)(v:Vec F)(P':Pt F):Prop where
 pn:Pn n P'
 mem:∀u,Mem P' u↔∃c,Mem P λj=>u j-c*v j
 same:Mem P v->P'=P
 len:¬Mem P v->P'.length=P.length+1
theorem Wq(f:Fld inv){P:Pt F}{v:Vec F}(hP:Pn n P)(hv:Supp n v):Grow n P v (more inv n P v):=by
 have hs:Supp n (rest P v):=λj hj=>by unfold rest;rw[hv j hj,Zcu hP v j hj];grind
 cases q:hdV n (rest P v)with
 |none=>
  have e:more inv n P v=P:=by unfold more;rw[q]
  have hm:=UW.mp<|Zbe hs q;rw[e];exact#[hP,jB hm,λ_=>rfl,λh=>T7 hm h]
 |some h=>
  have e:more inv n P v=wid P h λj=>inv (rest P v h)*rest P v j:=by unfold more;rw[q]
  obtain⟨h1,h2,h3⟩:=zb q;have hi:=f.inv _ h2;have L:=wV hP.rf hi h3;rw[e];refine#[#[ZeK f.one0 hP.rf L,λa ha=>?_,λa ha=>?_],jj hP.rf hi h3,λhm=>T7 (UW.mpr hm h) h2,λ_=>GT ..]
  .rcases az.mp ((YG _ _).mem_iff.mp ha)with e|e
   .rw[e];exact h1
   .obtain⟨b,hb,rfl⟩:=aR.mp e
    exact hP.lt b hb
  .rcases az.mp ((YG _ _).mem_iff.mp ha)with e|e
   .rw[e];intro j hj
    show inv (rest P v h)*rest P v j=0;rw[hs j hj];grind
   .obtain⟨b,hb,rfl⟩:=aR.mp e
    intro j hj;show b.2 j-b.2 h*(inv (rest P v h)*rest P v j)=0;rw[hP.sp b hb j hj,hs j hj];grind
def xZ(inv:F->F)(n:Nat)(P:Pt F)(vs:List (Vec F)):Pt F:=vs.foldl (more inv n) P
theorem WY(f:Fld inv):∀(vs:List (Vec F)){P:Pt F},Pn n P->(∀v∈vs,Supp n v)->Pn n (xZ inv n P vs)/\∀u,Mem (xZ inv n P vs) u↔WS P vs u
 |[],P,hP,_=>#[hP,λu=>Iff.rfl]
 |v::vs,P,hP,hv=>by
  have g:=Wq f hP<|hv v<|ak ..;obtain⟨a,b⟩:=WY f vs g.pn λw hw=>hv w<|am _ hw
  exact#[a,λu=>(b u).trans<|VC g.mem vs u]
def join(inv:F->F)(n:Nat)(P Q:Pt F):Pt F:=xZ inv n P (Q.map (·.2))
def Qa(f:Fld inv){P Q:Pt F}(hP:Pn n P)(hQ:Pn n Q)(u:Vec F):Mem (join inv n P Q) u↔∃q,Mem Q q/\Mem P λj=>u j-q j:=
 ((WY f _ hP λv hv=>by obtain⟨a,ha,rfl⟩:=aR.mp hv;exact hQ.sp a ha).2 u).trans (uz hQ.rf u)
def Zg5(f:Fld inv){P Q:Pt F}(hP:Pn n P)(hQ:Pn n Q)(h:∀v,Mem P v↔Mem Q v):P=Q:=uniq f.one0 hP.rf hQ.rf h
theorem sub_self(u:Vec F):(λj=>u j-u j)=λ_=>0:=by funext j;grind
def xh(f:Fld inv){P Q:Pt F}(hP:Pn n P)(hQ:Pn n Q){u:Vec F}(h:Mem Q u):Mem (join inv n P Q) u:=
 (Qa f hP hQ u).mpr #[u,h,by rw[sub_self];exact Yk]
theorem xt(f:Fld inv){P Q R:Pt F}(hP:Pn n P)(hQ:Pn n Q)(h1:∀u,Mem P u->Mem R u)(h2:∀u,Mem Q u->Mem R u){u:Vec F}(h:Mem (join inv n P Q) u):Mem R u:=by
 obtain⟨q,a,b⟩:=(Qa f hP hQ u).mp h;have:=YA 1 (h1 _ b)<|h2 _ a;have e:(λj=>u j-q j+1*q j)=u:=by funext j;grind
 rw[e]at this;exact this
def sl:List Nat->(Nat->F)->F
 |[],_=>0
 |k::L,g=>g k+sl L g
def WZ{L:List Nat}{g g':Nat->F}(h:∀k∈L,g k=g' k):sl L g=sl L g':=by
 induction L with|nil=>rfl|cons k L ih=>show g k+sl L g=g' k+sl L g';rw[h k<|ak ..,ih λj hj=>h j<|am _ hj]
theorem Zfq(L:List Nat)(g g':Nat->F)(c:F):sl L (λj=>g j-c*g' j)=sl L g-c*sl L g':=by
 induction L with|nil=>show(0:F)=0-c*0;grind|cons k L ih=>show(g k-c*g' k)+sl L _=(g k+sl L g)-c*(g' k+sl L g');rw[ih];grind
theorem GE{L:List Nat}{g:Nat->F}(h:∀k∈L,g k=0):sl L g=0:=by
 induction L with|nil=>rfl|cons k L ih=>show g k+sl L g=0;rw[h k<|ak ..,ih λj hj=>h j<|am _ hj];grind
theorem jf{L:List Nat}{g:Nat->F}{k:Nat}(hn:L.Nodup)(hk:k∈L)(h:∀j∈L,j≠k->g j=0):sl L g=g k:=by
 induction L with
 |nil=>cases hk
 |cons m L ih=>
  rw[da]at hn;show g m+sl L g=_;rcases az.mp hk with e|e
  .subst e
   rw[GE λj hj=>h j (am _ hj) λz=>hn.1<|z▸hj];grind
  .rw[ih hn.2 e λj hj=>h j<|am _ hj,h m (ak ..) λz=>hn.1<|z▸e];grind
end
end La
namespace Rw
open La
open Ev (ltI Yw Zm)
section
variable{p:Nat}[NeZero p]
noncomputable def ph(p:Nat)[NeZero p](a:Int):Fin p:=Fin.ofNat p (a%p).toNat
theorem ppos:(0:Int)<p:=by have:=NeZero.ne p;lia
theorem Yx(a:Int):((ph p a).val:Int)=a%p:=by
 have h:=ppos (p:=p);have h0:=gK a (by lia:(p:Int)≠0)
 have h1:=fu a h;show((((a%p).toNat)%p:Nat):Int)=a%p;rw[Nat.mod_eq_of_lt<|(Int.toNat_lt h0).mpr h1];exact mY h0
theorem Wt{x y:Fin p}(h:(x.val:Int)=y.val):x=y:=Fin.ext #[0]
def Zbh(a b:Int):ph p (a+b)=ph p a+ph p b:=Wt (by
 rw[Yx,Fin.val_add];show(a+b)%p=(((ph p a).val+(ph p b).val:Nat):Int)%p;rw[pi,Yx,Yx,<-Int.add_emod])
def qj(a b:Int):ph p (a*b)=ph p a*ph p b:=Wt (by
 rw[Yx,Fin.val_mul];show(a*b)%p=(((ph p a).val*(ph p b).val:Nat):Int)%p;rw[Int.natCast_mul,Yx,Yx,<-Int.mul_emod])
def qx(a:Int):ph p (a%p)=ph p a:=Wt (by rw[Yx,Yx,Int.emod_emod])
def Wo:ph p 0=0:=Wt (by rw[Yx];simp)
theorem Vr(a:Int):ph p (-a) = - ph p a:=by
 have h:ph p (-a+a)=ph p (-a)+ph p a:=Zbh _ _;rw[show -a+a=0 by lia,Wo]at h
 grind
def yN{a b:Int}(ha:0<=a/\a<p)(hb:0<=b/\b<p)(h:ph p a=ph p b):a=b:=by
 have:=congrArg (λx:Fin p=>(x.val:Int)) h
 simp only[Yx]at this;rw[eU ha.1 ha.2,eU hb.1 hb.2]at this;exact this
theorem Zg4{a:Int}(ha:0<=a/\a<p):ph p a=0↔a=0:=by
 constructor
 .intro h;exact yN ha #[by lia,ppos] (by rw[h,Wo])
 .rintro rfl;exact Wo
end
abbrev Row:=List Int
def Zd(p n:Nat)(r:Row):Prop:=r.length=n/\∀a∈r,0<=a/\a<(p:Int)
noncomputable def gt(r:Row)(j:Nat):Int:=r.getD j 0
def XM{p n:Nat}(h0:(0:Int)<p){r:Row}(h:Zd p n r)(j:Nat):0<=gt r j/\gt r j<p:=by
 unfold gt;rw[ax];cases q:r[j]? with|none=>exact#[Int.le_refl _,h0]|some a=>exact h.2 a<|cM q
def xo(h:r.length<=j):gt r j=0:=by unfold gt;rw[ax,bM h];rfl
def ZaC(hl:r.length=s.length)(h:∀j,gt r j=gt s j):r=s:=by
 apply gj hl;intro j h1 h2;have:=h j;unfold gt at this;rw[ax,ax,af h1,af h2]at this;exact this
noncomputable def hdI:Row->Option Nat
 |[]=>ag
 |a::r=>if a≠0 then aa 0 else(hdI r).map (· + 1)
theorem YD:∀{r:Row}{k:Nat},hdI r=aa k->gt r k≠0/\k<r.length/\∀j,j<k->gt r j=0
 |[],k,h=>by cases h
 |a::r,k,h=>by
  unfold hdI at h;by_cases c:a≠0
  .rw[T9 c]at h;cases h;exact#[c,by simp,λj hj=>by lia]
  .rw[T8 c]at h
   cases q:hdI r with
   |none=>rw[q]at h;cases h
   |some m=>
    rw[q]at h;have e:m+1=k:=aq h;subst e;obtain⟨h1,h2,h3⟩:=YD q;refine#[h1,by simp;lia,λj hj=>?_]
    cases j with|zero=>exact oD.mp c|succ j=>exact h3 j #[0]
theorem Xs:∀{r:Row},hdI r=ag->∀j,gt r j=0
 |[],_,j=>xo<|dD _
 |a::r,h,j=>by
  unfold hdI at h;by_cases c:a≠0
  .rw[T9 c]at h;cases h
  .rw[T8 c]at h
   have h':=lT.mp h;cases j with|zero=>exact oD.mp c|succ j=>exact Xs h' j
section
variable{p n:Nat}[NeZero p]
def toV(p:Nat)[NeZero p](r:Row):Vec (Fin p):=λj=>ph p<|gt r j
def YB{r s:Row}(hr:Zd p n r)(hs:Zd p n s)(h:toV p r=toV p s):r=s:=
 ZaC (by rw[hr.1,hs.1]) λj=>yN (XM ppos hr j) (XM ppos hs j)<|congrFun h j
def Yb(hr:Zd p n r):Supp n (toV p r):=λj hj=>by unfold toV;rw[xo (by rw[hr.1];exact hj),Wo]
def Ye{r:Row}(hr:Zd p n r){j:Nat}:toV p r j=0↔gt r j=0:=Zg4<|XM ppos hr j
def yF(hr:Zd p n r):hdV n (toV p r)=hdI r:=by
 cases q:hdI r with
 |none=>
  cases q2:hdV n (toV p r)with|none=>rfl|some k=>exact T7 ((Ye hr).mpr<|Xs q k) (zb q2).2.1
 |some k=>
  obtain⟨a,b,c⟩:=YD q;exact Zbn (by rw[<-hr.1];exact b) (λz=>a<|(Ye hr).mp z) λj hj=>(Ye hr).mpr<|c j hj
noncomputable def Zu(p:Nat)(r o:Row)(k:Int):Row:=List.zipWith (λa b=>(a+k*b)%p) r o
noncomputable def X7(p:Nat)(r:Row)(k:Int):Row:=r.map λa=>k*a%p
theorem ZfV(hl:r.length=o.length)(h0:f 0 0=0)(j:Nat):gt (List.zipWith f r o) j=f (gt r j) (gt o j):=by
 unfold gt;simp only[ax];rw[List.getElem?_zipWith];by_cases c:j<r.length
 .rw[af c,af #[0]];rfl
 .rw[bM #[0],bM #[0]];exact h0.symm
theorem Zq(hr:Zd p n r)(ho:Zd p n o):Zd p n (Zu p r o k):=by
 refine#[by unfold Zu;rw[List.length_zipWith,hr.1,ho.1];simp,λa ha=>?_]
 unfold Zu at ha;rw[<-hV]at ha;obtain⟨⟨x,y⟩,_,rfl⟩:=aR.mp ha;exact#[gK _ (by have:=ppos (p:=p);lia),fu _ ppos]
def V9(hr:Zd p n r)(ho:Zd p n o)(j:Nat):gt (Zu p r o k) j=(gt r j+k*gt o j)%p:=by
 unfold Zu;rw[ZfV (by rw[hr.1,ho.1]) #[2]]
def ZW(hr:Zd p n r)(ho:Zd p n o):toV p (Zu p r o k)=λj=>toV p r j+ph p k*toV p o j:=by
 funext j
 unfold toV;rw[V9 hr ho,qx,Zbh,qj]
def jL(j:Nat):gt (X7 p r k) j=k*gt r j%p:=by
 unfold X7 gt;simp only[ax,aJ];cases r[j]?<;>simp
theorem QN{r:Row}{k:Int}(hr:Zd p n r):Zd p n (X7 p r k):=by
 refine#[by unfold X7;rw[ay,hr.1],λa ha=>?_]
 obtain⟨x,_,rfl⟩:=aR.mp ha;exact#[gK _ (by have:=ppos (p:=p);lia),fu _ ppos]
def uk :toV p (X7 p r k)=λj=>ph p k*toV p r j:=by
 funext j
 unfold toV;rw[jL,qx,qj]
def toP(p:Nat)[NeZero p](P:List Row):Pt (Fin p):=P.map λr=>((hdI r).getD 0,toV p r)
structure pZ(p n:Nat)[NeZero p](P:List Row):Prop where
 row:∀r∈P,Zd p n r
 pn:Pn n (toP p P)
theorem pZ.nil:pZ p n []:=#[λ_ h=>(by cases h),Pn.nil]
def Yz(h:r∈P):((hdI r).getD 0,toV p r)∈toP p P:=aR.mpr #[r,h,rfl]
def pZ.head(one0:(1:Fin p)≠0)(h:pZ p n P)(hr:r∈P):∃k,hdI r=aa k/\k<n/\toV p r k=1:=by
 have h1:=h.pn.rf.one _<|Yz hr;cases q:hdI r with
 |none=>
  rw[q]at h1;have:toV p r 0=1:=h1;have z:=(Ye<|h.row r hr).mpr<|Xs q 0;rw[z]at this;exact T7 this.symm one0
 |some k=>
  rw[q]at h1;have h2:=h.pn.lt _<|Yz hr;rw[q]at h2;exact#[k,rfl,h2,h1]
def wS(hP:∀r∈P,Zd p n r)(hQ:∀r∈Q,Zd p n r)(h:toP p P=toP p Q):P=Q:=by
 induction P generalizing Q with
 |nil=>cases Q with|nil=>rfl|cons b Q=>cases h
 |cons a P ih=>cases Q with
  |nil=>cases h
  |cons b Q=>
   have h':=h;injection h' with e1 e2
   have e3:=congrArg Prod.snd e1;rw[YB (hP a<|ak ..) (hQ b<|ak ..) e3,ih (λr hr=>hP r<|am _ hr) (λr hr=>hQ r<|am _ hr) e2]
def ZdB(P:List Row):(toP p P).map (·.2)=P.map (toV p):=by unfold toP;rw[bH];rfl
def Uk(P:List Row):(toP p P).length=P.length:=by unfold toP;rw[ay]
def clr(p:Nat)(r o:Row)(h:Nat):Row:=Zu p r o<|-(gt r h)
def Zl(p:Nat)(P:List Row)(r:Row):Row:=P.foldl (λs o=>clr p s o<|(hdI o).getD 0) r
theorem JK(hr:Zd p n r)(ho:Zd p n o):toV p (clr p r o h)=λj=>toV p r j-toV p r h*toV p o j:=by
 unfold clr;rw[ZW hr ho]
 funext j
 rw[Vr];show toV p r j+(- toV p r h)*toV p o j=_
 grind
theorem V4:∀{P:List Row}{r:Row},(∀o∈P,Zd p n o)->Rf (toP p P)->Zd p n r->Zd p n #[13]/\toV p #[13]=rest (toP p P) (toV p r)
 |[],r,_,_,hr=>#[hr,by funext j;show toV p r j=toV p r j-0;grind]
 |o::P,r,hP,hf,hr=>by
  have ho:=hP o<|ak ..;have hc:Zd p n (clr p r o<|(hdI o).getD 0):=Zq hr ho;obtain⟨a,b⟩:=V4 (λo h=>hP o<|am _ h) hf.tail hc
  refine#[a,?_];show toV p (Zl p P<|clr p r o<|(hdI o).getD 0)=_;rw[b,JK hr ho];have z:∀j,pr (toP p P) (toV p o) j=0:=λj=>Xy λc hc=>by
   have:toV p o c.1=0:=by
    have h1:c∈toP p (o::P):=am _ hc;have h2:((hdI o).getD 0,toV p o)∈toP p (o::P):=ak ..;have h3:=(bj.mp hf.inc).1 c hc;exact hf.zer c h1 _ h2 (by simp only at h3 ⊢;lia)
   rw[this];grind
  funext j
  unfold rest;rw[Gy,z];show toV p r j-toV p r ((hdI o).getD 0)*toV p o j-(pr (toP p P) (toV p r) j-_*0)=toV p r j-(toV p r ((hdI o).getD 0)*toV p o j+pr (toP p P) (toV p r) j)
  grind
def qk(hP:pZ p n P)(hr:Zd p n r):hdI #[13]=ag↔Mem (toP p P) (toV p r):=by
 obtain⟨a,b⟩:=V4 hP.row hP.pn.rf hr;rw[<-UW,<-b]
 constructor
 .intro h j;exact(Ye a).mpr<|Xs h j
 .intro h
  cases q:hdI (Zl p P r)with|none=>rfl|some k=>exact T7 ((Ye a).mp<|h k) (YD q).1
end
noncomputable def UE(p:Nat)(a:Int):Int:=if a=1 then 1 else if p=3 then 2 else if a=2 then 3 else if a=3 then 2 else 4
def QJ(p:Nat)[NeZero p](x:Fin p):Fin p:=ph p<|UE p x.val
class Base(p:Nat):Prop where
 b:p=2\/p=3\/p=5
instance(p:Nat)[h:Base p]:NeZero p:=⟨by rcases h.b with e|e|e<;>lia⟩
section
variable{p n:Nat}[Base p]
def fld2:∀a:Fin 2,a≠0->QJ 2 a*a=1:=by decide
def fld3:∀a:Fin 3,a≠0->QJ 3 a*a=1:=by decide
def fld5:∀a:Fin 5,a≠0->QJ 5 a*a=1:=by decide
def one2:(1:Fin 2)≠0:=by decide
def one3:(1:Fin 3)≠0:=by decide
def one5:(1:Fin 5)≠0:=by decide
def fld:Fld (QJ p):=by
 rcases(inferInstance:Base p).b with e|e|e<;>subst e
 .exact#[fld2,one2]
 .exact#[fld3,one3]
 .exact#[fld5,one5]
def Zco{a:Int}(h:0<=a/\a<(p:Int)):((ph p a).val:Int)=a:=by rw[Yx,eU h.1 h.2]
def lead(p:Nat)(s:Row)(h:Nat):Row:=X7 p s<|UE p<|gt s h
def Y1(p:Nat)(P:List Row)(r:Row):List Row:=match hdI (Zl p P r)with
 |none=>P
 |some h=>(Zm<|P.map (λo=>clr p o #[18] h)++[lead p #[13] h]).reverse
def yC(h:Nat)(x:Row):List Row->List Row
 |[]=>[x]
 |y::P=>if h<(hdI y).getD 0 then x::y::P else y::yC h x P
theorem Vu(h:Nat)(x:Row):∀P:List Row,(yC h x P).Perm (x::P)
 |[]=>cK _
 |y::P=>by
  unfold yC;split
  .exact cK _
  .exact((Vu h x P).cons y).trans<|ku x y P
theorem z9{h:Nat}{x:Row}(hx:hdI x=aa h):∀P:List Row,toP p (yC h x P)=ins (h,toV p x) (toP p P)
 |[]=>by show[((hdI x).getD 0,toV p x)]=_;rw[hx];rfl
 |y::P=>by
  unfold yC;show toP p (if h<(hdI y).getD 0 then _ else _)=(if h<(hdI y).getD 0 then _ else _)
  split
  .show((hdI x).getD 0,toV p x)::_=_;rw[hx];rfl
  .show((hdI y).getD 0,toV p y)::toP p (yC h x P)=_;rw[z9 hx P];rfl
theorem jW:∀{a b:Row}{h:Nat},a.length=b.length->(∀j,j<h->gt a j=gt b j)->gt b h<gt a h->h<a.length->ltI b a=al
 |[],_,_,_,_,_,hl=>by simp at hl
 |x::a,[],_,e,_,_,_=>by simp at e
 |x::a,y::b,0,_,_,hlt,_=>by
  have:y<x:=hlt;unfold ltI;rw[T8 #[0]]
  exact T5 this
 |x::a,y::b,h+1,e,hj,hlt,hl=>by
  have:x=y:=hj 0 #[0]
  unfold ltI;rw[T9 this.symm];exact jW (by simpa using e) (λj h'=>hj (j+1)<|by lia) hlt (by simpa using hl)
theorem Zav{a b:Row}{h k:Nat}(ha:Zd p n a)(hb:Zd p n b)(h1:hdI a=aa h)(h2:hdI b=aa k)(hk:h<k):ltI b a=al:=by
 obtain⟨a1,a2,a3⟩:=YD h1;obtain⟨b1,b2,b3⟩:=YD h2;refine jW (by rw[ha.1,hb.1]) (λj hj=>by rw[a3 j hj,b3 j<|by lia]) ?_ a2
 rw[b3 h hk];have:=(XM ppos ha h).1;lia
def pZ.falls{P:List Row}(hP:pZ p n P):P.Pairwise λa b=>ltI b a=al:=by
 have inc:P.Pairwise λa b=>(hdI a).getD 0<(hdI b).getD 0:=by
  have:=hP.pn.rf.inc;unfold toP at this;rw[c6]at this;exact this
 refine kW (λ{a b} ha hb hab=>?_) inc
 obtain⟨h,e1,_⟩:=hP.head fld.one0 ha;obtain⟨k,e2,_⟩:=hP.head fld.one0 hb;rw[e1,e2]at hab;exact Zav (hP.row a ha) (hP.row b hb) e1 e2 hab
def VU{P:List Row}(h:P.Pairwise λa b=>ltI b a=al):P.Nodup:=List.Pairwise.imp (λ{a b} hab e=>by
 rw[e]at hab;have:=Sd.Uf hab;rw[hab]at this;cases this) h
def Zdp{P Q:List Row}(hp:Q.Perm P)(h:Q.Pairwise λa b=>ltI b a=al):(Zm P).reverse=Q:=by
 have hn:P.Nodup:=(hp.nodup_iff).mp<|VU h;have e:Zm P=Q.reverse:=Sd.XW ((Sd.Y6 P).trans<|hp.symm.trans (d8 Q).symm) (Sd.XF hn)<|eI.mpr h;rw[e,List.reverse_reverse]
def XY{P:List Row}{r:Row}(hP:pZ p n P)(hr:Zd p n r):pZ p n (Y1 p P r)/\toP p (Y1 p P r)=more (QJ p) n (toP p P) (toV p r):=by
 obtain⟨s1,s2⟩:=V4 hP.row hP.pn.rf hr;have eh:=yF s1;rw[s2]at eh;have g:=Wq fld hP.pn<|Yb hr;unfold Y1;cases q:hdI (Zl p P r)with
 |none=>
  rw[q]at eh;exact#[hP,by unfold more;rw[eh]]
 |some h=>
  rw[q]at eh;have em:more (QJ p) n (toP p P) (toV p r)=wid (toP p P) h (toV p<|lead p #[13] h):=by
   unfold more;rw[eh];show wid _ h _=_
   congr 1
   unfold lead;rw[uk,s2]
   funext j
   congr 1
   unfold QJ;rw[<-s2];show ph p (UE p<|(ph p<|gt #[13] h).val)=_;rw[Zco<|XM ppos s1 h]
  have hl:Zd p n #[18]:=QN s1;rw[em]at g;have mem:∀x∈wid (toP p P) h (toV p<|lead p #[13] h),hdV n x.2=aa x.1:=λx hx=>Zbn (g.pn.lt x hx) (by rw[g.pn.rf.one x hx];exact fld.one0)<|g.pn.rf.low x hx
  have hx:hdI #[18]=aa h:=by
   rw[<-yF hl];exact mem (h,toV p<|lead p #[13] h)<|(YG _ _).mem_iff.mpr<|ak ..
  have e1:toP p (P.map λo=>clr p o #[18] h)=(toP p P).map (off h<|toV p<|lead p #[13] h):=by
   unfold toP;rw[bH,bH];refine bP λo ho=>?_
   have ho':=hP.row o ho;have hc:Zd p n (clr p o #[18] h):=Zq ho' hl;have ev:toV p (clr p o #[18] h)=(off h (toV p<|lead p #[13] h) ((hdI o).getD 0,toV p o)).2:=JK ho' hl;show((hdI<|clr p o #[18] h).getD 0,toV p<|clr p o #[18] h)=off h _ ((hdI o).getD 0,toV p o);have:=mem (off h (toV p<|lead p #[13] h) ((hdI o).getD 0,toV p o))<|(YG _ _).mem_iff.mpr<|am _<|aR.mpr #[_,Yz ho,rfl];rw[<-ev,yF hc]at this;rw[this,ev];rfl
  have e2:toP p (yC h #[18]<|P.map λo=>clr p o #[18] h)=wid (toP p P) h (toV p<|lead p #[13] h):=by
   rw[z9 hx,e1];rfl
  have hQ:pZ p n (yC h #[18]<|P.map λo=>clr p o #[18] h):=by
   refine#[λx hx=>?_,by rw[e2];exact g.pn]
   rcases az.mp ((Vu _ _ _).mem_iff.mp hx)with e|e
   .rw[e];exact hl
   .obtain⟨o,ho,rfl⟩:=aR.mp e
    exact Zq (hP.row o ho) hl
  have e3:=Zdp ((Vu h #[18]<|P.map λo=>clr p o #[18] h).trans (List.perm_append_singleton _ _).symm) hQ.falls
  show pZ p n (Zm _).reverse/\toP p (Zm _).reverse=_;rw[e3];exact#[hQ,by rw[e2,em]]
def ZU(p:Nat)(P:List Row)(rs:List Row):List Row:=rs.foldl (Y1 p) P
theorem V8:∀{rs:List Row}{P:List Row},pZ p n P->(∀r∈rs,Zd p n r)->pZ p n (ZU p P rs)/\toP p (ZU p P rs)=xZ (QJ p) n (toP p P) (rs.map<|toV p)
 |[],P,hP,_=>#[hP,rfl]
 |r::rs,P,hP,hr=>by
  obtain⟨a,b⟩:=XY hP<|hr r<|ak ..;obtain⟨c,d⟩:=V8 (rs:=rs) a λx hx=>hr x<|am _ hx
  refine#[c,?_];show toP p (ZU p (Y1 p P r) rs)=_;rw[d,b];rfl
def WR{P Q:List Row}(hP:pZ p n P)(hQ:pZ p n Q):pZ p n (ZU p P Q)/\toP p (ZU p P Q)=join (QJ p) n (toP p P) (toP p Q):=by
 obtain⟨a,b⟩:=V8 hP hQ.row;exact#[a,by rw[b];unfold join;rw[ZdB]]
def ZK(P:List Row):List Nat:=P.map λr=>(hdI r).getD 0
def Wn(P:List Row):(toP p P).map (·.1)=ZK P:=by unfold toP ZK;rw[bH];rfl
abbrev Mm(p:Nat)[NeZero p](P:List Row)(u:Vec (Fin p)):Prop:=Mem (toP p P) u
def eqP(hA:pZ p n A)(hB:pZ p n B)(h:∀u,Mm p A u↔Mm p B u):A=B:=wS hA.row hB.row<|Zg5 fld hA.pn hB.pn h
def Zcy{P Q:List Row}(hP:pZ p n P)(hQ:pZ p n Q)(u:Vec (Fin p)):Mm p (ZU p P Q) u↔∃q,Mm p Q q/\Mm p P λj=>u j-q j:=by
 unfold Mm;rw[(WR hP hQ).2];exact Qa fld hP.pn hQ.pn u
def je{P Q:List Row}(hP:pZ p n P)(hQ:pZ p n Q){u:Vec (Fin p)}(h:Mm p Q u):Mm p (ZU p P Q) u:=by
 unfold Mm;rw[(WR hP hQ).2];exact xh fld hP.pn hQ.pn h
def qc{P Q R:List Row}(hP:pZ p n P)(hQ:pZ p n Q)(h1:∀u,Mm p P u->Mm p R u)(h2:∀u,Mm p Q u->Mm p R u){u:Vec (Fin p)}(h:Mm p (ZU p P Q) u):Mm p R u:=by
 unfold Mm at h;rw[(WR hP hQ).2]at h;exact xt fld hP.pn hQ.pn h1 h2 h
def pJ{P Q:List Row}(hP:pZ p n P)(hQ:pZ p n Q):pZ p n (ZU p P Q):=(WR hP hQ).1
def Zad{P Q:List Row}(hP:pZ p n P)(hQ:pZ p n Q)(h:∀u,Mm p P u->Mm p Q u):ZU p P Q=Q:=eqP (pJ hP hQ) hQ λu=>
 #[qc hP hQ h λ_ h=>h,je hP hQ]
theorem uf{P:List Row}(hP:pZ p n P):ZU p [] P=P:=eqP (pJ pZ.nil hP) hP λu=>(Zcy pZ.nil hP u).trans #[by
 rintro ⟨q,h1,h2⟩;have e:u=q:=funext λj=>by have:u j-q j=0:=h2 j;grind
 rwa [e],λh=>#[u,h,λj=>by show u j-u j=0;grind]]
def Yp(p:Nat)(P:List Row)(r:Row):Bool:=(hdI<|Zl p P r).isNone
def ZN(hP:pZ p n P)(hr:Zd p n r):Yp p P r=al↔Mm p P (toV p r):=by
 unfold Mm;rw[<-qk hP hr];unfold Yp;cases hdI #[13]<;>simp
theorem UD(hP:pZ p n P)(hQ:pZ p n Q):P.all (Yp p Q)=al↔∀u,Mm p P u->Mm p Q u:=by
 rw[bp]
 constructor
 .intro h u hu
  have gen:∀R:Pt (Fin p),(∀a∈R,Mm p Q a.2)->Mm p Q (pr R u):=by
   intro R
   induction R with
   |nil=>intro _;exact Yk
   |cons a R ih=>
    intro hR;have:=YA (u a.1) (ih λb hb=>hR b<|am _ hb)<|hR a<|ak ..
    have e:(λj=>pr R u j+u a.1*a.2 j)=pr (a::R) u:=by funext j;show _=u a.1*a.2 j+pr R u j;grind
    rw[e]at this;exact this
  have:=gen (toP p P) λa ha=>by
   obtain⟨r,hr,rfl⟩:=aR.mp ha;exact(ZN hQ<|hP.row r hr).mp<|h r hr
  have e:=funext λj=>(hu j).symm
  rw[e]at this;exact this
 .intro h r hr
  exact(ZN hQ<|hP.row r hr).mpr<|h _<|Wp hP.pn.rf<|Yz hr
end
end Rw
namespace Pv
open Ev
open Rw
def Za{B β:Type}{a:B}{s:DS}{f:B->DS->PR β}:(PR.ok a s).bind f=f a s:=rfl
def VP(hf:F[f]?=aa fn)(hne:f≠tk)(hl:vs.length=fn.ps):Zk F tk (d+1) f vs s=(rvs (Zk F tk d) (muts fn.body) fn.body (ZO fn.ns vs) [] s).bind λg s=>match g with
  |.ret v=>.ok v s
  |.nx _ _=>.ok .non s:=by
 rw[Zk,T8 hne,hf];show(if vs.length=fn.ps then _ else _)=_
 rw[T9 hl]
 all_goals rfl
def jx(s:DS)(h:0<m):0<=(X6 s m).1/\(X6 s m).1<m:=by
 unfold X6;split
 .exact#[gK _ #[0],fu _ h]
 .exact#[gK _ #[0],fu _ h]
def wx(s:DS)(h0:0<m)(h1:m<1073741824):∃v s',Zk F tk (d+1) tk [.drw,.int m] s=.ok (.int v) s'/\0<=v/\v<m:=by
 refine#[(X6 s m).1,(X6 s m).2,?_,jx s h0];rw[Zk,T9 rfl];show(if 0<m/\m<1073741824 then _ else _)=_
 rw[T9 #[h0,h1]]
theorem yz{B:Type}{f:V->DS->PR (List V)}{s:DS}{e:B->V}{g:B->V}:∀{l:List B},(∀x∈l,f (e x) s=.ok [g x] s)->mapP f (l.map e) s=.ok (l.map g) s
 |[],_=>rfl
 |x::l,h=>by
  rw[aZ,mapP,h x<|ak ..];show(match mapP f (l.map e) s with|.ok zs s=>PR.ok ([g x]++zs) s|_=>.no)=_
  rw[yz λy hy=>h y<|am _ hy];rfl
theorem VQ{B:Type}{f:V->DS->PR (List V)}{s:DS}{e:B->V}{g:B->V}{q:B->Bool}:∀{l:List B},(∀x∈l,f (e x) s=.ok (if q x=al then[g x]else[]) s)->mapP f (l.map e) s=.ok ((l.filter q).map g) s
 |[],_=>rfl
 |x::l,h=>by
  rw[aZ,mapP,h x<|ak ..];show(match mapP f (l.map e) s with|.ok zs s=>PR.ok ((if q x=al then[g x]else[])++zs) s|_=>.no)=_
  rw[VQ λy hy=>h y<|am _ hy,lE]
  cases q x<;>rfl
theorem Jp{O B:Type}{body:V->Env->List Nat->DS->PR FlV}{s:DS}{os:List Nat}{Z:O->Option V->Env}{step:O->B->O}{e:B->V}(I:O->Prop):∀{l:List B}{st:O}{o:Option V},I st->(∀x∈l,∀st o,I st->I (step st x)/\∃o',body (e x) (Z st o) os s=.ok (.nx (Z (step st x) o') os) s)->∃o',I (l.foldl step st)/\YZ body (l.map e) (Z st o) os s=.ok (.nx (Z (l.foldl step st) o') os) s
 |[],st,o,hI,_=>#[o,hI,rfl]
 |x::l,st,o,hI,h=>by
  obtain⟨h1,o1,e1⟩:=h x (ak ..) st o hI;obtain⟨o2,h2,e2⟩:=Jp I h1 λy hy=>h y<|am _ hy
  refine#[o2,h2,?_];rw[aZ,YZ,e1];exact e2
noncomputable def Gx:Option Nat->V
 |none=>.non
 |some k=>.int k
noncomputable def spV(p n:Nat):V:=.tup [.int p,.int n]
def Yc{a:Int}(h:-4294967296<a)(h':a<4294967296):fits a=al:=by
 refine T5 ?_;have h1:a.natAbs<2^32:=by lia
 exact bi h1<|fU #[1] #[1]
def WF{B:Type}{xs:List B}{k:Nat}{x:B}(h:xs[k]?=aa x):at' xs (k:Int)=aa x:=by
 have hk:k<xs.length:=(aK.mp h).1;unfold at' ixN;rw[T9<|Int.natCast_nonneg k,T9<|Int.ofNat_lt.mpr hk];exact h
def xg{r:Row}{k:Nat}(hk:k<r.length):at' (r.map V.int) (k:Int)=aa (.int<|gt r k):=by
 refine WF ?_;rw[aJ,af hk];unfold gt;rw[ax,af hk];rfl
theorem Xq{B:Type}{g:B->Bool}:∀l:List B,Yg (l.map λx=>.bl<|g x)=aa (l.map g)
 |[]=>rfl
 |x::l=>by rw[aZ,Yg,Xq l];rfl
theorem UF{B:Type}{f:V->V->Option Bool}{e:B->V}{d:B->B->Bool}(hd:∀a b,d a b=al↔a=b)(h:∀a b,f (e a) (e b)=aa (d a b)):∀a b:List B,∃c,Yt f (a.map e) (b.map e)=aa c/\(c=al↔a=b)
 |[],[]=>#[al,rfl,by simp]
 |[],_::_=>#[aj,rfl,by simp]
 |_::_,[]=>#[aj,rfl,by simp]
 |x::a,y::b=>by
  obtain⟨c,e1,e2⟩:=UF hd h a b;refine#[d x y&&c,?_,?_]
  .rw[aZ,aZ,Yt,h,e1]
  .rw[aG,hd,e2];simp
def ZdA(k:Nat)(a b:Row):eqV (k+2) (Zb a) (Zb b)=aa (ai<|a=b):=by
 show Yt (eqV<|k+1) (a.map .int) (b.map .int)=_;obtain⟨c,e1,e2⟩:=UF (f:=eqV<|k+1) (e:=V.int) (λa b=>by simp) (λa b=>rfl) a b
 rw[e1,show c=ai (a=b) by rw[cR,e2];simp]
def yh(k:Nat)(a b:List Row):eqV (k+3) (Zt a) (Zt b)=aa (ai<|a=b):=by
 show Yt (eqV<|k+2) (a.map Zb) (b.map Zb)=_;obtain⟨c,e1,e2⟩:=UF (λa b=>by simp) (λa b=>ZdA k a b) a b
 rw[e1,show c=ai (a=b) by rw[cR,e2];simp]
theorem GX:∀(r o:Row),((r.map V.int).zip<|o.map V.int).map (λq=>V.tup [q.1,q.2])=(r.zip o).map λq=>V.tup [.int q.1,.int q.2]
 |[],_=>rfl
 |_::_,[]=>rfl
 |a::r,b::o=>by rw[aZ,aZ,dZ,aZ,dZ,aZ,GX r o]
theorem Yr:∀r:Row,intsV (r.map V.int)=aa r
 |[]=>rfl
 |a::r=>by show(intsV<|r.map V.int).map (a :: ·)=_;rw[Yr r];rfl
theorem Vy:∀P:List Row,Y2 (P.map Zb)=aa P
 |[]=>rfl
 |r::P=>by
  show(match intsV (r.map V.int),Y2 (P.map Zb)with|some a,aa b=>aa (a::b)|_,_=>ag)=_
  rw[Yr,Vy P]
theorem Us:∀r:Row,YQ (r.map V.int)=al
 |[]=>rfl
 |a::r=>Us r
def Zce(n:Nat):YE 0 n=(aP n).map λ(k:Nat)=>V.int (k:Int):=by
 refine bP λk _=>?_
 simp
def Z2{B:Type}{a:B}{s:DS}:po (aa a) s=.ok a s:=rfl
section
variable{C:Zs}{cap:List Nat}{nl:Nat}{t:List Nat}{it:W}{elt tst:E}{Z:Env}{s:DS}{B:Type}
def Z0{l:List B}{e g:B->V}(hw:pvw C it Z s=.ok (l.map e) s)(hl:l.length<=lim)(h:∀x∈l,∃O,Zo t (e x) (Yh cap nl Z)=aa O/\pv C elt O s=.ok (g x) s)(ho:own nl t=al:=by rfl):pv C (.comp1 cap nl t it [] elt) Z s=.ok (.lst<|l.map g) s:=by
 rw[Zc6,T9 ho,hw,Za,yz (g:=g) λx hx=>by
  obtain⟨O,e1,e2⟩:=h x hx;rw[e1,Z2,Za,pvt,Za];show(pv C elt O s).bind _=_;rw[e2];rfl]
 rw[Za,T9 (by rw[ay];exact hl)];rfl
def VM{l:List B}{e g:B->V}{q:B->Bool}(hw:pvw C it Z s=.ok (l.map e) s)(hl:l.length<=lim)(h:∀x∈l,∃O v,Zo t (e x) (Yh cap nl Z)=aa O/\pv C tst O s=.ok v s/\Zz v=aa (q x)/\(q x=al->pv C elt O s=.ok (g x) s))(ho:own nl t=al:=by rfl):pv C (.comp1 cap nl t it [tst] elt) Z s=.ok (.lst<|(l.filter q).map g) s:=by
 rw[Zc6,T9 ho,hw,Za,VQ (g:=g) (q:=q) λx hx=>by
  obtain⟨O,v,e1,e2,e3,e4⟩:=h x hx;rw[e1,Z2,Za,pvt,e2,Za,e3,Z2,Za];cases c:q x with
  |true=>
   rw[T9 rfl,pvt,Za,T9 rfl,T9 rfl,e4 c];rfl
  |false=>rw[T8 #[2],Za,T8 #[2],T8 #[2]]]
 rw[Za,T9 (by rw[ay];exact cx (mr ..) hl)];rfl
end
noncomputable def ZX(k:Nat):V:=.int k
def Zc0(n:Nat):YE 0 n=(aP n).map ZX:=by rw[Zce];rfl
def UJ(h0:0<=i)(h1:i<1000000):WC i=al:=by
 unfold WC;have e:(2:Int)^62=4611686018427387904:=by decide
 rw[e];exact T5 #[by lia,by lia]
def Zr(hf:F[f]?=aa fn)(hne:f≠tk)(hl:vs.length=fn.ps)(h:rvs (Zk F tk d) (muts fn.body) fn.body (ZO fn.ns vs) [] s=.ok (.ret v) s'):Zk F tk (d+1) f vs s=.ok v s':=by
 rw[VP hf hne hl,h];rfl
def Zdr(hf:F[f]?=aa fn)(hne:f≠tk)(hl:vs.length=fn.ps)(h:rvs (Zk F tk d) (muts fn.body) fn.body (ZO fn.ns vs) [] s=.ok (.nx Z os) s'):Zk F tk (d+1) f vs s=.ok .non s':=by
 rw[VP hf hne hl,h];rfl
def Zh(h:rv C ms m Z os s=.ok (.nx ρ' os') s'):rvs C ms (m::l) Z os s=rvs C ms l ρ' os' s':=by rw[rvs,h];rfl
def Zn(h:rv C ms m Z os s=.ok (.ret v) s'):rvs C ms (m::l) Z os s=.ok (.ret v) s':=by rw[rvs,h];rfl
def ZE{v:V}{e:E}(h:pv C e Z s=.ok v s'):rv C ms (.ret e) Z os s=.ok (.ret v) s':=by rw[rE9,h];rfl
def zo{v:V}{f:Nat}{as:List E}(h:pv C (.call f as) Z s=.ok v s'):rv C ms (.ex<|.call f as) Z os s=.ok (.nx Z os) s':=by
 have:rv C ms (.ex<|.call f as) Z os s=(pv C (.call f as) Z s).bind λ_ s=>.ok (.nx Z os) s:=by
  rw[Zf6]
  all_goals(intro _ _ z;cases z)
 rw[this,h];rfl
def Qe{b:Bool}{t:E}{x y:List Sm}(h:Yv C t Z s=.ok b s'):rv C ms (.ite t x y) Z os s=if b=al then rvs C ms x Z os s' else rvs C ms y Z os s':=by rw[GD,h];rfl
def Y5{v:V}{b:Bool}{t:E}(h:pv C t Z s=.ok v s')(hb:Zz v=aa b):Yv C t Z s=.ok b s':=by unfold Yv;rw[h,Za,hb];rfl
def Zw{f:Nat}{as:List E}{vs:List V}{v:V}{s1:DS}(h:pvs C as Z s=.ok vs s1)(hc:C f vs s1=.ok v s'):pv C (.call f as) Z s=.ok v s':=by rw[Za0,h];exact hc
def Zg:pvs C [] Z s=.ok [] s:=by rw[pvs]
def Zc{e:E}{es:List E}{v:V}{vs:List V}{s1:DS}(h:pv C e Z s=.ok v s1)(h2:pvs C es Z s1=.ok vs s'):pvs C (e::es) Z s=.ok (v::vs) s':=by rw[pvs,h,Za,h2];rfl
def Ze{i:Nat}{v:V}(h:Z[i]?=aa (aa v)):pv C (.v i) Z s=.ok v s:=by rw[pE2,h];rfl
def ZV{i:Nat}{e:E}{v:V}(h:pv C e Z s=.ok v s')(hm:(ms.contains i&&fresh e)=aj):rv C ms (.asg [i] e) Z [] s=.ok (.nx (Z.set i<|aa v) []) s':=by
 rw[rE1];show(pv C e Z s).bind _=_;rw[h,Za,T8 (by rw[hm];simp)];rfl
def Zbg{O B:Type}{t:List Nat}{it:W}{b:List Sm}{L:List B}{e:B->V}{step:O->B->O}{Z:O->Option V->Env}{st:O}{o:Option V}(I:O->Prop)(hw:pvw C it (hide os<|Z st o) s=.ok (L.map e) s)(hI:I st)(ht:(t.any os.contains)=aj)
  (h:∀x∈L,∀st o,I st->I (step st x)/\(os.isEmpty||(e x).flat)=al/\∃ρ1 o',Zo t (e x) (Z st o)=aa ρ1/\rvs C ms b ρ1 os s=.ok (.nx (Z (step st x) o') os) s) :
  ∃o',I (L.foldl step st)/\rv C ms (.forr t it b) (Z st o) os s=.ok (.nx (Z (L.foldl step st) o') os) s:=by
 obtain⟨o',h1,h2⟩:=Jp (body:=λx Z os s=>if(t.any os.contains)=al then .no else(po (Zo t x Z) s).bind λZ s=>rvs C ms b Z os s) (s:=s) (os:=os) (Z:=Z) (step:=step) (e:=e) I (l:=L) (st:=st) (o:=o) hI (λx hx st o hI=>by
  obtain⟨a,f,ρ1,o',b1,b2⟩:=h x hx st o hI;refine#[a,o',?_];rw[T8 (by rw[ht];simp),b1,Z2,Za,b2])
 refine#[o',h1,?_];rw[Qx,hw,Za];exact h2
def XG{e:E}{n:Nat}(h:pv C e Z s=.ok (.int n) s')(hn:n<1000000):pvw C (.rng1 e) Z s=.ok ((aP n).map ZX) s':=by
 rw[wE1,h,Za];show(if WC (n:Int)=al then PR.ok (YE 0 (n:Int).toNat) s' else .no)=_
 rw[T9 (UJ #[0] #[0]),cZ,Zc0]
def Gp{B:Type}{t:List Nat}{it:W}{b:List Sm}{L:List B}{e:B->V}(I:List B->Env->Prop)(hw:pvw C it (hide os Z) s=.ok (L.map e) s)(hI:I L Z)(ht:(t.any os.contains)=aj)
  (h:∀x l Z,I (x::l) Z->(os.isEmpty||(e x).flat)=al/\∃ρ1 ρ',Zo t (e x) Z=aa ρ1/\rvs C ms b ρ1 os s=.ok (.nx ρ' os) s/\I l ρ') :
  ∃ρ',I [] ρ'/\rv C ms (.forr t it b) Z os s=.ok (.nx ρ' os) s:=by
 rw[Qx,hw,Za];clear hw
 induction L generalizing Z with
 |nil=>exact#[Z,hI,rfl]
 |cons x L ih=>
  obtain⟨f,ρ1,ρ',b1,b2,b3⟩:=h x L Z hI;obtain⟨ρ2,c1,c2⟩:=ih b3;refine#[ρ2,c1,?_];rw[aZ,YZ,T8 (by rw[ht];simp),b1,Z2,Za,b2,Za]
  exact c2
def Zdy{O B:Type}{t:List Nat}{it:W}{b:List Sm}{L:List B}{e:B->V}{step:O->B->O}{Z:O->Option V->Env}{st:O}{o:Option V}(I:List B->O->Prop)(hw:pvw C it (hide os<|Z st o) s=.ok (L.map e) s)(hI:I L st)(ht:(t.any os.contains)=aj)
  (h:∀x l st o,I (x::l) st->I l (step st x)/\(os.isEmpty||(e x).flat)=al/\∃ρ1 o',Zo t (e x) (Z st o)=aa ρ1/\rvs C ms b ρ1 os s=.ok (.nx (Z (step st x) o') os) s) :
  ∃o',I [] (L.foldl step st)/\rv C ms (.forr t it b) (Z st o) os s=.ok (.nx (Z (L.foldl step st) o') os) s:=by
 rw[Qx,hw,Za];clear hw
 induction L generalizing st o with
 |nil=>exact#[o,hI,rfl]
 |cons x L ih=>
  obtain⟨a,f,ρ1,o',b1,b2⟩:=h x L st o hI;obtain⟨o2,c1,c2⟩:=ih (st:=step st x) (o:=o') a;refine#[o2,c1,?_];rw[aZ,YZ,T8 (by rw[ht];simp),b1,Z2,Za,b2,Za]
  exact c2
def pvF:(∀a,fresh (.lst a)=al)/\(∀a b,fresh (.bin .mul (.lst a) b)=al)/\(∀b,Zz (.bl b)=aa b)/\(∀i,Zz (.int i)=aa (ai<|i≠0))/\(∀xs,Zz (.tup xs)=aa (!xs.isEmpty))/\(∀xs,Zz (.lst xs)=aa (!xs.isEmpty))/\(Zz .non=aa aj)/\(∀xs i,ixV (.tup xs) (.int i)=at' xs i)/\(∀xs i,ixV (.lst xs) (.int i)=at' xs i)/\(∀xs,YL (.tup xs)=aa xs)/\(∀xs,YL (.lst xs)=aa xs)/\(∀x,Xp .len [x]=(YL x).map λxs=>.int xs.length)/\(∀x,Xp .tuple [x]=(YL x).map .tup)/\(∀x,Xp .list [x]=(YL x).map .lst)/\(∀xs,Xp .all [.lst xs]=(Yg xs).map λbs=>.bl<|bs.all id)/\(∀a b,Xp .max2 [.int a,.int b]=aa (.int (if b>a then b else a)))/\(∀a b,Xp .min2 [.int a,.int b]=aa (.int (if b<a then b else a)))/\(∀a,Xp .toInt [.int a]=aa (.int a))/\(∀a,Xp .toInt [.bl a]=aa (.int<|b2i a))/\(∀xs,Xp .sortedR [.lst xs]=(Y2 xs).bind λrs=>if Z5 rs=al then aa (.lst<|(Zm rs).reverse.map Zb)else ag)/\(∀a b s,XS .add (.int a) (.int b) s=.ok (.int<|a+b) s)/\(∀a b s,XS .sub (.int a) (.int b) s=.ok (.int<|a-b) s)/\(∀a b s,XS .mul (.int a) (.int b) s=if(fits a&&fits b)=al then .ok (.int<|a*b) s else .no)/\(∀a b s,XS .mod (.int a) (.int b) s=if 0<b then .ok (.int<|a%b) s else .no)/\(∀a b s,XS .add (.tup a) (.tup b) s=if a.length+b.length<=lim then .ok (.tup<|a++b) s else .no)/\(∀a b s,XS .mul (.tup a) (.int b) s=if 0<=b/\b<1000/\a.length<=1000 then .ok (.tup (aw b.toNat a).flatten) s else .no)/\(∀a b s,XS .mul (.lst a) (.int b) s=if 0<=b/\b<1000/\a.length<=1000 then .ok (.lst (aw b.toNat a).flatten) s else .no)/\(∀a b s,XS .add (.lst a) (.lst b) s=if a.length+b.length<=lim then .ok (.lst<|a++b) s else .no)/\(∀x y,Y4 .eq x y=(eqV ZA x y).map .bl)/\(∀x y,Y4 .ne x y=(eqV ZA x y).map λb=>.bl !b)/\(∀a b,Y4 .lt (.int a) (.int b)=aa (.bl<|ai<|a<b))/\(∀a b,Y4 .gt (.int a) (.int b)=aa (.bl<|ai<|b<a))/\(∀a b,Y4 .le (.int a) (.int b)=aa (.bl<|ai<|a<=b))/\(∀a b,Y4 .ge (.int a) (.int b)=aa (.bl<|ai<|b<=a))/\(∀x,Y4 .is x .non=aa (.bl<|Qk x))/\(∀a b,Y4 .is (.bl a) (.bl b)=aa (.bl<|ai<|a=b))/\(∀x y,Y4 .nin x y=(qL x y).map λb=>.bl !b)/\(Qk .non=al)/\(∀b,Qk (.bl b)=aj)/\(∀b,Qk (.int b)=aj)/\(∀b,Qk (.tup b)=aj)/\(∀b,Qk (.lst b)=aj)/\(ofD .non=aa .non)/\(∀b,ofD (.bl b)=aa (.bl b))/\(∀b,ofD (.int b)=aa (.int b))/\(∀Z,YR [] [] Z=aa Z)/\(∀i t x xs Z,YR (i::t) (x::xs) Z=YR t xs (Z.set i<|aa x))/\(∀i x Z,Zo [i] x Z=aa (Z.set i<|aa x))/\(∀i j t xs Z,Zo (i::j::t) (.tup xs) Z=YR (i::j::t) xs Z)/\(∀i j t xs Z,Zo (i::j::t) (.lst xs) Z=YR (i::j::t) xs Z)/\(∀k a b,eqV (k+1) (.int a) (.int b)=aa (ai<|a=b))/\(∀k a b,eqV (k+1) (.bl a) (.bl b)=aa (ai<|a=b))/\(∀k a b,eqV (k+1) (.tup a) (.tup b)=Yt (eqV k) a b)/\(∀k a b,eqV (k+1) (.lst a) (.lst b)=if a.length=b.length then Yt (eqV k) a b else aa aj):=
 #[λ_=>rfl,λ_ _=>rfl,λ_=>rfl,λ_=>rfl,λ_=>rfl,λ_=>rfl,rfl,λ_ _=>rfl,λ_ _=>rfl,λ_=>rfl,λ_=>rfl,λ_=>rfl,λ_=>rfl,λ_=>rfl,λ_=>rfl,λ_ _=>rfl,λ_ _=>rfl,λ_=>rfl,λ_=>rfl,λ_=>rfl,λ_ _ _=>rfl,λ_ _ _=>rfl,λ_ _ _=>rfl,λ_ _ _=>rfl,λ_ _ _=>rfl,λ_ _ _=>rfl,λ_ _ _=>rfl,λ_ _ _=>rfl,λ_ _=>rfl,λ_ _=>rfl,λ_ _=>rfl,λ_ _=>rfl,λ_ _=>rfl,λ_ _=>rfl,λ_=>rfl,λ_ _=>rfl,λ_ _=>rfl,rfl,λ_=>rfl,λ_=>rfl,λ_=>rfl,λ_=>rfl,rfl,λ_=>rfl,λ_=>rfl,λ_=>rfl,λ_ _ _ _ _=>rfl,λ_ _ _=>rfl,λ_ _ _ _ _=>rfl,λ_ _ _ _ _=>rfl,λ_ _ _=>rfl,λ_ _ _=>rfl,λ_ _ _=>rfl,λ_ _ _=>rfl]
def pvE:=bg (bg (bg (bg (bg pvF<|bg @Za @Z2)<|bg @Yv.eq_1<|bg @ZO.eq_1 @hide.eq_1)<|bg (bg @Yh.eq_1<|bg @Option.join.eq_1.{0} @lim.eq_1)<|bg (bg @rvs.eq_1 @rvs.eq_2)<|bg @pvA.eq_1 @pvA.eq_2)<|bg (bg (bg @pvs.eq_1<|bg @pvs.eq_2 @pvo.eq_1)<|bg (bg @pvo.eq_2 @pvt.eq_1)<|bg @pvt.eq_2 @pE1)<|bg (bg @pE2<|bg @pE3 @pE4)<|bg (bg @pE5 @pE7)<|bg @pE8 @pE9)<|bg (bg (bg (bg @Zb8<|bg @Zf7 @XR)<|bg @Zhs<|bg @WA @ZeZ)<|bg (bg @Zhj<|bg @Za0 @YI)<|bg (bg @ZgN @rE1)<|bg @rE2 @rE3)<|bg (bg (bg @rE4<|bg @rE7 @rE9)<|bg (bg @Zfr @Zf6)<|bg @GD @Qx)<|bg (bg @ZcK<|bg @ZhA @wE1)<|bg (bg @wE2 @wE5)<|bg @wE6 @wE7
end Pv
namespace K73
open Ev Pv Rw La
abbrev CV(d:Nat):Zs:=Zk fns 2 d
theorem QZ(C:Zs)(s:DS)(v:V):∀(r:Row)(k:Nat)(a b:Option V),∃a' b',YZ (λx Z os s=>if(([1,2]:List Nat).any os.contains)=al then .no else(po (Zo [1,2] x Z) s).bind λZ s=>rvs C [] [.ite (.cmp .ne (.v 2)<|.n 0) [.ret<|.v 1] []] Z os s)
   (((YE k r.length).zip<|r.map V.int).map λp=>V.tup [p.1,p.2]) [aa v,a,b] [] s=match hdI r with
    |some m=>.ok (.ret<|.int (k+m:Nat)) s
    |none=>.ok (.nx [aa v,a',b'] []) s
 |[],k,a,b=>#[a,b,rfl]
 |x::r,k,a,b=>by
  have er:YE k (x::r).length=.int k::YE (k+1:Nat) r.length:=by
   unfold YE;rw[aQ,gZ,aZ,bH];refine List.cons_eq_cons.mpr #[by simp,?_]
   .refine bP λj _=>?_
    show V.int ((k:Int)+((j+1:Nat):Int))=V.int (((k+1:Nat):Int)+(j:Int))
    congr 1
    lia
  obtain⟨a',b',ih⟩:=QZ C s v r (k+1) (aa<|.int k)<|aa<|.int x;refine#[a',b',?_];rw[er,aZ,dZ,aZ,YZ];by_cases c:x=0
  .subst c
   have e0:hdI (0::r)=(hdI r).map (· + 1):=by rw[hdI,T8 #[2]]
   have e1:(if(([1,2]:List Nat).any ([]:List Nat).contains)=al then(.no:PR FlV)else(po (Zo [1,2] (V.tup [.int k,.int 0]) [aa v,a,b]) s).bind λZ s=>rvs C [] [.ite (.cmp .ne (.v 2)<|.n 0) [.ret<|.v 1] []] Z [] s)=.ok (.nx [aa v,aa<|.int k,aa<|.int 0] []) s:=by
    simp[pvE,ZA]
   rw[e1,Za,e0];show YZ _ _ [aa v,aa<|.int k,aa<|.int 0] [] s=_;rw[ih];cases hdI r with|none=>rfl|some m=>show PR.ok (FlV.ret<|.int ((k+1+m:Nat):Int)) s=PR.ok (FlV.ret<|.int ((k+(m+1):Nat):Int)) s;congr 3;lia
  .have e0:hdI (x::r)=aa 0:=by rw[hdI,T9 c]
   have e1:(if(([1,2]:List Nat).any ([]:List Nat).contains)=al then(.no:PR FlV)else(po (Zo [1,2] (V.tup [.int k,.int x]) [aa v,a,b]) s).bind λZ s=>rvs C [] [.ite (.cmp .ne (.v 2)<|.n 0) [.ret<|.v 1] []] Z [] s)=.ok (.ret<|.int k) s:=by
    simp[pvE,ZA,c]
   rw[e1,Za,e0];rfl
def GJ(d:Nat)(r:Row)(s:DS):CV (d+1) 8 [Zb r] s=.ok (Gx<|hdI r) s:=by
 rw[CV,VP rfl #[1] rfl]
 obtain⟨a,b,e⟩:=QZ (Zk fns 2 d) s (Zb r) r 0 ag ag;show((rv _ [] (.forr [1,2] (.enum<|.v 0) _) [aa<|Zb r,ag,ag] [] s).bind _).bind _=_;have e2:rv (Zk fns 2 d) [] (.forr [1,2] (.enum<|.v 0) [.ite (.cmp .ne (.v 2)<|.n 0) [.ret<|.v 1] []]) [aa<|Zb r,ag,ag] [] s=match hdI r with
    |some m=>.ok (.ret<|.int (m:Nat)) s
    |none=>.ok (.nx [aa<|Zb r,a,b] []) s:=by
  rw[Qx];have ew:pvw (Zk fns 2 d) (.enum<|.v 0) (hide [] [aa<|Zb r,ag,ag]) s=.ok (((YE 0 r.length).zip<|r.map V.int).map λp=>V.tup [p.1,p.2]) s:=by
   simp[pvE,Zb]
  rw[ew,Za];simp only[oB,Int.natCast_zero]at e;exact e
 rw[e2];cases hdI r with|none=>rfl|some m=>rfl
section
variable{p n:Nat}[Base p]
def Vo:(p:Int)<=5/\(2:Int)<=p:=by rcases(inferInstance:Base p).b with e|e|e<;>subst e<;>decide
theorem UK(d:Nat){r o:Row}{k:Int}(s:DS)(hn:n<=6)(hr:Zd p n r)(ho:Zd p n o)(hk:-1000<k/\k<1000):CV (d+1) 6 [.int p,Zb r,Zb o,.int k] s=.ok (Zb<|Zu p r o k) s:=by
 rw[CV,VP rfl #[1] rfl]
 have hp:=Vo (p:=p);have hc:=Z0 (C:=Zk fns 2 d) (cap:=[3,0]) (nl:=2) (t:=[0,1]) (it:=.zip (.v 1)<|.v 2) (elt:=.bin .mod (.bin .add (.v 0)<|.bin .mul (.v 2)<|.v 1)<|.v 3) (Z:=[aa<|.int p,aa<|Zb r,aa<|Zb o,aa<|.int k]) (s:=s) (l:=r.zip o) (e:=λq=>V.tup [.int q.1,.int q.2]) (g:=λq=>V.int<|(q.1+k*q.2)%p)
  (by simp[pvE,Zb,GX]) (by rw[iO,hr.1,ho.1];unfold lim;lia) (λq hq=>by
   have h2:=ho.2 q.2 (gH hq).2;refine#[_,rfl,?_];have f1:=Yc (a:=k) #[0] #[0]
   have f2:=Yc (a:=q.2) #[0] #[0]
   have hp0:0<p:=by lia
   simp[pvE,f1,f2,hp0])
 have e:(r.zip o).map (λq=>V.int<|(q.1+k*q.2)%p)=(Zu p r o k).map V.int:=by
  unfold Zu;rw[<-hV,bH];rfl
 simp[Ve,pvE,hc,e];rfl
theorem vo(d:Nat){r o:Row}{h:Nat}(s:DS)(hn:n<=6)(hr:Zd p n r)(ho:Zd p n o)(hh:h<n):CV (d+2) 7 [.int p,Zb r,Zb o,.int h] s=.ok (Zb<|clr p r o h) s:=by
 rw[CV,VP rfl #[1] rfl]
 have hg:=XM ppos hr h;have hp:=Vo (p:=p);have e:=UK d (k:=-(gt r h)) s hn hr ho #[by lia,by lia]
 have e2:=xg (by rw[hr.1];exact hh)
 simp only[CV]at e;simp[Jd,pvE,Zb,e2];simp only[Zb]at e;rw[e];simp[pvE,clr]
theorem Zgn(d:Nat){r:Row}{k:Int}(s:DS)(hn:n<=6)(hr:Zd p n r)(hk:-1000<k/\k<1000):CV (d+1) 10 [.int p,Zb r,.int k] s=.ok (Zb<|X7 p r k) s:=by
 rw[CV,VP (fn:=Ga) rfl #[1] rfl]
 have hp:=Vo (p:=p);have hc:=Z0 (C:=Zk fns 2 d) (cap:=[2,0]) (nl:=1) (t:=[0]) (it:=.of<|.v 1) (elt:=.bin .mod (.bin .mul (.v 1)<|.v 0)<|.v 2) (Z:=[aa<|.int p,aa<|Zb r,aa<|.int k]) (s:=s) (l:=r) (e:=V.int) (g:=λq=>V.int<|k*q%p)
  (by simp[pvE,Zb]) (by rw[hr.1];unfold lim;lia) (λq hq=>by
   have h2:=hr.2 q hq;refine#[_,rfl,?_];have f1:=Yc (a:=k) #[0] #[0]
   have f2:=Yc (a:=q) #[0] #[0]
   have hp0:0<p:=by lia
   simp[pvE,f1,f2,hp0])
 simp[Ga,pvE,hc];simp[Zb,X7]
def JU(C:Zs)(m:Nat){q a k:Int}(s:DS)(hq:0<q)(f1:fits a=al)(f2:fits k=al):Ym (Yv C<|.cmp .ne (.bin .mod (.bin .mul (.v 2)<|.v 1)<|.v 0)<|.n 1) (rvs C [] [.aug 2 .add<|.n 1]) (m+1) [aa<|.int q,aa<|.int a,aa<|.int k] [] s =
  if k*a%q=1 then .ok (.nx [aa<|.int q,aa<|.int a,aa<|.int k] []) s else Ym (Yv C<|.cmp .ne (.bin .mod (.bin .mul (.v 2)<|.v 1)<|.v 0)<|.n 1) (rvs C [] [.aug 2 .add<|.n 1]) m [aa<|.int q,aa<|.int a,aa<|.int<|k+1] [] s:=by
 rw[Ym];by_cases c:k*a%q=1<;>simp[pvE,f1,f2,hq,ZA,c,ZgV]
theorem Zdm(d:Nat){a:Int}(s:DS)(ha:0<a/\a<p):CV (d+1) 11 [.int p,.int a] s=.ok (.int<|UE p a) s:=by
 rw[CV,VP (fn:=Q5) rfl #[1] rfl]
 generalize Zk fns 2 d=C;have fs:∀k:Int,0<=k->k<=5->fits k=al:=λk h0 h1=>Yc #[0] #[0]
 have hp:=Vo (p:=p);have fa:=fs a #[0] #[0]
 have key:Ym (Yv C<|.cmp .ne (.bin .mod (.bin .mul (.v 2)<|.v 1)<|.v 0)<|.n 1) (rvs C [] [.aug 2 .add<|.n 1]) (996+1+1+1+1) [aa<|.int p,aa<|.int a,aa<|.int 1] [] s=.ok (.nx [aa<|.int p,aa<|.int a,aa<|.int<|UE p a] []) s:=by
  rw[JU C _ s #[0] fa (fs 1 #[0] #[0]),JU C _ s #[0] fa (fs (1+1) #[0] #[0]),JU C _ s #[0] fa (fs (1+1+1) #[0] #[0]),JU C _ s #[0] fa<|fs (1+1+1+1) #[0] #[0]]
  rcases(inferInstance:Base p).b with e|e|e<;>subst e
  .have:a=1:=by lia
   subst this;rfl
  .have:a=1\/a=2:=by lia
   rcases this with e|e<;>subst e<;>rfl
  .have:a=1\/a=2\/a=3\/a=4:=by lia
   rcases this with e|e|e|e<;>subst e<;>rfl
 have e:rv C [] (.whl (.cmp .ne (.bin .mod (.bin .mul (.v 2)<|.v 1)<|.v 0)<|.n 1) [.aug 2 .add<|.n 1]) [aa<|.int p,aa<|.int a,aa<|.int 1] [] s=.ok (.nx [aa<|.int p,aa<|.int a,aa<|.int<|UE p a] []) s:=by
  rw[ZcK];exact key
 show((rvs C [] (.asg [2] (.n 1) :: .whl _ _ :: .ret (.v 2)::[]) [aa<|.int p,aa<|.int a,ag] [] s).bind _)=_;have e1:rv C [] (.asg [2]<|.n 1) [aa<|.int p,aa<|.int a,ag] [] s=.ok (.nx [aa<|.int p,aa<|.int a,aa<|.int 1] []) s:=by simp[pvE]
 rw[rvs,e1,Za];show((rvs C [] (.whl _ _ :: .ret (.v 2)::[]) [aa<|.int p,aa<|.int a,aa<|.int 1] [] s).bind _)=_;rw[rvs,e,Za];simp[pvE]
def YY(C:Zs)(ms:List Nat){i j:Nat}{Z:Env}{os:List Nat}{s:DS}{e:E}(h:pvA C e Z os s=.ok (spV p n) s)(ho:os.contains i=aj/\os.contains j=aj):rv C ms (.asg [i,j] e) Z os s=.ok (.nx ((Z.set i<|aa<|.int p).set j<|aa<|.int n) os) s:=by
 rw[rE2,h,Za,T8 (by simpa using ho)]
 .rfl
 .simp
def uR(d:Nat){P:List Row}{r:Row}(s:DS)(hn:n<=6)(hP:pZ p n P)(hr:Zd p n r):CV (d+3) 9 [spV p n,Zt P,Zb r] s=.ok (Zb<|Zl p P r) s:=by
 refine Zr rfl #[1] rfl ?_
 show rvs (CV<|d+2) [] (.asg [3,4] (.v 0) :: .asg [5] (.v 2) :: .forr [6] (.of<|.v 1) [.asg [5]<|.call 7 [(.v 3),(.v 5),(.v 6),(.call 8 [(.v 6)])]] :: .ret (.v 5)::[]) [aa<|spV p n,aa<|Zt P,aa<|Zb r,ag,ag,ag,ag] [] s=_;rw[Zh<|YY (p:=p) (n:=n) _ _ (by simp[pvE]) #[2]]
 rw[Zh (ρ':=[aa<|spV p n,aa<|Zt P,aa<|Zb r,aa<|.int p,aa<|.int n,aa<|Zb r,ag]) (os':=[]) (s':=s) (by simp[pvE])]
 obtain⟨o',hI,e⟩:=Zbg (C:=CV<|d+2) (ms:=[]) (t:=[6]) (it:=.of<|.v 1) (b:=[.asg [5]<|.call 7 [(.v 3),(.v 5),(.v 6),(.call 8 [(.v 6)])]]) (L:=P) (e:=Zb) (step:=λst o=>clr p st o<|(hdI o).getD 0) (Z:=λst o=>[aa<|spV p n,aa<|Zt P,aa<|Zb r,aa<|.int p,aa<|.int n,aa<|Zb st,o]) (os:=[]) (s:=s) (Zd p n) (by simp[pvE,Zt]) hr rfl (λx hx st o hst=>by
  have hx':=hP.row x hx;obtain⟨k,hk,hkn,_⟩:=hP.head fld.one0 hx;refine#[Zq hst hx',rfl,_,aa<|Zb x,rfl,?_];have e1:=GJ (d+1) x s;have e2:=vo d s hn hst hx' hkn;rw[hk]at e1;simp only[Gx]at e1;have e3:=e1;simp[pvE,e3,e2,hk])
 rw[Zh e];exact Zn<|ZE (by simp[pvE,Zl])
def dsum{P:List Row}(hP:pZ p n P):P.length<=n:=by
 rw[<-Uk (p:=p)];exact UP hP.pn
theorem ZbZ(d:Nat){P:List Row}{r:Row}(s:DS)(hn:n<=6)(hP:pZ p n P)(hr:Zd p n r):CV (d+4) 12 [spV p n,Zt P,Zb r] s=.ok (Zt<|Y1 p P r) s:=by
 refine Zr (fn:=Wy) rfl #[1] rfl ?_
 show rvs (CV<|d+3) [] Wy.body [aa<|spV p n,aa<|Zt P,aa<|Zb r,ag,ag,ag,ag,ag,ag] [] s=_
 dsimp only[Wy]
 obtain⟨l1,l2⟩:=V4 hP.row hP.pn.rf hr;have hw:=(XY hP hr).1;rw[Zh<|YY (p:=p) (n:=n) _ _ (by simp[pvE]) #[2]]
 have e1:=uR d s hn hP hr;rw[Zh (ρ':=[aa<|spV p n,aa<|Zt P,aa<|Zb r,aa<|.int p,aa<|.int n,aa<|Zb<|Zl p P r,ag,ag,ag]) (os':=[]) (s':=s) (by simp[pvE,e1])]
 have e2:=GJ (d+2) #[13] s;rw[Zh (ρ':=[aa<|spV p n,aa<|Zt P,aa<|Zb r,aa<|.int p,aa<|.int n,aa<|Zb<|Zl p P r,aa<|Gx<|hdI<|Zl p P r,ag,ag]) (os':=[]) (s':=s) (by simp[pvE,e2])]
 cases q:hdI (Zl p P r)with
 |none=>
  refine Zn ?_;have:Y1 p P r=P:=by unfold Y1;rw[q]
  simp[pvE,Gx,this]
 |some h=>
  obtain⟨h1,h2,h3⟩:=YD q;rw[l1.1]at h2;have hg:=XM ppos l1 h;have hp:=Vo (p:=p);have hwid:Y1 p P r=(Zm<|P.map (λo=>clr p o #[18] h)++[lead p #[13] h]).reverse:=by unfold Y1;rw[q]
  rw[Zh (ρ':=[aa<|spV p n,aa<|Zt P,aa<|Zb r,aa<|.int p,aa<|.int n,aa<|Zb<|Zl p P r,aa<|.int h,ag,ag]) (os':=[]) (s':=s) (by simp[pvE,Gx])]
  have e3:=Zdm (p:=p) (d+2) (a:=gt #[13] h) s #[by lia,hg.2]
  have hi:-1000<UE p (gt #[13] h)/\UE p (gt #[13] h)<1000:=by
   unfold UE
   repeat' split
   all_goals lia
  have e4:=Zgn (p:=p) (d+2) s hn l1 hi;have e5:=xg (r:=Zl p P r) (k:=h) (by rw[l1.1];exact h2)
  have hl:Zd p n #[18]:=QN l1;rw[Zh (ρ':=[aa<|spV p n,aa<|Zt P,aa<|Zb r,aa<|.int p,aa<|.int n,aa<|Zb<|Zl p P r,aa<|.int h,aa<|Zb<|lead p #[13] h,ag]) (os':=[]) (s':=s) (by
   have e6:pv (CV<|d+3) (.call 10 [(.v 3),(.v 5),(.call 11 [(.v 3),(.ix (.v 5)<|.v 6)])]) [aa<|spV p n,aa<|Zt P,aa<|Zb r,aa<|.int p,aa<|.int n,aa<|Zb<|Zl p P r,aa<|.int h,ag,ag] s=.ok (Zb<|lead p #[13] h) s:=by
    refine Zw (vs:=[.int p,Zb<|Zl p P r,.int<|UE p<|gt #[13] h]) (s1:=s) ?_ e4;have e7:pv (CV<|d+3) (.call 11 [(.v 3),(.ix (.v 5)<|.v 6)]) [aa<|spV p n,aa<|Zt P,aa<|Zb r,aa<|.int p,aa<|.int n,aa<|Zb<|Zl p P r,aa<|.int h,ag,ag] s=.ok (.int<|UE p<|gt #[13] h) s:=by
     refine Zw (vs:=[.int p,.int<|gt #[13] h]) (s1:=s) ?_ e3;simp[pvE,Zb,e5]
    exact Zc #[10]<|Zc #[10]<|Zc e7 Zg
   rw[rE1];show(pv _ _ _ _).bind _=_;rw[e6];rfl)]
  have hc:=Z0 (C:=CV<|d+3) (cap:=[3,7,6]) (nl:=1) (t:=[0]) (it:=.of<|.v 1) (elt:=.call 7 [(.v 1),(.v 0),(.v 2),(.v 3)]) (Z:=[aa<|spV p n,aa<|Zt P,aa<|Zb r,aa<|.int p,aa<|.int n,aa<|Zb<|Zl p P r,aa<|.int h,aa<|Zb<|lead p #[13] h,ag]) (s:=s) (l:=P) (e:=Zb) (g:=λo=>Zb<|clr p o #[18] h)
   (by simp[pvE,Zt]) (by have:=dsum hP;unfold lim;lia) (λo ho=>#[_,rfl,by
    have:=vo (p:=p) (d+1) (h:=h) s hn (hP.row o ho) hl h2;simp[pvE,this]])
  rw[Zh (ρ':=[aa<|spV p n,aa<|Zt P,aa<|Zb r,aa<|.int p,aa<|.int n,aa<|Zb<|Zl p P r,aa<|.int h,aa<|Zb<|lead p #[13] h,aa<|.lst<|P.map λo=>Zb<|clr p o #[18] h]) (os':=[]) (s':=s) (by simp[pvE,hc])]
  refine Zn<|ZE ?_;have ea:(P.map λo=>Zb<|clr p o #[18] h)++[Zb<|lead p #[13] h]=((P.map λo=>clr p o #[18] h)++[lead p #[13] h]).map Zb:=by rw[bL,bH];rfl
  have hs:Z5 ((P.map λo=>clr p o #[18] h)++[lead p #[13] h])=al:=by
   have hlen:((P.map λo=>clr p o #[18] h)++[lead p #[13] h]).length=P.length+1:=by simp
   have hnd:((P.map λo=>clr p o #[18] h)++[lead p #[13] h]).Nodup:=by
    have h5:=VU hw.falls;rw[hwid]at h5;exact((Sd.Y6 _).nodup_iff).mp<|((d8 _).nodup_iff).mp h5
   have hd:=dsum hP;unfold Z5;rw[T5 (by rw[hlen];lia),T5 hnd]
   rw[aG];refine#[rfl,bp.mpr λx hx=>?_]
   have:x.length=n:=by
    rcases cc.mp hx with z|z
    .obtain⟨o,ho,rfl⟩:=aR.mp z
     exact(Zq (hP.row o ho) hl).1
    .rw[a8.mp z];exact hl.1
   cases x with|nil=>simp at this;lia|cons _ _=>rfl
  have hlen2:P.length+1<=16777216:=by have:=dsum hP;lia
  simp[pvE,hlen2];rw[ea,Vy];simp[pvE,hs,hwid,Zt,o0]
def Qr(d:Nat){P R:List Row}{v:V}(s:DS)(hn:n<=6)(hP:pZ p n P)(hR:∀r∈R,Zd p n r)(hv:YL v=aa (R.map Zb)):CV (d+5) 13 [spV p n,Zt P,v] s=.ok (Zt<|ZU p P R) s:=by
 refine Zr (fn:=Z8) rfl #[1] rfl ?_
 show rvs (CV<|d+4) [] Z8.body [aa<|spV p n,aa<|Zt P,aa v,ag,ag] [] s=_
 dsimp only[Z8]
 rw[Zh (ρ':=[aa<|spV p n,aa<|Zt P,aa v,aa<|Zt P,ag]) (os':=[]) (s':=s) (by simp[pvE])]
 obtain⟨o',hI,e⟩:=Zbg (C:=CV<|d+4) (ms:=[]) (t:=[4]) (it:=.of<|.v 2) (b:=[.asg [3]<|.call 12 [(.v 0),(.v 3),(.v 4)]]) (L:=R) (e:=Zb) (step:=Y1 p) (Z:=λst o=>[aa<|spV p n,aa<|Zt P,aa v,aa<|Zt st,o]) (st:=P) (o:=ag) (os:=[]) (s:=s) (pZ p n) (by show pvw (CV<|d+4) (.of<|.v 2) [aa<|spV p n,aa<|Zt P,aa v,aa<|Zt P,ag] s=_;rw[wE7,pE2];show po (YL v) s=_;rw[hv];rfl) hP rfl (λx hx st o hst=>by
  have hx':=hR x hx;refine#[(XY hst hx').1,rfl,_,aa<|Zb x,rfl,?_];have e2:=ZbZ d s hn hst hx';simp[pvE,e2])
 rw[Zh e];exact Zn<|ZE (by simp[pvE,ZU])
end
end K73
namespace Rw
open La
open Ev (ltI Yw Zm)
section
variable{p n:Nat}[Base p]
theorem Jc:∀l:List Row,(Zm l).length=l.length
 |[]=>rfl
 |x::r=>by
  show(Yw x<|Zm r).length=_;have:∀l:List Row,(Yw x l).length=l.length+1:=λl=>by
   induction l with
   |nil=>rfl
   |cons y l ih=>
    unfold Yw;split
    .rfl
    .rw[aQ,ih];rfl
  rw[this,Jc r];rfl
def GT(P:List Row)(r:Row):P.length<=(Y1 p P r).length:=by
 unfold Y1;split
 .exact aF _
 .rw[gy,Jc,aU,ay];simp
theorem ym:∀(rs P:List Row),P.length<=(ZU p P rs).length
 |[],P=>aF _
 |r::rs,P=>cx (GT P r)<|ym rs<|Y1 p P r
def ZcS{P Q:List Row}(hP:pZ p n P)(hQ:pZ p n Q)(h:P.all (Yp p Q)=al):P.length<=Q.length:=by
 have e:=Zad hP hQ<|(UD hP hQ).mp h;have:=ym (p:=p) Q P;rw[e]at this;exact this
end
end Rw
namespace Rw
open Ev (ltP Wa YS)
open La
section
variable{p n:Nat}[Base p]
def Gw(hW:pZ p n W)(hr:Zd p n r)(h:∀i,gt r i=0):Yp p W r=al:=by
 rw[ZN hW hr];have e:toV p r=λ_=>0:=by funext k;exact(Ye hr).mpr<|h k
 rw[e];exact Yk
def ww(hW:pZ p n W)(hr:r∈W):Yp p W r=al:=by
 rw[ZN hW<|hW.row r hr];exact Wp hW.pn.rf<|Yz hr
structure Spans(p n:Nat)[NeZero p](R P:List Row):Prop where
 part:pZ p n P
 holds:∀r∈R,Yp p P r=al
 least:∀W,pZ p n W->(∀r∈R,Yp p W r=al)->∀r∈P,Yp p W r=al
end
noncomputable def rise(hs:List Nat):Bool:=(hs.zip hs.tail).all λq=>ai<|q.1<q.2
theorem Uv:∀{hs:List Nat},rise hs=al↔hs.Pairwise (· < ·)
 |[]=>by simp[rise]
 |[a]=>by simp[rise]
 |a::b::l=>by
  have ih:=Uv (hs:=b::l);unfold rise at ih ⊢;rw[rc,dZ,kR,aG,T0];rw[rc]at ih
  constructor
  .intro#[h1,h2]
   have h3:=ih.mp h2;refine bj.mpr #[λx hx=>?_,h3]
   rcases az.mp hx with rfl|hx
   .exact h1
   .exact dg h1<|(bj.mp h3).1 x hx
  .intro h
   obtain⟨h1,h2⟩:=bj.mp h;exact#[h1 b<|ak ..,ih.mpr h2]
def xA(R:List Row)(i k:Nat):Bool:=ai (gt (R.getD i []) k=1)&&(R.take i++R.drop (i+1)).all λr=>ai<|gt r k=0
def qN(R:List Row):Bool:=(R.all λr=>(hdI r).isSome)&&(rise (ZK R)&&(aP R.length).all λi=>xA R i<|(ZK R).getD i 0)
section
variable{p n:Nat}[Base p]
def vC{R:List Row}{i:Nat}(hi:i<R.length):R.getD i []=R[i]:=by rw[ax,af hi];rfl
def yp(hi:i<R.length):(ZK R).getD i 0=(hdI R[i]).getD 0:=by
 unfold ZK;rw[ax,aJ,af hi];rfl
def Zes{R:List Row}{i j:Nat}(hj:j<R.length)(h:j≠i):R[j]∈R.take i++R.drop (i+1):=by
 by_cases c:j<i
 .refine c8 _ ?_
  have hl:j<(R.take i).length:=by rw[b9];exact nI.mpr #[c,hj]
  rw[<-fF (h:=hl)];exact aY hl
 .refine bq _ ?_
  have c:=fj (eZ c)<|Ne.symm h;have hl:j-(i+1)<(R.drop<|i+1).length:=by rw[bR];exact Nat.sub_lt_sub_right c hj
  have e:(R.drop<|i+1)[j-(i+1)]=R[j]:=by rw[fG];congr 1;exact mV c
  rw[<-e];exact aY hl
def u6{R:List Row}{i:Nat}{r:Row}(h:r∈R.take i++R.drop (i+1)):∃j,∃(hj:j<R.length),j≠i/\R[j]=r:=by
 rcases cc.mp h with z|z
 .obtain⟨j,hj,e⟩:=cE z
  rw[b9]at hj;have hj:=nI.mp hj;exact#[j,hj.2,bh hj.1,by rw[<-e,fF]]
 .obtain⟨j,hj,e⟩:=cE z
  rw[bR]at hj;exact#[i+1+j,Nat.add_lt_of_lt_sub' hj,by omega,by rw[<-e,fG]]
def Uq:ph p 1=1:=by
 rcases(inferInstance:Base p).b with e|e|e<;>subst e<;>rfl
def Gh(hr:Zd p n r):toV p r k=1↔gt r k=1:=by
 have hb:=(inferInstance:Base p).b
 constructor
 .intro h
  refine yN (XM ppos hr k) #[by omega,by omega] ?_
  rw[Uq];exact h
 .intro h
  unfold toV;rw[h,Uq]
def v4{R:List Row}(hR:∀r∈R,Zd p n r):qN R=al↔pZ p n R:=by
 unfold qN;simp only[aG,bp,aV]
 constructor
 .intro#[h1,h2,h3]
  have hd:∀i (hi:i<R.length),∃k,hdI R[i]=aa k/\gt R[i] k=1/\∀j (hj:j<R.length),j≠i->gt R[j] k=0:=λi hi=>by
   obtain⟨k,hk⟩:=cU.mp<|h1 _<|aY hi;have a:=h3 i hi;unfold xA at a;rw[yp hi,vC hi,hk,aG,T0,bp]at a;exact#[k,hk,a.1,λj hj ne=>T6<|a.2 _<|Zes hj ne]
  have inc:=Uv.mp h2;have memP:∀a∈toP p R,∃i,∃(hi:i<R.length),a=((hdI R[i]).getD 0,toV p R[i]):=λa ha=>by
   obtain⟨r,hr,rfl⟩:=aR.mp ha;obtain⟨i,hi,rfl⟩:=cE hr;exact#[i,hi,rfl]
  refine#[hR,#[#[?_,λa ha j hj=>?_,λa ha=>?_,λa ha b hb ne=>?_],λa ha=>?_,λa ha=>?_]]
  .rw[<-Wn (p:=p)]at inc
   exact c6.mp inc
  .obtain⟨i,hi,rfl⟩:=memP a ha
   obtain⟨k,hk,_,_⟩:=hd i hi;rw[hk]at hj;exact(Ye<|hR _<|aY hi).mpr<|(YD hk).2.2 j hj
  .obtain⟨i,hi,rfl⟩:=memP a ha
   obtain⟨k,hk,h,_⟩:=hd i hi;rw[hk];exact(Gh<|hR _<|aY hi).mpr h
  .obtain⟨i,hi,rfl⟩:=memP a ha
   obtain⟨j,hj,rfl⟩:=memP b hb;obtain⟨k,hk,_,h⟩:=hd i hi;rw[hk];refine(Ye<|hR _<|aY hj).mpr<|h j hj λe=>?_
   subst e;exact ne rfl
  .obtain⟨i,hi,rfl⟩:=memP a ha
   obtain⟨k,hk,_,_⟩:=hd i hi;rw[hk,<-(hR _<|aY hi).1];exact(YD hk).2.1
  .obtain⟨i,hi,rfl⟩:=memP a ha
   exact Yb<|hR _<|aY hi
 .intro hP
  have hk:∀r∈R,∃k,hdI r=aa k/\k<n/\toV p r k=1:=λr hr=>hP.head fld.one0 hr
  refine#[λr hr=>?_,Uv.mpr ?_,λi hi=>?_]
  .obtain⟨k,e,_⟩:=hk r hr
   rw[e];rfl
  .rw[<-Wn (p:=p)];exact hP.pn.rf.heads
  .obtain⟨k,e,_,h1⟩:=hk _ (aY hi)
   unfold xA;rw[yp hi,vC hi,e,aG,T0,bp];refine#[(Gh<|hR _<|aY hi).mp h1,λr hr=>?_]
   obtain⟨j,hj,ne,rfl⟩:=u6 hr;refine T5 ?_;obtain⟨k2,e2,_,_⟩:=hk _<|aY hj;have hh:((hdI R[i]).getD 0,toV p R[i]).1≠((hdI R[j]).getD 0,toV p R[j]).1:=by
    have inc:(ZK R).Pairwise (· < ·):=by rw[<-Wn (p:=p)];exact hP.pn.rf.heads
    have pw:=cu.mp inc;have li:(ZK R).length=R.length:=by unfold ZK;rw[ay]
    have gi:∀m (hm:m<R.length),(ZK R)[m]'#[3]=(hdI R[m]).getD 0:=λm hm=>by unfold ZK;rw[lG]
    intro z;have z:=z;rcases Nat.lt_or_gt_of_ne ne with c|c
    .have:=pw j i #[3] #[3] c
     rw[gi j hj,gi i hi]at this;omega
    .have:=pw i j #[3] #[3] c
     rw[gi j hj,gi i hi]at this;omega
   have:=hP.pn.rf.zer _ (Yz<|aY hi) _ (Yz<|aY hj) hh;rw[e]at this;exact(Ye<|hR _<|aY hj).mp this
end
end Rw
namespace Ab
open Ev Pv
mutual
noncomputable def okV:V->Bool
 |.tup xs=>Z9 xs
 |.lst xs=>Z9 xs
 |.drw=>aj
 |.scr _=>aj
 |.dct (.inr _)=>aj
 |.dow _=>aj
 |_=>al
noncomputable def Z9:List V->Bool
 |[]=>al
 |x::xs=>okV x&&Z9 xs
end
def Th(m:Nat)(x:V):Prop:=okV x=al/\∀xs,x=.tup xs->xs.length<=m
end Ab
namespace K73
open Ev Pv Rw La
def V6{F:List Fn}{tk d f c:Nat}{vs:List V}{s s':DS}{fn:Fn}(hf:F[f]?=aa fn)(hne:f≠tk)(hl:vs.length=fn.ps)(h:rvs (Zk F tk d) (muts fn.body) fn.body (ZO fn.ns vs) [] s=.ex c s'):Zk F tk (d+1) f vs s=.ex c s':=by
 rw[VP hf hne hl,h];rfl
def Gz{C:Zs}{ms:List Nat}{m:Sm}{l:List Sm}{Z:Env}{os:List Nat}{s s':DS}{c:Nat}(h:rv C ms m Z os s=.ex c s'):rvs C ms (m::l) Z os s=.ex c s':=by rw[rvs,h];rfl
def X5{C:Zs}{Z:Env}{s s1 s':DS}{f c:Nat}{as:List E}{vs:List V}(h:pvs C as Z s=.ok vs s1)(hc:C f vs s1=.ex c s'):pv C (.call f as) Z s=.ex c s':=by rw[Za0,h];exact hc
def GN{C:Zs}{ms:List Nat}{Z:Env}{os:List Nat}{s s':DS}{f c:Nat}{as:List E}(h:pv C (.call f as) Z s=.ex c s'):rv C ms (.ex<|.call f as) Z os s=.ex c s':=by
 rw[Zf6,h]
 .rfl
 all_goals(intro i e z;cases z)
open Ab (okV Z9)
theorem Xx:∀{xs:List V},Z9 xs=al->∀x∈xs,okV x=al
 |[],_,x,h=>by cases h
 |y::xs,h,x,m=>by
  obtain⟨h1,h2⟩:=(aG _ _).mp h;rcases az.mp m with rfl|m
  .exact h1
  .exact Xx h2 x m
noncomputable def isW(x:V)(lo hi:Int):Bool:=match x with
 |.int i=>ai (lo<=i)&&ai (i<=hi)
 |_=>aj
def Zae{x:V}{lo hi:Int}(h:∀i,x≠.int i):isW x lo hi=aj:=by
 cases x with|int i=>exact T7 rfl<|h i|_=>rfl
def u8{x:V}(hx:okV x=al):(∃i,x=.int i)\/(∃b,x=.bl b)\/Z7 x [.int]=aa aj/\∀i,x≠.int i:=by
 cases x with
 |int i=>exact .inl #[i,rfl]
 |bl b=>exact .inr<|.inl #[b,rfl]
 |drw=>cases hx
 |scr _=>cases hx
 |dow _=>cases hx
 |dct o=>cases o with|inl _=>exact .inr<|.inr #[rfl,nofun]|inr _=>cases hx
 |_=>exact .inr<|.inr #[rfl,nofun]
def xu{x:V}(hx:okV x=al):(∃xs,x=.tup xs)\/Z7 x [.tuple]=aa aj/\∀xs,x≠.tup xs:=by
 cases x with
 |tup xs=>exact .inl #[xs,rfl]
 |drw=>cases hx
 |scr _=>cases hx
 |dow _=>cases hx
 |dct o=>cases o with|inl _=>exact .inr #[rfl,nofun]|inr _=>cases hx
 |_=>exact .inr #[rfl,nofun]
def qr(d:Nat){x:V}{lo hi:Int}(s:DS)(hx:okV x=al):CV (d+1) 4 [x,.int lo,.int hi] s=.ok (.bl<|isW x lo hi) s:=by
 refine Zr rfl #[1] rfl ?_
 rcases u8 hx with⟨i,rfl⟩|⟨b,rfl⟩|⟨ha,no⟩
 .by_cases h:lo<=i
  .simp[Y0,pvE,isW,Z7,YH,h]
  .simp[Y0,pvE,isW,Z7,YH,h]
 .simp[Y0,pvE,isW,Z7,YH]
 .rw[Zae no]
  simp[Y0,pvE,ha]
def ZL(p n:Nat)(x:V):Bool:=match x with
 |.tup xs=>ai (xs.length=n)&&xs.all λv=>isW v 0<|(p:Int)-1
 |_=>aj
def ZfB{p n:Nat}{x:V}(h:∀xs,x≠.tup xs):ZL p n x=aj:=by
 cases x with|tup xs=>exact T7 rfl<|h xs|_=>rfl
theorem wR{p:Nat}:∀{xs:List V},(xs.all λv=>isW v 0<|(p:Int)-1)=al->∃r:Row,xs=r.map .int/\∀a∈r,0<=a/\a<(p:Int)
 |[],_=>#[[],rfl,λ_ h=>by cases h]
 |x::xs,h=>by
  rw[kR,aG]at h;obtain⟨r,rfl,hr⟩:=wR h.2;cases x with
  |int i=>
   have:=h.1;simp only[isW,aG,T0]at this;refine#[i::r,rfl,λa ha=>?_]
   rcases az.mp ha with rfl|ha
   .lia
   .exact hr a ha
  |_=>cases h.1
def xx{p n:Nat}{x:V}(h:ZL p n x=al):∃r:Row,x=Zb r/\Zd p n r:=by
 cases x with
 |tup xs=>
  unfold ZL at h;rw[aG,T0]at h;obtain⟨r,rfl,hr⟩:=wR h.2;exact#[r,rfl,by simpa using h.1,hr]
 |_=>cases h
def Zhd{p n:Nat}{r:Row}(hr:Zd p n r):ZL p n (Zb r)=al:=by
 unfold ZL Zb;rw[aG,T0,ay];refine#[hr.1,bp.mpr λv hv=>?_]
 obtain⟨a,ha,rfl⟩:=aR.mp hv;have:=hr.2 a ha;simp only[isW,aG,T0];lia
theorem JY:∀r:Row,Z9 (r.map .int)=al
 |[]=>rfl
 |a::r=>JY r
def UT(r:Row):okV (Zb r)=al:=JY r
section
variable{p n:Nat}[Base p]
theorem ZcU(d:Nat){x:V}(s:DS)(hn:n<=6)(hx:okV x=al):CV (d+2) 5 [spV p n,x] s=.ok (.bl<|ZL p n x) s:=by
 refine Zr rfl #[1] rfl ?_
 dsimp only[zB]
 rw[Zh<|YY (p:=p) (n:=n) _ _ (by simp[pvE]) #[2]]
 rcases xu hx with⟨xs,rfl⟩|⟨ha,no⟩
 ·
  by_cases hl:xs.length=n
  .rw[Zh (ρ':=[aa<|spV p n,aa<|.tup xs,aa<|.int p,aa<|.int n]) (os':=[]) (s':=s) (by simp[pvE,Z7,YH,ZA,hl])]
   refine Zn<|ZE ?_;have hc:=Z0 (C:=CV<|d+1) (cap:=[2]) (nl:=1) (t:=[0]) (it:=.of<|.v 1) (elt:=.call 4 [(.v 0),(.n 0),(.bin .sub (.v 1)<|.n 1)]) (Z:=[aa<|spV p n,aa<|.tup xs,aa<|.int p,aa<|.int n]) (s:=s) (l:=xs) (e:=id) (g:=λv=>V.bl<|isW v 0<|(p:Int)-1)
    (by simp[pvE]) (by unfold lim;lia) (λv hv=>#[_,rfl,by
     have e:=qr d (lo:=0) (hi:=(p:Int)-1) s<|Xx hx v hv;simp[pvE,e]])
   have ht:=Xq (g:=λv:V=>isW v 0<|(p:Int)-1) xs
   simp[pvE,hc,ht,ZL,hl]
  .refine Zn ?_
   simp[pvE,Z7,YH,ZA,ZL,hl];lia
 .rw[ZfB no]
  exact Zn (by simp[pvE,ha])
def Za4{R:List Row}(h:(R.all λr=>(hdI r).isSome)=al):R.map (λr=>Gx<|hdI r)=(ZK R).map ZX:=by
 unfold ZK;rw[bH];refine bP λr hr=>?_
 obtain⟨k,hk⟩:=cU.mp<|bp.mp h r hr;show Gx (hdI r)=ZX ((hdI r).getD 0);rw[hk];rfl
theorem Ua:∀P:List Row,Z9 (P.map Zb)=al
 |[]=>rfl
 |r::P=>by
  show(okV (Zb r)&&Z9 (P.map Zb))=al;rw[UT,Ua P];rfl
def Zck(P:List Row):okV (Zt P)=al:=Ua P
def ui{P:List Row}(hP:pZ p n P):P.map (λr=>Gx<|hdI r)=(ZK P).map ZX:=Za4 (bp.mpr λr hr=>by
 obtain⟨k,hk,_⟩:=hP.head fld.one0 hr;rw[hk];rfl)
end
end K73
namespace Rw
open La
open Ev (ltP Wa YS)
section
variable{p n:Nat}[Base p]
variable{k:Nat}
theorem W8{B:Type}[BEq B][LawfulBEq B]:∀{L A:List B},L.Nodup->(∀x∈L,x∈A)->L.length<=A.length
 |[],_,_,_=>dD _
 |x::L,A,h,hs=>by
  rw[da]at h;have h1:=W8 (L:=L) (A:=A.erase x) h.2 λy hy=>(List.mem_erase_of_ne (show y≠x from λe=>h.1<|by rw[<-e];exact hy)).mpr<|hs y<|am _ hy
  have h2:=hs x<|ak ..;have h3:=List.length_erase_of_mem h2;have h4:=lW h2;rw[aQ];omega
end
def VO(p:Nat)(L:List Row)(o:Row):List Row:=(aP p).flatMap λ(k:Nat)=>L.map λr=>Zu p r o (k:Int)
def wJ(p n:Nat)(P:List Row):List Row:=P.foldl (VO p) [aw n 0]
def uH(L:List Row)(o:Row):(VO p L o).length=L.length*p:=by
 unfold VO;rw[List.length_flatMap,show((aP p).map λ(k:Nat)=>(L.map λr=>Zu p r o (k:Int)).length)=aw p L.length from gj #[2] λi h1 h2=>by simp,List.sum_replicate_nat,oq]
def qb(P:List Row):(wJ p n P).length=p^P.length:=by
 unfold wJ
 suffices ∀(P L:List Row),(P.foldl (VO p) L).length=L.length*p^P.length by rw[this];simp
 intro P
 induction P with|nil=>intro L;simp|cons o P ih=>intro L;rw[dC,ih,uH,aQ,Nat.pow_succ,Nat.mul_assoc,oq p]
section
variable{p n:Nat}[Base p]
def ZM:Zd p n (aw n 0):=#[ck,λa ha=>by
 have:=(inferInstance:Base p).b;rw[k6 ha];omega]
def YT(j:Nat):gt (aw n 0) j=0:=by
 unfold gt;rw[ax,cH];split<;>rfl
def uJ(hL:∀r∈L,Zd p n r)(ho:Zd p n o):∀r∈VO p L o,Zd p n r:=λr hr=>by
 obtain⟨k,_,h⟩:=eA.mp hr;obtain⟨q,hq,rfl⟩:=aR.mp h;exact Zq (hL q hq) ho
def wB(hW:pZ p n W)(hr:Zd p n r)(ho:Zd p n o)(h1:Yp p W r=al)(h2:Yp p W o=al):Yp p W (Zu p r o k)=al:=by
 rw[ZN hW<|Zq hr ho];rw[ZW hr ho];exact YA (ph p k) ((ZN hW hr).mp h1)<|(ZN hW ho).mp h2
theorem wY(hW:pZ p n W):∀{P L:List Row},(∀r∈P,r∈W)->(∀r∈L,Zd p n r/\Yp p W r=al)->∀r∈P.foldl (VO p) L,Zd p n r/\Yp p W r=al
 |[],_,_,h=>h
 |o::P,L,hP,h=>by
  have ho:=hP o<|ak ..;refine wY hW (P:=P) (λr hr=>hP r<|am _ hr) λr hr=>?_
  obtain⟨k,_,h3⟩:=eA.mp hr;obtain⟨q,hq,rfl⟩:=aR.mp h3;exact#[Zq (h q hq).1<|hW.row o ho,wB hW (h q hq).1 (hW.row o ho) (h q hq).2<|ww hW ho]
theorem wf:∀{P L:List Row}{a r:Row},(∀o∈P,Zd p n o)->a∈L->Zd p n a->Zd p n r->hdI (Zl p P<|Zu p r a<|-1)=ag->r∈P.foldl (VO p) L
 |[],L,a,r,_,ha,h1,h2,h=>by
  have e:r=a:=YB h2 h1 (by
   funext j
   have z:=(Ye<|Zq h2 h1).mpr<|Xs h j;rw[ZW h2 h1,Vr,Uq]at z
   grind)
  rw[e];exact ha
 |o::P,L,a,r,hP,ha,h1,h2,h=>by
  have ho:=hP o<|ak ..
  let x:=Zu p r a<|-1
  have hx:Zd p n x:=Zq h2 h1;have hk:=XM ppos hx<|(hdI o).getD 0;have e:clr p x o ((hdI o).getD 0)=Zu p r (Zu p a o<|gt x<|(hdI o).getD 0) (-1):=YB (Zq hx ho) (Zq h2<|Zq h1 ho) (by
   rw[JK hx ho,ZW h2<|Zq h1 ho,ZW h1 ho]
   funext j
   show toV p (Zu p r a<|-1) j-toV p x ((hdI o).getD 0)*toV p o j=toV p r j+ph p (-1)*(toV p a j+toV p x ((hdI o).getD 0)*toV p o j);rw[ZW h2 h1,Vr,Uq]
   grind)
  refine wf (P:=P) (λq hq=>hP q<|am _ hq) (eA.mpr #[(gt x<|(hdI o).getD 0).toNat,aV.mpr #[3],aR.mpr #[a,ha,by rw[mY hk.1]]]) (Zq h1 ho) h2 ?_
  rw[<-e];exact h
theorem yr(hP:pZ p n P):r∈wJ p n P↔Zd p n r/\Yp p P r=al:=by
 constructor
 .exact wY hP (λ_ h=>h) (λq hq=>by rw[a8.mp hq];exact#[ZM,Gw hP ZM YT]) r
 .intro#[h1,h2]
  refine wf hP.row (a8.mpr rfl) ZM h1 ?_;have e:Zu p r (aw n 0) (-1)=r:=YB (Zq h1 ZM) h1 (by
   rw[ZW h1 ZM]
   funext j
   rw[(Ye ZM).mpr<|YT j]
   grind)
  rw[e];exact Option.isNone_iff_eq_none.mp h2
theorem zL:∀{P L:List Row},(∀o∈P,Zd p n o/\gt o ((hdI o).getD 0)=1)->(P.Pairwise λo q=>gt o ((hdI q).getD 0)=0)->(∀r∈L,Zd p n r/\∀o∈P,gt r ((hdI o).getD 0)=0)->L.Nodup->(P.foldl (VO p) L).Nodup
 |[],_,_,_,_,h=>h
 |o::P,L,hP,hz,hL,h=>by
  obtain⟨ho,h1⟩:=hP o<|ak ..;obtain⟨z1,z2⟩:=bj.mp hz;have hp:=(inferInstance:Base p).b;refine zL (P:=P) (λq hq=>hP q<|am _ hq) z2 (λr hr=>#[uJ (λr hr=>(hL r hr).1) ho r hr,λq hq=>?_]) ?_
  .obtain⟨k,_,h3⟩:=eA.mp hr
   obtain⟨s,hs,rfl⟩:=aR.mp h3;rw[V9 (hL s hs).1 ho,(hL s hs).2 q<|am _ hq,z1 q hq];simp
  .have at_:∀(k:Nat) r,k<p->r∈L->gt (Zu p r o (k:Int)) ((hdI o).getD 0)=k:=λk r hk hr=>by
    rw[V9 (hL r hr).1 ho,(hL r hr).2 o<|ak ..,h1,Int.zero_add,Int.mul_one,eU #[3] #[3]]
   refine List.pairwise_flatMap.mpr #[λk hk=>?_,?_]
   .refine c6.mpr (h.imp_of_mem λ{a b} ha hb ne e=>ne<|YB (hL a ha).1 (hL b hb).1 ?_)
    have q:=congrArg (toV p) e;rw[ZW (hL a ha).1 ho,ZW (hL b hb).1 ho]at q
    funext j
    have:=congrFun q j
    grind
   .refine lw.imp_of_mem λ{a b} ha hb ne x hx y hy e=>ne ?_
    obtain⟨r,hr,rfl⟩:=aR.mp hx;obtain⟨q,hq,rfl⟩:=aR.mp hy;have:=at_ a r (aV.mp ha) hr;rw[e,at_ b q (aV.mp hb) hq]at this;omega
def ZbA(hP:pZ p n P):(wJ p n P).Nodup:=by
 have rf:=hP.pn.rf;refine zL (λo ho=>#[hP.row o ho,(Gh<|hP.row o ho).mp<|rf.one _<|Yz ho]) ?_ (λr hr=>?_)<|da.mpr #[by simp,mC]
 .exact(c6.mp rf.inc).imp_of_mem λ{a b} ha hb lt=>(Ye<|hP.row a ha).mp<|rf.zer _ (Yz hb) _ (Yz ha)<|eN lt
 .rw[a8.mp hr]
  exact#[ZM,λo _=>YT _]
end
open Pv (YK)
def j7{F:List Row}{r x:Row}:x∈YK F r↔x∈F\/x=r:=by
 unfold YK;split
 .rename_i h
  have h:=dR.mp h;exact#[.inl,λz=>z.elim id λe=>e▸h]
 .simp
def Zdb{F:List Row}{r:Row}(h:F.Nodup):(YK F r).Nodup:=by
 unfold YK;split
 .exact h
 .rename_i q
  refine eT.mpr #[h,by simp,λa ha b hb e=>q ?_]
  rw[a8.mp hb]at e;exact dR.mpr<|e▸ha
theorem zZ:∀{L F:List Row}{x:Row},x∈L.foldl YK F↔x∈F\/x∈L
 |[],F,x=>by simp
 |r::L,F,x=>by
  rw[dC,zZ,j7,az,or_assoc]
theorem wt:∀{L F:List Row},F.Nodup->(L.foldl YK F).Nodup
 |[],F,h=>h
 |r::L,F,h=>wt (L:=L)<|Zdb h
def ue(p:Nat)(F:List Row)(r:Row):List Row:=F.flatMap λo=>(aP<|p-1).map λ(k:Nat)=>Zu p o r<|(k:Int)+1
def VR(p:Nat)(F:List Row)(r:Row):List Row:=if F.contains r then F else(ue p F r).foldl YK F
def ZD(p n:Nat)(R:List Row):List Row:=R.foldl (VR p) [aw n 0]
section
variable{p n:Nat}[Base p]
structure HasK(p n:Nat)[NeZero p](F P:List Row):Prop where
 part:pZ p n P
 nd:F.Nodup
 mem:∀x,x∈F↔Zd p n x/\Yp p P x=al
theorem GI{P:List Row}{r u:Row}(hP:pZ p n P)(hr:Zd p n r)(hu:Zd p n u):Yp p (Y1 p P r) u=al↔∃k:Nat,k<p/\Yp p P (Zu p u r<|-(k:Int))=al:=by
 obtain⟨h1,h2⟩:=XY hP hr;have g:=Wq (fld) hP.pn<|Yb hr;rw[ZN h1 hu,Mm,h2,g.mem]
 constructor
 .rintro ⟨c,hc⟩
  refine#[c.val,c.isLt,(ZN hP<|Zq hu hr).mpr ?_];rw[ZW hu hr];have e:ph p (-(c.val:Int)) = -c:=by
   rw[Vr]
   congr 1
   exact Wt (by rw[Yx,eU #[3] (by have:=c.isLt;omega)])
  rw[e];have e2:(λj=>toV p u j + -c*toV p r j)=λj=>toV p u j-c*toV p r j:=by funext j;grind
  rw[e2];exact hc
 .rintro ⟨k,_,hk⟩
  refine#[ph p (k:Int),?_];have:=(ZN hP<|Zq hu hr).mp hk;rw[ZW hu hr,Vr]at this;have e2:(λj=>toV p u j-ph p (k:Int)*toV p r j)=λj=>toV p u j + -ph p (k:Int)*toV p r j:=by funext j;grind
  rw[e2];exact this
def qV{P:List Row}{r:Row}(hP:pZ p n P)(hr:Zd p n r)(h:Yp p P r=al):Y1 p P r=P:=by
 obtain⟨h1,h2⟩:=XY hP hr;exact wS h1.row hP.row<|h2.trans<|(Wq (fld) hP.pn<|Yb hr).same<|(ZN hP hr).mp h
def wZ{P:List Row}{r:Row}(hP:pZ p n P)(hr:Zd p n r)(h:Yp p P r=aj):(Y1 p P r).length=P.length+1:=by
 obtain⟨h1,h2⟩:=XY hP hr;have:=(Wq (fld) hP.pn<|Yb hr).len λq=>by rw[(ZN hP hr).mpr q]at h;cases h
 rw[<-h2,Uk,Uk]at this;exact this
theorem Jn{u r:Row}{k:Int}(hu:Zd p n u)(hr:Zd p n r):Zu p (Zu p u r<|-k) r k=u:=by
 refine YB (Zq (Zq hu hr) hr) hu ?_;rw[ZW (Zq hu hr) hr,ZW hu hr,Vr]
 funext j;grind
theorem Jq{u r:Row}(hu:Zd p n u)(hr:Zd p n r):Zu p u r 0=u:=by
 refine YB (Zq hu hr) hu ?_;rw[ZW hu hr,Wo]
 funext j;grind
def HasK.step{F P:List Row}{r:Row}(h:HasK p n F P)(hr:Zd p n r):HasK p n (VR p F r) (Y1 p P r):=by
 obtain⟨h1,h2⟩:=XY h.part hr;unfold VR;by_cases c:F.contains r=al
 .rw[T9 c,qV h.part hr ((h.mem r).mp<|dR.mp c).2]
  exact h
 .rw[T8 c]
  refine#[h1,wt h.nd,λx=>?_]
  rw[zZ]
  constructor
  .rintro (hx|hx)
   .obtain⟨a,b⟩:=(h.mem x).mp hx
    exact#[a,(GI h.part hr a).mpr #[0,by have:=(inferInstance:NeZero p).ne;omega,by rw[show(-((0:Nat):Int))=0 from rfl,Jq a hr];exact b]]
   .obtain⟨o,ho,hx⟩:=eA.mp hx
    obtain⟨k,hk,rfl⟩:=aR.mp hx;have hk:=aV.mp hk;obtain⟨a,b⟩:=(h.mem o).mp ho;refine#[Zq a hr,(GI h.part hr<|Zq a hr).mpr #[k+1,by omega,?_]]
    have e:=Jn (k:=-((k:Int)+1)) a hr;rw[Int.neg_neg]at e;rw[show(-((k+1:Nat):Int)) = -((k:Int)+1) by omega,e]
    exact b
  .rintro ⟨hx,hm⟩
   obtain⟨k,hk,hm⟩:=(GI h.part hr hx).mp hm;have ho:=(h.mem _).mpr #[Zq hx hr,hm];have e:=Jn (k:=(k:Int)) hx hr;cases k with
   |zero=>
    refine .inl ?_;rw[show(-((0:Nat):Int))=0 from rfl,Jq hx hr]at ho
    exact ho
   |succ k=>
    exact .inr (eA.mpr #[_,ho,aR.mpr #[k,aV.mpr #[3],by rw[show((k:Int)+1)=((k+1:Nat):Int) by omega];exact e]])
theorem HasK.nil:HasK p n [aw n 0] []:=by
 refine#[pZ.nil,by simp,λx=>?_]
 rw[a8]
 constructor
 .rintro rfl
  exact#[ZM,Gw pZ.nil ZM YT]
 .rintro ⟨hx,hm⟩
  refine ZaC (by rw[hx.1,ck]) λj=>?_
  rw[YT];unfold Yp Zl at hm;rw[List.foldl_nil]at hm;cases q:hdI x with|none=>exact Xs q j|some k=>rw[q]at hm;cases hm
theorem HasK.all:∀{R F P:List Row},HasK p n F P->(∀r∈R,Zd p n r)->HasK p n (R.foldl (VR p) F) (ZU p P R)
 |[],F,P,h,_=>h
 |r::R,F,P,h,hR=>HasK.all (R:=R) (h.step<|hR r<|ak ..) λx hx=>hR x<|am _ hx
def Xo{R:List Row}(hR:∀r∈R,Zd p n r):HasK p n (ZD p n R) (ZU p [] R):=HasK.nil.all hR
def HasK.len{F P:List Row}(h:HasK p n F P):F.length=p^P.length:=by
 rw[<-qb P];refine Nat.le_antisymm (W8 h.nd λx hx=>?_)<|W8 (ZbA h.part) λx hx=>?_
 .exact(yr h.part).mpr<|(h.mem x).mp hx
 .exact(h.mem x).mpr<|(yr h.part).mp hx
def Zb5{a b:Nat}(h:p^a=p^b):a=b:=by
 have h2:1<p:=by rcases(inferInstance:Base p).b with e|e|e<;>omega
 rcases Nat.lt_trichotomy a b with q|q|q
 .have:=iG h2 q;omega
 .exact q
 .have:=iG h2 q;omega
end
noncomputable def Yi(n j:Nat):Row:=(aP n).map λi=>if i=j then 1 else 0
def units(n:Nat):List Row:=(aP n).map<|Yi n
def Zcd:∀n,n<=6->qN (units n)=al:=by
 intro n h
 match n,h with
 |0,_|1,_|2,_|3,_|4,_|5,_|6,_=>decide +kernel
def Vt(n:Nat):(units n).length=n:=by unfold units;rw[ay,bo]
section
variable{p n:Nat}[Base p]
def ZY:∀r∈units n,Zd p n r:=λr hr=>by
 obtain⟨j,_,rfl⟩:=aR.mp hr;have h2:1<p:=by rcases(inferInstance:Base p).b with e|e|e<;>omega
 unfold Yi;refine#[by rw[ay,bo],λa ha=>?_]
 obtain⟨i,_,rfl⟩:=aR.mp ha;split<;>omega
def WM(hn:n<=6):pZ p n (units n):=(v4 ZY).mp<|Zcd n hn
def Gi(hn:n<=6):(ZD p n<|units n).length=p^n:=by
 have h:=(Xo (p:=p) (n:=n) ZY).len;rw[uf<|WM hn,Vt]at h;exact h
def qG(hn:n<=6){R:List Row}(hR:∀r∈R,Zd p n r):((ZD p n R).length=(ZD p n<|units n).length)↔(ZU p [] R).length=n:=by
 rw[Gi hn,(Xo hR).len];exact#[Zb5,λe=>by rw[e]]
def Zbw(hn:n<=6){R:List Row}(hR:∀r∈R,Zd p n r)(h:(ZU p [] R).length<n):((ZD p n<|units n).filter λr=>!(ZD p n R).contains r)≠[]:=λe=>by
 have hU:=Xo (p:=p) (n:=n) ZY;have hl:=W8 hU.nd λx hx=>by
  have:=List.filter_eq_nil_iff.mp e x hx
  simpa using this
 rw[Gi hn,(Xo hR).len]at hl;have h2:1<p:=by rcases(inferInstance:Base p).b with e|e|e<;>omega
 have:=iG h2 h;omega
end
end Rw
namespace K73
open Ev Pv Rw La
def qu(h:Nat):(aw h [V.int 0]).flatten=(aw h (0:Int)).map V.int:=by
 induction h with|zero=>rfl|succ h ih=>rw[bO,cY,ih,bO];rfl
def UY(r:Row):V.flat (Zb r)=al:=Us r
theorem QM:∀L:List Row,YQ (L.map Zb)=al
 |[]=>rfl
 |r::L=>by
  show(V.flat (Zb r)&&YQ (L.map Zb))=al;rw[UY,QM L];rfl
section
variable{p n:Nat}[Base p]
def ix0{C:Zs}{i:Nat}{Z:Env}{s:DS}(h:Z[i]?=aa (aa<|spV p n)):pv C (.ix (.v i)<|.n 0) Z s=.ok (.int p) s:=by
 rw[WA,Ze h,Za,pE1,show ofD (V.int 0)=aa (V.int 0)from rfl];rfl
def ix1{C:Zs}{i:Nat}{Z:Env}{s:DS}(h:Z[i]?=aa (aa<|spV p n)):pv C (.ix (.v i)<|.n 1) Z s=.ok (.int n) s:=by
 rw[WA,Ze h,Za,pE1,show ofD (V.int 1)=aa (V.int 1)from rfl];rfl
def Ud{C:Zs}{i:Nat}{Z:Env}{s:DS}(hn:n<=6)(h:Z[i]?=aa (aa<|spV p n)):pv C (.bin .mul (.tup [(.n 0)])<|.ix (.v i)<|.n 1) Z s=.ok (Zb<|aw n 0) s:=by
 have g:pv C (.tup [(.n 0)]) Z s=.ok (.tup [.int 0]) s:=by simp[pvE,ofD]
 rw[pE7,g,Za,ix1 h,Za];show(if(0:Int)<=n/\(n:Int)<1000/\1<=1000 then PR.ok (V.tup (aw (n:Int).toNat [V.int 0]).flatten) s else .no)=_
 rw[T9 #[by omega,by omega,by omega],cZ,qu];rfl
def yE{C:Zs}{i j:Nat}{Z:Env}{s:DS}{r:Row}{k:Nat}(h:Z[i]?=aa (aa<|Zb r))(hj:Z[j]?=aa (aa<|ZX k))(hk:k<r.length):pv C (.ix (.v i)<|.v j) Z s=.ok (.int<|gt r k) s:=by
 rw[WA,Ze h,Za,Ze hj,Za];show po (at' (r.map V.int) (k:Int)) s=_;rw[xg hk];rfl
def US(d:Nat){r o:Row}{k:Int}(s:DS)(hn:n<=6)(hr:Zd p n r)(ho:Zd p n o)(hk:-1000<k/\k<1000):CV (d+1) 23 [spV p n,Zb r,.int k,Zb o] s=.ok (Zb<|Zu p r o k) s:=by
 have hp:=Vo (p:=p);refine Zr rfl #[1] rfl ?_
 show rvs (CV d) [] (.ret (.blt .tuple [(.comp1 [1,2,3,0] 1 [0] (.rng1<|.ix (.v 0)<|.n 1) []<|.bin .mod (.bin .add (.ix (.v 1)<|.v 0)<|.bin .mul (.v 2)<|.ix (.v 3)<|.v 0)<|.ix (.v 4)<|.n 0)])::[]) [aa<|spV p n,aa<|Zb r,aa<|.int k,aa<|Zb o] [] s=_;have hc:=Z0 (cap:=[1,2,3,0]) (nl:=1) (t:=[0]) (it:=.rng1<|.ix (.v 0)<|.n 1) (elt:=.bin .mod (.bin .add (.ix (.v 1)<|.v 0)<|.bin .mul (.v 2)<|.ix (.v 3)<|.v 0)<|.ix (.v 4)<|.n 0) (Z:=[aa<|spV p n,aa<|Zb r,aa<|.int k,aa<|Zb o])
  (XG (ix1 rfl)<|by omega) (by rw[bo];unfold lim;omega) (λj hj=>by
   have hj:=aV.mp hj;have h2:=XM #[3] ho j
   refine#[[aa<|ZX j,aa<|Zb r,aa<|.int k,aa<|Zb o,aa<|spV p n],rfl,?_];have e1:=yE (C:=CV d) (i:=1) (j:=0) (Z:=[aa<|ZX j,aa<|Zb r,aa<|.int k,aa<|Zb o,aa<|spV p n]) (s:=s) rfl rfl (by rw[hr.1];exact hj)
   have e2:=yE (C:=CV d) (i:=3) (j:=0) (Z:=[aa<|ZX j,aa<|Zb r,aa<|.int k,aa<|Zb o,aa<|spV p n]) (s:=s) rfl rfl (by rw[ho.1];exact hj)
   have e3:pv (CV d) (.bin .mul (.v 2)<|.ix (.v 3)<|.v 0) [aa<|ZX j,aa<|Zb r,aa<|.int k,aa<|Zb o,aa<|spV p n] s=.ok (.int<|k*gt o j) s:=by
    rw[pE7,Ze rfl,Za,e2,Za];show(if(fits k&&fits (gt o j))=al then PR.ok (V.int<|k*gt o j) s else .no)=_
    rw[T9 (by rw[Yc #[3] #[3],Yc #[3] #[3]];rfl)]
   rw[pE7,pE7,e1,Za,e3,Za];show PR.bind (PR.ok (V.int<|gt r j+k*gt o j) s) _=_;rw[Za,ix0 rfl,Za];show(if(0:Int)<p then PR.ok (V.int<|(gt r j+k*gt o j)%p) s else .no)=_
   rw[T9 #[3]])
 have e:((aP n).map λj=>V.int<|(gt r j+k*gt o j)%p)=(Zu p r o k).map V.int:=by
  have hl:=(Zq (k:=k) hr ho).1;refine cL λi=>?_
  rw[aJ,aJ];by_cases hi:i<n
  .rw[cp hi,af (by rw[hl];exact hi)]
   have g:=V9 (k:=k) hr ho i;unfold gt at g;rw[ax,af<|by rw[hl];exact hi]at g
   simp only[pB,lh]at g ⊢;rw[g];rfl
  .rw[bM (by rw[bo];omega),bM (by rw[hl];omega)];rfl
 refine Zn<|ZE ?_;rw[YI,Zc hc Zg,e];rfl
def ZaW(d:Nat){F:List Row}{r o:Row}{v:V}{a5:Option V}{k:Nat}(s:DS)(hn:n<=6)(hr:Zd p n r)(ho:Zd p n o)(hk:k<1000)(hl:F.length<lim) :
  rvs (CV<|d+1) [2] [.dput (.v 2) (.call 23 [(.v 0),(.v 4),(.v 5),(.v 3)])<|.c<|.bl al] [aa<|spV p n,aa v,aa<|.dow F,aa<|Zb r,aa<|Zb o,aa<|ZX k] [2] s=.ok (.nx [aa<|spV p n,aa v,aa<|.dow<|YK F<|Zu p o r (k:Int),aa<|Zb r,aa<|Zb o,aa<|ZX k] [2]) s:=by
 have e:pv (CV<|d+1) (.call 23 [(.v 0),(.v 4),(.v 5),(.v 3)]) [aa<|spV p n,aa v,aa<|.dow F,aa<|Zb r,aa<|Zb o,aa<|ZX k] s=.ok (Zb<|Zu p o r (k:Int)) s:=
  Zw (Zc #[10]<|Zc #[10]<|Zc #[10]<|Zc #[10] Zg) (US d s hn ho hr #[by omega,by omega])
 rw[Zh (ρ':=[aa<|spV p n,aa v,aa<|.dow<|YK F<|Zu p o r (k:Int),aa<|Zb r,aa<|Zb o,aa<|ZX k]) (by
  rw[rE7,T9<|show([2]:List Nat).contains 2=al from rfl,pE1]
  show PR.bind (po (aa<|V.bl al) s) _=_;rw[Z2,Za,T9 (show isT (.bl al)=al from rfl)]
  show PR.bind (po (aa F) s) _=_;rw[Z2,Za,e,Za];show PR.bind (po (intsV<|(Zu p o r (k:Int)).map V.int) s) _=_;rw[Yr,Z2,Za,T9 hl];rfl),rvs]
def jc(d:Nat){F:List Row}{r o:Row}{v:V}{a5:Option V}(s:DS)(hn:n<=6)(hr:Zd p n r)(ho:Zd p n o)(hl:F.length+10<lim) :
  ∃b5,rvs (CV<|d+1) [2] [.forr [5] (.rng2 (.n 1)<|.ix (.v 0)<|.n 0) [.dput (.v 2) (.call 23 [(.v 0),(.v 4),(.v 5),(.v 3)])<|.c<|.bl al]] [aa<|spV p n,aa v,aa<|.dow F,aa<|Zb r,aa<|Zb o,a5] [2] s
   = .ok (.nx [aa<|spV p n,aa v,aa<|.dow<|((aP<|p-1).map λ(k:Nat)=>Zu p o r<|(k:Int)+1).foldl YK F,aa<|Zb r,aa<|Zb o,b5] [2]) s:=by
 have hp:=Vo (p:=p);obtain⟨b5,_,e5⟩:=Zdy (t:=[5]) (it:=.rng2 (.n 1)<|.ix (.v 0)<|.n 0) (e:=λk=>ZX<|k+1) (step:=λ(F:List Row) (k:Nat)=>YK F<|Zu p o r<|(k:Int)+1) (Z:=λF x=>[aa<|spV p n,aa v,aa<|.dow F,aa<|Zb r,aa<|Zb o,x]) (st:=F) (os:=[2])
  (λl F=>(∀k∈l,k<5)/\F.length+l.length<lim) (by
   show pvw (CV<|d+1) _ [aa<|spV p n,aa v,ag,aa<|Zb r,aa<|Zb o,a5] s=_;rw[wE2,show pv (CV<|d+1) (.n 1) [aa<|spV p n,aa v,ag,aa<|Zb r,aa<|Zb o,a5] s=.ok (.int 1) s by rw[pE1];rfl,Za,ix0 rfl,Za]
   show(if(WC 1&&WC (p:Int))=al then PR.ok (YE 1 ((p:Int)-1).toNat) s else .no)=_
   rw[T9 (by rw[UJ #[3] #[3],UJ #[3] #[3]];rfl),show((p:Int)-1).toNat=p-1 by omega]
   congr 1
   refine bP λk _=>?_
   rw[Int.add_comm];rfl) #[λk hk=>by have:=aV.mp hk;omega,by rw[bo];omega] rfl (λk l F x hI=>by
   obtain⟨h1,h2⟩:=hI;rw[aQ]at h2;have hk:=h1 k<|ak ..;have hl2:(YK F<|Zu p o r<|(k:Int)+1).length<=F.length+1:=by unfold YK;split<;>simp
   refine#[#[λq hq=>h1 q<|am _ hq,by omega],rfl,[aa<|spV p n,aa v,aa<|.dow F,aa<|Zb r,aa<|Zb o,aa<|ZX<|k+1],aa<|ZX<|k+1,rfl,?_]
   have:=ZaW d (a5:=ag) (v:=v) (k:=k+1) s hn hr ho (F:=F) #[3] #[3]
   rw[this];rfl)
 refine#[b5,?_];rw[Zh e5,rvs,List.foldl_map]
def ud(F:List Row)(o r:Row):ue p (o::F) r=((aP<|p-1).map λ(k:Nat)=>Zu p o r<|(k:Int)+1)++ue p F r:=rfl
theorem zy:∀(L F:List Row),(L.foldl YK F).length<=F.length+L.length
 |[],F=>aF _
 |r::L,F=>by
  have h:=zy L<|YK F r;have hl2:(YK F r).length<=F.length+1:=by unfold YK;split<;>simp
  rw[dC,aQ];omega
theorem zd(d:Nat){r:Row}{v:V}(s:DS)(hn:n<=6)(hr:Zd p n r):∀(L F:List Row){a4 a5:Option V},(∀o∈L,Zd p n o)->F.length+5*L.length+10<lim->
  ∃b4 b5,YZ (λx Z os s=>if(([4]:List Nat).any os.contains)=al then .no else(po (Zo [4] x Z) s).bind λZ s=>rvs (CV<|d+1) [2] [.forr [5] (.rng2 (.n 1)<|.ix (.v 0)<|.n 0) [.dput (.v 2) (.call 23 [(.v 0),(.v 4),(.v 5),(.v 3)])<|.c<|.bl al]] Z os s) (L.map Zb) [aa<|spV p n,aa v,aa<|.dow F,aa<|Zb r,a4,a5] [2] s
   = .ok (.nx [aa<|spV p n,aa v,aa<|.dow<|(ue p L r).foldl YK F,aa<|Zb r,b4,b5] [2]) s
 |[],F,a4,a5,_,_=>#[a4,a5,rfl]
 |o::L,F,a4,a5,ho,hl=>by
  have hp:=Vo (p:=p);rw[aQ]at hl;obtain⟨b5,e⟩:=jc d (F:=F) s hn hr (ho o<|ak ..) #[3]
  have h1:=zy ((aP<|p-1).map λ(k:Nat)=>Zu p o r<|(k:Int)+1) F
  rw[ay,bo]at h1;obtain⟨c4,c5,e2⟩:=zd d s hn hr L (((aP<|p-1).map λ(k:Nat)=>Zu p o r<|(k:Int)+1).foldl YK F) (λx hx=>ho x<|am _ hx) #[3]
  refine#[c4,c5,?_];rw[aZ,YZ,T8 #[1],show Zo [4] (Zb o) [aa<|spV p n,aa v,aa<|.dow F,aa<|Zb r,a4,a5]=aa [aa<|spV p n,aa v,aa<|.dow F,aa<|Zb r,aa<|Zb o,a5]from rfl,Z2,Za,e,Za]
  rw[ud,oE];exact e2
def Zfp{C:Zs}{i j:Nat}{Z:Env}{s:DS}{r:Row}{F:List Row}(h:Z[i]?=aa (aa<|Zb r))(hj:Z[j]?=aa (aa<|.dow F)):pv C (.cmp .nin (.v i)<|.v j) Z s=.ok (.bl<|!F.contains r) s:=by
 rw[XR,Ze h,Za,Ze hj,Za];show po (((intsV<|r.map V.int).map λk=>F.contains k).map λb=>V.bl !b) s=_
 rw[Yr];rfl
def WT(d:Nat){R:List Row}{v:V}(s:DS)(hn:n<=6)(h1:1<=n)(hl:p^n<=1000)(hR:∀r∈R,Zd p n r)(hv:YL v=aa (R.map Zb)):CV (d+2) 25 [spV p n,v] s=.ok (.lst<|(Zm<|ZD p n R).map Zb) s:=by
 have hp:=Vo (p:=p);have big:∀{F P:List Row},HasK p n F P->F.length<=1000:=λ{F P} h=>by
  rw[h.len];refine cx (fU #[3] ?_) hl
  exact dsum h.part
 refine Zr rfl #[1] rfl ?_
 show rvs (CV<|d+1) [2] (.dnw 2 (.bin .mul (.tup [(.n 0)])<|.ix (.v 0)<|.n 1) ::
  .forr [3] (.of<|.v 1) [.ite (.cmp .nin (.v 3)<|.v 2) [.forF [4] (.blt .listD [(.v 2)]) [.forr [5] (.rng2 (.n 1)<|.ix (.v 0)<|.n 0) [.dput (.v 2) (.call 23 [(.v 0),(.v 4),(.v 5),(.v 3)])<|.c<|.bl al]]] []] ::
  .ret (.blt .sortedD [(.v 2)])::[]) [aa<|spV p n,aa v,ag,ag,ag,ag] [] s=_
 rw[Zh (ρ':=[aa<|spV p n,aa v,aa<|.dow [aw n 0],ag,ag,ag]) (os':=[2]) (by
  rw[ZgS,Ud hn rfl,Za];show PR.bind (po (intsV<|(aw n (0:Int)).map V.int) s) _=_;rw[Yr,Z2,Za,T9 (by show 2<6;omega)];rfl)]
 obtain⟨ρ',hI,e⟩:=Gp (C:=CV<|d+1) (t:=[3]) (it:=.of<|.v 1) (b:=[.ite (.cmp .nin (.v 3)<|.v 2) [.forF [4] (.blt .listD [(.v 2)]) [.forr [5] (.rng2 (.n 1)<|.ix (.v 0)<|.n 0) [.dput (.v 2) (.call 23 [(.v 0),(.v 4),(.v 5),(.v 3)])<|.c<|.bl al]]] []]) (os:=[2]) (s:=s)
  (λl Z=>(∀r∈l,Zd p n r)/\∃F P a3 a4 a5,Z=[aa<|spV p n,aa v,aa<|.dow F,a3,a4,a5]/\HasK p n F P/\l.foldl (VR p) F=ZD p n R) (by
   rw[wE7,Ze rfl,Za,hv];rfl) #[hR,_,_,ag,ag,ag,rfl,HasK.nil,rfl] rfl (λr l Z hI=>by
   obtain⟨hr,F,P,a3,a4,a5,rfl,hF,hf⟩:=hI;have hr0:=hr r<|ak ..;have hb:=big hF;refine#[by rw[UY];rfl,[aa<|spV p n,aa v,aa<|.dow F,aa<|Zb r,a4,a5],?_]
   have et:=Zfp (C:=CV<|d+1) (i:=3) (j:=2) (Z:=[aa<|spV p n,aa v,aa<|.dow F,aa<|Zb r,a4,a5]) (s:=s) rfl rfl;have hfr:=λo ho=>((hF.mem o).mp ho).1
   by_cases c:F.contains r=al
   .refine#[[aa<|spV p n,aa v,aa<|.dow F,aa<|Zb r,a4,a5],rfl,?_,λx hx=>hr x<|am _ hx,F,P,_,_,_,rfl,hF,?_]
    .rw[Zh (by rw[Qe<|Y5 et rfl,c,T8 #[1],rvs]),rvs]
    .rw[dC]at hf
     unfold VR at hf;rw[T9 c]at hf;exact hf
   .have c:F.contains r=aj:=by simpa using c
    obtain⟨b4,b5,e2⟩:=zd d s hn hr0 F F hfr (by unfold lim;omega)
    refine#[[aa<|spV p n,aa v,aa<|.dow<|(ue p F r).foldl YK F,aa<|Zb r,b4,b5],rfl,?_,λx hx=>hr x<|am _ hx,(ue p F r).foldl YK F,Y1 p P r,_,_,_,rfl,?_,?_]
    .rw[Zh (by
      rw[Qe<|Y5 et rfl,c,T9 #[1],Zh (by
       rw[Zgv];show PR.bind (match pv (CV<|d+1) (.blt .listD [(.v 2)]) [aa<|spV p n,aa v,ag,aa<|Zb r,a4,a5] s with
        |.ok v s=>.ok v s
        |.ex c s=>.ex c s
        |.no=>(pv (CV<|d+1) (.blt .listD [(.v 2)]) [aa<|spV p n,aa v,aa<|.dow F,aa<|Zb r,a4,a5] s).bind λw s=>if(w.flat||true&&vJ w)=al then PR.ok w s else .no) _=_
       have g1:pv (CV<|d+1) (.blt .listD [(.v 2)]) [aa<|spV p n,aa v,ag,aa<|Zb r,a4,a5] s=.no:=by rw[YI,pvs,pE2];rfl
       have g2:pv (CV<|d+1) (.blt .listD [(.v 2)]) [aa<|spV p n,aa v,aa<|.dow F,aa<|Zb r,a4,a5] s=.ok (.lst<|F.map Zb) s:=by rw[YI,Zc #[10] Zg];rfl
       rw[g1,g2];show PR.bind (if(aj||true&&YQ (F.map Zb))=al then PR.ok (V.lst<|F.map Zb) s else .no) _=_
       rw[QM,T9 (show(aj||true&&al)=al from rfl),Za]
       exact e2),rvs]),rvs]
    .have:=hF.step hr0
     unfold VR at this;rw[T8<|by rw[c];decide]at this
     exact this
    .rw[dC]at hf
     unfold VR at hf;rw[T8<|by rw[c];decide]at hf
     exact hf)
 obtain⟨_,F,P,a3,a4,a5,rfl,hF,hf⟩:=hI;rw[Zh e];refine Zn<|ZE ?_;have hf:=hf;subst hf;rw[YI,Zc #[10] Zg,Za];have hb:=big hF;have ho:Z5 (ZD p n R)=al:=by
  unfold Z5;rw[aG,aG];refine#[#[T5 #[3],T5 hF.nd],bp.mpr λr hr=>?_]
  have:=((hF.mem r).mp hr).1.1;cases r with|nil=>simp at this;omega|cons _ _=>rfl
 show po (if Z5 (ZD p n R)=al then aa (V.lst<|(Zm<|ZD p n R).map Zb)else ag) s=_
 rw[T9 ho];rfl
def VI(d:Nat)(s:DS)(hn:n<=6):CV (d+1) 26 [spV p n] s=.ok (.lst<|(units n).map Zb) s:=by
 refine Zr rfl #[1] rfl ?_
 show rvs (CV d) [] (.ret (.comp1 [0] 1 [0] (.rng1<|.ix (.v 0)<|.n 1) []<|.blt .tuple [(.comp1 [0] 1 [0] (.rng1<|.ix (.v 1)<|.n 1) []<|.blt .toInt [(.cmp .eq (.v 0)<|.v 1)])])::[]) [aa<|spV p n] [] s=_;have hc:=Z0 (cap:=[0]) (nl:=1) (t:=[0]) (it:=.rng1<|.ix (.v 0)<|.n 1) (elt:=.blt .tuple [(.comp1 [0] 1 [0] (.rng1<|.ix (.v 1)<|.n 1) []<|.blt .toInt [(.cmp .eq (.v 0)<|.v 1)])]) (Z:=[aa<|spV p n]) (g:=λj=>Zb<|Yi n j)
  (XG (ix1 rfl)<|by omega) (by rw[bo];unfold lim;omega) (λj hj=>by
   refine#[[aa<|ZX j,aa<|spV p n],rfl,?_];have hc:=Z0 (cap:=[0]) (nl:=1) (t:=[0]) (it:=.rng1<|.ix (.v 1)<|.n 1) (elt:=.blt .toInt [(.cmp .eq (.v 0)<|.v 1)]) (Z:=[aa<|ZX j,aa<|spV p n]) (g:=λi=>V.int (if i=j then 1 else 0))
    (XG (ix1 rfl)<|by omega) (by rw[bo];unfold lim;omega) (λi hi=>by
     refine#[[aa<|ZX i,aa<|ZX j],rfl,?_];have e:pv (CV d) (.cmp .eq (.v 0)<|.v 1) [aa<|ZX i,aa<|ZX j] s=.ok (.bl<|ai<|(i:Int)=j) s:=by
      rw[XR,Ze rfl,Za,Ze rfl,Za];rfl
     rw[YI,Zc e Zg,Za];by_cases c:i=j
     .rw[T9 c,T5 #[3]];rfl
     .rw[T8 c,T4 #[3]];rfl)
   rw[YI,Zc hc Zg,Za];unfold Yi Zb;rw[bH];rfl)
 refine Zn<|ZE ?_;rw[hc];unfold units;rw[bH];rfl
end
open Ab (okV Z9)
section
variable{C:Zs}{Z:Env}{s s1 s2:DS}{a b:E}{x y:V}{xs ys:List V}
def Z3{i:Int}:pv C (.c<|.int i) Z s=.ok (.int i) s:=by rw[pE1];rfl
def pick{i:E}{v:Int}(h1:pv C a Z s=.ok (.lst xs) s1)(h2:pv C i Z s1=.ok (.int v) s2)(h0:0<=v)(hv:v<xs.length):∃x,x∈xs/\pv C (.ix a i) Z s=.ok x s2:=by
 obtain⟨k,rfl⟩:∃k:Nat,v=k:=#[v.toNat,by omega]
 have hk:k<xs.length:=by omega
 refine#[xs[k],aY hk,?_];rw[WA,h1,Za,h2,Za];show po (at' xs (k:Int)) s2=_;rw[WF<|af hk];rfl
def qX{i:E}{v:Int}(h1:pv C a Z s=.ok (.tup xs) s1)(h2:pv C i Z s1=.ok (.int v) s2)(h0:0<=v)(hv:v<xs.length):pv C (.ix a i) Z s=.ok (xs.getD v.toNat .non) s2:=by
 obtain⟨k,rfl⟩:∃k:Nat,v=k:=#[v.toNat,by omega]
 have hk:k<xs.length:=by omega
 rw[WA,h1,Za,h2,Za];show po (at' xs (k:Int)) s2=_;rw[WF<|af hk,ax,cZ,af hk];rfl
def Yn(d:Nat)(s:DS){m:Int}{Z:Env}{i:Nat}{e:E}(hd:Z[i]?=aa (aa .drw))(he:pv (CV<|d+1) e Z s=.ok (.int m) s)(h0:0<m)(h1:m<1000):∃v s',pv (CV<|d+1) (.call 2 [(.v i),e]) Z s=.ok (.int v) s'/\0<=v/\v<m:=by
 obtain⟨v,s',e1,b⟩:=wx s h0 #[3]
 exact#[v,s',Zw (Zc (Ze hd)<|Zc he Zg) e1,b]
def Y8(h1:pv C a Z s=.ok (.tup xs) s)(h2:pv C b Z s=.ok (.tup ys) s)(h:xs.length+ys.length<=1000):pv C (.bin .add a b) Z s=.ok (.tup<|xs++ys) s:=by
 rw[pE7,h1,Za,h2,Za];show(if xs.length+ys.length<=lim then _ else _)=_
 rw[T9 (by unfold lim;omega)]
def qR(h1:pv C a Z s=.ok (.tup xs) s){k:Int}(h2:pv C b Z s=.ok (.int k) s):pv C (.sl a ag<|aa b) Z s=.ok (.tup<|YF xs ag<|aa k) s:=by
 rw[ZeZ,h1,Za,pvo,Za,pvo,h2,Za];rfl
def GK(h1:pv C a Z s=.ok (.tup xs) s){k:Int}(h2:pv C b Z s=.ok (.int k) s):pv C (.sl a (aa b) ag) Z s=.ok (.tup<|YF xs (aa k) ag) s:=by
 rw[ZeZ,h1,Za,pvo,h2,Za];rw[Za,pvo,Za];rfl
def Wu{lo hi:Option Int}:(YF xs lo hi).length<=xs.length:=by
 unfold YF;rw[b9,bR];omega
def jr(h:∀x∈xs,okV x=al):Z9 xs=al:=by
 induction xs with
 |nil=>rfl
 |cons x xs ih=>
  show(okV x&&Z9 xs)=al;rw[h x<|ak ..,ih λy hy=>h y<|am _ hy];rfl
def Vs{lo hi:Option Int}(h:Z9 xs=al):Z9 (YF xs lo hi)=al:=
 jr λx hx=>Xx h x<|bZ<|c9 hx
def VJ(h:Z9 xs=al)(h2:Z9 ys=al):Z9 (xs++ys)=al:=
 jr λx hx=>by
  rcases cc.mp hx with z|z
  .exact Xx h x z
  .exact Xx h2 x z
def YW(h:pv C a Z s=.ok x s):pv C (.tup [a]) Z s=.ok (.tup [x]) s:=by
 rw[pE3,Zc h Zg];rfl
def Zcx{B:Type}{ms:List Nat}{i:Nat}{it:W}{b:List Sm}{L:List B}{e:B->V}{q:B->Bool}{v:V}{Z:Option V->Env}(o:Option V)(hw:pvw C it (hide []<|Z o) s=.ok (L.map e) s)(hs:∀o x,(Z o).set i (aa x)=Z (aa x))(hb:∀x∈L,rvs C ms b (Z<|aa<|e x) [] s=if q x=al then .ok (.ret v) s else .ok (.nx (Z<|aa<|e x) []) s) :
  (L.any q=al->rv C ms (.forr [i] it b) (Z o) [] s=.ok (.ret v) s)/\(L.any q=aj->∃o',rv C ms (.forr [i] it b) (Z o) [] s=.ok (.nx (Z o') []) s):=by
 rw[Qx,hw,Za];clear hw
 induction L generalizing o with
 |nil=>exact#[λh=>(by cases h),λ_=>#[o,rfl]]
 |cons x L ih=>
  have ih:=ih (aa<|e x) λy hy=>hb y<|am _ hy
  have h1:=hb x<|ak ..;have step:YZ (λx Z os s=>if(([i]:List Nat).any os.contains)=al then .no else(po (Zo [i] x Z) s).bind λZ s=>rvs C ms b Z os s) ((x::L).map e) (Z o) [] s=if q x=al then .ok (.ret v) s else YZ (λx Z os s=>if(([i]:List Nat).any os.contains)=al then .no else(po (Zo [i] x Z) s).bind λZ s=>rvs C ms b Z os s) (L.map e) (Z<|aa<|e x) [] s:=by
   rw[aZ,YZ,T8 #[2]]
   show((PR.ok ((Z o).set i<|aa<|e x) s).bind λZ s=>rvs C ms b Z [] s).bind _=_
   rw[Za,hs o<|e x,h1];cases q x<;>rfl
  rw[step,fB];cases hq:q x with
  |true=>exact#[λ_=>rfl,λh=>(by cases h)]
  |false=>
   rw[T8 #[2],kQ]
   exact ih
theorem Uc{Q:V->Prop}:∀{es:List E},(∀e∈es,∃v,pv C e Z s=.ok v s/\Q v)->∃vs,pvs C es Z s=.ok vs s/\vs.length=es.length/\∀v∈vs,Q v
 |[],_=>#[[],Zg,rfl,λ_ h=>by cases h]
 |e::es,h=>by
  obtain⟨v,e1,q1⟩:=h e<|ak ..;obtain⟨vs,e2,l2,q2⟩:=Uc λe he=>h e<|am _ he
  refine#[v::vs,Zc e1 e2,by rw[aQ,aQ,l2],λu hu=>?_]
  rcases az.mp hu with rfl|hu
  .exact q1
  .exact q2 u hu
end
section
variable{C:Zs}{Z:Env}{s:DS}{a b:E}
def jb{c:Bool}(h1:pv C a Z s=.ok (.bl aj) s)(h2:pv C b Z s=.ok (.bl c) s):pv C (.or a b) Z s=.ok (.bl c) s:=by rw[Zf7,h1];exact h2
def ZeU{c c':Bool}(h1:pv C a Z s=.ok (.bl c) s)(h2:pv C b Z s=.ok (.bl c') s):pv C (.and a b) Z s=.ok (.bl<|c&&c') s:=by
 rw[Zb8,h1];cases c
 .rfl
 .exact h2
def Vx{c:Bool}(h1:pv C a Z s=.ok (.bl c) s):pv C (.not a) Z s=.ok (.bl !c) s:=by rw[pE9,h1];rfl
def JS{P Q:List Row}(h1:pv C a Z s=.ok (Zt P) s)(h2:pv C b Z s=.ok (Zt Q) s):pv C (.cmp .ne a b) Z s=.ok (.bl !decide (P=Q)) s:=by
 rw[XR,h1,Za,h2,Za];show po ((eqV ZA (Zt P)<|Zt Q).map λb=>V.bl !b) s=_
 rw[ZA,yh];rfl
def Zcn{P Q:List Row}(h1:pv C a Z s=.ok (Zt P) s)(h2:pv C b Z s=.ok (Zt Q) s):pv C (.cmp .eq a b) Z s=.ok (.bl<|ai<|P=Q) s:=by
 rw[XR,h1,Za,h2,Za];show po ((eqV ZA (Zt P)<|Zt Q).map V.bl) s=_;rw[ZA,yh];rfl
def Zbz{P Q:List Row}(h1:pv C a Z s=.ok (Zt P) s)(h2:pv C b Z s=.ok (Zt Q) s)(h:P=Q):pv C (.cmp .ne a b) Z s=.ok (.bl aj) s:=by
 rw[JS h1 h2,T5 h];rfl
def Ya{f:Nat}{x y:E}{v w r:V}(h1:pv C x Z s=.ok v s)(h2:pv C y Z s=.ok w s)(h:C f [v,w] s=.ok r s):pv C (.call f [x,y]) Z s=.ok r s:=Zw (Zc h1<|Zc h2 Zg) h
def Jk{f:Nat}{x y z:E}{v w u r:V}(h1:pv C x Z s=.ok v s)(h2:pv C y Z s=.ok w s)(h3:pv C z Z s=.ok u s)(h:C f [v,w,u] s=.ok r s):pv C (.call f [x,y,z]) Z s=.ok r s:=Zw (Zc h1<|Zc h2<|Zc h3 Zg) h
def guard{ms:List Nat}{t:E}{x l:List Sm}(h:pv C t Z s=.ok (.bl aj) s):rvs C ms (.ite t x []::l) Z [] s=rvs C ms l Z [] s:=by
 rw[Zh<|(Qe<|Y5 h rfl).trans (by rw[T8 #[2],rvs])]
def Zar{P:List Row}(h1:pv C a Z s=.ok (Zt P) s):pv C (.blt .len [a]) Z s=.ok (.int P.length) s:=by
 rw[YI,Zc h1 Zg,Za];show po (aa<|V.int (P.map Zb).length) s=_;rw[ay];rfl
def yk{x y:Int}(h1:pv C a Z s=.ok (.int x) s)(h2:pv C b Z s=.ok (.int y) s):pv C (.bin .add a b) Z s=.ok (.int<|x+y) s:=by
 rw[pE7,h1,Za,h2,Za];rfl
def ne_int{x y:Int}(h1:pv C a Z s=.ok (.int x) s)(h2:pv C b Z s=.ok (.int y) s)(h:x=y):pv C (.cmp .ne a b) Z s=.ok (.bl aj) s:=by
 rw[XR,h1,Za,h2,Za];show PR.ok (V.bl !decide (x=y)) s=_;rw[T5 h];rfl
def v8{x y:List V}(h1:pv C a Z s=.ok (.lst x) s)(h2:pv C b Z s=.ok (.lst y) s)(h:x.length+y.length<=lim):pv C (.bin .add a b) Z s=.ok (.lst<|x++y) s:=by
 rw[pE7,h1,Za,h2,Za];show(if x.length+y.length<=lim then _ else _)=_
 rw[T9 h]
end
def J2{C:Zs}{ms os:List Nat}{Z:Env}{s:DS}{B:Type}{t:List Nat}{it:W}{b:List Sm}{L:List B}{e:B->V}(I:List B->Env->Prop){s0:DS}(hw:pvw C it (hide os Z) s=.ok (L.map e) s0)(hI:I L Z)(ht:(t.any os.contains)=aj)
  (h:∀x l Z s,I (x::l) Z->∃ρ1 ρ' s',Zo t (e x) Z=aa ρ1/\rvs C ms b ρ1 os s=.ok (.nx ρ' os) s'/\I l ρ') :
  ∃ρ' s',I [] ρ'/\rv C ms (.forr t it b) Z os s=.ok (.nx ρ' os) s':=by
 rw[Qx,hw,Za];clear hw
 induction L generalizing Z s0 with
 |nil=>exact#[Z,s0,hI,rfl]
 |cons x L ih=>
  obtain⟨ρ1,ρ',s',b1,b2,b3⟩:=h x L Z s0 hI;obtain⟨ρ2,s2,c1,c2⟩:=ih b3;refine#[ρ2,s2,c1,?_];rw[aZ,YZ,T8 (by rw[ht];simp),b1,Z2,Za,b2,Za]
  exact c2
section
variable{p n:Nat}[Base p]
def uL(d:Nat){x:V}{lo hi:Int}(s:DS)(hx:okV x=al):CV (d+1) 28 [x,.int lo,.int hi] s=.ok (.bl<|isW x lo hi) s:=by
 refine Zr rfl #[1] rfl ?_
 rcases u8 hx with⟨i,rfl⟩|⟨b,rfl⟩|⟨ha,no⟩
 .by_cases h:lo<=i
  .simp[Yf,pvE,isW,Z7,YH,h]
  .simp[Yf,pvE,isW,Z7,YH,h]
 .simp[Yf,pvE,isW,Z7,YH]
 .rw[Zae no]
  simp[Yf,pvE,ha]
def Zca{C:Zs}{Z:Env}{s:DS}{i:Nat}{x:V}(h:Z[i]?=aa (aa x))(hx:okV x=al):pv C (.not<|.isi (.v i) [.tuple]) Z s=.ok (.bl (!match x with|.tup _=>al|_=>aj)) s:=by
 have g:pv C (.isi (.v i) [.tuple]) Z s=.ok (.bl (match x with|.tup _=>al|_=>aj)) s:=by
  rw[ZgN,Ze h,Za];rcases xu hx with⟨xs,rfl⟩|⟨ha,no⟩
  .rfl
  .rw[ha]
   cases x<;>first|rfl|exact T7 rfl<|no _
 exact Vx g
def UR{C:Zs}{Z:Env}{s:DS}{i:Nat}{x:V}{e:E}{ms:List Nat}{l:List Sm}(h:Z[i]?=aa (aa x))(hx:okV x=al)(he:pv C e Z s=.ok (.int n) s):(∃xs,x=.tup xs/\xs.length=n/\rvs C ms (.ite (.or (.not<|.isi (.v i) [.tuple])<|.cmp .ne (.blt .len [(.v i)]) e) #[12] []::l) Z [] s=rvs C ms l Z [] s)\/
  ((∀xs,x=.tup xs->xs.length≠n)/\rvs C ms (.ite (.or (.not<|.isi (.v i) [.tuple])<|.cmp .ne (.blt .len [(.v i)]) e) #[12] []::l) Z [] s=.ok (.ret<|.bl aj) s):=by
 have g:=Zca (C:=C) (s:=s) h hx;have fin:pv C (.or (.not<|.isi (.v i) [.tuple])<|.cmp .ne (.blt .len [(.v i)]) e) Z s=.ok (.bl al) s->rvs C ms (.ite (.or (.not<|.isi (.v i) [.tuple])<|.cmp .ne (.blt .len [(.v i)]) e) #[12] []::l) Z [] s=.ok (.ret<|.bl aj) s:=λq=>by
  refine Zn ?_;rw[Qe<|Y5 q rfl,T9 rfl];exact Zn<|ZE (by rw[pE1];rfl)
 rcases xu hx with⟨xs,rfl⟩|⟨_,no⟩
 .have e1:pv C (.cmp .ne (.blt .len [(.v i)]) e) Z s=.ok (.bl !decide ((xs.length:Int)=n)) s:=by
   have:pv C (.blt .len [(.v i)]) Z s=.ok (.int xs.length) s:=by rw[YI,Zc (Ze h) Zg];rfl
   rw[XR,this,Za,he,Za];rfl
  by_cases c:xs.length=n
  .refine .inl #[xs,rfl,c,guard<|jb g ?_]
   rw[e1,T5 #[3]];rfl
  .refine .inr #[λys z=>by cases z;exact c,fin<|jb g ?_]
   rw[e1,T4 #[3]];rfl
 .refine .inr #[λxs z=>T7 z<|no xs,fin ?_]
  rw[Zf7,g];cases x<;>first|rfl|exact T7 rfl<|no _
def xB(d:Nat){x:V}(s:DS)(hn:n<=6)(hx:okV x=al):CV (d+2) 29 [spV p n,x] s=.ok (.bl<|ZL p n x) s:=by
 refine Zr rfl #[1] rfl ?_
 show rvs (CV<|d+1) [] (.ite (.or (.not<|.isi (.v 1) [.tuple])<|.cmp .ne (.blt .len [(.v 1)])<|.ix (.v 0)<|.n 1) #[12] [] ::
  .ret (.blt .all [(.comp1 [0] 1 [0] (.of<|.v 1) []<|.call 28 [(.v 0),(.n 0),(.bin .sub (.ix (.v 1)<|.n 0)<|.n 1)])])::[]) [aa<|spV p n,aa x] [] s=_
 rcases UR (i:=1) (Z:=[aa<|spV p n,aa x]) (e:=.ix (.v 0)<|.n 1) rfl hx (ix1 rfl)with⟨xs,rfl,hl,e⟩|⟨no,e⟩
 .rw[e]
  refine Zn<|ZE ?_;have hc:=Z0 (C:=CV<|d+1) (cap:=[0]) (nl:=1) (t:=[0]) (it:=.of<|.v 1) (elt:=.call 28 [(.v 0),(.n 0),(.bin .sub (.ix (.v 1)<|.n 0)<|.n 1)]) (Z:=[aa<|spV p n,aa<|.tup xs]) (s:=s) (e:=id)
   (by rw[wE7,Ze rfl,Za,gR];rfl) (by unfold lim;omega) (λv hv=>#[[aa v,aa<|spV p n],rfl,by
    have e2:pv (CV<|d+1) (.bin .sub (.ix (.v 1)<|.n 0)<|.n 1) [aa v,aa<|spV p n] s=.ok (.int<|(p:Int)-1) s:=by
     rw[pE7,ix0 rfl,Za,Z3,Za];rfl
    exact Zw (Zc #[10]<|Zc Z3<|Zc e2 Zg)<|uL d s<|Xx hx v hv])
  rw[YI,Zc hc Zg,Za];show po ((Yg<|xs.map λv=>V.bl<|isW v 0<|(p:Int)-1).map λbs=>V.bl<|bs.all id) s=_
  rw[Xq];show PR.ok (V.bl<|(xs.map λv=>isW v 0<|(p:Int)-1).all id) s=_
  unfold ZL;simp[hl]
 .rw[e]
  have:ZL p n x=aj:=by
   cases x with|tup xs=>show(ai (xs.length=n)&&_)=aj;rw[T4<|no xs rfl];rfl|_=>rfl
  rw[this]
theorem Wf:∀{xs:List V},xs.all (ZL p n)=al->∃R:List Row,xs=R.map Zb/\∀r∈R,Zd p n r
 |[],_=>#[[],rfl,λ_ h=>by cases h]
 |x::xs,h=>by
  rw[kR,aG]at h;obtain⟨R,rfl,hR⟩:=Wf h.2;obtain⟨r,rfl,hr⟩:=xx h.1;refine#[r::R,rfl,λy hy=>?_]
  rcases az.mp hy with rfl|hy
  .exact hr
  .exact hR y hy
def qK{R:List Row}(hR:∀r∈R,Zd p n r):(R.map Zb).all (ZL p n)=al:=bp.mpr λv hv=>by
 obtain⟨r,hr,rfl⟩:=aR.mp hv;exact Zhd<|hR r hr
def ZH(p n:Nat)(x:V):Bool:=match x with
 |.tup xs=>ai (xs.length=n)&&(xs.all (ZL p n)&&ai ((ZU p []<|(Y2 xs).getD []).length=n))
 |_=>aj
def JQ{x:V}(h:∀xs,x=.tup xs->xs.length≠n):ZH p n x=aj:=by
 cases x with|tup xs=>show(ai (xs.length=n)&&_)=aj;rw[T4<|h xs rfl];rfl|_=>rfl
def YX{R:List Row}(hl:R.length=n)(hR:∀r∈R,Zd p n r):ZH p n (.tup<|R.map Zb)=ai ((ZU p [] R).length=n):=by
 show(ai ((R.map Zb).length=n)&&((R.map Zb).all (ZL p n)&&ai ((ZU p []<|(Y2<|R.map Zb).getD []).length=n)))=_;rw[ay,T5 hl,qK hR,Vy];rfl
def Zap(d:Nat){x:V}(s:DS)(hn:n<=6)(hx:okV x=al):CV (d+6) 14 [spV p n,x] s=.ok (.bl<|ZH p n x) s:=by
 refine Zr rfl #[1] rfl ?_
 show rvs (CV<|d+5) [] (.asg [2,3] (.v 0) :: .ite (.or (.not<|.isi (.v 1) [.tuple])<|.cmp .ne (.blt .len [(.v 1)])<|.v 3) #[12] [] ::
  .ret (.and (.blt .all [(.comp1 [0] 1 [0] (.of<|.v 1) []<|.call 5 [(.v 1),(.v 0)])])<|.cmp .eq (.blt .len [(.call 13 [(.v 0),(.tup []),(.v 1)])])<|.v 3)::[]) [aa<|spV p n,aa x,ag,ag] [] s=_
 rw[Zh<|YY (p:=p) (n:=n) _ _ (by simp[pvE]) #[2]]
 show rvs (CV<|d+5) [] _ [aa<|spV p n,aa x,aa<|.int p,aa<|.int n] [] s=_;rcases UR (i:=1) (Z:=[aa<|spV p n,aa x,aa<|.int p,aa<|.int n]) (e:=.v 3) rfl hx (Ze rfl)with⟨xs,rfl,hl,e⟩|⟨no,e⟩
 .rw[e]
  refine Zn<|ZE ?_;have hc:=Z0 (cap:=[0]) (nl:=1) (t:=[0]) (it:=.of<|.v 1) (elt:=.call 5 [(.v 1),(.v 0)]) (Z:=[aa<|spV p n,aa<|.tup xs,aa<|.int p,aa<|.int n]) (e:=id)
   (by rw[wE7,Ze rfl,Za,gR];rfl) (by unfold lim;omega) (λv hv=>#[[aa v,aa<|spV p n],rfl,Zw (Zc #[10]<|Zc #[10] Zg)<|ZcU (d+3) s hn<|Xx hx v hv])
  have ha:pv (CV<|d+5) (.blt .all [(.comp1 [0] 1 [0] (.of<|.v 1) []<|.call 5 [(.v 1),(.v 0)])]) [aa<|spV p n,aa<|.tup xs,aa<|.int p,aa<|.int n] s=.ok (.bl<|xs.all<|ZL p n) s:=by
   rw[YI,Zc hc Zg,Za];show po ((Yg<|xs.map λv=>V.bl<|ZL p n v).map λbs=>V.bl<|bs.all id) s=_
   rw[Xq];show PR.ok (V.bl<|(xs.map<|ZL p n).all id) s=_;rw[List.all_map];rfl
  cases q:xs.all (ZL p n)with
  |false=>
   rw[q]at ha;rw[Zb8,ha];show PR.ok (V.bl aj) s=_;have:ZH p n (.tup xs)=aj:=by
    show(ai (xs.length=n)&&(xs.all (ZL p n)&&_))=aj;rw[q,my,mE]
   rw[this]
  |true=>
   rw[q]at ha;obtain⟨R,rfl,hR⟩:=Wf q;rw[ay]at hl;have hw:=Qr d (v:=.tup<|R.map Zb) s hn pZ.nil hR rfl;have e2:pv (CV<|d+5) (.call 13 [(.v 0),(.tup []),(.v 1)]) [aa<|spV p n,aa<|.tup<|R.map Zb,aa<|.int p,aa<|.int n] s=.ok (Zt<|ZU p [] R) s:=
    Zw (Zc #[10]<|Zc (by rw[pE3,pvs];rfl)<|Zc #[10] Zg) hw
   rw[YX hl hR,Zb8,ha];show pv (CV<|d+5) (.cmp .eq (.blt .len [(.call 13 [(.v 0),(.tup []),(.v 1)])])<|.v 3) _ s=_;rw[XR,Zar e2,Za,Ze rfl,Za];show PR.ok (V.bl<|ai<|((ZU p [] R).length:Int)=n) s=_
   congr 2
   exact decide_eq_decide.mpr #[λz=>by omega,λz=>by omega]
 .rw[e,JQ no]
def UV(L:List Row):(Zm L).length=L.length:=by
 have ins:∀(x:Row)(l:List Row),(Yw x l).length=l.length+1:=λx l=>by
  induction l with|nil=>rfl|cons y l ih=>unfold Yw;split<;>simp[ih]
 induction L with|nil=>rfl|cons x L ih=>show(Yw x<|Zm L).length=_;rw[ins,ih];rfl
def VY(d:Nat){x:V}(s:DS)(hn:n<=6)(h1:1<=n)(hp:p^n<=1000)(hx:okV x=al):CV (d+3) 30 [spV p n,x] s=.ok (.bl<|ZH p n x) s:=by
 refine Zr rfl #[1] rfl ?_
 let l2:List Sm:=[.ret<|.cmp .eq (.blt .len [(.call 25 #[20])])<|.blt .len [(.call 25 [(.v 0),(.call 26 [(.v 0)])])]]
 let l1:List Sm:=.forr [2] (.of<|.v 1) [.ite (.not<|.call 29 [(.v 0),(.v 2)]) #[12] []]::l2
 show rvs (CV<|d+2) [] (.ite (.or (.not<|.isi (.v 1) [.tuple])<|.cmp .ne (.blt .len [(.v 1)])<|.ix (.v 0)<|.n 1) #[12] []::l1) [aa<|spV p n,aa x,ag] [] s=_;rcases UR (i:=1) (Z:=[aa<|spV p n,aa x,ag]) (e:=.ix (.v 0)<|.n 1) rfl hx (ix1 rfl)with⟨xs,rfl,hl,e⟩|⟨no,e⟩
 .rw[e]
  obtain⟨g1,g2⟩:=Zcx (C:=CV<|d+2) (ms:=[]) (i:=2) (it:=.of<|.v 1) (b:=[.ite (.not<|.call 29 [(.v 0),(.v 2)]) #[12] []]) (v:=.bl aj) (Z:=λo=>[aa<|spV p n,aa<|.tup xs,o]) (s:=s) ag
   (by
    rw[wE7,Ze rfl,Za,gR];rfl) (λ_ _=>rfl) (λv hv=>by
    have e3:pv (CV<|d+2) (.not<|.call 29 [(.v 0),(.v 2)]) [aa<|spV p n,aa<|.tup xs,aa v] s=.ok (.bl !ZL p n v) s:=Vx<|Ya #[10] #[10]<|xB d s hn<|Xx hx v hv;show rvs _ _ _ [aa<|spV p n,aa<|.tup xs,aa v] [] s=if(!ZL p n v)=al then _ else PR.ok (.nx [aa<|spV p n,aa<|.tup xs,aa v] []) s
    cases q:(!ZL p n v)with
    |true=>
     rw[q]at e3;rw[T9 rfl];refine Zn ?_;rw[Qe<|Y5 e3 rfl,T9 rfl];exact Zn<|ZE (by rw[pE1];rfl)
    |false=>rw[q]at e3;rw[T8 #[1],guard e3,rvs])
  cases q:xs.all (ZL p n)with
  |false=>
   have:(xs.any λv=>!ZL p n v)=al:=by
    rw[lH];simp[q]
   rw[show l1=.forr [2] (.of<|.v 1) [.ite (.not<|.call 29 [(.v 0),(.v 2)]) #[12] []]::l2 from rfl,Zn<|g1 this]
   have:ZH p n (.tup xs)=aj:=by
    show(ai (xs.length=n)&&(xs.all (ZL p n)&&_))=aj;rw[q,my,mE]
   rw[this]
  |true=>
   have:(xs.any λv=>!ZL p n v)=aj:=by
    rw[lH];simp[q]
   obtain⟨o',g2⟩:=g2 this;obtain⟨R,rfl,hR⟩:=Wf q;rw[ay]at hl;rw[show l1=.forr [2] (.of<|.v 1) [.ite (.not<|.call 29 [(.v 0),(.v 2)]) #[12] []]::l2 from rfl,Zh g2]
   refine Zn<|ZE ?_;have u1:pv (CV<|d+2) (.call 25 #[20]) [aa<|spV p n,aa<|.tup<|R.map Zb,o'] s=.ok (.lst<|(Zm<|ZD p n R).map Zb) s:=Ya #[10] #[10]<|WT d s hn h1 hp hR rfl;have u2:pv (CV<|d+2) (.call 26 [(.v 0)]) [aa<|spV p n,aa<|.tup<|R.map Zb,o'] s=.ok (.lst<|(units n).map Zb) s:=Zw (Zc #[10] Zg)<|VI (d+1) s hn;have u3:pv (CV<|d+2) (.call 25 [(.v 0),(.call 26 [(.v 0)])]) [aa<|spV p n,aa<|.tup<|R.map Zb,o'] s=.ok (.lst<|(Zm<|ZD p n<|units n).map Zb) s:=Ya #[10] u2<|WT d s hn h1 hp ZY rfl
   have len:∀{e:E}{L:List Row},pv (CV<|d+2) e [aa<|spV p n,aa<|.tup<|R.map Zb,o'] s=.ok (.lst<|(Zm L).map Zb) s->pv (CV<|d+2) (.blt .len [e]) [aa<|spV p n,aa<|.tup<|R.map Zb,o'] s=.ok (.int L.length) s:=λ{e L} h=>by
    rw[YI,Zc h Zg];show PR.ok (V.int ((Zm L).map Zb).length) s=_;rw[ay,UV]
   have e4:pv (CV<|d+2) (.cmp .eq (.blt .len [(.call 25 #[20])])<|.blt .len [(.call 25 [(.v 0),(.call 26 [(.v 0)])])]) [aa<|spV p n,aa<|.tup<|R.map Zb,o'] s=.ok (.bl<|ai<|((ZD p n R).length:Int)=((ZD p n<|units n).length:Nat)) s:=by
    rw[XR,len u1,Za,len u3,Za];rfl
   rw[YX hl hR,e4,decide_eq_decide.mpr<|Iff.trans #[λz=>Int.ofNat_inj.mp z,λz=>by rw[z]]<|qG hn hR]
 .rw[e,JQ no]
end
end K73
namespace Rw
open La
def ZaR(r:Row):Nat:=(hdI r).getD r.length
end Rw
namespace K73
open Ev Pv Rw La
open Ab (okV Z9)
end K73
namespace Ab
open Ev Pv
end Ab
namespace Lv
open Ev Pv
noncomputable def Uy:Fn:=#[2,2,[.ite (.cmp .lt (.v 1)<|.blt .len [(.v 0)]) [.ret<|.ix (.v 0)<|.v 1] [],.ret<|.n 0]]
noncomputable def Uh(c:Nat):Fn:=#[2,3,[.asg [2]<|.call c #[20],.ite (.cmp .ge (.v 2)<|.bin .pow (.n 10)<|.n 18) [.ret<|.lst [(.bin .sub (.v 2)<|.bin .pow (.n 10)<|.n 18),(.c<|.bl al)]] [],.ret<|.lst [(.bin .mod (.v 2)<|.n 2147483647),(.c<|.bl aj)]]]
noncomputable def yM(nn:Nat)(M:Int)(st:Nat)(B:List Sm)(r:E):Fn:=#[1,nn,[.forr [1] (.rng1<|.blt .max2 [(.n 1),(.blt .min2 [(.blt .len [(.v 0)]),(.c<|.int M)])]) [.cel 2 st #[20] B],.ret r]]
def Zb1(ht:ca≠tk)(hC:F[ca]?=aa Uy){s:DS}{ns:List Int}{k:Int}(d:Nat)(k0:0<=k):∃c,Zk F tk (d+1) ca [.scr ns,.int k] s=.ok (.int c) s:=by
 by_cases c:k<ns.length
 .have hk:k.toNat<ns.length:=by lia
  refine#[ns[k.toNat],?_];simp[Zk,ht,hC,Uy,rvs,rE9,GD,pvs,pE1,pE2,XR,WA,YI,Yv,PR.bind,po,ZO,Y4,int2,Xp,Qv,YL,Zz,ixV,at',ixN,k0,c,hk,ofD]
 .refine#[0,?_]
  simp[Zk,ht,hC,Uy,rvs,rE9,GD,pvs,pE1,pE2,XR,WA,YI,Yv,PR.bind,po,ZO,Y4,int2,Xp,Qv,YL,Zz,ixV,at',ixN,k0,c,ofD]
def jy(ht:ca≠tk)(hts:st≠tk)(hC:F[ca]?=aa Uy)(hS:F[st]?=aa (Uh ca)){s:DS}{ns:List Int}{k:Int}(d:Nat)(k0:0<=k):∃v d0,Zk F tk (d+2) st [.scr ns,.int k] s=.ok v s/\UL v=aa d0/\okS d0.1 d0.2=al:=by
 obtain⟨c,e⟩:=Zb1 ht hC (s:=s) (ns:=ns) d k0;rw[show d+2=(d+1)+1 from rfl,Zk,T8 hts,hS]
 generalize Zk F tk (d+1)=C at e ⊢;by_cases h:10^18<=c
 .have h':(1000000000000000000:Int)<=c:=by simpa using h
  have o:okS (c-1000000000000000000) al=al:=by simp[okS];lia
  refine#[.lst [.int<|c-1000000000000000000,.bl al],(c-1000000000000000000,al),?_,by simp[UL,o],o]
  simp[Uh,rvs,rE1,rE9,GD,pvA,pvs,pE1,pE2,pE4,pE7,XR,Za0,Yv,PR.bind,po,ZO,Y4,int2,Zz,ofD,Vg,Pv.V0,e,h',zu,Jh,ZaI,ZaG,Zbr,lim]
 .have h':¬(1000000000000000000:Int)<=c:=by simpa using h
  have o:okS (c%2147483647) aj=al:=by simp[okS];lia
  refine#[.lst [.int<|c%2147483647,.bl aj],(c%2147483647,aj),?_,by simp[UL,o],o]
  simp[Uh,rvs,rE1,rE9,GD,pvA,pvs,pE1,pE2,pE4,pE7,XR,Za0,Yv,PR.bind,po,ZO,Y4,int2,Zz,ofD,Vg,Pv.V0,e,h',zu,Jh,ZaI,ZaG,Zbr,lim]
theorem zx(P:Env->Prop):∀(xs:List V),(∀x∈xs,∀Z s,P Z->∃ρ' s',P ρ'/\body x Z [] s=.ok (.nx ρ' []) s')->∀Z s,P Z->∃ρ' s',P ρ'/\YZ body xs Z [] s=.ok (.nx ρ' []) s'
 |[],_,Z,s,h=>#[Z,s,h,rfl]
 |x::xs,hb,Z,s,h=>by
  obtain⟨ρ1,s1,h1,e1⟩:=hb x (ak ..) Z s h;obtain⟨ρ2,s2,h2,e2⟩:=zx P xs (λy hy=>hb y<|am _ hy) ρ1 s1 h1
  refine#[ρ2,s2,h2,?_];rw[YZ,e1];exact e2
def hide_nil :hide [] Z=Z:=by
 unfold hide;apply cL
 intro i;rw[iz];cases Z[i]?<;>rfl
def Zaj(h0:Z[0]?=aa (aa<|.scr ns))(h1:Z[1]?=aa (aa<|.int k))(hl:Z.length=nn+3):(WU 2 Z).set 2 (aa .drw)=aa (.scr ns)::aa (.int k)::aa .drw::aw nn ag:=by
 match Z,h0,h1,hl with
 |a::b::l,h0,h1,hl=>
  cases h0;cases h1;have:l.length=nn+1:=by simpa using hl
  unfold WU;simp[JC,V.flat,this,bO]
def law_ofR{r:E}(d:Nat)(ht:ca≠tk)(hts:st≠tk)(htl:L≠tk)(hC:F[ca]?=aa Uy)(hS:F[st]?=aa (Uh ca))(hL:F[L]?=aa (yM (nn+3) M st B r))(hM:M<2^62)(hr:∀Z s,pv (Zk F tk<|d+2) r Z s=.ok (.bl al) s)
  (hv:∀(o:Option V)(k:Nat)(s:DS),∃Z os s',rvs (Zk F tk<|d+2) (muts B) B (o::aa (.int k)::aa .drw::aw nn ag) [] s=.ok (.nx Z os) s'/\Z[0]?=aa o/\Z.length=nn+3)(ns:List Int)(s:DS) :
  ∃S,Zk F tk (d+3) L [.scr ns] s=.ok (.bl al) S:=by
 rw[show d+3=(d+2)+1 from rfl,Zk,T8 htl,hL]
 have hst:=λk (k0:0<=k) s=>jy ht hts hC hS (s:=s) (ns:=ns) (k:=k) d k0
 generalize Zk F tk (d+2)=C at hv hst hr ⊢;have hR:=hr;clear hr;have hr:∃m,pvw C (.rng1<|.blt .max2 [(.n 1),(.blt .min2 [(.blt .len [(.v 0)]),(.c<|.int M)])]) (ZO (nn+3) [.scr ns]) s=.ok (YE 0 m) s:=by
  have e:pv C (.blt .max2 [(.n 1),(.blt .min2 [(.blt .len [(.v 0)]),(.c<|.int M)])]) (ZO (nn+3) [.scr ns]) s=.ok (.int<|if(if M<(ns.length:Int)then M else(ns.length:Int))>1 then(if M<(ns.length:Int)then M else(ns.length:Int))else 1) s:=by
   simp[pE1,pE2,YI,pvs,PR.bind,po,ZO,ofD,Xp,Qv,blt2,u4,YL]
  rw[wE1,e];refine#[_,(T9 ?_ :)];unfold WC;refine T5 ?_;split<;>split<;>lia
 obtain⟨m,hr⟩:=hr;have hm:muts (yM (nn+3) M st B r).body=muts B:=(cw _).trans<|cw _;simp only[hm];show ∃S,(if 1=1 then _ else _)=_
 rw[T9 rfl];unfold yM;simp only;rw[rvs,Qx,hide_nil,hr]
 let body:V->Env->List Nat->DS->PR FlV:=λx Z os s=>if([1].any os.contains)=al then .no else(po (Zo [1] x Z) s).bind λZ s=>rvs C (muts B) [.cel 2 st #[20] B] Z os s
 have hb:∀x∈YE 0 m,∀Z s,(Z[0]?=aa (aa<|.scr ns)/\Z.length=nn+3)->∃ρ' s',(ρ'[0]?=aa (aa<|.scr ns)/\ρ'.length=nn+3)/\body x Z [] s=.ok (.nx ρ' []) s':=by
  intro x hx Z s #[h0,hl];unfold YE at hx;obtain⟨k,_,rfl⟩:=aR.mp hx;rw[Int.zero_add];obtain⟨v,d0,e1,e2,e3⟩:=hst (k:Int) #[0] s
  obtain⟨ρ2,os2,s2,e4,h2,l2⟩:=hv (aa<|.scr ns) k d0;have q0:(Z.set 1<|aa<|.int (k:Int))[0]?=aa (aa<|.scr ns):=by rw[a9 #[1]];exact h0
  have q1:(Z.set 1<|aa<|.int (k:Int))[1]?=aa (aa<|.int (k:Int)):=bc #[0]
  have ql:(Z.set 1<|aa<|V.int (k:Int)).length=nn+3:=by rw[bx];exact hl
  have a:pvs C #[20] (Z.set 1<|aa<|.int (k:Int)) s=.ok [.scr ns,.int (k:Int)] s:=by
   simp only[pvs,pE2,q0,q1,PR.bind,po,Option.join];rfl
  refine#[ρ2.map JC,s,#[by rw[aJ,h2];rfl,by rw[ay];exact l2],?_]
  show(rvs C (muts B) [.cel 2 st #[20] B] (Z.set 1<|aa<|.int (k:Int)) [] s)=_;rw[rvs,Zhf,T9 #[7],a]
  show PR.bind (PR.bind (C st [.scr ns,.int (k:Int)] s) _) _=_;rw[e1];show PR.bind (PR.bind (po (UL v) s) _) _=_;rw[e2];simp only[po,PR.bind,Zaj q0 q1 ql,e4,rvs]
 obtain⟨Z,s',h,e⟩:=zx (body:=body) (λZ=>Z[0]?=aa (aa<|.scr ns)/\Z.length=nn+3) (YE 0 m) hb (ZO (nn+3) [.scr ns]) s #[rfl,by simp[ZO]]
 refine#[s',?_];show PR.bind (PR.bind (YZ body (YE 0 m) _ _ s) _) _=_;rw[e];show PR.bind (rvs C (muts B) [.ret r] Z [] s') _=_;rw[rvs,rE9,hR];rfl
end Lv
namespace K73
open Ev Pv Rw La
open Ab (okV Z9)
noncomputable def Jw:List (Nat×Nat):=[(2,1),(2,2),(2,3),(2,4),(3,1),(3,2),(3,3),(5,1),(5,2),(2,3),(2,4),(3,3)]
noncomputable def ZdY:List (Nat×Nat):=[(2,5),(2,6),(3,4),(5,3)]
def Xg:List (Nat×Nat):=Jw++ZdY
def J1:∀q∈Xg,(q.1=2\/q.1=3\/q.1=5)/\1<=q.2/\q.2<=6/\q.1^q.2<=1000:=by decide
def uY(d:Nat){m:Int}(s:DS):∃q s',CV (d+2) 3 [.drw,.int m] s=.ok (spV q.1 q.2) s'/\q∈Xg:=by
 let L:=if m>27 then Xg else Jw
 have hL:12<=L.length/\L.length<=16/\∀q∈L,q∈Xg:=by
  by_cases c:m>27
  .simp only[L,T9 c];exact#[by decide,by decide,λq hq=>hq]
  .simp only[L,T8 c];exact#[by decide,by decide,λq hq=>c8 _ hq]
 obtain⟨v,s',f1,f2,f3⟩:=wx (m:=L.length) s #[3] #[3]
 obtain⟨k,rfl⟩:∃k:Nat,v=k:=#[v.toNat,by omega]
 have hk:k<L.length:=by omega
 refine#[L[k],s',Zr rfl #[1] rfl ?_,hL.2.2 _<|aY hk]
 show rvs (CV<|d+1) [] XH.body [aa .drw,aa<|.int m,ag] [] s=_
 dsimp only[XH]
 rw[Zh (ρ':=[aa .drw,aa<|.int m,aa<|.lst<|Jw.map λq=>spV q.1 q.2]) (os':=[]) (s':=s) (by simp[pvE,Jw,spV])]
 have e0:pv (CV<|d+1) (.cmp .gt (.v 1)<|.n 27) [aa .drw,aa<|.int m,aa<|.lst<|Jw.map λq=>spV q.1 q.2] s=.ok (.bl<|ai<|27<m) s:=by
  rw[XR,Ze rfl,Za,Z3,Za];rfl
 rw[Zh (ρ':=[aa .drw,aa<|.int m,aa<|.lst<|L.map λq=>spV q.1 q.2]) (by
  rw[Qe<|Y5 e0 rfl];by_cases c:m>27
  .simp only[L,T9 c]
   rw[T5 c,T9 rfl];rw[Zh (ρ':=[aa .drw,aa<|.int m,aa<|.lst<|Xg.map λq=>spV q.1 q.2]) (os':=[]) (s':=s) (by simp[pvE,Xg,Jw,ZdY,spV]),rvs]
  .simp only[L,T8 c]
   rw[T4 c,T8 #[1],rvs])]
 refine Zn<|ZE ?_;have e1:pv (CV<|d+1) (.blt .len [(.v 2)]) [aa .drw,aa<|.int m,aa<|.lst<|L.map λq=>spV q.1 q.2] s=.ok (.int L.length) s:=by
  rw[YI,Zc #[10] Zg,Za];show po (aa<|V.int (L.map λq=>spV q.1 q.2).length) s=_
  rw[ay];rfl
 rw[WA,Ze rfl,Za,Zw (Zc #[10]<|Zc e1 Zg) f1,Za];show po (at' (L.map λq=>spV q.1 q.2) (k:Int)) s'=_
 rw[WF (by rw[aJ,af hk];rfl)];rfl
section
variable{p n:Nat}[Base p]
theorem Vw:∀L:List Row,(Zm L).Perm L
 |[]=>cK _
 |x::L=>by
  have ins:∀(x:Row)(l:List Row),(Yw x l).Perm (x::l):=λx l=>by
   induction l with
   |nil=>exact cK _
   |cons y l ih=>
    unfold Yw;split
    .exact cK _
    .exact(ih.cons y).trans<|ku ..
  exact(ins x<|Zm L).trans<|(Vw L).cons x
end
section
variable{C:Zs}{Z:Env}{s s':DS}{a b e:E}{x y:V}{xs ys:List V}
def Gq{Q:V->Prop}{es:List E}(hl:es.length<=1000)(h:∀e∈es,∃v,pv C e Z s=.ok v s/\Q v):∃vs,pv C (.lst es) Z s=.ok (.lst vs) s/\vs.length=es.length/\∀v∈vs,Q v:=by
 obtain⟨vs,e,l,q⟩:=Uc h;refine#[vs,?_,l,q];rw[pE4,e,Za,T9 (by unfold lim;omega)]
def XA{k:Int}(h:pv C a Z s=.ok (.int k) s):pv C (.bin .add a<|.n 1) Z s=.ok (.int<|k+1) s:=yk h Z3
def GQ{lo hi:E}{j k:Int}(ha:pv C a Z s=.ok (.tup xs) s)(hlo:pv C lo Z s=.ok (.int j) s)(hhi:pv C hi Z s=.ok (.int k) s)(hb:pv C b Z s=.ok x s)(hl:xs.length<=400)(ho:Z9 xs=al)(hx:okV x=al):∃ys,pv C (.bin .add (.bin .add (.sl a ag<|aa lo)<|.tup [b])<|.sl a (aa hi) ag) Z s=.ok (.tup ys) s/\Z9 ys=al/\ys.length<=1000:=by
 have l1:=Wu (xs:=xs) (lo:=ag) (hi:=aa j);have l2:=Wu (xs:=xs) (lo:=aa k) (hi:=ag);refine#[(YF xs ag (aa j)++[x])++YF xs (aa k) ag,Y8 (Y8 (qR ha hlo) (YW hb)<|by simp;omega) (GK ha hhi) (by simp;omega),VJ (VJ (Vs ho) ?_)<|Vs ho,by simp;omega]
 show(okV x&&al)=al;rw[hx];rfl
def wM{lo hi:E}{j k:Int}(ha:pv C a Z s=.ok (.tup xs) s)(hlo:pv C lo Z s=.ok (.int j) s)(hhi:pv C hi Z s=.ok (.int k) s)(hl:xs.length<=400)(ho:Z9 xs=al):∃ys,pv C (.bin .add (.sl a ag<|aa lo)<|.sl a (aa hi) ag) Z s=.ok (.tup ys) s/\Z9 ys=al/\ys.length<=1000:=by
 have l1:=Wu (xs:=xs) (lo:=ag) (hi:=aa j);have l2:=Wu (xs:=xs) (lo:=aa k) (hi:=ag);exact#[_,Y8 (qR ha hlo) (GK ha hhi) #[3],VJ (Vs ho)<|Vs ho,by simp;omega]
def Zdo(h:pv C a Z s=.ok (.tup xs) s):pv C (.bin .add (.blt .len [a])<|.n 1) Z s=.ok (.int<|(xs.length:Int)+1) s:=XA (by rw[YI,Zc h Zg];rfl)
def vh(h:pv C a Z s=.ok (.tup xs) s):pv C (.rev a) Z s=.ok (.tup xs.reverse) s:=by rw[Zhj,h];rfl
def qS(h:Z9 xs=al):Z9 xs.reverse=al:=jr λx hx=>Xx h x<|ez.mp hx
def zU(h:pv C a Z s=.ok (.tup xs) s):pv C (.blt .list [a]) Z s=.ok (.lst xs) s:=by rw[YI,Zc h Zg];rfl
def ZaU:pv C (.c .non) Z s=.ok .non s:=by rw[pE1];rfl
def wC(h1:okV x=al)(h2:∀xs,x≠.tup xs):Ab.Th 1000 x:=#[h1,λxs e=>T7 e<|h2 xs]
def jP(h:Z9 xs=al)(hl:xs.length<=1000):Ab.Th 1000 (.tup xs):=#[h,λys e=>by cases e;exact hl]
def VL(h:okV x=al):Z9 [x]=al:=by show(okV x&&al)=al;rw[h];rfl
end
def GO(d:Nat){q:Nat×Nat}{r:Row}(s:DS)(hq:q∈Xg)(hr:Zd q.1 q.2 r):∃v s',CV (d+2) 22 [.drw,spV q.1 q.2,Zb r] s=.ok v s'/\Ab.Th 1000 v:=by
 obtain⟨hb,_,hn,_⟩:=J1 _ hq;obtain⟨p,n⟩:=q
 haveI:Base p:=⟨hb⟩
 have hp:=Vo (p:=p);have hn:=hn;have hl:=hr.1
 let Z (a3 a4 a5:Option V):Env:=[aa .drw,aa<|spV p n,aa<|Zb r,a3,a4,a5]
 have op:=JY r;have lp:(r.map V.int).length<=6:=by rw[ay];omega
 have ep:∀a b c s,pv (CV<|d+1) (.v 2) (Z a b c) s=.ok (.tup<|r.map .int) s:=λ_ _ _ s=>Ze rfl
 obtain⟨j,s1,t1,t2,t3⟩:=Yn d s (i:=0) rfl (Zdo<|ep ..) #[3] #[3]
 obtain⟨ods,m1,m2,m3⟩:=Gq (C:=CV<|d+1) (Z:=Z (aa<|.int j) ag ag) (s:=s1) (Q:=λv=>okV v=al) (es:=[(.ix (.v 1)<|.n 0),(.neg<|.n 1),(.c<|.bl al),(.c<|.bl aj),(.c .non),(.c<|.str<|ky "0"),(.tup [(.n 0)]),(.bin .pow (.n 10)<|.n 29),(.n 0),(.n 1),(.bin .sub (.ix (.v 1)<|.n 0)<|.n 1)]) #[1] (λe he=>by
  simp only[az,bu,or_false]at he;rcases he with rfl|rfl|rfl|rfl|rfl|rfl|rfl|rfl|rfl|rfl|rfl
  .exact#[_,ix0 rfl,rfl]
  .exact#[.int<|-1,by rw[pE8,Z3];rfl,rfl]
  .exact#[.bl al,by rw[pE1];rfl,rfl]
  .exact#[.bl aj,by rw[pE1];rfl,rfl]
  .exact#[_,ZaU,rfl]
  .exact#[.str<|ky "0",by rw[pE1];rfl,rfl]
  .exact#[_,YW Z3,rfl]
  .exact#[.int<|10^29,by simp[pvE,ofD,Vg,V0],rfl]
  .exact#[_,Z3,rfl]
  .exact#[_,Z3,rfl]
  .exact#[.int<|(p:Int)-1,by rw[pE7,ix0 rfl,Za,Z3,Za];rfl,rfl])
 obtain⟨v2,s2,w1,w2,w3⟩:=Yn d s1 (m:=11) (i:=0) (Z:=Z (aa<|.int j) ag ag) rfl Z3 #[1] #[1]
 obtain⟨od,hod,e6⟩:=pick m1 w1 w2 (by rw[m2];exact w3)
 have ho:=m3 od hod;have e3:∀a s,pv (CV<|d+1) (.v 3) (Z (aa<|.int j) (aa od) a) s=.ok (.int j) s:=λ_ s=>Ze rfl
 have e4:∀a s,pv (CV<|d+1) (.v 4) (Z (aa<|.int j) (aa od) a) s=.ok od s:=λ_ s=>Ze rfl
 obtain⟨ra,a1,a2,a3⟩:=Gq (Z:=Z (aa<|.int j) (aa od) ag) (s:=s2) (es:=[(.bin .add (.bin .add #[17]<|.tup [(.v 4)])<|.sl (.v 2) #[21] ag),(.bin .add (.bin .add #[17]<|.tup [(.v 4)])<|.sl (.v 2) (aa<|.v 3) ag),(.bin .add #[17]<|.sl (.v 2) #[21] ag),(.blt .list [(.v 2)])]) #[1] (λe he=>by
  simp only[az,bu,or_false]at he;rcases he with rfl|rfl|rfl|rfl
  .obtain⟨ys,g,h,l⟩:=GQ (ep ..) (e3 ..) (XA<|e3 ..) (e4 ..) #[3] op ho
   exact#[_,g,jP h l]
  .obtain⟨ys,g,h,l⟩:=GQ (ep ..) (e3 ..) (e3 ..) (e4 ..) #[3] op ho
   exact#[_,g,jP h l]
  .obtain⟨ys,g,h,l⟩:=wM (ep ..) (e3 ..) (XA<|e3 ..) #[3] op
   exact#[_,g,jP h l]
  .exact#[_,zU<|ep ..,wC op λxs z=>by cases z])
 let ρ5:Env:=Z (aa<|.int j) (aa od)<|aa<|.lst ra
 obtain⟨rb,b1,b2,b3⟩:=Gq (Z:=ρ5) (s:=s2) (es:=[(.rev<|.v 2),(.c .non),.dnew,(.lst [(.v 4)]),(.tup [(.v 2)])]) #[1] (λe he=>by
  simp only[az,bu,or_false]at he;rcases he with rfl|rfl|rfl|rfl|rfl
  .exact#[_,vh<|ep ..,jP (qS op) (by rw[gy];omega)]
  .exact#[_,ZaU,wC rfl λxs z=>by cases z]
  .exact#[.dct<|.inl [],by rw[pE5],wC rfl λxs z=>by cases z]
  .exact#[.lst [od],by rw[pE4,Zc (e4 ..) Zg];rfl,wC (VL ho) λxs z=>by cases z]
  .exact#[_,YW<|ep ..,jP (VL op) (by show 1<=1000;decide)])
 have b8:=v8 (a:=.v 5) #[10] b1 (by rw[a2,b2];decide)
 obtain⟨v5,s5,c1,c2,c3⟩:=Yn d s2 (m:=12) (i:=0) (Z:=ρ5) rfl Z3 #[1] #[1]
 obtain⟨ix,hix,c4⟩:=pick (a:=.lst [(.n 0),(.n 0),(.n 0),(.n 0),(.n 1),(.n 2),(.n 3),(.n 4),(.n 5),(.n 6),(.n 7),(.n 8)]) (xs:=[.int 0,.int 0,.int 0,.int 0,.int 1,.int 2,.int 3,.int 4,.int 5,.int 6,.int 7,.int 8]) (s:=s2) (by simp[pvE,ofD]) c1 c2 c3
 obtain⟨k,rfl,hk0,hk⟩:∃k:Int,ix=.int k/\0<=k/\k<9:=by
  simp at hix;rcases hix with rfl|rfl|rfl|rfl|rfl|rfl|rfl|rfl|rfl<;>exact#[_,rfl,by decide,by decide]
 obtain⟨one,hone,c5⟩:=pick b8 c4 hk0 (by rw[aU,a2,b2];exact hk)
 refine#[one,s5,Zr rfl #[1] rfl ?_,(cc.mp hone).elim (a3 one)<|b3 one]
 show rvs (CV<|d+1) [] YN.body (Z ag ag ag) [] s=_
 dsimp only[YN]
 rw[Zh<|ZV t1 rfl];show rvs _ _ _ (Z (aa<|.int j) ag ag) _ _=_;rw[Zh<|ZV e6 rfl];show rvs _ _ _ (Z (aa<|.int j) (aa od) ag) _ _=_;rw[Zh<|ZV a1 rfl];exact Zn<|ZE c5
end K73
namespace Rw
open La
section
variable{p n:Nat}[Base p]
def xx{u:Vec (Fin p)}(hs:Supp n u):∃r,Zd p n r/\toV p r=u:=by
 refine#[(aP n).map λj=>((u j).val:Int),#[by simp,λa ha=>?_],funext λj=>?_]
 .obtain⟨j,_,rfl⟩:=aR.mp ha
  have:=(u j).isLt;omega
 .unfold toV gt
  by_cases h:j<n
  .have:=(u j).isLt
   rw[ax,aJ,cp h];exact Wt (by rw[Yx];exact eU #[2] (by simp[this]))
  .rw[ax,bM (by simpa using h),hs j #[3]]
   exact Wo
theorem Jr{P:Pt (Fin p)}:∀vs,WS P vs λ_=>0
 |[]=>Yk
 |v::vs=>#[0,by rw[show(λj=>0-0*v j)=λ_=>0 by funext j;grind];exact Jr vs]
theorem vz{P:Pt (Fin p)}{v:Vec (Fin p)}:∀{vs},v∈vs->WS P vs v
 |w::vs,h=>by
  rcases az.mp h with rfl|h
  .exact#[1,by rw[show(λj=>v j-1*v j)=λ_=>0 by funext j;grind];exact Jr vs]
  .exact#[0,by rw[show(λj=>v j-0*w j)=v by funext j;grind];exact vz h]
theorem Qu{R:Pt (Fin p)}:∀{vs u},(∀v∈vs,Mem R v)->WS [] vs u->Mem R u
 |[],u,_,h=>by rw[show u=λ_=>0 from funext<|ZcQ.mp h];exact Yk
 |v::vs,u,hv,#[c,h]=>by
  have:=YA c (Qu (λw hw=>hv w<|am _ hw) h)<|hv v<|ak ..
  rw[show(λj=>u j-c*v j+c*v j)=u by funext j;grind]at this
  exact this
end
end Rw
namespace K73
open Ev Pv Rw La
open Ab (okV Z9)
section
variable{C:Zs}{ms os:List Nat}{Z:Env}{s s':DS}{a b:E}
def ZcJ{x y:Int}(h1:pv C a Z s=.ok (.int x) s)(h2:pv C b Z s=.ok (.int y) s):pv C (.cmp .eq a b) Z s=.ok (.bl<|ai<|x=y) s:=by
 rw[XR,h1,Za,h2,Za];rfl
def Zci{e:E}{w:Bool}{c:Nat}(h:pv C e Z s=.ex c s')(hc:1<=c/\c<=10):pv C (.refu w e) Z s=.ok (jq w<|c-1) s':=by
 rw[Zfa,h];show(if 1<=c/\c<=10 then _ else _)=_
 rw[T9 hc]
def GG{f c:Nat}{as:List E}{vs:List V}{i:Int}(h:pvs C as Z s=.ok vs s)(hc:C f vs s=.ex c s)(h1:1<=c/\c<=10)(hi:((c-1:Nat):Int)=i):pv C (.cmp .ne (.refu aj<|.call f as)<|.c<|.int i) Z s=.ok (.bl aj) s:=
 ne_int (Zci (X5 h hc) h1) Z3 hi
def xQ{o i:Nat}{e:E}{v:V}(h:pv C e (hide (o::os) Z) s=.ok v s')(hm:(ms.contains i&&fresh e)=aj):rv C ms (.asg [i] e) Z (o::os) s=.ok (.nx (Z.set i<|aa v) ((o::os).filter (· != i))) s':=by
 have h1:pvA C e Z (o::os) s=.ok v s':=by unfold pvA;dsimp only;rw[h]
 rw[rE1,h1,Za,T8 (by rw[hm];simp)]
theorem wP:∀t:List Nat,(t.any ([]:List Nat).contains)=aj
 |[]=>rfl
 |i::t=>by rw[fB,wP t];rfl
def Zdi{B:Type}{t:List Nat}{it:W}{b:List Sm}{L:List B}{e:B->V}(Q:V->Prop)(I:Env->Prop){s0:DS}(hw:pvw C it (hide [] Z) s=.ok (L.map e) s0)(hI:I Z)
  (h:∀x Z s,I Z->∃ρ1,Zo t (e x) Z=aa ρ1/\((∃v s',rvs C ms b ρ1 [] s=.ok (.ret v) s'/\Q v)\/∃ρ' s',rvs C ms b ρ1 [] s=.ok (.nx ρ' []) s'/\I ρ')) :
  (∃v s',rv C ms (.forr t it b) Z [] s=.ok (.ret v) s'/\Q v)\/∃ρ' s',rv C ms (.forr t it b) Z [] s=.ok (.nx ρ' []) s'/\I ρ':=by
 rw[Qx,hw,Za];clear hw;have hn:=wP t
 induction L generalizing Z s0 with
 |nil=>exact .inr #[Z,s0,rfl,hI]
 |cons x L ih=>
  obtain⟨ρ1,b1,b2⟩:=h x Z s0 hI;rw[aZ,YZ,T8 (by rw[hn];simp),b1,Z2,Za]
  rcases b2 with⟨v,s',b2,b3⟩|⟨ρ',s',b2,b3⟩
  .exact .inl #[v,s',by rw[b2];rfl,b3]
  .rw[b2,Za]
   exact ih b3
end
theorem zA:∀L:List Row,WH (L.map λr=>V.tup [Zb r,.bl al])=aa L
 |[]=>rfl
 |r::L=>by
  show((intsV<|r.map V.int).bind λa=>(WH<|L.map λr=>V.tup [Zb r,.bl al]).map (a :: ·))=_
  rw[Yr,zA L];rfl
section
variable{p n:Nat}[Base p]
def uS(d:Nat){R every:List Row}{a5 a6 a7:Option V}(s:DS)(hn:n<=6)(h1:1<=n)(hp:p^n<=1000)(hR:∀r∈R,Zd p n r)(hl:R.length<n)(hw:(ZU p [] R).length=R.length)(he:every.Perm (ZD p n R)) :
  ∃r b6 b7 s',Zd p n r/\(ZU p []<|R++[r]).length=R.length+1/\rvs (CV<|d+2) [] [.asg [6]<|.blt .dictP [(.comp1 [] 1 [0] (.of<|.v 3) []<|.tup [(.v 0),(.c<|.bl al)])],
   .asg [7] (.comp1 [6] 1 [0] (.of<|.v 4) [(.cmp .nin (.v 0)<|.v 1)]<|.v 0),
   .asg [2] (.bin .add (.v 2)<|.tup [(.ix (.v 7)<|.call 2 [(.v 0),(.blt .len [(.v 7)])])]),
   .asg [3] (.call 25 [(.v 1),(.v 2)])] [aa .drw,aa<|spV p n,aa<|.tup<|R.map Zb,aa<|.lst<|every.map Zb,aa<|.lst<|(Zm<|ZD p n<|units n).map Zb,a5,a6,a7] [] s
   = .ok (.nx [aa .drw,aa<|spV p n,aa<|.tup<|(R++[r]).map Zb,aa<|.lst<|(Zm<|ZD p n<|R++[r]).map Zb,aa<|.lst<|(Zm<|ZD p n<|units n).map Zb,a5,b6,b7] []) s':=by
 have hpp:=Vo (p:=p);have hK:=Xo hR;have hU:=Xo (p:=p) (n:=n) ZY;have le:every.length<=1000:=by
  rw[he.length_eq,hK.len];exact cx (fU #[3]<|by omega) hp
 have lu:(ZD p n<|units n).length<=1000:=by rw[Gi hn];exact hp
 have hc:=Z0 (C:=CV<|d+2) (cap:=[]) (nl:=1) (t:=[0]) (it:=.of<|.v 3) (elt:=.tup [(.v 0),(.c<|.bl al)]) (Z:=[aa .drw,aa<|spV p n,aa<|.tup<|R.map Zb,aa<|.lst<|every.map Zb,aa<|.lst<|(Zm<|ZD p n<|units n).map Zb,a5,a6,a7]) (s:=s)
  (by rw[wE7,Ze rfl];rfl) (by unfold lim;omega) (λr _=>#[[aa<|Zb r],rfl,by
   have g:pv (CV<|d+2) (.c<|.bl al) [aa<|Zb r] s=.ok (.bl al) s:=by rw[pE1];rfl
   rw[pE3,Zc #[10]<|Zc g Zg,Za,T9 (by show 2<=lim;unfold lim;omega)]])
 have hd:pv (CV<|d+2) (.blt .dictP [(.comp1 [] 1 [0] (.of<|.v 3) []<|.tup [(.v 0),(.c<|.bl al)])]) [aa .drw,aa<|spV p n,aa<|.tup<|R.map Zb,aa<|.lst<|every.map Zb,aa<|.lst<|(Zm<|ZD p n<|units n).map Zb,a5,a6,a7] s=.ok (.dct<|.inr every) s:=by
  rw[YI,Zc hc Zg,Za];show po ((WH<|every.map λr=>V.tup [Zb r,.bl al]).bind λks=>if UI ks=al then aa (V.dct<|.inr ks)else ag) s=_
  rw[zA];show po (if UI every=al then aa (V.dct<|.inr every)else ag) s=_
  rw[T9 (by
   unfold UI;rw[aG];exact#[T5 (by unfold lim;omega),T5<|he.nodup_iff.mpr hK.nd])];rfl
 rw[Zh<|ZV hd rfl];show ∃r b6 b7 s',_/\_/\rvs _ _ _ [aa .drw,aa<|spV p n,aa<|.tup<|R.map Zb,aa<|.lst<|every.map Zb,aa<|.lst<|(Zm<|ZD p n<|units n).map Zb,a5,aa<|.dct<|.inr every,a7] [] s=_
 let S:=(Zm<|ZD p n<|units n).filter λr=>!every.contains r
 have hc2:=VM (C:=CV<|d+2) (cap:=[6]) (nl:=1) (t:=[0]) (it:=.of<|.v 4) (tst:=.cmp .nin (.v 0)<|.v 1) (elt:=.v 0) (Z:=[aa .drw,aa<|spV p n,aa<|.tup<|R.map Zb,aa<|.lst<|every.map Zb,aa<|.lst<|(Zm<|ZD p n<|units n).map Zb,a5,aa<|.dct<|.inr every,a7]) (s:=s)
  (by rw[wE7,Ze rfl];rfl) (by rw[UV];unfold lim;omega) (λr _=>#[[aa<|Zb r,aa<|.dct<|.inr every],.bl<|!every.contains r,rfl,by
   rw[XR,Ze rfl,Za,Ze rfl,Za];show po (((intsV<|r.map V.int).map λk=>every.contains k).map λb=>V.bl !b) s=_
   rw[Yr];rfl,rfl,λ_=>Ze rfl])
 rw[Zh<|ZV hc2 rfl];show ∃r b6 b7 s',_/\_/\rvs _ _ _ [aa .drw,aa<|spV p n,aa<|.tup<|R.map Zb,aa<|.lst<|every.map Zb,aa<|.lst<|(Zm<|ZD p n<|units n).map Zb,a5,aa<|.dct<|.inr every,aa<|.lst<|S.map Zb] [] s=_;have hS:∀r,r∈S↔r∈ZD p n (units n)/\r∉ZD p n R:=λr=>by
  rw[fv,(Vw _).mem_iff];refine and_congr_right λ_=>?_
  rw[<-he.mem_iff];simp
 have ne:0<S.length:=by
  have h:=Zbw hn hR #[3]
  obtain⟨x,hx⟩:=List.exists_mem_of_ne_nil _ h;rw[fv]at hx;exact lW<|(hS x).mpr #[hx.1,by simpa using hx.2]
 have lS:S.length<=1000:=cx (mr ..) (by rw[UV];exact lu)
 have el:pv (CV<|d+2) (.blt .len [(.v 7)]) [aa .drw,aa<|spV p n,aa<|.tup<|R.map Zb,aa<|.lst<|every.map Zb,aa<|.lst<|(Zm<|ZD p n<|units n).map Zb,a5,aa<|.dct<|.inr every,aa<|.lst<|S.map Zb] s=.ok (.int S.length) s:=by
  rw[YI,Zc #[10] Zg,Za];show po (aa<|V.int (S.map Zb).length) s=_;rw[ay];rfl
 obtain⟨v,s1,f1,f2,f3⟩:=wx (m:=S.length) s #[3] #[3]
 obtain⟨k,rfl⟩:∃k:Nat,v=k:=#[v.toNat,by omega]
 have hk:k<S.length:=by omega
 obtain⟨m1,m2⟩:=(hS _).mp<|aY hk;have hr:=((hU.mem _).mp m1).1;have hm:Yp p (ZU p [] R) S[k]=aj:=by
  cases q:Yp p (ZU p [] R) S[k]with|false=>rfl|true=>exact T7 ((hK.mem _).mpr #[hr,q]) m2
 have hR2:∀r∈R++[S[k]],Zd p n r:=λr h=>by
  rcases cc.mp h with h|h
  .exact hR r h
  .rw[a8.mp h];exact hr
 have ex:pv (CV<|d+2) (.ix (.v 7)<|.call 2 [(.v 0),(.blt .len [(.v 7)])]) [aa .drw,aa<|spV p n,aa<|.tup<|R.map Zb,aa<|.lst<|every.map Zb,aa<|.lst<|(Zm<|ZD p n<|units n).map Zb,a5,aa<|.dct<|.inr every,aa<|.lst<|S.map Zb] s=.ok (Zb S[k]) s1:=by
  rw[WA,Ze rfl,Za,Zw (Zc #[10]<|Zc el Zg) f1,Za];show po (at' (S.map Zb) (k:Int)) s1=_;rw[WF (by rw[aJ,af hk];rfl)];rfl
 have et:pv (CV<|d+2) (.bin .add (.v 2)<|.tup [(.ix (.v 7)<|.call 2 [(.v 0),(.blt .len [(.v 7)])])]) [aa .drw,aa<|spV p n,aa<|.tup<|R.map Zb,aa<|.lst<|every.map Zb,aa<|.lst<|(Zm<|ZD p n<|units n).map Zb,a5,aa<|.dct<|.inr every,aa<|.lst<|S.map Zb] s=.ok (.tup<|(R++[S[k]]).map Zb) s1:=by
  have g:pv (CV<|d+2) (.tup [(.ix (.v 7)<|.call 2 [(.v 0),(.blt .len [(.v 7)])])]) [aa .drw,aa<|spV p n,aa<|.tup<|R.map Zb,aa<|.lst<|every.map Zb,aa<|.lst<|(Zm<|ZD p n<|units n).map Zb,a5,aa<|.dct<|.inr every,aa<|.lst<|S.map Zb] s=.ok (.tup [Zb S[k]]) s1:=by
   rw[pE3,Zc ex Zg,Za,T9 (by show 1<=lim;unfold lim;omega)]
  rw[pE7,Ze rfl,Za,g,Za];show(if(R.map Zb).length+1<=lim then PR.ok (V.tup<|R.map Zb++[Zb S[k]]) s1 else .no)=_
  rw[T9 (by rw[ay];unfold lim;omega),bL];rfl
 refine#[S[k],aa<|.dct<|.inr every,aa<|.lst<|S.map Zb,s1,hr,?_,?_]
 .have:ZU p [] (R++[S[k]])=Y1 p (ZU p [] R) S[k]:=by unfold ZU;rw[oE];rfl
  rw[this,wZ hK.part hr hm,hw]
 .rw[Zh<|ZV et rfl]
  show rvs _ _ _ [aa .drw,aa<|spV p n,aa<|.tup<|(R++[S[k]]).map Zb,aa<|.lst<|every.map Zb,aa<|.lst<|(Zm<|ZD p n<|units n).map Zb,a5,aa<|.dct<|.inr every,aa<|.lst<|S.map Zb] [] s1=_;have e9:pv (CV<|d+2) (.call 25 [(.v 1),(.v 2)]) [aa .drw,aa<|spV p n,aa<|.tup<|(R++[S[k]]).map Zb,aa<|.lst<|every.map Zb,aa<|.lst<|(Zm<|ZD p n<|units n).map Zb,a5,aa<|.dct<|.inr every,aa<|.lst<|S.map Zb] s1=.ok (.lst<|(Zm<|ZD p n<|R++[S[k]]).map Zb) s1:=Ya #[10] #[10]<|WT d s1 hn h1 hp hR2 rfl;rw[Zh<|ZV e9 rfl,rvs];rfl
def Qw(d:Nat)(s:DS)(hn:n<=6)(h1:1<=n)(hp:p^n<=1000):∃R s',CV (d+3) 27 [.drw,spV p n] s=.ok (.tup<|R.map Zb) s'/\R.length=n/\(∀r∈R,Zd p n r)/\(ZU p [] R).length=n:=by
 have e0:pv (CV<|d+2) (.tup []) [aa .drw,aa<|spV p n,ag,ag,ag,ag,ag,ag] s=.ok (.tup []) s:=by rw[pE3,pvs];rfl
 have e1:pv (CV<|d+2) (.lst [(.bin .mul (.tup [(.n 0)])<|.ix (.v 1)<|.n 1)]) [aa .drw,aa<|spV p n,aa<|.tup [],ag,ag,ag,ag,ag] s=.ok (.lst<|[aw n 0].map Zb) s:=by
  rw[pE4,Zc (Ud hn rfl) Zg];rfl
 have e2:pv (CV<|d+2) (.call 25 [(.v 1),(.call 26 [(.v 1)])]) [aa .drw,aa<|spV p n,aa<|.tup [],aa<|.lst<|[aw n 0].map Zb,ag,ag,ag,ag] s=.ok (.lst<|(Zm<|ZD p n<|units n).map Zb) s:=
  Ya #[10] (Zw (Zc #[10] Zg)<|VI (d+1) s hn) (WT d s hn h1 hp ZY rfl)
 obtain⟨ρ',s',hI,e⟩:=J2 (C:=CV<|d+2) (os:=[]) (t:=[5]) (it:=.rng1<|.ix (.v 1)<|.n 1) (Z:=[aa .drw,aa<|spV p n,aa<|.tup [],aa<|.lst<|[aw n 0].map Zb,aa<|.lst<|(Zm<|ZD p n<|units n).map Zb,ag,ag,ag]) (s:=s)
  (λl Z=>∃R every a5 a6 a7,Z=[aa .drw,aa<|spV p n,aa<|.tup<|R.map Zb,aa<|.lst<|every.map Zb,aa<|.lst<|(Zm<|ZD p n<|units n).map Zb,a5,a6,a7]/\R.length+l.length=n/\(∀r∈R,Zd p n r)/\(ZU p [] R).length=R.length/\every.Perm (ZD p n R))
  (by
   exact XG (ix1 rfl)<|by omega) #[[],[aw n 0],ag,ag,ag,rfl,by rw[bo];simp,(λ_ h=>by cases h),rfl,cK _] rfl (λk l Z s hI=>by
   obtain⟨R,every,a5,a6,a7,rfl,hl,hR,hw,he⟩:=hI;rw[aQ]at hl;obtain⟨r,b6,b7,s',hr,hw',e⟩:=uS d s hn h1 hp hR #[3] hw he
   refine#[_,_,s',rfl,e,R++[r],Zm<|ZD p n<|R++[r],_,_,_,rfl,by rw[aU,mh];omega,λx hx=>?_,by rw[hw',aU];rfl,Vw _]
   rcases cc.mp hx with hx|hx
   .exact hR x hx
   .rw[a8.mp hx];exact hr)
 obtain⟨R,every,a5,a6,a7,rfl,hl,hR,hw,he⟩:=hI;refine#[R,s',Zr rfl #[1] rfl ?_,hl,hR,by rw[hw];exact hl]
 show rvs (CV<|d+2) [] We.body [aa .drw,aa<|spV p n,ag,ag,ag,ag,ag,ag] [] s=_
 dsimp only[We]
 rw[Zh<|ZV e0 rfl];show rvs _ _ _ [aa .drw,aa<|spV p n,aa<|.tup [],ag,ag,ag,ag,ag] [] s=_;rw[Zh<|ZV e1 rfl];show rvs _ _ _ [aa .drw,aa<|spV p n,aa<|.tup [],aa<|.lst<|[aw n 0].map Zb,ag,ag,ag,ag] [] s=_;rw[Zh<|ZV e2 rfl];show rvs _ _ _ [aa .drw,aa<|spV p n,aa<|.tup [],aa<|.lst<|[aw n 0].map Zb,aa<|.lst<|(Zm<|ZD p n<|units n).map Zb,ag,ag,ag] [] s=_;rw[Zh e];exact Zn<|ZE<|Ze rfl
end
def GV(d:Nat)(a:Int)(s:DS):CV (d+1) 32 [.int a,.int a] s=.ok (.bl al) s:=by
 refine Zr rfl #[1] rfl ?_
 simp[X8,pvE,Z7,YH,Y4,jR,Zbd,ZA]
def zn(d:Nat){B:Type}{f:B->V}{l:List B}(s:DS)(hl:l.length<=1000)(h:∀x∈l,CV d 32 [f x,f x] s=.ok (.bl al) s):CV (d+1) 32 [.tup<|l.map f,.tup<|l.map f] s=.ok (.bl al) s:=by
 refine Zr rfl #[1] rfl ?_
 dsimp only[X8]
 refine Zn ?_;have hz:((l.map f).zip<|l.map f).map (λq=>V.tup [q.1,q.2])=l.map λx=>V.tup [f x,f x]:=by
  clear h hl
  induction l with|nil=>rfl|cons x l ih=>rw[aZ,dZ,aZ,ih];rfl
 have hc:=Z0 (cap:=[]) (nl:=2) (t:=[0,1]) (it:=.zip (.v 0)<|.v 1) (elt:=.call 32 #[20]) (Z:=[aa<|.tup<|l.map f,aa<|.tup<|l.map f])
  (by
   rw[wE5,Ze rfl,Za,Ze rfl,Za];show PR.ok (((l.map f).zip<|l.map f).map λq=>V.tup [q.1,q.2]) s=_
   rw[hz]) (by unfold lim;omega) (λx hx=>#[_,rfl,Zw (Zc #[10]<|Zc #[10] Zg)<|h x hx])
 have ht:=Xq (g:=λ_:B=>al) l
 have ha:(l.map λ_=>al).all id=al:=by induction l<;>simp
 simp[pvE,Z7,YH,Y4,jR,Zbd,ZA,hc,ht,ha]
def Zaa(d:Nat){r:Row}(s:DS)(hr:r.length<=1000):CV (d+2) 32 [Zb r,Zb r] s=.ok (.bl al) s:=zn (d+1) s hr λa _=>GV d a s
def uX(d:Nat){R:List Row}(s:DS)(hl:R.length<=1000)(hr:∀r∈R,r.length<=1000):CV (d+3) 32 [.tup<|R.map Zb,.tup<|R.map Zb] s=.ok (.bl al) s:=
 zn (d+2) s hl λr h=>Zaa d s<|hr r h
section
variable{p n:Nat}[Base p]
def QI(d:Nat){T:List Row}(s:DS)(hq:(p,n)∈Xg)(hl:T.length=n)(hT:∀r∈T,Zd p n r):∃v s',CV (d+3) 24 [.drw,spV p n,.tup<|T.map Zb] s=.ok v s'/\okV v=al:=by
 obtain⟨_,h1,hn,_⟩:=J1 _ hq;have hn:=hn;have h1:=h1
 let Z (a3 a4 a5 a6:Option V):Env:=[aa .drw,aa<|spV p n,aa<|.tup<|T.map Zb,a3,a4,a5,a6]
 have op:=Ua T;have lm:(T.map Zb).length=n:=by rw[ay,hl]
 have ep:∀a b c e s,pv (CV<|d+2) (.v 2) (Z a b c e) s=.ok (.tup<|T.map Zb) s:=λ_ _ _ _ s=>Ze rfl
 have rows:∀k:Int,0<=k->k<n->∃r,(T.map Zb).getD k.toNat .non=Zb r/\Zd p n r:=λk h0 hk=>by
  have hk':k.toNat<(T.map Zb).length:=by omega
  rw[ax,af hk',lh];obtain⟨r,hr,e⟩:=aR.mp<|aY hk';exact#[r,e.symm,hT r hr]
 obtain⟨j,s1,t1,t2,t3⟩:=Yn (d+1) s (i:=0) (Z:=Z ag ag ag ag) (e:=.ix (.v 1)<|.n 1) rfl (ix1 rfl) #[3] #[3]
 obtain⟨r,er,hr⟩:=rows j t2 t3;have e3:pv (CV<|d+2) (.ix (.v 2)<|.v 3) (Z (aa<|.int j) ag ag ag) s1=.ok (Zb r) s1:=by
  have:=qX (ep (aa<|.int j) ag ag ag s1) (Ze (i:=3) rfl) t2 #[3]
  rw[er]at this;exact this
 obtain⟨x,s2,e4,hx⟩:=GO d s1 hq hr;obtain⟨k,s3,u1,u2,u3⟩:=Yn (d+1) s2 (i:=0) (Z:=Z (aa<|.int j) (aa x) ag ag) (e:=.ix (.v 1)<|.n 1) rfl (ix1 rfl) #[3] #[3]
 obtain⟨o,eo,ho⟩:=rows k u2 u3;have e5:=qX (ep (aa<|.int j) (aa x) ag ag s2) u1 u2 #[3]
 rw[eo]at e5
 let ρ5 (a6:Option V):Env:=Z (aa<|.int j) (aa x) (aa<|Zb o) a6
 have ep5:∀a s,pv (CV<|d+2) (.v 2) (ρ5 a) s=.ok (.tup<|T.map Zb) s:=λ_ s=>Ze rfl
 have v3:∀a s,pv (CV<|d+2) (.v 3) (ρ5 a) s=.ok (.int j) s:=λ_ s=>Ze rfl
 have tr:=λs=>by
  have:=qX (ep5 ag s) (v3 ag s) t2 #[3]
  rw[er]at this;exact this
 obtain⟨ra,a1,a2,a3⟩:=Uc (Q:=λv=>okV v=al) (es:=[(.bin .add (.bin .add #[17]<|.tup [(.v 4)])<|.sl (.v 2) #[21] ag),(.bin .add (.bin .add #[17]<|.tup [(.v 5)])<|.sl (.v 2) #[21] ag),(.bin .add #[17]<|.sl (.v 2) #[21] ag)]) (λe he=>by
  simp only[az,bu,or_false]at he;rcases he with rfl|rfl|rfl
  .obtain⟨ys,g,h,_⟩:=GQ (ep5 ..) (v3 ..) (XA<|v3 ..) (Ze (i:=4) rfl) #[3] op hx.1
   exact#[_,g,h]
  .obtain⟨ys,g,h,_⟩:=GQ (ep5 ..) (v3 ..) (XA<|v3 ..) (Ze (i:=5) rfl) #[3] op (UT o)
   exact#[_,g,h]
  .obtain⟨ys,g,h,_⟩:=wM (ep5 ..) (v3 ..) (XA<|v3 ..) #[3] op
   exact#[_,g,h])
 obtain⟨rb,b1,b2,b3⟩:=Uc (s:=s3) (Q:=λv=>okV v=al) (es:=[(.bin .add (.v 2)<|.tup [(.ix (.v 2)<|.v 3)]),(.blt .list [(.v 2)]),(.rev<|.v 2),(.c .non),.dnew,(.tup [(.v 2)]),(.ix (.v 2)<|.v 3),(.lst [(.v 4)])]) (λe he=>by
  simp only[az,bu,or_false]at he;rcases he with rfl|rfl|rfl|rfl|rfl|rfl|rfl|rfl
  .exact#[_,Y8 (ep5 ..) (YW<|tr ..) (by rw[lm];show n+1<=1000;omega),VJ op<|VL<|UT r]
  .exact#[_,zU<|ep5 ..,op]
  .exact#[_,vh<|ep5 ..,qS op]
  .exact#[_,ZaU,rfl]
  .exact#[.dct<|.inl [],by rw[pE5],rfl]
  .exact#[_,YW<|ep5 ..,VL op]
  .exact#[_,tr ..,UT r]
  .exact#[.lst [x],by rw[pE4,Zc #[10] Zg];rfl,VL hx.1])
 obtain⟨v1,s4,w1,w2,w3⟩:=Yn (d+1) s3 (m:=2) (i:=0) (Z:=ρ5 ag) rfl Z3 #[1] #[1]
 have e8:=US (d+1) (k:=1+v1) s4 hn hr ho #[3]
 have e9:pv (CV<|d+2) (.call 23 [(.v 1),(.ix (.v 2)<|.v 3),(.bin .add (.n 1)<|.call 2 [(.v 0),(.n 2)]),(.v 5)]) (ρ5 ag) s3=.ok (Zb<|Zu p r o<|1+v1) s4:=by
  have g:pv (CV<|d+2) (.bin .add (.n 1)<|.call 2 [(.v 0),(.n 2)]) (ρ5 ag) s3=.ok (.int<|1+v1) s4:=by
   rw[pE7,Z3,Za,w1,Za];rfl
  exact Zw (Zc #[10]<|Zc (tr ..)<|Zc g<|Zc #[10] Zg) e8
 let m:V:=.tup<|(YF (T.map Zb) ag (aa j)++[Zb<|Zu p r o<|1+v1])++YF (T.map Zb) (aa<|j+1) ag
 have om:okV m=al:=VJ (VJ (Vs op)<|VL<|UT _)<|Vs op;have em:pv (CV<|d+2) (.bin .add (.bin .add #[17]<|.tup [(.call 23 [(.v 1),(.ix (.v 2)<|.v 3),(.bin .add (.n 1)<|.call 2 [(.v 0),(.n 2)]),(.v 5)])])<|.sl (.v 2) #[21] ag) (ρ5 ag) s3=.ok m s4:=by
  have l1:=Wu (xs:=T.map Zb) (lo:=ag) (hi:=aa j);have l2:=Wu (xs:=T.map Zb) (lo:=aa<|j+1) (hi:=ag);have g1:pv (CV<|d+2) (.tup [(.call 23 [(.v 1),(.ix (.v 2)<|.v 3),(.bin .add (.n 1)<|.call 2 [(.v 0),(.n 2)]),(.v 5)])]) (ρ5 ag) s3=.ok (.tup [Zb<|Zu p r o<|1+v1]) s4:=by
   rw[pE3,Zc e9 Zg];rfl
  have g2:pv (CV<|d+2) (.bin .add #[17]<|.tup [(.call 23 [(.v 1),(.ix (.v 2)<|.v 3),(.bin .add (.n 1)<|.call 2 [(.v 0),(.n 2)]),(.v 5)])]) (ρ5 ag) s3=.ok (.tup<|YF (T.map Zb) ag (aa j)++[Zb<|Zu p r o<|1+v1]) s4:=by
   rw[pE7,qR (ep5 ..)<|v3 ..,Za,g1,Za];show(if(YF (T.map Zb) ag<|aa j).length+1<=lim then _ else _)=_
   rw[T9 (by unfold lim;omega)]
  rw[pE7,g2,Za,GK (ep5 ..)<|XA<|v3 ..,Za];show(if(YF (T.map Zb) ag (aa j)++[Zb<|Zu p r o<|1+v1]).length+(YF (T.map Zb) (aa<|j+1) ag).length<=lim then _ else _)=_
  rw[T9 (by rw[aU];unfold lim;show _+1+_<=_;omega)]
 have la:(ra++rb++[m]).length=12:=by rw[aU,aU,a2,b2];rfl
 obtain⟨v5,s6,c1,c2,c3⟩:=Yn (d+1) s4 (m:=16) (i:=0) (Z:=ρ5<|aa<|.lst<|ra++rb++[m]) rfl Z3 #[1] #[1]
 obtain⟨ix,hix,c4⟩:=pick (a:=.lst [(.n 0),(.n 0),(.n 0),(.n 1),(.n 1),(.n 2),(.n 3),(.n 4),(.n 5),(.n 6),(.n 7),(.n 8),(.n 9),(.n 10),(.n 11),(.n 11)]) (xs:=[.int 0,.int 0,.int 0,.int 1,.int 1,.int 2,.int 3,.int 4,.int 5,.int 6,.int 7,.int 8,.int 9,.int 10,.int 11,.int 11]) (s:=s4) (by simp[pvE,ofD]) c1 c2 c3
 obtain⟨q,rfl,hq0,hq1⟩:∃q:Int,ix=.int q/\0<=q/\q<12:=by
  simp at hix;rcases hix with rfl|rfl|rfl|rfl|rfl|rfl|rfl|rfl|rfl|rfl|rfl|rfl<;>exact#[_,rfl,by decide,by decide]
 obtain⟨one,hone,c5⟩:=pick (a:=.v 6) #[10] c4 hq0 (by rw[la];exact hq1)
 have o1:okV one=al:=by
  rcases cc.mp hone with h|h
  .exact(cc.mp h).elim (a3 one)<|b3 one
  .rw[a8.mp h];exact om
 refine#[one,s6,Zr rfl #[1] rfl ?_,o1]
 show rvs (CV<|d+2) [] Ys.body (Z ag ag ag ag) [] s=_
 dsimp only[Ys]
 rw[Zh<|ZV t1 rfl];show rvs _ _ _ (Z (aa<|.int j) ag ag ag) _ _=_;rw[Zh<|ZV (Zw (Zc #[10]<|Zc #[10]<|Zc e3 Zg) e4) rfl];show rvs _ _ _ (Z (aa<|.int j) (aa x) ag ag) _ _=_;rw[Zh<|ZV e5 rfl];show rvs _ _ _ (ρ5 ag) _ _=_;rw[Zh (os':=[6]) (by
  rw[ZgI,Lv.hide_nil,a1,Za,T9 #[by rw[a2];decide,by show 6<7;decide]];rfl)]
 rw[Zh (os':=[6]) (by
  rw[ZgH,T9 #[7]]
  show(PR.ok ra s3).bind _=_;rw[Za];show(pvs (CV<|d+2) _ (ρ5 ag) s3).bind _=_;rw[b1,Za,T9 #[by rw[b2];decide,by rw[a2,b2];decide,by show 6<7;decide]];rfl)]
 rw[Zh (ρ':=ρ5<|aa<|.lst<|ra++rb++[m]) (by
  rw[Zgs,T9 #[7]]
  show(PR.ok (ra++rb) s3).bind _=_;rw[Za];show(pv (CV<|d+2) _ (ρ5 ag) s3).bind _=_;rw[em,Za,T9 (by rw[aU,a2,b2];decide)];rfl)]
 exact Zn<|ZE c5
theorem xY:∀n:Nat,hdI (aw n 0)=ag
 |0=>rfl
 |n+1=>by
  show(if(0:Int)≠0 then aa 0 else(hdI<|aw n 0).map (· + 1))=ag
  rw[T8 #[2],xY n];rfl
theorem Jo:∀m:Nat,ZU p [] (aw m<|aw n 0)=[]
 |0=>rfl
 |m+1=>by
  show ZU p (Y1 p []<|aw n 0) (aw m<|aw n 0)=[];have:Y1 p [] (aw n 0)=[]:=by
   unfold Y1;rw[show Zl p [] (aw n 0)=aw n 0 from rfl,xY]
  rw[this,Jo m]
def zR(d:Nat)(s:DS)(hn:n<=6)(h1:1<=n)(hp:p^n<=1000)(hq:(p,n)∈Xg):∃v s',CV (d+4) 31 [.drw,spV p n] s=.ok v s'/\okV v=al/\ZH p n v=aj:=by
 have key:∃v s',rvs (CV<|d+3) [] Y7.body [aa .drw,aa<|spV p n,ag,ag] [] s=.ok (.ret v) s'/\(okV v=al/\ZH p n v=aj):=by
  dsimp only[Y7]
  have hl:=Zdi (t:=[2]) (it:=.rng1<|.n 8) (L:=aP 8) (Z:=[aa .drw,aa<|spV p n,ag,ag]) (s:=s) (λv=>okV v=al/\ZH p n v=aj) (λZ=>∃a2 a3,Z=[aa .drw,aa<|spV p n,a2,a3]) (XG Z3<|by omega) #[_,_,rfl] (λx Z s hI=>by
   obtain⟨a2,a3,rfl⟩:=hI;refine#[[aa .drw,aa<|spV p n,aa<|ZX x,a3],rfl,?_];obtain⟨R,s1,e1,hl,hR,_⟩:=Qw d s hn h1 hp;obtain⟨v,s2,e2,hv⟩:=QI d s1 hq hl hR;have e3:=VY d s2 hn h1 hp hv;have st:∀{r},rvs (CV<|d+3) [] [.ite (.not<|.call 30 [(.v 1),(.v 3)]) [.ret<|.v 3] []] [aa .drw,aa<|spV p n,aa<|ZX x,aa v] [] s2=r->rvs (CV<|d+3) [] [.asg [3]<|.call 24 [(.v 0),(.v 1),(.call 27 #[20])],
  .ite (.not<|.call 30 [(.v 1),(.v 3)]) [.ret<|.v 3] []] [aa .drw,aa<|spV p n,aa<|ZX x,a3] [] s=r:=λh=>
    (Zh<|ZV (Zw (Zc #[10]<|Zc #[10]<|Zc (Zw (Zc #[10]<|Zc #[10] Zg) e1) Zg) e2) rfl).trans h
   have e4:pv (CV<|d+3) (.not<|.call 30 [(.v 1),(.v 3)]) [aa .drw,aa<|spV p n,aa<|ZX x,aa v] s2=.ok (.bl !ZH p n v) s2:=Vx<|Ya #[10] #[10] e3;cases h:ZH p n v with
   |true=>
    rw[h]at e4;exact .inr #[_,s2,st (by rw[guard e4,rvs]),_,_,rfl]
   |false=>
    rw[h]at e4;refine .inl #[v,s2,st<|Zn ?_,hv,h];rw[Qe (b:=al)<|Y5 e4 rfl,T9 rfl];exact Zn<|ZE<|Ze rfl)
  rcases hl with⟨v,s',e,h⟩|⟨ρ',s',e,a2,a3,rfl⟩
  .exact#[v,s',Zn e,h]
  .rw[Zh e]
   obtain⟨i,s2,e2,i0,i3⟩:=wx (m:=3) s' #[3] #[3]
   have g2:pv (CV<|d+3) (.bin .mul (.tup [(.bin .mul (.tup [(.n 0)])<|.ix (.v 1)<|.n 1)])<|.ix (.v 1)<|.n 1) [aa .drw,aa<|spV p n,a2,a3] s'=.ok (.tup<|(aw n<|aw n (0:Int)).map Zb) s':=by
    rw[pE7,YW<|Ud hn rfl,Za,ix1 rfl,Za];show(if(0:Int)<=n/\(n:Int)<1000/\1<=1000 then PR.ok (V.tup (aw (n:Int).toNat [Zb<|aw n 0]).flatten) s' else .no)=_
    rw[T9 #[by omega,by omega,by omega],cZ,List.map_replicate]
    congr 2
    induction n with|zero=>rfl|succ m ih=>simp
   have gl:pv (CV<|d+3) (.lst [(.c .non),(.tup []),(.bin .mul (.tup [(.bin .mul (.tup [(.n 0)])<|.ix (.v 1)<|.n 1)])<|.ix (.v 1)<|.n 1)]) [aa .drw,aa<|spV p n,a2,a3] s'=.ok (.lst [.non,.tup [],.tup<|(aw n<|aw n (0:Int)).map Zb]) s':=by
    have n0:pv (CV<|d+3) (.c .non) [aa .drw,aa<|spV p n,a2,a3] s'=.ok .non s':=by rw[pE1];rfl
    have n1:pv (CV<|d+3) (.tup []) [aa .drw,aa<|spV p n,a2,a3] s'=.ok (.tup []) s':=by rw[pE3,Zg];rfl
    rw[pE4,Zc n0<|Zc n1<|Zc g2 Zg];rfl
   have e3:=Zw (as:=[(.v 0),(.n 3)]) (Z:=[aa .drw,aa<|spV p n,a2,a3]) (Zc #[10]<|Zc Z3 Zg) e2;obtain rfl|rfl|rfl:i=0\/i=1\/i=2:=by omega
   .exact#[.non,s2,Zn (ZE (by rw[WA,gl,Za,e3,Za];rfl)),rfl,rfl]
   .exact#[.tup [],s2,Zn (ZE (by rw[WA,gl,Za,e3,Za];rfl)),rfl,JQ λxs z=>by cases z;show 0≠n;omega]
   .refine#[.tup<|(aw n<|aw n (0:Int)).map Zb,s2,Zn (ZE (by rw[WA,gl,Za,e3,Za];rfl)),Ua _,?_]
    rw[YX ck λr hr=>by rw[k6 hr];exact ZM,Jo]
    exact T4 (by show 0≠n;omega)
 obtain⟨v,s',e,h⟩:=key;exact#[v,s',Zr rfl #[1] rfl e,h]
def uI(p n:Nat)(T:List Row)(r:Row):Row:=(aP n).foldl (λacc k=>Zu p acc (T.getD k [])<|gt r k)<|aw n 0
def zr{T:List Row}{k:Nat}(hl:T.length=n)(hT:∀t∈T,Zd p n t)(hk:k<n):Zd p n (T.getD k []):=by
 rw[ax,af #[3]]
 exact hT _<|aY _
def Zcm{T:List Row}{r:Row}(hl:T.length=n)(hr:r.length=n):((r.map V.int).zip<|T.map Zb).map (λq=>V.tup [q.1,q.2])=(aP n).map λk=>V.tup [.int<|gt r k,Zb<|T.getD k []]:=by
 refine gj (by simp;omega) λi h1 h2=>?_
 have hi:i<n:=by simpa using h2
 simp only[lG,List.getElem_zip,nN];rw[ax,af #[3]]
 unfold gt;rw[ax,af #[3]];rfl
def xi(d:Nat){T:List Row}{r:Row}(s:DS)(hn:n<=6)(hl:T.length=n)(hT:∀t∈T,Zd p n t)(hr:Zd p n r):CV (d+2) 18 [spV p n,.tup<|T.map Zb,Zb r] s=.ok (Zb<|uI p n T r) s:=by
 have hp:=Vo (p:=p);refine Zr rfl #[1] rfl ?_
 show rvs (CV<|d+1) [] XI.body [aa<|spV p n,aa<|.tup<|T.map Zb,aa<|Zb r,ag,ag,ag,ag,ag] [] s=_
 dsimp only[XI]
 rw[Zh<|YY _ _ (by show pv _ _ _ _=_;exact Ze rfl) #[rfl,rfl]]
 show rvs _ _ _ [aa<|spV p n,aa<|.tup<|T.map Zb,aa<|Zb r,aa<|.int p,aa<|.int n,ag,ag,ag] [] s=_;have z:pv (CV<|d+1) (.bin .mul (.tup [(.n 0)])<|.v 4) [aa<|spV p n,aa<|.tup<|T.map Zb,aa<|Zb r,aa<|.int p,aa<|.int n,ag,ag,ag] s=.ok (Zb<|aw n 0) s:=by
  rw[pE7,YW Z3,Za,Ze rfl,Za];show(if(0:Int)<=n/\(n:Int)<1000/\1<=1000 then PR.ok (V.tup (aw (n:Int).toNat [V.int 0]).flatten) s else .no)=_
  rw[T9 #[by omega,by omega,by omega],cZ,qu];rfl
 rw[Zh<|ZV z rfl];show rvs _ _ _ [aa<|spV p n,aa<|.tup<|T.map Zb,aa<|Zb r,aa<|.int p,aa<|.int n,aa<|Zb<|aw n 0,ag,ag] [] s=_;obtain⟨ρ',⟨_,acc,a6,a7,_,hf,rfl⟩,e⟩:=Gp (C:=CV<|d+1) (ms:=[]) (os:=[]) (t:=[6,7]) (it:=.zip (.v 2)<|.v 1) (b:=[.asg [5]<|.call 6 [(.v 3),(.v 5),(.v 7),(.v 6)]])
  (λl Z=>(∀k∈l,k<n)/\∃acc a6 a7,Zd p n acc/\l.foldl (λacc k=>Zu p acc (T.getD k [])<|gt r k) acc=uI p n T r/\Z=[aa<|spV p n,aa<|.tup<|T.map Zb,aa<|Zb r,aa<|.int p,aa<|.int n,aa<|Zb acc,a6,a7])
  (by
   rw[wE5,Ze rfl,Za,Ze rfl,Za];show PR.ok (((r.map V.int).zip<|T.map Zb).map λq=>V.tup [q.1,q.2]) s=_
   rw[Zcm hl hr.1]) #[λk hk=>aV.mp hk,_,ag,ag,ZM,rfl,rfl] rfl (λk l Z hI=>by
   obtain⟨hk,acc,a6,a7,ha,hf,rfl⟩:=hI;have k0:=hk k<|ak ..;have ht:=zr hl hT k0;have g:=XM ppos hr k;refine#[rfl,[aa<|spV p n,aa<|.tup<|T.map Zb,aa<|Zb r,aa<|.int p,aa<|.int n,aa<|Zb acc,aa<|.int<|gt r k,aa<|Zb<|T.getD k []],[aa<|spV p n,aa<|.tup<|T.map Zb,aa<|Zb r,aa<|.int p,aa<|.int n,aa<|Zb<|Zu p acc (T.getD k [])<|gt r k,aa<|.int<|gt r k,aa<|Zb<|T.getD k []],rfl,?_,λj hj=>hk j<|am _ hj,_,_,_,Zq ha ht,hf,rfl]
   rw[Zh (ZV (Zw (Zc #[10]<|Zc #[10]<|Zc #[10]<|Zc #[10] Zg)<|UK d s hn ha ht<|by omega) rfl),rvs]
   rfl)
 rw[Zh e,show acc=uI p n T r from hf]
 exact Zn<|ZE<|Ze rfl
def Zb9(d:Nat){T:List Row}{r:Row}(s:DS)(hn:n<=6)(hl:T.length=n)(hT:∀t∈T,Zd p n t)(hr:Zd p n r):CV (d+2) 34 [spV p n,.tup<|T.map Zb,Zb r] s=.ok (Zb<|uI p n T r) s:=by
 have hp:=Vo (p:=p);refine Zr rfl #[1] rfl ?_
 show rvs (CV<|d+1) [] WI.body [aa<|spV p n,aa<|.tup<|T.map Zb,aa<|Zb r,ag,ag] [] s=_
 dsimp only[WI]
 rw[Zh<|ZV (Ud hn rfl) rfl];show rvs _ _ _ [aa<|spV p n,aa<|.tup<|T.map Zb,aa<|Zb r,aa<|Zb<|aw n 0,ag] [] s=_;obtain⟨ρ',⟨_,acc,a4,_,hf,rfl⟩,e⟩:=Gp (C:=CV<|d+1) (ms:=[]) (t:=[4]) (it:=.rng1<|.ix (.v 0)<|.n 1) (b:=[.asg [3]<|.call 23 [(.v 0),(.v 3),(.ix (.v 2)<|.v 4),(.ix (.v 1)<|.v 4)]]) (s:=s)
  (λl Z=>(∀k∈l,k<n)/\∃acc a4,Zd p n acc/\l.foldl (λacc k=>Zu p acc (T.getD k [])<|gt r k) acc=uI p n T r/\Z=[aa<|spV p n,aa<|.tup<|T.map Zb,aa<|Zb r,aa<|Zb acc,a4])
  (by rw[Lv.hide_nil];exact XG (ix1 rfl)<|by omega) #[λk hk=>aV.mp hk,_,ag,ZM,rfl,rfl] rfl (λk l Z hI=>by
   obtain⟨hk,acc,a4,ha,hf,rfl⟩:=hI;have k0:=hk k<|ak ..;have ht:=zr hl hT k0;have g:=XM ppos hr k;refine#[rfl,[aa<|spV p n,aa<|.tup<|T.map Zb,aa<|Zb r,aa<|Zb acc,aa<|ZX k],[aa<|spV p n,aa<|.tup<|T.map Zb,aa<|Zb r,aa<|Zb<|Zu p acc (T.getD k [])<|gt r k,aa<|ZX k],rfl,?_,λj hj=>hk j<|am _ hj,_,_,Zq ha ht,hf,rfl]
   have g1:pv (CV<|d+1) (.ix (.v 2)<|.v 4) [aa<|spV p n,aa<|.tup<|T.map Zb,aa<|Zb r,aa<|Zb acc,aa<|ZX k] s=.ok (.int<|gt r k) s:=yE rfl rfl (by rw[hr.1];exact k0)
   have g2:pv (CV<|d+1) (.ix (.v 1)<|.v 4) [aa<|spV p n,aa<|.tup<|T.map Zb,aa<|Zb r,aa<|Zb acc,aa<|ZX k] s=.ok (Zb<|T.getD k []) s:=by
    rw[WA,Ze rfl,Za,Ze rfl,Za];show po (at' (T.map Zb) (k:Int)) s=_;rw[WF (by rw[aJ,af #[3]];rfl),ax,af #[3]];rfl
   rw[Zh (ZV (Zw (Zc #[10]<|Zc #[10]<|Zc g1<|Zc g2 Zg)<|US d s hn ha ht<|by omega) rfl),rvs]
   rfl)
 rw[Zh e,show acc=uI p n T r from hf]
 exact Zn<|ZE<|Ze rfl
def Xa(d:Nat){x:V}(s:DS)(hn:n<=6)(hx:okV x=al):CV (d+7) 15 [spV p n,x] s=if ZH p n x=al then .ok .non s else .ex 7 s:=by
 have e:=Zap (p:=p) d s hn hx;cases h:ZH p n x with
 |true=>
  rw[h]at e;refine Zdr (Z:=[aa<|spV p n,aa x]) (os:=[]) rfl #[1] rfl ?_
  simp[XX,pvE,e]
 |false=>
  rw[h]at e;refine V6 rfl #[1] rfl ?_
  simp[XX,pvE,e];rfl
def Ug(T:List Row):okV (.tup<|T.map Zb)=al:=Zck T
def Wr(d:Nat){T:List Row}(s:DS)(hn:n<=6)(hl:T.length=n)(hT:∀t∈T,Zd p n t)(hw:(ZU p [] T).length=n):CV (d+7) 15 [spV p n,.tup<|T.map Zb] s=.ok .non s:=by
 have e:=Xa (p:=p) d s hn<|Ug T;rw[YX hl hT,T9<|T5 hw]at e;exact e
end
end K73
namespace Rw
open La
open Ev (ltI Zm)
section
variable{p n:Nat}[Base p]
def vS{R:List Row}(hR:∀r∈R,Zd p n r):Spans p n R (ZU p [] R):=by
 obtain⟨hM,e⟩:=V8 (P:=[]) pZ.nil hR;have hm:=(WY fld (R.map<|toV p) Pn.nil λv hv=>by
  obtain⟨r,h,rfl⟩:=aR.mp hv;exact Yb<|hR r h).2
 have h:∀u,Mm p (ZU p [] R) u↔WS [] (R.map<|toV p) u:=λu=>by
  unfold Mm;rw[e];exact hm u
 refine#[hM,λr hr=>(ZN hM<|hR r hr).mpr<|(h _).mpr<|vz<|dN hr,λW hW hw r hr=>?_]
 have hr':=hM.row r hr;have:=(h _).mp<|(ZN hM hr').mp<|ww hM hr;refine(ZN hW hr').mpr<|Qu (λv hv=>?_) this
 obtain⟨x,hx,rfl⟩:=aR.mp hv;exact(ZN hW<|hR x hx).mp<|hw x hx
def jH{P:List Row}(hP:pZ p n P):P.length<=n:=by
 rw[<-Uk (p:=p)];exact UP hP.pn
def Zfj{P Q:List Row}(hP:pZ p n P)(hQ:pZ p n Q)(h:∀u,Mm p P u->Mm p Q u):P.length<=Q.length:=ZcS hP hQ<|(UD hP hQ).mpr h
def Zbc(hn:n<=6){W:List Row}{r:Row}(hW:pZ p n W)(hl:W.length=n)(hr:Zd p n r):Yp p W r=al:=by
 cases c:Yp p W r with
 |true=>rfl
 |false=>
  have:=wZ hW hr c;have:=jH (XY hW hr).1;omega
variable{P:List Row}
end
variable{p n:Nat}[Base p]
def ZbK{k j:Nat}(hk:k<n):gt (Yi n k) j=if j=k then 1 else 0:=by
 by_cases h:j<n
 .unfold gt Yi
  rw[ax,aJ,cp h];rfl
 .rw[xo (by unfold Yi;rw[ay,bo];omega),T8 #[3]]
def Zcb{k:Nat}(hk:k<n):Zd p n (Yi n k):=ZY _<|aR.mpr #[k,aV.mpr hk,rfl]
def wD{P:List Row}(hP:pZ p n P):P.map ZaR=ZK P:=bP λr hr=>by
 obtain⟨k,e,_⟩:=hP.head fld.one0 hr;unfold ZaR;rw[e];rfl
def Zat{P:List Row}(hP:pZ p n P):((aP n).filter λk=>!(P.map ZaR).contains k).length+P.length=n:=by
 have h2:(aP n).filter (ZK P).contains=ZK P:=xb (List.Pairwise.filter _ lV) (by rw[<-Wn (p:=p)];exact hP.pn.rf.heads) λx=>by
  rw[fv,aV,dR];refine#[λh=>h.2,λh=>#[?_,h]]
  obtain⟨r,hr,rfl⟩:=aR.mp h;obtain⟨k,e,hk,_⟩:=hP.head fld.one0 hr;rw[e];exact hk
 have gen:∀(q:Nat->Bool)(L:List Nat),(L.filter q).length+(L.filter λj=>!q j).length=L.length:=by
  intro q L
  induction L with
  |nil=>rfl
  |cons k L ih=>
   rw[lE,lE];cases q k<;>simp<;>omega
 have:=gen (ZK P).contains<|aP n;rw[h2,bo,ZK,ay]at this;rw[wD hP];unfold ZK;omega
end Rw
namespace La
section
variable{F:Type}[iS F]
structure Lin(n:Nat)(f:Vec F->Vec F):Prop where
 lin:∀(u v:Vec F)(c:F),f (λj=>u j+c*v j)=λj=>f u j+c*f v j
 sp:∀u,Supp n u->Supp n (f u)
def it(f:Vec F->Vec F):Nat->Vec F->Vec F
 |0,v=>v
 |k+1,v=>it f k<|f v
def comb(f:Vec F->Vec F):List F->Vec F->Vec F
 |[],_=>λ_=>0
 |a::c,v=>λj=>a*v j+comb f c (f v) j
variable{n:Nat}{f:Vec F->Vec F}
theorem Lin.comb(L:Lin n f):∀(c:List F)(u v:Vec F)(k:F),La.comb f c (λj=>u j+k*v j)=λj=>La.comb f c u j+k*La.comb f c v j
 |[],u,v,k=>by funext j;show(0:F)=0+k*0;grind
 |a::c,u,v,k=>by
  funext j
  show a*(u j+k*v j)+La.comb f c (f λj=>u j+k*v j) j=(a*u j+La.comb f c (f u) j)+k*(a*v j+La.comb f c (f v) j)
  rw[L.lin,Lin.comb L c];grind
theorem Lin.zero(L:Lin n f):f (λ_=>0)=λ_=>0:=by
 have h:=L.lin (λ_=>0) (λ_=>0)<|-1
 rw[show(λj:Nat=>(0:F) + -1*0)=λ_=>0 by funext j;grind]at h
 rw[h];funext j;grind
theorem JG(L:Lin n f):∀(c:List F)(v:Vec F),comb f c (f v)=f (comb f c v)
 |[],v=>L.zero.symm
 |a::c,v=>by
  have h:=L.lin (comb f c<|f v) v a;rw[show(λj=>comb f c (f v) j+a*v j)=comb f (a::c) v by funext j;show _=a*v j+comb f c (f v) j;grind]at h
  rw[h,<-JG L c (f v)]
  funext j
  show a*f v j+comb f c (f<|f v) j=_
  grind
theorem JA(L:Lin n f):∀(c d:List F)(v:Vec F),comb f c (comb f d v)=comb f d (comb f c v)
 |[],d,v=>by
  have h:=L.comb d (λ_=>0) (λ_=>0)<|-1
  rw[show(λj:Nat=>(0:F) + -1*0)=λ_=>0 by funext j;grind]at h
  show(λ_=>0)=comb f d λ_=>0
  rw[h];funext j;grind
 |a::c,d,v=>by
  have h:=L.comb d (comb f c<|f v) v a;rw[show(λj=>comb f c (f v) j+a*v j)=comb f (a::c) v by funext j;show _=a*v j+comb f c (f v) j;grind]at h
  rw[h]
  funext j
  show a*comb f d v j+comb f c (f<|comb f d v) j=_;rw[<-JG L d v,JA L c d];grind
theorem Y9:∀(c:List F)(a:F)(v:Vec F)(j:Nat),comb f (c++[a]) v j=comb f c v j+a*it f c.length v j
 |[],a,v,j=>by show a*v j+0=0+a*v j;grind
 |b::c,a,v,j=>by
  show b*v j+comb f (c++[a]) (f v) j=b*v j+comb f c (f v) j+a*it f c.length (f v) j;rw[Y9 c a (f v) j];grind
theorem W5{P:Pt F}:∀{c:List F}{v:Vec F},(∀k,k<c.length->Mem P (it f k v))->Mem P (comb f c v)
 |[],v,_=>Yk
 |a::c,v,h=>by
  have h1:=W5 (c:=c) (v:=f v) λk hk=>h (k+1)<|Nat.succ_lt_succ hk
  have:=YA a h1<|h 0<|Nat.succ_pos _;rw[show comb f (a::c) v=λj=>comb f c (f v) j+a*it f 0 v j by funext j;show a*v j+_=_+a*v j;grind]
  exact this
theorem yZ{P:Pt F}(hi:∀u,Mem P u->Mem P (f u)):∀(k:Nat){v:Vec F},Mem P v->Mem P (it f k v)
 |0,_,h=>h
 |k+1,_,h=>yZ hi k<|hi _ h
theorem jD(L:Lin n f):∀(k:Nat){v:Vec F},Supp n v->Supp n (it f k v)
 |0,_,h=>h
 |k+1,_,h=>jD L k<|L.sp _ h
theorem qQ(c:List F)(v:Vec F)(j:Nat):comb f (c.map λa=>-a) v j = - comb f c v j:=by
 induction c generalizing v with|nil=>show(0:F) = -0;grind|cons a c ih=>show -a*v j+_ = -(a*v j+_);rw[ih];grind
noncomputable def zM:List F->List F->List F
 |x::xs,y::ys=>(x+y)::zM xs ys
 |xs,[]=>xs
 |[],ys=>ys
theorem WV:∀{xs ys:List F},ys.length<=xs.length->(zM xs ys).length=xs.length
 |x::xs,y::ys,h=>by show(zM xs ys).length+1=_;rw[WV<|Nat.le_of_succ_le_succ h];rfl
 |[],[],_=>rfl
 |_::_,[],_=>rfl
 |[],_::_,h=>by cases h
theorem Vp:∀(xs ys:List F)(v:Vec F)(j:Nat),comb f (zM xs ys) v j=comb f xs v j+comb f ys v j
 |x::xs,y::ys,v,j=>by
  show(x+y)*v j+comb f (zM xs ys) (f v) j=(x*v j+comb f xs (f v) j)+(y*v j+comb f ys (f v) j);rw[Vp xs ys];grind
 |[],[],v,j=>by show(0:F)=0+0;grind
 |x::xs,[],v,j=>by show _=_+(0:F);show comb f (x::xs) v j=_;grind
 |[],y::ys,v,j=>by show _=(0:F)+_;show comb f (y::ys) v j=_;grind
theorem QT(a:F)(c:List F)(v:Vec F)(j:Nat):comb f (c.map λb=>a*b) v j=a*comb f c v j:=by
 induction c generalizing v with|nil=>show(0:F)=a*0;grind|cons b c ih=>show a*b*v j+_=a*(b*v j+_);rw[ih];grind
theorem qD(L:Lin n f)(q:List F):∀C:List F,∃E:List F,E.length=C.length+q.length/\∀u,comb f (E++[1]) u=comb f (C++[1]) (comb f (q++[1]) u)
 |[]=>#[q,by simp,λu=>by funext j;show _=1*_+(0:F);grind]
 |a::C=>by
  obtain⟨E,h1,h2⟩:=qD L q C;refine#[zM (0::E)<|(q++[1]).map λb=>a*b,?_,λu=>?_]
  .rw[WV (by simp;omega),aQ,aQ,h1];omega
  .funext j
   have hl:(zM (0::E)<|(q++[1]).map λb=>a*b).length=E.length+1:=by rw[WV (by simp;omega)];rfl
   rw[Y9,hl,Vp,QT];have e:=congrFun (h2<|f u) j;rw[Y9]at e;show(0*u j+comb f E (f u) j)+a*comb f (q++[1]) u j+1*it f E.length (f u) j=a*comb f (q++[1]) u j+comb f (C++[1]) (f<|comb f (q++[1]) u) j;rw[<-JG L,<-e];grind
structure Clb(n:Nat)(f:Vec F->Vec F)(P:Pt F)(v:Vec F)(i:Nat)(R:Pt F):Prop where
 pn:Pn n R
 len:R.length=P.length+i
 sub:∀u,Mem P u->Mem R u
 gen:∀k,k<i->Mem R (it f k v)
 dec:∀u,Mem R u->∃c:List F,c.length=i/\Mem P λj=>u j-comb f c v j
variable{inv:F->F}[DecidableEq F]
theorem Zd8(fl:Fld inv)(L:Lin n f){P:Pt F}{v:Vec F}(hv:Supp n v):∀(m i:Nat)(R:Pt F),n<=R.length+m->Clb n f P v i R->∃t R',i<=t/\Clb n f P v t R'/\Mem R' (it f t v)
 |m,i,R,hm,h=>by
  by_cases c:Mem R (it f i v)
  .exact#[i,R,aF _,h,c]
  .have g:=Wq fl h.pn (jD L i hv)
   have gl:=g.len c;have:=UP g.pn
   match m,hm with
   |0,hm=>omega
   |m+1,hm=>
    have le:∀u,Mem R u->Mem (more inv n R<|it f i v) u:=λu hu=>(g.mem u).mpr #[0,by
     rw[show(λj=>u j-0*it f i v j)=u by funext j;grind];exact hu]
    obtain⟨t,R',a,b,d⟩:=Zd8 fl L hv m (i+1) (more inv n R<|it f i v) #[3] #[g.pn,by rw[gl,h.len];omega,λu hu=>le u<|h.sub u hu,λk hk=>by
     by_cases e:k=i
     .rw[e]
      exact(g.mem _).mpr #[1,by rw[show(λj=>it f i v j-1*it f i v j)=λ_=>0 by funext j;grind];exact Yk]
     .exact le _ (h.gen k #[3]),λu hu=>by
     obtain⟨c,hc⟩:=(g.mem u).mp hu;obtain⟨d,d1,d2⟩:=h.dec _ hc;refine#[d++[c],by rw[aU,d1];rfl,?_]
     rw[show(λj=>u j-comb f (d++[c]) v j)=λj=>u j-c*it f i v j-comb f d v j by funext j;rw[Y9,d1];grind]
     exact d2]
    exact#[t,R',by omega,b,d]
theorem Zby(fl:Fld inv)(L:Lin n f){P:Pt F}{v:Vec F}(hP:Pn n P)(hi:∀u,Mem P u->Mem P (f u))(hv:Supp n v)(hn:¬Mem P v) :
  ∃(R:Pt F)(q:List F),Pn n R/\(∀u,Mem R u->Mem R (f u))/\R.length=P.length+q.length/\1<=q.length/\∀u,Mem R u->Mem P (comb f (q++[1]) u):=by
 obtain⟨t,R,_,h,ht⟩:=Zd8 fl L hv n 0 P #[3] #[hP,rfl,λ_ h=>h,λk hk=>by omega,λu hu=>#[[],rfl,by
  rw[show(λj=>u j-comb f [] v j)=u by funext j;show u j-0=_;grind];exact hu]]
 obtain⟨c,c1,c2⟩:=h.dec _ ht;have hq:Mem P (comb f (c.map (λa=>-a)++[1]) v):=by
  rw[show comb f (c.map (λa=>-a)++[1]) v=λj=>it f t v j-comb f c v j by funext j;rw[Y9,ay,c1,qQ];grind]
  exact c2
 have split:∀u,Mem R u->∃d w,d.length=t/\Mem P w/\u=λj=>comb f d v j+w j:=λu hu=>by
  obtain⟨d,d1,d2⟩:=h.dec u hu;exact#[d,_,d1,d2,by funext j;grind]
 refine#[R,c.map λa=>-a,h.pn,λu hu=>?_,by rw[ay,c1];exact h.len,?_,λu hu=>?_]
 .obtain⟨d,w,d1,d2,rfl⟩:=split u hu
  have:=L.lin (comb f d v) w 1;rw[show(λj=>comb f d v j+1*w j)=λj=>comb f d v j+w j by funext j;grind]at this
  rw[this,<-JG L];refine YA 1 (W5 λk hk=>?_)<|h.sub _<|hi _ d2
  show Mem R (it f (k+1) v);by_cases e:k+1=t
  .rw[e];exact ht
  .exact h.gen _ #[3]
 .rw[ay,c1]
  cases t with
  |zero=>
   have:=h.dec _ ht;exact T7 (by
    obtain⟨d,d1,d2⟩:=this;rw[d6.mp d1]at d2;rw[show(λj=>it f 0 v j-comb f [] v j)=v by funext j;show v j-0=_;grind]at d2
    exact d2) hn
  |succ t=>omega
 .obtain⟨d,w,d1,d2,rfl⟩:=split u hu
  have:=L.comb (c.map (λa=>-a)++[1]) (comb f d v) w 1
  rw[show(λj=>comb f d v j+1*w j)=λj=>comb f d v j+w j by funext j;grind]at this
  rw[this,JA L];exact YA 1 (W5 λk _=>yZ hi k hq)<|W5 λk _=>yZ hi k d2
theorem xX(fl:Fld inv)(L:Lin n f):∀(m:Nat)(P:Pt F)(D:List F),n<=P.length+m->Pn n P->(∀u,Mem P u->Mem P (f u))->D.length=P.length->(∀u,Mem P u->∀j,comb f (D++[1]) u j=0)->
  ∃D:List F,D.length<=n/\∀u,Supp n u->∀j,comb f (D++[1]) u j=0
 |m,P,D,hm,hP,hi,hl,hD=>by
  by_cases c:∃v,Supp n v/\¬Mem P v
  .obtain⟨v,hv,hn⟩:=c
   obtain⟨R,q,h1,h2,h3,h4,h5⟩:=Zby fl L hP hi hv hn;have:=UP h1
   match m,hm with
   |0,hm=>omega
   |m+1,hm=>
    obtain⟨E,e1,e2⟩:=qD L q D;exact xX fl L m R E #[3] h1 h2 #[3] λu hu j=>by rw[e2];exact hD _ (h5 u hu) j
  .have:=UP hP
   exact#[D,by omega,λu hu j=>hD u (Classical.byContradiction λz=>c #[u,hu,z]) j]
theorem Ze5(fl:Fld inv)(L:Lin n f):∃D:List F,D.length=n/\∀u,Supp n u->∀j,comb f (D++[1]) u j=0:=by
 obtain⟨D,h1,h2⟩:=xX fl L n [] [] #[2] Pn.nil (λu hu=>by
  have:u=λ_=>0:=funext hu
  rw[this,L.zero];exact Yk) rfl λu hu j=>by
   have:=hu j;show 1*u j+(0:F)=0;rw[this];show 1*(0:F)+0=0;grind
 have pad:∀m,∃E:List F,E.length=D.length+m/\∀u,Supp n u->∀j,comb f (E++[1]) u j=0:=λm=>by
  induction m with
  |zero=>exact#[D,rfl,h2]
  |succ m ih=>
   obtain⟨E,e1,e2⟩:=ih;exact#[0::E,by rw[aQ,e1];omega,λu hu j=>by
    show 0*u j+comb f (E++[1]) (f u) j=0;rw[e2 _ (L.sp u hu) j];grind]
 obtain⟨E,e1,e2⟩:=pad<|n-D.length;exact#[E,by omega,e2]
theorem zq(fl:Fld inv)(L:Lin n f)(hn:1<=n):∀k:Nat,∃c:List F,c.length=n/\∀u,Supp n u->it f k u=comb f c u
 |0=>#[1::aw (n-1) 0,by rw[aQ,ck];omega,λu _=>by
  have z:∀(m:Nat)(u:Vec F)(j:Nat),comb f (aw m 0) u j=0:=λm=>by
   induction m with|zero=>intro u j;rfl|succ m ih=>intro u j;show 0*u j+comb f (aw m 0) (f u) j=0;rw[ih];grind
  funext j
  show u j=1*u j+_;rw[z];grind]
 |k+1=>by
  obtain⟨D,d1,d2⟩:=Ze5 fl L;obtain⟨c,c1,c2⟩:=zq fl L hn k;have hne:(0:F)::c≠[]:=by simp
  have e:(0:F)::c=((0:F)::c).dropLast++[((0:F)::c).getLast hne]:=(List.dropLast_concat_getLast hne).symm;generalize ((0:F)::c).getLast hne=l at e;have lc:((0:F)::c).dropLast.length=n:=by rw[List.length_dropLast,aQ];omega
  generalize ((0:F)::c).dropLast=c' at e lc;refine#[zM c'<|D.map λb=>-l*b,by rw[WV (by rw[ay];omega),lc],λu hu=>?_]
  show it f k (f u)=_;rw[c2 _<|L.sp u hu]
  funext j
  have h1:comb f (0::c) u j=comb f c (f u) j:=by show 0*u j+_=_;grind
  rw[<-h1,e,Y9,Vp,QT,lc];have h2:=d2 u hu j;rw[Y9,d1]at h2
  grind
noncomputable def Qf{A:Type}(E:List A):Nat->List (List A)
 |0=>[[]]
 |n+1=>(Qf E n).flatMap λl=>E.map (· :: l)
theorem Qc{A:Type}(E:List A):∀n,(Qf E n).length=E.length^n
 |0=>rfl
 |n+1=>by
  have h:=Qc E n;have gen:∀L:List (List A),(L.flatMap λl=>E.map (· :: l)).length=L.length*E.length:=λL=>by
   induction L with|nil=>simp|cons l L ih=>rw[List.flatMap_cons,aU,ih,ay,aQ,Nat.succ_mul];omega
  show((Qf E n).flatMap _).length=_;rw[gen,h,Nat.pow_succ]
theorem UX{A:Type}{E:List A}(hE:∀a,a∈E):∀l:List A,l∈Qf E l.length
 |[]=>a8.mpr rfl
 |a::l=>eA.mpr #[l,UX hE l,aR.mpr #[a,hE a,rfl]]
theorem jA:∀(i m:Nat)(u:Vec F),it f (i+m) u=it f i (it f m u)
 |i,0,u=>rfl
 |i,m+1,u=>jA i m<|f u
theorem qW(sur:∀w,Supp n w->∃u,Supp n u/\f u=w):∀(i:Nat){w:Vec F},Supp n w->∃u,Supp n u/\it f i u=w
 |0,w,h=>#[w,h,rfl]
 |i+1,w,h=>by
  obtain⟨x,hx,e⟩:=qW sur i h;obtain⟨u,hu,rfl⟩:=sur x hx;exact#[u,hu,e]
def Zbi(fl:Fld inv)(L:Lin n f)(hn:1<=n){E:List F}(hE:∀a,a∈E)(sur:∀w,Supp n w->∃u,Supp n u/\f u=w):∃m,1<=m/\m<=E.length^n/\∀u,Supp n u->it f m u=u:=by
 have h:=zq fl L hn
 let c:Nat->List F:=λk=>Classical.choose<|h k
 have hc:∀k,(c k).length=n/\∀u,Supp n u->it f k u=comb f (c k) u:=λk=>Classical.choose_spec<|h k
 by_cases z:∃i j,i<j/\j<=E.length^n/\c i=c j
 .obtain⟨i,j,h1,h2,e⟩:=z
  refine#[j-i,by omega,by omega,λu hu=>?_]
  obtain⟨x,hx,rfl⟩:=qW sur i hu;rw[<-jA,show j-i+i=j by omega,(hc j).2 x hx,(hc i).2 x hx,e]
 .have nd:((aP<|E.length^n+1).map c).Nodup:=c6.mpr (lV.imp_of_mem λ{i j} _ hj hlt e=>z #[i,j,hlt,by have:=aV.mp hj;omega,e])
  have:=List.Nodup.length_le_of_subset nd (l₂:=Qf E n) λx hx=>by
   obtain⟨k,_,rfl⟩:=aR.mp hx;have:=UX hE<|c k
   rwa [(hc k).1]at this
  rw[ay,bo,Qc]at this;omega
end
end La
namespace Rw
open La
def Xb(p n:Nat)(T:List Row)(r:Row):Row:=(aP n).foldl (λacc k=>Zu p acc (T.getD k [])<|gt r k)<|aw n 0
def itR(p n:Nat)(T:List Row):Nat->Row->Row
 |0,r=>r
 |k+1,r=>itR p n T k<|Xb p n T r
section
variable{p n:Nat}[Base p]
def Zau(p n:Nat)[NeZero p](T:List Row)(u:Vec (Fin p)):Vec (Fin p):=λj=>sl (aP n) λk=>u k*toV p (T.getD k []) j
theorem ZbR(L:List Nat)(g g':Nat->Fin p)(c:Fin p):sl L (λj=>g j+c*g' j)=sl L g+c*sl L g':=by
 have:=Zfq L g g'<|-c;rw[show(λj=>g j - -c*g' j)=λj=>g j+c*g' j by funext j;grind]at this
 rw[this];grind
def XE{T:List Row}{k:Nat}(hl:T.length=n)(hT:∀t∈T,Zd p n t)(hk:k<n):Zd p n (T.getD k []):=by
 rw[ax,af #[3]]
 exact hT _<|aY ..
theorem wm{T:List Row}(hl:T.length=n)(hT:∀t∈T,Zd p n t):Lin n (Zau p n T):=#[λu v c=>by
 funext j
 show sl _ _=sl _ _+c*sl _ _;rw[<-ZbR];exact WZ λk _=>by grind,λu _ j hj=>GE λk hk=>by
 rw[Yb (XE hl hT<|aV.mp hk) j hj];grind]
theorem XD{T:List Row}{r:Row}(hl:T.length=n)(hT:∀t∈T,Zd p n t):Zd p n (Xb p n T r)/\toV p (Xb p n T r)=Zau p n T (toV p r):=by
 have gen:∀(L:List Nat)(a:Row),(∀k∈L,k<n)->Zd p n a->Zd p n (L.foldl (λacc k=>Zu p acc (T.getD k [])<|gt r k) a)/\toV p (L.foldl (λacc k=>Zu p acc (T.getD k [])<|gt r k) a)=λj=>toV p a j+sl L λk=>toV p r k*toV p (T.getD k []) j:=λL=>by
  induction L with
  |nil=>exact λa _ ha=>#[ha,by funext j;show _=_+0;show toV p a j=_;grind]
  |cons k L ih=>
   intro a hL ha;have hk:=XE hl hT<|hL k<|ak ..;obtain⟨x,y⟩:=ih (Zu p a (T.getD k [])<|gt r k) (λk h=>hL k<|am _ h)<|Zq ha hk
   refine#[x,y.trans ?_]
   funext j
   rw[ZW ha hk];show toV p a j+ph p (gt r k)*toV p (T.getD k []) j+_=toV p a j+(toV p r k*toV p (T.getD k []) j+_);rw[show ph p (gt r k)=toV p r k from rfl];grind
 obtain⟨a,b⟩:=gen (aP n) (aw n 0) (λk hk=>aV.mp hk) ZM
 refine#[a,b.trans ?_]
 funext j
 rw[(Ye ZM).mpr<|YT j];show 0+sl _ _=_;unfold Zau;grind
theorem GA{T:List Row}(hl:T.length=n)(hT:∀t∈T,Zd p n t):∀(m:Nat){r:Row},Zd p n r->Zd p n (itR p n T m r)/\toV p (itR p n T m r)=it (Zau p n T) m (toV p r)
 |0,r,hr=>#[hr,rfl]
 |m+1,r,hr=>by
  obtain⟨a,b⟩:=XD (r:=r) hl hT;obtain⟨c,d⟩:=GA hl hT m a;exact#[c,by rw[show itR p n T (m+1) r=itR p n T m (Xb p n T r)from rfl,d,b];rfl]
theorem yg:∀(vs:List (Vec<|Fin p))(w:Vec (Fin p)),WS [] vs w->∃u:Vec (Fin p),Supp vs.length u/\w=λj=>sl (aP vs.length) λk=>u k*(vs.getD k λ_=>0) j
 |[],w,h=>#[λ_=>0,λ_ _=>rfl,by funext j;show w j=0;exact h j]
 |v::vs,w,#[c,h]=>by
  obtain⟨u,hu,e⟩:=yg vs _ h;refine#[λk=>match k with|0=>c|k+1=>u k,λk hk=>?_,?_]
  .rw[aQ]at hk
   match k,hk with
   |k+1,hk=>exact hu k #[3]
  .funext j
   have:=congrFun e j;rw[aQ,gZ];have m:∀(L:List Nat)(g:Nat->Fin p),sl (L.map pL) g=sl L λk=>g (k+1):=λL g=>by
    induction L with|nil=>rfl|cons k L ih=>show g (k+1)+sl (L.map pL) g=_;rw[ih];rfl
   show w j=c*v j+sl ((aP vs.length).map pL) _;rw[m];have this:w j-c*v j=sl (aP vs.length) λk=>u k*(vs.getD k λ_=>0) j:=this
   have e2:(sl (aP vs.length) λk=>(match k+1 with|0=>c|k+1=>u k)*((v::vs).getD (k+1) λ_=>0) j)=sl (aP vs.length) λk=>u k*(vs.getD k λ_=>0) j:=WZ λk _=>rfl
   rw[e2,<-this];grind
def yH(hn:n<=6)(h1:1<=n){T:List Row}(hl:T.length=n)(hT:∀t∈T,Zd p n t)(hw:(ZU p [] T).length=n):∃m,1<=m/\m<=p^n/\∀r,Zd p n r->itR p n T m r=r:=by
 obtain⟨hP,e⟩:=V8 (P:=[]) (pZ.nil (p:=p)) hT;obtain⟨m,m1,m2,m3⟩:=Zbi (inv:=QJ p) fld (wm hl hT) h1 (E:=List.finRange p) List.mem_finRange λw hs=>by
  obtain⟨r,hr,rfl⟩:=xx hs;have hm:=(ZN hP hr).mp<|Zbc hn hP hw hr;have hm:Mem (toP p<|ZU p [] T) (toV p r):=hm;rw[e]at hm;obtain⟨u,u1,u2⟩:=yg _ _ (((WY fld (T.map<|toV p) Pn.nil λv hv=>by
   obtain⟨t,ht,rfl⟩:=aR.mp hv;exact Yb<|hT t ht).2 _).mp hm)
  rw[ay,hl]at u1 u2;refine#[u,u1,?_];rw[u2]
  funext j
  exact WZ λk hk=>by
   have hk:=aV.mp hk;rw[ax,ax,aJ,af #[3]];rfl
 rw[List.length_finRange]at m2;refine#[m,m1,m2,λr hr=>?_]
 obtain⟨a,b⟩:=GA hl hT m hr;exact YB a hr<|b.trans<|m3 _<|Yb hr
end
def vj(n:Nat)(P:List Row):List Nat:=(aP n).filter λk=>!(ZK P).contains k
def WE(n:Nat)(P:List Row):List Row:=P++(vj n P).map (Yi n)
section
variable{p n:Nat}[Base p]
structure Mp(p n:Nat)[NeZero p](h:Row->Row)(g:Vec (Fin p)->Vec (Fin p)):Prop where
 lin:Lin n g
 row:∀r,Zd p n r->Zd p n (h r)
 val:∀r,Zd p n r->toV p (h r)=g (toV p r)
def X2{k:Nat}(hk:k<n)(j:Nat):toV p (Yi n k) j=if j=k then 1 else 0:=by
 unfold toV;rw[ZbK hk];split
 .exact Uq
 .have:=(Ye (p:=p) (n:=n) (r:=aw n 0) ZM (j:=0)).mpr (YT 0)
  unfold toV at this
  rwa [YT]at this
theorem we{g:Vec (Fin p)->Vec (Fin p)}(L:Lin n g)(u:Vec (Fin p))(v:Nat->Vec (Fin p)):∀l:List Nat,g (λj=>sl l λk=>u k*v k j)=λj=>sl l λk=>u k*g (v k) j
 |[]=>L.zero
 |k::l=>by
  have h:=L.lin (λj=>sl l λk=>u k*v k j) (v k)<|u k
  rw[show(λj=>(sl l λk=>u k*v k j)+u k*v k j)=λj=>sl (k::l) λk=>u k*v k j by funext j;show _=u k*v k j+_;grind,we L u v l]at h
  rw[h]
  funext j
  show(sl l λk=>u k*g (v k) j)+u k*g (v k) j=u k*g (v k) j+_;grind
theorem uv{u:Vec (Fin p)}(hs:Supp n u):(λj=>sl (aP n) λk=>u k*toV p (Yi n k) j)=u:=by
 funext j
 by_cases c:j<n
 .rw[jf (k:=j) lw (aV.mpr c) λk hk e=>by rw[X2<|aV.mp hk,T8 λz=>e z.symm];grind]
  rw[X2 c,T9 rfl];grind
 .rw[hs j #[3]]
  exact GE λk hk=>by
   have:=aV.mp hk;rw[X2 this,T8 #[3]];grind
def Uu{B:Type}(h:Row->B)(a:B){k:Nat}(hk:k<n):((units n).map h).getD k a=h (Yi n k):=by
 unfold units;rw[bH,ax,aJ,cp hk];rfl
def Wj{h:Row->Row}{g:Vec (Fin p)->Vec (Fin p)}(M:Mp p n h g):∀t∈(units n).map h,Zd p n t:=λt ht=>by
 obtain⟨r,hr,rfl⟩:=aR.mp ht;exact M.row r<|ZY r hr
def Xz(h:Row->Row):((units n).map h).length=n:=by rw[ay,Vt]
def W9{h:Row->Row}{g:Vec (Fin p)->Vec (Fin p)}(M:Mp p n h g){r:Row}(hr:Zd p n r):Xb p n ((units n).map h) r=h r:=by
 obtain⟨a,b⟩:=XD (r:=r) (Xz h)<|Wj M;refine YB a (M.row r hr)<|b.trans ?_;rw[M.val r hr];have e:=we M.lin (toV p r) (λk=>toV p<|Yi n k)<|aP n
 rw[uv<|Yb hr]at e;rw[e]
 funext j
 exact WZ λk hk=>by
  have hk:=aV.mp hk;rw[Uu h [] hk,M.val _<|Zcb hk]
theorem qI{f:Vec (Fin p)->Vec (Fin p)}(L:Lin n f):∀m,Lin n (it f m)
 |0=>#[λ_ _ _=>rfl,λ_ h=>h]
 |m+1=>#[λu v c=>by
  show it f m (f _)=_;rw[L.lin,(qI L m).lin];rfl,λu h=>jD L (m+1) h]
def Vz{T:List Row}(hl:T.length=n)(hT:∀t∈T,Zd p n t)(m:Nat):Mp p n (itR p n T m) (it (Zau p n T) m):=
 #[qI (wm hl hT) m,λ_ hr=>(GA hl hT m hr).1,λ_ hr=>(GA hl hT m hr).2]
theorem Zaz{T:List Row}(hl:T.length=n)(hT:∀t∈T,Zd p n t){k:Nat}(hk:k<n):Xb p n T (Yi n k)=T.getD k []:=by
 refine YB (XD hl hT).1 (XE hl hT hk)<|(XD hl hT).2.trans ?_
 funext j
 show sl _ _=_;rw[jf (k:=k) lw (aV.mpr hk) λi _ e=>by rw[X2 hk,T8 e];grind]
 rw[X2 hk,T9 rfl];grind
def Vn{T:List Row}(hl:T.length=n)(hT:∀t∈T,Zd p n t):(units n).map (Xb p n T)=T:=by
 refine gj (by rw[Xz,hl]) λk h1 h2=>?_
 have hk:k<n:=by rw[Xz]at h1;exact h1
 have:=Zaz hl hT hk;rw[ax,af h2]at this;have e:=Uu (Xb p n T) [] hk;rw[ax,af h1]at e;exact e.trans this
theorem xy(T:List Row):∀(m:Nat)(r:Row),itR p n T m (Xb p n T r)=Xb p n T (itR p n T m r)
 |0,_=>rfl
 |m+1,r=>xy T m _
theorem yy{q:Nat->Prop}[DecidablePred q]:∀m,1<=m->q m->∃k,1<=k/\k<=m/\q k/\∀j,1<=j->j<k->¬q j
 |m,h1,h=>by
  by_cases c:∃j,1<=j/\j<m/\q j
  .obtain⟨j,a,b,d⟩:=c
   obtain⟨k,k1,k2,k3⟩:=yy j a d;exact#[k,k1,by omega,k3]
  .exact#[m,h1,aF _,h,λj a b d=>c #[j,a,b,d]]
def qA(hn:n<=6)(h1:1<=n){T:List Row}(hl:T.length=n)(hT:∀t∈T,Zd p n t)(hw:(ZU p [] T).length=n) :
  ∃m,1<=m/\m<=p^n/\(∀r,Zd p n r->itR p n T m r=r)/\∀j,1<=j->j<m->(units n).map (itR p n T j)≠units n:=by
 obtain⟨m,m1,m2,m3⟩:=yH hn h1 hl hT hw;obtain⟨k,k1,k2,k3,k4⟩:=yy (q:=λj=>(units n).map (itR p n T j)=units n) m m1 (by
  have:(units n).map (itR p n T m)=(units n).map id:=bP λr hr=>m3 r<|ZY r hr
  rw[this,gR])
 refine#[k,k1,by omega,λr hr=>?_,k4]
 have M:=Vz hl hT k;rw[<-W9 M hr,k3];have I:Mp p n (λr=>r) (λu=>u):=#[#[λ_ _ _=>rfl,λ_ h=>h],λ_ h=>h,λ_ _=>rfl]
 have:=W9 I hr
 rwa [List.map_id' ]at this
def Zge{T:List Row}{W:List Row}(hW:pZ p n W)(hl:T.length=n)(hT:∀t∈T,Zd p n t)(h:∀t∈T,Yp p W t=al)(r:Row):Yp p W (Xb p n T r)=al:=by
 have gen:∀(L:List Nat)(a:Row),(∀k∈L,k<n)->Zd p n a->Yp p W a=al->Yp p W (L.foldl (λacc k=>Zu p acc (T.getD k [])<|gt r k) a)=al:=λL=>by
  induction L with
  |nil=>exact λa _ _ h=>h
  |cons k L ih=>
   intro a hL ha hm;have hk:=XE hl hT<|hL k<|ak ..;refine ih _ (λk h=>hL k<|am _ h) (Zq ha hk)<|wB hW ha hk hm<|h _ ?_
   have:=hL k<|ak ..;rw[ax,af #[3]]
   exact aY ..
 exact gen _ _ (λk hk=>aV.mp hk) ZM<|Gw hW ZM YT
def uT(hn:n<=6){h:Row->Row}{g:Vec (Fin p)->Vec (Fin p)}(M:Mp p n h g)(sur:∀w,Zd p n w->∃u,Zd p n u/\h u=w):(ZU p []<|(units n).map h).length=n:=by
 have sW:=vS<|Wj M;have:=Zfj (p:=p) (n:=n) (WM hn) sW.part ((UD (WM hn) sW.part).mp (bp.mpr λu hu=>by
  obtain⟨x,hx,rfl⟩:=sur u<|ZY u hu;rw[<-W9 M hx];exact Zge sW.part (Xz h) (Wj M) sW.holds x))
 rw[Vt]at this;have:=jH sW.part;omega
def uV(hn:n<=6){T:List Row}{m:Nat}(hl:T.length=n)(hT:∀t∈T,Zd p n t)(m1:1<=m)(hm:∀r,Zd p n r->itR p n T m r=r):(ZU p []<|(units n).map<|itR p n T<|m-1).length=n:=
 uT hn (Vz hl hT<|m-1) λw hw=>#[Xb p n T w,(XD hl hT).1,by
  have:=hm w hw;rw[show m=(m-1)+1 by omega]at this
  exact this]
def qH{T:List Row}{m:Nat}(hl:T.length=n)(hT:∀t∈T,Zd p n t)(m1:1<=m)(hm:∀r,Zd p n r->itR p n T m r=r):T.map (Xb p n<|(units n).map<|itR p n T<|m-1)=units n:=by
 refine(congrArg (pQ _) (Vn hl hT).symm).trans ?_;rw[bH];refine Eq.trans (bP λr hr=>?_)<|gR _
 have h:=ZY (p:=p) r hr;show Xb p n _ (Xb p n T r)=id r;rw[W9 (Vz hl hT<|m-1) (XD hl hT).1];have:=hm r h;rw[show m=(m-1)+1 by omega]at this
 exact this
def uB{P:List Row}(hP:pZ p n P):(WE n P).length=n:=by
 have:=Zat hP;rw[wD hP]at this;unfold WE vj;rw[aU,ay];omega
def uj:WE n []=units n:=by
 unfold WE vj units;rw[fz];exact congrArg _<|List.filter_eq_self.mpr λk _=>rfl
end
end Rw
namespace K73
open Ev Pv Rw La
open Ab (okV Z9)
section
variable{p n:Nat}[Base p]
theorem jU(j:Nat):∀hs:List Nat,Wz (ZX j) (hs.map ZX)=aa (hs.contains j)
 |[]=>rfl
 |h::hs=>by
  show(match eqV ZA (ZX h) (ZX j),Wz (ZX j) (hs.map ZX)with|some a,aa b=>aa (a||b)|_,_=>ag)=_
  rw[jU j hs,nG];show aa (ai ((h:Int)=(j:Int))||hs.contains j)=_;rw[show ai ((h:Int)=(j:Int))=(j == h) by rw[cR];simp;omega]
def zJ{C:Zs}{e:E}{Z:Env}{s:DS}{k:Nat}(h:pv C e Z s=.ok (.int k) s)(hk:k<=6):pv C (.bin .mul (.tup [(.n 0)]) e) Z s=.ok (Zb<|aw k 0) s:=by
 rw[pE7,YW Z3,Za,h,Za];show(if(0:Int)<=k/\(k:Int)<1000/\1<=1000 then PR.ok (V.tup (aw (k:Int).toNat [V.int 0]).flatten) s else .no)=_
 rw[T9 #[by omega,by omega,by omega],cZ,qu];rfl
def ZbE{k:Nat}(hk:k<n):(aw k (0:Int)++[1])++aw (n-k-1) 0=Yi n k:=by
 unfold Yi;refine gj (by simp;omega) λi h1 h2=>?_
 rw[ay,bo]at h2;rw[lG,nN];by_cases c:i<k
 .rw[gG (by simp;omega),gG (by simp;omega),lZ,T8 #[3]]
 .by_cases e:i=k
  .subst e
   rw[gG #[2],kB #[2],T9 rfl];simp
  .rw[kB (by simp;omega),lZ,T8 e]
def sub_int{C:Zs}{a b:E}{Z:Env}{s:DS}{x y:Int}(h1:pv C a Z s=.ok (.int x) s)(h2:pv C b Z s=.ok (.int y) s):pv C (.bin .sub a b) Z s=.ok (.int<|x-y) s:=by rw[pE7,h1,Za,h2,Za];rfl
def ZfG(d:Nat){k:Nat}(s:DS)(hn:n<=6)(hk:k<n):CV (d+1) 16 [.int n,.int k] s=.ok (Zb<|Yi n k) s:=by
 refine Zr rfl #[1] rfl ?_
 show rvs (CV d) [] Qg.body [aa<|.int n,aa<|.int k] [] s=_
 dsimp only[Qg]
 have e1:=zJ (C:=CV d) (e:=.v 1) (Z:=[aa<|.int n,aa<|.int k]) (s:=s) (k:=k) #[10] #[3]
 have e2:=zJ (C:=CV d) (e:=.bin .sub (.bin .sub (.v 0)<|.v 1)<|.n 1) (Z:=[aa<|.int n,aa<|.int k]) (s:=s) (k:=n-k-1) (by
  rw[sub_int (sub_int #[10]<|Ze rfl) Z3,show(n:Int)-k-1=((n-k-1:Nat):Int) by omega]) #[3]
 refine Zn<|ZE ?_;rw[Y8 (Y8 e1 (YW Z3)<|by simp;omega) e2 (by simp;omega)]
 show PR.ok (V.tup<|((aw k (0:Int)).map V.int++[1].map V.int)++(aw (n-k-1) (0:Int)).map V.int) s=_;rw[<-bL,<-bL,ZbE hk];rfl
def QC(d:Nat){P:List Row}(s:DS)(hn:n<=6)(hP:pZ p n P):CV (d+2) 17 [spV p n,Zt P] s=.ok (.tup<|(WE n P).map Zb) s:=by
 have lP:=dsum hP;have hG:=uB hP;refine Zr rfl #[1] rfl ?_
 show rvs (CV<|d+1) [] YM.body [aa<|spV p n,aa<|Zt P,ag,ag,ag] [] s=_
 dsimp only[YM]
 rw[Zh<|YY (p:=p) (n:=n) _ _ (by show pv _ _ _ _=_;exact Ze rfl) #[rfl,rfl]]
 show rvs _ _ _ [aa<|spV p n,aa<|Zt P,aa<|.int p,aa<|.int n,ag] [] s=_;have hc:=Z0 (C:=CV<|d+1) (cap:=[]) (nl:=1) (t:=[0]) (it:=.of<|.v 1) (elt:=.call 8 [(.v 0)]) (Z:=[aa<|spV p n,aa<|Zt P,aa<|.int p,aa<|.int n,ag]) (s:=s) (l:=P) (e:=Zb) (g:=λr=>Gx<|hdI r)
  (by rw[wE7,Ze rfl];rfl) (by unfold lim;omega) (λr _=>#[[aa<|Zb r],rfl,Zw (Zc #[10] Zg)<|GJ d r s])
 rw[ui hP]at hc;rw[Zh<|ZV hc rfl];show rvs _ _ _ [aa<|spV p n,aa<|Zt P,aa<|.int p,aa<|.int n,aa<|.lst<|(ZK P).map ZX] [] s=_;have hf:=VM (C:=CV<|d+1) (cap:=[3,4]) (nl:=1) (t:=[0]) (it:=.rng1<|.v 3) (tst:=.cmp .nin (.v 0)<|.v 2) (elt:=.call 16 [(.v 1),(.v 0)]) (Z:=[aa<|spV p n,aa<|Zt P,aa<|.int p,aa<|.int n,aa<|.lst<|(ZK P).map ZX]) (s:=s) (l:=aP n) (e:=ZX) (g:=λk=>Zb<|Yi n k) (q:=λk=>!(ZK P).contains k)
  (XG #[10]<|by omega) (by rw[bo];unfold lim;omega) (λk hk=>#[[aa<|ZX k,aa<|.int n,aa<|.lst<|(ZK P).map ZX],.bl !(ZK P).contains k,rfl,by
   rw[XR,Ze rfl,Za,Ze rfl,Za];show po ((Wz (ZX k)<|(ZK P).map ZX).map λb=>V.bl !b) s=_
   rw[jU];rfl,rfl,λ_=>Zw (Zc #[10]<|Zc #[10] Zg)<|ZfG d s hn<|aV.mp hk])
 have ht:pv (CV<|d+1) (.blt .tuple [(.comp1 [3,4] 1 [0] (.rng1<|.v 3) [(.cmp .nin (.v 0)<|.v 2)]<|.call 16 [(.v 1),(.v 0)])]) [aa<|spV p n,aa<|Zt P,aa<|.int p,aa<|.int n,aa<|.lst<|(ZK P).map ZX] s=.ok (.tup<|(vj n P).map λk=>Zb<|Yi n k) s:=by
  rw[YI,Zc hf Zg];rfl
 refine Zn<|ZE ?_;rw[Y8 (xs:=P.map Zb) #[10] ht (by
  have h:=hG;unfold WE at h;rw[aU,ay]at h;rw[ay,ay];omega)]
 unfold WE;rw[bL,bH];rfl
def X9(d:Nat){T R:List Row}(s:DS)(hn:n<=6)(hl:T.length=n)(hT:∀t∈T,Zd p n t)(hR:∀r∈R,Zd p n r)(lR:R.length<=6):CV (d+3) 19 [spV p n,.tup<|R.map Zb,.tup<|T.map Zb] s=.ok (.tup<|(R.map<|Xb p n T).map Zb) s:=by
 refine Zr rfl #[1] rfl ?_
 show rvs (CV<|d+2) [] Yy.body [aa<|spV p n,aa<|.tup<|R.map Zb,aa<|.tup<|T.map Zb] [] s=_
 dsimp only[Yy]
 have hc:=Z0 (C:=CV<|d+2) (cap:=[0,2]) (nl:=1) (t:=[0]) (it:=.of<|.v 1) (elt:=.call 18 [(.v 1),(.v 2),(.v 0)]) (Z:=[aa<|spV p n,aa<|.tup<|R.map Zb,aa<|.tup<|T.map Zb]) (s:=s) (l:=R) (e:=Zb) (g:=λr=>Zb<|Xb p n T r)
  (by rw[wE7,Ze rfl];rfl) (by unfold lim;omega) (λr hr=>#[[aa<|Zb r,aa<|spV p n,aa<|.tup<|T.map Zb],rfl,Jk #[10] #[10] #[10]<|xi d s hn hl hT<|hR r hr])
 refine Zn<|ZE ?_;rw[YI,Zc hc Zg,bH];rfl
abbrev YJ(p n:Nat)(T:List Row)(k:Nat):V:=.tup<|((units n).map<|itR p n T k).map Zb
abbrev rE_(p n:Nat)(T:List Row)(k:Nat):Env:=[aa<|spV p n,aa<|.tup<|T.map Zb,aa<|.tup<|(units n).map Zb,aa<|.lst<|(aP k).map<|YJ p n T,aa<|YJ p n T k]
theorem Qd:∀R:List Row,YQ (R.map Zb)=al
 |[]=>rfl
 |r::R=>by
  show(V.flat (Zb r)&&YQ (R.map Zb))=al;rw[UY r,Qd R];rfl
def zQ(R:List Row):V.flat (.tup<|R.map Zb)=al:=Qd R
theorem zH(d:Nat){T:List Row}(s:DS)(hn:n<=6)(hl:T.length=n)(hT:∀t∈T,Zd p n t){m:Nat}(hm:m<=999)(h0:(units n).map (itR p n T m)=units n)(h1:∀j,1<=j->j<m->(units n).map (itR p n T j)≠units n):∀(f k:Nat),1<=k->k<=m->m<k+f->
  Ym (Yv (CV<|d+3)<|.cmp .ne (.v 4)<|.v 2) (rvs (CV<|d+3) [3] [.ex<|.mt .append (.v 3) [(.v 4)],.asg [4]<|.call 19 [(.v 0),(.v 4),(.v 1)]]) f (rE_ p n T k) [3] s=.ok (.nx (rE_ p n T m) [3]) s
 |0,k,_,a,b=>by omega
 |f+1,k,a,b,c=>by
  have e1:=JS (C:=CV<|d+3) (a:=.v 4) (b:=.v 2) (Z:=rE_ p n T k) (s:=s) (P:=(units n).map<|itR p n T k) (Q:=units n) #[10]<|Ze rfl;rw[Ym];by_cases z:k=m
  .subst z
   rw[Y5 e1 rfl,Za,T5 h0];rfl
  .rw[Y5 e1 rfl,Za,T4<|h1 k a #[3]]
   have e2:rv (CV<|d+3) [3] (.ex<|.mt .append (.v 3) [(.v 4)]) (rE_ p n T k) [3] s=.ok (.nx [aa<|spV p n,aa<|.tup<|T.map Zb,aa<|.tup<|(units n).map Zb,aa<|.lst<|(aP<|k+1).map<|YJ p n T,aa<|YJ p n T k] [3]) s:=by
    rw[Zfr,T9 #[7]]
    show(PR.ok ((aP k).map<|YJ p n T) s).bind _=_;rw[Za,Ze rfl,Za,T9 #[zQ _,by rw[ay,bo];unfold lim;omega]]
    rw[List.range_succ,bL];rfl
   have M:=Vz hl hT k;have e3:=X9 d (p:=p) s hn hl hT (Wj M) (by rw[Xz];exact hn)
   have e4:((units n).map<|itR p n T k).map (Xb p n T)=(units n).map (itR p n T<|k+1):=by
    rw[bH];exact bP λr _=>(xy T k r).symm
   rw[e4]at e3;have e5:rvs (CV<|d+3) [3] [.ex<|.mt .append (.v 3) [(.v 4)],.asg [4]<|.call 19 [(.v 0),(.v 4),(.v 1)]] (rE_ p n T k) [3] s=.ok (.nx (rE_ p n T<|k+1) [3]) s:=by
    rw[Zh e2,Zh<|xQ (Jk #[10] #[10] #[10] e3) rfl,rvs];rfl
   show PR.bind (rvs (CV<|d+3) [3] _ (rE_ p n T k) [3] s) _=_;rw[e5,Za];exact zH d s hn hl hT hm h0 h1 f (k+1) #[3] #[3] #[3]
def VN(d:Nat){T:List Row}(s:DS)(hn:n<=6)(hl:T.length=n)(hT:∀t∈T,Zd p n t){m:Nat}(m1:1<=m)(hm:m<=999)(h0:(units n).map (itR p n T m)=units n)(h1:∀j,1<=j->j<m->(units n).map (itR p n T j)≠units n):CV (d+4) 20 [spV p n,.tup<|T.map Zb] s=.ok (.lst<|(aP m).map<|YJ p n T) s:=by
 refine Zr rfl #[1] rfl ?_
 show rvs (CV<|d+3) [3] Xi.body [aa<|spV p n,aa<|.tup<|T.map Zb,ag,ag,ag] [] s=_
 dsimp only[Xi]
 have g:=QC (d+1) (p:=p) s hn<|pZ.nil (n:=n);rw[uj]at g;have t0:pv (CV<|d+3) (.tup []) [aa<|spV p n,aa<|.tup<|T.map Zb,ag,ag,ag] s=.ok (Zt []) s:=by rw[pE3,Zg];rfl
 rw[Zh<|ZV (Ya #[10] t0 g) rfl];have e0:(units n).map (itR p n T 0)=units n:=gR _;have e1:(units n).map (itR p n T 1)=T:=Vn hl hT;rw[Zh (ρ':=[aa<|spV p n,aa<|.tup<|T.map Zb,aa<|.tup<|(units n).map Zb,aa<|.lst [YJ p n T 0],ag]) (os':=[3]) (s':=s) (by
  rw[rE1];show PR.bind (pv _ (.lst [(.v 2)]) [aa<|spV p n,aa<|.tup<|T.map Zb,aa<|.tup<|(units n).map Zb,ag,ag] s) _=_;rw[pE4,Zc #[10] Zg];unfold YJ;rw[e0];exact T9 #[by
   show(V.flat (V.tup<|(units n).map Zb)&&al)=al;rw[zQ];rfl,by show 3<5;omega])]
 rw[Zh<|xQ (v:=YJ p n T 1) (by unfold YJ;rw[e1];exact Ze rfl) rfl]
 rw[Zh (by rw[ZcK];exact zH d s hn hl hT hm h0 h1 1000 1 (aF _) m1 #[3])]
 exact Zn (by rw[rE9];rfl)
def vn(d:Nat){T:List Row}(s:DS)(hn:n<=6)(hl:T.length=n)(hT:∀t∈T,Zd p n t)(hw:(ZU p [] T).length=n){m:Nat}(m1:1<=m)(hm:m<=999)(h0:(units n).map (itR p n T m)=units n)(h1:∀j,1<=j->j<m->(units n).map (itR p n T j)≠units n):CV (d+8) 21 [spV p n,.tup<|T.map Zb] s=.ok (YJ p n T<|m-1) s:=by
 refine Zr rfl #[1] rfl ?_
 show rvs (CV<|d+7) [] yL.body [aa<|spV p n,aa<|.tup<|T.map Zb] [] s=_
 dsimp only[yL]
 rw[Zh<|zo<|Ya #[10] #[10]<|Wr d s hn hl hT hw];refine Zn<|ZE ?_;have e:=Ya (C:=CV<|d+7) (x:=.v 0) (y:=.v 1) (Z:=[aa<|spV p n,aa<|.tup<|T.map Zb]) #[10] #[10]<|VN (d+3) s hn hl hT m1 hm h0 h1;have n1:pv (CV<|d+7) (.neg<|.n 1) [aa<|spV p n,aa<|.tup<|T.map Zb] s=.ok (.int<|-1) s:=by rw[pE8,Z3];rfl
 rw[WA,e,Za,n1,Za];show po (at' ((aP m).map<|YJ p n T)<|-1) s=_;have:at' ((aP m).map<|YJ p n T) (-1)=aa (YJ p n T<|m-1):=by
  unfold at' ixN;rw[ay,bo,T8 #[3],T9 #[3]]
  show((aP m).map<|YJ p n T)[(-1+(m:Int)).toNat]?=_;rw[show(-1+(m:Int)).toNat=m-1 by omega,aJ,cp #[3]];rfl
 rw[this];rfl
def Zdt{T:List Row}{m:Nat}(h:∀r,Zd p n r->itR p n T m r=r):(units n).map (itR p n T m)=units n:=by
 have:(units n).map (itR p n T m)=(units n).map id:=bP λr hr=>h r<|ZY r hr
 rw[this,gR]
end
def J5{C:Zs}{ms:List Nat}{Z ρ':Env}{s s1 s2:DS}{i j:Nat}{e f:E}{u v:V}(h1:pv C e Z s=.ok u s1)(h2:pv C f Z s1=.ok v s2)(hf:YR [i,j] [u,v] Z=aa ρ'):rv C ms (.par [i,j] [e,f]) Z [] s=.ok (.nx ρ' []) s2:=by
 rw[rE3];show(pvs C [e,f] Z s).bind _=_;rw[Zc h1<|Zc h2 Zg,Za,T8 #[2],hf];rfl
section
variable{p n:Nat}[Base p]
def ZfN(d:Nat){T R:List Row}(s:DS)(hn:n<=6)(hl:T.length=n)(hT:∀t∈T,Zd p n t)(hw:(ZU p [] T).length=n)(hl':R.length=n)(hR:∀t∈R,Zd p n t)(hw':(ZU p [] R).length=n):CV (d+8) 37 [spV p n,.tup<|R.map Zb,.tup<|T.map Zb] s=.ok (.tup<|(R.map<|Xb p n T).map Zb) s:=by
 refine Zr rfl #[1] rfl ?_
 dsimp only[UU]
 rw[Zh<|zo<|Ya #[10] #[10]<|Wr d s hn hl' hR hw',Zh<|zo<|Ya #[10] #[10]<|Wr d s hn hl hT hw];exact Zn<|ZE<|Jk #[10] #[10] #[10]<|X9 (d+4) s hn hl hT hR #[3]
def Zc8(d:Nat){x y:V}(s:DS)(hn:n<=6)(hx:okV x=al)(hy:okV y=al)(h:ZH p n x=aj\/ZH p n x=al/\ZH p n y=aj):CV (d+8) 37 [spV p n,x,y] s=.ex 7 s:=by
 have e1:=Xa (p:=p) d s hn hx;have e2:=Xa (p:=p) d s hn hy;refine V6 rfl #[1] rfl ?_
 dsimp only[UU]
 rcases h with h|⟨h,h'⟩
 .rw[T8<|by rw[h];simp]at e1
  exact Gz<|GN<|X5 (Zc #[10]<|Zc #[10] Zg) e1
 .rw[T9 h]at e1
  rw[T8<|by rw[h'];simp]at e2
  rw[Zh<|zo<|Ya #[10] #[10] e1];exact Gz<|GN<|X5 (Zc #[10]<|Zc #[10] Zg) e2
def ZgU(d:Nat){x:V}(s:DS)(hn:n<=6)(hx:okV x=al)(h:ZH p n x=aj):CV (d+8) 21 [spV p n,x] s=.ex 7 s:=by
 have e1:=Xa (p:=p) d s hn hx;rw[T8<|by rw[h];simp]at e1
 refine V6 rfl #[1] rfl ?_
 exact Gz<|GN<|X5 (Zc #[10]<|Zc #[10] Zg) e1
def vW(d:Nat){x:V}(s:DS)(hn:n<=6)(hx:okV x=al)(h:ZH p n x=aj):CV (d+8) 33 [spV p n,x] s=.ex 7 s:=by
 have e1:=Xa (p:=p) d s hn hx;rw[T8<|by rw[h];simp]at e1
 refine V6 rfl #[1] rfl ?_
 exact Gz<|GN<|X5 (Zc #[10]<|Zc #[10] Zg) e1
def GY(d:Nat){T:List Row}(s:DS)(hn:n<=6)(hl:T.length=n)(hT:∀t∈T,Zd p n t)(hw:(ZU p [] T).length=n){m:Nat}(m1:1<=m)(hm:m<=999)(h0:(units n).map (itR p n T m)=units n)(h1:∀j,1<=j->j<m->(units n).map (itR p n T j)≠units n):CV (d+8) 33 [spV p n,.tup<|T.map Zb] s=.ok (.int m) s:=by
 refine Zr rfl #[1] rfl ?_
 dsimp only[UO]
 rw[Zh<|zo<|Ya #[10] #[10]<|Wr d s hn hl hT hw];refine Zn<|ZE ?_;rw[YI,Zc (Ya #[10] #[10]<|VN (d+3) s hn hl hT m1 hm h0 h1) Zg,Za];show po (aa<|V.int ((aP m).map<|YJ p n T).length) s=_;rw[ay,bo];rfl
def WL(d:Nat){T R:List Row}(s:DS)(hn:n<=6)(hl:T.length=n)(hT:∀t∈T,Zd p n t)(hR:∀r∈R,Zd p n r)(lR:R.length<=6):CV (d+3) 35 [spV p n,.tup<|R.map Zb,.tup<|T.map Zb] s=.ok (.tup<|(R.map<|Xb p n T).map Zb) s:=by
 refine Zr rfl #[1] rfl ?_
 show rvs (CV<|d+2) [] Xh.body [aa<|spV p n,aa<|.tup<|R.map Zb,aa<|.tup<|T.map Zb] [] s=_
 dsimp only[Xh]
 have hc:=Z0 (C:=CV<|d+2) (cap:=[0,2]) (nl:=1) (t:=[0]) (it:=.of<|.v 1) (elt:=.call 34 [(.v 1),(.v 2),(.v 0)]) (Z:=[aa<|spV p n,aa<|.tup<|R.map Zb,aa<|.tup<|T.map Zb]) (s:=s) (l:=R) (e:=Zb) (g:=λr=>Zb<|Xb p n T r)
  (by rw[wE7,Ze rfl];rfl) (by unfold lim;omega) (λr hr=>#[[aa<|Zb r,aa<|spV p n,aa<|.tup<|T.map Zb],rfl,Jk #[10] #[10] #[10]<|Zb9 d s hn hl hT<|hR r hr])
 refine Zn<|ZE ?_;rw[YI,Zc hc Zg,bH];rfl
def QO(d:Nat){Z:Env}{i:Nat}(s:DS)(hn:n<=6)(h:Z[i]?=aa (aa<|spV p n)):pv (CV<|d+1) (.blt .tuple [(.call 26 [(.v i)])]) Z s=.ok (.tup<|(units n).map Zb) s:=by
 rw[YI,Zc (Zw (Zc (Ze h) Zg)<|VI d s hn) Zg];rfl
theorem Vi(d:Nat){T:List Row}(s:DS)(hn:n<=6)(hl:T.length=n)(hT:∀t∈T,Zd p n t){m:Nat}(h0:(units n).map (itR p n T m)=units n)(h1:∀j,1<=j->j<m->(units n).map (itR p n T j)≠units n):∀(f k:Nat),1<=k->k<=m->m<k+f->
  Ym (Yv (CV<|d+3)<|.cmp .ne (.v 2)<|.blt .tuple [(.call 26 [(.v 0)])]) (rvs (CV<|d+3) [] [.par [2,3] [(.call 35 [(.v 0),(.v 2),(.v 1)]),(.bin .add (.v 3)<|.n 1)]]) f [aa<|spV p n,aa<|.tup<|T.map Zb,aa<|YJ p n T k,aa<|.int k] [] s=.ok (.nx [aa<|spV p n,aa<|.tup<|T.map Zb,aa<|YJ p n T m,aa<|.int m] []) s
 |0,k,_,a,b=>by omega
 |f+1,k,a,b,c=>by
  have e1:=JS (C:=CV<|d+3) (a:=.v 2) (b:=.blt .tuple [(.call 26 [(.v 0)])]) (Z:=[aa<|spV p n,aa<|.tup<|T.map Zb,aa<|YJ p n T k,aa<|.int k]) (s:=s) (P:=(units n).map<|itR p n T k) (Q:=units n) #[10]<|QO (d+2) s hn rfl;rw[Ym];by_cases z:k=m
  .subst z
   rw[Y5 e1 rfl,Za,T5 h0];rfl
  .rw[Y5 e1 rfl,Za,T4<|h1 k a #[3]]
   have M:=Vz hl hT k;have e3:=WL d (p:=p) s hn hl hT (Wj M) (by rw[Xz];exact hn)
   have e4:((units n).map<|itR p n T k).map (Xb p n T)=(units n).map (itR p n T<|k+1):=by
    rw[bH];exact bP λr _=>(xy T k r).symm
   rw[e4]at e3;have e5:rvs (CV<|d+3) [] [.par [2,3] [(.call 35 [(.v 0),(.v 2),(.v 1)]),(.bin .add (.v 3)<|.n 1)]] [aa<|spV p n,aa<|.tup<|T.map Zb,aa<|YJ p n T k,aa<|.int k] [] s=.ok (.nx [aa<|spV p n,aa<|.tup<|T.map Zb,aa<|YJ p n T<|k+1,aa<|.int (k+1:Nat)] []) s:=by
    rw[Zh<|J5 (Jk #[10] #[10] #[10] e3) (yk #[10] Z3) rfl,rvs];rfl
   show PR.bind (rvs (CV<|d+3) [] _ _ [] s) _=_;rw[e5,Za];exact Vi d s hn hl hT h0 h1 f (k+1) #[3] #[3] #[3]
def v9(d:Nat){T:List Row}(s:DS)(hn:n<=6)(hl:T.length=n)(hT:∀t∈T,Zd p n t){m:Nat}(m1:1<=m)(hm:m<=999)(h0:(units n).map (itR p n T m)=units n)(h1:∀j,1<=j->j<m->(units n).map (itR p n T j)≠units n):CV (d+4) 36 [spV p n,.tup<|T.map Zb] s=.ok (.int m) s:=by
 refine Zr rfl #[1] rfl ?_
 show rvs (CV<|d+3) [] Xw.body [aa<|spV p n,aa<|.tup<|T.map Zb,ag,ag] [] s=_
 dsimp only[Xw]
 have e1:(units n).map (itR p n T 1)=T:=Vn hl hT;rw[Zh<|J5 (u:=YJ p n T 1) (by unfold YJ;rw[e1];exact Ze rfl) Z3 rfl]
 rw[Zh (by rw[ZcK];exact Vi d s hn hl hT h0 h1 1000 1 (aF _) m1 #[3])]
 exact Zn<|ZE<|Ze rfl
end
noncomputable def qC:List Sm:=[.ite (.not<|.call 32 [(.call 37 [(.v 3),(.ix (.v 6)<|.n 0),(.ix (.v 6)<|.n 1)]),(.call 35 [(.v 3),(.ix (.v 6)<|.n 0),(.ix (.v 6)<|.n 1)])]) #[12] []]
noncomputable def noB:List Sm:=[.ite (.cmp .ne (.refu aj<|.call 37 [(.v 3),(.ix (.v 6)<|.n 0),(.ix (.v 6)<|.n 1)])<|.n 6) #[12] []]
def wl:List Sm:=[.asg [3]<|.call 3 [(.v 2),(.ix (.lst [(.n 27),(.n 125)])<|.blt .toInt [(.cmp .eq (.v 1)<|.n 0)])],
  .par [4,5] [(.call 27 [(.v 2),(.v 3)]),(.call 27 [(.v 2),(.v 3)])],
  .forr [6] (.of<|.lst [(.tup [(.v 4),(.v 5)]),(.tup [(.v 5),(.v 4)]),(.tup [(.v 4),(.v 4)])]) qC,
  .asg [7] (.call 21 [(.v 3),(.v 4)]),
  .ite (.or (.not<|.call 30 [(.v 3),(.v 7)])<|.cmp .ne (.call 35 [(.v 3),(.v 4),(.v 7)])<|.blt .tuple [(.call 26 [(.v 3)])]) #[12] [],
  .ite (.not<|.call 32 [(.call 33 [(.v 3),(.v 4)]),(.call 36 [(.v 3),(.v 4)])]) #[12] [],
  .asg [8] (.call 31 [(.v 2),(.v 3)]),
  .forr [6] (.of<|.lst [(.tup [(.v 8),(.v 4)]),(.tup [(.v 4),(.v 8)]),(.tup [(.v 8),(.v 8)])]) noB,
  .ite (.cmp .ne (.refu aj<|.call 21 [(.v 3),(.v 8)])<|.n 6) #[12] [],
  .ite (.cmp .ne (.refu aj<|.call 33 [(.v 3),(.v 8)])<|.n 6) #[12] []]
abbrev kE(o:Option V)(k p n:Nat)(x4 x5 x6 x7 x8:Option V):Env:=[o,aa<|.int k,aa .drw,aa<|spV p n,x4,x5,x6,x7,x8]
def qf:∀q∈Xg,q.1^q.2<=999:=by decide +kernel
def QL{C:Zs}{Z:Env}{s:DS}{a b:E}{x y:V}(h1:pv C a Z s=.ok x s)(h2:pv C b Z s=.ok y s):pv C (.tup [a,b]) Z s=.ok (.tup [x,y]) s:=by
 rw[pE3,Zc h1<|Zc h2 Zg];rfl
def ixt{C:Zs}{a b:E}{Z:Env}{s:DS}{xs:List V}{v:V}{k:Nat}(h1:pv C a Z s=.ok (.tup xs) s)(h2:pv C b Z s=.ok (.int k) s)(hk:xs[k]?=aa v):pv C (.ix a b) Z s=.ok v s:=by
 rw[WA,h1,Za,h2,Za];show po (at' xs (k:Int)) s=_;rw[WF hk];rfl
def JH{C:Zs}{Z:Env}{s:DS}{x y z:V}(h:Z[3]?=aa (aa z))(h2:Z[6]?=aa (aa<|.tup [x,y])):pvs C [(.v 3),(.ix (.v 6)<|.n 0),(.ix (.v 6)<|.n 1)] Z s=.ok [z,x,y] s:=Zc (Ze h)<|Zc (ixt (k:=0) (Ze h2) Z3 rfl)<|Zc (ixt (k:=1) (Ze h2) Z3 rfl) Zg
section
variable{p n:Nat}[Base p]
def Zdf(d:Nat){o x5 x6 x7:Option V}{k:Nat}{T:List Row}{t:V}(s:DS)(hn:n<=6)(hl:T.length=n)(hT:∀t∈T,Zd p n t)(hw:(ZU p [] T).length=n)(ht:okV t=al)(ht0:ZH p n t=aj) :
  ∃Z s',rvs (CV<|d+8) [] (wl.drop 7) (kE o k p n #[22] x5 x6 x7<|aa t) [] s=.ok (.nx Z []) s'/\Z[0]?=aa o/\Z.length=9:=by
 have hTt:ZH p n (.tup<|T.map Zb)=al:=by rw[YX hl hT];exact T5 hw
 obtain⟨ρ',s8,⟨_,y6,rfl⟩,e8⟩:=J2 (C:=CV<|d+8) (ms:=[]) (os:=[]) (t:=[6]) (it:=.of<|.lst [(.tup [(.v 8),(.v 4)]),(.tup [(.v 4),(.v 8)]),(.tup [(.v 8),(.v 8)])]) (b:=noB) (L:=[(t,V.tup<|T.map Zb),(V.tup<|T.map Zb,t),(t,t)]) (e:=λq=>V.tup [q.1,q.2]) (s:=s) (s0:=s) (Z:=kE o k p n #[22] x5 x6 x7<|aa t)
  (λl Z=>(∀q∈l,okV q.1=al/\okV q.2=al/\(ZH p n q.1=aj\/ZH p n q.1=al/\ZH p n q.2=aj))/\∃y6,Z=kE o k p n #[22] x5 y6 x7 (aa t))
  (by
   show pvw _ _ (kE o k p n #[22] x5 x6 x7<|aa t) s=_;rw[wE7,pE4,Zc (QL #[10]<|Ze rfl)<|Zc (QL #[10]<|Ze rfl)<|Zc (QL #[10]<|Ze rfl) Zg];rfl)
  #[λq hq=>by
   simp only[az,bu,or_false]at hq;rcases hq with rfl|rfl|rfl
   .exact#[ht,Ug T,.inl ht0]
   .exact#[Ug T,ht,.inr #[hTt,ht0]]
   .exact#[ht,ht,.inl ht0],x6,rfl] rfl (λq l Z s hI=>by
   obtain⟨hq,y6,rfl⟩:=hI;obtain⟨a,b,c⟩:=hq q<|ak ..;refine#[kE o k p n #[22] x5 (aa<|.tup [q.1,q.2]) x7<|aa t,kE o k p n #[22] x5 (aa<|.tup [q.1,q.2]) x7<|aa t,s,rfl,?_,λq h=>hq q<|am _ h,_,rfl]
   unfold noB;rw[guard (GG (i:=6) (JH rfl rfl) (Zc8 d s hn a b c) #[by decide,by decide] rfl),rvs])
 have as:pvs (CV<|d+8) [(.v 3),(.v 8)] (kE o k p n #[22] x5 y6 x7<|aa t) s8=.ok [spV p n,t] s8:=Zc #[10]<|Zc #[10] Zg;refine#[kE o k p n #[22] x5 y6 x7<|aa t,s8,?_,rfl,rfl];show rvs _ _ (.forr [6] _ noB :: .ite (.cmp .ne (.refu aj<|.call 21 [(.v 3),(.v 8)])<|.n 6) #[12] [] :: .ite (.cmp .ne (.refu aj<|.call 33 [(.v 3),(.v 8)])<|.n 6) #[12] []::[]) _ _ _=_;rw[Zh e8,guard (GG (i:=6) as (ZgU d s8 hn ht ht0) #[by decide,by decide] rfl),guard (GG (i:=6) as (vW d s8 hn ht ht0) #[by decide,by decide] rfl),rvs]
end
def Zac(d:Nat)(o:Option V)(k:Nat)(s:DS):∃Z os s',rvs (CV<|d+8) [] wl (o::aa (.int k)::aa .drw::aw 6 ag) [] s=.ok (.nx Z os) s'/\Z[0]?=aa o/\Z.length=9:=by
 have e0:∃m,pv (CV<|d+8) (.ix (.lst [(.n 27),(.n 125)])<|.blt .toInt [(.cmp .eq (.v 1)<|.n 0)]) (o::aa (.int k)::aa .drw::aw 6 ag) s=.ok (.int m) s:=by
  by_cases c:(k:Int)=0
  .have c':k=0:=by omega
   exact#[125,by simp[pvE,c',ZA,b2i,at',ixN]]
  .have c':k≠0:=by omega
   exact#[27,by simp[pvE,c',ZA,b2i,at',ixN]]
 obtain⟨m,e0⟩:=e0;obtain⟨⟨p,n⟩,s1,e1,hq⟩:=uY (d+6) s;obtain⟨hb,h1,hn,hp⟩:=J1 _ hq
 haveI:Base p:=⟨hb⟩
 have hn:n<=6:=hn;have h1:1<=n:=h1;have hp:p^n<=1000:=hp;have hp9:=qf _ hq;have hp9:p^n<=999:=hp9;obtain⟨T,s2,e2,hl,hT,hw⟩:=Qw (d+5) (p:=p) (n:=n) s1 hn h1 hp;obtain⟨R,s3,e3,hl',hR,hw'⟩:=Qw (d+5) (p:=p) (n:=n) s2 hn h1 hp;obtain⟨ρ',s4,⟨_,x6,rfl⟩,e4⟩:=J2 (C:=CV<|d+8) (ms:=[]) (os:=[]) (t:=[6]) (it:=.of<|.lst [(.tup [(.v 4),(.v 5)]),(.tup [(.v 5),(.v 4)]),(.tup [(.v 4),(.v 4)])]) (b:=qC) (L:=[(T,R),(R,T),(T,T)]) (e:=λq=>V.tup [.tup<|q.1.map Zb,.tup<|q.2.map Zb]) (s:=s3) (s0:=s3) (Z:=kE o k p n #[22] (aa<|.tup<|R.map Zb) ag ag ag)
  (λl Z=>(∀q∈l,(q.1=T\/q.1=R)/\(q.2=T\/q.2=R))/\∃x6,Z=kE o k p n #[22] (aa<|.tup<|R.map Zb) x6 ag ag)
  (by
   show pvw _ _ (kE o k p n #[22] (aa<|.tup<|R.map Zb) ag ag ag) s3=_;rw[wE7,pE4,Zc (QL #[10]<|Ze rfl)<|Zc (QL #[10]<|Ze rfl)<|Zc (QL #[10]<|Ze rfl) Zg];rfl)
  #[λq hq=>by
   simp only[az,bu,or_false]at hq;rcases hq with rfl|rfl|rfl<;>simp,ag,rfl] rfl (λq l Z s hI=>by
   obtain⟨hq,x6,rfl⟩:=hI;have two:∀{A B:List Row},(A=T\/A=R)->(B=T\/B=R)->(A.length=n/\(∀t∈A,Zd p n t)/\(ZU p [] A).length=n)/\B.length=n/\(∀t∈B,Zd p n t)/\(ZU p [] B).length=n:=λ{A B} h1 h2=>by
    rcases h1 with rfl|rfl<;>rcases h2 with rfl|rfl<;>exact#[#[by assumption,by assumption,by assumption],by assumption,by assumption,by assumption]
   obtain⟨⟨a1,a2,a3⟩,b1,b2,b3⟩:=two (hq q<|ak ..).1 (hq q<|ak ..).2;refine#[kE o k p n #[22] (aa<|.tup<|R.map Zb) (aa<|.tup [.tup<|q.1.map Zb,.tup<|q.2.map Zb]) ag ag,kE o k p n #[22] (aa<|.tup<|R.map Zb) (aa<|.tup [.tup<|q.1.map Zb,.tup<|q.2.map Zb]) ag ag,s,rfl,?_,λq h=>hq q<|am _ h,_,rfl]
   unfold qC;rw[guard (Vx (Ya (Zw (JH rfl rfl)<|ZfN d s hn b1 b2 b3 a1 a2 a3) (Zw (JH rfl rfl)<|WL (d+5) s hn b1 b2 a2<|by omega) (uX (d+5) s (by rw[ay];omega) λr hr=>by
    obtain⟨x,hx,rfl⟩:=aR.mp hr;rw[(XD b1 b2).1.1];omega))),rvs])
 obtain⟨m,m1,m2,m3,m4⟩:=qA hn h1 hl hT hw;have m0:=Zdt m3;have e7:=vn d s4 hn hl hT hw m1 #[3] m0 m4
 have r7:=GY d s4 hn hl hT hw m1 #[3] m0 m4
 have l7:=v9 (d+4) s4 hn hl hT m1 #[3] m0 m4
 have M:=Vz hl hT<|m-1;have hF:=Wj M;have lF:=Xz (n:=n)<|itR p n T<|m-1;have wF:=uV hn hl hT m1 m3;have bF:=qH hl hT m1 m3;unfold YJ at e7;generalize (units n).map (itR p n T<|m-1)=F at e7 hF lF wF bF;have t7:=VY (d+5) (p:=p) s4 hn h1 #[3]<|Ug F
 rw[YX lF hF,T5 wF]at t7;have b7:=WL (d+5) s4 hn lF hF hT #[3]
 rw[bF]at b7;obtain⟨t,s5,e5,ht,ht0⟩:=zR (d+4) s4 hn h1 hp hq;obtain⟨Z,s',f1,f2⟩:=Zdf d (o:=o) (x5:=aa<|.tup<|R.map Zb) (x6:=x6) (x7:=aa<|.tup<|F.map Zb) (k:=k) s5 hn hl hT hw ht ht0;refine#[Z,[],s',?_,f2];unfold wl;rw[Zh<|ZV (Zw (Zc #[10]<|Zc e0 Zg) e1) rfl];rw[Zh<|J5 (Zw (Zc #[10]<|Zc #[10] Zg) e2) (Zw (Zc #[10]<|Zc #[10] Zg) e3) rfl];show rvs _ _ _ (kE o k p n #[22] (aa<|.tup<|R.map Zb) ag ag ag) [] s3=_;rw[Zh e4,Zh<|ZV (Ya #[10] #[10] e7) rfl]
 show rvs _ _ _ (kE o k p n #[22] (aa<|.tup<|R.map Zb) x6 (aa<|.tup<|F.map Zb) ag) [] s4=_;rw[guard<|jb (Vx<|Ya #[10] #[10] t7)<|Zbz (Jk #[10] #[10] #[10] b7) (QO (d+7) s4 hn rfl) rfl];rw[guard<|Vx<|Ya (Ya #[10] #[10] r7) (Ya #[10] #[10] l7)<|GV (d+7) m s4];rw[Zh<|ZV (Zw (Zc #[10]<|Zc #[10] Zg) e5) rfl];exact f1
def j9(d:Nat)(Z:Env)(s:DS):pv (CV<|d+8) (.and (.cmp .eq (.call 21 [(.tup [(.n 5),(.n 1)]),(.tup [(.tup [(.n 2)])])])<|.tup [(.tup [(.n 3)])])<|.cmp .eq (.call 33 [(.tup [(.n 5),(.n 1)]),(.tup [(.tup [(.n 2)])])])<|.n 4) Z s=.ok (.bl al) s:=by
 haveI:Base 5:=⟨.inr<|.inr rfl⟩
 have sp:pv (CV<|d+8) (.tup [(.n 5),(.n 1)]) Z s=.ok (spV 5 1) s:=by simp[pvE,ofD,spV]
 have t1:pv (CV<|d+8) (.tup [(.tup [(.n 2)])]) Z s=.ok (.tup<|[[2]].map Zb) s:=by simp[pvE,ofD,Zb]
 have t2:pv (CV<|d+8) (.tup [(.tup [(.n 3)])]) Z s=.ok (Zt [[3]]) s:=by simp[pvE,ofD,Zt,Zb]
 have hT:∀t∈[([2]:Row)],Zd 5 1 t:=λt ht=>by
  rw[a8.mp ht];exact#[rfl,λa ha=>by simp at ha;omega]
 have h4:∀j,1<=j->j<4->(units 1).map (itR 5 1 [[2]] j)≠units 1:=λj a b=>by
  obtain rfl|rfl|rfl:j=1\/j=2\/j=3:=by omega
  all_goals decide +kernel
 have e:=vn (n:=1) (T:=[[2]]) (m:=4) d s #[3] rfl hT (by decide +kernel) #[3] #[3] (by decide +kernel) h4
 have e':=GY (n:=1) (T:=[[2]]) (m:=4) d s #[3] rfl hT (by decide +kernel) #[3] #[3] (by decide +kernel) h4
 rw[show YJ 5 1 [[2]] (4-1)=Zt [[3]] by
  show V.tup (((units 1).map<|itR 5 1 [[2]] 3).map Zb)=_;rw[show(units 1).map (itR 5 1 [[2]] 3)=[[3]] by decide +kernel];rfl]at e
 rw[ZeU (Zcn (Ya sp t1 e) t2)<|ZcJ (Ya sp t1 e') Z3,T5 rfl];rfl
def law_ok(ns:List Int)(s:DS):∃S,CV 63 39 [.scr ns] s=.ok (.bl al) S:=
 Lv.law_ofR (B:=wl) 60 #[1] #[1] #[1] rfl rfl rfl #[1] (λZ s=>j9 54 Z s) (λo k s=>Zac 54 o k s) ns s
end K73
namespace K73
open PySem PySem.Spec PyProof.Rows L2 Sd Gn
open Sd (yv xP qM qY wj jC ZdD j8 Zab wO wA Zbm jO wg Jg u9 qF Zaw xE w4 wU vD vB JD yd wK vA Q8 Zbb)
def Zg6(s:ef):bn:=match s with|.FunctionDef x _ _ _ _ _ _ _ _ _=>x|_=>""
def top(i:Nat):ef:=PySem.Challenge.pw_fewspaces_k73_turns_behind_and_back.main.body.getD i<|.Pass #[0,0,0,0]
abbrev R(i m k:Nat):FR:=#[Zg6<|top i,top i,((Zf<|top i).names.map (·.1)).take m,k]
abbrev r0:=R 36 2 2
abbrev r1:=R 37 3 2
abbrev r2:=R 38 4 2
abbrev r3:=R 40 3 2
abbrev r4:=R 13 3 3
abbrev r5:=R 21 4 2
abbrev r6:=R 17 4 4
abbrev r7:=R 19 4 4
abbrev r8:=R 14 3 1
abbrev r9:=R 24 7 3
abbrev r10:=R 16 3 3
abbrev r11:=R 18 3 2
abbrev r12:=R 23 9 3
abbrev r13:=R 22 5 3
abbrev r14:=R 26 4 2
abbrev r15:=R 27 2 2
abbrev r16:=R 15 2 2
abbrev r17:=R 34 5 2
abbrev r18:=R 28 8 3
abbrev r19:=R 30 3 3
abbrev r20:=R 33 5 2
abbrev r21:=R 31 2 2
abbrev r22:=R 49 6 3
abbrev r23:=R 41 4 4
abbrev r24:=R 55 7 3
abbrev r25:=R 43 6 2
abbrev r26:=R 50 1 1
abbrev r27:=R 51 8 2
abbrev r28:=R 47 3 3
abbrev r29:=R 48 2 2
abbrev r30:=R 54 3 2
abbrev r31:=R 56 4 2
abbrev r32:=R 57 2 2
abbrev r33:=R 32 2 2
abbrev r34:=R 52 5 3
abbrev r35:=R 58 3 3
abbrev r36:=R 59 4 2
abbrev r37:=R 29 3 3
abbrev r38:=R 39 4 1
abbrev r39:FR:=#["law",top 60,["_law_script","_law_k","_law_state_here","_law_space_here","_law_one","_law_other","_law_pair","_law_found","_law_bad"],1]
noncomputable abbrev rL:FR:=r39
abbrev fs:List FR:=[r0,r1,r2,r3,r4,r5,r6,r7,r8,r9,r10,r11,r12,r13,r14,r15,r16,r17,r18,r19,r20,r21,r22,r23,r24,r25,r26,r27,r28,r29,r30,r31,r32,r33,r34,r35,r36,r37,r38]
abbrev zs:List bn:=["all","bool","dict","enumerate","int","isinstance","len","list","max","min","range","sorted","sum","tuple","zip","ValueError"]
abbrev gs:List (bn×Gv):=[]
noncomputable def pp(k:Nat):fD:=([#[135,7,135,17],#[135,21,135,25],#[135,7,135,25],#[136,15,136,19],#[136,8,136,19],#[135,4,136,19],#[137,4,137,14],#[137,17,137,114],#[137,4,137,114],#[138,4,138,14],#[138,17,138,27],#[138,30,138,129],#[138,17,138,129],#[138,4,138,129],#[139,4,139,14],#[139,17,139,27],#[139,30,139,126],#[139,17,139,126],#[139,4,139,126],#[140,4,140,14],#[140,4,140,54],#[141,7,141,45],#[141,7,141,101],#[142,16,142,17],#[142,15,142,17],#[142,8,142,17],#[141,4,142,17],#[143,11,143,21],#[143,28,143,32],#[143,4,143,33],#[140,4,140,21],#[140,4,140,54],#[143,11,143,27],#[143,11,143,33],#[0,0,0,0],#[0,0,0,0],#[0,0,0,0],#[0,0,0,0],#[0,0,0,0],#[0,0,0,0],#[137,18,137,28],#[137,29,137,39],#[137,41,137,46],#[137,18,137,47],#[137,49,137,59],#[137,60,137,70],#[137,72,137,78],#[137,49,137,79],#[137,81,137,91],#[137,92,137,102],#[137,104,137,112],#[137,81,137,113],#[138,31,138,41],#[138,42,138,52],#[138,54,138,61],#[138,31,138,62],#[138,64,138,74],#[138,75,138,85],#[138,87,138,96],#[138,64,138,97],#[138,99,138,109],#[138,110,138,120],#[138,122,138,127],#[138,99,138,128],#[139,31,139,41],#[139,42,139,52],#[139,54,139,60],#[139,31,139,61],#[139,63,139,73],#[139,74,139,84],#[139,86,139,91],#[139,63,139,92],#[139,94,139,104],#[139,105,139,115],#[139,117,139,124],#[139,94,139,125],#[140,22,140,32],#[140,33,140,43],#[140,45,140,52],#[140,22,140,53],#[141,11,141,21],#[141,22,141,32],#[141,34,141,44],#[141,11,141,45],#[0,0,0,0],#[0,0,0,0],#[0,0,0,0],#[0,0,0,0],#[0,0,0,0],#[0,0,0,0],#[130,4,130,14],#[130,17,130,21],#[130,4,130,21],#[132,8,132,17],#[132,8,132,19],#[132,8,132,19],#[133,11,133,21],#[134,8,134,18],#[134,21,134,22],#[134,8,134,22],#[133,4,134,22],#[131,4,134,22],#[0,0,0,0],#[0,0,0,0],#[0,0,0,0],#[0,0,0,0],#[0,0,0,0],#[0,0,0,0],#[0,0,0,0],#[0,0,0,0],#[0,0,0,0],#[0,0,0,0]]:List fD).getD k #[0,0,0,0]
noncomputable abbrev jE{X xw C e}(i:Ev.E):=Sd.CE X xw C e i
noncomputable abbrev jF{X xw C e}(i:Ev.E):=Sd.CF X xw C e i
noncomputable abbrev jT{X xw C e}(i:Ev.E):=Sd.CT X xw C e i
noncomputable abbrev jS{X xw a C b e}(i:Ev.Sm):=Sd.CS X xw a C b e i
def okl:OkX fs zs gs fns tk sn 0 fs (fns.take 39)/\ZgZ aj fs zs gs fns tk 38 r38.st/\BdR aj fs zs gs fns tk sn 38 r38.st rL Zd1:=by
 refine#[?a,?b,?c]
 case' a=>repeat'(first|exact dJ|refine#[#[rfl,rfl,by decide +kernel,?_],?_]|exact ji|intro P w K mg base cl f fd d T L h hn cdv A outer s H E hr hu)
 case' b=>intro P w K mg base f fd d T hn cdv A outer s H hu;unfold Sd.ksum
 case' c=>intro P w K mg base cl f fd fL c Pt d T L h RA hn hC hB hP A outer s H E hp hr hr0 hu
 all_goals
 (repeat'(first
 |(with_reducible refine (?_:aE _ _=_));(first|exact xP|exact yv|exact wO|exact Zab|exact qM|exact jC|exact wA|exact qY|exact ZdD|exact j8|exact wj)
 |(with_reducible refine (?_:Cx.mg _ _=_));(exact Top.no #[4] #[5])
 |(with_reducible refine (?_:_=_));first|exact Zeu _|kernel_rfl!
 |(with_reducible refine (?_:Gl _ _));show _=_;kernel_rfl!
 |refine (?_:Sd.CSs _ _ _ _ _ _ [.cel _ _ _ _]);refine Zfc Sd.Zay #[4] #[4] #[4] ?_ ?_ #[4] #[5] #[5] (show _=_ from by kernel_rfl!) #[5] (by first|exact xP|exact yv|exact wO|exact Zab|exact qM|exact jC|exact wA|exact qY|exact ZdD|exact j8|exact wj) rfl #[5] (by first|exact Or.inl #[5]|exact oR #[5]|exact oR (Or.inl #[5])|exact oR (oR #[5])) (by first|exact .inl rfl|exact .inr<|by kernel_rfl!) #[5] #[5] #[5]
 |refine (?_:Sd.CSs _ _ _ _ _ _ _);first|apply Zfu|apply Zdj
 |refine (?_:Sd.CA _ _ _ _ _);first|apply ZeX|apply Zb6
 |refine (?_:jF (.blt .list _));apply va yd
 |refine (?_:jF (.blt .listD _));apply va (v7 rfl)
 |refine (?_:jF (.blt .sortedD _));apply Zb4 (zP rfl)
 |refine (?_:jF (.lst _));apply ZfA
 |refine (?_:jF (.comp1 _ _ _ _ _ _));refine ZaL rfl (by first|assumption|exact T6<|by kernel_rfl!) (jV<|by kernel_rfl!) ?_ (λ_ _ _ _=>#[?_,?_,?_]) (hs:=by intro _;kernel_rfl!)
 |refine (?_:Sd.CE _ _ _ (.BoolOp _ [_] _) _);apply ZfK
 |refine (?_:jE (.dix _ aj));apply Zb3
 |refine (?_:jE (.dix _ al));apply Zdg
 |refine (?_:jE (.v _));apply Zhu
 |refine (?_:jE (.c _));first|apply Zfs|apply ZgD|apply Zfm|apply ZfH
 |refine (?_:jE (.call _ _));first|refine Zal Sd.Zay #[4] #[4] #[4] ?_ #[5] (show _=_ from by kernel_rfl!) #[5] (by first|exact xP|exact yv|exact wO|exact Zab|exact qM|exact jC|exact wA|exact qY|exact ZdD|exact j8|exact wj) rfl|refine ZfE #[4] #[4] #[4] ?_ #[5] (show _=_ from by kernel_rfl!) #[5] (by first|exact xP|exact yv|exact wO|exact Zab|exact qM|exact jC|exact wA|exact qY|exact ZdD|exact j8|exact wj) rfl|refine Zal Sd.ZhI #[4] #[4] #[4] ?_ #[5] (show _=_ from by kernel_rfl!) #[5] (by first|exact xP|exact yv|exact wO|exact Zab|exact qM|exact jC|exact wA|exact qY|exact ZdD|exact j8|exact wj) rfl
 |refine (?_:jE (.refu _ _));refine ZgJ (Pp:=pp) Sd.Zay #[4] #[4] #[4] #[4] rfl #[5] #[5] #[5] #[4] #[4] #[4] #[4] rfl rfl rfl rfl #[5] #[5] (show _=_ from by kernel_rfl!) λ_ _ _ _ _ _ _ _ _ _ _=>?_
 |refine (?_:jE .dnew);apply Zcj
 |refine (?_:jE (.ix _ _));apply Zha
 |refine (?_:jE (.blt .len _));apply Vj w4
 |refine (?_:jE (.blt .tuple _));apply GP JD
 |refine (?_:jE (.blt .all _));apply Vj (wK rfl)
 |refine (?_:jE (.blt .toInt _));apply GP vB
 |refine (?_:jE (.blt .max2 _));apply Vj (wU rfl)
 |refine (?_:jE (.blt .min2 _));apply Vj (vD rfl)
 |refine (?_:jE (.blt .sum _));apply Vj (vA rfl)
 |refine (?_:jE (.blt .dictP _));apply GP (Q8 rfl #[4])
 |refine (?_:jE (.blt _ _));apply yU
 |refine (?_:jE (.bin _ _ _));first|apply Zfl|apply Zer|apply Zf1|apply ZeA|apply Zc2|apply ZeO
 |refine (?_:jE (.tup _));apply Zez
 |refine (?_:jE (.neg _));apply ZfM
 |refine (?_:jE (.not _));apply Zen
 |refine (?_:jE (.cmp .eq _ _));apply X0 (Zbm #[4])
 |refine (?_:jE (.cmp .ne _ _));apply X0 (jO #[4])
 |refine (?_:jE (.cmp .lt _ _));apply X0 (wg #[4])
 |refine (?_:jE (.cmp .le _ _));apply X0 (Jg #[4])
 |refine (?_:jE (.cmp .gt _ _));apply X0 (u9 #[4])
 |refine (?_:jE (.cmp .ge _ _));apply X0 (qF #[4])
 |refine (?_:jE (.cmp .is _ _));apply X0 (Zaw #[4])
 |refine (?_:jE (.cmp .nin _ _));apply X0 (xE #[4])
 |refine (?_:jE (.chain _ _ _ _ _));first|apply yA (Jg<|by assumption) (Jg #[4])|apply yA (Jg<|by assumption) (wg #[4])
 |refine (?_:jE (.sl _ _ _));apply ZgL
 |refine (?_:jE (.rev _));apply ZeL
 |refine (?_:jE (.isi _ _));first|apply Qn (T:="int") (t:=.int)|apply Qn (T:="bool") (t:=.bool)|apply Qn (T:="tuple") (t:=.tuple)|apply Qn (T:="list") (t:=.list)|apply Qn (T:="dict") (t:=.dict)|apply Zdd (T:="list") (U:="tuple") (t:=.list) (u:=.tuple)
 |(first|show jE (.callF _ _)|show jE (.blt .rangeL _)|show jE (.lst _)|show jE (.comp1 _ _ _ _ _ _)|show jE (.comp2 _ _ _ _ _ _ _ _ _)|show jE (.blt .list _)|show jE (.blt .sorted _)|show jE (.blt .listD _)|show jE (.blt .sortedD _)|show jE (.blt .sortedS _)|show jE (.blt .sortedT _)|show jE (.blt .sortedU _));refine CF.ce ?_
 |refine (?_:jE _);apply ZeY
 |refine (?_:Sd.CO _ _ _ _ _);first|apply ZcO|apply ZcM
 |refine (?_:jS (.raise _ []));apply Zg8 Sd.Zay
 |refine (?_:jS (.ret _));first|apply ZeB|apply ZbV
 |refine (?_:jS (.dnw _ _));apply ZfJ
 |refine (?_:jS (.dput _ _ _));apply ZbP
 |refine (?_:jS (.forF _ _ _));apply Zc1 kP
 |refine (?_:jS (.lnw _ _));apply Ze3
 |refine (?_:jS (.cat _ _));apply Zf5
 |refine (?_:jS (.app _ _));apply Zff
 |refine (?_:jS (.dset _ _));apply Zct
 |refine (?_:jS (.par _ _));apply Zga
 |refine (?_:jS (.asg _<|.comp1 _ _ _ _ _ _));refine jQ rfl #[4] (jV<|by kernel_rfl!) ?_ (λ_ _ _ _=>#[?_,?_,?_]) (hsw:=by kernel_rfl!) (hy:=by kernel_rfl!) (hx:=by first|exact Or.inl #[5]|exact oR #[5]|exact oR (Or.inl #[5])|exact oR (oR #[5])) (hf:=by first|exact .inl rfl|exact .inr<|by kernel_rfl!) (hs:=by intro _;kernel_rfl!)
 |refine (?_:jS (.asg [_] _));first|refine Zcl ?_ ?_ (hf:=by kernel_rfl!) (hs:=by kernel_rfl!) (hw:=by kernel_rfl!) (h1:=by kernel_rfl!)|apply ZbC
 |refine (?_:jS (.asg _ _));apply Zeo
 |refine (?_:jS (.ex<|.mt .append _ _));apply ua
 |refine (?_:jS (.ex _));apply ZcL
 |refine (?_:jS (.ite _ _ _));apply ZgB
 |refine (?_:jS (.forr _ _ _));apply ZeC kP
 |refine (?_:jS (.whl _ _));apply ZaQ kP
 |refine (?_:jS (.aug _ _ _));apply ZeR Zbb
 |refine (?_:jT (.not _));apply Ze2
 |refine (?_:jT (.cmp .eq _ _));apply Wd (Zbm #[4])
 |refine (?_:jT (.cmp .ne _ _));apply Wd (jO #[4])
 |refine (?_:jT (.cmp .lt _ _));apply Wd (wg #[4])
 |refine (?_:jT (.cmp .le _ _));apply Wd (Jg #[4])
 |refine (?_:jT (.cmp .gt _ _));apply Wd (u9 #[4])
 |refine (?_:jT (.cmp .ge _ _));apply Wd (qF #[4])
 |refine (?_:jT (.cmp .is _ _));apply Wd (Zaw #[4])
 |refine (?_:jT (.cmp .nin _ _));apply Wd (xE #[4])
 |refine (?_:jT (.or _ _));refine CWh.ct<|ZdP ?_ ?_
 |refine (?_:jT _);apply Zej
 |refine (?_:Sd.CWh _ _ _ _ _);first|apply ZdP|apply ZfC
 |refine (?_:Sd.CTs _ _ _ _ _);first|apply Zds|apply Zdn
 |refine (?_:Sd.CW _ _ _ _ _ _);first|apply Zcz|apply ZbB|apply Zep|apply Zdc|apply ZgE
 |refine (?_:Sd.CG _ _ _);first|apply ZcH|apply Zgb
 |refine (?_:Sd.CGs _ _ _);first|apply ZbW|apply ZaZ
 |(first|exact Or.inl #[5]|exact oR #[5]|exact oR (Or.inl #[5])|exact oR (oR #[5]))
 |assumption
 |exact T6 #[5]
 |decide
 |(intro _;kernel_rfl!)
 |(intro _ _;kernel_rfl!)
 |(intro m h;cases h)))
end K73
namespace PySem.W.Fast
def tw7309956292606709599:=0
def tw10883844213028687099:=0
def tw11653779725688581563:=0
def tw739323013599468934:=0
def tw7270654484095705686:=0
def tw7620770066741465979:=0
def tw15026846223790066674:=0
def tw18142894184316624250:=0
def tw17521121692040235524:=0
def tw18304661515120040242:=0
def tw11754538697993427354:=0
def tw13444939276858598945:=0
def tw14137462505416467270:=0
def tw12544148083457671008:=0
def tw3575754874152183316:=0
def tw8617047084275925414:=0
def tw4429815168921144145:=0
def tw6144138653406910173:=0
def tw172665590119085579:=0
def tw17898038276730552089:=0
def tw7611467950153759941:=0
def tw10711119043866892462:=0
def tw12849778130390453549:=0
def tw10093748745394359092:=0
def tw9441905072675300078:=0
def tw1945930916308191269:=0
def tw17123009280852121455:=0
def tw8272198012580920310:=0
def tw8944943283360164296:=0
def tw10772923542329538038:=0
def tw7973566751992048902:=0
def tw1893517218875921894:=0
def tw4049304591079989279:=0
def tw2815935192823905827:=0
def tw10936352727738271330:=0
def tw10679940172219173764:=0
def tw3904071074630182118:=0
def tw17194366734714462393:=0
def tw11767828970536458419:=0
def tw11202841154161229908:=0
def tw17870706788208963823:=0
def tw849137725668093350:=0
def tw7667970174523441371:=0
def tw10266376219783072856:=0
def tw8571109618373582477:=0
def tw11093952168742307346:=0
def tw11652485464381174529:=0
def tw2056965851983082050:=0
def tw12821405589521447151:=0
def tw2154805748148852198:=0
def tw2220726390173863670:=0
def tw13017411947476433298:=0
def tw2628003209073368270:=0
def tw14842837056222225347:=0
def tw898855191156204291:=0
def tw2702920994767905777:=0
def tw2103877316626202851:=0
def tw7442623921957196302:=0
def tw9265467736911988068:=0
def tw16586247345228666620:=0
def tw12119397455702547399:=0
def tw8298437156808862441:=0
def tw8269902330518662770:=0
def tw833350581782012315:=0
def tw1490378880645773266:=0
def tw16147943013181697939:=0
def tw2383272613390489225:=0
def tw665279044650540107:=0
def tw15261346933067856521:=0
def tw18405204742419332047:=0
def tw11459919913202910756:=0
def tw10485474090312684009:=0
def tw9027734728538818878:=0
def tw8812229849003248306:=0
def tw17479591327382127340:=0
def tw5634325735059786510:=0
def tw6082597305640617267:=0
def tw7044721472010046391:=0
def tw8786963753025470139:=0
def tw13659785752007341352:=0
def tw16871963600423346647:=0
def tw4129761223242624289:=0
def tw6506385949689843684:=0
def tw5585579082014984713:=0
def tw4153629706359922130:=0
def tw16369627427165427130:=0
def tw14968216230552671527:=0
def tw4193602031993900429:=0
def tw18245401797822177854:=0
def tw8818264378680733044:=0
def tw5135169001748106578:=0
def tw5119402215209506666:=0
def tw12968580264474629701:=0
def tw17209078038349274954:=0
def tw5466292865304066384:=0
def tw12725154025660227576:=0
def tw5695300204536592:=0
def tw12358599706438664590:=0
def tw609846908114819270:=0
def tw14204352473410936996:=0
def tw2613709677465339256:=0
def tw18444219999763097952:=0
def tw8851186114326434193:=0
def tw17476844413990233186:=0
def tw5910538273280762743:=0
def tw14258777859871131071:=0
def tw1429175576047819110:=0
def tw2506867626821929456:=0
def tw16302151321049949590:=0
def tw15602554342460303421:=0
def tw1994651884543489957:=0
def tw16388028036011754951:=0
def tw6714175468007073968:=0
def tw11054048949486164094:=0
def tw3390946159308189688:=0
def tw5025852560497866188:=0
def tw40781190886761406:=0
def tw14438193898267043174:=0
def tw1467553335271135351:=0
def tw788371427355233391:=0
def tw8938909073598627865:=0
def tw1089742053350966982:=0
def tw12435789174333413063:=0
def tw17057322291164209905:=0
def tw9452271207377597820:=0
def tw15296488840372012853:=0
def tw6102031785804208548:=0
def tw12195712292042988289:=0
def tw2237842010455492350:=0
def tw6925934480754584615:=0
def tw3430646419863200520:=0
def tw12064976850406752445:=0
def tw3201123400319691668:=0
def tw5786138920472179347:=0
def tw10766424559818111127:=0
def tw5425165203529580715:=0
def tw878071404334242030:=0
def tw15438250435579780164:=0
def tw1389200278178804709:=0
def tw14108152511609180108:=0
def tw17030684881254589136:=0
def tw17856865507485255447:=0
def tw5680747364488774007:=0
def tw3282071852242848782:=0
def tw1494152984273671185:=0
def tw2293165416994684395:=0
def tw2886324878846650552:=0
def tw2947192939839160959:=0
def tw4383587339326845759:=0
def tw17036923991387655105:=0
def tw4550578008989511710:=0
def tw18089485666574235384:=0
def tw9178373101035396012:=0
def tw8564060655746006726:=0
def tw9273871062874383449:=0
def tw5097218323840131176:=0
def tw773191408322783691:=0
def tw15168453178339154606:=0
def tw2044050788220894973:=0
def tw15432554673902414988:=0
def tw6073018028893600248:=0
def tw1746862547903055001:=0
def tw1367027770305438365:=0
def tw4236269816653051775:=0
def tw8348908240099444458:=0
def tw16569930908848219002:=0
def tw5438180620220020678:=0
def tw701514630288174262:=0
def tw4640418053671188939:=0
def tw216642433637974939:=0
def tw10978901348855371688:=0
def tw14684433839336210438:=0
def tw10645736483423273608:=0
def tw4950297893944491158:=0
def tw17306595269535301951:=0
def tw3829646755945283158:=0
def tw14600617130560518498:=0
def tw5411021061509217941:=0
def tw3028117576616089563:=0
def tw14185821502457839122:=0
def tw16324702445059843965:=0
def tw771557487523005175:=0
def tw6942740811501717409:=0
def tw16537116186570147708:=0
def tw14127229747920577798:=0
def tw13174265225309176154:=0
def tw2512834282731964531:=0
def tw8781939304905441819:=0
def tw12430828083907524445:=0
def tw11966257814951178347:=0
def tw5708866798368036495:=0
def tw6865495642819619849:=0
def tw2312449186352445533:=0
def tw7842281308291209003:=0
def tw9064899275436888238:=0
def tw2506598009656317884:=0
def tw2971768585132909450:=0
def tw1205883514878549444:=0
def tw7829228003884147410:=0
def tw3799561834800155959:=0
def tw929147577355775777:=0
def tw9719018924171075670:=0
def tw15765567631224934968:=0
def tw4441569635912356743:=0
def tw14907673230804806504:=0
def tw3481841689056277190:=0
def tw15401317070472170918:=0
def tw1135678012894846917:=0
def tw7963396664095194976:=0
def tw12484546583401406438:=0
def tw13345058202459373516:=0
def tw16722566787253502198:=0
def tw13228719941558510648:=0
def tw7105930889932160521:=0
def tw900794485302147145:=0
def tw11993389755497903718:=0
def tw11831608724424463929:=0
def tw2751701608345657577:=0
def tw11167422152024459818:=0
def tw8026906843156255036:=0
def tw7174119989641937684:=0
def tw8326725576952091990:=0
def tw10341593648971320289:=0
def tw16905876732906708571:=0
def tw7824839444021681114:=0
def tw8060943224070318759:=0
def tw5541924742733822247:=0
def tw12704109829201394164:=0
def tw8298083217794407615:=0
def tw6029379497042472267:=0
def tw1940325518874237444:=0
def tw4079627061715340213:=0
def tw6395324975459161887:=0
def tw16285633694652302852:=0
def tw5532543544746632605:=0
def tw1570859338349463432:=0
def tw7529332994478565862:=0
def tw13045784853796634461:=0
def tw8937941771966234301:=0
def tw16525359615305770030:=0
def tw8961402163926526324:=0
def tw12114700907127771331:=0
def tw4457433909219537176:=0
def tw3927661635060737387:=0
def tw14821043012627104665:=0
def tw1380394706242538351:=0
def tw7745531230839294089:=0
def tw16178106080784195244:=0
def tw10525932473335767329:=0
def tw1158390543878632721:=0
end PySem.W.Fast
open PySem PySem.W PyProof.Rows Gn
set_option maxRecDepth 100000 in
set_option maxHeartbeats 0 in
theorem PySem.Challenge.cw_fewspaces_k73_turns_behind_and_back_holds : PySem.Challenge.rw_fewspaces_k73_turns_behind_and_back.Holds := by
  w_on; o_law; k_head; (case hw => w_witness2)
  k_fill
  refine Gn.Zbs (l := PySem.Challenge.rw_fewspaces_k73_turns_behind_and_back) (F := K73.fns) (tk := K73.tk) (L := 39) (c := 423) (Pt := 419) (cl := fun _ => [24, 37, 49, 61, 73, 85, 97, 109, 121, 133, 145]) (fun ns s => K73.law_ok ns s) rfl rfl (fun w h Y => PySem.W.km_in_of Y) rfl (fun w => by kernel_rfl!) (fun w => by kernel_rfl!) ?F
  case F =>
    intro w mg fa h KX G hmg;refine' Gn.Zdl (fs := K73.fs) (zs := K73.zs) (gs := K73.gs) (sn := K73.sn) KX G hmg K73.okl.1 (fun i fn e => by rw [cA] at e; split at e; exact e; cases e) rfl #[1] ?A ?Z ?Y ?E ?L rfl rfl rfl (by decide +kernel) (Gn.Zfe (Pp := K73.pp) K73.okl.2.1 K73.okl.2.2 #[5] #[5] #[5] #[5] #[5]) ?R
    case A => repeat' (first|exact FnsAt.nil|refine' FnsAt.cons ?h1 ?h2 ?h3 ?h4 ?h5 ?_; (case h1 => k_is); (case h2 => k_is); (case h3 => k_is); (case h4 => k_is); (case h5 => first|exact bd1 fun _ _ _ _ _ _ _ => rfl|exact bd2 fun _ _ _ _ _ _ _ _ => rfl|exact bd3 fun _ _ _ _ _ _ _ _ _ => rfl|exact bd4 fun _ _ _ _ _ _ _ _ _ _ => rfl|exact bd5 fun _ _ _ _ _ _ _ _ _ _ _ => rfl|exact bd6 fun _ _ _ _ _ _ _ _ _ _ _ _ => rfl))
    case L => repeat' (first|exact FnsAt.nil|refine' FnsAt.cons ?h1 ?h2 ?h3 ?h4 ?h5 ?_; (case h1 => k_is); (case h2 => k_is); (case h3 => k_is); (case h4 => k_is); (case h5 => first|exact bd1 fun _ _ _ _ _ _ _ => rfl|exact bd2 fun _ _ _ _ _ _ _ _ => rfl|exact bd3 fun _ _ _ _ _ _ _ _ _ => rfl|exact bd4 fun _ _ _ _ _ _ _ _ _ _ => rfl|exact bd5 fun _ _ _ _ _ _ _ _ _ _ _ => rfl|exact bd6 fun _ _ _ _ _ _ _ _ _ _ _ _ => rfl))
    case Z => repeat' (first|exact ZsAt.nil|refine' ZsAt.cons ?h1 ?_; (case h1 => k_is))
    case Y => repeat' (first|exact GsAt.nil|refine' GsAt.cons ?h1 ?_; (case h1 => k_is))
    case E => kernel_rfl!
    case R => rfl
