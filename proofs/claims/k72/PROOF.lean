import PyProof.Rows.All
import Wide.All
import OpenK.AllK
import PySem.Challenge.RW_fewspaces_k72_rows_and_parts_led
set_option Elab.async false
set_option linter.all false
set_option compiler.extract_closed false
set_option maxRecDepth 100000
set_option maxHeartbeats 0
local macro_rules
|`(#[$x,$y])=>`(⟨$x,$y⟩)
|`(#[$x,$y,$z,*])=>`(⟨$x,$y,$z,*⟩)
|`(#[0])=>`(by lia)
|`(#[1])=>`(by decide)
|`(#[2])=>`(by simp)
|`(#[3])=>`(by omega)
|`(#[4])=>`(by assumption)
|`(#[5])=>`(by kernel_rfl!)
|`(#[7])=>`(by rfl)
set_option hygiene false in
local macro_rules|`(tactic|left)=>`(tactic|rintro O H Q ⟨Z,l,S,st,lr,h⟩)
set_option hygiene false in
local macro_rules|`(tactic|right)=>`(tactic|rintro D O H ⟨Z,H0,W,l,os,S,st,en,h⟩)
noncomputable section
abbrev T9:=@if_pos
abbrev T8:=@if_neg
abbrev T7:=@absurd
abbrev T6:=@of_decide_eq_true
abbrev T5:=@decide_eq_true
abbrev T4:=@decide_eq_false
abbrev T0:=@decide_eq_true_eq
open Option renaming some->aa,none->ai,map_eq_some_iff->bH,isSome_iff_exists->bP,bind_eq_some_iff->cp,ne_none_iff_exists'->kD,isSome_map->k9,getD_some->l4,map_eq_none_iff->mj
open PySem renaming wpAny_bind->ae,wpAny_pure->av,starEach->ay,Value->az,Shared->aF,Addr->aH,model->aR,wpAny->aW,sizeLine->a9,wpAny_newObj_type->br,mainGlobals->bx,wpAny_holding->bI,Str->bN,Program->bO,World->bV,wpAny_call_entry->cc,assignEach->cg,wpAny_callSpecial?_slot->cn,Around->cw,eval->cz,Heap->cM,wpAny_field->cP,compareOp->cU,sizeLine_eq->cW,sysModules->c8,wpAny_mono->dq,cellsFrom->dv,FuncData->dz,bootBuiltins->dB,wpAny_Call_Name_kw->dE,backTo->dL,foldedSetIterable->dM,cLine->dO,Builtin->dP,assign->dQ,mem_of_lookup->dR,codeAny_builtin->dU,tupleKind->dW,swapsWithSole->d5,swappedStores->d6,wpAny_truthy_bool->d8,behindInMarks->eB,swapsWith->eC,wpAny_isInstance->eE,wpAny_seqItems->eI,wpAny_setField_rec->eJ,wpAny_passesOwn->eS,binaryOp->eT,wpAny_pyIter_list->eW,rawInt->fe,Stmt->fq,wpAny_setField->fA,wpAny_of_eq->fE,wpAny_typeNameOfWhole_keyiter->fF,codeAny_mono->fG,wpAny_typeOf->fH,wpAny_execs_nil->fQ,Obj->fU,wpAny_loadPart_at->fZ,wpAny_rule->gp,codeAny_call_builtin->gu,wpAny_execs_cons->gy,codeAny->gz,wpAny_askSetting->gC,Scope->gE,wpAny_attempt->gN,wpAny_typeNameOf_keyiter->gR,intKind->gU,call_meets->g8,tupleKind_room_in1->g9,wpAny_pyIter_tuple->hJ,sliceBounds->h9,DictEntry->ig,wpAny_setState_of->iD,Pos->iE,closureFor->iJ,intKind_is->iK,wpAny_standAt->iO,plainId_quiet->iQ,wpAny_loadName_local->iS,NameKind->iT,wpAny_updateSeq_pair->iX,typeLookup_type->kf,wpAny_loadName_cell->kg,codeAmong->ko,wpAny_Name->kr,wpAny_load->kt,wpAny_newFunctionEnv_cells->kw,IsPart->kx,typeLookup->kB,isSubtype_type->kP,wpAny_binaryOp_repeat_ref->kX,holding->kZ,getItem->k6,wpAny_sequenceKey->k7,wpAny_pyIter_slot->ln,wpAny_onRaise->lz,wpAny_newList->lD,noFill_tuple_add->lH,pyNext->l6,wpAny_pyNext_list_item->l7,typeIs_int->md,IsPair->mf,letOwnedTupleGo->mn,pushCells_keeps->mv,wpAny_isTrue_Compare1->mz,wpAny_pyNext_list_end->mB,codeAny_call_function->mC,wpAny_notOrdered_dict->mF,wpAny_isOneOf_keyiter->mH,bindArgs->mJ,ZipApart->mQ,isSubtype_stop->mR,PassesOwn->mY,BindsTo->mZ,callerA->m5,wpAny_loadName_free->m7,wpAny_setEntries_of->nj,seq_tuple_add->nq,evalPart_none->nt,attributeBase->nv,wpAny_handled->ny,builtinsNs->nE,pyIter->nG,wpAny_call->nK,wpAny_dictSet_heap->nZ,standAt->n8,wpAny_assign_Name->oh,concat_meets->oq,seqIndex_neg->ot,Keyword->ou,valueAt->ow,atKey->ox,wpAny_pyIter_enum->oE,wpAny_dictEntries->oI,wpAny_storeSet_of->oK,rule->oR,reduceHash->oW,TriplesOk->oX,pushCells->o4,preSum->o7,seqIndex_of->pj,keywordEach->pz,wpAny_alloc->pA,wpAny_throw->pB,IsZip->pC,wpAny_letGo->pD,unsupported->pE,Sem->pR,call->pU,entryFor->rg,ret->rG,bindL->rQ,bindC->rR,hashInt->rV,truthy->rW,setItem->rX,Result->rY,ItemsOf->se,again->sf,Meets->sh
open List renaming getElem?_eq_getElem->af,mem_cons_self->al,mem_cons_of_mem->am,replicate->au,mem_cons->aw,length_map->ax,getD_eq_getElem?_getD->aA,size_toArray->aC,getElem?_eq_some_iff->aG,getElem?_map->aK,mem_map->aM,range->aO,length_append->aQ,getElem_mem->aS,mem_range->aU,length_cons->aV,all_eq_true->aX,map_cons->aY,mem_singleton->aZ,getElem?_set_ne->ba,getElem?_set_self->bc,pairwise_cons->bj,mem_append_right->bp,not_mem_nil->bq,length_range->bu,length_set->bC,append_assoc->bE,length_drop->bF,pairwise_iff_getElem->bJ,mem_append->bK,length_replicate->bL,getElem?_eq_none->bM,length_take->bQ,lookup_cons->bR,map_map->bS,map_append->bT,ext_getElem?->bW,drop_eq_getElem_cons->bY,mem_of_mem_drop->b9,append_nil->cf,getElem?_append_right->ck,filterMap_cons->cq,replicate_succ->cr,getElem_of_mem->cu,getElem?_append_left->cx,mem_filter->cy,take_of_length_le->cA,getElem?_take->cD,take_append_drop->cG,getElem?_replicate->cK,mem_of_getElem?->cO,getElem?_range->cX,pairwise_map->cZ,toArray->c6,mem_append_left->da,mem_of_mem_take->dg,foldl_cons->dk,map_congr_left->du,nodup_cons->dD,zip_cons_cons->dF,reverse_perm->ee,mem_map_of_mem->ei,drop_length->eD,mem_reverse->eF,getElem?_drop->eL,pairwise_reverse->eN,length_filter_le->eO,contains_iff_mem->eP,reverse_cons->eU,flatten_cons->eV,pairwise_append->eY,nodup_append->eZ,any_cons->fj,eq_of_mem_replicate->fm,length_eq_zero_iff->fv,mem_flatMap->fB,any_eq_not_all_not->fC,length_take_of_le->fM,all_cons->fT,length_singleton->fV,getElem_take->fX,getElem_drop->fY,any_eq_true->gA,take_length->gB,getElem?_zip_eq_some->gF,length_reverse->gI,of_mem_zip->gS,nil_append->gT,length_zip->gW,length->hZ,getElem?_inj->iB,map_uncurry_zip_eq_zipWith->iG,ext_getElem->iM,isEmpty_toArray->iU,getElem?_mapIdx->iV,drop_append_of_le_length->iZ,take_append_of_le_length->i5,mem_zipIdx_iff_getElem?->i8,all_map->kl,drop_zero->kH,drop_drop->kJ,drop_left->kL,take_left->kM,take_add_one->lj,contains->ly,find?_range_eq_some->lG,pairwise_singleton->lQ,map_toArray->lV,filter_cons->l0,range_succ_eq_map->me,drop_of_length_le->mi,length_pos_of_mem->ml,filter_eq_nil_iff->mm,forIn_cons->mr,getElem?_reverse->mE,nodup_nil->mL,mem_iff_getElem->mT,map_id->mW,reverse_append->ng,mem_filterMap->nH,filterMap_map->nN,find?_toArray->nQ,find?_eq_none->n4,take_sublist->oo,getElem?_set->oy,foldl_append->oP,flatMap_cons->oQ,zipIdx_cons->o5,drop_append->o9,countP_cons->pb,map_reverse->pe,getElem_map->pi,forIn_nil->pW,take_take->pY,map->re,tail_cons->rF,map_tail->rP,take->rS,drop->rT
open Decidable renaming decide->ag
open Bool renaming false->aj,true->ak,and_eq_true->aB,false_ne_true->aP,eq_iff_iff->cR,false_eq_true->fI,or_eq_true->gV,false_and->kU,not_eq_true'->lq,false_or->lw,and_false->mO,not_true->rK
open PySem.W renaming Frag->ao,katRev->bB,hideAll_none->c9,CodeHd->dA,kia_one->dC,kia_tup->dS,fnOf->eA,hideAll->eR,envX->fO,kla_obj->fR,kitOne->gh,keepIn->gj,kitAny->gq,nsIn->gD,hideAll_get->gH,kat_len->gY,of_hideAll->g7,kitx_list->io,kitx_dict->ip,cellsFrom_some->iq,mg_of->iR,codeIn->ku,KdlSrc->kQ,katRev->lC,OpenLaw->my,noTabs->mV,kitx_tuple->nJ,callWith_K->nL,codeRec_of->nM,kitx_none->oj,kitx_bool->on,looks_findIn->oN,plainGet->oS,kitx_int->oU,kitx_str->oV,kat_nil->pO,kat_len->pS,findIn->rn,exmOne->rA,kla_fn->rB,tabObj->rC,tabIn->rM,WalkO->rO
open Option.some renaming inj->ap
open PySem.Heap renaming get?_push_of_some->aq,lt_size->aD,get?_push_size->aE,size_push->cL,get?_update_self->dy,SameBut->ej,ExtBut->fD,get?_push_ne->iC,size_update->lO,get?_update_other->l9,get?_update_ne->ni
open Nat renaming le_refl->aI,ne_of_lt->a8,lt_of_lt_of_le->bi,lt_irrefl->bv,le_trans->bU,add_sub_cancel_left->bX,lt_succ_of_lt->cB,zero_le->db,lt_trans->dm,le_add_right->dG,pow_le_pow_right->dJ,le_of_not_lt->d3,add_assoc->d7,lt_of_succ_lt->d9,ne_of_gt->ek,lt_succ_self->fz,lt_of_le_of_ne->fJ,pow_lt_pow_right->gv,le_of_lt->gw,min_eq_left->gX,sub_succ_lt_self->iW,add_comm->kj,lt_of_add_lt_add_left->kY,le_succ->lh,max_eq_right->lK,exists_eq_add_of_le->lL,exists_eq_add_of_lt->lN,not_lt_of_le->lZ,le_of_eq->mh,le_sub_of_add_le'->mD,mul_le_mul->mM,add_sub_cancel'->m9,lt_min->nS,add_sub_cancel->nV,mul_comm->oA,zero_add->oJ,lt_of_not_le->o8,max_eq_left->pL
open PyProof.Rows renaming wpS_bind->aJ,wpS_pure->aT,arrOf->bf,pendingOf->bh,slot_tuple_getitem->cE,Keyed->cF,wpS_forRange->cI,callWith_type1->cY,envOfC->dZ,SortSt->eK,wpS_mono->eX,wpS_modify->fK,seqObj->fN,elem'->gG,SortKind->gP,failedOf->gQ,setPending->hV,wpS_get->iA,callWith_builtin1->iI,AllBare->iN,IntsAre->iP,entry_tuple_getitem->kh,slicePart_none->ky,args_tuple_getitem->kA,list_sort_rev->kN,subscriptTail_builtinR->l8,entry_list_sort->mw,wpS->mI,slot_list_sort->mU,tupleItemsOf_->nr,listUpdate_at->nz,size_push'->nY,IsTup->n6,plain_sorted->oG,entry_sorted->oH,seqEpoch_at->pF,kind_sorted->pG,Subscript_->pT,setArr->rZ,minRun'->sd
open Array renaming length_toList->aN,getElem?_eq_getElem->bn,getElem?_toList->bo,perm_iff_toList_perm->bz,toList_append->bZ,size_push->eg,toList_push->fb,size_extract_of_le->fk,getElem?_eq_none->iw,size_append->iz,toList_inj->iL,toList_extract->iY,toList_setIfInBounds->kK,append_empty->kR,toList_reverse->mS,append_assoc->nF,size_reverse->nU,toList->oa,toList_map->pc,range->pH
open And renaming intro->bg
open PySem.Value renaming none->bw,bool->bD,ref->cT,int->fS,builtin->lE,type->nD,isStrOf->rH
open PySem.NameKind renaming free->bG,cell->cV
open List.Perm renaming refl->cC,swap->kO,of_eq->pN
open PySem.Heap.SameBut renaming update->cH,refl->oC
open Pure renaming pure->cJ
open PySem.Builtin.Slice renaming slicePlaces->cQ,sliceApplied->kz,sliceAdjust->kW
open Sum renaming inl->cS,inr->mX
open Int renaming toNat_natCast->c7,emod_lt_of_pos->fP,emod_eq_of_lt->gf,emod_nonneg->gZ,toNat_of_nonneg->ki,ofNat->kq,natCast_add->pK
open PySem.Obj renaming data_mapFields->de,isFreed_of_fields->eM,mapSeq->fg,cls_mapFields->fW,mapFields->nA,putSet->rj
open PySem.Around renaming under_plainId->dH,frames_deeper->mK
open True renaming intro->dN
open PySem.AutoSeq1 renaming wpAny_loadPart'->d4,sub_tuple_tuple->gK,wpAny_loadPart'->gO,idx_int->lI
open PySem.F renaming slot_tuple_iterator_next->eG,plainAttrs_list->fw,args_tuple_add_2->gJ,slot_list_append->gL,type_list_append->gM,entry_tuple_add->h8,slot_tuple_add->iu,typeOf_object_class->iH,slot_int_rmul->i6,args_tuple_iterator_next_1->i9,slot_zip_next->kc,slot_dict_keyiterator_next->ke,entry_tuple_iterator_next->km,args_tuple_mul_2->kG,entry_tuple_mul->lg,slot_tuple_mul->lJ,plain_list_iadd->lT,args_int_rmul_2->oz,args_zip_next_1->oD,entry_int_rmul->oY,entry_zip_next->o6,slot_dict_iter->pf,fills_int_mul->pI,plain_set_new->pP,slot_set_iter->pQ
open PySem.Builtin.SmallTypes renaming nextOf->eQ
open PySem.SetTable renaming insertAt->fc,grown->rh,below->rm
open LawfulBEq renaming eq_of_beq->fu
open PySem.Builtin.Tuple renaming tupleItemsOf->gn,tupleHashOf->iF,tupleTooMany->kF
open PyProof.Rows.F renaming plain_set_update_loop->im,entry_set_update_loop->lW
open ForInStep renaming yield->i7
open PyProof.Rows.IsTup renaming new->kn
open PySem.SeqAt renaming EqAt->kC
open Break renaming runK->kI
open PySem.SeqAt.EqAt renaming bool_bool->kS,same->mq,int_str->nB,str_int->nC,of_refs->nP
open PySem.Str renaming ofString->kT,ofString->oF
open List.Pairwise renaming nil->k8,imp_of_mem->lB
open PySem.PassesOwn renaming leaving->lv
open PySem.SeqAt.RcAt renaming lists_lengths->lx,tuples->oB,lists->oZ
open PySem.Builtin.Dict renaming updateFrom->lR,showsAll->mG
open ForIn renaming forIn->mP
open PySem.Builtin.Int renaming intBits->m8
open Lean.Grind renaming CommRing->nk
open PySem.P renaming truthy_int->nI
open PySem.Heap.IsSliceOf renaming new->nO
open PySem.Code renaming quiet_builtin->n5,compLoop->rJ
open PySem.pickOrder renaming go->oM
open Classical renaming not_not->oO
open Or renaming inr->o0
open PySem.Walks renaming list->pV
open PyProof.Rows.SortSt renaming mk'->pX
open PySem.Value.type renaming inj->rE
open Min renaming min->si
namespace L2
open PySem PySem.Spec PyProof.Rows
abbrev Key:=Sum Int bN
noncomputable def JV:Key->az->Bool
 |.inl k,v=>az.isInt k v
 |.inr x,v=>rH x v
noncomputable def Zii(w:bV):Key->Int
 |.inl k=>rV k
 |.inr x=>hashStr w x
def ZZ:∀{k:Key}{v:az},JV k v=ak->(∃i t,k=cS i/\v=fS i t)\/(∃x t,k=mX x/\v=az.str x t)
 |.inl i,v,h=>by
  obtain⟨t,e⟩:=az.isInt_shape h;exact .inl #[i,t,rfl,e]
 |.inr x,v,h=>by
  obtain⟨t,e⟩:=az.isStrOf_shape h;exact .inr #[x,t,rfl,e]
def uB(i t):JV (.inl i) (.int i t)=ak:=by simp[JV,az.isInt]
def qt(x t):JV (.inr x) (.str x t)=ak:=by simp[JV,rH]
def Zgz(a b):ag ((cS a:Key)=cS b)=(a == b):=by
 by_cases e:a=b
 .subst e;simp
 .have h:¬(cS a:Key)=cS b:=λq=>e (cS.inj q)
  rw[T4 h];exact(beq_eq_false_iff_ne.mpr e).symm
def ZfL(a b):ag ((mX a:Key)=mX b)=ag (a=b):=by
 by_cases e:a=b
 .simp
 .have h:¬(mX a:Key)=mX b:=λq=>e (mX.inj q)
  rw[T4 h,T4 e]
def Zgc(a b):ag ((cS a:Key)=mX b)=aj:=T4 (λq=>nomatch q)
def ZgH(a b):ag ((mX a:Key)=cS b)=aj:=T4 (λq=>nomatch q)
def ZR(prog:bO)(w:bV):PySem.KeyKind prog w Key where
 is:=JV
 hash:=Zii w
 inj:=λv a b ha hb=>by
  rcases ZZ ha with⟨i,t,rfl,rfl⟩|⟨x,t,rfl,rfl⟩
  .rcases ZZ hb with⟨j,u,rfl,e⟩|⟨y,u,rfl,e⟩
   .injection e with e1 _;rw[e1]
   .exact nomatch e
  .rcases ZZ hb with⟨j,u,rfl,e⟩|⟨y,u,rfl,e⟩
   .exact nomatch e
   .injection e with e1 _;rw[e1]
 byValue:=λk v h=>by
  rcases ZZ h with⟨i,t,rfl,rfl⟩|⟨x,t,rfl,rfl⟩<;>rfl
 pyHash:=λhv h=>by
  rcases ZZ hv with⟨i,t,rfl,rfl⟩|⟨x,t,rfl,rfl⟩
  .exact wpAny_pyHash_int h
  .exact wpAny_pyHash_str h
 eqBool:=λhu hv h=>by
  rcases ZZ hu with⟨i,t,rfl,rfl⟩|⟨x,t,rfl,rfl⟩
  .rcases ZZ hv with⟨j,u,rfl,rfl⟩|⟨y,u,rfl,rfl⟩
   .rw[Zgz]at h;exact wpAny_eqBool_int h
   .rw[Zgc]at h;exact nB i t y u _ _ _ _ h
  .rcases ZZ hv with⟨j,u,rfl,rfl⟩|⟨y,u,rfl,rfl⟩
   .rw[ZgH]at h;exact nC x t j u _ _ _ _ h
   .rw[ZfL]at h;exact wpAny_eqBool_str h
 «strs»:=λk x t v h=>by
  rcases ZZ h with⟨i,u,rfl,e⟩|⟨y,u,rfl,e⟩
  .exact nomatch e
  .injection e with e1 _
   subst e1;cases v<;>rfl
def yD(prog w i t):(ZR prog w).is (.inl i) (.int i t)=ak:=uB i t
def zT(prog w x t):(ZR prog w).is (.inr x) (.str x t)=ak:=qt x t
inductive V where
 |non|bl (b:Bool)|int (i:Int)|str (x:bN)|ref (a:aH)|ty (n:String)
 deriving DecidableEq
def ZA:V->az->Prop
 |.non,u=>u=bw
 |.bl b,u=>u=bD b
 |.int i,u=>∃t,u=fS i t
 |.str x,u=>∃t,u=az.str x t
 |.ref a,u=>u=cT a
 |.ty n,u=>u=nD n
abbrev Vals:List V->List az->Prop:=Paired ZA
theorem Vals.length(r:Vals xs us):xs.length=us.length:=Paired.length r
theorem Vals.get:∀{xs:List V}{us:List az}{i:Nat}{x:V},Vals xs us->xs[i]?=aa x->∃u,us[i]?=aa u/\ZA x u
 |_,_,_,_,.nil,e=>by simp at e
 |_,_,0,_,.cons r _,e=>by simp at e;subst e;exact#[_,rfl,r]
 |_,_,i+1,x,.cons _ t,e=>by
  obtain⟨u,h1,h2⟩:=Vals.get t (by simpa using e)
  exact#[u,by simpa using h1,h2]
theorem Vals.set(r:ZA x u):∀{xs:List V}{us:List az}i,Vals xs us->Vals (xs.set i x) (us.set i u)
 |_,_,_,.nil=>.nil
 |_,_,0,.cons _ t=>.cons r t
 |_,_,i+1,.cons q t=>.cons q<|Vals.set r i t
theorem Vals.append:∀{xs ys:List V}{us ws:List az},Vals xs us->Vals ys ws->Vals (xs++ys) (us++ws)
 |_,_,_,_,.nil,s=>s
 |_,_,_,_,.cons r t,s=>.cons r<|Vals.append t s
theorem Vals.take:∀{xs:List V}{us:List az}n,Vals xs us->Vals (xs.take n) (us.take n)
 |_,_,0,_=>.nil
 |_,_,_+1,.nil=>.nil
 |_,_,n+1,.cons r t=>.cons r<|Vals.take n t
theorem Vals.drop:∀{xs:List V}{us:List az}n,Vals xs us->Vals (xs.drop n) (us.drop n)
 |_,_,0,r=>r
 |_,_,_+1,.nil=>.nil
 |_,_,n+1,.cons _ t=>Vals.drop n t
def ZdH:Option V->Option az->Prop
 |some v,aa u=>ZA v u
 |none,ai=>True
 |_,_=>False
def KV{κ:Type}:List (κ×V)->List (κ×az)->Prop:=Paired λ(p:κ×V) (q:κ×az)=>p.1=q.1/\ZA p.2 q.2
noncomputable def kV:Key->V
 |.inl i=>.int i
 |.inr x=>.str x
inductive HO where
 |lst (xs:List V)
 |tup (xs:List V)
 |dK (kvs:List (Key×V))|dT (kvs:List (List Key×V))
 |own (x:aH)
 |frz (o:fU) (u:HO)
 |tbl (ps:Array az)
abbrev Hp:=aH->Option HO
def upd(H:Hp)(a:aH)(o:HO):Hp:=λb=>if b=a then aa o else H b
def Zl :upd H a o a=aa o:=by unfold upd;rw[T9 rfl]
def Zj(h:b≠a):upd H a o b=H b:=by unfold upd;rw[T8 h]
def ZeF{H:Hp}(h:H a=aa o)(h':H b=aa u)(d:o≠u):a≠b:=by
 intro e;subst e;rw[h]at h';exact d<|ap h'
def ZU{H:Hp}(h:H a=aa o)(h':H b=ai):a≠b:=by
 intro e;subst e;rw[h]at h';cases h'
section
variable(P:bO)(w:bV)
def Z7(H:Hp)(h:cM)(a:aH):HO->Prop
 |.lst xs=>xs.length<=a9/\∃(its:List az)(n:Nat),Vals xs its/\h.get? a=aa {cls:=.type "list",data:=.seq its.toArray n}
 |.tup xs=>xs.length<=a9/\∃its:List az,Vals xs its/\n6 h a its.toArray
 |.dK kvs=>kvs.length<=a9/\(a == c8)=aj/\∃vs,KV kvs vs/\h.DictOf (ZR P w) a vs
 |.dT kvs=>kvs.length<=a9/\(a == c8)=aj/\∃xs:List (List Key×aH×az),
   Paired (λ(p:List Key×V) (q:List Key×aH×az)=>p.1=q.1/\H q.2.1=aa (.tup<|p.1.map kV)/\ZA p.2 q.2.2) kvs xs/\
   ∃o es ep,h.get? a=aa o/\o.ExactDict/\o.data=.dict es ep/\es.toList=xs.map (entryOfKey<|dW<|ZR P w)/\(xs.map (·.1)).Nodup
 |.own _=>∃o,h.get? a=aa o
 |.frz o u=>h.get? a=aa o/\Z7 H h a u
 |.tbl ps=>h.get? a=aa {cls:=.none,data:=.fields ps}
def HOk(H:Hp)(h:cM):Prop:=∀a o,H a=aa o->Z7 P w H h a o
end
theorem Z7.lt(x:Z7 P w H h a o):a<h.objs.size:=by
 cases o with|lst xs=>obtain⟨_,_,_,_,e⟩:=x;exact aD e|tup xs=>obtain⟨_,_,_,p⟩:=x;exact p.lt|dK kvs=>obtain⟨_,_,_,_,o,_,_,e,_⟩:=x;exact aD e|dT kvs=>obtain⟨_,_,_,_,o,_,_,e,_⟩:=x;exact aD e|own y=>obtain⟨_,e⟩:=x;exact aD e|frz ob u=>obtain⟨e,_⟩:=x;exact aD e|tbl ps=>exact aD (x)
theorem Paired.mapP{B β:Type}{F G:B->β->Prop}:∀{l₁:List B}{l₂:List β},Paired F l₁ l₂->(∀a b,F a b->G a b)->Paired G l₁ l₂
 |_,_,.nil,_=>.nil
 |_,_,.cons r t,f=>.cons (f _ _ r)<|Paired.mapP t f
def Z7.stay(x:Z7 P w H h a o)(k:∀b u,(b=a\/H b=aa (.own a))->h.get? b=aa u->h'.get? b=aa u)
  (ho:∀b,H b=aa (.own a)->H' b=aa (.own a))(ht:∀b xs,H b=aa (.tup xs)->H' b=aa (.tup xs)):Z7 P w H' h' a o:=by
 induction o with
 |lst xs=>obtain⟨z,its,n,r,e⟩:=x;exact#[z,its,n,r,k _ _ (.inl rfl) e]
 |tup xs=>obtain⟨z,its,r,ob,e,c⟩:=x;exact#[z,its,r,ob,k _ _ (.inl rfl) e,c]
 |dK kvs=>obtain⟨z,y,vs,r,ob,es,ep,e,c⟩:=x;exact#[z,y,vs,r,ob,es,ep,k _ _ (.inl rfl) e,c]
 |dT kvs=>
  obtain⟨z,y,xs,r,ob,es,ep,e,c⟩:=x;exact#[z,y,xs,Paired.mapP r λp q z=>#[z.1,ht _ _ z.2.1,z.2.2],ob,es,ep,k _ _ (.inl rfl) e,c]
 |own y=>obtain⟨ob,e⟩:=x;exact#[ob,k _ _ (.inl rfl) e]
 |frz ob u ih=>obtain⟨e,q⟩:=x;exact#[k _ _ (.inl rfl) e,ih q]
 |tbl ps=>
  have e:=x;exact k a _ (.inl rfl) e
theorem HOk.lt(x:HOk P w H h)(e:H a=aa o):a<h.objs.size:=(x a o e).lt
def HOk.fresh(x:HOk P w H h)(e:h.objs.size<=a):H a=ai:=by
 cases q:H a with|none=>rfl|some u=>exact T7 (bi (x.lt q) e)<|bv _
def HOk.kept(x:HOk P w H h)(k:∀b u,h.get? b=aa u->h'.get? b=aa u):HOk P w H h':=λa o e=>
 (x a o e).stay (λb u _ q=>k b u q) (λ_ q=>q) λ_ _ q=>q
def HOk.laid(x:HOk P w H h)(k:∀b u,h.get? b=aa u->h'.get? b=aa u)(hp:h.objs.size<=a)(new:Z7 P w (upd H a o) h' a o):HOk P w (upd H a o) h':=λb u e=>by
 have hn:=x.fresh hp;by_cases hb:b=a
 .subst hb;rw[Zl]at e;cases e;exact new
 .rw[Zj hb]at e
  exact(x b u e).stay (λc v _ q=>k c v q) (λc q=>by rw[Zj<|ZU q hn];exact q) λc xs q=>by rw[Zj<|ZU q hn];exact q
def Rd(H:Hp)(a:aH)(u:HO):Prop:=H a=aa u\/∃o,H a=aa (.frz o u)
def Rd.ok(r:Rd H a u)(x:HOk P w H h):Z7 P w H h a u:=by
 rcases r with r|⟨o,r⟩
 .exact x a u r
 .obtain⟨_,q⟩:=x a _ r
  exact q
def Mut:Option HO->Prop
 |some (.lst _)=>True
 |some (.dK _)=>True
 |some (.dT _)=>True
 |_=>False
def HOk.write(ok:HOk P w H h)(mu:Mut (H x))(he:e=x\/H e=aa (.own x))(k:∀b u,b≠e->h.get? b=aa u->h'.get? b=aa u)(heo:∃u,h'.get? e=aa u)
  (new:Z7 P w (upd H x o') h' x o'):HOk P w (upd H x o') h':=λb u q=>by
 have nown:∀c y,H c=aa (.own y)->c≠x:=λc y r z=>by subst z;rwa[r]at mu
 have ntup:∀c xs,H c=aa (.tup xs)->c≠x:=λc xs r z=>by subst z;rwa[r]at mu
 by_cases hb:b=x
 .subst hb;rw[Zl]at q;cases q;exact new
 .rw[Zj hb]at q
  by_cases hbe:b=e
  .have q':H b=aa (.own x):=by
    rcases he with z|z
    .exact T7 (hbe.trans z) hb
    .rw[hbe];exact z
   rw[q]at q';cases q';obtain⟨v,hv⟩:=heo;exact#[v,by rw[hbe];exact hv]
  .refine(ok b u q).stay (λc v hc r=>k c v ?_ r) (λc r=>by rw[Zj<|nown c b r];exact r) λc xs r=>by rw[Zj<|ntup c xs r];exact r
   rcases hc with rfl|hc
   .exact hbe
   .rintro rfl
    rcases he with z|z
    .exact nown c b hc z
    .rw[hc]at z;cases z;exact hb rfl
structure Un(fs ex:List aH)(H H':Hp)(h h':cM):Prop where
 keep:∀b o,h.get? b=aa o->H b=ai->b∉fs->b∉ex->h'.get? b=aa o
 slot:∀b o,h.get? b=aa o->H b=ai->b∈fs->b∉ex->∃sl,h'.get? b=aa {o with slots:=sl}
 free:∀b o,h.get? b=aa o->H b=ai->b∉ex->H' b=ai
 there:∀b o,h.get? b=aa o->b∉ex->∃o',h'.get? b=aa o'
 tups:∀b xs,H b=aa (.tup xs)->H' b=aa (.tup xs)
 frzs:∀b o u,H b=aa (.frz o u)->H' b=aa (.frz o u)
 tbls:∀b ps,H b=aa (.tbl ps)->∃more,H' b=aa (.tbl<|ps++more)
def Un.any(u:Un fs ex H H1 h h1)(q:h.get? b=aa ob)(n:H b=ai)(hx:b∉ex):∃sl,h1.get? b=aa {ob with slots:=sl}:=by
 by_cases hb:b∈fs
 .exact u.slot b ob q n hb hx
 .exact#[ob.slots,u.keep b ob q n hb hx]
def Un.kept(k:∀b u,h.get? b=aa u->h'.get? b=aa u):Un fs ex H H h h':=
 #[λb ob q _ _ _=>k b ob q,λb ob q _ _ _=>#[ob.slots,k b ob q],λ_ _ _ n _=>n,λb ob q _=>#[ob,k b ob q],λ_ _ q=>q,λ_ _ _ q=>q,λ_ ps q=>#[#[],by rw[q];simp]]
def Un.refl:Un fs ex H H h h:=Un.kept λ_ _ q=>q
def Un.laid(k:∀b u,h.get? b=aa u->h'.get? b=aa u)(hp:h.objs.size<=a)(hn:H a=ai):Un fs ex H (upd H a o) h h' where
 keep:=λb u q _ _ _=>k b u q
 slot:=λb u q _ _ _=>#[u.slots,k b u q]
 free:=λb u q n _=>by rw[Zj<|a8<|bi (aD q) hp];exact n
 there:=λb u q _=>#[u,k b u q]
 tups:=λb xs q=>by rw[Zj<|ZU q hn];exact q
 frzs:=λb u xs q=>by rw[Zj<|ZU q hn];exact q
 tbls:=λb ps q=>#[#[],by rw[Zj<|ZU q hn,q];simp]
def Un.write(mu:Mut (H x))(he:e=x\/H e=aa (.own x))(k:∀b u,b≠e->h.get? b=aa u->h'.get? b=aa u)(heo:∃u,h'.get? e=aa u):Un fs ex H (upd H x o) h h':=by
 have hx:∀b,H b=ai->b≠x:=λb n z=>by subst z;rwa[n]at mu
 have hb:∀b,H b=ai->b≠e:=λb n z=>by
  subst z;rcases he with r|r
  .exact hx b n r
  .rw[n]at r;cases r
 have hm:∀b u,H b=aa u->¬Mut (aa u)->b≠x:=λb u q nm z=>by subst z;rw[q]at mu;exact nm mu
 refine#[λb u q n _ _=>k b u (hb b n) q,λb u q n _ _=>#[u.slots,k b u (hb b n) q],λb u q n _=>by rw[Zj<|hx b n];exact n,λb u q _=>?_,
  λb xs q=>by rw[Zj<|hm b _ q λz=>z];exact q,λb u xs q=>by rw[Zj<|hm b _ q λz=>z];exact q,λb ps q=>#[#[],by rw[Zj<|hm b _ q λz=>z,q];simp]]
 by_cases hbe:b=e
 .subst hbe;exact heo
 .exact#[u,k b u hbe q]
def trk(h:cM)(H:Hp):List aH:=(aO h.objs.size).filter λa=>(H a).isSome
def Q8(h:cM)(H:Hp):cM:=eR h<|trk h H
def uC(h H):(Q8 h H).objs.size=h.objs.size:=PySem.W.hideAll_size _ _
def jZ(e:h.get? b=aa o)(n:H b=ai):(Q8 h H).get? b=aa o:=
 gH _ e λhm=>by
  have q:=(cy.mp hm).2;rw[n]at q;simp at q
def Zct(e:(Q8 h H).get? b=aa o):h.get? b=aa o/\H b=ai:=by
 have e':=g7 (trk h H) e;refine#[e',?_];cases q:H b with
 |none=>rfl
 |some x=>
  have hm:b∈trk h H:=cy.mpr #[aU.mpr<|aD e',by simp[q]]
  have z:(Q8 h H).get? b=ai:=c9 (trk h H) hm;rw[z]at e;cases e
structure Mod(K:ao)(mg:bN->Option az)(base:cM):Prop where
 kin:K.In base
 glob:base.Ns bx mg
 blt:∃mb,base.Ns nE mb/\∀x:bN,x≠"__name__"->mb x=dB x
 nolimit:base.NoLimit
structure Cx where
 prog:bO
 w:bV
 K:ao
 mg:bN->Option az
 base:cM
 A:cw
 N:List bN
 s₀:aF
 H₀:Hp
 env:Env
 outer:List Env
 stack:List Env
 ex:List aH
 fn:bN->Bool
 calm:Bool
 pn:List (aH×fU)
 xe:az->aF->Prop
def frs(l:List Env):List aH:=l.filterMap (·.frame)
abbrev Cx.fs(X:Cx):List aH:=frs X.outer
def Vis(sc:gE)(x:bN):Prop:=sc.names.lookup x=aa .local\/sc.names.lookup x=aa .cell\/sc.names.lookup x=aa .free
def Loc(sc:gE)(x:bN):Prop:=sc.names.lookup x=aa .local\/sc.names.lookup x=aa .cell
def Look(env:Env)(h:cM)(m:bN->Option az)(x:bN)(u:az):Prop:=
 (env.kindOf x=aa .local/\m x=aa u)\/((env.kindOf x=aa .cell\/env.kindOf x=aa .free)/\∃c,env.cells.lookup x=aa c/\h.IsCell c (aa u))
structure Cx.Ok(X:Cx):Prop where
 mod:Mod X.K X.mg X.base
 kind:X.env.scope.kind=.function
 glob:X.env.globals=bx
 blt:X.env.builtins=nE
 above:X.s₀.heap.objs.size<=X.env.locals
 inj:∀x y c,X.env.cells.lookup x=aa c->X.env.cells.lookup y=aa c->x=y
 has:∀x,(X.env.kindOf x=aa .cell\/X.env.kindOf x=aa .free)->∃c,X.env.cells.lookup x=aa c
 cab:∀x c,X.fn x=ak->X.env.cells.lookup x=aa c->X.s₀.heap.objs.size<=c
 hd:X.calm=ak->X.A.handled=ai
 frames:X.A.frames=aa X.stack
 stk:X.stack=X.outer\/(X.stack=X.env::X.outer/\X.env.frame=aa X.env.locals)
 exf:∀b∈X.ex,b≠X.env.locals/\∀x c,X.env.cells.lookup x=aa c->c≠b
 bs:∀b o,X.base.get? b=aa o->X.s₀.heap.get? b=aa o/\X.H₀ b=ai
 bsz:X.base.objs.size<=X.s₀.heap.objs.size
 noex:∀b o,X.base.get? b=aa o->b∉X.ex
 exfs:∀b∈X.ex,b∉X.fs
 funs:X.s₀.heap.FunFrames X.base X.outer
 frf:∀b∈X.fs,X.H₀ b=ai
structure Inv(X:Cx)(pq:List (aH×fU))(O:List (Option V))(H:Hp)(s:aF):Prop where
 ok:X.Ok
 os:s.os=X.s₀.os
 bare:iN s.gens
 base:Un X.fs X.ex X.H₀ H X.s₀.heap s.heap
 loc:∃m,s.heap.Ns X.env.locals m/\∀(i:Nat)(x:bN)(v:V),X.N[i]?=aa x->O[i]?=aa (aa v)->Vis X.env.scope x->∃u,ZA v u/\Look X.env s.heap m x u
 cell:∀x c,X.env.cells.lookup x=aa c->∃v,s.heap.IsCell c v
 free:H X.env.locals=ai
 freeC:∀x c,X.env.cells.lookup x=aa c->H c=ai
 pin:∀p∈X.pn++pq,s.heap.get? p.1=aa p.2/\H p.1=ai/\p.1≠X.env.locals/\p.1∉X.fs/\∀v,p.2.data≠.cell v
 hok:HOk X.prog X.w H s.heap
 len:O.length=X.N.length
section
variable{X:Cx}{pq:List (aH×fU)}{O:List (Option V)}{H H':Hp}{s:aF}{h':cM}
def Cx.Ok.nofr(ok:X.Ok)(e:X.base.get? b=aa o):b∉X.fs:=λhb=>by
 have:=(ok.funs.mem hb).1;rw[e]at this;cases this
theorem Inv.bs(I:Inv X pq O H s):∀b o,X.base.get? b=aa o->s.heap.get? b=aa o/\H b=ai:=λb o e=>
 #[I.base.keep b o (I.ok.bs b o e).1 (I.ok.bs b o e).2 (I.ok.nofr e)<|I.ok.noex b o e,I.base.free b o (I.ok.bs b o e).1 (I.ok.bs b o e).2<|I.ok.noex b o e]
def Inv.bk(I:Inv X pq O H s):∀b o,X.base.get? b=aa o->s.heap.get? b=aa o:=λb o e=>(I.bs b o e).1
theorem Inv.mod(I:Inv X pq O H s):Mod X.K X.mg X.base:=I.ok.mod
def Inv.kIn(I:Inv X pq O H s):X.K.In s.heap:=I.ok.mod.kin.keeps I.bk
theorem Inv.lt(I:Inv X pq O H s):X.env.locals<s.heap.objs.size:=let #[_,hn,_]:=I.loc;hn.lt
def Inv.sz(I:Inv X pq O H s):X.s₀.heap.objs.size<=s.heap.objs.size:=bU I.ok.above<|gw I.lt
def Inv.nofs(I:Inv X pq O H s)(h:s.heap.objs.size<=a):a∉X.fs:=λhb=>by
 obtain⟨_,o,ho,_⟩:=I.ok.funs.mem hb;exact T7 (bi (aD ho)<|bU I.sz h)<|bv _
def Inv.cne(I:Inv X pq O H s):∀x c,X.env.cells.lookup x=aa c->c≠X.env.locals:=λx c e z=>by
 obtain⟨v,o,ho,hd⟩:=I.cell x c e;obtain⟨m,⟨o',es,ep,ho',hd',_⟩,_⟩:=I.loc;rw[z,ho']at ho;cases ho;rw[hd']at hd;cases hd
theorem Inv.funs(I:Inv X pq O H s):s.heap.FunFrames X.base X.outer:=by
 have all:∀l,(∀b∈frs l,b∈X.fs)->X.s₀.heap.FunFrames X.base l->s.heap.FunFrames X.base l:=by
  intro l
  induction l with
  |nil=>intro _ _;trivial
  |cons env r ih=>
   intro hs hl;obtain⟨hk,⟨L,o,hf,hn,ho,hd⟩,hr⟩:=hl;have hL:=hs L (by unfold frs;rw[cq,hf];exact al)
   obtain⟨sl,e⟩:=I.base.slot L o ho (I.ok.frf L hL) hL λz=>I.ok.exfs L z hL
   exact#[hk,#[L,_,hf,hn,e,hd],ih (λb hb=>hs b<|by unfold frs;rw[cq,hf];exact am _ hb) hr]
 exact all X.outer (λ_ hb=>hb) I.ok.funs
theorem Inv.stack(I:Inv X pq O H s):s.heap.FunFrames X.base X.stack:=by
 rcases I.ok.stk with e|⟨e,hf⟩
 .rw[e];exact I.funs
 .rw[e]
  obtain⟨m,hn,_⟩:=I.loc;refine .cons (by rw[I.ok.kind];decide) hf hn ?_ I.funs
  exact cM.get?_none_of_le<|bU I.ok.bsz I.ok.above
def Inv.stkSub(I:Inv X pq O H s):∀b∈frs X.stack,b∈X.env.locals::X.fs:=λb hb=>by
 rcases I.ok.stk with e|⟨e,hf⟩
 .rw[e]at hb;exact am _ hb
 .rw[e]at hb
  unfold frs at hb;rwa[cq,hf]at hb
def Inv.stkFree(I:Inv X pq O H s):∀b∈frs X.stack,H b=ai:=λb hb=>by
 rcases aw.mp (I.stkSub b hb)with e|hb
 .rw[e];exact I.free
 .obtain⟨_,o,ho,_⟩:=I.ok.funs.mem hb
  exact I.base.free b o ho (I.ok.frf b hb) λz=>I.ok.exfs b z hb
def Inv.step{t':Nat}{ch:List aH}(I:Inv X pq O H s)
  (hch:∀b∈ch,(b∈X.ex\/X.s₀.heap.objs.size<=b)/\b≠X.env.locals/\(∀x c,X.env.cells.lookup x=aa c->c≠b)/\∀p∈X.pn++pq,p.1≠b)
  (keep:∀b o,b≠X.env.locals->b∉X.fs->b∉ch->s.heap.get? b=aa o->H b=ai->h'.get? b=aa o)
  (slot:∀b o,b≠X.env.locals->b∈X.fs->b∉ch->s.heap.get? b=aa o->H b=ai->∃sl,h'.get? b=aa {o with slots:=sl})(free:∀b o,b∉ch->s.heap.get? b=aa o->H b=ai->H' b=ai)
  (there:∀b o,b∉ch->s.heap.get? b=aa o->∃o',h'.get? b=aa o')
  (tups:∀b xs,H b=aa (.tup xs)->H' b=aa (.tup xs))(frzs:∀b o u,H b=aa (.frz o u)->H' b=aa (.frz o u))(tbls:∀b ps,H b=aa (.tbl ps)->∃more,H' b=aa (.tbl<|ps++more))
  (ns:∀m,s.heap.Ns X.env.locals m->h'.Ns X.env.locals m)(hok:HOk X.prog X.w H' h')(hg:iN g') :
  Inv X pq O H' {s with heap:=h',gens:=g',drawn:=d',toks:=t' }:=by
 have neL:∀b o,X.s₀.heap.get? b=aa o->b≠X.env.locals:=λb o e=>a8<|bi (aD e) I.ok.above
 have neC:∀b o,X.s₀.heap.get? b=aa o->b∉X.ex->b∉ch:=λb o e hx hb=>by
  rcases(hch b hb).1 with z|z
  .exact hx z
  .exact T7 (bi (aD e) z)<|bv _
 have cellK:∀x c,X.env.cells.lookup x=aa c->∀v,s.heap.IsCell c v->h'.IsCell c v:=by
  rintro x c e v ⟨o,ho,hd⟩;have nch:=λz=>(hch c z).2.2.1 x c e rfl
  by_cases hc:c∈X.fs
  .obtain⟨sl,q⟩:=slot c o (I.cne x c e) hc nch ho (I.freeC x c e)
   exact#[_,q,hd]
  .exact#[o,keep c o (I.cne x c e) hc nch ho<|I.freeC x c e,hd]
 refine#[I.ok,I.os,hg,#[λb o e n hb hx=>?_,λb o e n hb hx=>?_,λb o e n hx=>?_,λb o e hx=>?_,λb xs e=>tups b xs<|I.base.tups b xs e,λb o xs e=>frzs b o xs<|I.base.frzs b o xs e,λb ps e=>?_],?_,λx c e=>?_,?_,λx c e=>?_,λp hp=>?_,hok,I.len]
 .exact keep b o (neL b o e) hb (neC b o e hx) (I.base.keep b o e n hb hx)<|I.base.free b o e n hx
 .obtain⟨sl,e1⟩:=I.base.slot b o e n hb hx
  obtain⟨sl',e2⟩:=slot b _ (neL b o e) hb (neC b o e hx) e1<|I.base.free b o e n hx;exact#[sl',e2]
 .obtain⟨o',e1⟩:=I.base.there b o e hx
  exact free b o' (neC b o e hx) e1<|I.base.free b o e n hx
 .obtain⟨o',e1⟩:=I.base.there b o e hx
  exact there b o' (neC b o e hx) e1
 .obtain⟨m1,e1⟩:=I.base.tbls b ps e
  obtain⟨m2,e2⟩:=tbls b _ e1;exact#[m1++m2,by rw[e2,nF]]
 .obtain⟨m,hn,hl⟩:=I.loc
  refine#[m,ns m hn,λi x v e1 e2 e3=>?_]
  obtain⟨u,r,l⟩:=hl i x v e1 e2 e3;refine#[u,r,?_];rcases l with l|⟨k,c,e,z⟩
  .exact .inl l
  .exact .inr #[k,c,e,cellK x c e _ z]
 .obtain⟨v,z⟩:=I.cell x c e
  exact#[v,cellK x c e v z]
 .obtain⟨m,⟨o,_,_,ho,_⟩,_⟩:=I.loc
  exact free _ o (λz=>(hch _ z).2.1 rfl) ho I.free
 .obtain⟨v,o,ho,hd⟩:=I.cell x c e
  exact free c o (λz=>(hch c z).2.2.1 x c e rfl) ho<|I.freeC x c e
 .obtain⟨e,n,ne,nf,d⟩:=I.pin p hp
  have nch:=λz=>(hch p.1 z).2.2.2 p hp rfl
  exact#[keep p.1 p.2 ne nf nch e n,free p.1 p.2 nch e n,ne,nf,d]
def Inv.un{t':Nat}(I:Inv X pq O H s)(u:Un X.fs [] H H' s.heap h')(hok:HOk X.prog X.w H' h'):Inv X pq O H' {s with heap:=h',toks:=t' }:=by
 obtain⟨m,⟨o,es,ep,ho,r⟩,_⟩:=id I.loc;obtain⟨sl,hL⟩:=u.any ho I.free #[2]
 exact I.step (ch:=[]) (λ_ z=>nomatch z) (λb o _ hb _ e n=>u.keep b o e n hb<|by simp) (λb o _ hb _ e n=>u.slot b o e n hb<|by simp) (λb o _ e n=>u.free b o e n<|by simp) (λb o _ e=>u.there b o e<|by simp) u.tups u.frzs u.tbls (λm' hm=>by
  obtain⟨o',es',ep',ho',r'⟩:=hm;rw[ho]at ho';cases ho';exact#[_,es',ep',hL,r']) hok I.bare
def Inv.call{g':Array GenState}{t':Nat}{d':Drawn}(I:Inv X pq O H s)(u:Un (frs X.stack) ch H H' s.heap h')(hok:HOk X.prog X.w H' h')(hg:iN g')
  (hch:∀b∈ch,(b∈X.ex\/X.s₀.heap.objs.size<=b)/\b≠X.env.locals/\(∀x c,X.env.cells.lookup x=aa c->c≠b)/\∀p∈X.pn++pq,p.1≠b) :
  Inv X pq O H' {s with heap:=h',gens:=g',drawn:=d',toks:=t' }:=by
 obtain⟨m,⟨o,es,ep,ho,r⟩,_⟩:=id I.loc;obtain⟨sl,hL⟩:=u.any ho I.free λz=>(hch _ z).2.1 rfl
 exact I.step hch (λb o hL hb hc e n=>u.keep b o e n (λz=>(aw.mp<|I.stkSub b z).elim hL hb) hc) (λb o _ _ hc e n=>u.any e n hc) (λb o hc e n=>u.free b o e n hc) (λb o hc e=>u.there b o e hc) u.tups u.frzs u.tbls (λm' hm=>by
  obtain⟨o',es',ep',ho',r'⟩:=hm;rw[ho]at ho';cases ho';exact#[_,es',ep',hL,r']) hok hg
def Inv.turned{t':Nat}{it:aH}(I:Inv X pq O H s)(k:∀b o,b≠it->s.heap.get? b=aa o->h'.get? b=aa o)(hn:H it=ai)(hL:it≠X.env.locals)
  (h1:it∈X.ex\/X.s₀.heap.objs.size<=it)(h2:∀x c,X.env.cells.lookup x=aa c->c≠it)(h3:∀p∈X.pn++pq,p.1≠it):Inv X pq O H {s with heap:=h',toks:=t' }:=by
 have nit:∀b u,H b=aa u->b≠it:=λb u e z=>by rw[z,hn]at e;cases e
 refine I.step (g':=s.gens) (d':=s.drawn) (ch:=[it]) (λb hb=>?_) (λb o _ _ hc e _=>k b o (λz=>hc<|by simp[z]) e) (λb o _ _ hc e _=>#[o.slots,k b o (λz=>hc<|by simp[z]) e]) (λ_ _ _ _ n=>n)
  (λb o hc e=>#[o,k b o (λz=>hc<|by simp[z]) e]) (λ_ _ e=>e) (λ_ _ _ e=>e) (λb ps e=>#[#[],by rw[e];simp]) (λm hm=>?_) (λb u e=>?_) I.bare
 .have e:b=it:=by simpa using hb
  subst e;exact#[h1,hL,h2,h3]
 .obtain⟨o,es,ep,ho,r⟩:=hm
  exact#[o,es,ep,k _ o (Ne.symm hL) ho,r]
 .refine(I.hok b u e).stay (λc v hc q=>k c v ?_ q) (λ_ q=>q) λ_ _ q=>q
  rcases hc with z|z
  .rw[z];exact nit b u e
  .exact nit c _ z
def Inv.tok(I:Inv X pq O H s)(t):Inv X pq O H {s with toks:=t}:=I.un Un.refl I.hok
theorem Inv.kept(I:Inv X pq O H s)(k:∀b u,s.heap.get? b=aa u->h'.get? b=aa u):Inv X pq O H {s with heap:=h',toks:=t' }:=I.un (Un.kept k)<|I.hok.kept k
theorem Inv.laid(I:Inv X pq O H s)(k:∀b u,s.heap.get? b=aa u->h'.get? b=aa u)(hp:s.heap.objs.size<=a)(new:Z7 X.prog X.w (upd H a o) h' a o) :
  Inv X pq O (upd H a o) {s with heap:=h',toks:=t' }:=I.un (Un.laid k hp<|I.hok.fresh hp)<|I.hok.laid k hp new
theorem Inv.write(I:Inv X pq O H s)(mu:Mut (H x))(he:e=x\/H e=aa (.own x))(k:∀b u,b≠e->s.heap.get? b=aa u->h'.get? b=aa u)(heo:∃u,h'.get? e=aa u)
  (new:Z7 X.prog X.w (upd H x o) h' x o):Inv X pq O (upd H x o) {s with heap:=h',toks:=t' }:=I.un (Un.write mu he k heo)<|I.hok.write mu he k heo new
def Inv.pins_of(I:Inv X pq O H s)(h:∀p∈pins',s.heap.get? p.1=aa p.2/\H p.1=ai/\p.1≠X.env.locals/\p.1∉X.fs/\∀v,p.2.data≠.cell v):Inv X pins' O H s:=
 #[I.ok,I.os,I.bare,I.base,I.loc,I.cell,I.free,I.freeC,λp hp=>(bK.mp hp).elim (λz=>I.pin p<|da _ z)<|h p,I.hok,I.len]
def Qy{N:List bN}(hN:N.Nodup){i j:Nat}(a:N[i]?=aa x)(b:N[j]?=aa x):i=j:=by
 obtain⟨h1,e1⟩:=aG.mp a;obtain⟨h2,e2⟩:=aG.mp b;exact(List.getElem_inj hN).mp<|e1.trans e2.symm
def J0{x:bN}{v:V}(I:Inv X pq O H s)(hN:X.N.Nodup)(hi:X.N[i]?=aa x)(hx:Loc X.env.scope x)(r:ZA v u)
  (h:∀s',Inv X pq (O.set i<|aa v) H s'->(∃a,ej a s.heap s'.heap/\(a=X.env.locals\/X.env.cells.lookup x=aa a))->Q () s')(hf:X.fn x=ak\/X.env.scope.names.lookup x=aa .local:=by first|exact .inl rfl|exact .inr rfl|assumption):aW M A (storeName X.env x u) Q E s:=by
 obtain⟨m,hn,hl⟩:=id I.loc;have hcls:(X.env.scope.kind == .class||(X.env.scope.kind == .module&&X.env.locals != X.env.globals))=aj:=by rw[I.ok.kind];rfl
 have hiσ:i<O.length:=by rw[I.len];exact(aG.mp hi).1
 have cne:=I.cne;have tracked:∀{a:aH}{h':cM},(∃o,s.heap.get? a=aa o/\H a=ai)->ej a s.heap h'->HOk X.prog X.w H h':=λ{a h'} ha hs b ob e=>by
  obtain⟨_,_,hfree⟩:=ha;refine(I.hok b ob e).stay (λc w' hc q=>(hs.2 c ?_).trans q) (λ_ q=>q) λ_ _ q=>q
  rintro rfl
  rcases hc with rfl|hc
  .rw[hfree]at e;cases e
  .rw[hfree]at hc;cases hc
 rcases hx with hk|hk
 .refine wpAny_storeName_local hk hn (λh' hn' hs=>?_) hcls
  obtain⟨oL,_,_,hoL,_⟩:=id hn;refine h _ #[I.ok,I.os,I.bare,#[λb o e n hb hx=>?_,λb o e n hb hx=>?_,I.base.free,λb o e hx=>?_,I.base.tups,I.base.frzs,I.base.tbls],#[_,hn',λj y v' e1 e2 e3=>?_],λy c e=>?_,I.free,I.freeC,λp hp=>?_,tracked #[oL,hoL,I.free] hs,by simpa using I.len] #[_,hs,.inl rfl]
  .exact(hs.2 b<|a8<|bi (aD e) I.ok.above).trans<|I.base.keep b o e n hb hx
  .obtain⟨sl,e1⟩:=I.base.slot b o e n hb hx
   exact#[sl,(hs.2 b<|a8<|bi (aD e) I.ok.above).trans e1]
  .obtain⟨o',e1⟩:=I.base.there b o e hx
   exact#[o',(hs.2 b<|a8<|bi (aD e) I.ok.above).trans e1]
  .by_cases hj:j=i
   .subst hj
    rw[hi]at e1;cases e1;rw[bc hiσ]at e2;cases e2;exact#[u,r,.inl #[hk,by simp]]
   .rw[ba<|Ne.symm hj]at e2
    obtain⟨u',r',q⟩:=hl j y v' e1 e2 e3;refine#[u',r',?_];rcases q with⟨k,e⟩|⟨k,c,e,z⟩
    .refine .inl #[k,?_]
     have:y≠x:=λe=>hj<|Qy hN e1<|e▸hi
     simp[this,e]
    .exact .inr #[k,c,e,z.sameBut hs<|cne y c e]
  .obtain⟨w',z⟩:=I.cell y c e
   exact#[w',z.sameBut hs<|cne y c e]
  .obtain⟨e,n,ne,nf,d⟩:=I.pin p hp
   exact#[(hs.2 p.1 ne).trans e,n,ne,nf,d]
 .have hfn:X.fn x=ak:=by
   rcases hf with z|z
   .exact z
   .rw[z]at hk;cases hk
  obtain⟨c,hc⟩:=I.ok.has x<|.inl hk;obtain⟨w',z⟩:=I.cell x c hc;refine wpAny_storeName_cell I.ok.kind hk hc z λh' hc' hs=>?_
  obtain⟨oc,hoc,hocd⟩:=id z;refine h {s with heap:=h' } #[I.ok,I.os,I.bare,#[λb o e n hb hx=>?_,λb o e n hb hx=>?_,I.base.free,λb o e hx=>?_,I.base.tups,I.base.frzs,I.base.tbls],#[m,hn.sameBut hs<|Ne.symm<|cne x c hc,λj y v' e1 e2 e3=>?_],λy c' e=>?_,I.free,I.freeC,λp hp=>?_,tracked #[oc,hoc,I.freeC x c hc] hs,by simpa using I.len] #[c,hs,.inr hc]
  .exact(hs.2 b<|a8<|bi (aD e)<|I.ok.cab x c hfn hc).trans<|I.base.keep b o e n hb hx
  .obtain⟨sl,e1⟩:=I.base.slot b o e n hb hx
   exact#[sl,(hs.2 b<|a8<|bi (aD e)<|I.ok.cab x c hfn hc).trans e1]
  .obtain⟨o',e1⟩:=I.base.there b o e hx
   exact#[o',(hs.2 b<|a8<|bi (aD e)<|I.ok.cab x c hfn hc).trans e1]
  .by_cases hj:j=i
   .subst hj
    rw[hi]at e1;cases e1;rw[bc hiσ]at e2;cases e2;exact#[u,r,.inr #[.inl hk,c,hc,hc']]
   .rw[ba<|Ne.symm hj]at e2
    obtain⟨u',r',q⟩:=hl j y v' e1 e2 e3;refine#[u',r',?_];rcases q with q|⟨k,c',e,z'⟩
    .exact .inl q
    .refine .inr #[k,c',e,z'.sameBut hs ?_]
     rintro rfl
     exact hj<|Qy hN e1<|I.ok.inj _ _ _ e hc▸hi
  .by_cases hcc:c'=c
   .subst hcc;exact#[_,hc']
   .obtain⟨w2,z2⟩:=I.cell y c' e
    exact#[w2,z2.sameBut hs hcc]
  .obtain⟨e,n,ne,nf,d⟩:=I.pin p hp
   refine#[(hs.2 p.1 ?_).trans e,n,ne,nf,d];intro q;rw[q,hoc]at e;exact d w' (by rw[<-(ap e)];exact hocd)
def Vd(I:Inv X pq O H s)(hN:X.N.Nodup)(hi:X.N[i]?=aa x)(hx:Loc X.env.scope x)(r:ZA v u)
  (h:∀s',Inv X pq (O.set i<|aa v) H s'->Q () s')(hf:X.fn x=ak\/X.env.scope.names.lookup x=aa .local:=by first|exact .inl rfl|exact .inr rfl|assumption):aW M A (storeName X.env x u) Q E s:=
 J0 I hN hi hx r (λs' I' _=>h s' I') hf
def Inv.call'(I:Inv X pq O H s)(ho:s'.os=s.os)(u:Un (frs X.stack) ch H H' s.heap s'.heap)(hok:HOk X.prog X.w H' s'.heap)(hg:iN s'.gens)
  (hch:∀b∈ch,(b∈X.ex\/X.s₀.heap.objs.size<=b)/\b≠X.env.locals/\(∀x c,X.env.cells.lookup x=aa c->c≠b)/\∀p∈X.pn++pq,p.1≠b):Inv X pq O H' s':=by
 obtain⟨h',g',d',t',o'⟩:=s';subst ho;exact I.call u hok hg hch
end
abbrev XK:=az->Option aH->Hp->Prop
abbrev St:=List<|Option V
abbrev VK:=V->Hp->Prop
abbrev TE:=St->Hp->VK->Prop
abbrev TT:=St->Hp->(Bool->Hp->Prop)->Prop
abbrev TA:=St->Hp->(List V->Hp->Prop)->Prop
structure Ends where
 nx:St->Hp->Prop
 rt:VK
 bk:St->Hp->Prop:=λ_ _=>False
 ct:St->Hp->Prop:=λ_ _=>False
abbrev TS:=Ends->St->Hp->Prop
def EP(X:Cx)(pq:List (aH×fU))(O:St)(Q:VK)(u:az)(s':aF):Prop:=∃v H',Inv X pq O H' s'/\ZA v u/\Q v H'
def TP(X:Cx)(pq:List (aH×fU))(O:St)(Q:Bool->Hp->Prop)(b:Bool)(s':aF):Prop:=∃H',Inv X pq O H' s'/\Q b H'
def AP(X:Cx)(pq:List (aH×fU))(O:St)(Q:List V->Hp->Prop)(us:List az)(s':aF):Prop:=∃vs H',Inv X pq O H' s'/\Vals vs us/\Q vs H'
def SP(X:Cx)(pq:List (aH×fU))(D:Ends)(f:Flow)(s':aF):Prop:=
 match f with
 |.next=>∃σ' H',Inv X pq σ' H' s'/\D.nx σ' H'
 |.brk=>∃σ' H',Inv X pq σ' H' s'/\D.bk σ' H'
 |.cont=>∃σ' H',Inv X pq σ' H' s'/\D.ct σ' H'
 |.ret u=>∃v σ' H',Inv X pq σ' H' s'/\ZA v u/\D.rt v H'
def PE(X:Cx)(e:Expr)(t:TE):Prop:=
 ∀(pq:List (aH×fU))(s:aF)(O:St)(H:Hp)(Q:VK),Inv X pq O H s->t O H Q->aW (aR X.prog X.w) X.A (cz e X.env) (EP X pq O Q) X.xe s
def PT(X:Cx)(e:Expr)(t:TT):Prop:=
 ∀(pq:List (aH×fU))(s:aF)(O:St)(H:Hp)(Q:Bool->Hp->Prop),Inv X pq O H s->t O H Q->aW (aR X.prog X.w) X.A (isTrue e X.env<|cz e X.env) (TP X pq O Q) X.xe s
def PW(X:Cx)(e:Expr)(t:TT):Prop:=
 ∀(whole:pR az)(pq:List (aH×fU))(s:aF)(O:St)(H:Hp)(Q:Bool->Hp->Prop),Inv X pq O H s->t O H Q->aW (aR X.prog X.w) X.A (isTrue e X.env whole) (TP X pq O Q) X.xe s
def PW.pt(h:PW X e t):PT X e t:=h _
def PA(X:Cx)(es:List Expr)(t:TA):Prop:=
 ∀(pos:iE)(pq:List (aH×fU))(s:aF)(O:St)(H:Hp)(Q:List V->Hp->Prop),Inv X pq O H s->t O H Q->aW (aR X.prog X.w) X.A (spliced<|dL pos<|ay es X.env) (AP X pq O Q) X.xe s
def PS(X:Cx)(st:fq)(t:TS):Prop:=
 ∀(pq:List (aH×fU))(s:aF)(O:St)(H:Hp)(D:Ends),Inv X pq O H s->t D O H->aW (aR X.prog X.w) X.A (exec st X.env) (SP X pq D) X.xe s
def PSs(X:Cx)(st:List fq)(t:TS):Prop:=
 ∀(pq:List (aH×fU))(s:aF)(O:St)(H:Hp)(D:Ends),Inv X pq O H s->t D O H->aW (aR X.prog X.w) X.A (execs st X.env) (SP X pq D) X.xe s
def thn{B:Type}{t:pR B}{Q Q':B->aF->Prop}(h:aW M A t Q E s)(hQ:∀a s,Q a s->Q' a s):aW M A t Q' E s:=dq h hQ λ_ _ x=>x
def xB(i:Nat):TE:=λO H Q=>∃v,O[i]?=aa (aa v)/\Q v H
def tC(v:V):TE:=λ_ H Q=>Q v H
def Yx(hN:X.N[i]?=aa x)(hv:Vis X.env.scope x)(hd:(x == ("__debug__" : bN))=aj:=by decide)(hcd:(x == ("__classdict__" : bN))=aj:=by decide):PE X (.Name x pos) (xB i):=by
 intro pq s O H Q I h;obtain⟨v,e,h⟩:=h;obtain⟨m,hn,hl⟩:=I.loc;obtain⟨u,r,l⟩:=hl i x v hN e hv;have fin:EP X pq O Q u s:=#[v,H,I,r,h];rcases l with⟨hk,hm⟩|⟨hk,c,hc,hcell⟩
 .exact kr (iS I.ok.kind hk hn hm fin) hd
 .rcases hk with hk|hk
  .exact kr (kg I.ok.kind hk hc hcell fin) hd
  .exact kr (m7 I.ok.kind hk hc hcell fin hcd) hd
def Qw{i j pos}:PE X (.Constant (.int i) j pos) (tC<|.int i):=λ_ _ _ H _ I h=>wpAny_Constant_int #[.int i,H,I.tok _,#[_,rfl],h]
def ud{b j pos}:PE X (.Constant (.bool b) j pos) (tC<|.bl b):=λ_ _ _ H _ I h=>Constant_bool #[.bl b,H,I,rfl,h]
def wa{j pos}:PE X (.Constant .none j pos) (tC .non):=λ_ _ _ H _ I h=>Constant_none #[.non,H,I,rfl,h]
def Zbu{x j pos}:PE X (.Constant (.str x) j pos) (tC<|.str x):=λ_ _ _ H _ I h=>Calls.Constant_str #[.str x,H,I.tok _,#[_,rfl],h]
def Gl(X:Cx)(x:bN):Prop:=X.env.kindOf x=aa .globalImplicit
def Ve(I:Inv X pq O H s)(hg:Gl X x)(hm:X.mg x=aa u)(h:Q u s)
  (hd:(x == ("__debug__" : bN))=aj:=by decide):aW (aR X.prog X.w) X.A (cz (.Name x pos) X.env) Q E s:=
 Calls.Name_function_global I.ok.kind hg (Calls.loadGlobal_global (by rw[I.ok.glob];exact I.mod.glob.keeps I.bk) hm h) hd
def Xp(I:Inv X pq O H s)(hg:Gl X x)(hm:X.mg x=ai)(hv:dB x=aa u)(h:Q u s)
  (hn:x≠"__name__":=by decide)(hd:(x == ("__debug__" : bN))=aj:=by decide):aW (aR X.prog X.w) X.A (cz (.Name x pos) X.env) Q E s:=by
 obtain⟨mb,h1,h2⟩:=I.mod.blt;exact Calls.Name_function_global I.ok.kind hg (Calls.loadGlobal_builtin (by rw[I.ok.glob];exact I.mod.glob.keeps I.bk) hm (by rw[I.ok.blt];exact h1.keeps I.bk) ((h2 x hn).trans hv) h) hd
def Zd2(hg:Gl X x)(hm:X.mg x=aa u)(r:ZA v u)(hd:(x == ("__debug__" : bN))=aj:=by decide):PE X (.Name x pos) (tC v):=
 λ_ _ _ H _ I h=>Ve I hg hm #[v,H,I,r,h] hd
def UW(hg:Gl X x)(hm:X.mg x=ai)(hv:dB x=aa u)(r:ZA v u)(hn:x≠"__name__":=by decide)(hd:(x == ("__debug__" : bN))=aj:=by decide):PE X (.Name x pos) (tC v):=
 λ_ _ _ H _ I h=>Xp I hg hm hv #[v,H,I,r,h] hn hd
def PC(X:Cx)(op:CmpOp)(a b:Expr)(t:TE):Prop:=
 ∀(pq:List (aH×fU))(s:aF)(O:St)(H:Hp)(Q:VK),Inv X pq O H s->t O H Q->
  aW (aR X.prog X.w) X.A (cz a X.env) (λv s₁=>aW (aR X.prog X.w) X.A (cz b X.env) (λu s₂=>aW (aR X.prog X.w) X.A (cU op v u) (EP X pq O Q) X.xe s₂) X.xe s₁) X.xe s
def ZaQ(b)(h:op≠.In)(h2:op≠.NotIn):eB op b=aj:=by
 have e1:(op == CmpOp.In)=aj:=by cases op<;>first|rfl|exact T7 rfl h
 have e2:(op == CmpOp.NotIn)=aj:=by cases op<;>first|rfl|exact T7 rfl h2
 cases b<;>simp[eB,e1,e2]
def ZhH(ta:TE):TE:=λO H Q=>ta O H λx H1=>Q (.bl<|ag<|x=.non) H1
def ZA.none_iff(r:ZA x v):(v == bw)=ag (x=.non):=by
 cases x with|non=>cases r;rfl|bl _=>cases r;rfl|int _=>obtain⟨t,rfl⟩:=r;rfl|str _=>obtain⟨t,rfl⟩:=r;rfl|ref _=>cases r;rfl|ty _=>cases r;rfl
def Zgi{j pos'}(ha:PE X a ta):PC X .Is a (.Constant .none j pos') (ZhH ta):=by
 intro pq s O H Q I h;refine thn (ha pq s O H _ I h) λv s1 #[x,H1,I1,r1,q1]=>?_
 exact Constant_none<|is_none_gen #[.bl _,H1,I1,by rw[r1.none_iff];rfl,q1]
def tB(t:TE):TT:=λO H Q=>t O H λx H1=>∃c,x=.bl c/\Q c H1
def Zgr(h:PC X op a b t)(h1:eB op b=aj:=by first|exact ZaQ _ #[1] #[1]|rfl):PT X (.Compare a [op] [b] pos) (tB t):=by
 intro pq s O H Q I hw;refine mz (thn (h pq s O H _ I hw) λv s1 h1=>thn h1 λu s2 h2=>thn h2 λc s3 #[x,H1,I1,r1,q1]=>?_) h1
 obtain⟨d,rfl,q⟩:=q1;cases r1;exact d8 #[H1,I1,q]
def ZeP(h:PE X e t)(he:∀whole,isTrue e X.env whole=(do let v <-whole;n8 e.pos;kZ [v] (rW v)):=by intro _;rfl):PT X e (tB t):=by
 intro pq s O H Q I hw;refine isTrue_plain (thn (h pq s O H _ I hw) λv s1 #[x,H1,I1,r1,q1]=>?_)<|he _
 obtain⟨d,rfl,q⟩:=q1;cases r1;exact d8 #[H1,I1,q]
def Zib(t u:TT):TT:=λO H Q=>t O H λc H1=>if c=ak then u O H1 Q else Q aj H1
def tOr(t u:TT):TT:=λO H Q=>t O H λc H1=>if c=ak then Q ak H1 else u O H1 Q
def Zg1(t:TT):TT:=λO H Q=>t O H λc H1=>Q (!c) H1
def ZdK(ha:PT X a tA):PW X (.BoolOp .And [a] pos) tA:=by
 intro wh pq s O H Q I h;refine isTrue_and<|thn (ha pq s O H Q I h) λc s1 e=>?_
 cases c with|true=>exact isTrue_and_nil e|false=>exact e
def Za0(ha:PT X a tA):PW X (.BoolOp .Or [a] pos) tA:=by
 intro wh pq s O H Q I h;refine isTrue_or<|thn (ha pq s O H Q I h) λc s1 e=>?_
 cases c with|false=>exact isTrue_or_nil e|true=>exact e
def ZgJ(ha:PT X a tA)(hb:PW X (.BoolOp .And (b::rest) pos) tB'):PW X (.BoolOp .And (a::b::rest) pos) (Zib tA tB'):=by
 intro wh pq s O H Q I h;refine isTrue_and<|thn (ha pq s O H _ I h) λc s1 #[H1,I1,q1]=>?_
 cases c with|true=>exact hb wh pq s1 O H1 Q I1 q1|false=>exact#[H1,I1,q1]
def ZeA(ha:PT X a tA)(hb:PW X (.BoolOp .Or (b::rest) pos) tB'):PW X (.BoolOp .Or (a::b::rest) pos) (tOr tA tB'):=by
 intro wh pq s O H Q I h;refine isTrue_or<|thn (ha pq s O H _ I h) λc s1 #[H1,I1,q1]=>?_
 cases c with|true=>exact#[H1,I1,q1]|false=>exact hb wh pq s1 O H1 Q I1 q1
def jO(ha:PT X a tA):PT X (.UnaryOp .Not a pos) (Zg1 tA):=by
 intro pq s O H Q I h;exact isTrue_not<|ha pq s O H (λc H1=>Q (!c) H1) I h
def ZgL(ta tb:TE):TE:=λO H Q=>ta O H λx H1=>∃c,x=.bl c/\if c=ak then tb O H1 Q else Q (.bl aj) H1
def Zgx{op}(h:PE X a t):PE X (.BoolOp op [a] pos) t:=λpq s O H Q I hw=>BoolOp_one<|h pq s O H Q I hw
def ZgF(ha:PE X a ta)(hb:PE X (.BoolOp .And (b::rest) pos) tb):PE X (.BoolOp .And (a::b::rest) pos) (ZgL ta tb):=by
 intro pq s O H Q I h;refine BoolOp_and<|thn (ha pq s O H _ I h) λv s1 #[x,H1,I1,r1,q1]=>?_
 obtain⟨c,rfl,q1⟩:=q1;cases r1;refine d8 ?_;cases c with|true=>exact hb pq s1 O H1 Q I1 q1|false=>exact#[.bl aj,H1,I1,rfl,q1]
def SqL(K:ao)(H:Hp)(a:aH)(xs:List V):Prop:=
 Rd H a (.lst xs)\/
  ∃(o:fU)(its:Array az)(n:Nat),K.lookup a=aa o/\o.cls=.type "list"/\o.dict=ai/\o.data=.seq its n/\its.size<=a9/\Vals xs its.toList
def SqT(K:ao)(H:Hp)(a:aH)(xs:List V):Prop:=
 Rd H a (.tup xs)\/
  ∃(o:fU)(its:Array az)(n:Nat),K.lookup a=aa o/\o.cls=.type "tuple"/\o.data=.seq its n/\its.size<=a9/\Vals xs its.toList
noncomputable def ZhV:az->Option V
 |.none=>aa .non
 |.bool b=>aa<|.bl b
 |.int i _=>aa<|.int i
 |.str x _=>aa<|.str x
 |.ref a=>aa<|.ref a
 |.type n=>aa<|.ty n
 |_=>ai
def ZA.abs(r:ZA x u):ZhV u=aa x:=by
 cases x with|non=>cases r;rfl|bl _=>cases r;rfl|int _=>obtain⟨t,rfl⟩:=r;rfl|str _=>obtain⟨t,rfl⟩:=r;rfl|ref _=>cases r;rfl|ty _=>cases r;rfl
def ZA.inj(r:ZA x u)(q:ZA y u):x=y:=ap<|r.abs.symm.trans q.abs
theorem Vals.inj:∀{xs ys:List V}{us:List az},Vals xs us->Vals ys us->xs=ys
 |_,_,_,.nil,.nil=>rfl
 |_,_,_,.cons r t,.cons r' t'=>by rw[r.inj r',Vals.inj t t']
def SqL.of{K:ao}(h:H a=aa (.lst xs)):SqL K H a xs:=.inl<|.inl h
def SqT.of{K:ao}(h:H a=aa (.tup xs)):SqT K H a xs:=.inl<|.inl h
def Inv.list(I:Inv X pq O H s)(h:SqL X.K H a xs):∃its,Vals xs its/\PlainL s.heap a its.toArray/\xs.length<=a9:=by
 rcases h with h|⟨o,its,n,hk,hc,hd,hs,hz,r⟩
 .obtain⟨z,its,n,r,e⟩:=h.ok I.hok
  exact#[its,r,#[_,n,e,rfl,rfl,rfl],z]
 .refine#[its.toList,r,#[o,n,I.kIn a o hk,hc,hd,by simpa using hs],?_]
  have e:=r.length;simp at e;lia
def Inv.tuple(I:Inv X pq O H s)(h:SqT X.K H a xs):∃its,Vals xs its/\n6 s.heap a its.toArray/\xs.length<=a9:=by
 rcases h with h|⟨o,its,n,hk,hc,hs,hz,r⟩
 .obtain⟨z,its,r,p⟩:=h.ok I.hok
  exact#[its,r,p,z]
 .refine#[its.toList,r,#[o,I.kIn a o hk,hc,n,by simpa using hs],?_]
  have e:=r.length;simp at e;lia
def Inv.list_inj(I:Inv X pq O H s)(h:SqL X.K H a xs)(h':SqL X.K H a ys):xs=ys:=by
 obtain⟨its,r,⟨o,n,e,_,_,d⟩,_⟩:=I.list h;obtain⟨its',r',⟨o',n',e',_,_,d'⟩,_⟩:=I.list h';rw[e]at e';cases e';rw[d]at d';injection d' with d1 _
 have:its=its':=by simpa using congrArg oa d1
 subst this;exact r.inj r'
def Inv.tuple_inj(I:Inv X pq O H s)(h:SqT X.K H a xs)(h':SqT X.K H a ys):xs=ys:=by
 obtain⟨its,r,⟨o,e,_,n,d⟩,_⟩:=I.tuple h;obtain⟨its',r',⟨o',e',_,n',d'⟩,_⟩:=I.tuple h';rw[e]at e';cases e';rw[d]at d';injection d' with d1 _
 have:its=its':=by simpa using congrArg oa d1
 subst this;exact r.inj r'
section
variable{X:Cx}{st:fq}{rest:List fq}{t u:TS}{e:Expr}{te:TE}{pos:iE}
def ZbC:TS:=λD O H=>D.nx O H
def wu(t u:TS):TS:=λD O H=>t {D with nx:=u D} O H
def GP:PSs X [] ZbC:=λ_ _ O H _ I h=>fQ #[O,H,I,h]
def YJ(h1:PS X st t)(h2:PSs X rest u):PSs X (st::rest) (wu t u):=by
 intro pq s O H D I h;refine gy<|thn (h1 pq s O H {D with nx:=u D} I h) λf s1 q=>?_
 cases f with
 |next=>
  obtain⟨σ',H',I',q⟩:=q;exact h2 pq s1 σ' H' D I' q
 |ret v=>exact q
 |brk=>exact q
 |cont=>exact q
def US(h1:PS X st t):PSs X [st] t:=by
 intro pq s O H D I h;refine gy<|thn (h1 pq s O H D I h) λf s1 q=>?_
 cases f with|next=>exact fQ q|ret v=>exact q|brk=>exact q|cont=>exact q
def Inv.quiet(I:Inv X pq O H s):interactive X.env=aj:=by simp[interactive,I.ok.kind]
def Zea(te:TE):TS:=λD O H=>te O H λ_ H1=>D.nx O H1
def UK(he:PE X e te)(hs:eC e ai pos.line X.env=cJ aj:=by rfl):PS X (.Expr e pos) (Zea te):=by
 intro pq s O H D I h;exact wpAny_Expr_any (thn (he pq s O H _ I h)<|by rintro v s1 ⟨x,H1,I1,r1,q1⟩;exact #[O,H1,I1,q1]) I.quiet hs
def ZdB(te:TE):TS:=λD O H=>te O H D.rt
def UX(he:PE X e te):PS X (.Return (aa e) pos) (ZdB te):=by
 intro pq s O H D I h;exact wpAny_Return_some<|thn (he pq s O H _ I h)<|by rintro v s1 ⟨x,H1,I1,r1,q1⟩;exact #[x,O,H1,I1,r1,q1]
def ZfY(c:TT)(t u:TS):TS:=λD O H=>c O H λb H1=>if b=ak then t D O H1 else u D O H1
def Zbg{a b:List fq}(hc:PT X c tc)(ha:PSs X a t)(hb:PSs X b u):PS X (.If c a b pos) (ZfY tc t u):=by
 intro pq s O H D I h;refine wpAny_If<|thn (hc pq s O H _ I h) λd s1 #[H1,I1,q1]=>?_
 cases d with|true=>exact ha pq s1 O H1 D I1 q1|false=>exact hb pq s1 O H1 D I1 q1
end
abbrev TG:=V->St->Hp->(St->Hp->Prop)->Prop
abbrev TGs:=List V->St->Hp->(St->Hp->Prop)->Prop
def PG(X:Cx)(target:Expr)(t:TG):Prop:=
 ∀(pq:List (aH×fU))(s:aF)(O:St)(H:Hp)(v:V)(u:az)(Q:St->Hp->Prop),Inv X pq O H s->ZA v u->t v O H Q->
  aW (aR X.prog X.w) X.A (assign target X.env u) (λ_ s'=>∃σ' H',Inv X pq σ' H' s'/\Q σ' H') X.xe s
def PGs(X:Cx)(ts:List Expr)(t:TGs):Prop:=
 ∀(pq:List (aH×fU))(s:aF)(O:St)(H:Hp)(vs:List V)(us:List az)(Q:St->Hp->Prop),Inv X pq O H s->Vals vs us->t vs O H Q->
  aW (aR X.prog X.w) X.A (assignInOrder ((cg ts X.env).map (·.2)) us) (λ_ s'=>∃σ' H',Inv X pq σ' H' s'/\Q σ' H') X.xe s
abbrev TSet:=V->V->V->Hp->(Hp->Prop)->Prop
def PSet(X:Cx)(t:TSet):Prop:=
 ∀(pq:List (aH×fU))(s:aF)(O:St)(H:Hp)(o i v:V)(ov iv u:az)(Q:Hp->Prop),Inv X pq O H s->ZA o ov->ZA i iv->ZA v u->t o i v H Q->
  aW (aR X.prog X.w) X.A (rX ov iv u) (λ_ s'=>∃H',Inv X pq O H' s'/\Q H') X.xe s
abbrev TIp:=V->V->Hp->VK->Prop
def PIp(X:Cx)(op:Operator)(t:TIp):Prop:=
 ∀(pq:List (aH×fU))(s:aF)(O:St)(H:Hp)(x y:V)(v u:az)(Q:VK),Inv X pq O H s->ZA x v->ZA y u->t x y H Q->
  aW (aR X.prog X.w) X.A (inplaceOp op v u) (EP X pq O Q) X.xe s
def yd(i:Nat):TG:=λv O H Q=>Q (O.set i<|aa v) H
def zj(hN:X.N.Nodup)(hi:X.N[i]?=aa x)(hx:Loc X.env.scope x)(hf:X.fn x=ak\/X.env.scope.names.lookup x=aa .local:=by first|exact .inl rfl|exact .inr rfl|assumption):PG X (.Name x pos) (yd i):=by
 intro pq s O H v u Q I r h;exact oh<|Vd I hN hi hx r (λs' I'=>#[_,H,I',h]) hf
def ZhX:TGs:=λvs O H Q=>vs=[]/\Q O H
def Zhh(t:TG)(u:TGs):TGs:=λvs O H Q=>∃v r,vs=v::r/\t v O H λσ' H'=>u r σ' H' Q
def Zc1:PGs X [] ZhX:=by
 intro pq s O H vs us Q I r h;obtain⟨e,h⟩:=h;subst e;cases r;exact assignInOrder_nil #[O,H,I,h]
def ZaS{e:Expr}(h1:PG X e t)(h2:PGs X es u)
  (hs:(cg (e::es) X.env).map (·.2)=assign e X.env::(cg es X.env).map (·.2):=by rfl):PGs X (e::es) (Zhh t u):=by
 intro pq s O H vs us Q I r h;obtain⟨v,vr,e1,h⟩:=h;subst e1;cases r with
 |cons r rr=>
  rw[hs];refine assignInOrder_cons<|thn (h1 pq s O H _ _ _ I r h) λ_ s1 #[σ1,H1,I1,q1]=>?_
  exact h2 pq s1 σ1 H1 _ _ Q I1 rr q1
def Zh0(K:ao)(n:Nat)(t:TGs):TG:=λv O H Q=>∃a xs,v=.ref a/\SqT K H a xs/\xs.length=n/\t xs O H Q
def Zf5(hc:X.calm=ak)(h:PGs X es t)
  (hn:(cg es X.env).length=n:=by rfl)(hst:(cg es X.env).findIdx? (·.1)=ai:=by rfl):PG X (.Tuple es k pos) (Zh0 X.K n t):=by
 intro pq s O H v u Q I r hw;obtain⟨a,xs,e1,hq,hl,hw⟩:=hw;subst e1;cases r;obtain⟨its,rv,ht,hz⟩:=I.tuple hq;refine assign_Tuple_tuple (I.ok.hd hc) ht (by simp[hn,<-hl,rv.length]) hst λh' hx=>?_
 have I1:=I.kept (t':=s.toks) λb o e=>hx b o (a8<|aD e) e
 exact h pq _ O H xs _ Q I1 (by simpa using rv) hw
def ZhY(to ti:TE)(t:TSet):TG:=λv O H Q=>to O H λo H1=>ti O H1 λi H2=>t o i v H2 λH3=>Q O H3
def ZfO(ho:PE X o to)(hi:PE X i ti)(hs:PSet X t)
  (ha:∀v,assign (.Subscript o i pos) X.env v=(do
   let ov <-kZ [v] (cz o X.env)
   let iv <-kZ [v,ov] (cz i X.env)
   n8 pos
   kZ [v,ov,iv] (rX ov iv v)
   release [v,ov,iv] []):=by intro _;rfl):PG X (.Subscript o i pos) (ZhY to ti t):=by
 intro pq s O H v u Q I r h;rw[ha];refine ae<|bI<|thn (ho pq s O H _ I h) λov s1 #[x,H1,I1,r1,q1]=>?_
 refine ae<|bI<|thn (hi pq s1 O H1 _ I1 q1) λiv s2 #[y,H2,I2,r2,q2]=>?_
 refine ae<|iO<|ae<|bI<|thn (hs pq s2 O H2 x y v ov iv u _ I2 r1 r2 r q2) λ_ s3 #[H3,I3,q3]=>?_
 exact wpAny_release #[O,H3,I3,q3]
def Zaq(te:TE)(g:TG):TS:=λD O H=>te O H λx H1=>g x O H1 D.nx
def X8{g:TG}(he:PE X e te)(hg:PG X tg g)(hs:d5 [tg] e pos.line X.env=cJ aj:=by rfl)(hw:d6 [tg] e X.env=cJ ai:=by rfl)
  (h1:(cg [tg] X.env).map (·.2)=[assign tg X.env]:=by rfl):PS X (.Assign [tg] e pos) (Zaq te g):=by
 intro pq s O H D I h;refine wpAny_Assign_stores (thn (he pq s O H _ I h) λv s1 #[x,H1,I1,r1,q1]=>?_) hs hw
 rw[h1];exact thn (hg pq s1 O H1 x v _ I1 r1 q1) λ_ s2 q=>q
def QT(hN:X.N.Nodup)(hi:X.N[i]?=aa x)(hx:Loc X.env.scope x)(he:PE X e te)(hs:eC e (aa<|.Name x pos') pos.line X.env=cJ aj:=by rfl)(hf:X.fn x=ak\/X.env.scope.names.lookup x=aa .local:=by first|exact .inl rfl|exact .inr rfl|assumption) :
  PS X (.Assign [.Name x pos'] e pos) (Zaq te<|yd i):=by
 intro pq s O H D I h;refine wpAny_Assign_Name (thn (he pq s O H _ I h) λv s1 #[y,H1,I1,r1,q1]=>?_) hs
 exact Vd I1 hN hi hx r1 (λs2 I2=>#[_,H1,I2,q1]) hf
def Zh8(i:Nat)(te:TE)(ti:TIp):TS:=λD O H=>∃x,O[i]?=aa (aa x)/\te O H λy H1=>ti x y H1 λz H2=>D.nx (O.set i<|aa z) H2
def Zgd{x:bN}{te:TE}(hN:X.N.Nodup)(hi:X.N[i]?=aa x)(hx:Loc X.env.scope x)(he:PE X e te)(ho:PIp X op ti)(hf:X.fn x=ak\/X.env.scope.names.lookup x=aa .local:=by first|exact .inl rfl|exact .inr rfl|assumption) :
  PS X (.AugAssign (.Name x pos') op e pos) (Zh8 i te ti):=by
 intro pq s O H D I h;obtain⟨v,e1,h⟩:=h;obtain⟨m,hn,hl⟩:=I.loc;have vis:Vis X.env.scope x:=by rcases hx with k|k;exact .inl k;exact .inr<|.inl k
 obtain⟨u,r,l⟩:=hl i x v hi e1 vis;refine wpAny_AugAssign_Name ?_;have go:aW (aR X.prog X.w) X.A (cz e X.env) (λw s₂=>aW (aR X.prog X.w) X.A (inplaceOp op u w) (λr s₃=>aW (aR X.prog X.w) X.A (storeName X.env x r) (λ_=>SP X pq D .next) X.xe s₃) X.xe s₂) X.xe s:=by
  refine thn (he pq s O H _ I h) λw s1 #[y,H1,I1,r1,q1]=>?_
  refine thn (ho pq s1 O H1 v y u w _ I1 r r1 q1) λz s2 #[zv,H2,I2,r2,q2]=>?_
  exact Vd I2 hN hi hx r2 (λs3 I3=>#[_,H2,I3,q2]) hf
 rcases l with⟨hk,hm⟩|⟨hk,c,hc,hcell⟩
 .exact iS I.ok.kind hk hn hm go
 .rcases hk with hk|hk
  .exact kg I.ok.kind hk hc hcell go
  .rcases hx with k|k
   .have:X.env.scope.names.lookup x=aa .free:=hk
    rw[k]at this;cases this
   .have:X.env.scope.names.lookup x=aa .free:=hk
    rw[k]at this;cases this
section
variable{X:Cx}{pos:iE}
def Zgm(c:TT)(tb:TS):TS:=λD O H=>∃W:Nat->St->Hp->Prop,(∃m,W m O H)/\∀m O H,W m O H->
 c O H λb H1=>if b=ak then ∃N:St->Hp->Prop,(∀σ' H',N σ' H'->∃m',m'<m/\W m' σ' H')/\tb {D with nx:=N,ct:=N,bk:=D.nx} O H1 else D.nx O H1
def Zbo{c:Expr}(hp:mY (aR X.prog X.w) X.A X.env X.xe)(hc:PT X c tc)(hb:PSs X body tb):PS X (.While c body [] pos) (Zgm tc tb):=by
 intro pq s O H D I h;obtain⟨W,⟨m0,w0⟩,turn⟩:=h;refine wpAny_While<|codeAny_whileLoop (λn s'=>∃σ' H',Inv X pq σ' H' s'/\W n σ' H') ?_ m0 #[O,H,I,w0]
 rintro n s1 ⟨σ1,H1,I1,w1⟩
 refine eS hp<|thn (hc pq s1 σ1 H1 _ I1<|turn n σ1 H1 w1) λb s2 #[H2,I2,q2]=>?_
 cases b with
 |true=>
  obtain⟨N,hN,q2⟩:=q2;rw[T9 rfl];refine eS hp<|thn (hb pq s2 σ1 H2 _ I2 q2) λf s3 q3=>?_
  cases f with
  |next=>
   obtain⟨σ3,H3,I3,n3⟩:=q3;obtain⟨m',hm,w3⟩:=hN σ3 H3 n3;exact#[m',hm,σ3,H3,I3,w3]
  |cont=>
   obtain⟨σ3,H3,I3,n3⟩:=q3;obtain⟨m',hm,w3⟩:=hN σ3 H3 n3;exact#[m',hm,σ3,H3,I3,w3]
  |brk=>exact q3
  |ret v=>exact q3
 |false=>
  rw[T8 aP];exact fQ #[σ1,H2,I2,q2]
end
structure It where
 go:Nat->Hp->Prop
 yld:Nat->Hp->V->Hp->Prop
 stop:Nat->Hp->Prop
def V2(X:Cx)(pq:List (aH×fU))(H:Hp)(b:aH):Prop:=
 H b=ai/\b≠X.env.locals/\b∉X.fs/\(b∈X.ex\/X.s₀.heap.objs.size<=b)/\(∀x c,X.env.cells.lookup x=aa c->c≠b)/\∀p∈X.pn++pq,p.1≠b
def Inv.fpOk(I:Inv X pq O H s)(hb:s.heap.objs.size<=b)(hn:H' b=ai):V2 X pq H' b:=by
 refine#[hn,ek<|bi I.lt hb,I.nofs hb,.inr<|bU I.sz hb,λx c e z=>?_,λp hp z=>?_]
 .obtain⟨v,q⟩:=I.cell x c e
  exact T7 (bi q.lt<|by rw[z];exact hb)<|bv _
 .exact T7 (bi (aD (I.pin p hp).1)<|by rw[z];exact hb)<|bv _
structure Turn(P:bO)(w:bV)(K:ao)(tg:Expr)(J:It)(fp:List aH)(it:aH)(tn:Nat->cM->Prop):Prop where
 mem:it∈fp
 obj:∀i h,tn i h->∀b∈fp,∃o,h.get? b=aa o/\∀v,o.data≠.cell v
 keep:∀i h h',tn i h->(∀b∈fp,∀o,h.get? b=aa o->h'.get? b=aa o)->tn i h'
 item:∀(X:Cx),X.prog=P->X.w=w->X.K=K->X.calm=ak->∀(i:Nat)(pq:List (aH×fU))(s:aF)(O:St)(H:Hp)(E:az->aF->Prop),Inv X pq O H s->(∀b∈fp,V2 X pq H b)->tn i s.heap->J.go i H->
  aW (aR P w) X.A (l6<|.ref it) (λr s1=>∃u,r=aa u/\
   aW (aR P w) X.A (mn tg (.ref it) u) (λ_ s2=>∃x H',Inv X pq O H' s2/\ZA x u/\J.yld i H x H'/\tn (i+1) s2.heap/\∀b∈fp,H' b=ai) E s1) E s
 done:∀(X:Cx),X.prog=P->X.w=w->X.K=K->X.calm=ak->∀(i:Nat)(pq:List (aH×fU))(s:aF)(O:St)(H:Hp)(E:az->aF->Prop),Inv X pq O H s->(∀b∈fp,V2 X pq H b)->tn i s.heap->J.stop i H->
  aW (aR P w) X.A (l6<|.ref it) (λr s1=>r=ai/\Inv X pq O H s1) E s
 self:∀(A:cw)(i:Nat)(s:aF)(Q:az->aF->Prop)(E:az->aF->Prop),tn i s.heap->Q (.ref it) s->aW (aR P w) A (nG<|.ref it) Q E s
abbrev TI:=St->Hp->(It->Hp->Prop)->Prop
def PIE(X:Cx)(pq:List (aH×fU))(O:St)(tg:Expr)(R:It->Hp->Prop)(itv:az)(s2:aF):Prop:=
 ∃(it:aH)(fp:List aH)(tn:Nat->cM->Prop)(J:It)(H':Hp),itv=.ref it/\Inv X pq O H' s2/\Turn X.prog X.w X.K tg J fp it tn/\tn 0 s2.heap/\(∀b∈fp,V2 X pq H' b)/\R J H'
def PI(X:Cx)(tg iter:Expr)(wi:TI):Prop:=
 ∀(pq:List (aH×fU))(s:aF)(O:St)(H:Hp)(R:It->Hp->Prop),Inv X pq O H s->wi O H R->
  aW (aR X.prog X.w) X.A (cz iter X.env) (λv s1=>aW (aR X.prog X.w) X.A (nG v) (PIE X pq O tg R) X.xe s1) X.xe s
def Za4(ho:s.heap.get? it=aa o)(hc:o.cls=.type n)(hd:o.data=.fields vs)
  (hn:["enumerate","zip","dict_itemiterator","dict_reverseitemiterator","odict_iterator","itertools.zip_longest","itertools.pairwise"].contains n=aj)(hQ:Q () s):aW M A (mn tg (.ref it) u) Q E s:=by
 cases tg<;>first
  |exact av hQ
  |(cases u<;>first
    |exact av hQ
    |(refine ae (kt ho ?_)
      rw[hc,hd];show aW M A (if(["enumerate","zip","dict_itemiterator","dict_reverseitemiterator","odict_iterator","itertools.zip_longest","itertools.pairwise"].contains n&&vs[0]? == aa (fe _))=ak then _ else _) Q E s
      rw[T8 (by intro h;rw[hn]at h;cases h)]
      exact av hQ))
noncomputable def Itl(K:ao)(a:aH):It:=
 #[λi H=>∃xs x,SqL K H a xs/\xs[i]?=aa x,λi H x H'=>H'=H/\∀xs,SqL K H a xs->xs[i]?=aa x,λi H=>∃xs,SqL K H a xs/\xs.length<=i]
noncomputable def Itt(K:ao)(a:aH):It:=
 #[λi H=>∃xs x,SqT K H a xs/\xs[i]?=aa x,λi H x H'=>H'=H/\∀xs,SqT K H a xs->xs[i]?=aa x,λi H=>∃xs,SqT K H a xs/\xs.length<=i]
def Itr(lo:Int)(n:Nat):It:=#[λi _=>i<n,λi H x H'=>H'=H/\x=.int (lo+i),λi _=>n<=i]
def uD{K:ao}(a it):Turn P w K tg (Itl K a) [it] it (λi h=>h.IsListIter it a i) where
 mem:=by simp
 obj:=λi h st b hb=>by
  have e:b=it:=by simpa using hb
  subst e;obtain⟨o,e,c,d⟩:=st;exact#[o,e,λv z=>by rw[d]at z;cases z]
 keep:=λi h h' st k=>st.at λo e=>k it #[2] o e
 item:=by
  intro X hP hw hK hc i pq s O H E I hf st hg;subst hP hw hK;obtain⟨xs,x,hq,hx⟩:=hg;obtain⟨its,rv,p,hz⟩:=I.list hq;obtain⟨u,hu,ru⟩:=rv.get hx;obtain⟨f0,f1,f2,f3,f4,f5⟩:=hf it #[2]
  refine l7 st p.isList (by simpa using hu) λh' st' sb=>?_
  obtain⟨o,e,c,d⟩:=id st';exact#[u,rfl,Za4 e c d #[1] #[x,H,(I.turned (λb o hb e=>(sb.2 b hb).trans e) f0 f1 f3 f4 f5),ru,#[rfl,λys hy=>by rw[I.list_inj hy hq];exact hx],st',λb hb=>(hf b hb).1]]
 done:=by
  intro X hP hw hK hc i pq s O H E I hf st hg;subst hP hw hK;obtain⟨xs,hq,hx⟩:=hg;obtain⟨its,rv,p,hz⟩:=I.list hq;obtain⟨f0,f1,f2,f3,f4,f5⟩:=hf it #[2]
  have hl:=rv.length;exact mB (I.ok.hd hc) st p.isList (by simp;lia) λh' eb=>#[rfl,I.turned (λb o hb e=>eb b o hb e) f0 f1 f3 f4 f5]
 self:=λ_ _ _ _ _ st h=>wpAny_pyIter_listiter st h
def xZ{K:ao}(a it):Turn P w K tg (Itt K a) [it] it (λi h=>h.IsTupleIter it a i) where
 mem:=by simp
 obj:=λi h st b hb=>by
  have e:b=it:=by simpa using hb
  subst e;obtain⟨o,e,c,d⟩:=st;exact#[o,e,λv z=>by rw[d]at z;cases z]
 keep:=λi h h' st k=>st.at λo e=>k it #[2] o e
 item:=by
  intro X hP hw hK hc i pq s O H E I hf st hg;subst hP hw hK;obtain⟨xs,x,hq,hx⟩:=hg;obtain⟨its,rv,p,hz⟩:=I.tuple hq;obtain⟨u,hu,ru⟩:=rv.get hx;obtain⟨f0,f1,f2,f3,f4,f5⟩:=hf it #[2]
  refine wpAny_pyNext_tuple_item st (p) (by simpa using hu) λh' st' sb=>?_
  obtain⟨o,e,c,d⟩:=id st';exact#[u,rfl,Za4 e c d #[1] #[x,H,(I.turned (λb o hb e=>(sb.2 b hb).trans e) f0 f1 f3 f4 f5),ru,#[rfl,λys hy=>by rw[I.tuple_inj hy hq];exact hx],st',λb hb=>(hf b hb).1]]
 done:=by
  intro X hP hw hK hc i pq s O H E I hf st hg;subst hP hw hK;obtain⟨xs,hq,hx⟩:=hg;obtain⟨its,rv,p,hz⟩:=I.tuple hq;obtain⟨f0,f1,f2,f3,f4,f5⟩:=hf it #[2]
  have hl:=rv.length;exact wpAny_pyNext_tuple_end (I.ok.hd hc) st (p) (by simp;lia) λh' eb=>#[rfl,I.turned (λb o hb e=>eb b o hb e) f0 f1 f3 f4 f5]
 self:=λ_ _ _ _ _ st h=>wpAny_pyIter_tupleiter st h
def xy{K:ao}(it lo n):Turn P w K tg (Itr lo n) [it] it (λi h=>IsRangeIter h it (lo+(i:Nat)*1) ((n:Int)-(i:Nat)) 1) where
 mem:=by simp
 obj:=λi h st b hb=>by
  have e:b=it:=by simpa using hb
  subst e;exact#[_,st,λv z=>by
   cases z]
 keep:=λi h h' st k=>k it #[2] _ st
 item:=by
  intro X hP hw hK hc i pq s O H E I hf st hg;obtain⟨f0,f1,f2,f3,f4,f5⟩:=hf it #[2]
  refine(Walks.range (I.ok.hd hc) it lo 1 n).item i s _ _ hg st λv h' tk hv st' kk=>?_
  obtain⟨t,rfl⟩:=hv;have I1:Inv X pq O H {s with heap:=h',toks:=tk}:=I.turned (λb o hb e=>kk b o (by simpa using hb) e) f0 f1 f3 f4 f5
  refine#[_,rfl,Za4 st' rfl rfl #[1] #[.int<|lo+i,H,I1,#[t,?_],#[rfl,rfl],st',λb hb=>(hf b hb).1]]
  rw[Int.mul_one]
 done:=by
  intro X hP hw hK hc i pq s O H E I hf st hg;obtain⟨f0,f1,f2,f3,f4,f5⟩:=hf it #[2]
  exact wpAny_pyNext_range_end (I.ok.hd hc) st (by have:n<=i:=hg;lia) λh' eb=>#[rfl,I.turned (λb o hb e=>eb b o hb e) f0 f1 f3 f4 f5]
 self:=λ_ _ _ _ _ st h=>wpAny_pyIter_rangeiter st h
section
variable{X:Cx}{tg:Expr}
theorem yu{H:Hp}{lo hi:Int}(I:Inv X pq O H s)(h1:-(2^62)<=lo)(h2:lo<2^62)(h3:-(2^62)<=hi)(h4:hi<2^62)
  (q:R (Itr lo (hi-lo).toNat) H):aW (aR X.prog X.w) X.A (nG<|.ref s.heap.objs.size) (PIE X pq O tg R) E {s with heap:=s.heap.push {cls:=.type "range",data:=.fields [.int lo t,.int hi u,.int 1 v].toArray},toks:=tk}:=by
 refine wpAny_pyIter_range (IsRange.new ..) (small_one h1 h2 h3 h4) ?_;have I1:Inv X pq O H {s with heap:=s.heap.push {cls:=.type "range",data:=.fields [.int lo t,.int hi u,.int 1 v].toArray},toks:=tk}:=I.kept λb o e=>aq _ e
 refine#[(s.heap.push {cls:=.type "range",data:=.fields [.int lo t,.int hi u,.int 1 v].toArray}).objs.size,[(s.heap.push {cls:=.type "range",data:=.fields [.int lo t,.int hi u,.int 1 v].toArray}).objs.size],_,_,H,rfl,
  I1.kept λb o e=>aq _ e,xy _ lo (hi-lo).toNat,?_,λb hb=>?_,q]
 .have e1:lo+((0:Nat):Int)*1=lo:=by simp
  have e2:(((hi-lo).toNat:Nat):Int)-((0:Nat):Int)=dP.Range.rangeSize lo hi 1:=by rw[rangeSize_one];split<;>lia
  rw[e1,e2];exact aE _ rfl
 .have e:b=(s.heap.push {cls:=.type "range",data:=.fields [.int lo t,.int hi u,.int 1 v].toArray}).objs.size:=by simpa using hb
  subst e;exact I1.fpOk (aI _)<|I1.hok.fresh<|aI _
def Zhl(ta:TA):TI:=λO H R=>ta O H λvs H1=>∃j:Int,vs=[.int j]/\-(2^62)<=j/\j<2^62/\R (Itr 0 j.toNat) H1
def Zhp(ta:TA):TI:=λO H R=>ta O H λvs H1=>∃i j:Int,vs=[.int i,.int j]/\(-(2^62)<=i/\i<2^62/\-(2^62)<=j/\j<2^62)/\R (Itr i (j-i).toNat) H1
theorem ur{a:Expr}{ta:TA}{p pos:iE}(hg:Gl X "range")(hm:X.mg "range" = ai)(ha:PA X [a] ta)(hs:ay [a] X.env=[(aj,cz a X.env)]:=by rfl):PI X tg (.Call (.Name "range" p) [a] [] pos) (Zhl ta):=by
 intro pq s O H R I h;refine Call_<|Xp I hg hm boot_range<|cY (thn (ha pos pq s O H _ I h) λus s1 #[vs,H1,I1,r1,q1]=>?_) hs rfl
 obtain⟨j,e,q1,q2,q⟩:=q1;subst e;cases r1 with
 |cons r rr=>
  cases rr;obtain⟨t,rfl⟩:=r;exact call_range_1<|yu I1 #[0] #[0] q1 q2 (by simpa using q)
def uV{a b:Expr}{ta:TA}{p pos:iE}(hg:Gl X "range")(hm:X.mg "range" = ai)(ha:PA X [a,b] ta)(hs:ay [a,b] X.env=[(aj,cz a X.env),(aj,cz b X.env)]:=by rfl)(hs2:ay [b] X.env=[(aj,cz b X.env)]:=by rfl) :
  PI X tg (.Call (.Name "range" p) [a,b] [] pos) (Zhp ta):=by
 intro pq s O H R I h;refine Call_<|Xp I hg hm boot_range<|cY (thn (ha pos pq s O H _ I h) λus s1 #[vs,H1,I1,r1,q1]=>?_) (by rw[hs,hs2]) (by rw[hs2];rfl)
 obtain⟨i,j,e,⟨q1,q2,q3,q4⟩,q⟩:=q1;subst e;cases r1 with
 |cons r rr=>
  cases rr with
  |cons r' rr=>
   cases rr;obtain⟨t,rfl⟩:=r;obtain⟨t',rfl⟩:=r';exact call_range_2<|yu I1 q1 q2 q3 q4 q
def Zil(wi:TI)(g:TG)(tb:TS):TS:=λD O H=>wi O H λJ H1=>∃W:Nat->Nat->St->Hp->Prop,(∃m,W 0 m O H1)/\∀i m O H,W i m O H->
 (J.stop i H/\D.nx O H)\/(J.go i H/\∃N:St->Hp->Prop,(∀σ' H',N σ' H'->∃m',m'<m/\W (i+1) m' σ' H')/\∀x H',J.yld i H x H'->g x O H' λσ2 H2=>tb {D with nx:=N,ct:=N,bk:=D.nx} σ2 H2)
def Qq(fp:List aH)(h:cM):List (aH×fU):=fp.filterMap λb=>(h.get? b).map λo=>(b,o)
def XE(hb:b∈fp)(e:h.get? b=aa o):(b,o)∈Qq fp h:=nH.mpr #[b,hb,by rw[e];rfl]
def qk(hp:p∈Qq fp h):p.1∈fp/\h.get? p.1=aa p.2:=by
 obtain⟨b,hb,e⟩:=nH.mp hp;cases q:h.get? b with
 |none=>rw[q]at e;cases e
 |some o=>
  rw[q]at e;have e':=ap e;subst e';exact#[hb,q]
def Inv.pinned(I:Inv X pq O H s)(hf:∀b∈fp,V2 X pq H b)(ho:∀b∈fp,∃o,s.heap.get? b=aa o/\∀v,o.data≠.cell v):Inv X (pq++Qq fp s.heap) O H s:=
 I.pins_of λp hp=>(bK.mp hp).elim (λz=>I.pin p<|bp _ z) λz=>by
  obtain⟨hb,e⟩:=qk z;obtain⟨f0,f1,f2,_⟩:=hf p.1 hb;obtain⟨o,e',d⟩:=ho p.1 hb;rw[e]at e';cases e';exact#[e,f0,f1,f2,d]
def Inv.unpinned(I:Inv X (pq++pl) O H s):Inv X pq O H s:=I.pins_of λp hp=>I.pin p<|bp _<|da _ hp
def Zbq{g:TG}(hp:mY (aR X.prog X.w) X.A X.env X.xe)(hc:X.calm=ak)(hi:PI X tg iter wi)(hg:PG X tg g)(hb:PSs X body tb)
  (hs:∀x,dM iter X.env x=cJ x:=by intro _;rfl):PS X (.For tg iter body [] pos) (Zil wi g tb):=by
 intro pq s O H D I h;refine wpAny_For (thn (hi pq s O H _ I h) λv s1 h1=>thn h1 λitv s2 h2=>?_) hs
 obtain⟨it,fp,tn,J,H2,e,I2,T,st2,f2,W,⟨m0,w0⟩,turn⟩:=h2;subst e;have stat:∀{H':Hp},(∀b∈fp,H' b=ai)->∀b∈fp,V2 X pq H' b:=λhn b hb=>#[hn b hb,(f2 b hb).2]
 refine codeAny_forLoop_any (λn s'=>∃i σ' H',Inv X pq σ' H' s'/\tn i s'.heap/\(∀b∈fp,H' b=ai)/\W i n σ' H') ?_ m0 #[0,O,H2,I2,st2,λb hb=>(f2 b hb).1,w0]
 rintro n s3 ⟨i,σ3,H3,I3,st3,fr3,w3⟩
 rcases turn i n σ3 H3 w3 with⟨stop,qn⟩|⟨go,N,hN,step⟩
 .refine eS hp (thn (T.done X rfl rfl rfl hc i pq s3 σ3 H3 X.xe I3 (stat fr3) st3 stop) λr s4 #[hr,I4]=>?_)
  subst hr;exact fQ #[σ3,H3,I4,qn]
 .refine eS hp (thn (T.item X rfl rfl rfl hc i pq s3 σ3 H3 X.xe I3 (stat fr3) st3 go) λr s4 #[u,hr,h4]=>?_)
  subst hr;refine eS hp<|thn h4 λ_ s5 #[x,H5,I5,r5,y5,st5,fr5]=>?_
  refine eS hp<|thn (hg _ s5 σ3 H5 x u _ (I5.pinned (stat fr5)<|T.obj _ _ st5) r5<|step x H5 y5) λ_ s6 #[σ6,H6,I6,q6]=>?_
  refine eS hp<|thn (hb _ s6 σ6 H6 _ I6 q6) λf s7 q7=>?_
  have sf:∀{σ7:St}{H7:Hp},Inv X (pq++Qq fp s5.heap) σ7 H7 s7->N σ7 H7->∃m,m<n/\∃i σ' H',Inv X pq σ' H' s7/\tn i s7.heap/\(∀b∈fp,H' b=ai)/\W i m σ' H':=λ{σ7 H7} I7 n7=>by
   obtain⟨m',hm,w7⟩:=hN σ7 H7 n7;refine#[m',hm,i+1,σ7,H7,I7.unpinned,T.keep _ _ _ st5 λb hb o e=>(I7.pin (b,o)<|bp _<|bp _<|XE hb e).1,λb hb=>?_,w7]
   obtain⟨o,e,d⟩:=T.obj _ _ st5 b hb;exact(I7.pin (b,o)<|bp _<|bp _<|XE hb e).2.1
  cases f with|next=>obtain⟨σ7,H7,I7,n7⟩:=q7;exact sf I7 n7|cont=>obtain⟨σ7,H7,I7,n7⟩:=q7;exact sf I7 n7|brk=>obtain⟨σ7,H7,I7,q7⟩:=q7;exact#[σ7,H7,I7.unpinned,q7]|ret v=>obtain⟨x7,σ7,H7,I7,r7,q7⟩:=q7;exact#[x7,σ7,H7,I7.unpinned,r7,q7]
end
abbrev R2:=V->V->Hp->VK->Prop
def OpR(X:Cx)(f:az->az->pR az)(r:R2):Prop:=
 ∀(pq:List (aH×fU))(s:aF)(O:St)(H:Hp)(x y:V)(v u:az)(Q:VK),Inv X pq O H s->ZA x v->ZA y u->r x y H Q->
  aW (aR X.prog X.w) X.A (f v u) (EP X pq O Q) X.xe s
def UnR(X:Cx)(f:az->pR az)(r:V->Hp->VK->Prop):Prop:=
 ∀(pq:List (aH×fU))(s:aF)(O:St)(H:Hp)(x:V)(v:az)(Q:VK),Inv X pq O H s->ZA x v->r x H Q->
  aW (aR X.prog X.w) X.A (f v) (EP X pq O Q) X.xe s
def ZH(X:Cx)(f:az)(r:List V->Hp->VK->Prop):Prop:=
 ∀(pq:List (aH×fU))(s:aF)(O:St)(H:Hp)(xs:List V)(us:List az)(Q:VK),Inv X pq O H s->Vals xs us->r xs H Q->
  aW (aR X.prog X.w) X.A (call f us) (EP X pq O Q) X.xe s
def ZhW(X:Cx)(r:V->Hp->(Bool->Hp->Prop)->Prop):Prop:=
 ∀(pq:List (aH×fU))(s:aF)(O:St)(H:Hp)(x:V)(v:az)(Q:Bool->Hp->Prop),Inv X pq O H s->ZA x v->r x H Q->
  aW (aR X.prog X.w) X.A (rW v) (TP X pq O Q) X.xe s
def tOp(r:R2)(ta tb:TE):TE:=λO H Q=>ta O H λx H1=>tb O H1 λy H2=>r x y H2 Q
def tUn(r:V->Hp->VK->Prop)(ta:TE):TE:=λO H Q=>ta O H λx H1=>r x H1 Q
def rI(C:Int->Int->Prop)(g:Int->Int->V):R2:=λx y H Q=>∃i j,x=.int i/\y=.int j/\C i j/\Q (g i j) H
def rI0(g:Int->Int->V):R2:=λx y H Q=>∃i j,x=.int i/\y=.int j/\Q (g i j) H
def rU(g:Int->V):V->Hp->VK->Prop:=λx H Q=>∃i,x=.int i/\Q (g i) H
def Zfh(ha:PE X a ta)(hb:PE X b tb){R:V->V->Hp->Prop}(I:Inv X pq O H s)
  (h:ta O H λx H1=>tb O H1 λy H2=>R x y H2){f:az->az->pR az}
  (hf:∀v u s2 x y H2,Inv X pq O H2 s2->ZA x v->ZA y u->R x y H2->aW (aR X.prog X.w) X.A (f v u) Q X.xe s2) :
  aW (aR X.prog X.w) X.A (cz a X.env) (λv s₁=>aW (aR X.prog X.w) X.A (cz b X.env) (λu s₂=>aW (aR X.prog X.w) X.A (f v u) Q X.xe s₂) X.xe s₁) X.xe s:=by
 refine thn (ha pq s O H _ I h) λv s1 #[x,H1,I1,r1,q1]=>?_
 refine thn (hb pq s1 O H1 _ I1 q1) λu s2 #[y,H2,I2,r2,q2]=>?_
 exact hf v u s2 x y H2 I2 r1 r2 q2
def VD(ho:OpR X (eT op) r)(ha:PE X a ta)(hb:PE X b tb):PE X (.BinOp a op b pos) (tOp r ta tb):=by
 intro pq s O H Q I h;exact wpAny_BinOp<|Zfh ha hb I h λv u s2 x y H2 I2 rx ry q=>ho pq s2 O H2 x y v u Q I2 rx ry q
def Zd9(ho:UnR X (unaryOp op) r)(ha:PE X a ta):PE X (.UnaryOp op a pos) (tUn r ta):=by
 intro pq s O H Q I h;exact UnaryOp_<|thn (ha pq s O H _ I h)<|by rintro v s1 ⟨x,H1,I1,r1,q1⟩;exact ho pq s1 O H1 x v Q I1 r1 q1
def opI{g:Int->Int->Int}
  (oR:∀i j t u s Q E,C i j->Q (.int (g i j) s.toks) {s with toks:=s.toks+1}->aW (aR X.prog X.w) X.A (f (.int i t)<|.int j u) Q E s) :
  OpR X f (rI C λi j=>.int<|g i j):=by
 intro pq s O H x y v u Q I rx ry h;obtain⟨i,j,rfl,rfl,hc,q⟩:=h;obtain⟨t,rfl⟩:=rx;obtain⟨t',rfl⟩:=ry;exact oR i j t t' s _ _ hc #[.int<|g i j,H,I.tok _,#[_,rfl],q]
def Zgp{g:Int->Int->Int}
  (oR:∀i j t u s Q E,Q (.int (g i j) s.toks) {s with toks:=s.toks+1}->aW (aR X.prog X.w) X.A (f (.int i t)<|.int j u) Q E s) :
  OpR X f (rI0 λi j=>.int<|g i j):=by
 intro pq s O H x y v u Q I rx ry h;obtain⟨i,j,rfl,rfl,q⟩:=h;obtain⟨t,rfl⟩:=rx;obtain⟨t',rfl⟩:=ry;exact oR i j t t' s _ _ #[.int<|g i j,H,I.tok _,#[_,rfl],q]
def Zdi{g:Int->Int->Bool}
  (oR:∀i j t u s Q E,Q (.bool<|g i j) s->aW (aR X.prog X.w) X.A (f (.int i t)<|.int j u) Q E s) :
  OpR X f (rI0 λi j=>.bl<|g i j):=by
 intro pq s O H x y v u Q I rx ry h;obtain⟨i,j,rfl,rfl,q⟩:=h;obtain⟨t,rfl⟩:=rx;obtain⟨t',rfl⟩:=ry;exact oR i j t t' s _ _ #[.bl<|g i j,H,I,rfl,q]
def CPow(i j:Int):Prop:=0<=j/\j<=1000000/\i.natAbs<2^64
def Ze6:OpR X (eT .Add) (rI0 λi j=>.int<|i+j):=Zgp λ_ _ _ _ _ _ _ q=>add_int q
def Zfn:OpR X (eT .Sub) (rI0 λi j=>.int<|i-j):=Zgp λ_ _ _ _ _ _ _ q=>sub_int q
def Zfv:OpR X (eT .Mod) (rI (λ_ j=>0<j) λi j=>.int<|i%j):=opI λi j _ _ _ _ _ hc q=>by
 have h1:=hc;exact mod_int' #[0] (by rw[Int.fmod_eq_emod_of_nonneg i #[0]];exact q)
def ZfI:OpR X (eT .Pow) (rI CPow λi j=>.int<|i^j.toNat):=opI λ_ _ _ _ _ _ _ hc q=>pow_int_small hc.1 hc.2.1 hc.2.2 q
def ZcO:OpR X (inplaceOp .Add) (rI0 λi j=>.int<|i+j):=Zgp λ_ _ _ _ _ _ _ q=>iadd_int q
def unI{g:Int->Int}
  (oR:∀i t s Q E,Q (.int (g i) s.toks) {s with toks:=s.toks+1}->aW (aR X.prog X.w) X.A (f<|.int i t) Q E s) :
  UnR X f (rU λi=>.int<|g i):=by
 intro pq s O H x v Q I rx h;obtain⟨i,rfl,q⟩:=h;obtain⟨t,rfl⟩:=rx;exact oR i t s _ _ #[.int<|g i,H,I.tok _,#[_,rfl],q]
def qS:UnR X (unaryOp .USub) (rU λi=>.int<|-i):=unI λ_ _ _ _ _ q=>neg_int q
noncomputable def scal:V->V->Bool
 |.non,.non=>ak|.non,.int _=>ak|.int _,.non=>ak|.non,.bl _=>ak|.bl _,.non=>ak|.non,.str _=>ak|.str _,.non=>ak
 |.int _,.int _=>ak|.bl _,.bl _=>ak|.str _,.str _=>ak
 |.int _,.str _=>ak|.str _,.int _=>ak|.bl _,.str _=>ak|.str _,.bl _=>ak
 |_,_=>aj
def rEq:R2:=λx y H Q=>scal x y=ak/\Q (.bl<|ag<|x=y) H
def rNe:R2:=λx y H Q=>scal x y=ak/\Q (.bl<|!decide (x=y)) H
def vU :ag (V.int i=V.int j)=(i == j):=by
 rw[cR];simp
def Zbp :ag (V.bl i=V.bl j)=(i == j):=by
 rw[cR];simp
def wO :ag (V.str i=V.str j)=(i == j):=by
 rw[cR];simp
section
variable{X:Cx}{a b c:Expr}{ta tb tc:TE}{pos:iE}
def ZK(I:Inv X pq O H s)(q:Q (.bl k) H)(e:k=k'):EP X pq O Q (.bool k') s:=by
 subst e;exact#[.bl k,H,I,rfl,q]
def ZgN:OpR X (cU .Eq) rEq:=by
 intro pq s O H x y v u Q I rx ry h;obtain⟨hs,q⟩:=h;cases x with
 |non=>
  cases rx;cases y with|non=>cases ry;exact PySem.EqNone.eq_none_none<|ZK I q #[2]|bl j=>cases ry;exact PySem.EqNone.eq_none_bool<|ZK I q #[2]|int j=>obtain⟨t',rfl⟩:=ry;exact PySem.EqNone.eq_none_int<|ZK I q #[2]|str j=>obtain⟨t',rfl⟩:=ry;exact PySem.EqNone.eq_none_str<|ZK I q #[2]|_=>exact T7 (hs) aP
 |bl i=>
  cases rx;cases y with|non=>cases ry;exact PySem.EqNone.eq_bool_none<|ZK I q #[2]|bl j=>cases ry;exact eq_bool<|ZK I q Zbp|str j=>obtain⟨t',rfl⟩:=ry;exact PySem.EqMixed.eq_bool_str<|ZK I q #[2]|_=>exact T7 (hs) aP
 |int i=>
  obtain⟨t,rfl⟩:=rx;cases y with|non=>cases ry;exact PySem.EqNone.eq_int_none<|ZK I q #[2]|int j=>obtain⟨t',rfl⟩:=ry;exact eq_int<|ZK I q vU|str j=>obtain⟨t',rfl⟩:=ry;exact PySem.EqMixed.eq_int_str<|ZK I q #[2]|_=>exact T7 (hs) aP
 |str i=>
  obtain⟨t,rfl⟩:=rx;cases y with|non=>cases ry;exact PySem.EqNone.eq_str_none<|ZK I q #[2]|bl j=>cases ry;exact PySem.EqMixed.eq_str_bool<|ZK I q #[2]|int j=>obtain⟨t',rfl⟩:=ry;exact PySem.EqMixed.eq_str_int<|ZK I q #[2]|str j=>obtain⟨t',rfl⟩:=ry;exact eq_str<|ZK I q wO|_=>exact T7 (hs) aP
 |_=>cases y<;>exact T7 (hs) aP
def ZhE:OpR X (cU .NotEq) rNe:=by
 intro pq s O H x y v u Q I rx ry h;obtain⟨hs,q⟩:=h;cases x with
 |non=>
  cases rx;cases y with|non=>cases ry;exact PySem.EqNone.ne_none_none<|ZK I q #[2]|bl j=>cases ry;exact PySem.EqNone.ne_none_bool<|ZK I q #[2]|int j=>obtain⟨t',rfl⟩:=ry;exact PySem.EqNone.ne_none_int<|ZK I q #[2]|str j=>obtain⟨t',rfl⟩:=ry;exact PySem.EqNone.ne_none_str<|ZK I q #[2]|_=>exact T7 (hs) aP
 |bl i=>
  cases rx;cases y with|non=>cases ry;exact PySem.EqNone.ne_bool_none<|ZK I q #[2]|bl j=>cases ry;exact ne_bool<|ZK I q<|congrArg not Zbp|str j=>obtain⟨t',rfl⟩:=ry;exact PySem.EqMixed.ne_bool_str<|ZK I q #[2]|_=>exact T7 (hs) aP
 |int i=>
  obtain⟨t,rfl⟩:=rx;cases y with|non=>cases ry;exact PySem.EqNone.ne_int_none<|ZK I q #[2]|int j=>obtain⟨t',rfl⟩:=ry;exact ne_int<|ZK I q<|congrArg not vU|str j=>obtain⟨t',rfl⟩:=ry;exact PySem.EqMixed.ne_int_str<|ZK I q #[2]|_=>exact T7 (hs) aP
 |str i=>
  obtain⟨t,rfl⟩:=rx;cases y with|non=>cases ry;exact PySem.EqNone.ne_str_none<|ZK I q #[2]|bl j=>cases ry;exact PySem.EqMixed.ne_str_bool<|ZK I q #[2]|int j=>obtain⟨t',rfl⟩:=ry;exact PySem.EqMixed.ne_str_int<|ZK I q #[2]|str j=>obtain⟨t',rfl⟩:=ry;exact ne_str<|ZK I q<|congrArg not wO|_=>exact T7 (hs) aP
 |_=>cases y<;>exact T7 (hs) aP
def Zhy:OpR X (cU .Lt) (rI0 λi j=>.bl<|ag<|i<j):=Zdi λ_ _ _ _ _ _ _ q=>lt_int q
def Zhc:OpR X (cU .LtE) (rI0 λi j=>.bl<|ag<|i<=j):=Zdi λ_ _ _ _ _ _ _ q=>le_int q
def ZhI:OpR X (cU .Gt) (rI0 λi j=>.bl<|ag<|j<i):=Zdi λ_ _ _ _ _ _ _ q=>gt_int q
def ZhJ:OpR X (cU .GtE) (rI0 λi j=>.bl<|ag<|j<=i):=Zdi λ_ _ _ _ _ _ _ q=>ge_int q
def Zfz:OpR X (cU .Is) (λx y H Q=>y=.non/\Q (.bl<|ag<|x=.non) H):=by
 intro pq s O H x y v u Q I rx ry h;obtain⟨rfl,q⟩:=h;cases ry;refine is_none_gen<|ZK I q ?_;cases x<;>first
  |(cases rx;rfl)
  |(obtain⟨t,rfl⟩:=rx;rfl)
def OpR.or(h:OpR X f r)(h':OpR X f r'):OpR X f (λx y H Q=>r x y H Q\/r' x y H Q):=by
 intro pq s O H x y v u Q I rx ry q;rcases q with q|q
 .exact h pq s O H x y v u Q I rx ry q
 .exact h' pq s O H x y v u Q I rx ry q
def Zf1(b)(h:op≠.In:=by decide)(h2:op≠.NotIn:=by decide):eB op b=aj:=by
 have e1:(op == CmpOp.In)=aj:=by cases op<;>first|rfl|exact T7 rfl h
 have e2:(op == CmpOp.NotIn)=aj:=by cases op<;>first|rfl|exact T7 rfl h2
 cases b<;>simp[eB,e1,e2]
def ZdP(ho:OpR X (cU op) r)(ha:PE X a ta)(hb:PE X b tb)(hm:eB op b=aj):PE X (.Compare a [op] [b] pos) (tOp r ta tb):=by
 intro pq s O H Q I h;exact wpAny_Compare1 (Zfh ha hb I h λv u s2 x y H2 I2 rx ry q=>ho pq s2 O H2 x y v u Q I2 rx ry q) hm
def Zhe(t:TE):TT:=λO H Q=>t O H λx H'=>∃k,x=.bl k/\Q k H'
def ZdN(ho:OpR X (cU op) r)(ha:PE X a ta)(hb:PE X b tb)(hm:eB op b=aj):PT X (.Compare a [op] [b] pos) (Zhe<|tOp r ta tb):=by
 intro pq s O H Q I h;refine mz (thn (ha pq s O H _ I h) λv s1 #[x,H1,I1,r1,q1]=>thn (hb pq s1 O H1 _ I1 q1) λu s2 #[y,H2,I2,r2,q2]=>
  thn (ho pq s2 O H2 x y v u _ I2 r1 r2 q2) λc s3 #[z,H3,I3,r3,k,e,q3]=>?_) hm
 subst e;cases r3;exact d8 #[H3,I3,q3]
def ZfZ(r r':R2)(ta tb tc:TE):TE:=λO H Q=>ta O H λx H1=>tb O H1 λy H2=>r x y H2 λz H3=>∃k,z=.bl k/\
 (if k=ak then tc O H3 λw' H4=>r' y w' H4 Q else Q (.bl aj) H3)
def Zbn(ho:OpR X (cU op) r)(ho':OpR X (cU op') r')(ha:PE X a ta)(hb:PE X b tb)(hc:PE X c tc)
  (hm:lastMarks [op,op'] [b,c]=aj:=by with_unfolding_all rfl):PE X (.Compare a [op,op'] [b,c] pos) (ZfZ r r' ta tb tc):=by
 intro pq s O H Q I h;refine Compare_chain (thn (ha pq s O H _ I h) λv s1 #[x,H1,I1,r1,q1]=>chain_link (thn (hb pq s1 O H1 _ I1 q1) λu s2 #[y,H2,I2,r2,q2]=>
  thn (ho pq s2 O H2 x y v u _ I2 r1 r2 q2) λd s3 #[z,H3,I3,r3,k,e,q3]=>?_)) hm
 subst e;cases r3;refine d8 ?_;cases k with|false=>exact ite_ff #[.bl aj,H3,I3,rfl,q3]|true=>exact ite_tt<|chain_last<|thn (hc pq s3 O H3 _ I3 q3)<|by rintro w' s4 ⟨z',H4,I4,r4,q4⟩;exact ho' pq s4 O H4 y z' u w' Q I4 r2 r4 q4
def Zd7(K:ao)(x:V)(H:Hp)(k:Bool):Prop:=
 match x with
 |.non=>k=aj
 |.bl b=>k=b
 |.int i=>k=(i != 0)
 |.str y=>y.length<=a9/\k=((y.length:Int) != 0)
 |.ref p=>(∃xs,SqL K H p xs/\k = !xs.isEmpty)\/(∃xs,SqT K H p xs/\k = !xs.isEmpty)\/∃kvs,H p=aa (.dK kvs)/\k = !kvs.isEmpty
 |_=>False
def wm{κ:Type}{kvs:List (κ×V)}{vs:List (κ×az)}(r:KV kvs vs):(!vs.isEmpty) = !kvs.isEmpty:=by
 cases r<;>rfl
def QS(r:Vals xs its):(!its.toArray.isEmpty) = !xs.isEmpty:=by
 cases r<;>simp
def GZ:(a9:Nat)<2^63:=by rw[cW];decide
theorem ZbD:ZhW X (λx H Q=>∃k,Zd7 X.K x H k/\Q k H):=by
 intro pq s O H x v Q I rx h;obtain⟨k,e,q⟩:=h;have hs:=cW;cases x with
 |non=>
  cases rx;have e':=e;subst e';exact truthy_none #[H,I,q]
 |bl b=>
  cases rx;have e':=e;subst e';exact d8 #[H,I,q]
 |int i=>
  obtain⟨t,rfl⟩:=rx;have e':=e;subst e';exact nI #[H,I,q]
 |str y=>
  obtain⟨t,rfl⟩:=rx;obtain⟨hy,e'⟩:=e;subst e';exact PySem.P.truthy_str #[0] #[H,I.tok _,q]
 |ref p=>
  cases rx;have e':=e;rcases e' with⟨xs,hx,e'⟩|⟨xs,hx,e'⟩|⟨kvs,hx,e'⟩
  .subst e'
   obtain⟨its,r,pl,hz⟩:=I.list hx;have hlen:=r.length;exact wpAny_truthy_list pl.isList (by simp;lia) #[H,I.tok _,by rw[QS r];exact q]
  .subst e'
   obtain⟨its,r,pl,hz⟩:=I.tuple hx;have hlen:=r.length;exact truthy_tuple pl (by simp;lia) #[H,I.tok _,by rw[QS r];exact q]
  .subst e'
   obtain⟨hz,hS,vs,r,m⟩:=I.hok p _ hx;have hlen:=Paired.length r;exact wpAny_truthy_dict hS m #[0] #[H,I.tok _,by rw[wm r];exact q]
 |_=>exact(e).elim
def jd(ha:PE X a ta)(he:∀whole,isTrue a X.env whole=(do let v <-whole;n8 a.pos;kZ [v] (rW v))) :
  PT X a (λO H Q=>ta O H λx H'=>∃k,Zd7 X.K x H' k/\Q k H'):=by
 intro pq s O H Q I h;exact isTrue_plain (thn (ha pq s O H _ I h)<|by rintro v s1 ⟨x,H1,I1,r1,q1⟩;exact ZbD pq s1 O H1 x v Q I1 r1 q1)<|he _
def XZ(r:Vals [x] us):∃u,us=[u]/\ZA x u:=by
 cases r with|cons r1 r2=>cases r2;exact#[_,rfl,r1]
def yy(r:Vals [x,y] us):∃u w',us=[u,w']/\ZA x u/\ZA y w':=by
 cases r with
 |cons r1 r2=>
  cases r2 with|cons r3 r4=>cases r4;exact#[_,_,rfl,r1,r3]
def qu(hc:X.calm=ak):ZH X (.builtin "max") (λxs H Q=>∃i j,xs=[.int i,.int j]/\Q (.int (if j>i then j else i)) H):=by
 intro pq s O H xs us Q I r h;obtain⟨i,j,rfl,q⟩:=h;obtain⟨u,w',rfl,⟨t,rfl⟩,⟨t',rfl⟩⟩:=yy r;refine max_two_ints (I.ok.hd hc) λh' tk k=>#[_,H,I.kept k,?_,q]
 by_cases hj:j>i
 .rw[T9 hj,T9 hj];exact#[_,rfl]
 .rw[T8 hj,T8 hj];exact#[_,rfl]
def qr(hc:X.calm=ak):ZH X (.builtin "min") (λxs H Q=>∃i j,xs=[.int i,.int j]/\Q (.int (if j<i then j else i)) H):=by
 intro pq s O H xs us Q I r h;obtain⟨i,j,rfl,q⟩:=h;obtain⟨u,w',rfl,⟨t,rfl⟩,⟨t',rfl⟩⟩:=yy r;refine min_two_ints (I.ok.hd hc) λh' tk k=>#[_,H,I.kept k,?_,q]
 by_cases hj:j<i
 .rw[T9 hj,T9 hj];exact#[_,rfl]
 .rw[T8 hj,T8 hj];exact#[_,rfl]
def uZ:ZH X (.type "int") (λxs H Q=>(∃i,xs=[.int i]/\Q (.int i) H)\/∃k,xs=[.bl k]/\Q (.int (if k then 1 else 0)) H):=by
 intro pq s O H xs us Q I r h;rcases h with⟨i,rfl,q⟩|⟨k,rfl,q⟩
 .obtain⟨u,rfl,t,rfl⟩:=XZ r
  exact call_int_int #[.int i,H,I,#[_,rfl],q]
 .obtain⟨u,rfl,r1⟩:=XZ r
  cases r1;exact call_int_bool #[.int (if k then 1 else 0),H,I.tok _,#[_,rfl],q]
end
structure ObjM(h:cM)(x dx C:aH)(mA:bN->Option az):Prop where
 obj:h.get? x=aa (PySem.W.instObj C dx)
 ns:h.Ns1 dx mA
 ne:dx≠x
structure Cls(K:ao)(C:aH):Prop where
 pg:oS K C bN.empty=ak
 hd:PySem.W.hasDictIn K C=ak
 po:PySem.W.plainOver K C=ak
 sa:PySem.W.findIn K (.ref C) "__setattr__" = aa (aa<|.builtin "object.__setattr__")
def Cls.get{K:ao}(c:Cls K C)(f):oS K C f=ak:=c.pg
section
variable{X:Cx}{pq:List (aH×fU)}{O:St}{H:Hp}{s:aF}{A:cw}{E:az->aF->Prop}{Q:az->aF->Prop}{c:az}{b:Bool}
inductive TyOf(K:ao)(H:Hp):V->az->Prop where
 |non:TyOf K H .non (.type "NoneType")
 |bl (x:Bool):TyOf K H (.bl x) (.type "bool")
 |int (i:Int):TyOf K H (.int i) (.type "int")
 |str (x:bN):TyOf K H (.str x) (.type "str")
 |lst {a:aH} {xs:List V} (e:H a=aa (.lst xs)):TyOf K H (.ref a) (.type "list")
 |frz {a:aH} {o:fU} {xs:List V} (e:H a=aa (.frz o<|.lst xs)):TyOf K H (.ref a) (.type "list")
 |tup {a:aH} {xs:List V} (e:H a=aa (.tup xs)):TyOf K H (.ref a) (.type "tuple")
 |dK {a:aH} {kvs:List (Key×V)} (e:H a=aa (.dK kvs)):TyOf K H (.ref a) (.type "dict")
 |dT {a:aH} {kvs:List (List Key×V)} (e:H a=aa (.dT kvs)):TyOf K H (.ref a) (.type "dict")
def uS(I:Inv X pq O H s)(rx:ZA x u)(ty:TyOf X.K H x t)(e:gh X.K t c=aa b)(h:∀tk,Q (.bool b) {s with toks:=tk}) :
  aW (aR X.prog X.w) A (call (.builtin "isinstance") [u,c]) Q E s:=by
 cases ty with
 |non=>cases(rx);exact dC oj I.kIn dN e (λz=>nomatch z) h
 |bl y=>cases(rx);exact dC on I.kIn dN e (λz=>nomatch z) h
 |int i=>obtain⟨t,q⟩:=(rx);cases q;exact dC oU I.kIn dN e (λz=>nomatch z) h
 |str y=>obtain⟨t,q⟩:=(rx);cases q;exact dC oV I.kIn dN e (λz=>nomatch z) h
 |@lst a xs ea=>
  cases(rx)
  obtain⟨_,_,n,_,h1⟩:=(I.hok a _ ea)
  exact dC io I.kIn #[_,h1,rfl] e (λz=>nomatch z) h
 |@frz a ob xs ea=>
  cases(rx)
  obtain⟨_,_,_,n,_,h1⟩:=(I.hok a _ ea)
  exact dC io I.kIn #[_,h1,rfl] e (λz=>nomatch z) h
 |@tup a xs ea=>
  cases(rx)
  obtain⟨_,_,_,p⟩:=(I.hok a _ ea)
  obtain⟨o,h1,h2,_⟩:=p;exact dC nJ I.kIn #[o,h1,h2] e (λz=>nomatch z) h
 |@dK a kvs ea=>
  cases(rx)
  obtain⟨_,_,vs,_,p⟩:=(I.hok a _ ea)
  obtain⟨o,es,ep,h1,h2,_⟩:=p;exact dC ip I.kIn #[o,h1,h2.1] e (λz=>nomatch z) h
 |@dT a kvs ea=>
  cases(rx)
  obtain⟨_,_,xs,_,o,es,ep,h1,h2,_⟩:=(I.hok a _ ea)
  exact dC ip I.kIn #[o,h1,h2.1] e (λz=>nomatch z) h
end
structure Room(k:Nat)(A:cw):Prop where
 hd:A.handled=ai
 dp:A.depth+3*k+5<recursionLimit
 un:A.units+16*k+200<dO
 gd:A.guards=aa []
def Room.mono(r:Room k A)(h:j<=k):Room j A:=#[r.hd,by have:=r.dp;lia,by have:=r.un;lia,r.gd]
theorem Room.deeper(r:Room (k+1) A)(env):Room k (A.deeper env):=
 #[r.hd,by have:=r.dp;show A.depth+1+3*k+5<_;lia,by have:=r.un;show A.units+3+16*k+200<_;lia,r.gd]
theorem Room.depth(r:Room k A):A.depth<recursionLimit:=by have:=r.dp;lia
def xT:TA:=λ_ H Q=>Q [] H
def Xi(ta:TE)(tr:TA):TA:=λO H Q=>ta O H λx H1=>tr O H1 λxs H2=>Q (x::xs) H2
section
variable{X:Cx}{e:Expr}{es:List Expr}{te:TE}{t:TA}{pos:iE}
def Yw:PA X [] xT:=λ_ _ _ _ H Q I h=>Calls.spliced_nil #[[],H,I,.nil,h]
def ZG(ha:PE X e te)(hr:PA X es t)(hs:ay (e::es) X.env=(aj,cz e X.env)::ay es X.env:=by rfl):PA X (e::es) (Xi te t):=by
 intro pos pq s O H Q I h;rw[hs];refine Calls.spliced_cons<|thn (ha pq s O H _ I h) λu s1 #[x,H1,I1,r1,q1]=>?_
 exact thn (hr pos pq s1 O H1 _ I1 q1)<|by rintro us s2 ⟨xs,H2,I2,r2,q2⟩;exact #[x::xs,H2,I2,.cons r1 r2,q2]
def Zik(t:TA):TE:=λO H Q=>t O H λxs H1=>xs.length<=a9/\∀p,H1 p=ai->Q (.ref p) (upd H1 p<|.tup xs)
def ZdL(t:TA):TE:=λO H Q=>t O H λxs H1=>xs.length<=a9/\∀p,H1 p=ai->Q (.ref p) (upd H1 p<|.lst xs)
def ZbU{x1}(h:PA X es t):PE X (.Tuple es x1 pos) (Zik t):=by
 intro pq s O H Q I hq;refine wpAny_Tuple_spliced<|thn (h pos pq s O H _ I hq) λus s1 #[xs,H1,I1,r,z,q]=>#[by rw[<-r.length];exact z,?_]
 have hf:=I1.hok.fresh<|aI _;refine#[.ref s1.heap.objs.size,upd H1 s1.heap.objs.size<|.tup xs,I1.laid (t':=s1.toks) (λb u e=>aq _ e) (aI _) ?_,rfl,q _ hf]
 exact#[z,us,r,#[_,aE _ rfl,rfl,_,rfl]]
def VT(h:PA X es t):PE X (.List es pos) (ZdL t):=by
 intro pq s O H Q I hq;refine wpAny_List_spliced<|thn (h pos pq s O H _ I hq) λus s1 #[xs,H1,I1,r,z,q]=>#[by rw[<-r.length];exact z,?_]
 have hf:=I1.hok.fresh<|aI _;refine#[.ref s1.heap.objs.size,upd H1 s1.heap.objs.size<|.lst xs,I1.laid (t':=s1.toks) (λb u e=>aq _ e) (aI _) ?_,rfl,q _ hf]
 exact#[z,us,0,r,aE _ rfl]
end
abbrev Sp:=List V->Hp->VK->XK->Prop
abbrev CXT:=List Env->Hp->aF->XK->az->aF->Prop
structure Env0(P:bO)(w:bV)(K:ao)(mg:bN->Option az)(base:cM)(A:cw)(outer:List Env)(s:aF)(H:Hp):Prop where
 frames:A.frames=aa outer
 mod:Mod K mg base
 bs:∀b o,base.get? b=aa o->s.heap.get? b=aa o/\H b=ai
 bsz:base.objs.size<=s.heap.objs.size
 funs:s.heap.FunFrames base outer
 frf:∀b∈frs outer,H b=ai
 hok:HOk P w H s.heap
 bare:iN s.gens
def CE(outer:List Env)(P:bO)(w:bV)(H:Hp)(s:aF)(Q:VK)(u:az)(s':aF):Prop:=
 ∃v H',s'.os=s.os/\iN s'.gens/\Un (frs outer) [] H H' s.heap s'.heap/\HOk P w H' s'.heap/\ZA v u/\Q v H'
def CR(CX:CXT)(outer:List Env)(P:bO)(w:bV)(H:Hp)(s:aF)(Q:VK)(E:XK)(r:rY)(s':aF):Prop:=
 match r with
 |.ok (.ret u)=>CE outer P w H s Q u s'
 |.ok _=>False
 |.error e=>CX outer H s E e s'
structure FnOk(P:bO)(w:bV)(K:ao)(mg:bN->Option az)(base:cM)(CX:CXT)(k:Nat)(f:aH)(fd:dz)(ps:List bN)(sp:Sp):Prop where
 len:∀vs H Q E,sp vs H Q E->vs.length=ps.length
 run:∀(A:cw)(outer:List Env)(s:aF)(H:Hp)(args:Args)(us:List az)(vs:List V)(Q:VK)(E:XK),Room k A->Env0 P w K mg base A outer s H->mZ s fd args (ps.zip us)->Vals vs us->sp vs H Q E->
  gz (aR P w) A (.call (.ref f) args) (CR CX outer P w H s Q E) s
section
variable{X:Cx}{pq:List (aH×fU)}{O:St}{H:Hp}{s s':aF}
def Inv.env0(I:Inv X pq O H s):Env0 X.prog X.w X.K X.mg X.base X.A X.stack s H:=
 #[I.ok.frames,I.ok.mod,I.bs,bU I.ok.bsz I.sz,I.stack,I.stkFree,I.hok,I.bare]
def Inv.after(I:Inv X pq O H s)(h:CE X.stack X.prog X.w H s Q u s'):EP X pq O Q u s':=by
 obtain⟨v,H',os,bare,un,hok,r,q⟩:=h;obtain⟨hh,g,d,t,os'⟩:=s';obtain rfl:os'=s.os:=os;exact#[v,H',I.call (h':=hh) (t':=t) un hok bare (λb z=>T7 z #[2]),r,q]
end
def Zet(sp:Sp)(dvs:List V)(E:XK)(t:TA):TE:=λO H Q=>t O H λvs H1=>sp (vs++dvs) H1 Q E
def Ut(K:ao)(fd:dz)(ps:List bN)(ds:List az):Prop:=
 ∀(s:aF)(us:List az),K.In s.heap->(us++ds).length=ps.length->mZ s fd #[us,[]] (ps.zip<|us++ds)
def Ut.all{K:ao}(h:∀us,us.length=ps.length->mJ fd #[us,[]]=cJ (ps.zip us)):Ut K fd ps []:=λs us _ hl=>by
 rw[cf]at hl ⊢;exact .of_eq<|h us hl
def QC(CX:CXT)(X:Cx)(E:XK):Prop:=∀(pq:List (aH×fU))(O:St)(H:Hp)(s:aF)(e:az)(s':aF),Inv X pq O H s->CX X.stack H s E e s'->X.xe e s'
section
variable{X:Cx}{CX:CXT}{k:Nat}{f C:aH}{fd:dz}{ps:List bN}{sp:Sp}{dvs:List V}{ds:List az}{E:XK}{x m:bN}{p pos apos:iE}{e o:Expr}{es:List Expr}{ta:TE}{t:TA}
def Zf6(F:FnOk X.prog X.w X.K X.mg X.base CX k f fd ps sp)(hr:Room k X.A)(hb:Ut X.K fd ps ds)(hd:Vals dvs ds)(hx:QC CX X E)
  (I:Inv X pq O H s)(r:Vals vs us)(h:sp (vs++dvs) H Q E):aW (aR X.prog X.w) X.A (call (.ref f) us) (EP X pq O Q) X.xe s:=by
 have r2:=r.append hd;have hl:(us++ds).length=ps.length:=by rw[<-r2.length];exact F.len _ _ _ _ h
 refine nK<|fG (F.run X.A X.stack s H #[us,[]] (us++ds) (vs++dvs) Q E hr I.env0 (hb s us I.kIn hl) r2 h) λr s' hq=>?_
 cases r with
 |error e=>exact hx pq O H s e s' I hq
 |ok fl=>
  cases fl with|ret u=>exact I.after hq|next=>exact False.elim hq|brk=>exact False.elim hq|cont=>exact False.elim hq
def ui(F:FnOk X.prog X.w X.K X.mg X.base CX k f fd ps sp)(hr:Room k X.A)(hg:Gl X x)(hm:X.mg x=aa (.ref f))(hk:gj X.K (.ref f)=ak)(hb:Ut X.K fd ps ds)(hd:Vals dvs ds)(hx:QC CX X E)
  (ha:PA X (e::es) t)(hdb:(x == ("__debug__" : bN))=aj:=by decide)(he:ay (e::es) X.env=(aj,cz e X.env)::ay es X.env:=by rfl)(hpl:(dL pos<|ay es X.env).any (·.1)=aj:=by rfl) :
  PE X (.Call (.Name x p) (e::es) [] pos) (Zet sp dvs E t):=by
 intro pq s O H Q I h;refine dE<|Ve I hg hm ?_ hdb;refine nL I.ok.mod.kin hk (thn (ha pos pq s O H _ I h) λus s1 #[vs,H1,I1,r,q]=>#[I1.kIn,?_]) he hpl
 exact Zf6 F hr hb hd hx I1 r q
end
structure FnScope(N P:List bN)(sc:gE):Prop where
 kind:sc.kind=.function
 co:sc.isCoroutine=aj
 gen:sc.isGenerator=aj
 nd:N.Nodup
 pre:N.take P.length=P
 par:∀x∈P,sc.names.lookup x=aa .local\/sc.names.lookup x=aa .cell
 nofree:∀y∈sc.names,y.2≠.free
theorem Jy{kindOf:bN->Option iT}:∀{binds:List (bN×az)}{m:bN->Option az},(∀v,(x,v)∉binds)->rQ kindOf binds m x=m x
 |[],_,_=>rfl
 |(n,v)::r,m,h=>by
  unfold rQ;rw[Jy λw hw=>h w<|am _ hw]
  split
  .have:x≠n:=by rintro rfl;exact h v al
   simp[this]
  .rfl
theorem Jh{kindOf:bN->Option iT}:∀{binds:List (bN×az)}{m:bN->Option az},(∀v,(x,v)∉binds)->rR kindOf binds m x=m x
 |[],_,_=>rfl
 |(n,v)::r,m,h=>by
  unfold rR;rw[Jh λw hw=>h w<|am _ hw]
  split
  .rfl
  .have:x≠n:=by rintro rfl;exact h v al
   simp[this]
theorem JY{kindOf:bN->Option iT}:∀{P:List bN}{vs:List az}{i:Nat}{m:bN->Option az},P.Nodup->P[i]?=aa x->vs[i]?=aa v->kindOf x=aa .local->
  rQ kindOf (P.zip vs) m x=aa v
 |[],_,_,_,_,h,_,_=>by simp at h
 |_::_,[],_,_,_,_,h,_=>by simp at h
 |p::P,w::vs,0,m,nd,h1,h2,hk=>by
  simp at h1 h2;subst h1;subst h2;show rQ kindOf ((p,w)::P.zip vs) m p=_;unfold rQ;rw[Jy λv hv=>(dD.mp nd).1 (gS hv).1,T9 hk]
  simp
 |p::P,w::vs,i+1,m,nd,h1,h2,hk=>by
  unfold rQ;exact JY (dD.mp nd).2 (by simpa using h1) (by simpa using h2) hk
theorem Jz{kindOf:bN->Option iT}:∀{P:List bN}{vs:List az}{i:Nat}{m:bN->Option az},P.Nodup->P[i]?=aa x->vs[i]?=aa v->kindOf x≠aa .local->
  rR kindOf (P.zip vs) m x=aa v
 |[],_,_,_,_,h,_,_=>by simp at h
 |_::_,[],_,_,_,_,h,_=>by simp at h
 |p::P,w::vs,0,m,nd,h1,h2,hk=>by
  simp at h1 h2;subst h1;subst h2;show rR kindOf ((p,w)::P.zip vs) m p=_;unfold rR;rw[Jh λv hv=>(dD.mp nd).1 (gS hv).1,T8 hk]
  simp
 |p::P,w::vs,i+1,m,nd,h1,h2,hk=>by
  unfold rR;exact Jz (dD.mp nd).2 (by simpa using h1) (by simpa using h2) hk
def start(N:List bN)(vs:List V):St:=vs.map aa++au (N.length-vs.length) ai
noncomputable def X0(CX:CXT)(P:bO)(w:bV)(K:ao)(mg:bN->Option az)(base:cM)(N:List bN)(qual:bN)(scope:gE)(f:aH)(cd:az)(A:cw)(outer:List Env)(s:aF)(H:Hp)(E:XK):Cx where
 prog:=P
 w:=w
 K:=K
 mg:=mg
 base:=base
 A:=A.deeper<|dZ qual scope s.heap.objs.size f cd
 N:=N
 s₀:=s
 H₀:=H
 env:=dZ qual scope s.heap.objs.size f cd
 outer:=outer
 stack:=dZ qual scope s.heap.objs.size f cd::outer
 ex:=[]
 calm:=ak
 fn:=λ_=>ak
 pn:=[]
 xe:=λe s'=>aW (aR P w) (A.deeper<|dZ qual scope s.heap.objs.size f cd) (leaving (dZ qual scope s.heap.objs.size f cd) e) (λ_ s''=>CX outer H s E e s'') (λe' s''=>CX outer H s E e' s'') s'
def QU{sc:gE}(h:sc.names.lookup x=aa .cell):∃c,(dv n sc.names []).lookup x=aa c:=by
 exact bP.mp<|iq sc.names n []<|.inl h
def JF{CX:CXT}{w:bV}{K:ao}{qual:bN}{f:aH}{cd:az}{A:cw}{H:Hp}{E:XK}{vs:List V}
  (S:FnScope N ps scope)(hd:A.handled=ai)(e0:Env0 P w K mg base A outer s H)(hl:vs.length=ps.length)(r:Vals vs us)
  (x:InCallC s s.heap.objs.size (rQ (dZ qual scope s.heap.objs.size f cd).kindOf (ps.zip us) λ_=>ai) (dv (s.heap.objs.size+1) scope.names []) (rR (dZ qual scope s.heap.objs.size f cd).kindOf (ps.zip us) λ_=>ai) s1) :
  Inv (X0 CX P w K mg base N qual scope f cd A outer s H E) [] (start N vs) H s1:=by
 have hpl:ps.length<=N.length:=by have:=congrArg hZ S.pre;rw[bQ]at this;lia
 obtain⟨h1,tk,rfl,hk⟩:=x.done;have noA:∀b:aH,b∉(X0 CX P w K mg base N qual scope f cd A outer s H E).ex:=λb z=>T7 (show b∈([]:List aH)from z) #[2]
 refine#[#[e0.mod,S.kind,rfl,rfl,aI _,λy z c h1 h2=>?_,λy hy=>?_,λy c _ h=>?_,λ_=>hd,mK e0.frames,.inr #[rfl,rfl],λb z=>T7 z<|noA b,e0.bs,e0.bsz,λb _ _=>noA b,λb z=>T7 z<|noA b,e0.funs,e0.frf],
  rfl,e0.bare,Un.kept hk,#[_,x.toInCall.ns,λi y v h1 h2 h3=>?_],λy c h=>#[_,x.cell y c h],e0.hok.fresh<|aI _,λy c h=>?_,λp hp=>T7 (show p∈([]:List (aH×fU))from hp) #[2],e0.hok.kept hk,?_]
 .exact name_of_addr x.apart (dR h1)<|dR h2
 .have hy:=hy
  rcases hy with hy|hy
  .exact QU hy
  .exact T7 rfl<|S.nofree _<|dR hy
 .exact gw<|x.above y c<|dR h
 .have hi:i<vs.length:=by
   unfold start at h2;by_cases hi:i<vs.length
   .exact hi
   .rw[ck<|by simpa using hi]at h2
    rw[cK]at h2;split at h2<;>cases h2
  have ha:vs[i]?=aa v:=by
   unfold start at h2;rw[cx (by simpa using hi),aK]at h2
   cases e:vs[i]? with|none=>rw[e]at h2;cases h2|some a=>rw[e]at h2;cases h2;rfl
  obtain⟨u,hu,rv⟩:=r.get ha;have hp:ps[i]?=aa y:=by
   rw[<-S.pre,List.getElem?_take_of_lt #[0]];exact h1
  have ndP:ps.Nodup:=by rw[<-S.pre];exact S.nd.sublist<|oo _ _
  refine#[u,rv,?_];rcases S.par y (cO hp)with k|k
  .exact .inl #[k,JY ndP hp hu k]
  .obtain⟨c,e⟩:=QU k
   refine .inr #[.inl k,c,e,?_];have q:=x.cell y c e;rw[Jz ndP hp hu<|by show scope.names.lookup y≠_;rw[k];decide]at q
   exact q
 .exact e0.hok.fresh<|gw<|x.above y c<|dR h
 .unfold start
  show _=N.length;rw[aQ,ax,bL];lia
def Zes{CX:CXT}{w:bV}{K:ao}{base:cM}{k:Nat}{f:aH}{dV kV doc pm cdv ct oc:az}
    {sp:Sp}(lk:K.lookup f=aa #[oc,od,.func<|eA name qual params body scope dV kV doc pm an cdv ct,osl])(hcd:ku K cdv qual=ak)(S:FnScope N ps scope)
  (len:∀vs H Q E,sp vs H Q E->vs.length=ps.length)
  (hbody:∀(A:cw)(outer:List Env)(s:aF)(H:Hp)(vs:List V)(Q:VK)(E:XK),Room k (A.deeper<|dZ qual scope s.heap.objs.size f cdv)->sp vs H Q E->
   ∃t,PSs (X0 CX P w K mg base N qual scope f cdv A outer s H E) body t/\t {nx:=λ_ H'=>Q .non H',rt:=Q} (start N vs) H) :
  FnOk P w K mg base CX (k+1) f (eA name qual params body scope dV kV doc pm an cdv ct) ps sp:=by
 refine#[len,λA outer s H args us vs Q E hr e0 hb r hsp=>?_]
 have hl:=len _ _ _ _ hsp;have KX:=e0.mod.kin.keeps λb o e=>(e0.bs b o e).1
 have lim:=e0.mod.nolimit.keeps λb o e=>(e0.bs b o e).1
 have hkind:∀y∈ps.zip us,scope.names.lookup y.1=aa .local\/(scope.names.lookup y.1=aa .cell/\((dv (s.heap.objs.size+1) scope.names []).lookup y.1).isSome=ak):=by
  rintro ⟨n,v⟩ hy;rcases S.par n (gS hy).1 with q|q
  .exact .inl q
  .exact .inr #[q,iq _ _ _<|.inl q]
 refine mC hr.depth (KX _ _ lk) rfl S.co S.gen rfl (nM KX hcd)<|hb _ _ _ _ ?_;refine kw S.kind hkind λenv he s1 x=>?_
 subst he;refine#[lim.keeps x.toInCall.keep,codeAny_func ?_];obtain⟨t,ht,hq⟩:=hbody A outer s H vs Q E (hr.deeper _) hsp;have I:Inv (X0 CX P w K mg base N qual scope f cdv A outer s H E) [] (start N vs) H s1:=JF S hr.hd e0 hl r x;refine dq (ht [] s1 (start N vs) H _ I hq) (λfl s' hs=>?_) λe s' hs=>hs
 have fin:∀{σ':St}{H':Hp}{v:V}{u:az},Inv (X0 CX P w K mg base N qual scope f cdv A outer s H E) [] σ' H' s'->ZA v u->Q v H'->CE outer P w H s Q u s':=
  λ{σ' H' v u} J rv q=>#[v,H',J.os,J.bare,J.base,J.hok,rv,q]
 cases fl with
 |ret u=>
  obtain⟨v,σ',H',J,rv,q⟩:=hs;exact fin J rv q
 |next=>
  obtain⟨σ',H',J,q⟩:=hs;exact fin (v:=V.non) J rfl q
 |brk=>
  obtain⟨_,_,_,q⟩:=hs;exact False.elim q
 |cont=>
  obtain⟨_,_,_,q⟩:=hs;exact False.elim q
section
variable{X:Cx}{x:bN}{p pos:iE}{e:Expr}{es:List Expr}{t:TA}{id T:String}{r:List V->Hp->VK->Prop}
def tCB(r:List V->Hp->VK->Prop)(t:TA):TE:=λO H Q=>t O H λvs H1=>r vs H1 Q
def Xt(hc:ZH X (.builtin id) r)(hg:Gl X x)(hm:X.mg x=ai)(hv:dB x=aa (.builtin id))(ha:PA X (e::es) t)(hn:x≠"__name__":=by decide)(hdb:(x == ("__debug__" : bN))=aj:=by decide)
  (he:ay (e::es) X.env=(aj,cz e X.env)::ay es X.env:=by rfl)(hpl:(dL pos<|ay es X.env).any (·.1)=aj:=by rfl):PE X (.Call (.Name x p) (e::es) [] pos) (tCB r t):=by
 intro pq s O H Q I h;refine dE<|Xp I hg hm hv ?_ hn hdb;exact iI (thn (ha pos pq s O H _ I h)<|by rintro us s1 ⟨vs,H1,I1,r1,q1⟩;exact hc pq s1 O H1 vs us Q I1 r1 q1) he hpl
def Jf(hc:ZH X (.type T) r)(hg:Gl X x)(hm:X.mg x=ai)(hv:dB x=aa (.type T))(ha:PA X (e::es) t)(hn:x≠"__name__":=by decide)(hdb:(x == ("__debug__" : bN))=aj:=by decide)
  (he:ay (e::es) X.env=(aj,cz e X.env)::ay es X.env:=by rfl)(hpl:(dL pos<|ay es X.env).any (·.1)=aj:=by rfl):PE X (.Call (.Name x p) (e::es) [] pos) (tCB r t):=by
 intro pq s O H Q I h;refine dE<|Xp I hg hm hv ?_ hn hdb;exact cY (thn (ha pos pq s O H _ I h)<|by rintro us s1 ⟨vs,H1,I1,r1,q1⟩;exact hc pq s1 O H1 vs us Q I1 r1 q1) he hpl
end
end L2
namespace HT
open PySem PyProof.Rows
section
variable{prog:bO}{w:bV}{A:cw}{E:az->aF->Prop}{s:aF}
def ZdS(ht:n6 s.heap t vs.toArray)(hb:n6 s.heap b ws.toArray)(hv:vs≠[])
  (h1:ws=[]->Q (.ref t) s)(h2:ws≠[]->Q (.ref s.heap.objs.size) {s with heap:=s.heap.push {cls:=.type "tuple",data:=.seq (vs++ws).toArray}})
  (hsz:vs.length+ws.length<=a9):aW (aR prog w) A (eT .Add (.ref t)<|.ref b) Q E s:=by
 obtain⟨⟨cls,dd,data,sl⟩,ho,hc,n,hd⟩:=id ht;obtain⟨⟨cls2,dd2,data2,sl2⟩,ho2,hc2,n2,hd2⟩:=id hb;subst hc hd hc2 hd2;have e:vs.toArray++ws.toArray=(vs++ws).toArray:=by simp
 by_cases hw:ws=[]
 .exact oq #[_,ho,rfl] #[_,ho2,rfl] lH nq iu h8 (gJ _ _)
   (tuple_addW1 t b vs.toArray ws.toArray n n2 dd dd2 sl sl2 (by simpa using hv)<|by simp[hw]) #[ho,ho2,h1 hw]
 .refine oq #[_,ho,rfl] #[_,ho2,rfl] lH nq iu h8 (gJ _ _)
   (tuple_addW2 t b vs.toArray ws.toArray n n2 dd dd2 sl sl2 (by simpa using hv) (by simpa using hw)<|by rw[aC];exact hsz) #[ho,ho2,?_]
  rw[e];exact h2 hw
noncomputable def sIx(n d:Nat):Option Int->Nat
 |none=>d
 |some v=>if v<0 then(v+(n:Int)).toNat else si v.toNat n
theorem vY(v)(n d:Nat):(if v<0 then max (v+(n:Int)) 0 else si v (n:Int))=((sIx n d (aa v):Nat):Int):=by
 show(if v<0 then max (v+(n:Int)) 0 else si v (n:Int))=(((if v<0 then(v+(n:Int)).toNat else si v.toNat n):Nat):Int)
 by_cases hv:v<0
 .lia
 .lia
def xE(lo hi)(n:Nat):kW lo hi 1 (n:Int)=(((sIx n 0 lo:Nat):Int),((sIx n n hi:Nat):Int)):=by
 refine Prod.ext ?_ ?_
 .cases lo with|none=>rfl|some v=>exact vY v n 0
 .cases hi with|none=>rfl|some v=>exact vY v n n
theorem xR(i j:Nat):cQ (i:Int) (j:Int) 1=j-i:=by
 unfold cQ
 split<;>lia
def WR(p:kx v o)(h:Q o s):aW (aR prog w) A (dP.Slice.slicePartIndex v) Q E s:=by
 cases p with|none=>exact ky h|int i t=>exact slicePart_int h
def Xs{lo hi:Option Int}{n:Nat}(hs:s.heap.IsSliceOf sl vl vu .none)(pl:kx vl lo)(pu:kx vu hi)
  (h:Q (((sIx n 0 lo:Nat):Int),1,sIx n n hi-sIx n 0 lo) s):aW (aR prog w) A (kz (.ref sl)<|cJ (n:Int)) Q E s:=by
 obtain⟨os,hos,hcs,hds⟩:=id hs;refine ae<|ae<|cP hos hds rfl<|ae<|cP hos hds rfl<|ae<|cP hos hds rfl<|av ?_;refine ae<|ky ?_;show aW _ _ (if((1:Int) == 0)=ak then _ else _) _ _ s
 rw[T8 #[1]]
 refine ae<|WR pl<|ae<|WR pu<|ae<|av ?_;show aW _ _ (match kW lo hi 1 (n:Int)with|(lo,hi)=>cJ (lo,(1:Int),cQ lo hi 1)) _ _ s
 rw[xE lo hi n];show aW _ _ (cJ (((sIx n 0 lo:Nat):Int),(1:Int),cQ ((sIx n 0 lo:Nat):Int) ((sIx n n hi:Nat):Int) 1)) _ _ s;rw[xR];exact av h
theorem jn(xs:Array az)(i k:Nat):((aO k).filterMap λ(m:Nat)=>xs[((i:Int)+(m:Int)*1).toNat]?).toArray=((xs.toList.drop i).take k).toArray:=by
 have e:(λ(m:Nat)=>xs[((i:Int)+(m:Int)*1).toNat]?)=λm=>xs[i+m]?:=by
  funext m
  have:((i:Int)+(m:Int)*1).toNat=i+m:=by lia
  rw[this]
 rw[e];have:=pick_run xs i k;rw[nN]at this;have e2:((λx=>xs[x]?)∘λx=>i+x)=λm=>xs[i+m]?:=rfl
 rw[e2]at this;rw[this]
theorem Vh{lo hi:Option Int}(ht:n6 s.heap t items)(hs:s.heap.IsSliceOf sl vl vu .none)(pl:kx vl lo)(pu:kx vu hi)
  (hw:¬(sIx items.size 0 lo=0/\sIx items.size items.size hi=items.size))
  (h:Q (.ref s.heap.objs.size) {s with heap:=s.heap.push {cls:=.type "tuple",data:=.seq ((items.toList.drop<|sIx items.size 0 lo).take<|sIx items.size items.size hi-sIx items.size 0 lo).toArray}})
  (hsz:items.size<=a9):aW (aR prog w) A (k6 (.ref t)<|.ref sl) Q E s:=by
 have htake:sizeOk (.seq ((items.toList.drop<|sIx items.size 0 lo).take<|sIx items.size items.size hi-sIx items.size 0 lo).toArray):=by
  show((items.toList.drop<|sIx items.size 0 lo).take<|sIx items.size items.size hi-sIx items.size 0 lo).toArray.size<=a9;rw[aC,bQ,bF,aN];lia
 obtain⟨os,hos,hcs,hds⟩:=id hs;have hTs:s.TypeIs (.ref sl) "slice":=#[os,hos,hcs];unfold k6
 try with_reducible refine bI ?_
 first|refine ae<|av ?_|skip
 refine ae<|k7 ht.typeIs #[1] ?_
 refine ae (cn ht.typeIs cE
  (cc cE ht.typeIs kh ?_<|kA _ _))
 show aW _ _ (gn (.ref t) >>= _) _ _ s;refine ae<|nr ht ?_;refine ae<|fH hTs ?_;rw[T9 #[1]]
 refine ae<|Xs hs pl pu ?_;have hno:¬((((sIx items.size 0 lo:Nat):Int) == 0&&(1:Int) == 1&&(sIx items.size items.size hi-sIx items.size 0 lo) == items.size)=ak):=by
  intro q;rw[aB,aB]at q;have q1:=fu q.1.1;have q2:=fu q.2;exact hw #[by lia,by lia]
 show aW _ _ (if(((sIx items.size 0 lo:Nat):Int) == 0&&(1:Int) == 1&&(sIx items.size items.size hi-sIx items.size 0 lo) == items.size)=ak then _ else _) _ _ s
 rw[T8 hno,jn]
 first
  |exact ae<|br (av #[_,rfl,av h]) htake
  |exact ae<|br (ae<|av<|av #[_,rfl,av h]) htake
  |exact ae<|ae<|br (av<|av #[_,rfl,av h]) htake
  |exact ae<|ae<|br (av #[_,rfl,av h]) htake
end
end HT
namespace L2
open PySem PySem.Spec PyProof.Rows
abbrev TO:=St->Hp->(Option Int->Hp->Prop)->Prop
def PO(X:Cx)(e:Option Expr)(t:TO):Prop:=
 ∀(pq:List (aH×fU))(s:aF)(O:St)(H:Hp)(Q:Option Int->Hp->Prop),Inv X pq O H s->t O H Q->
  aW (aR X.prog X.w) X.A (evalPart e X.env) (λu s'=>∃o H',Inv X pq O H' s'/\kx u o/\Q o H') X.xe s
def Zci:TO:=λ_ H Q=>Q ai H
def Zhr(t:TE):TO:=λO H Q=>t O H λx H1=>∃i,x=.int i/\Q (aa i) H1
section
variable{X:Cx}{e:Expr}{te:TE}{lo hi:Option Expr}{tl th:TO}{pos p2:iE}
def ZcF:PO X ai Zci:=by
 intro pq s O H Q I h;rw[nt];exact av #[ai,H,I,.none,h]
def ZT(h:PE X e te):PO X (aa e) (Zhr te):=by
 intro pq s O H Q I hw;rw[evalPart_some];refine thn (h pq s O H _ I hw) λu s1 #[x,H1,I1,r1,q1]=>?_
 obtain⟨i,rfl,q⟩:=q1;obtain⟨t,rfl⟩:=r1;exact#[aa i,H1,I1,.int i t,q]
def SlR(X:Cx)(r:V->Option Int->Option Int->Hp->VK->Prop):Prop:=
 ∀(pq:List (aH×fU))(s:aF)(O:St)(H:Hp)(x:V)(v vl vu:az)(lo hi:Option Int)(sl:aH)(Q:VK),Inv X pq O H s->ZA x v->s.heap.IsSliceOf sl vl vu .none->kx vl lo->kx vu hi->r x lo hi H Q->
  ∃T id,kB (.type T) "__getitem__" = cJ (aa<|.builtin id)/\s.TypeIs v T/\aW (aR X.prog X.w) X.A (k6 v<|.ref sl) (EP X pq O Q) X.xe s
def SlR.or(h:SlR X r)(h':SlR X r'):SlR X (λx lo hi H Q=>r x lo hi H Q\/r' x lo hi H Q):=by
 intro pq s O H x v vl vu lo hi sl Q I rx hs pl pu q;rcases q with q|q
 .exact h pq s O H x v vl vu lo hi sl Q I rx hs pl pu q
 .exact h' pq s O H x v vl vu lo hi sl Q I rx hs pl pu q
def tSl(r:V->Option Int->Option Int->Hp->VK->Prop)(te:TE)(tl th:TO):TE:=λO H Q=>te O H λx H1=>tl O H1 λl H2=>th O H2 λu H3=>r x l u H3 Q
def Zba{r:V->Option Int->Option Int->Hp->VK->Prop}(hr:SlR X r)(he:PE X e te)(hl:PO X lo tl)(hu:PO X hi th):PE X (.Subscript e (.Slice lo hi ai p2) pos) (tSl r te tl th):=by
 intro pq s O H Q I h;refine pT<|thn (he pq s O H _ I h) λv s1 #[x,H1,I1,r1,q1]=>?_
 refine wpAny_Slice<|thn (hl pq s1 O H1 _ I1 q1) λvl s2 #[l,H2,I2,pl,q2]=>thn (hu pq s2 O H2 _ I2 q2) λvu s3 #[u,H3,I3,pu,q3]=>?_
 rw[nt];refine av ?_;have I4:Inv X pq O H3 {s3 with heap:=s3.heap.push {cls:=.type "slice",data:=.fields [vl,vu,.none].toArray}}:=I3.kept λb ob q=>aq _ q
 obtain⟨T,id,hT,ht,hg⟩:=hr pq {s3 with heap:=s3.heap.push {cls:=.type "slice",data:=.fields [vl,vu,.none].toArray}} O H3 x v vl vu l u s3.heap.objs.size Q I4 r1 (nO ..) pl pu q3
 exact tail_any ht hT hg (by with_unfolding_all rfl)
def Z6(xs:List V)(lo hi:Option Int):List V:=(xs.drop<|HT.sIx xs.length 0 lo).take<|HT.sIx xs.length xs.length hi-HT.sIx xs.length 0 lo
theorem Ul(xs lo hi):(Z6 xs lo hi).length<=xs.length:=by
 unfold Z6;rw[bQ,bF];lia
def Zia(K:ao):V->Option Int->Option Int->Hp->VK->Prop:=λx lo hi H Q=>∃a xs,x=.ref a/\SqT K H a xs/\
 ¬(HT.sIx xs.length 0 lo=0/\HT.sIx xs.length xs.length hi=xs.length)/\∀p,H p=ai->Q (.ref p) (upd H p<|.tup<|Z6 xs lo hi)
def ZgE:SlR X (Zia X.K):=by
 intro pq s O H x v vl vu lo hi sl Q I rx hs pl pu h;obtain⟨a,xs,rfl,hx,hw,q⟩:=h;cases rx;obtain⟨its,r,ht,hz⟩:=I.tuple hx;have hlen:its.toArray.size=xs.length:=by rw[aC];exact r.length.symm
 refine#["tuple",_,cE.lookup,ht.typeIs,?_];refine HT.Vh ht hs pl pu (by rw[hlen];exact hw) ?_ (by rw[hlen];exact hz)
 rw[hlen];refine#[.ref s.heap.objs.size,_,I.laid (t':=s.toks) (λb ob q=>aq _ q) (aI _) ?_,rfl,q _<|I.hok.fresh<|aI _]
 exact#[bU (Ul xs lo hi) hz,_,(r.drop<|HT.sIx xs.length 0 lo).take<|HT.sIx xs.length xs.length hi-HT.sIx xs.length 0 lo,kn _ _]
def Zex(K:ao):R2:=λx y H Q=>∃a b xs ys,x=.ref a/\y=.ref b/\SqT K H a xs/\SqT K H b ys/\xs≠[]/\xs.length+ys.length<=a9/\
 (ys=[]->Q (.ref a) H)/\(ys≠[]->∀p,H p=ai->Q (.ref p) (upd H p<|.tup<|xs++ys))
def Vals.nil_iff(r:Vals xs us):us=[]↔xs=[]:=by
 cases r with|nil=>simp|cons _ _=>simp
def ZcN:OpR X (eT .Add) (Zex X.K):=by
 intro pq s O H x y v u Q I rx ry h;obtain⟨a,b,xs,ys,rfl,rfl,ha,hb,hx,hz,q1,q2⟩:=h;cases rx;cases ry;obtain⟨its,r1,p1,_⟩:=I.tuple ha;obtain⟨its2,r2,p2,_⟩:=I.tuple hb;refine HT.ZdS p1 p2 (λz=>hx<|r1.nil_iff.mp z) (λz=>#[.ref a,H,I,rfl,q1<|r2.nil_iff.mp z]) (λz=>?_) (by rw[<-r1.length,<-r2.length];exact hz)
 refine#[.ref s.heap.objs.size,_,I.laid (t':=s.toks) (λb ob q=>aq _ q) (aI _) ?_,rfl,q2 (λw=>z<|r2.nil_iff.mpr w) _<|I.hok.fresh<|aI _]
 exact#[by rw[aQ];exact hz,_,r1.append r2,kn _ _]
end
noncomputable def ixN(n:Nat)(i:Int):Option Nat:=if 0<=i then(if i<n then aa i.toNat else ai)else if -(n:Int)<=i then aa (i+n).toNat else ai
def atI{B:Type}(xs:List B)(i:Int):Option B:=(ixN xs.length i).bind λj=>xs[j]?
def v9(h:ixN n i=aa j):seqIndex? i n=aa j/\j<n/\-(n:Int)<=i/\i<n:=by
 unfold ixN at h;by_cases h0:0<=i
 .rw[T9 h0]at h
  by_cases h1:i<n
  .rw[T9 h1]at h
   exact#[by rw[pj h0 h1,(ap h)],by lia,by lia,h1]
  .rw[T8 h1]at h;cases h
 .rw[T8 h0]at h
  by_cases h1:-(n:Int)<=i
  .rw[T9 h1]at h
   exact#[by rw[ot #[0] h1,(ap h)],by lia,h1,by lia]
  .rw[T8 h1]at h;cases h
def vA{B:Type}{xs:List B}{v:B}(h:atI xs i=aa v):∃j,seqIndex? i xs.length=aa j/\xs[j]?=aa v/\j<xs.length/\-(xs.length:Int)<=i/\i<xs.length:=by
 unfold atI at h;cases e:ixN xs.length i with
 |none=>rw[e]at h;cases h
 |some j=>
  rw[e]at h;obtain⟨h1,h2,h3,h4⟩:=v9 e;exact#[j,h1,h,h2,h3,h4]
def wN(b:Expr):Prop:=∀o i,subscripted b aj o i=operate [o,i] (k6 o i)
def IxR(X:Cx)(r:R2):Prop:=
 ∀(value slice:Expr)(pq:List (aH×fU))(s:aF)(O:St)(H:Hp)(x y:V)(v u:az)(Q:VK),Inv X pq O H s->ZA x v->ZA y u->r x y H Q->
  subscripted slice aj v u=operate [v,u] (k6 v u)->aW (aR X.prog X.w) X.A (subscriptTail value slice v u) (EP X pq O Q) X.xe s
def MtR(X:Cx)(id:String)(r:V->List V->Hp->VK->Prop):Prop:=
 ∀(pq:List (aH×fU))(s:aF)(O:St)(H:Hp)(x:V)(xs:List V)(v:az)(us:List az)(Q:VK),Inv X pq O H s->ZA x v->Vals xs us->r x xs H Q->
  aW (aR X.prog X.w) X.A (call (.builtin id) (v::us)) (EP X pq O Q) X.xe s
section
variable{X:Cx}{a b:Expr}{ta tb:TE}{pos:iE}
def IxR.or(h:IxR X r)(h':IxR X r'):IxR X (λx y H Q=>r x y H Q\/r' x y H Q):=by
 intro value slice pq s O H x y v u Q I rx ry q hs;rcases q with q|q
 .exact h value slice pq s O H x y v u Q I rx ry q hs
 .exact h' value slice pq s O H x y v u Q I rx ry q hs
def Zb3(hr:IxR X r)(ha:PE X a ta)(hb:PE X b tb)(hs:wN b):PE X (.Subscript a b pos) (tOp r ta tb):=by
 intro pq s O H Q I h;exact pT<|Zfh ha hb I h λv u s2 x y H2 I2 rx ry q=>hr a b pq s2 O H2 x y v u Q I2 rx ry q<|hs _ _
def Zig(K:ao):R2:=λx y H Q=>∃p xs i v,x=.ref p/\y=.int i/\SqL K H p xs/\atI xs i=aa v/\Q v H
def Zh4(K:ao):R2:=λx y H Q=>∃p xs i v,x=.ref p/\y=.int i/\SqT K H p xs/\atI xs i=aa v/\Q v H
theorem GQ:IxR X (Zig X.K):=by
 intro value slice pq s O H x y v u Q I rx ry h hs;obtain⟨p,xs,i,z,rfl,rfl,hq,he,q⟩:=h;cases rx;obtain⟨t,rfl⟩:=ry;obtain⟨its,r,pl,hz⟩:=I.list hq;obtain⟨j,h1,h2,h3,h4,h5⟩:=vA he;obtain⟨w,ew,rw'⟩:=r.get h2;have hl:=r.length;have hn:=GZ;have fin:EP X pq O Q w s:=#[z,H,I,rw',q];by_cases h0:0<=i
 .have hj:i.toNat=j:=by
   rw[pj h0 h5]at h1;exact ap h1
  exact item_listR pl.isList h0 #[0] (by rw[hj];simpa using ew) fin hs
 .have hj:(i+(its.toArray.size:Int)).toNat=j:=by
   rw[ot #[0] h4]at h1
   rw[aC,<-hl];exact ap h1
  exact l8 pl.isList.typeIs slot_list_getitem.lookup
   (wpAny_getItem_list_neg pl.isList #[0] (by rw[aC]<;>lia) #[0] (by rw[hj];simpa using ew) #[rfl,fin]) hs
theorem Ze2:IxR X (Zh4 X.K):=by
 intro value slice pq s O H x y v u Q I rx ry h hs;obtain⟨p,xs,i,z,rfl,rfl,hq,he,q⟩:=h;cases rx;obtain⟨t,rfl⟩:=ry;obtain⟨its,r,pl,hz⟩:=I.tuple hq;obtain⟨j,h1,h2,h3,h4,h5⟩:=vA he;obtain⟨w,ew,rw'⟩:=r.get h2;have hn:=GZ;have fin:EP X pq O Q w s:=#[z,H,I,rw',q];exact l8 pl.typeIs slot_tuple_getitem.lookup
  (getItem_tuple pl #[0] #[0] (by rw[aC,<-r.length];exact h1) (by simpa using ew) #[rfl,fin]) hs
def xN(its:List az)(n j u):fg (·.setIfInBounds j u) {cls:=.type "list",data:=.seq its.toArray n}={cls:=.type "list",data:=.seq (its.set j u).toArray n}:=by
 simp[fg]
theorem Inv.lst{pq:List (aH×fU)}{O:St}{H:Hp}{s:aF}{p:aH}{xs:List V}(I:Inv X pq O H s)(h:H p=aa (.lst xs)) :
  ∃(its:List az)(n:Nat),Vals xs its/\s.heap.get? p=aa {cls:=.type "list",data:=.seq its.toArray n}/\xs.length<=a9:=by
 obtain⟨z,its,n,r,e⟩:=I.hok p _ h;exact#[its,n,r,e,z]
def Inv.lstUpd{H:Hp}{its its':List az}(I:Inv X pq O H s)(h:H p=aa (.lst xs))
  (ho:s.heap.get? p=aa {cls:=.type "list",data:=.seq its.toArray n})(hf:f {cls:=.type "list",data:=.seq its.toArray n}={cls:=.type "list",data:=.seq its'.toArray n' })(r:Vals ys its')(hz:ys.length<=a9)(t:Nat) :
  Inv X pq O (upd H p<|.lst ys) {s with heap:=s.heap.update p f,toks:=t}:=by
 have e:(s.heap.update p f).get? p=aa {cls:=.type "list",data:=.seq its'.toArray n' }:=by
  rw[dy f ho (by rw[hf]<;>rfl),hf]
 refine I.write (by rw[h];trivial) (.inl rfl) (λb u hb q=>(l9 _ _<|Ne.symm hb).trans q) #[_,e] ?_
 exact#[hz,its',n',r,e]
def ZgZ:V->V->V->Hp->(Hp->Prop)->Prop:=λo i v H Q=>∃p xs k j,o=.ref p/\i=.int k/\H p=aa (.lst xs)/\ixN xs.length k=aa j/\Q (upd H p<|.lst<|xs.set j v)
theorem Zbh:PSet X ZgZ:=by
 intro pq s O H o i v ov iv u Q I ro ri rv h;obtain⟨p,xs,k,j,rfl,rfl,hp,hj,q⟩:=h;cases ro;obtain⟨t,rfl⟩:=ri;obtain⟨its,n,r,ho,hz⟩:=I.lst hp;obtain⟨h1,h2,h3,h4⟩:=v9 hj;have hl:=r.length;have hn:=GZ;have I':=
  I.lstUpd hp ho (xN its n j u) (r.set rv j) (by rw[bC];exact hz) s.toks
 by_cases h0:0<=k
 .have hk:k.toNat=j:=by
   rw[pj h0 h4]at h1;exact ap h1
  exact PySem.W.ki_setAt ho h0 #[0] (by rw[aC,<-hl];exact h4) (by rw[hk];exact#[_,I',q])
 .have hk:(k+(its.toArray.size:Int)).toNat=j:=by
   rw[ot #[0] h3]at h1
   rw[aC,<-hl];exact ap h1
  exact PySem.W.ki_setBack ho #[0] (by rw[aC,<-hl];exact h3) #[0] (by rw[hk];exact#[_,I',q])
theorem G6(lo hi n):(h9 lo hi ai n).1=((HT.sIx n 0 lo:Nat):Int)/\(h9 lo hi ai n).2.1=((HT.sIx n n hi:Nat):Int)/\(h9 lo hi ai n).2.2=1:=by
 refine#[?_,?_,rfl]
 .cases lo with
  |none=>simp[h9,HT.sIx]
  |some i=>
   simp[h9,HT.sIx]
   by_cases h:i<0
   .simp[h]<;>lia
   .simp[h]<;>lia
 .cases hi with
  |none=>simp[h9,HT.sIx]
  |some i=>
   simp[h9,HT.sIx]
   by_cases h:i<0
   .simp[h]<;>lia
   .simp[h]<;>lia
def Q5(its:List az)(lo hi):slicePick its.toArray lo hi ai=((its.drop<|HT.sIx its.length 0 lo).take<|HT.sIx its.length its.length hi-HT.sIx its.length 0 lo).toArray:=by
 obtain⟨h1,h2,h3⟩:=G6 lo hi its.toArray.size;unfold slicePick;rw[h1,h2,h3];simp only[sliceRange_one,pick_run]<;>rfl
def Zh1(K:ao):V->Option Int->Option Int->Hp->VK->Prop:=λx lo hi H Q=>∃a xs,x=.ref a/\SqL K H a xs/\∀p,H p=ai->Q (.ref p) (upd H p<|.lst<|Z6 xs lo hi)
theorem ZdV:SlR X (Zh1 X.K):=by
 intro pq s O H x v vl vu lo hi sl Q I rx hs pl pu h;obtain⟨a,xs,rfl,hx,q⟩:=h;cases rx;obtain⟨its,r,ht,hz⟩:=I.list hx;have hlen:=r.length;refine#["list",_,slot_list_getitem.lookup,ht.isList.typeIs,?_];refine wpAny_getItem_list_slice ht.isList hs pl pu .none #[2] ?_ (by rw[aC]<;>lia)
 rw[Q5,<-hlen];refine#[.ref s.heap.objs.size,_,I.laid (t':=s.toks) (λb ob q=>aq _ q) (aI _) ?_,rfl,q _<|I.hok.fresh<|aI _]
 exact#[bU (Ul xs lo hi) hz,_,0,(r.drop<|HT.sIx xs.length 0 lo).take<|HT.sIx xs.length xs.length hi-HT.sIx xs.length 0 lo,aE _ rfl]
noncomputable def vn:V->Bool
 |.non=>ak
 |.bl _=>ak
 |.int _=>ak
 |.str _=>ak
 |_=>aj
noncomputable def eqV:V->V->Bool
 |.non,.non=>ak
 |.bl a,.bl b=>a == b
 |.bl a,.int b=>(if a then 1 else 0) == b
 |.int a,.bl b=>a == (if b then 1 else 0)
 |.int a,.int b=>a == b
 |.str a,.str b=>a == b
 |_,_=>aj
def Zff(ry:ZA y u)(rx:ZA x v)(fy:vn y=ak)(fx:vn x=ak):kC A s u v (eqV y x):=by
 cases y with
 |non=>
  cases ry;cases x with|non=>cases rx;exact mq _|bl b=>cases rx;exact kC.none_bool b|int b=>obtain⟨t,rfl⟩:=rx;exact kC.none_int b t|str b=>obtain⟨t,rfl⟩:=rx;exact kC.none_str b t|_=>exact T7 (fx) aP
 |bl a=>
  cases ry;cases x with|non=>cases rx;exact kC.bool_none a|bl b=>cases rx;exact kC.bool_bool a b|int b=>obtain⟨t,rfl⟩:=rx;exact kC.bool_int a b t|str b=>obtain⟨t,rfl⟩:=rx;exact kC.bool_str a b t|_=>exact T7 (fx) aP
 |int a=>
  obtain⟨t',rfl⟩:=ry;cases x with|non=>cases rx;exact kC.int_none a t'|bl b=>cases rx;exact kC.int_bool a t' b|int b=>obtain⟨t,rfl⟩:=rx;exact kC.int_int a t' b t|str b=>obtain⟨t,rfl⟩:=rx;exact nB a t' b t|_=>exact T7 (fx) aP
 |str a=>
  obtain⟨t',rfl⟩:=ry;cases x with|non=>cases rx;exact kC.str_none a t'|bl b=>cases rx;exact kC.str_bool a t' b|int b=>obtain⟨t,rfl⟩:=rx;exact nC a t' b t|str b=>obtain⟨t,rfl⟩:=rx;exact kC.str_str a t' b t|_=>exact T7 (fx) aP
 |_=>exact T7 (fy) aP
theorem zd:ZH X (.builtin "len") (λxs H Q=>∃p ys,xs=[.ref p]/\(SqL X.K H p ys\/SqT X.K H p ys)/\Q (.int ys.length) H):=by
 intro pq s O H xs us Q I r h;obtain⟨p,ys,rfl,hq,q⟩:=h;obtain⟨u,rfl,rx⟩:=XZ r;cases rx;have hn:=GZ;rcases hq with hq|hq
 .obtain⟨its,r',pl,hz⟩:=I.list hq
  have hlen:=r'.length;exact Calls.call_len_list pl.isList (by simp only[aC]<;>lia) #[.int ys.length,H,I.tok _,#[s.toks+1,by rw[aC,hlen]],q]
 .obtain⟨its,r',pl,hz⟩:=I.tuple hq
  have hlen:=r'.length;exact len_tuple pl (by simp only[aC]<;>lia) #[.int ys.length,H,I.tok _,#[s.toks+1,by rw[aC,hlen]],q]
theorem G5:ZH X (.type "list") (λxs H Q=>∃p ys,xs=[.ref p]/\(SqL X.K H p ys\/SqT X.K H p ys)/\∀l,H l=ai->Q (.ref l) (upd H l<|.lst ys)):=by
 intro pq s O H xs us Q I r h;obtain⟨p,ys,rfl,hq,q⟩:=h;obtain⟨u,rfl,rx⟩:=XZ r;cases rx;have fin:∀its,Vals ys its->ys.length<=a9->∀h' c',(∀b o',s.heap.get? b=aa o'->h'.get? b=aa o')->
   h'.get? s.heap.objs.size=aa {cls:=.type "list",dict:=ai,data:=.seq its.toArray c',slots:=#[]}->EP X pq O Q (.ref s.heap.objs.size) {s with heap:=h' }:=λits r' hz h' c' kp e=>
  #[.ref s.heap.objs.size,_,I.laid kp (aI _) (show Z7 X.prog X.w _ h' _ (.lst ys)from#[hz,its,c',r',e]),rfl,q _<|I.hok.fresh<|aI _]
 rcases hq with hq|hq
 .obtain⟨its,r',pl,hz⟩:=I.list hq
  have hlen:=r'.length;obtain⟨o,ho,hc,n,hd⟩:=pl.isList;exact call_list_seq p (.inl rfl) ho hc hd (λh' c' kp e=>fin its r' hz h' c' kp e) (by simp<;>lia)
 .obtain⟨its,r',pl,hz⟩:=I.tuple hq
  have hlen:=r'.length;obtain⟨o,ho,hc,n,hd⟩:=pl;exact call_list_seq p (.inr rfl) ho hc hd (λh' c' kp e=>fin its r' hz h' c' kp e) (by simp<;>lia)
theorem Q0:ZH X (.type "tuple") (λxs H Q=>∃p ys,xs=[.ref p]/\((SqL X.K H p ys/\∀l,H l=ai->Q (.ref l) (upd H l<|.tup ys))\/(SqT X.K H p ys/\Q (.ref p) H))):=by
 intro pq s O H xs us Q I r h;obtain⟨p,ys,rfl,h⟩:=h;obtain⟨u,rfl,rx⟩:=XZ r;cases rx;rcases h with⟨hq,q⟩|⟨hq,q⟩
 .obtain⟨its,r',pl,hz⟩:=I.list hq
  have hlen:=r'.length;refine call_tuple_list pl.isList (λh' kp=>?_) (by simp<;>lia)
  have I1:=I.kept (t':=s.toks) kp
  have I2:=
   I1.laid (t':=s.toks) (λb o e=>aq _ e) (aI _) (show Z7 X.prog X.w _ _ _ (.tup ys)from#[hz,its,r',kn _ _])
  exact#[.ref h'.objs.size,_,I2,rfl,q _<|I1.hok.fresh<|aI _]
 .obtain⟨its,r',pl,hz⟩:=I.tuple hq
  exact call_tuple_same pl #[.ref p,H,I,rfl,q]
def tyV(K:ao)(T:String)(x:V)(H:Hp):Prop:=match x with
 |.str _=>T = "str"
 |.int _=>T = "int"
 |.ref p=>(T = "list"/\∃xs,SqL K H p xs)\/(T = "tuple"/\∃o,K.lookup p=aa o/\o.cls=.type "tuple"/\o.dict=ai)\/
   (T = "dict"/\((∃kvs,H p=aa (.dK kvs))\/∃kvs,H p=aa (.dT kvs)))
 |_=>False
def Zf9(I:Inv X pq O H s)(r:ZA x v)(ty:tyV X.K T x H) :
  s.TypeIs v T/\∀a,v=.ref a->∃ob,s.heap.get? a=aa ob/\ob.dict=ai:=by
 cases x with
 |str z=>
  obtain⟨t,rfl⟩:=r;cases(ty)
  exact#[typeIs_str s z t,λ_ e=>nomatch e]
 |int i=>
  obtain⟨t,rfl⟩:=r;cases(ty)
  exact#[md s i t,λ_ e=>nomatch e]
 |ref p=>
  cases r;rcases ty with⟨rfl,xs,hq⟩|⟨rfl,o,hk,hc,hd⟩|⟨rfl,hk⟩
  .obtain⟨its,_,pl,_⟩:=I.list hq
   refine#[pl.isList.typeIs,λa e=>?_]
   cases e;obtain⟨o,n,e,c,hd,_⟩:=pl;exact#[o,e,hd]
  .refine#[#[o,I.kIn p o hk,hc],λa e=>?_]
   cases e;exact#[o,I.kIn _ o hk,hd]
  .have z:∃o,s.heap.get? p=aa o/\o.ExactDict:=by
    rcases hk with⟨kvs,hk⟩|⟨kvs,hk⟩
    .obtain⟨_,_,_,_,o,_,_,e,ex,_⟩:=I.hok p _ hk
     exact#[o,e,ex]
    .obtain⟨_,_,_,_,o,_,_,e,ex,_⟩:=I.hok p _ hk
     exact#[o,e,ex]
   obtain⟨o,e,ex⟩:=z;refine#[#[o,e,ex.1],λa e2=>?_]
   cases e2;exact#[o,e,ex.2.1]
 |_=>exact False.elim ty
def tBM(K:ao)(T:String)(r:V->List V->Hp->VK->Prop)(to:TE)(t:TA):TE:=λO H Q=>to O H λx H1=>tyV K T x H1/\t O H1 λxs H2=>r x xs H2 Q
variable{o e:Expr}{es:List Expr}{to:TE}{t:TA}{name:bN}{apos cpos:iE}{T id:String}{r:V->List V->Hp->VK->Prop}
def vo(pa:PlainAttrs T)(slot:Slot T name id)(hty:typeOf (.builtin id)=cJ (.type "method_descriptor"))(hm:MtR X id r)(ho:PE X o to)(ha:PA X (e::es) t)
  (hbase:nv o name X.env (cz o X.env)=cz o X.env:=by rfl)
  (hfew:((dL cpos<|ay (e::es) X.env).all (λx=>!x.1)&&(backToKw cpos<|pz [] X.env).all (λx=>x.1.isSome)
   && ag ((e::es).length+([]:List ou).length+(if([]:List ou).isEmpty then 0 else 1)<30))=ak:=by rfl)
  (hline:(apos.endLine == cpos.line)=ak:=by rfl)(hs:ay (e::es) X.env=(aj,cz e X.env)::ay es X.env:=by rfl)(hplain:(dL cpos<|ay es X.env).any (·.1)=aj:=by rfl) :
  PE X (.Call (.Attribute o name apos) (e::es) [] cpos) (tBM X.K T r to t):=by
 intro pq s O H Q I h;refine wpAny_Call_method_late hbase hfew hline rfl<|thn (ho pq s O H _ I h) λv s1 #[x,H1,I1,r1,ty,q1]=>?_
 obtain⟨h1,h2⟩:=Zf9 I1 r1 ty;refine#[T,id,pa,slot,hty,h1,h2,?_];have hA:=ha cpos pq s1 O H1 _ I1 q1;rw[hs]at hA ⊢;refine Calls.callWith_builtin (by show(aj||(dL cpos<|ay es X.env).any (·.1))=aj;rw[hplain]<;>rfl)<|Calls.evalArgs_plain ?_
 exact thn hA<|by rintro us s2 ⟨vs,H2,I2,r2,q2⟩;exact hm pq s2 O H2 x vs v us Q I2 r1 r2 q2
end
def MtM(X:Cx)(id:String)(r:V->List V->Hp->VK->Prop):Prop:=
 ∀(pq:List (aH×fU))(s:aF)(O:St)(H:Hp)(x:V)(xs:List V)(v:az)(us:List az)(Q:VK),Inv X pq O H s->ZA x v->Vals xs us->r x xs H Q->
  aW (aR X.prog X.w) X.A (call (.builtin id) (v::us)) (EP X pq O Q) X.xe s
def Vals.one:∀{x:V}{us:List az},Vals [x] us->∃u,us=[u]/\ZA x u
 |_,_,.cons r .nil=>#[_,rfl,r]
theorem Vals.reverse(h:Vals xs us):Vals xs.reverse us.reverse:=by
 induction h with|nil=>exact .nil|cons r t ih=>rw[eU,eU];exact Vals.append ih<|.cons r .nil
theorem Vals.rep(h:Vals xs us):∀k,Vals (au k xs).flatten (au k us).flatten
 |0=>.nil
 |k+1=>by
  rw[cr];exact Vals.append h<|Vals.rep h k
theorem VR(its:List az):∀k acc,
  List.foldl (λx1 x2=>x1++x2) acc.toArray (au k its.toArray)=(acc++(au k its).flatten).toArray
 |0,acc=>by simp
 |k+1,acc=>by
  have e:acc.toArray++its.toArray=(acc++its).toArray:=by simp
  have e2:(acc++its)++(au k its).flatten=acc++(au (k+1) its).flatten:=by
   rw[cr,eV,bE]
  rw[<-e2,<-VR its k (acc++its),<-e,cr,dk]
section
variable{X:Cx}{pq:List (aH×fU)}{O:St}{H:Hp}{s:aF}{l b:aH}{xs ys zs:List V}
def Inv.lset{its its':List az}(I:Inv X pq O H s)(hH:H l=aa (.lst xs))
  (e:s.heap.get? l=aa {cls:=.type "list",data:=.seq its.toArray n})(hf:f its.toArray=its'.toArray)(hv:Vals ys its')(hz:ys.length<=a9) :
  Inv X pq O (upd H l<|.lst ys) {s with heap:=s.heap.update l<|fg f,toks:=t' }:=by
 have q:=PySem.IsL.update e f;rw[hf]at q;refine I.write (by rw[hH];exact trivial) (.inl rfl) (λb' u hb hu=>(l9 s.heap (fg f)<|Ne.symm hb).trans hu) #[_,q] ?_
 exact#[hz,its',_,hv,q]
def Inv.lnew(I:Inv X pq O H s)(hv:Vals ys its)(hz:ys.length<=a9) :
  Inv X pq O (upd H s.heap.objs.size<|.lst ys) {s with heap:=s.heap.push {cls:=.type "list",data:=.seq its.toArray},toks:=t' }:=
 I.laid (λ_ _ q=>aq _ q) (aI _) #[hz,its,0,hv,aE _ rfl]
theorem Inv.fresh(I:Inv X pq O H s):H s.heap.objs.size=ai:=I.hok.fresh<|aI _
def Inv.lstM(I:Inv X pq O H s)(hH:H l=aa (.lst xs)):xs.length<=a9/\∃(its:List az)(n:Nat),Vals xs its/\xs.length=its.length/\s.heap.get? l=aa {cls:=.type "list",data:=.seq its.toArray n}:=by
 obtain⟨z,its,n,r,e⟩:=I.hok l _ hH;exact#[z,its,n,r,r.length,e]
end
section
variable{X:Cx}
def wJ:V->List V->Hp->VK->Prop:=λx vs H Q=>∃l xs y,x=.ref l/\vs=[y]/\H l=aa (.lst xs)/\xs.length<a9/\Q .non (upd H l<|.lst<|xs++[y])
theorem Wz:MtM X "list.append" wJ:=by
 intro pq s O H x vs v us Q I rx rv h;obtain⟨l,xs,y,rfl,rfl,hH,hz,q⟩:=h;cases rx;obtain⟨u,rfl,ru⟩:=rv.one;obtain⟨z,its,n,r,hl,e⟩:=I.lstM hH;refine g8 F.slot_list_append #[_,e,rfl] F.entry_list_append (F.args_list_append_2 _ _) (PySem.list_append l its.toArray n u<|by rw[aC];lia) #[e,?_]
 refine#[.non,_,I.lset (its':=its++[u]) hH e #[2] (r.append<|.cons ru .nil) ?_,rfl,q]
 rw[aQ,fV];lia
def ZdC:R2:=λx y H Q=>∃l b xs zs,x=.ref l/\y=.ref b/\H l=aa (.lst xs)/\H b=aa (.lst zs)/\xs.length+zs.length<=a9/\∀p,H p=ai->Q (.ref p) (upd H p<|.lst<|xs++zs)
theorem Gm:OpR X (eT .Add) ZdC:=by
 intro pq s O H x y v u Q I rx ry h;obtain⟨l,b,xs,zs,rfl,rfl,hH,hB,hz,q⟩:=h;cases rx;cases ry;obtain⟨z,its,n,r,hl,e⟩:=I.lstM hH;obtain⟨z2,its2,n2,r2,hl2,e2⟩:=I.lstM hB;refine PySem.P.add_list e e2 ?_ (by rw[aC,aC];lia)
 have ea:its.toArray++its2.toArray=(its++its2).toArray:=by simp
 rw[ea];exact#[.ref _,_,I.lnew (t':=s.toks) (r.append r2) (by rw[aQ];lia),rfl,q _ I.fresh]
def GD{B:Type}(xs:List B)(k):(au k xs).flatten.length=k*xs.length:=by
 induction k with|zero=>simp|succ k ih=>rw[cr,eV,aQ,ih,Nat.succ_mul,kj]
end
end L2
namespace Att
open PySem PySem.W PySem.Calls PyProof.Rows
def UA :∀ns vs,WellAll P h vs (ns.map WData.int)->iP vs ns:=by
 intro ns
 induction ns with
 |nil=>
  intro vs w;rw[List.map_nil]at w;cases w;exact .nil
 |cons n ns ih=>
  intro vs w;rw[aY]at w;cases w with
  |cons a b=>
   cases a;exact .cons _ _<|ih _ b
def qz{l:OpenLaw}(hn:l.most=aa n) 
  (hpre:l.row.toRowW.claim.pre args=ak)(hwl:WellAll P h vals args) :
  ∃a vs ns,vals=[cT a]/\args=[WData.list<|ns.map WData.int]/\h.get? a=aa {cls:=.type "list",data:=.seq vs.toArray}/\iP vs ns/\ns.length<=n:=by
 obtain⟨d,r,rfl,h1,h2⟩:=hasAllW_cons<|(pre_splitW hpre).1;obtain rfl:=hasAllW_nil h2;obtain⟨xs,rfl,h3⟩:=hasW_list h1;obtain⟨ns,rfl⟩:=items_int h3;have hlen:ns.length<=n:=by
  have h4:(WTm.not<|.lt (.lit<|.int (n:Int))<|.len<|.arg 0).holds [] {args:=[.list<|ns.map .int]}=ak:=by
   have h4:=(holds_andW<|(pre_splitW hpre).2).1;rwa[hn]at h4
  have h5:=condW_of h4<|w_not<|w_lt w_lit<|w_len_list<|w_arg rfl;rw[ax]at h5;refine d3 λq=>?_
  first
   |(rw[T5 q']at h5;exact T7 h5 #[1])
   |(simp at h5;lia)
 cases hwl with
 |cons w1 w2=>
  cases w2;cases w1 with|list ho hall=>exact#[_,_,ns,rfl,rfl,ho,UA ns _ hall,hlen]
def qC(l:OpenLaw)(args):l.row.toRowW.claim.post args (.bool ak) args=ak:=
 postW_of
  (by first|rfl|decide|simp)
  (w_eq_bool (w_res rfl) w_lit) rfl
def zN{l:OpenLaw}{n:Nat}
  (hn:l.most=aa n)(hdf:d.params.defaults=[])
  (call:∀w s₀ s₁ mg mb fa o pm cd doc a vs ns,
   Ground q loose [] XP w s₀ mg mb s₁.heap->YP w s₁.heap->
   s₁.heap.get? fa=aa o->o.data=.func (docDef d.name d.params d.body d.scope pm cd doc)->s₁.heap.CodeRec cd d.name->mg d.name=aa (.ref fa)->
   s₁.heap.get? a=aa {cls:=.type "list",data:=.seq vs.toArray}->iP vs ns->ns.length<=n->s₁.gens = #[]->
   gz (aR l.prog w) m5 (.call (.ref fa) #[[.ref a],[]]) (λr s'=>r=.ok (.ret<|.bool ak)/\OldK s₁.heap s'.heap/\s'.os=s₁.os/\iN s'.gens) s₁) :
  WalkO q loose XP YP l.row.toRowW d [] (λf vs=>pU f vs):=by
 intro w s₀ s₁ mg mb G Y fa o pm cd doc dV kV ho hd hcd hD hmg hg args vals as hpre hlay hrd hwl hlo;obtain rfl:dV=.none:=Dflts.none hD hdf;obtain rfl:kV=.none:=Dflts.noKw hD;obtain⟨a,vs,ns,rfl,rfl,hobj,hints,hlen⟩:=qz hn hpre hwl;refine enter_call<|fG (call w s₀ s₁ mg mb fa o pm cd doc a vs ns G Y ho (fd_plain hd) hcd hmg hobj hints hlen hg) λr s' hq=>?_
 obtain⟨rfl,h2,h3,h4⟩:=hq;exact#[.inl #[.bool ak,.bool ak,[],rfl,λ_=>rfl,.bool ak,qC l _,λ_=>#[k8,λ_ hm=>(nomatch hm)]],h2,h3,h4]
end Att
namespace L2
open PySem PySem.Spec PyProof.Rows
theorem Jo:∀{vs:List az}{ns:List Int},iP vs ns->Vals (ns.map V.int) vs
 |_,_,.nil=>.nil
 |_,_,.cons n t h=>.cons #[t,rfl]<|Jo h
noncomputable def Xf(s:fq):Arguments:=match s with
 |.FunctionDef _ a _ _ _ _ _ _ _ _=>a
 |_=>{posonlyargs:=[],args:=[],vararg:=ai,kwonlyargs:=[],kw_defaults:=[],kwarg:=ai,defaults:=[]}
noncomputable def ZF(s:fq):List fq:=match s with
 |.FunctionDef _ _ b _ _ _ _ _ _ _=>b
 |_=>[]
noncomputable def Zg(s:fq):gE:=match s with
 |.FunctionDef _ _ _ _ _ _ sc _ _ _=>sc
 |_=>{kind:=.function,names:=[],isGenerator:=aj,isCoroutine:=aj}
noncomputable abbrev E0:XK:=λ_ _ _=>False
structure Fun(K:ao)(x qual:bN)(st:fq)(f:aH)(fd:dz):Prop where
 ex:∃(oc:az)(od:Option aH)(kV doc pm:az)(an:Option aH)(cdv ct:az)(osl:Array (Option az)),
  fd=eA x qual (Xf st) (ZF st) (Zg st) .none kV doc pm an cdv ct/\K.lookup f=aa #[oc,od,.func fd,osl]/\ku K cdv qual=ak
 kp:gj K (.ref f)=ak
section
variable{P:bO}{w:bV}{K:ao}{mg:bN->Option az}{base:cM}
def Fun.binds{st:fq}(F:Fun K x qual st f fd)
  (h:∀kV doc pm an cdv ct us,us.length=ps.length->mJ (eA x qual (Xf st) (ZF st) (Zg st) .none kV doc pm an cdv ct) #[us,[]]=cJ (ps.zip us)):Ut K fd ps []:=by
 obtain⟨oc,od,kV,doc,pm,an,cdv,ct,osl,rfl,lk,hcd⟩:=F.ex;exact .all<|h kV doc pm an cdv ct
def Ze9{st:fq}{kV doc pm cdv ct:az}(l:K.lookup f=aa #[oc,od,.func<|eA x qual (Xf st) (ZF st) (Zg st) .none kV doc pm an cdv ct,osl])
  (c:ku K cdv qual=ak)(k:gj K (.ref f)=ak):Fun K x qual st f (eA x qual (Xf st) (ZF st) (Zg st) .none kV doc pm an cdv ct):=#[#[oc,od,kV,doc,pm,an,cdv,ct,osl,rfl,l,c],k]
end
section
variable{κ:Type}[DecidableEq κ]
def UB(kvs:List (κ×V))(k:κ):Option V:=(kvs.find? λkv=>ag<|kv.1=k).map (·.2)
noncomputable def W3(kvs:List (κ×V))(k:κ)(v:V):List (κ×V):=
 if(kvs.any λkv=>ag<|kv.1=k)=ak then kvs.map (λkv=>if kv.1=k then(kv.1,v)else kv)else kvs++[(k,v)]
def Qj{k:κ}(e:p.1=k):UB (p::r) k=aa p.2:=by simp[UB,e]
def U5{k:κ}(e:¬p.1=k):UB (p::r) k=UB r k:=by simp[UB,e]
theorem Wl(k:κ):∀kvs,(kvs.any λkv=>ag<|kv.1=k)=(UB kvs k).isSome
 |[]=>rfl
 |p::r=>by
  rw[fj];by_cases e:p.1=k
  .simp[Qj e,T5 e]
  .rw[U5 e,T4 e];exact Wl k r
theorem Ui(kvs)(k:κ)(v):(W3 kvs k v).length<=kvs.length+1:=by
 unfold W3;split
 .rw[ax];lia
 .rw[aQ,aV,List.length_nil];lia
def Zbx{k:κ}(v)(h:UB kvs k=ai):W3 kvs k v=kvs++[(k,v)]:=by
 unfold W3;rw[Wl,h];exact T8 #[1]
def ZdH.isSome_eq(r:ZdH o u):o.isSome=u.isSome:=by
 cases o with
 |none=>cases u with|none=>rfl|some _=>exact(r).elim
 |some _=>cases u with|none=>exact(r).elim|some _=>rfl
def KV.val(r:KV kvs vs)(k:κ):ZdH (UB kvs k) (ow vs k):=by
 induction r with
 |nil=>exact dN
 |@cons p q ps qs h t ih=>
  obtain⟨h1,h2⟩:=h;by_cases e:p.1=k
  .have e':=h1.symm.trans e
   have b:ow (q::qs) k=aa q.2:=by simp[ow,e']
   rw[Qj e,b];exact h2
  .have e':¬q.1=k:=λz=>e (h1.trans z)
   have b:ow (q::qs) k=ow qs k:=by simp[ow,e']
   rw[U5 e,b];exact ih
theorem KV.any(r:KV kvs vs)(k:κ):(kvs.any λkv=>ag<|kv.1=k)=vs.any λkv=>ag (kv.1=k):=by
 induction r with|nil=>rfl|cons h t ih=>rw[fj,fj,ih,h.1]
def KV.repl(r:KV kvs vs)(k:κ)(ry:ZA y u) :
  KV (kvs.map λkv=>if kv.1=k then(kv.1,y)else kv) (vs.map λkv=>if kv.1=k then(kv.1,u)else kv):=by
 induction r with
 |nil=>exact .nil
 |@cons p q ps qs h t ih=>
  rw[aY,aY];refine .cons ?_ ih;obtain⟨h1,h2⟩:=h;by_cases e:p.1=k
  .rw[T9 e,T9<|h1.symm.trans e];exact#[h1,ry]
  .rw[T8 e,T8 λz=>e<|h1.trans z];exact#[h1,h2]
def KV.put(r:KV kvs vs)(k:κ)(ry:ZA y u):KV (W3 kvs k y) (stored vs k u):=by
 unfold W3 stored;rw[r.any k];by_cases e:(vs.any λkv=>ag<|kv.1=k)=ak
 .rw[T9 e,T9 e];exact r.repl k ry
 .rw[T8 e,T8 e];exact Paired.snoc r #[rfl,ry]
theorem KV.length(r:KV kvs vs):kvs.length=vs.length:=Paired.length r
end
def uc(r:ZA (kV k) u):(ZR P w).is k u=ak:=by
 cases k with|inl i=>obtain⟨t,e⟩:=(r);subst e;exact yD P w i t|inr x=>obtain⟨t,e⟩:=(r);subst e;exact zT P w x t
theorem JW :∀{ks:List Key}{us:List az},Vals (ks.map kV) us->ItemsAre (ZR P w) ks us
 |[],_,r=>by rw[List.map_nil]at r;cases r;exact .nil
 |k::ks,_,r=>by
  rw[aY]at r;cases r with|cons h t=>exact .cons (uc h)<|JW t
abbrev KT(H:Hp):List (List Key×V)->List (List Key×aH×az)->Prop:=Paired λp q=>p.1=q.1/\H q.2.1=aa (.tup<|p.1.map kV)/\ZA p.2 q.2.2
def KT.val(r:KT H kvs xs)(k):ZdH (UB kvs k) ((ox xs k).map (·.2)):=by
 induction r with
 |nil=>exact dN
 |@cons p q ps qs h t ih=>
  obtain⟨h1,_,h2⟩:=h;by_cases e:p.1=k
  .have e':=h1.symm.trans e
   have b:ox (q::qs) k=aa q.2:=by simp[ox,e']
   rw[Qj e,b];exact h2
  .have e':¬q.1=k:=λz=>e (h1.trans z)
   have b:ox (q::qs) k=ox qs k:=by simp[ox,e']
   rw[U5 e,b];exact ih
def KT.repl(r:KT H kvs xs)(k)(ry:ZA y u) :
  KT H (kvs.map λkv=>if kv.1=k then(kv.1,y)else kv) (xs.map<|putAt k u):=by
 induction r with
 |nil=>exact .nil
 |@cons p q ps qs h t ih=>
  rw[aY];refine .cons ?_ ih;obtain⟨h1,h2,h3⟩:=h;unfold putAt;by_cases e:p.1=k
  .rw[T9 e,T9<|h1.symm.trans e];exact#[h1,h2,ry]
  .rw[T8 e,T8 λz=>e<|h1.trans z];exact#[h1,h2,h3]
def KT.put(r:KT H kvs xs)(k)(hb:H b=aa (.tup<|k.map kV))(ry:ZA y u) :
  KT H (W3 kvs k y) (storedH xs k b u):=by
 have e:(kvs.any λkv=>ag<|kv.1=k)=(ox xs k).isSome:=by
  rw[Wl,(r.val k).isSome_eq,k9]
 unfold W3 storedH;rw[e];by_cases q:(ox xs k).isSome=ak
 .rw[T9 q,T9 q];exact r.repl k ry
 .rw[T8 q,T8 q];exact Paired.snoc r #[rfl,hb,ry]
def KT.keeps(r:KT H kvs xs)(ht:∀b ys,H b=aa (.tup ys)->H' b=aa (.tup ys)):KT H' kvs xs:=
 Paired.mapP r λ_ _ z=>#[z.1,ht _ _ z.2.1,z.2.2]
def Zed(ok:HOk P w H h)(e:Rd H a u):Z7 P w H h a u:=e.ok ok
def ZbB(ok:HOk P w H h)(e:Rd H a (.dK kvs)):kvs.length<=a9/\(a == c8)=aj/\∃vs,KV kvs vs/\h.DictOf (ZR P w) a vs:=
 Zed ok e
def Zg0(ok:HOk P w H h)(e:H a=aa (.dK kvs)):kvs.length<=a9/\(a == c8)=aj/\∃vs,KV kvs vs/\h.DictOf (ZR P w) a vs:=ZbB ok<|.inl e
def V7(ok:HOk P w H h)(e:H a=aa (.tup<|ks.map kV)):(dW<|ZR P w).is h ks a:=by
 obtain⟨_,its,r,o,h1,h2,n,h3⟩:=(ok a _ e)
 exact#[o,its.toArray,n,h1,h2,h3,by simpa using JW r]
def Zao(ok:HOk P w H h)(e:Rd H a (.dT kvs)):kvs.length<=a9/\(a == c8)=aj/\
  ∃xs,KT H kvs xs/\h.DictOfH (dW<|ZR P w) a xs:=by
 obtain⟨z,y,xs,r,o,es,ep,h1,h2,h3,h4,h5⟩:=(Zed ok e)
 refine#[z,y,xs,r,o,es,ep,h1,h2,h3,h4,λx hx=>?_,h5]
 have all:∀{l:List (List Key×V)}{m:List (List Key×aH×az)},KT H l m->∀x∈m,(dW<|ZR P w).is h x.1 x.2.1:=by
  intro l m q
  induction q with
  |nil=>intro x hx;exact nomatch hx
  |@cons p q ps qs hq t ih=>
   intro x hx;rcases aw.mp hx with e|hx
   .subst e
    exact V7 ok (by rw[<-hq.1];exact hq.2.1)
   .exact ih x hx
 exact all r x hx
def Zeq(ok:HOk P w H h)(e:H a=aa (.dT kvs)):kvs.length<=a9/\(a == c8)=aj/\
  ∃xs,KT H kvs xs/\h.DictOfH (dW<|ZR P w) a xs:=Zao ok<|.inl e
def DGet(H:Hp)(a:aH)(y:V)(r:Option V):Prop:=
 (∃kvs k,Rd H a (.dK kvs)/\y=kV k/\r=UB kvs k)\/∃kvs k b,Rd H a (.dT kvs)/\y=.ref b/\H b=aa (.tup<|k.map kV)/\r=UB kvs k
def DPut(H:Hp)(a:aH)(y v:V)(H':Hp):Prop:=
 (∃kvs k,H a=aa (.dK kvs)/\y=kV k/\kvs.length<a9/\H'=upd H a (.dK<|W3 kvs k v))\/
 ∃kvs k b,H a=aa (.dT kvs)/\y=.ref b/\H b=aa (.tup<|k.map kV)/\kvs.length<a9/\H'=upd H a (.dT<|W3 kvs k v)
def DPut.t(e:H a=aa (.dT kvs))(eb:H b=aa (.tup<|k.map kV))(hl:kvs.length<a9) :
  DPut H a (.ref b) v (upd H a<|.dT<|W3 kvs k v):=.inr #[kvs,k,b,e,rfl,eb,hl,rfl]
def Inv.big(I:Inv X pq O H s):c8<s.heap.objs.size:=by
 exact dm #[1]<|(I.mod.glob.keeps I.bk).lt
def Zic{Q:az->aF->Prop}(hu:A.units+1<dO)(I:Inv X pq O H s)(g:DGet H a y o)(ry:ZA y u)(h:∀s',Inv X pq O H s'->Q (.bool o.isSome) s') :
  aW (aR X.prog X.w) A (cU .In u<|.ref a) Q E s:=by
 rcases g with⟨kvs,k,e,ey,l⟩|⟨kvs,k,b,e,ey,eb,l⟩
 .subst ey
  obtain⟨z,hd,vs,rel,dd⟩:=ZbB I.hok e;refine wpAny_in_of (uc ry) hd dd.mapOf ?_;rw[<-(rel.val k).isSome_eq,<-l];exact h _<|I.tok _
 .subst ey
  cases(ry)
  obtain⟨z,hd,xs,rel,dd⟩:=Zao I.hok e;refine wpAny_in_heap (g9 hu) (V7 I.hok eb) hd dd ?_;have q:=(rel.val k).isSome_eq;rw[k9]at q;rw[<-q,<-l];exact h _<|I.tok _
def Zc3{Q:az->aF->Prop}(hu:A.units+1<dO)(I:Inv X pq O H s)(g:DGet H a y o)(ry:ZA y u)(h:∀s',Inv X pq O H s'->Q (.bool<|!o.isSome) s') :
  aW (aR X.prog X.w) A (cU .NotIn u<|.ref a) Q E s:=by
 rcases g with⟨kvs,k,e,ey,l⟩|⟨kvs,k,b,e,ey,eb,l⟩
 .subst ey
  obtain⟨z,hd,vs,rel,dd⟩:=ZbB I.hok e;refine wpAny_notIn_of (uc ry) hd dd.mapOf ?_;rw[<-(rel.val k).isSome_eq,<-l];exact h _<|I.tok _
 .subst ey
  cases(ry)
  obtain⟨z,hd,xs,rel,dd⟩:=Zao I.hok e;refine wpAny_notIn_heap (g9 hu) (V7 I.hok eb) hd dd ?_;have q:=(rel.val k).isSome_eq;rw[k9]at q;rw[<-q,<-l];exact h _<|I.tok _
def Gz(I:Inv X pq O H s)(mu:Mut (H a))(hs:ej a s.heap h')(he:∃q,h'.get? a=aa q)(new:Z7 X.prog X.w (upd H a ob) h' a ob) :
  Inv X pq O (upd H a ob) {s with heap:=h',toks:=t' }:=
 I.write mu (.inl rfl) (λb q hb z=>(hs.2 b hb).trans z) he new
def ZgA(z:kvs.length<=a9)(hd:(a == c8)=aj)(rel:KV kvs vs)(dd:h'.DictOf (ZR P w) a vs) :
  Z7 P w H' h' a (.dK kvs):=#[z,hd,vs,rel,dd]
def qe{H':Hp}{Q:Unit->aF->Prop}(hu:A.units+1<dO)(I:Inv X pq O H s)(g:DPut H a y v H')(ry:ZA y u)(rv:ZA v r)(h:∀s',Inv X pq O H' s'->Q () s') :
  aW (aR X.prog X.w) A (rX (.ref a) u r) Q E s:=by
 rcases g with⟨kvs,k,e,ey,l,eH⟩|⟨kvs,k,b,e,ey,eb,l,eH⟩
 .subst ey eH
  obtain⟨z,hd,vs,rel,dd⟩:=Zg0 I.hok e;have hz:vs.length<=a9:=by rw[<-rel.length];exact z
  have hl:(W3 kvs k v).length<=a9:=by have:=Ui kvs k v;lia
  refine wpAny_setItem_pairs (hsz:=hz) (uc ry) dd λh' dd' hs=>h _ ?_
  have he:∃q,h'.get? a=aa q:=let #[q,_,_,hq,_]:=dd';#[q,hq];exact Gz I (by rw[e];exact dN) hs he<|ZgA hl hd (rel.put k rv) dd'
 .subst ey eH
  cases(show u=cT b from ry)
  obtain⟨z,hd,xs,rel,dd⟩:=Zeq I.hok e;have hz:xs.length<=a9:=by rw[<-Paired.length rel];exact z
  have hl:(W3 kvs k v).length<=a9:=by have:=Ui kvs k v;lia
  refine wpAny_setItem_heap (g9 hu) (V7 I.hok eb) dd λh' dd' hs=>h _ ?_
  obtain⟨q,es,ep,hq,h2,h3,h4,_,h5⟩:=dd';refine Gz I (by rw[e];exact dN) hs #[q,hq] #[hl,hd,_,(rel.put k eb rv).keeps λc ys ec=>?_,q,es,ep,hq,h2,h3,h4,h5]
  rw[Zj (ZeF ec e (λz=>nomatch z))]
  exact ec
def ZgW(td ty tv:TE):TS:=λD O H=>tv O H λv H1=>td O H1 λx H2=>ty O H2 λy H3=>∃a H4,x=.ref a/\DPut H3 a y v H4/\D.nx O H4
section
variable{X:Cx}{o i e value:Expr}{pos pos' tpos:iE}{td ty tv:TE}
def Zd4(hu:X.A.units+1<dO)(ho:PE X o td)(hi:PE X i ty)(hv:PE X value tv)(hs:eC value (aa<|.Subscript o i pos') pos.line X.env=cJ aj) :
  PS X (.Assign [.Subscript o i pos'] value pos) (ZgW td ty tv):=by
 intro pq s O H D I h;refine wpAny_Assign_Subscript (thn (hv pq s O H _ I h) λr s1 #[v,H1,I1,rv,q1]=>thn (ho pq s1 O H1 _ I1 q1) λu s2 #[x,H2,I2,rx,q2]=>thn (hi pq s2 O H2 _ I2 q2) λiv s3 #[y,H3,I3,ry,a,H4,ex,g,q3]=>?_) hs
 subst ex;obtain rfl:u=cT a:=rx;exact qe hu I3 g ry rv λs4 I4=>#[O,H4,I4,q3]
end
def Zby(h:cM)(hb:c8<h.objs.size):Z7 P w H (h.push {cls:=.type "dict",data:=.dict #[]}) h.objs.size (.dK []):=
 #[db _,beq_eq_false_iff_ne.mpr<|Ne.symm<|a8 hb,[],.nil,cM.DictOf.new h]
def Za6(h:cM)(hb:c8<h.objs.size):Z7 P w H (h.push {cls:=.type "dict",data:=.dict #[]}) h.objs.size (.dT []):=
 #[db _,beq_eq_false_iff_ne.mpr<|Ne.symm<|a8 hb,[],.nil,_,#[],0,aE _ rfl,#[rfl,rfl,rfl],rfl,rfl,mL]
def ZeO:TE:=λ_ H Q=>∀p,H p=ai->Q (.ref p) (upd H p<|.dK [])
section
variable{X:Cx}{pos:iE}
def Za9:PE X (.Dict [] [] pos) ZeO:=λpq s O H Q I h=>
 wpAny_Dict_empty #[.ref s.heap.objs.size,_,I.laid (t':=s.toks) (λ_ _ q=>aq _ q) (aI _)<|Zby s.heap I.big,rfl,h _<|I.hok.fresh<|aI _]
end
def xU:List (TE×TE)->St->Hp->(List (V×V)->Hp->Prop)->Prop
 |[],_,H,Q=>Q [] H
 |(tk,tv)::r,O,H,Q=>tk O H λx H1=>tv O H1 λy H2=>xU r O H2 λps H3=>Q ((x,y)::ps) H3
abbrev VV:List (V×V)->List (az×az)->Prop:=Paired λp q=>ZA p.1 q.1/\ZA p.2 q.2
def PPs(X:Cx)(pos:iE)(keys:List (Option Expr))(values:List Expr)(trs:List (TE×TE)):Prop:=
 ∀(pq:List (aH×fU))(s:aF)(O:St)(H:Hp)(Q:List (V×V)->Hp->Prop),Inv X pq O H s->xU trs O H Q->
  aW (aR X.prog X.w) X.A (evalPairs<|pairTrees keys values X.env pos) (λvs s'=>∃ps H',Inv X pq O H' s'/\VV ps vs/\Q ps H') X.xe s
def ZdJ :PPs X pos [] [] []:=λpq s O H Q I h=>pairTrees_nil_walk #[[],H,I,.nil,h]
def Zbk(hk:PE X k tk)(hv:PE X v tv)(hr:PPs X pos ks vs trs) :
  PPs X pos (aa k::ks) (v::vs) ((tk,tv)::trs):=λpq s O H Q I h=>
 pairTrees_cons_walk (thn (hk pq s O H _ I h) λu s1 #[x,H1,I1,rx,q1]=>thn (hv pq s1 O H1 _ I1 q1) λw2 s2 #[y,H2,I2,ry,q2]=>
  thn (hr pq s2 O H2 _ I2 q2)<|by rintro ws s3 ⟨ps,H3,I3,rel,q3⟩;exact #[(x,y)::ps,H3,I3,.cons #[rx,ry] rel,q3])
end L2
namespace Pv
open PySem (Str)
inductive V where
 |non|bl (b:Bool)|int (i:Int)|str (x:bN)|tup (xs:List V)|lst (xs:List V)|drw|dct (ks:Sum (List<|Int×Int) (List<|List Int))|scr (ns:List Int)
 |dow (ks:List (List Int))
 deriving Inhabited
end Pv
namespace Ev
open PySem (Str)
def nos{B:Type}{P:Prop}{b:B}(h:ai=aa b):P:=by cases h
def lim:Nat:=16777216
inductive Bop where|add|sub|mul|fdiv|mod|pow
 deriving DecidableEq
inductive Cop where|eq|ne|lt|le|gt|ge|is|inn|nin
 deriving DecidableEq
inductive Ty where|int|bool|str|tuple|list|dict|cls (c:Nat)
 deriving DecidableEq
inductive Bf where|len|max2|min2|toInt|tuple|list|all|any|sum|sortedR|dictP|listD|sortedD|sortedS|index|rangeL
 deriving DecidableEq
inductive So where|join|split|find|ix
 deriving DecidableEq
inductive Mf where|append|index
 deriving DecidableEq
mutual
inductive E where
 |c (d:Pv.V)|v (i:Nat)
 |tup (es:List E)|lst (es:List E)|dnew
 |bin (op:Bop) (a b:E)|neg (a:E)|not (a:E)|and (a b:E)|or (a b:E)|ite (t a b:E)
 |cmp (op:Cop) (a b:E)|chain (o p:Cop) (a b d:E)
 |ix (a i:E)|sl (a:E) (lo hi:Option E)|rev (a:E)
 |call (f:Nat) (as:List E)|blt (f:Bf) (as:List E)|mt (m:Mf) (o:E) (as:List E)
 |isi (a:E) (ts:List Ty)
 |comp1 (cap:List Nat) (nl:Nat) (t:List Nat) (it:W) (ifs:List E) (elt:E)
 |refu (w:Bool) (e:E)
 |dix (a:E) (k:Bool)
inductive W where
 |of (e:E)|rng1 (a:E)|rng2 (a b:E)|zip (a b:E)|enum (a:E)
end
abbrev E.n(i:Int):E:=.c<|.int i
inductive Sm where
 |asg (t:List Nat) (e:E)|aug (i:Nat) (op:Bop) (e:E)|dput (o i e:E)
 |ret (e:E)|ex (e:E)|ite (t:E) (a b:List Sm)|forr (t:List Nat) (it:W) (b:List Sm)|whl (t:E) (b:List Sm)
 |raise (c:Nat) (as:List E)
 |dset (i:Nat) (e:E)|cel (i f:Nat) (as:List E) (b:List Sm)
 |dnw (i:Nat) (k:E)|forF (t:List Nat) (e:E) (b:List Sm)
 |lnw (i:Nat) (es:List E)|cat (i:Nat) (es:List E)|app (i:Nat) (e:E)
def b2i(b:Bool):Int:=if b then 1 else 0
def ZB:Nat:=6
noncomputable def ixN(n:Nat)(i:Int):Option Nat:=if 0<=i then(if i<n then aa i.toNat else ai)else if -(n:Int)<=i then aa (i+n).toNat else ai
def at'{B:Type}(xs:List B)(i:Int):Option B:=(ixN xs.length i).bind λj=>xs[j]?
noncomputable def sIx(n d:Nat):Option Int->Nat
 |none=>d
 |some i=>if i<0 then(i+n).toNat else si i.toNat n
def fits(i:Int):Bool:=ag<|i.natAbs<2^8000
def big:Int:=2^8000
def Zbd(h:b<1073741824):b<big:=Int.lt_trans h (by decide +kernel)
noncomputable def ltI:List Int->List Int->Bool
 |[],[]=>aj
 |[],_::_=>ak
 |_::_,[]=>aj
 |a::x,b::y=>if a=b then ltI x y else ag (a<b)
def YR(x:List Int):List (List Int)->List (List Int)
 |[]=>[x]
 |y::r=>if ltI x y then x::y::r else y::YR x r
def Zr:List (List Int)->List (List Int)
 |[]=>[]
 |x::r=>YR x<|Zr r
noncomputable def Q3{B:Type}(lt:B->B->Bool)(x:B):List B->List B
 |[]=>[x]
 |y::r=>if lt x y then x::y::r else y::Q3 lt x r
def Wr{B:Type}(lt:B->B->Bool):List B->List B
 |[]=>[]
 |x::r=>Q3 lt x<|Wr lt r
def ltP:List (List Int)->List (List Int)->Bool
 |[],[]=>aj
 |[],_::_=>ak
 |_::_,[]=>aj
 |a::x,b::y=>if a=b then ltP x y else ltI a b
noncomputable def Zbw(is:List Int):Bool:=ag (is.length<=1000)&&is.all λi=>ag<|-1099511627776<=i/\i<=1099511627776
def Yg(rs:List (List Int)):Bool:=ag (rs.length<=100000)&&decide rs.Nodup&&rs.all λr=>!r.isEmpty
noncomputable def YW(ps:List (List<|List Int)):Bool:=ag (ps.length<=100000)&&decide ps.Nodup&&(ag (ps.length<=1)||ps.all λP=>!P.isEmpty)
def Qa(ks:List (List Int)):Bool:=ag (ks.length<=lim)&&decide ks.Nodup
def WP(i:Int):Bool:=ag<|-(2^62)<=i/\i<2^62
def few(i:Int):Bool:=ag<|0<=i/\i<=1000
def yc:Nat:=1000
noncomputable def spcs:List (Nat×Nat):=[(2,1),(2,2),(2,3),(2,4),(3,1),(3,2),(3,3),(5,1),(5,2),(2,5),(2,6),(3,4),(5,3)]
def Zhq(rs:List (List Int)):Bool:=Yg rs&&(ag (rs.length<=300)&&spcs.any λq=>rs.all λr=>ag (r.length=q.2)&&r.all λa=>ag<|0<=a/\a<(q.1:Int))
def Zg6(P:List (List Int)):Int:=oW<|iF<|P.map λr=>oW<|iF<|r.map PySem.hashInt
def Zfm(ps:List (List<|List Int)):Bool:=YW ps&&(ag (ps.length<=1399)&&ag (ps.map Zg6).Nodup)
structure Fn where
 ps:Nat
 ns:Nat
 body:List Sm
end Ev
namespace Pv
open Ev
open PySem (Str)
noncomputable abbrev DS:=Int×Bool
inductive PR(B:Type) where
 |ok (a:B) (s:DS)|ex (c:Nat) (s:DS)|no
noncomputable def PR.bind{B β:Type}(r:PR B)(f:B->DS->PR β):PR β:=match r with
 |.ok a s=>f a s
 |.ex c s=>.ex c s
 |.no=>.no
noncomputable def PR.nox{B:Type}(r:PR B):PR B:=match r with
 |.ex _ _=>.no
 |r=>r
noncomputable def po{B:Type}(o:Option B)(s:DS):PR B:=match o with
 |some a=>.ok a s
 |none=>.no
abbrev Env:=List<|Option V
mutual
noncomputable def V.flat:V->Bool
 |.tup xs=>WQ xs
 |.lst _=>aj
 |.drw=>aj
 |.dct _=>aj
 |.dow _=>aj
 |_=>ak
noncomputable def WQ:List V->Bool
 |[]=>ak
 |x::xs=>x.flat&&WQ xs
end
mutual
noncomputable def ofD:V->Option V
 |.non=>aa .non
 |.bl b=>aa<|.bl b
 |.int i=>aa<|.int i
 |.str x=>aa<|.str x
 |.tup xs=>(ZgO xs).map .tup
 |_=>ai
noncomputable def ZgO:List V->Option (List V)
 |[]=>aa []
 |x::xs=>match ofD x,ZgO xs with
  |some a,aa b=>aa (a::b)
  |_,_=>ai
end
noncomputable def Zz:V->Option Bool
 |.non=>aa aj
 |.bl b=>aa b
 |.int i=>aa<|ag<|i≠0
 |.tup xs=>aa<|!xs.isEmpty
 |.lst xs=>aa<|!xs.isEmpty
 |_=>ai
noncomputable def Yz(f:V->V->Option Bool):List V->List V->Option Bool
 |[],[]=>aa ak
 |x::xs,y::ys=>match f x y,Yz f xs ys with
  |some a,aa b=>aa<|a&&b
  |_,_=>ai
 |_,_=>aa aj
def eqV:Nat->V->V->Option Bool
 |0,_,_=>ai
 |k+1,x,y=>match x with
  |.non=>match y with
   |.non=>aa ak
   |.bl _|.int _|.str _=>aa aj
   |_=>ai
  |.bl a=>match y with
   |.bl b=>aa<|ag<|a=b
   |.int b=>aa<|ag<|b2i a=b
   |.non|.str _=>aa aj
   |_=>ai
  |.int a=>match y with
   |.int b=>aa<|ag<|a=b
   |.bl b=>aa<|ag<|a=b2i b
   |.non|.str _=>aa aj
   |_=>ai
  |.str a=>match y with
   |.str b=>aa<|ag<|a=b
   |.non|.bl _|.int _=>aa aj
   |_=>ai
  |.tup xs=>match y with
   |.tup ys=>Yz (eqV k) xs ys
   |_=>ai
  |.lst xs=>match y with
   |.lst ys=>if xs.length=ys.length then Yz (eqV k) xs ys else aa aj
   |_=>ai
  |_=>ai
def WK(x:V):List V->Option Bool
 |[]=>aa aj
 |y::ys=>match eqV ZB y x,WK x ys with
  |some a,aa b=>aa (a||b)
  |_,_=>ai
def Zh9(x:V)(xs:List V):Option Nat:=if WK x xs=aa ak then xs.findIdx? λy=>eqV ZB y x == aa ak else ai
noncomputable def YI:V->Ty->Option Bool
 |.non,_=>aa aj
 |.bl _,t=>aa<|ag<|t=.bool\/t=.int
 |.int _,t=>aa<|ag<|t=.int
 |.str _,t=>aa<|ag<|t=.str
 |.tup _,t=>aa<|ag<|t=.tuple
 |.lst _,t=>aa<|ag<|t=.list
 |.dct (.inl _),t=>aa<|ag<|t=.dict
 |_,_=>ai
def Yf(x:V):List Ty->Option Bool
 |[]=>aa aj
 |t::ts=>match YI x t with
  |some ak=>aa ak
  |some aj=>Yf x ts
  |none=>ai
def Z6(xs:List V)(lo hi:Option Int):List V:=(xs.drop<|sIx xs.length 0 lo).take<|sIx xs.length xs.length hi-sIx xs.length 0 lo
def UD(op:Bop)(a b:Int)(s:DS):PR V:=match op with
 |.add=>.ok (.int<|a+b) s
 |.sub=>.ok (.int<|a-b) s
 |.mul=>if(fits a&&fits b)=ak then .ok (.int<|a*b) s else .no
 |.fdiv=>if 0<b/\b<Ev.big then .ok (.int<|a / b) s else .no
 |.mod=>if 0<b then .ok (.int<|a%b) s else .no
 |.pow=>if 0<=b/\b<=1000/\a.natAbs<2^64 then .ok (.int<|a^b.toNat) s else .no
def X4(op:Bop)(x y:V)(s:DS):PR V:=match x with
 |.int a=>match y with
  |.int b=>UD op a b s
  |_=>.no
 |.tup a=>match y with
  |.tup b=>match op with
   |.add=>if a.length+b.length<=lim then .ok (.tup<|a++b) s else .no
   |_=>.no
  |.int b=>match op with
   |.mul=>if 0<=b/\b<1000/\a.length<=1000 then .ok (.tup (au b.toNat a).flatten) s else .no
   |_=>.no
  |_=>.no
 |.lst a=>match y with
  |.lst b=>match op with
   |.add=>if a.length+b.length<=lim then .ok (.lst<|a++b) s else .no
   |_=>.no
  |.int b=>match op with
   |.mul=>if 0<=b/\b<1000/\a.length<=1000 then .ok (.lst (au b.toNat a).flatten) s else .no
   |_=>.no
  |_=>.no
 |_=>.no
def ZhF(op:Bop)(x y:V)(s:DS):PR V:=match x,y with
 |.int _,.int _=>X4 op x y s
 |_,_=>.no
noncomputable def intsV:List V->Option (List Int)
 |[]=>aa []
 |.int i::r=>(intsV r).map (i :: ·)
 |_::_=>ai
def Uk(x y:V):Option Bool:=match y with
 |.tup ys=>WK x ys
 |.lst ys=>WK x ys
 |.dct (.inr ks)=>match x with
  |.tup k=>(intsV k).map λk=>ks.contains k
  |_=>ai
 |.dow ks=>match x with
  |.tup k=>(intsV k).map λk=>ks.contains k
  |_=>ai
 |_=>ai
noncomputable def QB:V->Bool
 |.non=>ak
 |_=>aj
def Zc(r:List Int):V:=.tup<|r.map .int
def Yy:List V->Option (List<|List Int)
 |[]=>aa []
 |.tup x::r=>match intsV x,Yy r with
  |some a,aa b=>aa (a::b)
  |_,_=>ai
 |_::_=>ai
noncomputable def int2(x y:V):Option (Int×Int):=match x with
 |.int a=>match y with
  |.int b=>aa (a,b)
  |_=>ai
 |_=>ai
def isV(x y:V):Option Bool:=match y with
 |.non=>aa<|QB x
 |.bl b=>match x with
  |.bl a=>aa<|ag<|a=b
  |_=>ai
 |_=>ai
def YT(op:Cop)(x y:V):Option V:=match op with
 |.eq=>(eqV ZB x y).map .bl
 |.ne=>(eqV ZB x y).map λb=>.bl !b
 |.lt=>(int2 x y).map λz=>.bl<|ag<|z.1<z.2
 |.gt=>(int2 x y).map λz=>.bl<|ag<|z.2<z.1
 |.le=>(int2 x y).map λz=>.bl<|ag<|z.1<=z.2
 |.ge=>(int2 x y).map λz=>.bl<|ag<|z.2<=z.1
 |.is=>(isV x y).map .bl
 |.inn=>(Uk x y).map .bl
 |.nin=>(Uk x y).map λb=>.bl !b
def ixV(x y:V):Option V:=match x,y with
 |.tup xs,.int i=>at' xs i
 |.lst xs,.int i=>at' xs i
 |.scr xs,.int i=>(at' xs i).map .int
 |_,_=>ai
def slV(x:V)(lo hi:Option Int):Option V:=match x with
 |.tup xs=>aa<|.tup<|Z6 xs lo hi
 |.lst xs=>aa<|.lst<|Z6 xs lo hi
 |_=>ai
noncomputable def ZgS:V->Option V
 |.tup xs=>aa<|.tup xs.reverse
 |_=>ai
noncomputable def UL:V->Option Bool
 |.non=>aa aj
 |.bl b=>aa b
 |.int i=>aa<|ag<|i≠0
 |_=>ai
def ZY:List V->Option (List Bool)
 |[]=>aa []
 |x::xs=>match UL x,ZY xs with
  |some b,aa bs=>aa (b::bs)
  |_,_=>ai
def Zk(P:List (List Int)):V:=.tup<|P.map Zc
noncomputable def YA:V->Option (List V)
 |.tup xs=>aa xs
 |.lst xs=>aa xs
 |.scr ns=>aa<|ns.map .int
 |_=>ai
def Yc(lo:Int)(n:Nat):List V:=(aO n).map λ(k:Nat)=>.int<|lo+(k:Int)
def Zew:V->Option (List Int)
 |.tup [.tup k,.bl b]=>if b=ak then intsV k else ai
 |_=>ai
def Va:List V->Option (List<|List Int)
 |[]=>aa []
 |v::r=>(Zew v).bind λa=>(Va r).map (a :: ·)
noncomputable def WS:List V->Option (List Nat)
 |[]=>aa []
 |.int i::r=>if 0<=i/\i<6 then(WS r).map (i.toNat :: ·)else ai
 |_=>ai
mutual
noncomputable def pdV:V->Option PySem.PyData
 |.non=>aa .none
 |.bl b=>aa<|.bool b
 |.int i=>aa<|.int i
 |.str x=>aa<|.str x
 |.tup xs=>(Zfg xs).map .tuple
 |.lst xs=>(Zfg xs).map .list
 |.dct (.inl kvs)=>aa<|.dict<|kvs.map λp=>(.int p.1,.int p.2)
 |_=>ai
noncomputable def Zfg:List V->Option (List PySem.PyData)
 |[]=>aa []
 |x::xs=>(pdV x).bind λa=>(Zfg xs).map (a :: ·)
end
mutual
noncomputable def noL:V->Bool
 |.lst _=>aj
 |.tup xs=>Zhm xs
 |_=>ak
noncomputable def Zhm:List V->Bool
 |[]=>ak
 |x::xs=>noL x&&Zhm xs
end
def blt1(f:Bf)(x:V):Option V:=match f with
 |.len=>(YA x).map λxs=>.int xs.length
 |.toInt=>match x with
  |.int a=>aa<|.int a
  |.bl b=>aa<|.int<|b2i b
  |_=>ai
 |.tuple=>(YA x).map .tup
 |.list=>(YA x).map .lst
 |.all=>match x with
  |.lst xs=>(ZY xs).map λbs=>.bl<|bs.all id
  |_=>ai
 |.any=>(YA x).bind λxs=>(ZY xs).map λbs=>.bl<|bs.any id
 |.sum=>match x with
  |.lst xs=>(intsV xs).bind λis=>if Zbw is=ak then aa (.int is.sum)else ai
  |_=>ai
 |.sortedR=>match x with
  |.lst xs=>(Yy xs).bind λrs=>if Yg rs=ak then aa (.lst<|(Zr rs).reverse.map Zc)else ai
  |_=>ai
 |.rangeL=>match x with
  |.int i=>if few i then aa (.lst<|Yc 0 i.toNat)else ai
  |_=>ai
 |.listD=>match x with
  |.dow ks=>aa<|.lst<|ks.map Zc
  |_=>ai
 |.sortedD=>match x with
  |.dow ks=>if Yg ks=ak then aa (.lst<|(Zr ks).map Zc)else ai
  |_=>ai
 |.sortedS=>match x with
  |.lst xs=>(WS xs).map λks=>.lst (((aO 6).filter ks.contains).map λk:Nat=>.int k)
  |_=>ai
 |.dictP=>match x with
  |.lst xs=>(Va xs).bind λks=>if Qa ks=ak then aa (.dct<|.inr ks)else ai
  |_=>ai
 |_=>ai
noncomputable def qi:V->Option Int
 |.int a=>aa a
 |_=>ai
noncomputable def Zif:V->Option (List V)
 |.lst a=>aa a
 |_=>ai
def blt2(f:Bf)(x y:V):Option V:=match f with
 |.index=>(Zif x).bind λxs=>(Zh9 y xs).map λj:Nat=>.int j
 |.max2=>(qi x).bind λa=>(qi y).bind λb=>aa<|.int (if b>a then b else a)
 |.min2=>(qi x).bind λa=>(qi y).bind λb=>aa<|.int (if b<a then b else a)
 |_=>ai
def U4 :blt1 .len x=(YA x).map λxs=>.int xs.length:=rfl
def Vo :X4 op (.int a) (.int b) s=UD op a b s:=rfl
def ZbS{k:Nat}:eqV (k+1) (.int a) (.int b)=aa (ag<|a=b):=rfl
def ZaH{k:Nat}:eqV (k+1) (.bl a) (.bl b)=aa (ag<|a=b):=rfl
def qU :eqV (k+1) .non .non=aa ak:=rfl
def ZbQ{a:Int}:eqV (k+1) (.int a) .non=aa aj:=rfl
def vF(h:qi x=aa a):x=.int a:=by cases x<;>first|exact Ev.nos h|(cases h;rfl)
def XF(f:Bf)(as:List V):Option V:=match as with
 |[x]=>blt1 f x
 |[x,y]=>blt2 f x y
 |_=>ai
noncomputable def Y3:List Nat->List V->Env->Option Env
 |[],[],Z=>aa Z
 |i::t,x::xs,Z=>Y3 t xs<|Z.set i<|aa x
 |_,_,_=>ai
noncomputable def jW:V->Option (List V)
 |.tup xs=>aa xs
 |.lst xs=>aa xs
 |_=>ai
def Zq(t:List Nat)(x:V)(Z:Env):Option Env:=match t with
 |[i]=>aa<|Z.set i<|aa x
 |t=>match jW x with
  |some xs=>Y3 t xs Z
  |none=>ai
abbrev Zx:=Nat->List V->DS->PR V
def Z9(cap:List Nat)(nl:Nat)(Z:Env):Env:=au nl ai++cap.map λi=>(Z[i]?).join
def mapP(f:V->DS->PR (List V)):List V->DS->PR (List V)
 |[],s=>.ok [] s
 |x::xs,s=>match f x s with
  |.ok ys s=>match mapP f xs s with
   |.ok zs s=>.ok (ys++zs) s
   |_=>.no
  |_=>.no
def jw(w:Bool)(c:Nat):V:=.int c
def ZhN(w:Bool):PR V->PR V
 |.ok _ s=>.ok .non s
 |.ex c s=>if 1<=c/\c<=10 then .ok (jw w<|c-1) s else .no
 |.no=>.no
def own(nl:Nat)(t:List Nat):Bool:=t.all λi=>ag<|i<nl
mutual
noncomputable def pv(C:Zx)(e:E)(Z:Env)(s:DS):PR V:=match e with
 |.c d=>po (ofD d) s
 |.v i=>po (Z[i]?).join s
 |.tup es=>(pvs C es Z s).bind λxs s=>if xs.length<=lim then .ok (.tup xs) s else .no
 |.lst es=>(pvs C es Z s).bind λxs s=>if xs.length<=lim then .ok (.lst xs) s else .no
 |.dnew=>.ok (.dct<|.inl []) s
 |.bin op a b=>(pv C a Z s).bind λx s=>(pv C b Z s).bind λy s=>X4 op x y s
 |.neg a=>(pv C a Z s).bind λx s=>match x with
  |.int i=>.ok (.int<|-i) s
  |_=>.no
 |.not a=>(pv C a Z s).bind λx s=>(po (Zz x) s).bind λb s=>.ok (.bl !b) s
 |.and a b=>(pv C a Z s).bind λx s=>match x with
  |.bl c=>if c then pv C b Z s else .ok (.bl aj) s
  |_=>.no
 |.or a b=>(pv C a Z s).bind λx s=>match x with
  |.bl c=>if c then .ok (.bl ak) s else pv C b Z s
  |_=>.no
 |.ite t a b=>(pv C t Z s).bind λx s=>(po (Zz x) s).bind λc s=>if c then pv C a Z s else pv C b Z s
 |.cmp op a b=>(pv C a Z s).bind λx s=>(pv C b Z s).bind λy s=>po (YT op x y) s
 |.chain o p a b d=>(pv C a Z s).bind λx s=>(pv C b Z s).bind λy s=>(po (YT o x y) s).bind λz s=>match z with
  |.bl c=>if c then(pv C d Z s).bind λw s=>po (YT p y w) s else .ok (.bl aj) s
  |_=>.no
 |.ix a i=>(pv C a Z s).bind λx s=>(pv C i Z s).bind λy s=>po (ixV x y) s
 |.sl a lo hi=>(pv C a Z s).bind λx s=>(pvo C lo Z s).bind λl s=>(pvo C hi Z s).bind λh s=>po (slV x l h) s
 |.rev a=>(pv C a Z s).bind λx s=>po (ZgS x) s
 |.call f as=>(pvs C as Z s).bind λxs s=>C f xs s
 |.blt f as=>(pvs C as Z s).bind λxs s=>po (XF f xs) s
 |.mt _ _ _=>.no
 |.isi a ts=>(pv C a Z s).bind λx s=>(po (Yf x ts) s).bind λb s=>.ok (.bl b) s
 |.comp1 cap nl t it ifs elt=>if own nl t=ak then(pvw C it Z s).bind λw s=>
   ((mapP (λx s=>(po (Zq t x<|Z9 cap nl Z) s).bind λO s=>(pvt C ifs O s).bind λb s=>if b then(pv C elt O s).bind λy s=>.ok [y] s else .ok [] s) w s).bind
    λys s=>if ys.length<=lim then .ok (.lst ys) s else .no).nox
  else .no
 |.refu w e=>ZhN w<|pv C e Z s
 |.dix a k=>(pv C a Z s).bind λx s=>match x with
  |.drw=>.ok (if k then .bl s.2 else .int s.1) s
  |_=>.no
noncomputable def pvs(C:Zx)(es:List E)(Z:Env)(s:DS):PR (List V):=match es with
 |[]=>.ok [] s
 |e::es=>(pv C e Z s).bind λx s=>(pvs C es Z s).bind λxs s=>.ok (x::xs) s
noncomputable def pvo(C:Zx)(o:Option E)(Z:Env)(s:DS):PR (Option Int):=match o with
 |none=>.ok ai s
 |some e=>(pv C e Z s).bind λx s=>match x with
  |.int i=>.ok (aa i) s
  |_=>.no
noncomputable def pvt(C:Zx)(es:List E)(Z:Env)(s:DS):PR Bool:=match es with
 |[]=>.ok ak s
 |e::es=>(pv C e Z s).bind λx s=>(po (Zz x) s).bind λb s=>if b then pvt C es Z s else .ok aj s
noncomputable def pvw(C:Zx)(w:W)(Z:Env)(s:DS):PR (List V):=match w with
 |.rng1 a=>(pv C a Z s).bind λx s=>match x with
  |.int i=>if WP i then .ok (Yc 0 i.toNat) s else .no
  |_=>.no
 |.rng2 a b=>(pv C a Z s).bind λx s=>(pv C b Z s).bind λy s=>match x,y with
  |.int i,.int j=>if(WP i&&WP j)=ak then .ok (Yc i (j-i).toNat) s else .no
  |_,_=>.no
 |.zip a b=>(pv C a Z s).bind λx s=>(pv C b Z s).bind λy s=>match YA x,YA y with
  |some v,aa w=>.ok ((v.zip w).map λp=>.tup [p.1,p.2]) s
  |_,_=>.no
 |.enum a=>(pv C a Z s).bind λx s=>match YA x with
  |some w=>.ok (((Yc 0 w.length).zip w).map λp=>.tup [p.1,p.2]) s
  |none=>.no
 |.of e=>(pv C e Z s).bind λx s=>po (YA x) s
end
section
variable(C:Zx)(Z:Env)(s:DS)
def pE1(d):=@id (pv C (.c d) Z s=po _ _) rfl
def pE2(i):=@id (pv C (.v i) Z s=po _ _) rfl
def pE3(es):=@id (pv C (.tup es) Z s=.bind _ _) rfl
def pE4(es):=@id (pv C (.lst es) Z s=.bind _ _) rfl
def pE5:=@id (pv C .dnew Z s=.ok _ _) rfl
def pE7(op a b):=@id (pv C (.bin op a b) Z s=.bind _ _) rfl
def pE8(a):=@id (pv C (.neg a) Z s=.bind _ _) rfl
def pE9(a):=@id (pv C (.not a) Z s=.bind _ _) rfl
def uy(a b):=@id (pv C (.and a b) Z s=.bind _ _) rfl
def ZcW(a b):=@id (pv C (.or a b) Z s=.bind _ _) rfl
def YU(op a b):=@id (pv C (.cmp op a b) Z s=.bind _ _) rfl
def Zie(o p a b d):=@id (pv C (.chain o p a b d) Z s=.bind _ _) rfl
def Xz(a i):=@id (pv C (.ix a i) Z s=.bind _ _) rfl
def Zft(a lo hi):=@id (pv C (.sl a lo hi) Z s=.bind _ _) rfl
def Zhk(a):=@id (pv C (.rev a) Z s=.bind _ _) rfl
def jU(f as):=@id (pv C (.call f as) Z s=.bind _ _) rfl
def Yt(f as):=@id (pv C (.blt f as) Z s=.bind _ _) rfl
def Zhx(a ts):=@id (pv C (.isi a ts) Z s=.bind _ _) rfl
def u0(cap nl t it ifs elt):=@id (pv C (.comp1 cap nl t it ifs elt) Z s=ite (own nl t=ak) _ _) rfl
def Zfc(w e):=@id (pv C (.refu w e) Z s=ZhN _ _) rfl
def ZdW(a k):=@id (pv C (.dix a k) Z s=.bind _ _) rfl
def wE1(a):=@id (pvw C (.rng1 a) Z s=.bind _ _) rfl
def wE2(a b):=@id (pvw C (.rng2 a b) Z s=.bind _ _) rfl
def wE5(a b):=@id (pvw C (.zip a b) Z s=.bind _ _) rfl
def wE6(a):=@id (pvw C (.enum a) Z s=.bind _ _) rfl
def wE7(e):=@id (pvw C (.of e) Z s=.bind _ _) rfl
end
inductive FlV where|nx (Z:Env) (os:List Nat)|ret (v:V)
def hide(os:List Nat)(Z:Env):Env:=Z.mapIdx λi o=>if os.contains i then ai else o
noncomputable def fresh:E->Bool
 |.lst _=>ak
 |.comp1 .. => ak
 |.bin .mul (.lst _) _=>ak
 |.blt .list _=>ak
 |.blt .rangeL _=>ak
 |.blt .listD _=>ak
 |.blt .sortedD _=>ak
 |.blt .sortedS _=>ak
 |_=>aj
def vV:V->Bool
 |.lst xs=>WQ xs
 |_=>aj
def pvA(C:Zx)(e:E)(Z:Env)(os:List Nat)(s:DS):PR V:=match os with
 |[]=>pv C e Z s
 |os=>match pv C e (hide os Z) s with
  |.ok v s=>.ok v s
  |.ex c s=>.ex c s
  |.no=>(pv C e Z s).bind λv s=>if(v.flat||fresh e&&vV v)=ak then .ok v s else .no
def YO(C:Zx)(e:E)(Z:Env)(s:DS):PR Bool:=(pv C e Z s).bind λx s=>po (Zz x) s
def Y6(body:V->Env->List Nat->DS->PR FlV):List V->Env->List Nat->DS->PR FlV
 |[],Z,os,s=>.ok (.nx Z os) s
 |x::xs,Z,os,s=>(body x Z os s).bind λf s=>match f with
  |.nx Z os=>Y6 body xs Z os s
  |.ret v=>.ok (.ret v) s
def Xm(test:Env->DS->PR Bool)(body:Env->List Nat->DS->PR FlV):Nat->Env->List Nat->DS->PR FlV
 |0,_,_,_=>.no
 |n+1,Z,os,s=>(test Z s).bind λb s=>if b then(body Z os s).bind λf s=>match f with
  |.nx Z os=>Xm test body n Z os s
  |.ret v=>.ok (.ret v) s
  else .ok (.nx Z os) s
def okS(x:Int)(b:Bool):Bool:=ag (0<=x)&&(b||decide (x<2147483647))
def QV:V->Option DS
 |.lst [.int a,.bl b]=>if okS a b=ak then aa (a,b)else ai
 |_=>ai
def JH(o:Option V):Option V:=o.filter V.flat
def VE(i:Nat)(Z:Env):Env:=(Z.take i).map JH++au (Z.length-i) ai
noncomputable def ZgP:Option (Option V)->Option (List<|List Int)
 |some (aa<|.dow ks)=>aa ks
 |_=>ai
def YK(ks:List (List Int))(k:List Int):List (List Int):=if ks.contains k then ks else ks++[k]
def Zgq:V->Option (List Int)
 |.tup k=>intsV k
 |_=>ai
noncomputable def isT:V->Bool
 |.bl ak=>ak
 |_=>aj
noncomputable def z8:Option (Option V)->Option (List V)
 |some (aa<|.lst xs)=>aa xs
 |_=>ai
mutual
noncomputable def rv(C:Zx)(ms:List Nat)(m:Sm)(Z:Env)(os:List Nat)(s:DS):PR FlV:=match m with
 |.asg [i] e=>(pvA C e Z os s).bind λv s=>if(ms.contains i&&fresh e)=ak then match v with
   |.lst xs=>if WQ xs=ak/\i<Z.length then .ok (.nx (Z.set i<|aa v) (i::os.filter (· != i))) s else .no
   |_=>.no
  else .ok (.nx (Z.set i<|aa v) (os.filter (· != i))) s
 |.asg t e=>(pvA C e Z os s).bind λv s=>if(t.any os.contains)=ak then .no else(po (Zq t v Z) s).bind λZ s=>.ok (.nx Z os) s
 |.aug i op e=>if os.contains i then .no else(po (Z[i]?).join s).bind λx s=>(pv C e Z s).bind λy s=>(ZhF op x y s).bind λz s=>.ok (.nx (Z.set i<|aa z) os) s
 |.dput (.v i) k e=>if os.contains i then(pv C e Z s).bind λv s=>if isT v=ak then(po (ZgP Z[i]?) s).bind λks s=>(pv C k Z s).bind λy s=>(po (Zgq y) s).bind λr s=>if ks.length<lim then .ok (.nx (Z.set i<|aa<|.dow<|YK ks r) os) s else .no
  else .no else .no
 |.dput _ _ _=>.no
 |.ret e=>(pv C e Z s).bind λv s=>.ok (.ret v) s
 |.ex (.mt .append (.v i) [e])=>if os.contains i then(po (z8 Z[i]?) s).bind λxs s=>(pv C e Z s).bind λv s=>if v.flat=ak/\xs.length<lim then .ok (.nx (Z.set i<|aa<|.lst<|xs++[v]) os) s else .no else .no
 |.ex e=>(pv C e Z s).bind λ_ s=>.ok (.nx Z os) s
 |.ite t a b=>(YO C t Z s).bind λc s=>if c then rvs C ms a Z os s else rvs C ms b Z os s
 |.forr t it b=>(pvw C it (hide os Z) s).bind λw s=>Y6 (λx Z os s=>if(t.any os.contains)=ak then .no else(po (Zq t x Z) s).bind λZ s=>rvs C ms b Z os s) w Z os s
 |.whl t b=>Xm (YO C t) (rvs C ms b) yc Z os s
 |.raise c as=>(pvs C as Z s).bind λ_ s=>.ex c s
 |.dset i e=>(pv C e Z s).bind λv s=>match v with
  |.int x=>if okS x s.2=ak then match(Z[i]?).join with
   |some .drw=>.ok (.nx Z os) (x,s.2)
   |_=>.no
   else .no
  |_=>.no
 |.cel i f as b=>if os.isEmpty=ak then(pvs C as Z s).bind λxs s=>(C f xs s).bind λv s=>(po (QV v) s).bind λd s=>match rvs C ms b ((VE i Z).set i<|aa .drw) [] d with
  |.ok (.nx Z _) _=>.ok (.nx (Z.map JH) []) s
  |.ok (.ret v) _=>if v.flat=ak then .ok (.ret v) s else .no
  |_=>.no
  else .no
 |.dnw i k=>(pv C k Z s).bind λy s=>(po (Zgq y) s).bind λr s=>if i<Z.length then .ok (.nx (Z.set i<|aa<|.dow [r]) (i::os.filter (· != i))) s else .no
 |.lnw i es=>(pvs C es (hide os Z) s).bind λxs s=>if xs.length<=lim/\i<Z.length then .ok (.nx (Z.set i<|aa<|.lst xs) (i::os.filter (· != i))) s else .no
 |.cat i es=>if os.contains i then(po (z8 Z[i]?) s).bind λxs s=>(pvs C es (hide os Z) s).bind λys s=>if ys.length<=lim/\xs.length+ys.length<=lim/\i<Z.length then .ok (.nx (Z.set i<|aa<|.lst<|xs++ys) (i::os.filter (· != i))) s else .no else .no
 |.app i e=>if os.contains i then(po (z8 Z[i]?) s).bind λxs s=>(pv C e (hide os Z) s).bind λv s=>if xs.length<lim then .ok (.nx (Z.set i<|aa<|.lst<|xs++[v]) os) s else .no else .no
 |.forF t e b=>(pvA C e Z os s).bind λv s=>match v with
  |.lst w=>Y6 (λx Z os s=>if(t.any os.contains)=ak then .no else(po (Zq t x Z) s).bind λZ s=>rvs C ms b Z os s) w Z os s
  |_=>.no
noncomputable def rvs(C:Zx)(ms:List Nat)(m:List Sm)(Z:Env)(os:List Nat)(s:DS):PR FlV:=match m with
 |[]=>.ok (.nx Z os) s
 |m::ss=>(rv C ms m Z os s).bind λf s=>match f with
  |.nx Z os=>rvs C ms ss Z os s
  |f=>.ok f s
end
section
variable(C:Zx)(Z:Env)(s:DS)(ms os:List Nat)
def rE1(i e):=@id (rv C ms (.asg [i] e) Z os s=.bind _ _) rfl
def rE4(i op e):=@id (rv C ms (.aug i op e) Z os s=ite (os.contains i) _ _) rfl
def rE7(i k e):=@id (rv C ms (.dput (.v i) k e) Z os s=ite (os.contains i) _ _) rfl
def rE9(e):=@id (rv C ms (.ret e) Z os s=.bind _ _) rfl
def Zfp(i e):=@id (rv C ms (.ex<|.mt .append (.v i) [e]) Z os s=ite (os.contains i) _ _) rfl
def ZfN(f as):=@id (rv C ms (.ex<|.call f as) Z os s=.bind _ _) rfl
def G8(t a b):=@id (rv C ms (.ite t a b) Z os s=.bind _ _) rfl
def Q7(t it b):=@id (rv C ms (.forr t it b) Z os s=.bind _ _) rfl
def ZhQ(t b):=@id (rv C ms (.whl t b) Z os s=Xm _ _ _ _ _ _) rfl
def Zih(c as):=@id (rv C ms (.raise c as) Z os s=.bind _ _) rfl
def Zgl(i e):=@id (rv C ms (.dset i e) Z os s=.bind _ _) rfl
def ZgY(i f as b):=@id (rv C ms (.cel i f as b) Z os s=ite (os.isEmpty=ak) _ _) rfl
def Zhu(i k):=@id (rv C ms (.dnw i k) Z os s=.bind _ _) rfl
def ZgU(i es):=@id (rv C ms (.lnw i es) Z os s=.bind _ _) rfl
def ZhC(i es):=@id (rv C ms (.cat i es) Z os s=ite (os.contains i) _ _) rfl
def ZhG(i e):=@id (rv C ms (.app i e) Z os s=ite (os.contains i) _ _) rfl
def Zg2(t e b):=@id (rv C ms (.forF t e b) Z os s=.bind _ _) rfl
def rE2(t e)(h:∀i,t=[i]->False):rv C ms (.asg t e) Z os s=(pvA C e Z os s).bind λv s=>if(t.any os.contains)=ak then .no else(po (Zq t v Z) s).bind λZ s=>.ok (.nx Z os) s:=by
 match t,h with
 |[],_=>rfl
 |[i],h=>exact(h i rfl).elim
 |_::_::_,_=>rfl
end
mutual
noncomputable def xk:Sm->List Nat
 |.ex (.mt .append (.v i) _)=>[i]
 |.ite _ a b=>muts a++muts b
 |.forr _ _ b=>muts b
 |.whl _ b=>muts b
 |.cel _ _ _ b=>muts b
 |.dput (.v i) _ _=>[i]
 |.forF _ _ b=>muts b
 |_=>[]
noncomputable def muts:List Sm->List Nat
 |[]=>[]
 |m::ss=>xk m++muts ss
end
def yY:muts []=[]:=rfl
def Ju{m:Sm}:muts (m::ss)=xk m++muts ss:=rfl
def Zbt{e:E}:xk (.asg t e)=[]:=rfl
def ZbP :xk (.ret e)=[]:=rfl
def ZbY{e:E}:xk (.ite e a b)=muts a++muts b:=rfl
def ZP(n:Nat)(xs:List V):Env:=xs.map aa++au (n-xs.length) ai
noncomputable def Wd(s:DS)(m:Int):Int×DS:=
 if s.2 then(s.1%m,(s.1 / m,ak))else
  let x:=(s.1*48271+29)%2147483647
  let y:=(x*x+39373*x+7)%2147483629
  let z:=(y*y+16807*y)%2147483587
  (z / 8%m,(x,aj))
def ZeB(vs:List V)(s:DS):PR V:=match vs with
 |[.drw,.int m]=>if 0<m/\m<1073741824 then .ok (.int (Wd s m).1) (Wd s m).2 else .no
 |_=>.no
def Zm(F:List Fn)(tk:Nat):Nat->Zx
 |0,_,_,_=>.no
 |d+1,f,xs,s=>if f=tk then ZeB xs s else match F[f]? with
  |some fn=>if xs.length=fn.ps then(rvs (Zm F tk d) (muts fn.body) fn.body (ZP fn.ns xs) [] s).bind λf s=>match f with
    |.ret v=>.ok v s
    |.nx _ _=>.ok .non s
   else .no
  |none=>.no
end Pv
namespace Sd
open PySem PySem.Spec PyProof.Rows L2
section
open Ev (E Sm Fn Bop Cop Ty Bf Mf)
noncomputable abbrev D:=Pv.V
abbrev ZO:=Pv.DS
noncomputable abbrev Lc:=Pv.Env
noncomputable abbrev R:=Pv.PR
noncomputable abbrev Calls:=Pv.Zx
structure Mx where
 K:ao
 n0:Option aH
 X:aH->Prop
 xz:∀a,n0=aa a->X a
def Scr(K:ao)(H:Hp)(a:aH)(ns:List Int):Prop:=
 (∃o,H a=aa (.frz o<|.lst<|ns.map V.int))\/
  ∃(o:fU)(its:Array az)(n:Nat),K.lookup a=aa o/\o.cls=.type "list"/\o.dict=ai/\o.data=.seq its n/\its.size<=a9/\Vals (ns.map V.int) its.toList
def Scr.sq{K:ao}(h:Scr K H a ns):SqL K H a (ns.map V.int):=by
 rcases h with⟨o,h⟩|h
 .exact .inl<|.inr #[o,h]
 .exact .inr h
def Dct(H:Hp)(a:aH):Sum (List<|Int×Int) (List<|List Int)->Prop
 |.inl kvs=>H a=aa (.dK<|kvs.map λp=>(cS p.1,V.int p.2))
 |.inr ks=>∃o vs,H a=aa (.frz o<|.dT vs)/\vs.map (·.1)=ks.map (·.map cS)
mutual
def Rep(Z:Mx)(H:Hp):D->V->Prop
 |.non,v=>v=.non
 |.bl b,v=>v=.bl b
 |.int i,v=>v=.int i
 |.str x,v=>v=.str x
 |.tup ds,v=>∃a xs,v=.ref a/\H a=aa (.tup xs)/\Rq Z H ds xs
 |.lst ds,v=>∃a xs,v=.ref a/\H a=aa (.lst xs)/\¬Z.X a/\Rq Z H ds xs
 |.drw,v=>∃a,v=.ref a/\Z.n0=aa a
 |.dct o,v=>∃a,v=.ref a/\Dct H a o
 |.scr ns,v=>∃a,v=.ref a/\Scr Z.K H a ns
 |.dow ks,v=>∃a vs,v=.ref a/\H a=aa (.dT vs)/\¬Z.X a/\vs.map (·.1)=ks.map (·.map cS)
def Rq(Z:Mx)(H:Hp):List D->List V->Prop
 |[],xs=>xs=[]
 |d::ds,xs=>∃v vs,xs=v::vs/\Rep Z H d v/\Rq Z H ds vs
end
structure Fut(Z:Mx)(H:Hp)(ρ':Mx)(H':Hp):Prop where
 eq:ρ'=Z
 keep:∀a o,H a=aa o->H' a=aa o\/(Z.n0=aa a/\∃xs,o=.lst xs)\/((∃ps,o=.tbl ps)/\∃ps,H' a=aa (.tbl ps))
def Fut.refl(Z H):Fut Z H Z H:=#[rfl,λ_ _ h=>.inl h]
def Fut.trans(a:Fut Z H ρ1 H1)(b:Fut ρ1 H1 ρ2 H2):Fut Z H ρ2 H2:=by
 obtain⟨rfl,f⟩:=a;obtain⟨rfl,g⟩:=b;refine#[rfl,λa o h=>(f a o h).elim (λh=>g a o h) λz=>z.elim (λz=>.inr<|.inl z) λ#[e,ps,h]=>?_]
 rcases g a _ h with q|⟨_,xs,q⟩|⟨_,q⟩
 .exact .inr<|.inr #[e,ps,q]
 .cases q
 .exact .inr<|.inr #[e,q]
def Fut.there(f:Fut Z H ρ' H')(n:Z.n0≠.some a)(h:H a≠ai):H' a≠ai:=by
 obtain⟨o,e⟩:=kD.mp h;rcases f.keep a o e with q|q|⟨_,_,q⟩
 .rw[q];intro z;cases z
 .exact T7 q.1 n
 .rw[q];intro z;cases z
def Fut.new(f:Fut Z H ρ' H')(h:H' a=ai)(xd:∀a,Z.X a->H' a≠ai):H a=ai:=by
 cases q:H a with
 |none=>rfl
 |some o=>
  rcases f.keep a o q with e|e|⟨_,_,e⟩
  .rw[h]at e;cases e
  .exact T7 h<|xd a<|Z.xz a e.1
  .rw[h]at e;cases e
structure Lat(Z:Mx)(H:Hp)(ρ':Mx)(H':Hp):Prop where
 K:ρ'.K=Z.K
 n0:ρ'.n0=Z.n0
 keep':∀a o,H a=aa o->(∀xs,o=.lst xs->¬Z.X a)->(∀ps,o≠.tbl ps)->(∀vs,o=.dT vs->¬Z.X a)->H' a=aa o
 X:∀a,H a≠ai->ρ'.X a->Z.X a
def Lat.keep(f:Lat Z H ρ' H')(a o)(h:H a=aa o)(x:∀xs,o=.lst xs->¬Z.X a)(n:∀ps,o≠.tbl ps:=by intro _ z;cases z)(m:∀vs,o=.dT vs->¬Z.X a:=by intro _ z;cases z):H' a=aa o:=f.keep' a o h x n m
mutual
theorem Rep.lat(f:Lat Z H ρ' H'):∀{d:D}{v:V},Rep Z H d v->Rep ρ' H' d v
 |.non,_,h|.bl _,_,h|.int _,_,h|.str _,_,h=>by unfold Rep at h ⊢;exact h
 |.tup ds,v,h=>by
  unfold Rep at h ⊢;obtain⟨a,xs,e,t,r⟩:=h;exact#[a,xs,e,f.keep a _ t (λ_ z=>by cases z),r.lat f]
 |.lst ds,v,h=>by
  unfold Rep at h ⊢;obtain⟨a,xs,e,t,x,r⟩:=h;exact#[a,xs,e,f.keep a _ t λ_ _=>x,λz=>x (f.X a (by rw[t];intro z;cases z) z),r.lat f]
 |.drw,v,h=>by unfold Rep at h ⊢;rw[f.n0];exact h
 |.dct o,v,h=>by
  obtain⟨a,e,t⟩:=h;refine#[a,e,?_];cases o with|inl kvs=>exact f.keep a _ t λ_ z=>by cases z|inr ks=>obtain⟨o,vs,t,q⟩:=t;exact#[o,vs,f.keep a _ t (λ_ z=>by cases z),q]
 |.scr ns,v,h=>by
  unfold Rep at h ⊢;obtain⟨a,e,t⟩:=h;rw[f.K];refine#[a,e,?_];rcases t with⟨o,t⟩|t
  .exact .inl #[o,f.keep a _ t λ_ z=>by cases z]
  .exact .inr t
 |.dow ks,v,h=>by
  obtain⟨a,vs,e,t,x,q⟩:=h;exact#[a,vs,e,f.keep a _ t (λ_ z=>by cases z) (by intro _ z;cases z) λ_ _=>x,λz=>x (f.X a (by rw[t];intro z;cases z) z),q]
theorem Rq.lat(f:Lat Z H ρ' H'):∀{ds:List D}{xs:List V},Rq Z H ds xs->Rq ρ' H' ds xs
 |[],_,h=>by exact h
 |d::ds,xs,h=>by
  obtain⟨v,vs,e,r,rs⟩:=h;exact#[v,vs,e,r.lat f,rs.lat f]
end
def YS:bN:="law.<locals>.<lambda>"
def Tb(H:Hp):Prop:=∀(P:aH)(ps:Array az),H P=aa (.tbl ps)->oX ps.toList/\∀(pos:iE)(cv:az),ko pos ps.toList=aa cv->
 ∃(c:aH)(oc:fU)(vs:Array az)(t:Tok),cv=.ref c/\H c=aa (.frz oc<|.own c)/\oc.data=.fields vs/\vs[1]?=aa (.str YS t)
theorem Tb.upd(h:Tb H)(hp:∀ob u,H p≠aa (.frz ob u))(ho:∀ps,o≠.tbl ps):Tb (upd H p o):=λP ps e=>by
 by_cases z:P=p
 .subst z;rw[Zl]at e;cases e;exact T7 rfl<|ho ps
 .rw[Zj z]at e
  obtain⟨a,b⟩:=h P ps e;refine#[a,λpos cv q=>?_]
  obtain⟨c,oc,vs,t,e1,e2,e3⟩:=b pos cv q;exact#[c,oc,vs,t,e1,by rw[Zj λz=>hp oc (.own c) (by rw[<-z];exact e2)];exact e2,e3]
structure St3(K:ao)(Z:Mx)(S:ZO)(H:Hp):Prop where
 hk:Z.K=K
 xd:∀a,Z.X a->H a≠ai
 dw:∀a,Z.n0=aa a->H a=aa (.lst [.int S.1,.bl S.2])/\Pv.okS S.1 S.2=ak
 tb:Tb H
def Fut.lat(f:Fut Z H ρ' H'):Lat Z H ρ' H':=by
 obtain⟨rfl,f⟩:=f;exact#[rfl,rfl,λa o h x n _=>(f a o h).elim id λz=>z.elim (λz=>T7 (ρ'.xz a z.1) (let #[xs,e]:=z.2;x xs e))<|by rintro ⟨⟨ps,e⟩,_⟩;exact T7 e<|n ps,λ_ _ h=>h]
def Rep.mono(f:Fut Z H ρ' H')(h:Rep Z H d v):Rep ρ' H' d v:=h.lat f.lat
def Rq.mono(f:Fut Z H ρ' H')(h:Rq Z H d v):Rq ρ' H' d v:=h.lat f.lat
section
variable{Z:Mx}{H:Hp}{v:V}
def Rq.nil:Rq Z H [] []:=by rfl
def Rq.cons{d:D}{v:V}{ds:List D}{vs:List V}(r:Rep Z H d v)(rs:Rq Z H ds vs):Rq Z H (d::ds) (v::vs):=by
 exact#[v,vs,rfl,r,rs]
theorem Rq.length:∀{ds:List D}{xs:List V},Rq Z H ds xs->xs.length=ds.length
 |[],_,h=>by rw[h];rfl
 |d::ds,xs,h=>by
  obtain⟨v,vs,rfl,_,rs⟩:=h;rw[aV,aV,Rq.length rs]
theorem Rq.append:∀{ds es:List D}{xs ys:List V},Rq Z H ds xs->Rq Z H es ys->Rq Z H (ds++es) (xs++ys)
 |[],_,_,_,h,r=>by rw[h];exact r
 |d::ds,_,_,_,h,r=>by
  obtain⟨v,vs,rfl,a,rs⟩:=h;exact Rq.cons a<|Rq.append rs r
theorem Rq.take:∀{ds:List D}{xs:List V}k,Rq Z H ds xs->Rq Z H (ds.take k) (xs.take k)
 |_,_,0,_=>Rq.nil
 |[],_,k+1,h=>by rw[h];exact Rq.nil
 |d::ds,_,k+1,h=>by
  obtain⟨v,vs,rfl,a,rs⟩:=h;exact Rq.cons a<|Rq.take k rs
theorem Rq.drop:∀{ds:List D}{xs:List V}k,Rq Z H ds xs->Rq Z H (ds.drop k) (xs.drop k)
 |_,_,0,h=>h
 |[],_,k+1,h=>by rw[h];exact Rq.nil
 |d::ds,_,k+1,h=>by
  obtain⟨v,vs,rfl,a,rs⟩:=h;exact Rq.drop k rs
theorem Rq.get:∀{ds:List D}{xs:List V}{i:Nat}{d:D},Rq Z H ds xs->ds[i]?=aa d->∃v,xs[i]?=aa v/\Rep Z H d v
 |[],_,_,_,_,e=>by simp at e
 |d::ds,_,0,_,h,e=>by
  obtain⟨v,vs,rfl,a,rs⟩:=h;simp at e;subst e;exact#[v,rfl,a]
 |d::ds,_,i+1,_,h,e=>by
  obtain⟨v,vs,rfl,a,rs⟩:=h;obtain⟨u,q,r⟩:=Rq.get rs (by simpa using e)
  exact#[u,by simpa using q,r]
theorem Rq.reverse:∀{ds:List D}{xs:List V},Rq Z H ds xs->Rq Z H ds.reverse xs.reverse
 |[],_,h=>by rw[h];exact Rq.nil
 |d::ds,_,h=>by
  obtain⟨v,vs,rfl,a,rs⟩:=h;rw[eU,eU];exact Rq.append (Rq.reverse rs)<|Rq.cons a Rq.nil
theorem Rq.rep(h:Rq Z H ds xs):∀k,Rq Z H (au k ds).flatten (au k xs).flatten
 |0=>Rq.nil
 |k+1=>by
  rw[cr];exact Rq.append h<|Rq.rep h k
theorem Rq.ints:∀ns:List Int,Rq Z H (ns.map Pv.V.int) (ns.map V.int)
 |[]=>Rq.nil
 |n::ns=>Rq.cons #[7]<|Rq.ints ns
def Rep.int'(h:Rep Z H (.int i) v):v=.int i:=by exact h
def Rep.bl'(h:Rep Z H (.bl b) v):v=.bl b:=by exact h
def Rep.non'(h:Rep Z H .non v):v=.non:=by exact h
def Rep.str'(h:Rep Z H (.str x) v):v=.str x:=by exact h
def Rep.tup'(h:Rep Z H (.tup ds) v):∃a xs,v=.ref a/\H a=aa (.tup xs)/\Rq Z H ds xs:=by exact h
def Rep.lst'(h:Rep Z H (.lst ds) v):∃a xs,v=.ref a/\H a=aa (.lst xs)/\¬Z.X a/\Rq Z H ds xs:=by exact h
def Rep.drw'(h:Rep Z H .drw v):∃a,v=.ref a/\Z.n0=aa a:=by exact h
def Rep.dct'(h:Rep Z H (.dct o) v):∃a,v=.ref a/\Dct H a o:=by unfold Rep at h;exact h
def Rep.scr'(h:Rep Z H (.scr ns) v):∃a,v=.ref a/\Scr Z.K H a ns:=by exact h
def Rep.dow'(h:Rep Z H (.dow ks) v):∃a vs,v=.ref a/\H a=aa (.dT vs)/\¬Z.X a/\vs.map (·.1)=ks.map (·.map cS):=by exact h
def ZQ(i):Rep Z H (.int i) (.int i):=by rfl
def Ym(b):Rep Z H (.bl b) (.bl b):=by rfl
def UP:Rep Z H .non .non:=by rfl
def Zcu(x):Rep Z H (.str x) (.str x):=by rfl
def Xe(h:H a=aa (.tup xs))(r:Rq Z H ds xs):Rep Z H (.tup ds) (.ref a):=by exact#[a,xs,rfl,h,r]
def Wy(h:H a=aa (.lst xs))(x:¬Z.X a)(r:Rq Z H ds xs):Rep Z H (.lst ds) (.ref a):=by exact#[a,xs,rfl,h,x,r]
def Rep.seq(h:Rep Z H x v)(e:Pv.YA x=aa ds):∃p xs,v=.ref p/\(SqL Z.K H p xs\/SqT Z.K H p xs)/\Rq Z H ds xs:=by
 cases x with|tup es=>cases e;obtain⟨p,xs,rfl,h,r⟩:=h.tup';exact#[p,xs,rfl,.inr<|SqT.of h,r]|lst es=>cases e;obtain⟨p,xs,rfl,h,_,r⟩:=h.lst';exact#[p,xs,rfl,.inl<|SqL.of h,r]|scr ns=>cases e;obtain⟨p,e,q⟩:=h.scr';exact#[p,_,e,.inl q.sq,Rq.ints ns]|_=>cases e
end
structure LocR(Z:Mx)(H:Hp)(l:Lc)(O:L2.St):Prop where
 len:l.length=O.length
 val:∀(i:Nat)(d:D),l[i]?=aa (aa d)->∃v,O[i]?=aa (aa v)/\Rep Z H d v
theorem LocR.mono(f:Fut Z H ρ' H')(r:LocR Z H l O):LocR ρ' H' l O:=
 #[r.len,λi d e=>let #[v,q,h]:=r.val i d e;#[v,q,h.mono f]]
theorem LocR.set(r:LocR Z H l O)(i)(h:Rep Z H d v):LocR Z H (l.set i<|aa d) (O.set i<|aa v):=
 #[by rw[bC,bC];exact r.len,λj e q=>by
  rw[oy]at q ⊢;split at q
  .rename_i hij
   subst hij;split at q
   .rename_i hl
    cases q;rw[T9 rfl,T9 (by rw[<-r.len];exact hl)]
    exact#[v,rfl,h]
   .cases q
  .rename_i hij
   rw[T8 hij];exact r.val j e q]
def End{B β:Type}(K:ao)(xw:Nat->Hp->Prop)(rep:Mx->Hp->B->β->Prop)(Z:Mx)(H:Hp)(Q:β->Hp->Prop):R B->Prop
 |.ok d S=>∀ρ' H' v,Fut Z H ρ' H'->St3 K ρ' S H'->rep ρ' H' d v->Q v H'
 |.ex c S=>∀ρ' H',Fut Z H ρ' H'->St3 K ρ' S H'->xw c H'
 |.no=>False
section
variable{K:ao}{xw:Nat->Hp->Prop}{Z ρ':Mx}{H H':Hp}{B β α' β':Type}{rep:Mx->Hp->B->β->Prop}{rep':Mx->Hp->α'->β'->Prop}
def End.mono{Q:β->Hp->Prop}(f:Fut Z H ρ' H')(h:End K xw rep Z H Q r):End K xw rep ρ' H' Q r:=by
 cases r with|ok d S=>exact λρ2 H2 v g st r=>h ρ2 H2 v (f.trans g) st r|ex c S=>exact λρ2 H2 g st=>h ρ2 H2 (f.trans g) st|no=>exact h
theorem End.bind(h:End K xw rep' Z H Q (r.bind f))
  (k:∀d S ρ1 H1 v,Fut Z H ρ1 H1->St3 K ρ1 S H1->rep ρ1 H1 d v->End K xw rep' ρ1 H1 Q (f d S)->Q1 v H1):End K xw rep Z H Q1 r:=by
 cases r with|ok d S=>exact λρ1 H1 v g st r=>k d S ρ1 H1 v g st r<|End.mono g h|ex c S=>exact h|no=>exact h
theorem End.ok(h:End K xw rep Z H Q (.ok a S))(st:St3 K Z S H)(r:rep Z H a v):Q v H:=h Z H v (Fut.refl Z H) st r
def End.ob(h:End K xw rep' Z H Q ((Pv.po o S).bind f)):∃a,o=aa a/\End K xw rep' Z H Q (f a S):=by
 cases o with|none=>exact h.elim|some a=>exact#[a,rfl,h]
theorem End.po(h:End K xw rep Z H Q (Pv.po o S)):∃a,o=aa a/\End K xw rep Z H Q (.ok a S):=by
 cases o with|none=>exact h.elim|some a=>exact#[a,rfl,h]
theorem End.map(h:End K xw rep Z H Q (Pv.po (o.map f) S)):∃a,o=aa a/\End K xw rep Z H Q (.ok (f a) S):=by
 cases o with|none=>exact h.elim|some a=>exact#[a,rfl,h]
def End.ite{c:Prop}[Decidable c](h:End K xw rep Z H Q (if c then a else b)):(c/\End K xw rep Z H Q a)\/(¬c/\End K xw rep Z H Q b):=by
 split at h
 .exact .inl #[‹_›,h]
 .exact .inr #[‹_›,h]
def End.guard{c:Prop}[Decidable c](h:End K xw rep Z H Q (if c then a else .no)):c/\End K xw rep Z H Q a:=by
 rcases h.ite with h|⟨_,h⟩
 .exact h
 .exact h.elim
end
abbrev nx:Nat->Hp->Prop:=λ_ _=>False
theorem End.nox{B β:Type}{K:ao}{rep:Mx->Hp->B->β->Prop}{Q:β->Hp->Prop}{r:R B}(h:End K xw rep Z H Q r.nox):End K nx rep Z H Q r:=by
 cases r with|ok d S=>exact h|ex c S=>exact h.elim|no=>exact h
def U7(_:Mx)(_:Hp)(a b:Bool):Prop:=a=b
def Zh5(_:Mx)(_:Hp)(a b:Option Int):Prop:=a=b
section
variable(X:Cx)(xw:Nat->Hp->Prop)
def tE(f:Lc->ZO->R D):TE:=λO H Q=>∃Z l S,St3 X.K Z S H/\LocR Z H l O/\End X.K xw Rep Z H Q (f l S)
def tA(f:Lc->ZO->R (List D)):TA:=λO H Q=>∃Z l S,St3 X.K Z S H/\LocR Z H l O/\End X.K xw Rq Z H Q (f l S)
def tB3(f:Lc->ZO->R Bool):TT:=λO H Q=>∃Z l S,St3 X.K Z S H/\LocR Z H l O/\End X.K xw U7 Z H Q (f l S)
def tO(f:Lc->ZO->R (Option Int)):TO:=λO H Q=>∃Z l S,St3 X.K Z S H/\LocR Z H l O/\End X.K xw Zh5 Z H Q (f l S)
variable(C:Calls)
structure CE(e:Expr)(i:E):Prop where
 h:PE X e (tE X xw<|Pv.pv C i)
structure CT(e:Expr)(i:E):Prop where
 h:PT X e (tB3 X xw<|Pv.YO C i)
structure CA(es:List Expr)(is:List E):Prop where
 h:PA X es (tA X xw<|Pv.pvs C is)
structure CO(e:Option Expr)(i:Option E):Prop where
 h:PO X e (tO X xw<|Pv.pvo C i)
end
def PE.imp(h:PE X e t)(k:∀O H Q,t' O H Q->t O H Q):PE X e t':=λpq s O H Q I q=>h pq s O H Q I<|k O H Q q
def PT.imp(h:PT X e t)(k:∀O H Q,t' O H Q->t O H Q):PT X e t':=λpq s O H Q I q=>h pq s O H Q I<|k O H Q q
def PA.imp(h:PA X e t)(k:∀O H Q,t' O H Q->t O H Q):PA X e t':=λpos pq s O H Q I q=>h pos pq s O H Q I<|k O H Q q
def PO.imp(h:PO X e t)(k:∀O H Q,t' O H Q->t O H Q):PO X e t':=λpq s O H Q I q=>h pq s O H Q I<|k O H Q q
section
variable{K:ao}{Z ρ':Mx}{S:ZO}{H H':Hp}{a p:aH}
def Zs(hp:H p=ai):Fut Z H Z (upd H p o):=#[rfl,λb u h=>.inl (by rw[Zj<|ZU h hp];exact h)]
def St3.fresh(st:St3 K Z S H)(hp:H p=ai)(ho:∀ps,o≠.tbl ps:=by intro _ z;cases z):St3 K Z S (upd H p o):=
 have n:∀b,H b≠ai->b≠p:=λb h z=>h (by rw[z];exact hp)
 #[st.hk,λb h=>by rw[Zj<|n b<|st.xd b h];exact st.xd b h,λb h=>by
  have:=st.dw b h;rw[Zj<|n b (by rw[this.1];intro z;cases z)];exact this,st.tb.upd (λob u z=>by rw[hp]at z;cases z) ho]
def St3.nx(st:St3 K Z S H)(hp:H p=ai):¬Z.X p:=λz=>st.xd p z hp
end
def Uc:Ev.lim=a9:=by rw[cW];rfl
section
variable{K:ao}{xw:Nat->Hp->Prop}{Z:Mx}{H:Hp}{S:ZO}{Q:VK}
def End.newT(h:End K xw Rep Z H Q (.ok (.tup ds) S))(st:St3 K Z S H)(r:Rq Z H ds xs):∀p,H p=ai->Q (.ref p) (upd H p<|.tup xs):=λp hp=>
 h Z _ _ (Zs hp) (st.fresh hp) (Xe Zl<|r.mono<|Zs hp)
def End.newL(h:End K xw Rep Z H Q (.ok (.lst ds) S))(st:St3 K Z S H)(r:Rq Z H ds xs):∀p,H p=ai->Q (.ref p) (upd H p<|.lst xs):=λp hp=>
 h Z _ _ (Zs hp) (st.fresh hp) (Wy Zl (st.nx hp)<|r.mono<|Zs hp)
end
section
variable{X:Cx}{xw:Nat->Hp->Prop}{C:Calls}{e a b c:Expr}{i j k:E}{pos:iE}
def ZfF{q}:CE X xw C (.Constant (.int n) q pos) (.c<|.int n):=.mk <| PE.imp Qw<|by left;exact End.ok h st<|ZQ n
def ZhM{q}:CE X xw C (.Constant (.bool n) q pos) (.c<|.bl n):=.mk <| PE.imp ud<|by left;exact End.ok h st<|Ym n
def ZfX{q}:CE X xw C (.Constant .none q pos) (.c .non):=.mk <| PE.imp wa<|by left;exact End.ok h st UP
def Zf0{q}:CE X xw C (.Constant (.str x) q pos) (.c<|.str x):=.mk <| PE.imp Zbu<|by left;exact End.ok h st<|Zcu x
def ZhT(n)(hN:X.N[n]?=aa x)(hv:Vis X.env.scope x)(hd:(x == ("__debug__" : bN))=aj)
  (hcd:(x == ("__classdict__" : bN))=aj):CE X xw C (.Name x pos) (.v n):=.mk <| PE.imp (Yx hN hv hd hcd)<|by
 left;rw[Pv.pE2]at h;cases q:l[n]? with
 |none=>rw[q]at h;exact h.elim
 |some o=>
  cases o with
  |none=>rw[q]at h;exact h.elim
  |some d=>
   rw[q]at h;obtain⟨v,q2,r⟩:=lr.val n d q;exact#[v,q2,End.ok h st r]
def ZfH:CA X xw C [] []:=.mk <| PA.imp Yw<|by
 left;rw[Pv.pvs]at h;exact End.ok h st Rq.nil
def ZcY(ha:CE X xw C e i)(hr:CA X xw C es is)(hs:ay (e::es) X.env=(aj,cz e X.env)::ay es X.env):CA X xw C (e::es) (i::is):=.mk <|
 PA.imp (ZG ha.h hr.h hs)<|by
  left;rw[Pv.pvs]at h;exact#[Z,l,S,st,lr,h.bind λx S1 ρ1 H1 v f1 st1 r1 h1=>#[ρ1,l,S1,st1,lr.mono f1,h1.bind λxs S2 ρ2 H2 vs f2 st2 r2 h2=>h2.ok st2<|Rq.cons (r1.mono f2) r2]]
def Zfx{es:List Expr}{is:List E}{q}(h:CA X xw C es is):CE X xw C (.Tuple es q pos) (.tup is):=.mk <| PE.imp (ZbU h.h)<|by
 left;rw[Pv.pE3]at h;refine#[Z,l,S,st,lr,h.bind λxs S1 ρ1 H1 vs f1 st1 r1 h1=>?_]
 obtain⟨hl,h1⟩:=h1.guard;exact#[by rw[r1.length];exact hl,h1.newT st1 r1]
def We{g:D->D->ZO->R D}(hg:∀{Z H S x y v u Q},St3 X.K Z S H->Rep Z H x v->Rep Z H y u->End X.K xw Rep Z H Q (g x y S)->r v u H Q) :
  ∀O H Q,tE X xw (λl S=>(Pv.pv C i l S).bind λx S=>(Pv.pv C j l S).bind λy S=>g x y S) O H Q->tOp r (tE X xw<|Pv.pv C i) (tE X xw<|Pv.pv C j) O H Q:=λO H Q #[Z,l,S,st,lr,h]=>
 #[Z,l,S,st,lr,h.bind λx S1 ρ1 H1 v f1 st1 r1 h1=>#[ρ1,l,S1,st1,lr.mono f1,h1.bind λy S2 ρ2 H2 u f2 st2 r2 h2=>hg st2 (r1.mono f2) r2 h2]]
end
def ZbG(K:ao):R2:=λx y H Q=>∃a b ys,x=.ref a/\y=.ref b/\SqT K H a []/\SqT K H b ys/\Q (.ref b) H
def ZbO:OpR X (eT .Add) (ZbG X.K):=by
 intro pq s O H x y v u Q I rx ry h;obtain⟨a,b,ys,rfl,rfl,ha,hb,q⟩:=h;cases rx;cases ry;obtain⟨its,r1,p1,_⟩:=I.tuple ha;obtain⟨its2,r2,p2,_⟩:=I.tuple hb;obtain⟨⟨cls,dd,data,sl⟩,ho,hc,n,hd⟩:=id p1;obtain⟨⟨cls2,dd2,data2,sl2⟩,ho2,hc2,n2,hd2⟩:=id p2;subst hc hd hc2 hd2;exact oq #[_,ho,rfl] #[_,ho2,rfl] lH nq iu h8 (gJ _ _)
   (tuple_addW0 a b its.toArray its2.toArray n n2 dd dd2 sl sl2<|by rw[(r1.nil_iff.mpr rfl)];rfl) #[ho,ho2,#[.ref b,H,I,rfl,q]]
def Zh6(K:ao):V->Option Int->Option Int->Hp->VK->Prop:=λx lo hi H Q=>∃a xs,x=.ref a/\SqT K H a xs/\
 (HT.sIx xs.length 0 lo=0/\HT.sIx xs.length xs.length hi=xs.length)/\Q (.ref a) H
def WL{w:bV}{A:cw}{E:az->aF->Prop}{s:aF}{t sl:aH}{vl vu:az}{lo hi:Option Int}(ht:n6 s.heap t items)(hs:s.heap.IsSliceOf sl vl vu .none)(pl:kx vl lo)(pu:kx vu hi)
  (hw:HT.sIx items.size 0 lo=0/\HT.sIx items.size items.size hi=items.size)(h:Q (.ref t) s):aW (aR prog w) A (k6 (.ref t)<|.ref sl) Q E s:=by
 obtain⟨os,hos,hcs,hds⟩:=id hs;have hTs:s.TypeIs (.ref sl) "slice":=#[os,hos,hcs];unfold k6
 try with_reducible refine bI ?_
 first|refine ae<|av ?_|skip
 refine ae<|k7 ht.typeIs #[1] ?_
 refine ae (cn ht.typeIs cE
  (cc cE ht.typeIs kh ?_<|kA _ _))
 show aW _ _ (gn (.ref t) >>= _) _ _ s;refine ae<|nr ht ?_;refine ae<|fH hTs ?_;rw[T9 #[1]]
 refine ae<|HT.Xs hs pl pu ?_;have hyes:((((HT.sIx items.size 0 lo:Nat):Int) == 0&&(1:Int) == 1&&(HT.sIx items.size items.size hi-HT.sIx items.size 0 lo) == items.size)=ak):=by
  rw[hw.1,hw.2];simp
 show aW _ _ (if(((HT.sIx items.size 0 lo:Nat):Int) == 0&&(1:Int) == 1&&(HT.sIx items.size items.size hi-HT.sIx items.size 0 lo) == items.size)=ak then _ else _) _ _ s
 rw[T9 hyes];refine ae<|ae<|fH ht.typeIs<|av ?_;rw[T9 #[1]]
 exact ae<|gp<|av #[_,rfl,av h]
def j5:SlR X (Zh6 X.K):=by
 intro pq s O H x v vl vu lo hi sl Q I rx hs pl pu h;obtain⟨a,xs,rfl,hx,hw,q⟩:=h;cases rx;obtain⟨its,r,ht,hz⟩:=I.tuple hx;have hlen:its.toArray.size=xs.length:=by rw[aC];exact r.length.symm
 refine#["tuple",_,cE.lookup,ht.typeIs,?_];exact WL ht hs pl pu (by rw[hlen];exact hw) #[.ref a,H,I,rfl,q]
def w4(h:Ev.fits i=ak):m8 i<=2^20:=by
 unfold m8;split
 .exact db _
 .rename_i hz
  have hne:i.natAbs≠0:=by intro z;exact hz (by simp[Int.natAbs_eq_zero.mp z])
  have:=(Nat.log2_lt hne).mpr<|T6 h
  omega
def qR:OpR X (eT .FloorDiv) (rI (λ_ j=>0<j/\j<Ev.big) λi j=>.int<|i / j):=opI λi j _ _ _ _ _ hc q=>by
 have hne:j.natAbs≠0:=by omega
 have h3:j.natAbs<2^8000:=by
  have e:(j.natAbs:Int)=j:=Int.natAbs_of_nonneg #[3]
  have h4:(j.natAbs:Int)<((2^8000:Nat):Int):=by rw[e];exact hc.2
  exact Int.ofNat_lt.mp h4
 have h5:=(Nat.log2_lt hne).mpr h3;exact floordiv_int #[3] (by rw[Int.fdiv_eq_ediv_of_nonneg i #[3]];exact q)<|.inl<|PyProof.noPylong_of_log2 #[3]
def Zdf:OpR X (eT .Mult) (rI (λi j=>Ev.fits i=ak/\Ev.fits j=ak) λi j=>.int<|i*j):=opI λ_ _ _ _ _ _ _ hc q=>mul_int q<|IntMulOk.of_bits (w4 hc.1)<|w4 hc.2
def Zfr:OpR X (cU .Is) (λx y H Q=>∃a b,x=.bl a/\y=.bl b/\Q (.bl<|ag<|a=b) H):=by
 intro pq s O H x y v u Q I rx ry h;obtain⟨a,b,rfl,rfl,q⟩:=h;cases rx;cases ry;cases a<;>cases b<;>exact av #[.bl _,H,I,rfl,q]
def Q4:fillsNumberSlot (.type "tuple") "mul" = cJ aj:=
 PySem.fillsNumberSlot_seq lJ.lookup (by decide +kernel) F.slot_tuple_rmul.lookup (by decide +kernel)
def J7:seqRepeat? (.type "tuple")=cJ (aa<|.builtin "tuple.__mul__"):=by
 unfold seqRepeat?
 rw[PySem.seqSlot_of (name:="__mul__") lJ.lookup (by decide +kernel)]
 rfl
def QW(a t l items)(n:Nat)(dd sl) :
  sh (dP.«int.__rmul__» #[[.int a t,.ref l],[]]) (λ_ R s=>s.heap.get? l=aa {cls:=.type "tuple",dict:=dd,data:=.seq items n,slots:=sl}/\R (.ok<|.ret az.notImplemented) s):=
 .of_wp λprog w A R s h=>by obtain⟨hp,g,d,tk,os⟩:=s;obtain⟨hl,h⟩:=h;wp_walk;exact#[_,rfl,h]
def Gf(l:aH)(items)(n:Nat)(dd:Option aH)(sl)(x:Int)(u:Tok)(h0:¬(x < -(2^63)||x>=2^63)=ak)(hc:(items.isEmpty||x == 1)=ak) :
  sh (dP.«tuple.__mul__» #[[.ref l,.int x u],[]]) (λ_ R s=>s.heap.get? l=aa {cls:=.type "tuple",dict:=dd,data:=.seq items n,slots:=sl}/\R (.ok<|.ret<|cT l) {s with heap:=s.heap,toks:=s.toks}):=
 .of_wp λprog w A R s h=>by obtain⟨hp,g,d,tk,os⟩:=s;obtain⟨hl,h⟩:=h;have f1:=lI;have f2:=gK;wp_walk;rw[T8 h0];wp_walk using d4 hl;exact#[_,rfl,h]
def Gh(l:aH)(items)(n:Nat)(dd:Option aH)(sl)(x:Int)(u:Tok)(h0:¬(x < -(2^63)||x>=2^63)=ak)(hc:¬(items.isEmpty||x == 1)=ak)(h1:(x<=0||items.isEmpty)=ak) :
  sh (dP.«tuple.__mul__» #[[.ref l,.int x u],[]]) (λ_ R s=>s.heap.get? l=aa {cls:=.type "tuple",dict:=dd,data:=.seq items n,slots:=sl}/\R (.ok<|.ret<|cT s.heap.objs.size) {s with heap:=s.heap.push {cls:=.type "tuple",data:=.seq #[]},toks:=s.toks}):=
 .of_wp λprog w A R s h=>by obtain⟨hp,g,d,tk,os⟩:=s;obtain⟨hl,h⟩:=h;have f1:=lI;have f2:=gK;wp_walk;rw[T8 h0];wp_walk using d4 hl;exact#[_,rfl,h]
def yx(l:aH)(items:Array az)(n:Nat)(dd:Option aH)(sl:Array (Option az))(x:Int)(u:Tok)(h0:¬(x < -(2^63)||x>=2^63)=ak)(hc:¬(items.isEmpty||x == 1)=ak)(h1:¬(x<=0||items.isEmpty)=ak)
  (h2:¬(items.size*x>(2^63-1) / 8))(h3:¬kF (items.size*x)=ak)(hsz:((au x.toNat items).foldl (·++·) #[]).size<=a9) :
  sh (dP.«tuple.__mul__» #[[.ref l,.int x u],[]]) (λ_ R s=>s.heap.get? l=aa {cls:=.type "tuple",dict:=dd,data:=.seq items n,slots:=sl}/\R (.ok<|.ret<|cT s.heap.objs.size) {s with heap:=s.heap.push {cls:=.type "tuple",data:=.seq ((au x.toNat items).foldl (·++·) #[])},toks:=s.toks}):=
 .of_wp λprog w A R s h=>by obtain⟨hp,g,d,tk,os⟩:=s;obtain⟨hl,h⟩:=h;have f1:=lI;have f2:=gK;wp_walk;rw[T8 h0];wp_walk using d4 hl;rw[T8 h2];wp_walk using d4 hl;exact#[_,rfl,h]
def ZeE(K:ao):R2:=λx y H Q=>∃a k xs,x=.ref a/\y=.int k/\SqT K H a xs/\(0<=k/\k<1000/\xs.length<=1000)/\
 ((xs=[]\/k=1)->Q (.ref a) H)/\(¬(xs=[]\/k=1)->∀p,H p=ai->Q (.ref p) (upd H p<|.tup (au k.toNat xs).flatten))
def ZdF :OpR X (eT .Mult) (ZeE X.K):=by
 intro pq s O H x y v u Q I rx ry h;obtain⟨a,k,xs,rfl,rfl,hx,⟨k0,k1,hz⟩,q1,q2⟩:=h;cases rx;obtain⟨t,rfl⟩:=ry;obtain⟨its,r,pt,_⟩:=I.tuple hx;have hl:=r.length;obtain⟨⟨cls,dd,data,sl⟩,ho,hc,n,hd⟩:=id pt;simp only at hc hd;subst hc hd;have h0:¬(ag (k < -(2^63))||decide (k>=2^63))=ak:=by
  rw[T4 #[0],T4 #[0]];exact aP
 refine kX #[1] #[_,ho,rfl] (λs'=>md s' k t) Q4 pI i6 J7 F.slot_int_index.lookup
  (g8 i6 (md s k t) oY (oz _ _) (QW k t a its.toArray n dd sl) #[ho,rfl,#[_,ho,rfl],?_])
 have hnil:=r.nil_iff;by_cases c:xs=[]\/k=1
 .have c':(its.toArray.isEmpty||k == 1)=ak:=by
   rcases c with c|c
   .rw[hnil.mpr c];rfl
   .rw[c];simp
  exact g8 lJ #[_,ho,rfl] lg (kG _ _) (Gf a its.toArray n dd sl k t h0 c') #[ho,#[.ref a,H,I,rfl,q1 c]]
 .have ne:=λz=>c (.inl<|hnil.mp z)
  have k1:k≠1:=λz=>c<|.inr z
  have c':¬(its.toArray.isEmpty||k == 1)=ak:=by
   rw[beq_eq_false_iff_ne.mpr k1,Bool.or_false,iU];cases its with|nil=>exact T7 rfl ne|cons _ _=>exact aP
  have fin:∀arr:List az,arr=(au k.toNat its).flatten->EP X pq O Q (cT s.heap.objs.size) {s with heap:=s.heap.push {cls:=.type "tuple",data:=.seq arr.toArray}}:=λarr e=>by
   subst e;refine#[.ref s.heap.objs.size,_,I.laid (t':=s.toks) (λb ob q=>aq _ q) (aI _) ?_,rfl,q2 c _<|I.hok.fresh<|aI _]
   refine#[?_,_,r.rep k.toNat,kn _ _];rw[GD,cW];have:k.toNat*xs.length<=1000*1000:=mM #[0] hz
   lia
  by_cases z:k=0
  .have h1:(ag (k<=0)||its.toArray.isEmpty)=ak:=by rw[z];rfl
   refine g8 lJ #[_,ho,rfl] lg (kG _ _) (Gh a its.toArray n dd sl k t h0 c' h1) #[ho,?_];exact fin [] (by rw[z];rfl)
  .have h1:¬(ag (k<=0)||its.toArray.isEmpty)=ak:=by
    rw[T4 #[0],lw,iU]
    cases its with|nil=>exact T7 rfl ne|cons _ _=>exact aP
   have hm:(its.toArray.size:Int)*k<=1000*1000:=by
    rw[aC,<-hl];exact Int.mul_le_mul #[0] #[0] k0 #[0]
   have joined:(au k.toNat its.toArray).foldl (·++·) #[]=(au k.toNat its).flatten.toArray:=by
    have:=VR its k.toNat [];rw[gT]at this;exact this
   have hsz:((au k.toNat its.toArray).foldl (·++·) #[]).size<=a9:=by
    rw[joined,aC,GD,cW,<-hl];have:k.toNat*xs.length<=1000*1000:=mM #[0] hz
    lia
   refine g8 lJ #[_,ho,rfl] lg (kG _ _) (yx a its.toArray n dd sl k t h0 c' h1 #[0] (by
    unfold kF;rw[T4 (by rw[cW];lia)]
    exact aP) hsz) #[ho,?_]
   rw[joined];exact fin _ rfl
def ZeI:R2:=λx y H Q=>∃a k xs,x=.ref a/\y=.int k/\H a=aa (.lst xs)/\(0<=k/\k<1000/\xs.length<=1000)/\∀p,H p=ai->Q (.ref p) (upd H p<|.lst (au k.toNat xs).flatten)
def ZdA :OpR X (eT .Mult) ZeI:=by
 intro pq s O H x y v u Q I rx ry h;obtain⟨a,k,xs,rfl,rfl,hx,⟨k0,k1,hz⟩,q2⟩:=h;cases rx;obtain⟨t,rfl⟩:=ry;obtain⟨its,r,pl,_⟩:=I.list<|SqL.of hx;have hl:=r.length;obtain⟨⟨cls,dd,data,sl⟩,n,ho,hc,hd2,hd⟩:=id pl;simp only at hc hd hd2;subst hc hd;have hm:k.toNat*its.length<=1000*1000:=mM #[0] #[0]
 have hm2:its.length*k.toNat<=1000*1000:=by rw[oA];exact hm
 refine kX #[1] #[_,ho,rfl] (λs'=>md s' k t) noFill_list_mul pI i6 repeat_list F.slot_int_index.lookup
  (g8 i6 (md s k t) oY (oz _ _) (lm_int_rmul_list_any k t a its.toArray n dd sl) #[ho,rfl,#[_,ho,rfl],
   g8 F.slot_list_mul #[_,ho,rfl] F.entry_list_mul (F.args_list_mul_2 _ _) (lm_list_mul_any a its.toArray n dd sl k t (by simp[dP.List.listFitsIndex];lia) (by rw[aC];lia)<|by rw[aC];simp[dP.List.listTooLong,a9];lia) #[ho,?_]])
 have joined:(au (if its.toArray.isEmpty=ak then 0 else k.toNat) its.toArray).foldl (λx1 x2=>x1++x2) #[]=(au k.toNat its).flatten.toArray:=by
  have h0:=VR its k.toNat [];rw[gT]at h0;by_cases z:its=[]
  .subst z
   have e:∀m:Nat,(au m ([]:List az)).flatten=[]:=λm=>by induction m with|zero=>rfl|succ m ih=>rw[cr,eV,ih];rfl
   rw[e];rfl
  .rw[T8 (by rw[iU];cases its with|nil=>exact T7 rfl z|cons _ _=>exact aP)]
   exact h0
 rw[joined];refine#[.ref s.heap.objs.size,_,I.laid (t':=s.toks) (λb ob q=>aq _ q) (aI _) ?_,rfl,q2 _<|I.hok.fresh<|aI _]
 refine#[?_,_,0,r.rep k.toNat,aE _ rfl];rw[GD,cW];rw[hl];lia
section
variable{X:Cx}{xw:Nat->Hp->Prop}{C:Calls}{e a b c:Expr}{i j k:E}{pos:iE}
variable{Z:Mx}{H:Hp}{S:ZO}{x y:D}{v u:V}{Q:VK}{K:ao}
def Zey(K:ao):R2:=λx y H Q=>rI0 (λi j=>.int<|i+j) x y H Q\/(Zex K x y H Q\/(ZbG K x y H Q\/ZdC x y H Q))
def Zdc:OpR X (eT .Add) (Zey X.K):=Ze6.or<|ZcN.or<|ZbO.or Gm
def Zgb(st:St3 K Z S H)(rx:Rep Z H x v)(ry:Rep Z H y u)(h:End K xw Rep Z H Q (Pv.X4 .add x y S)):Zey K v u H Q:=by
 cases x with
 |int i=>cases y with|int j=>exact .inl #[i,j,rx.int',ry.int',End.ok h st<|ZQ _]|_=>exact False.elim h
 |tup ds=>cases y with
  |tup es=>
   obtain⟨hl,h⟩:=End.guard h;obtain⟨p,xs,rfl,hp,r1⟩:=rx.tup';obtain⟨q,ys,rfl,hq,r2⟩:=ry.tup';have l1:=r1.length;have l2:=r2.length;by_cases z:xs=[]
   .subst z
    have e1:=fv.mp l1.symm;subst e1;exact .inr<|.inr<|.inl #[p,q,ys,rfl,rfl,SqT.of hp,SqT.of hq,End.ok h st<|Xe hq r2]
   .refine .inr (.inl #[p,q,xs,ys,rfl,rfl,SqT.of hp,SqT.of hq,z,by rw[l1,l2];exact hl,λz2=>?_,λ_=>h.newT st<|r1.append r2])
    subst z2;have e2:=fv.mp l2.symm;subst e2;refine End.ok h st ?_;rw[cf];exact Xe hp r1
  |_=>exact False.elim h
 |lst ds=>cases y with
  |lst es=>
   obtain⟨hl,h⟩:=End.guard h;obtain⟨p,xs,rfl,hp,_,r1⟩:=rx.lst';obtain⟨q,ys,rfl,hq,_,r2⟩:=ry.lst';exact .inr<|.inr<|.inr #[p,q,xs,ys,rfl,rfl,hp,hq,by rw[r1.length,r2.length];exact hl,h.newL st<|r1.append r2]
  |_=>exact False.elim h
 |_=>cases y<;>exact False.elim h
def Zgj(st:St3 K Z S H)(rx:Rep Z H x v)(ry:Rep Z H y u)(h:End K xw Rep Z H Q (Pv.X4 .sub x y S)):rI0 (λi j=>.int<|i-j) v u H Q:=by
 cases x with
 |int i=>cases y with|int j=>exact#[i,j,rx.int',ry.int',End.ok h st<|ZQ _]|_=>exact False.elim h
 |_=>cases y<;>exact False.elim h
def Zej(K:ao):R2:=λx y H Q=>rI (λi j=>Ev.fits i=ak/\Ev.fits j=ak) (λi j=>.int<|i*j) x y H Q\/(ZeE K x y H Q\/ZeI x y H Q)
def Zco:OpR X (eT .Mult) (Zej X.K):=Zdf.or<|ZdF.or ZdA
def ZeY(st:St3 K Z S H)(rx:Rep Z H x v)(ry:Rep Z H y u)(h:End K xw Rep Z H Q (Pv.X4 .mul x y S)):Zej K v u H Q:=by
 cases x with
 |int i=>cases y with
  |int j=>
   obtain⟨hc,h⟩:=End.guard h;exact .inl #[i,j,rx.int',ry.int',(aB _ _).mp hc,End.ok h st<|ZQ _]
  |_=>exact False.elim h
 |tup ds=>cases y with
  |int k=>
   obtain⟨⟨h0,h1,h2⟩,h⟩:=End.guard h;obtain⟨p,xs,rfl,hp,r1⟩:=rx.tup';have l1:=r1.length;refine .inr <| .inl #[p,k,xs,rfl,ry.int',SqT.of hp,#[h0,h1,by rw[l1];exact h2],λz=>?_,λ_=>h.newT st<|r1.rep k.toNat]
   refine End.ok h st<|Xe hp ?_;rcases z with z|z
   .subst z
    have e1:=fv.mp l1.symm;subst e1;have:∀m,(au m ([]:List D)).flatten=[]:=λm=>by induction m with|zero=>rfl|succ m ih=>rw[cr,eV,ih];rfl
    rw[this];exact Rq.nil
   .subst z
    show Rq Z H (au 1 ds).flatten xs;rw[cr,List.replicate_zero,eV,List.flatten_nil,cf];exact r1
  |_=>exact False.elim h
 |lst ds=>cases y with
  |int k=>
   obtain⟨⟨h0,h1,h2⟩,h⟩:=End.guard h;obtain⟨p,xs,rfl,hp,_,r1⟩:=rx.lst';exact .inr<|.inr #[p,k,xs,rfl,ry.int',hp,#[h0,h1,by rw[r1.length];exact h2],h.newL st<|r1.rep k.toNat]
  |_=>exact False.elim h
 |_=>cases y<;>exact False.elim h
def Zdd(st:St3 K Z S H)(rx:Rep Z H x v)(ry:Rep Z H y u)(h:End K xw Rep Z H Q (Pv.X4 .fdiv x y S)):rI (λ_ j=>0<j/\j<Ev.big) (λi j=>.int<|i / j) v u H Q:=by
 cases x with
 |int i=>cases y with
  |int j=>
   obtain⟨hc,h⟩:=End.guard h;exact#[i,j,rx.int',ry.int',hc,End.ok h st<|ZQ _]
  |_=>exact False.elim h
 |_=>cases y<;>exact False.elim h
def Ze0(st:St3 K Z S H)(rx:Rep Z H x v)(ry:Rep Z H y u)(h:End K xw Rep Z H Q (Pv.X4 .mod x y S)):rI (λ_ j=>0<j) (λi j=>.int<|i%j) v u H Q:=by
 cases x with
 |int i=>cases y with
  |int j=>
   obtain⟨hc,h⟩:=End.guard h;exact#[i,j,rx.int',ry.int',hc,End.ok h st<|ZQ _]
  |_=>exact False.elim h
 |_=>cases y<;>exact False.elim h
theorem Zgy(st:St3 K Z S H)(rx:Rep Z H x v)(ry:Rep Z H y u)(h:End K xw Rep Z H Q (Pv.X4 .pow x y S)):rI CPow (λi j=>.int<|i^j.toNat) v u H Q:=by
 cases x with
 |int i=>cases y with
  |int j=>
   obtain⟨hc,h⟩:=End.guard h;exact#[i,j,rx.int',ry.int',#[hc.1,by lia,hc.2.2],End.ok h st<|ZQ _]
  |_=>exact False.elim h
 |_=>cases y<;>exact False.elim h
def Ze7(ha:CE X xw C a i)(hb:CE X xw C b j):CE X xw C (.BinOp a .Add b pos) (.bin .add i j):=.mk <| PE.imp (VD Zdc ha.h hb.h) (We λst rx ry h=>Zgb st rx ry h)
def Zfa(ha:CE X xw C a i)(hb:CE X xw C b j):CE X xw C (.BinOp a .Sub b pos) (.bin .sub i j):=.mk <| PE.imp (VD Zfn ha.h hb.h) (We λst rx ry h=>Zgj st rx ry h)
def ZgG(ha:CE X xw C a i)(hb:CE X xw C b j):CE X xw C (.BinOp a .Mult b pos) (.bin .mul i j):=.mk <| PE.imp (VD Zco ha.h hb.h) (We λst rx ry h=>ZeY st rx ry h)
def ZdD(ha:CE X xw C a i)(hb:CE X xw C b j):CE X xw C (.BinOp a .FloorDiv b pos) (.bin .fdiv i j):=.mk <| PE.imp (VD qR ha.h hb.h) (We λst rx ry h=>Zdd st rx ry h)
def Zfj(ha:CE X xw C a i)(hb:CE X xw C b j):CE X xw C (.BinOp a .Mod b pos) (.bin .mod i j):=.mk <| PE.imp (VD Zfv ha.h hb.h) (We λst rx ry h=>Ze0 st rx ry h)
def ZeR(ha:CE X xw C a i)(hb:CE X xw C b j):CE X xw C (.BinOp a .Pow b pos) (.bin .pow i j):=.mk <| PE.imp (VD ZfI ha.h hb.h) (We λst rx ry h=>Zgy st rx ry h)
def ZfK(ha:CE X xw C a i):CE X xw C (.UnaryOp .USub a pos) (.neg i):=.mk <| PE.imp (Zd9 qS ha.h)<|by
 left;refine#[Z,l,S,st,lr,End.bind (h) λx S1 ρ1 H1 v f1 st1 r1 h1=>?_]
 cases x with|int n=>exact#[n,r1.int',End.ok h1 st1<|ZQ _]|_=>exact False.elim h1
def yX(st:St3 K Z S H)(rx:Rep Z H x v)(h:Pv.Zz x=aa n):Zd7 K v H n:=by
 cases x with
 |non=>rw[rx.non'];exact(ap h).symm
 |bl b=>rw[rx.bl'];exact(ap h).symm
 |int i=>
  rw[rx.int'];rw[<-(ap h)];by_cases z:i=0
  .subst z;rfl
  .rw[T5 z];exact(bne_iff_ne.mpr z).symm
 |tup ds=>
  obtain⟨p,xs,rfl,hp,r⟩:=rx.tup';refine .inr<|.inl #[xs,SqT.of hp,?_];rw[<-(ap h)];have:=r.length;cases ds<;>cases xs<;>first|rfl|(simp at this)
 |lst ds=>
  obtain⟨p,xs,rfl,hp,_,r⟩:=rx.lst';refine .inl #[xs,SqL.of hp,?_];rw[<-ap h];have:=r.length;cases ds<;>cases xs<;>first|rfl|(simp at this)
 |_=>cases h
def ZgB(ha:CE X xw C a i)(he:∀whole,isTrue a X.env whole=(do let v <-whole;n8 a.pos;kZ [v] (rW v))):CT X xw C a i:=.mk <|
 PT.imp (jd ha.h he)<|by
  left;refine#[Z,l,S,st,lr,End.bind (h) λx S1 ρ1 H1 v f1 st1 r1 h1=>?_]
  cases q:Pv.Zz x with|none=>rw[q]at h1;exact False.elim h1|some n=>rw[q]at h1;exact#[n,yX st1 r1 q,End.ok h1 st1 rfl]
def ZeN(ha:CT X xw C a i):CT X xw C (.UnaryOp .Not a pos) (.not i):=.mk <| PT.imp (jO ha.h)<|by
 left;refine#[Z,l,S,st,lr,?_];have h':End X.K xw U7 Z H Q (((Pv.pv C i l S).bind λx S=>(Pv.po (Pv.Zz x) S).bind λb S=>.ok (.bl !b) S).bind λx S=>Pv.po (Pv.Zz x) S):=h
 show End X.K xw U7 Z H (λc H1=>Q (!c) H1) ((Pv.pv C i l S).bind λx S=>Pv.po (Pv.Zz x) S)
 cases q:Pv.pv C i l S with
 |no=>rwa[q]at h'
 |ex c S1=>rwa[q]at h'
 |ok x S1=>
  rw[q]at h';show End X.K xw U7 Z H _ (Pv.po (Pv.Zz x) S1);have h2:End X.K xw U7 Z H Q (((Pv.po (Pv.Zz x) S1).bind λb S=>.ok (.bl !b) S).bind λx S=>Pv.po (Pv.Zz x) S):=h'
  cases t:Pv.Zz x with
  |none=>rwa[t]at h2
  |some n=>
   rw[t]at h2;intro ρ1 H1 w f1 st1 e;exact h2 ρ1 H1 (!w) f1 st1 (by rw[<-(e)];rfl)
def ZfQ(ha:CE X xw C a i):CE X xw C (.UnaryOp .Not a pos) (.not i):=.mk <| by
 intro pq s O H Q I hq;obtain⟨Z,l,S,st,lr,h⟩:=hq;have h':=h
 refine UnaryOp_<|thn (ha.h pq s O H (λv H1=>∃k,Zd7 X.K v H1 k/\Q (.bl !k) H1) I #[Z,l,S,st,lr,End.bind h' λx S1 ρ1 H1 v f1 st1 r1 h1=>?_]) λv s1 #[x,H1,I1,r1,q1]=>?_
 .cases q:Pv.Zz x with|none=>rw[q]at h1;exact False.elim h1|some n=>rw[q]at h1;exact#[n,yX st1 r1 q,End.ok h1 st1<|Ym _]
 .obtain⟨k,tk,q2⟩:=q1
  refine not_of<|thn (ZbD pq s1 O H1 x v (λk' H'=>Q (.bl !k') H') I1 r1 #[k,tk,q2]) λk' s2 #[H2,I2,q3]=>?_
  exact#[.bl<|!k',H2,I2,rfl,q3]
def ZfJ(ha:CE X xw C a i)(hb:CE X xw C (.BoolOp .And (b::rest) pos) j):CE X xw C (.BoolOp .And (a::b::rest) pos) (.and i j):=.mk <| PE.imp (ZgF ha.h hb.h)<|by
 left;refine#[Z,l,S,st,lr,End.bind (h) λx S1 ρ1 H1 v f1 st1 r1 h1=>?_]
 cases x with
 |bl c=>
  refine#[c,r1.bl',?_];cases c with|true=>exact#[ρ1,l,S1,st1,lr.mono f1,h1]|false=>exact End.ok h1 st1<|Ym _
 |_=>exact False.elim h1
def ZfM{op}(ha:CE X xw C a i):CE X xw C (.BoolOp op [a] pos) i:=.mk <| Zgx ha.h
structure CWh(X:Cx)(xw:Nat->Hp->Prop)(C:Calls)(e:Expr)(i:E):Prop where
 h:PW X e (tB3 X xw<|Pv.YO C i)
def CWh.ct(h:CWh X xw C e i):CT X xw C e i:=.mk <| PW.pt h.h
def PW.imp(h:PW X e t)(k:∀O H Q,t' O H Q->t O H Q):PW X e t':=λwh pq s O H Q I q=>h wh pq s O H Q I<|k O H Q q
def Zdw(ha:CT X xw C a i):CWh X xw C (.BoolOp .And [a] pos) i:=.mk <| ZdK ha.h
def Zgw(ha:CT X xw C a i):CWh X xw C (.BoolOp .Or [a] pos) i:=.mk <| Za0 ha.h
def Zbj(ha:CT X xw C a i)(hb:CWh X xw C (.BoolOp .And (b::rest) pos) j):CWh X xw C (.BoolOp .And (a::b::rest) pos) (.and i j):=.mk <| PW.imp (ZgJ ha.h hb.h)<|by
 left;have h':End X.K xw U7 Z H Q (((Pv.pv C i l S).bind λx S=>match x with|.bl c=>if c then Pv.pv C j l S else .ok (.bl aj) S|_=>.no).bind λx S=>Pv.po (Pv.Zz x) S):=h
 refine#[Z,l,S,st,lr,?_];show End X.K xw U7 Z H _ ((Pv.pv C i l S).bind λx S=>Pv.po (Pv.Zz x) S)
 cases q:Pv.pv C i l S with
 |no=>rwa[q]at h'
 |ex c S1=>rwa[q]at h'
 |ok x S1=>
  rw[q]at h';cases x with
  |bl n=>
   intro ρ1 H1 w f1 st1 e;subst e;cases n with|true=>exact#[ρ1,l,S1,st1,lr.mono f1,End.mono f1 (h')]|false=>exact(h') ρ1 H1 aj f1 st1 rfl
  |_=>exact False.elim h'
def Zeh(ha:CT X xw C a i)(hb:CWh X xw C (.BoolOp .Or (b::rest) pos) j):CWh X xw C (.BoolOp .Or (a::b::rest) pos) (.or i j):=.mk <| PW.imp (ZeA ha.h hb.h)<|by
 left;have h':End X.K xw U7 Z H Q (((Pv.pv C i l S).bind λx S=>match x with|.bl c=>if c then .ok (.bl ak) S else Pv.pv C j l S|_=>.no).bind λx S=>Pv.po (Pv.Zz x) S):=h
 refine#[Z,l,S,st,lr,?_];show End X.K xw U7 Z H _ ((Pv.pv C i l S).bind λx S=>Pv.po (Pv.Zz x) S)
 cases q:Pv.pv C i l S with
 |no=>rwa[q]at h'
 |ex c S1=>rwa[q]at h'
 |ok x S1=>
  rw[q]at h';cases x with
  |bl n=>
   intro ρ1 H1 w f1 st1 e;subst e;cases n with|false=>exact#[ρ1,l,S1,st1,lr.mono f1,End.mono f1 (h')]|true=>exact(h') ρ1 H1 ak f1 st1 rfl
  |_=>exact False.elim h'
end
theorem U0(hf:∀x y v b,Rep Z H x v->Rep Z H y v->f x y=aa b->b=ak):∀{ds es:List D}{xs:List V}{b:Bool},Rq Z H ds xs->Rq Z H es xs->Pv.Yz f ds es=aa b->b=ak
 |[],[],_,b,_,_,h=>(ap h).symm
 |d::ds,e::es,_,b,r1,r2,h=>by
  obtain⟨v,vs,rfl,a1,b1⟩:=r1;obtain⟨v',vs',e',a2,b2⟩:=r2;cases e';unfold Pv.Yz at h;cases q1:f d e with
  |none=>rw[q1]at h;cases h
  |some p=>
   cases q2:Pv.Yz f ds es with
   |none=>rw[q1,q2]at h;cases h
   |some q=>
    rw[q1,q2]at h;rw[<-(ap h),hf d e v p a1 a2 q1,U0 hf b1 b2 q2];rfl
 |[],_::_,_,b,r1,r2,h=>by
  have l2:=r2.length;rw[r1.length]at l2;simp at l2
 |_::_,[],_,b,r1,r2,h=>by
  have l2:=r2.length;rw[r1.length]at l2;simp at l2
def Rep.sc(r1:Rep Z H x v)(r2:Rep Z H y v)(h:∀a,v≠.ref a):x=y:=by
 cases x<;>cases y<;>unfold Rep at r1 r2<;>subst_vars<;>first
  |rfl
  |(cases r2;rfl)
  |(cases r1;rfl)
  |(obtain⟨a,z,_⟩:=r1;exact T7 z<|h a)
  |(obtain⟨a,z,_⟩:=r2;exact T7 z<|h a)
  |(obtain⟨a,_,z,_⟩:=r1;exact T7 z<|h a)
  |(obtain⟨a,_,z,_⟩:=r2;exact T7 z<|h a)
  |cases r1
  |cases r2
def ZaC(r:Rep Z H x v)(hv:∀a,v≠.ref a)(h:Pv.eqV (k+1) x x=aa b):b=ak:=by
 cases x<;>first
  |exact(ap h).symm
  |(rw[<-ap h];exact T5 rfl)
  |exact Ev.nos h
  |(obtain⟨a,_,z,_⟩:=r.tup';exact T7 z<|hv a)
  |(obtain⟨a,_,z,_⟩:=r.lst';exact T7 z<|hv a)
theorem Rep.ref(r:Rep Z H x (.ref p))(h:Pv.eqV (k+1) x y=aa b\/Pv.eqV (k+1) y x=aa b):(∃ds es,x=.tup ds/\y=.tup es)\/∃ds es,x=.lst ds/\y=.lst es:=by
 cases x with
 |tup ds=>cases y<;>first|exact .inl #[_,_,rfl,rfl]|(rcases h with h|h<;>exact Ev.nos h)
 |lst ds=>cases y<;>first|exact .inr #[_,_,rfl,rfl]|(rcases h with h|h<;>exact Ev.nos h)
 |non=>cases r.non'
 |bl _=>cases r.bl'
 |int _=>cases r.int'
 |str _=>cases r.str'
 |_=>cases y<;>rcases h with h|h<;>exact Ev.nos h
theorem Vs:∀(k:Nat)(x y:D)(v:V)(b:Bool),Rep Z H x v->Rep Z H y v->Pv.eqV k x y=aa b->b=ak
 |0,_,_,_,_,_,_,h=>by cases h
 |k+1,x,y,v,b,r1,r2,h=>by
  by_cases hv:∃a,v=.ref a
  .obtain⟨p,rfl⟩:=hv
   rcases r1.ref (.inl h)with⟨ds,es,rfl,rfl⟩|⟨ds,es,rfl,rfl⟩
   .obtain⟨_,_,z,e1,q1⟩:=r1.tup'
    cases z;obtain⟨_,_,z,e2,q2⟩:=r2.tup';cases z;rw[e1]at e2;cases e2;exact U0 (λx y v b=>Vs k x y v b) q1 q2 h
   .obtain⟨_,_,z,e1,_,q1⟩:=r1.lst'
    cases z;obtain⟨_,_,z,e2,_,q2⟩:=r2.lst';cases z;rw[e1]at e2;cases e2;have h:(if ds.length=es.length then Pv.Yz (Pv.eqV k) ds es else aa aj)=aa b:=h
    rw[T9<|by rw[<-q1.length,q2.length]]at h
    exact U0 (λx y v b=>Vs k x y v b) q1 q2 h
  .have hv:=λa z=>hv #[a,z]
   cases r1.sc r2 hv;exact ZaC r1 hv h
noncomputable def eAt(f:D->D->Option Bool)(ds es:List D)(j:Nat):Bool:=match ds[j]?,es[j]? with
 |some x,aa y=>(f x y).getD aj
 |_,_=>aj
theorem Xj :∀{ds es:List D}{b:Bool},Pv.Yz f ds es=aa b->
  ((aO<|si ds.length es.length).all (eAt f ds es)&&ds.length == es.length)=b/\∀j x y,ds[j]?=aa x->es[j]?=aa y->f x y=aa (eAt f ds es j)
 |[],[],b,h=>#[ap h,λj x y e=>by simp at e]
 |[],_::es,b,h=>#[by rw[<-ap h];simp,λj x y e=>by simp at e]
 |_::ds,[],b,h=>#[by rw[<-ap h];simp,λj x y _ e=>by simp at e]
 |d::ds,e::es,b,h=>by
  unfold Pv.Yz at h;cases q1:f d e with
  |none=>rw[q1]at h;cases h
  |some p=>
   cases q2:Pv.Yz f ds es with
   |none=>rw[q1,q2]at h;cases h
   |some q=>
    rw[q1,q2]at h;obtain⟨ih,ih2⟩:=Xj q2;have e0:eAt f (d::ds) (e::es) 0=p:=by simp[eAt,q1]
    have es':∀j,eAt f (d::ds) (e::es) (j+1)=eAt f ds es j:=λj=>by simp[eAt]
    refine#[?_,λj x y hx hy=>?_]
    .rw[<-(ap h),<-ih,aV,aV,Nat.succ_min_succ,me,fT,e0,kl]
     rw[Bool.and_assoc]
     congr 2
     simp
    .cases j with
     |zero=>
      simp at hx hy;subst hx hy;rw[e0];exact q1
     |succ j=>
      rw[es' j];exact ih2 j x y (by simpa using hx) (by simpa using hy)
def YY{A:cw}(h:A.units+(k+1)<dO):A.in1.units+k<dO:=by
 lia
theorem wt(I:Inv X pq O H s):∀(k:Nat) A (x y:D) (v u:V) (vv uu:az) (b:Bool),A.units+k<dO->Rep Z H x v->Rep Z H y u->ZA v vv->ZA u uu->Pv.eqV k x y=aa b->kC A s vv uu b
 |0,_,_,_,_,_,_,_,_,_,_,_,_,_,h=>by cases h
 |k+1,A,x,y,v,u,vv,uu,b,hu,r1,r2,e1,e2,h=>by
  have flat:vn v=ak->vn u=ak->eqV v u=b->kC A s vv uu b:=λf1 f2 e=>by rw[<-e];exact Zff e1 e2 f1 f2
  have bb:∀{a c:Bool},(a == c)=ag (a=c):=λ{a c}=>by cases a<;>cases c<;>rfl
  have ii:∀{a c:Int},(a == c)=ag (a=c):=λ{a c}=>by rw[cR];simp
  have ss:∀{a c:bN},(a == c)=ag (a=c):=λ{a c}=>by rw[cR];simp
  have item:∀{ds es:List D}{xs ys:List V}(j:Nat)(its its2:List az)(j1:j<its.toArray.size)(j2:j<its2.toArray.size),its.toArray.size=ds.length->its2.toArray.size=es.length->Vals xs its->Vals ys its2->Rq Z H ds xs->Rq Z H es ys->(∀j x y,ds[j]?=aa x->es[j]?=aa y->Pv.eqV k x y=aa (eAt (Pv.eqV k) ds es j))->kC A.in1 s its.toArray[j] its2.toArray[j] (eAt (Pv.eqV k) ds es j):=λ{ds es xs ys} j its its2 j1 j2 n1 n2 v1 v2 q1 q2 ea=>by
   have d1:ds[j]?=aa ds[j]:=af #[0]
   have d2:es[j]?=aa es[j]:=af #[0]
   obtain⟨w1,g1,z1⟩:=q1.get d1;obtain⟨w2,g2,z2⟩:=q2.get d2;obtain⟨m1,k1,y1⟩:=v1.get g1;obtain⟨m2,k2,y2⟩:=v2.get g2;have o1:its.toArray[j]=m1:=by simpa using(aG.mp k1).2
   have o2:its2.toArray[j]=m2:=by simpa using(aG.mp k2).2
   rw[o1,o2];exact wt I k A.in1 ds[j] es[j] w1 w2 m1 m2 _ (YY hu) z1 z2 y1 y2<|ea j _ _ d1 d2
  cases x with
  |non=>
   cases r1.non';cases y with|non=>cases r2.non';exact flat rfl rfl<|ap h|bl _=>cases r2.bl';exact flat rfl rfl<|ap h|int _=>cases r2.int';exact flat rfl rfl<|ap h|str _=>cases r2.str';exact flat rfl rfl<|ap h|_=>exact Ev.nos h
  |bl i=>
   cases r1.bl';cases y with|non=>cases r2.non';exact flat rfl rfl<|ap h|bl _=>cases r2.bl';exact flat rfl rfl<|bb.trans<|ap h|int _=>cases r2.int';exact flat rfl rfl<|ii.trans<|ap h|str _=>cases r2.str';exact flat rfl rfl<|ap h|_=>exact Ev.nos h
  |int i=>
   cases r1.int';cases y with|non=>cases r2.non';exact flat rfl rfl<|ap h|bl _=>cases r2.bl';exact flat rfl rfl<|ii.trans<|ap h|int _=>cases r2.int';exact flat rfl rfl<|ii.trans<|ap h|str _=>cases r2.str';exact flat rfl rfl<|ap h|_=>exact Ev.nos h
  |str i=>
   cases r1.str';cases y with|non=>cases r2.non';exact flat rfl rfl<|ap h|bl _=>cases r2.bl';exact flat rfl rfl<|ap h|int _=>cases r2.int';exact flat rfl rfl<|ap h|str _=>cases r2.str';exact flat rfl rfl<|ss.trans<|ap h|_=>exact Ev.nos h
  |tup ds=>
   obtain⟨p,xs,rfl,hp,q1⟩:=r1.tup';cases e1;cases y with
   |tup es=>
    obtain⟨p',ys,rfl,hp',q2⟩:=r2.tup';cases e2;by_cases hpp:p=p'
    .subst hpp
     rw[Vs (k+1) (.tup ds) (.tup es) (.ref p) b r1 r2 h];exact mq _
    .obtain⟨its,v1,t1,_⟩:=I.tuple (SqT.of hp)
     obtain⟨its2,v2,t2,_⟩:=I.tuple<|SqT.of hp';obtain⟨ev,ea⟩:=Xj h;have n1:its.toArray.size=ds.length:=by rw[aC,<-v1.length,q1.length]
     have n2:its2.toArray.size=es.length:=by rw[aC,<-v2.length,q2.length]
     refine nP hpp ?_;rw[<-ev,<-n1,<-n2];exact oB t1 t2 #[0] λj j1 j2=>item j its its2 j1 j2 n1 n2 v1 v2 q1 q2 ea
   |_=>exact Ev.nos h
  |lst ds=>
   obtain⟨p,xs,rfl,u1,_,q1⟩:=r1.lst';cases e1;cases y with
   |lst es=>
    obtain⟨p',ys,rfl,u2,_,q2⟩:=r2.lst';cases e2;by_cases hpp:p=p'
    .subst hpp
     rw[Vs (k+1) (.lst ds) (.lst es) (.ref p) b r1 r2 h];exact mq _
    .obtain⟨its,v1,p1,_⟩:=I.list (SqL.of u1)
     obtain⟨its2,v2,p2,_⟩:=I.list<|SqL.of u2;have n1:its.toArray.size=ds.length:=by rw[aC,<-v1.length,q1.length]
     have n2:its2.toArray.size=es.length:=by rw[aC,<-v2.length,q2.length]
     refine nP hpp ?_;have h2:(if ds.length=es.length then Pv.Yz (Pv.eqV k) ds es else aa aj)=aa b:=h
     by_cases hl:ds.length=es.length
     .rw[T9 hl]at h2
      obtain⟨ev,ea⟩:=Xj h2;have ev':(aO ds.length).all (eAt (Pv.eqV k) ds es)=b:=by
       rw[<-ev,<-hl,Nat.min_self];simp
      rw[<-ev',<-n1];exact oZ p1.isList p2.isList #[0] #[0] λj j1 j2=>item j its its2 j1 j2 n1 n2 v1 v2 q1 q2 ea
     .rw[T8 hl]at h2
      rw[<-ap h2];exact lx p1.isList p2.isList (bne_iff_ne.mpr<|by lia) #[0]
   |_=>exact Ev.nos h
  |_=>exact Ev.nos h
def Vb(I:Inv X pq O H s){k:Nat}{A:cw}{xs ys:List V}{b:Bool}(hu:A.units+(k+1)<dO)
  (q1:Rq Z H ds xs)(q2:Rq Z H es ys)(v1:Vals xs its)(v2:Vals ys its2)(h:Pv.Yz (Pv.eqV k) ds es=aa b) :
  ∀j h1 (h2:j<its2.toArray.size),kC A.in1 s its.toArray[j] its2.toArray[j] (eAt (Pv.eqV k) ds es j):=λj j1 j2=>by
 obtain⟨_,ea⟩:=Xj h;have n1:its.toArray.size=ds.length:=by rw[aC,<-v1.length,q1.length]
 have n2:its2.toArray.size=es.length:=by rw[aC,<-v2.length,q2.length]
 have d1:ds[j]?=aa ds[j]:=af #[0]
 have d2:es[j]?=aa es[j]:=af #[0]
 obtain⟨w1,g1,z1⟩:=q1.get d1;obtain⟨w2,g2,z2⟩:=q2.get d2;obtain⟨m1,k1,y1⟩:=v1.get g1;obtain⟨m2,k2,y2⟩:=v2.get g2;have o1:its.toArray[j]=m1:=by
  have:=aG.mp k1
  simpa using this.2
 have o2:its2.toArray[j]=m2:=by
  have:=aG.mp k2
  simpa using this.2
 rw[o1,o2];exact wt I k A.in1 ds[j] es[j] w1 w2 m1 m2 _ (YY hu) z1 z2 y1 y2<|ea j _ _ d1 d2
def Zch(K:ao)(xw:Nat->Hp->Prop)(op:Cop):R2:=λv u H Q=>∃Z S x y,St3 K Z S H/\Rep Z H x v/\Rep Z H y u/\End K xw Rep Z H Q (Pv.po (Pv.YT op x y) S)
def ZfU :∀O H Q,tE X xw (Pv.pv C<|.cmp op i j) O H Q->tOp (Zch X.K xw op) (tE X xw<|Pv.pv C i) (tE X xw<|Pv.pv C j) O H Q:=λO H Q h=>
 We (λ{Z H S x y v u Q} st rx ry h=>#[Z,S,x,y,st,rx,ry,h]) O H Q h
def dI{a c:Int}:(a == c)=ag (a=c):=by rw[cR];simp
def vT{H:Hp}(rx:Rep Z H x v)(ry:Rep Z H y u)(hb:Pv.eqV (k+1) x y=aa b):(scal v u=ak/\ag (v=u)=b)\/(∃i j,v=.bl i/\u=.int j/\ag (Ev.b2i i=j)=b)\/(∃i j,v=.int i/\u=.bl j/\ag (i=Ev.b2i j)=b)\/(∃ds es,x=.tup ds/\y=.tup es/\Pv.Yz (Pv.eqV k) ds es=aa b)\/∃ds es,x=.lst ds/\y=.lst es/\(if ds.length=es.length then Pv.Yz (Pv.eqV k) ds es else aa aj)=aa b:=by
 cases x with
 |non=>cases rx.non';cases y with|non=>cases ry.non';exact .inl #[rfl,ap hb▸by simp]|bl _=>cases ry.bl';exact .inl #[rfl,ap hb]|int _=>cases ry.int';exact .inl #[rfl,ap hb]|str _=>cases ry.str';exact .inl #[rfl,ap hb]|_=>exact Ev.nos hb
 |bl i=>cases rx.bl';cases y with|non=>cases ry.non';exact .inl #[rfl,ap hb]|bl j=>cases ry.bl';exact .inl #[rfl,ap hb▸by simp]|int j=>cases ry.int';exact .inr<|.inl #[i,j,rfl,rfl,ap hb]|str _=>cases ry.str';exact .inl #[rfl,ap hb]|_=>exact Ev.nos hb
 |int i=>cases rx.int';cases y with|non=>cases ry.non';exact .inl #[rfl,ap hb]|bl j=>cases ry.bl';exact .inr<|.inr<|.inl #[i,j,rfl,rfl,ap hb]|int _=>cases ry.int';exact .inl #[rfl,ap hb▸by simp]|str _=>cases ry.str';exact .inl #[rfl,ap hb]|_=>exact Ev.nos hb
 |str i=>cases rx.str';cases y with|non=>cases ry.non';exact .inl #[rfl,ap hb]|bl _=>cases ry.bl';exact .inl #[rfl,ap hb]|int _=>cases ry.int';exact .inl #[rfl,ap hb]|str _=>cases ry.str';exact .inl #[rfl,ap hb▸by simp]|_=>exact Ev.nos hb
 |tup ds=>cases y with|tup es=>exact .inr<|.inr<|.inr<|.inl #[ds,es,rfl,rfl,hb]|_=>exact Ev.nos hb
 |lst ds=>cases y with|lst es=>exact .inr<|.inr<|.inr<|.inr #[ds,es,rfl,rfl,hb]|_=>exact Ev.nos hb
 |_=>exact Ev.nos hb
def Zfs(hu:X.A.units+6<dO):OpR X (cU .Eq) (Zch X.K xw .eq):=by
 intro pq s O H v u vv uu Q I e1 e2 h;obtain⟨Z,S,x,y,st,rx,ry,h⟩:=h;obtain⟨b,hb,h1⟩:=End.map h;have q:=End.ok h1 st<|Ym b;rcases vT rx ry hb with⟨hs,e⟩|⟨i,j,rfl,rfl,e⟩|⟨i,j,rfl,rfl,e⟩|⟨ds,es,rfl,rfl,hb'⟩|⟨ds,es,rfl,rfl,h2⟩
 .exact ZgN pq s O H v u vv uu Q I e1 e2 #[hs,by rw[e];exact q]
 .cases e1
  obtain⟨t,rfl⟩:=e2;refine EqBoolInt.eq_bool_int #[.bl b,H,I,?_,q];show bD ((if i then 1 else 0) == j)=bD b
  rw[dI];exact congrArg bD e
 .cases e2
  obtain⟨t,rfl⟩:=e1;refine EqBoolInt.eq_int_bool #[.bl b,H,I,?_,q];show bD (i == (if j then 1 else 0))=bD b
  rw[dI];exact congrArg bD e
 ·
  obtain⟨p,xs,rfl,hp,q1⟩:=rx.tup';cases e1;obtain⟨p',ys,rfl,hp',q2⟩:=ry.tup';cases e2;obtain⟨its,v1,t1,_⟩:=I.tuple<|SqT.of hp;obtain⟨its2,v2,t2,_⟩:=I.tuple<|SqT.of hp';obtain⟨ev,_⟩:=Xj hb';have n1:its.toArray.size=ds.length:=by rw[aC,<-v1.length,q1.length]
  have n2:its2.toArray.size=es.length:=by rw[aC,<-v2.length,q2.length]
  refine oB t1 t2 #[0] (Vb I hu q1 q2 v1 v2 hb') X.prog X.w X.xe _ ?_
  rw[n1,n2,ev];exact#[.bl b,H,I,rfl,q]
 ·
  obtain⟨p,xs,rfl,u1,_,q1⟩:=rx.lst';cases e1;obtain⟨p',ys,rfl,u2,_,q2⟩:=ry.lst';cases e2;obtain⟨its,v1,p1,_⟩:=I.list<|SqL.of u1;obtain⟨its2,v2,p2,_⟩:=I.list<|SqL.of u2;have n1:its.toArray.size=ds.length:=by rw[aC,<-v1.length,q1.length]
  have n2:its2.toArray.size=es.length:=by rw[aC,<-v2.length,q2.length]
  by_cases hl:ds.length=es.length
  .rw[T9 hl]at h2
   obtain⟨ev,_⟩:=Xj h2;have ev':(aO ds.length).all (eAt (Pv.eqV 5) ds es)=b:=by
    rw[<-ev,<-hl];simp
   refine oZ p1.isList p2.isList #[0] #[0] (Vb I hu q1 q2 v1 v2 h2) X.prog X.w X.xe _ ?_
   rw[n1,ev'];exact#[.bl b,H,I,rfl,q]
  .rw[T8 hl]at h2
   refine lx p1.isList p2.isList (bne_iff_ne.mpr<|by lia) #[0] X.prog X.w X.xe _ ?_
   exact#[.bl b,H,I,congrArg bD<|ap h2,q]
def ZeX(hu:X.A.units+6<dO):OpR X (cU .NotEq) (Zch X.K xw .ne):=by
 intro pq s O H v u vv uu Q I e1 e2 h;obtain⟨Z,S,x,y,st,rx,ry,h⟩:=h;obtain⟨b,hb,h1⟩:=End.map h;have q:=End.ok h1 st<|Ym _;rcases vT rx ry hb with⟨hs,e⟩|⟨i,j,rfl,rfl,e⟩|⟨i,j,rfl,rfl,e⟩|⟨ds,es,rfl,rfl,hb'⟩|⟨ds,es,rfl,rfl,h2⟩
 .exact ZhE pq s O H v u vv uu Q I e1 e2 #[hs,by rw[e];exact q]
 .cases e1
  obtain⟨t,rfl⟩:=e2;refine EqBoolInt.ne_bool_int #[.bl !b,H,I,?_,q];show bD (!((if i then 1 else 0) == j))=bD !b
  rw[dI];exact congrArg (λz=>bD !z) e
 .cases e2
  obtain⟨t,rfl⟩:=e1;refine EqBoolInt.ne_int_bool #[.bl !b,H,I,?_,q];show bD (!(i == (if j then 1 else 0)))=bD !b
  rw[dI];exact congrArg (λz=>bD !z) e
 ·
  obtain⟨p,xs,rfl,hp,q1⟩:=rx.tup';cases e1;obtain⟨p',ys,rfl,hp',q2⟩:=ry.tup';cases e2;obtain⟨its,v1,t1,_⟩:=I.tuple<|SqT.of hp;obtain⟨its2,v2,t2,_⟩:=I.tuple<|SqT.of hp';obtain⟨ev,_⟩:=Xj hb';have n1:its.toArray.size=ds.length:=by rw[aC,<-v1.length,q1.length]
  have n2:its2.toArray.size=es.length:=by rw[aC,<-v2.length,q2.length]
  refine SeqAt.RcNeAt.tuples t1 t2 #[0] (Vb I hu q1 q2 v1 v2 hb') X.prog X.w X.xe _ ?_
  rw[n1,n2,ev];exact#[.bl !b,H,I,rfl,q]
 ·
  obtain⟨p,xs,rfl,u1,_,q1⟩:=rx.lst';cases e1;obtain⟨p',ys,rfl,u2,_,q2⟩:=ry.lst';cases e2;obtain⟨its,v1,p1,_⟩:=I.list<|SqL.of u1;obtain⟨its2,v2,p2,_⟩:=I.list<|SqL.of u2;have n1:its.toArray.size=ds.length:=by rw[aC,<-v1.length,q1.length]
  have n2:its2.toArray.size=es.length:=by rw[aC,<-v2.length,q2.length]
  by_cases hl:ds.length=es.length
  .rw[T9 hl]at h2
   obtain⟨ev,_⟩:=Xj h2;have ev':(aO ds.length).all (eAt (Pv.eqV 5) ds es)=b:=by
    rw[<-ev,<-hl];simp
   refine SeqAt.RcNeAt.lists p1.isList p2.isList #[0] #[0] (Vb I hu q1 q2 v1 v2 h2) X.prog X.w X.xe _ ?_
   rw[n1,ev'];exact#[.bl !b,H,I,rfl,q]
  .rw[T8 hl]at h2
   refine SeqAt.RcNeAt.lists_lengths p1.isList p2.isList (bne_iff_ne.mpr<|by lia) #[0] X.prog X.w X.xe _ ?_
   exact#[.bl !b,H,I,congrArg (λz=>bD !z)<|ap h2,q]
theorem Gy(hf:∀x x' y v b b',Rep Z H x v->Rep Z H x' v->f x y=aa b->f x' y=aa b'->b=b') :
  ∀{ds ds' es:List D}{xs:List V}{b b':Bool},Rq Z H ds xs->Rq Z H ds' xs->Pv.Yz f ds es=aa b->Pv.Yz f ds' es=aa b'->b=b'
 |[],[],[],_,b,b',_,_,h,h'=>(ap h).symm.trans<|ap h'
 |[],[],_::_,_,b,b',_,_,h,h'=>(ap h).symm.trans<|ap h'
 |_::_,_::_,[],_,b,b',_,_,h,h'=>(ap h).symm.trans<|ap h'
 |d::ds,d'::ds',e::es,_,b,b',r1,r2,h,h'=>by
  obtain⟨v,vs,rfl,a1,b1⟩:=r1;obtain⟨v',vs',e',a2,b2⟩:=r2;cases e';unfold Pv.Yz at h h';cases q1:f d e with
  |none=>rw[q1]at h;cases h
  |some p=>
   cases q2:Pv.Yz f ds es with
   |none=>rw[q1,q2]at h;cases h
   |some q=>
    cases q3:f d' e with
    |none=>rw[q3]at h';cases h'
    |some p'=>
     cases q4:Pv.Yz f ds' es with
     |none=>rw[q3,q4]at h';cases h'
     |some q'=>
      rw[q1,q2]at h;rw[q3,q4]at h';rw[<-(ap h),<-(ap h'),hf d d' e v p p' a1 a2 q1 q3,Gy hf b1 b2 q2 q4]
 |[],_::_,_,_,b,b',r1,r2,_,_=>by
  have l2:=r2.length;rw[r1.length]at l2;simp at l2
 |_::_,[],_,_,b,b',r1,r2,_,_=>by
  have l2:=r2.length;rw[r1.length]at l2;simp at l2
theorem Gb:∀k x x' y v b b',Rep Z H x v->Rep Z H x' v->Pv.eqV k x y=aa b->Pv.eqV k x' y=aa b'->b=b'
 |0,_,_,_,_,_,_,_,_,h,_=>by cases h
 |k+1,x,x',y,v,b,b',r1,r2,h,h'=>by
  by_cases hv:∃a,v=.ref a
  .obtain⟨p,rfl⟩:=hv
   rcases r1.ref (.inl h)with⟨ds,es,rfl,rfl⟩|⟨ds,es,rfl,rfl⟩<;>rcases r2.ref (.inl h')with⟨ds',es',rfl,z⟩|⟨ds',es',rfl,z⟩<;>cases z
   .obtain⟨_,_,z,e1,q1⟩:=r1.tup'
    cases z;obtain⟨_,_,z,e2,q2⟩:=r2.tup';cases z;rw[e1]at e2;cases e2;exact Gy (λx x' y v b b'=>Gb k x x' y v b b') q1 q2 h h'
   .obtain⟨_,_,z,e1,_,q1⟩:=r1.lst'
    cases z;obtain⟨_,_,z,e2,_,q2⟩:=r2.lst';cases z;rw[e1]at e2;cases e2;have l:ds'.length=ds.length:=by rw[<-q1.length,q2.length]
    have h:(if ds.length=es.length then Pv.Yz (Pv.eqV k) ds es else aa aj)=aa b:=h
    have h':(if ds'.length=es.length then Pv.Yz (Pv.eqV k) ds' es else aa aj)=aa b':=h'
    rw[l]at h';by_cases c:ds.length=es.length
    .rw[T9 c]at h h'
     exact Gy (λx x' y v b b'=>Gb k x x' y v b b') q1 q2 h h'
    .rw[T8 c]at h h'
     exact ap<|h.symm.trans h'
  .cases r1.sc r2 λa z=>hv #[a,z]
   exact ap<|h.symm.trans h'
theorem J8 :∀{ds:List D}{b:Bool},Pv.WK x ds=aa b->∀d∈ds,∃c,Pv.eqV Ev.ZB d x=aa c
 |[],_,_,d,hd=>by cases hd
 |y::ys,b,h,d,hd=>by
  unfold Pv.WK at h;cases q1:Pv.eqV Ev.ZB y x with
  |none=>rw[q1]at h;cases h
  |some p=>
   cases q2:Pv.WK x ys with
   |none=>rw[q1,q2]at h;cases h
   |some q=>
    rcases aw.mp hd with rfl|hd
    .exact#[p,q1]
    .exact J8 q2 d hd
theorem vf :∀{ds:List D}{b:Bool},Pv.WK x ds=aa b->(ds.any λd=>(Pv.eqV Ev.ZB d x).getD aj)=b
 |[],_,h=>ap h
 |y::ys,b,h=>by
  unfold Pv.WK at h;cases q1:Pv.eqV Ev.ZB y x with
  |none=>rw[q1]at h;cases h
  |some p=>
   cases q2:Pv.WK x ys with
   |none=>rw[q1,q2]at h;cases h
   |some q=>
    rw[q1,q2]at h;rw[fj,vf q2,q1,<-ap h];rfl
open Classical in
def VC(I:Inv X pq O H s)(hu:A.units+6<dO)(rx:Rep Z H x v)(ex:ZA v vv)
  (q:Rq Z H ds xs)(vs:Vals xs its)(h:Pv.WK x ds=aa b):∃e,(∀u,u∈its.toArray->kC A s u vv (e u))/\its.toArray.any e=b:=by
 refine#[λu=>ag (∃d∈ds,∃w,Rep Z H d w/\ZA w u/\Pv.eqV Ev.ZB d x=aa ak),λu hu'=>?_,?_]
 .have hu2:u∈its:=by simpa using hu'
  obtain⟨j,hj,e⟩:=cu hu2;have hl:j<ds.length:=by rw[<-q.length,vs.length];exact hj
  obtain⟨w,g,r⟩:=q.get<|af hl;obtain⟨u',g',r'⟩:=vs.get g;have eu:u'=u:=by
   rw[af hj]at g';exact(ap g').symm.trans e
  subst eu;obtain⟨c,hc⟩:=J8 h ds[j]<|aS hl;have ec:ag (∃d∈ds,∃w,Rep Z H d w/\ZA w u'/\Pv.eqV Ev.ZB d x=aa ak)=c:=by
   cases c with
   |true=>exact T5 #[ds[j],aS hl,w,r,r',hc]
   |false=>
    refine T4 ?_
    rintro ⟨d,hd,w',a1,a2,a3⟩
    cases a2.inj r';exact T7 (Gb 6 d ds[j] x w ak aj a1 r a3 hc) #[1]
  dsimp only
  rw[ec];exact wt I 6 A ds[j] x w v u' vv c hu r rx r' ex hc
 .rw[<-vf h,List.any_toArray,cR,gA,gA]
  constructor
  .rintro ⟨u,hu1,h1⟩
   obtain⟨d,hd,w,a1,a2,a3⟩:=T6 h1;exact#[d,hd,by rw[a3];rfl]
  .rintro ⟨d,hd,h1⟩
   obtain⟨j,hj,e⟩:=cu hd;subst e;obtain⟨w,g,r⟩:=q.get<|af hj;obtain⟨u,g',r'⟩:=vs.get g;refine#[u,cO g',T5 #[ds[j],hd,w,r,r',?_]];obtain⟨c,hc⟩:=J8 h ds[j] hd;rw[hc]at h1 ⊢;exact congrArg aa h1
section
variable{X:Cx}{xw:Nat->Hp->Prop}{C:Calls}{e a b c:Expr}{i j k:E}{pos p p':iE}
def Zfy(hu:X.A.units+7<dO):OpR X (cU .In) (λv u H Q=>∃Z S x ds b,St3 X.K Z S H/\Rep Z H x v/\(Rep Z H (.tup ds) u\/Rep Z H (.lst ds) u)/\Pv.WK x ds=aa b/\Q (.bl b) H):=by
 intro pq s O H v u vv uu Q I e1 e2 h;obtain⟨Z,S,x,ds,b,st,rx,ry,hb,q⟩:=h;rcases ry with ry|ry
 .obtain⟨p,xs,rfl,hp,q1⟩:=ry.tup'
  cases e2;obtain⟨its,v1,t1,_⟩:=I.tuple<|SqT.of hp;obtain⟨f,h1,h2⟩:=VC I (YY hu) rx e1 q1 v1 hb;exact SeqAt.in_tupleAt f t1 h1 (by rw[h2];exact#[.bl b,H,I,rfl,q])
 .obtain⟨p,xs,rfl,hx,_,q1⟩:=ry.lst'
  cases e2;obtain⟨its,v1,t1,_⟩:=I.list<|SqL.of hx;obtain⟨f,h1,h2⟩:=VC I (YY hu) rx e1 q1 v1 hb;exact SeqAt.in_listAt f t1.isList h1 (by rw[h2];exact#[.bl b,H,I,rfl,q])
def ZdG(hu:X.A.units+7<dO):OpR X (cU .NotIn) (λv u H Q=>∃Z S x ds b,St3 X.K Z S H/\Rep Z H x v/\(Rep Z H (.tup ds) u\/Rep Z H (.lst ds) u)/\Pv.WK x ds=aa b/\Q (.bl !b) H):=by
 intro pq s O H v u vv uu Q I e1 e2 h;obtain⟨Z,S,x,ds,b,st,rx,ry,hb,q⟩:=h;rcases ry with ry|ry
 .obtain⟨p,xs,rfl,hp,q1⟩:=ry.tup'
  cases e2;obtain⟨its,v1,t1,_⟩:=I.tuple<|SqT.of hp;obtain⟨f,h1,h2⟩:=VC I (YY hu) rx e1 q1 v1 hb;exact SeqAt.notIn_tupleAt f t1 h1 (by rw[h2];exact#[.bl !b,H,I,rfl,q])
 .obtain⟨p,xs,rfl,hx,_,q1⟩:=ry.lst'
  cases e2;obtain⟨its,v1,t1,_⟩:=I.list<|SqL.of hx;obtain⟨f,h1,h2⟩:=VC I (YY hu) rx e1 q1 v1 hb;exact SeqAt.notIn_listAt f t1.isList h1 (by rw[h2];exact#[.bl !b,H,I,rfl,q])
variable{Z:Mx}{H:Hp}{S:ZO}{x y:D}{v u:V}{Q:VK}{K:ao}
def ZdM(h:Pv.int2 x y=aa z):x=.int z.1/\y=.int z.2:=by
 cases x<;>first|exact Ev.nos h|(cases y<;>first|exact Ev.nos h|(cases h;exact#[rfl,rfl]))
def zi{f:Int×Int->Bool}(st:St3 K Z S H)(rx:Rep Z H x v)(ry:Rep Z H y u)(h:End K xw Rep Z H Q (Pv.po ((Pv.int2 x y).map λz=>.bl<|f z) S)):rI0 (λi j=>.bl<|f (i,j)) v u H Q:=by
 obtain⟨z,hz,h⟩:=End.map h;obtain⟨rfl,rfl⟩:=ZdM hz;exact#[_,_,rx.int',ry.int',End.ok h st<|Ym _]
end
section
variable{X:Cx}{xw:Nat->Hp->Prop}{C:Calls}{e a b c:Expr}{i j k:E}{pos p p':iE}
def Wh{B β γ:Type}(r:R B)(f)(g:β->ZO->R γ):(r.bind f).bind g=r.bind λa S=>(f a S).bind g:=by cases r<;>rfl
def ZfT{B:Type}{o:Option B}{f:B->Bool}(h:o.map (λa=>Pv.V.bl<|f a)=aa z):∃b,z=.bl b:=by
 obtain⟨a,_,rfl⟩:=bH.mp h;exact#[_,rfl]
def ZbZ{o:Cop}{x y:D}{S S':ZO}{z:D}(h:Pv.po (Pv.YT o x y) S=.ok z S'):∃b,z=.bl b:=by
 have h:Pv.YT o x y=aa z:=by
  cases q:Pv.YT o x y<;>rw[q]at h<;>cases h;rfl
 cases o<;>exact ZfT h
def Xy(X:Cx)(xw:Nat->Hp->Prop)(op:CmpOp)(o:Cop):Prop:=OpR X (cU op)<|Zch X.K xw o
def OpR.imp(h:OpR X f r)(k:∀v u H Q,r' v u H Q->r v u H Q):OpR X f r':=λpq s O H x y v u Q I e1 e2 q=>h pq s O H x y v u Q I e1 e2<|k x y H Q q
theorem jz(hu:X.A.units+7<dO):Xy X xw .Eq .eq:=Zfs #[0]
theorem Zb1(hu:X.A.units+7<dO):Xy X xw .NotEq .ne:=ZeX #[0]
def Jm(hu:X.A.units+7<dO):Xy X xw .LtE .le:=OpR.imp Zhc<|by rintro v u H Q ⟨Z,S,x,y,st,rx,ry,h⟩;exact zi st rx ry h
def jo(hu:X.A.units+7<dO):Xy X xw .Gt .gt:=OpR.imp ZhI<|by rintro v u H Q ⟨Z,S,x,y,st,rx,ry,h⟩;exact zi st rx ry h
def Zaj(hu:X.A.units+7<dO):Xy X xw .GtE .ge:=OpR.imp ZhJ<|by rintro v u H Q ⟨Z,S,x,y,st,rx,ry,h⟩;exact zi st rx ry h
def Zgg{b:Bool}(rx:Rep Z H x v)(ry:Rep Z H y u)(h:Pv.isV x y=aa b):(u=.non/\ag (v=.non)=b)\/∃i j,v=.bl i/\u=.bl j/\ag (i=j)=b:=by
 cases y with
 |non=>
  refine .inl #[ry.non',?_];rw[<-ap h];cases x<;>unfold Rep at rx<;>first
   |(subst rx;rfl)
   |(obtain⟨_,z,_⟩:=rx;subst z;rfl)
   |(obtain⟨_,_,z,_⟩:=rx;subst z;rfl)
 |bl j=>cases x with|bl i=>exact .inr #[i,j,rx.bl',ry.bl',ap h]|_=>exact Ev.nos h
 |_=>exact Ev.nos h
def jY(hu:X.A.units+7<dO):Xy X xw .Is .is:=OpR.imp (Zfz.or Zfr)<|by
 rintro v u H Q ⟨Z,S,x,y,st,rx,ry,h⟩;obtain⟨b,hb,h⟩:=End.map h;have q:=End.ok h st<|Ym b;rcases Zgg rx ry hb with⟨e,z⟩|⟨i,j,e,e2,z⟩
 .exact .inl #[e,by rw[z];exact q]
 .exact .inr #[i,j,e,e2,by rw[z];exact q]
def zU{u:V}{b:Bool}(ry:Rep Z H y u)(h:Pv.Uk x y=aa b) :
  (∃ds,(Rep Z H (.tup ds) u\/Rep Z H (.lst ds) u)/\Pv.WK x ds=aa b)\/
  (∃(l:List (List Int))(k:List D)(ks:List Int),(∃(p:aH)(vs:List (List Key×V)),u=.ref p/\Rd H p (.dT vs)/\vs.map (·.1)=l.map (·.map cS))/\x=.tup k/\Pv.intsV k=aa ks/\l.contains ks=b):=by
 cases y with
 |tup ys=>exact .inl #[ys,.inl ry,h]
 |lst ys=>exact .inl #[ys,.inr ry,h]
 |dct o=>
  cases o with
  |inl _=>exact Ev.nos h
  |inr l=>
   cases x with
   |tup k=>
    obtain⟨ks,e,z⟩:=bH.mp h;obtain⟨p,e1,o,vs,e2,e3⟩:=ry.dct';exact .inr #[l,k,ks,#[p,vs,e1,.inr #[o,e2],e3],rfl,e,z]
   |_=>exact Ev.nos h
 |dow l=>
  cases x with
  |tup k=>
   obtain⟨ks,e,z⟩:=bH.mp h;obtain⟨p,vs,e1,e2,_,e3⟩:=ry.dow';exact .inr #[l,k,ks,#[p,vs,e1,.inl e2,e3],rfl,e,z]
  |_=>exact Ev.nos h
 |_=>exact Ev.nos h
def XR(hc:Xy X xw op o)(ha:CE X xw C a i)(hb:CE X xw C b j)(hm:eB op b=aj):CE X xw C (.Compare a [op] [b] pos) (.cmp o i j):=.mk <|
 PE.imp (ZdP hc ha.h hb.h hm) (ZfU)
def XN(hc:Xy X xw op o)(ha:CE X xw C a i)(hb:CE X xw C b j)(hm:eB op b=aj):CT X xw C (.Compare a [op] [b] pos) (.cmp o i j):=.mk <|
 PT.imp (ZdN hc ha.h hb.h hm)<|by
  left;have h':End X.K xw U7 Z H Q (((Pv.pv C i l S).bind λx S=>(Pv.pv C j l S).bind λy S=>Pv.po (Pv.YT o x y) S).bind λx S=>Pv.po (Pv.Zz x) S):=h
  simp only[Wh]at h';refine#[Z,l,S,st,lr,h'.bind λx S1 ρ1 H1 v f1 st1 r1 h1=>#[ρ1,l,S1,st1,lr.mono f1,h1.bind λy S2 ρ2 H2 u f2 st2 r2 h2=>#[ρ2,S2,x,y,st2,r1.mono f2,r2,?_]]]
  have h3:∀{r:R D},(∀z S',r=.ok z S'->∃b,z=.bl b)->End X.K xw U7 ρ2 H2 Q (r.bind λx S=>Pv.po (Pv.Zz x) S)->End X.K xw Rep ρ2 H2 (λx H'=>∃k,x=V.bl k/\Q k H') r:=λ{r} hr h=>by
   cases r with
   |no=>exact h
   |ex _ _=>exact h
   |ok z S3=>
    obtain⟨b,rfl⟩:=hr z S3 rfl;exact λρ3 H3 w f3 st3 r3=>#[b,r3.bl',h ρ3 H3 b f3 st3 rfl]
  exact h3 (λz S' e=>ZbZ e) h2
def zB(hc:Xy X xw op o)(hc':Xy X xw op' o')(ha:CE X xw C a i)(hb:CE X xw C b j)(hd:CE X xw C d k)
  (hm:lastMarks [op,op'] [b,d]=aj):CE X xw C (.Compare a [op,op'] [b,d] pos) (.chain o o' i j k):=.mk <|
 PE.imp (Zbn hc hc' ha.h hb.h hd.h hm)<|by
  left;refine#[Z,l,S,st,lr,End.bind (h) λx S1 ρ1 H1 v f1 st1 r1 h1=>#[ρ1,l,S1,st1,lr.mono f1,h1.bind λy S2 ρ2 H2 u f2 st2 r2 h2=>#[ρ2,S2,x,y,st2,r1.mono f2,r2,h2.bind λz S3 ρ3 H3 w f3 st3 r3 h3=>?_]]]
  cases z with
  |bl n=>
   refine#[n,r3.bl',?_];cases n with|true=>exact#[ρ3,l,S3,st3,((lr.mono f1).mono f2).mono f3,End.bind (h3) λt S4 ρ4 H4 t' f4 st4 r4 h4=>#[ρ4,S4,y,t,st4,(r2.mono f3).mono f4,r4,h4]]|false=>exact End.ok h3 st3<|Ym _
  |_=>exact False.elim h3
end
section
variable{X:Cx}{xw:Nat->Hp->Prop}{C:Calls}{e a b c:Expr}{i j k:E}{pos p p' p2:iE}
variable{Z:Mx}{H:Hp}{S:ZO}{x y:D}{v u:V}{Q:VK}{K:ao}
def Uf{k:List Int}(h:Pv.intsV (d::ks)=aa k):∃n r,d=.int n/\Pv.intsV ks=aa r/\k=n::r:=by
 cases d<;>first|exact Ev.nos h|(obtain⟨r,e,z⟩:=bH.mp h;exact#[_,r,rfl,e,z.symm])
theorem Xv:∀{ks:List D}{k:List Int}{xs:List V},Pv.intsV ks=aa k->Rq Z H ks xs->xs=(k.map (cS:Int->Key)).map kV
 |[],k,xs,h,r=>by cases h;rw[r];rfl
 |d::ks,k,xs,h,r=>by
  obtain⟨v,vs,rfl,a1,b1⟩:=r;obtain⟨n,r,rfl,e,rfl⟩:=Uf h;rw[a1.int',Xv e b1];rfl
theorem GH:∀{k k':List Int},k.map (cS:Int->Key)=k'.map cS->k=k'
 |[],[],_=>rfl
 |[],_::_,h=>by simp at h
 |_::_,[],h=>by simp at h
 |a::k,b::k',h=>by
  rw[aY]at h;injection h with h1 h2
  rw[cS.inj h1,GH h2]
def V5{k:List Int}{l:List (List Int)}(h:vs.map (·.1)=l.map (·.map (cS:Int->Key))):(UB vs<|k.map cS).isSome=l.contains k:=by
 rw[<-Wl,show(vs.any λkv=>ag<|kv.1=k.map cS)=(vs.map (·.1)).any λy=>ag (y=k.map cS) by rw[List.any_map];rfl,h,List.any_map,List.contains_eq_any_beq]
 congr 1
 funext y
 show ag (y.map cS=k.map cS)=(k == y);by_cases z:y=k
 .subst z;simp
 .rw[T4 λw=>z<|GH w,beq_eq_false_iff_ne.mpr<|Ne.symm z]
theorem ZgC(hu:X.A.units+7<dO):OpR X (cU .In) (λv u H Q=>∃a y o,u=.ref a/\v=y/\DGet H a y o/\Q (.bl o.isSome) H):=by
 intro pq s O H v u vv uu Q I e1 e2 h;obtain⟨a,y,o,rfl,rfl,g,q⟩:=h;cases e2;exact Zic #[0] I g e1 λs' I'=>#[.bl o.isSome,H,I',rfl,q]
theorem ZdQ(hu:X.A.units+7<dO):OpR X (cU .NotIn) (λv u H Q=>∃a y o,u=.ref a/\v=y/\DGet H a y o/\Q (.bl !o.isSome) H):=by
 intro pq s O H v u vv uu Q I e1 e2 h;obtain⟨a,y,o,rfl,rfl,g,q⟩:=h;cases e2;exact Zc3 #[0] I g e1 λs' I'=>#[.bl !o.isSome,H,I',rfl,q]
def Zb4(hu:X.A.units+7<dO):Xy X xw .In .inn:=OpR.imp ((Zfy hu).or<|ZgC hu)<|by
 rintro v u H Q ⟨Z,S,x,y,st,rx,ry,h⟩;obtain⟨b,hb,h⟩:=End.map h;have q:=End.ok h st<|Ym _;rcases zU ry hb with⟨ds,hy,hb⟩|⟨l,k,ks,hy,rfl,hk,e⟩
 .exact .inl #[Z,S,x,ds,b,st,rx,hy,hb,q]
 .obtain⟨p,vs,rfl,hx,r⟩:=hy
  obtain⟨a,xs,rfl,ha,r2⟩:=rx.tup';refine .inr #[p,.ref a,_,rfl,rfl,.inr #[vs,_,a,hx,rfl,by rw[ha,Xv hk r2],rfl],?_]
  rw[V5 r,e];exact q
def xP(hu:X.A.units+7<dO):Xy X xw .NotIn .nin:=OpR.imp ((ZdG hu).or<|ZdQ hu)<|by
 rintro v u H Q ⟨Z,S,x,y,st,rx,ry,h⟩;obtain⟨b,hb,h⟩:=End.map h;have q:=End.ok h st<|Ym _;rcases zU ry hb with⟨ds,hy,hb⟩|⟨l,k,ks,hy,rfl,hk,e⟩
 .exact .inl #[Z,S,x,ds,b,st,rx,hy,hb,q]
 .obtain⟨p,vs,rfl,hx,r⟩:=hy
  obtain⟨a,xs,rfl,ha,r2⟩:=rx.tup';refine .inr #[p,.ref a,_,rfl,rfl,.inr #[vs,_,a,hx,rfl,by rw[ha,Xv hk r2],rfl],?_]
  rw[V5 r,e];exact q
def Zf2(r:Rq Z H ds xs)(q:Ev.at' ds n=aa d):∃w,atI xs n=aa w/\Rep Z H d w:=by
 obtain⟨m,q2,q⟩:=cp.mp q;obtain⟨w,g,rw'⟩:=r.get q;refine#[w,?_,rw'];unfold atI;rw[r.length,show ixN ds.length n=aa m from q2]
 exact g
def ZhO(ha:CE X xw C a i)(hb:CE X xw C b j)(hs:wN b):CE X xw C (.Subscript a b pos) (.ix i j):=.mk <| PE.imp (Zb3 (GQ.or Ze2) ha.h hb.h hs) (We λ{Z H S x y v u Q} st rx ry h=>by
 obtain⟨d,hd,g0⟩:=End.po h;have k:∃ds n,Pv.YA x=aa ds/\y=.int n/\Ev.at' ds n=aa d:=by
  cases y with
  |int n=>
   cases x with
   |tup ds=>exact#[ds,n,rfl,rfl,hd]
   |lst ds=>exact#[ds,n,rfl,rfl,hd]
   |scr ns=>
    obtain⟨z,e,rfl⟩:=bH.mp hd;obtain⟨m,q2,q⟩:=cp.mp e;refine#[_,n,rfl,rfl,?_];unfold Ev.at';rw[ax,q2];show(ns.map Pv.V.int)[m]?=_;rw[aK,q];rfl
   |_=>exact Ev.nos hd
  |_=>cases x<;>exact Ev.nos hd
 obtain⟨ds,n,e,rfl,hn⟩:=k;obtain⟨p,xs,rfl,hp,r⟩:=rx.seq e;obtain⟨w,g,rw'⟩:=Zf2 r hn;rw[st.hk]at hp;have q:=End.ok g0 st rw';rcases hp with hp|hp
 .exact .inl #[p,xs,n,w,rfl,ry.int',hp,g,q]
 .exact .inr #[p,xs,n,w,rfl,ry.int',hp,g,q])
def Zdj:CO X xw C ai ai:=.mk <| PO.imp ZcF<|by left;exact End.ok h st rfl
def ZcM(h:CE X xw C e i):CO X xw C (aa e) (aa i):=.mk <| PO.imp (ZT h.h)<|by
 left;refine#[Z,l,S,st,lr,End.bind (h) λx S1 ρ1 H1 v f1 st1 r1 h1=>?_]
 cases x with|int n=>exact#[n,r1.int',End.ok h1 st1 rfl]|_=>exact False.elim h1
def Zah(n d o):Ev.sIx n d o=HT.sIx n d o:=by
 cases o with
 |none=>rfl
 |some i=>first|rfl|(rfl)
def wY(r:Rq Z H ds xs)(lo hi):Rq Z H (Pv.Z6 ds lo hi) (Z6 xs lo hi):=by
 unfold Pv.Z6 Z6;rw[r.length];exact(r.drop _).take _
def ZhB{lo hi:Option Expr}{il ih:Option E}(ha:CE X xw C a i)(hl:CO X xw C lo il)(hh:CO X xw C hi ih):CE X xw C (.Subscript a (.Slice lo hi ai p2) pos) (.sl i il ih):=.mk <|
 PE.imp (Zba (ZgE.or<|j5.or ZdV) ha.h hl.h hh.h)<|by
  left;refine#[Z,l,S,st,lr,End.bind (h) λx S1 ρ1 H1 v f1 st1 r1 h1=>#[ρ1,l,S1,st1,lr.mono f1,h1.bind λy S2 ρ2 H2 u f2 st2 r2 h2=>#[ρ2,l,S2,st2,(lr.mono f1).mono f2,h2.bind λz S3 ρ3 H3 w f3 st3 r3 h3=>?_]]]
  subst r2 r3;have r0:=(r1.mono f2).mono f3;cases x with
  |tup ds=>
   obtain⟨p,xs,rfl,hp,r⟩:=r0.tup';have h':=h3;by_cases hw:HT.sIx xs.length 0 y=0/\HT.sIx xs.length xs.length z=xs.length
   .refine .inr (.inl #[p,xs,rfl,SqT.of hp,hw,End.ok h' st3 ?_])
    have ew:Pv.Z6 ds y z=ds:=by
     unfold Pv.Z6;rw[Zah,Zah,<-r.length,hw.1,hw.2,kH,Nat.sub_zero,r.length,gB]
    rw[ew];exact Xe hp r
   .exact .inl #[p,xs,rfl,SqT.of hp,hw,h'.newT st3<|wY r y z]
  |lst ds=>
   obtain⟨p,xs,rfl,hp,_,r⟩:=r0.lst';exact .inr<|.inr #[p,xs,rfl,SqL.of hp,End.newL (h3) st3<|wY r y z]
  |_=>exact False.elim h3
def UE(K:ao)(xw:Nat->Hp->Prop)(f:Bf):List V->Hp->VK->Prop:=λvs H Q=>∃Z S ds,St3 K Z S H/\Rq Z H ds vs/\End K xw Rep Z H Q (Pv.po (Pv.XF f ds) S)
def ZH.imp(h:ZH X f r)(k:∀vs H Q,r' vs H Q->r vs H Q):ZH X f r':=λpq s O H xs us Q I e q=>h pq s O H xs us Q I e<|k xs H Q q
def ZaY :∀O H Q,tE X xw (Pv.pv C<|.blt f is) O H Q->tCB (UE X.K xw f) (tA X xw<|Pv.pvs C is) O H Q:=λO H Q #[Z,l,S,st,lr,h]=>
 #[Z,l,S,st,lr,End.bind (h) λxs S1 ρ1 H1 vs f1 st1 r1 h1=>#[ρ1,S1,xs,st1,r1,h1]]
def jk(r:Rq Z H [d] vs):∃v,vs=[v]/\Rep Z H d v:=by
 obtain⟨v,ws,rfl,a1,b1⟩:=r;exact#[v,by rw[b1],a1]
def zF{d e:D}(r:Rq Z H [d,e] vs):∃v w,vs=[v,w]/\Rep Z H d v/\Rep Z H e w:=by
 obtain⟨v,ws,rfl,a1,b1⟩:=r;obtain⟨w,rfl,b2⟩:=jk b1;exact#[v,w,rfl,a1,b2]
def Ws(h:End K xw rep Z H Q (Pv.po (Pv.XF f ds) S))(r:Rq Z H ds vs)(h1:f≠.max2:=by decide)(h2:f≠.min2:=by decide)(h3:f≠.index:=by decide):∃d v z,vs=[v]/\Rep Z H d v/\Pv.blt1 f d=aa z/\End K xw rep Z H Q (.ok z S):=by
 obtain⟨z,hz,g⟩:=End.po h
 match ds,hz with
 |[d],hz=>obtain⟨v,rfl,rv⟩:=jk r;exact#[d,v,z,rfl,rv,hz,g]
 |[x,y],hz=>
  cases f<;>first|exact Ev.nos hz|contradiction
def Zd8(h:End K xw Rep Z H Q (Pv.po (Pv.XF f ds) S))(r:Rq Z H ds vs)(h1:∀d,Pv.blt1 f d=ai)(h3:f≠.index:=by decide):∃m n z,vs=[.int m,.int n]/\Pv.blt2 f (.int m) (.int n)=aa z/\End K xw Rep Z H Q (.ok z S):=by
 obtain⟨z,hz,g⟩:=End.po h
 match ds,hz with
 |[d],hz=>exact Ev.nos<|(h1 d).symm.trans hz
 |[x,y],hz=>
  have:∃a b,x=.int a/\y=.int b:=by
   cases f<;>first|exact Ev.nos hz|contradiction|(obtain⟨a,ha,q⟩:=cp.mp hz;obtain⟨b,hb,_⟩:=cp.mp q;exact#[a,b,Pv.vF ha,Pv.vF hb])
  obtain⟨a,b,rfl,rfl⟩:=this;obtain⟨v,w,rfl,r1,r2⟩:=zF r;exact#[_,_,z,by rw[r1.int',r2.int'],hz,g]
def um:ZH X (.builtin "len") (UE X.K xw .len):=ZH.imp zd<|by
 rintro vs H Q ⟨Z,S,ds,st,r,h⟩;obtain⟨d,v,z,rfl,rv,hz,h⟩:=Ws h r;obtain⟨xs,hx,rfl⟩:=bH.mp hz;obtain⟨p,ys,rfl,hq,r2⟩:=rv.seq hx;refine#[p,ys,rfl,by rw[<-st.hk];exact hq,?_]
 rw[r2.length];exact End.ok h st<|ZQ _
def vE(hc:X.calm=ak):ZH X (.builtin "max") (UE X.K xw .max2):=ZH.imp (qu hc)<|by
 rintro vs H Q ⟨Z,S,ds,st,r,h⟩;obtain⟨m,n,z,rfl,hz,h⟩:=Zd8 h r λ_=>rfl
 cases hz;exact#[m,n,rfl,End.ok h st<|ZQ _]
def ue(hc:X.calm=ak):ZH X (.builtin "min") (UE X.K xw .min2):=ZH.imp (qr hc)<|by
 rintro vs H Q ⟨Z,S,ds,st,r,h⟩;obtain⟨m,n,z,rfl,hz,h⟩:=Zd8 h r λ_=>rfl
 cases hz;exact#[m,n,rfl,End.ok h st<|ZQ _]
def uo:ZH X (.type "int") (UE X.K xw .toInt):=ZH.imp uZ<|by
 rintro vs H Q ⟨Z,S,ds,st,r,h⟩;obtain⟨d,v,z,rfl,r1,hz,h⟩:=Ws h r;cases d with|int m=>cases hz;exact .inl #[m,by rw[r1.int'],End.ok h st<|ZQ _]|bl m=>cases hz;exact .inr #[m,by rw[r1.bl'],End.ok h st<|ZQ _]|_=>exact Ev.nos hz
def JI:ZH X (.type "tuple") (UE X.K xw .tuple):=ZH.imp Q0<|by
 rintro vs H Q ⟨Z,S,ds,st,r,h⟩;obtain⟨d,v,z,rfl,r1,hz,h⟩:=Ws h r;cases d with|tup ds=>cases hz;obtain⟨p,xs,rfl,hp,r2⟩:=r1.tup';exact#[p,xs,rfl,.inr #[SqT.of hp,End.ok h st r1]]|lst ds=>cases hz;obtain⟨p,xs,rfl,hp,_,r2⟩:=r1.lst';exact#[p,xs,rfl,.inl #[SqL.of hp,h.newT st r2]]|scr ns=>cases hz;obtain⟨p,rfl,hp⟩:=r1.scr';rw[st.hk]at hp;exact#[p,_,rfl,.inl #[hp.sq,h.newT st<|Rq.ints ns]]|_=>exact Ev.nos hz
def WG{id:String}{x:bN}(hc:ZH X (.builtin id) (UE X.K xw f))(hm:X.mg x=ai)(ha:CA X xw C (e::es) is)(hg:Gl X x)(hv:dB x=aa (.builtin id))(hn:x≠"__name__")(hdb:(x == ("__debug__" : bN))=aj)
  (he:ay (e::es) X.env=(aj,cz e X.env)::ay es X.env)(hpl:(dL pos<|ay es X.env).any (·.1)=aj):CE X xw C (.Call (.Name x p) (e::es) [] pos) (.blt f is):=.mk <|
 PE.imp (Xt hc hg hm hv ha.h hn hdb he hpl) ZaY
def GV{id:String}{x:bN}(hc:ZH X (.type id) (UE X.K xw f))(hm:X.mg x=ai)(ha:CA X xw C (e::es) is)(hg:Gl X x)(hv:dB x=aa (.type id))(hn:x≠"__name__")(hdb:(x == ("__debug__" : bN))=aj)
  (he:ay (e::es) X.env=(aj,cz e X.env)::ay es X.env)(hpl:(dL pos<|ay es X.env).any (·.1)=aj):CE X xw C (.Call (.Name x p) (e::es) [] pos) (.blt f is):=.mk <|
 PE.imp (Jf hc hg hm hv ha.h hn hdb he hpl) ZaY
end
section
variable{X:Cx}{xw:Nat->Hp->Prop}{C:Calls}{e a b c:Expr}{i j k:E}{pos p p' p2:iE}
theorem WV:∀{ds:List D}{bs:List Bool},Pv.ZY ds=aa bs->bs.length=ds.length/\∀j d,ds[j]?=aa d->Pv.UL d=aa (bs.getD j aj)
 |[],bs,h=>by cases h;exact#[rfl,λj d e=>by simp at e]
 |d::ds,bs,h=>by
  unfold Pv.ZY at h;cases q1:Pv.UL d with
  |none=>rw[q1]at h;cases h
  |some b=>
   cases q2:Pv.ZY ds with
   |none=>rw[q1,q2]at h;cases h
   |some cs=>
    rw[q1,q2]at h;cases h;obtain⟨l,ih⟩:=WV q2;refine#[by rw[aV,aV,l],λj d' e=>?_]
    cases j with|zero=>simp at e;subst e;simpa using q1|succ j=>simpa using ih j d' (by simpa using e)
def qI(bs:List Bool):(aO bs.length).all (λj=>bs.getD j aj)=bs.all id:=by
 rw[cR,aX,aX]
 constructor
 .intro h b hb
  obtain⟨j,hj,e⟩:=cu hb;have:=h j<|aU.mpr hj
  simpa[af hj,e]using this
 .intro h j hj
  have hj':=aU.mp hj
  simpa[af hj']using h bs[j]<|aS hj'
def qo(bs:List Bool):(aO bs.length).any (λj=>bs.getD j aj)=bs.any id:=by
 rw[cR,gA,gA]
 constructor
 .rintro ⟨j,hj,h⟩
  have hj':=aU.mp hj;exact#[bs[j],aS hj',by simpa[af hj']using h]
 .rintro ⟨b,hb,h⟩
  obtain⟨j,hj,e⟩:=cu hb;exact#[j,aU.mpr hj,by simpa[af hj,e]using h]
def Vu(r:Rep Z H d v)(e:ZA v u)(h:Pv.UL d=aa n)(s Q E)(q:Q n s) :
  aW (aR prog w) A (rW u) Q E s:=by
 cases d with
 |non=>cases r.non';cases e;cases h;exact truthy_none q
 |bl b=>cases r.bl';cases e;cases h;exact d8 q
 |int m=>
  cases r.int';obtain⟨t,rfl⟩:=e;refine nI ?_;have:(m != 0)=n:=by
   rw[<-(ap h)];by_cases z:m=0
   .subst z;rfl
   .rw[T5 z];exact bne_iff_ne.mpr z
  rw[this];exact q
 |_=>cases h
def qF(hc:X.calm=ak):ZH X (.builtin "all") (λvs H Q=>∃Z ds v bs,vs=[v]/\Rep Z H (.lst ds) v/\Pv.ZY ds=aa bs/\Q (.bl<|bs.all id) H):=by
 intro pq s O H vs us Q I r h;obtain⟨Z,ds,v,bs,rfl,rs,hb,q⟩:=h;obtain⟨p,xs,rfl,hx,_,rx⟩:=rs.lst';obtain⟨u,rfl,ru⟩:=XZ r;cases ru;obtain⟨its,rv,pl,hz⟩:=I.list<|SqL.of hx;obtain⟨lb,tb⟩:=WV hb;have hlt:p<s.heap.objs.size:=by obtain⟨_,e,_⟩:=pl.isList;exact aD e
 have hlen:its.toArray.size=bs.length:=by rw[aC,<-rv.length,rx.length,lb]
 refine call_all_walk<|eW pl.isList #[s.heap.objs.size,[s.heap.objs.size,p],[s.heap.objs.size],its.toArray.size,(λi v=>its.toArray[i]?=aa v),(λi h=>h.IsListIter s.heap.objs.size p i/\h.IsList p its.toArray),λj=>bs.getD j aj,rfl,pV (A:=X.A.in1) (I.ok.hd hc) s.heap.objs.size p (a8 hlt) its.toArray,#[#[_,aE _ rfl,rfl,rfl],pl.isList.push _],?_,?_]
 .intro j v s' Q' E' hv hQ'
  have hj:its[j]?=aa v:=by simpa using hv
  have jl:j<ds.length:=by
   have:=(aG.mp hj).1;rw[<-rv.length,rx.length]at this;exact this
  obtain⟨w',g,r'⟩:=rx.get<|af jl;obtain⟨u',g',ru'⟩:=rv.get g;rw[hj]at g';cases g';exact Vu r' ru' (tb j _<|af jl) s' Q' E' hQ'
 .intro h' tk hk
  rw[hlen,qI];have kp:=λb o e=>hk b o (λhm=>by
   have:b=s.heap.objs.size:=by simpa using hm
   exact T7 (this▸aD e)<|bv _)<|aq _ e
  exact#[.bl<|bs.all id,H,I.kept (t':=tk) kp,rfl,q]
def wT(hc:X.calm=ak):ZH X (.builtin "all") (UE X.K xw .all):=ZH.imp (qF hc)<|by
 rintro vs H Q ⟨Z,S,ds,st,r,h⟩;obtain⟨d,v,z,rfl,r1,hz,h⟩:=Ws h r;cases d with|lst ds=>obtain⟨bs,hb,rfl⟩:=bH.mp hz;exact#[Z,ds,v,bs,rfl,r1,hb,End.ok h st<|Ym _]|_=>exact Ev.nos hz
noncomputable def ZX:Ty->String
 |.int=>"int" | .bool=>"bool" | .str=>"str" | .tuple=>"tuple" | .list=>"list" | .dict=>"dict" | .cls _=>""
def xM{K:ao}{x:D}{v:V}{t:Ty}(rx:Rep Z H x v)(ht:∀m,t≠.cls m)(h:Pv.YI x t=aa n) :
  ∃tv,TyOf K H v tv/\gh K tv (.type<|ZX t)=aa n:=by
 cases x with
 |non=>rw[rx.non'];refine#[_,.non,?_];cases h;cases t<;>first|rfl|exact T7 rfl<|ht _
 |bl b=>rw[rx.bl'];refine#[_,.bl b,?_];cases h;cases t<;>first|rfl|exact T7 rfl<|ht _
 |int b=>rw[rx.int'];refine#[_,.int b,?_];cases h;cases t<;>first|rfl|exact T7 rfl<|ht _
 |str b=>rw[rx.str'];refine#[_,.str b,?_];cases h;cases t<;>first|rfl|exact T7 rfl<|ht _
 |tup ds=>
  obtain⟨p,xs,rfl,hp,_⟩:=rx.tup';refine#[_,.tup hp,?_];cases h;cases t<;>first|rfl|exact T7 rfl<|ht _
 |lst ds=>
  obtain⟨p,xs,rfl,hp,_⟩:=rx.lst';refine#[_,.lst hp,?_];cases h;cases t<;>first|rfl|exact T7 rfl<|ht _
 |dct o=>
  cases o with
  |inr _=>exact Ev.nos h
  |inl _=>
   obtain⟨p,rfl,e⟩:=rx.dct';refine#[_,.dK e,?_];cases h;cases t<;>first|rfl|exact T7 rfl<|ht _
 |_=>exact Ev.nos h
def ZaX(T):ZH X (.builtin "isinstance") (λvs H Q=>∃v tv n,vs=[v,.ty T]/\TyOf X.K H v tv/\gh X.K tv (.type T)=aa n/\Q (.bl n) H):=by
 intro pq s O H vs us Q I r h;obtain⟨v,tv,n,rfl,ty,e,q⟩:=h;obtain⟨u,w',rfl,r1,r2⟩:=yy r;cases r2;exact uS I r1 ty e λtk=>#[.bl n,H,I.tok tk,rfl,q]
def U9{t:Ty}(ht:∀m,t≠.cls m)(hm:X.mg "isinstance" = ai)(hmT:X.mg T=ai)(ha:CE X xw C a i)(hg:Gl X "isinstance")(hgT:Gl X T)(hvT:dB T=aa (.type<|ZX t))(hnT:T≠"__name__")(hdT:(T == ("__debug__" : bN))=aj)
  (hs1:ay [a,.Name T p2] X.env=(aj,cz a X.env)::ay [.Name T p2] X.env)(hs2:ay [.Name T p2] X.env=(aj,cz (.Name T p2) X.env)::ay [] X.env)(hpl:(dL pos<|ay [.Name T p2] X.env).any (·.1)=aj) :
  CE X xw C (.Call (.Name "isinstance" p) [a,.Name T p2] [] pos) (.isi i [t]):=.mk <|
 PE.imp (Xt (ZaX<|ZX t) hg hm #[7] (ZG ha.h (ZG (UW (v:=.ty<|ZX t) hgT hmT hvT rfl hnT hdT) Yw hs2) hs1) #[1] #[1] hs1 hpl)<|by
  left;refine#[Z,l,S,st,lr,End.bind (h) λx S1 ρ1 H1 v f1 st1 r1 h1=>?_]
  obtain⟨n,hn,h2⟩:=End.ob h1;have hn':Pv.YI x t=aa n:=by
   unfold Pv.Yf at hn;cases q:Pv.YI x t with|none=>rw[q]at hn;cases hn|some m=>rw[q]at hn;cases m<;>exact hn
  obtain⟨tv,ty,e⟩:=xM r1 ht hn';exact#[v,tv,n,rfl,ty,e,End.ok h2 st1<|Ym _]
def ZhD(P:bO)(w:bV)(K:ao)(a:aH)(tab:List (Int×Int)):Prop:=(a == c8)=aj/\∃f:Int->Option az,(∀h:cM,K.In h->h.MapOf (gU P w) a f)/\∀k,(tab.lookup k=ai->f k=ai)/\∀j,tab.lookup k=aa j->∃t,f k=aa (.int j t)
def Zcl:CE X xw C (.Dict [] [] pos) .dnew:=.mk <| PE.imp Za9 λO H Q #[Z,l,S,st,lr,h]=>λp hp=>
 (h) Z _ _ (Zs hp) (st.fresh hp) (by unfold Rep;exact#[p,rfl,Zl])
def Wj(fr:Bool)(H0:Hp)(Z:Mx)(H:Hp)(d:D)(v:V):Prop:=Rep Z H d v/\(fr=ak->∀ds,d=.lst ds->∃a,v=.ref a/\H0 a=ai)
theorem End.fr{K:ao}{Q:VK}{fr:Bool}(h:End K xw Rep Z H Q r):End K xw (Wj fr H0) Z H Q r:=by
 cases r with|ok d S=>exact λρ' H' v f st r=>h ρ' H' v f st r.1|_=>exact h
end
abbrev Own:=Nat->Option aH
def Mx.ex(Z:Mx)(W:Own):Mx:=#[Z.K,Z.n0,λa=>Z.X a\/∃i,W i=aa a,λa h=>.inl<|Z.xz a h]
mutual
theorem Rep.flat(hk:ρ'.K=Z.K)(k:∀a o,H a=aa o->(∀xs,o≠.lst xs)->(∀vs,o≠.dT vs)->H' a=aa o):∀{d:D}{v:V},d.flat=ak->Rep Z H d v->Rep ρ' H' d v
 |.non,_,_,h|.bl _,_,_,h|.int _,_,_,h|.str _,_,_,h=>by exact h
 |.tup ds,v,f,h=>by
  obtain⟨a,xs,e,t,r⟩:=h;exact#[a,xs,e,k a _ t (λ_ z=>by cases z) (λ_ z=>by cases z),r.flat hk k (by exact f)]
 |.scr ns,v,_,h=>by
  unfold Rep at h ⊢;obtain⟨a,e,t⟩:=h;rw[hk];refine#[a,e,?_];rcases t with⟨o,t⟩|t
  .exact .inl #[o,k a _ t (λ_ z=>by cases z) λ_ z=>by cases z]
  .exact .inr t
 |.lst _,_,f,_|.drw,_,f,_|.dct _,_,f,_|.dow _,_,f,_=>by cases f
theorem Rq.flat(hk:ρ'.K=Z.K)(k:∀a o,H a=aa o->(∀xs,o≠.lst xs)->(∀vs,o≠.dT vs)->H' a=aa o):∀{ds:List D}{xs:List V},Pv.WQ ds=ak->Rq Z H ds xs->Rq ρ' H' ds xs
 |[],_,_,h=>by exact h
 |d::ds,xs,f,h=>by
  obtain⟨v,vs,e,r,rs⟩:=h;have f:=(aB _ _).mp f;exact#[v,vs,e,r.flat hk k f.1,rs.flat hk k f.2]
end
def XX(Z:Mx)(H:Hp)(a:aH):D->Prop
 |.lst xs=>∃us,H a=aa (.lst us)/\Rq Z H xs us
 |.dow ks=>∃vs,H a=aa (.dT vs)/\vs.map (·.1)=ks.map (·.map cS)
 |_=>False
def XX.ob(h:XX Z H a d):(∃us,H a=aa (.lst us))\/∃vs,H a=aa (.dT vs):=by
 cases d with|lst xs=>obtain⟨us,e,_⟩:=h;exact .inl #[us,e]|dow ks=>obtain⟨vs,e,_⟩:=h;exact .inr #[vs,e]|_=>exact h.elim
def XX.ne(h:XX Z H a d):H a≠ai:=by
 rcases h.ob with⟨_,z⟩|⟨_,z⟩<;>(rw[z];intro q;cases q)
def XX.rep(h:XX Z H a d)(x:¬Z.X a):Rep Z H d (.ref a):=by
 cases d with|lst xs=>obtain⟨us,e,r⟩:=h;exact Wy e x r|dow ks=>obtain⟨vs,e,q⟩:=h;exact#[a,vs,rfl,e,x,q]|_=>exact h.elim
theorem XX.lat(h:XX Z H a d)(f:Lat Z H ρ' H')(e:H' a=H a):XX ρ' H' a d:=by
 cases d with|lst xs=>obtain⟨us,q,r⟩:=h;exact#[us,e.trans q,r.lat f]|dow ks=>obtain⟨vs,q,r⟩:=h;exact#[vs,e.trans q,r]|_=>exact h
def Lat.own(x:Z.X b)(hb:(∃us,H b=aa (.lst us))\/∃vs,H b=aa (.dT vs)):Lat Z H Z (upd H b o'):=#[rfl,rfl,λc u z nx _ nd=>by
 rw[Zj (λq=>by
  rw[q]at z;rcases hb with⟨_,e⟩|⟨_,e⟩<;>(rw[e]at z;cases z)
  .exact nx _ rfl<|q▸x
  .exact nd _ rfl<|q▸x)]
 exact z,λ_ _ z=>z]
structure Eu(Z:Mx)(H0:Hp)(W:Own)(l:Lc)(os:List Nat)(O:L2.St)(H:Hp):Prop where
 fut:Fut Z H0 Z H
 xd:∀a,Z.X a->H0 a≠ai
 len:l.length=O.length
 osW:∀i,os.contains i=(W i).isSome
 inj:∀i j a,W i=aa a->W j=aa a->i=j
 new:∀i a,W i=aa a->H0 a=ai
 own:∀i a,W i=aa a->∃d,l[i]?=aa (aa d)/\O[i]?=aa (aa<|.ref a)/\XX (Z.ex W) H a d
 val:∀(i:Nat)(d:D),l[i]?=aa (aa d)->W i=ai->∃v,O[i]?=aa (aa v)/\Rep (Z.ex W) H d v
section
variable{K:ao}{Z:Mx}{H0 H H':Hp}{W W':Own}{l:Lc}{os:List Nat}{O:L2.St}{S:ZO}
def Lat.unex:Lat (Z.ex W) H Z H:=#[rfl,rfl,λ_ _ h _ _ _=>h,λ_ _ x=>.inl x]
theorem Fut.ex(f:Fut Z H Z H'):Fut (Z.ex W) H (Z.ex W) H':=#[rfl,f.keep]
def St3.unex(st:St3 K (Z.ex W) S H):St3 K Z S H:=#[st.hk,λa x=>st.xd a<|.inl x,st.dw,st.tb]
def Eu.nx(h:Eu Z H0 W l os O H)(e:W i=aa a):¬Z.X a:=λz=>h.xd a z<|h.new i a e
theorem Eu.st(h:Eu Z H0 W l os O H)(st:St3 K Z S H):St3 K (Z.ex W) S H:=
 #[st.hk,λa x=>x.elim (st.xd a) λ#[i,e]=>(let #[_,_,_,z]:=h.own i a e;z.ne),st.dw,st.tb]
def vj(f:Fut Z H Z H')(x:¬Z.X a)(h:H a=aa o)(n:∀ps,o≠.tbl ps:=by intro _ z;cases z):H' a=aa o:=(f.keep a o h).elim id λz=>z.elim (λz=>T7 (Z.xz a z.1) x)<|by rintro ⟨⟨ps,e⟩,_⟩;exact T7 e<|n ps
def Eu.all(h:Eu Z H0 W l os O H):LocR Z H l O:=#[h.len,λi v e=>by
 cases q:W i with
 |none=>obtain⟨d,a,b⟩:=h.val i v e q;exact#[d,a,b.lat Lat.unex]
 |some n=>
  obtain⟨d,a,c,r⟩:=h.own i n q;rw[a]at e;cases e;exact#[_,c,(r.lat Lat.unex rfl).rep<|h.nx q]]
def jQ(e:(Pv.hide os l)[i]?=aa (aa v)):l[i]?=aa (aa v)/\os.contains i=aj:=by
 unfold Pv.hide at e;rw[iV]at e;cases q:l[i]? with
 |none=>rw[q]at e;cases e
 |some o=>
  rw[q]at e;have e':(if os.contains i=ak then ai else o)=aa v:=ap e
  by_cases c:os.contains i=ak
  .rw[T9 c]at e';cases e'
  .rw[T8 c]at e';exact#[by rw[e'],by simpa using c]
def hide_nil:Pv.hide [] l=l:=by
 unfold Pv.hide;refine bW λi=>?_
 rw[iV];cases l[i]?<;>rfl
def Eu.nW(h:Eu Z H0 W l os O H)(b:os.contains i=aj):W i=ai:=by
 rw[h.osW]at b;cases q:W i with|none=>rfl|some _=>rw[q]at b;cases b
def Eu.hid(h:Eu Z H0 W l os O H):LocR (Z.ex W) H (Pv.hide os l) O:=#[by unfold Pv.hide;rw[List.length_mapIdx];exact h.len,λi v e=>by
 obtain⟨a,b⟩:=jQ e;exact h.val i v a<|h.nW b]
theorem Eu.mono(h:Eu Z H0 W l os O H)(f:Fut Z H Z H'):Eu Z H0 W l os O H':=
 #[h.fut.trans f,h.xd,h.len,h.osW,h.inj,h.new,λi a q=>by
  obtain⟨d,p,c,r⟩:=h.own i a q;exact#[d,p,c,r.lat f.ex.lat (by rcases r.ob with⟨_,e⟩|⟨_,e⟩<;>rw[vj f (h.nx q) e,e])],λi v a b=>by
  obtain⟨d,c,r⟩:=h.val i v a b;exact#[d,c,r.mono f.ex]]
def Gx{B:Type}{l:List (Option B)}{o:Option B}{v:B}(e:(l.set i o)[j]?=aa (aa v)):(i=j/\o=aa v/\i<l.length)\/(i≠j/\l[j]?=aa (aa v)):=by
 rw[oy]at e;by_cases c:i=j
 .rw[T9 c]at e
  by_cases z:i<l.length
  .rw[T9 z]at e;exact .inl #[c,ap e,z]
  .rw[T8 z]at e;cases e
 .rw[T8 c]at e;exact .inr #[c,e]
theorem Eu.set(h:Eu Z H0 W l os O H)(hi:os.contains i=aj)(r:∀d,o=aa d->Rep (Z.ex W) H d v):Eu Z H0 W (l.set i o) os (O.set i<|aa v) H:=by
 have hw:=h.nW hi;refine#[h.fut,h.xd,by rw[bC,bC];exact h.len,h.osW,h.inj,h.new,λj n q=>?_,λj w e q=>?_]
 .obtain⟨d,a,c,e⟩:=h.own j n q
  have ij:i≠j:=λz=>by rw[z,q]at hw;cases hw
  exact#[d,by rw[ba ij];exact a,by rw[ba ij];exact c,e]
 .rcases Gx e with⟨rfl,z,hl⟩|⟨c,z⟩
  .exact#[v,bc (by rw[<-h.len];exact hl),r w z]
  .rw[ba c];exact h.val j w z q
noncomputable def Ql:List Nat->List V->L2.St->L2.St
 |i::t,x::xs,O=>Ql t xs<|O.set i<|aa x
 |_,_,O=>O
theorem Eu.fill:∀{t:List Nat}{vs:List D}{us:List V}{l l':Lc}{O:L2.St},Eu Z H0 W l os O H->(t.any os.contains)=aj->Rq (Z.ex W) H vs us->Pv.Y3 t vs l=aa l'->us.length=t.length/\Eu Z H0 W l' os (Ql t us O) H
 |[],[],_,l,l',O,h,_,r,e=>by rw[r];cases e;exact#[rfl,h]
 |[],_::_,_,_,_,_,_,_,_,e=>by cases e
 |_::_,[],_,_,_,_,_,_,_,e=>by cases e
 |i::t,v::vs,_,l,l',O,h,ht,r,e=>by
  obtain⟨d,ds,rfl,a,b⟩:=r;rw[fj,Bool.or_eq_false_iff]at ht;obtain⟨z,q⟩:=Eu.fill (h.set ht.1 λ_ z=>by cases z;exact a) ht.2 b e
  exact#[by rw[aV,aV,z],q]
def tGU(K:ao)(t:List Nat):TG:=λv O H Q=>match t with
 |[i]=>Q (O.set i<|aa v) H
 |t=>∃a xs,v=.ref a/\(SqT K H a xs\/H a=aa (.lst xs))/\xs.length=t.length/\Q (Ql t xs O) H
def Eu.assign{Q:L2.St->Hp->Prop}(h:Eu Z H0 W l os O H)(ht:(t.any os.contains)=aj)(r:Rep (Z.ex W) H d v)(e:Pv.Zq t d l=aa l')(q:∀σ',Eu Z H0 W l' os σ' H->Q σ' H):tGU K t v O H Q:=by
 have gen:∀t,(t.any os.contains)=aj->(match Pv.jW d with
   |some xs=>Pv.Y3 t xs l
   |none=>ai)=aa l'->∃a xs,v=.ref a/\(SqT K H a xs\/H a=aa (.lst xs))/\xs.length=t.length/\Q (Ql t xs O) H:=by
  intro t ht e;cases d with|tup vs=>obtain⟨p,ds,rfl,hp,rs⟩:=r.tup';obtain⟨z,y⟩:=h.fill ht rs e;exact#[p,ds,rfl,.inl<|SqT.of hp,z,q _ y]|lst vs=>obtain⟨p,ds,rfl,hp,_,rs⟩:=r.lst';obtain⟨z,y⟩:=h.fill ht rs e;exact#[p,ds,rfl,.inr hp,z,q _ y]|_=>cases e
 match t,ht,e with
 |[i],ht,e=>cases e;exact q _<|h.set (by simpa using ht) λ_ z=>by cases z;exact r
 |[],ht,e=>exact gen [] ht e
 |i::j::t,ht,e=>exact gen (i::j::t) ht e
def noW(W:Own)(i:Nat):Own:=λj=>if j=i then ai else W j
def WI(z:noW W i j=aa a):j≠i/\W j=aa a:=by
 unfold noW at z;by_cases c:j=i
 .rw[T9 c]at z;cases z
 .rw[T8 c]at z;exact#[c,z]
theorem Lat.noW{i:Nat}:Lat (Z.ex W) H (Z.ex<|noW W i) H:=#[rfl,rfl,λ_ _ h _ _ _=>h,λ_ _ x=>x.elim .inl λ#[j,e]=>.inr #[j,(WI e).2]]
def Qz(h:∀i,os.contains i=(W i).isSome)(j):(os.filter (· != i)).contains j=(noW W i j).isSome:=by
 unfold noW;by_cases c:j=i
 .simp[c]
 .simp[c]
  rw[<-h j];simp
def Eu.drop{i:Nat}{v:V}(h:Eu Z H0 W l os O H)(r:∀d,o=aa d->Rep (Z.ex<|noW W i) H d v):Eu Z H0 (noW W i) (l.set i o) (os.filter (· != i)) (O.set i<|aa v) H:=by
 refine#[h.fut,h.xd,by rw[bC,bC];exact h.len,Qz h.osW,λa b n x y=>h.inj a b n (WI x).2 (WI y).2,λj n z=>h.new j n (WI z).2,λj n z=>?_,λj w e z=>?_]
 .obtain⟨d,a,c,e⟩:=h.own j n (WI z).2
  have ij:=Ne.symm (WI z).1;exact#[d,by rw[ba ij];exact a,by rw[ba ij];exact c,e.lat Lat.noW rfl]
 .rcases Gx e with⟨rfl,e,hl⟩|⟨c,e⟩
  .exact#[v,bc (by rw[<-h.len];exact hl),r w e]
  .rw[ba c]
   unfold Sd.noW at z;rw[T8<|Ne.symm c]at z;obtain⟨d',a,b⟩:=h.val j w e z;exact#[d',a,b.lat Lat.noW]
def Qp(W:Own)(i:Nat)(a:aH):Own:=λj=>if j=i then aa a else W j
def Lat.put(ha:H a=ai):Lat (Z.ex W) H (Z.ex<|Qp W i a) (upd H a o):=#[rfl,rfl,(Zs ha).lat.keep',λb hb x=>by
 rcases x with x|⟨j,x⟩
 .exact .inl x
 .unfold Qp at x
  split at x
  .exact T7 ha<|ap x▸hb
  .exact .inr #[j,x]]
def Eu.takeO{i:Nat}{d:D}(h:Eu Z H0 W l os O H)(hd:∀a,Z.X a->H a≠ai)(f:Fut Z H Z H')(hn:H a=ai)(hx:¬(Z.ex W).X a)(r:XX (Z.ex<|Qp W i a) H' a d)(hi:i<l.length) :
  Eu Z H0 (Qp W i a) (l.set i<|aa d) (i::os.filter (· != i)) (O.set i<|aa<|.ref a) H':=by
 have get:∀{j m},Qp W i a j=aa m->(j=i/\a=m)\/(j≠i/\W j=aa m):=λ{j m} z=>by
  unfold Qp at z;by_cases c:j=i
  .rw[T9 c]at z;exact .inl #[c,ap z]
  .rw[T8 c]at z;exact .inr #[c,z]
 have na:=h.fut.new hn hd;have lt:Lat (Z.ex W) H (Z.ex<|Qp W i a) H':=#[rfl,rfl,f.ex.lat.keep',λb hb x=>by
  rcases x with x|⟨j,x⟩
  .exact .inl x
  .rcases get x with⟨_,z⟩|⟨_,z⟩
   .exact T7 hn<|z▸hb
   .exact .inr #[j,z]]
 refine#[(h.mono f).fut,h.xd,by rw[bC,bC];exact h.len,λj=>?_,λp q m x y=>?_,λj m z=>?_,λj m z=>?_,λj w q z=>?_]
 .have:=Qz (i:=i) h.osW j
  unfold Qp;by_cases c:j=i
  .simp[c]
  .unfold noW at this
   rw[T8 c]at this ⊢;rw[List.contains_cons,this,beq_eq_false_iff_ne.mpr c,lw]
 .rcases get x with⟨x1,x2⟩|⟨x1,x2⟩<;>rcases get y with⟨y1,y2⟩|⟨y1,y2⟩
  .rw[x1,y1]
  .exact T7 (.inr #[q,x2▸y2]) hx
  .exact T7 (.inr #[p,y2▸x2]) hx
  .exact h.inj p q m x2 y2
 .rcases get z with⟨_,z⟩|⟨_,z⟩
  .exact z▸na
  .exact h.new j m z
 .rcases get z with⟨z1,z2⟩|⟨z1,z2⟩
  .subst z1 z2
   exact#[d,bc hi,bc (by rw[<-h.len];exact hi),r]
  .obtain⟨d',p,c,q⟩:=h.own j m z2
   exact#[d',by rw[ba<|Ne.symm z1];exact p,by rw[ba<|Ne.symm z1];exact c,q.lat lt (by rcases q.ob with⟨_,e⟩|⟨_,e⟩<;>rw[vj f (h.nx z2) e,e])]
 .unfold Qp at z
  by_cases c:j=i
  .rw[T9 c]at z;cases z
  .rw[T8 c]at z
   rw[ba<|Ne.symm c]at q ⊢;obtain⟨d,p,b⟩:=h.val j w q z;exact#[d,p,b.lat lt]
def Eu.take(h:Eu Z H0 W l os O H)(hd:∀a,Z.X a->H a≠ai)(f:Fut Z H Z H')(hn:H a=ai)(hf:Pv.WQ xs=ak)(r:Rep (Z.ex W) H' (.lst xs) (.ref a))(hi:i<l.length) :
  Eu Z H0 (Qp W i a) (l.set i<|aa<|.lst xs) (i::os.filter (· != i)) (O.set i<|aa<|.ref a) H':=by
 obtain⟨_,us,en,hs,hx,rs⟩:=r.lst';cases en;exact h.takeO hd f hn hx #[us,hs,rs.flat (Z:=Z.ex W) (ρ':=Z.ex<|Qp W i a) rfl (λ_ _ z _ _=>z) hf] hi
def Eu.mutO{i:Nat}{d':D}(h:Eu Z H0 W l os O H)(hw:W i=aa a)(r:XX (Z.ex W) (upd H a o') a d'):Eu Z H0 W (l.set i<|aa d') os O (upd H a o'):=by
 obtain⟨d,p,c,e⟩:=h.own i a hw;have lt:Lat (Z.ex W) H (Z.ex W) (upd H a o'):=Lat.own (o0 #[i,hw]) e.ob
 refine#[#[rfl,λb o z=>?_],h.xd,by rw[bC];exact h.len,h.osW,h.inj,h.new,λj m z=>?_,λj w q z=>?_]
 .rw[Zj λq=>by rw[q,h.new i a hw]at z;cases z]
  exact h.fut.keep b o z
 .by_cases k:i=j
  .subst k
   rw[hw]at z;cases z;exact#[d',bc<|(aG.mp p).1,c,r]
  .obtain⟨d2,a',c',e'⟩:=h.own j m z
   exact#[d2,by rw[ba k];exact a',c',e'.lat lt<|Zj λq:m=a=>k<|h.inj i j a hw<|q▸z]
 .have k:i≠j:=λk=>by rw[<-k,hw]at z;cases z
  rw[ba k]at q;obtain⟨d,a',b'⟩:=h.val j w q z;exact#[d,a',b'.lat lt]
def Eu.mut(h:Eu Z H0 W l os O H)(hw:W i=aa a)(r:Rq (Z.ex W) H ys us):Eu Z H0 W (l.set i<|aa<|.lst ys) os O (upd H a<|.lst us):=by
 obtain⟨d,p,c,e⟩:=h.own i a hw;exact h.mutO hw (d':=.lst ys) #[us,Zl,r.lat<|Lat.own (o0 #[i,hw]) e.ob]
def St3.mut(st:St3 K Z S H)(h:Eu Z H0 W l os O H)(hw:W i=aa a)(ht:∀ps,o'≠.tbl ps:=by intro _ z;cases z):St3 K Z S (upd H a o'):=by
 obtain⟨d,p,c,e⟩:=h.own i a hw;have ne:∀b,Z.X b->b≠a:=λb x z=>h.nx hw<|z▸x
 exact#[st.hk,λb x=>by rw[Zj<|ne b x];exact st.xd b x,λb x=>by rw[Zj<|ne b<|Z.xz b x];exact st.dw b x,st.tb.upd (λo u z=>by rcases e.ob with⟨_,e⟩|⟨_,e⟩<;>(rw[e]at z;cases z)) ht]
structure Base(Z:Mx)(H0 H1:Hp):Prop where
 fut:Fut Z H0 Z H1
 dom:∀a,H1 a=ai->H0 a=ai
def Eu.rebase(b:Base Z H0 H1)(x:∀a,Z.X a->H0 a≠ai)(h:Eu Z H1 W l os O H):Eu Z H0 W l os O H:=#[b.fut.trans h.fut,x,h.len,h.osW,h.inj,λi a e=>b.dom a<|h.new i a e,h.own,h.val]
open Classical in
def Q6(H:Hp)(W:Own):Hp:=λa=>if ∃i,W i=aa a then ai else H a
def Eu.off(h:Eu Z H0 W l os O H)(hd:∀a,Z.X a->H a≠ai):Base Z H0 (Q6 H W)/\Eu Z (Q6 H W) W l os O H:=by
 have nw:∀a,H0 a≠ai->Q6 H W a=H a:=λa z=>T8 λ#[i,e]=>z<|h.new i a e
 refine#[#[#[rfl,λa o e=>?_],λa e=>?_],#[rfl,λa o e=>.inl ?_],λa x=>?_,h.len,h.osW,h.inj,λi a e=>T9 #[i,e],h.own,h.val]
 .rw[nw a (by rw[e];intro z;cases z)];exact h.fut.keep a o e
 .cases q:H0 a with
  |none=>rfl
  |some o=>
   rw[nw a<|by rw[q];intro z;cases z]at e
   rw[h.fut.new e hd]at q;cases q
 .unfold Q6 at e
  split at e
  .cases e
  .exact e
 .rw[nw a<|h.xd a x];exact hd a x
def Eu.walk(h:Eu Z H0 W l os O H)(h':Eu Z (Q6 H W) W' l' os' σ' H'):Lat (Z.ex W) H (Z.ex W') H':=by
 refine#[rfl,rfl,λa o e x n nd=>?_,λa e x=>?_]
 .have nw:¬∃i,W i=aa a:=by
   rintro ⟨i,w⟩;obtain⟨_,_,_,z⟩:=h.own i a w;rcases z.ob with⟨us,z⟩|⟨us,z⟩<;>rw[e]at z
   .exact x us (ap z)<|.inr #[i,w]
   .exact nd us (ap z)<|.inr #[i,w]
  rcases h'.fut.keep a o (by unfold Q6;rw[T8 nw];exact e)with z|⟨z,xs,q⟩|⟨⟨ps,q⟩,_⟩
  .exact z
  .exact T7 (.inl<|Z.xz a z)<|x xs q
  .exact T7 q<|n ps
 .rcases x with x|⟨i,x⟩
  .exact .inl x
  .have:=h'.new i a x
   unfold Q6 at this;split at this
   .exact .inr ‹_›
   .exact T7 this e
end
section
variable(X:Cx)(xw:Nat->Hp->Prop)(C:Calls)
def tF(f:Lc->ZO->R D):TE:=λO H Q=>∃Z l S,St3 X.K Z S H/\LocR Z H l O/\End X.K xw (Wj ak H) Z H Q (f l S)
structure CF(e:Expr)(i:E):Prop where
 h:PE X e (tF X xw<|Pv.pv C i)
end
def CF.ce(h:CF X xw C e i):CE X xw C e i:=.mk <| PE.imp h.h<|by left;exact #[Z,l,S,st,lr,h.fr]
def End.newF{K:ao}(h:End K xw (Wj ak H0) Z H Q (.ok (.lst ds) S))(f:Fut Z H0 Z H)(s0:St3 K Z S0 H0)(st:St3 K Z S H)(r:Rq Z H ds xs):∀p,H p=ai->Q (.ref p) (upd H p<|.lst xs):=λp hp=>
 h Z _ _ (Zs hp) (st.fresh hp) #[Wy Zl (st.nx hp)<|r.mono<|Zs hp,λ_ _ _=>#[p,rfl,f.new hp st.xd]]
def Jx(K:ao)(xw:Nat->Hp->Prop)(f:Bf):List V->Hp->VK->Prop:=λvs H Q=>∃Z S ds,St3 K Z S H/\Rq Z H ds vs/\∃H0 S0,Fut Z H0 Z H/\St3 K Z S0 H0/\End K xw (Wj ak H0) Z H Q (Pv.po (Pv.XF f ds) S)
def wW :∀O H Q,tF X xw (Pv.pv C<|.blt f is) O H Q->tCB (Jx X.K xw f) (tA X xw<|Pv.pvs C is) O H Q:=λO H Q #[Z,l,S,st,lr,h]=>
 #[Z,l,S,st,lr,End.bind (h) λxs S1 ρ1 H1 vs f1 st1 r1 h1=>by cases f1.eq;exact#[Z,S1,xs,st1,r1,H,S,f1,st,h1]]
def ZcH{f:Bf}{id:String}(hc:ZH X (.builtin id) (Jx X.K xw f))(hm:X.mg x=ai)(ha:CA X xw C (e::es) is)(hg:Gl X x)(hv:dB x=aa (.builtin id))(hn:x≠"__name__")(hdb:(x == ("__debug__" : bN))=aj)
  (he:ay (e::es) X.env=(aj,cz e X.env)::ay es X.env)(hpl:(dL pos<|ay es X.env).any (·.1)=aj):CF X xw C (.Call (.Name x p) (e::es) [] pos) (.blt f is):=.mk <|
 PE.imp (Xt hc hg hm hv ha.h hn hdb he hpl) wW
def vB{f:Bf}{id:String}(hc:ZH X (.type id) (Jx X.K xw f))(hm:X.mg x=ai)(ha:CA X xw C (e::es) is)(hg:Gl X x)(hv:dB x=aa (.type id))(hn:x≠"__name__")(hdb:(x == ("__debug__" : bN))=aj)
  (he:ay (e::es) X.env=(aj,cz e X.env)::ay es X.env)(hpl:(dL pos<|ay es X.env).any (·.1)=aj):CF X xw C (.Call (.Name x p) (e::es) [] pos) (.blt f is):=.mk <|
 PE.imp (Jf hc hg hm hv ha.h hn hdb he hpl) wW
def z7{xw:Nat->Hp->Prop}:ZH X (.type "list") (Jx X.K xw .list):=ZH.imp G5<|by
 rintro vs H Q ⟨Z,S,ds,st,r,H0,S0,f0,s0,h⟩;obtain⟨d,v,z,rfl,r1,hz,h⟩:=Ws h r;obtain⟨xs,hx,rfl⟩:=bH.mp hz;obtain⟨p,ys,rfl,hq,r2⟩:=r1.seq hx;exact#[p,ys,rfl,by rw[<-st.hk];exact hq,h.newF f0 s0 st r2]
def ZC(fr:Bool)(K:ao)(xw:Nat->Hp->Prop)(Z:Mx)(H0:Hp)(D:Ends):R Pv.FlV->Prop
 |.ok (.nx l os) S=>∀H' σ' W',St3 K Z S H'->Eu Z H0 W' l os σ' H'->D.nx σ' H'
 |.ok (.ret d) S=>∀H' v,Fut Z H0 Z H'->St3 K Z S H'->Wj fr H0 Z H' d v->D.rt v H'
 |.ex c S=>∀H',Fut Z H0 Z H'->St3 K Z S H'->xw c H'
 |.no=>False
section
variable{fr:Bool}{K:ao}{xw:Nat->Hp->Prop}{Z:Mx}{H0 H:Hp}{B β:Type}{rep:Mx->Hp->B->β->Prop}{D:Ends}{W:Own}{l:Lc}{os:List Nat}{O:L2.St}{S:ZO}
theorem ZC.bind(he:Eu Z H0 W l os O H)(h:ZC fr K xw Z H0 D (r.bind f))
  (k:∀d S H1 v,Fut Z H Z H1->St3 K Z S H1->rep Z H1 d v->ZC fr K xw Z H0 D (f d S)->Q1 v H1):End K xw rep Z H Q1 r:=by
 cases r with|ok d S=>exact λρ1 H1 v g st r=>by cases g.eq;exact k d S H1 v g st r h|ex c S=>exact λρ1 H1 g st=>by cases g.eq;exact h H1 (he.fut.trans g) st|no=>exact h
def ZC.bindW(he:Eu Z H0 W l os O H)(h:ZC fr K xw Z H0 D (r.bind f))
  (k:∀d S H1 v,Fut Z H Z H1->St3 K Z S H1->rep (Z.ex W) H1 d v->ZC fr K xw Z H0 D (f d S)->Q1 v H1):End K xw rep (Z.ex W) H Q1 r:=by
 cases r with|ok d S=>exact λρ1 H1 v g st r=>by cases g.eq;exact k d S H1 v #[rfl,g.keep] st.unex r h|ex c S=>exact λρ1 H1 g st=>by cases g.eq;exact h H1 (he.fut.trans #[rfl,g.keep]) st.unex|no=>exact h
def ZC.ob(h:ZC fr K xw Z H0 D ((Pv.po o S).bind f)):∃a,o=aa a/\ZC fr K xw Z H0 D (f a S):=by
 cases o with|none=>exact h.elim|some a=>exact#[a,rfl,h]
def ZC.guard{c:Prop}[Decidable c](h:ZC fr K xw Z H0 D (if c then a else .no)):c/\ZC fr K xw Z H0 D a:=by
 split at h
 .exact#[‹_›,h]
 .exact h.elim
def ZC.guardN{c:Prop}[Decidable c](h:ZC fr K xw Z H0 D (if c then .no else a)):¬c/\ZC fr K xw Z H0 D a:=by
 split at h
 .exact h.elim
 .exact#[‹_›,h]
theorem ZC.rebase(b:Base Z H0 H1)(x:∀a,Z.X a->H0 a≠ai)(h:ZC fr K xw Z H0 D r):ZC fr K xw Z H1 D r:=by
 cases r with
 |ok f S=>
  cases f with|nx l os=>exact λH' σ' W' st e=>h H' σ' W' st<|e.rebase b x|ret d=>exact λH' v f st r=>h H' v (b.fut.trans f) st #[r.1,λz ds y=>let #[a,e,q]:=r.2 z ds y;#[a,e,b.dom a q]]
 |ex c S=>exact λH' f st=>h H' (b.fut.trans f) st
 |no=>exact h
end
section
variable(X:Cx)(xw:Nat->Hp->Prop)(fr:Bool)
def tS3(f:Lc->List Nat->ZO->R Pv.FlV):TS:=λD O H=>∃Z H0 W l os S,St3 X.K Z S H/\Eu Z H0 W l os O H/\ZC fr X.K xw Z H0 D (f l os S)
variable(C:Calls)(ms:List Nat)
structure CS(st:fq)(s:Sm):Prop where
 h:PS X st (tS3 X xw fr<|Pv.rv C ms s)
structure CSs(st:List fq)(s:List Sm):Prop where
 h:PSs X st (tS3 X xw fr<|Pv.rvs C ms s)
structure CG(tg:Expr)(t:List Nat):Prop where
 h:PG X tg (tGU X.K t)
def Zh2(t:List Nat):TGs:=λvs O H Q=>vs.length=t.length/\Q (Ql t vs O) H
structure CGs(tgs:List Expr)(t:List Nat):Prop where
 h:PGs X tgs (Zh2 t)
end
def PS.imp(h:PS X e t)(k:∀D O H,t' D O H->t D O H):PS X e t':=λpq s O H D I q=>h pq s O H D I<|k D O H q
def PSs.imp(h:PSs X e t)(k:∀D O H,t' D O H->t D O H):PSs X e t':=λpq s O H D I q=>h pq s O H D I<|k D O H q
def PG.imp(h:PG X e t)(k:∀v O H Q,t' v O H Q->t v O H Q):PG X e t':=λpq s O H v u Q I r q=>h pq s O H v u Q I r<|k v O H Q q
def PGs.imp(h:PGs X e t)(k:∀v O H Q,t' v O H Q->t v O H Q):PGs X e t':=λpq s O H v u Q I r q=>h pq s O H v u Q I r<|k v O H Q q
section
variable{X:Cx}{xw:Nat->Hp->Prop}{fr:Bool}{C:Calls}{ns:List Nat}{e a b c:Expr}{i j k:E}{pos p p' p2:iE}{s0:fq}{ss:List fq}{m0:Sm}{ms ms':List Sm}
def ZfG{is:List E}(h:CA X xw C es is):CF X xw C (.List es pos) (.lst is):=.mk <| PE.imp (VT h.h)<|by
 left;rw[Pv.pE4]at h;refine#[Z,l,S,st,lr,h.bind λxs S1 ρ1 H1 vs f1 st1 r1 h1=>?_]
 obtain⟨hl,h1⟩:=h1.guard;cases f1.eq;exact#[by rw[r1.length,<-Uc];exact hl,h1.newF f1 st st1 r1]
def ZfR:CSs X xw fr C ns [] []:=.mk <| PSs.imp GP<|by rintro D O H ⟨Z,H0,W,l,os,S,st,he,h⟩;exact h H O W st he
def ZcA(h1:CS X xw fr C ns s0 m0)(h2:CSs X xw fr C ns ss ms):CSs X xw fr C ns (s0::ss) (m0::ms):=.mk <| PSs.imp (YJ h1.h h2.h)<|by
 rintro D O H ⟨Z,H0,W,l,os,S,st,he,h⟩;refine#[Z,H0,W,l,os,S,st,he,?_];rw[Pv.rvs]at h;cases q:Pv.rv C ns m0 l os S with
 |no=>rwa[q]at h
 |ex c S1=>rwa[q]at h
 |ok fl S1=>
  rw[q]at h;cases fl with|nx l1 os1=>exact λH1 σ1 W1 st1 he1=>#[Z,H0,W1,l1,os1,S1,st1,he1,h]|_=>exact h
def Ze3(he:CE X xw C e i):CS X xw aj C ns (.Return (aa e) pos) (.ret i):=.mk <| PS.imp (UX he.h)<|by
 right;rw[Pv.rE9]at h;exact#[Z,l,S,st,en.all,ZC.bind en h λx S1 H1 v f1 st1 r1 h1=>h1 H1 v (en.fut.trans f1) st1 #[r1,λz=>by cases z]]
def yJ{K:ao}{os:List Nat}{a:aH}(en:Eu Z H0 W l os O H)(st:St3 K Z S H)(h:H a=ai):H0 a=ai:=en.fut.new h st.xd
def Zdv(he:CF X xw C e i):CS X xw fr C ns (.Return (aa e) pos) (.ret i):=.mk <| PS.imp (UX he.h)<|by
 right;rw[Pv.rE9]at h;exact#[Z,l,S,st,en.all,ZC.bind en h λx S1 H1 v f1 st1 r1 h1=>h1 H1 v (en.fut.trans f1) st1 #[r1.1,λ_ ds y=>let #[a,e,q]:=r1.2 rfl ds y;#[a,e,yJ en st q]]]
def Zc7{is:List E}(he:CE X xw C e (.call n is))(hs:eC e ai pos.line X.env=cJ aj):CS X xw fr C ns (.Expr e pos) (.ex<|.call n is):=.mk <| PS.imp (UK he.h hs) λD O H #[Z,H0,W,l,os,S,st,en,h]=>
 #[Z,l,S,st,en.all,ZC.bind en (h) λx S1 H1 v f1 st1 r1 h1=>h1 H1 O W st1<|en.mono f1]
def Zg3{sa sb:List fq}(hc:CT X xw C c k)(ha:CSs X xw fr C ns sa ms)(hb:CSs X xw fr C ns sb ms'):CS X xw fr C ns (.If c sa sb pos) (.ite k ms ms'):=.mk <| PS.imp (Zbg hc.h ha.h hb.h)<|by
 right;rw[Pv.G8]at h;refine#[Z,l,S,st,en.all,ZC.bind en h λx S1 H1 v f1 st1 r1 h1=>?_]
 have e1:=r1;subst e1;cases x with|true=>exact#[Z,H0,W,l,os,S1,st1,en.mono f1,h1]|false=>exact#[Z,H0,W,l,os,S1,st1,en.mono f1,h1]
def ZcP(hN:X.N.Nodup)(hi:X.N[n]?=aa x)(hx:L2.Loc X.env.scope x)(hf:X.fn x=ak\/X.env.scope.names.lookup x=aa .local):CG X (.Name x pos) [n]:=.mk <|
 PG.imp (zj hN hi hx hf) λv O H Q q=>q
def ZdI:CGs X [] []:=.mk <| PGs.imp Zc1<|by
 rintro vs O H Q ⟨h,q⟩;cases vs with|nil=>exact#[rfl,q]|cons _ _=>cases h
def ZaV(hN:X.N.Nodup)(h2:CGs X tgs t)(hi:X.N[n]?=aa x)(hx:L2.Loc X.env.scope x)(hf:X.fn x=ak\/X.env.scope.names.lookup x=aa .local)
  (hs:(cg (.Name x pos::tgs) X.env).map (·.2)=dQ (.Name x pos) X.env::(cg tgs X.env).map (·.2)):CGs X (.Name x pos::tgs) (n::t):=.mk <|
 PGs.imp (ZaS (zj hN hi hx hf) h2.h hs)<|by
  rintro vs O H Q ⟨h,q⟩;cases vs with|nil=>cases h|cons v vs=>exact#[v,vs,rfl,Nat.succ.inj h,q]
theorem Jw{E:az->aF->Prop}(hne:t≠it):∀n i s Q,s.heap.IsListIter it t i->s.heap.IsList t items->i+n<=items.size->
  (∀h',cM.IsListIter h' it t (i+n)->ej it s.heap h'->Q ((items.toList.drop i).take n) {s with heap:=h' })->aW (aR prog w) A (draw (.ref it) n) Q E s
 |0,i,s,Q,hit,_,_,hQ=>by
  exact av (by simpa using hQ s.heap hit<|oC ..)
 |n+1,i,s,Q,hit,ht,hle,hQ=>by
  have hlt:i<items.size:=by lia
  refine ae<|l7 hit ht (x:=items[i]) #[2] λh₁ hit₁ hs₁=>?_
  refine ae<|bI<|Jw hne n (i+1) _ _ hit₁ (ht.extBut hs₁.extBut hne) #[0] λh₂ hit₂ hs₂=>av ?_
  have hd:items.toList.drop i=items[i]::items.toList.drop (i+1):=by simp[bY,hlt]
  have:=hQ h₂ (by rw[show i+(n+1)=i+1+n by lia];exact hit₂)<|hs₁.trans hs₂
  rwa[hd,List.take_succ_cons]at this
theorem zM{E:az->aF->Prop}{x1}(hh:A.handled=ai)(ht:s.heap.IsList t items)
  (hn:(cg elts env).length=items.size)(hstar:(cg elts env).findIdx? (·.1)=ai)
  (h:∀h',fD s.heap.objs.size s.heap h'->aW (aR prog w) A (assignInOrder ((cg elts env).map (·.2)) items.toList) Q E {s with heap:=h' }) :
  aW (aR prog w) A (dQ (.Tuple elts x1 pos) env<|.ref t) Q E s:=by
 rw[assign_Tuple];refine ae<|iO ?_;have hlt:t≠s.heap.objs.size:=by obtain⟨o,ho,_⟩:=ht;exact a8<|aD ho
 unfold unpack;rw[hn,hstar];refine ae<|bI ?_;refine ae <| wpAny_bind (wpAny_specialOf ht.typeIs slot_list_iter.lookup ?_);refine av <| wpAny_bind (bI<|eW ht ?_);refine ae<|bI<|Jw hlt items.size 0 _ _ #[_,aE _ rfl,rfl,rfl] (ht.push _) #[0] λh₁ hit₁ hs₁=>?_
 have hall:rS items.size (rT 0 items.toList)=items.toList:=by
  rw[kH];exact cA #[2]
 rw[hall];rw[T8 #[2]]
 refine ae<|bI<|mB hh hit₁ ((ht.push _).extBut hs₁.extBut hlt) #[2] λh₂ he₂=>?_
 exact av<|h h₂ λb o hb e=>he₂ b o hb<|hs₁.extBut b o hb<|aq _ e
def gTL(K:ao)(n:Nat)(t:TGs):TG:=λv O H Q=>∃a xs,v=.ref a/\(SqT K H a xs\/H a=aa (.lst xs))/\xs.length=n/\t xs O H Q
def Zg9{k:Nat}(hc:X.calm=ak)(h:PGs X es t)
  (hn:(cg es X.env).length=n:=by rfl)(hst:(cg es X.env).findIdx? (·.1)=ai:=by rfl):PG X (.Tuple es k pos) (gTL X.K n t):=by
 intro pq s O H v u Q I r hw;obtain⟨a,xs,e1,hq|hq,hl,hw⟩:=hw
 .exact Zf5 hc h hn hst pq s O H v u Q I r #[a,xs,e1,hq,hl,hw]
 .subst e1
  cases r;obtain⟨its,rv,pl,hz⟩:=I.list<|SqL.of hq;refine zM (I.ok.hd hc) pl.isList (by simp[hn,<-hl,rv.length]) hst λh' hx=>?_
  exact h pq _ O H xs _ Q (I.kept λb o e=>hx b o (a8<|aD e) e) (by simpa using rv) hw
def ZgI(hc:X.calm=ak)(h:CGs X tgs (n::m::r))(hn:(cg tgs X.env).length=(n::m::r).length)(hst:(cg tgs X.env).findIdx? (·.1)=ai):CG X (.Tuple tgs q2 pos) (n::m::r):=.mk <|
 PG.imp (Zg9 hc h.h hn hst)<|by rintro v O H Q ⟨a,xs,e,hp,hl,q⟩;exact #[a,xs,e,hp,hl,hl,q]
def ZC.evA{D:Ends}{K:ao}{l:Lc}{os:List Nat}{Q1:VK}(z:Bool)(hz:Pv.fresh i=ak->z=ak)(st:St3 K Z S H)(en:Eu Z H0 W l os O H)(h:ZC fr K xw Z H0 D ((Pv.pvA C i l os S).bind f))
  (k:∀d S1 H1 v,Fut Z H Z H1->St3 K Z S1 H1->Wj z H (Z.ex W) H1 d v->ZC fr K xw Z H0 D (f d S1)->Q1 v H1):∃ρ' l' S,St3 K ρ' S H/\LocR ρ' H l' O/\End K xw (Wj z H) ρ' H Q1 (Pv.pv C i l' S):=by
 have hid:ZC fr K xw Z H0 D ((Pv.pv C i (Pv.hide os l) S).bind f)->∃ρ' l' S,St3 K ρ' S H/\LocR ρ' H l' O/\End K xw (Wj z H) ρ' H Q1 (Pv.pv C i l' S):=λh=>#[Z.ex W,Pv.hide os l,S,en.st st,en.hid,ZC.bindW en h k]
 cases os with
 |nil=>exact hid (by rw[hide_nil];exact h)
 |cons o os=>
  have h:ZC fr K xw Z H0 D (Pv.PR.bind (match Pv.pv C i (Pv.hide (o::os) l) S with
   |.ok v s=>.ok v s
   |.ex c s=>.ex c s
   |.no=>(Pv.pv C i l S).bind λv s=>if(v.flat||Pv.fresh i&&Pv.vV v)=ak then .ok v s else .no) f):=h
  cases q:Pv.pv C i (Pv.hide (o::os) l) S with
  |ok v s=>rw[q]at h;exact hid (by rw[q];exact h)
  |ex c s=>rw[q]at h;exact hid (by rw[q];exact h)
  |no=>
   rw[q]at h;have h:=h
   rw[Wh]at h;refine#[Z,l,S,st,en.all,ZC.bind en h λd S1 H1 v f1 st1 r1 h1=>?_]
   by_cases c:(d.flat||Pv.fresh i&&Pv.vV d)=ak
   case neg=>rw[T8 c]at h1;exact h1.elim
   rw[T9 c]at h1;refine k d S1 H1 v f1 st1 #[?_,r1.2] h1;rcases(gV _ _).mp c with c|c
   .exact Rep.flat (Z:=Z) (ρ':=Z.ex W) rfl (λ_ _ z _ _=>z) c r1.1
   .obtain⟨c1,c2⟩:=(aB _ _).mp c
    cases d with
    |lst xs=>
     obtain⟨a,rfl,ha⟩:=r1.2 (hz c1) xs rfl;obtain⟨_,us,e,hs,hx,rs⟩:=r1.1.lst';cases e;exact Wy hs (λx=>x.elim hx λ#[i,w]=>let #[_,_,_,z]:=en.own i a w;T7 ha z.ne)<|rs.flat (Z:=Z) (ρ':=Z.ex W) rfl (λ_ _ z _ _=>z) c2
    |_=>cases c2
def End.unfr{K:ao}(h:End K xw (Wj aj H0) Z H Q r):End K xw Rep Z H Q r:=by
 cases r with|ok d S=>exact λρ' H' v f st r=>h ρ' H' v f st #[r,λz=>by cases z]|_=>exact h
def ZcJ(he:CE X xw C e i)(hg:CG X tg [n])(hf:Pv.fresh i=aj)(hs:d5 [tg] e pos.line X.env=cJ aj)(hw:d6 [tg] e X.env=cJ ai)
  (h1:(cg [tg] X.env).map (·.2)=[dQ tg X.env]):CS X xw fr C ns (.Assign [tg] e pos) (.asg [n] i):=.mk <| PS.imp (X8 he.h hg.h hs hw h1)<|by
 right;rw[Pv.rE1]at h;obtain⟨ρ',l',S',a,b,c⟩:=ZC.evA aj (λz=>by rw[hf]at z;cases z) st en h λd S1 H1 v f1 st1 r1 h1=>by
  rw[hf,mO,T8 aP]at h1;exact h1 H1 _ _ st1<|(en.mono f1).drop λ_ z=>by cases z;exact r1.1.lat Lat.noW
 exact#[ρ',l',S',a,b,c.unfr]
def Zhw{D:Ends}{os:List Nat}(st:St3 X.K Z S H)(en:Eu Z H0 W l os O H)(h:ZC fr X.K xw Z H0 D (Pv.rv C ns (.asg [n] i) l os S)):tF X xw (Pv.pv C i) O H λx H1=>D.nx (O.set n<|aa x) H1:=by
 rw[Pv.rE1]at h;refine ZC.evA ak (λ_=>rfl) st en h λd S1 H1 v f1 st1 r1 h1=>?_
 by_cases c:(ns.contains n&&Pv.fresh i)=ak
 .rw[T9 c]at h1
  cases d with
  |lst xs=>
   obtain⟨⟨hf,hl⟩,h1⟩:=ZC.guard h1;obtain⟨a,rfl,ha⟩:=r1.2 rfl xs rfl;exact h1 H1 _ _ st1<|en.take st.xd f1 ha hf r1.1 hl
  |_=>exact h1.elim
 .rw[T8 c]at h1
  exact h1 H1 _ _ st1<|(en.mono f1).drop λ_ z=>by cases z;exact r1.1.lat Lat.noW
def ZcI(he:CF X xw C e i)(hg:CG X tg [n])(hs:d5 [tg] e pos.line X.env=cJ aj)(hw:d6 [tg] e X.env=cJ ai)
  (h1:(cg [tg] X.env).map (·.2)=[dQ tg X.env]):CS X xw fr C ns (.Assign [tg] e pos) (.asg [n] i):=.mk <| PS.imp (X8 he.h hg.h hs hw h1)<|by right;exact Zhw st en h
def Zf7{n m:Nat}{t:List Nat}{tg:Expr}(he:CE X xw C e i)(hg:CG X tg (n::m::t))(hf:Pv.fresh i=aj)(hs:d5 [tg] e pos.line X.env=cJ aj)(hw:d6 [tg] e X.env=cJ ai)
  (h1:(cg [tg] X.env).map (·.2)=[dQ tg X.env]):CS X xw fr C ns (.Assign [tg] e pos) (.asg (n::m::t) i):=.mk <| PS.imp (X8 he.h hg.h hs hw h1)<|by
 right;rw[Pv.rE2]at h
 .obtain⟨ρ',l',S',a,b,c⟩:=ZC.evA (Q1:=λx H1=>tGU X.K (n::m::t) x O H1 D.nx) aj (λz=>by rw[hf]at z;cases z) st en h λd S1 H1 v f1 st1 r1 h1=>by
   obtain⟨ht,h1⟩:=h1.guardN;obtain⟨l',hl,h1⟩:=ZC.ob h1;exact(en.mono f1).assign (by simpa using ht) r1.1 hl λσ' e'=>h1 H1 σ' W st1 e'
  exact#[ρ',l',S',a,b,c.unfr]
 .intro _ z;cases z
end
theorem Eu.at{os:List Nat}(h:Eu Z H0 W l os O H)(hi:os.contains i=ak)(hx:Pv.z8 l[i]?=aa xs):∃a,W i=aa a/\O[i]?=aa (aa<|.ref a)/\∃us,H a=aa (.lst us)/\Rq (Z.ex W) H xs us:=by
 rw[h.osW]at hi;obtain⟨a,w⟩:=bP.mp hi;obtain⟨d,p,c,r⟩:=h.own i a w;rw[p]at hx;cases d with|lst ys=>cases hx;exact#[a,w,c,r]|_=>cases hx
section
variable{X:Cx}{xw:Nat->Hp->Prop}{fr:Bool}{C:Calls}{ns:List Nat}{e a b c:Expr}{i j k:E}{pos p p' p2:iE}{s0:fq}{ms ms':List Sm}{n:Nat}{x:bN}
def u9{apos cpos:iE}(he:CE X xw C e i)(hN:X.N[n]?=aa x)(hv:Vis X.env.scope x)(hd:(x == ("__debug__" : bN))=aj)
  (hcd:(x == ("__classdict__" : bN))=aj)
  (hbase:nv (.Name x p) "append" X.env (cz (.Name x p) X.env)=cz (.Name x p) X.env)
  (hfew:((dL cpos<|ay [e] X.env).all (λx=>!x.1)&&(backToKw cpos<|pz [] X.env).all (λx=>x.1.isSome)
   && ag (([e]:List Expr).length+([]:List ou).length+(if([]:List ou).isEmpty then 0 else 1)<30))=ak)
  (hline:(apos.endLine == cpos.line)=ak)(hs:ay [e] X.env=(aj,cz e X.env)::ay [] X.env)(hplain:(dL cpos<|ay [] X.env).any (·.1)=aj)
  (hw:eC (.Call (.Attribute (.Name x p) "append" apos) [e] [] cpos) ai pos.line X.env=cJ aj) :
  CS X xw fr C ns (.Expr (.Call (.Attribute (.Name x p) "append" apos) [e] [] cpos) pos) (.ex<|.mt .append (.v n) [i]):=.mk <|
 PS.imp (UK (vo fw gL gM Wz (Yx hN hv hd hcd) (ZG he.h Yw hs) hbase hfew hline hs hplain) hw)<|by
 right;rw[Pv.Zfp]at h;obtain⟨c,h⟩:=h.guard;obtain⟨xs,hx,h⟩:=ZC.ob h;obtain⟨a,ha,q,us,e1,_⟩:=en.at c hx;refine#[.ref a,q,.inl #[rfl,us,SqL.of e1],Z,l,S,st,en.all,ZC.bind en h λy S1 H1 v f1 st1 r1 h1=>?_]
 obtain⟨⟨hf,hl⟩,h1⟩:=h1.guard;have en1:=en.mono f1;obtain⟨a',ha',_,us,e2,r'⟩:=en1.at c hx;rw[ha]at ha';cases ha';exact#[a,us,v,rfl,rfl,e2,by rw[r'.length,<-Uc];exact hl,h1 _ _ W (st1.mut en1 ha)<|en1.mut ha<|r'.append<|Rq.cons (Rep.flat (Z:=Z) (ρ':=Z.ex W) rfl (λ_ _ z _ _=>z) hf r1) Rq.nil]
def Zgs(h:CA X xw C es is)(hg:CG X tg [n])(hs:d5 [tg] (.List es p) pos.line X.env=cJ aj)(hw:d6 [tg] (.List es p) X.env=cJ ai)
  (h1:(cg [tg] X.env).map (·.2)=[dQ tg X.env]):CS X xw fr C ns (.Assign [tg] (.List es p) pos) (.lnw n is):=.mk <| PS.imp (X8 (VT h.h) hg.h hs hw h1)<|by
 right;rw[Pv.ZgU]at h;refine#[Z.ex W,Pv.hide os l,S,en.st st,en.hid,ZC.bindW en h λds S1 H1 vs f1 st1 r1 h1=>?_]
 obtain⟨⟨hl,hi⟩,h1⟩:=h1.guard;refine#[by rw[r1.length];exact hl,λa ha=>?_]
 have en1:=en.mono f1;have nx:¬(Z.ex W).X a:=λz=>z.elim (λz=>st1.xd a z ha) λ#[j,w]=>let #[_,_,_,z]:=en1.own j a w;T7 ha z.ne
 exact h1 _ _ _ (st1.fresh ha)<|en1.takeO st1.xd (Zs ha) ha nx #[vs,Zl,r1.lat<|Lat.put ha] hi
def Ze1{es:List Expr}{tg:Expr}{q p3:iE}(h:CA X xw C es is)(hg:CG X tg [n])(hN:X.N[n]?=aa x)(hv:Vis X.env.scope x)(hd:(x == ("__debug__" : bN))=aj)(hcd:(x == ("__classdict__" : bN))=aj)
  (hs:d5 [tg] (.BinOp (.Name x p) .Add (.List es q) p3) pos.line X.env=cJ aj)(hw:d6 [tg] (.BinOp (.Name x p) .Add (.List es q) p3) X.env=cJ ai)
  (h1:(cg [tg] X.env).map (·.2)=[dQ tg X.env]):CS X xw fr C ns (.Assign [tg] (.BinOp (.Name x p) .Add (.List es q) p3) pos) (.cat n is):=.mk <| PS.imp (X8 (VD Gm (Yx hN hv hd hcd)<|VT h.h) hg.h hs hw h1)<|by
 right;rw[Pv.ZhC]at h;obtain⟨c,h⟩:=h.guard;obtain⟨xs,hx,h⟩:=ZC.ob h;obtain⟨a,ha,hq,us,e1,_⟩:=en.at c hx;refine#[.ref a,hq,Z.ex W,Pv.hide os l,S,en.st st,en.hid,ZC.bindW en h λds S1 H1 vs f1 st1 r1 h1=>?_]
 obtain⟨⟨hl,hm,hi⟩,h1⟩:=h1.guard;refine#[by rw[r1.length,<-Uc];exact hl,λb hb=>?_]
 have en1:=en.mono f1;have en2:=en1.mono<|Zs (o:=.lst vs) hb;have st2:=st1.fresh (o:=.lst vs) hb;obtain⟨a',ha',_,us,e2,r'⟩:=en2.at c hx;rw[ha]at ha';cases ha';have r1:=r1.mono<|Zs (o:=.lst vs) hb;refine#[a,b,us,vs,rfl,rfl,e2,Zl,by rw[r'.length,r1.length,<-Uc];exact hm,λd hd=>?_]
 have nx:¬(Z.ex W).X d:=λz=>z.elim (λz=>st2.xd d z hd) λ#[j,w]=>let #[_,_,_,z]:=en2.own j d w;T7 hd z.ne
 exact h1 _ _ _ (st2.fresh hd)<|en2.takeO st2.xd (Zs hd) hd nx #[us++vs,Zl,(r'.append r1).lat<|Lat.put hd] hi
def Zf8{apos cpos:iE}(he:CE X xw C e i)(hN:X.N[n]?=aa x)(hv:Vis X.env.scope x)(hd:(x == ("__debug__" : bN))=aj)(hcd:(x == ("__classdict__" : bN))=aj)
  (hbase:nv (.Name x p) "append" X.env (cz (.Name x p) X.env)=cz (.Name x p) X.env)
  (hfew:((dL cpos<|ay [e] X.env).all (λx=>!x.1)&&(backToKw cpos<|pz [] X.env).all (λx=>x.1.isSome)
   && ag (([e]:List Expr).length+([]:List ou).length+(if([]:List ou).isEmpty then 0 else 1)<30))=ak)
  (hline:(apos.endLine == cpos.line)=ak)(hs:ay [e] X.env=(aj,cz e X.env)::ay [] X.env)(hplain:(dL cpos<|ay [] X.env).any (·.1)=aj)
  (hw:eC (.Call (.Attribute (.Name x p) "append" apos) [e] [] cpos) ai pos.line X.env=cJ aj) :
  CS X xw fr C ns (.Expr (.Call (.Attribute (.Name x p) "append" apos) [e] [] cpos) pos) (.app n i):=.mk <|
 PS.imp (UK (vo fw gL gM Wz (Yx hN hv hd hcd) (ZG he.h Yw hs) hbase hfew hline hs hplain) hw)<|by
 right;rw[Pv.ZhG]at h;obtain⟨c,h⟩:=h.guard;obtain⟨xs,hx,h⟩:=ZC.ob h;obtain⟨a,ha,q,us,e1,_⟩:=en.at c hx;refine#[.ref a,q,.inl #[rfl,us,SqL.of e1],Z.ex W,Pv.hide os l,S,en.st st,en.hid,ZC.bindW en h λy S1 H1 v f1 st1 r1 h1=>?_]
 obtain⟨hl,h1⟩:=h1.guard;have en1:=en.mono f1;obtain⟨a',ha',_,us,e2,r'⟩:=en1.at c hx;rw[ha]at ha';cases ha';exact#[a,us,v,rfl,rfl,e2,by rw[r'.length];exact hl,h1 _ _ W (st1.mut en1 ha)<|en1.mut ha<|r'.append<|Rq.cons r1 Rq.nil]
structure AugOk(X:Cx)(op:Operator)(o:Bop):Prop where
 h:∃t:TIp,PIp X op t/\∀(xw:Nat->Hp->Prop) Z S H n m Q,St3 X.K Z S H->End X.K xw Rep Z H Q (Pv.X4 o (.int n) (.int m) S)->t (.int n) (.int m) H Q
def jM:AugOk X .Add .add:=#[_,ZcO,λxw Z S H n m Q st h=>#[n,m,rfl,rfl,End.ok h st<|ZQ _]]
def ZaM{a b:Int}(h:Pv.UD o a b S=.ok z S'):∃y,z=.int y:=by
 unfold Pv.UD at h;cases o<;>simp only at h<;>first
  |(cases h;exact#[_,rfl])
  |(split at h<;>cases h;exact#[_,rfl])
def ZeS(ho:AugOk X op o)(hN:X.N.Nodup)(he:CE X xw C e i)(hi:X.N[n]?=aa x)(hx:L2.Loc X.env.scope x)(hf:X.fn x=ak\/X.env.scope.names.lookup x=aa .local) :
  CS X xw fr C ns (.AugAssign (.Name x p) op e pos) (.aug n o i):=.mk <| by
 obtain⟨t,ht,hq⟩:=ho.h;refine PS.imp (Zgd hN hi hx he.h ht hf) λD O H #[Z,H0,W,l,os,S,st,en,h]=>?_
 rw[Pv.rE4]at h;obtain⟨c,h⟩:=h.guardN;obtain⟨d,hd,h1⟩:=ZC.ob h;obtain⟨v,hv,rv⟩:=en.all.val n d (by cases q:l[n]?<;>rw[q]at hd<;>cases hd;rfl)
 refine#[v,hv,Z,l,S,st,en.all,ZC.bind en h1 λy S1 H1 u f1 st1 r1 h2=>?_]
 cases d with
 |int m=>cases y with
  |int m'=>
   rw[rv.int',r1.int'];have h2:ZC fr X.K xw Z H0 D ((Pv.UD o m m' S1).bind λz S=>.ok (.nx (l.set n<|aa z) os) S):=h2
   refine hq xw Z S1 H1 m m' _ st1 (show End X.K xw Rep Z H1 _ (Pv.UD o m m' S1)from ?_)
   have en1:=en.mono f1;cases q:Pv.UD o m m' S1 with
   |no=>rwa[q]at h2
   |ex c S2=>rw[q]at h2;exact λρ1 H2 g s2=>by cases g.eq;exact h2 H2 (en1.fut.trans g) s2
   |ok z S2=>
    rw[q]at h2;obtain⟨y,rfl⟩:=ZaM q;exact λρ1 H2 w g s2 r2=>by
     cases g.eq;cases r2.int';exact h2 H2 _ W s2<|(en1.mono g).set (by simpa using c) λ_ z=>by cases z;exact ZQ _
  |_=>exact False.elim h2
 |_=>exact False.elim h2
def j8(hp:mY (aR X.prog X.w) X.A X.env X.xe)(hc:CT X xw C c k)(hb:CSs X xw fr C ns body ms):CS X xw fr C ns (.While c body [] pos) (.whl k ms):=.mk <| PS.imp (Zbo hp hc.h hb.h)<|by
 right;refine#[λm σ' H'=>∃W' l' os' S',St3 X.K Z S' H'/\Eu Z H0 W' l' os' σ' H'/\ZC fr X.K xw Z H0 D (Pv.Xm (Pv.YO C k) (Pv.rvs C ns ms) m l' os' S'),#[Ev.yc,W,l,os,S,st,en,h],?_]
 rintro m σ' H' ⟨W',l',os',S',st',en',e'⟩
 cases m with
 |zero=>exact False.elim e'
 |succ m=>
  rw[Pv.Xm]at e';refine#[Z,l',S',st',en'.all,ZC.bind en' e' λb S1 H1 b' f1 st1 r1 h1=>?_]
  subst r1;cases b with
  |false=>
   rw[T8 aP]at h1 ⊢;exact h1 H1 σ' W' st1<|en'.mono f1
  |true=>
   rw[T9 rfl]at h1 ⊢;refine#[λσ2 H2=>∃W2 l2 os2 S2,St3 X.K Z S2 H2/\Eu Z H0 W2 l2 os2 σ2 H2/\ZC fr X.K xw Z H0 D (Pv.Xm (Pv.YO C k) (Pv.rvs C ns ms) m l2 os2 S2),λσ2 H2 w=>#[m,fz m,w],Z,H0,W',l',os',S1,st1,en'.mono f1,?_]
   cases q:Pv.rvs C ns ms l' os' S1 with
   |no=>rwa[q]at h1
   |ex c S2=>rwa[q]at h1
   |ok fl S2=>
    rw[q]at h1;cases fl with|nx l3 os3=>exact λH4 σ4 W4 st4 lr4=>#[W4,l3,os3,S2,st4,lr4,h1]|ret d=>exact h1
end
structure WRel(K:ao)(Z:Mx)(H:Hp)(w:List D)(J:It):Prop where
 go:∀(i:Nat) ρ' S' H',Lat Z H ρ' H'->St3 K ρ' S' H'->i<w.length->J.go i H'/\∀x H'',J.yld i H' x H''->Fut ρ' H' ρ' H''/\St3 K ρ' S' H''/\∀d,w[i]?=aa d->Rep ρ' H'' d x
 stop:∀ρ' S' H',Lat Z H ρ' H'->St3 K ρ' S' H'->J.stop w.length H'
section
variable(X:Cx)(xw:Nat->Hp->Prop)
def tW3(f:Lc->ZO->R (List D)):TI:=λO H Q=>∃Z l S,St3 X.K Z S H/\LocR Z H l O/\End X.K xw (WRel X.K) Z H Q (f l S)
structure CW(C:Calls)(tg it:Expr)(w:Ev.W):Prop where
 h:PI X tg it (tW3 X xw<|Pv.pvw C w)
end
def PI.imp(h:PI X tg it t)(k:∀O H Q,t' O H Q->t O H Q):PI X tg it t':=λpq s O H R I q=>h pq s O H R I<|k O H R q
section
variable{X:Cx}{xw:Nat->Hp->Prop}{C:Calls}{e a b c tg it:Expr}{i j k:E}{pos p p' p2:iE}
def Zh3(K:ao)(tl:TE):TI:=λO H R=>tl O H λx H1=>∃a,x=.ref a/\(((∃xs,SqL K H1 a xs)/\R (Itl K a) H1)\/((∃xs,SqT K H1 a xs)/\R (Itt K a) H1))
def Zbs(hl:PE X l tl):PI X tg l (Zh3 X.K tl):=by
 intro pq s O H R I h;refine thn (hl pq s O H _ I h) λv s1 #[x,H1,I1,r1,a,e,q]=>?_
 subst e;cases r1;rcases q with⟨⟨xs,hq⟩,q⟩|⟨⟨xs,hq⟩,q⟩
 .obtain⟨its,rv,p,hz⟩:=I1.list hq
  refine eW p.isList <| #[s1.heap.objs.size,[s1.heap.objs.size],_,_,H1,rfl,I1.kept λb o e=>aq _ e,uD a _,#[_,aE _ rfl,rfl,rfl],λb hb=>?_,q]
  have e:b=s1.heap.objs.size:=by simpa using hb
  subst e;exact I1.fpOk (aI _)<|I1.hok.fresh<|aI _
 .obtain⟨its,rv,p,hz⟩:=I1.tuple hq
  refine hJ (p) <| #[s1.heap.objs.size,[s1.heap.objs.size],_,_,H1,rfl,I1.kept (t':=s1.toks) λb o e=>aq _ e,xZ a _,#[_,aE _ rfl,rfl,rfl],λb hb=>?_,q]
  have e:b=s1.heap.objs.size:=by simpa using hb
  subst e;exact I1.fpOk (aI _)<|I1.hok.fresh<|aI _
def V8{K:ao}(r:Rq Z H ds xs)(hg:∀ρ' H',Lat Z H ρ' H'->(∀i x,xs[i]?=aa x->J.go i H'/\∀y H'',J.yld i H' y H''->H''=H'/\y=x)/\∀n,n=xs.length->J.stop n H'):WRel K Z H ds J where
 go:=λi ρ' S' H' f st hi=>by
  obtain⟨v,g,r'⟩:=(r.lat f).get<|af hi;obtain⟨a,b⟩:=(hg ρ' H' f).1 i v g;refine#[a,λx H'' y=>?_]
  obtain⟨rfl,rfl⟩:=b x H'' y;exact#[Fut.refl _ _,st,λd hd=>by rw[af hi]at hd;cases hd;exact r']
 stop:=λρ' S' H' f st=>(hg ρ' H' f).2 _ r.length.symm
def ZbX{K K':ao}{Z:Mx}{H:Hp}{ds:List D}{a:aH}{xs:List V}(hp:H a=aa (.tup xs))(r:Rq Z H ds xs):WRel K Z H ds (Itt K' a):=V8 r λρ' H' f=>by
 have h:=SqT.of (K:=K')<|f.keep a _ hp λ_ z=>by cases z
 exact#[λi x g=>#[#[xs,x,h,g],λy H'' z=>#[z.1,by have:=z.2 xs h;rw[g]at this;exact(ap this).symm]],λn e=>#[xs,h,by omega]]
def GA{K K':ao}{Z:Mx}{H:Hp}{a:aH}(hp:∀ρ' H',Lat Z H ρ' H'->SqL K' H' a xs)(r:Rq Z H ds xs):WRel K Z H ds (Itl K' a):=V8 r λρ' H' f=>by
 have h:=hp ρ' H' f;exact#[λi x g=>#[#[xs,x,h,g],λy H'' z=>#[z.1,by have:=z.2 xs h;rw[g]at this;exact(ap this).symm]],λn e=>#[xs,h,by omega]]
def Js(lo n):(Pv.Yc lo n).length=n:=by unfold Pv.Yc;rw[ax,bu]
theorem Jj(lo):∀(l:List Nat),Rq Z H (l.map λ(k:Nat)=>Pv.V.int<|lo+(k:Int)) (l.map λ(k:Nat)=>V.int<|lo+(k:Int))
 |[]=>Rq.nil
 |_::l=>Rq.cons (ZQ _)<|Jj lo l
def ye{K:ao}{Z:Mx}{H:Hp}{lo:Int}{n:Nat}:WRel K Z H (Pv.Yc lo n) (Itr lo n):=V8 (Jj lo<|aO n) λρ' H' f=>by
 refine#[λi x g=>?_,λm e=>?_]
 .have hi:i<n:=by have:=(aG.mp g).1;simpa using this
  rw[aK,cX hi]at g;exact#[hi,λy H'' z=>#[z.1,z.2.trans<|ap g]]
 .rw[ax,bu]at e;show n<=m;omega
def Zha(he:CE X xw C e i):CW X xw C tg e (.of i):=.mk <| PI.imp (Zbs he.h)<|by
 left;rw[Pv.wE7]at h;refine#[Z,l,S,st,lr,h.bind λx S1 ρ1 H1 v f1 st1 r1 h1=>?_]
 obtain⟨ds,hd,h1⟩:=End.po h1;have q:∀{J},WRel X.K ρ1 H1 ds J->Q J H1:=λw=>End.ok (rep:=WRel X.K) h1 st1 w
 cases x with
 |tup ds=>cases hd;obtain⟨a,xs,rfl,hp,r⟩:=r1.tup';exact#[a,rfl,.inr #[#[xs,SqT.of hp],q<|ZbX hp r]]
 |lst ds=>cases hd;obtain⟨a,xs,rfl,hp,hx,r⟩:=r1.lst';exact#[a,rfl,.inl #[#[xs,SqL.of hp],q<|GA (λρ' H' f=>SqL.of<|f.keep a _ hp λ_ _=>hx) r]]
 |scr ns=>
  cases hd;obtain⟨a,rfl,hp⟩:=r1.scr';rw[st1.hk]at hp;refine#[a,rfl,.inl #[#[_,hp.sq],q<|GA (λρ' H' f=>?_)<|Rq.ints ns]]
  rcases hp with⟨o,hp⟩|hp
  .exact .inl<|.inr #[o,f.keep a _ hp λ_ z=>by cases z]
  .exact .inr hp
 |_=>exact Ev.nos hd
def Zep{B β:Type}{rep:Mx->Hp->B->β->Prop}{Q:β->Hp->Prop}{g:D->ZO->R B}(st:St3 X.K Z S H)(lr:LocR Z H l O)(h:End X.K xw rep Z H Q ((Pv.pv C i l S).bind g))
  (k:∀x S1 ρ1 H1 v,St3 X.K ρ1 S1 H1->Rep ρ1 H1 x v->End X.K xw rep ρ1 H1 Q (g x S1)->Q1 [v] H1):tA X xw (Pv.pvs C [i]) O H Q1:=by
 refine#[Z,l,S,st,lr,?_];show End X.K xw Rq Z H _ ((Pv.pv C i l S).bind λx S=>.ok [x] S)
 cases q:Pv.pv C i l S with
 |no=>rwa[q]at h
 |ex c S1=>rwa[q]at h
 |ok x S1=>
  rw[q]at h;intro ρ1 H1 vs f1 st1 r1;obtain⟨v,rfl,r⟩:=jk r1;exact k x S1 ρ1 H1 v st1 r<|End.mono f1 h
def Zei{B β:Type}{rep:Mx->Hp->B->β->Prop}{H:Hp}{Q:β->Hp->Prop}{g:D->D->ZO->R B}(st:St3 X.K Z S H)(lr:LocR Z H l O)(h:End X.K xw rep Z H Q ((Pv.pv C i l S).bind λx S=>(Pv.pv C j l S).bind λy S=>g x y S))
  (k:∀x y S1 ρ1 H1 v u,St3 X.K ρ1 S1 H1->Rep ρ1 H1 x v->Rep ρ1 H1 y u->End X.K xw rep ρ1 H1 Q (g x y S1)->Q1 [v,u] H1):tA X xw (Pv.pvs C [i,j]) O H Q1:=by
 refine#[Z,l,S,st,lr,?_];show End X.K xw Rq Z H _ ((Pv.pv C i l S).bind λx S=>((Pv.pv C j l S).bind λy S=>.ok [y] S).bind λxs S=>.ok (x::xs) S)
 cases q:Pv.pv C i l S with
 |no=>rwa[q]at h
 |ex c S1=>rwa[q]at h
 |ok x S1=>
  rw[q]at h;have h:End X.K xw rep Z H Q ((Pv.pv C j l S1).bind λy S=>g x y S):=h
  show End X.K xw Rq Z H _ (((Pv.pv C j l S1).bind λy S=>.ok [y] S).bind λxs S=>.ok (x::xs) S)
  cases q2:Pv.pv C j l S1 with
  |no=>rwa[q2]at h
  |ex c S2=>rwa[q2]at h
  |ok y S2=>
   rw[q2]at h;intro ρ1 H1 vs f1 st1 r1;obtain⟨v,u,rfl,rv,ru⟩:=zF r1;exact k x y S2 ρ1 H1 v u st1 rv ru<|End.mono f1 h
def XA(h:Ev.WP n=ak):-(2^62)<=n/\n<2^62:=T6 h
def ZcR(hm:X.mg "range" = ai)(ha:CA X xw C [a] [i])(hg:Gl X "range")(hs:ay [a] X.env=[(aj,cz a X.env)]):CW X xw C tg (.Call (.Name "range" p) [a] [] pos) (.rng1 i):=.mk <|
 PI.imp (ur hg hm ha.h hs) λO H Q #[Z,l,S,st,lr,h]=>Zep st lr h λx S1 ρ1 H1 v st1 r h1=>by
  cases x with
  |int n=>
   obtain⟨hs,h2⟩:=End.guard h1;exact#[n,by rw[r.int'],(XA hs).1,(XA hs).2,End.ok h2 st1 ye]
  |_=>exact False.elim h1
def Zcy(hm:X.mg "range" = ai)(ha:CA X xw C [a,b] [i,j])(hg:Gl X "range")(hs:ay [a,b] X.env=[(aj,cz a X.env),(aj,cz b X.env)])(hs2:ay [b] X.env=[(aj,cz b X.env)]) :
  CW X xw C tg (.Call (.Name "range" p) [a,b] [] pos) (.rng2 i j):=.mk <|
 PI.imp (uV hg hm ha.h hs hs2) λO H Q #[Z,l,S,st,lr,h]=>Zei st lr h λx y S1 ρ1 H1 v u st1 rv ru h1=>by
  cases x with
  |int n=>cases y with
   |int m=>
    obtain⟨hs,h3⟩:=End.guard h1;obtain⟨s1,s2⟩:=(aB _ _).mp hs;exact#[n,m,by rw[rv.int',ru.int'],#[(XA s1).1,(XA s1).2,(XA s2).1,(XA s2).2],End.ok h3 st1 ye]
   |_=>exact False.elim h1
  |_=>exact False.elim h1
def vd{D:Ends}{Z:Mx}{W:Own}{l:Lc}{os:List Nat}{S1:ZO}{J:It}{fr:Bool}(st1:St3 X.K Z S1 H1)(en:Eu Z H0 W l os O H1)(r1:WRel X.K (Z.ex W) H1 wk J)
  (h1:ZC fr X.K xw Z H0 D (Pv.Y6 (λx Z os s=>if(t.any<|ly os)=ak then(.no:Pv.PR Pv.FlV)else(Pv.po (Pv.Zq t x Z) s).bind λZ s=>Pv.rvs C ns ms Z os s) wk l os S1)):∃W:Nat->Nat->L2.St->Hp->Prop,(∃m,W 0 m O H1)/\∀i m O H,W i m O H->
   (J.stop i H/\D.nx O H)\/(J.go i H/\∃N,(∀σ' H',N σ' H'->∃m',m'<m/\W (i+1) m' σ' H')/\∀x H',J.yld i H x H'->tGU X.K t x O H' λσ2 H2=>tS3 X xw fr (Pv.rvs C ns ms) {D with nx:=N,ct:=N,bk:=D.nx} σ2 H2):=by
 obtain⟨bs,en1⟩:=en.off st1.xd;have h1:=h1.rebase bs en.xd;generalize hB:(λx Z os s=>if(t.any<|ly os)=ak then(.no:Pv.PR Pv.FlV)else(Pv.po (Pv.Zq t x Z) s).bind λZ s=>Pv.rvs C ns ms Z os s)=B at h1
 let I:=λn σ' H'=>∃W' l' os' S',St3 X.K Z S' H'/\Eu Z (Q6 H1 W) W' l' os' σ' H'/\ZC fr X.K xw Z (Q6 H1 W) D (Pv.Y6 B (wk.drop n) l' os' S')
 refine#[λn m σ' H'=>m=wk.length-n/\n<=wk.length/\I n σ' H',#[wk.length,rfl,db _,W,l,os,S1,st1,en1,h1],?_]
 rintro n m σ' H' ⟨rfl,hn,W',l',os',S',st',en',e'⟩
 have lat:=en.walk en';by_cases hlt:n<wk.length
 .refine .inr ?_
  rw[bY hlt,Pv.Y6]at e';obtain⟨go,yl⟩:=r1.go n _ S' H' lat (en'.st st') hlt;refine#[go,I<|n+1,λσ2 H2 q=>#[wk.length-(n+1),iW _ _ hlt,rfl,hlt,q],λx H3 y=>?_]
  obtain⟨f3,st3,rp⟩:=yl x H3 y;have f3:Fut Z H' Z H3:=#[rfl,f3.keep];have hBn:B wk[n] l' os' S'=if(t.any<|ly os')=ak then(.no:Pv.PR Pv.FlV)else(Pv.po (Pv.Zq t wk[n] l') S').bind λZ s=>Pv.rvs C ns ms Z os' s:=by rw[<-hB]
  rw[hBn]at e';by_cases c:(t.any<|ly os')=ak
  .rw[T9 c]at e';exact e'.elim
  rw[T8 c]at e';cases ha:Pv.Zq t wk[n] l' with
  |none=>rw[ha]at e';exact e'.elim
  |some l2=>
   rw[ha]at e';refine(en'.mono f3).assign (by simpa using c) (rp _<|af hlt) ha λσ2 e2=>#[Z,_,W',l2,os',S',st3.unex,e2,?_]
   have e':ZC fr X.K xw Z (Q6 H1 W) D ((Pv.rvs C ns ms l2 os' S').bind _):=e';cases q:Pv.rvs C ns ms l2 os' S' with
   |no=>rwa[q]at e'
   |ex c S2=>rwa[q]at e'
   |ok fl S2=>
    rw[q]at e';cases fl with|nx l3 os3=>exact λH4 σ4 W4 st4 lr4=>#[W4,l3,os3,S2,st4,lr4,e']|ret d=>exact e'
 .refine .inl ?_
  have en2:n=wk.length:=by omega
  subst en2;rw[eD]at e';exact#[r1.stop _ S' H' lat<|en'.st st',e' H' σ' W' st' en']
def ZeW(hp:mY (aR X.prog X.w) X.A X.env X.xe)(hc:X.calm=ak)(hw:CW X xw C tg it w)(hg:CG X tg t)(hb:CSs X xw fr C ns body ms)
  (hs:∀x,dM it X.env x=cJ x):CS X xw fr C ns (.For tg it body [] pos) (.forr t w ms):=.mk <| PS.imp (Zbq hp hc hw.h hg.h hb.h hs)<|by
 right;rw[Pv.Q7]at h;refine#[Z.ex W,Pv.hide os l,S,en.st st,en.hid,ZC.bindW en h λwk S1 H1 J f1 st1 r1 h1=>vd st1 (en.mono f1) r1 h1]
def Zcn(hp:mY (aR X.prog X.w) X.A X.env X.xe)(hc:X.calm=ak)(he:CF X xw C it i)(hg:CG X tg t)(hb:CSs X xw fr C ns body ms)
  (hs:∀x,dM it X.env x=cJ x):CS X xw fr C ns (.For tg it body [] pos) (.forF t i ms):=.mk <| PS.imp (Zbq hp hc (Zbs he.h) hg.h hb.h hs)<|by
 right;rw[Pv.Zg2]at h;refine ZC.evA ak (λ_=>rfl) st en h λd S1 H1 v f1 st1 r1 h1=>?_
 cases d with|lst ds=>obtain⟨a,xs,rfl,hp,hx,r⟩:=r1.1.lst';exact#[a,rfl,.inl #[#[xs,SqL.of hp],vd st1 (en.mono f1) (GA (λρ' H' f=>SqL.of<|f.keep a _ hp λ_ _=>hx) r) h1]]|_=>exact h1.elim
end
end
section
noncomputable def uL(env:Env):List (bN×iT)->List (bN×aH)->List (bN×aH)
 |[],acc=>acc
 |x::r,acc=>uL env r (if(x.2 == bG)=ak then(x.1,(env.cells.lookup x.1).getD 0)::acc else acc)
theorem QA{f:bN×iT->List (bN×aH)->pR (ForInStep<|List<|bN×aH)}:∀names acc,
  (∀x∈names,∀c,f x c=cJ (.yield (if(x.2 == bG)=ak then(x.1,(env.cells.lookup x.1).getD 0)::c else c)))->mP names acc f=cJ (uL env names acc)
 |[],acc,_=>rfl
 |x::r,acc,h=>by
  rw[mr,h x al];exact QA r _ λy hy=>h y<|am _ hy
theorem zx :∀names acc,(uL env names acc).lookup x=aa c->acc.lookup x=aa c\/(∃y∈names,y.1=x/\y.2=.free/\c=(env.cells.lookup x).getD 0)
 |[],acc,h=>.inl h
 |y::r,acc,h=>by
  rcases zx r _ h with h|⟨z,hz,e⟩
  .by_cases hf:(y.2 == bG)=ak
   .rw[T9 hf,bR]at h
    cases q:(x == y.1)with
    |true=>
     rw[q]at h;have e:=fu q;exact .inr #[y,al,e.symm,fu hf,by rw[e];exact(ap h).symm]
    |false=>rw[q]at h;exact .inl h
   .rw[T8 hf]at h;exact .inl h
  .exact .inr #[z,am _ hz,e]
theorem yQ :∀names acc,(acc.lookup x).isSome=ak->((uL env names acc).lookup x).isSome=ak
 |[],acc,h=>h
 |y::r,acc,h=>by
  refine yQ r _ ?_;split
  .rw[bR]
   cases(x == y.1)with|true=>rfl|false=>exact h
  .exact h
theorem yw :∀names acc,(x,bG)∈names->((uL env names acc).lookup x).isSome=ak
 |[],acc,h=>by cases h
 |y::r,acc,h=>by
  rcases aw.mp h with h|h
  .subst h
   refine yQ r _ ?_;rw[T9 #[7],bR,beq_self_eq_true]
   rfl
  .exact yw r _ h
def WY(h:∀y∈scope.names,y.2=.free->∃c,env.cells.lookup y.1=aa c) :
  ∃cl,iJ scope env=cJ cl/\(∀x c,cl.lookup x=aa c->env.cells.lookup x=aa c)/\∀x,(x,bG)∈scope.names->∃c,cl.lookup x=aa c:=by
 refine#[uL env scope.names [],?_,λx c e=>?_,λx hx=>bP.mp<|yw _ _ hx]
 .simp only[iJ]
  rw[QA (env:=env) scope.names [] (λx hx c=>by
   obtain⟨n,kind⟩:=x;by_cases hk:(kind == bG)=ak
   .obtain⟨a,ha⟩:=h (n,kind) hx (fu hk)
    simp[hk,cellOf,ha]
   .simp only[hk]
    rfl),pure_bind]
 .rcases zx _ _ e with e|⟨y,hy,e1,e2,e3⟩
  .cases e
  .obtain⟨a,ha⟩:=h y hy e2
   rw[e1]at ha;rw[e3,ha];rfl
theorem Ug{lo:Nat}:∀names h acc,lo<=h.objs.size->(dv h.objs.size names acc).lookup x=aa c->
  ((x,cV)∉names/\acc.lookup x=aa c)\/((x,cV)∈names/\lo<=c/\(o4 h names).IsCell c ai)
 |[],h,acc,_,e=>.inl #[by simp,e]
 |(name,kind)::r,h,acc,hlo,e=>by
  unfold dv at e;unfold o4;split at e
  .rename_i hk
   rw[T9 hk];have hk:=fu hk;subst hk;rw[<-cL h {cls:=.type "cell",data:=.cell ai}]at e;rcases Ug r (h.push {cls:=.type "cell",data:=.cell ai}) ((name,h.objs.size)::acc) (bU hlo<|by rw[cL];exact lh _) e with⟨e1,e2⟩|⟨e1,e2⟩
   .rw[bR]at e2
    cases hb:x == name with
    |true=>
     rw[hb]at e2;cases e2;have:=fu hb;subst this;exact .inr #[al,hlo,_,mv _ _ _ _<|aE _ rfl,rfl]
    |false=>
     rw[hb]at e2;refine .inl #[λhm=>?_,e2]
     rcases aw.mp hm with q|q
     .cases q
      rw[beq_self_eq_true]at hb;cases hb
     .exact e1 q
   .exact .inr #[am _ e1,e2]
  .rename_i hk
   rw[T8 hk];rcases Ug r _ _ hlo e with⟨e1,e2⟩|⟨e1,e2⟩
   .refine .inl #[λhm=>?_,e2]
    rcases aw.mp hm with q|q
    .cases q
     exact hk rfl
    .exact e1 q
   .exact .inr #[am _ e1,e2]
theorem V6:∀names n acc,(∀x c,acc.lookup x=aa c->c<n)->(∀x y c,acc.lookup x=aa c->acc.lookup y=aa c->x=y)->
  ∀x y c,(dv n names acc).lookup x=aa c->(dv n names acc).lookup y=aa c->x=y
 |[],n,acc,_,h=>h
 |(name,kind)::r,n,acc,hl,h=>by
  unfold dv;split
  .refine V6 r (n+1) _ (λx c e=>?_) λx y c e1 e2=>?_
   .rw[bR]at e
    split at e
    .cases e;exact fz _
    .exact cB<|hl x c e
   .rw[bR]at e1 e2
    cases p:x == name<;>cases q:y == name<;>rw[p]at e1<;>rw[q]at e2
    .exact h x y c e1 e2
    .cases e2;exact T7 (hl x _ e1)<|bv _
    .cases e1;exact T7 (hl y _ e2)<|bv _
    .rw[fu p,fu q]
  .exact V6 r n acc hl h
theorem Ud :∀names n acc,(∃c,acc.lookup x=aa c)\/(x,cV)∈names->∃c,(dv n names acc).lookup x=aa c
 |[],n,acc,h=>h.elim (λh=>h) λh=>by cases h
 |(name,kind)::r,n,acc,h=>by
  unfold dv;split
  .refine Ud r _ _ ?_
   cases hb:x == name with
   |true=>exact .inl #[n,by rw[bR,hb]]
   |false=>
    rcases h with⟨c,e⟩|h
    .exact .inl #[c,by rw[bR,hb];exact e]
    .rcases aw.mp h with q|q
     .cases q
      rw[beq_self_eq_true]at hb;cases hb
     .exact .inr q
  .rename_i hk
   refine Ud r _ _<|h.imp (λh=>h) λh=>?_
   rcases aw.mp h with q|q
   .cases q
    exact T7 rfl hk
   .exact q
def xq 
  (h:Q (newEnv scope s.heap.objs.size g (dv (s.heap.objs.size+1) scope.names cl) q ai .none (aa env) nE) {s with heap:=o4 (s.heap.push {cls:=.type "dict",data:=.dict #[]}) scope.names}) :
  aW M A (newFunctionEnv scope g cl [] q ai .none<|aa env) Q E s:=by
 refine ae<|pA ?_;refine ae<|wpAny_layCells _ (λname kind cells=>by cases hkc:kind == cV<;>simp[hkc]) _ _ _ _ ?_
 rw[cL ..]
 exact av h
def cxC(X:Cx)(N:List bN)(scope:gE)(cl:List (bN×aH))(s:aF)(H:Hp)(fp:List aH):Cx:=
 {X with N:=N,s₀:=s,H₀:=H,env:=compEnvC scope cl s.heap.objs.size X.env,outer:=X.stack,ex:=fp,fn:=λx=>scope.names.any λy=>y.2 == .cell&&y.1 == x,pn:=[],xe:=λ_ _=>False}
def PTs(X:Cx)(ifs:List Expr)(t:TT):Prop:=
 ∀(pq:List (aH×fU))(s:aF)(O:L2.St)(H:Hp)(Q:Bool->Hp->Prop),Inv X pq O H s->t O H Q->
  aW (aR X.prog X.w) X.A (mP ifs ak λc r=>if r=ak then do let ok <-isTrue c X.env (cz c X.env);cJ (i7 ok)else cJ (i7 r)) (TP X pq O Q) X.xe s
def Zdy :PTs X [] (λO H Q=>Q ak H):=λpq s O H Q I h=>wpAny_tests_nil #[H,I,h]
def Zdl(h:PT X c t):PTs X [c] t:=λpq s O H Q I hq=>wpAny_tests_one<|h pq s O H Q I hq
structure CompScope(sc:gE)(N0:List bN)(scope:gE)(N:List bN)(cap:List Nat)(nl:Nat):Prop where
 kind:scope.kind=.function
 cell:∀y∈scope.names,y.2=.cell->(y.1,bG)∉scope.names
 names:∀y∈scope.names,y.2=.local->scope.names.lookup y.1=aa .local
 free:∀y∈scope.names,y.2=.free->sc.names.lookup y.1=aa .cell\/sc.names.lookup y.1=aa .free
 apart:∀y∈scope.names,y.2=.free->scope.names.lookup y.1≠aa .local
 len:N.length=nl+cap.length
 cap:∀p∈cap.zipIdx,N[nl+p.2]?=N0[p.1]?/\(N0[p.1]?).map (λx=>ag<|(x,bG)∈scope.names)=aa ak
def CompScope.capt{cap:List Nat}(h:CompScope sc N0 scope N cap nl)(i j)(e:cap[i]?=aa j):∃x,N[nl+i]?=aa x/\N0[j]?=aa x/\(x,bG)∈scope.names:=by
 have hm:(j,i)∈cap.zipIdx:=by
  rw[i8];exact e
 obtain⟨h1,h2⟩:=h.cap (j,i) hm;cases q:N0[j]? with
 |none=>rw[q]at h2;cases h2
 |some x=>
  rw[q]at h1 h2
  exact#[x,h1,rfl,T6<|ap h2]
def Xn(cap:List Nat)(nl:Nat)(O:L2.St):L2.St:=au nl ai++cap.map λi=>(O[i]?).join
section
variable{X:Cx}{pq:List (aH×fU)}{O:L2.St}{H:Hp}{s:aF}
theorem VP{env:Env}{x:bN}:∀{names:List (bN×iT)},(names.map λ(n,k)=>if(k == bG&&env.scope.kind == .function&&env.kindOf n == aa .cell)then(n,cV)else(n,k)).lookup x=aa .cell\/
  (names.map λ(n,k)=>if(k == bG&&env.scope.kind == .function&&env.kindOf n == aa .cell)then(n,cV)else(n,k)).lookup x=aa .free->(x,bG)∈names\/(x,cV)∈names
 |[],h=>by rcases h with h|h<;>cases h
 |(n,k)::r,h=>by
  rw[aY]at h;by_cases e:x=n
  .subst e
   by_cases c:(k == bG&&env.scope.kind == .function&&env.kindOf x == aa .cell)=ak
   .have:=(aB _ _).mp c
    rw[fu ((aB _ _).mp this.1).1];exact .inl al
   .simp only[T8 c,bR,beq_self_eq_true,Option.some.injEq]at h
    rcases h with h|h
    .rw[h];exact .inr al
    .rw[h];exact .inl al
  .have hb:=beq_eq_false_iff_ne.mpr e
   refine((@VP env x r) ?_).imp (am _)<|am _;by_cases c:(k == bG&&env.scope.kind == .function&&env.kindOf n == aa .cell)=ak
   .simpa only[T9 c,bR,hb]using h
   .simpa only[T8 c,bR,hb]using h
theorem Zan{N:List bN}{nl:Nat}{tk:Nat}(I:Inv X pq O H s)(CS:CompScope X.env.scope X.N scope N cap nl)(hN:X.N.Nodup)
  (c1:∀x c,cl.lookup x=aa c->((x,cV)∉scope.names/\X.env.cells.lookup x=aa c)\/((x,cV)∈scope.names/\s.heap.objs.size<=c/\h1.IsCell c ai))(c2:∀x,(x,bG)∈scope.names\/(x,cV)∈scope.names->∃c,cl.lookup x=aa c)
  (c3:∀x y c,cl.lookup x=aa c->cl.lookup y=aa c->x=y)(hf:∀b∈fp,V2 X pq H b)(hb:∀b∈fp,∃o,s.heap.get? b=aa o)(hns:∃m,h1.Ns s.heap.objs.size m)(hk:∀b o,s.heap.get? b=aa o->h1.get? b=aa o) :
  Inv (cxC X N scope cl s H fp) [] (Xn cap nl O) H {s with heap:=h1,toks:=tk}:=by
 have bne:∀b∈fp,b≠s.heap.objs.size:=λb hb' e=>by
  obtain⟨o,ho⟩:=hb b hb';exact T7 (aD ho) (by rw[e];exact bv _)
 refine#[#[I.ok.mod,CS.kind,I.ok.glob,I.ok.blt,aI _,c3,λx hx=>c2 x<|VP hx,λx c h e=>?_,I.ok.hd,I.ok.frames,.inl rfl,
  λb hb'=>#[bne b hb',λx c e=>(c1 x c e).elim (λq=>(hf b hb').2.2.2.2.1 x c q.2) λq z=>?_],I.bs,bU I.ok.bsz I.sz,λb o e hb'=>?_,λb hb' hm=>?_,I.stack,I.stkFree],
  rfl,I.bare,Un.kept hk,?_,λx c e=>?_,I.hok.fresh<|aI _,λx c e=>(c1 x c e).elim (λq=>I.freeC x c q.2) λq=>I.hok.fresh q.2.1,λp hp=>T7 hp (by simp[cxC]),I.hok.kept hk,?_]
 .rcases c1 x c e with q|q
  .obtain⟨y,hy,e⟩:=gA.mp h
   obtain⟨e1,e2⟩:=(aB _ _).mp e;obtain⟨y,k⟩:=y;have a1:=fu e1;have a2:y=x:=fu e2;subst a1 a2;exact T7 hy q.1
  .exact q.2.1
 .obtain⟨o,ho⟩:=hb b hb'
  have:=aD ho;rw[<-z]at this;exact T7 q.2.1<|Nat.not_le.mpr this
 .rcases(hf b hb').2.2.2.1 with z|z
  .exact I.ok.noex b o e z
  .exact T7 (aD e)<|Nat.not_lt.mpr<|bU I.ok.bsz z
 .rcases aw.mp (I.stkSub b hm)with e|e
  .exact(hf b hb').2.1 e
  .exact(hf b hb').2.2.1 e
 .obtain⟨m1,hm1⟩:=hns
  refine#[m1,hm1,λi x v e1 e2 e3=>?_]
  obtain⟨m,hm,hl⟩:=I.loc;have hi:nl<=i:=by
   by_cases hi:nl<=i
   .exact hi
   .have z:(Xn cap nl O)[i]?=aa ai:=by
     unfold Xn;rw[cx (by simp;lia),cK,T9 #[0]]
    rw[z]at e2;cases e2
  have e2':(cap.map λi=>(O[i]?).join)[i-nl]?=aa (aa v):=by
   have:=e2;unfold Xn at this
   rwa [ck (by simp;exact hi),bL]at this
  rw[aK]at e2';cases hj:cap[i-nl]? with
  |none=>rw[hj]at e2';cases e2'
  |some j=>
   rw[hj]at e2';have hv:O[j]?=aa (aa v):=by
    have:(O[j]?).join=aa v:=ap e2';cases q:O[j]? with
    |none=>rw[q]at this;cases this
    |some o=>rw[q]at this;cases o with|none=>cases this|some w=>cases this;rfl
   obtain⟨x',n1,n2,fr⟩:=CS.capt _ _ hj;have ex:x'=x:=by
    have:N[nl+(i-nl)]?=aa x:=by rw[show nl+(i-nl)=i by lia];exact e1
    rw[n1]at this;exact ap this
   subst ex;have kd:=CS.free _ fr rfl;have vis:Vis X.env.scope x':=by
    rcases kd with z|z
    .exact .inr<|.inl z
    .exact .inr<|.inr z
   obtain⟨u,r,lk⟩:=hl j x' v n2 hv vis;refine#[u,r,?_];rcases lk with⟨k,_⟩|⟨k,c,ec,hc⟩
   .have k':X.env.scope.names.lookup x'=aa .local:=k
    rcases kd with z|z<;>(rw[z]at k';cases k')
   .obtain⟨c',ec'⟩:=c2 x' (.inl fr)
    have ecc:c'=c:=by
     have:=(c1 x' c' ec').elim (λq=>q.2) λq=>T7 fr<|CS.cell _ q.1 rfl
     rw[ec]at this;exact(ap this).symm
    subst ecc;refine .inr #[?_,c',ec',?_]
    .rcases e3 with z|z|z
     .have z':=z
      exfalso
      have:∀(names:List (bN×iT)),(∀y∈names,y.2=iT.local->y.1≠x')->(names.map λ(n,k)=>if(k == bG&&X.env.scope.kind == .function&&X.env.kindOf n == aa .cell)then(n,cV)else(n,k)).lookup x'≠aa .local:=by
       intro names
       induction names with
       |nil=>intro _ h;cases h
       |cons y r ih=>
        obtain⟨n,k⟩:=y;intro hy h;rw[aY]at h;by_cases e:x'=n
        .subst e
         by_cases c:(k == bG&&X.env.scope.kind == .function&&X.env.kindOf x' == aa .cell)=ak
         .simp only[T9 c,bR,beq_self_eq_true]at h;cases h
         .simp only[T8 c,bR,beq_self_eq_true]at h
          exact hy (x',k) al (ap h) rfl
        .have hb:=beq_eq_false_iff_ne.mpr e
         refine ih (λy hy'=>hy y<|am _ hy') ?_
         by_cases c:(k == bG&&X.env.scope.kind == .function&&X.env.kindOf n == aa .cell)=ak
         .simp only[T9 c,bR,hb]at h;exact h
         .simp only[T8 c,bR,hb]at h;exact h
      refine this scope.names (λy hy hl e=>?_) z'
      have l1:=CS.names y hy hl;rw[e]at l1;exact CS.apart (x',.free) fr rfl l1
     .exact .inl z
     .exact .inr z
    .obtain⟨o,ho,hd⟩:=hc
     exact#[o,hk c' o ho,hd]
 .rcases c1 x c e with q|q
  .obtain⟨v,o,ho,hd⟩:=I.cell x c q.2
   exact#[v,o,hk c o ho,hd]
  .exact#[ai,q.2.2]
 .unfold Xn
  show _=N.length;rw[aQ,bL,ax,CS.len]
end
abbrev TEm:=L2.St->Hp->(L2.St->Hp->Prop)->Prop
def Zbl(X:Cx)(act:pR Fin->pR Fin)(te:TEm):Prop:=
 ∀(pq:List (aH×fU))(s:aF)(O:L2.St)(H:Hp)(Q:L2.St->Hp->Prop)(k:pR Fin)(QF:Fin->aF->Prop)(EE:az->aF->Prop),Inv X pq O H s->te O H Q->(∀s' σ' H',Inv X pq σ' H' s'->Q σ' H'->aW (aR X.prog X.w) X.A k QF EE s')->
  aW (aR X.prog X.w) X.A (act k) QF EE s
noncomputable def zr(ipos:iE)(tg:Expr)(ifs:List Expr)(act:pR Fin->pR Fin)(it:az)(env:Env)(c:Code):pR Fin:=do
 n8 ipos
 match <-l6 it with
 |none=>cJ<|.done .next
 |some v=>
  mn tg it v
  assign tg env v
  let mut ok:=ak
  for c in ifs do
   if ok then ok <-isTrue c env (cz c env)
  if ok then act (sf c)else sf c
def ji(J:It)(g:TG)(tt:TT)(te:TEm)(W:Nat->Nat->L2.St->Hp->Prop)(Q:L2.St->Hp->Prop):Prop:=∀i m σ' H',W i m σ' H'->
  (J.stop i H'/\Q σ' H')\/(J.go i H'/\∀x H'',J.yld i H' x H''->g x σ' H'' λσ2 H2=>tt σ2 H2 λok H3=>if ok=ak then te σ2 H3 λσ3 H4=>∃m',m'<m/\W (i+1) m' σ3 H4 else ∃m',m'<m/\W (i+1) m' σ2 H3)
def uR 
  (hc:Y.calm=ak)(hx:∀a b,Y.xe a b->False)(hT:compTurn e depth (.ref it) acc Y.env=zr ipos tg ifs act (.ref it) Y.env (.compLoop e depth (.ref it) acc Y.env))(hquiet:(rJ e depth (.ref it) acc Y.env).isFrame=aj)
  (hq:(rJ e depth (.ref it) acc Y.env).quiet=ak)(T:Turn Y.prog Y.w Y.K tg J fp it tn)(hg:PG Y tg g)(ht:PTs Y ifs tt)(he:Zbl Y act te)(stat:∀{H':Hp},(∀b∈fp,H' b=ai)->∀b∈fp,V2 Y pq H' b)
  (turn:ji J g tt te W Q)(fin:∀O H s,Inv Y pq O H s->Q O H->Rr (.ok .next) s)
  (I0:Inv Y pq O H s)(st0:tn 0 s.heap)(fr0:∀b∈fp,H b=ai)(w0:W 0 m O H)(hden:(aR Y.prog Y.w).den (.compLoop e depth (.ref it) acc Y.env)=(compTurn e depth (.ref it) acc Y.env).onRaise (λx=>do noteFrame x Y.env;theTreesLotGoes x))
  (hund:Y.A.under (.compLoop e depth (.ref it) acc Y.env)=Y.A):gz (aR Y.prog Y.w) Y.A (.compLoop e depth (.ref it) acc Y.env) Rr s:=by
 refine codeAny_loop hq (λn s'=>∃i σ' H',Inv Y pq σ' H' s'/\tn i s'.heap/\(∀b∈fp,H' b=ai)/\W i n σ' H') (λn s5 hI=>?_) m #[0,O,H,I0,st0,fr0,w0]
 rw[hund,hden,hT];refine wpAny_noted ?_;obtain⟨i,σ5,H5,I5,st5,fr5,w5⟩:=hI;refine ae<|iO<|ae ?_;rcases turn i n σ5 H5 w5 with⟨stop,qn⟩|⟨go,step⟩
 .refine dq (T.done Y rfl rfl rfl hc i pq s5 σ5 H5 (λ_ _=>False) I5 (stat fr5) st5 stop) (λr s6 #[hr,I6]=>?_) λ_ _ h'=>h'.elim
  subst hr;exact av<|fin σ5 H5 s6 I6 qn
 .refine dq (T.item Y rfl rfl rfl hc i pq s5 σ5 H5 (λ_ _=>False) I5 (stat fr5) st5 go) (λr s6 #[u,hr,h6]=>?_) λ_ _ h'=>h'.elim
  subst hr;refine ae<|dq h6 (λ_ s7 #[x,H7,I7,r7,y7,st7,fr7]=>?_) λ_ _ h'=>h'.elim
  have back:∀{σ8:L2.St}{H8:Hp}{s8:aF}{m':Nat},Inv Y (pq++Qq fp s7.heap) σ8 H8 s8->m'<n->W (i+1) m' σ8 H8->∃m,m<n/\∃i σ' H',Inv Y pq σ' H' s8/\tn i s8.heap/\(∀b∈fp,H' b=ai)/\W i m σ' H':=λ{σ8 H8 s8 m'} I8 hm w8=>by
   refine#[m',hm,i+1,σ8,H8,I8.unpinned,T.keep _ _ _ st7 λb hb' o e=>(I8.pin (b,o)<|bp _<|bp _<|XE hb' e).1,λb hb'=>?_,w8]
   obtain⟨o,e,d⟩:=T.obj _ _ st7 b hb';exact(I8.pin (b,o)<|bp _<|bp _<|XE hb' e).2.1
  refine ae<|dq (hg _ s7 σ5 H7 x u _ (I7.pinned (stat fr7)<|T.obj _ _ st7) r7<|step x H7 y7) (λ_ s8 #[σ8,H8,I8,q8]=>?_) λ_ _ h'=>(hx _ _ h').elim
  refine ae<|dq (ht _ s8 σ8 H8 _ I8 q8) (λok s9 #[H9,I9,q9]=>?_) λ_ _ h'=>(hx _ _ h').elim
  cases ok with
  |false=>
   rw[T8 aP]at q9;obtain⟨m',hm,w9⟩:=q9;exact av #[rfl,back I9 hm w9]
  |true=>
   rw[T9 rfl]at q9;exact he _ s9 σ8 H9 _ _ _ _ I9 q9<|by rintro s10 σ10 H10 I10 ⟨m',hm,w10⟩;exact av #[rfl,back I10 hm w10]
def yr{D:aH}(hx:∀a b,Y.xe a b->False)(he:PE Y elt te):Zbl Y (λk=>(do let _ <-call (.builtin "list.append") [.ref D,<-cz elt Y.env]:pR Unit) >>= λ_=>k) (λO H Q=>te O H λy H4=>∃ys,H4 D=aa (.lst ys)/\ys.length<a9/\Q O (upd H4 D<|.lst<|ys++[y])):=by
 intro pq s O H Q k QF EE I h hk;refine ae <| wpAny_bind (dq (he pq s O H _ I h) (λxv s10 #[y,H10,I10,r10,ys,hDy,hz,q]=>?_) λ_ _ h'=>(hx _ _ h').elim)
 refine ae<|dq (Wz pq s10 O H10 (.ref D) [y] (.ref D) [xv] (λv H'=>v=.non/\H'=upd H10 D (.lst<|ys++[y])) I10 rfl (.cons r10 .nil) #[D,ys,y,rfl,rfl,hDy,hz,rfl,rfl]) (λ_ s11 #[v11,H11,I11,_,_,eH]=>?_) λ_ _ h'=>(hx _ _ h').elim
 subst eH;exact av<|hk _ _ _ I11 q
def ZfP(wi:TI)(g:TG)(tt:TT)(te:aH->TEm)(cap:List Nat)(nl:Nat):TE:=λO H Q=>wi O H λJ H1=>∀D,H1 D=ai->∃W:Nat->Nat->L2.St->Hp->Prop,(∃m,W 0 m (Xn cap nl O)<|upd H1 D<|.lst [])/\ji J g tt (te D) W λ_ H'=>Q (.ref D) H'
def ZaW(wi:TI)(g:TG)(tt:TT)(te:TE)(cap:List Nat)(nl:Nat):TE:=λO H Q=>wi O H λJ H1=>∀D,H1 D=ai->∃W:Nat->Nat->L2.St->Hp->Prop,(∃m,W 0 m (Xn cap nl O)<|upd H1 D<|.lst [])/\∀i m σ' H',W i m σ' H'->
  (J.stop i H'/\Q (.ref D) H')\/(J.go i H'/\∀x H'',J.yld i H' x H''->g x σ' H'' λσ2 H2=>tt σ2 H2 λok H3=>if ok=ak then te σ2 H3 λy H4=>∃ys,H4 D=aa (.lst ys)/\ys.length<a9/\∃m',m'<m/\W (i+1) m' σ2 (upd H4 D<|.lst<|ys++[y])else ∃m',m'<m/\W (i+1) m' σ2 H3)
structure Gone(X:Cx)(pq:List (aH×fU))(H:Hp)(s:aF)(C:aH):Prop where
 free:H C=ai
 ns:∃m,s.heap.Ns C m
 loc:C≠X.env.locals
 big:X.s₀.heap.objs.size<=C
 cel:∀x c,X.env.cells.lookup x=aa c->c≠C
 pin:∀p∈X.pn++pq,p.1≠C
def JT{ifs:List Expr}{scope:gE}{N:List bN}{nl:Nat}{wi:TI}{g:TG}{tt:TT}{act:az->Env->pR Fin->pR Fin}{s:aF}{O:L2.St}{H:Hp}{Q:VK}{QQ:az->aF->Prop}(hc:X.calm=ak)(hN:X.N.Nodup)(CS:CompScope X.env.scope X.N scope N cap nl)(hi:PI X tg iter wi)
  (hT:∀it acc env,compTurn (.ListComp elt (#[tg,iter,ifs,0]::rest) scope pos) 0 it acc env=zr iter.pos tg ifs (act acc env) it env (.compLoop (.ListComp elt (#[tg,iter,ifs,0]::rest) scope pos) 0 it acc env))
  (hb:∀cl s H fp,PG (cxC X N scope cl s H fp) tg g/\PTs (cxC X N scope cl s H fp) ifs tt/\∀D,Zbl (cxC X N scope cl s H fp) (act (.ref D) (cxC X N scope cl s H fp).env)<|te D)
  (hs:∀x,dM iter X.env x=cJ x)(I:Inv X pq O H s)(h:ZfP wi g tt te cap nl O H Q)
  (fin:∀D C H5 s6,Inv X pq O H5 s6->Gone X pq H5 s6 C->Q (.ref D) H5->compPost (aR X.prog X.w) X.A X.xe use QQ (.ref D) C (.ok .next) s6) :
  aW (aR X.prog X.w) X.A (comprehension (.ListComp elt (#[tg,iter,ifs,0]::rest) scope pos) scope X.env fpos (newList []) aj (cz iter X.env) use) QQ X.xe s:=by
 obtain⟨cl,hcl,c1,c2⟩:=WY λy hy hf=>I.ok.has y.1<|CS.free y hy hf
 refine wpAny_comprehension_free rfl hs hcl CS.kind CS.names ?_;refine thn (hi pq s O H _ I h) λv s1 h1=>thn h1 λitv s2 h2=>?_
 obtain⟨it,fp,tn,J,H2,rfl,I2,T,st2,f2,q2⟩:=h2;obtain⟨W,⟨m0,w0⟩,turn⟩:=q2 s2.heap.objs.size<|I2.hok.fresh<|aI _;refine br<|xq ?_
 dsimp only
 have I3:Inv X pq O (upd H2 s2.heap.objs.size<|.lst []) {s2 with heap:=s2.heap.push {cls:=.type "list",dict:=ai,data:=.seq ([]:List az).toArray},toks:=s2.toks}:=
  I2.laid (λb u e=>aq _ e) (aI _) #[db _,[],0,.nil,aE _ rfl]
 generalize hD:s2.heap.objs.size=D at I3 w0 turn ⊢;generalize hs3:({s2 with heap:=s2.heap.push {cls:=.type "list",dict:=ai,data:=.seq ([]:List az).toArray},toks:=s2.toks}:aF)=s3 at I3
 have hh3:s2.heap.push {cls:=.type "list",dict:=ai,data:=.seq ([]:List az).toArray}=s3.heap:=by rw[<-hs3]
 rw[hh3];have old:∀b o,s2.heap.get? b=aa o->s3.heap.get? b=aa o:=λb o e=>by rw[<-hh3];exact aq _ e
 have neD:∀b∈fp,b≠D:=λb hb' e=>by
  obtain⟨o,ho,_⟩:=T.obj _ _ st2 b hb';exact T7 (aD ho) (by rw[e,<-hD];exact bv _)
 have f3:∀b∈fp,V2 X pq (upd H2 D<|.lst []) b:=λb hb'=>#[by rw[Zj<|neD b hb'];exact(f2 b hb').1,(f2 b hb').2]
 generalize hh4:o4 (s3.heap.push {cls:=.type "dict",data:=.dict #[]}) scope.names=h₁;have keep4:∀b o,s3.heap.get? b=aa o->h₁.get? b=aa o:=λb o e=>by rw[<-hh4];exact mv _ _ b o<|aq _ e
 have hns₁:∃m,h₁.Ns s3.heap.objs.size m:=#[_,by rw[<-hh4];exact(cM.Ns.new s3.heap<|.type "dict").keeps<|mv _ _]
 have lt3:∀x c,cl.lookup x=aa c->c<s3.heap.objs.size+1:=λx c e=>by
  obtain⟨v,q⟩:=I3.cell x c<|c1 x c e;exact cB q.lt
 have c3:=V6 scope.names _ cl lt3 λx y c h1 h2=>I.ok.inj x y c (c1 x c h1)<|c1 y c h2
 have c2':∀x,(x,bG)∈scope.names\/(x,cV)∈scope.names->∃c,(dv (s3.heap.objs.size+1) scope.names cl).lookup x=aa c:=λx hx=>Ud _ _ _<|hx.imp (c2 x) λh=>h
 have c1':∀x c,(dv (s3.heap.objs.size+1) scope.names cl).lookup x=aa c->((x,cV)∉scope.names/\X.env.cells.lookup x=aa c)\/((x,cV)∈scope.names/\s3.heap.objs.size<=c/\h₁.IsCell c ai):=λx c e=>by
  rw[<-cL s3.heap {cls:=.type "dict",data:=.dict #[]}]at e;refine(Ug _ _ _ (by rw[cL];exact lh _) e).imp (λq=>#[q.1,c1 x c q.2]) λq=>?_
  rw[hh4]at q;exact q
 generalize dv (s3.heap.objs.size+1) scope.names cl=cl at c1' c2' c3;have I4:=Zan (tk:=s2.toks) I3 CS hN c1' c2' c3 f3 (λb hb'=>let #[o,ho,_]:=T.obj _ _ st2 b hb';#[o,old b o ho]) hns₁ keep4
 have e4:({s3 with heap:=h₁,toks:=s2.toks}:aF)={s2 with heap:=h₁,toks:=s2.toks}:=by rw[<-hs3]
 rw[e4]at I4;obtain⟨hg,ht,he⟩:=hb cl s3 (upd H2 D<|.lst []) fp;generalize hY:cxC X N scope cl s3 (upd H2 D<|.lst []) fp=Y at I4 hg ht he;have yP:Y.prog=X.prog:=by rw[<-hY];rfl
 have stat:∀{H':Hp},(∀b∈fp,H' b=ai)->∀b∈fp,V2 Y [] H' b:=λhn b hb'=>by
  subst hY;refine#[hn b hb',λe=>?_,λhm=>?_,.inl hb',λx c e=>(c1' x c e).elim (λq=>(f3 b hb').2.2.2.2.1 x c q.2) λq z=>?_,λp hp=>T7 hp (by simp[cxC])]
  .obtain⟨o,ho,_⟩:=T.obj _ _ st2 b hb'
   have:=aD<|old b o ho;rw[e]at this;exact T7 this<|bv _
  .rcases aw.mp (I3.stkSub b hm)with e|e
   .exact(f3 b hb').2.1 e
   .exact(f3 b hb').2.2.1 e
  .obtain⟨o,ho,_⟩:=T.obj _ _ st2 b hb'
   have:=aD<|old b o ho;rw[<-z]at this;exact T7 q.2.1<|Nat.not_le.mpr this
 subst hY
 let Y:=cxC X N scope cl s3 (upd H2 D<|.lst []) fp
 have st4:=T.keep _ _ _ st2 λb hb' o e=>keep4 b o<|old b o e
 have fr4:=λb hb'=>(f3 b hb').1
 have loop:gz (aR X.prog X.w) X.A (.compLoop (.ListComp elt (#[tg,iter,ifs,0]::rest) scope pos) 0 (.ref it) (.ref D)<|compEnvC scope cl s3.heap.objs.size X.env)
   (compPost (aR X.prog X.w) X.A X.xe use QQ (.ref D) s3.heap.objs.size) {s2 with heap:=h₁,toks:=s2.toks}:=by
  refine uR (Y:=cxC X N scope cl s3 (upd H2 D<|.lst []) fp) hc (λ_ _ z=>z) (hT _ _ _) rfl rfl T hg ht (he D) stat turn (λσ5 H5 s6 I6 qn=>?_) I4 st4 fr4 w0 rfl rfl
  obtain⟨m6,hn6,_⟩:=I6.loc;have u:=I6.base;have IX:=Inv.call' (s':=s6) I3 I6.os #[u.keep,u.slot,u.free,u.there,u.tups,u.frzs,u.tbls] I6.hok I6.bare λb hb'=>#[(f3 b hb').2.2.2.1,(f3 b hb').2.1,(f3 b hb').2.2.2.2.1,λp hp e=>(f3 b hb').2.2.2.2.2 p hp e]
  refine fin D s3.heap.objs.size H5 s6 IX #[I6.free,#[m6,hn6],Ne.symm<|a8 I3.lt,I3.sz,λx c e z=>?_,λp hp z=>?_] qn
  .obtain⟨v,q⟩:=I3.cell x c e
   exact T7 q.lt (by rw[z];exact bv _)
  .exact T7 (aD (I3.pin p hp).1) (by rw[z];exact bv _)
 subst hs3;exact codeAny_compStart_list loop<|T.self _ 0 _ _ _ st4 loop
def Gone.inv(G:Gone X pq H s C)(I:Inv X pq O H s)(hsb:ej C s.heap h'):Inv X pq O H {s with heap:=h' }:=
 I.turned (λb o hb e=>(hsb.2 b hb).trans e) G.free G.loc (.inr G.big) G.cel G.pin
def Zim(te:TE)(D:aH):TEm:=λO H Q=>te O H λy H4=>∃ys,H4 D=aa (.lst ys)/\ys.length<a9/\Q O (upd H4 D<|.lst<|ys++[y])
def ZcB(hc:X.calm=ak)(hN:X.N.Nodup)(CS:CompScope X.env.scope X.N scope N cap nl)(hi:PI X tg iter wi)
  (hb:∀cl s H fp,PG (cxC X N scope cl s H fp) tg g/\PTs (cxC X N scope cl s H fp) ifs tt/\PE (cxC X N scope cl s H fp) elt te)
  (hs:∀x,dM iter X.env x=cJ x:=by intro _;rfl):PE X (.ListComp elt [#[tg,iter,ifs,0]] scope pos) (ZaW wi g tt te cap nl):=by
 intro pq s O H Q I h;rw[eval_ListComp];refine JT (act:=λacc env k=>(do let _ <-call (.builtin "list.append") [acc,<-cz elt env]:pR Unit) >>= λ_=>k) hc hN CS hi (λ_ _ _=>rfl) (λcl s H fp=>#[(hb cl s H fp).1,(hb cl s H fp).2.1,λD=>yr (λ_ _ z=>z) (hb cl s H fp).2.2]) hs I h λD C H5 s6 I6 G q=>?_
 obtain⟨m6,hn6⟩:=G.ns;exact#[m6,hn6,λh' hsb=>#[.ref D,H5,G.inv I6 hsb,rfl,q]]
def jP(hc:X.calm=ak)(hN:X.N.Nodup)(CS:CompScope X.env.scope X.N scope N cap nl)(hi:PI X tg iter wi)
  (hb:∀cl s H fp,PG (cxC X N scope cl s H fp) tg g/\PTs (cxC X N scope cl s H fp) ifs tt/\PE (cxC X N scope cl s H fp) elt te)
  (hsw:eC (.ListComp elt [#[tg,iter,ifs,0]] scope pos) (aa<|.Name y py) spos.line X.env=cJ ak)
  (hy:X.N[i]?=aa y)(hx:L2.Loc X.env.scope y)(hf:X.fn y=ak\/X.env.scope.names.lookup y=aa .local)
  (hs:∀x,dM iter X.env x=cJ x:=by intro _;rfl):PS X (.Assign [.Name y py] (.ListComp elt [#[tg,iter,ifs,0]] scope pos) spos) (λD O H=>ZaW wi g tt te cap nl O H λv H1=>D.nx (O.set i<|aa v) H1):=by
 intro pq s O H D I h;rw[exec_Assign_Name_used _ _ _ _ hsw];refine ae<|iO<|ae ?_;refine ae<|dq (JT (Q:=λv H1=>D.nx (O.set i<|aa v) H1) (act:=λacc env k=>(do let _ <-call (.builtin "list.append") [acc,<-cz elt env]:pR Unit) >>= λ_=>k) hc hN CS hi (λ_ _ _=>rfl) (λcl s H fp=>#[(hb cl s H fp).1,(hb cl s H fp).2.1,λD=>yr (λ_ _ z=>z) (hb cl s H fp).2.2]) hs I h λA C H5 s6 I6 G q=>?_) (λ_ s' hq=>av<|av hq) λ_ _ e=>e
 refine oh<|J0 (v:=V.ref A) I6 hN hy hx rfl (λs7 I7 #[a,hsb,ha]=>?_) hf
 have hCa:C≠a:=by
  rcases ha with e|e
  .rw[e];exact G.loc
  .exact Ne.symm<|G.cel y a e
 obtain⟨m6,hn6⟩:=G.ns;have G7:Gone X pq H5 s7 C:=#[G.free,#[m6,hn6.sameBut hsb hCa],G.loc,G.big,G.cel,G.pin];exact#[m6,hn6.sameBut hsb hCa,λh' hs'=>#[O.set i<|aa<|.ref A,H5,G7.inv I7 hs',q]]
open Ev (E Sm Fn Bop Cop Ty Bf Mf)
section
variable{X:Cx}{xw:Nat->Hp->Prop}{C:Calls}{e a b c tg it:Expr}{i j k:E}{pos p p' p2:iE}
structure CTs(X:Cx)(xw:Nat->Hp->Prop)(C:Calls)(ifs:List Expr)(is:List E):Prop where
 h:PTs X ifs (tB3 X xw<|Pv.pvt C is)
def PTs.imp{e:List Expr}(h:PTs X e t)(k:∀O H Q,t' O H Q->t O H Q):PTs X e t':=λpq s O H Q I q=>h pq s O H Q I<|k O H Q q
def Zc2:CTs X xw C [] []:=.mk <| PTs.imp Zdy<|by left;exact End.ok (h) st rfl
def Zcv(O S):Pv.pvt C [i] O S=Pv.YO C i O S:=by
 show((Pv.pv C i O S).bind λx S=>(Pv.po (Pv.Zz x) S).bind λb S=>if b then Pv.pvt C [] O S else .ok aj S)=(Pv.pv C i O S).bind λx S=>Pv.po (Pv.Zz x) S
 congr 1
 funext x S
 cases Pv.Zz x with|none=>rfl|some b=>cases b<;>rfl
def Zcc(h:CT X xw C c i):CTs X xw C [c] [i]:=.mk <| PTs.imp (Zdl h.h)<|by left;exact #[Z,l,S,st,lr,by rw[<-Zcv];exact h]
def LocR.caught(lr:LocR Z H l O)(cap nl):LocR Z H (Pv.Z9 cap nl l) (Xn cap nl O):=by
 refine#[by unfold Pv.Z9 Xn;simp,λn d e=>?_]
 unfold Pv.Z9 at e;by_cases hn:n<nl
 .rw[cx (by simp;exact hn),cK,T9 hn]at e
  cases e
 .rw[ck (by simp;omega),bL,aK]at e
  unfold Xn;rw[ck (by simp;omega),bL,aK]
  cases q:cap[n-nl]? with
  |none=>rw[q]at e;cases e
  |some m=>
   rw[q]at e;have e':(l[m]?).join=aa d:=ap e;have:l[m]?=aa (aa d):=by
    cases z:l[m]? with
    |none=>rw[z]at e';cases e'
    |some o=>rw[z]at e';cases o with|none=>cases e'|some w=>cases e';rfl
   obtain⟨v,hv,r⟩:=lr.val m d this;exact#[v,by show aa ((O[m]?).join)=_;rw[hv];rfl,r]
def Mx.at(Z:Mx)(A:aH):Mx:=#[Z.K,Z.n0,λa=>Z.X a\/a=A,λa h=>.inl<|Z.xz a h]
def X1(Z:Mx)(A:aH)(H H':Hp):Prop:=∀a o,a≠A->H a=aa o->H' a=aa o\/(Z.n0=aa a/\∃xs,o=.lst xs)\/((∃ps,o=.tbl ps)/\∃ps,H' a=aa (.tbl ps))
def X1.trans(f:X1 Z A H H1)(g:X1 Z A H1 H2):X1 Z A H H2:=λa o n h=>(f a o n h).elim (g a o n) λz=>z.elim (λz=>.inr<|.inl z)<|by
 rintro ⟨e,ps,h⟩;rcases g a _ n h with q|⟨_,xs,q⟩|⟨_,q⟩
 .exact .inr<|.inr #[e,ps,q]
 .cases q
 .exact .inr<|.inr #[e,q]
def X1.of(f:Fut (Z.at A) H ρ' H1):X1 Z A H H1:=λa o _ h=>f.keep a o h
structure CI(K:ao)(Z:Mx)(A:aH)(acc:List D)(l:Lc)(O:L2.St)(H:Hp)(S:ZO):Prop where
 st:St3 K (Z.at A) S H
 lr:LocR (Z.at A) H l O
 ac:∃us,H A=aa (.lst us)/\Rq (Z.at A) H acc us
section
variable{K:ao}{Z:Mx}{A:aH}{acc:List D}{l l':Lc}{O:L2.St}{H H':Hp}{S S':ZO}
def X1.lat(f:X1 Z A H H')(ha:H A=aa (.lst us)):Lat (Z.at A) H (Z.at A) H':=#[rfl,rfl,λa o h x n _=>by
 by_cases c:a=A
 .subst c;rw[ha]at h;cases h;exact T7 (.inr rfl)<|x us rfl
 .rcases f a o c h with z|⟨z,xs,e⟩|⟨⟨ps,e⟩,_⟩
  .exact z
  .exact T7 (.inl<|Z.xz a z)<|x xs e
  .exact T7 e<|n ps,λ_ _ x=>x]
theorem CI.mono(h:CI K Z A acc l O H S)(na:Z.n0≠aa A)(f:Fut (Z.at A) H ρ' H')(st:St3 K (Z.at A) S' H'):CI K Z A acc l O H' S':=by
 obtain⟨us,e,r⟩:=h.ac;cases f.eq;exact#[st,h.lr.mono f,us,(f.keep A _ e).elim id λz=>z.elim (λz=>T7 z.1 na)<|by rintro ⟨⟨_,z⟩,_⟩;exact (by cases z),r.mono f]
def Zfk(lr:LocR Z H l O)(r:Rep Z H d v)(e:Pv.Zq t d l=aa l')(q:∀σ',LocR Z H l' σ'->Q σ' H):tGU K t v O H Q:=by
 have fill:∀{t:List Nat}{vs:List D}{us:List V}{l l':Lc}{O:L2.St},LocR Z H l O->Rq Z H vs us->Pv.Y3 t vs l=aa l'->us.length=t.length/\LocR Z H l' (Ql t us O):=λ{t}=>by
  induction t with
  |nil=>intro vs us l l' O h r e;cases vs with|nil=>rw[r];cases e;exact#[rfl,h]|cons _ _=>cases e
  |cons i t ih=>intro vs us l l' O h r e;cases vs with
   |nil=>cases e
   |cons v vs=>
    obtain⟨d,ds,rfl,a,b⟩:=r;obtain⟨z,q⟩:=ih (h.set i a) b e;exact#[by rw[aV,aV,z],q]
 have gen:∀t,(match Pv.jW d with
   |some xs=>Pv.Y3 t xs l
   |none=>ai)=aa l'->∃a xs,v=.ref a/\(SqT K H a xs\/H a=aa (.lst xs))/\xs.length=t.length/\Q (Ql t xs O) H:=by
  intro t e;cases d with|tup vs=>obtain⟨p,ds,rfl,hp,rs⟩:=r.tup';obtain⟨z,y⟩:=fill lr rs e;exact#[p,ds,rfl,.inl<|SqT.of hp,z,q _ y]|lst vs=>obtain⟨p,ds,rfl,hp,_,rs⟩:=r.lst';obtain⟨z,y⟩:=fill lr rs e;exact#[p,ds,rfl,.inr hp,z,q _ y]|_=>cases e
 match t,e with
 |[i],e=>cases e;exact q _<|lr.set i r
 |[],e=>exact gen [] e
 |i::j::t,e=>exact gen (i::j::t) e
theorem Jt:∀{t:List Nat}{vs:List D}{l l':Lc},Pv.Y3 t vs l=aa l'->l'.length=l.length/\∀j,j∉t->l'[j]?=l[j]?
 |[],[],l,l',h=>by cases h;exact#[rfl,λ_ _=>rfl]
 |[],_::_,_,_,h=>by cases h
 |_::_,[],_,_,h=>by cases h
 |i::t,v::vs,l,l',h=>by
  obtain⟨a,b⟩:=Jt (t:=t) h;exact#[by rw[a,bC],λj hj=>by rw[b j λz=>hj<|am _ z,ba λz=>hj (by rw[z];exact al ..)]]
def yF(e:Pv.Zq t v l=aa l'):l'.length=l.length/\∀j,j∉t->l'[j]?=l[j]?:=by
 have gen:∀t,(match Pv.jW v with
   |some xs=>Pv.Y3 t xs l
   |none=>ai)=aa l'->l'.length=l.length/\∀j,j∉t->l'[j]?=l[j]?:=λt e=>by
  cases q:Pv.jW v with|none=>rw[q]at e;cases e|some xs=>rw[q]at e;exact Jt e
 match t,e with
 |[i],e=>cases e;exact#[bC ..,λj hj=>ba λz=>hj (by rw[z];exact al ..)]
 |[],e=>exact gen [] e
 |i::j::t,e=>exact gen (i::j::t) e
def LocR.back(e:Pv.Zq t v l=aa l')(hn:∀i∈t,∀d,l[i]?≠aa (aa d))(lr:LocR Z H l' O):LocR Z H l O:=by
 obtain⟨a,b⟩:=yF e;exact#[by rw[<-a];exact lr.len,λi d q=>lr.val i d (by rw[b i λz=>hn i z d q];exact q)]
end
def Zec(C:Calls)(t:List Nat)(is:List E)(G:Lc->ZO->R (List D))(l:Lc)(x:D)(S:ZO):R (List D):=(Pv.po (Pv.Zq t x l) S).bind λl S=>(Pv.pvt C is l S).bind λb S=>if b then G l S else .ok [] S
def Gu{B β:Type}{r:R B}{f:B->ZO->R β}{b:β}(h:r.bind f=.ok b S):∃a S1,r=.ok a S1/\f a S1=.ok b S:=by
 cases r with|ok a S1=>exact#[a,S1,rfl,h]|ex _ _=>cases h|no=>cases h
def uJ(h:Pv.mapP f (x::w) S=.ok rs S2):∃y S1 zs,f x S=.ok y S1/\Pv.mapP f w S1=.ok zs S2/\rs=y++zs:=by
 rw[Pv.mapP]at h;split at h
 .split at h
  .cases h;exact#[_,_,_,‹_›,‹_›,rfl]
  .cases h
 .cases h
def Zhv(K:ao)(Z:Mx)(A:aH)(P:Lc->Prop)(te:TEm)(G:Lc->ZO->R (List D)):Prop:=∀acc l O H S ys S2 QQ,P l->CI K Z A acc l O H S->G l S=.ok ys S2->(acc++ys).length<=Ev.lim->(∀σ3 H3,X1 Z A H H3->CI K Z A (acc++ys) l σ3 H3 S2->QQ σ3 H3)->te O H QQ
def ju{A:aH}{Hw:Hp}{w:List D}{J:It}(r:WRel X.K ρw Hw w J)(na:Z.n0≠aa A){te:TEm}(em:Zhv X.K Z A P te G){l:Lc}(hn:∀i∈t,∀d,l[i]?≠aa (aa d))(hP:∀x l2,Pv.Zq t x l=aa l2->P l2){O:L2.St}{H:Hp}
  (hl:∀H',X1 Z A H H'->Lat ρw Hw (Z.at A) H')(c:CI X.K Z A acc l O H S)(h:Pv.mapP (Zec C t is G l) w S=.ok ys S2)(hz:(acc++ys).length<=Ev.lim)(k:∀σ3 H3,X1 Z A H H3->CI X.K Z A (acc++ys) l σ3 H3 S2->QQ σ3 H3) :
  ∃W,(∃m,W 0 m O H)/\ji J (tGU X.K t) (tB3 X nx<|Pv.pvt C is) te W QQ:=by
 refine#[λn m σ' H'=>m=w.length-n/\n<=w.length/\X1 Z A H H'/\∃ac rs S',ac++rs=acc++ys/\Pv.mapP (Zec C t is G l) (w.drop n) S'=.ok rs S2/\CI X.K Z A ac l σ' H' S',#[w.length,rfl,db _,λ_ _ _ h=>.inl h,acc,ys,S,rfl,h,c],?_]
 rintro n m σ' H' ⟨rfl,hn',ff,ac,rs,S',ea,e',c'⟩
 have lat:=hl H' ff;by_cases hlt:n<w.length
 .refine .inr ?_
  rw[bY hlt]at e';obtain⟨y1,S1,r1,q1,q2,rfl⟩:=uJ e';obtain⟨go,yl⟩:=r.go n _ S' H' lat c'.st hlt;refine#[go,λx H3 y=>?_]
  obtain⟨f3,st3,rp⟩:=yl x H3 y;have rx:=rp _<|af hlt;obtain⟨l2,Sa,ha,q1⟩:=Gu q1;obtain⟨b,Sb,hb,q1⟩:=Gu q1;have hal:Pv.Zq t w[n] l=aa l2/\Sa=S':=by
   cases z:Pv.Zq t w[n] l<;>rw[z]at ha<;>cases ha;exact#[rfl,rfl]
  obtain⟨hal,rfl⟩:=hal;have c3:=c'.mono na f3 st3;refine Zfk c3.lr rx hal λσ2 lr2=>#[Z.at A,l2,Sa,st3,lr2,?_]
  rw[hb];intro ρ4 H4 b' f4 st4 eb;have eb:b=b':=eb;subst eb;cases f4.eq;have ff4:=(ff.trans<|X1.of f3).trans<|X1.of f4;have c4:=c3.mono na f4 st4;cases b with
  |false=>
   rw[T8 aP]at q1 ⊢;cases q1;exact#[w.length-(n+1),iW _ _ hlt,rfl,hlt,ff4,ac,r1,_,ea,q2,c4.st,(lr2.mono f4).back hal hn,c4.ac]
  |true=>
   rw[T9 rfl]at q1 ⊢;refine em ac l2 σ2 H4 Sb y1 S1 _ (hP _ _ hal) #[c4.st,lr2.mono f4,c4.ac] q1 ?_ λσ3 H5 f5 c5=>#[w.length-(n+1),iW _ _ hlt,rfl,hlt,ff4.trans f5,ac++y1,r1,S1,by rw[bE];exact ea,q2,c5.st,c5.lr.back hal hn,c5.ac]
   rw[<-ea]at hz;simp only[aQ]at hz ⊢;omega
 .refine .inl ?_
  have en:n=w.length:=by omega
  subst en;rw[eD]at e';cases e';rw[cf]at ea;subst ea;exact#[r.stop _ _ H' lat c'.st,k σ' H' ff c']
def ZfC(na:Z.n0≠aa A)(ie):Zhv X.K Z A (λ_=>True) (Zim (tE X nx<|Pv.pv C ie) A) (λl S=>(Pv.pv C ie l S).bind λy S=>.ok [y] S):=λacc l O H S ys S2 QQ _ c h hz k=>by
 obtain⟨y,S1,hy,h⟩:=Gu h;cases h;refine#[Z.at A,l,S,c.st,c.lr,?_];rw[hy];intro ρ4 H4 v f4 st4 r4;cases f4.eq;have c4:=c.mono na f4 st4;obtain⟨us,e,r⟩:=c4.ac;rw[aQ]at hz;have hz:acc.length+1<=Ev.lim:=hz;have fa:X1 Z A H4 (upd H4 A<|.lst<|us++[v]):=λa o n h=>.inl (by rw[Zj n];exact h)
 have lt:=fa.lat e;refine#[us,e,by rw[r.length,<-Uc];omega,k O _ ((X1.of f4).trans fa) #[#[st4.hk,λb x=>?_,λb x=>?_,st4.tb.upd (λo u z=>by rw[e]at z;cases z) λ_ z=>by cases z],#[c4.lr.len,λi d q=>let #[u,a,b]:=c4.lr.val i d q;#[u,a,b.lat lt]],_,Zl,(r.lat lt).append<|Rq.cons (r4.lat lt) Rq.nil]]
 .by_cases z:b=A
  .rw[z,Zl];intro q;cases q
  .rw[Zj z];exact st4.xd b x
 .rw[Zj λz=>na (by rw[<-z];exact x)];exact st4.dw b x
def Zcx(st:St3 X.K Z S H)(lr:LocR Z H l O)(hA:H A=ai):Z.n0≠aa A/\CI X.K Z A [] l O (upd H A<|.lst []) S/\∀H',X1 Z A (upd H A<|.lst []) H'->Fut Z H Z H'/\Lat Z H (Z.at A) H':=by
 have ne:∀a,H a≠ai->a≠A:=λa h z=>h<|z▸hA
 have f:∀H',X1 Z A (upd H A<|.lst []) H'->Fut Z H Z H'/\Lat Z H (Z.at A) H':=λH' g=>by
  have f:Fut Z H Z H':=#[rfl,λa o h=>g a o (ne a<|by rw[h];intro z;cases z) (by rw[Zj<|ne a (by rw[h];intro z;cases z)];exact h)]
  exact#[f,rfl,rfl,f.lat.keep',λa h x=>x.elim id λz=>T7 z<|ne a h]
 have s:=st.fresh (o:=.lst []) hA;obtain⟨f1,lt⟩:=f _ λ_ _ _ h=>.inl h
 refine#[λz=>st.xd A (Z.xz A z) hA,#[#[s.hk,λb x=>x.elim (s.xd b) λz=>(by rw[z,Zl];intro q;cases q),s.dw,s.tb],#[lr.len,λi d q=>let #[u,a,b]:=lr.val i d q;#[u,a,b.lat lt]],[],Zl,Rq.nil],f]
def qG{nl i:Nat}(h:i<nl)(v):(Pv.Z9 cap nl l)[i]?≠aa (aa v):=by
 unfold Pv.Z9;rw[cx (by simpa using h),cK,T9 h]
 intro z;cases z
def ZaD(f0:Fut Z H0 Z H)(hA:H A=ai)(st:St3 X.K Z S H)(f:Fut Z H Z H')(c:CI X.K Z A ys l O H' S')(h:End X.K nx (Wj ak H0) Z H Q (.ok (.lst ys) S')):Q (.ref A) H':=by
 obtain⟨us,e,r⟩:=c.ac;have lt:Lat (Z.at A) H' Z H':=#[rfl,rfl,λ_ _ h _ _ _=>h,λ_ _ x=>.inl x]
 refine h Z H' _ f #[c.st.hk,λb x=>c.st.xd b<|.inl x,c.st.dw,c.st.tb] #[Wy e (st.nx hA)<|r.lat lt,λ_ _ _=>#[A,rfl,f0.new hA st.xd]]
def Zb2{K:ao}{rep:Mx->Hp->D->V->Prop}{r:R (List D)}(h:End K xw rep Z H Q (r.bind λys s=>if ys.length<=Ev.lim then Pv.PR.ok (.lst ys) s else .no).nox):∃ys S,r=.ok ys S/\ys.length<=Ev.lim/\End K nx rep Z H Q (.ok (.lst ys) S):=by
 cases r with
 |no=>exact h.elim
 |ex c S=>exact h.elim
 |ok ys S=>
  have h:=End.nox h
  obtain⟨hl,h⟩:=End.guard h;exact#[ys,S,rfl,hl,h]
def zW(hyp:tF X xw (Pv.pv C<|.comp1 cap nl t w is ie) O H Q):ZaW (tW3 X xw<|Pv.pvw C w) (tGU X.K t) (tB3 X nx<|Pv.pvt C is) (tE X nx<|Pv.pv C ie) cap nl O H Q:=by
 obtain⟨Z,l,S,st,lr,h⟩:=hyp;rw[Pv.u0]at h;obtain⟨ho,h⟩:=End.guard h;refine#[Z,l,S,st,lr,h.bind λwk S1 ρ1 H1 J f1 st1 r1 h1=>λA hA=>?_]
 cases f1.eq;obtain⟨ys,S2,hm,hl,h1⟩:=Zb2 h1;obtain⟨na,ci,ft⟩:=Zcx st1 ((lr.mono f1).caught cap nl) hA;exact ju r1 na (ZfC na ie) (λi hi d=>qG (T6<|aX.mp ho i hi) d) (λ_ _ _=>dN) (λH' f=>(ft H' f).2) ci hm hl λσ3 H3 f3 c3=>ZaD f1 hA st1 (ft H3 f3).1 c3 h1
def j6(hc:X.calm=ak)(hN:X.N.Nodup)(CSc:CompScope X.env.scope X.N scope N cap nl)(hi:CW X xw C tg it w)
  (hb:∀cl s H fp,CG (cxC X N scope cl s H fp) tg t/\CTs (cxC X N scope cl s H fp) nx C ifs is/\CE (cxC X N scope cl s H fp) nx C elt ie)
  (hs:∀x,dM it X.env x=cJ x):CF X xw C (.ListComp elt [#[tg,it,ifs,0]] scope pos) (.comp1 cap nl t w is ie):=.mk <|
 PE.imp (ZcB hc hN CSc hi.h (λcl s H fp=>have#[a,b,c]:=hb cl s H fp;#[a.h,b.h,c.h]) hs) λO H Q hyp=>zW hyp
def ZbR{fr:Bool}{ie:E}{nl:Nat}{w:Ev.W}{n:Nat}{y:bN}(hc:X.calm=ak)(hN:X.N.Nodup)(CSc:CompScope X.env.scope X.N scope N cap nl)(hi:CW X xw C tg it w)
  (hb:∀cl s H fp,CG (cxC X N scope cl s H fp) tg t/\CTs (cxC X N scope cl s H fp) nx C ifs is/\CE (cxC X N scope cl s H fp) nx C elt ie)
  (hsw:eC (.ListComp elt [#[tg,it,ifs,0]] scope pos) (aa<|.Name y py) spos.line X.env=cJ ak)
  (hy:X.N[n]?=aa y)(hx:L2.Loc X.env.scope y)(hf:X.fn y=ak\/X.env.scope.names.lookup y=aa .local)
  (hs:∀x,dM it X.env x=cJ x):CS X xw fr C ns (.Assign [.Name y py] (.ListComp elt [#[tg,it,ifs,0]] scope pos) spos) (.asg [n]<|.comp1 cap nl t w is ie):=.mk <|
 PS.imp (jP hc hN CSc hi.h (λcl s H fp=>have#[a,b,c]:=hb cl s H fp;#[a.h,b.h,c.h]) hsw hy hx hf hs)<|by right;exact zW<|Zhw st en h
end
theorem LocR.start(r:Rq Z H ds vs)(N)(n:Nat)(hn:n=N.length):LocR Z H (Pv.ZP n ds) (L2.start N vs):=by
 subst hn;have hl:=r.length;refine#[by unfold Pv.ZP L2.start;simp[hl],λi d e=>?_]
 unfold Pv.ZP at e;by_cases hi:i<ds.length
 .rw[cx (by simpa using hi),aK]at e
  cases q:ds[i]? with
  |none=>rw[q]at e;cases e
  |some d'=>
   rw[q]at e;cases e;obtain⟨v,hv,r'⟩:=r.get q;refine#[v,?_,r'];unfold L2.start;rw[cx (by simp;lia),aK,hv]
   rfl
 .rw[ck (by simp;lia),cK]at e
  split at e<;>cases e
theorem Eu.start{K:ao}{Z:Mx}{H:Hp}{S:ZO}(st:St3 K Z S H)(r:Rq Z H ds vs)(N:List bN)(n:Nat)(hn:n=N.length):Eu Z H (λ_=>ai) (Pv.ZP n ds) [] (L2.start N vs) H:=by
 have lr:=LocR.start r N n hn;refine#[Fut.refl _ _,st.xd,lr.len,λ_=>rfl,λ_ _ _ h=>?_,λ_ _ h=>?_,λ_ _ h=>?_,λi d e _=>?_]
 .cases h
 .cases h
 .cases h
 .obtain⟨v,a,b⟩:=lr.val i d e
  exact#[v,a,Rep.lat (Z:=Z) (ρ':=Z.ex λ_=>ai) #[rfl,rfl,λ_ _ h _ _ _=>h,λ_ _ x=>Or.elim x id λ#[_,z]=>by cases z] b]
section
variable{P:bO}{w:bV}{K:ao}{mg:bN->Option az}{base:cM}
def Ga(C:Calls)(fn:Fn)(ds:List D)(S:ZO):R D:=if ds.length=fn.ps then(Pv.rvs C (Pv.muts fn.body) fn.body (Pv.ZP fn.ns ds) [] S).bind λf S=>match f with
  |.ret x=>.ok x S
  |.nx _ _=>.ok .non S
 else .no
def yC{C:Calls}{fn:Fn}{fr:Bool}{Z:Mx}{H:Hp}{S:ZO}{Q:VK}{E:L2.Ends}(hE:∀v H',Q v H'->E.rt v H')(hN:∀O H',Q .non H'->E.nx O H')(h:End K xw (Wj fr H) Z H Q (Ga C fn ds S)):ZC fr K xw Z H E (Pv.rvs C (Pv.muts fn.body) fn.body (Pv.ZP fn.ns ds) [] S):=by
 obtain⟨_,h⟩:=End.guard h;cases q:Pv.rvs C (Pv.muts fn.body) fn.body (Pv.ZP fn.ns ds) [] S with
 |no=>rwa[q]at h
 |ex c S2=>rw[q]at h;exact λH' f st=>h Z H' f st
 |ok fl S2=>
  rw[q]at h;cases fl with|ret x=>exact λH' v f st r=>hE v H'<|h Z H' v f st r|nx l os=>exact λH' σ' W' st en=>hN σ' H'<|h Z H' .non en.fut st #[UP,λ_ _ z=>by cases z]
end
section
variable{prog:bO}{w:bV}{A:cw}{E:az->aF->Prop}{s:aF}
theorem ux(n:Nat):cQ ((n:Int)-1) (-1) (-1)=n:=by
 unfold cQ;have h1:¬((-1:Int)>0):=by decide
 rw[T8 h1];by_cases h:(n:Int)-1 > -1
 .rw[T9 h]
  lia
 .rw[T8 h]
  lia
def Ub{n:Nat}(hs:s.heap.IsSliceOf sl .none .none vk)(pk:kx vk (aa<|-1))
  (h:Q ((n:Int)-1,-1,n) s):aW (aR prog w) A (kz (.ref sl)<|cJ (n:Int)) Q E s:=by
 obtain⟨os,hos,hcs,hds⟩:=id hs;refine ae<|ae<|cP hos hds rfl<|ae<|cP hos hds rfl<|ae<|cP hos hds rfl<|av ?_;refine ae<|HT.WR pk ?_;show aW _ _ (if((-1:Int) == 0)=ak then _ else _) _ _ s
 rw[T8 #[1]]
 refine ae<|ky<|ae<|ky<|ae<|av ?_;show aW _ _ (cJ ((n:Int)-1,(-1:Int),cQ ((n:Int)-1) (-1)<|-1)) _ _ s;rw[ux];exact av h
theorem Zbc(xs:Array az):((aO xs.size).filterMap λ(k:Nat)=>xs[((xs.size:Int)-1+(k:Int) * -1).toNat]?).toArray=xs.toList.reverse.toArray:=by
 congr 1
 have e:(aO xs.size).filterMap (λ(k:Nat)=>xs[((xs.size:Int)-1+(k:Int) * -1).toNat]?)=((aO xs.size).map λk=>xs.size-1-k).filterMap (xs[·]?):=by
  rw[nN]
  congr 1
  funext k
  have:((xs.size:Int)-1+(k:Int) * -1).toNat=xs.size-1-k:=by lia
  rw[this];rfl
 rw[e,PySem.W.krv_range,List.filterMap_reverse,PySem.W.krv_all]
def VI(ht:n6 s.heap t items)(hs:s.heap.IsSliceOf sl .none .none vk)(pk:kx vk (aa<|-1))
  (h:Q (.ref s.heap.objs.size) {s with heap:=s.heap.push {cls:=.type "tuple",data:=.seq items.toList.reverse.toArray}})
  (hsz:items.size<=a9):aW (aR prog w) A (k6 (.ref t)<|.ref sl) Q E s:=by
 have htake:sizeOk (.seq items.toList.reverse.toArray):=by
  show items.toList.reverse.toArray.size<=a9;rw[aC,gI];exact hsz
 obtain⟨os,hos,hcs,hds⟩:=id hs;have hTs:s.TypeIs (.ref sl) "slice":=#[os,hos,hcs];unfold k6
 try with_reducible refine bI ?_
 first|refine ae<|av ?_|skip
 refine ae<|k7 ht.typeIs #[1] ?_
 refine ae (cn ht.typeIs cE
  (cc cE ht.typeIs kh ?_<|kA _ _))
 show aW _ _ (gn (.ref t) >>= _) _ _ s;refine ae<|nr ht ?_;refine ae<|fH hTs ?_;rw[T9 #[1]]
 refine ae<|Ub hs pk ?_;have hno:¬(((items.size:Int)-1 == 0&&(-1:Int) == 1&&items.size == items.size)=ak):=by
  intro q;rw[aB,aB]at q;exact T7 q.1.2 #[1]
 show aW _ _ (if((items.size:Int)-1 == 0&&(-1:Int) == 1&&items.size == items.size)=ak then _ else _) _ _ s
 rw[T8 hno,Zbc]
 first
  |exact ae<|br (av #[_,rfl,av h]) htake
  |exact ae<|br (ae<|av<|av #[_,rfl,av h]) htake
  |exact ae<|ae<|br (av<|av #[_,rfl,av h]) htake
  |exact ae<|ae<|br (av #[_,rfl,av h]) htake
end
section
variable{X:Cx}{xw:Nat->Hp->Prop}{C:Calls}{e a b c tg it:Expr}{i j k:E}{pos p p' p2 p3:iE}{q1:Option bN}
def ZeV(ha:CE X xw C a i)(h1:CE X xw C e1 (.neg<|.n 1)):CE X xw C (.Subscript a (.Slice ai ai (aa e1) p2) pos) (.rev i):=.mk <| by
 intro pq s O H Q I hq;obtain⟨Z,l,S,st,lr,h⟩:=hq;have h':=h
 refine pT<|thn (ha.h pq s O H (λx H1=>∃ρ1 S1 d,St3 X.K ρ1 S1 H1/\LocR ρ1 H1 l O/\Rep ρ1 H1 d x/\End X.K xw Rep ρ1 H1 Q (Pv.po (Pv.ZgS d) S1)) I #[Z,l,S,st,lr,h'.bind λd S1 ρ1 H1 v f1 st1 r1 h1=>#[ρ1,S1,d,st1,lr.mono f1,r1,h1]]) λv s1 #[x,H1,I1,r1,ρ1,S1,d,st1,lr1,rd,h2]=>?_
 refine wpAny_Slice ?_;rw[nt];refine av<|av ?_;rw[evalPart_some];refine thn (h1.h pq s1 O H1 (λy H2=>y=.int (-1)/\∃ρ2,Fut ρ1 H1 ρ2 H2/\St3 X.K ρ2 S1 H2) I1 #[ρ1,l,S1,st1,lr1,λρ2 H2 y f2 st2 ry=>#[ry.int',ρ2,f2,st2]]) λvk s2 #[y,H2,I2,ry,ey,ρ2,f2,st2]=>?_
 subst ey;obtain⟨t,rfl⟩:=ry;have h3:=End.mono f2 h2;cases d with
 |tup ds=>
  obtain⟨q,xs,rfl,hp,rs⟩:=(rd.mono f2).tup';cases r1;have I4:Inv X pq O H2 {s2 with heap:=s2.heap.push {cls:=.type "slice",data:=.fields [.none,.none,.int (-1) t].toArray}}:=I2.kept (t':=s2.toks) λb ob q=>aq _ q
  obtain⟨its,r,ht,hz⟩:=I4.tuple<|SqT.of hp;have hlen:its.toArray.size=xs.length:=by rw[aC];exact r.length.symm
  refine tail_any ht.typeIs cE.lookup ?_ (by with_unfolding_all rfl)
  refine VI ht (nO ..) (kx.int _ _) ?_ (by rw[hlen];exact hz)
  refine#[.ref _,_,I4.laid (o:=.tup xs.reverse) (λb ob q=>aq _ q) (aI _) #[by rw[gI];exact hz,_,r.reverse,kn _ _],rfl,h3.newT st2 rs.reverse _<|I4.hok.fresh<|aI _]
 |_=>exact False.elim h3
end
def zX{a b c}:ay (.Constant a b c::es) env=(aj,cz (.Constant a b c) env)::ay es env:=rfl
def vI{a b}:ay (.Name a b::es) env=(aj,cz (.Name a b) env)::ay es env:=rfl
def Zau{a b c}:ay (.Tuple a b c::es) env=(aj,cz (.Tuple a b c) env)::ay es env:=rfl
def jK{a b}:ay (.List a b::es) env=(aj,cz (.List a b) env)::ay es env:=rfl
def vQ{a b c}:ay (.Dict a b c::es) env=(aj,cz (.Dict a b c) env)::ay es env:=rfl
def ZaE{a b c d}:ay (.BinOp a b c d::es) env=(aj,cz (.BinOp a b c d) env)::ay es env:=rfl
def Zer{a b c}:ay (.UnaryOp a b c::es) env=(aj,cz (.UnaryOp a b c) env)::ay es env:=rfl
def ZaU{a b c d}:ay (.Compare a b c d::es) env=(aj,cz (.Compare a b c d) env)::ay es env:=rfl
def jg{a b c}:ay (.Subscript a b c::es) env=(aj,cz (.Subscript a b c) env)::ay es env:=rfl
def v6{a b c d}:ay (.Call a b c d::es) env=(aj,cz (.Call a b c d) env)::ay es env:=rfl
def wL{a b c d}:ay (.ListComp a b c d::es) env=(aj,cz (.ListComp a b c d) env)::ay es env:=rfl
def Xo:List ig->List (Int×Int)->Prop
 |[],[]=>True
 |e::r,(k,j)::q=>(∃t,e.key=.int k t)/\e.hash=rV k/\(∃u,e.val=.int j u)/\Xo r q
 |_,_=>False
theorem Xo.mem :∀{es:List ig}{tab:List (Int×Int)},Xo es tab->∀e∈es,∃k,(gU P w).is k e.key=ak/\e.hash=(gU P w).hash k
 |[],_,_,e,h=>by cases h
 |e::r,[],h,_,_=>h.elim
 |e::r,(k,j)::q,h,x,hx=>by
  obtain⟨⟨t,h1⟩,h2,_,h4⟩:=h;rcases aw.mp hx with rfl|hx
  .exact#[k,by rw[h1];exact iK P w k t,h2]
  .exact Xo.mem h4 x hx
theorem Xo.find(k):∀{es:List ig}{tab:List (Int×Int)},Xo es tab->(tab.lookup k=ai->(es.find? λe=>(gU P w).is k e.key)=ai)/\∀j,tab.lookup k=aa j->∃e t,(es.find? λe=>(gU P w).is k e.key)=aa e/\e.val=.int j t
 |[],[],_=>#[λ_=>rfl,λj h=>by cases h]
 |[],_::_,h=>h.elim
 |e::r,[],h=>h.elim
 |e::r,(k',j')::q,h=>by
  obtain⟨⟨t,h1⟩,h2,⟨u,h3⟩,h4⟩:=h;obtain⟨i1,i2⟩:=Xo.find k h4;rw[bR,List.find?_cons];have hd:(gU P w).is k e.key=ag (k=k'):=KeyKind.is_eq_decide (by rw[h1];exact iK P w k' t) k
  rw[hd];by_cases z:k=k'
  .subst z
   rw[beq_self_eq_true,T5 rfl];exact#[λz=>(by cases z),λj z=>(by cases z;exact#[e,u,rfl,h3])]
  .rw[beq_eq_false_iff_ne.mpr z,T4 z]
   exact#[i1,i2]
def Zd6{K:ao}(hl:K.lookup a=aa #[.type "dict",ai,.dict es n,#[]])(ht:Xo es.toList tab)(ha:(a == c8)=aj):ZhD P w K a tab:=by
 refine#[ha,λk=>findBy (gU P w).is es k,λh X=>#[_,es,n,X _ _ hl,#[rfl,rfl,rfl],rfl,λe he=>ht.mem e<|Array.mem_toList_iff.mpr he,λ_=>rfl],λk=>?_]
 obtain⟨l⟩:=es;obtain⟨i1,i2⟩:=Xo.find k ht;refine#[λz=>?_,λj z=>?_]
 .show((l.toArray.find? λe=>(gU P w).is k e.key).map (·.val))=ai
  rw[nQ,i1 z];rfl
 .obtain⟨e,t,q1,q2⟩:=i2 j z
  refine#[t,?_];show((l.toArray.find? λe=>(gU P w).is k e.key).map (·.val))=_
  rw[nQ,q1];exact congrArg aa q2
def hu7(hr:Room k A):A.units+7<dO:=Nat.lt_of_le_of_lt #[0] hr.un
end
section
def Src(b:Bool)(h:cM)(it l:aH)(k:Nat):Prop:=match b with
 |true=>h.IsListIter it l k
 |false=>h.IsTupleIter it l k
def YV(b:Bool)(h:cM)(l:aH)(xs:Array az):Prop:=match b with
 |true=>h.IsList l xs
 |false=>h.IsTuple l xs
def Src.ext(x:Src b h it l k)(e:fD c h h')(n:it≠c):Src b h' it l k:=by
 cases b
 .exact cM.IsTupleIter.extBut x e n
 .exact cM.IsListIter.extBut x e n
def Src.keep(x:Src b h it l k)(e:∀o,h.get? it=aa o->h'.get? it=aa o):Src b h' it l k:=by
 cases b
 .obtain⟨o,ho,r⟩:=x;exact#[o,e o ho,r]
 .obtain⟨o,ho,r⟩:=x;exact#[o,e o ho,r]
def Src.obj(x:Src b h it l k):∃o,h.get? it=aa o/\∀v,o.data≠.cell v:=by
 cases b
 .obtain⟨o,ho,_,d⟩:=x;exact#[o,ho,λv z=>by rw[d]at z;cases z]
 .obtain⟨o,ho,_,d⟩:=x;exact#[o,ho,λv z=>by rw[d]at z;cases z]
def YV.keep(x:YV b h l xs)(e:∀o,h.get? l=aa o->h'.get? l=aa o):YV b h' l xs:=by
 cases b
 .obtain⟨o,ho,r⟩:=x;exact#[o,e o ho,r]
 .obtain⟨o,ho,r⟩:=x;exact#[o,e o ho,r]
def je(hit:s.heap.IsTupleIter it t i)(ht:s.heap.IsTuple t items)(hx:items[i]?=aa x)
  (hQ:∀h',h'.IsTupleIter it t (i+1)->ej it s.heap h'->Q x {s with heap:=h' }):aW (aR prog w) A (eQ<|.ref it) Q E s:=by
 obtain⟨o,ho,hc,hd⟩:=id hit;obtain⟨ol,hol,_,nl,hdl⟩:=ht;refine ae<|cn hit.typeIs eG<|cc eG hit.typeIs km ?_<|i9 _;show aW _ _ (field (.ref it) 0 >>= _) _ _ s;refine ae<|cP ho hd rfl ?_;show aW _ _ (if(cT t == bw)=ak then _ else _) _ _ s
 rw[T8 (by exact aP)];refine ae<|cP ho hd rfl ?_
 refine ae<|eI hol hdl ?_;simp[hx];refine ae<|fA ho hd #[2]<|av #[x,rfl,av<|hQ _ #[_,dy _ ho<|eM<|de hd _,(fW ..).trans hc,?_]<|cH ..]
 rw[de hd];simp[fe]
def GC(hh:A.handled=ai)(hit:s.heap.IsTupleIter it t i)(ht:s.heap.IsTuple t items)(hx:items[i]?=ai)
  (hE:∀h' e,fD it s.heap h'->(∃o,h'.get? e=aa o/\o.cls=.type "StopIteration")->E (.ref e) {s with heap:=h' }):aW (aR prog w) A (eQ<|.ref it) Q E s:=by
 obtain⟨o,ho,hc,hd⟩:=id hit;obtain⟨ol,hol,_,nl,hdl⟩:=ht;refine ae<|cn hit.typeIs eG<|cc eG hit.typeIs km ?_<|i9 _;show aW _ _ (field (.ref it) 0 >>= _) _ _ s;refine ae<|cP ho hd rfl ?_;show aW _ _ (if(cT t == bw)=ak then _ else _) _ _ s
 rw[T8 (by exact aP)];refine ae<|cP ho hd rfl ?_
 refine ae<|eI hol hdl ?_;simp[hx];refine ae<|gp<|ae<|fA ho hd #[2] ?_;show aW _ _ (newExc (.type "StopIteration") [] >>= _) _ _ _
 refine ae <| wpAny_bind (br ?_ (by size_fits))
 refine ae (fE (by first|rfl|(simp only;rfl))<|br ?_ (by size_fits))
 refine ae<|ny ?_;first|rw[hh]|rw[hh]
 exact ae<|av<|pB<|hE _ _ (((cH ..).extBut.push _).push _) #[_,aE _ rfl,rfl]
def VH(hit:Src b s.heap it l k)(hl:YV b s.heap l xs)(hx:xs[k]?=aa x)
  (hQ:∀h',Src b h' it l (k+1)->ej it s.heap h'->Q x {s with heap:=h' }):aW (aR prog w) A (eQ<|.ref it) Q E s:=by
 cases b
 .exact je hit hl hx hQ
 .exact wpAny_nextOf_list_item hit hl hx hQ
def GL(hh:A.handled=ai)(hit:Src b s.heap it l k)(hl:YV b s.heap l xs)(hx:xs[k]?=ai)
  (hE:∀h' e,fD it s.heap h'->(∃o,h'.get? e=aa o/\o.cls=.type "StopIteration")->E (.ref e) {s with heap:=h' }):aW (aR prog w) A (eQ<|.ref it) Q E s:=by
 cases b
 .exact GC hh hit hl hx hE
 .exact wpAny_nextOf_list_end hh hit hl hx hE
noncomputable def YD(b:Bool)(l:aH):fU:={cls:=.type (if b then "list_iterator" else "tuple_iterator"),data:=.fields [.ref l,.int 0 0].toArray}
def VL(hl:YV b s.heap l xs)(h:Q (.ref s.heap.objs.size) {s with heap:=s.heap.push (YD b l)}):aW (aR prog w) A (nG<|.ref l) Q E s:=by
 cases b
 .exact hJ hl h
 .exact eW hl h
structure ZipSt(b1 b2:Bool)(z TI TO i1 i2 l1 l2:aH)(k:Nat)(f0:az)(h:cM):Prop where
 zp:pC h z TI TO f0
 ti:mf h TI (.ref i1) (.ref i2)
 to:∃a b,mf h TO a b
 s1:Src b1 h i1 l1 k
 s2:Src b2 h i2 l2 k
def jG{z TI TO i1 i2 l1 l2:aH}{k:Nat}{x y:az}{Q:az->aF->Prop}(D:mQ z TI TO i1 i2 l1 l2)(Z:ZipSt b1 b2 z TI TO i1 i2 l1 l2 k .none s.heap)(hl1:YV b1 s.heap l1 xs)(hl2:YV b2 s.heap l2 ys)(hx:xs[k]?=aa x)(hy:ys[k]?=aa y)
  (hQ:∀h',ZipSt b1 b2 z TI TO i1 i2 l1 l2 (k+1) (fe s.heap.objs.size) h'->mf h' s.heap.objs.size x y->(∀c o,c∉[z,TO,i1,i2]->s.heap.get? c=aa o->h'.get? c=aa o)->Q (.ref s.heap.objs.size) {s with heap:=h' }) :
  aW (aR prog w) A (dP.«zip.__next__» #[[.ref z],[]]) (λfin s'=>∃v,fin=.done (.ret v)/\Q v s') E s:=by
 obtain⟨hz,hTI,⟨a,b,hTO⟩,h1,h2⟩:=Z;show aW _ _ (field (.ref z) 2 >>= _) _ _ _;refine ae<|cP hz rfl rfl ?_;refine ae<|cP hz rfl rfl<|ae<|eI hTI rfl ?_;refine ae ?_;refine ae<|cP hz rfl rfl<|av ?_;simp only[if_true];refine ae<|gp<|ae<|cP hz rfl rfl<|ae<|eJ hz #[2] λh₁ hz₁ hs₁=>?_
 replace hz₁:pC h₁ z TI TO .ellipsis:=by exact hz₁
 refine ae ?_;refine ae<|ae<|lz ?_;refine ae<|VH (h1.ext hs₁.extBut D.i1z) (hl1.keep λo e=>hs₁.extBut _ o D.l1z e) hx λh₂ h1₂ hs₂=>av ?_
 have hTO₂:mf h₂ TO a b:=by exact hs₂.extBut _ _ D.TOi1<|hs₁.extBut _ _ D.TOz hTO
 refine ae<|eI hTO₂ rfl<|ae<|iX hTO₂ λh₃ hTO₃ hs₃=>?_
 replace hTO₃:mf h₃ TO x b:=by exact hTO₃
 refine ae<|pD<|av<|ae<|ae<|lz ?_;have to3:∀c o,c≠z->c≠TO->c≠i1->s.heap.get? c=aa o->h₃.get? c=aa o:=λc o c1 c2 c3 e=>hs₃.extBut _ _ c2<|hs₂.extBut _ _ c3<|hs₁.extBut _ _ c1 e
 refine ae<|VH (h2.keep λo e=>to3 _ o D.i2z D.TOi2.symm D.i12.symm e) (hl2.keep λo e=>to3 _ o D.l2z D.l2TO D.l2i1 e) hy λh₄ h2₄ hs₄=>av ?_
 have hTO₄:mf h₄ TO x b:=by exact hs₄.extBut _ _ D.TOi2 hTO₃
 refine ae<|eI hTO₄ rfl<|ae<|iX hTO₄ λh₅ hTO₅ hs₅=>?_
 replace hTO₅:mf h₅ TO x y:=by exact hTO₅
 refine ae<|pD<|av<|av<|ae<|eI hTO₅ rfl<|ae<|wpAny_newTuple ?_;have hsz:h₅.objs.size=s.heap.objs.size:=by rw[hs₅.1,hs₄.1,hs₃.1,hs₂.1,hs₁.1]
 have to5:=λc o c1 c2 c3 c4 e=>hs₅.extBut _ _ c2<|hs₄.extBut _ _ c4<|to3 c o c1 c2 c3 e
 have hz₅:pC h₅ z TI TO .ellipsis:=by exact hs₅.extBut _ _ D.TOz.symm<|hs₄.extBut _ _ D.i2z.symm<|hs₃.extBut _ _ D.TOz.symm<|hs₂.extBut _ _ D.i1z.symm hz₁
 have zl:=aD hz₅;refine ae ?_;have hz₆:pC (h₅.push {cls:=.type "tuple",data:=.seq [x,y].toArray}) z TI TO .ellipsis:=by exact aq _ hz₅
 refine ae<|eJ hz₆ #[2] λh₇ hz₇ hs₇=>?_
 replace hz₇:pC h₇ z TI TO (fe h₅.objs.size):=by exact hz₇
 refine eJ hz₇ #[2] λh₈ hz₈ hs₈=>av #[_,rfl,?_]
 replace hz₈:pC h₈ z TI TO (fe h₅.objs.size):=by exact hz₈
 have up:∀c o,c≠z->h₅.get? c=aa o->h₈.get? c=aa o:=λc o c1 e=>by exact hs₈.extBut _ _ c1<|hs₇.extBut _ _ c1<|aq _ e
 have hT₈:mf h₈ h₅.objs.size x y:=by exact hs₈.extBut _ _ (ek zl)<|hs₇.extBut _ _ (ek zl)<|aE _ rfl
 rw[hsz]at hz₈ hT₈ ⊢;refine hQ h₈ #[hz₈,up _ _ D.TIz<|to5 _ _ D.TIz D.TITO D.TIi1 D.TIi2 hTI,#[x,y,up _ _ D.TOz hTO₅],(((h1₂.ext hs₃.extBut D.TOi1.symm).ext hs₄.extBut D.i12).ext hs₅.extBut D.TOi1.symm).keep λo e=>up _ o D.i1z e,(h2₄.ext hs₅.extBut D.TOi2.symm).keep λo e=>up _ o D.i2z e] hT₈ λc o hc e=>?_
 simp only[aw,bq,or_false,not_or]at hc;exact up c o hc.1<|to5 c o hc.1 hc.2.1 hc.2.2.1 hc.2.2.2 e
def QY{b1 b2:Bool}{z TI TO i1 i2 l1 l2:aH}{k:Nat}{xs ys:Array az}{Q:Fin->aF->Prop}(hh:A.handled=ai)(D:mQ z TI TO i1 i2 l1 l2)(Z:ZipSt b1 b2 z TI TO i1 i2 l1 l2 k .none s.heap)(hl1:YV b1 s.heap l1 xs)(hl2:YV b2 s.heap l2 ys)(hend:xs[k]?=ai\/ys[k]?=ai)
  (hE:∀h' e,(∀c o,c∉[z,TO,i1,i2]->s.heap.get? c=aa o->h'.get? c=aa o)->(∃o,h'.get? e=aa o/\o.cls=.type "StopIteration")->E (.ref e) {s with heap:=h' }) :
  aW (aR prog w) A (dP.«zip.__next__» #[[.ref z],[]]) Q E s:=by
 obtain⟨hz,hTI,⟨a,b,hTO⟩,h1,h2⟩:=Z;have hk:∀{c:aH},c∉[z,TO,i1,i2]->c≠z/\c≠TO/\c≠i1/\c≠i2:=λhc=>by
  simp only[aw,bq,or_false,not_or]at hc;exact hc
 show aW _ _ (field (.ref z) 2 >>= _) _ _ _;refine ae<|cP hz rfl rfl ?_;refine ae<|cP hz rfl rfl<|ae<|eI hTI rfl ?_;refine ae ?_;refine ae<|cP hz rfl rfl<|av ?_;simp only[if_true];refine ae<|gp<|ae<|cP hz rfl rfl<|ae<|eJ hz #[2] λh₁ hz₁ hs₁=>?_
 replace hz₁:pC h₁ z TI TO .ellipsis:=by exact hz₁
 refine ae ?_;simp only[o5,List.zipIdx_nil,mr,pW];refine ae<|ae<|lz ?_;have l1₁:=hl1.keep λo e=>hs₁.extBut _ o D.l1z e
 cases hx:xs[k]? with
 |none=>
  refine ae<|GL hh (h1.ext hs₁.extBut D.i1z) l1₁ hx λh₂ e hs₂ he=>?_
  obtain⟨oe,hoe,hce⟩:=he;have hz₂:pC h₂ z TI TO .ellipsis:=by exact hs₂ _ _ D.i1z.symm hz₁
  have hez:e≠z:=λx=>by subst x;rw[hz₂]at hoe;cases hoe;simp at hce
  exact eJ hz₂ #[2] λh₃ _ hs₃=>hE h₃ e (λc o hc x=>hs₃.extBut _ _ (hk hc).1<|hs₂ _ _ (hk hc).2.2.1<|hs₁.extBut _ _ (hk hc).1 x) #[oe,hs₃.extBut _ _ hez hoe,hce]
 |some x=>
  have hy:ys[k]?=ai:=by rcases hend with q|q;rw[hx]at q;cases q;exact q
  refine ae<|VH (h1.ext hs₁.extBut D.i1z) l1₁ hx λh₂ h1₂ hs₂=>av ?_
  have hTO₂:mf h₂ TO a b:=by exact hs₂.extBut _ _ D.TOi1<|hs₁.extBut _ _ D.TOz hTO
  refine ae<|eI hTO₂ rfl<|ae<|iX hTO₂ λh₃ hTO₃ hs₃=>?_
  refine ae<|pD<|av<|ae<|ae<|lz ?_;have to3:∀c o,c≠z->c≠TO->c≠i1->s.heap.get? c=aa o->h₃.get? c=aa o:=λc o c1 c2 c3 e=>hs₃.extBut _ _ c2<|hs₂.extBut _ _ c3<|hs₁.extBut _ _ c1 e
  refine ae<|GL hh (h2.keep λo e=>to3 _ o D.i2z D.TOi2.symm D.i12.symm e) (hl2.keep λo e=>to3 _ o D.l2z D.l2TO D.l2i1 e) hy λh₄ e hs₄ he=>?_
  obtain⟨oe,hoe,hce⟩:=he;have hz₄:pC h₄ z TI TO .ellipsis:=by exact hs₄ _ _ D.i2z.symm<|hs₃.extBut _ _ D.TOz.symm<|hs₂.extBut _ _ D.i1z.symm hz₁
  have hez:e≠z:=λx=>by subst x;rw[hz₄]at hoe;cases hoe;simp at hce
  exact eJ hz₄ #[2] λh₅ _ hs₅=>hE h₅ e (λc o hc x=>hs₅.extBut _ _ (hk hc).1<|hs₄ _ _ (hk hc).2.2.2<|to3 c o (hk hc).1 (hk hc).2.1 (hk hc).2.2.1 x) #[oe,hs₅.extBut _ _ hez hoe,hce]
def wx{b1 b2:Bool}{z TI TO i1 i2 l1 l2:aH}{k:Nat}{x y:az}(D:mQ z TI TO i1 i2 l1 l2)(Z:ZipSt b1 b2 z TI TO i1 i2 l1 l2 k .none s.heap)(hl1:YV b1 s.heap l1 xs)(hl2:YV b2 s.heap l2 ys)(hx:xs[k]?=aa x)(hy:ys[k]?=aa y)
  (hQ:∀h',ZipSt b1 b2 z TI TO i1 i2 l1 l2 (k+1) (fe s.heap.objs.size) h'->mf h' s.heap.objs.size x y->(∀c o,c∉[z,TO,i1,i2]->s.heap.get? c=aa o->h'.get? c=aa o)->Q (aa<|.ref s.heap.objs.size) {s with heap:=h' }) :
  aW (aR prog w) A (l6<|.ref z) Q E s:=by
 have hT:s.TypeIs (.ref z) "zip":=#[_,Z.zp,rfl];exact ae<|gN<|cn hT kc<|cc kc hT o6 (jG D Z hl1 hl2 hx hy λh' a1 a2 a3=>av<|hQ h' a1 a2 a3)<|oD _
def QM{b1 b2:Bool}{z TI TO i1 i2 l1 l2:aH}{k:Nat}{xs ys:Array az}(hh:A.handled=ai)(D:mQ z TI TO i1 i2 l1 l2)(Z:ZipSt b1 b2 z TI TO i1 i2 l1 l2 k .none s.heap)(hl1:YV b1 s.heap l1 xs)(hl2:YV b2 s.heap l2 ys)(hend:xs[k]?=ai\/ys[k]?=ai)
  (hQ:∀h',(∀c o,c∉[z,TO,i1,i2]->s.heap.get? c=aa o->h'.get? c=aa o)->Q ai {s with heap:=h' }):aW (aR prog w) A (l6<|.ref z) Q E s:=by
 have hT:s.TypeIs (.ref z) "zip":=#[_,Z.zp,rfl];refine ae<|gN<|cn hT kc<|cc kc hT o6 (QY hh D Z hl1 hl2 hend λh' e hk he=>?_)<|oD _
 obtain⟨o,ho,hc⟩:=he;exact ae<|eE #[o,ho,hc] mR<|av<|hQ _ hk
def zH1(h:cM)(b1:Bool)(l1:aH):cM:=h.push<|YD b1 l1
def zH2(h:cM)(b1 b2:Bool)(l1 l2:aH):cM:=(zH1 h b1 l1).push<|YD b2 l2
def zH3(h:cM)(b1 b2:Bool)(l1 l2:aH):cM:=(zH2 h b1 b2 l1 l2).push {cls:=.type "tuple",data:=.seq [.ref h.objs.size,.ref (zH1 h b1 l1).objs.size].toArray}
def zH4(h:cM)(b1 b2:Bool)(l1 l2:aH):cM:=(zH3 h b1 b2 l1 l2).push {cls:=.type "tuple",data:=.seq [.none,.none].toArray}
def zH5(h:cM)(b1 b2:Bool)(l1 l2:aH):cM:=(zH4 h b1 b2 l1 l2).push {cls:=.type "zip",data:=.fields [.none,.bool aj,.bool aj,.ref (zH2 h b1 b2 l1 l2).objs.size,.ref (zH3 h b1 b2 l1 l2).objs.size].toArray}
def ZcV(b1 b2)(l1 l2:aH)(xs ys) :
  sh (dP.«zip.__new__» #[[.type "zip",.ref l1,.ref l2],[]]) (λ_ R s=>YV b1 s.heap l1 xs/\YV b2 s.heap l2 ys/\R (.ok<|.ret<|.ref (zH4 s.heap b1 b2 l1 l2).objs.size) {s with heap:=zH5 s.heap b1 b2 l1 l2}):=
 .of_wp λprog w A R s h=>by
  obtain⟨hp,g,d,tk,os⟩:=s;obtain⟨hl1,hl2,h⟩:=h;have hsub:=sub_zip;have hL2:YV b2 (aF.heap #[hp.push<|YD b1 l1,g,d,tk,os]) l2 ys:=hl2.keep λo e=>aq _ e
  wp_walk using VL hl1,VL hL2
  exact#[_,rfl,h]
def Za8{Q:az->aF->Prop}(hl1:YV b1 s.heap l1 xs)(hl2:YV b2 s.heap l2 ys)
  (h:∀h' n,n=s.heap.objs.size->ZipSt b1 b2 (n+4) (n+2) (n+3) n (n+1) l1 l2 0 .none h'->(∀c o,s.heap.get? c=aa o->h'.get? c=aa o)->Q (.ref<|n+4) {s with heap:=h' }) :
  aW (aR prog w) A (call (.type "zip") [.ref l1,.ref l2]) Q E s:=by
 refine callType_new F.called_zip #[1] (F.typeCall_zip_2 _ _) (F.newCall_zip_2 _ _) (λobj=>F.args_object_init_3 obj _ _) F.entry_zip_new (ZcV b1 b2 l1 l2 xs ys) #[hl1,hl2,?_]
 have z1:(zH1 s.heap b1 l1).objs.size=s.heap.objs.size+1:=cL ..;have z2:(zH2 s.heap b1 b2 l1 l2).objs.size=s.heap.objs.size+2:=by unfold zH2;rw[cL,z1]
 have z3:(zH3 s.heap b1 b2 l1 l2).objs.size=s.heap.objs.size+3:=by unfold zH3;rw[cL,z2]
 have z4:(zH4 s.heap b1 b2 l1 l2).objs.size=s.heap.objs.size+4:=by unfold zH4;rw[cL,z3]
 have g5:(zH5 s.heap b1 b2 l1 l2).get? (zH4 s.heap b1 b2 l1 l2).objs.size=aa {cls:=.type "zip",data:=.fields [.none,.bool aj,.bool aj,.ref (zH2 s.heap b1 b2 l1 l2).objs.size,.ref (zH3 s.heap b1 b2 l1 l2).objs.size].toArray}:=aE _ rfl;have k4:∀c o,(zH4 s.heap b1 b2 l1 l2).get? c=aa o->(zH5 s.heap b1 b2 l1 l2).get? c=aa o:=λc o e=>aq _ e
 have k3:=λc o e=>k4 c o<|aq _ e
 have k2:=λc o e=>k3 c o<|aq _ e
 have k1:=λc o e=>k2 c o<|aq _ e
 have g4:=k4 _ _<|aE (zH3 s.heap b1 b2 l1 l2) rfl;have g3:=k3 _ _<|aE (zH2 s.heap b1 b2 l1 l2) rfl;have g2:=k2 _ _<|aE (zH1 s.heap b1 l1) rfl;have g1:=k1 _ _<|aE s.heap rfl;rw[z2,z3,z4]at g5;rw[z1,z2]at g3;rw[z3]at g4;rw[z1]at g2;rw[z4];have src:∀b l it,(zH5 s.heap b1 b2 l1 l2).get? it=aa (YD b l)->Src b (zH5 s.heap b1 b2 l1 l2) it l 0:=λb l it e=>by
  cases b
  .exact#[_,e,rfl,rfl]
  .exact#[_,e,rfl,rfl]
 exact#[#[_,g5,rfl],h _ _ rfl #[g5,g3,#[_,_,g4],src b1 l1 _ g1,src b2 l2 _ g2] λc o e=>k1 c o<|aq _ e]
open Ev (E Sm Fn Bop Cop Ty Bf Mf)
def WD{X:Cx}{H:Hp}{ch:List aH}(I:Inv X pq O H s)(k:∀b o,b∉ch->s.heap.get? b=aa o->h'.get? b=aa o)(hf:∀b∈ch,V2 X pq H b):Inv X pq O H {s with heap:=h',toks:=t' }:=by
 have nit:∀b u,H b=aa u->b∉ch:=λb u e z=>by have:=(hf b z).1;rw[e]at this;cases this
 refine I.step (λb hb=>?_) (λb o _ _ hc e _=>k b o hc e) (λb o _ _ hc e _=>#[o.slots,k b o hc e]) (λ_ _ _ _ n=>n) (λb o hc e=>#[o,k b o hc e]) (λ_ _ e=>e) (λ_ _ _ e=>e) (λb ps e=>#[#[],by rw[e];simp]) (λm hm=>?_) (λb u e=>?_) I.bare
 .exact#[(hf b hb).2.2.2.1,(hf b hb).2.1,(hf b hb).2.2.2.2.1,(hf b hb).2.2.2.2.2]
 .obtain⟨o,es,ep,ho,r⟩:=hm
  exact#[o,es,ep,k _ o (λz=>(hf _ z).2.1 rfl) ho,r]
 .refine(I.hok b u e).stay (λc v hc q=>k c v ?_ q) (λ_ q=>q) λ_ _ q=>q
  rcases hc with z|z
  .rw[z];exact nit b u e
  .exact nit c _ z
def JB{h:cM}(e:(h.push o').get? b=aa o)(n:b≠h.objs.size):h.get? b=aa o:=by
 unfold cM.get? cM.push at *;simp[Array.getElem?_push]at e;rwa[T8 n]at e
def Wu{a b:Nat}(h:a<b\/b<a):(a:aH)≠b:=λe=>by
 omega
def Sq(b:Bool)(K:ao)(H:Hp)(l:aH)(xs:List V):Prop:=match b with
 |true=>SqL K H l xs
 |false=>SqT K H l xs
def Xb(I:Inv X pq O H s)(h:Sq b X.K H l xs):∃its,Vals xs its/\YV b s.heap l its.toArray:=by
 cases b
 .obtain⟨its,r,p,_⟩:=I.tuple h;exact#[its,r,p]
 .obtain⟨its,r,p,_⟩:=I.list h;exact#[its,r,p.isList]
def wq(I:Inv X pq O H s)(h:Sq b X.K H l xs)(h':Sq b X.K H l ys):xs=ys:=by
 cases b
 .exact I.tuple_inj h h'
 .exact I.list_inj h h'
def Vw(x:YV b h l xs):l<h.objs.size:=by
 cases b
 .obtain⟨o,ho,_⟩:=x;exact aD ho
 .obtain⟨o,ho,_⟩:=x;exact aD ho
def Itz(K:ao)(b1 b2:Bool)(l1 l2:aH):It:=
 #[λi H=>∃xs ys x y,Sq b1 K H l1 xs/\Sq b2 K H l2 ys/\xs[i]?=aa x/\ys[i]?=aa y,
  λi H v H'=>∃T x y,(∀xs,Sq b1 K H l1 xs->xs[i]?=aa x)/\(∀ys,Sq b2 K H l2 ys->ys[i]?=aa y)/\H T=ai/\H'=upd H T (.tup [x,y])/\v=.ref T,
  λi H=>∃xs ys,Sq b1 K H l1 xs/\Sq b2 K H l2 ys/\(xs.length<=i\/ys.length<=i)]
def jj{w:bV}{K:ao}{elts:List Expr}{kk:Nat}{tp:iE}{z TI TO i1 i2 l1 l2:aH}(D:mQ z TI TO i1 i2 l1 l2) :
  Turn P w K (.Tuple elts kk tp) (Itz K b1 b2 l1 l2) [z,TI,TO,i1,i2] z (λi h=>ZipSt b1 b2 z TI TO i1 i2 l1 l2 i .none h) where
 mem:=by simp
 obj:=λi h st b hb=>by
  simp only[aw,bq,or_false]at hb;obtain⟨a,c,hTO⟩:=st.to;rcases hb with e|e|e|e|e<;>subst e
  .exact#[_,st.zp,λv q=>by cases q]
  .exact#[_,st.ti,λv q=>by cases q]
  .exact#[_,hTO,λv q=>by cases q]
  .exact st.s1.obj
  .exact st.s2.obj
 keep:=λi h h' st k=>by
  obtain⟨a,c,hTO⟩:=st.to;exact#[k z #[2] _ st.zp,k TI #[2] _ st.ti,#[a,c,k TO #[2] _ hTO],st.s1.keep λo e=>k i1 #[2] o e,st.s2.keep λo e=>k i2 #[2] o e]
 item:=by
  intro X hP hw hK hc i pq s O H E I hf st hg;subst hP hw hK;obtain⟨xs,ys,x,y,hq1,hq2,hx,hy⟩:=hg;obtain⟨its,rv,o1⟩:=Xb I hq1;obtain⟨its2,rv2,o2⟩:=Xb I hq2;obtain⟨u,hu,ru⟩:=rv.get hx;obtain⟨u2,hu2,ru2⟩:=rv2.get hy;refine wx D st o1 o2 (by simpa using hu) (by simpa using hu2) λh' Z' hT hk=>?_
  have ltz:∀b∈[z,TI,TO,i1,i2],b≠s.heap.objs.size:=λb hb e=>by
   simp only[aw,bq,or_false]at hb;obtain⟨a,c,hTO⟩:=st.to;rcases hb with q|q|q|q|q<;>subst q
   .exact T7 (aD st.zp) (by rw[e];exact bv _)
   .exact T7 (aD st.ti) (by rw[e];exact bv _)
   .exact T7 (aD hTO) (by rw[e];exact bv _)
   .obtain⟨o,ho,_⟩:=st.s1.obj;exact T7 (aD ho) (by rw[e];exact bv _)
   .obtain⟨o,ho,_⟩:=st.s2.obj;exact T7 (aD ho) (by rw[e];exact bv _)
  have IA:Inv X pq O (upd H s.heap.objs.size<|.tup [x,y]) {s with heap:=s.heap.push {cls:=.type "tuple",data:=.seq [u,u2].toArray},toks:=s.toks}:=
   I.laid (λb o e=>aq _ e) (aI _) #[by show 2<=a9;decide,[u,u2],.cons ru<|.cons ru2 .nil,kn _ _]
  have hf2:∀b∈[z,TI,TO,i1,i2],V2 X pq (upd H s.heap.objs.size<|.tup [x,y]) b:=λb hb=>#[by rw[Zj<|ltz b hb];exact(hf b hb).1,(hf b hb).2]
  have IB:Inv X pq O (upd H s.heap.objs.size<|.tup [x,y]) {s with heap:=h',toks:=s.toks}:=by
   refine WD (s:={s with heap:=s.heap.push {cls:=.type "tuple",data:=.seq [u,u2].toArray},toks:=s.toks}) (ch:=[z,TO,i1,i2]) IA (λb o hb e=>?_) λb hb=>hf2 b (by simp only[aw,bq,or_false]at hb ⊢;rcases hb with q|q|q|q<;>simp[q])
   by_cases hbs:b=s.heap.objs.size
   .subst hbs
    have e':=e;rw[aE _ rfl]at e';cases e';exact hT
   .refine hk b o hb ?_
    have e':=e;have hlt:=aD e';rw[cL]at hlt;exact JB e' hbs
  refine#[.ref s.heap.objs.size,rfl,wpAny_letOwnedTupleGo_zip Z'.zp λh2 hz2 hs2=>?_]
  have IC:Inv X pq O (upd H s.heap.objs.size<|.tup [x,y]) {s with heap:=h2,toks:=s.toks}:=WD (s:={s with heap:=h',toks:=s.toks}) (ch:=[z]) IB (λb o hb e=>(hs2.2 b<|by simpa using hb).trans e) λb hb=>hf2 b (by simp only[aZ]at hb;simp[hb])
  obtain⟨a,c,hTO⟩:=Z'.to;refine#[.ref s.heap.objs.size,_,IC,rfl,#[_,x,y,λzs hz=>by rw[wq I hz hq1];exact hx,λzs hz=>by rw[wq I hz hq2];exact hy,(I.hok.fresh<|aI _),rfl,rfl],?_,λb hb=>(hf2 b hb).1]
  exact#[hz2,hs2.extBut _ _ D.TIz Z'.ti,#[a,c,hs2.extBut _ _ D.TOz hTO],Z'.s1.ext hs2.extBut D.i1z,Z'.s2.ext hs2.extBut D.i2z]
 done:=by
  intro X hP hw hK hc i pq s O H E I hf st hg;subst hP hw hK;obtain⟨xs,ys,hq1,hq2,hend⟩:=hg;obtain⟨its,rv,o1⟩:=Xb I hq1;obtain⟨its2,rv2,o2⟩:=Xb I hq2;have e1:=rv.length;have e2:=rv2.length;refine QM (I.ok.hd hc) D st o1 o2 (by rcases hend with q|q;exact .inl (by simp;omega);exact .inr<|by simp;omega) λh' hk=>#[rfl,WD I (λb o hb e=>hk b o hb e) λb hb=>hf b (by simp only[aw,bq,or_false]at hb ⊢;rcases hb with q|q|q|q<;>simp[q])]
 self:=λ_ _ _ _ _ st h=>wpAny_pyIter_zip st.zp h
def ZhU(K:ao)(ta:TA):TI:=λO H R=>ta O H λvs H1=>∃b1 b2 l1 l2,vs=[.ref l1,.ref l2]/\(∃xs,Sq b1 K H1 l1 xs)/\(∃ys,Sq b2 K H1 l2 ys)/\R (Itz K b1 b2 l1 l2) H1
def Zf4{ta:TA}(hg:Gl X "zip")(hm:X.mg "zip" = ai)(ha:PA X [a,b] ta)(hs:ay [a,b] X.env=[(aj,cz a X.env),(aj,cz b X.env)]:=by rfl)(hs2:ay [b] X.env=[(aj,cz b X.env)]:=by rfl) :
  PI X (.Tuple elts kk tp) (.Call (.Name "zip" p) [a,b] [] pos) (ZhU X.K ta):=by
 intro pq s O H R I h;refine Call_<|Xp I hg hm #[7]<|cY (thn (ha pos pq s O H _ I h) λus s1 #[vs,H1,I1,r1,q1]=>?_) (by rw[hs,hs2]) (by rw[hs2];rfl)
 obtain⟨b1,b2,l1,l2,e,⟨xs,hq1⟩,⟨ys,hq2⟩,q⟩:=q1;subst e;cases r1 with
 |cons r rr=>
  cases rr with
  |cons r' rr=>
   cases rr;cases r;cases r';obtain⟨its,rv,o1⟩:=Xb I1 hq1;obtain⟨its2,rv2,o2⟩:=Xb I1 hq2;refine Za8 o1 o2 λh' n hn Z hk=>?_
   have q1:(l1:Nat)<n:=by rw[hn];exact(Vw o1)
   have q2:(l2:Nat)<n:=by rw[hn];exact(Vw o2)
   have D:mQ (n+4) (n+2) (n+3) n (n+1) l1 l2:=by constructor<;>first|exact Wu #[3]|exact Wu<|.inl<|bi q1<|dG n _|exact Wu<|.inl<|bi q2<|dG n _|exact Wu<|.inl q1|exact Wu<|.inl q2
   refine wpAny_pyIter_zip Z.zp #[n+4,[n+4,n+2,n+3,n,n+1],_,_,H1,rfl,(I1.kept hk),jj D,Z,λb hb=>?_,q]
   have hbn:s1.heap.objs.size<=b:=by
    rw[<-hn];simp only[aw,bq,or_false]at hb;rcases hb with e|e|e|e|e<;>rw[e]
    .exact dG n 4
    .exact dG n 2
    .exact dG n 3
    .exact aI n
    .exact dG n 1
   exact I1.fpOk hbn<|I1.hok.fresh hbn
def Side(K:ao)(Z:Mx)(H:Hp)(wk:List D)(b:Bool)(l:aH):Prop:=∀ρ' H',Lat Z H ρ' H'->∃vs,Sq b K H' l vs/\Rq ρ' H' wk vs
def J4{K:ao}(hk:Z.K=K)(r:Rep Z H x v)(h:Pv.YA x=aa wk):∃b l,v=.ref l/\(∃xs,Sq b K H l xs)/\Side K Z H wk b l:=by
 cases x with
 |tup ds=>
  obtain⟨a,xs,rfl,hp,rs⟩:=r.tup';cases h;exact#[aj,a,rfl,#[xs,SqT.of hp],λρ' H' f=>#[xs,SqT.of (f.keep a _ hp λ_ z=>by cases z),rs.lat f]]
 |lst ds=>
  obtain⟨a,xs,rfl,hp,hx,rs⟩:=r.lst';cases h;exact#[ak,a,rfl,#[xs,SqL.of hp],λρ' H' f=>#[xs,SqL.of<|f.keep a _ hp λ_ _=>hx,rs.lat f]]
 |scr ns=>
  obtain⟨a,rfl,hp⟩:=r.scr';cases h;rw[hk]at hp;refine#[ak,a,rfl,#[_,hp.sq],λρ' H' f=>#[_,?_,Rq.ints ns]]
  rcases hp with⟨o,hp⟩|hp
  .exact .inl<|.inr #[o,f.keep a _ hp λ_ z=>by cases z]
  .exact .inr hp
 |_=>exact Ev.nos h
def ZbJ{K:ao}{H:Hp}(h1:Side K Z H v b1 l1)(h2:Side K Z H w b2 l2):WRel K Z H ((v.zip w).map λp=>.tup [p.1,p.2]) (Itz K b1 b2 l1 l2) where
 go:=λi ρ' S' H' f st hi=>by
  obtain⟨xs,q1,r1⟩:=h1 ρ' H' f;obtain⟨ys,q2,r2⟩:=h2 ρ' H' f;have hi':i<si v.length w.length:=by simpa using hi
  have ha:=(nS.mp hi').1;have hb:=(nS.mp hi').2;obtain⟨x,g1,rx⟩:=r1.get<|af ha;obtain⟨y,g2,ry⟩:=r2.get<|af hb;refine#[#[xs,ys,x,y,q1,q2,g1,g2],λu H'' #[T,x',y',e1,e2,hT,eH,eu]=>?_]
  subst eH eu;cases((e1 xs q1).symm.trans g1);cases((e2 ys q2).symm.trans g2);refine#[Zs hT,st.fresh hT,λd hd=>?_]
  have hz:(v.zip w)[i]?=aa (v[i],w[i]):=gF.mpr #[af ha,af hb];rw[aK,hz]at hd;cases hd;exact Xe Zl<|Rq.cons (rx.mono<|Zs hT)<|Rq.cons (ry.mono<|Zs hT) Rq.nil
 stop:=λρ' S' H' f st=>by
  obtain⟨xs,q1,r1⟩:=h1 ρ' H' f;obtain⟨ys,q2,r2⟩:=h2 ρ' H' f;refine#[xs,ys,q1,q2,?_];show xs.length<=((v.zip w).map λp=>Pv.V.tup [p.1,p.2]).length\/_
  rw[r1.length,r2.length,ax,gW];omega
section
variable{X:Cx}{xw:Nat->Hp->Prop}{C:Calls}{a b:Expr}{i j:E}{pos p tp:iE}{elts:List Expr}{kk:Nat}
def ZgK(hm:X.mg "zip" = ai)(ha:CA X xw C [a,b] [i,j])(hg:Gl X "zip")(hs:ay [a,b] X.env=[(aj,cz a X.env),(aj,cz b X.env)])(hs2:ay [b] X.env=[(aj,cz b X.env)]) :
  CW X xw C (.Tuple elts kk tp) (.Call (.Name "zip" p) [a,b] [] pos) (.zip i j):=.mk <|
 PI.imp (Zf4 hg hm ha.h hs hs2) λO H Q #[Z,l,S,st,lr,h]=>Zei st lr h λx y S1 ρ1 H1 v u st1 rv ru h1=>by
  cases e1:Pv.YA x with
  |none=>rw[e1]at h1;exact False.elim h1
  |some v1=>
   cases e2:Pv.YA y with
   |none=>rw[e1,e2]at h1;exact False.elim h1
   |some v2=>
    rw[e1,e2]at h1;obtain⟨b1,l1,rfl,s1,d1⟩:=J4 st1.hk rv e1;obtain⟨b2,l2,rfl,s2,d2⟩:=J4 st1.hk ru e2;exact#[b1,b2,l1,l2,rfl,s1,s2,End.ok h1 st1<|ZbJ d1 d2]
end
def JO(hh:A.handled=ai)(b it l)(hne:l≠it)(xs) :
  Draws prog w A it [it,l] xs.size (λi v=>xs[i]?=aa v) (λi h=>Src b h it l i/\YV b h l xs) where
 live:=λ_ _ st=>let #[o,ho,_]:=st.1.obj;#[o,ho]
 frame:=λ_ _ _ st hk=>#[st.1.keep λo e=>hk it #[2] o e,st.2.keep λo e=>hk l #[2] o e]
 item:=λi s Q E hi st hQ=>VH st.1 st.2 (bn hi) λh' hit' hs'=>hQ _ h' s.toks (bn hi) #[hit',st.2.keep λo e=>hs'.extBut _ o hne e] hs'
 done:=λs Q E st hE=>GL hh st.1 st.2 (iw<|aI _) hE
def Ite(K:ao)(b:Bool)(l:aH):It:=
 #[λi H=>∃xs x,Sq b K H l xs/\xs[i]?=aa x,
  λi H v H'=>∃T x,(∀xs,Sq b K H l xs->xs[i]?=aa x)/\H T=ai/\H'=upd H T (.tup [.int i,x])/\v=.ref T,
  λi H=>∃xs,Sq b K H l xs/\xs.length=i]
def qJ{P:bO}{w:bV}{K:ao}{elts:List Expr}{kk:Nat}{tp:iE}{b:Bool}{e it l:aH}(hei:e≠it)(hle:l≠e)(hli:l≠it) :
  Turn P w K (.Tuple elts kk tp) (Ite K b l) [e,it] e (λi h=>(∃old,IsEnum h e it i old)/\Src b h it l i) where
 mem:=by simp
 obj:=λi h st c hc=>by
  simp only[aw,bq,or_false]at hc;obtain⟨⟨old,he⟩,hs⟩:=st;rcases hc with q|q<;>subst q
  .exact#[_,he,λv q=>by cases q]
  .exact hs.obj
 keep:=λi h h' st k=>by
  obtain⟨⟨old,he⟩,hs⟩:=st;exact#[#[old,k e #[2] _ he],hs.keep λo q=>k it #[2] o q]
 item:=by
  intro X hP hw hK hc i pq s O H E I hf st hg;subst hP hw hK;obtain⟨xs,x,hq,hx⟩:=hg;obtain⟨its,rv,o1⟩:=Xb I hq;obtain⟨⟨old,he⟩,hs⟩:=st;obtain⟨u,hu,ru⟩:=rv.get hx;have hlt:i<its.toArray.size:=by
   have:=(aG.mp hu).1
   simpa using this
  have hh:X.A.in1.handled=ai:=I.ok.hd hc;refine wpAny_pyNext_enum_itemD (JO hh b it l hli its.toArray) he #[hs,o1] hlt hei (by simp only[aw,bq,or_false,not_or];exact#[hei,Ne.symm hle]) λx' h' tk hP ho hst hT hsz hk=>?_
  have ex:x'=u:=by
   have:its.toArray[i]?=aa u:=by simpa using hu
   rw[this]at hP;exact(ap hP).symm
  subst ex;have hfree:=I.hok.fresh<|aI _;have ltz:∀c∈[e,it],c≠s.heap.objs.size:=λc hc q=>by
   simp only[aw,bq,or_false]at hc;rcases hc with z|z<;>subst z
   .exact T7 (aD he) (by rw[q];exact bv _)
   .obtain⟨o,ho,_⟩:=hs.obj;exact T7 (aD ho) (by rw[q];exact bv _)
  have IA:Inv X pq O (upd H s.heap.objs.size<|.tup [.int i,x]) {s with heap:=s.heap.push {cls:=.type "tuple",data:=.seq [.int i tk,x'].toArray},toks:=tk+1}:=
   I.laid (λc o q=>aq _ q) (aI _) #[by show 2<=a9;decide,[.int i tk,x'],.cons #[tk,rfl]<|.cons ru .nil,kn _ _]
  have hf2:∀c∈[e,it],V2 X pq (upd H s.heap.objs.size<|.tup [.int i,x]) c:=λc hc=>#[by rw[Zj<|ltz c hc];exact(hf c hc).1,(hf c hc).2]
  have IB:Inv X pq O (upd H s.heap.objs.size<|.tup [.int i,x]) {s with heap:=h',toks:=tk+1}:=by
   refine WD (s:={s with heap:=s.heap.push {cls:=.type "tuple",data:=.seq [.int i tk,x'].toArray},toks:=tk+1}) IA (λc o hc q=>?_) hf2
   by_cases hcs:c=s.heap.objs.size
   .subst hcs
    have q':=q;rw[aE _ rfl]at q';cases q';exact hT
   .simp only[aw,bq,or_false,not_or]at hc
    exact hk c o hc.1 hc.2<|JB q hcs
  refine#[.ref s.heap.objs.size,rfl,wpAny_letOwnedTupleGo_enum ho λh2 he2 hs2=>?_]
  have IC:Inv X pq O (upd H s.heap.objs.size<|.tup [.int i,x]) {s with heap:=h2,toks:=tk+1}:=WD (s:={s with heap:=h',toks:=tk+1}) (ch:=[e]) IB (λc o hc q=>(hs2.2 c<|by simpa using hc).trans q) λc hc=>hf2 c (by simp only[aZ]at hc;simp[hc])
  refine#[.ref s.heap.objs.size,_,IC,rfl,#[_,x,λzs hz=>by rw[wq I hz hq];exact hx,hfree,rfl,rfl],#[#[x',by simpa using he2],hst.1.ext hs2.extBut<|Ne.symm hei],λc hc=>(hf2 c hc).1]
 done:=by
  intro X hP hw hK hc i pq s O H E I hf st hg;subst hP hw hK;obtain⟨xs,hq,hend⟩:=hg;obtain⟨its,rv,o1⟩:=Xb I hq;obtain⟨⟨old,he⟩,hs⟩:=st;have e1:=rv.length;have hh:X.A.in1.handled=ai:=I.ok.hd hc;have en:i=its.toArray.size:=by simp;lia
  subst en;exact wpAny_pyNext_enum_endD (JO hh b it l hli its.toArray) he #[hs,o1] λh' hx=>#[rfl,WD (t':=s.toks) I (λc o hc q=>hx c o (λz=>hc<|by simp[z]) q) hf]
 self:=λ_ _ _ _ _ st h=>by
  obtain⟨⟨old,he⟩,_⟩:=st;exact oE he h
section
variable{prog:bO}{w:bV}{A:cw}{E:az->aF->Prop}{s:aF}
def Zb0(l:aH)(items)(n:Nat)(dct sl) :
  sh (dP.«enumerate.__new__» #[[.type "enumerate",.ref l],[]]) (λ_ R s=>s.heap.get? l=aa {cls:=.type "tuple",dict:=dct,data:=.seq items n,slots:=sl}/\
   R (.ok<|.ret<|.ref (s.heap.push<|YD aj l).objs.size) {s with heap:=(s.heap.push<|YD aj l).push {cls:=.type "enumerate",data:=.fields [.none,.bool aj,.ref s.heap.objs.size,fe 0,.none,.none].toArray}}):=
 .of_wp λprog w A R s h=>by
  obtain⟨hp,g,d,tk,os⟩:=s;obtain⟨hl,h⟩:=h;have hsub:=sub_enumerate;have hL:cM.IsTuple (aF.heap #[hp,g,d,tk,os]) l items:=#[_,hl,rfl,n,rfl]
  wp_walk using gO hl;refine wpAny_stack_any λst=>av ?_;split
  .rename_i c _ _ _ _ _;cases(c == nD "enumerate")<;>(wp_walk using gO hl,hJ hL;exact#[_,rfl,h])
  .wp_walk using gO hl,hJ hL;exact#[_,rfl,h]
def qM(hL:YV b s.heap l xs)
  (h:∀h' n,n=s.heap.objs.size->IsEnum h' (n+1) n 0 .none->Src b h' n l 0->(∀c o,s.heap.get? c=aa o->h'.get? c=aa o)->Q (.ref<|n+1) {s with heap:=h' }):aW (aR prog w) A (call (.type "enumerate") [.ref l]) Q E s:=by
 cases b with
 |true=>exact call_enumerate_list hL λh' a1 a2 _ a4=>h h' _ rfl a1 a2 a4
 |false=>
  obtain⟨⟨c,dct,dt,sl⟩,hl,hc,n,hd⟩:=hL;simp only at hc hd;subst hc hd;refine callType_new F.called_enumerate #[1] (F.typeCall_enumerate_1 _) (F.newCall_enumerate_1 _) (λobj=>F.args_object_init_2 obj _) F.entry_enumerate_new (Zb0 l xs n dct sl) #[hl,?_]
  have hz:(s.heap.push<|YD aj l).objs.size=s.heap.objs.size+1:=cL ..;have g2:=aE (s.heap.push<|YD aj l) (o:={cls:=.type "enumerate",data:=.fields [.none,.bool aj,.ref s.heap.objs.size,fe 0,.none,.none].toArray}) rfl;have g1:((s.heap.push<|YD aj l).push {cls:=.type "enumerate",data:=.fields [.none,.bool aj,.ref s.heap.objs.size,fe 0,.none,.none].toArray}).get? s.heap.objs.size=aa (YD aj l):=aq _<|aE _ rfl;rw[hz]at g2 ⊢;exact#[#[_,g2,rfl],h _ _ rfl g2 #[_,g1,rfl,rfl] λc o q=>aq _<|aq _ q]
end
def Zhi(K:ao)(ta:TA):TI:=λO H R=>ta O H λvs H1=>∃b l,vs=[.ref l]/\(∃xs,Sq b K H1 l xs)/\R (Ite K b l) H1
def ZdY{a:Expr}{ta:TA}{p pos:iE}(hg:Gl X "enumerate")(hm:X.mg "enumerate" = ai)(ha:PA X [a] ta)(hs:ay [a] X.env=[(aj,cz a X.env)]:=by rfl):PI X (.Tuple elts kk tp) (.Call (.Name "enumerate" p) [a] [] pos) (Zhi X.K ta):=by
 intro pq s O H R I h;refine Call_<|Xp I hg hm #[7]<|cY (thn (ha pos pq s O H _ I h) λus s1 #[vs,H1,I1,r1,q1]=>?_) hs rfl
 obtain⟨b,l,e,⟨xs,hq⟩,q⟩:=q1;subst e;cases r1 with
 |cons r rr=>
  cases rr;cases r;obtain⟨its,rv,o1⟩:=Xb I1 hq;refine qM o1 λh' n hn he hs' hk=>?_
  have I2:=I1.kept (t':=s1.toks) hk
  have q1:(l:Nat)<n:=by rw[hn];exact(Vw o1)
  refine oE he #[n+1,[n+1,n],_,_,H1,rfl,I2,qJ (Wu<|.inr<|fz n) (Wu<|.inl<|cB q1)<|Wu<|.inl q1,#[#[_,he],hs'],λc hc=>?_,q]
  have hbn:s1.heap.objs.size<=c:=by
   rw[<-hn];simp only[aw,bq,or_false]at hc;rcases hc with e|e<;>rw[e]
   .exact lh n
   .exact aI n
  exact I1.fpOk hbn<|I1.hok.fresh hbn
def ZaO{lo:Int}(h:i<n):(Pv.Yc lo n)[i]?=aa (.int<|lo+i):=by
 unfold Pv.Yc;rw[aK,cX h];rfl
def qj{K:ao}{Z:Mx}{H:Hp}{b:Bool}{l:aH}(h1:Side K Z H w b l):WRel K Z H (((Pv.Yc 0 w.length).zip w).map λp=>.tup [p.1,p.2]) (Ite K b l) where
 go:=λi ρ' S' H' f st hi=>by
  obtain⟨xs,q1,r1⟩:=h1 ρ' H' f;have hi':i<w.length:=by
   rw[ax,gW,Js]at hi;lia
  obtain⟨x,g1,rx⟩:=r1.get<|af hi';refine#[#[xs,x,q1,g1],λu H'' #[T,x',e1,hT,eH,eu]=>?_]
  subst eH eu;cases((e1 xs q1).symm.trans g1);refine#[Zs hT,st.fresh hT,λd hd=>?_]
  have hz:((Pv.Yc 0 w.length).zip w)[i]?=aa (.int<|0+i,w[i]):=gF.mpr #[ZaO hi',af hi'];rw[aK,hz]at hd;cases hd;refine Xe Zl<|Rq.cons ?_<|Rq.cons (rx.mono<|Zs hT) Rq.nil;rw[show((0:Int)+i)=i by lia]
  exact ZQ _
 stop:=λρ' S' H' f st=>by
  obtain⟨xs,q1,r1⟩:=h1 ρ' H' f;refine#[xs,q1,?_];show xs.length=(((Pv.Yc 0 w.length).zip w).map λp=>Pv.V.tup [p.1,p.2]).length
  rw[ax,gW,Js,r1.length];lia
section
variable{X:Cx}{xw:Nat->Hp->Prop}{C:Calls}{a b:Expr}{i j:E}{pos p tp:iE}{elts:List Expr}{kk:Nat}
def ZcC(hm:X.mg "enumerate" = ai)(ha:CA X xw C [a] [i])(hg:Gl X "enumerate")(hs:ay [a] X.env=[(aj,cz a X.env)]) :
  CW X xw C (.Tuple elts kk tp) (.Call (.Name "enumerate" p) [a] [] pos) (.enum i):=.mk <|
 PI.imp (ZdY hg hm ha.h hs) λO H Q #[Z,l,S,st,lr,h]=>Zep st lr h λx S1 ρ1 H1 v st1 r h1=>by
  cases e1:Pv.YA x with
  |none=>rw[e1]at h1;exact False.elim h1
  |some wk=>
   rw[e1]at h1;obtain⟨b1,l1,rfl,s1,d1⟩:=J4 st1.hk r e1;exact#[b1,l1,rfl,s1,End.ok h1 st1<|qj d1]
end
def V1(hh:A.handled=ai)(b it l)(hne:l≠it)(xs) :
  Walks prog w A it [it,l] [it] xs.size (λi v=>xs[i]?=aa v) (λi h=>Src b h it l i/\YV b h l xs):=by
 cases b
 .exact Walks.tuple hh it l hne xs
 .exact pV hh it l hne xs
def GG{h:cM}:Src b (h.push<|YD b l) h.objs.size l 0:=by
 cases b
 .exact#[_,aE _ rfl,rfl,rfl]
 .exact#[_,aE _ rfl,rfl,rfl]
def Zg4{K:ao}(h:SqL K H p xs\/SqT K H p xs):∃b,Sq b K H p xs:=by
 rcases h with h|h
 .exact#[ak,h]
 .exact#[aj,h]
def uG(hc:X.calm=ak):ZH X (.builtin "any") (λvs H Q=>∃Z ds x v bs,Z.K=X.K/\vs=[v]/\Rep Z H x v/\Pv.YA x=aa ds/\Pv.ZY ds=aa bs/\Q (.bl<|bs.any id) H):=by
 intro pq s O H vs us Q I r h;obtain⟨Z,ds,x,v,bs,hk,rfl,r1,hl,hb,q⟩:=h;obtain⟨l,xs,rfl,hsq,rx⟩:=r1.seq hl;rw[hk]at hsq;obtain⟨kb,hq⟩:=Zg4 hsq;obtain⟨u,rfl,ru⟩:=XZ r;cases ru;obtain⟨its,rv,o1⟩:=Xb I hq;obtain⟨lb,tb⟩:=WV hb;have hlen:its.toArray.size=bs.length:=by rw[aC,<-rv.length,rx.length,lb]
 refine call_any_walk<|VL o1 #[s.heap.objs.size,[s.heap.objs.size,l],[s.heap.objs.size],its.toArray.size,_,_,λj=>bs.getD j aj,rfl,V1 (A:=X.A.in1) (I.ok.hd hc) kb s.heap.objs.size l (a8<|Vw o1) its.toArray,#[GG,o1.keep λo q=>aq _ q],?_,?_]
 .intro j v s' Q' E' hv hQ'
  have hj:its[j]?=aa v:=by simpa using hv
  have jl:j<ds.length:=by
   have:=(aG.mp hj).1;rwa[<-rv.length,rx.length]at this
  obtain⟨w',g,r'⟩:=rx.get<|af jl;obtain⟨u',g',ru'⟩:=rv.get g;rw[hj]at g';cases g';exact Vu r' ru' (tb j _<|af jl) s' Q' E' hQ'
 .intro h' tk hk
  rw[hlen,qo];exact#[.bl<|bs.any id,H,I.kept λb o e=>hk b o (λhm=>by
   have:b=s.heap.objs.size:=by simpa using hm
   exact T7 (this▸aD e)<|bv _)<|aq _ e,rfl,q]
def v8(hc:X.calm=ak):ZH X (.builtin "any") (UE X.K xw .any):=ZH.imp (uG hc)<|by
 rintro vs H Q ⟨Z,S,ds,st,r,h⟩;obtain⟨d,v,z,rfl,r1,hz,h⟩:=Ws h r;obtain⟨xs,hx,hz⟩:=cp.mp hz;obtain⟨bs,hb,rfl⟩:=bH.mp hz;exact#[Z,xs,d,v,bs,st.hk,rfl,r1,hx,hb,End.ok h st<|Ym _]
theorem UY :∀{ds:List D}{is:List Int}{xs:List V},Pv.intsV ds=aa is->Rq Z H ds xs->xs=is.map V.int
 |[],is,xs,h,r=>by cases h;rw[r];rfl
 |d::ds,is,xs,h,r=>by
  obtain⟨v,vs,rfl,a1,b1⟩:=r;obtain⟨n,r,rfl,e,rfl⟩:=Uf h;rw[a1.int',UY e b1];rfl
def QI(f n):o7 f (n+1)=o7 f n+f n:=rfl
def yK:∀(is:List Int),o7 (λj=>is.getD j 0) is.length=is.sum:=by
 have gen:∀(is:List Int) n,n<=is.length->o7 (λj=>is.getD j 0) n=(is.take n).sum:=by
  intro is n
  induction n with
  |zero=>intro _;rfl
  |succ n ih=>
   intro h;rw[QI,ih #[0],lj,List.sum_append]
   have:is[n]?=aa is[n]:=af #[0]
   simp[this]
 intro is;rw[gen is is.length<|aI _,gB]
theorem VB(h:∀j,-M<=f j/\f j<=M)(hM:0<=M):∀n,-(M*n)<=o7 f n/\o7 f n<=M*n
 |0=>by rw[show o7 f 0=0 from rfl];simp
 |n+1=>by
  obtain⟨a,b⟩:=VB h hM n;obtain⟨c,d⟩:=h n;rw[QI];have:M*((n+1:Nat):Int)=M*n+M:=by rw[pK,Int.mul_add];simp
  rw[this];lia
def uW(hc:X.calm=ak):ZH X (.builtin "sum") (λvs H Q=>∃Z ds v is,vs=[v]/\Rep Z H (.lst ds) v/\Pv.intsV ds=aa is/\Ev.Zbw is=ak/\Q (.int is.sum) H):=by
 intro pq s O H vs us Q I r h;obtain⟨Z,ds,v,is,rfl,r1,hb,hok,q⟩:=h;obtain⟨l,xs,rfl,hx,_,rx⟩:=r1.lst';obtain⟨u,rfl,ru⟩:=XZ r;cases ru;have hq:Sq ak X.K H l xs:=SqL.of hx;obtain⟨its,rv,o1⟩:=Xb I hq;have hlt:=Vw o1;have ex:=UY hb rx;subst ex;have hlen:its.toArray.size=is.length:=by rw[aC,<-rv.length,ax]
 obtain⟨k1,k2⟩:=(aB _ _).mp hok;have bd:∀j,-1099511627776<=is.getD j 0/\is.getD j 0<=1099511627776:=λj=>by
  cases e:is[j]? with
  |none=>rw[aA,e];simp
  |some y=>
   have:=T6<|aX.mp k2 y<|cO e;rw[aA,e];exact this
 refine call_sum_walk<|VL o1 #[s.heap.objs.size,[s.heap.objs.size,l],[s.heap.objs.size],its.toArray.size,_,_,λj=>is.getD j 0,rfl,V1 (A:=X.A.in1) (I.ok.hd hc) ak s.heap.objs.size l (a8 hlt) its.toArray,#[GG,o1.keep λo q=>aq _ q],λb hb=>?_,λj v hv=>?_,λj hj=>?_,?_]
 .rw[cL]
  simp at hb;rcases hb with q|q<;>rw[q]
  .exact fz _
  .exact cB hlt
 .have hj:its[j]?=aa v:=by simpa using hv
  have jl:j<is.length:=by
   have:=(aG.mp hj).1;rwa[<-rv.length,ax]at this
  obtain⟨u',g',ru'⟩:=rv.get (by rw[aK,af jl];rfl)
  rw[hj]at g';cases g';obtain⟨t,e⟩:=ru';exact#[t,by rw[e];show fS is[j] t=fS (is.getD j 0) t;rw[aA,af jl];rfl]
 .have b1:=bd j
  have b2:=VB bd #[0]<|j+1
  refine#[?_,?_]<;>(unfold InLong;lia)
 .intro h' tk t' hk
  rw[hlen,yK];exact#[.int is.sum,H,I.kept λb o e=>hk b o (λhm=>by
   have:b=s.heap.objs.size:=by simpa using hm
   exact T7 (this▸aD e)<|bv _)<|aq _ e,#[t',rfl],q]
def vX(hc:X.calm=ak):ZH X (.builtin "sum") (UE X.K xw .sum):=ZH.imp (uW hc)<|by
 rintro vs H Q ⟨Z,S,ds,st,r,h⟩;obtain⟨d,v,z,rfl,r1,hz,h⟩:=Ws h r;cases d with
 |lst ds=>
  obtain⟨is,hb,hz⟩:=cp.mp hz;split at hz
  .cases hz;exact#[Z,ds,v,is,rfl,r1,hb,‹_›,End.ok h st<|ZQ _]
  .cases hz
 |_=>exact Ev.nos hz
end
end Sd
namespace Tq
open PySem PyProof.Rows
noncomputable def Yu:Bool->cF->Array cF->Nat->Nat->Nat->StateT eK pR (Option Nat):=sortPriv% PySem.Builtin.gallop
def xL(lf k ar bs n hn):Yu lf k ar bs n hn=(do
 let bd (i:Nat):StateT eK pR (Option Bool):=do
  let x <-gG ar (bs+i)
  if lf then lt' x k else return (<-lt' k x).map (!·)
 let mut la:=0
 let mut of:=1
 let mut lo:=0
 let mut hi:=0
 let aa rt <-bd hn|return ai
 if rt then
  let mx:=n-hn
  for _ in [0:n] do
   if of>=mx then break
   let aa mo <-bd (hn+of)|return ai
   if !mo then break
   la:=of
   of:=2*of+1
  lo:=hn+la+1
  hi:=hn+si of mx
 else
  let mx:=hn+1
  for _ in [0:n] do
   if of>=mx then break
   let aa fo <-bd (hn-of)|return ai
   if fo then break
   la:=of
   of:=2*of+1
  lo:=hn+1-si of mx
  hi:=hn-la
 for _ in [0:n] do
  if lo>=hi then break
  let m:=lo+(hi-lo) / 2
  let aa mo <-bd m|return ai
  if mo then lo:=m+1 else hi:=m
 return aa hi):=rfl
noncomputable abbrev BT:=Option (Option Nat)×Nat×Nat
def mid{lo hi:Nat}(c:lo<hi):lo+(hi-lo) / 2<hi:=by omega
def Za5{F:Nat->BT->StateT eK pR (ForInStep BT)}{n:Nat}{τ:eK}{B:Nat->Bool}{Q:BT->eK->Prop}
  (hF:∀i lo hi (Q:ForInStep BT->eK->Prop),hi<=n->(lo>=hi->Q (.done (ai,lo,hi)) τ)->(lo<hi->Q (.yield (ai,if B (lo+(hi-lo) / 2)=ak then(lo+(hi-lo) / 2+1,hi)else(lo,lo+(hi-lo) / 2))) τ)->mI (aR prog w) A E s (F i (ai,lo,hi)) Q τ)
  (mono:∀i j,i<=j->j<n->B j=ak->B i=ak)(hq:∀r,r<=n->(∀i,i<n->(B i=ak↔i<r))->Q (ai,r,r) τ){lo hi:Nat}(h1:lo<=hi)(h2:hi<=n)(h3:∀i,i<lo->B i=ak)(h4:∀i,hi<=i->i<n->B i=aj) :
  mI (aR prog w) A E s (mP [0:n] ((ai,lo,hi):BT) F) Q τ:=by
 have fin:∀lo,lo<=n->(∀i,i<lo->B i=ak)->(∀i,lo<=i->i<n->B i=aj)->Q (ai,lo,lo) τ:=λlo a2 a4 a5=>hq _ a2 λi hi=>by
  refine#[λhB=>?_,a4 i]
  by_cases c:i<lo
  .exact c
  .rw[a5 i #[3] hi]at hB;cases hB
 refine cI
  (I:=λi c st'=>st'=τ/\c.1=ai/\c.2.1<=c.2.2/\c.2.2<=n/\c.2.2+i<=n+c.2.1/\(∀i,i<c.2.1->B i=ak)/\∀i,c.2.2<=i->i<n->B i=aj) ?_ ?_ #[rfl,rfl,h1,h2,by dsimp only;omega,h3,h4]
 .rintro i ⟨r,lo,hi⟩ st' hi0 hin ⟨rfl,rfl,a1,a2,a3,a4,a5⟩
  dsimp only at a1 a2 a3 a4 a5 ⊢
  refine hF i lo hi _ a2 (λc=>?_) λc=>?_
  .have e:lo=hi:=by omega
   subst e;exact fin lo a2 a4 a5
  .have m1:=dG lo ((hi-lo) / 2)
   have m2:=mid c;generalize lo+(hi-lo) / 2=m at *;cases hm:B m with
   |true=>
    simp only[if_true];exact#[trivial,trivial,by omega,a2,by omega,λj hj=>mono j _ #[3] #[3] hm,a5]
   |false=>
    simp only[fI,if_false];refine#[trivial,trivial,by omega,by omega,by omega,a4,λj hj hn=>?_]
    cases hj2:B j with|false=>rfl|true=>rw[mono _ j hj hn hj2]at hm;cases hm
 .rintro ⟨r,lo,hi⟩ st' ⟨rfl,rfl,a1,a2,a3,a4,a5⟩
  dsimp only at a1 a2 a3 a4 a5 ⊢
  have e:lo=hi:=by omega
  subst e;exact fin lo a2 a4 a5
def ZeK{k:cF}{B:Nat->Bool}(hh:hn<n)
  (hb:∀i,i<n->∀Q,Q (aa<|B i) τ->mI (aR prog w) A E s (do
   let x <-gG ar (bs+i)
   if lf then lt' x k else return (<-lt' k x).map (!·)) Q τ)
  (mono:∀i j,i<=j->j<n->B j=ak->B i=ak)(hq:∀r,r<=n->(∀i,i<n->(B i=ak↔i<r))->Q (aa r) τ):mI (aR prog w) A E s (Yu lf k ar bs n hn) Q τ:=by
 have no:∀{i j},i<=j->j<n->B i=aj->B j=aj:=λ{i j} h hj hi=>by
  cases q:B j with|false=>rfl|true=>rw[mono i j h hj q]at hi;cases hi
 rw[xL]
 dsimp only
 refine aJ<|hb hn hh _ ?_
 dsimp only
 cases h0:B hn with
 |true=>
  rw[T9 rfl];refine aJ (eX (cI
   (I:=λi (c:BT) st'=>st'=τ/\c.1=ai/\c.2.1<c.2.2/\i<c.2.2/\hn+c.2.1<n/\B (hn+c.2.1)=ak)
   (Q:=λ(c:BT) st'=>st'=τ/\c.1=ai/\c.2.1<c.2.2/\hn+c.2.1<n/\B (hn+c.2.1)=ak/\(n<=hn+c.2.2\/B (hn+c.2.2)=aj)) ?_ ?_ #[rfl,rfl,by decide,by decide,hh,h0]) ?_)
  .rintro i ⟨r,la,f⟩ st' _ hin ⟨rfl,rfl,a1,a2,a3,a4⟩
   dsimp only at a1 a2 a3 a4 ⊢
   by_cases c:f>=n-hn
   .rw[T9 c]
    exact aT #[rfl,rfl,a1,a3,a4,.inl (by dsimp only;omega)]
   .rw[T8 c]
    refine aJ<|hb _ #[3] _ ?_
    dsimp only
    cases hm:B (hn+f)with|true=>exact aT #[rfl,rfl,by dsimp only;omega,by dsimp only;omega,by dsimp only;omega,hm]|false=>exact aT #[rfl,rfl,a1,a3,a4,.inr hm]
  .rintro ⟨r,la,f⟩ st' ⟨rfl,rfl,a1,a2,a3,a4⟩
   exact#[rfl,rfl,a1,a3,a4,.inl #[3]]
  .rintro ⟨r,la,f⟩ st' ⟨rfl,rfl,a1,a3,a4,a5⟩
   refine aJ (Za5 (n:=n) (B:=B) (λi lo hi Q h1 h2 h3=>by
    by_cases c:lo>=hi
    .simp only[T9 c];exact aT<|h2 c
    .simp only[T8 c]
     have c:=o8 c;refine aJ<|hb _ (bi (mid c) h1) _ ?_;have h3:=h3 c;cases hm:B (lo+(hi-lo) / 2)<;>(rw[hm]at h3;exact aT h3)) mono (λr hr hB=>aT<|hq r hr hB) #[3] #[3] (λi hi=>mono i _ #[3] a3 a4) λi h1 h2=>?_)
   rcases a5 with a5|a5
   .omega
   .exact no #[3] h2 a5
 |false=>
  rw[T8 #[2]]
  refine aJ (eX (cI
   (I:=λi (c:BT) st'=>st'=τ/\c.1=ai/\c.2.1<c.2.2/\i<c.2.2/\c.2.1<=hn/\B (hn-c.2.1)=aj)
   (Q:=λ(c:BT) st'=>st'=τ/\c.1=ai/\c.2.1<c.2.2/\c.2.1<=hn/\B (hn-c.2.1)=aj/\(hn<c.2.2\/B (hn-c.2.2)=ak)) ?_ ?_ #[rfl,rfl,by decide,by decide,db _,h0]) ?_)
  .rintro i ⟨r,la,f⟩ st' _ hin ⟨rfl,rfl,a1,a2,a3,a4⟩
   dsimp only at a1 a2 a3 a4 ⊢
   by_cases c:f>=hn+1
   .rw[T9 c]
    exact aT #[rfl,rfl,a1,a3,a4,.inl (by dsimp only;omega)]
   .rw[T8 c]
    refine aJ<|hb _ #[3] _ ?_
    dsimp only
    cases hm:B (hn-f)with|true=>exact aT #[rfl,rfl,a1,a3,a4,.inr hm]|false=>exact aT #[rfl,rfl,by dsimp only;omega,by dsimp only;omega,by dsimp only;omega,hm]
  .rintro ⟨r,la,f⟩ st' ⟨rfl,rfl,a1,a2,a3,a4⟩
   exact#[rfl,rfl,a1,a3,a4,.inl #[3]]
  .rintro ⟨r,la,f⟩ st' ⟨rfl,rfl,a1,a3,a4,a5⟩
   dsimp only at a1 a3 a4 a5 ⊢
   refine aJ (Za5 (n:=n) (B:=B) (λi lo hi Q h1 h2 h3=>by
    by_cases c:lo>=hi
    .simp only[T9 c];exact aT<|h2 c
    .simp only[T8 c]
     have c:=o8 c;refine aJ<|hb _ (bi (mid c) h1) _ ?_;have h3:=h3 c;cases hm:B (lo+(hi-lo) / 2)<;>(rw[hm]at h3;exact aT h3)) mono (λr hr hB=>aT<|hq r hr hB) #[3] #[3] (λi hi=>?_) λi h1 h2=>no h1 h2 a4)
   rcases a5 with a5|a5
   .omega
   .exact mono i _ #[3] #[3] a5
abbrev Srt(R:B->B->Prop)(l:List B):Prop:=l.Pairwise R
abbrev lr(rk:B->Nat):B->B->Prop:=λx y=>rk x<rk y
abbrev gr(rk:B->Nat):B->B->Prop:=λx y=>rk y<rk x
structure ML(R:B->B->Prop)(T o ra rb:List B):Prop where
 perm:(o++ra++rb).Perm T
 so:Srt R o
 sa:Srt R ra
 sb:Srt R rb
 lt:∀x∈o,∀y,y∈ra\/y∈rb->R x y
def ML.as(h:ML R T o (xs++ra) rb)(hx:∀x∈xs,∀y∈rb,R x y):ML R T (o++xs) ra rb:=by
 obtain⟨s1,s2,s3⟩:=eY.mp h.sa;refine#[by simpa[bE]using h.perm,eY.mpr #[h.so,s1,λx hx y hy=>h.lt x hx y<|.inl<|da _ hy],s2,h.sb,λx hx2 y hy=>?_]
 rcases bK.mp hx2 with z|z
 .exact h.lt x z y<|hy.imp (bp _) id
 .rcases hy with hy|hy
  .exact s3 x z y hy
  .exact hx x z y hy
def ML.swap(h:ML R T o ra rb):ML R T o rb ra:=by
 refine#[List.Perm.trans ?_ h.perm,h.so,h.sb,h.sa,λx hx y hy=>h.lt x hx y hy.symm]
 rw[bE,bE];exact List.perm_append_comm.append_left _
def ML.bs(h:ML R T o ra (xs++rb))(hx:∀x∈xs,∀y∈ra,R x y):ML R T (o++xs) ra rb:=(h.swap.as hx).swap
def ML.fin(h:ML R T o ra []):(o++ra).Perm T/\Srt R (o++ra):=by
 have h':=ML.as (ra:=[]) (by simpa using h) λx _ y hy=>by cases hy
 exact#[by simpa using h'.perm,h'.so]
def ML.ne(h:ML R T o ra rb)(hT:(T.map rk).Nodup)(hx:x∈ra)(hy:y∈rb):rk x≠rk y:=by
 have n:=((h.perm.map rk).nodup_iff).mpr hT;rw[bT,eZ]at n;exact n.2.2 _ (ei<|bp _ hx) _<|ei hy
structure Od(prog:bO)(w:bV)(A:cw)(E:az->aF->Prop)(s:aF)(κ:gP)(In:cF->Prop)(rk:cF->Nat):Prop where
 ask:∀{x y:cF}{τ:eK}{Q:Option Bool->eK->Prop},In x->In y->kindOf τ=κ->Q (aa<|ag<|rk x<rk y) τ->mI (aR prog w) A E s (lt' x y) Q τ
def Sg(τ st':eK):Prop:=kindOf st'=kindOf τ/\bf st'=bf τ/\bh st'=bh τ/\gQ st'=gQ τ
section
variable{In:cF->Prop}
def ZL(h:ar[i]?=aa x)(hq:Q x τ):mI (aR prog w) A E s (gG ar i) Q τ:=by
 rw[elem'_eq,h];exact aT hq
def WH(hq:Q () τ):mI (aR prog w) A E s (liftM (oR t):StateT eK pR Unit) Q τ:=wpS_lift<|gp #[rfl,hq]
theorem vS(O:Od prog w A E s κ In rk)(hk:kindOf τ=κ)(ik:In k)(hh:h0<n)(hn:i+n<=ar.size)(ia:∀x∈ar.toList,In x)
  (so:Srt (lr rk) ((ar.toList.drop i).take n))(ne:∀x∈(ar.toList.drop i).take n,rk x≠rk k)
  (hq:∀r,r<=n->(∀x∈((ar.toList.drop i).take n).take r,rk x<rk k)->(∀x∈((ar.toList.drop i).take n).drop r,rk k<rk x)->Q (aa r) τ):mI (aR prog w) A E s (Yu lf k ar i n h0) Q τ:=by
 generalize hl:(ar.toList.drop i).take n=l at so ne hq;have ll:l.length=n:=by rw[<-hl,bQ,bF,aN];lia
 have at_:∀j (hj:j<n),ar[i+j]?=aa (l[j]'#[0]):=λj hj=>by
  have:ar.toList[i+j]?=aa (l[j]'#[0]):=by
   subst hl;rw[fX,fY];exact af _
  simpa using this
 have mem:∀j (hj:j<n),In (l[j]'#[0]):=λj hj=>ia _ (by
  have h2:∀x∈l,x∈ar.toList:=λx hx=>by rw[<-hl]at hx;exact b9<|dg hx
  exact h2 _<|aS _)
 have hB:∀j (hj:j<n),((l[j]?).any λx=>ag<|rk x<rk k)=ag (rk (l[j]'#[0])<rk k):=λj hj=>by
  rw[af #[0]];rfl
 refine ZeK (B:=λj=>(l[j]?).any λx=>ag<|rk x<rk k) hh (λj hj Q hQ=>?_) (λa b hab hb h=>?_) λr hr hr2=>hq r hr (λx hx=>?_) λx hx=>?_
 .rw[hB j hj]at hQ
  refine aJ<|ZL (at_ j hj) ?_;cases lf with
  |true=>exact O.ask (mem j hj) ik hk hQ
  |false=>
   refine aJ<|O.ask ik (mem j hj) hk<|aT ?_;have e:(!decide (rk k<rk (l[j]'#[0])))=ag (rk (l[j]'#[0])<rk k):=by
    have:=ne _<|aS (n:=j) #[0]
    by_cases c:rk k<rk (l[j]'#[0])
    .rw[T5 c,T4 #[0]];rfl
    .rw[T4 c,T5 #[0]];rfl
   show Q (aa<|!decide (rk k<rk (l[j]'#[0]))) τ
   rw[e];exact hQ
 .rw[hB b hb]at h
  rw[hB a #[0]]
  rcases Nat.lt_or_eq_of_le hab with c|c
  .have:=bJ.mp so a b #[0] #[0] c
   exact T5 #[0]
  .subst c;exact h
 .obtain⟨j,hj,rfl⟩:=cu hx
  rw[bQ]at hj;have:=(hr2 j<|by lia).mpr #[0]
  rw[hB j<|by lia]at this
  rw[fX];exact T6 this
 .obtain⟨j,hj,rfl⟩:=cu hx
  rw[bF]at hj;rw[fY];have h1:=hr2 (r+j) #[0]
  rw[hB _<|by lia]at h1
  have h2:=ne _<|aS (n:=r+j) #[0]
  lia
end
noncomputable abbrev KA:=Array cF
noncomputable abbrev SM:=StateT eK pR
def QH:KA->KA->SM KA:=sortPriv% PySem.Builtin.mergeLo
def JP:Nat->SM Unit:=sortPriv% PySem.Builtin.setMinGallop
def ZaK(g):JP g=modify λs=>pX (kindOf s) (bf s) (bh s) g (gQ s):=rfl
noncomputable abbrev dn(a b o:KA)(i j:Nat):KA:=o++a.extract i a.size++b.extract j b.size
noncomputable abbrev ls(a b o:KA)(i j:Nat):KA:=o++b.extract j b.size++a.extract i a.size
abbrev T2:=Option KA×KA×Nat×Nat×Nat×Nat
abbrev T3:=Option KA×KA×Nat×Nat×Nat×Nat×Nat
abbrev T1:=Option KA×KA×Nat×Nat×Nat
def F1(a b:KA)(g:Nat)(c:T2):SM (ForInStep T2):=do
 let o:=c.2.1
 let i:=c.2.2.1
 let j:=c.2.2.2.1
 let ca:=c.2.2.2.2.1
 let cb:=c.2.2.2.2.2
 let aa t <-lt' (<-gG b j) (<-gG a i)|return .done (aa<|dn a b o i j,o,i,j,ca,cb)
 if t then
  let o:=o.push<|<-gG b j
  let j:=j+1
  if j == b.size then return .done (aa<|dn a b o i j,o,i,j,0,cb+1)
  if cb+1>=g then return .done (ai,o,i,j,0,cb+1)
  return .yield (ai,o,i,j,0,cb+1)
 else
  let o:=o.push<|<-gG a i
  let i:=i+1
  if i+1 == a.size then return .done (aa<|ls a b o i j,o,i,j,ca+1,0)
  if ca+1>=g then return .done (ai,o,i,j,ca+1,0)
  return .yield (ai,o,i,j,ca+1,0)
def G3(a b:KA)(g ca cb i:Nat)(o:KA)(j:Nat):SM (ForInStep T3):=do
 let o:=o.push<|<-gG a i
 let i:=i+1
 if i+1 == a.size then return .done (aa<|ls a b o i j,o,i,j,g,ca,cb)
 if ca<7&&cb<7 then return .done (ai,o,i,j,g,ca,cb)
 return .yield (ai,o,i,j,g,ca,cb)
def G2(a b:KA)(g ca cb j:Nat)(o:KA)(i:Nat):SM (ForInStep T3):=do
 let o:=o.push<|<-gG b j
 let j:=j+1
 if j == b.size then return .done (aa<|dn a b o i j,o,i,j,g,ca,cb)
 let aa k <-Yu ak (<-gG a i) b j (b.size-j) 0|return .done (aa<|dn a b o i j,o,i,j,g,ca,cb)
 if k>0 then
  let o:=o++b.extract j (j+k)
  let j:=j+k
  if j == b.size then return .done (aa<|dn a b o i j,o,i,j,g,ca,k)
  else G3 a b g ca k i o j
 else G3 a b g ca k i o j
def G1(a b:KA)(o:KA)(i j ca cb g:Nat):SM (ForInStep T3):=do
 JP g
 let aa k <-Yu aj (<-gG b j) a i (a.size-i) 0|return .done (aa<|dn a b o i j,o,i,j,g,ca,cb)
 if k>0 then
  let o:=o++a.extract i (i+k)
  let i:=i+k
  if i+1 == a.size then return .done (aa<|ls a b o i j,o,i,j,g,k,cb)
  else if i == a.size then return .done (aa<|dn a b o i j,o,i,j,g,k,cb)
  else G2 a b g k cb j o i
 else G2 a b g k cb j o i
def F2(a b:KA)(c:T3):SM (ForInStep T3):=
 if c.2.2.2.2.1>1 then G1 a b c.2.1 c.2.2.1 c.2.2.2.1 c.2.2.2.2.2.1 c.2.2.2.2.2.2 (c.2.2.2.2.1-1)
 else G1 a b c.2.1 c.2.2.1 c.2.2.2.1 c.2.2.2.2.2.1 c.2.2.2.2.2.2 c.2.2.2.2.1
def F0(a b:KA)(c:T1):SM (ForInStep T1):=do
 let d <-mP [0:a.size+b.size] ((ai,c.2.1,c.2.2.1,c.2.2.2.1,0,0):T2) λ_ d=>F1 a b c.2.2.2.2 d
 kI d.1 (λ_=>do
  oR "list.sort.gallop"
  let e <-mP [0:a.size+b.size] ((ai,d.2.1,d.2.2.1,d.2.2.2.1,c.2.2.2.2+1,d.2.2.2.2.1,d.2.2.2.2.2):T3) λ_ d=>F2 a b d
  kI e.1 (λ_=>do
   JP (e.2.2.2.2.1+1)
   cJ (.yield (ai,e.2.1,e.2.2.1,e.2.2.2.1,e.2.2.2.2.1+1))) λr=>cJ<|.done (aa r,e.2.1,e.2.2.1,e.2.2.2.1,e.2.2.2.2.1)) λr=>cJ<|.done (aa r,d.2.1,d.2.2.1,d.2.2.2.1,c.2.2.2.2)
def yA(a b):QH a b=(do
 oR "list.sort.merge-lo"
 let y <-gG b 0
 if 1 == b.size then return dn a b #[y] 0 1
 if 0+1 == a.size then return ls a b #[y] 0 1
 let τ <-get
 let c <-mP [0:a.size+b.size] ((ai,#[y],0,1,gallopOf τ):T1) λ_ c=>F0 a b c
 kI c.1 (λ_=>pE "internal:list.sort.merge-bound") λr=>cJ r):=rfl
def Ww(a:KA)(i):(a.extract i a.size).toList=a.toList.drop i:=by
 rw[iY];exact cA (by rw[bF];exact aI _)
def vx(a:KA)(i k):(a.extract i<|i+k).toList=(a.toList.drop i).take k:=by
 rw[iY,List.extract_eq_take_drop,bX]
def Yh{a:KA}(h):a.toList.drop i=a[i]::a.toList.drop (i+1):=by
 rw[bY (by simpa using h)];rfl
def td{B:Type}(l:List B)(n r):(l.drop n).take r++l.drop (n+r)=l.drop n:=by rw[<-kJ,cG]
def ZS{a:KA}{i:Nat}(h):a[i]?=aa a[i]:=bn h
section
variable{prog:bO}{w:bV}{A:cw}{E:az->aF->Prop}{s:aF}{κ:gP}{In:cF->Prop}{rk:cF->Nat}
def ZJ{B:Type}{c:Prop}[Decidable c]{x y:SM B}{Q:B->eK->Prop}(h1:c->mI (aR prog w) A E s x Q τ)(h2:¬c->mI (aR prog w) A E s y Q τ):mI (aR prog w) A E s (if c then x else y) Q τ:=by
 by_cases h:c
 .rw[T9 h];exact h1 h
 .rw[T8 h];exact h2 h
theorem w6(O:Od prog w A E s κ In rk)(hk:kindOf τ=κ)(ik:In k)(hi:i<ar.size)(ia:∀x∈ar.toList,In x)(so:Srt (lr rk) (ar.toList.drop i))(ne:∀x∈ar.toList.drop i,rk x≠rk k)
  (hq:∀r,i+r<=ar.size->(∀x∈(ar.toList.drop i).take r,rk x<rk k)->(∀x∈ar.toList.drop (i+r),rk k<rk x)->Q (aa r) τ):mI (aR prog w) A E s (Yu lf k ar i (ar.size-i) 0) Q τ:=by
 have e:(ar.toList.drop i).take (ar.size-i)=ar.toList.drop i:=cA (by rw[bF];exact aI _)
 refine vS O hk ik (Nat.sub_pos_of_lt hi) (mh<|m9<|gw hi) ia (e.symm▸so) (e.symm▸ne) λr h1 h2 h3=>?_
 rw[e]at h2 h3;rw[kJ]at h3;exact hq r #[0] h2 h3
structure Mg(κ:gP)(In:cF->Prop)(rk:cF->Nat)(a b:KA)(T:List cF):Prop where
 nd:(T.map rk).Nodup
 ia:∀x∈a.toList,In x
 ib:∀x∈b.toList,In x
 last:∀y∈b.toList,∀x∈a.toList.drop (a.size-1),rk y<rk x
def Res(rk:cF->Nat)(T:List cF)(r:KA):Prop:=r.toList.Perm T/\Srt (lr rk) r.toList
abbrev Lo(rk:cF->Nat)(a b:KA)(T:List cF)(o:KA)(i j:Nat):Prop:=ML (lr rk) T o.toList (a.toList.drop i)<|b.toList.drop j
structure Iv(rk:cF->Nat)(a b:KA)(T:List cF)(o:KA)(i j:Nat):Prop where
 m:Lo rk a b T o i j
 hi:i+1<a.size
 hj:j<b.size
 z:o.size=i+j
variable{a b:KA}{T:List cF}
def GK(h:Lo rk a b T o i j)(hj:(j == b.size)=ak):Res rk T (dn a b o i j):=by
 have hj:=beq_iff_eq.mp hj;unfold Lo at h;rw[hj,<-aN,eD]at h;have:=h.fin;unfold Res dn;rw[bZ,bZ,Ww,Ww,hj,<-aN,eD,cf];exact this
def ZdR(h:Lo rk a b T o i j)(hi:(i == a.size)=ak):Res rk T (dn a b o i j):=by
 have hi:=beq_iff_eq.mp hi;unfold Lo at h;rw[hi,<-aN,eD]at h;have:=h.swap.fin;unfold Res dn;rw[bZ,bZ,Ww,Ww,hi,<-aN,eD,cf];exact this
theorem Gq(G:Mg κ In rk a b T)(h:Lo rk a b T o i j)(hi:(i+1 == a.size)=ak):Res rk T (ls a b o i j):=by
 have e:a.size-1=i:=by lia
 have:=(ML.bs (by rw[cf];exact h) λy hy x hx=>G.last y (b9 hy) x<|by rw[e];exact hx).fin
 unfold Res ls;rw[bZ,bZ,Ww,Ww];exact this
def js(h:Lo rk a b T o i j)(hj:j<b.size)(hy:∀x∈a.toList.drop i,rk b[j]<rk x):Lo rk a b T (o.push b[j]) i (j+1):=by
 unfold Lo at h ⊢;rw[Yh hj]at h;rw[fb];exact ML.bs h λx hx y hy'=>by rw[aZ.mp hx];exact hy y hy'
def ZeC(h:Lo rk a b T o i j)(hi:i<a.size)(hx:∀y∈b.toList.drop j,rk a[i]<rk y):Lo rk a b T (o.push a[i]) (i+1) j:=by
 unfold Lo at h ⊢;rw[Yh hi]at h;rw[fb];exact ML.as h λx hx' y hy'=>by rw[aZ.mp hx'];exact hx y hy'
def va(h:Srt (lr rk) (x::l))(hx:rk y<rk x):∀z∈x::l,rk y<rk z:=λz hz=>by
 rcases aw.mp hz with rfl|hz
 .exact hx
 .exact dm hx<|(bj.mp h).1 z hz
def U8(h:m<n)(q:¬(m+1 == n)=ak):m+1<n:=fJ h λz=>q<|beq_iff_eq.mpr z
theorem Zhz(O:Od prog w A E s κ In rk)(G:Mg κ In rk a b T)(hk:kindOf τ=κ)(I:Iv rk a b T o i j)
  (hd:∀r c,Res rk T r->Q (.done (aa r,c)) τ)(hb:∀o' i' j' ca cb,Iv rk a b T o' i' j'->o'.size=o.size+1->Q (.done (ai,o',i',j',ca,cb)) τ/\Q (.yield (ai,o',i',j',ca,cb)) τ):mI (aR prog w) A E s (F1 a b g (r0,o,i,j,ca,cb)) Q τ:=by
 have hi:=d9 I.hi;have ha:a[i]∈a.toList.drop i:=by rw[Yh hi];exact al ..
 have hb':b[j]'I.hj∈b.toList.drop j:=by rw[Yh I.hj];exact al ..
 have sa:=I.m.sa;have sb:=I.m.sb;rw[Yh hi]at sa;rw[Yh I.hj]at sb;refine aJ<|ZL (ZS I.hj)<|aJ<|ZL (ZS hi)<|aJ<|O.ask (G.ib _<|b9 hb') (G.ia _<|b9 ha) hk ?_;by_cases c:rk (b[j]'I.hj)<rk a[i]
 .rw[T5 c]
  refine aJ<|ZL (ZS I.hj) ?_;have m:=js I.m I.hj (by rw[Yh hi];exact va sa c)
  have z:(o.push<|b[j]'I.hj).size=o.size+1:=eg ..;refine ZJ (λq=>aT<|hd _ _<|GK m q) λq=>?_
  have h:=hb _ _ _ 0 (cb+1) #[m,I.hi,U8 I.hj q,by rw[z,I.z];lia] z
  exact ZJ (λ_=>aT h.1) λ_=>aT h.2
 .rw[T4 c]
  refine aJ<|ZL (ZS hi) ?_;have m:=ZeC I.m hi (by rw[Yh I.hj];exact va sb<|fJ (d3 c)<|I.m.ne G.nd ha hb')
  have z:(o.push a[i]).size=o.size+1:=eg ..;refine ZJ (λq=>aT<|hd _ _<|Gq G m q) λq=>?_
  have h:=hb _ _ _ (ca+1) 0 #[m,U8 I.hi q,I.hj,by rw[z,I.z];lia] z
  exact ZJ (λ_=>aT h.1) λ_=>aT h.2
theorem Sg.trans(h:Sg s1 s2)(k:Sg s2 s3):Sg s1 s3:=#[k.1.trans h.1,k.2.1.trans h.2.1,k.2.2.1.trans h.2.2.1,k.2.2.2.trans h.2.2.2]
def UH(h:∀st',Sg τ st'->Q () st'):mI (aR prog w) A E s (JP g) Q τ:=by
 rw[ZaK];exact fK<|h _ #[rfl,rfl,rfl,rfl]
section
variable(O:Od prog w A E s κ In rk)(G:Mg κ In rk a b T)
include O G
theorem ZeD{g ca cb:Nat}{τ:eK}(m:Lo rk a b T o i j)(hi:i+1<a.size)(hj:j<b.size)(z:o.size=i+j)(hx:∀y∈b.toList.drop j,rk a[i]<rk y)
  (hd:∀r c,Res rk T r->Q (.done (aa r,c)) τ)(hb:∀o' i' j' g ca cb,Iv rk a b T o' i' j'->o'.size=o.size+1->Q (.done (ai,o',i',j',g,ca,cb)) τ/\Q (.yield (ai,o',i',j',g,ca,cb)) τ):mI (aR prog w) A E s (G3 a b g ca cb i o j) Q τ:=by
 have hi':=d9 hi;refine aJ<|ZL (ZS hi') ?_;have m:=ZeC m hi' hx;have z':(o.push a[i]).size=o.size+1:=eg ..;refine ZJ (λq=>aT<|hd _ _<|Gq G m q) λq=>?_
 have h:=hb _ _ _ g ca cb #[m,U8 hi q,hj,by rw[z'];lia] z'
 exact ZJ (λ_=>aT h.1) λ_=>aT h.2
theorem Zeg{g ca cb:Nat}{τ:eK}(hk:kindOf τ=κ)(m:Lo rk a b T o i j)(hi:i+1<a.size)(hj)(z:o.size=i+j)(hy:∀x∈a.toList.drop i,rk b[j]<rk x)
  (hd:∀r c,Res rk T r->Q (.done (aa r,c)) τ)(hb:∀o' i' j' g ca cb,Iv rk a b T o' i' j'->o.size<o'.size->Q (.done (ai,o',i',j',g,ca,cb)) τ/\Q (.yield (ai,o',i',j',g,ca,cb)) τ):mI (aR prog w) A E s (G2 a b g ca cb j o i) Q τ:=by
 have hi':=d9 hi;refine aJ<|ZL (ZS hj) ?_;have m:=js m hj hy;have z':(o.push b[j]).size=o.size+1:=eg ..;refine ZJ (λq=>aT<|hd _ _<|GK m q) λq=>?_
 have hj:=U8 hj q;have ha:a[i]∈a.toList.drop i:=by rw[Yh hi'];exact al ..
 refine aJ<|ZL (ZS hi')<|aJ<|w6 O hk (G.ia _<|b9 ha) hj G.ib m.sb (λy hy=>(m.ne G.nd ha hy).symm) λr hr h1 h2=>?_
 refine ZJ (λ_=>?_) λc=>?_
 .have m2:Lo rk a b T (o.push b[j]++b.extract (j+1) (j+1+r)) i (j+1+r):=by
   unfold Lo;rw[bZ,vx];refine ML.bs ?_ λy hy x hx=>?_
   .rw[td];exact m
   .have sa:=m.sa
    rw[Yh hi']at sa hx;exact va sa (h1 y hy) x hx
  have z2:(o.push b[j]++b.extract (j+1) (j+1+r)).size=o.size+1+r:=by rw[iz,z',fk #[0],bX]
  refine ZJ (λq=>aT<|hd _ _<|GK m2 q) λq=>?_
  have hj2:j+1+r<b.size:=fJ hr λz=>q<|beq_iff_eq.mpr z
  exact ZeD O G m2 hi hj2 (by rw[z2];lia) h2 hd λo' i' j' g ca cb I e=>hb o' i' j' g ca cb I #[0]
 .have e:r=0:=by lia
  subst e;exact ZeD O G m hi hj (by rw[z'];lia) h2 hd λo' i' j' g ca cb I e=>hb o' i' j' g ca cb I #[0]
theorem ZeG{g ca cb:Nat}(hk:kindOf τ=κ)(I:Iv rk a b T o i j)
  (hd:∀r c st',Sg τ st'->Res rk T r->Q (.done (aa r,c)) st')(hb:∀o' i' j' g ca cb st',Sg τ st'->Iv rk a b T o' i' j'->o.size<o'.size->Q (.done (ai,o',i',j',g,ca,cb)) st'/\Q (.yield (ai,o',i',j',g,ca,cb)) st'):mI (aR prog w) A E s (G1 a b o i j ca cb g) Q τ:=by
 obtain⟨m,hi,hj,z⟩:=I;have hb':b[j]∈b.toList.drop j:=by rw[Yh hj];exact al ..
 refine aJ<|UH λst' sg=>aJ<|ZL (ZS hj)<|aJ<|w6 O (sg.1.trans hk) (G.ib _<|b9 hb') (d9 hi) G.ia m.sa (λx hx=>m.ne G.nd hx hb') λr hr h1 h2=>?_
 refine ZJ (λ_=>?_) λc=>?_
 .have m2:Lo rk a b T (o++a.extract i (i+r)) (i+r) j:=by
   unfold Lo;rw[bZ,vx];refine ML.as ?_ λx hx y hy=>?_
   .rw[td];exact m
   .have sb:=m.sb
    rw[Yh hj]at sb hy;exact va sb (h1 x hx) y hy
  have z2:(o++a.extract i (i+r)).size=o.size+r:=by rw[iz,fk #[0],bX]
  refine ZJ (λq=>aT<|hd _ _ st' sg<|Gq G m2 q) λq=>ZJ (λq=>aT<|hd _ _ st' sg<|ZdR m2 q) λq2=>?_
  exact Zeg O G (sg.1.trans hk) m2 (U8 #[0] q) hj (by rw[z2];lia) h2 (λr c=>hd r c st' sg) λo' i' j' g ca cb I e=>hb o' i' j' g ca cb st' sg I #[0]
 .have e:r=0:=by lia
  subst e;exact Zeg O G (sg.1.trans hk) m hi hj z h2 (λr c=>hd r c st' sg) λo' i' j' g ca cb I e=>hb o' i' j' g ca cb st' sg I #[0]
theorem ZhP(hk:kindOf τ=κ)(I:Iv rk a b T o i j)
  (hd:∀r c st',Sg τ st'->Res rk T r->Q (.done (aa r,c)) st')(hb:∀o' i' j' g ca cb st',Sg τ st'->Iv rk a b T o' i' j'->o.size<o'.size->Q (.done (ai,o',i',j',g,ca,cb)) st'/\Q (.yield (ai,o',i',j',g,ca,cb)) st'):mI (aR prog w) A E s (F2 a b (r0,o,i,j,g,ca,cb)) Q τ:=by
 exact ZJ (λ_=>ZeG O G hk I hd hb) λ_=>ZeG O G hk I hd hb
theorem Zhg{Q:ForInStep T1->eK->Prop}(hk:kindOf τ=κ)(I:Iv rk a b T o i j)
  (hd:∀r c st',Sg τ st'->Res rk T r->Q (.done (aa r,c)) st')(hy:∀o' i' j' g st',Sg τ st'->Iv rk a b T o' i' j'->o.size<o'.size->Q (.yield (ai,o',i',j',g)) st'):mI (aR prog w) A E s (F0 a b (r0,o,i,j,g)) Q τ:=by
 refine aJ (eX (cI
  (I:=λx c st'=>st'=τ/\c.1=ai/\Iv rk a b T c.2.1 c.2.2.1 c.2.2.2.1/\o.size+x<=c.2.1.size)
  (Q:=λc st'=>st'=τ/\((∃r,c.1=aa r/\Res rk T r)\/c.1=ai/\Iv rk a b T c.2.1 c.2.2.1 c.2.2.2.1/\o.size<c.2.1.size)) ?_ ?_ #[rfl,rfl,I,aI _]) ?_)
 .rintro x ⟨r,o',i',j',ca,cb⟩ st' _ _ ⟨rfl,rfl,I',hz⟩
  exact Zhz O G hk I' (λr c h=>#[rfl,.inl #[r,rfl,h]]) λo2 i2 j2 ca cb I2 e=>#[#[rfl,.inr #[rfl,I2,by dsimp only at hz ⊢;lia]],rfl,rfl,I2,by dsimp only at hz ⊢;lia]
 .rintro ⟨r,o',i',j',ca,cb⟩ st' ⟨rfl,rfl,I',hz⟩
  have:=I'.hi;have:=I'.hj;lia
 .rintro ⟨r,o',i',j',ca,cb⟩ st' ⟨rfl,⟨r',rfl,h⟩|⟨rfl,I',hz⟩⟩
  .exact aT<|hd _ _ _ #[rfl,rfl,rfl,rfl] h
  .dsimp only at I' hz
   refine aJ (WH (aJ (eX (cI
    (I:=λx (c:T3) st''=>Sg st' st''/\c.1=ai/\Iv rk a b T c.2.1 c.2.2.1 c.2.2.2.1/\o'.size+x<=c.2.1.size)
    (Q:=λc st''=>Sg st' st''/\((∃r,c.1=aa r/\Res rk T r)\/c.1=ai/\Iv rk a b T c.2.1 c.2.2.1 c.2.2.2.1/\o'.size<c.2.1.size)) ?_ ?_ #[#[rfl,rfl,rfl,rfl],rfl,I',aI _]) ?_)))
   .rintro x ⟨r,o2,i2,j2,g,ca,cb⟩ st2 _ _ ⟨sg,rfl,I2,hz2⟩
    exact ZhP O G (sg.1.trans hk) I2 (λr c st3 s3 h=>#[sg.trans s3,.inl #[r,rfl,h]]) λo3 i3 j3 g ca cb st3 s3 I3 e=>#[#[sg.trans s3,.inr #[rfl,I3,by dsimp only;lia]],sg.trans s3,rfl,I3,by dsimp only;lia]
   .rintro ⟨r,o2,i2,j2,g,ca,cb⟩ st2 ⟨sg,rfl,I2,hz2⟩
    have:=I2.hi;have:=I2.hj;have:=I2.z;lia
   .rintro ⟨r,o2,i2,j2,g,ca,cb⟩ st2 ⟨sg,⟨r',rfl,h⟩|⟨rfl,I2,hz2⟩⟩
    .exact aT<|hd _ _ _ sg h
    .exact aJ<|UH λst3 s3=>aT<|hy _ _ _ _ _ (sg.trans s3) I2<|dm hz hz2
theorem xQ(hk:kindOf τ=κ)(ha:0<a.size)(hb)(sa:Srt (lr rk) a.toList)(sb:Srt (lr rk) b.toList)(hT:(a.toList++b.toList).Perm T)(h0:∀x∈a.toList,rk b[0]<rk x)
  (hq:∀r st',Sg τ st'->Res rk T r->Q r st'):mI (aR prog w) A E s (QH a b) Q τ:=by
 rw[yA];refine aJ<|WH<|aJ<|ZL (ZS hb) ?_;have m0:Lo rk a b T #[] 0 0:=#[by simpa using hT,.nil,by simpa using sa,by simpa using sb,λx hx=>by cases hx]
 have m:=js m0 hb (by simpa using h0)
 have sg0:Sg τ τ:=#[rfl,rfl,rfl,rfl];refine ZJ (λq=>aT<|hq _ _ sg0<|GK m q) λq1=>ZJ (λq=>aT<|hq _ _ sg0<|Gq G m q) λq2=>aJ (iA (aJ (eX (cI
  (I:=λx c st''=>Sg τ st''/\c.1=ai/\Iv rk a b T c.2.1 c.2.2.1 c.2.2.2.1/\x<=c.2.1.size)
  (Q:=λc st''=>Sg τ st''/\∃r,c.1=aa r/\Res rk T r) ?_ ?_ #[sg0,rfl,#[m,U8 ha q2,U8 hb q1,rfl],db _]) ?_)))
 .rintro x ⟨r,o,i,j,g⟩ st2 _ _ ⟨sg,rfl,I,hz⟩
  exact Zhg O G (sg.1.trans hk) I (λr c st3 s3 h=>#[sg.trans s3,r,rfl,h]) λo3 i3 j3 g st3 s3 I3 e=>#[sg.trans s3,rfl,I3,by dsimp only;lia]
 .rintro ⟨r,o,i,j,g⟩ st2 ⟨sg,rfl,I,hz⟩
  have:=I.hi;have:=I.hj;have:=I.z;lia
 .rintro ⟨r,o,i,j,g⟩ st2 ⟨sg,r',rfl,h⟩
  exact aT<|hq _ _ sg h
end
end
def Qd:KA->KA->SM KA:=sortPriv% PySem.Builtin.mergeHi
noncomputable abbrev dh(a b o:KA)(i j:Nat):KA:=a.extract 0 i++b.extract 0 j++o.reverse
noncomputable abbrev fh(a b o:KA)(i j:Nat):KA:=b.extract 0 j++a.extract 0 i++o.reverse
abbrev U1:=Option KA×Nat×Nat×KA×Nat
abbrev U2:=Option KA×Nat×Nat×KA×Nat×Nat
abbrev U3:=Option KA×Nat×Nat×KA×Nat×Nat×Nat
def H1(a b:KA)(g:Nat)(c:U2):SM (ForInStep U2):=do
 let i:=c.2.1
 let j:=c.2.2.1
 let o:=c.2.2.2.1
 let ca:=c.2.2.2.2.1
 let cb:=c.2.2.2.2.2
 let aa t <-lt' (<-gG b (j-1)) (<-gG a (i-1))|return .done (aa<|dh a b o i j,i,j,o,ca,cb)
 if t then
  let i:=i-1
  let o:=o.push<|<-gG a i
  if i == 0 then return .done (aa<|dh a b o i j,i,j,o,ca+1,0)
  if ca+1>=g then return .done (ai,i,j,o,ca+1,0)
  return .yield (ai,i,j,o,ca+1,0)
 else
  let j:=j-1
  let o:=o.push<|<-gG b j
  if j == 1 then return .done (aa<|fh a b o i j,i,j,o,0,cb+1)
  if cb+1>=g then return .done (ai,i,j,o,0,cb+1)
  return .yield (ai,i,j,o,0,cb+1)
def K3(a b:KA)(g ca cb i:Nat)(o:KA)(j:Nat):SM (ForInStep U3):=do
 let i:=i-1
 let o:=o.push<|<-gG a i
 if i == 0 then return .done (aa<|dh a b o i j,i,j,o,g,ca,cb)
 if ca<7&&cb<7 then return .done (ai,i,j,o,g,ca,cb)
 return .yield (ai,i,j,o,g,ca,cb)
def K2(a b:KA)(g ca cb j:Nat)(o:KA)(i:Nat):SM (ForInStep U3):=do
 let j:=j-1
 let o:=o.push<|<-gG b j
 if j == 1 then return .done (aa<|fh a b o i j,i,j,o,g,ca,cb)
 let aa t <-Yu ak (<-gG a (i-1)) b 0 j (j-1)|return .done (aa<|dh a b o i j,i,j,o,g,ca,cb)
 if j-t>0 then
  let o:=o++(b.extract t j).reverse
  if t == 1 then return .done (aa<|fh a b o i t,i,t,o,g,ca,j-t)
  else if t == 0 then return .done (aa<|dh a b o i t,i,t,o,g,ca,j-t)
  else K3 a b g ca (j-t) i o t
 else K3 a b g ca (j-t) i o j
def K1(a b:KA)(o:KA)(i j ca cb g:Nat):SM (ForInStep U3):=do
 JP g
 let aa t <-Yu aj (<-gG b (j-1)) a 0 i (i-1)|return .done (aa<|dh a b o i j,i,j,o,g,ca,cb)
 if i-t>0 then
  let o:=o++(a.extract t i).reverse
  if t == 0 then return .done (aa<|dh a b o t j,t,j,o,g,i-t,cb)
  else K2 a b g (i-t) cb j o t
 else K2 a b g (i-t) cb j o i
def H2(a b:KA)(c:U3):SM (ForInStep U3):=
 if c.2.2.2.2.1>1 then K1 a b c.2.2.2.1 c.2.1 c.2.2.1 c.2.2.2.2.2.1 c.2.2.2.2.2.2 (c.2.2.2.2.1-1)
 else K1 a b c.2.2.2.1 c.2.1 c.2.2.1 c.2.2.2.2.2.1 c.2.2.2.2.2.2 c.2.2.2.2.1
def TT(n:Nat)(f1:Nat->U2->SM (ForInStep U2))(f2:U3->SM (ForInStep U3))(c:U1):SM (ForInStep U1):=do
 let d <-mP [0:n] ((ai,c.2.1,c.2.2.1,c.2.2.2.1,0,0):U2) λ_ d=>f1 c.2.2.2.2 d
 kI d.1 (λ_=>do
  oR "list.sort.gallop"
  let e <-mP [0:n] ((ai,d.2.1,d.2.2.1,d.2.2.2.1,c.2.2.2.2+1,d.2.2.2.2.1,d.2.2.2.2.2):U3) λ_ d=>f2 d
  kI e.1 (λ_=>do
   JP (e.2.2.2.2.1+1)
   cJ (.yield (ai,e.2.1,e.2.2.1,e.2.2.2.1,e.2.2.2.2.1+1))) λr=>cJ<|.done (aa r,e.2.1,e.2.2.1,e.2.2.2.1,e.2.2.2.2.1)) λr=>cJ<|.done (aa r,d.2.1,d.2.2.1,d.2.2.2.1,c.2.2.2.2)
def zK(a b):Qd a b=(do
 oR "list.sort.merge-hi"
 let x <-gG a (a.size-1)
 if a.size-1 == 0 then return dh a b #[x] (a.size-1) b.size
 if b.size == 1 then return fh a b #[x] (a.size-1) b.size
 let τ <-get
 let c <-mP [0:a.size+b.size] ((ai,a.size-1,b.size,#[x],gallopOf τ):U1) λ_ c=>TT (a.size+b.size) (H1 a b) (H2 a b) c
 kI c.1 (λ_=>pE "internal:list.sort.merge-bound") λr=>cJ r):=rfl
def Zav{a:KA}:(a.extract t i).toList=(a.toList.take i).drop t:=by
 rw[iY,List.drop_take]
noncomputable abbrev rv(a:KA)(i:Nat):List cF:=(a.toList.take i).reverse
def Vc(h:0<i)(h2:i<=a.size):rv a i=a[i-1]::rv a (i-1):=by
 obtain⟨k,rfl⟩:∃k,i=k+1:=#[i-1,by lia]
 show(a.toList.take<|k+1).reverse=_;rw[List.take_succ_eq_append_getElem (by rw[aN];exact h2),ng];rfl
def jI{a:KA}(h:t<=i):rv a i=((a.toList.take i).drop t).reverse++rv a t:=by
 rw[<-ng];have:=cG t<|a.toList.take i;rw[pY,gX h]at this;rw[this]
section
variable{prog:bO}{w:bV}{A:cw}{E:az->aF->Prop}{s:aF}{κ:gP}{In:cF->Prop}{rk:cF->Nat}{a b:KA}{T:List cF}
abbrev Hi(rk:cF->Nat)(a b:KA)(T:List cF)(o:KA)(i j:Nat):Prop:=ML (gr rk) T o.toList (rv a i)<|rv b j
structure Ih(rk:cF->Nat)(a b:KA)(T:List cF)(o:KA)(i j:Nat):Prop where
 m:Hi rk a b T o i j
 i0:0<i
 i1:i<=a.size
 j0:1<j
 j1:j<=b.size
 z:o.size+i+j=a.size+b.size
def zh(h:l.Perm T/\Srt (gr rk) l)(e:r.toList=l.reverse):Res rk T r:=by
 unfold Res;rw[e];exact#[(ee l).trans h.1,eN.mpr h.2]
def Zb9(h:Hi rk a b T o i j)(hi:(i == 0)=ak):Res rk T (dh a b o i j):=by
 cases beq_iff_eq.mp hi;refine zh (ML.fin h.swap) ?_;simp
def Zh7(h:Hi rk a b T o i j)(hj:(j == 0)=ak):Res rk T (dh a b o i j):=by
 cases beq_iff_eq.mp hj;refine zh (ML.fin h) ?_;simp
def Gg(fs:∀x∈a.toList,∀y∈b.toList.take 1,rk y<rk x)(h:Hi rk a b T o i j)(hj:(j == 1)=ak):Res rk T (fh a b o i j):=by
 cases beq_iff_eq.mp hj;have:=(ML.as (by rw[cf];exact h) λx hx y hy=>fs x (dg<|eF.mp hx) y<|eF.mp hy).swap.fin
 refine zh this ?_;simp
def Zb6(h:Hi rk a b T o i j)(i0:0<i)(i1:i<=a.size)(hx:∀y∈rv b j,rk y<rk a[i-1]):Hi rk a b T (o.push a[i-1]) (i-1) j:=by
 unfold Hi at h ⊢;rw[Vc i0 i1]at h;rw[fb];exact ML.as h λx hx' y hy'=>by rw[aZ.mp hx'];exact hx y hy'
def Zek(h:Hi rk a b T o i j)(j0:0<j)(j1:j<=b.size)(hx:∀y∈rv a i,rk y<rk b[j-1]):Hi rk a b T (o.push b[j-1]) i (j-1):=by
 unfold Hi at h ⊢;rw[Vc j0 j1]at h;rw[fb];exact ML.bs h λx hx' y hy'=>by rw[aZ.mp hx'];exact hx y hy'
def vt{x y:cF}(h:Srt (gr rk) (x::l))(hx:rk x<rk y):∀z∈x::l,rk z<rk y:=λz hz=>by
 rcases aw.mp hz with rfl|hz
 .exact hx
 .exact dm ((bj.mp h).1 z hz) hx
theorem vp(O:Od prog w A E s κ In rk){n:Nat}(hk:kindOf τ=κ)(ik:In k)(hn:0<n)(h1:n<=ar.size)(ia:∀x∈ar.toList,In x)(so:Srt (gr rk) (rv ar n))(ne:∀x∈rv ar n,rk x≠rk k)
  (hq:∀r,r<=n->(∀x∈rv ar r,rk x<rk k)->(∀x∈((ar.toList.take n).drop r).reverse,rk k<rk x)->Q (aa r) τ):mI (aR prog w) A E s (Yu lf k ar 0 n<|n-1) Q τ:=by
 refine vS O hk ik (Nat.sub_lt hn Nat.one_pos) #[0] ia (eN.mp so) (λx hx=>ne x<|eF.mpr hx) λr h2 h3 h4=>hq r h2 (λx hx=>h3 x ?_) λx hx=>h4 x<|eF.mp hx
 rw[pY,gX h2];exact(eF.mp hx)
def UG{a:KA}(i0:0<i)(i1:i<=a.size):a[i-1]∈rv a i:=by rw[Vc i0 i1];exact al ..
def yE(h:x∈rv a i):x∈a.toList:=dg<|eF.mp h
section
variable(O:Od prog w A E s κ In rk)(G:Mg κ In rk a b T)(fs:∀x∈a.toList,∀y∈b.toList.take 1,rk y<rk x)
include O G fs
theorem ZgQ{g ca cb:Nat}{τ:eK}(hk:kindOf τ=κ)(I:Ih rk a b T o i j)
  (hd:∀r c,Res rk T r->Q (.done (aa r,c)) τ)(hb:∀o' i' j' ca cb,Ih rk a b T o' i' j'->o'.size=o.size+1->Q (.done (ai,i',j',o',ca,cb)) τ/\Q (.yield (ai,i',j',o',ca,cb)) τ):mI (aR prog w) A E s (H1 a b g (r0,i,j,o,ca,cb)) Q τ:=by
 obtain⟨m,i0,i1,j0,j1,z⟩:=I;have j0':=d9 j0;have hja:j-1<b.size:=by lia
 have hia:i-1<a.size:=by lia
 have ha:=UG i0 i1;have hb':=UG j0' j1;have sa:=m.sa;have sb:=m.sb;rw[Vc i0 i1]at sa;rw[Vc j0' j1]at sb;refine aJ<|ZL (ZS hja)<|aJ<|ZL (ZS hia)<|aJ<|O.ask (G.ib _<|yE hb') (G.ia _<|yE ha) hk ?_;by_cases c:rk b[j-1]<rk a[i-1]
 .rw[T5 c]
  refine aJ<|ZL (ZS hia) ?_;have m:=Zb6 m i0 i1 (by rw[Vc j0' j1];exact vt sb c)
  have z':(o.push a[i-1]).size=o.size+1:=eg ..;refine ZJ (λq=>aT<|hd _ _<|Zb9 m q) λq=>?_
  have q:i-1≠0:=λz=>q<|beq_iff_eq.mpr z
  have h:=hb _ _ _ (ca+1) 0 #[m,by lia,by lia,j0,j1,by lia] z'
  exact ZJ (λ_=>aT h.1) λ_=>aT h.2
 .rw[T4 c]
  refine aJ<|ZL (ZS hja) ?_;have c':=fJ (d3 c)<|m.ne G.nd ha hb';have m:=Zek m j0' j1 (by rw[Vc i0 i1];exact vt sa c')
  have z':(o.push b[j-1]).size=o.size+1:=eg ..;refine ZJ (λq=>aT<|hd _ _<|Gg fs m q) λq=>?_
  have h:=hb _ _ _ 0 (cb+1) #[m,i0,i1,by lia,by lia,by lia] z'
  exact ZJ (λ_=>aT h.1) λ_=>aT h.2
theorem Zev(I:Ih rk a b T o i j)(hx:∀y∈rv b j,rk y<rk (a[i-1]'(by have:=I.i0;have:=I.i1;lia)))
  (hd:∀r c,Res rk T r->Q (.done (aa r,c)) τ)(hb:∀o' i' j' g ca cb,Ih rk a b T o' i' j'->o'.size=o.size+1->Q (.done (ai,i',j',o',g,ca,cb)) τ/\Q (.yield (ai,i',j',o',g,ca,cb)) τ):mI (aR prog w) A E s (K3 a b g ca cb i o j) Q τ:=by
 obtain⟨m,i0,i1,j0,j1,z⟩:=I;refine aJ<|ZL (ZS<|by lia) ?_
 have m:=Zb6 m i0 i1 hx;have z':(o.push a[i-1]).size=o.size+1:=eg ..;refine ZJ (λq=>aT<|hd _ _<|Zb9 m q) λq=>?_
 have h:=hb _ _ _ g ca cb #[m,by lia,by lia,j0,j1,by lia] z'
 exact ZJ (λ_=>aT h.1) λ_=>aT h.2
theorem Zeo{τ:eK}(hk:kindOf τ=κ)(I:Ih rk a b T o i j)(hy:∀y∈rv a i,rk y<rk (b[j-1]'(by have:=I.j0;have:=I.j1;lia)))
  (hd:∀r c,Res rk T r->Q (.done (aa r,c)) τ)(hb:∀o' i' j' g ca cb,Ih rk a b T o' i' j'->o.size<o'.size->Q (.done (ai,i',j',o',g,ca,cb)) τ/\Q (.yield (ai,i',j',o',g,ca,cb)) τ):mI (aR prog w) A E s (K2 a b g ca cb j o i) Q τ:=by
 obtain⟨m,i0,i1,j0,j1,z⟩:=I;unfold K2;refine aJ<|ZL (ZS<|by lia) ?_
 have m:=Zek m (d9 j0) j1 hy;have z':(o.push b[j-1]).size=o.size+1:=eg ..;refine ZJ (λq=>aT<|hd _ _<|Gg fs m q) λq=>?_
 have ha:=UG i0 i1;refine aJ<|ZL (ZS<|by lia)<|aJ<|vp O hk (G.ia _<|yE ha) #[0] #[0] G.ib m.sb (λy hy=>(m.ne G.nd ha hy).symm) λr hr h1 h2=>?_
 refine ZJ (λc=>?_) λc=>?_
 .have m2:Hi rk a b T (o.push b[j-1]++(b.extract r<|j-1).reverse) i r:=by
   unfold Hi;rw[bZ,mS,Zav];refine ML.bs ?_ λy hy x hx=>?_
   .rw[<-jI hr];exact m
   .have sa:=m.sa
    rw[Vc i0 i1]at sa hx;exact vt sa (h2 y hy) x hx
  have z2:(o.push b[j-1]++(b.extract r<|j-1).reverse).size=o.size+1+(j-1-r):=by rw[iz,z',nU,fk #[0]]
  refine ZJ (λq=>aT<|hd _ _<|Gg fs m2 q) λq1=>ZJ (λq=>aT<|hd _ _<|Zh7 m2 q) λq2=>?_
  have q1:=λz=>q1<|beq_iff_eq.mpr z
  exact Zev O G fs #[m2,i0,i1,by lia,by lia,by lia] h1 hd λo' i' j' g ca cb I e=>hb o' i' j' g ca cb I #[0]
 .have e:r=j-1:=by lia
  subst e;exact Zev O G fs #[m,i0,i1,by lia,by lia,by lia] h1 hd λo' i' j' g ca cb I e=>hb o' i' j' g ca cb I #[0]
theorem ZeH{g ca cb:Nat}{τ:eK}(hk:kindOf τ=κ)(I:Ih rk a b T o i j)
  (hd:∀r c st',Sg τ st'->Res rk T r->Q (.done (aa r,c)) st')(hb:∀o' i' j' g ca cb st',Sg τ st'->Ih rk a b T o' i' j'->o.size<o'.size->Q (.done (ai,i',j',o',g,ca,cb)) st'/\Q (.yield (ai,i',j',o',g,ca,cb)) st'):mI (aR prog w) A E s (K1 a b o i j ca cb g) Q τ:=by
 obtain⟨m,i0,i1,j0,j1,z⟩:=I;have j0':=d9 j0;have hb':=UG j0' j1;refine aJ<|UH λst' sg=>aJ<|ZL (ZS<|by lia)<|aJ<|vp O (sg.1.trans hk) (G.ib _<|yE hb') i0 i1 G.ia m.sa (λx hx=>m.ne G.nd hx hb') λr hr h1 h2=>?_
 refine ZJ (λc=>?_) λc=>?_
 .have m2:Hi rk a b T (o++(a.extract r i).reverse) r j:=by
   unfold Hi;rw[bZ,mS,Zav];refine ML.as ?_ λx hx y hy=>?_
   .rw[<-jI hr];exact m
   .have sb:=m.sb
    rw[Vc j0' j1]at sb hy;exact vt sb (h2 x hx) y hy
  have z2:(o++(a.extract r i).reverse).size=o.size+(i-r):=by rw[iz,nU,fk #[0]]
  refine ZJ (λq=>aT<|hd _ _ st' sg<|Zb9 m2 q) λq=>?_
  have q:=λz=>q<|beq_iff_eq.mpr z
  exact Zeo O G fs (sg.1.trans hk) #[m2,by lia,by lia,j0,j1,by lia] h1 (λr c=>hd r c st' sg) λo' i' j' g ca cb I e=>hb o' i' j' g ca cb st' sg I #[0]
 .have e:r=i:=by lia
  subst e;exact Zeo O G fs (sg.1.trans hk) #[m,i0,i1,j0,j1,z] h1 (λr c=>hd r c st' sg) λo' i' j' g ca cb I e=>hb o' i' j' g ca cb st' sg I #[0]
theorem Zhb(hk:kindOf τ=κ)(I:Ih rk a b T o i j)
  (hd:∀r c st',Sg τ st'->Res rk T r->Q (.done (aa r,c)) st')(hb:∀o' i' j' g ca cb st',Sg τ st'->Ih rk a b T o' i' j'->o.size<o'.size->Q (.done (ai,i',j',o',g,ca,cb)) st'/\Q (.yield (ai,i',j',o',g,ca,cb)) st'):mI (aR prog w) A E s (H2 a b (r0,i,j,o,g,ca,cb)) Q τ:=by
 exact ZJ (λ_=>ZeH O G fs hk I hd hb) λ_=>ZeH O G fs hk I hd hb
theorem Zhj{τ:eK}(hk:kindOf τ=κ)(I:Ih rk a b T o i j)
  (hd:∀r c st',Sg τ st'->Res rk T r->Q (.done (aa r,c)) st')(hy:∀o' i' j' g st',Sg τ st'->Ih rk a b T o' i' j'->o.size<o'.size->Q (.yield (ai,i',j',o',g)) st'):mI (aR prog w) A E s (TT (a.size+b.size) (H1 a b) (H2 a b) (r0,i,j,o,g)) Q τ:=by
 refine aJ (eX (cI
  (I:=λx (c:U2) st'=>st'=τ/\c.1=ai/\Ih rk a b T c.2.2.2.1 c.2.1 c.2.2.1/\o.size+x<=c.2.2.2.1.size)
  (Q:=λ(c:U2) st'=>st'=τ/\((∃r,c.1=aa r/\Res rk T r)\/c.1=ai/\Ih rk a b T c.2.2.2.1 c.2.1 c.2.2.1/\o.size<c.2.2.2.1.size)) ?_ ?_ #[rfl,rfl,I,aI _]) ?_)
 .rintro x ⟨r,i',j',o',ca,cb⟩ st' _ _ ⟨rfl,rfl,I',hz⟩
  exact ZgQ O G fs hk I' (λr c h=>#[rfl,.inl #[r,rfl,h]]) λo2 i2 j2 ca cb I2 e=>#[#[rfl,.inr #[rfl,I2,by dsimp only at hz ⊢;lia]],rfl,rfl,I2,by dsimp only at hz ⊢;lia]
 .rintro ⟨r,i',j',o',ca,cb⟩ st' ⟨rfl,rfl,I',hz⟩
  have:=I'.i0;have:=I'.j0;have:=I'.z;lia
 .rintro ⟨r,i',j',o',ca,cb⟩ st' ⟨rfl,⟨r',rfl,h⟩|⟨rfl,I',hz⟩⟩
  .exact aT<|hd _ _ _ #[rfl,rfl,rfl,rfl] h
  .dsimp only at I' hz
   refine aJ (WH (aJ (eX (cI
    (I:=λx (c:U3) st''=>Sg st' st''/\c.1=ai/\Ih rk a b T c.2.2.2.1 c.2.1 c.2.2.1/\o'.size+x<=c.2.2.2.1.size)
    (Q:=λ(c:U3) st''=>Sg st' st''/\((∃r,c.1=aa r/\Res rk T r)\/c.1=ai/\Ih rk a b T c.2.2.2.1 c.2.1 c.2.2.1/\o'.size<c.2.2.2.1.size)) ?_ ?_ #[#[rfl,rfl,rfl,rfl],rfl,I',aI _]) ?_)))
   .rintro x ⟨r,i2,j2,o2,g,ca,cb⟩ st2 _ _ ⟨sg,rfl,I2,hz2⟩
    exact Zhb O G fs (sg.1.trans hk) I2 (λr c st3 s3 h=>#[sg.trans s3,.inl #[r,rfl,h]]) λo3 i3 j3 g ca cb st3 s3 I3 e=>#[#[sg.trans s3,.inr #[rfl,I3,by dsimp only;lia]],sg.trans s3,rfl,I3,by dsimp only;lia]
   .rintro ⟨r,i2,j2,o2,g,ca,cb⟩ st2 ⟨sg,rfl,I2,hz2⟩
    have:=I2.i0;have:=I2.j0;have:=I2.z;lia
   .rintro ⟨r,i2,j2,o2,g,ca,cb⟩ st2 ⟨sg,⟨r',rfl,h⟩|⟨rfl,I2,hz2⟩⟩
    .exact aT<|hd _ _ _ sg h
    .exact aJ<|UH λst3 s3=>aT<|hy _ _ _ _ _ (sg.trans s3) I2<|dm hz hz2
theorem wB{Q:KA->eK->Prop}(hk:kindOf τ=κ)(ha:0<a.size)(hb:0<b.size)(sa:Srt (lr rk) a.toList)(sb:Srt (lr rk) b.toList)(hT:(a.toList++b.toList).Perm T)
  (hq:∀r st',Sg τ st'->Res rk T r->Q r st'):mI (aR prog w) A E s (Qd a b) Q τ:=by
 rw[zK];refine aJ<|WH<|aJ<|ZL (ZS<|by lia) ?_
 have ea:rv a a.size=a.toList.reverse:=by show(a.toList.take a.size).reverse=_;rw[<-aN,gB]
 have eb:rv b b.size=b.toList.reverse:=by show(b.toList.take b.size).reverse=_;rw[<-aN,gB]
 have m0:Hi rk a b T #[] a.size b.size:=by
  unfold Hi;rw[ea,eb];exact#[by simpa using((ee _).append<|ee _).trans hT,.nil,eN.mpr sa,eN.mpr sb,λx hx=>by cases hx]
 have m:=Zb6 m0 ha (aI _) λy hy=>G.last y (yE hy) _ (by rw[Yh #[0]];exact al ..)
 have sg0:Sg τ τ:=#[rfl,rfl,rfl,rfl];refine ZJ (λq=>aT<|hq _ _ sg0<|Zb9 m q) λq1=>ZJ (λq=>aT<|hq _ _ sg0<|Gg fs m q) λq2=>?_
 refine aJ (iA (aJ (eX (cI
  (I:=λx (c:U1) st''=>Sg τ st''/\c.1=ai/\Ih rk a b T c.2.2.2.1 c.2.1 c.2.2.1/\x<=c.2.2.2.1.size)
  (Q:=λ(c:U1) st''=>Sg τ st''/\∃r,c.1=aa r/\Res rk T r) ?_ ?_ #[sg0,rfl,#[m,by dsimp only;lia,by dsimp only;lia,by dsimp only;lia,aI _,by show 1+(a.size-1)+b.size=_;lia],db _]) ?_)))
 .rintro x ⟨r,i,j,o,g⟩ st2 _ _ ⟨sg,rfl,I,hz⟩
  dsimp only at I hz
  exact Zhj O G fs (sg.1.trans hk) I (λr c st3 s3 h=>#[sg.trans s3,r,rfl,h]) λo3 i3 j3 g st3 s3 I3 e=>#[sg.trans s3,rfl,I3,by dsimp only;lia]
 .rintro ⟨r,i,j,o,g⟩ st2 ⟨sg,rfl,I,hz⟩
  have:=I.i0;have:=I.j0;have:=I.z;lia
 .rintro ⟨r,i,j,o,g⟩ st2 ⟨sg,r',rfl,h⟩
  exact aT<|hq _ _ sg h
end
end
noncomputable def Kr(rk:cF->Nat)(xs:Array cF)(i:Nat):Nat:=match xs[i]? with
 |some p=>rk p
 |none=>0
def Vq(h:xs[i]?=ys[j]?):Kr rk xs i=Kr rk ys j:=by unfold Kr;rw[h]
structure Sb(κ:gP)(a₀:Array cF)(P:Array (Nat×Nat×Nat))(lo:Nat)(L:List cF)(τ:eK):Prop where
 kd:kindOf τ=κ
 pm:(bf τ).Perm a₀
 fl:gQ τ=ai
 pd:bh τ=P
 ah:(bf τ).toList.take lo=L
def Up(rk:cF->Nat)(xs:Array cF)(lo m:Nat):Prop:=∀i j,lo<=i->i<j->j<lo+m->Kr rk xs i<Kr rk xs j
def Dn(rk:cF->Nat)(xs:Array cF)(lo m:Nat):Prop:=∀i j,lo<=i->i<j->j<lo+m->Kr rk xs j<Kr rk xs i
section
variable{κ:gP}{a₀:Array cF}{P:Array (Nat×Nat×Nat)}{lo:Nat}{L:List cF}{τ:eK}{In:cF->Prop}{rk:cF->Nat}
theorem Sb.size(h:Sb κ a₀ P lo L τ):(bf τ).size=a₀.size:=h.pm.size_eq
def Sb.in(h:Sb κ a₀ P lo L τ)(ia:∀x∈a₀.toList,In x):∀x∈(bf τ).toList,In x:=λx hx=>ia x<|(bz.mp h.pm).mem_iff.mp hx
def zE(hi):Kr rk xs i=rk xs[i]:=by unfold Kr;rw[bn hi]
theorem Sb.ne(h:Sb κ a₀ P lo L τ)(nd:(a₀.toList.map rk).Nodup)(hi:i<a₀.size)(hj:j<a₀.size)(e:Kr rk (bf τ) i=Kr rk (bf τ) j):i=j:=by
 have hs:=h.size;have g:∀k,k<a₀.size->((bf τ).toList.map rk)[k]?=aa (Kr rk (bf τ) k):=λk hk=>by
  rw[aK,bo,bn #[0],zE #[0]];rfl
 exact(iB (by rw[ax,aN];lia)<|(((bz.mp h.pm).map rk).nodup_iff).mpr nd).mp (by rw[g i hi,g j hj,e])
def Sb.setA(h:Sb κ a₀ P lo L τ)(hp:xs.Perm (bf τ))(hf:∀k,k<lo->xs[k]?=(bf τ)[k]?):Sb κ a₀ P lo L (rZ τ xs):=
 #[h.kd,hp.trans h.pm,h.fl,h.pd,by
  rw[<-h.ah];refine bW λk=>?_
  rw[cD,cD];split
  .rw[bo,bo];exact hf k ‹_›
  .rfl]
variable{prog:bO}{w:bV}{A:cw}{E:az->aF->Prop}{s:aF}
theorem JA(O:Od prog w A E s κ In rk)(h:Sb κ a₀ P lo L τ)(ia:∀x∈a₀.toList,In x)(hi:i<a₀.size)(hj:j<a₀.size)(q:Q (aa<|ag<|Kr rk (bf τ) i<Kr rk (bf τ) j) τ):mI (aR prog w) A E s (ltAt' i j) Q τ:=by
 have hs:=h.size;have m:∀k (hk:k<(bf τ).size),In (bf τ)[k]:=λk hk=>h.in ia _ #[2]
 rw[ltAt'_eq];refine aJ<|iA ?_;refine aJ<|ZL (ZS<|by lia)<|aJ<|ZL (ZS<|by lia) ?_
 rw[zE #[0],zE<|by lia]at q
 exact O.ask (m i _) (m j _) h.kd q
theorem Zfl(xs):Up rk xs lo 1:=λi j a b c=>by lia
theorem Zcd(h1:1<=m)(u:Up rk xs lo m)(c:Kr rk xs (lo+m-1)<Kr rk xs (lo+m)):Up rk xs lo (m+1):=λi j a b d=>by
 by_cases z:j=lo+m
 .subst z
  by_cases y:i=lo+m-1
  .rw[y];exact c
  .exact dm (u i (lo+m-1) a #[0]<|by lia) c
 .exact u i j a b #[0]
theorem Zca(h1:1<=m)(u:Dn rk xs lo m)(c:Kr rk xs (lo+m)<Kr rk xs (lo+m-1)):Dn rk xs lo (m+1):=λi j a b d=>by
 by_cases z:j=lo+m
 .subst z
  by_cases y:i=lo+m-1
  .rw[y];exact c
  .exact dm c<|u i (lo+m-1) a #[0] #[0]
 .exact u i j a b #[0]
theorem ZaA(O:Od prog w A E s κ In rk)(ia:∀x∈a₀.toList,In x)(nd:(a₀.toList.map rk).Nodup) 
  (hF:∀i m Q,1<=m->m<nrem->(Kr rk (bf τ) (lo+m)<Kr rk (bf τ) (lo+m-1)->Q (.done (ai,m)) τ)->(¬Kr rk (bf τ) (lo+m)<Kr rk (bf τ) (lo+m-1)->Q (.yield (ai,m+1)) τ)->mI (aR prog w) A E s (F i (ai,m)) Q τ)
  (hn:lo+nrem<=a₀.size)(h1:1<=n0)(hl:n0<=nrem)(hB:Sb κ a₀ P lo L τ)(u:Up rk (bf τ) lo n0)
  (q:∀m,n0<=m->m<=nrem->Up rk (bf τ) lo m->(m<nrem->Kr rk (bf τ) (lo+m)<Kr rk (bf τ) (lo+m-1))->Q (ai,m) τ):mI (aR prog w) A E s (mP [n0:nrem] ((ai,n0):AscSt) F) Q τ:=by
 refine cI (I:=λi c st'=>st'=τ/\c=(ai,i)/\Up rk (bf τ) lo i) ?_ ?_ #[rfl,rfl,u]
 .rintro i c st' ha hb ⟨rfl,rfl,u⟩
  refine hF i i _ #[0] hb (λc=>q i ha #[0] u λ_=>c) λc=>#[rfl,rfl,Zcd #[0] u ?_]
  have:Kr rk (bf st') (lo+i-1)≠Kr rk (bf st') (lo+i):=λe=>by
   have:=hB.ne nd #[0] #[0] e
   lia
  lia
 .rintro c st' ⟨rfl,rfl,u⟩
  have e:max n0 nrem=nrem:=lK #[0]
  rw[e]at u ⊢;exact q nrem hl (aI _) u λz=>T7 z<|bv _
theorem ZbN(O:Od prog w A E s κ In rk)(ia:∀x∈a₀.toList,In x)(nd:(a₀.toList.map rk).Nodup)(hn:lo+nrem<=a₀.size)(h1:1<=nrem)(hB:Sb κ a₀ P lo L τ)
  (q:∀m st',Sb κ a₀ P lo L st'->1<=m->m<=nrem->Up rk (bf st') lo m->Q (aa m) st'):mI (aR prog w) A E s (countRun' lo nrem) Q τ:=by
 rw[countRun'_eq];refine aJ<|ZaA O ia nd (λi m Q a b k1 k2=>?_) hn (aI _) h1 hB (Zfl _) λm m1 m2 u c=>?_
 .refine aJ (JA O hB ia (by dsimp only;lia) (by dsimp only;lia) ?_)
  dsimp only
  split
  .exact aT<|k1<|T6 ‹_›
  .exact aT<|k2 λz=>‹¬_› (T5 z)
 dsimp only
 by_cases e:m=nrem
 .rw[T9 (by simpa using e)]
  exact aT<|q m τ hB m1 m2 u
 rw[T8 (by simpa using e)]
 by_cases c1:m>1
 .rw[T9 c1]
  refine aJ<|JA O hB ia #[0] #[0] ?_
  dsimp only
  rw[T9<|T5<|u lo (lo+m-1) (aI _) #[0] #[0]]
  exact aT<|q m τ hB m1 m2 u
 rw[T8 c1];obtain rfl:m=1:=by lia
 refine aJ<|WH ?_;have nl:∀i j,i<a₀.size->j<a₀.size->i≠j->¬Kr rk (bf τ) i<Kr rk (bf τ) j->Kr rk (bf τ) j<Kr rk (bf τ) i:=λi j hi hj ne c=>by
  have:Kr rk (bf τ) i≠Kr rk (bf τ) j:=λe=>ne<|hB.ne nd hi hj e
  lia
 have d2:Dn rk (bf τ) lo 2:=λi j a b d=>by
  obtain⟨rfl,rfl⟩:i=lo/\j=lo+1:=by lia
  exact c #[0]
 refine aJ<|eX (cI (I:=λi c st'=>st'=τ/\c=(ai,i,0)/\Dn rk (bf τ) lo i) (Q:=λc st'=>st'=τ/\∃i,c=(ai,i,0)/\2<=i/\i<=nrem/\Dn rk (bf τ) lo i) ?_ ?_ #[rfl,rfl,d2]) ?_
 .rintro i c st' ha hb ⟨rfl,rfl,u⟩
  refine aJ<|JA O hB ia #[0] #[0] ?_
  dsimp only
  split
  .rw[T8<|bv 0]
   exact aT #[rfl,rfl,Zca #[0] u<|T6 ‹_›]
  .refine aJ (JA O hB ia #[0] #[0] ?_)
   dsimp only
   rw[T9<|T5<|nl (lo+i) (lo+i-1) #[0] #[0] #[0] λz=>‹¬_› (T5 z)]
   exact aT #[rfl,i,rfl,by lia,by lia,u]
 .rintro c st' ⟨rfl,rfl,u⟩
  have e:max (1+1) nrem=nrem:=lK #[0]
  rw[e]at u ⊢;exact#[rfl,nrem,rfl,by lia,aI _,u]
 .rintro c st' ⟨rfl,i,rfl,h2,hi,u⟩
  dsimp only
  rw[T8<|bv 0];refine aJ<|wpS_reverse ?_;have hs:=hB.size;have gm:=λk=>getElem?_mirror_all (xs:=bf st') (i:=lo) (j:=lo+i) #[0] k
  have hB2:=hB.setA (mirror_perm ..) λk hk=>by
   rw[gm k,T8 #[0]]
  have u2:Up rk (mirror (bf st') lo (lo+i)<|(lo+i-lo) / 2) lo i:=λa b h1 h2 h3=>by
   have e:∀k,lo<=k->k<lo+i->Kr rk (mirror (bf st') lo (lo+i)<|(lo+i-lo) / 2) k=Kr rk (bf st') (lo+(lo+i-1-k)):=λk ka kb=>Vq (by rw[gm k,T9 #[ka,kb],Nat.sub_sub,Nat.sub_sub,Nat.add_sub_assoc #[0]])
   rw[e a h1 #[0],e b #[0] h3]
   exact u _ _ (dG ..) (Nat.add_lt_add_left (Nat.sub_lt_sub_left (bi h2<|Nat.le_sub_one_of_lt h3) h2) _) #[0]
  refine aJ<|ZaA O ia nd (τ:=rZ st'<|mirror (bf st') lo (lo+i)<|(lo+i-lo) / 2) (λi m Q a b k1 k2=>?_) hn #[0] hi hB2 u2 λm m1 m2 u c=>?_
  .refine aJ (JA O hB2 ia (by dsimp only;lia) (by dsimp only;lia) ?_)
   dsimp only
   split
   .exact aT<|k1<|T6 ‹_›
   .exact aT<|k2 λz=>‹¬_› (T5 z)
  .exact aT<|q m _ hB2 #[0] m2 u
theorem ZdE(O:Od prog w A E s κ In rk)(ia:∀x∈a₀.toList,In x)(nd:(a₀.toList.map rk).Nodup)(hn:lo+n<=a₀.size)(h1:1<=ok)(hok:ok<=n)(hB:Sb κ a₀ P lo L τ)(u:Up rk (bf τ) lo ok)
  (q:∀st',Sb κ a₀ P lo L st'->Up rk (bf st') lo n->Q ak st'):mI (aR prog w) A E s (binarySort' lo n ok) Q τ:=by
 rw[binarySort'_eq];refine aJ<|eX (cI (I:=λk c st'=>c=(ai,())/\Sb κ a₀ P lo L st'/\Up rk (bf st') lo k) (Q:=λc st'=>c=(ai,())/\Sb κ a₀ P lo L st'/\Up rk (bf st') lo n) ?_ ?_ #[rfl,hB,by rw[pL h1];exact u]) ?_
 .rintro k c st' ha hb ⟨rfl,B,u⟩
  have hs:=B.size;refine aJ (eX (cI (I:=λx c st2=>st2=st'/\∃l r,c=(ai,l,r)/\l<=r/\r<=k/\r+x<=k+l/\(∀i,i<l->Kr rk (bf st') (lo+i)<Kr rk (bf st') (lo+k))/\∀i,r<=i->i<k->Kr rk (bf st') (lo+k)<Kr rk (bf st') (lo+i))
   (Q:=λc st2=>st2=st'/\∃l r,c=(ai,l,r)/\l<=k/\(∀i,i<l->Kr rk (bf st') (lo+i)<Kr rk (bf st') (lo+k))/\∀i,l<=i->i<k->Kr rk (bf st') (lo+k)<Kr rk (bf st') (lo+i)) ?_ ?_ #[rfl,0,k,rfl,by lia,by lia,by lia,λi hi=>by lia,λi a b=>by lia]) ?_)
  .rintro x c st2 _ hx ⟨rfl,l,r,rfl,g1,g2,g3,g4,g5⟩
   by_cases c:l>=r
   .rw[T9 c]
    exact aT #[rfl,l,r,rfl,by lia,g4,λi a b=>g5 i #[0] b]
   .rw[T8 c]
    have m1:l<=(l+r) / 2:=by lia
    have m2:(l+r) / 2<r:=by lia
    generalize (l+r) / 2=m at *;refine aJ<|JA O B ia #[0] #[0] ?_
    dsimp only
    split
    .have cm:=T6 ‹_›
     refine aT #[rfl,l,m,rfl,by lia,by lia,by lia,g4,λi a b=>?_]
     by_cases y:i=m
     .rw[y];exact cm
     .exact dm cm<|u _ _ #[0] #[0] #[0]
    .have cm:Kr rk (bf st2) (lo+m)<Kr rk (bf st2) (lo+k):=by
      have:Kr rk (bf st2) (lo+k)≠Kr rk (bf st2) (lo+m):=λe=>by
       have:=B.ne nd #[0] #[0] e
       lia
      lia
     refine aT #[rfl,m+1,r,rfl,by lia,by lia,by lia,λi a=>?_,g5]
     by_cases y:i=m
     .rw[y];exact cm
     .exact dm (u _ _ #[0] #[0]<|by lia) cm
  .rintro c st2 ⟨rfl,l,r,rfl,g1,g2,g3,g4,g5⟩
   exact#[rfl,l,r,rfl,by lia,g4,λi a b=>g5 i #[0] b]
  .rintro c st2 ⟨rfl,l,r,rfl,g2,g4,g5⟩
   dsimp only
   rw[moveDown'_eq];refine aJ<|fK<|aT ?_;have gb:=λi=>getElem?_bubble (xs:=bf st2) (src:=lo+k) #[0] (lo+k-(lo+l)) #[0] i
   rw[Nat.sub_sub_self<|Nat.add_le_add_left g2 lo]at gb;refine#[rfl,B.setA (bubble_perm ..) λi hi=>?_,λi j a b d=>?_]
   .rw[gb i,T8 #[0],T8 #[0]]
   .have e:∀i,Kr rk (bubble (bf st2) (lo+k)<|lo+k-(lo+l)) i=if i=lo+l then Kr rk (bf st2) (lo+k)else if lo+l<i/\i<=lo+k then Kr rk (bf st2) (i-1)else Kr rk (bf st2) i:=λi=>by
     have h:=gb i;split at h
     .rw[T9 ‹_›];exact Vq h
     .rw[T8 ‹_›]
      split at h
      .rw[T9 ‹_›];exact Vq h
      .rw[T8 ‹_›];exact Vq h
    show Kr rk (bubble _ _ _) i<Kr rk (bubble _ _ _) j;rw[e i,e j];have low:∀x,lo<=x->x<lo+l->Kr rk (bf st2) x<Kr rk (bf st2) (lo+k):=λx a b=>by
     obtain⟨y,rfl⟩:=lL a;exact g4 y<|kY b
    have high:∀x,lo+l<=x->x<lo+k->Kr rk (bf st2) (lo+k)<Kr rk (bf st2) x:=λx a b=>by
     obtain⟨y,rfl⟩:=lL<|Nat.le_of_add_right_le a;exact g5 y (Nat.le_of_add_le_add_left a)<|kY b
    by_cases ci:i=lo+l
    .rw[T9 ci,T8 #[0],T9 #[0]]
     exact high _ #[0] #[0]
    .rw[T8 ci]
     by_cases cj:j=lo+l
     .rw[T9 cj,T8 #[0]]
      exact low _ a #[0]
     .rw[T8 cj]
      by_cases di:lo+l<i/\i<=lo+k
      .rw[T9 di,T9 #[0]];exact u _ _ #[0] #[0] #[0]
      .rw[T8 di]
       by_cases dj:lo+l<j/\j<=lo+k
       .obtain⟨m,rfl⟩:=lN dj.1
        rw[T9 dj];exact u _ (lo+l+m) a #[0] #[0]
       .rw[T8 dj];exact u _ _ a b #[0]
 .rintro c st' ⟨rfl,B,u⟩
  have e:max (max ok 1) n=n:=by rw[pL h1,lK hok]
  rw[e]at u;exact#[rfl,B,u]
 .rintro c st' ⟨rfl,B,u⟩
  exact aT<|q st' B u
end
def yS(i):mergeAt' i=(do
 let t <-get
 let (aa (ia,ma,pw),aa (ib,mb,_)):=((bh t)[i]?,(bh t)[i+1]?)|unsupported "internal:list.sort.pending"
 set (hV t<|((bh t).setIfInBounds i (ia,ma+mb,pw)).eraseIdxIfInBounds<|i+1)
 let aa r <-Yu aj (<-gG (bf t) ib) (bf t) ia ma 0|return aj
 let (ja,la):=(ia+r,ma-r)
 if la == 0 then return ak
 let aa lb <-Yu ak (<-gG (bf t) (ja+la-1)) (bf t) ib mb (mb-1)|return aj
 if lb == 0 then return ak
 let u:=(bf t).extract ja ib
 let v:=(bf t).extract ib<|ib+lb
 let mg <-if la<=lb then QH u v else Qd u v
 modify λt=>rZ t<|mg.toList.zipIdx.foldl (λa (p,j)=>a.setIfInBounds (ja+j) p)<|bf t
 return (gQ<|<-get).isNone):=rfl
theorem zn(b):∀m j (a:Array cF),b+j+m.length<=a.size->((m.zipIdx j).foldl (λa q=>a.setIfInBounds (b+q.2) q.1) a).toList=a.toList.take (b+j)++m++a.toList.drop (b+j+m.length)
 |[],j,a,h=>by simp
 |x::r,j,a,h=>by
  rw[aV]at h;rw[o5,dk,zn b r (j+1) _ (by rw[Array.size_setIfInBounds];lia)]
  rw[kK,<-d7 b j 1,lj,List.take_set_of_le<|aI _,bc (by simpa using(by lia:b+j<a.size)),List.drop_set_of_lt #[0]]
  simp[d7,kj 1]
def Runs(rk:cF->Nat):List (Nat×Nat)->Nat->Nat->List cF->Prop
 |[],a,b,_=>a=b
 |(i,n)::r,a,b,l=>i=a/\1<=n/\Srt (lr rk) ((l.drop a).take n)/\Runs rk r (a+n) b l
section
theorem Runs.le:∀{r:List (Nat×Nat)}{a b:Nat}{l:List cF},Runs rk r a b l->a+r.length<=b
 |[],a,b,l,h=>mh h
 |(i,n)::r,a,b,l,#[_,h1,_,h]=>by have:=h.le;rw[aV];lia
theorem Runs.app:∀{r q:List (Nat×Nat)}{a b:Nat}{l:List cF},Runs rk (r++q) a b l↔∃c,Runs rk r a c l/\Runs rk q c b l
 |[],q,a,b,l=>#[λh=>#[a,rfl,h],λ#[c,h1,h2]=>by cases h1;exact h2]
 |(i,n)::r,q,a,b,l=>by
  constructor
  .rintro ⟨h1,h2,h3,h4⟩
   obtain⟨c,h5,h6⟩:=Runs.app.mp h4;exact#[c,#[h1,h2,h3,h5],h6]
  .rintro ⟨c,⟨h1,h2,h3,h4⟩,h5⟩
   exact#[h1,h2,h3,Runs.app.mpr #[c,h4,h5]]
theorem Runs.congr:∀{r:List (Nat×Nat)}{a b:Nat}{l l':List cF},Runs rk r a b l->(∀k,a<=k->k<b->l'[k]?=l[k]?)->Runs rk r a b l'
 |[],a,b,l,l',h,_=>h
 |(i,n)::r,a,b,l,l',#[h1,h2,h3,h4],e=>by
  have:=h4.le;refine#[h1,h2,?_,h4.congr λk ha hb=>e k #[0] hb]
  have:(l'.drop a).take n=(l.drop a).take n:=bW λk=>by
   rw[cD,cD,eL,eL];split
   .exact e _ #[0] #[0]
   .rfl
  rw[this];exact h3
def GE(hx:Srt (lr rk) x)(hy:Srt (lr rk) y)(h:∀a∈x,∀b∈y,rk a<rk b):Srt (lr rk) (x++y):=eY.mpr #[hx,hy,h]
structure Sc(κ:gP)(a₀:Array cF)(τ:eK):Prop where
 kd:kindOf τ=κ
 pm:(bf τ).Perm a₀
 fl:gQ τ=ai
variable{In:cF->Prop}
theorem wD(O:Od prog w A E s κ In rk)(ia:∀x∈a₀.toList,In x)(nd:(a₀.toList.map rk).Nodup)(h:Sc κ a₀ τ)(h1:(bh τ)[i]?=aa (a,na,pw))(h2:(bh τ)[i+1]?=aa (a+na,nb,qw))
  (hl:(bf τ).toList=U++(X++(Y++Z)))(lU:U.length=a)(lX:X.length=na)(lY:Y.length=nb)(xa:1<=na)(yb:1<=nb)(sx:Srt (lr rk) X)(sy:Srt (lr rk) Y)
  (q:∀st' M,Sc κ a₀ st'->bh st'=((bh τ).setIfInBounds i (a,na+nb,pw)).eraseIdxIfInBounds (i+1)->(bf st').toList=U++(M++Z)->M.length=na+nb->Srt (lr rk) M->Q ak st'):mI (aR prog w) A E s (mergeAt' i) Q τ:=by
 have hp:=bz.mp h.pm;have ial:=λx hx=>ia x<|hp.mem_iff.mp hx
 have ndl:=((hp.map rk).nodup_iff).mpr nd;have hsz:(bf τ).size=a+(na+(nb+Z.length)):=by rw[<-aN,hl];simp[lU,lX,lY]
 have dX:((bf τ).toList.drop a).take na=X:=by rw[hl,<-lU,kL,<-lX,kM]
 have dY:((bf τ).toList.drop<|a+na).take nb=Y:=by rw[hl,<-bE,<-lU,<-lX,<-aQ,kL,<-lY,kM]
 have ndXY:∀x∈X,∀y∈Y,rk x≠rk y:=λx hx y hy e=>by
  rw[hl,bT,eZ,bT,eZ]at ndl;exact ndl.2.1.2.2 _ (ei hx) _ (by rw[bT];exact da _<|ei hy) e
 have inX:∀x∈X,In x:=λx hx=>ial x (by rw[hl];simp[hx])
 have inY:∀y∈Y,In y:=λy hy=>ial y (by rw[hl];simp[hy])
 obtain⟨y0,Y',rfl⟩:∃y0 Y',Y=y0::Y':=by cases Y with|nil=>simp at lY;lia|cons y Y'=>exact#[y,Y',rfl]
 have e0:(bf τ)[a+na]?=aa y0:=by
  rw[<-bo,hl,<-bE,ck (by simp;lia)]
  simp[lU,lX]
 rw[yS];refine aJ<|iA ?_;rw[h1,h2]
 dsimp only
 refine aJ<|fK (f:=λ_=>hV τ<|((bh τ).setIfInBounds i (a,na+nb,pw)).eraseIdxIfInBounds<|i+1) ?_
 generalize hst:hV τ (((bh τ).setIfInBounds i (a,na+nb,pw)).eraseIdxIfInBounds<|i+1)=st1;have S1:Sc κ a₀ st1:=by rw[<-hst];exact#[h.kd,h.pm,h.fl]
 have P1:bh st1=((bh τ).setIfInBounds i (a,na+nb,pw)).eraseIdxIfInBounds (i+1):=by rw[<-hst]
 have A1:bf st1=bf τ:=by rw[<-hst]
 refine aJ<|ZL e0<|aJ<|vS O S1.kd (inY y0<|al ..) xa #[0] ial (by rw[dX];exact sx) (by rw[dX];exact λx hx=>ndXY x hx y0<|al ..) λr hr r1 r2=>?_
 rw[dX]at r1 r2
 dsimp only
 have lowY:∀x∈X.take r,∀y∈y0::Y',rk x<rk y:=λx hx y hy=>by
  rcases aw.mp hy with rfl|hy
  .exact r1 x hx
  .exact dm (r1 x hx)<|(bj.mp sy).1 y hy
 by_cases c:na-r=0
 .rw[T9 (by simpa using c)]
  have:X.take r=X:=cA #[0]
  rw[this]at lowY;exact aT<|q st1 (X++y0::Y') S1 P1 (by rw[A1,hl,bE]) (by rw[aQ,lX,lY])<|GE sx sy lowY
 rw[T8 (by simpa using c)]
 obtain⟨d,hd⟩:=lN<|Nat.lt_of_sub_ne_zero c;have n9:na-r=d+1:=by rw[hd,d7,bX]
 rw[n9];have hd':r+d<X.length:=by lia
 have exl:(bf τ)[a+r+(d+1)-1]?=X[r+d]?:=by
  show(bf τ)[a+r+d]?=_;rw[<-bo,hl,<-lU,d7,ck<|dG ..,bX,cx hd']
 have xl:X[r+d]?=aa (X[r+d]'hd'):=af _;generalize hx0:X[r+d]'hd'=x0 at xl;have mx0:x0∈X:=cO xl;have mx1:x0∈X.drop r:=cO (i:=d) (by rw[eL,<-xl])
 have maxX:∀x∈X,x=x0\/rk x<rk x0:=λx hx=>by
  obtain⟨k,hk,rfl⟩:=mT.mp hx;by_cases z:k=r+d
  .subst z;exact .inl hx0
  .refine .inr ?_;rw[<-hx0];exact bJ.mp sx k (r+d) hk hd' #[0]
 refine aJ<|ZL (exl.trans xl)<|aJ<|vS O S1.kd (inX x0 mx0) #[0] #[0] ial (by rw[dY];exact sy) (by rw[dY];exact λy hy=>Ne.symm<|ndXY x0 mx0 y hy) λt ht t1 t2=>?_
 rw[dY]at t1 t2
 dsimp only
 have t0:t≠0:=λz=>by
  subst z;have a1:=r2 x0 mx1;have a2:=t2 y0<|al ..;lia
 rw[T8 (by simpa using t0)]
 generalize hY:y0::Y'=Y at *;have eu:((bf τ).extract (a+r)<|a+na).toList=X.drop r:=by
  have:a+na=(a+r)+(d+1):=by lia
  rw[this,vx,<-kJ,hl,<-lU,kL,iZ #[0]]
  rw[show d+1=(X.drop r).length by rw[bF,lX,n9],kM]
 have ev:((bf τ).extract (a+na)<|a+na+t).toList=Y.take t:=by
  rw[vx,hl,<-bE,<-lU,<-lX,<-aQ,kL,i5 #[0]]
 generalize hu:(bf τ).extract (a+r) (a+na)=u at *;generalize hv:(bf τ).extract (a+na) (a+na+t)=v at *;have ul:u.size=d+1:=by rw[<-aN,eu,bF,lX,n9]
 clear n9;have vl:v.size=t:=by rw[<-aN,ev,fM #[0]]
 have su:Srt (lr rk) u.toList:=by rw[eu];exact sx.sublist<|List.drop_sublist ..
 have sv:Srt (lr rk) v.toList:=by rw[ev];exact sy.sublist<|oo ..
 have v0:∀x∈u.toList,rk (v[0]'#[0])<rk x:=λx hx=>by
  have:v.toList[0]?=aa y0:=by
   rw[ev,<-hY];obtain⟨t',rfl⟩:=Nat.exists_eq_succ_of_ne_zero t0;rfl
  have e:v[0]'#[0]=y0:=by
   rw[bo,bn<|by lia]at this
   exact ap this
  rw[e];exact r2 x (by rw[<-eu];exact hx)
 have G:Mg κ In rk u v (u.toList++v.toList):=by
  refine#[?_,λx hx=>inX x<|b9<|eu▸hx,λy hy=>inY y<|dg<|ev▸hy,λy hy x hx=>?_]
  .rw[bT,eZ]
   have nx:∀{z:List cF},Srt (lr rk) z->(z.map rk).Nodup:=λ{z} hz=>cZ.mpr<|hz.imp λhab=>a8 hab
   refine#[nx su,nx sv,λp hp p' hp' e=>?_]
   obtain⟨x,hx,rfl⟩:=aM.mp hp;obtain⟨y,hy,rfl⟩:=aM.mp hp';exact ndXY x (b9<|eu▸hx) y (dg<|ev▸hy) e
  .have hx:x=x0:=by
    rw[eu,ul,kJ,nV,bY hd',show r+d+1=X.length by lia,eD,aZ]at hx
    rw[hx];exact hx0
   rw[hx];exact t1 y (by rw[<-ev];exact hy)
 have fin:∀r' st',Sg st1 st'->Res rk (u.toList++v.toList) r'->mI (aR prog w) A E s (do
   modify λt=>rZ t<|r'.toList.zipIdx.foldl (λz (p,j)=>z.setIfInBounds (a+r+j) p)<|bf t
   return (gQ<|<-get).isNone) Q st':=λr' st' sg hr'=>by
  obtain⟨g1,g2,g3,g4⟩:=sg;obtain⟨k1,k2⟩:=hr';have rl:r'.toList.length=(d+1)+t:=by rw[k1.length_eq,aQ,aN,aN,ul,vl]
  refine aJ<|fK<|aJ<|iA<|aT ?_;have fo:=zn (a+r) r'.toList 0 (bf τ) #[0]
  have el:((r'.toList.zipIdx.foldl (λz (q:cF×Nat)=>z.setIfInBounds (a+r+q.2) q.1)<|bf τ).toList)=U++((X.take r++(r'.toList++Y.drop t))++Z):=by
   rw[fo,Nat.add_zero,hl,<-lU,List.take_append,o9,rl];have e2:U.length+r+(d+1+t)-U.length=na+t:=by rw[d7,bX,hd,<-d7,<-d7]
   rw[bX,e2,cA #[0],mi #[0],gT,i5 #[0],<-lX,o9,mi #[0],gT,bX,iZ #[0]]
   simp[bE]
  have hX:X.take r++X.drop r=X:=cG ..;have hYt:Y.take t++Y.drop t=Y:=cG ..;have pM:(X.take r++(r'.toList++Y.drop t)).Perm (X++Y):=by
   rw[eu,ev]at k1;have:(X.take r++(r'.toList++Y.drop t)).Perm (X.take r++((X.drop r++Y.take t)++Y.drop t)):=(k1.append_right _).append_left _;refine this.trans<|pN ?_;rw[bE<|X.drop r,hYt,<-bE,hX]
  rw[g4,S1.fl];refine q (rZ st'<|r'.toList.zipIdx.foldl (λz (q:cF×Nat)=>z.setIfInBounds (a+r+q.2) q.1)<|bf st') (X.take r++(r'.toList++Y.drop t)) #[g1.trans S1.kd,?_,g4.trans S1.fl] (g3.trans P1) (by rw[<-el,<-A1,<-g2]) (by rw[pM.length_eq,aQ,lX,lY]) ?_
  .refine(bz.mpr ?_).trans h.pm
   rw[g2,A1,el,hl,<-bE X Y Z];exact(pM.append_right _).append_left _
  .have memR:∀z∈r'.toList,z∈X.drop r\/z∈Y.take t:=λz hz=>by
    have:=k1.mem_iff.mp hz;rw[eu,ev]at this;exact bK.mp this
   have sX:=eY.mp<|hX.symm▸sx;have sY:=eY.mp<|hYt.symm▸sy;refine GE sX.1 (GE k2 sY.2.1 λp hp y hy=>?_) λx hx z hz=>?_
   .rcases memR p hp with m|m
    .have:=t2 y hy
     rcases maxX p (b9 m)with rfl|m
     .exact this
     .exact dm m this
    .exact sY.2.2 p m y hy
   .rcases bK.mp hz with m|m
    .rcases memR z m with m|m
     .exact sX.2.2 x hx z m
     .exact lowY x hx z<|dg m
    .exact lowY x hx z<|b9 m
 by_cases cl:d+1<=t
 .rw[T9 cl]
  exact aJ<|xQ O G S1.kd #[0] #[0] su sv (cC _) v0 λr' st' sg hr'=>fin r' st' sg hr'
 .rw[T8 cl]
  have fs:∀x∈u.toList,∀y∈v.toList.take 1,rk y<rk x:=λx hx y hy=>by
   have e:=Yh (a:=v) (i:=0) #[0]
   rw[kH]at e;rw[e]at hy;rw[aZ.mp hy];exact v0 x hx
  exact aJ<|wB O G fs S1.kd #[0] #[0] su sv (cC _) λr' st' sg hr'=>fin r' st' sg hr'
end
section
variable{In:cF->Prop}
noncomputable abbrev g2(q:Nat×Nat×Nat):Nat×Nat:=(q.1,q.2.1)
def pl(τ:eK):List (Nat×Nat):=(bh τ).toList.map g2
def cut2{B:Type}{l:List B}{x y:B}(h1:l[i]?=aa x)(h2:l[i+1]?=aa y):l=l.take i++(x::y::l.drop (i+2)):=by
 obtain⟨a,e1⟩:=aG.mp h1;obtain⟨b,e2⟩:=aG.mp h2
 conv=>lhs;rw[<-cG i l,bY a,bY b,e1,e2]
theorem W0(O:Od prog w A E s κ In rk)(ia:∀x∈a₀.toList,In x)(nd:(a₀.toList.map rk).Nodup)(h:Sc κ a₀ τ)(hi:i+1<(bh τ).size)(hb:b<=a₀.size)(hr:Runs rk (pl τ++R3) 0 b (bf τ).toList)
  (q:∀st',Sc κ a₀ st'->(bh st').size=(bh τ).size-1->Runs rk (pl st'++R3) 0 b (bf st').toList->Q ak st'):mI (aR prog w) A E s (mergeAt' i) Q τ:=by
 obtain⟨⟨a,na,pw⟩,h1⟩:∃x,(bh τ)[i]?=aa x:=#[_,bn #[0]]
 obtain⟨⟨b1,nb,qw⟩,h2⟩:∃x,(bh τ)[i+1]?=aa x:=#[_,bn hi];have e:=cut2 (l:=(bh τ).toList) (by rw[bo];exact h1) (by rw[bo];exact h2)
 generalize hA:(bh τ).toList.take i=RA at e;generalize hC:(bh τ).toList.drop (i+2)=RC at e;have lA:RA.length=i:=by rw[<-hA,bQ,aN];lia
 unfold pl at hr;rw[e,bT,bE]at hr;obtain⟨c,r1,r2⟩:=Runs.app.mp hr;obtain⟨z1,n1,s1,z2,n2,s2,r3⟩:=r2
 subst z1 z2;have hle:=r3.le;have hsz:(bf τ).toList.length=a₀.size:=by rw[aN];exact h.pm.size_eq
 generalize hl:(bf τ).toList=l at *;have el:l=l.take a++((l.drop a).take na++((l.drop<|a+na).take nb++l.drop (a+na+nb))):=by
  rw[td,td,cG]
 have lU:(l.take a).length=a:=fM #[0]
 refine wD O ia nd h h1 h2 (hl.trans el) lU (fM<|by rw[bF];exact mD<|by lia) (fM<|by rw[bF];exact mD<|by lia) n1 n2 s1 s2 λst' M S' hp' hl' lM sM=>?_
 have hpl:(bh st').toList=RA++((a,na+nb,pw)::RC):=by
  rw[hp',Array.toList_eraseIdxIfInBounds,kK,e,List.set_append_right _ _ #[0],lA,Nat.sub_self]
  rw[List.eraseIdx_append_of_length_le #[0],lA,bX]
  rfl
 refine q st' S' ?_ ?_
 .rw[<-aN,hpl,<-aN,e]
  simp
 .have at_:∀k,(k<a\/a+na+nb<=k)->(bf st').toList[k]?=l[k]?:=λk hk=>by
   rw[hl'];rcases hk with hk|hk
   .rw[cx<|lU.symm▸hk,cD,T9 hk]
   .obtain⟨d,rfl⟩:=Nat.le.dest hk
    have e1:(l.take a++M).length=a+na+nb:=by rw[aQ,lU,lM,d7]
    rw[<-bE,ck<|e1▸hk,e1,bX,eL]
  unfold pl;rw[hpl,bT,bE];refine Runs.app.mpr #[a,r1.congr λk _ hk=>at_ k<|.inl hk,rfl,by dsimp[g2];lia,?_,?_]
  .show Srt (lr rk) (((bf st').toList.drop a).take<|na+nb)
   rw[hl',<-lM,List.drop_left' lU,kM];exact sM
  .show Runs rk _ (a+(na+nb)) b _
   rw[<-d7];exact r3.congr λk hk _=>at_ k<|.inr hk
theorem ZbK{lo n:Nat}{xs:Array cF}(hn:lo+n<=xs.size)(u:Up rk xs lo n):Srt (lr rk) ((xs.toList.drop lo).take n):=by
 refine bJ.mpr λi j hi hj hij=>?_
 rw[bQ,bF,aN]at hi hj;have g:∀k (hk:k<((xs.toList.drop lo).take n).length),((xs.toList.drop lo).take n)[k]=xs[lo+k]'(by rw[bQ,bF,aN]at hk;lia):=λk hk=>by
  rw[fX,fY,Array.getElem_toList]
 rw[g,g];have:=u (lo+i) (lo+j) #[0] #[0] #[0]
 rw[zE #[0],zE<|by lia]at this
 exact this
def Jr{P:Array (Nat×Nat×Nat)}:(P.modify k λq=>(q.1,q.2.1,pw)).toList.map g2=P.toList.map g2:=by
 refine bW λi=>?_
 rw[aK,aK,bo,bo,Array.getElem?_modify];split
 .cases P[i]?<;>rfl
 .rfl
theorem sort_ok(O:Od prog w A E s κ In rk)(ia:∀x∈a₀.toList,In x)(nd:(a₀.toList.map rk).Nodup)(hk:kindOf τ=κ)(ha:bf τ=a₀)(hp:bh τ = #[])(hf:gQ τ=ai)(h1:1<=a₀.size)
  (q:∀st',(bf st').Perm a₀->gQ st'=ai->Srt (lr rk) (bf st').toList->Q () st'):mI (aR prog w) A E s sortRuns' Q τ:=by
 rw[sortRuns'_eq];refine aJ<|iA ?_;rw[ha]
 dsimp only
 have S0:Sc κ a₀ τ:=#[hk,by rw[ha],hf]
 refine aJ (eX (cI
  (I:=λx c st'=>∃lo,c=(ai,lo)/\x<=lo/\lo<=a₀.size/\Sc κ a₀ st'/\Runs rk (pl st') 0 lo (bf st').toList)
  (Q:=λc st'=>c=(ai,a₀.size)/\Sc κ a₀ st'/\Runs rk (pl st') 0 a₀.size (bf st').toList) ?_ ?_ #[0,rfl,aI _,db _,S0,by unfold pl;rw[hp];rfl]) ?_)
 .rintro x c st1 _ hx ⟨lo,rfl,g1,g2',S1,R1⟩
  dsimp only
  by_cases c:lo>=a₀.size
  .rw[T9 c]
   obtain rfl:lo=a₀.size:=by lia
   exact aT #[rfl,S1,R1]
  rw[T8 c];have B1:Sb κ a₀ (bh st1) lo ((bf st1).toList.take lo) st1:=#[S1.kd,S1.pm,S1.fl,rfl,rfl];refine aJ<|ZbN O ia nd #[0] #[0] B1 λm st2 B2 m1 m2 u2=>?_
  dsimp only
  have done:∀n st3,1<=n->lo+n<=a₀.size->Sc κ a₀ st3->Runs rk (pl st3++[(lo,n)]) 0 (lo+n) (bf st3).toList->∃lo',((ai,lo+n):Option PUnit×Nat)=(ai,lo')/\x+1<=lo'/\lo'<=a₀.size/\Sc κ a₀ (hV st3<|(bh st3).push (lo,n,0))/\Runs rk (pl<|hV st3<|(bh st3).push (lo,n,0)) 0 lo' (bf st3).toList:=λn st3 n1 n2 S3 R3=>
   #[lo+n,rfl,by lia,n2,#[S3.kd,S3.pm,S3.fl],by
    have:pl (hV st3<|(bh st3).push (lo,n,0))=pl st3++[(lo,n)]:=by
     show re g2 ((bh st3).push (lo,n,0)).toList=_;rw[fb,bT];rfl
    rw[this];exact R3]
  by_cases c2:m<sd a₀.size a₀.size 0
  .rw[T9 c2]
   refine aJ<|WH<|aJ<|ZdE O ia nd #[0] m1 #[0] B2 u2 λst5 B u=>?_
   have n1:1<=si (a₀.size-lo) (sd a₀.size a₀.size 0):=by lia
   have n2:lo+si (a₀.size-lo) (sd a₀.size a₀.size 0)<=a₀.size:=by lia
   generalize si (a₀.size-lo) (sd a₀.size a₀.size 0)=n at *;clear B2 u2;refine aJ<|iA ?_;have S5:Sc κ a₀ st5:=#[B.kd,B.pm,B.fl];have hz:=B.size;have R5:Runs rk (pl st5++[(lo,n)]) 0 (lo+n) (bf st5).toList:=Runs.app.mpr #[lo,by
    unfold pl at R1 ⊢;rw[B.pd];refine R1.congr λk _ hk=>?_
    have e:=congrArg (λl=>l[k]?) B.ah
    rwa[cD,cD,T9 hk,T9 hk]at e,rfl,n1,ZbK #[0] u,rfl]
   cases hbk:(bh st5).back? with
   |none=>
    exact aJ<|fK<|aT<|done n st5 n1 n2 S5 R5
   |some q5=>
    obtain⟨x1,x2,x3⟩:=q5
    dsimp only
    refine aJ<|eX (cI (I:=λ_ c st3=>c=(ai,())/\Sc κ a₀ st3/\Runs rk (pl st3++[(lo,n)]) 0 (lo+n) (bf st3).toList) ?_ (λc st3 h=>h) #[rfl,S5,R5]) ?_
    .rintro x c st3 _ _ ⟨rfl,S3,R3⟩
     refine aJ<|iA ?_;by_cases c:(bh st3).size>1
     .rw[T9 c,bn #[0]]
      dsimp only
      split
      .exact aT #[rfl,S3,R3]
      .refine aJ (W0 O ia nd S3 #[0] n2 R3 λst4 S4 _ R4=>?_)
       exact aT #[rfl,S4,R4]
     .rw[T8 c]
      exact aT #[rfl,S3,R3]
    .rintro c st3 ⟨rfl,S3,R3⟩
     dsimp only
     exact aJ (fK (aJ (fK (aT (done n (hV st3 _) n1 n2 #[S3.kd,S3.pm,S3.fl] (by
      show Runs rk (re g2 (Array.modify _ _ _).toList++_) _ _ _;rw[Jr];exact R3))))))
  .rw[T8 c2]
   have n2:lo+m<=a₀.size:=by lia
   refine aJ<|iA ?_;have S5:Sc κ a₀ st2:=#[B2.kd,B2.pm,B2.fl];have hz:=B2.size;have R5:Runs rk (pl st2++[(lo,m)]) 0 (lo+m) (bf st2).toList:=Runs.app.mpr #[lo,by
    unfold pl at R1 ⊢;rw[B2.pd];refine R1.congr λk _ hk=>?_
    have e:=congrArg (λl=>l[k]?) B2.ah
    rw[cD,cD,T9 hk,T9 hk]at e;exact e,rfl,m1,ZbK #[0] u2,rfl]
   cases hbk:(bh st2).back? with
   |none=>
    exact aJ<|fK<|aT<|done m st2 m1 n2 S5 R5
   |some q5=>
    obtain⟨x1,x2,x3⟩:=q5
    dsimp only
    refine aJ<|eX (cI (I:=λ_ c st3=>c=(ai,())/\Sc κ a₀ st3/\Runs rk (pl st3++[(lo,m)]) 0 (lo+m) (bf st3).toList) ?_ (λc st3 h=>h) #[rfl,S5,R5]) ?_
    .rintro x c st3 _ _ ⟨rfl,S3,R3⟩
     refine aJ<|iA ?_;by_cases c:(bh st3).size>1
     .rw[T9 c,bn<|show(bh st3).size-2<(bh st3).size by lia]
      dsimp only
      split
      .exact aT #[rfl,S3,R3]
      .refine aJ (W0 O ia nd S3 #[0] n2 R3 λst4 S4 _ R4=>?_)
       simp only[rK,fI,if_false];exact aT #[rfl,S4,R4]
     .rw[T8 c]
      exact aT #[rfl,S3,R3]
    .rintro c st3 ⟨rfl,S3,R3⟩
     dsimp only
     exact aJ (fK (aJ (fK (aT (done m (hV st3 _) m1 n2 #[S3.kd,S3.pm,S3.fl] (by
      show Runs rk (re g2 (Array.modify _ _ _).toList++_) _ _ _;rw[Jr];exact R3))))))
 .rintro c st1 ⟨lo,rfl,g1,g2',S1,R1⟩
  obtain rfl:lo=a₀.size:=by lia
  exact#[rfl,S1,R1]
 .rintro c st1 ⟨rfl,S1,R1⟩
  dsimp only
  have len1:=R1.le;refine aJ (eX (cI
   (I:=λx c st2=>c=(ai,())/\Sc κ a₀ st2/\Runs rk (pl st2) 0 a₀.size (bf st2).toList/\(bh st2).size<=max 1 (a₀.size-x))
   (Q:=λc st2=>c=(ai,())/\Sc κ a₀ st2/\Runs rk (pl st2) 0 a₀.size (bf st2).toList/\(bh st2).size<=1) ?_ ?_ #[rfl,S1,R1,by unfold pl at len1;rw[ax,aN]at len1;lia]) ?_)
  .rintro x c st2 _ hx ⟨rfl,S2,R2,l2⟩
   refine aJ<|iA ?_;by_cases c:(bh st2).size<=1
   .rw[T9 c]
    exact aT #[rfl,S2,R2,c]
   rw[T8 c];generalize hj:(if(Option.any (λx=>ag<|x<((bh st2)[(bh st2).size-2+1]?).elim 0 λx=>x.2.1)<|if(bh st2).size-2>0 then Option.map (λx=>x.2.1) (bh st2)[(bh st2).size-2-1]? else ai)=ak then(bh st2).size-2-1 else(bh st2).size-2)=j
   have hj1:j+1<(bh st2).size:=by
    have g:∀b:Bool,(if b=ak then(bh st2).size-2-1 else(bh st2).size-2)+1<(bh st2).size:=λb=>by cases b<;>simp<;>lia
    rw[<-hj];exact g _
   refine aJ<|W0 (R3:=[]) O ia nd S2 hj1 (aI _) (by rw[cf];exact R2) λst3 S3 l3 R3=>?_
   rw[cf]at R3;exact aT #[rfl,S3,R3,by lia]
  .rintro c st2 ⟨rfl,S2,R2,l2⟩
   exact#[rfl,S2,R2,by lia]
  .rintro c st2 ⟨rfl,S2,R2,l2⟩
   dsimp only
   refine aT<|q st2 S2.pm S2.fl ?_;have hz:(bf st2).toList.length=a₀.size:=by rw[aN];exact S2.pm.size_eq
   unfold pl at R2
   match hP:(bh st2).toList,R2 with
   |[],R2=>exact T7 (show 0=a₀.size from R2) #[0]
   |[(i,n,pw)],R2=>
    obtain⟨_,_,z,e⟩:=R2;have e:0+n=a₀.size:=e;rw[kH,cA<|by dsimp only[g2];lia]at z
    exact z
   |_::_::_,_=>rw[<-aN,hP]at l2;simp at l2
end
end Tq
namespace Sq
open PySem PySem.W PyProof.Rows
structure Ord(n:Nat)(lt:Nat->Nat->Bool):Prop where
 tot:∀i j,i<n->j<n->i≠j->lt i j=aj->lt j i=ak
 asy:∀i j,i<n->j<n->lt i j=ak->lt j i=aj
 tr:∀i j k,i<n->j<n->k<n->lt i j=ak->lt j k=ak->lt i k=ak
noncomputable abbrev g(p:Array Nat)(i:Nat):Nat:=p.getD i 0
def Pm(n:Nat)(p:Array Nat):Prop:=p.Perm<|c6<|aO n
theorem Pm.size(h:Pm n p):p.size=n:=by have:=Array.Perm.size_eq h;simpa using this
def ZcL(h:i<p.size):p[i]?=aa (g p i):=by simp[h]
def Pm.lt(h:Pm n p)(hi:i<n):g p i<n:=by
 have hs:=h.size;have h1:g p i∈p.toList:=by
  have:p.toList[i]?=aa (g p i):=by rw[bo];exact ZcL #[0]
  exact cO this
 have h2:p.toList.Perm (aO n):=by simpa using bz.mp h
 exact aU.mp<|h2.mem_iff.mp h1
def Up(lt:Nat->Nat->Bool)(p:Array Nat)(m:Nat):Prop:=∀i j,i<j->j<m->lt (g p i) (g p j)=ak
theorem Jg{B:Type}{p q:B->Bool}:∀{l:List B},(∀x∈l,p x=ak->q x=ak)->(∃x∈l,q x=ak/\p x=aj)->l.countP p<l.countP q
 |[],_,#[x,hx,_]=>by cases hx
 |y::l,h,#[x,hx,h1,h2]=>by
  have hm:=List.countP_mono_left λz hz=>h z<|am _ hz
  rw[pb,pb];rcases aw.mp hx with rfl|hx
  .rw[h2];lia
  .have:=Jg (λz hz=>h z<|am _ hz) #[x,hx,h1,h2]
   cases e:p y with|false=>rw[T8 aP];lia|true=>rw[(h y<|al ..) e];lia
def rank(n:Nat)(lt:Nat->Nat->Bool)(i:Nat):Nat:=(aO n).countP λj=>lt j i
def UT(O:Ord n lt)(hi:i<n)(hj:j<n):ag (rank n lt i<rank n lt j)=lt i j:=by
 have irr:∀k,k<n->lt k k=aj:=λk hk=>by
  cases e:lt k k with|false=>rfl|true=>rw[<-e];exact O.asy k k hk hk e
 have up:=λ{a b} ha hb e=>
  Jg (λx hx h=>O.tr x a b (aU.mp hx) ha hb h e) #[a,aU.mpr ha,e,irr a ha]
 cases e:lt i j with
 |true=>exact T5<|up hi hj e
 |false=>
  refine T4 λh=>?_
  by_cases z:i=j
  .subst z;exact bv _ h
  .exact Nat.lt_asymm h<|up hj hi<|O.tot i j hi hj z e
section
open Classical
def idx(vs:List az)(v:az):Nat:=if h:∃i:Nat,vs[i]?=aa v then choose h else 0
def wy(nd:vs.Nodup)(h:vs[i]?=aa v):idx vs v=i:=by
 have hx:∃i,vs[i]?=aa v:=#[i,h];unfold idx;rw[dif_pos hx];have e:=choose_spec hx;exact(iB ((aG.mp e).1) nd).mp<|e.trans h.symm
end
def ZfW{vs:List az}(nd:vs.Nodup)(h1:1<=vs.length)(O:Ord vs.length lt)
  (ask:∀i j,i<vs.length->j<vs.length->∀C E,C (lt i j) s->aW (aR prog w) A (keyLt' κ (vs.getD i bw)<|vs.getD j bw) C E s) :
  aW (aR prog w) A ((sortRuns').run<|pX κ (vs.toArray.zip vs.toArray) #[] 7 ai) (λr s'=>s'=s/\∃p,Pm vs.length p/\Up lt p vs.length/\gQ r.2=ai/\(bf r.2).map (·.2)=c6 (p.toList.map λi=>vs.getD i bw)) E s:=by
 have hz:(vs.toArray.zip vs.toArray).toList=vs.map λv=>(v,v):=by
  rw[ksk_zip];clear ask O h1 nd
  induction vs with|nil=>rfl|cons v l ih=>rw[dF,ih];rfl
 let rk:cF->Nat:=λx=>rank vs.length lt<|idx vs x.1
 let In:cF->Prop:=λx=>∃i:Nat,vs[i]?=aa x.1/\x=(x.1,x.1)
 have atI:∀{x:cF},In x->idx vs x.1<vs.length/\vs.getD (idx vs x.1) bw=x.1:=λ{x} #[i,e,_]=>by
  rw[wy nd e];exact#[(aG.mp e).1,by rw[aA,e];rfl]
 have od:Tq.Od prog w A E s κ In rk:=⟨λ{x y τ Q} ix iy hk q=>by
  obtain⟨a1,a2⟩:=atI ix;obtain⟨b1,b2⟩:=atI iy;rw[lt'_eq];refine aJ<|iA ?_;rw[hk];have:=ask _ _ a1 b1 (λb s'=>s'=s/\b=lt (idx vs x.1) (idx vs y.1)) (λ_ _=>False) #[rfl,rfl]
  rw[a2,b2]at this;refine aJ<|wpS_lift<|gN<|dq this (λb s' h=>?_) λ_ _ h=>h.elim
  obtain⟨rfl,rfl⟩:=h;refine#[rfl,aT ?_];rw[<-UT O a1 b1];exact q⟩
 have ia:∀x∈(vs.toArray.zip vs.toArray).toList,In x:=λx hx=>by
  rw[hz]at hx;obtain⟨v,hv,rfl⟩:=aM.mp hx;obtain⟨i,hi,e⟩:=mT.mp hv;exact#[i,by rw[af hi,e],rfl]
 have rks:(vs.toArray.zip vs.toArray).toList.map rk=(aO vs.length).map (rank vs.length lt):=by
  rw[hz,bS];refine bW λi=>?_
  rw[aK,aK];by_cases h:i<vs.length
  .rw[cX h,af h]
   exact congrArg (λk=>aa<|rank vs.length lt k)<|wy nd<|af h
  .rw[bM #[0],bM (by rw[bu];lia)];rfl
 have ndr:((vs.toArray.zip vs.toArray).toList.map rk).Nodup:=by
  rw[rks];refine cZ.mpr<|lB ?_ List.nodup_range;intro a b ha hb ne e;have ha:=aU.mp ha;have hb:=aU.mp hb;have h1:=UT O ha hb;have h2:=UT O hb ha;rw[e,T4<|bv _]at h1 h2;exact T7 (O.tot a b ha hb ne h1.symm) (by rw[<-h2];simp)
 have sz:(vs.toArray.zip vs.toArray).size=vs.length:=by rw[<-aN,hz,ax]
 refine Tq.sort_ok (Q:=λ_ st'=>∃p,Pm vs.length p/\Up lt p vs.length/\gQ st'=ai/\(bf st').map (·.2)=c6 (p.toList.map λi=>vs.getD i bw)) od ia ndr rfl rfl rfl rfl #[0] λst' pm fl so=>?_
 have pl:=bz.mp pm;have inS:=λx hx=>ia x<|pl.mem_iff.mp hx
 have pp:((bf st').toList.map λx=>idx vs x.1).Perm (aO vs.length):=by
  refine(pl.map _).trans<|pN ?_;rw[hz,bS];refine bW λi=>?_
  rw[aK];by_cases h:i<vs.length
  .rw[cX h,af h]
   exact congrArg aa<|wy nd<|af h
  .rw[bM #[0],bM (by rw[bu];lia)];rfl
 have sl:(bf st').toList.length=vs.length:=by rw[pl.length_eq,hz,ax]
 refine#[c6<|(bf st').toList.map λx=>idx vs x.1,bz.mpr pp,λi j hij hj=>?_,fl,?_]
 .have gk:∀k hk,g (c6<|(bf st').toList.map λx=>idx vs x.1) k=idx vs ((bf st').toList[k]).1:=λk hk=>by
   show((c6<|(bf st').toList.map λx=>idx vs x.1).getD k 0)=_
   rw[Array.getD_eq_getD_getElem?,List.getElem?_toArray,aK,af hk];rfl
  rw[gk i #[0],gk j #[0]]
  have:=bJ.mp so i j #[0] #[0] hij
  rw[<-UT O (atI<|inS _<|aS _).1 (atI<|inS _<|aS _).1];exact T5 this
 .apply iL.mp
  rw[pc,bS];refine du λx hx=>?_
  have hi:=inS x hx;show x.2=vs.getD (idx vs x.1) bw;rw[(atI hi).2];obtain⟨_,_,e⟩:=hi;rw[e]
open PySem.Calls
def Lat(h h':cM):Prop:=∀b o,h.get? b=aa o->h'.get? b=aa o
structure Asks(prog:bO)(w:bV)(A:cw)(h:cM)(vs:List az)(κ:gP)(lt:Nat->Nat->Bool):Prop where
 kind:2<=vs.length->∀(s':aF)(E:az->aF->Prop)(Q:gP->aF->Prop),Lat h s'.heap->Q κ s'->aW (aR prog w) A (keyKind' vs.toArray) Q E s'
 nd:vs.Nodup
 cmp:∀i j,i<vs.length->j<vs.length->∀(s':aF)(C:Bool->aF->Prop)(E:az->aF->Prop),Lat h s'.heap->C (lt i j) s'->aW (aR prog w) A (keyLt' κ (vs.getD i bw)<|vs.getD j bw) C E s'
noncomputable def ltR(b:Bool)(n:Nat)(lt:Nat->Nat->Bool):Nat->Nat->Bool:=λi j=>if b=ak then lt (n-1-i) (n-1-j)else lt i j
def Zdu(O:Ord n lt):Ord n (ltR b n lt):=by
 cases b
 .exact O
 .exact#[λi j hi hj ne h=>O.tot _ _ #[0] #[0] #[0] h,λi j hi hj h=>O.asy _ _ #[0] #[0] h,λi j k hi hj hk h1 h2=>O.tr _ _ _ #[0] #[0] #[0] h1 h2]
def zy(hi:i<vs.length):(lC b vs).getD i bw=vs.getD (if b=ak then vs.length-1-i else i) bw:=by
 cases b
 .rfl
 .show vs.reverse.getD i bw=vs.getD (vs.length-1-i) bw
  simp;rw[mE hi]
def uE(vs):(aO vs.length).map (λi=>vs.getD i bw)=vs:=by
 apply bW
 intro i;rw[aK];by_cases h:i<vs.length
 .rw[cX h];simp[h]
 .simp[d3 h]
def list_sort_rev(ho:s.heap.get? a=aa (fN "list" vs.toArray n))(h64:vs.length<=100000)
  (h00:∀b o,h0.get? b=aa o->b≠a/\s.heap.get? b=aa o)(O:Ord vs.length lt)(K:Asks prog w A h0 vs κ lt)
  (h:∀p,Pm vs.length p->Up (ltR b vs.length lt) p vs.length->P (.done<|.ret .none) {s with heap:=sortedHeap s.heap a vs (c6<|lC b<|p.toList.map λi=>(lC b vs).getD i bw)}) :
  aW (aR prog w) A (dP.«list.sort» #[[.ref a],[(oF "reverse",.bool b)]]) P E s:=by
 rw[kN];have ha:=aD ho;refine ae<|listItems_at ho rfl ?_;refine ae<|nz ho rfl ?_;obtain⟨e1,ho1⟩:∃e1,(s.heap.update a<|fg λ_=>#[]).get? a=aa (fN "list" #[] e1):=#[_,get?_update_seq ho λ_=>#[]]
 refine ae<|pF ho1 rfl ?_;refine ae<|wpAny_newTuple ?_;refine ae<|lD ?_;refine bI ?_;have ho6:(((s.heap.update a<|fg λ_=>#[]).push<|fN "tuple" vs.toArray 0).push<|fN "list" #[] 0).get? a=aa (fN "list" #[] e1):=by
  rw[iC _ _ _ (by rw[nY,lO];exact a8<|cB ha),iC _ _ _ (by rw[lO];exact a8 ha)]
  exact ho1
 have lat:Lat h0 (((s.heap.update a<|fg λ_=>#[]).push<|fN "tuple" vs.toArray 0).push<|fN "list" #[] 0):=λb o e=>by
  obtain⟨nb,e⟩:=h00 b o e;exact aq _<|aq _ (by rw[ni _ _ _ _ nb];exact e)
 generalize hs':((s.heap.update a<|fg λ_=>#[]).push<|fN "tuple" vs.toArray 0).push (fN "list" #[] 0)=h1 at ho6 lat ⊢
 dsimp only
 have step:∀t:pR PySem.Fin,aW (aR prog w) A t P E {s with heap:=h1}->aW (aR prog w) A (if b=ak then(do let _ <-oR "list.sort.reverse";t)else t) P E {s with heap:=h1}:=by
  intro t ht;split
  .exact ae<|gp ht
  .exact ht
 refine step _ ?_;have hrl:=pS b vs;have fin:∀out:List az,out.length=vs.length->(∃p,Pm vs.length p/\Up (ltR b vs.length lt) p vs.length/\out=p.toList.map λi=>(lC b vs).getD i bw)->
   P (.done<|.ret .none) {s with heap:=h1.update a (fg λ_=>c6<|lC b out)}:=by
  rintro out _ ⟨p,h1',h2',rfl⟩
  subst hs';exact h p h1' h2'
 by_cases h2:vs.toArray.size<2
 .rw[T9 h2,T9 h2]
  refine ae<|av ?_;rw[StateT.run_pure];refine ae<|av ?_
  dsimp only
  have hz:((bf<|pX general' (if b=ak then(vs.toArray.zip vs.toArray).reverse else vs.toArray.zip vs.toArray) #[] 7 ai).map (·.2))=c6 (lC b vs):=by
   rw[kat_pairs b rfl];apply iL.mp;rw[pc,ksk_zip];exact List.map_snd_zip<|aI _
  rw[hz];refine ae<|pF ho6 rfl ?_;rw[kat_outs];refine ae<|nz ho6 rfl ?_ (hsz2:=by rw[aC];(try rw[pS]);(try rw[pS]);rw[cW];lia)
  simp only[bne_self_eq_false,fI,if_false];refine av<|fin (lC b vs) (pS b vs) #[c6<|aO vs.length,Array.Perm.refl _,λi j a1 a2=>by rw[aC]at h2;lia,?_]
  rw[<-hrl];exact(uE _).symm
 .rw[T8 h2,T8 h2]
  have l2:2<=vs.length:=by rw[aC]at h2;lia
  refine ae<|K.kind l2 _ _ _ lat ?_;rw[kat_pairs b rfl];have ndR:(lC b vs).Nodup:=by
   cases b
   .exact K.nd
   .exact(ee vs).nodup_iff.mpr K.nd
  refine ae (dq (ZfW ndR #[0] (by rw[hrl];exact Zdu (b:=b) O) (by
    rw[hrl];intro i j hi hj C E hC;rw[zy hi,zy hj];cases b
    .exact K.cmp i j hi hj _ _ _ lat hC
    .exact K.cmp _ _ (by simp only[if_true];lia) (by simp only[if_true];lia) _ _ _ lat hC)) ?_ λ_ _ x=>x)
  rintro ⟨⟨⟩,st'⟩ s' ⟨rfl,p,e2,e3,hf,har⟩
  rw[hrl]at e2 e3
  dsimp only
  rw[har];have hl:(p.toList.map λi=>(lC b vs).getD i bw).length=vs.length:=by rw[ax,aN,e2.size]
  refine ae<|pF ho6 rfl ?_;rw[kat_outs];refine ae<|nz ho6 rfl ?_ (hsz2:=by rw[aC];(try rw[pS]);rw[hl,cW];lia)
  rw[hf];simp only[bne_self_eq_false,fI,if_false];exact av<|fin _ hl #[p,e2,e3,rfl]
def wv{l:aH}{vs:List az}{b:Bool}{κ:gP}{lt:Nat->Nat->Bool}(hl:s.heap.IsList l vs.toArray)(h64:vs.length<=100000)(O:Ord vs.length lt)(K:Asks prog w A.in1.in1 s.heap vs κ lt)
  (h:∀p,Pm vs.length p->Up (ltR b vs.length lt) p vs.length->Q (.ref<|s.heap.objs.size+1) {s with heap:=sortedAll s.heap vs (c6<|lC b<|p.toList.map λi=>(lC b vs).getD i bw)}) :
  aW (aR prog w) A (call (.builtin "sorted") [.ref l] [(oF "reverse",.bool b)]) Q E s:=by
 refine call_function_entry_kw pG oG oH (args_sorted_rev _ _) ?_;unfold dP.«sorted»;refine ae<|av ?_;refine ae<|collect_list hl ?_;refine ae<|lD ?_;have hsz:((s.heap.push<|fN "list" #[] 0).update s.heap.objs.size (fg (·++vs.toArray))).objs.size=s.heap.objs.size+1:=by
  rw[lO,nY]
 have hoL:(((s.heap.push<|fN "list" #[] 0).update s.heap.objs.size (fg (·++vs.toArray))).push<|fN "list" vs.toArray 0).get? (s.heap.objs.size+1)=aa (fN "list" vs.toArray 0):=by
  rw[<-hsz];exact aE _ rfl
 rw[hsz];refine ae<|bI<|wpAny_call_entry_kw mU #[_,hoL,rfl] mw (list_sort_rev hoL h64 (λb o e=>?_) O K  λp a1 a2=>#[_,rfl,?_])<|args_list_sort_rev _ _
 .have hlt:b<s.heap.objs.size:=aD e
  refine#[a8<|cB hlt,?_];rw[iC _ _ _ (by rw[hsz];exact a8<|cB hlt),ni _ _ _ _<|a8 hlt,iC _ _ _<|a8 hlt]
  exact e
 .exact av #[_,rfl,h p a1 a2]
def Jn(a):dP.«list.sort» #[[.ref a],[]]=dP.«list.sort» #[[.ref a],[(oF "reverse",.bool aj)]]:=by
 rw[kN];rfl
end Sq
namespace Sd
open PySem PySem.Spec PyProof.Rows L2
open Ev (E Sm Fn Bop Cop Ty Bf Mf)
section
variable{X:Cx}{pq:List (aH×fU)}{O:L2.St}{H:Hp}{s:aF}{A:cw}{E:az->aF->Prop}{b:Bool}{Q:az->aF->Prop}
def wo(I:Inv X pq O H s)(rx:ZA x u)(ty:TyOf X.K H x t)(htp:s.heap.get? tp=aa #[.type "tuple",dd,.seq its.toArray n,sl])
  (e:gq X.K t its=aa b)(h:∀tk,Q (.bool b) {s with toks:=tk}):aW (aR X.prog X.w) A (call (.builtin "isinstance") [u,.ref tp]) Q E s:=by
 cases ty with
 |non=>cases(rx);exact dS oj I.kIn dN htp e (λz=>nomatch z) h
 |bl y=>cases(rx);exact dS on I.kIn dN htp e (λz=>nomatch z) h
 |int i=>obtain⟨t,q⟩:=(rx);cases q;exact dS oU I.kIn dN htp e (λz=>nomatch z) h
 |str y=>obtain⟨t,q⟩:=(rx);cases q;exact dS oV I.kIn dN htp e (λz=>nomatch z) h
 |@lst a xs ea=>
  cases(rx);obtain⟨_,_,n,_,h1⟩:=(I.hok a _ ea)
  exact dS io I.kIn #[_,h1,rfl] htp e (λz=>nomatch z) h
 |@frz a ob xs ea=>
  cases(rx);obtain⟨_,_,_,n,_,h1⟩:=(I.hok a _ ea)
  exact dS io I.kIn #[_,h1,rfl] htp e (λz=>nomatch z) h
 |@tup a xs ea=>
  cases(rx);obtain⟨_,_,_,p⟩:=(I.hok a _ ea)
  obtain⟨o,h1,h2,_⟩:=p;exact dS nJ I.kIn #[o,h1,h2] htp e (λz=>nomatch z) h
 |@dK a kvs ea=>
  cases(rx);obtain⟨_,_,vs,_,p⟩:=(I.hok a _ ea)
  obtain⟨o,es,ep,h1,h2,_⟩:=p;exact dS ip I.kIn #[o,h1,h2.1] htp e (λz=>nomatch z) h
 |@dT a kvs ea=>
  cases(rx);obtain⟨_,_,xs,_,o,es,ep,h1,h2,_⟩:=(I.hok a _ ea)
  exact dS ip I.kIn #[o,h1,h2.1] htp e (λz=>nomatch z) h
end
section
variable{X:Cx}{xw:Nat->Hp->Prop}{C:Calls}{e a b c:Expr}{i j k:E}{pos p p' p2 p3:iE}
def uA(T U:String):ZH X (.builtin "isinstance") (λvs H Q=>∃v tv n q,vs=[v,.ref q]/\H q=aa (.tup [.ty T,.ty U])/\TyOf X.K H v tv/\gq X.K tv [.type T,.type U]=aa n/\Q (.bl n) H):=by
 intro pq s O H vs us Q I r h;obtain⟨v,tv,n,q,rfl,hq,ty,e,qq⟩:=h;obtain⟨u,w',rfl,r1,r2⟩:=yy r;cases r2;obtain⟨its,rv,⟨o,ho,hc,m,hd⟩,_⟩:=I.tuple<|SqT.of hq;obtain⟨cls,dd,data,sl⟩:=o;subst hc hd;obtain⟨z1,z2,rfl,q1,q2⟩:=yy rv;cases q1;cases q2;exact wo I r1 ty ho e λtk=>#[.bl n,H,I.tok tk,rfl,qq]
def TyOf.later{K:ao}(h:TyOf K H v tv)(hq:H q=ai):TyOf K (upd H q o) v tv:=by
 cases h with|non=>exact .non|bl b=>exact .bl b|int b=>exact .int b|str b=>exact .str b|lst e=>exact .lst (by rw[Zj<|ZU e hq];exact e)|frz e=>exact .frz (by rw[Zj<|ZU e hq];exact e)|tup e=>exact .tup (by rw[Zj<|ZU e hq];exact e)|dK e=>exact .dK (by rw[Zj<|ZU e hq];exact e)|dT e=>exact .dT (by rw[Zj<|ZU e hq];exact e)
def TyOf.uniq{K:ao}(h1:TyOf K H v t1)(h2:TyOf K H v t2):t1=t2:=by
 cases h1<;>cases h2<;>first|rfl|simp_all
theorem Zcf{T U:bN}{t u:Ty}{k0:Nat}{p4:iE}(ht:∀m,t≠.cls m)(hu:∀m,u≠.cls m)(hm:X.mg "isinstance" = ai)(hmT:X.mg T=ai)(hmU:X.mg U=ai)(ha:CE X xw C a i)(hg:Gl X "isinstance")(hgT:Gl X T)(hgU:Gl X U)(hvT:dB T=aa (.type<|ZX t))(hvU:dB U=aa (.type<|ZX u))(hnT:T≠"__name__")(hdT:(T == ("__debug__" : bN))=aj)(hnU:U≠"__name__")(hdU:(U == ("__debug__" : bN))=aj)
  (hs0:ay [.Name T p2,.Name U p3] X.env=(aj,cz (.Name T p2) X.env)::ay [.Name U p3] X.env)(hs00:ay [.Name U p3] X.env=(aj,cz (.Name U p3) X.env)::ay [] X.env)
  (hs1:ay [a,.Tuple [.Name T p2,.Name U p3] k0 p4] X.env=(aj,cz a X.env)::ay [.Tuple [.Name T p2,.Name U p3] k0 p4] X.env)(hs2:ay [.Tuple [.Name T p2,.Name U p3] k0 p4] X.env=(aj,cz (.Tuple [.Name T p2,.Name U p3] k0 p4) X.env)::ay [] X.env)(hpl:(dL pos<|ay [.Tuple [.Name T p2,.Name U p3] k0 p4] X.env).any (·.1)=aj) :
  CE X xw C (.Call (.Name "isinstance" p) [a,.Tuple [.Name T p2,.Name U p3] k0 p4] [] pos) (.isi i [t,u]):=.mk <|
 PE.imp (Xt (uA (ZX t)<|ZX u) hg hm #[7] (ZG ha.h (ZG (ZbU<|ZG (UW (v:=.ty<|ZX t) hgT hmT hvT rfl hnT hdT) (ZG (UW (v:=.ty<|ZX u) hgU hmU hvU rfl hnU hdU) Yw hs00) hs0) Yw hs2) hs1) #[1] #[1] hs1 hpl)<|by
  left;refine#[Z,l,S,st,lr,End.bind (h) λx S1 ρ1 H1 v f1 st1 r1 h1=>#[by show 2<=a9;rw[cW];lia,λq hq=>?_]]
  obtain⟨n,hn,h2⟩:=End.ob h1;have f2:=Zs (Z:=ρ1) (o:=.tup [.ty<|ZX t,.ty<|ZX u]) hq;have fin:=λtv ty e=>(#[v,tv,n,q,rfl,Zl,TyOf.later ty hq,e,h2 ρ1 _ _ f2 (st1.fresh hq)<|Ym n]:∃v' tv n q',[v,V.ref q]=[v',.ref q']/\upd H1 q (.tup [.ty<|ZX t,.ty<|ZX u]) q'=aa (.tup [.ty<|ZX t,.ty<|ZX u])/\TyOf X.K (upd H1 q<|.tup [.ty<|ZX t,.ty<|ZX u]) v' tv/\gq X.K tv [.type<|ZX t,.type<|ZX u]=aa n/\Q (.bl n) (upd H1 q<|.tup [.ty<|ZX t,.ty<|ZX u]))
  unfold Pv.Yf at hn;cases q1:Pv.YI x t with
  |none=>rw[q1]at hn;cases hn
  |some m=>
   rw[q1]at hn;obtain⟨tv,ty,e⟩:=xM r1 ht q1;cases m with
   |true=>
    have hn':=(ap hn).symm;exact fin tv ty (by unfold gq;rw[e,hn'])
   |false=>
    have hn1:(match Pv.YI x u with
     |some ak=>aa ak
     |some aj=>Pv.Yf x []
     |none=>ai)=aa n:=hn
    cases q2:Pv.YI x u with
    |none=>rw[q2]at hn1;cases hn1
    |some m2=>
     rw[q2]at hn1;obtain⟨tv2,ty2,e2⟩:=xM r1 hu q2;have et:=TyOf.uniq ty2 ty;subst et;refine fin tv2 ty ?_;unfold gq;rw[e];unfold gq;rw[e2];cases m2 with|true=>exact hn1|false=>exact hn1
end
end Sd
namespace Sd
open Ev (ltI YR Zr)
theorem GX:∀{x y:List Int},x≠y->ltI x y=aj->ltI y x=ak
 |[],[],h,_=>T7 rfl h
 |[],_::_,_,h=>by cases h
 |_::_,[],_,_=>rfl
 |a::x,b::y,h,e=>by
  unfold ltI at e ⊢;by_cases c:a=b
  .subst c
   rw[T9 rfl]at e ⊢;exact GX (λz=>h<|by rw[z]) e
  .rw[T8 c]at e
   rw[T8<|Ne.symm c];have:=of_decide_eq_false e;exact T5 #[3]
theorem UO:∀{x y:List Int},ltI x y=ak->ltI y x=aj
 |[],[],h=>by cases h
 |[],_::_,_=>rfl
 |_::_,[],h=>by cases h
 |a::x,b::y,e=>by
  unfold ltI at e ⊢;by_cases c:a=b
  .subst c
   rw[T9 rfl]at e ⊢;exact UO e
  .rw[T8 c]at e
   rw[T8<|Ne.symm c];have:=T6 e;exact T4 #[3]
theorem wz:∀{x y z:List Int},ltI x y=ak->ltI y z=ak->ltI x z=ak
 |[],[],_,h,_=>by cases h
 |_::_,[],_,h,_=>by cases h
 |_,_::_,[],_,h=>by cases h
 |[],_::_,_::_,_,_=>rfl
 |a::x,b::y,c::z,e,f=>by
  unfold ltI at e f ⊢;by_cases h1:a=b
  .subst h1
   rw[T9 rfl]at e;by_cases h2:a=c
   .subst h2
    rw[T9 rfl]at f ⊢;exact wz e f
   .rw[T8 h2]at f ⊢;exact f
  .rw[T8 h1]at e
   have e':=T6 e;by_cases h2:b=c
   .subst h2
    rw[T8 h1];exact e
   .rw[T8 h2]at f
    have f':=T6 f;rw[T8 #[3]]
    exact T5 #[3]
theorem VQ(x):∀l,(YR x l).Perm (x::l)
 |[]=>cC _
 |y::r=>by
  unfold YR;split
  .exact cC _
  .exact((VQ x r).cons y).trans<|kO x y r
theorem Xc:∀l,(Zr l).Perm l
 |[]=>cC _
 |x::r=>(VQ x<|Zr r).trans<|(Xc r).cons x
theorem Uy(x):∀{l:List (List Int)},(∀y∈l,x≠y)->l.Pairwise (λa b=>ltI a b=ak)->(YR x l).Pairwise (λa b=>ltI a b=ak)
 |[],_,_=>by exact lQ ..
 |y::r,hn,h=>by
  rw[bj]at h;unfold YR;split
  .rename_i c
   rw[bj,bj];refine#[λz hz=>?_,h]
   rcases aw.mp hz with rfl|hz
   .exact c
   .exact wz c<|h.1 z hz
  .rename_i c
   rw[bj];refine#[λz hz=>?_,Uy x (λy hy=>hn y<|am _ hy) h.2]
   rcases aw.mp ((VQ x r).mem_iff.mp hz)with rfl|hz
   .exact GX (hn y<|al ..) (by simpa using c)
   .exact h.1 z hz
theorem XS:∀{l:List (List Int)},l.Nodup->(Zr l).Pairwise (λa b=>ltI a b=ak)
 |[],_=>k8
 |x::r,h=>by
  rw[dD]at h;exact Uy x (λy hy e=>h.1<|by rw[e];exact(Xc r).mem_iff.mp hy)<|XS h.2
theorem Wp:∀{a b:List (List Int)},a.Perm b->a.Pairwise (λx y=>ltI x y=ak)->b.Pairwise (λx y=>ltI x y=ak)->a=b
 |[],b,p,_,_=>(List.Perm.nil_eq p)
 |x::a,[],p,_,_=>by have:=p.length_eq;simp at this
 |x::a,y::b,p,ha,hb=>by
  rw[bj]at ha hb;have e:x=y:=by
   rcases aw.mp (p.mem_iff.mp<|al ..)with h|h
   .exact h
   .rcases aw.mp (p.mem_iff.mpr (al))with h2|h2
    .exact h2.symm
    .have z1:=hb.1 x h
     have z2:=ha.1 y h2;rw[UO z1]at z2;cases z2
  subst e;rw[Wp (List.perm_cons x |>.mp p) ha.2 hb.2]
open PySem PySem.Spec PyProof.Rows L2
open Ev (E Sm Fn Bop Cop Ty Bf Mf Yg Q3 Wr ltP YW)
noncomputable def xW(fin:Bool):List Int->List Int->Bool
 |[],_=>fin
 |_::_,[]=>fin
 |a::x,b::y=>if a=b then xW fin x y else ag (a<b)
theorem wG:∀x y,xW (ag<|x.length<y.length) x y=ltI x y
 |[],[]=>rfl
 |[],_::_=>by unfold xW ltI;simp
 |_::_,[]=>by unfold xW ltI;simp
 |a::x,b::y=>by
  unfold xW ltI;have:ag ((a::x).length<(b::y).length)=ag (x.length<y.length):=by simp
  rw[this,wG x y]
theorem zk :∀{x y:List Int}{u v:List az}{i:Nat},Vals (x.map V.int) u->Vals (y.map V.int) v->C (xW fin x y) s->PySem.W.KatLex prog w A b fin C (u.zip v) i s
 |[],_,_,_,_,.nil,_,h=>by rw[List.zip_nil_left];exact pO h
 |_::_,[],_,_,_,_,.nil,h=>by rw[List.zip_nil_right];exact pO h
 |a::x,c::y,_,_,i,.cons ra ta,.cons rb tb,h=>by
  obtain⟨t,rfl⟩:=ra;obtain⟨t',rfl⟩:=rb;rw[dF];refine PySem.W.kat_cons<|wpAny_eqBool_int ?_;unfold xW at h;by_cases e:a=c
  .rw[T9 e]at h
   rw[beq_iff_eq.mpr e];exact PySem.W.kat_yes<|zk ta tb h
  .rw[T8 e]at h
   rw[beq_eq_false_iff_ne.mpr e];refine PySem.W.kat_no ?_;cases q:(b&&i == 0)with|true=>exact oneLt_int h|false=>exact PySem.W.kat_one _ _<|lt_int h
inductive RowsAt(h:cM):List (List Int)->List az->Prop where
 |nil:RowsAt h [] []
 |cons {r:List Int} {rs:List (List Int)} {vs:List az} {a:aH} {o:fU} {us:List az} {m:Nat} (ho:h.get? a=aa o) (hc:o.cls=.type "tuple") (hd:o.data=.seq us.toArray m) (hv:Vals (r.map V.int) us) (t:RowsAt h rs vs):RowsAt h (r::rs) (.ref a::vs)
theorem QR:∀{ks:List D}{k:List Int},Pv.intsV ks=aa k->ks=k.map Pv.V.int
 |[],k,h=>by cases h;rfl
 |d::ks,k,h=>by
  obtain⟨n,r,rfl,e,rfl⟩:=Uf h;rw[QR e];rfl
def uz(h:Pv.Yy (d::ds)=aa rs):∃a b,d=Pv.Zc a/\Pv.Yy ds=aa b/\rs=a::b:=by
 cases d with
 |tup x=>
  have h:(match Pv.intsV x,Pv.Yy ds with
   |some a,aa b=>aa (a::b)
   |_,_=>ai)=aa rs:=h
  cases q1:Pv.intsV x with
  |none=>rw[q1]at h;cases h
  |some a=>
   cases q2:Pv.Yy ds with
   |none=>rw[q1,q2]at h;cases h
   |some b=>
    rw[q1,q2]at h;exact#[a,b,congrArg Pv.V.tup<|QR q1,rfl,(ap h).symm]
 |_=>exact Ev.nos h
theorem Rq.intsV:∀{r:List Int}{xs:List V},Rq Z H (r.map Pv.V.int) xs->xs=r.map V.int
 |[],xs,h=>by exact h
 |n::r,xs,h=>by
  obtain⟨v,vs,rfl,a,b⟩:=h;rw[a.int',Rq.intsV b];rfl
theorem za(I:Inv X pq O H s):∀{ds:List D}{rs:List (List Int)}{xs:List V}{its:List az},Pv.Yy ds=aa rs->Rq Z H ds xs->Vals xs its->RowsAt s.heap rs its/\ds=rs.map Pv.Zc
 |[],rs,xs,its,h,r,v=>by
  subst r;cases v;cases h;exact#[.nil,rfl]
 |d::ds,rs,xs,its,h,r,v=>by
  obtain⟨x,xs',rfl,r1,r2⟩:=r;cases v with
  |cons v1 v2=>
   obtain⟨a,b,rfl,q2,rfl⟩:=uz h;obtain⟨t,e⟩:=za I q2 r2 v2;obtain⟨p,ys,rfl,hp,ry⟩:=r1.tup';have ey:=Rq.intsV ry;subst ey;cases v1;obtain⟨us,rv,⟨o,ho,hc,m,hd⟩,_⟩:=I.tuple<|SqT.of hp;exact#[.cons ho hc hd rv t,by rw[e];rfl]
theorem RowsAt.length :∀{rs:List (List Int)}{vs:List az},RowsAt h rs vs->rs.length=vs.length
 |_,_,.nil=>rfl
 |_,_,.cons _ _ _ _ t=>by rw[aV,aV,RowsAt.length t]
theorem RowsAt.at :∀{rs:List (List Int)}{vs:List az}i,RowsAt h rs vs->i<vs.length->∃a o us m,vs.getD i bw=.ref a/\h.get? a=aa o/\o.data=.seq us.toArray m/\Vals ((rs.getD i []).map V.int) us
 |_,_,_,.nil,hi=>by simp at hi
 |_,_,0,.cons ho hc hd hv t,_=>#[_,_,_,_,rfl,ho,hd,hv]
 |_,_,i+1,.cons ho hc hd hv t,hi=>by
  obtain⟨a,o,us,m,e1,e2,e3,e4⟩:=RowsAt.at i t (by simpa using hi)
  exact#[a,o,us,m,by simpa using e1,e2,e3,by simpa using e4]
theorem RowsAt.tups(k:Sq.Lat h h'):∀{rs:List (List Int)}{vs:List az},RowsAt h rs vs->(∀r∈rs,r≠[])->∃fs,PySem.W.KatTups h' vs fs/\fs.length=vs.length/\∀v∈fs,∃n t,v=fS n t
 |_,_,.nil,_=>#[[],.nil,rfl,λv hv=>by cases hv]
 |_,_,.cons (r:=r) ho hc hd hv t,hn=>by
  obtain⟨fs,t1,t2,t3⟩:=RowsAt.tups k t λr hr=>hn r<|am _ hr
  have hr:=hn r<|al ..;cases r with
  |nil=>exact T7 rfl hr
  |cons n r=>
   obtain⟨u,g,rel⟩:=hv.get (i:=0) rfl;refine#[u::fs,.cons (k _ _ ho) hc hd (by simpa using g) t1,by rw[aV,aV,t2],λv hv=>?_]
   rcases aw.mp hv with rfl|hv
   .obtain⟨tk,e⟩:=rel
    exact#[n,tk,e]
   .exact t3 v hv
theorem zG:∀{x y:List Int}{us:List az},Vals (x.map V.int) us->Vals (y.map V.int) us->x=y
 |[],[],_,_,_=>rfl
 |[],_::_,_,.nil,h=>by cases h
 |_::_,[],_,h,.nil=>by cases h
 |a::x,b::y,_,.cons r t,.cons r' t'=>by
  obtain⟨k,rfl⟩:=r;obtain⟨k',e⟩:=r';cases e;rw[zG t t']
def ZaF{B:Type}{df:B}{rs:List B}{vs:List az}(hl:rs.length=vs.length)(nd:rs.Nodup)(h:∀i j,i<vs.length->j<vs.length->vs.getD i bw=vs.getD j bw->rs.getD i df=rs.getD j df):vs.Nodup:=by
 refine bJ.mpr λi j hi hj hij e=>?_
 have:=h i j hi hj (by simp[hi,hj,e])
 simp[af (show i<rs.length by lia),af (show j<rs.length by lia)]at this
 exact bJ.mp nd i j #[0] #[0] hij this
def Jl(R:RowsAt h rs vs)(nd:rs.Nodup)(hn:∀r∈rs,r≠[]):Sq.Asks prog w A h vs (tuples' ak) (λi j=>ltI (rs.getD i [])<|rs.getD j []):=by
 refine#[λh2 s' E Q k q=>?_,ZaF (df:=[]) R.length nd λi j hi hj e=>?_,λi j hi hj s' C E k q=>?_]
 .obtain⟨fs,t1,t2,t3⟩:=R.tups k hn
  exact PySem.W.kat_kind (T:=.type "int") t1 #[0] (λv hv=>by obtain⟨n,t,rfl⟩:=t3 v hv;exact PySem.W.Looks.of_pure rfl) rfl q
 .obtain⟨a,o,us,m,e1,e2,e3,e4⟩:=R.at i hi
  obtain⟨a',o',us',m',f1,f2,f3,f4⟩:=R.at j hj;rw[e1,f1]at e;cases e;rw[e2]at f2;cases f2;rw[e3]at f3;cases f3;exact zG e4 f4
 .obtain⟨a,o,us,m,e1,e2,e3,e4⟩:=R.at i hi
  obtain⟨a',o',us',m',f1,f2,f3,f4⟩:=R.at j hj;rw[e1,f1];refine PySem.W.kat_lt (k _ _ e2) e3 (k _ _ f2) f3<|zk e4 f4 ?_;have l1:us.toArray.size=(rs.getD i []).length:=by rw[aC,<-e4.length,ax]
  have l2:us'.toArray.size=(rs.getD j []).length:=by rw[aC,<-f4.length,ax]
  rw[l1,l2,wG];exact q
def zH{rs:List (List Int)}(hn:rs.Nodup)(hl:rs.length=n):Sq.Ord n (λi j=>ltI (rs.getD i [])<|rs.getD j []):=by
 have hd:∀i j,i<n->j<n->i≠j->rs.getD i []≠rs.getD j []:=λi j hi hj ne e=>by
  simp at e;have hi':i<rs.length:=by lia
  have hj':j<rs.length:=by lia
  refine ne<|(iB hi' hn).mp ?_;rw[af hi',af hj']at e ⊢;exact congrArg aa e
 exact#[λi j hi hj ne e=>GX (hd i j hi hj ne) e,λi j _ _ e=>UO e,λi j k _ _ _ e f=>wz e f]
def Qg{B β:Type}(b)(f:B->β)(l):bB b (l.map f)=(bB b l).map f:=by
 cases b
 .rfl
 .exact pe.symm
def yk{B:Type}(b)(l:List B):(bB b l).Perm l:=by
 cases b
 .exact cC _
 .exact ee l
def Uq{B:Type}{d:B}{vs:List B}(hi:i<vs.length):(bB b vs).getD i d=vs.getD (if b=ak then vs.length-1-i else i) d:=by
 cases b
 .rfl
 .show vs.reverse.getD i d=vs.getD (vs.length-1-i) d
  simp;rw[mE hi]
def yi(hn:rs.Nodup)(h1:Sq.Pm rs.length p)(h2:Sq.Up (Sq.ltR b rs.length λi j=>ltI (rs.getD i [])<|rs.getD j []) p rs.length) :
  (p.toList.map λi=>(bB b rs).getD i [])=Zr rs:=by
 have hp:p.toList.Perm (aO rs.length):=by simpa using bz.mp h1
 have hl:p.toList.length=rs.length:=by rw[hp.length_eq,bu]
 refine Wp ?_ ?_<|XS hn
 .refine((hp.map _).trans ?_).trans (Xc rs).symm
  have e:(aO rs.length).map (λi=>(bB b rs).getD i [])=bB b rs:=by
   apply bW
   intro i;rw[aK];by_cases h:i<rs.length
   .have:i<(bB b rs).length:=by rw[gY];exact h
    rw[cX h];simp[this]
   .have:(bB b rs).length<=i:=by rw[gY];lia
    simp[d3 h,this]
  rw[e];exact yk b rs
 .rw[cZ,bJ]
  intro i j hi hj hij;have g1:p.toList[i]=Sq.g p i:=by
   have:=Sq.ZcL (by simpa using hi)
   rw[<-bo,af hi]at this;exact ap this
  have g2:p.toList[j]=Sq.g p j:=by
   have:=Sq.ZcL (by simpa using hj)
   rw[<-bo,af hj]at this;exact ap this
  rw[g1,g2,Uq (h1.lt #[0]),Uq<|h1.lt #[0]]
  have:=h2 i j hij #[0]
  cases b
  .exact this
  .exact this
def z9{F:List Nat}{rs:List (List Int)}(h:Rq Z H (rs.map Pv.Zc) xs)(hF:∀i∈F,i<rs.length):Rq Z H ((F.map λi=>rs.getD i []).map Pv.Zc) (F.map λi=>xs.getD i V.non):=by
 induction F with
 |nil=>exact Rq.nil
 |cons i F ih=>
  refine Rq.cons ?_<|ih λj hj=>hF j<|am _ hj
  have hi:=hF i<|al ..;obtain⟨v,g,r⟩:=h.get (by rw[aK,af hi];rfl)
  show Rep Z H (Pv.Zc<|rs.getD i []) (xs.getD i V.non);rw[aA,aA,g,af hi];exact r
def zO{F:List Nat}(h:Vals xs us)(hF:∀i∈F,i<xs.length):Vals (F.map λi=>xs.getD i V.non) (F.map λi=>us.getD i bw):=by
 induction F with
 |nil=>exact .nil
 |cons i F ih=>
  refine .cons ?_<|ih λj hj=>hF j<|am _ hj
  have hi:=hF i<|al ..;obtain⟨u,g,r⟩:=h.get<|af hi;show ZA (xs.getD i V.non) (us.getD i bw);rw[aA,aA,g,af hi];exact r
def yZ(h:Rq Z H ds xs):Rq Z H (bB b ds) (bB b xs):=by
 cases b
 .exact h
 .exact h.reverse
def xo :∀{xs:List V}{us:List az},Vals xs us->Vals (bB b xs) (bB b us):=by
 cases b
 .exact λh=>h
 .have snoc:∀{xs:List V}{us:List az}{x:V}{u:az},Vals xs us->ZA x u->Vals (xs++[x]) (us++[u]):=by
   intro xs us x u h r
   induction h with|nil=>exact .cons r .nil|cons a _ ih=>exact .cons a ih
  intro xs us h;show Vals xs.reverse us.reverse
  induction h with|nil=>exact .nil|cons r t ih=>rw[eU,eU];exact snoc ih r
def Zen(b:Bool):List V->Hp->VK->Prop:=λvs H Q=>∃Z ds rws v,vs=[v]/\Rep Z H (.lst ds) v/\Pv.Yy ds=aa rws/\Yg rws=ak/\∀ys,Rq Z H ((if b then(Zr rws).reverse else Zr rws).map Pv.Zc) ys->∀p,H p=ai->Q (.ref p) (upd H p<|.lst ys)
def qb{s:aF}{O:L2.St}{H:Hp}{vs:List V}{Q:VK}{b:Bool}(I:Inv X pq O H s)(r:Vals vs us)(h:Zen b vs H Q) :
  ∃(l:aH)(its:List az)(rs:List (List Int)),us=[.ref l]/\s.heap.IsList l its.toArray/\its.length<=100000/\rs.length=its.length/\Sq.Ord its.length (λi j=>ltI (rs.getD i [])<|rs.getD j [])/\(∀A,Sq.Asks X.prog X.w A s.heap its (tuples' ak) λi j=>ltI (rs.getD i [])<|rs.getD j [])/\
   ∀p,Sq.Pm its.length p->Sq.Up (Sq.ltR b its.length λi j=>ltI (rs.getD i [])<|rs.getD j []) p its.length->
    EP X pq O Q (.ref<|s.heap.objs.size+1) {s with heap:=sortedAll s.heap its (c6<|bB b<|p.toList.map λi=>(bB b its).getD i bw)}:=by
 obtain⟨Z,ds,rws,v,rfl,r1,hrw,hok,h3⟩:=h;obtain⟨l,xs,rfl,hx,_,rx⟩:=r1.lst';obtain⟨u,rfl,ru⟩:=XZ r;cases ru;obtain⟨its,rv,pl,hz⟩:=I.list<|SqL.of hx;obtain⟨RA,ed⟩:=za I hrw rx rv;obtain⟨hok1,hok3⟩:=(aB _ _).mp hok;obtain⟨hok1,hok2⟩:=(aB _ _).mp hok1;have h64:=T6 hok1;have hnd:=T6 hok2;have hne:∀r∈rws,r≠[]:=λr hr e=>by
  have:=aX.mp hok3 r hr;rw[e]at this;cases this
 have hlen:=RA.length;refine#[l,its,rws,rfl,pl.isList,by lia,hlen,zH hnd hlen,λA=>Jl RA hnd hne,λp hp hu=>?_]
 rw[<-hlen]at hp hu;have out:=yi hnd hp hu;have hmem:∀i∈p.toList,i<rws.length:=λi hi=>by
  have hp':p.toList.Perm (aO rws.length):=by simpa using bz.mp hp
  exact aU.mp<|hp'.mem_iff.mp hi
 subst ed;have xl:xs.length=rws.length:=by rw[rx.length,ax]
 have rx1:Rq Z H ((bB b rws).map Pv.Zc) (bB b xs):=by rw[<-Qg];exact yZ rx
 have rx2:=z9 rx1 (by rw[gY];exact hmem)
 rw[out]at rx2;have rx3:=yZ (b:=b) rx2;have rv2:=xo (b:=b)<|zO (xo (b:=b) rv) (by rw[gY,xl];exact hmem)
 have eb:(if b=ak then(Zr rws).reverse else Zr rws)=bB b (Zr rws):=rfl
 rw[eb,<-Qg]at h3;obtain⟨ep,he⟩:=sortedAll_at s.heap its<|c6<|bB b<|p.toList.map λi=>(bB b its).getD i bw
 refine#[.ref<|s.heap.objs.size+1,_,I.laid (t':=s.toks) (λb ob q=>sortedAll_old q) (lh _) ?_,rfl,h3 _ rx3 _<|I.hok.fresh<|lh _]
 refine#[?_,_,ep,rv2,he];rw[gY,ax,aN,hp.size,cW];lia
def xY{q0}(hm:X.mg "sorted" = ai)(ha:CA X xw C [e] [i])(hg:Gl X "sorted")
  (he:dL pos (ay [e] X.env)=(aj,cz e X.env)::dL pos (ay [] X.env))(hpl:(dL pos<|ay [e] X.env).any (·.1)=aj) :
  CE X xw C (.Call (.Name "sorted" p) [e] [#[aa "reverse",.Constant (.bool ak) q0 kp,kp2]] pos) (.blt .sortedR [i]):=.mk <| by
 intro pq s O H Q I hq;obtain⟨Z,l,S,st,lr,h⟩:=hq;refine dE<|Xp I hg hm (rfl) ?_ #[1] #[1]
 refine callWith_kw (thn (ha.h pos pq s O H (λvs H1=>Zen ak vs H1 Q) I ?_) λus s1 #[vs,H1,I1,r1,q1]=>?_) he hpl rfl rfl
 .refine#[Z,l,S,st,lr,End.bind (h) λxs S1 ρ1 H1 vs f1 st1 r1 h1=>?_]
  obtain⟨d,v,z,rfl,r1,hz,h1⟩:=Ws h1 r1;cases d with
  |lst ds=>
   obtain⟨rws,hr,hz⟩:=cp.mp hz;split at hz
   .cases hz;exact#[ρ1,ds,rws,v,rfl,r1,hr,‹_›,λys r=>h1.newL st1 r]
   .cases hz
  |_=>exact Ev.nos hz
 .refine kws_cons (thn (ud pq s1 O H1 (λv H2=>v=.bl ak/\H2=H1) I1 #[rfl,rfl]) λu s2 #[x,H2,I2,r2,e1,e2]=>kws_nil ?_)
  subst e1 e2;cases r2;obtain⟨l,its,rs,rfl,h1,h2,h3,h4,h5,h6⟩:=qb I2 r1 q1;exact Sq.wv h1 h2 h4 (h5 _) λp a b=>h6 p a b
open PySem.SeqAt PySem.MeetsSeq PySem.MeetsSeq2 PySem.MeetsSeq3 PySem.SeqRoads2
open PySem.AutoSeq1 (wpAny_loadPart')
end Sd
namespace Sd
open Ev (ltI ltP Q3 Wr)
open PySem PySem.Spec PyProof.Rows L2
def Zhs(h:cM)(r:List Int)(v:az):Prop:=∃a o us m,v=.ref a/\h.get? a=aa o/\o.cls=.type "tuple"/\o.data=.seq us.toArray m/\Vals (r.map V.int) us
inductive RowsIn(h:cM):List (List Int)->List az->Prop where
 |nil:RowsIn h [] []
 |cons {r:List Int} {rs:List (List Int)} {v:az} {vs:List az} (a:Zhs h r v) (t:RowsIn h rs vs):RowsIn h (r::rs) (v::vs)
open Ev (E Sm Fn Bop Cop Ty Bf Mf YR Zr Yg YW)
section
variable{X:Cx}{pq:List (aH×fU)}{O:L2.St}{H:Hp}{s:aF}{Z:Mx}
theorem RowsAt.ins{h:cM}:∀{rs:List (List Int)}{vs:List az},RowsAt h rs vs->RowsIn h rs vs
 |_,_,.nil=>.nil
 |_,_,.cons ho hc hd hv t=>.cons #[_,_,_,_,rfl,ho,hc,hd,hv]<|RowsAt.ins t
end
open PySem.SeqAt PySem.MeetsSeq PySem.MeetsSeq2 PySem.MeetsSeq3 PySem.SeqRoads2
open PySem.AutoSeq1 (wpAny_loadPart')
def uk(hu:X.A.units+7<dO):Xy X xw .Lt .lt:=OpR.imp Zhy<|by rintro v u H Q ⟨Z,S,x,y,st,rx,ry,h⟩;exact zi (f:=λz=>ag<|z.1<z.2) st rx ry h
end Sd
namespace Sd
open PySem PySem.Spec PyProof.Rows L2
open Ev (E Sm Fn Bop Cop Ty Bf Mf)
section
variable{prog:bO}{w:bV}{A:cw}{E:az->aF->Prop}{s:aF}{it d:aH}{i n ep:Nat}{od:fU}{es:Array ig}
def uT(hd:(d == c8)=aj)(ho:s.heap.get? d=aa od)(hc:od.ExactDict)(hdat:od.data=.dict es ep)
  (hQ:Q (.ref s.heap.objs.size) {s with heap:=s.heap.push {cls:=.type "dict_keyiterator",data:=.fields [.ref d,.int 0 0,.int es.size 0,.int ep 0].toArray}}) :
  aW (aR prog w) A (nG<|.ref d) Q E s:=by
 have hT:s.TypeIs (.ref d) "dict":=#[_,ho,hc.1];refine ln hT pf<|cc pf hT F.entry_dict_iter ?_<|F.args_dict_iter_1 _;refine ae <| wpAny_bind (mF hT<|av (show aW _ _ (mG d >>= _) _ _ s from ?_))
 unfold mG;rw[T8 (by rw[hd];exact aP)]
 refine ae<|av<|ae<|oI ho hdat<|ae<|wpAny_dictEpoch ho hdat ?_;refine ae<|br<|av #[_,rfl,"dict_keyiterator",_,#[_,aE _ rfl,rfl],ke.lookup,?_]
 simpa[fe]using hQ
def JU(hit:s.heap.IsKeyIter it d i es.size ep)(ho:s.heap.get? d=aa od)(hdat:od.data=.dict es ep)
  (h1:∀(hlt:i<es.size) h',h'.IsKeyIter it d (i+1) es.size ep->ej it s.heap h'->Q (aa es[i].key) {s with heap:=h' })
  (h2:es.size<=i->A.handled=ai/\∀h',fD it s.heap h'->Q ai {s with heap:=h' }):aW (aR prog w) A (l6<|.ref it) Q E s:=by
 obtain⟨o,hi,hc,hd⟩:=id hit;unfold l6;refine ae (gN (cn hit.typeIs ke
  (cc ke hit.typeIs F.entry_dict_keyiterator_next ?_<|F.args_dict_keyiterator_next_1 _)))
 refine ae<|av<|ae<|ae ?_
 first|refine ae<|fF hit.typeIs<|av ?_|refine ae<|gR hit.typeIs<|av ?_
 refine ae<|wpAny_fieldsOf hi hd ?_;have hown:dP.Dict_items.ownsTuple "dict_keyiterator" = aj:=by decide
 show aW _ _ (if(cT d == bw)=ak then _ else _) _ _ s
 rw[T8<|show¬((cT d == bw)=ak)from aP]
 refine ae<|av<|ae<|oI ho hdat ?_;rw[T8 #[2]]
 refine ae<|av<|ae<|wpAny_dictEpoch ho hdat ?_;rw[T8 #[2]]
 refine av ?_;by_cases hlt:i<es.size
 .simp only[by omega,if_false,c7,bn hlt]
  refine ae ?_
  first|refine ae<|fF hit.typeIs<|av ?_|refine ae<|gR hit.typeIs<|av ?_
  refine ae<|mH hit.typeIs (show aW _ _ (setField (.ref it) 1 (fe<|(i:Int)+1) >>= _) _ _ s from ae<|fA hi hd #[2] ?_)
  have hit':(s.heap.update it (nA (·.setIfInBounds 1 (fe<|(i:Int)+1)))).IsKeyIter it d (i+1) es.size ep:=
   #[_,dy _ hi<|eM<|de hd _,(fW ..).trans hc,by rw[de hd];simp[fe]]
  refine ae<|bI<|ae<|mH hit'.typeIs ?_
  exact av<|av #[_,rfl,av<|h1 hlt _ hit'<|cH ..]
 .obtain⟨hh,hQ⟩:=h2 #[3]
  simp only[by omega,if_false,c7,iw (show es.size<=i by omega)]
  refine ae ?_
  first|refine ae<|fF hit.typeIs<|av ?_|refine ae<|gR hit.typeIs<|av ?_
  show aW _ _ (setField (.ref it) 0 .none >>= _) _ _ s;refine ae<|fA hi hd #[2]<|ae ?_
  simp only[newExc,newTuple];refine ae<|br ?_ (by size_fits)
  refine ae (fE (by first|rfl|(simp only[firstArgMember];rfl))<|br ?_ (by size_fits))
  simp only[raiseNew];refine ae<|ny ?_;rw[hh]
  refine ae<|av<|pB ?_;refine ae<|eE (b:=ak) #[_,aE _ rfl,rfl] mR ?_;exact av<|hQ _<|((cH ..).extBut.push _).push _
end
theorem JD{B β:Type}{F:B->β->Prop}:∀{l:List B}{m:List β}{i:Nat}{p:B},Paired F l m->l[i]?=aa p->∃q,m[i]?=aa q/\F p q
 |_,_,_,_,.nil,e=>by simp at e
 |_,_,0,_,.cons r t,e=>by simp at e;subst e;exact#[_,rfl,r]
 |_,_,i+1,_,.cons r t,e=>by
  obtain⟨q,h1,h2⟩:=JD t (by simpa using e)
  exact#[q,by simpa using h1,h2]
def J6:kB (.type "list") "keys" = cJ ai:=by rw[kf];kernel_rfl
def xV:isSubtype (.type "AttributeError") (.type "AttributeError")=cJ ak:=by rw[kP];kernel_rfl
section
variable{prog:bO}{w:bV}{A:cw}{E:az->aF->Prop}{s:aF}{a:aH}{B:Type}{name msg:bN}
def qH(he:s.heap.get? e=aa {cls:=.type "AttributeError",data:=.fields vs})(h6:vs[6]?=aa unsetMember)(h7:vs[7]?=aa unsetMember)
  (hQ:∀h',fD e s.heap h'->(∃ob,h'.get? e=aa ob/\ob.cls=.type "AttributeError")->Q () {s with heap:=h' }):aW (aR prog w) A (noteAttr (.ref e) ov nm) Q E s:=by
 have hT:s.TypeIs (.ref e) "AttributeError":=#[_,he,rfl];refine ae<|ae<|eE hT xV ?_;simp only[rK,fI,if_false];refine ae<|kt he ?_;simp only[h6,h7];rw[T8 #[1],T8 #[1]]
 refine av ?_;simp only[if_true];refine ae<|gp<|ae<|fH hT ?_;simp only[layMembers];refine ae<|kt he<|wpAny_update he<|hQ _ (cH ..).extBut #[_,dy _ he<|eM<|de rfl _,fW ..]
def xF{Q:B->aF->Prop}(hh:A.handled=ai)(hm:msg.length<=a9)(hq:∀h' t' e,(∀b o,s.heap.get? b=aa o->h'.get? b=aa o)->(∃ob,h'.get? e=aa ob/\ob.cls=.type "AttributeError")->E (.ref e) {s with heap:=h',toks:=t' }):aW (aR prog w) A (raiseAttrError (.ref a) name msg:pR B) Q E s:=by
 refine ae<|wpAny_mkStr ?_ hm;simp only[newExc,newTuple];refine ae<|ae<|br ?_ (by size_fits)
 refine ae (fE (by first|rfl|(simp only;rfl)) ?_)
 refine br ?_ (by size_fits)
 refine ae<|wpAny_mkText<|ae<|qH (aE _ rfl) rfl rfl λh' eb ob=>?_
 refine wpAny_raiseNew_none hh<|hq _ _ _ (λb o e=>eb b o (λz=>?_)<|aq _<|aq _ e) ob
 subst z;exact T7 (aD e) (by show¬(s.heap.push _).objs.size<s.heap.objs.size;rw[cL];omega)
end
section
variable{prog:bO}{w:bV}{A:cw}{E:az->aF->Prop}{h:cM}{g:Array GenState}{d:Drawn}{t:Nat}{os:OsState}{a:aH}{its:Array az}{n:Nat}
def wn{Q:Fin->aF->Prop}(hx:h.get? a=aa {cls:=.type "list",data:=.seq its n})(hh:A.handled=ai)(hq:∀h' t' e,(∀b o,h.get? b=aa o->h'.get? b=aa o)->(∃ob,h'.get? e=aa ob/\ob.cls=.type "AttributeError")->E (.ref e) #[h',g,d,t',os]) :
  aW (aR prog w) A (dP.«object.__getattribute__» #[[.ref a,.str "keys" tk],[]]) Q E #[h,g,d,t,os]:=by
 have f4:=J6
 repeat(any_goals (first|assumption|wp_step))
 exact xF hh (by decide +kernel) hq
def uw{R:rY->aF->Prop}(hx:h.get? a=aa {cls:=.type "list",data:=.seq its n})(hh:A.handled=ai)(hq:∀h' t' e,(∀b o,h.get? b=aa o->h'.get? b=aa o)->(∃ob,h'.get? e=aa ob/\ob.cls=.type "AttributeError")->R (.error<|.ref e) #[h',g,d,t',os]) :
  gz (aR prog w) A (.call (.builtin "list.__getattribute__") #[[.ref a,.str "keys" tk],[]]) R #[h,g,d,t,os]:=
 gu F.slot_list_getattribute.plain F.entry_list_ga (F.slot_list_getattribute.check _ _ _ _ _ _ _ _ (#[_,hx,rfl]) (F.args_list_getattribute_2 _ _)<|wn hx hh hq)
def Zdk(hx:h.get? a=aa {cls:=.type "list",data:=.seq its n})(hh:A.handled=ai)(hq:∀h' t' e,(∀b o,h.get? b=aa o->h'.get? b=aa o)->(∃ob,h'.get? e=aa ob/\ob.cls=.type "AttributeError")->E (.ref e) #[h',g,d,t',os]):aW (aR prog w) A (getAttrBy (.ref a) (.str "keys" tk) aj) Q E #[h,g,d,t,os]:=by
 have f2:=F.slot_list_getattribute.lookup;have f3:=F.slot_list_getattribute.bind<|.ref a
 repeat(any_goals (first|assumption|wp_step))
 refine uw hx hh λh' t' e k ob=>?_
 have hTe:(#[h',g,d,t',os]:aF).TypeIs (.ref e) "AttributeError":=ob;have f9:kB (.type "list") "__getattr__" = cJ ai:=by rw[kf,builtinLookup_eq_fast];kernel_rfl
 have hE:=hq h' t' e k ob
 repeat(any_goals (first|assumption|with_reducible apply eE hTe xV|wp_step))
def uK{Q:Option az->aF->Prop}(hx:h.get? a=aa {cls:=.type "list",data:=.seq its n})(hh:A.handled=ai)(hq:∀h' t',(∀b o,h.get? b=aa o->h'.get? b=aa o)->Q ai #[h',g,d,t',os]):aW (aR prog w) A (getAttr? (.ref a) "keys") Q E #[h,g,d,t,os]:=by
 refine ae<|wpAny_mkText<|ae<|gN<|Zdk hx hh λh' t' e k ob=>?_
 exact ae<|eE (ob) xV<|av<|hq h' t' k
end
def WJ:plainId "dict.update.loop" = ak:=by decide +kernel
def JS:rg table "dict.update.loop" = aa dP.«dict.update.loop»:=entryFor_of_tree (by kernel_rfl)
section
variable{prog:bO}{w:bV}{A:cw}{E:az->aF->Prop}
def xx(hp:n6 s.heap p its)(h:Q its.toList s):aW (aR prog w) A (dP.Dict.pairItems<|.ref p) Q E s:=by
 obtain⟨o,ho,hc,n,hd⟩:=hp;refine ae<|fH #[_,ho,hc] ?_;rw[T9 #[1]]
 refine ae<|ae<|kt ho ?_;rw[hd];exact av<|av h
def wH{K:Type}[DecidableEq K]{knd:KeyKind prog w K}{k:List K}(x:(dW knd).is h k a)(hk:∀o,h.get? a=aa o->h'.get? a=aa o):(dW knd).is h' k a:=by
 obtain⟨o,its,n,h1,r⟩:=x;exact#[o,its,n,hk _ h1,r]
def W9{K:Type}[DecidableEq K]{knd:KeyKind prog w K}{h h':cM}{d:aH}{xs:List (List K×aH×az)}(x:h.DictOfH (dW knd) d xs)(hd:∀o,h.get? d=aa o->h'.get? d=aa o)(hx:∀x∈xs,∀o,h.get? x.2.1=aa o->h'.get? x.2.1=aa o):h'.DictOfH (dW knd) d xs:=by
 obtain⟨o,es,ep,h1,h2,h3,h4,h5,h6⟩:=x;exact#[o,es,ep,hd _ h1,h2,h3,h4,λy hy=>wH (h5 y hy)<|hx y hy,h6]
abbrev Pr:=List Key×aH×aH
def ZbL{I d:aH}{fp wr:List aH}{its:Array az}{St:Nat->cM->Prop}{R:rY->aF->Prop}{h0:cM}{ps:List Pr}{res:az}(W:Walks prog w A.in1 I fp wr its.size (λi v=>its[i]?=aa v) St)(hu:A.units+2<dO)(hf:d∉fp)
  (hl:ps.length=its.size)(hi:∀(i:Nat)(p:Pr),ps[i]?=aa p->its[i]?=aa (cT p.2.2))
  (hp:∀p∈ps,n6 h0 p.2.2 [cT p.2.1,bD ak].toArray/\(dW<|ZR prog w).is h0 p.1 p.2.1/\p.2.2∉wr/\p.2.2≠d/\p.2.1∉wr/\p.2.1≠d)(hn:(ps.map (·.1)).Nodup)(hz:ps.length<=a9) :
  ∀(k i:Nat)(s:aF),i+k=its.size->i<=its.size->St i s.heap->(∀b o,b∉wr->b≠d->h0.get? b=aa o->s.heap.get? b=aa o)->
  s.heap.DictOfH (dW<|ZR prog w) d ((ps.take i).map λp=>(p.1,p.2.1,bD ak))->
  (∀h' tk,(∀b o,b∉wr->b≠d->h0.get? b=aa o->h'.get? b=aa o)->h'.DictOfH (dW<|ZR prog w) d (ps.map λp=>(p.1,p.2.1,bD ak))->R (.ok<|.ret res) {s with heap:=h',toks:=tk})->
  gz (aR prog w) A (.builtin "dict.update.loop" #[[.ref d,.ref I,fe i,res],[]]) R s:=by
 intro k
 induction k with
 |zero=>
  intro i s hk hi' hst kp dd hR;subst hk;refine dU JS ?_;rw[dH WJ _];refine ae<|W.done s _ _ hst λh' tk hk'=>?_
  refine ae<|av<|av<|hR h' tk (λb o hb hd z=>hk' b o hb<|kp b o hb hd z) ?_
  rw[cA<|by omega]at dd
  exact W9 dd (λo e=>hk' _ o (λz=>hf<|W.sub _ z) e) λx hx o e=>by
   obtain⟨y,hy,rfl⟩:=aM.mp hx;exact hk' _ o (hp y hy).2.2.2.2.1 e
 |succ k ih=>
  intro i s hk hi' hst kp dd hR;have hlt:i<its.size:=by omega
  have hp':=hp _<|aS (l:=ps) (n:=i) #[3]
  have hv:=hi i _<|af (l:=ps) (i:=i) #[3]
  refine dU JS ?_;rw[dH WJ _];show aW _ A.in1 (l6 (.ref I) >>= _) _ _ s;refine ae<|W.item i s _ _ hlt hst λv h' tk hP hst' hk'=>?_
  rw[hv]at hP;cases hP;obtain⟨p1,p2,p3,p4,p5,p6⟩:=hp';have kp2:∀b o,b∉wr->b≠d->h0.get? b=aa o->h'.get? b=aa o:=λb o hb hd z=>hk' b o hb<|kp b o hb hd z
  have dd2:h'.DictOfH (dW<|ZR prog w) d ((ps.take i).map λp=>(p.1,p.2.1,bD ak)):=W9 dd (λo e=>hk' _ o (λz=>hf<|W.sub _ z) e) λx hx o e=>by
   obtain⟨y,hy,rfl⟩:=aM.mp hx;exact hk' _ o (hp y<|dg hy).2.2.2.2.1 e
  obtain⟨po,g1,g2,pn,g3⟩:=p1;refine ae<|bI<|ae<|wpAny_tryCatch<|xx (its:=[cT ps[i].2.1,bD ak].toArray) #[po,kp2 _ _ p3 p4 g1,g2,pn,g3] ?_;have hsz:((ps.take i).map λp=>(p.1,p.2.1,bD ak)).length<=a9:=by rw[ax,bQ];exact bU (Nat.min_le_right ..) hz
  refine bI<|nZ (hsz:=hsz) (g9<|by omega) (wH p2 λo e=>kp2 _ o p5 p6 e) dd2 λh2 dd3 sb=>?_
  refine av #[iQ WJ _,ih (i+1) _ #[3] hlt (W.frame _ _ _ hst' λb hb o e=>(sb.2 b λz=>hf<|z▸hb).trans e) (λb o hb hd z=>(sb.2 b hd).trans<|kp2 b o hb hd z) ?_ hR]
  have hnew:ox ((ps.take i).map λp=>(p.1,p.2.1,bD ak)) ps[i].1=ai:=by
   unfold ox;rw[mj,n4];intro x hx z;obtain⟨y,hy,rfl⟩:=aM.mp hx;have hn2:=hn;rw[<-cG i ps,bT,eZ,bY<|by omega]at hn2
   exact hn2.2.2 _ (ei hy) _ (ei al)<|T6 z
  rw[storedH_new hnew]at dd3;rw[lj,af #[3],bT]
  exact dd3
def xH{s:aF}{l:aH}{its:Array az}{n:Nat}{ps:List Pr}{Q:az->aF->Prop}(hh:A.handled=ai)(hu:A.units+3<dO)(hx:s.heap.get? l=aa {cls:=.type "list",data:=.seq its n})
  (hl:ps.length=its.size)(hi:∀(i:Nat)(p:Pr),ps[i]?=aa p->its[i]?=aa (cT p.2.2))
  (hp:∀p∈ps,n6 s.heap p.2.2 [cT p.2.1,bD ak].toArray/\(dW<|ZR prog w).is s.heap p.1 p.2.1)(hn:(ps.map (·.1)).Nodup)(hz:ps.length<=a9)
  (h:∀h' tk,(∀b o,s.heap.get? b=aa o->h'.get? b=aa o)->h'.DictOfH (dW<|ZR prog w) s.heap.objs.size (ps.map λp=>(p.1,p.2.1,bD ak))->Q (.ref s.heap.objs.size) {s with heap:=h',toks:=tk}) :
  aW (aR prog w) A (call (.type "dict") [.ref l]) Q E s:=by
 refine callType_codes (Q₁:=λobj s₁=>obj=.ref s.heap.objs.size/\s₁={s with heap:=s.heap.push {cls:=.type "dict",data:=.dict #[]}}) F.kt_called_dict (F.kt_typeCall_dict_1 _) F.entry_dict_init (kt_code_dict_new _ #[rfl,rfl]) ?_
 rintro obj s₁ ⟨rfl,rfl⟩
 have hnew:(s.heap.push {cls:=.type "dict",data:=.dict #[]}).DictOfH (dW<|ZR prog w) s.heap.objs.size []:=cM.DictOfH.new s.heap;have hx':=aq {cls:=.type "dict",data:=.dict #[]} hx;refine#[hnew.typeIs (s:={s with heap:=_}),F.args_dict_init_2 _ _,?_]
 unfold dP.«dict.__init__»;refine ae ?_;unfold dP.Dict.selfAndRest;refine ae<|mF (hnew.typeIs (s:={s with heap:=_})) ?_
 refine av ?_;show aW _ _ (lR "dict.__init__" s.heap.objs.size (.ref l) [] .none) _ _ _;unfold lR;refine ae<|fH (T:="list") #[_,hx',rfl] ?_;rw[T9 #[1]]
 refine ae<|uK hx' hh λh1 t1 k1=>?_
 rw[T9<|show(ai:Option az).isNone=ak from rfl]
 have hx1:=k1 _ _ hx';obtain⟨od,es,ep,g1,g2⟩:=id hnew;have hd1:s.heap.objs.size<h1.objs.size:=aD<|k1 _ _ g1;have hl0:l<s.heap.objs.size:=aD hx;refine ae<|gp<|ae<|eW (items:=its) #[_,hx1,rfl,n,rfl]<|av #[iQ WJ _,?_];have lt:∀{b:aH}{o:fU},s.heap.get? b=aa o->b∉[h1.objs.size]/\b≠s.heap.objs.size:=λ{b o} e=>by
  have q:=aD e;exact#[λz=>T7 (aZ.mp z)<|a8<|dm q hd1,a8 q]
 refine ZbL (A:=A.in1) (h0:=s.heap) (ps:=ps) (i:=0) (s:={s with heap:=h1.push<|YD ak l,toks:=t1}) (V1 (A:=A.in1.in1) hh ak h1.objs.size l (a8<|dm hl0 hd1) its) (by show A.units+1+2<dO;omega) (λz=>?_) hl hi (λp hq=>?_) hn hz _ (oJ _) (db _) #[GG,?_] (λb o _ _ e=>aq _<|k1 _ _<|aq _ e) ?_ λh' tk kp dd=>#[rfl,h h' tk (λb o e=>kp b o (lt e).1 (lt e).2 e) dd]
 .simp only[aw,bq,or_false]at z
  rcases z with z|z
  .exact a8 hd1 z
  .exact ek hl0 z
 .obtain⟨x1,x2⟩:=hp p hq
  obtain⟨_,y1,_⟩:=id x1;obtain⟨_,_,_,y2,_⟩:=id x2;exact#[x1,x2,(lt y1).1,(lt y1).2,(lt y2).1,(lt y2).2]
 .exact#[_,aq _ hx1,rfl,n,rfl]
 .exact W9 hnew (λo e=>aq _<|k1 _ _ e) λx hx=>by cases hx
end
section
variable{X:Cx}{xw:Nat->Hp->Prop}{Z:Mx}{H:Hp}
theorem yv:∀{ds:List D}{ks:List (List Int)}{ys:List V},Pv.Va ds=aa ks->Rq Z H ds ys->∃ps:List Pr,ps.map (·.1)=ks.map (·.map cS)/\ps.length=ys.length/\
  ∀(i:Nat) p,ps[i]?=aa p->ys[i]?=aa (.ref p.2.2)/\H p.2.2=aa (.tup [.ref p.2.1,.bl ak])/\H p.2.1=aa (.tup<|p.1.map kV)
 |[],ks,ys,h,r=>by
  cases h;subst r;exact#[[],rfl,rfl,λi p e=>by simp at e]
 |d::ds,ks,ys,h,r=>by
  obtain⟨v,vs,rfl,r1,r2⟩:=r;obtain⟨a,e1,h⟩:=cp.mp (h)
  obtain⟨b,e2,rfl⟩:=bH.mp h;obtain⟨ps,h1,h2,h3⟩:=yv e2 r2;unfold Pv.Zew at e1;split at e1
  .split at e1
   .rename_i k b hb
    subst hb;obtain⟨p,zs,rfl,hp,rz⟩:=r1.tup';obtain⟨u,u2,rfl,ru,ru2⟩:=zF rz;rw[ru2.bl']at hp;obtain⟨q,ws,rfl,hq,rw'⟩:=ru.tup';rw[Xv e1 rw']at hq;refine#[(a.map cS,q,p)::ps,by rw[aY,h1];rfl,by simp[h2],λi y hy=>?_]
    cases i with|zero=>simp at hy;subst hy;exact#[rfl,hp,hq]|succ i=>exact h3 i y (by simpa using hy)
   .cases e1
  .cases e1
def J1(hc:X.calm=ak)(hu:X.A.units+7<dO):ZH X (.type "dict") (UE X.K xw .dictP):=by
 intro pq s O H vs us Q I r h;obtain⟨Z,S,ds,st,rs,h⟩:=h;obtain⟨d,v,z,rfl,r1,hz,h3⟩:=Ws h rs;have hd:∃ds ks,d=.lst ds/\Pv.Va ds=aa ks/\Ev.Qa ks=ak/\z=.dct (.inr ks):=by
  cases d with
  |lst ds=>
   obtain⟨ks,hk,hz⟩:=cp.mp hz;split at hz
   .cases hz;exact#[ds,ks,rfl,hk,‹_›,rfl]
   .cases hz
  |_=>exact Ev.nos hz
 obtain⟨ds,ks,rfl,hk,hok,rfl⟩:=hd;obtain⟨l,ys,rfl,hl,_,ry⟩:=r1.lst';obtain⟨u,rfl,ru⟩:=XZ r;cases ru;obtain⟨ps,p1,p2,p3⟩:=yv hk ry;obtain⟨_,its,c,rv,hg⟩:=(I.hok l _ hl)
 obtain⟨k1,k2⟩:=(aB _ _).mp hok;have hn:(ps.map (·.1)).Nodup:=by
  rw[p1];exact List.Pairwise.map _ (λa b ne e=>ne<|GH e)<|T6 k2
 have hlen:ps.length=ks.length:=by have:=congrArg hZ p1;simpa using this
 have hz:ps.length<=a9:=by rw[hlen,<-Uc];exact T6 k1
 have hp0:H s.heap.objs.size=ai:=I.hok.fresh<|aI _;refine xH (I.ok.hd hc) #[3] hg (by rw[p2,rv.length,aC]) (λi p e=>?_) (λp hp=>?_) hn hz λh' tk kp dd=>?_
 .obtain⟨w',g',ru'⟩:=rv.get (p3 i p e).1
  rw[ru']at g'
  simpa using g'
 .obtain⟨i,hi,e⟩:=cu hp
  obtain⟨_,a2,a3⟩:=p3 i p (by rw[<-e];exact af hi)
  obtain⟨_,zs,rz,tz⟩:=(I.hok _ _ a2)
  refine#[?_,V7 I.hok a3];cases rz with
  |cons x rz=>cases rz with
   |cons y rz=>
    cases rz;cases(x)
    cases(show _=bD ak from y)
    exact tz
 .obtain⟨od,es,ep,g1,g2,g3,g4,g5,g6⟩:=dd
  have hb:=beq_eq_false_iff_ne.mpr<|ek I.big;have hpr:∀{l:List Pr},(∀p∈l,H p.2.1=aa (.tup<|p.1.map kV))->Paired (λ(p:List Key×V) (q:List Key×aH×az)=>p.1=q.1/\upd H s.heap.objs.size (.frz od<|.dT<|ps.map λp=>(p.1,V.bl ak)) q.2.1=aa (.tup<|p.1.map kV)/\ZA p.2 q.2.2) (l.map λp=>(p.1,V.bl ak)) (l.map λp=>(p.1,p.2.1,bD ak)):=λ{l}=>by
   induction l with|nil=>intro _;exact .nil|cons p l ih=>intro hl;exact .cons #[rfl,by rw[Zj<|ZU (hl p al) hp0];exact hl p al,rfl]<|ih λq hq=>hl q<|am _ hq
  refine#[.ref s.heap.objs.size,upd H s.heap.objs.size<|.frz od<|.dT<|ps.map λp=>(p.1,V.bl ak),I.laid (t':=tk) kp (aI _) (show Z7 X.prog X.w _ h' _ (.frz od<|.dT<|ps.map λp=>(p.1,V.bl ak))from#[g1,by rw[ax];exact hz,hb,ps.map λp=>(p.1,p.2.1,bD ak),hpr λp hp=>?_,od,es,ep,g1,g2,g3,g4,g6]),rfl,?_]
  .obtain⟨i,hi,e⟩:=cu hp
   exact(p3 i p<|by rw[<-e];exact af hi).2.2
  .exact h3 Z _ _ (Zs hp0) (st.fresh hp0) (by unfold Rep;exact#[_,rfl,od,_,Zl,by rw[bS];exact p1])
end
section
variable{X:Cx}{xw:Nat->Hp->Prop}{fr:Bool}{C:Calls}{ns:List Nat}{e a:Expr}{i:E}{pos p p' p2:iE}{n:Nat}{x:bN}{q:Option bN}
def Zd1{q}(ha:CE X xw C a i):CE X xw C (.Subscript a (.Constant (.int 0) q p2) pos) (.dix i aj):=.mk <| PE.imp (Zb3 GQ ha.h Qw<|by intro _ _;with_unfolding_all rfl)<|by
 left;rw[Pv.ZdW]at h;refine#[Z,l,S,st,lr,h.bind λx S1 ρ1 H1 v f1 st1 r1 h1=>?_]
 cases x with|drw=>obtain⟨p,rfl,hn⟩:=r1.drw';exact#[p,_,0,_,rfl,rfl,SqL.of (st1.dw p hn).1,rfl,End.ok h1 st1<|ZQ _]|_=>exact h1.elim
def Zc6{q}(ha:CE X xw C a i):CE X xw C (.Subscript a (.Constant (.int 1) q p2) pos) (.dix i ak):=.mk <| PE.imp (Zb3 GQ ha.h Qw<|by intro _ _;with_unfolding_all rfl)<|by
 left;rw[Pv.ZdW]at h;refine#[Z,l,S,st,lr,h.bind λx S1 ρ1 H1 v f1 st1 r1 h1=>?_]
 cases x with|drw=>obtain⟨p,rfl,hn⟩:=r1.drw';exact#[p,_,1,_,rfl,rfl,SqL.of (st1.dw p hn).1,rfl,End.ok h1 st1<|Ym _]|_=>exact h1.elim
def Zdx{q}(he:CE X xw C e i)(hN:X.N[n]?=aa x)(hv:Vis X.env.scope x)(hd:(x == ("__debug__" : bN))=aj)
  (hcd:(x == ("__classdict__" : bN))=aj)
  (ha:∀v,dQ (.Subscript (.Name x p') (.Constant (.int 0) q p2) p) X.env v=(do
   let ov <-kZ [v] (cz (.Name x p') X.env)
   let iv <-kZ [v,ov] (cz (.Constant (.int 0) q p2) X.env)
   n8 p
   kZ [v,ov,iv] (rX ov iv v)
   release [v,ov,iv] []))(hs:d5 [.Subscript (.Name x p') (.Constant (.int 0) q p2) p] e pos.line X.env=cJ aj)(hw:d6 [.Subscript (.Name x p') (.Constant (.int 0) q p2) p] e X.env=cJ ai)
  (h1:(cg [.Subscript (.Name x p') (.Constant (.int 0) q p2) p] X.env).map (·.2)=[dQ (.Subscript (.Name x p') (.Constant (.int 0) q p2) p) X.env]):CS X xw fr C ns (.Assign [.Subscript (.Name x p') (.Constant (.int 0) q p2) p] e pos) (.dset n i):=.mk <|
 PS.imp (X8 he.h (ZfO (Yx hN hv hd hcd) Qw (Zbh) ha) hs hw h1)<|by
 right;rw[Pv.Zgl]at h;refine#[Z,l,S,st,en.all,ZC.bind en h λy S1 H1 v f1 st1 r1 h1=>?_]
 cases y with
 |int y=>
  obtain⟨hk,h1⟩:=h1.guard;have hx:l[n]?=aa (aa .drw):=by
   cases z:l[n]? with
   |none=>rw[z]at h1;exact h1.elim
   |some o=>cases o with
    |none=>rw[z]at h1;exact h1.elim
    |some d=>cases d<;>rw[z]at h1<;>first|rfl|exact h1.elim
  rw[hx]at h1;obtain⟨u,hu,r⟩:=(en.mono f1).all.val n .drw hx;obtain⟨a,rfl,hn⟩:=r.drw';obtain⟨e1,_⟩:=st1.dw a hn;refine#[.ref a,hu,a,_,0,0,rfl,rfl,e1,rfl,?_];rw[r1.int'];have f2:Fut Z H1 Z (upd H1 a<|.lst [.int y,.bl S1.2]):=#[rfl,λb o z=>by
   by_cases c:b=a
   .subst c;rw[e1]at z;cases z;exact .inr<|.inl #[hn,_,rfl]
   .exact .inl (by rw[Zj c];exact z)]
  refine h1 _ O W #[st1.hk,λb x=>?_,λb x=>?_,st1.tb.upd (λo u z=>by rw[e1]at z;cases z) λ_ z=>by cases z]<|(en.mono f1).mono f2
  .by_cases c:b=a
   .rw[c];rw[Zl];intro z;cases z
   .rw[Zj c];exact st1.xd b x
  .rw[hn]at x
   cases x;exact#[Zl,hk]
 |_=>exact h1.elim
end
open Ev in
noncomputable def WW:Fn:=#[2,4,
 [.ite (.dix (.v 0) ak) [.asg [2]<|.bin .mod (.dix (.v 0) aj)<|.v 1,
  .dset 0 (.bin .fdiv (.dix (.v 0) aj)<|.v 1),
  .ret (.v 2)] [],
  .dset 0 (.bin .mod (.bin .add (.bin .mul (.dix (.v 0) aj)<|.n 48271)<|.n 29)<|.n 2147483647),
  .asg [3] (.bin .mod (.bin .add (.bin .add (.bin .mul (.dix (.v 0) aj)<|.dix (.v 0) aj)<|.bin .mul (.n 39373)<|.dix (.v 0) aj)<|.n 7)<|.n 2147483629),
  .asg [3] (.bin .mod (.bin .add (.bin .mul (.v 3)<|.v 3)<|.bin .mul (.n 16807)<|.v 3)<|.n 2147483587),
  .ret (.bin .mod (.bin .fdiv (.v 3)<|.n 8)<|.v 1)]]
open Ev Pv in
def WA(h0:0<=a)(h:a<4294967296):fits a=ak:=by
 refine T5 ?_;have h1:a.natAbs<2^32:=by lia
 exact bi h1<|dJ #[1] #[1]
open Ev Pv in
def Z5{s:ZO}{m:Int}(h:okS s.1 s.2=ak)(m0:0<m)(m1:m<1073741824):Ga C WW [.drw,.int m] s=.ok (.int (Wd s m).1) (Wd s m).2:=by
 obtain⟨a,b⟩:=s;unfold okS at h;have hm:muts WW.body=[]:=rfl;unfold Ga;rw[hm];have ha:0<=a:=T6 ((aB _ _).mp h).1;have lt8:(8:Int)<big:=Zbd #[1]
 cases b with
 |true=>
  have o2:okS (a / m) ak=ak:=by simp[okS];exact Int.ediv_nonneg ha #[0]
  simp[WW,Wd,rvs,rE1,rE9,G8,Zgl,pvA,pE1,pE2,pE7,ZdW,YO,PR.bind,po,Zz,ZP,ofD,Vo,Pv.UD,m0,m1,Zbd m1,o2,hide]
 |false=>
  have x0:0<=(a*48271+29)%2147483647:=by lia
  have x1:(a*48271+29)%2147483647<2147483647:=by lia
  generalize hxx:(a*48271+29)%2147483647=x at x0 x1;have y0:0<=(x*x+39373*x+7)%2147483629:=by lia
  have y1:(x*x+39373*x+7)%2147483629<2147483629:=by lia
  generalize hyy:(x*x+39373*x+7)%2147483629=y at y0 y1;have f1:=WA x0 #[0]
  have f3:fits 48271=ak:=WA #[0] #[0]
  have f4:fits 39373=ak:=WA #[0] #[0]
  have f5:fits 16807=ak:=WA #[0] #[0]
  have o2:okS x aj=ak:=by simp[okS,x0,x1]
  simp[WW,Wd,rvs,rE1,rE9,G8,Zgl,pvA,pE1,pE2,pE7,ZdW,YO,PR.bind,po,Zz,ZP,ofD,Vo,Pv.UD,m0,m1,lt8,(WA ha #[0]),hxx,hyy,f1,(WA y0 #[0]),f3,f4,f5,o2,hide]
def ZcG{K:ao}:∀Z S H ds vs,St3 K Z S H->Rq Z H ds vs->Pv.Zm F tk (d+1) tk ds S=.no\/Pv.Zm F tk (d+1) tk ds S=Ga (Pv.Zm F tk d) WW ds S:=λZ S H ds vs st r=>by
 rw[Pv.Zm,T9 rfl];unfold Pv.ZeB;split
 .rename_i m
  obtain⟨v,u,rfl,r1,_⟩:=zF r;obtain⟨a,_,hn⟩:=r1.drw';split
  .rename_i hm
   exact .inr (Z5 (st.dw a hn).2 hm.1 hm.2).symm
  .exact .inl rfl
 .exact .inl rfl
def vg{K:ao}(hn:n≠tk)(hf:F[n]?=aa fn):∀Z S H ds vs,St3 K Z S H->Rq Z H ds vs->Pv.Zm F tk (d+1) n ds S=.no\/Pv.Zm F tk (d+1) n ds S=Ga (Pv.Zm F tk d) fn ds S:=λZ S H ds vs st r=>by
 rw[Pv.Zm,T8 hn,hf]
 all_goals exact .inr rfl
def Zck(h:Pv.QV v=aa d):v=.lst [.int d.1,.bl d.2]/\Pv.okS d.1 d.2=ak:=by
 unfold Pv.QV at h;split at h
 .split at h
  .cases h;exact#[rfl,‹_›]
  .cases h
 .cases h
def yO{l:Lc}{i:Nat}(h:(l.map Pv.JH)[i]?=aa (aa d)):l[i]?=aa (aa d)/\d.flat=ak:=by
 rw[aK]at h;cases q:l[i]? with
 |none=>rw[q]at h;cases h
 |some o=>
  rw[q]at h;obtain⟨a,b⟩:=Option.filter_eq_some_iff.mp<|ap h;exact#[by rw[a],b]
def qT{l:Lc}{i:Nat}{d:D}(h:(Pv.VE n l)[i]?=aa (aa d)):l[i]?=aa (aa d)/\d.flat=ak:=by
 unfold Pv.VE at h;rw[List.getElem?_append]at h;split at h
 .obtain⟨a,b⟩:=yO h
  rw[cD]at a;split at a
  .exact#[a,b]
  .cases a
 .rw[cK]at h
  split at h<;>cases h
def xj :(Pv.VE n l).length=l.length:=by
 unfold Pv.VE;rw[aQ,ax,bQ,bL];omega
def tCl(X:Cx)(xw:Nat->Hp->Prop)(C:Calls)(fi:Nat)(is:List E):TE:=λO H Q=>tA X xw (Pv.pvs C is) O H λvs H1=>∃Z ds S,St3 X.K Z S H1/\Rq Z H1 ds vs/\End X.K xw (Wj ak H1) Z H1 Q (C fi ds S)
def Zfu{fi:Nat}{y:bN}{is:List E}{ss:List fq}{B:List Sm}(hc:PE X (.Call (.Name y p') (e::es) [] p) (tCl X xw C fi is))(hB:CSs X xw fr C ns ss B)(hN:X.N.Nodup)
  (hi:X.N[n]?=aa x:=by rfl)(hx:L2.Loc X.env.scope x:=by first|exact Or.inl rfl|exact o0 rfl)(hf:X.fn x=ak\/X.env.scope.names.lookup x=aa .local:=by first|exact .inl rfl|exact .inr rfl)
  (hs:d5 [.Name x px] (.Call (.Name y p') (e::es) [] p) pos.line X.env=cJ aj:=by rfl)(hw:d6 [.Name x px] (.Call (.Name y p') (e::es) [] p) X.env=cJ ai:=by rfl)
  (h1:(cg [.Name x px] X.env).map (·.2)=[dQ (.Name x px) X.env]:=by rfl) :
  CSs X xw fr C ns (.Assign [.Name x px] (.Call (.Name y p') (e::es) [] p) pos::ss) [.cel n fi is B]:=.mk <|
 PSs.imp (YJ (X8 hc (zj hN hi hx hf) hs hw h1) hB.h)<|by
 right;have h:ZC fr X.K xw Z H0 D (Pv.rv C ns (.cel n fi is B) l os S):=by
  rw[Pv.rvs]at h;cases q:Pv.rv C ns (.cel n fi is B) l os S with|no=>rw[q]at h;exact h|ex c s=>rw[q]at h;exact h|ok g s=>rw[q]at h;cases g<;>exact h
 rw[Pv.ZgY]at h;obtain⟨ho,h⟩:=h.guard;refine#[Z,l,S,st,en.all,ZC.bind en h λxs S1 H1 vs f1 st1 r1 h1=>?_]
 refine#[Z,xs,S1,st1,r1,ZC.bind (en.mono f1) h1 λv S2 H2 u f2 st2 r2 h2=>?_]
 obtain⟨d,hd,h3⟩:=ZC.ob h2;obtain⟨rfl,hok⟩:=Zck hd;obtain⟨a,rfl,na⟩:=r2.2 rfl _ rfl;obtain⟨_,us,z,ea,_,ru⟩:=r2.1.lst';cases z;obtain⟨u1,u2,rfl,q1,q2⟩:=zF ru;cases q1.int';cases q2.bl';have en2:=(en.mono f1).mono f2;have nX:∀q,Z.X q->q≠a:=λq x z=>st1.xd q x<|z▸na
 let ρ':Mx:=#[Z.K,aa a,λq=>Z.X q\/q=a,λq h=>.inr (ap h).symm]
 have st':St3 X.K ρ' d H2:=#[st2.hk,λq x=>x.elim (st2.xd q) λz=>(by rw[z,ea];intro w;cases w),λq x=>(by cases x;exact#[ea,hok]),st2.tb]
 have en':Eu ρ' H2 (λ_=>ai) ((Pv.VE n l).set n<|aa .drw) [] (O.set n<|aa<|.ref a) H2:=by
  refine#[Fut.refl _ _,st'.xd,by rw[bC,bC,xj];exact en.len,λ_=>rfl,λ_ _ _ z=>?_,λ_ _ z=>?_,λ_ _ z=>?_,λi w q _=>?_]
  .cases z
  .cases z
  .cases z
  .rcases Gx q with⟨rfl,z,hl⟩|⟨c,z⟩
   .cases z
    exact#[.ref a,bc (by rw[<-en.len,<-xj (n:=n)];exact hl),by unfold Rep;exact#[a,rfl,rfl]]
   .obtain⟨z,hfl⟩:=qT z
    obtain⟨v,hv,r⟩:=en2.all.val i w z;exact#[v,by rw[ba c];exact hv,Rep.flat (Z:=Z) (ρ':=ρ'.ex λ_=>ai) rfl (λ_ _ z _ _=>z) hfl r]
 have n0:∀{b},b≠a->ρ'.n0≠aa b:=λc w=>T7 (ap w).symm c
 have keep:∀{H'},Fut ρ' H2 ρ' H'->∀b o,b≠a->H2 b=aa o->(∀ps,o≠.tbl ps)->H' b=aa o:=λ{H'} f b o c z n=>(f.keep b o z).elim id λw=>w.elim (λw=>T7 w.1<|n0 c) λ#[#[ps,e],_]=>T7 e<|n ps
 have back:∀{H':Hp}{s:ZO},Fut ρ' H2 ρ' H'->St3 X.K ρ' s H'->St3 X.K Z S2 H'/\Fut Z H0 Z H':=λ{H' s} f w=>by
  refine#[#[st2.hk,λq x=>?_,λq x=>?_,w.tb],rfl,λb o z=>?_]
  .exact f.there (n0<|nX q x)<|st2.xd q x
  .obtain⟨e1,e2⟩:=st2.dw q x
   exact#[keep f q _ (nX q<|Z.xz q x) e1 (by intro _ z;cases z),e2]
  .have ne:b≠a:=λc=>by rw[c,yJ (en.mono f1) st1 na]at z;cases z
   rcases en2.fut.keep b o z with y|y|⟨e,ps,y⟩
   .rcases f.keep b o y with q|q|q
    .exact .inl q
    .exact T7 q.1<|n0 ne
    .exact .inr<|.inr q
   .exact .inr<|.inl y
   .rcases f.keep b _ y with q|⟨_,xs,q⟩|⟨_,q⟩
    .exact .inr<|.inr #[e,ps,q]
    .cases q
    .exact .inr<|.inr #[e,q]
 have backE:∀{H':Hp}{s:ZO}{W':Own}{l':Lc}{os':List Nat}{σ':L2.St},Eu ρ' H2 W' l' os' σ' H'->St3 X.K ρ' s H'->St3 X.K Z S2 H'/\Eu Z H0 (λ_=>ai) (l'.map Pv.JH) [] σ' H':=λ{H' s W' l' os' σ'} g w=>by
  obtain⟨a1,a2⟩:=back g.fut w;refine#[a1,a2,en.xd,by rw[ax];exact g.len,λ_=>rfl,λ_ _ _ z=>?_,λ_ _ z=>?_,λ_ _ z=>?_,λi w q _=>?_]
  .cases z
  .cases z
  .cases z
  .obtain⟨z,hfl⟩:=yO q
   obtain⟨v,hv,r⟩:=g.all.val i w z;exact#[v,hv,Rep.flat (Z:=ρ') (ρ':=Z.ex λ_=>ai) rfl (λ_ _ z _ _=>z) hfl r]
 refine#[ρ',H2,λ_=>ai,_,[],d,st',en',?_]
 cases q:Pv.rvs C ns B ((Pv.VE n l).set n<|aa .drw) [] d with
 |no=>rw[q]at h3;exact h3
 |ex c s=>rw[q]at h3;exact h3.elim
 |ok g s=>
  rw[q]at h3;cases g with
  |nx l' os'=>exact λH' σ' W' w g=>let #[a1,a2]:=backE g w;h3 H' σ' _ a1 a2
  |ret v=>
   obtain⟨hfl,h3⟩:=ZC.guard h3;exact λH' v' f w r=>let #[a1,a2]:=back f w;h3 H' v' a2 a1 #[Rep.flat (Z:=ρ') (ρ':=Z) rfl (λ_ _ z _ _=>z) hfl r.1,λ_ ds z=>by rw[z]at hfl;cases hfl]
open Ev (ltI YR Zr Yg)
section
variable{prog:bO}{w:bV}{A:cw}{E:az->aF->Prop}{s:aF}{d:aH}{ep:Nat}{od:fU}{es:Array ig}
def vh(lo:(d == c8)=aj)(hc:od.ExactDict)(hdat:od.data=.dict es ep):kQ prog w "dict" d d es.size (λi v=>(es[i]?).map (·.key)=aa v) (λh=>h.get? d=aa od) where
 type:=λ_ hm=>#[_,hm,hc.1]
 there:=λ_ hm=>#[aD hm,aD hm]
 keep:=λ_ _ hm hk=>hk d (.inl rfl) _ hm
 notList:=by decide
 notTuple:=by decide
 hint:=λ_ _ _ _ hm hq=>PySem.W.kdl_hint_dict #[_,hm,hc.1] hq
 iter:=λA s hh hm=>by
  refine#[_,λi h=>h.IsKeyIter s.heap.objs.size d i es.size ep/\h.get? d=aa od,λE Q hq=>uT lo hm hc hdat hq,?_,#[_,aE _ rfl,rfl,rfl],aq _ hm]
  exact{
   sub:=λb hb=>by simp at hb;simp[hb]
   frame:=λ_ _ _ st hk=>#[st.1.at λo e=>hk _ #[2] o e,hk d #[2] _ st.2]
   item:=λi s' Q E hi st hQ=>JU st.1 st.2 hdat (λhlt h' hit' sb=>hQ _ h' s'.toks (by simp[hlt]) #[hit',sb.extBut _ _ (a8<|aD hm) st.2] λb o hb e=>sb.extBut b o (λz=>hb<|by simp[z]) e) λz=>T7 hi #[3]
   done:=λs' Q E st hQ=>JU st.1 st.2 hdat (λhlt _ _ _=>T7 hlt<|by omega) λ_=>#[hh,λh' eb=>hQ h' s'.toks λb o hb e=>eb b o (λz=>hb<|by simp[z]) e]
   self:=λ_ _ _ _ st hQ=>wpAny_pyIter_keyiter st.1 hQ}
def vM(h:se (λi v=>(es[i]?).map (·.key)=aa v) acc es.size):acc.toList=es.toList.map (·.key):=by
 refine bW λi=>?_
 by_cases hi:i<es.size
 .have hl:i<acc.size:=by rw[h.1];exact hi
  have:=h.2 i acc[i]<|bn hl;rw[aK,bo,bo,this,bn hl]
 .rw[bM (by rw[aN,h.1];omega),bM (by simp;omega)]
def xi{R:List az->aF->Prop}(K:kQ prog w T r d n P OK)(hh:A.handled=ai)(hok:OK s.heap)(hn:n<=a9)
  (h:∀h' tk acc,(∀b o,s.heap.get? b=aa o->h'.get? b=aa o)->s.heap.objs.size<=h'.objs.size->se P acc n->R acc.toList {s with heap:=h',toks:=tk}):aW (aR prog w) A (collect<|.ref r) R E s:=by
 obtain⟨l1,l2⟩:=K.there _ hok
 let S:=s.heap.objs.size
 have hS:(s.heap.push {cls:=.type "list",data:=.seq #[]}).get? S=aa {cls:=.type "list",data:=.seq #[]}:=aE _ rfl;have fin:∀{h':cM}{tk c:Nat}{acc:Array az},(∀b o,b≠S->(s.heap.push {cls:=.type "list",data:=.seq #[]}).get? b=aa o->h'.get? b=aa o)->h'.get? S=aa {cls:=.type "list",dict:=ai,data:=.seq acc c,slots:=#[]}->se P acc n->R acc.toList {s with heap:=h',toks:=tk}:=
  λk e i=>h _ _ _ (λb o z=>k b o (a8<|aD z)<|aq _ z) (gw<|aD e) i
 refine ae<|wpAny_runValue<|dU entry_proto_collect' ?_;rw[dH PySem.F.plain_proto_collect _];refine ae<|br<|av #[iQ lT _,dU entry_list_iadd' ?_];rw[dH lT _];refine dq (PySem.W.kdl_extend (R:=λq s'=>∃h' tk acc c,q=.ok (.ret<|.ref S)/\s'={s with heap:=h',toks:=tk}/\h'.get? S=aa {cls:=.type "list",dict:=ai,data:=.seq acc c,slots:=#[]}/\R acc.toList s') K hh (K.keep _ _ hok λb _ o e=>aq _ e) S (ek l1) (ek l2) _ 0 hS (λh' tk acc c k e i=>#[h',tk,acc,c,rfl,rfl,e,fin k e i]) hn) (λf s' x=>?_) λe s' x=>?_
 .cases f with
  |done f=>
   obtain⟨h',tk,acc,c,z,rfl,e,q⟩:=x;cases z;exact ae<|kt e<|av q
  |again c'=>
   refine#[x.1,fG x.2 λy s2 z=>?_]
   obtain⟨h',tk,acc,c,rfl,rfl,e,q⟩:=z;exact ae<|kt e<|av q
 .obtain⟨_,_,_,_,z,_⟩:=x
  cases z
def zw(hh:A.handled=ai)(lo:(d == c8)=aj)(ho:s.heap.get? d=aa od)(hc:od.ExactDict)(hdat:od.data=.dict es ep)(hv:es.toList.map (·.key)=vs)(h64:vs.length<=100000)
  (O:Sq.Ord vs.length lt)(K:Sq.Asks prog w A.in1.in1 s.heap vs κ lt)
  (h:∀p h' tk D n,Sq.Pm vs.length p->Sq.Up (Sq.ltR aj vs.length lt) p vs.length->(∀b o,s.heap.get? b=aa o->h'.get? b=aa o)->s.heap.objs.size<=D->h'.get? D=aa (fN "list" (c6<|bB aj<|p.toList.map λi=>(bB aj vs).getD i bw) n)->Q (.ref D) {s with heap:=h',toks:=tk}) :
  aW (aR prog w) A (call (.builtin "sorted") [.ref d]) Q E s:=by
 have hl:vs.length=es.size:=by rw[<-hv];simp
 refine Calls.call_function_entry pG oG oH (args_sorted1 _) ?_;unfold dP.«sorted»;refine ae<|av ?_;refine ae<|xi (vh lo hc hdat) hh ho (by rw[cW];omega) λh1 tk acc hk big hacc=>?_
 rw[vM hacc,hv];refine ae<|lD ?_ (by rw[cW];omega)
 have hoL:(h1.push<|fN "list" vs.toArray 0).get? h1.objs.size=aa (fN "list" vs.toArray 0):=aE _ rfl;refine ae (bI (cc mU #[_,hoL,rfl] mw (by
  rw[Sq.Jn];exact Sq.list_sort_rev hoL h64 (λb o e=>by
   have hlt:=aD<|hk b o e;exact#[a8 hlt,aq _<|hk b o e]) O K λp a1 a2=>#[_,rfl,av #[_,rfl,by
    obtain⟨n,hn⟩:=sortedHeap_at hoL;exact h p _ tk _ n a1 a2 (λb o e=>by
     have hlt:=aD<|hk b o e;rw[sortedHeap_old (a8 hlt) (by rw[nY];exact cB hlt)]
     exact aq _<|hk b o e) big hn]])<|args_list_sort _))
end
def Zfb(tk tv:TE):TE:=λO H Q=>∀p,H p=ai->xU [(tk,tv)] O (upd H p<|.dT []) λps H2=>∃b r z,ps=[(.ref b,z)]/\H2 b=aa (.tup<|r.map kV)/\H2 p=aa (.dT [])/\Q (.ref p) (upd H2 p<|.dT [(r,z)])
def qP(hu:X.A.units+7<dO)(hk:PE X k tk)(hv:PE X v tv):PE X (.Dict [aa k] [v] pos) (Zfb tk tv):=by
 intro pq s O H Q I h;have I1:=I.laid (t':=s.toks) (λ_ _ q=>aq _ q) (aI _)<|Za6 s.heap I.big
 rw[arm_eval_Dict,zip_pairTrees [aa k] [v] X.env pos rfl rfl,dictDisplay_pairs (pairTrees [aa k] [v] X.env pos) (by simp[pairTrees]) (by rw[pairTrees_length _ _ _ _ rfl rfl];show 1<17;omega)]
 refine ae<|iO<|ae ?_;refine ae<|pA<|ae<|bI ?_;rw[T9 (by rw[pairTrees_length _ _ _ _ rfl rfl];show 1<=15;omega)]
 refine ae<|thn (Zbk hk hv ZdJ pq _ O _ _ I1<|h _<|I.hok.fresh<|aI s.heap.objs.size) λws s2 #[ps,H2,I2,rel,b,r,z,e,hb,hp,q]=>?_
 subst e;cases rel with
 |@cons _ y _ ys h1 t=>
  cases t;obtain⟨u,x⟩:=y;obtain⟨h1,h2⟩:=h1;cases(h1);obtain⟨zz,hd,xs,rl,dd⟩:=Zeq I2.hok hp;cases rl;refine bI ?_;rw[mr];refine ae (ae<|ae<|nZ ((show X.A.units<dO by omega)) (V7 I2.hok hb) dd λh' dd' hs=>av ?_)
  show aW _ _ (mP [] _ _) _ _ _;rw[pW];refine av<|av<|av<|av #[.ref s.heap.objs.size,_,?_,rfl,q];obtain⟨o,es,ep,hq,g2,g3,g4,_,g5⟩:=dd';refine Gz I2 (by rw[hp];exact dN) hs #[o,hq] #[by show 1<=a9;decide,hd,[(r,b,x)],.cons #[rfl,?_,h2] .nil,o,es,ep,hq,g2,g3,g4,g5]
  rw[Zj (ZeF hb hp (λz=>nomatch z))]
  exact hb
def yV(h:Rep Z H d v)(e:Pv.Zgq d=aa r):∃b,v=.ref b/\H b=aa (.tup<|(r.map (cS:Int->Key)).map kV):=by
 cases d with|tup ks=>obtain⟨b,xs,rfl,hb,rs⟩:=h.tup';exact#[b,rfl,by rw[hb,Xv e rs]]|_=>exact Ev.nos e
def Zcg(h:Rep Z H d v)(e:Pv.isT d=ak):v=.bl ak:=by
 cases d with
 |bl b=>cases b with|true=>exact h.bl'|false=>cases e
 |_=>cases e
def uP(h:vs.map (·.1)=ks.map (·.map (cS:Int->Key))):(W3 vs (r.map cS) v).map (·.1)=(Pv.YK ks r).map (·.map cS):=by
 have hv:=V5 (k:=r) h;unfold Pv.YK;cases c:ks.contains r with
 |true=>
  rw[c]at hv;unfold W3;rw[Wl,hv,T9 rfl,bS,T9 rfl,<-h];refine du λx _=>?_
  show(if x.1=_ then(x.1,v)else x).1=x.1
  split<;>rfl
 |false=>
  rw[c]at hv;rw[Zbx v (by simpa using hv),bT,h,T8 aP,bT]
  rfl
section
variable{X:Cx}{xw:Nat->Hp->Prop}{fr:Bool}{C:Calls}{ns:List Nat}{e a b c tg:Expr}{i j k:E}{pos p p' p2 dp:iE}{n:Nat}{x:bN}
def Ze8{q:Nat}(hu:X.A.units+7<dO)(he:CE X xw C e i)(hg:CG X tg [n])(hs:d5 [tg] (.Dict [aa e] [.Constant (.bool ak) q p] dp) pos.line X.env=cJ aj)(hw:d6 [tg] (.Dict [aa e] [.Constant (.bool ak) q p] dp) X.env=cJ ai)
  (h1:(cg [tg] X.env).map (·.2)=[dQ tg X.env]):CS X xw fr C ns (.Assign [tg] (.Dict [aa e] [.Constant (.bool ak) q p] dp) pos) (.dnw n i):=.mk <| PS.imp (X8 (qP hu he.h ud) hg.h hs hw h1) λD O H #[Z,H0,W,l,os,S,st,en,h]=>λa ha=>by
 rw[Pv.Zhu]at h;have f0:Fut Z H Z (upd H a<|.dT []):=Zs ha;have en0:=en.mono f0;refine#[Z,l,S,st.fresh ha,en0.all,ZC.bind en0 h λy S1 H1 v f1 st1 r1 h1=>?_]
 obtain⟨r,hr,h1⟩:=ZC.ob h1;obtain⟨hl,h1⟩:=h1.guard;obtain⟨b,rfl,hb⟩:=yV r1 hr;have nx:=st.nx ha;have hp:=vj f1 nx Zl;have hx:¬(Z.ex W).X a:=λz=>z.elim nx λ#[j,w]=>let #[_,_,_,z]:=en.own j a w;T7 ha z.ne
 have f2:Fut Z H Z (upd H1 a<|.dT [(r.map cS,.bl ak)]):=#[rfl,λc o z=>by
  have ne:c≠a:=λq=>by rw[q,ha]at z;cases z
  rw[Zj ne];exact(f0.trans f1).keep c o z]
 refine#[b,r.map cS,.bl ak,rfl,hb,hp,h1 _ _ _ ?_<|en.takeO st.xd f2 ha hx #[_,Zl,rfl] hl];exact#[st1.hk,λc z=>by rw[Zj λq:c=a=>nx (by rw[<-q];exact z)];exact st1.xd c z,λc z=>by rw[Zj λq:c=a=>nx (by rw[<-q];exact Z.xz c z)];exact st1.dw c z,st1.tb.upd (λo u z=>by rw[hp]at z;cases z) λ_ z=>by cases z]
def Zd5{ix:Expr}{ii:E}(hu:X.A.units+7<dO)(hi:CE X xw C ix ii)(he:CE X xw C e i)(hN:X.N[n]?=aa x)(hv:Vis X.env.scope x)(hd:(x == ("__debug__" : bN))=aj)(hcd:(x == ("__classdict__" : bN))=aj)
  (hs:eC e (aa<|.Subscript (.Name x p') ix p) pos.line X.env=cJ aj):CS X xw fr C ns (.Assign [.Subscript (.Name x p') ix p] e pos) (.dput (.v n) ii i):=.mk <| PS.imp (Zd4 #[3] (Yx hN hv hd hcd) hi.h he.h hs)<|by
 right;rw[Pv.rE7]at h;obtain⟨c,h⟩:=h.guard;refine#[Z,l,S,st,en.all,ZC.bind en h λy S1 H1 v f1 st1 r1 h1=>?_]
 obtain⟨ht,h1⟩:=h1.guard;obtain⟨ks,hk,h1⟩:=ZC.ob h1;have en1:=en.mono f1;obtain⟨a,ha⟩:=bP.mp<|(en.osW n).symm.trans c;have own:∀{H2},Eu Z H0 W l os O H2->O[n]?=aa (aa<|.ref a)/\∃vs,H2 a=aa (.dT vs)/\vs.map (·.1)=ks.map (·.map cS):=λ{H2} en=>by
  obtain⟨d,p,q,r⟩:=en.own n a ha;rw[p]at hk;cases d with|dow ks'=>cases hk;exact#[q,r]|_=>cases hk
 refine#[.ref a,(own en1).1,Z,l,S1,st1,en1.all,ZC.bind en1 h1 λz S2 H2 w f2 st2 r2 h2=>?_]
 obtain⟨r,hr,h2⟩:=ZC.ob h2;obtain⟨hl,h2⟩:=h2.guard;have en2:=en1.mono f2;obtain⟨b,rfl,hb⟩:=yV r2 hr;obtain⟨_,vs,e2,e3⟩:=own en2;have hz:vs.length<a9:=by
  have:=congrArg hZ e3;rw[ax,ax]at this;rw[this];exact hl
 rw[Zcg r1 ht];exact#[a,_,rfl,DPut.t e2 hb hz,h2 _ _ W (st2.mut en2 ha)<|en2.mutO ha #[_,Zl,uP e3]]
def Zhd{a:aH}(ok:HOk P w H h)(e:H a=aa (.dT kvs)):(a == c8)=aj/\kvs.length<=a9/\
  ∃(o:fU)(es:Array ig)(ep:Nat),h.get? a=aa o/\o.ExactDict/\o.data=.dict es ep/\es.size=kvs.length/\∃qs:List aH,es.toList.map (·.key)=qs.map cT/\qs.length=kvs.length/\∀(i:Nat) p,kvs[i]?=aa p->∃q,qs[i]?=aa q/\H q=aa (.tup<|p.1.map kV):=by
 obtain⟨z,y,xs,r,o,es,ep,h1,h2,h3,h4,h5⟩:=(ok a _ e);have hl:es.size=kvs.length:=by
  have:=congrArg hZ h4;rw[ax,<-Paired.length r]at this
  simpa using this
 refine#[y,z,o,es,ep,h1,h2,h3,hl,xs.map (·.2.1),?_,by rw[ax,<-Paired.length r],λi p hp=>?_]
 .rw[h4,bS,bS];rfl
 .obtain⟨q,hq,e1,e2,e3⟩:=JD r hp
  exact#[q.2.1,by rw[aK,hq];rfl,e2]
theorem Jc :∀{ks:List (List Int)}{qs:List aH},qs.length=ks.length->(∀(i:Nat) k,ks[i]?=aa k->∃q,qs[i]?=aa q/\H q=aa (.tup<|k.map V.int))->Rq Z H (ks.map Pv.Zc) (qs.map V.ref)
 |[],[],_,_=>Rq.nil
 |k::ks,q::qs,hl,h=>by
  obtain⟨q',e,hq⟩:=h 0 k rfl;cases e;exact Rq.cons (Xe hq<|Rq.ints k)<|Jc (by simpa using hl) λi k e=>h (i+1) k e
 |[],_::_,hl,_=>by cases hl
 |_::_,[],hl,_=>by cases hl
theorem V4:∀qs:List aH,Vals (qs.map V.ref) (qs.map cT)
 |[]=>.nil
 |q::qs=>.cons rfl<|V4 qs
theorem yT:∀ks,Pv.Yy (ks.map Pv.Zc)=aa ks
 |[]=>rfl
 |k::ks=>by
  have hi:∀k,Pv.intsV (k.map Pv.V.int)=aa k:=λk=>by
   induction k with|nil=>rfl|cons n k ih=>show(Pv.intsV<|k.map Pv.V.int).map (n :: ·)=_;rw[ih];rfl
  show(match Pv.intsV (k.map Pv.V.int),Pv.Yy (ks.map Pv.Zc)with|some a,aa b=>aa (a::b)|_,_=>ai)=_
  rw[hi,yT ks]
def Zax{v:V}(I:Inv X pq O H s)(r:Rep Z H (.dow ks) v):∃(a:aH)(o:fU)(es:Array ig)(ep:Nat)(qs:List aH),v=.ref a/\(a == c8)=aj/\ks.length<=a9/\s.heap.get? a=aa o/\o.ExactDict/\o.data=.dict es ep/\es.size=ks.length/\es.toList.map (·.key)=qs.map cT/\qs.length=ks.length/\Rq Z H (ks.map Pv.Zc) (qs.map V.ref):=by
 obtain⟨a,vs,e,ha,_,hk⟩:=r.dow';obtain⟨lo,hz,o,es,ep,g1,g2,g3,hl,qs,e1,e2,e3⟩:=Zhd I.hok ha;have hn:vs.length=ks.length:=by have:=congrArg hZ hk;simpa using this
 refine#[a,o,es,ep,qs,e,lo,by omega,g1,g2,g3,by omega,e1,by omega,Jc #[3] λi k q=>?_]
 have e4:=congrArg (·[i]?) hk
 simp only[aK,q]at e4;obtain⟨p,e5,e6⟩:=bH.mp e4;obtain⟨q',e7,e8⟩:=e3 i p e5;rw[e6,bS]at e8;exact#[q',e7,e8]
def uO(hc:X.calm=ak):ZH X (.type "list") (Jx X.K xw .listD):=by
 intro pq s O H vs us Q I r h;obtain⟨Z,S,ds,st,rs,H0,S0,f0,s0,h⟩:=h;obtain⟨d,v,z,rfl,r1,hz,h⟩:=Ws h rs;cases d with
 |dow ks=>
  cases hz;obtain⟨a,o,es,ep,qs,rfl,lo,hn,g1,g2,g3,g4,g5,g6,rq⟩:=Zax I r1;obtain⟨u,rfl,ru⟩:=XZ r;cases ru;refine PySem.W.kdl_call (vh lo g2 g3) (I.ok.hd hc) g1 #[3] λh' tk acc c' kp hL hacc=>?_
  refine#[.ref _,_,I.laid (o:=.lst<|qs.map V.ref) kp (aI _) #[by rw[ax];omega,acc.toList,c',by rw[vM hacc,g5];exact V4 qs,hL],rfl,h.newF f0 s0 st rq _<|I.hok.fresh<|aI _]
 |_=>exact Ev.nos hz
def zo(hc:X.calm=ak):ZH X (.builtin "sorted") (Jx X.K xw .sortedD):=by
 intro pq s O H vs us Q I r h;obtain⟨Z,S,ds,st,rs,H0,S0,f0,s0,h⟩:=h;obtain⟨d,v,z,rfl,r1,hz,h⟩:=Ws h rs;cases d with
 |dow ks=>
  have hz:(if Yg ks=ak then aa (Pv.V.lst<|(Zr ks).map Pv.Zc)else ai)=aa z:=hz
  split at hz
  case isFalse=>cases hz
  rename_i hok
  cases hz;obtain⟨a,o,es,ep,qs,rfl,lo,hn,g1,g2,g3,g4,g5,g6,rq⟩:=Zax I r1;obtain⟨u,rfl,ru⟩:=XZ r;cases ru;have rv:=V4 qs;obtain⟨RA,_⟩:=za I (yT ks) rq rv;obtain⟨hok1,hok3⟩:=(aB _ _).mp hok;obtain⟨hok1,hok2⟩:=(aB _ _).mp hok1;have h64:=T6 hok1;have hnd:=T6 hok2;have hne:∀r∈ks,r≠[]:=λr hr e=>by
   have:=aX.mp hok3 r hr;rw[e]at this;cases this
  have hlen:=RA.length;refine zw (I.ok.hd hc) lo g1 g2 g3 g5 #[3] (zH hnd hlen) (Jl RA hnd hne) λp h' tk D n hp hu kp hD hL=>?_
  rw[<-hlen]at hp hu;have out:=yi hnd hp hu;have hmem:∀i∈p.toList,i<ks.length:=λi hi=>by
   have hp':p.toList.Perm (aO ks.length):=by simpa using bz.mp hp
   exact aU.mp<|hp'.mem_iff.mp hi
  have rx2:=z9 rq hmem;have out:(p.toList.map λi=>ks.getD i [])=Zr ks:=out
  rw[out]at rx2;have rv2:=zO rv (by rw[ax,g6];exact hmem)
  refine#[.ref D,_,I.laid (o:=.lst<|p.toList.map λi=>(qs.map V.ref).getD i V.non) kp hD #[?_,_,n,rv2,hL],rfl,h.newF f0 s0 st rx2 _<|I.hok.fresh hD]
  rw[ax,aN,hp.size];exact hn
 |_=>exact Ev.nos hz
end
end Sd
namespace Sd
open PySem PySem.Spec PyProof.Rows
section
def pl(b:Nat):List Nat:=(aO 6).filter b.testBit
def tbl(b:Nat)(led:Bool):SetTable:={mask:=if 5<=(pl b).length then 31 else 7,place:=(pl b).toArray,dummies:=#[],finger:=0,led,moves:=if 5<=(pl b).length then 1 else 0,plain:=ak}
def Zap(b k:Nat):Nat:=(pl b).countP (· < k)
def G9(b k:Nat)(led:Bool):Bool:=
 b.testBit k||(
  let b':=b ||| 2^k
  let t':=((tbl b led).put k).1
  let n:=(pl b').length
  decide ((tbl b led).freeSlot k=aa (k,aj))&&ag (((tbl b led).put k).2=Zap b k)&&ag (fc (pl b).toArray (Zap b k) k=(pl b').toArray)&&t'.fits n&&t'.plain &&
  (if t'.tooFull then ag (t'.relaid ((pl b').map kq).toArray (rh n)=aa (tbl b' led,pH n))&&coversAll (pH n) n&&(tbl b' led).fits n else ag (t'=tbl b' led))&&ag (b'<64))
def ZbA:(aO 64).all (λb=>(aO 6).all λk=>G9 b k ak&&G9 b k aj)=ak:=by decide +kernel
def Zdz(hb:b<64)(hk:k<6):G9 b k led=ak:=by
 obtain⟨h1,h2⟩:=(aB _ _).mp<|aX.mp (aX.mp ZbA b<|aU.mpr hb) k<|aU.mpr hk;cases led
 .exact h2
 .exact h1
def Z4(b:Nat)(tg:Nat->Nat):Array (Int×az):=((pl b).map λk:Nat=>(((k:Nat):Int),fS k<|tg k)).toArray
def GT{B β:Type}(f:B->β)(xs p)(x:B):fc (xs.map f) p (f x)=(fc xs p x).map f:=by
 unfold fc;simp
def Zhf(h:k∈pl b):k<6:=aU.mp (cy.mp h).1
def xO(hk:k<6):k∈pl b↔b.testBit k=ak:=#[λh=>(cy.mp h).2,λh=>cy.mpr #[aU.mpr hk,h]]
def Zgk{b k u:Nat}(hk:k<6)(hn:b.testBit k=aj)(h:fc (pl b).toArray (Zap b k) k=(pl (b ||| 2^k)).toArray) :
  fc (Z4 b tg) (Zap b k) ((k:Int),fS k u)=Z4 (b ||| 2^k) λi=>if i=k then u else tg i:=by
 have e:Z4 b tg=(pl b).toArray.map λi:Nat=>((i:Int),fS i (if i=k then u else tg i)):=by
  unfold Z4;rw[lV]
  congr 1
  refine du λi hi=>?_
  rw[T8]
  rintro rfl
  rw[xO hk,hn]at hi;cases hi
 have:=GT (λi:Nat=>((i:Int),fS i (if i=k then u else tg i))) (pl b).toArray (Zap b k) k
 rw[<-e,h,T9 rfl]at this;rw[this,lV];rfl
def Yq(b tg):(Z4 b tg).size=(pl b).length:=by simp[Z4]
def uf(b tg):(Z4 b tg).map (·.1)=((pl b).map kq).toArray:=by
 unfold Z4;rw[lV,bS];rfl
def Zdp{b k u:Nat}{led:Bool}(hb:b<64)(hk:k<6)(hn:b.testBit k=aj):∃t',layNew (tbl b led) (Z4 b tg) (k:Int) (.int k u)=(Z4 (b ||| 2^k) λi=>if i=k then u else tg i,t',aj,aj)/\t'.plain=ak/\t'.fits (pl (b ||| 2^k)).length=ak/\b ||| 2^k<64/\
  (if t'.tooFull=ak then relayAll t' (Z4 (b ||| 2^k) λi=>if i=k then u else tg i) (rh (pl (b ||| 2^k)).length)=(Z4 (b ||| 2^k) λi=>if i=k then u else tg i,tbl (b ||| 2^k) led,aj)else t'=tbl (b ||| 2^k) led):=by
 have h:=Zdz (led:=led) hb hk;unfold G9 at h;rw[hn,lw]at h;simp only[aB,T0]at h;obtain⟨⟨⟨⟨⟨⟨h1,h2⟩,h3⟩,h4⟩,h5⟩,h6⟩,h7⟩:=h;refine#[((tbl b led).put k).1,?_,h5,h4,h7,?_]
 .unfold layNew
  rw[h1]
  dsimp only
  rw[h2,Zgk hk hn h3,Yq];unfold SetTable.orStandIn;rw[h4];rfl
 .cases q:((tbl b led).put k).1.tooFull with
  |false=>
   rw[q]at h6;rw[T8 #[2]]
   rw[T8<|by simp]at h6
   exact T6 h6
  |true=>
   rw[q,T9 rfl]at h6;simp only[aB,T0]at h6;obtain⟨⟨a1,a2⟩,a3⟩:=h6;rw[T9 rfl];unfold relayAll;rw[uf,a1]
   dsimp only
   have e:(pH (pl (b ||| 2^k)).length).filterMap (λx=>(Z4 (b ||| 2^k) λi=>if i=k then u else tg i)[x]?)=Z4 (b ||| 2^k) λi=>if i=k then u else tg i:=by
    refine iL.mp ?_;rw[Array.toList_filterMap,Array.toList_range,<-Yq (b ||| 2^k) λi=>if i=k then u else tg i]
    exact filterMap_getElem?_range _
   rw[e,Yq,a2,a3];rfl
def Zcb:(aO 64).all (λb=>(aO 6).all λk=>!b.testBit k||decide (b ||| 2^k=b))=ak:=by decide +kernel
def ZgX(hb:b<64)(hk:k<6)(h:b.testBit k=ak):b ||| 2^k=b:=by
 have:=aX.mp (aX.mp Zcb b<|aU.mpr hb) k<|aU.mpr hk;rw[h]at this;exact T6 (by simpa using this)
def Zcq:(aO 64).all (λb=>(tbl b ak).fits (pl b).length&&(tbl b aj).fits (pl b).length)=ak:=by decide +kernel
def Vf(hb:b<64):(tbl b led).fits (Z4 b tg).size=ak:=by
 rw[Yq];obtain⟨h1,h2⟩:=(aB _ _).mp<|aX.mp Zcq b<|aU.mpr hb;cases led
 .exact h2
 .exact h1
def Zem:∀k,k<6->rV ((k:Nat):Int)=k:=by decide
def GF(b):(pl b).length<=6:=bU (eO _ _) #[1]
def ZaB(prog w b tg):ElemsOf (gU prog w) (Z4 b tg).toList:=λe he=>by
 obtain⟨k,hk,rfl⟩:=aM.mp he;exact#[#[k,iK _ _ _ _,(Zem k<|Zhf hk).symm],rfl]
def Xq(h:cM)(a:aH)(b:Nat)(led:Bool):Prop:=∃o ep tg,h.get? a=aa o/\o.ExactSet/\o.data=.set (Z4 b tg) ep (tbl b led)
def Xq.keep(S:Xq h a b led)(k:∀o,h.get? a=aa o->h'.get? a=aa o):Xq h' a b led:=
 let #[o,ep,tg,ho,r]:=S;#[o,ep,tg,k o ho,r]
def Xq.store{h:cM}(ho:h.get? a=aa o)(hd:o.data=.set es ep t):(h.update a<|rj es' t').get? a=aa {o with data:=.set es' (ep+1) t' }:=by
 have:=dy (rj es' t') ho (by rw[putSet_of es' t' hd];rfl)
 rwa [putSet_of es' t' hd]at this
section
variable{prog:bO}{w:bV}{A:cw}{E:az->aF->Prop}{s:aF}{a:aH}{b k u:Nat}{led:Bool}
def ZdX(hb:b<64)(hk:k<6)(hS:Xq s.heap a b led)(h:∀r h',ej a s.heap h'->Xq h' a (b ||| 2^k) led->b ||| 2^k<64->Q r {s with heap:=h' }) :
  aW (aR prog w) A (setAddHashed a (.int k u)<|rV k) Q E s:=by
 obtain⟨o,ep,tg,ho,hex,hd⟩:=hS;have hf:=Vf (led:=led) (tg:=tg) hb;have hel:=ZaB prog w b tg;have hsz:(Z4 b tg).size<scanBound:=by rw[Yq];have:=GF b;unfold scanBound;omega
 refine bI<|ae<|iD ho hd hf ?_
 dsimp only
 rw[byScan_of rfl hsz hel];refine ae<|ae<|gp<|ae<|wpAny_setScan_of (iK _ _ _ _) ho hd hf hel ?_;cases hr:List.findIdx? (λe:Int×az=>(gU prog w).is (k:Int) e.2) (Z4 b tg).toList with
 |some j=>
  obtain⟨hj,hp,_⟩:=List.findIdx?_eq_some_iff_getElem.mp hr;have hm:=aS hj;generalize (Z4 b tg).toList[j]=e at hm hp;obtain⟨i,hi,rfl⟩:=aM.mp hm;have:=(gU prog w).inj _ _ _ hp<|iK _ _ _ _;have:=kq.inj this;subst this;have hin:=ZgX hb hk<|(xO hk).mp hi;exact av<|av<|h aj s.heap (oC a s.heap) (by rw[hin];exact#[o,ep,tg,ho,hex,hd]) (by rw[hin];exact hb)
 |none=>
  have hn:b.testBit k=aj:=by
   cases q:b.testBit k with
   |false=>rfl
   |true=>
    have hm:(((k:Nat):Int),fS k<|tg k)∈(Z4 b tg).toList:=aM.mpr #[k,(xO hk).mpr q,rfl];have:=List.findIdx?_eq_none_iff.mp hr _ hm;rw[iK]at this;cases this
  obtain⟨t',e1,pn,ft,b64,e2⟩:=Zdp hb hk hn;have b6:=GF (b ||| 2^k);rw[Zem k hk,e1]
  dsimp only
  generalize hes:(Z4 (b ||| 2^k) λi=>if i=k then u else tg i)=es' at e2
  have hz:es'.size=(pl (b ||| 2^k)).length:=by rw[<-hes,Yq]
  have hz':es'.size<=a9:=by rw[hz,cW];omega
  refine ae<|av ?_;rw[T9 pn,hashByValue_scannable 8 rfl];refine ae<|av ?_;rw[T9 (show plainKind (.int (k:Int) u)=ak from rfl)]
  refine ae<|oK ho hd ?_ hz';have g1:=Xq.store (es':=es') (t':=t') ho hd;have sb1:=cH s.heap a<|rj es' t';rw[<-hz]at e2;cases q:t'.tooFull with
  |false=>
   rw[q]at e2;subst e2;exact av<|av<|h ak _ sb1 #[_,ep+1,λi=>if i=k then u else tg i,g1,hex,by rw[hes]] b64
  |true=>
   rw[q]at e2;rw[e2];refine ae<|av<|ae<|oK g1 rfl ?_ hz';exact av<|av<|h ak _ (sb1.trans<|cH _ a _) #[_,ep+1+1,λi=>if i=k then u else tg i,Xq.store g1 rfl,hex,by rw[hes]] b64
end
noncomputable def bt(v:Nat->Nat):Nat->Nat
 |0=>0
 |i+1=>bt v i ||| 2^v i
def Zam(led:Bool)(tg):Data.set #[] 0 (.fresh 0 0 led)=.set (Z4 0 tg) 0 (tbl 0 led):=by
 have:pl 0=[]:=by decide
 unfold Z4 tbl;rw[this];rfl
def YQ(w:bV):Bool:=!w.params.followText "set-order"
section
variable{prog:bO}{w:bV}{A:cw}{E:az->aF->Prop}{s:aF}
def ZbV{R:rY->aF->Prop}{I:aH}{fp wr:List aH}{n:Nat}{P:Nat->az->Prop}{St:Nat->cM->Prop}{led:Bool}(W:Walks prog w A.in1 I fp wr n P St)(S:aH)(hSf:S∉fp)(v:Nat->Nat)(hv:∀i x,P i x->v i<6/\∃t,x=.int (v i) t) :
  ∀(k i:Nat)(s:aF),n-i=k->i<=n->St i s.heap->bt v i<64->Xq s.heap S (bt v i) led->
   (∀h' tk,(∀b o,b∉S::wr->s.heap.get? b=aa o->h'.get? b=aa o)->Xq h' S (bt v n) led->R (.ok<|.ret .none) {s with heap:=h',toks:=tk})->gz (aR prog w) A (.builtin "set.update.loop" #[[.ref S,.ref I],[]]) R s:=by
 have hSw:=λz=>hSf<|W.sub _ z
 intro k
 induction k with
 |zero=>
  intro i s hk hi st hb hS hR;obtain rfl:i=n:=by omega
  refine dU lW ?_;rw[dH im _];exact ae<|W.done s _ _ st λh' tk kp=>av<|hR h' tk (λb o z e=>kp b o (λy=>z<|am _ y) e)<|hS.keep λo e=>kp S o hSw e
 |succ k ih=>
  intro i s hk hi st hb hS hR;have lt:i<n:=by omega
  refine dU lW ?_;rw[dH im _];refine ae<|W.item i s _ _ lt st λx h1 tk hP st1 kp=>?_
  obtain⟨h6,t,rfl⟩:=hv i x hP;refine ae<|bI ?_;refine bI<|ae<|(gU prog w).pyHash (iK _ _ _ _) ?_;refine ZdX hb h6 (hS.keep λo e=>kp S o hSw e) λr h2 sb hS2 b64=>?_
  refine av #[iQ im _,ih (i+1) _ #[3] lt (W.frame _ _ _ st1 λb z o e=>?_) b64 hS2 λh3 tk3 kp3 hS3=>hR h3 tk3 (λb o z e=>kp3 b o z ?_) hS3]
  .rw[sb.2 b λy=>hSf<|y▸z];exact e
  .rw[sb.2 b λy=>z (by rw[y];exact al)];exact kp b o (λy=>z<|am _ y) e
def Zdq(a:az)(h:Q (.ref s.heap.objs.size) {s with heap:=s.heap.push {cls:=.type "set",dict:=ai,data:=.set #[] 0 (.fresh 0 0<|YQ w)}}) :
  gz (aR prog w) A (.call (.builtin "set.__new__") #[[.type "set",a],[]]) (wants Q E) s:=by
 refine codeAny_of_tree ?_;refine ae<|fE (F.newCall_set_1 a)<|av #[iQ pP _,dU F.entry_set_new ?_];rw[dH pP _];unfold dP.«set.__new__» dP.Frozenset.newClass;have hsub:=sub_set_self;obtain⟨hp,g,d,tk,os⟩:=s
 wp_walk
 refine gC<|av ?_;dsimp only;simp only[newObj];exact ae<|pA<|av<|av h
set_option maxHeartbeats 3200000 in
def Zac{l:aH}{items:Array az}{v:Nat->Nat}{Q:az->aF->Prop}(hh:A.handled=ai)(hl:s.heap.IsList l items)(hv:∀i x,items[i]?=aa x->v i<6/\∃t,x=.int (v i) t)
  (h:∀h' tk,Xq h' s.heap.objs.size (bt v items.size) (YQ w)->(∀b o,s.heap.get? b=aa o->h'.get? b=aa o)->Q (.ref s.heap.objs.size) {s with heap:=h',toks:=tk}):aW (aR prog w) A (call (.type "set") [.ref l]) Q E s:=by
 obtain⟨c,tl,hmro⟩:=F.called_set.mro;have hmade:=F.called_set.made;have hsub:=F.called_set.sub;refine nK<|codeAny_of_tree ?_;show aW _ _ (callAny (.type "set") _) _ _ _;refine av #[n5 _ (by decide +kernel),dU F.entry_type_call ?_];rw[cw.under_plain (weight_type_call_type "set" [.ref l] []) rfl]
 have h1:=F.called_set.notType;have h2:=F.called_set.canCreate;have hct:=F.typeCall_set_1<|.ref l
 repeat(any_goals (first|assumption|wp_step))
 let so:fU:={cls:=.type "set",dict:=ai,data:=.set #[] 0 (.fresh 0 0<|YQ w)}
 refine fG (Zdq (.ref l) (E:=E) (Q:=λobj s1=>obj=.ref s.heap.objs.size/\s1={s with heap:=s.heap.push so}) #[rfl,rfl]) λr s1 hr=>?_
 cases r with
 |error e=>exact hr
 |ok fl=>
  cases fl with
  |ret obj=>
   obtain⟨rfl,rfl⟩:=hr;have hS:(s.heap.push so).get? s.heap.objs.size=aa so:=aE _ rfl;have hT:aF.TypeIs {s with heap:=s.heap.push so} (.ref s.heap.objs.size) "set":=#[_,hS,rfl]
   have hli:=F.called_set.init.lookup;have hbi:=F.called_set.init.bind<|.ref s.heap.objs.size
   repeat(any_goals (first|assumption|wp_step))
   refine fG (gu (R:=wants (λr s2=>r=.none/\∃h' tk,s2={s with heap:=h',toks:=tk}/\Xq h' s.heap.objs.size (bt v items.size) (YQ w)/\∀b o,s.heap.get? b=aa o->h'.get? b=aa o) E) F.called_set.init.plain F.entry_set_init<|check_set_init_1 hT ?_) λr2 s2 hr2=>?_
   .obtain⟨⟨ocls,odict,odata,oslots⟩,hol,hcl,nl,hdl⟩:=hl
    simp only at hcl hdl;subst hcl hdl;have hol':(s.heap.push so).get? l=aa {cls:=.type "list",dict:=odict,data:=.seq items nl,slots:=oslots}:=aq _ hol;have hsls:=F.sub_list_set;have hslf:=F.sub_list_frozenset;have hne:(nD "list" == nD "dict")=aj:=by decide
    have hl1:(s.heap.push so).IsList l items:=#[_,hol',rfl,nl,rfl];unfold dP.«set.__init__» noKeywords dP.Frozenset.updateFrom;generalize hPI:nG=PI
    wp_walk
    subst hPI;refine eW hl1<|ae<|wpAny_runValue ?_;have hlS:=aD hol;have sz:(s.heap.push so).objs.size=s.heap.objs.size+1:=cL ..;have hh3:A.in1.in1.in1.handled=ai:=by simp[hh]
    refine ZbV (pV hh3 _ l (by rw[sz];exact a8<|cB hlS) items) s.heap.objs.size (by rw[sz];intro z;rcases aw.mp z with z|z;exact T7 z<|a8<|fz _;exact T7 (aZ.mp z)<|ek hlS) v hv (items.size-0) 0 _ #[3] (db _) #[#[_,aE _ rfl,rfl,rfl],hl1.push _] (show 0<64 by decide) #[so,0,λ_=>0,aq _ hS,#[rfl,rfl,rfl],Zam _ _] λh' tk kp hS'=>?_
    refine av ?_;show aW _ _ (rG bw) _ _ _;refine av #[rfl,h',tk,rfl,hS',λb o e=>kp b o ?_<|aq _<|aq _ e]
    have:=aD e;rw[sz];intro z;rcases aw.mp z with z|z;exact T7 z<|a8 this;exact T7 (aZ.mp z)<|a8<|cB this
   .cases r2 with
    |error e=>exact hr2
    |ok fl2=>
     cases fl2 with
     |ret r=>
      obtain⟨rfl,h',tk,rfl,hS',hk'⟩:=hr2
      repeat(any_goals (first|assumption|wp_step))
      exact h _ _ hS' hk'
     |_=>exact hr2.elim
  |_=>exact hr.elim
end
def VO:Slot "set_iterator" "__next__" "set_iterator.__next__":=.of (owner:="set_iterator") (n:="__next__") (by rw[kf];kernel_rfl) (by decide +kernel) (by decide +kernel) (by decide +kernel) (by first|(refine .inl ?_;decide +kernel)|(refine .inr ?_;decide +kernel)) (by rw[kP];kernel_rfl)
def zJ:Slot "set_iterator" "__iter__" "set_iterator.__iter__":=.of (owner:="set_iterator") (n:="__iter__") (by rw[kf];kernel_rfl) (by decide +kernel) (by decide +kernel) (by decide +kernel) (by first|(refine .inl ?_;decide +kernel)|(refine .inr ?_;decide +kernel)) (by rw[kP];kernel_rfl)
def qA:rg table "set_iterator.__next__" = aa dP.«set_iterator.__next__»:=entryFor_of_tree (by kernel_rfl)
def qK:rg table "set_iterator.__iter__" = aa dP.«dict_keyiterator.__iter__»:=entryFor_alias (id':="dict_keyiterator.__iter__") (by kernel_rfl) rfl (by decide +kernel) (by kernel_rfl)
def xJ:rg table "set.__iter__" = aa dP.«frozenset.__iter__»:=entryFor_alias (id':="frozenset.__iter__") (by kernel_rfl) rfl (by decide +kernel) (by kernel_rfl)
def ZaG:Manifest.owners.lookup (String.ofList ['r','o','t','a','r','e','t','i','_','t','e','s'].reverse)=aa Manifest.sig_set_iterator:=by kernel_rfl
def Za1(a):argsOk "set_iterator.__next__" #[[a],[]]:=by unfold argsOk;rw[signature?_of (n:=['_','_','t','x','e','n','_','_']) (by kernel_rfl) ZaG];kernel_rfl
def qX(a):argsOk "set_iterator.__iter__" #[[a],[]]:=by unfold argsOk;rw[signature?_of (n:=['_','_','r','e','t','i','_','_']) (by kernel_rfl) ZaG];kernel_rfl
theorem wM{B:Type}{nx:Nat->Nat}:∀(n k:Nat)(l:List B)(out:Array B),l.length=n->(oM nx n k l out).toList.Perm (out.toList++l)
 |0,k,l,out,h=>by
  cases l with|nil=>simp[oM]|cons=>cases h
 |n+1,k,l,out,h=>by
  have hj:nx k%l.length<l.length:=Nat.mod_lt _ #[3]
  unfold oM;rw[af hj];refine(wM n (k+1) _ _<|by rw[List.length_eraseIdx_of_lt hj];omega).trans ?_
  rw[fb,bE];refine List.Perm.append_left _ ?_;rw[List.eraseIdx_eq_take_drop_succ];have e:=cG (nx k%l.length) l;rw[bY hj]at e;have p:(rS (nx k%l.length) l++l[nx k%l.length]::rT (nx k%l.length+1) l).Perm (l[nx k%l.length]::(rS (nx k%l.length) l++rT (nx k%l.length+1) l)):=List.perm_middle;exact p.symm.trans (by rw[e])
noncomputable def WN(w:bV)(a:aH)(ep:Nat)(es:Array (Int×az)):Array (Int×az):=if w.params.followText "set-order" = ak then pickOrder (w.params.setOrder a ep) es else es
def yR :(WN w a ep es).toList.Perm es.toList:=by
 unfold WN;split
 .unfold pickOrder
  simpa using wM es.size 0 es.toList #[] #[2]
 .exact cC _
def ya :(WN w a ep es).size=es.size:=by
 rw[<-aN,yR.length_eq,aN]
def yt(b i:Nat):Nat:=if i=0 then 0 else(pl b).getD (i-1) 0+1
def Y1(w:bV)(b i:Nat):Nat:=if w.params.followText "set-order" = ak then 0 else yt b i
def uv:(aO 64).all (λb=>(aO<|(pl b).length+1).all λi=>ag<|rm (pl b).toArray (yt b i)=i)=ak:=by decide +kernel
def j7(hb:b<64)(hi:i<=(pl b).length):rm (pl b).toArray (yt b i)=i:=
 T6 (aX.mp (aX.mp uv b<|aU.mpr hb) i<|aU.mpr<|Nat.lt_succ_of_le hi)
section
variable{prog:bO}{w:bV}{A:cw}{E:az->aF->Prop}{s:aF}{a it:aH}{b i ep:Nat}{o:fU}{tg:Nat->Nat}
def xu(hb:b<64)(hi:i<=(pl b).length)(ho:s.heap.get? a=aa o)(hd:o.data=.set (Z4 b tg) ep (tbl b<|YQ w))(h:Q (((WN w a ep<|Z4 b tg)[i]?).map λe=>(e.2,Y1 w b<|i+1)) s) :
  aW (aR prog w) A (setNext a (Y1 w b i) i ep) Q E s:=by
 have hf:=Vf (led:=YQ w) (tg:=tg) hb;unfold setNext;refine ae<|iD ho hd hf ?_
 dsimp only
 refine ae<|ae<|gC<|av ?_;unfold WN Y1 at h;unfold Y1;show aW _ _ (if w.params.followText "set-order" = ak then _ else _) _ _ _
 by_cases c:w.params.followText "set-order" = ak
 .rw[T9 c]
  rw[T9 c,T9 c]at h;rw[T8 #[2]]
  refine ae<|ae<|iD ho hd hf ?_
  dsimp only
  refine ae<|ae<|gC<|av ?_;show aW _ _ (if w.params.followText "set-order" = ak then _ else _) _ _ _
  rw[T9 c];refine ae<|gC<|av<|av ?_;rw[T9 c];exact h
 .rw[T8 c]
  rw[T8 c,T8 c]at h;have hl:YQ w=ak:=by unfold YQ;simp[c]
  rw[hl];have bl:=j7 hb hi;split
  .rename_i z
   exact T7 (show(!true&&ag ((Z4 b tg).size>1))=ak from z) #[2]
  .refine ae (fE (a:=()) rfl<|av ?_)
   rw[show(tbl b ak).place=(pl b).toArray from rfl,bl]
   by_cases lt:i<(pl b).length
   .have e1:(Z4 b tg)[i]?=aa ((((pl b)[i]:Nat):Int),fS (pl b)[i]<|tg (pl b)[i]):=by unfold Z4;simp[lt]
    have e2:(pl b).toArray[i]?=aa (pl b)[i]:=by simp[lt]
    rw[e1]at h;rw[e1,e2];have e3:yt b (i+1)=(pl b)[i]+1:=by unfold yt;simp[List.getD,lt]
    rw[e3]at h;exact h
   .have e1:(Z4 b tg)[i]?=ai:=iw (by rw[Yq];omega)
    rw[e1]at h;rw[e1];exact h
def XU(w:bV)(h:cM)(it a:aH)(b i ep:Nat):Prop:=∃o,h.get? it=aa o/\o.cls=.type "set_iterator"/\o.data=.fields [.int (Y1 w b i) 0,.int i 0,.ref a,.int (pl b).length 0,.int ep 0].toArray
def jy{Q:az->aF->Prop}(hb:b<64)(ho:s.heap.get? a=aa o)(hex:o.ExactSet)(hd:o.data=.set (Z4 b tg) ep (tbl b<|YQ w))
  (hQ:Q (.ref s.heap.objs.size) {s with heap:=s.heap.push {cls:=.type "set_iterator",data:=.fields [.int (Y1 w b 0) 0,.int 0 0,.ref a,.int (pl b).length 0,.int ep 0].toArray}}):aW (aR prog w) A (nG<|.ref a) Q E s:=by
 have hf:=Vf (led:=YQ w) (tg:=tg) hb;have hT:s.TypeIs (.ref a) "set":=#[_,ho,hex.1];refine ln hT pQ<|cc pQ hT xJ ?_<|F.args_set_iter_1 _;refine ae<|fE rfl<|ae<|ae<|nj ho hd hf<|av ?_;refine ae<|ae<|iD ho hd hf<|ae<|ae<|gC<|av<|av ?_;have nd:∀x:Bool,(!x&&(!(tbl b<|YQ w).plain&&ag ((Z4 b tg).size>1)))=aj:=λx=>by rw[show(tbl b<|YQ w).plain=ak from rfl];simp
 split
 .rename_i z
  exact T7 ((nd _).symm.trans z) #[2]
 .refine ae (av<|ae<|wpAny_setEpoch_of ho hd hf ?_)
  refine ae<|br<|av #[_,rfl,"set_iterator",_,#[_,aE _ rfl,rfl],VO.lookup,?_];have z0:Y1 w b 0=0:=by unfold Y1;split<;>rfl
  rw[z0]at hQ;rw[Yq]
  simpa[fe]using hQ
def jh(hit:XU w s.heap it a b i ep)(h:Q (.ref it) s):aW (aR prog w) A (nG<|.ref it) Q E s:=by
 have hT:s.TypeIs (.ref it) "set_iterator":=let #[o,h1,h2,_]:=hit;#[o,h1,h2];refine ln hT zJ<|cc zJ hT qK (av #[_,rfl,"set_iterator",_,hT,VO.lookup,h])<|qX _
def zP{Q:Option az->aF->Prop}(hb:b<64)(hi:i<=(pl b).length)(hit:XU w s.heap it a b i ep)(ho:s.heap.get? a=aa o)(hd:o.data=.set (Z4 b tg) ep (tbl b<|YQ w))
  (h1:∀e,(WN w a ep<|Z4 b tg)[i]?=aa e->∀h',XU w h' it a b (i+1) ep->ej it s.heap h'->Q (aa e.2) {s with heap:=h' })
  (h2:i=(pl b).length->A.handled=ai/\∀h',fD it s.heap h'->Q ai {s with heap:=h' }):aW (aR prog w) A (l6<|.ref it) Q E s:=by
 have hf:=Vf (led:=YQ w) (tg:=tg) hb;obtain⟨oi,hq,hc,hdi⟩:=id hit;have hT:s.TypeIs (.ref it) "set_iterator":=#[oi,hq,hc];unfold l6;refine ae<|gN<|cn hT VO<|cc VO hT qA ?_<|Za1 _;unfold dP.«set_iterator.__next__» slotArgs;refine ae<|fE rfl<|ae<|wpAny_fieldsOf hq hdi ?_
 dsimp only
 refine ae<|nj ho hd hf ?_;rw[Yq,T8 #[2]]
 simp only[c7];refine ae<|xu hb hi ho hd ?_;cases q:(WN w a ep<|Z4 b tg)[i]? with
 |some e=>
  refine ae<|fA hq hdi #[2] ?_
  have g1:=dy (nA (·.setIfInBounds 0 (fe ((Y1 w b (i+1):Nat):Int)))) hq<|eM<|de hdi _
  have d1:=de hdi (·.setIfInBounds 0 (fe ((Y1 w b (i+1):Nat):Int)))
  refine ae<|fA g1 d1 #[2] ?_
  have g2:=dy (nA (·.setIfInBounds 1 (fe<|(i:Int)+1))) g1<|eM<|de d1 _
  refine av #[_,rfl,av<|h1 e q _ #[_,g2,?_,?_]<|(cH ..).trans<|cH ..]
  .exact(fW ..).trans<|(fW ..).trans hc
  .rw[de d1];simp[fe]
 |none=>
  have hn:i=(pl b).length:=by
   have:=Array.getElem?_eq_none_iff.mp q;rw[ya,Yq]at this;omega
  obtain⟨hh,hQ⟩:=h2 hn;refine ae<|fA hq hdi #[2]<|ae ?_
  simp only[newExc,newTuple];refine ae<|br ?_ (by size_fits);refine ae (fE (by first|rfl|(simp only[firstArgMember];rfl))<|br ?_ (by size_fits))
  simp only[raiseNew];refine ae<|ny ?_;rw[hh];refine ae<|av<|pB ?_;refine ae<|eE (b:=ak) #[_,aE _ rfl,rfl] mR ?_;exact av<|hQ _<|((cH ..).extBut.push _).push _
def XU.at(hit:XU w h it a b i ep)(k:∀o,h.get? it=aa o->h'.get? it=aa o):XU w h' it a b i ep:=
 let #[o,h1,r]:=hit;#[o,k o h1,r]
def jm(hT:s.TypeIs (.ref a) "set")(h:Q aj s):aW (aR prog w) A (dP.List.listLengthHint<|.ref a) Q E s:=by
 refine ae<|wpAny_specialOf hT F.slot_set_len.lookup ?_;generalize hid:("set.__len__" : String)=id0
 wp_delta
 rw[show splitId id0=aa ("set","__len__")from by subst hid;decide +kernel];subst hid
 refine ae<|eE (b:=ak) hT (by rw[kP];kernel_rfl) ?_;refine wpAny_ite_split (λz=>T7 z<|by decide) (λ_=>wpAny_ite_split (λ_=>ae<|fH hT<|av h) λz=>T7 (by decide +kernel) z)
def ZcD(hb:b<64)(hex:o.ExactSet)(hd:o.data=.set (Z4 b tg) ep (tbl b<|YQ w)):kQ prog w "set" a a (pl b).length (λi v=>((WN w a ep<|Z4 b tg)[i]?).map (·.2)=aa v) (λh=>h.get? a=aa o) where
 type:=λ_ hm=>#[_,hm,hex.1]
 there:=λ_ hm=>#[aD hm,aD hm]
 keep:=λ_ _ hm hk=>hk a (.inl rfl) _ hm
 notList:=by decide
 notTuple:=by decide
 hint:=λ_ _ _ _ hm hq=>jm #[_,hm,hex.1] hq
 iter:=λA s hh hm=>by
  refine#[{cls:=.type "set_iterator",data:=.fields [.int (Y1 w b 0) 0,.int 0 0,.ref a,.int (pl b).length 0,.int ep 0].toArray},λi h=>i<=(pl b).length/\XU w h s.heap.objs.size a b i ep/\h.get? a=aa o,λE Q hq=>?_,?_,db _,#[_,aE _ rfl,rfl,rfl],aq _ hm]
  .exact jy hb hm hex hd hq
  .exact{
    sub:=λb hb=>by simp at hb;simp[hb]
    frame:=λ_ _ _ st hk=>#[st.1,st.2.1.at λo e=>hk _ #[2] o e,hk a #[2] _ st.2.2]
    item:=λi s' Q E hi st hQ=>zP hb st.1 st.2.1 st.2.2 hd (λe q h' hit' sb=>hQ _ h' s'.toks (by rw[q];rfl) #[hi,hit',sb.extBut _ _ (a8<|aD hm) st.2.2] λb o hb e=>sb.extBut b o (λz=>hb<|by simp[z]) e) λz=>T7 hi #[3]
    done:=λs' Q E st hQ=>zP hb st.1 st.2.1 st.2.2 hd (λe q _ _ _=>T7 (Array.getElem?_eq_some_iff.mp q).1<|by rw[ya,Yq];omega) λ_=>#[hh,λh' eb=>hQ h' s'.toks λb o hb e=>eb b o (λz=>hb<|by simp[z]) e]
    self:=λ_ _ _ _ st hQ=>jh st.2.1 hQ}
end
open L2
section
variable{prog:bO}{w:bV}{A:cw}{E:az->aF->Prop}{s:aF}{d:aH}
def xX{T:String}{n:Nat}{κ:gP}(src:kQ prog w T d d n P OK)(hh:A.handled=ai)(hok:OK s.heap)(hv:∀acc,se P acc n->acc.toList=vs)(hn:n<=100000)(hl:vs.length=n)
  (O:Sq.Ord vs.length lt)(K:Sq.Asks prog w A.in1.in1 s.heap vs κ lt)
  (h:∀p h' tk D n,Sq.Pm vs.length p->Sq.Up (Sq.ltR aj vs.length lt) p vs.length->(∀b o,s.heap.get? b=aa o->h'.get? b=aa o)->s.heap.objs.size<=D->h'.get? D=aa (fN "list" (c6<|bB aj<|p.toList.map λi=>(bB aj vs).getD i bw) n)->Q (.ref D) {s with heap:=h',toks:=tk}) :
  aW (aR prog w) A (call (.builtin "sorted") [.ref d]) Q E s:=by
 refine Calls.call_function_entry pG oG oH (args_sorted1 _) ?_;unfold dP.«sorted»;refine ae<|av ?_;refine ae<|xi src hh hok (by rw[cW];omega) λh1 tk acc hk big hacc=>?_
 rw[hv acc hacc];refine ae<|lD ?_ (by rw[cW];omega)
 have hoL:(h1.push<|fN "list" vs.toArray 0).get? h1.objs.size=aa (fN "list" vs.toArray 0):=aE _ rfl;refine ae (bI (cc mU #[_,hoL,rfl] mw (by
  rw[Sq.Jn];exact Sq.list_sort_rev hoL #[3] (λb o e=>by
   have hlt:=aD<|hk b o e;exact#[a8 hlt,aq _<|hk b o e]) O K λp a1 a2=>#[_,rfl,av #[_,rfl,by
    obtain⟨n,hn⟩:=sortedHeap_at hoL;exact h p _ tk _ n a1 a2 (λb o e=>by
     have hlt:=aD<|hk b o e;rw[sortedHeap_old (a8 hlt) (by rw[nY];exact cB hlt)]
     exact aq _<|hk b o e) big hn]])<|args_list_sort _))
def qx(hi:iP vs ns)(nd:ns.Nodup):Sq.Asks prog w A h vs oneType' (λi j=>ag<|ns.getD i 0<ns.getD j 0):=by
 have hl:=iP.length hi;refine#[λh2 s' E Q k q=>fE (ksk_kind (by simpa using hi)<|by simpa using h2) q,?_,λi j hi' hj s' C E k q=>?_]
 .refine bJ.mpr λi j h1 h2 hij e=>?_
  obtain⟨t1,e1⟩:=hi.int_at i vs[i]<|af h1;obtain⟨t2,e2⟩:=hi.int_at j vs[j]<|af h2;rw[e1,e2]at e;have e:=(fS.inj e).1;have g1:i<ns.length:=by omega
  have g2:j<ns.length:=by omega
  rw[aA,aA,af g1,af g2]at e;exact T7 e<|bJ.mp nd i j g1 g2 hij
 .have g1:vs[i]?=aa (vs.getD i bw):=by simp[hi']
  have g2:vs[j]?=aa (vs.getD j bw):=by simp[hj]
  obtain⟨t1,e1⟩:=hi.int_at i _ g1;obtain⟨t2,e2⟩:=hi.int_at j _ g2;rw[e1,e2];exact oneLt_int q
def Zbv{ns:List Int}(nd:ns.Nodup)(hl:ns.length=n):Sq.Ord n (λi j=>ag<|ns.getD i 0<ns.getD j 0):=by
 refine#[λi j hi hj ne e=>?_,λi j _ _ e=>?_,λi j k _ _ _ e f=>?_]
 .have:ns.getD i 0≠ns.getD j 0:=λe=>by
   simp at e;have hi':i<ns.length:=by omega
   have hj':j<ns.length:=by omega
   refine ne<|(iB hi' nd).mp ?_;rw[af hi',af hj']at e ⊢;exact congrArg aa e
  have e:=of_decide_eq_false e;exact T5 #[3]
 .have e:=T6 e
  exact T4 #[3]
 .have e:=T6 e
  have f:=T6 f;exact T5 #[3]
def Zbb{ns l:List Int}(hp:l.Perm ns)(hs:l.Pairwise (· < ·))(h1:Sq.Pm ns.length p)(h2:Sq.Up (Sq.ltR aj ns.length λi j=>ag<|ns.getD i 0<ns.getD j 0) p ns.length):(p.toList.map λi=>ns.getD i 0)=l:=by
 have hq:p.toList.Perm (aO ns.length):=by simpa using bz.mp h1
 have hl:p.toList.length=ns.length:=by rw[hq.length_eq,bu]
 refine List.Perm.eq_of_pairwise (λa b _ _ x y=>by omega) ?_ hs ?_
 .rw[cZ,bJ]
  intro i j hi hj hij;have g:=λk hk=>by
   have:=Sq.ZcL (p:=p) (i:=k) (by simpa using hk)
   rw[<-bo,af hk]at this;exact ap this
  rw[g i hi,g j hj];exact T6<|h2 i j hij #[3]
 .refine((hq.map _).trans ?_).trans hp.symm
  have e:(aO ns.length).map (λi=>ns.getD i 0)=ns:=by
   refine bW λi=>?_
   rw[aK];by_cases h:i<ns.length
   .rw[cX h];simp[h]
   .simp[d3 h]
  rw[e]
def qO:(aO 64).all (λb=>ag (((pl b).map kq).Pairwise (· < ·)))=ak:=by decide +kernel
theorem Vy:∀{l:List (Int×az)},(∀e∈l,∃t,e.2=.int e.1 t)->iP (l.map (·.2)) (l.map (·.1))
 |[],_=>.nil
 |(n,v)::l,h=>by
  obtain⟨t,e⟩:=h (n,v) al;have e:v=.int n t:=e;subst e;exact .cons n t<|Vy λe he=>h e<|am _ he
theorem JM(hi:iP vs ns):∀{l:List Nat},(∀i∈l,i<vs.length)->iP (l.map λi=>vs.getD i bw) (l.map λi=>ns.getD i 0)
 |[],_=>.nil
 |i::l,h=>by
  obtain⟨t,e⟩:=hi.int_at i (vs.getD i bw) (by simp[h i al])
  rw[aY,e];exact .cons _ t<|JM hi λj hj=>h j<|am _ hj
def xD{b:Nat}(hh:A.handled=ai)(hb:b<64)(S:Xq s.heap d b (YQ w))
  (h:∀h' tk D n us,iP us ((pl b).map kq)->(∀b o,s.heap.get? b=aa o->h'.get? b=aa o)->s.heap.objs.size<=D->h'.get? D=aa (fN "list" us.toArray n)->Q (.ref D) {s with heap:=h',toks:=tk}) :
  aW (aR prog w) A (call (.builtin "sorted") [.ref d]) Q E s:=by
 obtain⟨o,ep,tg,ho,hex,hd⟩:=S;have pm:(WN w d ep<|Z4 b tg).toList.Perm (Z4 b tg).toList:=yR;generalize hsq:WN w d ep (Z4 b tg)=sq at pm;have hI:=Vy λe he=>by
  have:=pm.mem_iff.mp he;obtain⟨k,_,rfl⟩:=aM.mp this;exact#[tg k,rfl]
 have hP:((pl b).map kq).Perm (sq.toList.map (·.1)):=by
  have:=pm.map (·.1)
  have e:(Z4 b tg).toList.map (·.1)=(pl b).map kq:=by
   have:=congrArg oa<|uf b tg
   simpa using this
  rw[e]at this;exact this.symm
 have hS:=T6<|aX.mp qO b<|aU.mpr hb;have hnd:=hP.nodup_iff.mp<|hS.imp λh e=>by omega
 have hlen:(sq.toList.map (·.2)).length=(pl b).length:=by
  rw[ax,pm.length_eq,aN,Yq]
 have hl2:(sq.toList.map (·.1)).length=(sq.toList.map (·.2)).length:=by simp
 refine xX (ZcD hb hex hd) hh ho (λacc ha=>?_) (by have:=GF b;omega) hlen (Zbv hnd hl2) (qx hI hnd) λp h' tk D n h1 h2 kp hD hL=>?_
 .rw[hsq]at ha
  refine bW λi=>?_
  by_cases hi:i<(pl b).length
  .have hl:i<acc.size:=by rw[ha.1];exact hi
   have:=ha.2 i acc[i]<|bn hl;rw[aK,bo,bo,this,bn hl]
  .rw[bM (by rw[aN,ha.1];omega),bM (by rw[hlen];omega)]
 .have hq:p.toList.Perm (aO (sq.toList.map (·.2)).length):=by simpa using bz.mp h1
  have out:=JM hI λi hi=>aU.mp<|hq.mem_iff.mp hi
  rw[<-hl2]at h1 h2;rw[Zbb hP hS h1 h2]at out;exact h h' tk D n _ out kp hD hL
end
def Zij(te:TE):TE:=λO H Q=>te O H λv H1=>∃(a:aH)(ks:List Nat),v=.ref a/\H1 a=aa (.lst (ks.map λk:Nat=>V.int k))/\(∀k∈ks,k<6)/\∀D,H1 D=ai->Q (.ref D) (upd H1 D (.lst ((pl (bt (ks.getD · 0) ks.length)).map λk:Nat=>V.int k)))
theorem Zee :∀{n:Nat},(∀i,i<n->v i<6)->bt v n<64
 |0,_=>by show 0<64;decide
 |n+1,h=>Nat.or_lt_two_pow (Zee λi hi=>h i<|by omega)<|gv #[1]<|h n #[3]
theorem Qt :∀{ns:List Nat},iP us (ns.map kq)->Vals (ns.map λk:Nat=>V.int k) us
 |[],h=>by cases h;exact .nil
 |n::ns,h=>by
  cases h with|cons _ t h=>exact .cons #[t,rfl]<|Qt h
def wE{X:Cx}{e:Expr}{te:TE}{p p2 p3 pos:iE}(hc:X.calm=ak)(he:PE X e te)(hm1:X.mg "sorted" = ai)(hm2:X.mg "set" = ai)(hg1:Gl X "sorted")(hg2:Gl X "set")
  (hs1:ay [e] X.env=(aj,cz e X.env)::ay [] X.env)(hs2:ay [.Call (.Name "set" p2) [e] [] p3] X.env=(aj,cz (.Call (.Name "set" p2) [e] [] p3) X.env)::ay [] X.env) :
  PE X (.Call (.Name "sorted" p) [.Call (.Name "set" p2) [e] [] p3] [] pos) (Zij te):=by
 intro pq s O H Q I h;refine dE<|Xp I hg1 hm1 #[7] ?_ #[1] #[1]
 refine iI ?_ hs2 rfl;rw[hs2];refine Calls.spliced_cons ?_;refine dE<|Xp I hg2 hm2 #[7] ?_ #[1] #[1]
 refine cY ?_ hs1 rfl;rw[hs1];refine Calls.spliced_cons<|thn (he pq s O H _ I h) λu s1 #[x,H1,I1,r1,a,ks,ex,ha,h6,q1]=>Calls.spliced_nil ?_
 subst ex;cases(r1);obtain⟨hz,us,n,rel,ho⟩:=I1.hok a _ ha;have hlen:us.length=ks.length:=by rw[<-rel.length,ax]
 have hh:=I1.ok.hd hc;have h6':∀i,i<ks.length->ks.getD i 0<6:=λi hi=>by
  rw[aA,af hi];exact h6 _<|aS hi
 refine Zac (v:=(ks.getD · 0)) hh #[_,ho,rfl,n,rfl] (λi x hx=>?_) λh2 tk2 hS k2=>?_
 .have hx':us[i]?=aa x:=by simpa using hx
  have hi:=(aG.mp hx').1;refine#[h6' i #[3],?_]
  obtain⟨y,hy,ry⟩:=rel.get (x:=V.int<|ks.getD i 0) (by rw[aK,af (show i<ks.length by omega),aA,af #[3]];rfl)
  rw[hx']at hy;cases hy;exact ry
 .refine Calls.spliced_nil ?_
  have b64:bt (ks.getD · 0) us.toArray.size<64:=Zee λi hi=>h6' i (by simpa[hlen]using hi)
  refine xD hh b64 hS λh3 tk3 D m vs hI k3 hD hL=>?_
  have sz:us.toArray.size=ks.length:=by simpa using hlen
  rw[sz]at hI;have le:s1.heap.objs.size<=D:=by
   obtain⟨o,_,_,hg,_⟩:=hS;exact bU (gw<|aD hg) hD
  refine#[.ref D,_,I1.laid (o:=.lst ((pl (bt (ks.getD · 0) ks.length)).map λk:Nat=>V.int k)) (λb o e=>k3 b o<|k2 b o e) le #[?_,vs,m,Qt hI,hL],rfl,q1 D<|I1.hok.fresh le]
  rw[ax,cW];have:=GF (bt (ks.getD · 0) ks.length)
  omega
theorem Zbm :∀{n:Nat},(bt v n).testBit k=((aO n).map v).contains k
 |0=>by simp[bt]
 |n+1=>by
  show(bt v n ||| 2^v n).testBit k=_;rw[Nat.testBit_or,Zbm,List.range_succ,Nat.testBit_two_pow];simp[eq_comm]
def ZgM{ks:List Nat}:pl (bt (ks.getD · 0) ks.length)=(aO 6).filter ks.contains:=by
 refine List.filter_congr λk _=>?_
 rw[Zbm];have e:(aO ks.length).map (λi=>ks.getD i 0)=ks:=by
  refine bW λi=>?_
  rw[aK];by_cases h:i<ks.length
  .rw[cX h];simp[h]
  .simp[d3 h]
 rw[e]
open Ev (E Sm Fn Bop Cop Ty Bf Mf)
theorem QN :∀{ds:List D}{ks:List Nat}{vs:List V},Pv.WS ds=aa ks->Rq Z H ds vs->vs=ks.map (λk:Nat=>V.int k)/\∀k∈ks,k<6
 |[],ks,vs,e,h=>by
  cases e;exact#[h,λ_ z=>by cases z]
 |x::r,ks,vs,e,h=>by
  obtain⟨v,us,rfl,h1,h2⟩:=h;cases x with
  |int i=>
   have e:(if 0<=i/\i<6 then(Pv.WS r).map (i.toNat :: ·)else ai)=aa ks:=e
   split at e
   .rename_i hi
    obtain⟨ks',e1,rfl⟩:=bH.mp e;obtain⟨rfl,h6⟩:=QN e1 h2;refine#[by rw[h1.int',aY,ki hi.1],λk hk=>?_]
    rcases aw.mp hk with rfl|hk
    .omega
    .exact h6 k hk
   .cases e
  |_=>exact Ev.nos e
theorem J3 :∀l:List Nat,Rq Z H (l.map λk:Nat=>Pv.V.int k) (l.map λk:Nat=>V.int k)
 |[]=>Rq.nil
 |k::l=>Rq.cons (ZQ (k:Int))<|J3 l
def ww{X:Cx}{C:Calls}{e:Expr}{i:E}(hc:X.calm=ak)(he:CE X xw C e i)(hm1:X.mg "sorted" = ai)(hm2:X.mg "set" = ai)(hg1:Gl X "sorted")(hg2:Gl X "set")
  (hs1:ay [e] X.env=(aj,cz e X.env)::ay [] X.env)(hs2:ay [.Call (.Name "set" p2) [e] [] p3] X.env=(aj,cz (.Call (.Name "set" p2) [e] [] p3) X.env)::ay [] X.env) :
  CF X xw C (.Call (.Name "sorted" p) [.Call (.Name "set" p2) [e] [] p3] [] pos) (.blt .sortedS [i]):=.mk <| PE.imp (wE hc he.h hm1 hm2 hg1 hg2 hs1 hs2)<|by
 left;rw[Pv.Yt,Pv.pvs,Wh]at h;refine#[Z,l,S,st,lr,h.bind λx S1 ρ1 H1 v f1 st1 r1 h1=>?_]
 cases f1.eq;rw[Pv.pvs]at h1;obtain⟨z,hz,h1⟩:=End.po h1;cases x with
 |lst ds=>
  obtain⟨ks,e1,rfl⟩:=bH.mp hz;obtain⟨a,us,rfl,ha,_,rs⟩:=r1.lst';obtain⟨rfl,h6⟩:=QN e1 rs;exact#[a,ks,rfl,ha,h6,by rw[ZgM];exact h1.newF f1 st st1<|J3 _]
 |_=>exact Ev.nos hz
end
section
open L2
end
section
open L2
open Ev (ltI YR Zr)
open Ev (E Sm Fn Bop Cop Ty Bf Mf spcs Zhq Yg)
end
end Sd
namespace Sd
open PySem PyProof.Rows L2 Ev
variable{X:Cx}{xw:Nat->Hp->Prop}{C:Calls}{ns:List Nat}{e:Expr}{i:E}{pos:iE}
end Sd
namespace Sd
open PySem PySem.Spec PyProof.Rows L2
open Ev (ltP Q3 Wr)
open Ev (E Sm Fn Bop Cop Ty Bf Mf Zfm YW)
open Ev (So)
open PySem.Builtin.Str (occurrences partsBetween strKind)
end Sd
namespace Gn
open PySem PySem.Spec PyProof.Rows L2
open Ev (E Sm Fn Bop Cop Ty Bf Mf)
open Sd (Calls CompScope cxC hu7)
structure FR where
 x:bN
 st:fq
 N:List bN
 k:Nat
def FR.ps(r:FR):List bN:=r.N.take r.k
noncomputable def scB(N:List bN)(k:Nat)(sc:gE):Bool:=
 (match sc.kind with|.function=>ak|_=>aj)&&(!sc.isCoroutine&&(!sc.isGenerator&&(decide N.Nodup&&((N.take k).all (λx=>ag (sc.names.lookup x=aa .local)||decide (sc.names.lookup x=aa .cell))&&sc.names.all λy=>ag<|y.2≠.free))))
def Uh(h:scB N k sc=ak):FnScope N (N.take k) sc:=by
 unfold scB at h;simp only[aB,lq,T0,aX,gV]at h;obtain⟨h1,h2,h3,h4,h5,h6⟩:=h;refine#[?_,h2,h3,h4,?_,h5,h6]
 .cases e:sc.kind<;>rw[e]at h1<;>first|rfl|cases h1
 .rw[bQ]
  by_cases hk:k<=N.length
  .rw[gX hk]
  .rw[Nat.min_eq_right #[3],gB,cA #[3]]
inductive Gv where
 |int (n:Int)|tab (t:List (Int×Int))|str (x:bN)
 deriving DecidableEq
def Zg8(K:ao)(mg:bN->Option az)(x:bN):Gv->Prop
 |.int n=>∃t:Tok,mg x=aa (.int n t)
 |.str z=>∃t:Tok,mg x=aa (.str z t)
 |.tab t=>∃tb:aH,(∀P w,Sd.ZhD P w K tb t)/\mg x=aa (.ref tb)
structure Top(K:ao)(mg:bN->Option az)(fs:List FR)(zs:List bN)(gs:List (bN×Gv))(f:Nat->aH)(fd:Nat->dz):Prop where
 d:∀i r,fs[i]?=aa r->Fun K r.x r.x r.st (f i) (fd i)
 b:∀i r,fs[i]?=aa r->Ut K (fd i) r.ps []
 m:∀i r,fs[i]?=aa r->mg r.x=aa (.ref<|f i)
 z:∀x∈zs,mg x=ai
 g:∀y∈gs,Zg8 K mg y.1 y.2
def Jd(r:FR):Prop:=∀(kV doc pm:az)(an:Option aH)(cdv ct:az)(us:List az),us.length=r.ps.length->mJ (eA r.x r.x (Xf r.st) (ZF r.st) (Zg r.st) .none kV doc pm an cdv ct) #[us,[]]=cJ (r.ps.zip us)
section
variable{x:bN}{st:fq}
abbrev bA(x:bN)(st:fq)(kV doc pm:az)(an:Option aH)(cdv ct:az)(us:List az):=mJ (eA x x (Xf st) (ZF st) (Zg st) .none kV doc pm an cdv ct) #[us,[]]
def bd1(h:∀kV doc pm an cdv ct a0,bA x st kV doc pm an cdv ct [a0]=cJ ((N.take n).zip [a0]))(hl:(N.take n).length=1:=by rfl):Jd #[x,st,N,n]:=λkV doc pm an cdv ct us e=>match us,e.trans hl with|[a0],_=>h kV doc pm an cdv ct a0
def bd2(h:∀kV doc pm an cdv ct a0 a1,bA x st kV doc pm an cdv ct [a0,a1]=cJ ((N.take n).zip [a0,a1]))(hl:(N.take n).length=2:=by rfl):Jd #[x,st,N,n]:=λkV doc pm an cdv ct us e=>match us,e.trans hl with|[a0,a1],_=>h kV doc pm an cdv ct a0 a1
def bd3(h:∀kV doc pm an cdv ct a0 a1 a2,bA x st kV doc pm an cdv ct [a0,a1,a2]=cJ ((N.take n).zip [a0,a1,a2]))(hl:(N.take n).length=3:=by rfl):Jd #[x,st,N,n]:=λkV doc pm an cdv ct us e=>match us,e.trans hl with|[a0,a1,a2],_=>h kV doc pm an cdv ct a0 a1 a2
def bd4(h:∀kV doc pm an cdv ct a0 a1 a2 a3,bA x st kV doc pm an cdv ct [a0,a1,a2,a3]=cJ ((N.take n).zip [a0,a1,a2,a3]))(hl:(N.take n).length=4:=by rfl):Jd #[x,st,N,n]:=λkV doc pm an cdv ct us e=>match us,e.trans hl with|[a0,a1,a2,a3],_=>h kV doc pm an cdv ct a0 a1 a2 a3
end
inductive FnsAt(K:ao):List FR->List aH->List dz->Prop
 |nil:FnsAt K [] [] []
 |cons {x:bN} {st:fq} {N:List bN} {n:Nat} {a:aH} {rs:List FR} {as:List aH} {fds:List dz} {oc kV dc pm cd ct:az} {od an:Option aH} {sl:Array (Option az)}
   (h1:gD K bx x=aa (aa<|.ref a)) (h2:K.lookup a=aa #[oc,od,.func<|eA x x (Xf st) (ZF st) (Zg st) .none kV dc pm an cd ct,sl])
   (h3:ku K cd x=ak) (h4:gj K (.ref a)=ak) (h5:Jd #[x,st,N,n]) (t:FnsAt K rs as fds) :
   FnsAt K (#[x,st,N,n]::rs) (a::as) (eA x x (Xf st) (ZF st) (Zg st) .none kV dc pm an cd ct::fds)
inductive ZsAt(K:ao):List bN->Prop
 |nil:ZsAt K []
 |cons {x:bN} {zs:List bN} (h:gD K bx x=aa ai) (t:ZsAt K zs):ZsAt K (x::zs)
inductive GsAt(K:ao):List (bN×Gv)->Prop
 |nil:GsAt K []
 |cons {x:bN} {n:Int} {u:Tok} {gs:List (bN×Gv)} (h:gD K bx x=aa (aa<|.int n u)) (t:GsAt K gs):GsAt K ((x,.int n)::gs)
 |tab {x:bN} {a:aH} {es:Array ig} {n:Nat} {tb:List (Int×Int)} {gs:List (bN×Gv)} (h:gD K bx x=aa (aa<|.ref a)) (h2:K.lookup a=aa #[.type "dict",ai,.dict es n,#[]]) (h3:Sd.Xo es.toList tb) (h4:(a == c8)=aj) (t:GsAt K gs):GsAt K ((x,.tab tb)::gs)
 |str {x z:bN} {u:Tok} {gs:List (bN×Gv)} (h:gD K bx x=aa (aa<|.str z u)) (t:GsAt K gs):GsAt K ((x,.str z)::gs)
theorem GsAt.get{K:ao}(X:K.In h)(G:h.Ns bx mg):∀{gs:List (bN×Gv)},GsAt K gs->∀y∈gs,Zg8 K mg y.1 y.2
 |_,.nil,x,h=>by simp at h
 |_,.cons h t,x,m=>by
  rcases aw.mp m with rfl|m
  .exact#[_,iR X G h]
  .exact t.get X G x m
 |_,.str h t,x,m=>by
  rcases aw.mp m with rfl|m
  .exact#[_,iR X G h]
  .exact t.get X G x m
 |_,.tab h h2 h3 h4 t,x,m=>by
  rcases aw.mp m with rfl|m
  .exact#[_,λP w=>Sd.Zd6 h2 h3 h4,iR X G h]
  .exact t.get X G x m
theorem FnsAt.get{K:ao}:∀{fs:List FR}{as:List aH}{fds:List dz},FnsAt K fs as fds->∀i r,fs[i]?=aa r->
  gD K bx r.x=aa (aa<|.ref<|as.getD i 0)/\Fun K r.x r.x r.st (as.getD i 0) (fds.getD i fd0)/\Jd r
 |_,_,_,.nil,i,r,e=>by simp at e
 |_,_,_,.cons h1 h2 h3 h4 h5 t,0,r,e=>by
  simp at e;subst e;exact#[h1,Ze9 h2 h3 h4,h5]
 |_,_,_,.cons h1 h2 h3 h4 h5 t,i+1,r,e=>by
  obtain⟨a,b,c⟩:=t.get i r (by simpa using e)
  exact#[by simpa using a,by simpa using b,c]
theorem ZsAt.get{K:ao}:∀{zs:List bN},ZsAt K zs->∀x∈zs,gD K bx x=aa ai
 |_,.nil,x,h=>by simp at h
 |_,.cons h t,x,m=>by
  rcases aw.mp m with rfl|m
  .exact h
  .exact t.get x m
def Top.no{K:ao}(T:Top K mg fs zs gs f fd)(h:zs.contains x=ak):mg x=ai:=T.z x (by simpa using h)
noncomputable def csB(sc:gE)(N0:List bN)(scope:gE)(N:List bN)(cap:List Nat)(nl:Nat):Bool:=
 ((N.take nl).all (λx=>ag (scope.names.lookup x=aa .local)||decide (scope.names.lookup x=aa .cell))&&(ag (N.length=nl+cap.length)&&(cap.zipIdx.all (λp=>ag (N[nl+p.2]?=N0[p.1]?)&&ag ((N0[p.1]?).map (λx=>ag<|(x,bG)∈scope.names)=aa ak)) &&
  ((match scope.kind with|.function=>ak|_=>aj)&&scope.names.all λy=>(!decide (y.2=.cell) || !decide ((y.1,bG)∈scope.names))&&((!decide (y.2=.local)||decide (scope.names.lookup y.1=aa .local))&&(!decide (y.2=.free)||((ag (sc.names.lookup y.1=aa .cell)||decide (sc.names.lookup y.1=aa .free))&&ag (scope.names.lookup y.1≠aa .local))))))))
def Zgt(h:csB sc N0 scope N cap nl=ak):CompScope sc N0 scope N cap nl:=by
 unfold csB at h;simp only[aB,gV,lq,T0,decide_eq_false_iff_not,aX]at h;obtain⟨_,h1,h2,h3,h4⟩:=h;refine#[?_,λy hy z=>(h4 y hy).1.resolve_left λq=>q z,λy hy z=>?_,λy hy z=>?_,λy hy z=>?_,h1,h2]
 .cases e:scope.kind<;>rw[e]at h3<;>first|rfl|cases h3
 .rcases(h4 y hy).2.1 with q|q
  .exact T7 z q
  .exact q
 .rcases(h4 y hy).2.2 with q|q
  .exact T7 z q
  .exact q.1
 .rcases(h4 y hy).2.2 with q|q
  .exact T7 z q
  .exact q.2
noncomputable def cN(scope:gE)(nl:Nat)(cap:List Nat)(N0:List bN):List bN:=((scope.names.drop 1).take nl).map (·.1)++cap.map λi=>N0.getD i ""
def jL(h:csB sc N0 scope (cN scope nl cap N0) cap nl=ak):CompScope sc N0 scope (cN scope nl cap N0) cap nl:=Zgt h
end Gn
namespace Sd
open PySem PySem.Spec PyProof.Rows L2
def Fly(h:cM)(e T C:aH):Prop:=
 ∃(oe:fU)(vs:Array az)(a0:az)(oT:fU)(ts:Array az),h.get? e=aa oe/\(oe.cls=.ref C/\vs[0]?=aa a0)/\oe.data=.fields vs/\vs[1]?=aa (.ref T)/\T≠e/\h.get? T=aa oT/\oT.data=.fields ts/\ts[3]?=aa .none
def CX1(P:bO)(w:bV):CXT:=λouter H s E e s'=>
 ∃(a T C:aH)(H':Hp),e=.ref a/\s'.os=s.os/\iN s'.gens/\Un (frs outer) [] H H' s.heap s'.heap/\HOk P w H' s'.heap/\Fly s'.heap a T C/\s.heap.get? a=ai/\s.heap.get? T=ai/\H' a=ai/\H' T=ai/\E (.ref C) ai H'
def Z7.there(x:Z7 P w H h a o):∃u,h.get? a=aa u:=by
 cases o with|lst xs=>obtain⟨_,_,_,_,e⟩:=x;exact#[_,e]|tup xs=>obtain⟨_,_,_,_,e,_⟩:=x;exact#[_,e]|dK kvs=>obtain⟨_,_,_,_,o,_,_,e,_⟩:=x;exact#[_,e]|dT kvs=>obtain⟨_,_,_,_,o,_,_,e,_⟩:=x;exact#[_,e]|own y=>obtain⟨_,e⟩:=x;exact#[_,e]|frz ob u=>obtain⟨e,_⟩:=x;exact#[_,e]|tbl ps=>exact#[_,(x)]
theorem FunFrames.rebase{h h' base base':cM}:∀{l:List Env},h.FunFrames base l->(∀b∈frs l,∀o,h.get? b=aa o->∃sl,h'.get? b=aa {o with slots:=sl})->(∀b∈frs l,base'.get? b=ai)->h'.FunFrames base' l
 |[],_,_,_=>trivial
 |env::l,#[hk,#[L,o,hf,hn,ho,hd],hr],k,n=>by
  have hm:L∈frs (env::l):=by unfold frs;rw[cq,hf];exact al ..
  obtain⟨sl,e⟩:=k L hm o ho;refine#[hk,#[L,_,hf,n L hm,e,hd],FunFrames.rebase hr (λb hb=>k b ?_) λb hb=>n b ?_]
  all_goals unfold frs at hb ⊢;rw[cq,hf];exact am _ hb
structure DefX(X:Cx)(E:XK):Prop where
 xe:X.xe=λe s'=>aW (aR X.prog X.w) X.A (leaving X.env e) (λ_ s''=>CX1 X.prog X.w X.outer X.H₀ X.s₀ E e s'') (λe' s''=>CX1 X.prog X.w X.outer X.H₀ X.s₀ E e' s'') s'
 st:X.stack=X.env::X.outer
 fr:X.env.frame=aa X.env.locals
 ex:X.ex=[]
section
variable{X:Cx}{E:XK}{pq:List (aH×fU)}{O:L2.St}{H H':Hp}{s s':aF}
def Inv.outside(D:DefX X E)(I:Inv X pq O H s)(un:Un (frs X.stack) [] H H' s.heap s'.heap)(hos:s'.os=s.os)(bare:iN s'.gens)(hok:HOk X.prog X.w H' s'.heap)(na:s.heap.get? a=ai)(Ha:H' a=ai)
   (hh:∀b∈hid,b∈frs X.stack\/(s.heap.get? b=ai/\H' b=ai))(st:(eR s'.heap hid).StaysIn h')(up:s'.heap.UpToSlots h')(fl:Fly h' a T C)(hT:(eR s'.heap hid).get? T=ai)(hE:E (.ref C) ai H') :
  CX1 X.prog X.w X.outer X.H₀ X.s₀ E (.ref a) {s' with heap:=h' }:=by
 have U1:=I.base;rw[D.ex]at U1;have sub:∀b∈frs X.outer,b∈frs X.stack:=λb hb=>by
  rw[D.st];unfold frs at hb ⊢;rw[cq,D.fr];exact am _ hb
 have own:∀b o,X.s₀.heap.get? b=aa o->b∈frs X.stack->b∈frs X.outer:=λb o e hb=>by
  rw[D.st]at hb;unfold frs at hb ⊢;rw[cq,D.fr]at hb;rcases aw.mp hb with z|z
  .exact T7 (aD e) (by rw[z];exact lZ I.ok.above)
  .exact z
 have nx:∀b,b∉([]:List aH):=λb=>by simp
 have frN:∀b∈frs X.stack,H' b=ai:=λb hb=>by
  obtain⟨_,o,ho,_⟩:=I.stack.mem hb;exact un.free b o ho (I.stkFree b hb)<|nx b
 have hidN:∀b∈hid,H' b=ai:=λb hb=>by
  rcases hh b hb with z|z
  .exact frN b z
  .exact z.2
 have old:∀b o,s.heap.get? b=aa o->b∉frs X.stack->b∉hid:=λb o e hb hm=>by
  rcases hh b hm with z|z
  .exact hb z
  .rw[e]at z;cases z.1
 have keep:=λb u e n=>st b u<|gH _ e n
 have nof:∀b∈frs X.stack,∀o,s'.heap.get? b=aa o->∀vs,o.data≠.fields vs:=λb hb o e=>by
  obtain⟨_,o1,ho,hd⟩:=I.stack.mem hb;obtain⟨sl,e1⟩:=un.any ho (I.stkFree b hb)<|nx b;rw[e]at e1;cases e1;exact hd
 have frS:=λb hb o e=>up b o e<|nof b hb o e
 have trk:∀b u,H' b=aa u->b∉hid:=λb u e hm=>by rw[hidN b hm]at e;cases e
 have hT2:∀o,s'.heap.get? T=aa o->H' T=ai/\s.heap.get? T=ai\/False:=λo e=>by
  by_cases hm:T∈hid
  .rcases hh T hm with z|z
   .obtain⟨oe,vs,a0,oT,ts,_,_,_,_,_,g1,g2,_⟩:=fl
    obtain⟨sl,e2⟩:=frS T z o e;rw[g1]at e2;cases e2;exact T7 g2<|nof T z o e ts
   .exact .inl #[z.2,z.1]
  .rw[gH _ e hm]at hT;cases hT
 refine#[a,T,C,H',rfl,hos.trans I.os,bare,#[λb o e n hb _=>?_,λb o e n hb _=>?_,λb o e n _=>?_,λb o e _=>?_,λb xs e=>un.tups b xs<|U1.tups b xs e,λb o u e=>un.frzs b o u<|U1.frzs b o u e,λb ps e=>?_],λc o e=>?_,fl,?_,?_,Ha,?_,hE]
 .have e1:=U1.keep b o e n hb (nx b)
  have hn:=λz=>hb<|own b o e z
  exact keep b o (un.keep b o e1 (U1.free b o e n<|nx b) hn<|nx b)<|old b o e1 hn
 .obtain⟨sl,e1⟩:=U1.slot b o e n hb (nx b)
  obtain⟨sl2,e2⟩:=un.slot b _ e1 (U1.free b o e n<|nx b) (sub b hb)<|nx b;obtain⟨sl3,e3⟩:=frS b (sub b hb) _ e2;exact#[sl3,e3]
 .obtain⟨o1,e1⟩:=U1.there b o e (nx b)
  exact un.free b o1 e1 (U1.free b o e n<|nx b)<|nx b
 .obtain⟨o1,e1⟩:=U1.there b o e (nx b)
  obtain⟨o2,e2⟩:=un.there b o1 e1<|nx b;by_cases hm:b∈frs X.stack
  .obtain⟨sl,e3⟩:=frS b hm o2 e2
   exact#[_,e3]
  .exact#[o2,keep b o2 e2<|old b o1 e1 hm]
 .obtain⟨m1,e1⟩:=U1.tbls b ps e
  obtain⟨m2,e2⟩:=un.tbls b _ e1;exact#[m1++m2,by rw[e2,nF]]
 .refine(hok c o e).stay (λb u hb q=>?_) (λ_ q=>q) λ_ _ q=>q
  rcases hb with rfl|hb
  .exact keep _ u q<|trk _ _ e
  .exact keep _ u q<|trk _ _ hb
 .cases q:X.s₀.heap.get? a with
  |none=>rfl
  |some o=>
   obtain⟨o1,e1⟩:=U1.there a o q<|nx a;rw[na]at e1;cases e1
 .cases q:X.s₀.heap.get? T with
  |none=>rfl
  |some o=>
   obtain⟨o1,e1⟩:=U1.there T o q<|nx T;obtain⟨o2,e2⟩:=un.there T o1 e1<|nx T;rcases hT2 o2 e2 with z|z
   .rw[e1]at z;cases z.2
   .exact z.elim
 .cases q:H' T with
  |none=>rfl
  |some u=>
   obtain⟨o,e⟩:=Z7.there<|hok T u q;rcases hT2 o e with z|z
   .rw[q]at z;cases z.1
   .exact z.elim
def Zef(D:DefX X E):QC (CX1 X.prog X.w) X E:=by
 rintro pq O H s e s' I ⟨a,T,C,H',rfl,os,bare,un,hok,fly,na,nT,Ha,HT,hE⟩
 rw[D.xe];have nx:∀b:aH,b∉([]:List aH):=λb=>by simp
 have hfr:X.A.frames=aa (X.env::X.outer):=by rw[<-D.st];exact I.ok.frames
 let hid:=frs X.stack++[a,T]
 have hin:∀b∈frs X.stack,b∈hid:=λb hb=>da _ hb
 have FF:s'.heap.FunFrames (eR s'.heap hid) (X.env::X.outer):=by
  rw[<-D.st];exact FunFrames.rebase I.stack (λb hb o e=>un.any e (I.stkFree b hb)<|nx b) λb hb=>c9 _<|hin b hb
 obtain⟨oe,vs,a0,oT,ts,f1,f2,f3,f4,f5,f6,f7,f8⟩:=fly;refine wpAny_leaves_onW hfr D.fr #[λb o e=>g7 _ e,c9 _<|bp _<|al ..,FF,oe,vs,T,oT,ts,f1,f2,f3,f4,c9 _<|bp _<|am _<|al ..,f5,f6,f7,f8] λh' fl' up=>?_
 obtain⟨g1,_,_,oe',vs',T',oT',ts',e1,e2,e3,e4,e5,e6,e7,e8,e9⟩:=fl';refine Inv.outside D I un os bare hok na Ha (λb hb=>?_) g1 up #[oe',vs',a0,oT',ts',e1,e2,e3,e4,e6,e7,e8,e9] e5 hE
 rcases bK.mp hb with z|z
 .exact .inl z
 .rcases aw.mp z with rfl|z
  .exact .inr #[na,Ha]
  .rw[aZ.mp z];exact .inr #[nT,HT]
end
open Ev (E Sm Fn Bop Cop Ty Bf Mf)
noncomputable abbrev veM:List az:=[.type "ValueError",.type "Exception",.type "BaseException",.type "object"]
structure Cls1(h:cM)(S C:aH):Prop where
 ob:∃bm N nm q bs hdct sn sub ab col dd k0 k1 k2 k3 k5 mN,h.get? C=aa (excClassObj nm q C N bs bm hdct sn sub ab col dd k0 k1 k2 k3 k5 "ValueError.__new__")/\h.Ns N mN/\mN "__init__" = ai/\OwnTail h veM bm
section
variable{X:Cx}{E:XK}{S C:aH}{x:bN}{np cpos pos:iE}{e:Expr}{es:List Expr}{t:TA}
def Zga(C:aH)(E:XK)(t:TA):TS:=λ_ O H=>t O H λvs H'=>vs.length<=a9/\E (.ref C) ai H'
def Zbr(D:DefX X E)(hc:X.calm=ak)(Z:Cls1 X.base S C)(hg:Gl X x)(hm:X.mg x=aa (.ref C))(ha:PA X (e::es) t)(hd:(x == ("__debug__" : bN))=aj)
  (he:ay (e::es) X.env=(aj,cz e X.env)::ay es X.env)(hpl:(dL cpos<|ay es X.env).any (·.1)=aj) :
  PS X (.Raise (aa<|.Call (.Name x np) (e::es) [] cpos) ai pos) (Zga C E t):=by
 intro pq s O H Dn I h;obtain⟨bm,N,nm,q,bs,hdct,sn,sub,ab,col,dd,k0,k1,k2,k3,k5,mN,hC,hN,hi,tl⟩:=Z.ob;refine wpAny_Raise_call_subT (nm:=nm) (q:=q) (N:=N) (bs:=bs) (hdct:=hdct) (sn:=sn) (sub:=sub) (ab:=ab) (col:=col) (dd:=dd) (k0:=k0) (k1:=k1) (k2:=k2) (k3:=k3) (k5:=k5)
  PySem.F.excBase_ValueError (tl.hasType PySem.F.excBase_ValueError.hasBase) (I.ok.hd hc) (by rw[he];show(aj||(dL cpos<|ay es X.env).any (·.1))=aj;rw[hpl];rfl) hi (Ve I hg hm #[rfl,?_] hd)
 have ha':=ha cpos pq s O H _ I h;rw[he]at ha' ⊢;refine Calls.evalArgs_plain<|dq ha' (λus s2 #[vs,H2,I2,r2,hl,hE]=>#[rfl,by rw[<-r2.length];exact hl,I2.bk _ _ hC,hN.keeps I2.bk,tl.keeps I2.bk,λh' a hx=>?_]) λ_ _ y=>y
 rw[D.xe];have hfr:X.A.frames=aa (X.env::X.outer):=by rw[<-D.st];exact I2.ok.frames
 let hid:=frs X.stack
 have FF:s2.heap.FunFrames (eR s2.heap hid) (X.env::X.outer):=by
  rw[<-D.st];exact FunFrames.rebase I2.stack (λb hb o e=>#[o.slots,e]) λb hb=>c9 _ hb
 refine wpAny_leaves_madeW hfr D.fr (λb o e=>g7 _ e) FF hx λh2 t fl _ _ up=>?_
 obtain⟨g1,_,_,oe,vs',T,oT,ts,e1,e2,e3,e4,e5,e6,e7,e8,e9⟩:=fl;have na:=hx.new;have Ha:H2 a=ai:=by
  cases q:H2 a with
  |none=>rfl
  |some u=>
   obtain⟨o,e⟩:=Z7.there<|I2.hok a u q;rw[na]at e;cases e
 exact Inv.outside (s':=s2) (H':=H2) D I2 (Un.kept λb o e=>e) rfl I2.bare I2.hok na Ha (λb hb=>.inl hb) g1
  ((cM.UpToSlots.of_keeps hx.keeps).trans up) #[oe,vs',.ref t,oT,ts,e1,e2,e3,e4,e6,e7,e8,e9] e5 hE
end
def xwE(cl:List aH)(E:XK):Nat->Hp->Prop:=λc H=>∃C,cl[c]?=aa C/\E (.ref C) ai H
def End.ex_mono{B β:Type}{K:ao}{rep:Mx->Hp->B->β->Prop}{Q:β->Hp->Prop}{r:R B}(k:∀c H,xw c H->xw' c H)(h:End K xw rep Z H Q r):End K xw' rep Z H Q r:=by
 cases r with|ok d S=>exact h|ex c S=>exact λρ' H' f st=>k c H'<|h ρ' H' f st|no=>exact h
section
variable{X:Cx}{E:XK}{S C:aH}{x:bN}{np cpos pos jp p:iE}{e v1 v2:Expr}{es rest:List Expr}{xw:Nat->Hp->Prop}{cl:List aH}{Cc:Calls}{fr:Bool}{ns:List Nat}{n m:Nat}{is:List Ev.E}{i:Ev.E}
def ZbI(D:DefX X E)(hc:X.calm=ak)(Y:Cls1 X.base S C)(hn:cl[n]?=aa C)(hg:Gl X x)(hm:X.mg x=aa (.ref C))(hd:(x == ("__debug__" : bN))=aj)
  (he:ay [.Constant (.str y) j p] X.env=(aj,cz (.Constant (.str y) j p) X.env)::ay [] X.env)(hpl:(dL cpos<|ay [] X.env).any (·.1)=aj) :
  CS X (xwE cl E) fr Cc ns (.Raise (aa<|.Call (.Name x np) [.Constant (.str y) j p] [] cpos) ai pos) (.raise n []):=.mk <|
 PS.imp (Zbr D hc Y hg hm (ZG Zbu Yw he) hd he hpl)<|by
  rintro Dn O H ⟨Z,H0,W,l,os,S,st,en,h⟩;refine#[by show 1<=a9;decide,?_]
  obtain⟨C',e1,e2⟩:=h H en.fut st;rw[hn]at e1;cases e1;exact e2
def spX(K:ao)(cl:List aH)(C:Calls)(fr:Bool)(n:Nat):Sp:=λvs H Q E=>∃Z ds S,St3 K Z S H/\Rq Z H ds vs/\End K (xwE cl E) (Wj fr H) Z H Q (C n ds S)
def zD{f:aH}{fd:dz}{ps:List bN}(F:FnOk X.prog X.w X.K X.mg X.base (CX1 X.prog X.w) kk f fd ps (spX X.K cl Cc fr n))(hr:Room kk X.A)(hx:QC (CX1 X.prog X.w) X E)(hw:∀c H,xw c H->xwE cl E c H)(hm:X.mg x=aa (.ref f))(hk:gj X.K (.ref f)=ak)(hb:Ut X.K fd ps [])
  (ha:CA X xw Cc (e::es) is)(hg:Gl X x)(hdb:(x == ("__debug__" : bN))=aj)(he:ay (e::es) X.env=(aj,cz e X.env)::ay es X.env)(hpl:(dL pos<|ay es X.env).any (·.1)=aj) :
  CE X xw Cc (.Call (.Name x p) (e::es) [] pos) (.call n is):=.mk <|
 PE.imp (ui F hr hg hm hk hb .nil hx ha.h hdb he hpl) λO H Q #[Z,l,S,st,lr,h]=>
  #[Z,l,S,st,lr,End.bind (h) λxs S1 ρ1 H1 vs f1 st1 r1 h1=>by
   rw[cf];exact#[ρ1,xs,S1,st1,r1,(End.ex_mono hw h1).fr]]
end
section
variable{P:bO}{w:bV}{K:ao}{mg:bN->Option az}{base:cM}{cl:List aH}
def yo{n:Nat}{fn:Fn}{fr:Bool}{x qual:bN}{st:fq}{f:aH}{k:Nat}(hF:∀Z S H ds vs,St3 K Z S H->Rq Z H ds vs->C' n ds S=.no\/C' n ds S=Ga C fn ds S)(hns:fn.ns=N.length)(hps:fn.ps=ps.length)(Fu:Fun K x qual st f fd)(S:FnScope N ps (Zg st))
  (hb:∀(cdv:az)(A:cw)(outer:List Env)(s:aF)(H:Hp)(E:XK),Room k (A.deeper<|dZ qual (Zg st) s.heap.objs.size f cdv)->
   CSs (X0 (CX1 P w) P w K mg base N qual (Zg st) f cdv A outer s H E) (xwE cl E) fr C (Pv.muts fn.body) (ZF st) fn.body) :
  FnOk P w K mg base (CX1 P w) (k+1) f fd ps (spX K cl C' fr n):=by
 have eq:∀{Z S H ds vs Q E},St3 K Z S H->Rq Z H ds vs->End K (xwE cl E) (Wj fr H) Z H Q (C' n ds S)->End K (xwE cl E) (Wj fr H) Z H Q (Ga C fn ds S):=λ{Z S H ds vs Q E} st r h=>by
  rcases hF Z S H ds vs st r with e|e
  .rw[e]at h;exact h.elim
  .rwa[e]at h
 obtain⟨oc,od,kV,doc,pm,an,cdv,ct,osl,rfl,lk,hcd⟩:=Fu.ex;refine Zes lk hcd S (λvs H Q E #[Z,ds,S,st,r,h]=>?_) λA outer s H vs Q E hr #[Z,ds,S',st,r,h]=>#[_,(hb cdv A outer s H E hr).h,Z,H,λ_=>ai,Pv.ZP fn.ns ds,[],S',st,Eu.start st r N fn.ns hns,yC (λ_ _ q=>q) (λ_ _ q=>q)<|eq st r h]
 have h:=eq st r h;obtain⟨hl,_⟩:=End.guard h;rw[r.length,hl,hps]
def ZaP :FnOk P w K mg base (CX1 P w) k f fd ps (spX K cl (Pv.Zm F tk 0) fr n):=
 #[λvs H Q E #[Z,ds,S,st,r,h]=>False.elim h,by rintro A outer s H args us vs Q E hr e0 hb r ⟨Z,ds,S,st,r',h⟩;exact False.elim h]
def Zal{E:XK}:DefX (X0 (CX1 P w) P w K mg base N qual sc f cdv A outer s H E) E:=#[rfl,rfl,rfl,rfl]
def ZhS :QC (CX1 X.prog X.w) X E0:=by rintro pq O H s e s' I ⟨_,_,_,_,_,_,_,_,_,_,_,_,_,_,z⟩;exact z.elim
end
end Sd
namespace Sd
open PySem PySem.Spec PyProof.Rows L2 PySem.W
structure ExK(K:Frag)(C:aH):Prop where
 cd:(clsIn K C).isSome=ak
 ga:rn K (.ref C) "__getattribute__" = aa (aa<|.builtin "BaseException.__getattribute__")
 gx:rn K (.ref C) "__getattr__" = aa ai
 gc:rn K (.ref C) "__class__" = aa (aa<|.builtin "object.__class__")
 be:mroIn K C (.type "BaseException")=aa ak
 ob:mroIn K C (.type "object")=aa ak
section
variable{prog:bO}{w:bV}{A:cw}{E:az->aF->Prop}{h:cM}{g:Array GenState}{d:Drawn}{t:Nat}{os:OsState}{a C:aH}{o:fU}{K:Frag}
def Zcm{R:rY->aF->Prop}(X:K.In h)(k:ExK K C)(hx:h.get? a=aa o)(hc:o.cls=.ref C)(hq:R (.ok<|.ret<|.ref C) #[h,g,d,t,os]) :
  gz (aR prog w) A (.call (.builtin "getset_descriptor.__get__") #[[.builtin "object.__class__",.ref a,.ref C],[]]) R #[h,g,d,t,os]:=by
 have hT5:=iH;have L1:Looks (aR prog w) h (isSubtype (.ref C)<|.type<|".".intercalate ("object.__class__".cutAt '.').dropLast) ak:=by
  rw[F.owner_object_class];exact looks_mroIn X k.ob
 refine gu F.slot_gs_get.plain F.entry_gs_get<|F.slot_gs_get.check _ _ _ _ _ _ _ _ hT5 (F.args_gs_get _ _ _) ?_
 repeat(any_goals (first|assumption|(with_reducible refine fZ hx ?_;rw[hc])|with_reducible refine L1.at ?_|wp_step))
 refine#[n5 _ (by decide +kernel),dU F.entry_object_class ?_]
 repeat(any_goals (first|assumption|(with_reducible refine fZ hx ?_;rw[hc])|wp_step))
def qg{Q:Unit->aF->Prop}(X:K.In h)(k:ExK K C)(hx:h.get? a=aa o)(hc:o.cls=.ref C)(hq:Q () #[h,g,d,t,os]) :
  aW M A (checkBuiltinCall "BaseException.__getattribute__" #[[.ref a,nameV],[]]) Q E #[h,g,d,t,os]:=by
 have hk:builtinKind "BaseException.__getattribute__" = aa .slot:=by decide +kernel
 have hsplit:splitId "BaseException.__getattribute__" = aa ("BaseException","__getattribute__"):=by decide +kernel
 have L1:Looks M h (isSubtype (.ref C)<|.type "BaseException") ak:=looks_mroIn X k.be;have ha:=F.args_bexc_ga (.ref a) nameV;simp only[checkBuiltinCall,hk,hsplit];refine ae ?_;unfold isInstance
 repeat(first|(with_reducible refine fZ hx ?_;rw[hc])|with_reducible refine L1.at ?_|wp_step)
 exact hq
def ut{Q:Fin->aF->Prop}(X:K.In h)(k:ExK K C)(hx:h.get? a=aa o)(hc:o.cls=.ref C)(hq:Q (.done<|.ret<|.ref C) #[h,g,d,t,os]) :
  aW (aR prog w) A (dP.«object.__getattribute__» #[[.ref a,.str "__class__" tk],[]]) Q E #[h,g,d,t,os]:=by
 have hT5:=iH;have f5:=iH;have f6:=F.slot_gs_get.lookup;have f7:=F.slot_gs_set.lookup;have L1:Looks (aR prog w) h (kB (.ref C) "__class__") (aa<|.builtin "object.__class__"):=oN X k.gc
 repeat(any_goals (first|assumption|(with_reducible refine fZ hx ?_;rw[hc])|with_reducible refine L1.at ?_|wp_step))
 refine Zcm X k hx hc ?_
 repeat(any_goals (first|assumption|wp_step))
def Zgv{Q:az->aF->Prop}(X:K.In h)(k:ExK K C)(hx:h.get? a=aa o)(hc:o.cls=.ref C)(hq:Q (.ref C) #[h,g,d,t,os]) :
  aW (aR prog w) A (getAttrBy (.ref a) (.str "__class__" tk) aj) Q E #[h,g,d,t,os]:=by
 have f3:=PySem.F.excAttr_ValueError.ga.bind<|.ref a;have hx2:(lE "BaseException.__getattribute__" == lE "object.__getattribute__")=aj:=by decide +kernel
 have hx1:(onTheHeap (cT C)&&lE "BaseException.__getattribute__" == lE "object.__getattribute__")=aj:=by rw[hx2];rfl
 have L1:Looks (aR prog w) h (kB (.ref C) "__getattribute__") (aa<|.builtin "BaseException.__getattribute__"):=oN X k.ga;have L2:Looks (aR prog w) h (kB (.ref C) "__getattr__") ai:=oN X k.gx
 repeat(any_goals (first|assumption|(with_reducible refine fZ hx ?_;rw[hc])|with_reducible refine L1.at ?_|with_reducible refine L2.at ?_|wp_step))
 refine gu PySem.F.excAttr_ValueError.ga.plain F.entry_bexc_ga<|qg X k hx hc<|ut X k hx hc ?_
 repeat(any_goals (first|assumption|wp_step))
def uY{Q:Option az->aF->Prop}(X:K.In h)(k:ExK K C)(hx:h.get? a=aa o)(hc:o.cls=.ref C)(hq:Q (aa<|.ref C) #[h,g,d,t+1,os]) :
  aW (aR prog w) A (getAttr? (.ref a) "__class__") Q E #[h,g,d,t,os]:=by
 unfold getAttr? getAttrBy?
 repeat(any_goals (first|assumption|with_reducible apply Zgv X k hx hc|wp_step))
end
def Zbe{K:Frag}{a C:aH}(k:ExK K C):KitX K (.ref a) (.ref C) (λh=>∃o,h.get? a=aa o/\o.cls=.ref C) where
 ty:=λ_ _ _ #[o,hx,hc]=>hc▸(Looks.ld hx).andThen .now
 it:=λ_ _ X _=>by
  have hcD:=k.cd;unfold clsIn at hcD;split at hcD
  .rename_i c' d' cd' sl' ho
   intro A' Q' E' s' kk q;exact ae<|wpAny_loadPart (kk _ _<|X _ _ ho)<|av q
  .cases hcD
 ne:=λh tp dd its n sl X htp=>by
  have hcD:=k.cd;refine Bool.eq_false_iff.mpr λq=>?_
  have e:=cT.inj<|beq_iff_eq.mp q;subst e;unfold clsIn at hcD;split at hcD
  .rename_i c' d' cd' sl' ho
   have z:=(X _ _ ho).symm.trans htp;cases z
  .cases hcD
 ca:=λ{_ _ _ _ _ s} X #[o,hx,hc] q=>by obtain⟨h,g,d,t,os⟩:=s;exact uY X k hx hc q
end Sd
namespace Sd
open PySem PySem.Spec PyProof.Rows L2
section
def Inv.slots(D:DefX X E)(I:L2.Inv X pq O H s)(hh:∀b∈hid,b∈frs X.stack\/(X.s₀.heap.get? b=ai/\H b=ai/\∀p∈X.pn++pq,p.1≠b))
  (st:(eR s.heap hid).StaysIn h')(up:s.heap.UpToSlots h'):L2.Inv X pq O H {s with heap:=h' }:=by
 have keep:=λb u e n=>st b u<|gH _ e n
 have nof:∀b∈frs X.stack,∀o,s.heap.get? b=aa o->∀vs,o.data≠.fields vs:=λb hb o e=>by
  obtain⟨_,o1,ho,hd⟩:=I.stack.mem hb;rw[e]at ho;cases ho;exact hd
 have frS:=λb hb o e=>up b o e<|nof b hb o e
 have sub:∀b∈X.fs,b∈frs X.stack:=λb hb=>by
  change b∈frs X.outer at hb
  rw[D.st];unfold frs at hb ⊢;rw[cq,D.fr];exact am _ hb
 have own:∀b o,X.s₀.heap.get? b=aa o->b∈frs X.stack->b∈X.fs:=λb o e hb=>by
  rw[D.st]at hb;show b∈frs X.outer;unfold frs at hb ⊢;rw[cq,D.fr]at hb;rcases aw.mp hb with z|z
  .exact T7 (aD e) (by rw[z];exact lZ I.ok.above)
  .exact z
 have hidN:=λb hb=>(hh b hb).elim (I.stkFree b) λz=>z.2.1
 have old:∀b o,X.s₀.heap.get? b=aa o->b∉X.fs->b∉hid:=λb o e hb hm=>by
  rcases hh b hm with z|z
  .exact hb<|own b o e z
  .rw[e]at z;cases z.1
 have U:=I.base;refine#[I.ok,I.os,I.bare,#[λb o e n hb hx=>keep b o (U.keep b o e n hb hx)<|old b o e hb,λb o e n hb hx=>?_,U.free,λb o e hx=>?_,U.tups,U.frzs,U.tbls],?_,λy c e=>?_,I.free,I.freeC,λp hp=>?_,λc o e=>?_,I.len]
 .obtain⟨sl,e1⟩:=U.slot b o e n hb hx
  obtain⟨sl2,e2⟩:=frS b (sub b hb) _ e1;exact#[sl2,e2]
 .obtain⟨o1,e1⟩:=U.there b o e hx
  by_cases hm:b∈frs X.stack
  .obtain⟨sl,e2⟩:=frS b hm o1 e1
   exact#[_,e2]
  .refine#[o1,keep b o1 e1 λz=>?_]
   rcases hh b z with q|q
   .exact hm q
   .rw[e]at q;cases q.1
 .obtain⟨m,hn,hl⟩:=I.loc
  refine#[m,up.ns hn,λi x v e1 e2 e3=>?_]
  obtain⟨u,r,q⟩:=hl i x v e1 e2 e3;refine#[u,r,?_];rcases q with q|⟨k,c,e,z⟩
  .exact .inl q
  .refine .inr #[k,c,e,?_]
   obtain⟨o,ho,hd⟩:=z;obtain⟨sl,e2⟩:=up c o ho λvs q=>by rw[hd]at q;cases q
   exact#[_,e2,hd]
 .obtain⟨v,o,ho,hd⟩:=I.cell y c e
  obtain⟨sl,e2⟩:=up c o ho λvs q=>by rw[hd]at q;cases q
  exact#[v,_,e2,hd]
 .obtain⟨e,n,ne,nf,d⟩:=I.pin p hp
  refine#[keep _ _ e λz=>?_,n,ne,nf,d]
  rcases hh p.1 z with q|q
  .rw[D.st]at q;unfold frs at q;rw[cq,D.fr]at q
   rcases aw.mp q with q|q
   .exact ne q
   .exact nf q
  .exact q.2.2 p hp rfl
 .refine(I.hok c o e).stay (λb u hb q=>?_) (λ_ q=>q) λ_ _ q=>q
  have nh:∀b u,H b=aa u->b∉hid:=λb u e hm=>by rw[hidN b hm]at e;cases e
  rcases hb with rfl|hb
  .exact keep _ u q<|nh _ _ e
  .exact keep _ u q<|nh _ _ hb
def Inv.freeze(I:L2.Inv X pq O H s)(ha:s.heap.get? a=aa o)(Ha:H a=ai)(n0:X.s₀.heap.get? a=ai)(hl:a≠X.env.locals)(hc:∀x c,X.env.cells.lookup x=aa c->c≠a)(hp:∀p∈X.pn++pq,p.1≠a) :
  L2.Inv X pq O (upd H a<|.frz o<|.own a) s:=by
 have nu:∀b u,H b=aa u->upd H a (.frz o<|.own a) b=aa u:=λb u e=>by rw[Zj λz=>by rw[z,Ha]at e;cases e];exact e
 have nn:∀b,b≠a->H b=ai->upd H a (.frz o<|.own a) b=ai:=λb z e=>by rw[Zj z];exact e
 have U:=I.base;refine#[I.ok,I.os,I.bare,#[U.keep,U.slot,λb o e n hx=>nn b (λz=>by rw[z,n0]at e;cases e)<|U.free b o e n hx,U.there,λb xs e=>nu _ _<|U.tups b xs e,λb o u e=>nu _ _<|U.frzs b o u e,λb ps e=>?_],I.loc,I.cell,nn _ (Ne.symm hl) I.free,λx c e=>nn _ (hc x c e)<|I.freeC x c e,λp hp'=>?_,λc u e=>?_,I.len]
 .obtain⟨more,e1⟩:=U.tbls b ps e
  exact#[more,nu _ _ e1]
 .obtain⟨e,n,r⟩:=I.pin p hp'
  exact#[e,nn _ (hp p hp') n,r]
 .by_cases z:c=a
  .subst z
   rw[Zl]at e;cases e;exact#[ha,_,ha]
  .rw[Zj z]at e
   exact(I.hok c u e).stay (λb v hb q=>q) (λ_ q=>nu _ _ q) λ_ _ q=>nu _ _ q
def Zd3(I:L2.Inv X pq O H s)(hN:X.N.Nodup)(hi:X.N[i]?=aa n)(hk:X.env.kindOf n=aa .local)
  (h:∀s',L2.Inv X pq (O.set i ai) H s'->Q () s'):aW M A (do bindName X.env n .none;unbindBehindTheSuite X.env n pos) Q E s:=by
 obtain⟨m,hn,hl⟩:=id I.loc;have hcls:(X.env.scope.kind == .class||(X.env.scope.kind == .module&&X.env.locals != X.env.globals))=aj:=by rw[I.ok.kind];rfl
 have hiσ:i<O.length:=by rw[I.len];exact(aG.mp hi).1
 refine wpAny_nameGoes_keeps hk hn hcls λh' v hn' hs=>?_
 obtain⟨oL,_,_,hoL,_⟩:=id hn;have ab:∀b o,X.s₀.heap.get? b=aa o->b≠X.env.locals:=λb o e=>a8<|bi (aD e) I.ok.above
 have U:=I.base;refine h _ #[I.ok,I.os,I.bare,#[λb o e n hb hx=>(hs.2 b<|ab b o e).trans<|U.keep b o e n hb hx,λb o e n hb hx=>?_,U.free,λb o e hx=>?_,U.tups,U.frzs,U.tbls],#[_,hn',λj y v' e1 e2 e3=>?_],λy c e=>?_,I.free,I.freeC,λp hp=>?_,λc o e=>?_,by simpa using I.len]
 .obtain⟨sl,e1⟩:=U.slot b o e n hb hx
  exact#[sl,(hs.2 b<|ab b o e).trans e1]
 .obtain⟨o',e1⟩:=U.there b o e hx
  exact#[o',(hs.2 b<|ab b o e).trans e1]
 .by_cases hj:j=i
  .subst hj
   rw[bc hiσ]at e2;cases e2
  .rw[ba<|Ne.symm hj]at e2
   obtain⟨u',r',q⟩:=hl j y v' e1 e2 e3;refine#[u',r',?_];rcases q with⟨k,e⟩|⟨k,c,e,z⟩
   .refine .inl #[k,?_]
    have:y≠n:=λe=>hj<|Qy hN e1<|e▸hi
    simp[this,e]
   .exact .inr #[k,c,e,z.sameBut hs<|I.cne y c e]
 .obtain⟨w',z⟩:=I.cell y c e
  exact#[w',z.sameBut hs<|I.cne y c e]
 .obtain⟨e,n,ne,nf,d⟩:=I.pin p hp
  exact#[(hs.2 p.1 ne).trans e,n,ne,nf,d]
 .refine(I.hok c o e).stay (λb u hb q=>(hs.2 b λz=>?_).trans q) (λ_ q=>q) λ_ _ q=>q
  subst z;rcases hb with rfl|hb
  .rw[I.free]at e;cases e
  .rw[I.free]at hb;cases hb
noncomputable abbrev Cx.held(X:Cx)(a:aH):Cx:={X with A:=X.A.mark<|aa<|.ref a,calm:=aj,xe:=λ_ _=>False}
theorem Inv.held(I:L2.Inv X pq O H s):L2.Inv (Cx.held X a) pq O H s:=
 #[#[I.ok.mod,I.ok.kind,I.ok.glob,I.ok.blt,I.ok.above,I.ok.inj,I.ok.has,I.ok.cab,(λz=>by cases z),I.ok.frames,I.ok.stk,I.ok.exf,I.ok.bs,I.ok.bsz,I.ok.noex,I.ok.exfs,I.ok.funs,I.ok.frf],I.os,I.bare,I.base,I.loc,I.cell,I.free,I.freeC,I.pin,I.hok,I.len]
def Inv.unheld(ok:X.Ok)(I:L2.Inv (Cx.held X a) pq O H s):L2.Inv X pq O H s:=
 #[ok,I.os,I.bare,I.base,I.loc,I.cell,I.free,I.freeC,I.pin,I.hok,I.len]
def ZfE{i:Nat}(I:L2.Inv X pq O H s)(hi:X.N[i]?=aa x)(hv:Vis X.env.scope x)(e:O[i]?=aa (aa v))(h:∀u,ZA v u->Q u s)
  (hd:(x == ("__debug__" : bN))=aj)(hcd:(x == ("__classdict__" : bN))=aj):aW M A (cz (.Name x pos) X.env) Q E s:=by
 obtain⟨m,hn,hl⟩:=I.loc;obtain⟨u,r,l⟩:=hl i x v hi e hv;rcases l with⟨hk,hm⟩|⟨hk,c,hc,hcell⟩
 .exact kr (iS I.ok.kind hk hn hm<|h u r) hd
 .rcases hk with hk|hk
  .exact kr (kg I.ok.kind hk hc hcell<|h u r) hd
  .exact kr (m7 I.ok.kind hk hc hcell (h u r) hcd) hd
def Zdm{Dn:Ends}{E1:XK}{g S:aH}{ic ie ir:Nat}(D:DefX X E)(I:L2.Inv X pq O H s)(hN:X.N.Nodup)
  (hic:X.N[ic]?=aa xc)(hvc:Vis X.env.scope xc)(hsc:O[ic]?=aa (aa<|.ref g))(hie:X.N[ie]?=aa n)(hke:X.env.scope.names.lookup n=aa .local)(hir:X.N[ir]?=aa xr)(hlr:X.env.scope.names.lookup xr=aa .local)
  (hgS:Gl X xS)(hmS:X.mg xS=aa (.ref S))(hg:PySem.W.FnAt g s.heap)
  (run:gz (aR X.prog X.w) X.A (.call (.ref g) #[[],[]]) (CR (CX1 X.prog X.w) X.stack X.prog X.w H s (λ_ H'=>Dn.nx O H') E1) s)
  (hE1:∀C H',E1 (.ref C) ai H'->rA X.K (.ref C) (.ref S)=aa ak/\∀a oe,H' a=ai->oe.cls=.ref C->Dn.nx (((O.set ie<|aa<|.ref a).set ir<|aa<|.ref a).set ie ai) (upd H' a<|.frz oe<|.own a))
  (hd1:(xc == ("__debug__" : bN))=aj)(hd2:(xc == ("__classdict__" : bN))=aj)(hd3:(n == ("__debug__" : bN))=aj)(hd4:(n == ("__classdict__" : bN))=aj)(hd5:(xS == ("__debug__" : bN))=aj)
  (hs1:eC (.Call (.Name xc p1) [] [] p2) ai p3.line X.env=cJ aj)(hs2:eC (.Name n p6) (aa<|.Name xr p5) p7.line X.env=cJ aj) :
  aW (aR X.prog X.w) X.A (exec (.Try [.Expr (.Call (.Name xc p1) [] [] p2) p3] [.ExceptHandler (aa<|.Name xS p4) (aa n) [.Assign [.Name xr p5] (.Name n p6) p7] p8] [] [] p9) X.env) (SP X pq Dn) X.xe s:=by
 refine wpAny_Try_except<|gy<|wpAny_Expr_any ?_ I.quiet hs1;refine dE ?_;refine ZfE I hic hvc hsc (λu r=>?_) hd1 hd2
 obtain rfl:u=cT g:=r;refine PySem.W.callWith_F0 hg<|nK<|fG run λr s' hq=>?_
 cases r with
 |ok fl=>
  cases fl with
  |ret u=>
   obtain⟨v,H',I',r',q'⟩:=I.after hq;exact fQ<|fQ #[O,H',I',q']
  |next=>exact False.elim hq
  |brk=>exact False.elim hq
  |cont=>exact False.elim hq
 |error e=>
  obtain⟨a,T,C,H',rfl,os,bare,un,hok,fly,na,nT,Ha,HT,hE⟩:=hq;obtain⟨exm,fin⟩:=hE1 C H' hE;have nx:∀b:aH,b∉([]:List aH):=λb=>by simp
  have hfr:X.A.frames=aa (X.env::X.outer):=by rw[<-D.st];exact I.ok.frames
  have I1:L2.Inv X pq O H' s':=by
   obtain⟨hh,gg,d,t,os'⟩:=s';obtain rfl:os'=s.os:=os;exact I.call (h':=hh) (g':=gg) (d':=d) (t':=t) un hok bare (λb z=>T7 z #[2])
  let hid:=frs X.stack++[a,T]
  have hin:∀b∈frs X.stack,b∈hid:=λb hb=>da _ hb
  have old0:∀b,s.heap.get? b=ai->X.s₀.heap.get? b=ai:=λb e=>by
   cases q:X.s₀.heap.get? b with
   |none=>rfl
   |some o=>
    have U1:=I.base;rw[D.ex]at U1;obtain⟨o1,e1⟩:=U1.there b o q<|nx b;rw[e]at e1;cases e1
  have pn:∀b,s.heap.get? b=ai->∀p∈X.pn++pq,p.1≠b:=λb e p hp z=>by
   have:=(I.pin p hp).1;rw[z,e]at this;cases this
  have hhid:∀b∈hid,b∈frs X.stack\/(X.s₀.heap.get? b=ai/\H' b=ai/\∀p∈X.pn++pq,p.1≠b):=λb hb=>by
   rcases bK.mp hb with z|z
   .exact .inl z
   .rcases aw.mp z with rfl|z
    .exact .inr #[old0 _ na,Ha,pn _ na]
    .rw[aZ.mp z];exact .inr #[old0 _ nT,HT,pn _ nT]
  have FF:s'.heap.FunFrames (eR s'.heap hid) (X.env::X.outer):=by
   rw[<-D.st];exact FunFrames.rebase I1.stack (λb hb o e=>#[o.slots,e]) λb hb=>c9 _<|hin b hb
  obtain⟨oe,vs,a0,oT,ts,f1,f2,f3,f4,f5,f6,f7,f8⟩:=fly;refine wpAny_looks_onW hfr D.fr #[λb o e=>g7 _ e,c9 _<|bp _<|al ..,FF,oe,vs,T,oT,ts,f1,f2,f3,f4,c9 _<|bp _<|am _<|al ..,f5,f6,f7,f8] λh1 held up1=>?_
  refine wpAny_landsW held λh2 fly2 up2=>?_
  have I2:=Inv.slots D I1 hhid fly2.1<|up1.trans up2
  obtain⟨oe2,ge2,ce2⟩:=fly2.there;have K2:=I2.kIn;refine wpAny_handleBy_cons (codeAny_handlers_test<|Ve (Inv.held I2) hgS hmS ?_ hd5) (by intro q;cases q)
  refine(PySem.W.exm_one K2 (ce2▸(PySem.W.Looks.ld ge2).andThen .now) exm).here ?_;refine codeAny_handlers_suite_as ?_;obtain⟨k1,k2,k3,k4⟩:=fly2;refine wpAny_setFlight_noneW k1 k3 k4 λh3 m1 m2 m3 m4=>?_
  have I3:=Inv.slots D I1 hhid m1<|(up1.trans up2).trans λb o e hn=>#[o.slots,m4 b o e hn]
  obtain⟨oe3,vs3,T3,oT3,ts3,ge3,⟨ce3,_⟩,de3,_⟩:=m3;have I4:=Inv.freeze I3 ge3 Ha (old0 _ na)
   (λz=>by
    obtain⟨m,⟨o,es,ep,ho,hd,_⟩,_⟩:=I3.loc;have e1:=ho;rw[<-z,ge3]at e1;cases e1;rw[de3]at hd;cases hd)
   (λx c e z=>by
    obtain⟨v,o,ho,hd⟩:=I3.cell x c e;have e1:=ho;rw[z,ge3]at e1;cases e1;rw[de3]at hd;cases hd) (pn _ na)
  refine Vd I4 hN hie (.inl hke) (v:=.ref a) rfl (λs4 I5=>?_)<|.inr hke
  have hiσ:ie<O.length:=by rw[I.len];exact(aG.mp hie).1
  refine dq ((US<|QT (X:=Cx.held X a) (pos':=p5) hN hir (.inl hlr) (Yx hie (.inl hke) hd3 hd4) hs2<|.inr hlr) pq s4 _ _
   {nx:=λσ' H1=>σ'=(O.set ie<|aa<|.ref a).set ir (aa<|.ref a)/\H1=upd H' a (.frz oe3<|.own a),rt:=λ_ _=>False} (Inv.held I5) #[.ref a,bc hiσ,rfl,rfl]) (λf s5 hsp=>?_) λ_ _ z=>False.elim z
  cases f with
  |next=>
   obtain⟨σ',H1,J,rfl,rfl⟩:=hsp;exact Zd3 (Inv.unheld I.ok J) hN hie hke λs6 I6=>#[_,_,I6,fin a oe3 Ha ce3]
  |ret u=>obtain⟨_,_,_,_,_,z⟩:=hsp;exact z.elim
  |brk=>obtain⟨_,_,_,z⟩:=hsp;exact False.elim z
  |cont=>obtain⟨_,_,_,z⟩:=hsp;exact False.elim z
open Ev (E Sm Fn Bop Cop Ty Bf Mf)
structure Gr(H H':Hp):Prop where
 k:∀b u,H b=aa u->(∀ps,u≠.tbl ps)->H' b=aa u
 t:∀b ps,H b=aa (.tbl ps)->∃qs,H' b=aa (.tbl qs)
def Gr.fut(g:Gr H H'):Fut Z H Z H':=#[rfl,λa o e=>by
 cases o with
 |tbl ps=>exact .inr<|.inr #[#[ps,rfl],g.t a ps e]
 |_=>exact .inl<|g.k a _ e λps z=>by cases z]
def St3.grow{K:ao}(st:St3 K Z S H)(g:Gr H H')(tb:Tb H'):St3 K Z S H':=
 #[st.hk,λa x=>by
  obtain⟨o,e⟩:=kD.mp<|st.xd a x;rcases(g.fut).keep a o e with q|⟨h,_⟩|⟨_,_,q⟩
  .rw[q];intro z;cases z
  .rw[g.k a _ (st.dw a h).1 λps z=>by cases z];intro z;cases z
  .rw[q];exact Option.some_ne_none _,λa h=>#[g.k a _ (st.dw a h).1 λps z=>(by cases z),(st.dw a h).2],tb]
def wg(l)(h:oX l)(e:ko q (l++[fe a,fe b,c])=aa cv):ko q l=aa cv\/cv=c:=by
 fun_induction oX l with
 |case1=>
  simp only[gT,ko,fe]at e;split at e
  .cases e;exact .inr rfl
  .cases e
 |case2 a' t b' u x rest ih=>
  simp[ko]at e ⊢;split at e
  .rename_i z;rw[T9 z];exact .inl e
  .rename_i z;rw[T8 z];exact ih h e
 |case3 l h1 h2=>exact h.elim
section
variable{X:Cx}{E:az->aF->Prop}{pq:List (aH×fU)}{O:L2.St}{H:Hp}{s:aF}
theorem Inv.grow(I:L2.Inv X pq O H s){tk:Tok}{P:aH}(hP:H P=aa (.tbl ps))(hx:fD P s.heap h')(hT:h'.get? P=aa {cls:=.none,data:=.fields (ps++more)}){new:List (aH×fU)}
  (hn:∀p∈new,s.heap.objs.size<=p.1/\h'.get? p.1=aa p.2)(nd:(new.map (·.1)).Nodup) :
  let H':=new.foldl (λG p=>upd G p.1<|.frz p.2<|.own p.1)<|upd H P<|.tbl<|ps++more
  L2.Inv X pq O H' {s with heap:=h',toks:=tk}/\Gr H H'/\(∀p∈new,H' p.1=aa (.frz p.2<|.own p.1))/\H' P=aa (.tbl<|ps++more)/\∀b qs,H' b=aa (.tbl qs)->(b=P/\qs=ps++more)\/H b=aa (.tbl qs):=by
 intro H';have H0:∀b,(∀p∈new,p.1≠b)->H' b=upd H P (.tbl<|ps++more) b:=by
  have gen:∀(l:List (aH×fU))(G:Hp)(b:aH),(∀p∈l,p.1≠b)->l.foldl (λG p=>upd G p.1<|.frz p.2<|.own p.1) G b=G b:=by
   intro l
   induction l with
   |nil=>intro G b _;rfl
   |cons p l ih=>
    intro G b h;rw[dk,ih _ b λq hq=>h q<|am _ hq,Zj<|Ne.symm<|h p<|al ..]
  exact λb h=>gen new _ b h
 have H1:∀p∈new,H' p.1=aa (.frz p.2<|.own p.1):=by
  have gen:∀(l:List (aH×fU))(G:Hp),(l.map (·.1)).Nodup->∀p∈l,l.foldl (λG p=>upd G p.1<|.frz p.2<|.own p.1) G p.1=aa (.frz p.2<|.own p.1):=by
   intro l
   induction l with
   |nil=>intro G _ p hp;simp at hp
   |cons q l ih=>
    intro G hd p hp;rw[aY,dD]at hd;rw[dk];rcases aw.mp hp with rfl|hp
    .have rest:∀(l:List (aH×fU))(G:Hp)(b:aH),b∉l.map (·.1)->l.foldl (λG p=>upd G p.1<|.frz p.2<|.own p.1) G b=G b:=by
      intro l
      induction l with
      |nil=>intro G b _;rfl
      |cons p l ih=>
       intro G b h;rw[aY,aw,not_or]at h;rw[dk,ih _ b h.2,Zj h.1]
     rw[rest l _ _ hd.1,Zl]
    .exact ih _ hd.2 p hp
  exact gen new _ nd
 have new0:∀b,b<s.heap.objs.size->∀p∈new,p.1≠b:=λb hb p hp z=>by have q:=(hn p hp).1;rw[z]at q;lia
 have old:∀b u,H b=aa u->b≠P->H' b=aa u:=λb u e z=>by
  rw[H0 b<|new0 b<|Z7.lt<|I.hok b u e,Zj z];exact e
 have HP:H' P=aa (.tbl<|ps++more):=by rw[H0 P<|new0 P<|Z7.lt<|I.hok P _ hP,Zl]
 have cases':∀b u,H' b=aa u->(∃p∈new,p.1=b/\u=.frz p.2 (.own p.1))\/(b=P/\u=.tbl (ps++more))\/(b≠P/\H b=aa u):=λb u e=>by
  by_cases q:∃p∈new,p.1=b
  .obtain⟨p,hp,rfl⟩:=q
   rw[H1 p hp]at e;cases e;exact .inl #[p,hp,rfl,rfl]
  .rw[H0 b λp hp z=>q #[p,hp,z]]at e
   by_cases z:b=P
   .subst z;rw[Zl]at e;cases e;exact .inr<|.inl #[rfl,rfl]
   .rw[Zj z]at e;exact .inr<|.inr #[z,e]
 have gr:Gr H H':=#[λb u e n=>old b u e λz=>(by rw[z,hP]at e;cases e;exact n ps rfl),λb qs e=>by
  by_cases z:b=P
  .subst z;exact#[_,HP]
  .exact#[qs,old b _ e z]]
 refine#[I.un #[λb o e n _ _=>hx b o (λz=>by rw[z,hP]at n;cases n) e,λb o e n _ _=>#[o.slots,hx b o (λz=>by rw[z,hP]at n;cases n) e],λb o e n _=>?_,λb o e _=>?_,λb xs e=>gr.k b _ e (λps z=>by cases z),λb o u e=>gr.k b _ e (λps z=>by cases z),λb qs e=>?_] λb u e=>?_,gr,H1,HP,λb qs e=>?_]
 .rw[H0 b<|new0 b<|aD e,Zj λz=>by rw[z,hP]at n;cases n];exact n
 .by_cases z:b=P
  .subst z;exact#[_,hT]
  .exact#[o,hx b o z e]
 .by_cases z:b=P
  .subst z;rw[hP]at e;cases e;exact#[more,HP]
  .exact#[#[],by rw[old b _ e z];simp]
 .rcases cases' b u e with⟨p,hp,rfl,rfl⟩|⟨rfl,rfl⟩|⟨z,e0⟩
  .exact#[(hn p hp).2,_,(hn p hp).2]
  .exact hT
  .refine(I.hok b u e0).stay (λc v hc q=>hx c v ?_ q) (λc q=>gr.k c _ q λps z=>by cases z) λc xs q=>gr.k c _ q λps z=>by cases z
   rcases hc with rfl|hc
   .exact z
   .intro y;rw[y,hP]at hc;cases hc
 .rcases cases' b _ e with⟨p,hp,rfl,z⟩|⟨rfl,z⟩|⟨z,e0⟩
  .cases z
  .cases z;exact .inl #[rfl,rfl]
  .exact .inr e0
def Tb.grow(tb:Tb H)(g:Gr H H')(hb:∀b rs,H' b=aa (.tbl rs)->(b=P/\rs=qs)\/H b=aa (.tbl rs))(ht:oX qs.toList)
  (hc:∀pos cv,ko pos qs.toList=aa cv->∃(c:aH)(oc:fU)(vs:Array az)(t:Tok),cv=.ref c/\H' c=aa (.frz oc<|.own c)/\oc.data=.fields vs/\vs[1]?=aa (.str YS t)):Tb H':=λb rs e=>by
 rcases hb b rs e with⟨_,rfl⟩|e0
 .exact#[ht,hc]
 .obtain⟨h1,h2⟩:=tb b rs e0
  refine#[h1,λpos cv q=>?_]
  obtain⟨c,oc,vs,t,e1,e2,e3⟩:=h2 pos cv q;exact#[c,oc,vs,t,e1,g.k c _ e2 (λps z=>by cases z),e3]
def qQ{P c:aH}{body:Expr}{pos:iE}(I:L2.Inv X pq O H s)(tb:Tb H)(hP:H P=aa (.tbl ps))(hcode:X.env.code=.ref c)(C:dA X.base c P)(hB:X.base.BuiltinsAt X.mg P)(hgP:bx≠P)
  (hq:X.env.qual++"<lambda>" = YS)(hcl:iJ scope X.env=cJ clos)(hdef:defaultsOf params X.env=([],[]))
  (h:∀(g c':aH)(oc:fU) vs (t:Tok) (pm ctv:az) (H':Hp) (s':aF),L2.Inv X pq O H' s'->Gr H H'->Tb H'->(∃ps',H' P=aa (.tbl ps'))->H' g=aa (.frz (fR "<lambda>" YS params body scope clos pm c' ctv)<|.own g)->
   H' c'=aa (.frz oc<|.own c')->oc.data=.fields vs->vs[1]?=aa (.str YS t)->Q (.ref g) s') :
  aW (aR X.prog X.w) X.A (cz (.Lambda params body scope pos) X.env) Q E s:=by
 refine PySem.W.kla_eval hdef ?_;rw[hq];have hPo:=I.hok P _ hP;obtain⟨ht,hcs⟩:=tb P ps hP;have hg:=I.ok.mod.glob.keeps I.bk;have hBs:s.heap.BuiltinsAt X.mg P:=by
  obtain⟨bm,o,b1,b2,b3,b4,b5,b6⟩:=hB;exact#[bm,o,b1,b2,b3,b4,I.bk _ _ b5,b6]
 cases q:ko pos ps.toList with
 |some cv=>
  obtain⟨c',oc,vs,t,rfl,e2,e3,e4⟩:=hcs pos cv q;refine PySem.W.kla_makeFunctionHit hcl I.ok.glob hg hcode (C.keeps I.bk) hPo ht q hBs λctv h' tk hk hz=>?_
  have kp:∀b o,s.heap.get? b=aa o->(h'.push<|fR "<lambda>" YS params body scope clos ((X.mg "__name__").getD .none) c' ctv).get? b=aa o:=λb o e=>aq _<|hk b o e
  obtain⟨I',gr,n1,hP',tbs⟩:=Inv.grow I hP (λb o _ e=>kp b o e) (by rw[kR];exact kp _ _ hPo)
   (new:=[(h'.objs.size,fR "<lambda>" YS params body scope clos ((X.mg "__name__").getD .none) c' ctv)]) (λp hp=>by
    rw[aZ.mp hp];exact#[hz,aE _ rfl]) #[2]
  refine h _ c' oc vs t _ ctv _ _ I' gr (tb.grow gr tbs (by rw[kR];exact ht) λpos' cv' q'=>?_) #[_,hP'] (n1 _<|al ..) (gr.k _ _ e2 λps z=>by cases z) e3 e4
  rw[kR]at q';obtain⟨c2,oc2,vs2,t2,f1,f2,f3⟩:=hcs pos' cv' q';exact#[c2,oc2,vs2,t2,f1,gr.k _ _ f2 (λps z=>by cases z),f3]
 |none=>
  refine PySem.W.kla_makeFunction hcl I.ok.glob hg hcode (C.keeps I.bk) hPo ht q hgP hBs λc' ctv h' tk hx hge hlt hrec htb=>?_
  obtain⟨c2,oc,vs,t,e2,hoc,hd,hv⟩:=hrec;cases e2;have kp:fD P s.heap (h'.push<|fR "<lambda>" YS params body scope clos ((X.mg "__name__").getD .none) c' ctv):=λb o hb e=>aq _<|hx b o hb e
  have hsz:=bU hge<|gw hlt;obtain⟨I',gr,n1,hP',tbs⟩:=Inv.grow I hP kp (aq _ htb)
   (new:=[(c',oc),(h'.objs.size,fR "<lambda>" YS params body scope clos ((X.mg "__name__").getD .none) c' ctv)]) (λp hp=>by
    rcases aw.mp hp with rfl|hp
    .exact#[hge,aq _ hoc]
    .rw[aZ.mp hp];exact#[hsz,aE _ rfl]) (dD.mpr #[λz=>T7 (aZ.mp z)<|a8 hlt,dD.mpr #[by simp,mL]])
  refine h _ c' oc vs t _ ctv _ _ I' gr (tb.grow gr tbs (by rw[bZ];exact TriplesOk_snoc _ _ _ _ ht) λpos' cv' q'=>?_) #[_,hP'] (n1 _<|am _<|al ..) (n1 _<|al ..) hd hv
  rw[bZ]at q';rcases wg _ ht q' with z|rfl
  .obtain⟨c2,oc2,vs2,t2,f1,f2,f3⟩:=hcs pos' cv' z
   exact#[c2,oc2,vs2,t2,f1,gr.k _ _ f2 (λps z=>by cases z),f3]
  .exact#[c',oc,vs,t,rfl,n1 _<|al ..,hd,hv]
end
end
section
def cxL(P:bO)(w:bV)(K:ao)(mg:bN->Option az)(base:cM)(N:List bN)(scope:gE)(g:aH)(cd:az)(clos:List (bN×aH))(A:cw)(outer:List Env)(s:aF)(H:Hp)(E:XK):Cx where
 prog:=P
 w:=w
 K:=K
 mg:=mg
 base:=base
 A:=A.deeper<|fO YS scope s.heap.objs.size g cd clos
 N:=N
 s₀:=s
 H₀:=H
 env:=fO YS scope s.heap.objs.size g cd clos
 outer:=outer
 stack:=fO YS scope s.heap.objs.size g cd clos::outer
 ex:=[]
 calm:=ak
 fn:=λ_=>aj
 pn:=[]
 xe:=λe s'=>aW (aR P w) (A.deeper<|fO YS scope s.heap.objs.size g cd clos) (leaving (fO YS scope s.heap.objs.size g cd clos) e) (λ_ s''=>CX1 P w outer H s E e s'') (λe' s''=>CX1 P w outer H s E e' s'') s'
section
variable{P:bO}{w:bV}{K:ao}{mg:bN->Option az}{base:cM}{N:List bN}{scope:gE}{g c':aH}{clos:List (bN×aH)}{A:cw}{outer:List Env}{s:aF}{H:Hp}{E:XK}
def Zid :DefX (cxL P w K mg base N scope g cd clos A outer s H E) E:=#[rfl,rfl,rfl,rfl]
structure LamS(scope:gE)(clos:List (bN×aH)):Prop where
 kind:scope.kind=.function
 co:scope.isCoroutine=aj
 gen:scope.isGenerator=aj
 nc:∀x∈scope.names,x.2≠.cell
 vis:∀x,Vis scope x->scope.names.lookup x=aa .free
 has:∀x,scope.names.lookup x=aa .free->∃c,clos.lookup x=aa c
 inj:∀x y c,clos.lookup x=aa c->clos.lookup y=aa c->x=y
def Zat(hr:Room (k+1) A)(e0:Env0 P w K mg base A outer s H)(L:LamS scope clos)
  (hg:s.heap.get? g=aa (fR "<lambda>" YS params body scope clos pm c' ctv))(hcd:s.heap.CodeRec (.ref c') YS)(hbind:mJ (rB "<lambda>" YS params body scope clos pm (.ref c') ctv) #[[],[]]=cJ [])
  (hcell:∀x c,clos.lookup x=aa c->(∃v,s.heap.IsCell c v)/\H c=ai)(hlen:O.length=N.length)
  (hval:∀(i:Nat) x v,N[i]?=aa x->O[i]?=aa (aa v)->scope.names.lookup x=aa .free->∃u c,ZA v u/\clos.lookup x=aa c/\s.heap.IsCell c (aa u))
  (hb:PE (cxL P w K mg base N scope g (.ref c') clos A outer s H E) body t)(ht:t O H Q) :
  gz (aR P w) A (.call (.ref g) #[[],[]]) (CR (CX1 P w) outer P w H s Q E) s:=by
 refine PySem.W.kla_callFunE hr.depth hg rfl L.co L.gen rfl hcd ?_;rw[hbind];refine av<|wpAny_newFunctionEnv L.nc (λx hx=>by simp at hx) (λh1 hns hsb=>?_) L.kind
 have hk1:=λb o e=>hsb.extBut b o (a8<|aD e)<|aq _ e
 refine#[(e0.mod.nolimit.keeps λb o e=>(e0.bs b o e).1).keeps hk1,?_];have noA:∀b,b∉(cxL P w K mg base N scope g (.ref c') clos A outer s H E).ex:=λb z=>T7 (show b∈([]:List aH)from z) #[2]
 have I:L2.Inv (cxL P w K mg base N scope g (.ref c') clos A outer s H E) [] O H {s with heap:=h1,toks:=s.toks+([]:List (bN×az)).length}:=by
  refine#[#[e0.mod,L.kind,rfl,rfl,aI _,L.inj,λx hx=>?_,λx c z=>(by cases z),λ_=>hr.hd,mK e0.frames,.inr #[rfl,rfl],λb z=>T7 z<|noA b,e0.bs,e0.bsz,λb _ _=>noA b,λb z=>T7 z<|noA b,e0.funs,e0.frf],
   rfl,e0.bare,Un.kept hk1,#[_,hns,λi x v e1 e2 e3=>?_],λx c e=>?_,e0.hok.fresh<|aI _,λx c e=>(hcell x c e).2,λp hp=>T7 (show p∈([]:List (aH×fU))from hp) #[2],e0.hok.kept hk1,hlen]
  .have hx:=hx
   rcases hx with z|z
   .exact T7 rfl<|L.nc _<|dR z
   .exact L.has x z
  .have fr:=L.vis x e3
   obtain⟨u,c,r,e,z⟩:=hval i x v e1 e2 fr;refine#[u,r,.inr #[.inr fr,c,e,?_]];obtain⟨o,ho,hd⟩:=z;exact#[o,hk1 _ _ ho,hd]
  .obtain⟨⟨v,o,ho,hd⟩,_⟩:=hcell x c e
   exact#[v,o,hk1 _ _ ho,hd]
 exact PySem.W.kla_codeExpr<|dq (hb [] _ O H Q I ht) (by rintro u s' ⟨v,H',J,r,q⟩;exact #[v,H',J.os,J.bare,J.base,J.hok,r,q]) λ_ _ y=>y
end
def Zg7(K:ao):List V->Hp->VK->Prop:=λvs H Q=>∃a oe C Dv u b,vs=[.ref a,Dv]/\ZA Dv u/\(∀u',ZA Dv u'->u'=u)/\H a=aa (.frz oe<|.own a)/\oe.cls=.ref C/\ExK K C/\gh K (.ref C) u=aa b/\Q (.bl b) H
def zu:ZH X (.builtin "isinstance") (Zg7 X.K):=by
 intro pq s O H xs us Q I r h;obtain⟨a,oe,C,Dv,u,b,rfl,ru,uq,Ha,ce,k,e,q⟩:=h;cases r with
 |cons ra r=>
  cases r with
  |cons rD r=>
   cases r;cases ra;obtain rfl:=uq _ rD;obtain⟨ge,_⟩:=I.hok a _ Ha;exact dC (Zbe k) I.kIn #[oe,ge,ce] e (by intro q;cases q) λtk=>#[.bl b,H,I.tok tk,rfl,q]
def ua:V->List V->Hp->VK->Prop:=λx vs H Q=>∃(l:aH)(bs:List Bool)(j:Nat),x=.ref l/\vs=[.bl ak]/\H l=aa (.lst<|bs.map .bl)/\bs[j]?=aa ak/\(∀m,m<j->bs[m]?=aa aj)/\Q (.int j) H
theorem vN:∀{bs:List Bool}{us:List az},Vals (bs.map V.bl) us->us=bs.map bD
 |[],_,.nil=>rfl
 |b::bs,_,.cons r t=>by cases r;rw[vN t];rfl
def Zaf:MtM X "list.index" ua:=by
 intro pq s O H x vs v us Q I rx rv h;obtain⟨l,bs,j,rfl,rfl,hH,hj,hno,q⟩:=h;cases rx;obtain⟨u,rfl,ru⟩:=rv.one;cases ru;obtain⟨z,its,n,r,hl,e⟩:=I.lstM hH;obtain rfl:=vN r;have hjl:=(aG.mp hj).1;have hsz:(bs.map bD).toArray.size=bs.length:=by simp
 have get:∀m (hm:m<(bs.map bD).toArray.size),(bs.map bD).toArray[m]=bD (bs[m]'(by rwa[hsz]at hm)):=λm hm=>by simp
 refine g8 F.slot_list_index #[_,e,rfl] F.entry_list_index (F.args_list_index_2 _ _) (PySem.SeqAt.list_indexAt l (bs.map bD).toArray n ai #[] (.bool ak) (λy=>y == .bool ak) j (by rw[hsz];exact hjl) (by
  rw[ax]at z;have:a9=16777216:=rfl;lia) (by rw[get];rw[(aG.mp hj).2];rfl) λm hm hmj=>by
   rw[get];have:=aG.mp<|hno m hmj;rw[this.2];rfl) #[e,λy hy=>?_,?_]
 .obtain⟨b,_,rfl⟩:=aM.mp (List.mem_toArray.mp hy)
  cases b
  .exact kS aj ak
  .exact kS ak ak
 .exact#[.int j,H,I.tok _,#[_,rfl],q]
def Zho{CX:CXT}{P:bO}{w:bV}{K:ao}{base:cM}{k:Nat}{f:aH}{x qual:bN}{st:fq}{fd:dz}{N ps:List bN}{A:cw}{outer:List Env}{s:aF}{H:Hp}{args:Args}{us:List az}{vs:List V}{Q:VK}{E:XK}
  (Fu:Fun K x qual st f fd)(S:FnScope N ps (Zg st))(hr:Room (k+1) A)(e0:Env0 P w K mg base A outer s H)(hb:mZ s fd args (ps.zip us))(r:Vals vs us)(hl:vs.length=ps.length)
  (hbody:∀(cdv:az)(s1:aF),Room k (A.deeper<|dZ qual (Zg st) s.heap.objs.size f cdv)->L2.Inv (X0 CX P w K mg base N qual (Zg st) f cdv A outer s H E) [] (start N vs) H s1->
   aW (aR P w) (A.deeper<|dZ qual (Zg st) s.heap.objs.size f cdv) (execs (ZF st)<|dZ qual (Zg st) s.heap.objs.size f cdv) (SP (X0 CX P w K mg base N qual (Zg st) f cdv A outer s H E) [] {nx:=λ_ H'=>Q .non H',rt:=Q}) (X0 CX P w K mg base N qual (Zg st) f cdv A outer s H E).xe s1) :
  gz (aR P w) A (.call (.ref f) args) (CR CX outer P w H s Q E) s:=by
 obtain⟨oc,od,kV,doc,pm,an,cdv,ct,osl,rfl,lk,hcd⟩:=Fu.ex;have KX:=e0.mod.kin.keeps λb o e=>(e0.bs b o e).1
 have lim:=e0.mod.nolimit.keeps λb o e=>(e0.bs b o e).1
 have hkind:∀y∈ps.zip us,(Zg st).names.lookup y.1=aa .local\/((Zg st).names.lookup y.1=aa .cell/\((dv (s.heap.objs.size+1) (Zg st).names []).lookup y.1).isSome=ak):=by
  rintro ⟨n,v⟩ hy;rcases S.par n (gS hy).1 with q|q
  .exact .inl q
  .exact .inr #[q,iq _ _ _<|.inl q]
 refine mC hr.depth (KX _ _ lk) rfl S.co S.gen rfl (nM KX hcd)<|hb _ _ _ _ ?_;refine kw S.kind hkind λenv he s1 x=>?_
 subst he;refine#[lim.keeps x.toInCall.keep,codeAny_func ?_];have I:=JF (CX:=CX) (E:=E) S hr.hd e0 hl r x;refine dq (hbody cdv s1 (hr.deeper _) I) (λfl s' hs=>?_) λe s' hs=>hs
 cases fl with
 |ret u=>
  obtain⟨v,σ',H',J,rv,q⟩:=hs;exact#[v,H',J.os,J.bare,J.base,J.hok,rv,q]
 |next=>
  obtain⟨σ',H',J,q⟩:=hs;exact#[.non,H',J.os,J.bare,J.base,J.hok,rfl,q]
 |brk=>
  obtain⟨_,_,_,q⟩:=hs;exact False.elim q
 |cont=>
  obtain⟨_,_,_,q⟩:=hs;exact False.elim q
def vq(Pt:aH)(H:Hp):Prop:=H Pt=aa (.tbl #[])/\∀b,b≠Pt->H b=ai\/∃o xs,H b=aa (.frz o<|.lst xs)
def uI{P:bO}{w:bV}{K:ao}{CX:CXT}{k:Nat}{fa a c Pt:aH}{fd:dz}{x:bN}{sp:Sp}{s₁:aF}{vs:List az}{ns:List Int}
  (KX:K.In s₁.heap)(hns:s₁.heap.Ns bx mg)(hb:s₁.heap.Ns nE mb)(hbb:∀x:bN,x≠"__name__"->mb x=dB x)(hlim:s₁.heap.NoLimit)(hg:s₁.gens = #[])
  (hC:dA s₁.heap c Pt)(hPt:s₁.heap.get? Pt=aa (rC #[]))(hK:mV K=ak)(hB:s₁.heap.BuiltinsAt mg Pt)
  (ha:s₁.heap.get? a=aa {cls:=.type "list",data:=.seq vs.toArray})(hi:iP vs ns)(hl:ns.length<=a9)(hr:Room k m5)
  (F:∀base:cM,K.In base->base.Ns bx mg->dA base c Pt->base.BuiltinsAt mg Pt->bx≠Pt->FnOk P w K mg base CX k fa fd [x] sp)(hbind:∀(s:aF)(u:az),mZ s fd #[[u],[]] [(x,u)])
  (hsp:∀H:Hp,vq Pt H->SqL K H a (ns.map V.int)->sp [.ref a] H (λv _=>v=.bl ak) λ_ _ _=>False)
  (hCX:∀H e s',CX [] H s₁ (λ_ _ _=>False) e s'->False) :
  gz (aR P w) m5 (.call (.ref fa) #[[.ref a],[]]) (λr s'=>r=.ok (.ret<|.bool ak)/\OldK s₁.heap s'.heap/\s'.os=s₁.os/\iN s'.gens) s₁:=by
 have rv:=Jo hi;have lenV:=hi.length;have hPa:Pt≠a:=λz=>by rw[z,ha]at hPt;cases hPt
 have hKP:K.lookup Pt=ai:=by
  cases q:K.lookup Pt with
  |none=>rfl
  |some o=>
   have e:=KX Pt o q;rw[hPt]at e;cases e;have h2:=aX.mp hK (Pt,rC #[])<|PySem.W.mem_of_lookupK q;exact T7 (h2) aP
 have core:∀H:Hp,vq Pt H->SqL K H a (ns.map V.int)->HOk P w H s₁.heap->(∀b,H b≠ai->b=a\/b=Pt)->(H a≠ai->K.lookup a=ai)->
   gz (aR P w) m5 (.call (.ref fa) #[[.ref a],[]]) (λr s'=>r=.ok (.ret<|.bool ak)/\OldK s₁.heap s'.heap/\s'.os=s₁.os/\iN s'.gens) s₁:=by
  intro H hO hS hok hA hK;have base_of:∀{b:aH}{o:fU},s₁.heap.get? b=aa o->H b=ai->(Q8 s₁.heap H).get? b=aa o:=λe n=>jZ e n
  have noT:∀{b:aH}{o:fU},s₁.heap.get? b=aa o->b≠a->b≠Pt->H b=ai:=λ{b o} e z1 z2=>by
   cases q:H b with|none=>rfl|some u=>exact((hA b<|by rw[q];simp).elim z1 z2).elim
  have noA:∀{b:aH}{o:fU}{es:Array ig}{ep:Nat},s₁.heap.get? b=aa o->o.data=.dict es ep->H b=ai:=λ{b o es ep} e d=>
   noT e (λz=>by subst z;rw[ha]at e;cases e;cases d) λz=>by subst z;rw[hPt]at e;cases e;cases d
  have nsK:∀{b:aH}{m:bN->Option az},s₁.heap.Ns b m->(Q8 s₁.heap H).Ns b m:=λ{b m} #[o,es,ep,e,d,r]=>#[o,es,ep,base_of e<|noA e d,d,r]
  have hKb:=λb o e=>base_of (KX b o e) (by
   cases q:H b with
   |none=>rfl
   |some u=>
    rcases hA b (by rw[q];simp)with z|z
    .subst z;rw[hK<|by rw[q];simp]at e;cases e
    .subst z;rw[hKP]at e;cases e)
  have hM:Mod K mg (Q8 s₁.heap H):=#[hKb,nsK hns,#[mb,nsK hb,hbb],let #[mc,h1,h2]:=hlim;#[mc,nsK h1,h2]];have e0:Env0 P w K mg (Q8 s₁.heap H) m5 [] s₁ H:=#[rfl,hM,λb o e=>Zct e,mh<|uC _ _,trivial,λb hb=>T7 (show b∈([]:List aH)from hb) #[2],hok,.of_eq hg]
  have hCb:dA (Q8 s₁.heap H) c Pt:=by
   obtain⟨o,vs',file,tf,flags,tg,inF,text,tt,e1,r1,r⟩:=hC;refine#[o,vs',file,tf,flags,tg,inF,text,tt,base_of e1<|noT e1 (λz=>?_) λz=>?_,r1,r]
   .subst z;rw[ha]at e1;cases e1;exact T7 (rE r1) #[1]
   .subst z;rw[hPt]at e1;cases e1;cases r1
  have hBb:(Q8 s₁.heap H).BuiltinsAt mg Pt:=by
   obtain⟨bm,o,b1,b2,b3,b4,b5,b6,b7,b8⟩:=hB;refine#[bm,o,b1,b2,b3,b4,base_of b5<|noT b5 (λz=>?_) b4,b6,b7,b8]
   subst z;rw[ha]at b5;cases b5;exact T7 (rE b6) #[1]
  have hgP:bx≠Pt:=λz=>by
   obtain⟨o,es,ep,e,d,_⟩:=hns;rw[z,hPt]at e;cases e;cases d
  refine fG ((F _ hKb (nsK hns) hCb hBb hgP).run m5 [] s₁ H #[[.ref a],[]] [.ref a] [.ref a] _ _ hr e0 (hbind s₁<|.ref a) (.cons rfl .nil)<|hsp H hO hS) λr s' h=>?_
  cases r with
  |error e=>exact(hCX H e s' h).elim
  |ok fl=>
   cases fl with
   |next=>exact False.elim h
   |brk=>exact False.elim h
   |cont=>exact False.elim h
   |ret u=>
    obtain⟨v,H',os,bare,un,hok',r',q⟩:=h;have q':=q;subst q';obtain rfl:u=bD ak:=r';have keep:=λb o z e=>by
     cases q:H b with
     |none=>exact un.keep b o e q (by intro z;exact T7 (show b∈([]:List aH)from z)<|by simp) #[2]
     |some u=>
      rcases hO.2 b z with z|⟨ob,xs,z⟩
      .rw[q]at z;cases z
      .have z2:=un.frzs b ob _ z
       obtain⟨e1,_⟩:=hok b _ z;obtain⟨e2,_⟩:=hok' b _ z2;rw[e]at e1;cases e1;exact e2
    obtain⟨more,hm⟩:=un.tbls Pt #[] hO.1;have hT':=hok' Pt _ hm;refine#[rfl,#[λb o e=>?_,λb o e=>?_],os,bare]
    .by_cases z:b=Pt
     .subst z
      rw[hPt]at e;cases e;exact .inr<|.inl #[(hC.tab hPt).isCodeTable,rfl,#[],more,rfl,hT']
     .exact .inl<|keep b o z e
    .by_cases z:b=Pt
     .subst z;exact#[_,hT']
     .exact#[o,keep b o z e]
 have tbOk:=hPt
 cases hk:K.lookup a with
 |some o=>
  have e:=KX a o hk;rw[ha]at e;cases e;refine core (upd (λ_=>ai) Pt<|.tbl #[]) #[Zl,λb z=>.inl<|Zj z] (.inr #[_,vs.toArray,_,hk,rfl,rfl,rfl,by rw[aC,lenV];exact hl,by simpa using rv]) (λb u z=>?_) (λb z=>?_) λz=>T7 (Zj<|Ne.symm hPa) z
  .by_cases q:b=Pt
   .subst q;rw[Zl]at z;cases z;exact hPt
   .rw[Zj q]at z;cases z
  .by_cases q:b=Pt
   .exact .inr q
   .exact T7 (Zj q) z
 |none=>
  refine core (upd (λb=>if b=a then aa (.frz {cls:=.type "list",data:=.seq vs.toArray}<|.lst<|ns.map V.int)else ai) Pt<|.tbl #[]) #[Zl,λb z=>?_] (.inl<|.inr #[{cls:=.type "list",data:=.seq vs.toArray},by rw[Zj<|Ne.symm hPa];exact T9 rfl]) (λb u z=>?_) (λb z=>?_) λ_=>hk
  .rw[Zj z]
   by_cases hb:b=a
   .exact .inr #[_,_,T9 hb]
   .exact .inl<|T8 hb
  .by_cases q:b=Pt
   .subst q;rw[Zl]at z;cases z;exact hPt
   .rw[Zj q]at z
    by_cases hb:b=a
    .have z':=(T9 hb).symm.trans z
     cases z';subst hb;exact#[ha,by rw[ax];exact hl,vs,_,rv,ha]
    .have z':=(T8 hb).symm.trans z
     cases z'
  .by_cases q:b=Pt
   .exact .inr q
   .rw[Zj q]at z
    by_cases hb:b=a
    .exact .inl hb
    .exact T7 (T8 hb) z
def Za3{l:my}{n k:Nat}{q:bO}{loose:List bN}{d:DefRec}{K:Params->ao}{CX:bV->CXT}{sp:bV->aH->Sp}{x:bN}{c Pt:aH}{dr:DefRec}
  (hn:l.most=aa n)(hn2:n<=a9)(hdf:d.params.defaults=[])(hr:Room k m5)
  (hY:∀(w:bV)(h:cM),YP w h->(K w.params).In h)(hrec:(recsOf q).find? (λe=>e.name == d.name)=aa dr)(ht:∀w:bV,rM (K w.params) d.name=aa (c,Pt))(hK:∀w:bV,mV (K w.params)=ak)
  (F:∀(w:bV) mg (fa:aH) (h:cM),(K w.params).In h->h.Ns bx mg->mg d.name=aa (.ref fa)->
   ∃fd:dz,(∀(s:aF)(u:az),mZ s fd #[[u],[]] [(x,u)])/\
    ∀base:cM,(K w.params).In base->base.Ns bx mg->dA base c Pt->base.BuiltinsAt mg Pt->bx≠Pt->FnOk l.prog w (K w.params) mg base (CX w) k fa fd [x] (sp w Pt))
  (hsp:∀(w:bV)(H:Hp)(a:aH)(ns:List Int),ns.length<=n->vq Pt H->SqL (K w.params) H a (ns.map V.int)->sp w Pt [.ref a] H (λv _=>v=.bl ak) λ_ _ _=>False)
  (hCX:∀(w:bV)(H:Hp)(s:aF)(e:az)(s':aF),CX w [] H s (λ_ _ _=>False) e s'->False) :
  rO q loose XP YP l.row.toRowW d [] (λf vs=>pU f vs):=by
 refine Att.zN hn hdf λw s₀ s₁ mg mb fa o pm cd doc a vs ns G Y ho hd hcd hmg hobj hints hlen hg=>?_
 have KX:=hY w _ Y;obtain⟨fd,hb,hF⟩:=F w mg fa _ KX G.T.g hmg;obtain⟨hC,hPt⟩:=PySem.W.tab_of G.T KX hrec<|ht w;obtain⟨bm,ob,b1,b2,b3,b4,b5,b6⟩:=G.T.bmain;have hbP:bm≠Pt:=λz=>by rw[z,hPt]at b3;cases b3;cases b4
 have hbG:bm≠bx:=λz=>by
  obtain⟨o,es,ep,e,hd,_⟩:=G.T.g;rw[z,e]at b3;cases b3;rw[hd]at b6;cases b6
 exact uI KX G.T.g G.T.b G.T.builtins G.T.nolimit hg hC hPt (hK w) #[bm,ob,b1,b2,hbG,hbP,b3,b4,b5,b6] hobj hints (bU hlen hn2) hr hF hb (λH hO hS=>hsp w H a ns hlen hO hS) λH e s'=>hCX w H s₁ e s'
open Ev (E Sm Fn Bop Cop Ty Bf Mf)
noncomputable def Xa:List bN:=["SpaceError","NoRow","NoPart","NoNumber","NoHeads","NotBeside","NotIn","NoTurn","NoLot","TooMany","BadNote"]
structure Errs(K:ao)(mg:bN->Option az)(cl:List aH):Prop where
 len:cl.length=11
 nm:∀(j:Nat)(C:aH)(x:bN),cl[j]?=aa C->Xa[j]?=aa x->mg x=aa (.ref C)
 exk:∀(j:Nat)(C:aH),cl[j+1]?=aa C->ExK K C
 one:∀(i j:Nat)(C D:aH),cl[i+1]?=aa C->cl[j+1]?=aa D->gh K (.ref C) (.ref D)=aa (ag<|i=j)
 ve:∀(i:Nat)(C:aH),cl[i+1]?=aa C->gh K (.ref C) (.type "ValueError")=aa ak
 exm:∀(i:Nat)(C S:aH),cl[i+1]?=aa C->cl[0]?=aa S->rA K (.ref C) (.ref S)=aa ak
def tIs(K:ao)(ir:Nat)(Dv:V):TE:=tCB (Zg7 K)<|Xi (xB ir)<|Xi (tC Dv) xT
structure ErAt(K:ao)(cl:List aH)(ir c:Nat)(O:L2.St)(H:Hp):Prop where
 ex:∃a oe C,O[ir]?=aa (aa<|.ref a)/\H a=aa (.frz oe<|.own a)/\oe.cls=.ref C/\cl[c+1]?=aa C
theorem ErAt.upd{K:ao}(e:ErAt K cl ir c O H)(hq:H q=ai):ErAt K cl ir c O (L2.upd H q o):=by
 obtain⟨a,oe,C,h1,h2,h3⟩:=e.ex;exact#[a,oe,C,h1,by rw[Zj λz=>by rw[z,hq]at h2;cases h2];exact h2,h3]
def ErAt.wr{K:ao}(e:ErAt K cl ir c O H)(hq:H q=aa (.lst xs)):ErAt K cl ir c O (L2.upd H q o):=by
 obtain⟨a,oe,C,h1,h2,h3⟩:=e.ex;exact#[a,oe,C,h1,by rw[Zj λz=>by rw[z,hq]at h2;cases h2];exact h2,h3]
theorem ErAt.set{K:ao}(e:ErAt K cl ir c O H)(hj:ir≠j):ErAt K cl ir c (O.set j<|aa v) H:=by
 obtain⟨a,oe,C,h1,h2⟩:=e.ex;exact#[a,oe,C,by rw[ba<|Ne.symm hj];exact h1,h2]
def Xl{K:ao}(R:Errs K mg cl)(e:ErAt K cl ir c O H)(hj:cl[j+1]?=aa Dj)(q:Q (.bl<|ag<|c=j) H):tIs K ir (.ref Dj) O H Q:=by
 obtain⟨a,oe,C,h1,h2,h3,h4⟩:=e.ex;exact#[.ref a,h1,a,oe,C,.ref Dj,.ref Dj,ag<|c=j,rfl,rfl,λu' r=>r,h2,h3,R.exk c C h4,R.one c j C Dj h4 hj,q]
def Zge{K:ao}(R:Errs K mg cl)(e:ErAt K cl ir c O H)(q:Q (.bl ak) H):tIs K ir (.ty "ValueError") O H Q:=by
 obtain⟨a,oe,C,h1,h2,h3,h4⟩:=e.ex;exact#[.ref a,h1,a,oe,C,.ty "ValueError",.type "ValueError",ak,rfl,rfl,λu' r=>r,h2,h3,R.exk c C h4,R.ve c C h4,q]
def ZgR(hi:X.N[ir]?=aa xr)(hv:Vis X.env.scope xr)(hg0:Gl X "isinstance")(hm0:X.mg "isinstance" = ai)(hg:Gl X x)(hm:X.mg x=aa (.ref Dj))(hd1:(xr == ("__debug__" : bN))=aj)(hd2:(xr == ("__classdict__" : bN))=aj)(hd3:(x == ("__debug__" : bN))=aj)
  (hs:ay [.Name xr p1,.Name x p2] X.env=(aj,cz (.Name xr p1) X.env)::ay [.Name x p2] X.env:=by rfl)(hs2:ay [.Name x p2] X.env=(aj,cz (.Name x p2) X.env)::ay [] X.env:=by rfl)(hpl:(dL pos<|ay [.Name x p2] X.env).any (·.1)=aj:=by rfl) :
  PE X (.Call (.Name "isinstance" p) [.Name xr p1,.Name x p2] [] pos) (tIs X.K ir<|.ref Dj):=
 Xt zu hg0 hm0 rfl (ZG (Yx hi hv hd1 hd2) (ZG (Zd2 hg hm rfl hd3) Yw hs2) hs) #[1] #[1] hs hpl
def Zgn(hi:X.N[ir]?=aa xr)(hv:Vis X.env.scope xr)(hg0:Gl X "isinstance")(hm0:X.mg "isinstance" = ai)(hg:Gl X "ValueError")(hm:X.mg "ValueError" = ai)(hd1:(xr == ("__debug__" : bN))=aj)(hd2:(xr == ("__classdict__" : bN))=aj)
  (hs:ay [.Name xr p1,.Name "ValueError" p2] X.env=(aj,cz (.Name xr p1) X.env)::ay [.Name "ValueError" p2] X.env:=by rfl)(hs2:ay [.Name "ValueError" p2] X.env=(aj,cz (.Name "ValueError" p2) X.env)::ay [] X.env:=by rfl)(hpl:(dL pos<|ay [.Name "ValueError" p2] X.env).any (·.1)=aj:=by rfl) :
  PE X (.Call (.Name "isinstance" p) [.Name xr p1,.Name "ValueError" p2] [] pos) (tIs X.K ir<|.ty "ValueError"):=
 Xt zu hg0 hm0 rfl (ZG (Yx hi hv hd1 hd2) (ZG (UW hg hm rfl rfl) Yw hs2) hs) #[1] #[1] hs hpl
def VA(K:ao)(ir is:Nat)(cl:List aH)(ts:TT)(rb:TE)(fin:TS):TS:=
 let I:=λj=>tIs K ir<|.ref<|cl.getD (j+1) 0
 wu (ZfY (tB<|ZhH<|xB ir) (ZdB<|tC .non) ZbC) (wu (Zaq (ZdL<|Xi (I 0)<|Xi (I 1)<|Xi (I 2) xT)<|yd is)
  (wu (Zaq (tOp ZdC (xB is)<|ZdL<|Xi (I 3)<|Xi (I 4)<|Xi (I 5) xT)<|yd is) (wu (Zaq (tOp ZdC (xB is)<|ZdL<|Xi (I 6)<|Xi (I 7)<|Xi (I 8) xT)<|yd is)
   (wu (Zea<|tBM K "list" wJ (xB is)<|Xi (I 9) xT)<|wu (ZfY (tOr (Zg1<|tB<|tIs K ir<|.ty "ValueError") ts) (ZdB rb) ZbC) fin))))
def wj{K:ao}(h:O[ir]?=aa (aa .non))(q:Dn.rt .non H):VA K ir is cl ts rb fin Dn O H:=by
 refine#[.non,h,ak,rfl,?_]
 change (if ak=ak then _ else _)
 rw[T9 rfl];exact q
def xh(xs):∀ps,HO.lst xs≠.tbl ps:=λ_ z=>by cases z
def Ye(c:Nat):List Bool:=(aO 10).map λj=>ag<|c=j
def ZeZ:∀c,c<10->(Ye c)[c]?=aa ak:=by decide
def ZfD:∀c,c<10->∀m,m<c->(Ye c)[m]?=aa aj:=by decide
theorem wP :∀(bs:List Bool),Rq Z H (bs.map Pv.V.bl) (bs.map V.bl)
 |[]=>Rq.nil
 |b::bs=>Rq.cons (Ym b)<|wP bs
def upd2 :upd (upd H p o) p u=upd H p u:=by
 funext b
 by_cases z:b=p
 .subst z;rw[Zl,Zl]
 .rw[Zj z,Zj z,Zj z]
def u8{K:ao}{mg:bN->Option az}{ts:TT}{rb:TE}{fi:TS}{Dn:Ends}{c:Nat}{Z:Mx}{S:ZO}(R:Errs K mg cl)(hc:c<10)(e:ErAt K cl ir c O H)(hne:ir≠is)(hsl:is<O.length)(st:St3 K Z S H)
  (hts:∀(σ':L2.St)(H':Hp)(p:aH)(Q':Bool->Hp->Prop),σ'[is]?=aa (aa<|.ref p)->H' p=aa (.lst<|(Ye c).map .bl)->¬Z.X p->St3 K Z S H'->(∀H2,Fut Z H' Z H2->St3 K Z S H2->Q' aj H2)->ts σ' H' Q')
  (fin:∀(σ':L2.St)(H':Hp)(q:aH),σ'[is]?=aa (aa<|.ref q)->σ'.length=O.length->H' q=aa (.lst<|(Ye c).map .bl)->Fut Z H Z H'->St3 K Z S H'->fi Dn σ' H'):VA K ir is cl ts rb fi Dn O H:=by
 have cj:∀j,j<10->cl[j+1]?=aa (cl.getD (j+1) 0):=λj hj=>by
  have hl:j+1<cl.length:=by rw[R.len];lia
  rw[af hl,aA,af hl];rfl
 obtain⟨a,oe,C,h1,h2,h3,h4⟩:=id e.ex;refine#[.ref a,h1,aj,rfl,?_]
 change (if aj=ak then _ else _)
 rw[T8 aP]
 let A1:HO:=.lst [.bl<|ag<|c=0,.bl<|ag<|c=1,.bl<|ag<|c=2]
 let A2:HO:=.lst [.bl<|ag<|c=3,.bl<|ag<|c=4,.bl<|ag<|c=5]
 let A3:HO:=.lst [.bl<|ag<|c=0,.bl<|ag<|c=1,.bl<|ag<|c=2,.bl<|ag<|c=3,.bl<|ag<|c=4,.bl<|ag<|c=5]
 let A4:HO:=.lst [.bl<|ag<|c=6,.bl<|ag<|c=7,.bl<|ag<|c=8]
 let L5:List Bool:=[ag<|c=0,ag<|c=1,ag<|c=2,ag<|c=3,ag<|c=4,ag<|c=5,ag<|c=6,ag<|c=7,ag<|c=8]
 let A5:HO:=.lst<|L5.map .bl
 let A6:HO:=.lst<|(Ye c).map .bl
 have neq:∀{G:Hp}{b d:aH}{u:HO},G b=aa u->G d=ai->b≠d:=λh1 h2 z=>by rw[z,h2]at h1;cases h1
 refine Xl R e (cj 0<|by lia)<|Xl R e (cj 1<|by lia)<|Xl R e (cj 2<|by lia) #[by show 3<=a9;decide,λq1 hq1=>?_]
 have e1:=(e.upd (o:=A1) hq1).set (v:=.ref q1) hne;have st1:=st.fresh (o:=A1) hq1<|xh _;have f1:Fut Z H Z (upd H q1 A1):=Zs hq1;have g1:upd H q1 A1 q1=aa A1:=Zl;have l1:(O.set is<|aa<|.ref q1).length=O.length:=bC;refine#[.ref q1,bc hsl,?_];refine Xl R e1 (cj 3<|by lia)<|Xl R e1 (cj 4<|by lia)<|Xl R e1 (cj 5<|by lia) #[by show 3<=a9;decide,λq2 hq2=>?_]
 have g2:upd (upd H q1 A1) q2 A2 q1=aa A1:=by rw[Zj<|neq g1 hq2];exact g1
 have st2:=st1.fresh (o:=A2) hq2<|xh _;have f2:Fut Z H Z (upd (upd H q1 A1) q2 A2):=f1.trans<|Zs hq2;refine#[q1,q2,_,_,rfl,rfl,g2,Zl,by show 6<=a9;decide,λq3 hq3=>?_]
 let H3:=upd (upd (upd H q1 A1) q2 A2) q3 A3
 have e3:=((e1.upd hq2).upd (o:=A3) hq3).set (v:=.ref q3) hne;have st3:=st2.fresh (o:=A3) hq3<|xh _;have f3:Fut Z H Z H3:=f2.trans<|Zs hq3;have g3:H3 q3=aa A3:=Zl;have l3:((O.set is<|aa<|.ref q1).set is<|aa<|.ref q3).length=O.length:=by rw[bC,l1]
 refine#[.ref q3,bc (by rw[l1];exact hsl),?_]
 refine Xl R e3 (cj 6<|by lia)<|Xl R e3 (cj 7<|by lia)<|Xl R e3 (cj 8<|by lia) #[by show 3<=a9;decide,λq4 hq4=>?_]
 have g4:upd H3 q4 A4 q3=aa A3:=by rw[Zj<|neq g3 hq4];exact g3
 have st4:=st3.fresh (o:=A4) hq4<|xh _;have f4:Fut Z H Z (upd H3 q4 A4):=f3.trans<|Zs hq4;refine#[q3,q4,_,_,rfl,rfl,g4,Zl,by show 9<=a9;decide,λq5 hq5=>?_]
 let H5:=upd (upd H3 q4 A4) q5 A5
 let σ5:=((O.set is<|aa<|.ref q1).set is<|aa<|.ref q3).set is<|aa<|.ref q5
 have e5:=((e3.upd (o:=A4) hq4).upd (o:=A5) hq5).set (j:=is) (v:=.ref q5) hne;have l5:σ5.length=O.length:=by rw[bC,l3]
 have v5:σ5[is]?=aa (aa<|.ref q5):=bc (by rw[l3];exact hsl)
 have g5:H5 q5=aa A5:=Zl;refine#[.ref q5,v5,.inl #[rfl,_,SqL.of g5],?_];refine Xl R e5 (cj 9<|by lia) #[q5,_,_,rfl,rfl,g5,by show 9<a9;decide,?_]
 let H6:=upd H5 q5 A6
 have h6:H6=upd (upd H3 q4 A4) q5 A6:=upd2;have st6:St3 K Z S H6:=by rw[h6];exact st4.fresh (o:=A6) hq5<|xh _
 have f6:Fut Z H Z H6:=by rw[h6];exact f4.trans<|Zs hq5
 have e6:ErAt K cl ir c σ5 H6:=e5.wr g5;have g6:H6 q5=aa A6:=Zl;have nx5:=st4.nx hq5;refine Zge R e6 #[ak,rfl,?_]
 change (if aj=ak then _ else _)
 rw[T8 aP];refine hts σ5 H6 q5 _ v5 g6 nx5 st6 λH7 f7 st7=>?_
 change (if aj=ak then _ else _)
 rw[T8 aP];exact fin σ5 H7 q5 v5 l5 (vj f7 nx5 g6) (f6.trans f7) st7
def rbI:TE:=tUn (rU λi=>.int<|-i)<|tC<|.int 1
def ZfA(K:ao)(is:Nat):TS:=ZdB<|tBM K "list" ua (xB is)<|Xi (tC<|.bl ak) xT
def ZdT{K:ao}(hc:c<10)(v:O[is]?=aa (aa<|.ref q))(h:H q=aa (.lst<|(Ye c).map .bl))(k:Dn.rt (.int c) H):ZfA K is Dn O H:=
 #[.ref q,v,.inl #[rfl,_,SqL.of h],q,Ye c,c,rfl,rfl,h,ZeZ c hc,ZfD c hc,k]
structure LamIn(X:Cx)(scope:gE)(clos:List (bN×aH)):Prop where
 S:LamS scope clos
 cl:∀x c,clos.lookup x=aa c->X.env.cells.lookup x=aa c
 kd:∀x,scope.names.lookup x=aa .free->X.env.scope.names.lookup x=aa .cell
section
variable{X:Cx}{E:XK}{cl:List aH}{Cc:Calls}{i:Ev.E}{xw:Nat->Hp->Prop}
def vR(w:Bool)(c:Nat):V:=.int c
def ZfS(w:Bool)(c:Nat):Rep Z H (Pv.jw w c) (vR w c):=rfl
theorem Zcj{wd:Bool}{rb:TE}{fi:TS}{k:Nat}{f P c S0:aH}{fd:dz}{xf xc xr n xS:bN}{st:fq}{Nr:List bN}{ic ie ir is:Nat}{params:Arguments}{body:Expr}{scope:gE}{j0:Nat}{rest:List fq}{ts:Cx->TT}
  (D:DefX X E)(hfn:∀x,X.fn x=ak)(hr:Room (k+2) X.A)(R:Errs X.K X.mg cl)(hS0:cl[0]?=aa S0)
  (hP:∃ps,X.H₀ P=aa (.tbl ps))(hcode:X.env.code=.ref c)(C:dA X.base c P)(hB:X.base.BuiltinsAt X.mg P)(hgP:bx≠P)(hq:X.env.qual++"<lambda>" = YS)(hcl:iJ scope X.env=cJ clos)(hdef:defaultsOf params X.env=([],[]))(L:LamIn X scope clos)
  (hbind0:∀pm c' ctv,mJ (rB "<lambda>" YS params body scope clos pm (.ref c') ctv) #[[],[]]=cJ [])
  (hbody:∀(g:aH)(c':aH)(A:cw)(outer:List Env)(s:aF)(H:Hp)(E1:XK),Room k (A.deeper<|fO YS scope s.heap.objs.size g (.ref c') clos)->CE (cxL X.prog X.w X.K X.mg X.base X.N scope g (.ref c') clos A outer s H E1) (xwE cl E1) Cc body i)
  (hg:Gl X xf)(hm:X.mg xf=aa (.ref f))(hk:gj X.K (.ref f)=ak)(Fu:Fun X.K xf xf st f fd)(Sc:FnScope Nr [xc] (Zg st))(hb:Ut X.K fd [xc] [])(hdb:(xf == ("__debug__" : bN))=aj)
  (he:ay [.Lambda params body scope lp] X.env=(aj,cz (.Lambda params body scope lp) X.env)::ay [] X.env)(hpl:(dL pos<|ay [] X.env).any (·.1)=aj)
  (hst:ZF st=.Assign [.Name xr p0] (.Constant .none j0 q0) q1 :: .Try [.Expr (.Call (.Name xc p1) [] [] p2) p3] [.ExceptHandler (aa<|.Name xS p4) (aa n) [.Assign [.Name xr p5] (.Name n p6) p7] p8] [] [] p9::rest)
  (hN:Nr.Nodup)(hic:Nr[ic]?=aa xc)(hic0:ic=0)(hie:Nr[ie]?=aa n)(hir:Nr[ir]?=aa xr)(his:is<Nr.length)(hne:ir≠is)(hne2:ir≠ie)(hne3:ir≠0)
  (hkc:(Zg st).names.lookup xc=aa .local)(hke:(Zg st).names.lookup n=aa .local)(hkr:(Zg st).names.lookup xr=aa .local)(hkS:∀L f cdv,(dZ xf (Zg st) L f cdv).kindOf xS=aa .globalImplicit)(hmS:X.mg xS=aa (.ref S0))
  (hd1:(xc == ("__debug__" : bN))=aj)(hd2:(xc == ("__classdict__" : bN))=aj)(hd3:(n == ("__debug__" : bN))=aj)(hd4:(n == ("__classdict__" : bN))=aj)(hd5:(xS == ("__debug__" : bN))=aj)
  (hs0:∀L f cdv,eC (.Constant .none j0 q0) (aa<|.Name xr p0) q1.line (dZ xf (Zg st) L f cdv)=cJ aj)(hs1:∀L f cdv,eC (.Call (.Name xc p1) [] [] p2) ai p3.line (dZ xf (Zg st) L f cdv)=cJ aj)
  (hs2:∀L f cdv,eC (.Name n p6) (aa<|.Name xr p5) p7.line (dZ xf (Zg st) L f cdv)=cJ aj)
  (hrest:∀(cdv:az)(A:cw)(outer:List Env)(s:aF)(H:Hp),Room (k+1) (A.deeper<|dZ xf (Zg st) s.heap.objs.size f cdv)->
   PSs (X0 (CX1 X.prog X.w) X.prog X.w X.K X.mg X.base Nr xf (Zg st) f cdv A outer s H E0) rest (VA X.K ir is cl (ts<|X0 (CX1 X.prog X.w) X.prog X.w X.K X.mg X.base Nr xf (Zg st) f cdv A outer s H E0) rb fi))
  (hts:∀(Y:Cx)(Z:Mx)(S:ZO)(e:Nat)(σ':L2.St)(H':Hp)(q:aH)(Q':Bool->Hp->Prop),Y.K=X.K->e<10->σ'[is]?=aa (aa<|.ref q)->H' q=aa (.lst<|(Ye e).map .bl)->¬Z.X q->St3 X.K Z S H'->(∀H2,Fut Z H' Z H2->St3 X.K Z S H2->Q' aj H2)->ts Y σ' H' Q')
  (hfi:∀(Dn:Ends)(σ':L2.St)(Z:Mx)(H':Hp)(S:ZO)(e:Nat)(q:aH),e<10->σ'[is]?=aa (aa<|.ref q)->σ'.length=Nr.length->H' q=aa (.lst<|(Ye e).map .bl)->St3 X.K Z S H'->(∀H2,Fut Z H' Z H2->St3 X.K Z S H2->Dn.rt (vR wd e) H2)->fi Dn σ' H') :
  CE X xw Cc (.Call (.Name xf p) [.Lambda params body scope lp] [] pos) (.refu wd i):=.mk <| by
 rintro pq s O H Q I ⟨Z,l,S,st0,lr,h⟩
 obtain⟨ps0,hP0⟩:=hP;obtain⟨more,hPH⟩:=I.base.tbls P ps0 hP0;refine dE<|Ve I hg hm ?_ hdb;refine nL (h₀:=X.base) I.ok.mod.kin hk ?_ he hpl;rw[he];refine Calls.spliced_cons<|qQ I st0.tb hPH hcode C hB hgP hq hcl hdef λg c' oc vs t pm ctv H1 s1 I1 gr tb1 _ hg1 hc1 d1 v1=>Calls.spliced_nil #[I1.kIn,?_]
 have nx:∀b:aH,b∉([]:List aH):=λb=>by simp
 have hbd:=hb s1 [.ref g] I1.kIn rfl;have st1:=st0.grow gr tb1;have f1:Fut Z H Z H1:=gr.fut;refine nK<|fG (Zho (CX:=CX1 X.prog X.w) (k:=k+1) (Q:=Q) (E:=E0) (us:=[.ref g]) (vs:=[.ref g]) Fu Sc hr I1.env0 (by simpa using hbd) (.cons rfl .nil) rfl λcdv s2 hrm I2=>?_) λr s' hq=>?_
 rotate_left
 .cases r with
  |error e=>obtain⟨_,_,_,_,_,_,_,_,_,_,_,_,_,_,z⟩:=hq;exact z.elim
  |ok fl=>
   cases fl with|ret u=>exact I1.after hq|next=>exact False.elim hq|brk=>exact False.elim hq|cont=>exact False.elim hq
 rw[hst]
 let Xr:=X0 (CX1 X.prog X.w) X.prog X.w X.K X.mg X.base Nr xf (Zg st) f cdv X.A X.stack s1 H1 E0
 let D0:Ends:={nx:=λ_ H'=>Q .non H',rt:=Q}
 let σ2:L2.St:=(start Nr [.ref g]).set ir<|aa .non
 have b0:=QT (X:=Xr) (pos:=q1) (pos':=p0) hN hir (.inl hkr) (wa (j:=j0) (pos:=q0)) (hs0 _ _ _)<|.inr hkr;refine gy<|thn (b0 [] s2 _ H1 {nx:=λσ' H'=>σ'=σ2/\H'=H1,rt:=λ_ _=>False} I2 #[rfl,rfl]) λfl s3 hq3=>?_
 cases fl with
 |ret v=>obtain⟨_,_,_,_,_,z⟩:=hq3;exact z.elim
 |brk=>obtain⟨_,_,_,z⟩:=hq3;exact False.elim z
 |cont=>obtain⟨_,_,_,z⟩:=hq3;exact False.elim z
 |next=>
 obtain⟨σx,Hx,I3,z1,z2⟩:=hq3;rw[z1,z2]at I3
 let E1:XK:=λCv _ H'=>∃e Ce S' ρ',Cv=.ref Ce/\cl[e]?=aa Ce/\Pv.pv Cc i l S=.ex e S'/\Fut Z H1 ρ' H'/\St3 X.K ρ' S' H'
 have hl0:0<Nr.length:=by have:=(aG.mp hic).1;lia
 have hσl:=I3.len;have hirl:ir<σ2.length:=by rw[hσl];exact(aG.mp hir).1
 have hσ0:σ2[ic]?=aa (aa<|.ref g):=by
  rw[hic0,ba hne3];rfl
 have hσr:σ2[ir]?=aa (aa .non):=bc (by simpa[σ2]using hirl)
 have og:=(I3.hok g _ hg1).1;have oc':=(I3.hok c' _ hc1).1;have notin:∀x c0,X.env.cells.lookup x=aa c0->c0∉frs X.stack:=λx c0 hx hb=>by
  rw[D.st]at hb;unfold frs at hb;rw[cq,D.fr]at hb;rcases aw.mp hb with z|z
  .exact I1.cne x c0 hx z
  .obtain⟨_,o,ho,_⟩:=I1.ok.funs.mem z
   exact T7 (aD ho)<|lZ<|I1.ok.cab x c0 (hfn x) hx
 have cellKeep:∀x c0 v,X.env.cells.lookup x=aa c0->s1.heap.IsCell c0 v->s3.heap.IsCell c0 v:=λx c0 v hx #[o,ho,hd]=>
  #[o,I3.base.keep c0 o ho (I1.freeC x c0 hx) (notin x c0 hx)<|nx c0,hd]
 have hEnd:End X.K (xwE cl E1) Rep Z H1 (λ_ H'=>VA X.K ir is cl (ts Xr) rb fi D0 σ2 H') (Pv.pv Cc i l S):=by
  have h:End X.K xw Rep Z H Q (match Pv.pv Cc i l S with
   |.ok _ S=>.ok .non S
   |.ex c S=>if 1<=c/\c<=10 then .ok (Pv.jw wd<|c-1) S else .no
   |.no=>.no):=by
   have h0:=h;rw[Pv.Zfc]at h0;exact h0
  cases q:Pv.pv Cc i l S with
  |no=>rw[q]at h;exact h.elim
  |ok d S'=>
   rw[q]at h;exact λρ' H' v f st' r=>wj hσr<|h ρ' H' .non (f1.trans f) st' UP
  |ex e S'=>
   rw[q]at h;have hg:=(End.guard h).1;intro ρ' H' f st';have he:e<cl.length:=by rw[R.len];lia
   exact#[cl[e],af he,e,cl[e],S',ρ',rfl,af he,q,f,st']
 refine gy<|thn (Zdm (X:=Xr) (E:=E0) (Dn:={nx:=λσ' H'=>VA X.K ir is cl (ts Xr) rb fi D0 σ' H',rt:=λ_ _=>False}) (E1:=E1) (S:=S0) (ic:=ic) (ie:=ie) (ir:=ir) Zal I3 hN hic (.inl hkc) hσ0 hie hke hir hkr (hkS _ _ _) hmS #[_,_,_,_,og] ?run ?e1 hd1 hd2 hd3 hd4 hd5 (hs1 _ _ _)<|hs2 _ _ _) λfl s4 hq4=>?_
 case run=>
  exact Zat (k:=k) (N:=X.N) (O:=O) hrm I3.env0 L.S og #[c',oc,vs,t,rfl,oc',d1,v1] (hbind0 pm c' ctv) (λx c0 e=>#[let #[v,z]:=I1.cell x c0<|L.cl x c0 e;#[v,cellKeep x c0 v (L.cl x c0 e) z],I1.freeC x c0<|L.cl x c0 e]) I1.len
   (λj x v e1 e2 fr=>by
    obtain⟨m,hn,hl⟩:=I1.loc;obtain⟨u,r,lk⟩:=hl j x v e1 e2<|.inr<|.inl<|L.kd x fr;obtain⟨c1,hc1⟩:=L.S.has x fr;rcases lk with⟨k1,_⟩|⟨_,c0,hc0,z⟩
    .have k1:X.env.scope.names.lookup x=aa .local:=k1
     rw[L.kd x fr]at k1;cases k1
    .have:=L.cl x c1 hc1
     rw[hc0]at this;cases this;exact#[u,c1,r,hc1,cellKeep x c1 _ hc0 z])
   (hbody g c' Xr.A Xr.stack s3 H1 E1<|hrm.deeper _).h #[Z,l,S,st1,lr.mono f1,hEnd]
 case e1=>
  rintro Ce H' ⟨e,Ce',S',ρ',z,hce,hev,f,st'⟩
  cases z;have h2:End X.K xw Rep Z H Q (if 1<=e/\e<=10 then .ok (Pv.jw wd<|e-1) S' else .no):=by
   have h0:=h;rw[Pv.Zfc,hev]at h0;exact h0
  obtain⟨hge,h3⟩:=End.guard h2;obtain⟨e',rfl⟩:∃e',e=e'+1:=#[e-1,by lia]
  refine#[R.exm e' Ce S0 hce hS0,λa oe Ha ce=>?_]
  have stA:=st'.fresh (o:=.frz oe<|.own a) Ha;have er:ErAt X.K cl ir e' (((σ2.set ie<|aa<|.ref a).set ir<|aa<|.ref a).set ie ai) (upd H' a<|.frz oe<|.own a):=
   #[a,oe,Ce,by rw[ba<|Ne.symm hne2,bc (by rw[bC];exact hirl)],Zl,ce,hce]
  have len':(((σ2.set ie<|aa<|.ref a).set ir<|aa<|.ref a).set ie ai).length=Nr.length:=by rw[bC,bC,bC];exact hσl
  refine u8 R #[0] er hne (by rw[len'];exact his) stA (λσ' H2 q Q' a1 a2 a3 a4 a5=>hts Xr ρ' S' e' σ' H2 q Q' rfl #[0] a1 a2 a3 a4 a5) λσ' H2 q b1 b2 b3 f2 st2=>?_
  refine hfi D0 σ' ρ' H2 S' e' q #[0] b1 (b2.trans len') b3 st2 λH3 f3 st3=>?_
  exact h3 ρ' H3 (vR wd e') (f1.trans<|f.trans<|(Zs Ha).trans<|f2.trans f3) st3 (by rw[nV];exact ZfS wd e')
 cases fl with
 |ret v=>obtain⟨_,_,_,_,_,z⟩:=hq4;exact z.elim
 |brk=>obtain⟨_,_,_,z⟩:=hq4;exact False.elim z
 |cont=>obtain⟨_,_,_,z⟩:=hq4;exact False.elim z
 |next=>
  obtain⟨σ4,H4,I4,q4⟩:=hq4;exact hrest cdv X.A X.stack s1 H1 hrm [] s4 σ4 H4 D0 I4 q4
end
noncomputable def ksum(is:Nat):Ev.E:=.cmp .ne (.blt .sum [.comp1 [] 1 [0] (.of<|.v is) []<|.blt .toInt [.v 0]])<|.n 1
theorem vw:∀(bs:List Bool),Pv.mapP (λx s=>(Pv.po (Pv.Zq [0] x<|Pv.Z9 [] 1 l) s).bind λO s=>(Pv.pvt Cc [] O s).bind λb s=>if b then(Pv.pv Cc (.blt .toInt [.v 0]) O s).bind λy s=>.ok [y] s else .ok [] s) (bs.map .bl) S=.ok (bs.map λb=>.int<|Ev.b2i b) S
 |[]=>rfl
 |b::bs=>by
  rw[aY,Pv.mapP,show((Pv.po (Pv.Zq [0] (Pv.V.bl b)<|Pv.Z9 [] 1 l) S).bind λO s=>(Pv.pvt Cc [] O s).bind λb s=>if b then(Pv.pv Cc (.blt .toInt [.v 0]) O s).bind λy s=>.ok [y] s else .ok [] s)=Pv.PR.ok [Pv.V.int<|Ev.b2i b] S from rfl]
  dsimp only
  rw[vw bs];rfl
theorem z6:∀(bs:List Bool),Pv.intsV (bs.map λb=>Pv.V.int<|Ev.b2i b)=aa (bs.map Ev.b2i)
 |[]=>rfl
 |b::bs=>by rw[aY,Pv.intsV,z6 bs];rfl
def vL:∀e,e<10->((Ye e).map Ev.b2i).sum=1/\Ev.Zbw ((Ye e).map Ev.b2i)=ak:=by decide
def Zc8{e:Nat}(he:e<10)(hl:l[is]?=aa (aa<|.lst<|(Ye e).map .bl)):Pv.YO Cc (ksum is) l S=.ok aj S:=by
 have w:Pv.pvw Cc (.of<|.v is) l S=.ok ((Ye e).map .bl) S:=by
  rw[Pv.wE7,Pv.pE2,hl];rfl
 have c1:Pv.pv Cc (.comp1 [] 1 [0] (.of<|.v is) []<|.blt .toInt [.v 0]) l S=.ok (.lst<|(Ye e).map λb=>.int<|Ev.b2i b) S:=by
  rw[Pv.u0,w]
  rw[show ∀a (s:Pv.DS) f,(Pv.PR.ok a s).bind f=f a s from λ_ _ _=>rfl,vw]
  rfl
 have c2:Pv.pv Cc (.blt .sum [.comp1 [] 1 [0] (.of<|.v is) []<|.blt .toInt [.v 0]]) l S=.ok (.int 1) S:=by
  rw[Pv.Yt,Pv.pvs,c1];show Pv.po (Pv.XF .sum [.lst<|(Ye e).map λb=>.int<|Ev.b2i b]) S=_
  unfold Pv.XF Pv.blt1;simp only[z6,Option.bind,(vL e he).2,if_true,(vL e he).1];rfl
 unfold Pv.YO ksum;rw[Pv.YU,c2];rfl
def Zfo(he:e<10)(h1:σ'[is]?=aa (aa<|.ref q))(h2:H' q=aa (.lst<|(Ye e).map .bl))(h3:¬Z.X q)(st:St3 Y.K Z S H')
  (hQ:∀H2,Fut Z H' Z H2->St3 Y.K Z S H2->Q' aj H2):tB3 Y xw (Pv.YO Cc<|ksum is) σ' H' Q':=by
 have hl:=(aG.mp h1).1;refine#[Z,(au σ'.length ai).set is<|aa<|.lst<|(Ye e).map .bl,S,st,#[by simp,λi d e1=>?_],?_]
 .by_cases z:i=is
  .subst z
   rw[bc<|by simpa using hl]at e1
   cases e1;exact#[.ref q,h1,Wy h2 h3<|wP _]
  .rw[ba<|Ne.symm z,cK]at e1
   split at e1<;>cases e1
 .rw[Zc8 he<|bc (by simpa using hl)]
  exact λρ2 H2 v f s2 r=>by
   have r:=r;subst r;obtain rfl:=f.eq;exact hQ H2 f s2
def Zc4{xr xs:bN}{ts:TT}{rb:TE}{fi:TS}{badE:Expr}{last:List fq}{sumE:Expr}{P:Nat->iE}{J:Nat->Nat}(R:Errs X.K X.mg cl)(hN:X.N.Nodup)(hi:X.N[ir]?=aa xr)(hv:X.env.scope.names.lookup xr=aa .local)(hj:X.N[is]?=aa xs)(hw:X.env.scope.names.lookup xs=aa .local)
  (g0:Gl X "isinstance")(m0:X.mg "isinstance" = ai)(g1:Gl X "ValueError")(m1:X.mg "ValueError" = ai)(gc:∀x∈Xa,Gl X x)
  (r1:(xr == ("__debug__" : bN))=aj)(r2:(xr == ("__classdict__" : bN))=aj)(s1:(xs == ("__debug__" : bN))=aj)(s2:(xs == ("__classdict__" : bN))=aj)(hs:PT X sumE ts)
  (l1:((P 30).endLine == (P 31).line)=ak)(hbad:PE X badE rb)(hlast:PSs X last fi) :
  PSs X (.If (.Compare (.Name xr<|P 0) [.Is] [.Constant .none (J 0)<|P 1]<|P 2) [.Return (aa<|.Constant .none (J 1)<|P 3)<|P 4] [] (P 5) ::
   .Assign [.Name xs<|P 6] (.List [.Call (.Name "isinstance"<|P 40) [.Name xr<|P 41,.Name "NoRow"<|P 42] []<|P 43,.Call (.Name "isinstance"<|P 44) [.Name xr<|P 45,.Name "NoPart"<|P 46] []<|P 47,.Call (.Name "isinstance"<|P 48) [.Name xr<|P 49,.Name "NoNumber"<|P 50] []<|P 51]<|P 7) (P 8) ::
   .Assign [.Name xs<|P 9] (.BinOp (.Name xs<|P 10) .Add (.List [.Call (.Name "isinstance"<|P 52) [.Name xr<|P 53,.Name "NoHeads"<|P 54] []<|P 55,.Call (.Name "isinstance"<|P 56) [.Name xr<|P 57,.Name "NotBeside"<|P 58] []<|P 59,.Call (.Name "isinstance"<|P 60) [.Name xr<|P 61,.Name "NotIn"<|P 62] []<|P 63]<|P 11)<|P 12) (P 13) ::
   .Assign [.Name xs<|P 14] (.BinOp (.Name xs<|P 15) .Add (.List [.Call (.Name "isinstance"<|P 64) [.Name xr<|P 65,.Name "NoTurn"<|P 66] []<|P 67,.Call (.Name "isinstance"<|P 68) [.Name xr<|P 69,.Name "NoLot"<|P 70] []<|P 71,.Call (.Name "isinstance"<|P 72) [.Name xr<|P 73,.Name "TooMany"<|P 74] []<|P 75]<|P 16)<|P 17) (P 18) ::
   .Expr (.Call (.Attribute (.Name xs<|P 19) "append"<|P 30) [.Call (.Name "isinstance"<|P 76) [.Name xr<|P 77,.Name "BadNote"<|P 78] []<|P 79] []<|P 31) (P 20) ::
   .If (.BoolOp .Or [.UnaryOp .Not (.Call (.Name "isinstance"<|P 80) [.Name xr<|P 81,.Name "ValueError"<|P 82] []<|P 83)<|P 21,sumE]<|P 22) [.Return (aa badE)<|P 25] [] (P 26) ::
   last) (VA X.K ir is cl ts rb fi):=by
 have cj:∀j (x:bN),j<11->Xa[j]?=aa x->X.mg x=aa (.ref<|cl.getD j 0):=λj x hj e=>by
  have hl:j<cl.length:=by rw[R.len];exact hj
  exact R.nm j _ x (by rw[af hl,aA,af hl];rfl) e
 have vr:Vis X.env.scope xr:=.inl hv;have vs:Vis X.env.scope xs:=.inl hw;have is:∀{a b c d:iE}(j:Nat)(x:bN),j<11->Xa[j]?=aa x->(x == ("__debug__" : bN))=aj->PE X (.Call (.Name "isinstance" a) [.Name xr b,.Name x c] [] d) (tIs X.K ir<|.ref<|cl.getD j 0):=λj x h e hd=>
  ZgR hi vr g0 m0 (gc x<|cO e) (cj j x h e) r1 r2 hd
 unfold VA
 dsimp only
 refine YJ (Zbg (Zgr<|Zgi<|Yx hi vr r1 r2) (US<|UX wa) GP) ?_;refine YJ (QT hN hj (.inl hw) (VT<|ZG (is 1 "NoRow" #[1] rfl<|by decide)<|ZG (is 2 "NoPart" #[1] rfl<|by decide)<|ZG (is 3 "NoNumber" #[1] rfl<|by decide) Yw) rfl<|.inr hw) ?_
 refine YJ (QT hN hj (.inl hw) (VD Gm (Yx hj vs s1 s2)<|VT<|ZG (is 4 "NoHeads" #[1] rfl<|by decide)<|ZG (is 5 "NotBeside" #[1] rfl<|by decide)<|ZG (is 6 "NotIn" #[1] rfl<|by decide) Yw) rfl<|.inr hw) ?_
 refine YJ (QT hN hj (.inl hw) (VD Gm (Yx hj vs s1 s2)<|VT<|ZG (is 7 "NoTurn" #[1] rfl<|by decide)<|ZG (is 8 "NoLot" #[1] rfl<|by decide)<|ZG (is 9 "TooMany" #[1] rfl<|by decide) Yw) rfl<|.inr hw) ?_
 refine YJ (UK (vo fw gL gM Wz (Yx hj vs s1 s2) (ZG (is 10 "BadNote" #[1] rfl<|by decide) Yw) rfl rfl l1 rfl rfl) rfl) ?_
 exact YJ (Zbg (PW.pt<|ZeA (jO<|ZeP<|Zgn hi vr g0 m0 g1 m1 r1 r2)<|Za0 hs) (US<|UX hbad) GP) hlast
def ZhK{P:Nat->iE}{J:Nat->Nat}(hj:X.N[is]?=aa xs)(hw:X.env.scope.names.lookup xs=aa .local)(s1:(xs == ("__debug__" : bN))=aj)(s2:(xs == ("__classdict__" : bN))=aj)(l2:((P 32).endLine == (P 33).line)=ak) :
  PSs X [.Return (aa<|.Call (.Attribute (.Name xs<|P 27) "index"<|P 32) [.Constant (.bool ak) (J 3)<|P 28] []<|P 33)<|P 29] (ZfA X.K is):=
 US (UX<|vo fw PySem.F.slot_list_index PySem.F.type_list_index Zaf (Yx hj (.inl hw) s1 s2) (ZG ud Yw) rfl rfl l2 rfl rfl)
def ZhZ{P:Nat->iE}{J:Nat->Nat}:PE X (.UnaryOp .USub (.Constant (.int 1) (J 2)<|P 23)<|P 24) rbI:=Zd9 qS Qw
structure BSs(X:Cx)(s:List fq)(t:TS):Prop where
 h:PSs X s t
end
end Sd
namespace Gn
open PySem PySem.Spec PyProof.Rows L2
section
open Ev (E Sm Fn Bop Cop Ty Bf Mf)
open Sd (hu7 Calls CX1 spX xwE Errs Cls1 DefX)
structure Cls(K:ao)(mg:bN->Option az)(base:cM)(cl:List aH):Prop where
 er:Errs K mg cl
 rs:∀(c:Nat)(S C:aH),cl[0]?=aa S->cl[c+1]?=aa C->Cls1 base S C
def wb(P:bO)(w:bV)(K:ao)(mg:bN->Option az)(base:cM)(cl:List aH)(fs:List FR)(F:List Fn)(tk:Nat)(sn:List Nat)(f:Nat->aH)(fd:Nat->dz)(d:Nat):Prop:=
 ∀i r,fs[i]?=aa r->FnOk P w K mg base (CX1 P w) d (f i) (fd i) r.ps (spX K cl (Pv.Zm F tk d) (sn.contains i) i)
def BdX(fs:List FR)(zs:List bN)(gs:List (bN×Gv))(F:List Fn)(tk:Nat)(sn:List Nat)(i:Nat)(r:FR)(fn:Fn):Prop:=
 ∀(P:bO)(w:bV)(K:ao)(mg:bN->Option az)(base:cM)(cl:List aH)(f:Nat->aH)(fd:Nat->dz)(d:Nat),Top K mg fs zs gs f fd->Cls K mg base cl->wb P w K mg base cl fs F tk sn f fd d->r.N.Nodup->
  ∀(cdv:az)(A:cw)(outer:List Env)(s:aF)(H:Hp)(E:XK),Room d (A.deeper<|dZ r.x (Zg r.st) s.heap.objs.size (f i) cdv)->(A.deeper<|dZ r.x (Zg r.st) s.heap.objs.size (f i) cdv).units+7<dO->
   Sd.CSs (X0 (CX1 P w) P w K mg base r.N r.x (Zg r.st) (f i) cdv A outer s H E) (xwE cl E) (sn.contains i) (Pv.Zm F tk d) (Pv.muts fn.body) (ZF r.st) fn.body
def OkX(fs:List FR)(zs:List bN)(gs:List (bN×Gv))(F:List Fn)(tk:Nat)(sn:List Nat):Nat->List FR->List Fn->Prop
 |_,[],[]=>True
 |i,r::rs,fn::fns=>(fn.ns=r.N.length/\fn.ps=r.ps.length/\scB r.N r.k (Zg r.st)=ak/\BdX fs zs gs F tk sn i r fn)/\OkX fs zs gs F tk sn (i+1) rs fns
 |_,_,_=>False
theorem OkX.get :∀{rs:List FR}{fns:List Fn}{i0:Nat},OkX fs zs gs F tk sn i0 rs fns->∀i r,rs[i]?=aa r->∃fn,fns[i]?=aa fn/\fn.ns=r.N.length/\fn.ps=r.ps.length/\scB r.N r.k (Zg r.st)=ak/\BdX fs zs gs F tk sn (i0+i) r fn
 |[],_,_,_,i,r,e=>by simp at e
 |_::_,[],_,h,_,_,_=>h.elim
 |r::rs,fn::fns,i0,h,0,r',e=>by
  simp at e;subst e;exact#[fn,rfl,h.1.1,h.1.2.1,h.1.2.2.1,h.1.2.2.2]
 |r::rs,fn::fns,i0,h,i+1,r',e=>by
  obtain⟨g,a,b,c,d,q⟩:=OkX.get h.2 i r' (by simpa using e)
  exact#[g,by simpa using a,b,c,d,by rwa[d7,kj 1 i]at q]
theorem vK{w:bV}{K:ao}{base:cM}{tk:Nat}(O:OkX fs zs gs F tk sn 0 fs G)(hG:∀(i:Nat)(fn:Fn),G[i]?=aa fn->F[i]?=aa fn)(hT:F[tk]?=aa Sd.WW)(T:Top K mg fs zs gs f fd)(L:Cls K mg base cl):∀d,wb P w K mg base cl fs F tk sn f fd d
 |0=>λi r h=>Sd.ZaP
 |d+1=>λi r h=>by
  obtain⟨fn,a,b,c,e,q⟩:=O.get i r h;rw[oJ]at q;have S:=Uh e;have a:=hG i fn a;have hb:=λcdv A outer s H E hr=>(q P w K mg base cl f fd d T L (vK O hG hT T L d) S.nd cdv A outer s H E hr<|hu7 hr)
  by_cases ht:i=tk
  .subst ht
   rw[hT]at a;cases a;exact Sd.yo Sd.ZcG b c (T.d i r h) S hb
  .exact Sd.yo (Sd.vg ht a) b c (T.d i r h) S hb
def ZaL{E:XK}(D:DefX X E)(T:Top X.K X.mg fs zs gs f fd)(h:wb X.prog X.w X.K X.mg X.base cl fs F tk sn f fd d)(hr:Room d X.A)(ha:Sd.CA X (xwE cl E) (Pv.Zm F tk d) (e::es) is)(hx:(fs[n]?).map FR.x=aa x)(hg:Gl X x)(hdb:(x == ("__debug__" : bN))=aj)
  (he:ay (e::es) X.env=(aj,cz e X.env)::ay es X.env)(hpl:(dL pos<|ay es X.env).any (·.1)=aj):Sd.CE X (xwE cl E) (Pv.Zm F tk d) (.Call (.Name x p) (e::es) [] pos) (.call n is):=by
 cases e0:fs[n]? with
 |none=>rw[e0]at hx;cases hx
 |some r=>
  rw[e0]at hx;obtain rfl:r.x=x:=ap hx;exact Sd.zD (h n r e0) hr (Sd.Zef D) (λ_ _ z=>z) (T.m n r e0) (T.d n r e0).kp (T.b n r e0) ha hg hdb he hpl
def Zfw(T:Top X.K X.mg fs zs gs f fd)(h:wb X.prog X.w X.K X.mg X.base cl fs F tk sn f fd d)(hr:Room d X.A)(ha:Sd.CA X Sd.nx (Pv.Zm F tk d) (e::es) is)(hx:(fs[n]?).map FR.x=aa x)(hg:Gl X x)(hdb:(x == ("__debug__" : bN))=aj)
  (he:ay (e::es) X.env=(aj,cz e X.env)::ay es X.env)(hpl:(dL pos<|ay es X.env).any (·.1)=aj):Sd.CE X Sd.nx (Pv.Zm F tk d) (.Call (.Name x p) (e::es) [] pos) (.call n is):=by
 cases e0:fs[n]? with
 |none=>rw[e0]at hx;cases hx
 |some r=>
  rw[e0]at hx;obtain rfl:r.x=x:=ap hx;exact Sd.zD (h n r e0) hr Sd.ZhS (λ_ _ z=>z.elim) (T.m n r e0) (T.d n r e0).kp (T.b n r e0) ha hg hdb he hpl
def Zfe{x y:bN}{n k:Nat}{B:List Sm}{E:XK}(D:DefX X E)(T:Top X.K X.mg fs zs gs f fd)(h:wb X.prog X.w X.K X.mg X.base cl fs F tk sn f fd d)(hr:Room d X.A)(ha:Sd.CA X (xwE cl E) (Pv.Zm F tk d) (e::es) is)(hB:Sd.CSs X (xwE cl E) fr (Pv.Zm F tk d) ns ss B)(hN:X.N.Nodup)(hx:(fs[k]?).map FR.x=aa y)(hk:sn.contains k=ak)
  (hg:Gl X y)(hdb:(y == ("__debug__" : bN))=aj)(he:ay (e::es) X.env=(aj,cz e X.env)::ay es X.env)(hpl:(dL p<|ay es X.env).any (·.1)=aj)(hi:X.N[n]?=aa x)(hl:L2.Loc X.env.scope x)(hf:X.fn x=ak\/X.env.scope.names.lookup x=aa .local)
  (hs:d5 [.Name x px] (.Call (.Name y p') (e::es) [] p) pos.line X.env=cJ aj)(hw:d6 [.Name x px] (.Call (.Name y p') (e::es) [] p) X.env=cJ ai)(h1:(cg [.Name x px] X.env).map (·.2)=[dQ (.Name x px) X.env]) :
  Sd.CSs X (xwE cl E) fr (Pv.Zm F tk d) ns (.Assign [.Name x px] (.Call (.Name y p') (e::es) [] p) pos::ss) [.cel n k is B]:=by
 cases e0:fs[k]? with
 |none=>rw[e0]at hx;cases hx
 |some r=>
  rw[e0]at hx;obtain rfl:r.x=y:=ap hx;have q:=h k r e0;rw[hk]at q;refine Sd.Zfu (Sd.PE.imp (ui q hr hg (T.m k r e0) (T.d k r e0).kp (T.b k r e0) .nil (Sd.Zef D) ha.h hdb he hpl) λO H Q z=>?_) hB hN hi hl hf hs hw h1
  unfold Zet;simp only[cf];exact z
def ZgT{E:XK}(D:DefX X E)(hc:X.calm=ak)(L:Cls X.K X.mg X.base cl)(hx:Sd.Xa[c+1]?=aa x)(hg:Gl X x)(hd:(x == ("__debug__" : bN))=aj)
  (he:ay [.Constant (.str y) k p] X.env=(aj,cz (.Constant (.str y) k p) X.env)::ay [] X.env)(hpl:(dL cpos<|ay [] X.env).any (·.1)=aj) :
  Sd.CS X (xwE cl E) fr C ns (.Raise (aa<|.Call (.Name x np) [.Constant (.str y) k p] [] cpos) ai pos) (.raise (c+1) []):=by
 have hl:c+1<cl.length:=by rw[L.er.len];have:=(aG.mp hx).1;exact this
 have h0:0<cl.length:=by lia
 exact Sd.ZbI D hc (L.rs c _ _ (af h0)<|af hl) (af hl) hg (L.er.nm (c+1) _ x (af hl) hx) hd he hpl
open Sd (St3 End Rep Rq LocR UP)
def spL(Pt:aH)(K:ao)(cl:List aH)(C:Calls)(n:Nat):Sp:=λvs H Q E=>(∃ps,H Pt=aa (.tbl ps))/\spX K cl C aj n vs H Q E
section
variable{P:bO}{w:bV}{K:ao}{mg:bN->Option az}{base:cM}{cl:List aH}
def jR{n:Nat}{fn:Fn}{st:fq}{k:Nat}(hF:∀Z S H ds vs,St3 K Z S H->Rq Z H ds vs->C' n ds S=.no\/C' n ds S=Sd.Ga C fn ds S)(hns:fn.ns=N.length)(hps:fn.ps=ps.length)(Fu:Fun K x qual st f fd)(S:FnScope N ps (Zg st))(hcd:fd.code=.ref c)
  (hb:∀(A:cw)(outer:List Env)(s:aF)(H:Hp)(E:XK),(∃ps,H Pt=aa (.tbl ps))->Room k (A.deeper<|dZ qual (Zg st) s.heap.objs.size f<|.ref c)->
   Sd.CSs (X0 (CX1 P w) P w K mg base N qual (Zg st) f (.ref c) A outer s H E) (xwE cl E) aj C (Pv.muts fn.body) (ZF st) fn.body) :
  FnOk P w K mg base (CX1 P w) (k+1) f fd ps (spL Pt K cl C' n):=by
 have eq:∀{Z S H ds vs Q E},St3 K Z S H->Rq Z H ds vs->End K (xwE cl E) (Sd.Wj aj H) Z H Q (C' n ds S)->End K (xwE cl E) (Sd.Wj aj H) Z H Q (Sd.Ga C fn ds S):=λ{Z S H ds vs Q E} st r h=>by
  rcases hF Z S H ds vs st r with e|e
  .rw[e]at h;exact h.elim
  .rwa[e]at h
 obtain⟨oc,od,kV,doc,pm,an,cdv,ct,osl,rfl,lk,hcode⟩:=Fu.ex;obtain rfl:cdv=.ref c:=hcd;refine Zes lk hcode S (λvs H Q E #[_,Z,ds,S,st,r,h]=>?_) λA outer s H vs Q E hr #[hP,Z,ds,S',st,r,h]=>#[_,(hb A outer s H E hP hr).h,Z,H,λ_=>ai,Pv.ZP fn.ns ds,[],S',st,Sd.Eu.start st r N fn.ns hns,Sd.yC (λ_ _ q=>q) (λ_ _ q=>q)<|eq st r h]
 have h:=eq st r h;obtain⟨hl,_⟩:=Sd.End.guard h;rw[r.length,hl,hps]
def Zc5(hO:Sd.vq Pt H)(hS:SqL K H a (ns.map V.int))(h:∀s,∃S',C n [.scr ns] s=.ok (.bl ak) S'):spL Pt K cl C n [.ref a] H (λv _=>v=.bl ak) λ_ _ _=>False:=by
 obtain⟨S',e⟩:=h (0,aj);have sc:Sd.Scr K H a ns:=by
  rcases hS with(hS|hS)|hS
  .by_cases z:a=Pt
   .rw[z,hO.1]at hS;cases hS
   .rcases hO.2 a z with z|⟨o,xs,z⟩
    .rw[z]at hS;cases hS
    .rw[z]at hS;cases hS
  .exact .inl hS
  .exact .inr hS
 refine#[#[_,hO.1],#[K,ai,λ_=>False,λ_ h=>by cases h],[.scr ns],(0,aj),#[rfl,λ_ h=>h.elim,λ_ h=>(by cases h),λQ ps e=>?_],Sd.Rq.cons (by exact#[a,rfl,sc]) Sd.Rq.nil,?_]
 .by_cases z:Q=Pt
  .subst z
   rw[hO.1]at e;cases e;exact#[trivial,λpos cv q=>by cases q]
  .rcases hO.2 Q z with z|⟨_,_,z⟩<;>(rw[z]at e;cases e)
 .rw[e]
  exact λρ' H' v _ _ r=>r.1.bl'
end
def BdL(fs:List FR)(zs:List bN)(gs:List (bN×Gv))(F:List Fn)(tk:Nat)(sn:List Nat)(r:FR)(fn:Fn):Prop:=
 ∀(P:bO)(w:bV)(K:ao)(mg:bN->Option az)(base:cM)(cl:List aH)(f:Nat->aH)(fd:Nat->dz)(fL c Pt:aH)(d:Nat),Top K mg fs zs gs f fd->Cls K mg base cl->wb P w K mg base cl fs F tk sn f fd d->r.N.Nodup->
  dA base c Pt->base.BuiltinsAt mg Pt->bx≠Pt->
  ∀(A:cw)(outer:List Env)(s:aF)(H:Hp)(E:XK),(∃ps,H Pt=aa (.tbl ps))->Room (d+2) (A.deeper<|dZ r.x (Zg r.st) s.heap.objs.size fL<|.ref c)->(A.deeper<|dZ r.x (Zg r.st) s.heap.objs.size fL<|.ref c).units+7<dO->
   Sd.CSs (X0 (CX1 P w) P w K mg base r.N r.x (Zg r.st) fL (.ref c) A outer s H E) (xwE cl E) aj (Pv.Zm F tk d) (Pv.muts fn.body) (ZF r.st) fn.body
open PySem.W
open Sd (ExK Xa veM)
def ZcE(K:Frag)(cl:List aH)(i:Nat)(C:aH):Bool:=
 excIn K C veM "ValueError.__new__" && ((clsIn K C).isSome&&(rn K (.ref C) "__getattribute__" == aa (aa<|.builtin "BaseException.__getattribute__")&&(rn K (.ref C) "__getattr__" == aa ai &&
  (rn K (.ref C) "__class__" == aa (aa<|.builtin "object.__class__")&&(mroIn K C (.type "BaseException") == aa ak&&(mroIn K C (.type "object") == aa ak&&(kitOne K (.ref C) (.type "ValueError") == aa ak &&
   (exmOne K (.ref C) (.ref<|cl.getD 0 0) == aa ak&&(cl.drop 1).zipIdx.all λq=>kitOne K (.ref C) (.ref q.1) == aa (ag<|i=q.2)))))))))
def JJ(K:Frag)(cl:List aH):Bool:=
 decide (cl.length=11)&&((cl.zip Xa).all (λq=>nsIn K bx q.2 == aa (aa<|.ref q.1))&&(cl.drop 1).zipIdx.all λq=>ZcE K cl q.2 q.1)
def QP{B:Type}{l:List B}{f:B×Nat->Bool}(h:l.zipIdx.all f=ak){a:B}(e:l[i]?=aa a):f (a,i)=ak:=by
 refine aX.mp h (a,i) ?_;rw[i8];exact e
section
variable{K:Frag}{cl:List aH}
def yB(h:JJ K cl=ak){C:aH}(e:cl[i+1]?=aa C):ZcE K cl i C=ak:=by
 unfold JJ at h;rw[aB,aB]at h;have e1:(cl.drop 1)[i]?=aa C:=by rw[eL,kj];exact e
 exact QP h.2.2 e1
def Zcp(X:K.In hh)(G:hh.Ns bx mg)(h:JJ K cl=ak):Errs K mg cl:=by
 have h0:=h;unfold JJ at h0;rw[aB,aB,T0]at h0;obtain⟨hl,hn,_⟩:=h0;have parts:∀{i:Nat}{C:aH},cl[i+1]?=aa C->_:=λ{i C} e=>by
  have:=yB h e;unfold ZcE at this;simp only[aB,beq_iff_eq]at this;exact this
 refine#[hl,λj C x e1 e2=>?_,λj C e=>?_,λi j C D e1 e2=>?_,λi C e=>?_,λi C S e1 e2=>?_]
 .have:=aX.mp hn (C,x) (cO (by rw[gF];exact#[e1,e2]))
  exact mg_of X G<|beq_iff_eq.mp this
 .obtain⟨_,a,b,c,d,e5,e6,_⟩:=parts e
  exact#[a,b,c,d,e5,e6]
 .obtain⟨_,_,_,_,_,_,_,_,_,z⟩:=parts e1
  have e3:(cl.drop 1)[j]?=aa D:=by rw[eL,kj];exact e2
  exact beq_iff_eq.mp<|QP z e3
 .obtain⟨_,_,_,_,_,_,_,z,_⟩:=parts e
  exact z
 .obtain⟨_,_,_,_,_,_,_,_,z,_⟩:=parts e1
  have:cl.getD 0 0=S:=by rw[aA,e2];rfl
  rwa[this]at z
def ZeQ(X:K.In base)(q:excIn K C veM "ValueError.__new__" = ak):Cls1 base S C:=by
 unfold excIn at q;split at q
 case h_2=>cases q
 case h_1 d0 k sl lk=>
  split at q
  case h_2=>cases q
  case h_1 c0 rest s0 s1 s2 s3 made s5 em es=>
   repeat rw[aB]at q
   obtain⟨⟨⟨⟨⟨y1,y2⟩,y3⟩,y4⟩,y5⟩,y6⟩:=q;cases beq_iff_eq.mp y1;cases beq_iff_eq.mp y2;have y3:k.hasDel=aj:=by simpa using y3
   cases k;cases em;cases y3;cases(iL.mp es);exact#[rest,_,_,_,_,_,_,_,_,_,d0,s0,s1,s2,s3,s5,_,X _ _ lk,.of_isNs<|isNs_of_in X y5,nsMap_none_of_in X y5<|beq_iff_eq.mp y6,tail_of_in X y4]
def ZcK(X:K.In hh)(G:hh.Ns bx mg)(XB:K.In base)(h:JJ K cl=ak):Cls K mg base cl:=by
 refine#[Zcp X G h,λc S C e0 e1=>ZeQ XB ?_]
 have:=yB h e1;unfold ZcE at this;rw[aB]at this;exact this.1
end
end
section
open Ev (E Sm Fn Bop Cop Ty Bf Mf)
open Sd (Calls CX1)
def Zdt{l:my}{w:bV}{K:ao}{h:cM}{fs:List FR}{zs:List bN}{F G:List Fn}{tk L:Nat}{sn:List Nat}{fnL:Fn}{fdL:dz}{st:fq}{N:List bN}{as cl:List aH}
  (X:K.In h)(Gs:h.Ns bx mg)(hfa:mg "law" = aa (.ref fa))(O:OkX fs zs gs F tk sn 0 fs G)(hG:∀(i:Nat)(fn:Fn),G[i]?=aa fn->F[i]?=aa fn)(hT:F[tk]?=aa Sd.WW)(hLt:L≠tk)(A:FnsAt K fs as fds)(Z:ZsAt K zs)(Y:GsAt K gs)(Er:JJ K cl=ak)
  (AL:FnsAt K [#["law",st,"_law_script" :: N,1]] [aL] [fdL])(hFL:F[L]?=aa fnL)(h1:fnL.ns=N.length+1)(h2:fnL.ps=1)(hsc:scB ("_law_script" :: N) 1 (Zg st)=ak)(B:BdL fs zs gs F tk sn #["law",st,"_law_script" :: N,1] fnL)(hcode:fdL.code=.ref c) :
  ∃fd:dz,(∀(s:aF)(v:az),mZ s fd #[[v],[]] [("_law_script",v)])/\∀base:cM,K.In base->base.Ns bx mg->dA base c Pt->base.BuiltinsAt mg Pt->bx≠Pt->FnOk l.prog w K mg base (CX1 l.prog w) 65 fa fd ["_law_script"] (spL Pt K cl (Pv.Zm F tk 63) L):=by
 have T:Top K mg fs zs gs (λi=>as.getD i 0) (λi=>fds.getD i fdL):=
  #[λi r e=>(A.get i r e).2.1,λi r e=>by
   obtain⟨_,F,B⟩:=A.get i r e;exact F.binds B,λi r e=>iR X Gs (A.get (fd0:=fdL) i r e).1,λx hx=>PySem.W.mg_none_of X Gs<|Z.get x hx,λy hy=>Y.get X Gs y hy]
 obtain⟨hn,Fu,Bn⟩:=AL.get (fd0:=fdL) 0 _ rfl;have e:=hfa.symm.trans<|iR X Gs hn;cases e;have S:=Uh hsc;refine#[fdL,λs v=>?_,λbase XB GB hC hB hP=>?_]
 .obtain⟨oc,od,kV,doc,pm,an,cdv,ct,osl,e,lk,hcd⟩:=Fu.ex
  have e:fdL=_:=e;rw[e];exact .of_eq<|Bn kV doc pm an cdv ct [v] rfl
 .have Lc:=ZcK X Gs XB Er
  exact jR (N:="_law_script" :: N) (Sd.vg hLt hFL) h1 h2 Fu S hcode λA outer s H E hp hr=>(B l.prog w K mg base cl _ _ _ c Pt 62 T Lc (vK O hG hT T Lc 62) S.nd hC hB hP A outer s H E hp hr<|Sd.hu7 hr)
theorem Za3{l:my}{q:bO}{loose:List bN}{d:DefRec}{K:Params->ao}{F:List Fn}{tk L:Nat}{c Pt:aH}{dr:DefRec}{cl:bV->List aH}(hok:∀(ns:List Int) s,∃S,Pv.Zm F tk 63 L [.scr ns] s=.ok (.bl ak) S)(hn:l.most=aa 63)(hdf:d.params.defaults=[])
  (hY:∀(w:bV)(h:cM),YP w h->(K w.params).In h)(hrec:(recsOf q).find? (λe=>e.name == d.name)=aa dr)(ht:∀w:bV,rM (K w.params) d.name=aa (c,Pt))(hK:∀w:bV,mV (K w.params)=ak)
  (hF:∀(w:bV) mg (fa:aH) (h:cM),(K w.params).In h->h.Ns bx mg->mg d.name=aa (.ref fa)->
   ∃fd:dz,(∀(s:aF)(u:az),mZ s fd #[[u],[]] [("_law_script",u)])/\∀base:cM,(K w.params).In base->base.Ns bx mg->dA base c Pt->base.BuiltinsAt mg Pt->bx≠Pt->FnOk l.prog w (K w.params) mg base (CX1 l.prog w) 65 fa fd ["_law_script"] (spL Pt (K w.params) (cl w) (Pv.Zm F tk 63) L)) :
  rO q loose XP YP l.row.toRowW d [] (λf vs=>pU f vs):=
 Sd.Za3 (n:=63) (k:=65) (sp:=λw Pt=>spL Pt (K w.params) (cl w) (Pv.Zm F tk 63) L) hn #[1] hdf #[rfl,by decide,by decide,rfl] hY hrec ht hK hF (λw H a ns hl hO hS=>Zc5 hO hS<|hok ns)<|by rintro _ _ _ _ _ ⟨_,_,_,_,_,_,_,_,_,_,_,_,_,_,z⟩;exact z
end
end Gn
namespace Sd
open PySem PySem.Spec PyProof.Rows L2
open Ev (E Sm Fn Bop Cop Ty Bf Mf)
end Sd
namespace Gn
open PySem PySem.Spec PyProof.Rows L2
open Ev (E Sm Fn Bop Cop Ty Bf Mf)
open Sd (Calls CX1 spX xwE Errs Cls1 DefX LamS LamIn VA tB3 ksum YS Xa)
theorem W5 :∀(l:List (bN×iT)) acc,(∀y∈l,y.2=.free->(env.cells.lookup y.1).isSome=ak)->(∀x c,(x,c)∈acc->env.cells.lookup x=aa c)->
  ∃cs,(mP l acc (λy r=>if y.2 == .free then do let a <-cellOf env y.1;cJ (i7 ((y.1,a)::r))else cJ (i7 r)):pR _)=cJ cs/\(∀x c,(x,c)∈cs->env.cells.lookup x=aa c)/\(∀x c,(x,c)∈acc->(x,c)∈cs)/\∀x,(x,bG)∈l->∃c,(x,c)∈cs
 |[],acc,_,ha=>#[acc,rfl,ha,λ_ _ h=>h,λx h=>by simp at h]
 |(x,k)::l,acc,hl,ha=>by
  by_cases e:k=.free
  .subst e
   obtain⟨c,hc⟩:=bP.mp<|hl (x,.free) #[2] rfl;obtain⟨cs,e1,h1,h2,h3⟩:=W5 l ((x,c)::acc) (λy hy=>hl y<|by simp[hy]) (λy d hd=>by
    rcases aw.mp hd with z|z
    .cases z;exact hc
    .exact ha y d z)
   refine#[cs,?_,h1,λy d hd=>h2 y d (by simp[hd]),λy hy=>?_]
   .rw[<-e1]
    unfold cellOf;simp[hc]
   .rcases aw.mp hy with z|z
    .cases z;exact#[c,h2 x c #[2]]
    .exact h3 y z
  .obtain⟨cs,e1,h1,h2,h3⟩:=W5 l acc (λy hy=>hl y<|by simp[hy]) ha
   refine#[cs,?_,h1,h2,λy hy=>?_]
   .rw[<-e1]
    simp[e]
   .rcases aw.mp hy with z|z
    .cases z;exact T7 rfl e
    .exact h3 y z
def WY(hl:∀y∈scope.names,y.2=.free->(env.cells.lookup y.1).isSome=ak):∃cs,iJ scope env=cJ cs/\(∀x c,(x,c)∈cs->env.cells.lookup x=aa c)/\∀x,(x,bG)∈scope.names->∃c,(x,c)∈cs:=by
 obtain⟨cs,e,h1,_,h3⟩:=W5 scope.names [] hl (λx c h=>by simp at h)
 refine#[cs,?_,h1,h3];rw[<-e];unfold iJ;simp
theorem Wo:∀names n acc,(acc.Pairwise λx y=>x.2≠y.2)->(∀y∈acc,y.2<n)->(dv n names acc).Pairwise λx y=>x.2≠y.2
 |[],_,_,h,_=>h
 |(x,k)::r,n,acc,h,hn=>by
  unfold dv;split
  .refine Wo r (n+1) _ (bj.mpr #[λy hy z=>?_,h]) λy hy=>?_
   .have:=hn y hy
    exact T7 (z)<|ek this
   .rcases aw.mp hy with rfl|hy
    .exact fz n
    .exact cB<|hn y hy
  .exact Wo r n acc h hn
def Ys{B:Type}{l:List (bN×B)}{a:B}(h:l.lookup x=aa a):(x,a)∈l:=dR h
def qd{l:List (bN×aH)}(h:l.Pairwise λx y=>x.2≠y.2)(h1:(x,c)∈l)(h2:(y,c)∈l):x=y:=by
 induction h with
 |nil=>simp at h1
 |cons hd _ ih=>
  rcases aw.mp h1 with z1|z1<;>rcases aw.mp h2 with z2|z2
  .exact congrArg Prod.fst<|z1.trans z2.symm
  .rw[<-z1]at hd;exact T7 rfl<|hd (y,c) z2
  .rw[<-z2]at hd;exact T7 rfl<|hd (x,c) z1
  .exact ih z1 z2
def Q2{l:List (bN×aH)}(h:(x,c)∈l):∃d,l.lookup x=aa d:=by
 induction l with
 |nil=>simp at h
 |cons p l ih=>
  obtain⟨y,d⟩:=p;rw[bR];by_cases e:x=y
  .subst e;exact#[d,by simp]
  .rcases aw.mp h with z|z
   .cases z;exact T7 rfl e
   .have:(x == y)=aj:=by simpa using e
    rw[this];exact ih z
noncomputable def ZeJ(sc scope:gE):Bool:=
 (match scope.kind with|.function=>ak|_=>aj)&&(!scope.isCoroutine&&(!scope.isGenerator&&scope.names.all λy=>ag (y.2≠.cell)&&(ag (y.2≠.local)&&(!decide (y.2=.free)||decide (sc.names.lookup y.1=aa .cell)))))
def Zf3(hs:X.env.scope=sc)(hc:X.env.cells=dv n sc.names [])(h:ZeJ sc scope=ak):∃clos,iJ scope X.env=cJ clos/\LamIn X scope clos:=by
 unfold ZeJ at h;simp only[aB,lq,T0,aX,gV,decide_eq_false_iff_not]at h;obtain⟨h1,h2,h3,h4⟩:=h;have fr:∀x,(x,bG)∈scope.names->sc.names.lookup x=aa .cell:=λx hx=>by
  rcases(h4 _ hx).2.2 with z|z
  .exact T7 rfl z
  .exact z
 obtain⟨cs,e,c1,c2⟩:=WY λy hy z=>by
  obtain⟨x,k⟩:=y;cases z;obtain⟨c,q⟩:=L2.QU<|fr x hy;rw[hc,q];rfl
 have lk:=λx c q=>c1 x c<|Ys q
 refine#[cs,e,#[?_,h2,h3,λy hy=>(h4 y hy).1,λx v=>?_,λx q=>?_,λx y c q1 q2=>?_],lk,λx q=>?_]
 .cases e:scope.kind<;>rw[e]at h1<;>first|rfl|cases h1
 .rcases v with v|v|v
  .exact T7 rfl (h4 _<|Ys v).2.1
  .exact T7 rfl (h4 _<|Ys v).1
  .exact v
 .obtain⟨c,q⟩:=c2 x (Ys q)
  exact Q2 q
 .have a1:=Ys (lk x c q1)
  have a2:=Ys<|lk y c q2;rw[hc]at a1 a2;exact qd (Wo sc.names n [] #[2]<|by simp) a1 a2
 .rw[hs]
  exact fr x<|Ys q
noncomputable abbrev rN(wd:Bool):List bN:=["_law_call","_law_error","e","_law_sorts"]
def ZhR(wd:Bool)(P:Nat->iE):Expr:=.UnaryOp .USub (.Constant (.int 1) 0<|P 23)<|P 24
noncomputable def Zel(wd:Bool)(P:Nat->iE):List fq:=[.Return (aa<|.Call (.Attribute (.Name "_law_sorts"<|P 27) "index"<|P 32) [.Constant (.bool ak) 0<|P 28] []<|P 33)<|P 29]
def rbR(wd:Bool):TE:=Sd.rbI
def fiR(K:ao)(wd:Bool):TS:=Sd.ZfA K 3
def vO(wd:Bool)(P:Nat->iE)(sumE:Expr):List fq:=
 let n:="_law_error"
 let s:="_law_sorts"
 let i:=λ(x:bN) (k:Nat)=>Expr.Call (.Name "isinstance"<|P k) [.Name n<|P<|k+1,.Name x<|P<|k+2] []<|P<|k+3
 .If (.Compare (.Name n<|P 0) [.Is] [.Constant .none 0<|P 1]<|P 2) [.Return (aa<|.Constant .none 0<|P 3)<|P 4] [] (P 5) ::
   .Assign [.Name s<|P 6] (.List [i "NoRow" 40,i "NoPart" 44,i "NoNumber" 48]<|P 7) (P 8) ::
   .Assign [.Name s<|P 9] (.BinOp (.Name s<|P 10) .Add (.List [i "NoHeads" 52,i "NotBeside" 56,i "NotIn" 60]<|P 11)<|P 12) (P 13) ::
   .Assign [.Name s<|P 14] (.BinOp (.Name s<|P 15) .Add (.List [i "NoTurn" 64,i "NoLot" 68,i "TooMany" 72]<|P 16)<|P 17) (P 18) ::
   .Expr (.Call (.Attribute (.Name s<|P 19) "append"<|P 30) [i "BadNote" 76] []<|P 31) (P 20) ::
   .If (.BoolOp .Or [.UnaryOp .Not (i "ValueError" 80)<|P 21,sumE]<|P 22) [.Return (aa<|ZhR wd P)<|P 25] [] (P 26)::Zel wd P
noncomputable def vm(P:Nat->iE):List fq:=
 [.Assign [.Name "_law_error"<|P 90] (.Constant .none 0<|P 91)<|P 92,.Try [.Expr (.Call (.Name "_law_call"<|P 93) [] []<|P 94)<|P 95] [.ExceptHandler (aa<|.Name "SpaceError"<|P 96) (aa "e") [.Assign [.Name "_law_error"<|P 97] (.Name "e"<|P 98)<|P 99]<|P 100] [] []<|P 101]
noncomputable def vP(b:List fq):Expr:=match b.getD 7 (.Pass #[0,0,0,0])with
 |.If (.BoolOp _ [_,e] _) _ _ _=>e
 |_=>.Constant .none 0 #[0,0,0,0]
def ZaR(wd:Bool)(P:Nat->iE)(sc:gE):Bool:=
 (rN wd).all (λx=>ag<|sc.names.lookup x=aa .local)&&(((["isinstance","ValueError"]:List bN)++Xa).all (λx=>ag<|sc.names.lookup x=aa .globalImplicit)&&((P 30).endLine == (P 31).line&&(P 32).endLine == (P 33).line))
abbrev cxR(wd:Bool)(P:bO)(w:bV)(K:ao)(mg:bN->Option az)(base:cM)(st:fq)(f:aH)(cdv:az)(A:cw)(outer:List Env)(s:aF)(H:Hp):Cx:=X0 (CX1 P w) P w K mg base (rN wd) "_law_refused" (Zg st) f cdv A outer s H E0
def ZaN(wd:Bool)(P:bO)(w:bV)(K:ao)(mg:bN->Option az)(base:cM)(cl:List aH)(C:Calls)(d:Nat)(st:fq)(f:aH):Prop:=
 ∀(cdv:az)(A:cw)(outer:List Env)(s:aF)(H:Hp),Room (d+1) (A.deeper<|dZ "_law_refused" (Zg st) s.heap.objs.size f cdv)->
  PSs (cxR wd P w K mg base st f cdv A outer s H) ((ZF st).drop 2) (VA K 1 3 cl (tB3 (cxR wd P w K mg base st f cdv A outer s H) Sd.nx<|Pv.YO C<|ksum 3) (rbR wd)<|fiR K wd)
section
variable{wd:Bool}{P:bO}{w:bV}{K:ao}{mg:bN->Option az}{base:cM}{cl:List aH}{fs:List FR}{zs:List bN}{gs:List (bN×Gv)}{F:List Fn}{f:Nat->aH}{fd:Nat->dz}{d nR:Nat}{st:fq}{Pp:Nat->iE}{C:Calls}
def wQ(h:ZaR wd Pp sc=ak):(∀x∈rN wd,sc.names.lookup x=aa .local)/\(∀x∈(["isinstance","ValueError"]:List bN)++Xa,sc.names.lookup x=aa .globalImplicit)/\((Pp 30).endLine == (Pp 31).line)=ak/\((Pp 32).endLine == (Pp 33).line)=ak:=by
 unfold ZaR at h;simp only[aB,aX,T0]at h;exact#[h.1,h.2.1,h.2.2.1,h.2.2.2]
def ZfB(T:Top K mg fs zs gs f fd)(L:Cls K mg base cl)(hst:(ZF st).drop 2=vO wd Pp (vP<|ZF st))(hB:ZaR wd Pp (Zg st)=ak)(hsc:scB (rN wd) 1 (Zg st)=ak)(hz:zs.contains "isinstance" = ak)(hz2:zs.contains "ValueError" = ak)
  (hsum:∀(cdv:az)(A:cw)(outer:List Env)(s:aF)(H:Hp),(A.deeper<|dZ "_law_refused" (Zg st) s.heap.objs.size (f nR) cdv).units+7<dO->Sd.CT (cxR wd P w K mg base st (f nR) cdv A outer s H) Sd.nx C (vP<|ZF st) (ksum 3)) :
  ZaN wd P w K mg base cl C d st (f nR):=by
 intro cdv A outer s H hr;obtain⟨b1,b2,b3,b4⟩:=wQ hB;rw[hst];have gl:=λx hx=>b2 x hx
 have nd:=(Uh hsc).nd;have hs:=(hsum cdv A outer s H<|Sd.hu7 hr).h;have hl:Sd.BSs (cxR wd P w K mg base st (f nR) cdv A outer s H) (Zel wd Pp) (fiR K wd):=by
  exact⟨Sd.ZhK (J:=λ_=>0) rfl (b1 _<|by simp[rN]) rfl rfl b4⟩
 have hb:PE (cxR wd P w K mg base st (f nR) cdv A outer s H) (ZhR wd Pp) (rbR wd):=by
  exact Sd.ZhZ (J:=λ_=>0)
 have hir:(rN wd)[1]?=aa ("_law_error" : bN):=rfl
 have his:(rN wd)[3]?=aa ("_law_sorts" : bN):=rfl
 have mem:∀x∈[("_law_error" : bN),"_law_sorts"],x∈rN wd:=by simp[rN]
 exact Sd.Zc4 (J:=λ_=>0) L.er nd hir (b1 _<|mem _<|by simp) his (b1 _<|mem _<|by simp) (gl _<|by simp) (T.no hz) (gl _<|by simp) (T.no hz2) (λx hx=>gl x<|by simp[hx]) rfl rfl rfl rfl hs b3 hb hl.h
def ZgD(he:e<10)(v:σ'[3]?=aa (aa<|.ref q))(hl:σ'.length=(rN wd).length)(h:H' q=aa (.lst<|(Sd.Ye e).map .bl))(st:Sd.St3 K Z S H')(k:∀H2,Sd.Fut Z H' Z H2->Sd.St3 K Z S H2->Dn.rt (Sd.vR wd e) H2):fiR K wd Dn σ' H':=by
 exact Sd.ZdT he v h<|k H' (Sd.Fut.refl _ _) st
def ZgV{X:Cx}{E:XK}{sc:gE}{n:Nat}{c Pt:aH}{i:Ev.E}{xw:Nat->Hp->Prop}{body:Expr}{scope:gE}{lp p pos:iE}
  (D:DefX X E)(hr:Room (d+2) X.A)(T:Top X.K X.mg fs zs gs f fd)(L:Cls X.K X.mg X.base cl)(RA:ZaN wd X.prog X.w X.K X.mg X.base cl C d st (f nR))(hx:fs[nR]?=aa #["_law_refused",st,rN wd,1])
  (hst:(ZF st).take 2=vm Pp)(hB:ZaR wd Pp (Zg st)=ak)(hsc:scB (rN wd) 1 (Zg st)=ak)
  (hP:∃ps,X.H₀ Pt=aa (.tbl ps))(CH:dA X.base c Pt)(hBi:X.base.BuiltinsAt X.mg Pt)(hgP:bx≠Pt)
  (hfn:X.fn=λ_=>ak)(hcode:X.env.code=.ref c)(hs:X.env.scope=sc)(hc:X.env.cells=dv n sc.names [])(hq:X.env.qual++"<lambda>" = YS)(hl:ZeJ sc scope=ak)(hg:Gl X "_law_refused")
  (hbody:∀(g:aH)(c':aH)(clos:List (bN×aH))(A:cw)(outer:List Env)(s:aF)(H:Hp)(E1:XK),LamS scope clos->Room d (A.deeper<|fO YS scope s.heap.objs.size g (.ref c') clos)->(A.deeper<|fO YS scope s.heap.objs.size g (.ref c') clos).units+7<dO->Sd.CE (Sd.cxL X.prog X.w X.K X.mg X.base X.N scope g (.ref c') clos A outer s H E1) (xwE cl E1) C body i) :
  Sd.CE X xw C (.Call (.Name "_law_refused" p) [.Lambda #[[],[],ai,[],[],ai,[]] body scope lp] [] pos) (.refu wd i):=by
 obtain⟨b1,b2,b3,b4⟩:=wQ hB;obtain⟨clos,hcl,LI⟩:=Zf3 hs hc hl;have hl0:0<cl.length:=by rw[L.er.len];decide
 have h0:=af hl0;have hst:ZF st=vm Pp++(ZF st).drop 2:=by rw[<-hst,cG]
 have hic:(rN wd)[0]?=aa ("_law_call" : bN):=rfl
 have hie:(rN wd)[2]?=aa ("e" : bN):=rfl
 have hir:(rN wd)[1]?=aa ("_law_error" : bN):=rfl
 have hil:3<(rN wd).length:=show 3<4 by decide
 have mem:∀x∈[("_law_call" : bN),"_law_error","e"],x∈rN wd:=by simp[rN]
 have pr:(#["_law_refused",st,rN wd,1]:FR).ps=[("_law_call" : bN)]:=rfl
 have hbn:=T.b nR _ hx;rw[pr]at hbn;have hsc1:=Uh hsc;have tk:(rN wd).take 1=[("_law_call" : bN)]:=rfl
 rw[tk]at hsc1;exact Sd.Zcj (ts:=λY=>tB3 Y Sd.nx<|Pv.YO C<|ksum 3) D (λx=>by rw[hfn]) hr L.er h0 hP hcode CH hBi hgP hq hcl rfl LI (λpm c' ctv=>rfl)
  (λg c' A outer s H E1 hr=>(hbody g c' clos A outer s H E1 LI.S hr<|Sd.hu7 hr)) hg (T.m nR _ hx) (T.d nR _ hx).kp (T.d nR _ hx) hsc1 hbn rfl rfl rfl hst (Uh hsc).nd hic rfl hie hir hil #[1] #[1] #[1]
  (b1 _<|mem _<|by simp) (b1 _<|mem _<|by simp) (b1 _<|mem _<|by simp) (λ_ _ _=>b2 _<|by simp[Xa]) (L.er.nm 0 _ _ h0 rfl) rfl rfl rfl rfl rfl (λ_ _ _=>rfl) (λ_ _ _=>rfl) (λ_ _ _=>rfl) RA
  (λY Z S e σ' H' q Q' hK he h1 h2 h3 st' hQ=>Sd.Zfo he h1 h2 h3 (hK▸st') λH2 f2 s2=>hQ H2 f2<|hK▸s2)
  (λDn σ' ρ' H' S e q he v hl h st k=>ZgD he v hl h st k)
end
def Zar :BdX fs zs gs F tk sn i r #[a,b,[.asg []<|.c .non]]:=λP w K mg base cl f fd d T L h hn cdv A outer s H E hr hu=>
 ⟨by
  rintro pq s O H D I ⟨Z,H0,W,l,os,S,st,en,h⟩;cases os<;>exact False.elim h⟩
def Zg5(wd:Bool)(fs:List FR)(zs:List bN)(gs:List (bN×Gv))(F:List Fn)(tk nR:Nat)(st:fq):Prop:=
 ∀(P:bO)(w:bV)(K:ao)(mg:bN->Option az)(base:cM)(f:Nat->aH)(fd:Nat->dz)(d:Nat),Top K mg fs zs gs f fd->(rN wd).Nodup->∀(cdv:az)(A:cw)(outer:List Env)(s:aF)(H:Hp),(A.deeper<|dZ "_law_refused" (Zg st) s.heap.objs.size (f nR) cdv).units+7<dO->Sd.CT (cxR wd P w K mg base st (f nR) cdv A outer s H) Sd.nx (Pv.Zm F tk d) (vP<|ZF st) (ksum 3)
def BdR(wd:Bool)(fs:List FR)(zs:List bN)(gs:List (bN×Gv))(F:List Fn)(tk:Nat)(sn:List Nat)(nR:Nat)(st:fq)(r:FR)(fn:Fn):Prop:=
 ∀(P:bO)(w:bV)(K:ao)(mg:bN->Option az)(base:cM)(cl:List aH)(f:Nat->aH)(fd:Nat->dz)(fL c Pt:aH)(d:Nat),Top K mg fs zs gs f fd->Cls K mg base cl->wb P w K mg base cl fs F tk sn f fd d->ZaN wd P w K mg base cl (Pv.Zm F tk d) d st (f nR)->r.N.Nodup->
  dA base c Pt->base.BuiltinsAt mg Pt->bx≠Pt->
  ∀(A:cw)(outer:List Env)(s:aF)(H:Hp)(E:XK),(∃ps,H Pt=aa (.tbl ps))->Room (d+2) (A.deeper<|dZ r.x (Zg r.st) s.heap.objs.size fL<|.ref c)->Room d (A.deeper<|dZ r.x (Zg r.st) s.heap.objs.size fL<|.ref c)->(A.deeper<|dZ r.x (Zg r.st) s.heap.objs.size fL<|.ref c).units+7<dO->
   Sd.CSs (X0 (CX1 P w) P w K mg base r.N r.x (Zg r.st) fL (.ref c) A outer s H E) (xwE cl E) aj (Pv.Zm F tk d) (Pv.muts fn.body) (ZF r.st) fn.body
def Zgo{st:fq}{r:FR}{fn:Fn}(S:Zg5 wd fs zs gs F tk nR st)(B:BdR wd fs zs gs F tk sn nR st r fn)(hst:(ZF st).drop 2=vO wd Pp (vP<|ZF st))(hB:ZaR wd Pp (Zg st)=ak)(hsc:scB (rN wd) 1 (Zg st)=ak)(hz:zs.contains "isinstance" = ak)(hz2:zs.contains "ValueError" = ak):BdL fs zs gs F tk sn r fn:=
 λP w K mg base cl f fd fL c Pt d T L h hn hC hBi hP A outer s H E hp hr hu=>
  B P w K mg base cl f fd fL c Pt d T L h (ZfB T L hst hB hsc hz hz2<|S P w K mg base f fd d T (Uh hsc).nd) hn hC hBi hP A outer s H E hp hr (hr.mono<|by lia) hu
end Gn
namespace K72
open Ev
noncomputable def Qe:Fn:=#[2,2,
 [.ite (.cmp .lt (.v 1)<|.blt .len [(.v 0)]) [.ret<|.ix (.v 0)<|.v 1] [],
  .ret (.n 0)]]
noncomputable def GM:Fn:=#[2,3,
 [.asg [2]<|.call 0 [(.v 0),(.v 1)],
  .ite (.cmp .ge (.v 2)<|.bin .pow (.n 10)<|.n 18) [.ret<|.lst [(.bin .sub (.v 2)<|.bin .pow (.n 10)<|.n 18),(.c<|.bl ak)]] [],
  .ret (.lst [(.bin .mod (.v 2)<|.n 2147483647),(.c<|.bl aj)])]]
noncomputable def yL:Fn:=#[2,4,
 [.ite (.dix (.v 0) ak) [.asg [2]<|.bin .mod (.dix (.v 0) aj)<|.v 1,
  .dset 0 (.bin .fdiv (.dix (.v 0) aj)<|.v 1),
  .ret (.v 2)] [],
  .dset 0 (.bin .mod (.bin .add (.bin .mul (.dix (.v 0) aj)<|.n 48271)<|.n 29)<|.n 2147483647),
  .asg [3] (.bin .mod (.bin .add (.bin .add (.bin .mul (.dix (.v 0) aj)<|.dix (.v 0) aj)<|.bin .mul (.n 39373)<|.dix (.v 0) aj)<|.n 7)<|.n 2147483629),
  .asg [3] (.bin .mod (.bin .add (.bin .mul (.v 3)<|.v 3)<|.bin .mul (.n 16807)<|.v 3)<|.n 2147483587),
  .ret (.bin .mod (.bin .fdiv (.v 3)<|.n 8)<|.v 1)]]
noncomputable def XO:Fn:=#[2,3,
 [.asg [2]<|.lst [(.tup [(.n 2),(.n 1)]),(.tup [(.n 2),(.n 2)]),(.tup [(.n 2),(.n 3)]),(.tup [(.n 2),(.n 4)]),(.tup [(.n 3),(.n 1)]),(.tup [(.n 3),(.n 2)]),(.tup [(.n 3),(.n 3)]),(.tup [(.n 5),(.n 1)]),(.tup [(.n 5),(.n 2)]),(.tup [(.n 2),(.n 3)]),(.tup [(.n 2),(.n 4)]),(.tup [(.n 3),(.n 3)])],
  .ite (.cmp .gt (.v 1)<|.n 27) [.asg [2]<|.bin .add (.v 2)<|.lst [(.tup [(.n 2),(.n 5)]),(.tup [(.n 2),(.n 6)]),(.tup [(.n 3),(.n 4)]),(.tup [(.n 5),(.n 3)])]] [],
  .ret (.ix (.v 2)<|.call 2 [(.v 0),(.blt .len [(.v 2)])])]]
noncomputable def yI:Fn:=#[4,4,
 [.ret<|.blt .tuple [(.comp1 [1,2,3,0] 1 [0] (.rng1<|.ix (.v 0)<|.n 1) []<|.bin .mod (.bin .add (.ix (.v 1)<|.v 0)<|.bin .mul (.v 2)<|.ix (.v 3)<|.v 0)<|.ix (.v 4)<|.n 0)]]]
noncomputable def zV:Fn:=#[2,6,
 [.dnw 2<|.bin .mul (.tup [(.n 0)])<|.ix (.v 0)<|.n 1,
  .forr [3] (.of<|.v 1) [.ite (.cmp .nin (.v 3)<|.v 2) [.forF [4] (.blt .listD [(.v 2)]) [.forr [5] (.rng2 (.n 1)<|.ix (.v 0)<|.n 0) [.dput (.v 2) (.call 4 [(.v 0),(.v 4),(.v 5),(.v 3)])<|.c<|.bl ak]]] []],
  .ret (.blt .sortedD [(.v 2)])]]
noncomputable def J9:Fn:=#[1,1,
 [.ret<|.comp1 [0] 1 [0] (.rng1<|.ix (.v 0)<|.n 1) []<|.blt .tuple [(.comp1 [0] 1 [0] (.rng1<|.ix (.v 1)<|.n 1) []<|.blt .toInt [(.cmp .eq (.v 0)<|.v 1)])]]]
noncomputable def Wi:Fn:=#[2,8,
 [.asg [2]<|.tup [],
  .asg [3] (.lst [(.bin .mul (.tup [(.n 0)])<|.ix (.v 1)<|.n 1)]),
  .asg [4] (.call 5 [(.v 1),(.call 6 [(.v 1)])]),
  .forr [5] (.rng1<|.ix (.v 1)<|.n 1) [.asg [6]<|.blt .dictP [(.comp1 [] 1 [0] (.of<|.v 3) []<|.tup [(.v 0),(.c<|.bl ak)])],
  .asg [7] (.comp1 [6] 1 [0] (.of<|.v 4) [(.cmp .nin (.v 0)<|.v 1)]<|.v 0),
  .asg [2] (.bin .add (.v 2)<|.tup [(.ix (.v 7)<|.call 2 [(.v 0),(.blt .len [(.v 7)])])]),
  .asg [3] (.call 5 [(.v 1),(.v 2)])],
  .ret (.v 2)]]
noncomputable def YL:Fn:=#[3,6,
 [.asg [3]<|.call 2 [(.v 0),(.bin .add (.blt .len [(.v 2)])<|.n 1)],
  .asg [4] (.ix (.lst [(.ix (.v 1)<|.n 0),(.neg<|.n 1),(.c<|.bl ak),(.c<|.bl aj),(.c .non),(.c<|.str<|kT "0"),(.tup [(.n 0)]),(.bin .pow (.n 10)<|.n 29),(.n 0),(.n 1),(.bin .sub (.ix (.v 1)<|.n 0)<|.n 1)])<|.call 2 [(.v 0),(.n 11)]),
  .asg [5] (.lst [(.bin .add (.bin .add (.sl (.v 2) ai<|aa<|.v 3)<|.tup [(.v 4)])<|.sl (.v 2) (aa<|.bin .add (.v 3)<|.n 1) ai),(.bin .add (.bin .add (.sl (.v 2) ai<|aa<|.v 3)<|.tup [(.v 4)])<|.sl (.v 2) (aa<|.v 3) ai),(.bin .add (.sl (.v 2) ai<|aa<|.v 3)<|.sl (.v 2) (aa<|.bin .add (.v 3)<|.n 1) ai),(.blt .list [(.v 2)])]),
  .ret (.ix (.bin .add (.v 5)<|.lst [(.rev<|.v 2),(.c .non),.dnew,(.lst [(.v 4)]),(.tup [(.v 2)])])<|.ix (.lst [(.n 0),(.n 0),(.n 0),(.n 0),(.n 1),(.n 2),(.n 3),(.n 4),(.n 5),(.n 6),(.n 7),(.n 8)])<|.call 2 [(.v 0),(.n 12)])]]
noncomputable def YC:Fn:=#[3,7,
 [.asg [3]<|.call 2 [(.v 0),(.ix (.v 1)<|.n 1)],
  .asg [4] (.call 8 [(.v 0),(.v 1),(.ix (.v 2)<|.v 3)]),
  .asg [5] (.ix (.v 2)<|.call 2 [(.v 0),(.ix (.v 1)<|.n 1)]),
  .lnw 6 [(.bin .add (.bin .add (.sl (.v 2) ai<|aa<|.v 3)<|.tup [(.v 4)])<|.sl (.v 2) (aa<|.bin .add (.v 3)<|.n 1) ai),(.bin .add (.bin .add (.sl (.v 2) ai<|aa<|.v 3)<|.tup [(.v 5)])<|.sl (.v 2) (aa<|.bin .add (.v 3)<|.n 1) ai),(.bin .add (.sl (.v 2) ai<|aa<|.v 3)<|.sl (.v 2) (aa<|.bin .add (.v 3)<|.n 1) ai)],
  .cat 6 [(.bin .add (.v 2)<|.tup [(.ix (.v 2)<|.v 3)]),(.blt .list [(.v 2)]),(.rev<|.v 2),(.c .non),.dnew,(.tup [(.v 2)]),(.ix (.v 2)<|.v 3),(.lst [(.v 4)])],
  .app 6 (.bin .add (.bin .add (.sl (.v 2) ai<|aa<|.v 3)<|.tup [(.call 4 [(.v 1),(.ix (.v 2)<|.v 3),(.bin .add (.n 1)<|.call 2 [(.v 0),(.n 2)]),(.v 5)])])<|.sl (.v 2) (aa<|.bin .add (.v 3)<|.n 1) ai),
  .ret (.ix (.v 6)<|.ix (.lst [(.n 0),(.n 0),(.n 0),(.n 1),(.n 1),(.n 2),(.n 3),(.n 4),(.n 5),(.n 6),(.n 7),(.n 8),(.n 9),(.n 10),(.n 11),(.n 11)])<|.call 2 [(.v 0),(.n 16)])]]
noncomputable def Yv:Fn:=#[3,3,
 [.ret<|.and (.isi (.v 0) [.int])<|.and (.not<|.isi (.v 0) [.bool])<|.chain .le .le (.v 1) (.v 0)<|.v 2]]
noncomputable def QZ:Fn:=#[2,2,
 [.ite (.or (.not<|.isi (.v 1) [.tuple])<|.cmp .ne (.blt .len [(.v 1)])<|.ix (.v 0)<|.n 1) [.ret<|.c<|.bl aj] [],
  .ret (.blt .all [(.comp1 [0] 1 [0] (.of<|.v 1) []<|.call 10 [(.v 0),(.n 0),(.bin .sub (.ix (.v 1)<|.n 0)<|.n 1)])])]]
noncomputable def U6:Fn:=#[2,3,
 [.ite (.or (.not<|.isi (.v 1) [.tuple])<|.cmp .ne (.blt .len [(.v 1)])<|.ix (.v 0)<|.n 1) [.ret<|.c<|.bl aj] [],
  .forr [2] (.of<|.v 1) [.ite (.not<|.call 11 [(.v 0),(.v 2)]) [.ret<|.c<|.bl aj] []],
  .ret (.cmp .eq (.blt .len [(.call 5 [(.v 0),(.v 1)])])<|.blt .len [(.call 5 [(.v 0),(.call 6 [(.v 0)])])])]]
noncomputable def Y5:Fn:=#[2,4,
 [.forr [2] (.rng1<|.n 8) [.asg [3]<|.call 9 [(.v 0),(.v 1),(.call 7 [(.v 0),(.v 1)])],
  .ite (.not<|.call 12 [(.v 1),(.v 3)]) [.ret<|.v 3] []],
  .ret (.ix (.lst [(.c .non),(.tup []),(.bin .mul (.tup [(.bin .mul (.tup [(.n 0)])<|.ix (.v 1)<|.n 1)])<|.ix (.v 1)<|.n 1)])<|.call 2 [(.v 0),(.n 3)])]]
noncomputable def Y9:Fn:=#[3,3,
 [.ret<|.and (.isi (.v 0) [.int])<|.and (.not<|.isi (.v 0) [.bool])<|.chain .le .le (.v 1) (.v 0)<|.v 2]]
noncomputable def zA:Fn:=#[2,4,
 [.asg [2,3]<|.v 0,
  .ite (.or (.not<|.isi (.v 1) [.tuple])<|.cmp .ne (.blt .len [(.v 1)])<|.v 3) [.ret<|.c<|.bl aj] [],
  .ret (.blt .all [(.comp1 [2] 1 [0] (.of<|.v 1) []<|.call 14 [(.v 0),(.n 0),(.bin .sub (.v 1)<|.n 1)])])]]
noncomputable def Vj:Fn:=#[4,4,
 [.ret<|.blt .tuple [(.comp1 [3,0] 2 [0,1] (.zip (.v 1)<|.v 2) []<|.bin .mod (.bin .add (.v 0)<|.bin .mul (.v 2)<|.v 1)<|.v 3)]]]
noncomputable def JG:Fn:=#[4,4,
 [.ret<|.call 16 [(.v 0),(.v 1),(.v 2),(.neg<|.ix (.v 1)<|.v 3)]]]
noncomputable def qE:Fn:=#[1,3,
 [.forr [1,2] (.enum<|.v 0) [.ite (.cmp .ne (.v 2)<|.n 0) [.ret<|.v 1] []],
  .ret (.c .non)]]
noncomputable def yG:Fn:=#[3,7,
 [.asg [3,4]<|.v 0,
  .asg [5] (.v 2),
  .forr [6] (.of<|.v 1) [.asg [5]<|.call 17 [(.v 3),(.v 5),(.v 6),(.call 18 [(.v 6)])]],
  .ret (.v 5)]]
noncomputable def ze:Fn:=#[3,3,
 [.ret<|.blt .tuple [(.comp1 [2,0] 1 [0] (.of<|.v 1) []<|.bin .mod (.bin .mul (.v 1)<|.v 0)<|.v 2)]]]
noncomputable def JL:Fn:=#[2,3,
 [.asg [2]<|.n 1,
  .whl (.cmp .ne (.bin .mod (.bin .mul (.v 2)<|.v 1)<|.v 0)<|.n 1) [.aug 2 .add<|.n 1],
  .ret (.v 2)]]
noncomputable def Wx:Fn:=#[3,9,
 [.asg [3,4]<|.v 0,
  .asg [5] (.call 19 [(.v 0),(.v 1),(.v 2)]),
  .asg [6] (.call 18 [(.v 5)]),
  .ite (.cmp .is (.v 6)<|.c .non) [.ret<|.v 1] [],
  .asg [7] (.call 20 [(.v 3),(.v 5),(.call 21 [(.v 3),(.ix (.v 5)<|.v 6)])]),
  .asg [8] (.comp1 [3,7,6] 1 [0] (.of<|.v 1) []<|.call 17 [(.v 1),(.v 0),(.v 2),(.v 3)]),
  .ret (.blt .tuple [(.blt .sortedR [(.bin .add (.v 8)<|.lst [(.v 7)])])])]]
noncomputable def Yl:Fn:=#[3,5,
 [.asg [3]<|.v 1,
  .forr [4] (.of<|.v 2) [.asg [3]<|.call 22 [(.v 0),(.v 3),(.v 4)]],
  .ret (.v 3)]]
noncomputable def qy:Fn:=#[2,4,
 [.asg [2,3]<|.v 0,
  .ite (.or (.not<|.isi (.v 1) [.tuple])<|.cmp .ne (.blt .len [(.v 1)])<|.v 3) [.ret<|.c<|.bl aj] [],
  .ret (.and (.blt .all [(.comp1 [0] 1 [0] (.of<|.v 1) []<|.call 15 [(.v 1),(.v 0)])])<|.cmp .eq (.blt .len [(.call 23 [(.v 0),(.tup []),(.v 1)])])<|.v 3)]]
noncomputable def Wm:Fn:=#[2,2,
 [.ite (.not<|.call 24 [(.v 0),(.v 1)]) [.raise 7 []] []]]
noncomputable def Uw:Fn:=#[1,1,
 [.ret<|.blt .all [(.comp1 [] 2 [0,1] (.zip (.v 0)<|.sl (.v 0) (aa<|.n 1) ai) []<|.cmp .lt (.v 0)<|.v 1)]]]
noncomputable def Vv:Fn:=#[2,2,
 [.ret<|.blt .all [(.comp1 [1] 1 [0] (.of<|.v 0) []<|.cmp .eq (.ix (.v 0)<|.v 1)<|.n 0)]]]
noncomputable def X7:Fn:=#[3,3,
 [.ret<|.and (.cmp .eq (.ix (.ix (.v 0)<|.v 1)<|.v 2)<|.n 1)<|.call 27 [(.bin .add (.sl (.v 0) ai<|aa<|.v 1)<|.sl (.v 0) (aa<|.bin .add (.v 1)<|.n 1) ai),(.v 2)]]]
noncomputable def VZ:Fn:=#[2,3,
 [.ite (.or (.not<|.isi (.v 1) [.tuple])<|.not<|.blt .all [(.comp1 [0] 1 [0] (.of<|.v 1) []<|.call 15 [(.v 1),(.v 0)])]) [.ret<|.c<|.bl aj] [],
  .asg [2] (.comp1 [] 1 [0] (.of<|.v 1) []<|.call 18 [(.v 0)]),
  .ite (.or (.cmp .inn (.c .non)<|.v 2)<|.not<|.call 26 [(.v 2)]) [.ret<|.c<|.bl aj] [],
  .ret (.blt .all [(.comp1 [1] 2 [0,1] (.enum<|.v 2) []<|.call 28 [(.v 2),(.v 0),(.v 1)])])]]
noncomputable def X5:Fn:=#[2,2,
 [.ite (.not<|.call 29 [(.v 0),(.v 1)]) [.raise 2 []] []]]
noncomputable def XJ:Fn:=#[3,8,
 [.asg [3,4]<|.v 0,
  .asg [5] (.bin .mul (.tup [(.n 0)])<|.v 4),
  .forr [6,7] (.zip (.v 2)<|.v 1) [.asg [5]<|.call 16 [(.v 3),(.v 5),(.v 7),(.v 6)]],
  .ret (.v 5)]]
noncomputable def Q9:Fn:=#[3,3,
 [.ret<|.call 23 [(.v 0),(.tup []),(.comp1 [0,1] 1 [0] (.of<|.v 2) []<|.call 31 [(.v 1),(.v 2),(.v 0)])]]]
def jH:Fn:=#[3,3,
 [.ex<|.call 25 [(.v 0),(.v 1)],
  .ex (.call 30 [(.v 0),(.v 2)]),
  .ret (.call 32 [(.v 0),(.v 1),(.v 2)])]]
noncomputable def W8:Fn:=#[2,3,
 [.asg [2]<|.bin .mul (.call 2 [(.v 0),(.bin .add (.ix (.v 1)<|.n 1)<|.n 1)])<|.blt .toInt [(.cmp .eq (.call 2 [(.v 0),(.n 3)])<|.n 0)],
  .ret (.bin .add (.bin .mul (.tup [(.n 0)])<|.v 2)<|.blt .tuple [(.comp1 [0,1] 1 [0] (.rng1<|.bin .sub (.ix (.v 1)<|.n 1)<|.v 2) []<|.call 2 [(.v 1),(.ix (.v 2)<|.n 0)])])]]
noncomputable def Um:Fn:=#[1,1,
 [.ret<|.ix (.bin .add (.comp1 [0] 1 [0] (.rng1<|.blt .len [(.v 0)]) [(.cmp .ne (.ix (.v 1)<|.v 0)<|.n 0)]<|.v 0)<|.lst [(.blt .len [(.v 0)])])<|.n 0]]
def Wk:Fn:=#[2,6,
 [.asg [2]<|.blt .sortedS [(.comp1 [] 1 [0] (.of<|.v 1) [(.blt .any [(.v 0)])]<|.call 35 [(.v 0)])],
  .asg [3] (.lst []),
  .forr [4] (.of<|.v 2) [.forr [5] (.of<|.v 1) [.ite (.and (.cmp .eq (.ix (.v 5)<|.v 4)<|.n 1)<|.cmp .eq (.call 35 [(.v 5)])<|.v 4) [.ite (.cmp .eq (.comp1 [4,5] 1 [0] (.of<|.v 2) [(.and (.cmp .ne (.v 0)<|.v 1)<|.cmp .ne (.ix (.v 2)<|.v 0)<|.n 0)]<|.v 0)<|.lst []) [.ex<|.mt .append (.v 3) [(.v 5)]] []] []]],
  .ret (.blt .tuple [(.v 3)])]]
noncomputable def Wq:Fn:=#[2,3,
 [.asg [2]<|.comp1 [0,1] 1 [0] (.rng1<|.call 2 [(.v 0),(.bin .add (.ix (.v 1)<|.n 1)<|.n 1)]) []<|.call 34 [(.v 1),(.v 2)],
  .ret (.call 36 [(.v 1),(.call 5 [(.v 1),(.v 2)])])]]
noncomputable def Wn:Fn:=#[3,8,
 [.asg [3]<|.call 2 [(.v 0),(.bin .add (.blt .len [(.v 2)])<|.n 1)],
  .asg [4] (.ix (.bin .add (.v 2)<|.tup [(.bin .add (.tup [(.n 1)])<|.bin .mul (.tup [(.n 0)])<|.bin .sub (.ix (.v 1)<|.n 1)<|.n 1)])<|.v 3),
  .asg [5] (.call 8 [(.v 0),(.v 1),(.v 4)]),
  .asg [6] (.call 4 [(.v 1),(.v 4),(.bin .add (.n 1)<|.call 2 [(.v 0),(.n 2)]),(.ix (.bin .add (.v 2)<|.tup [(.v 4)])<|.call 2 [(.v 0),(.bin .add (.blt .len [(.v 2)])<|.n 1)])]),
  .asg [7] (.lst [(.bin .add (.bin .add (.sl (.v 2) ai<|aa<|.v 3)<|.tup [(.v 5)])<|.sl (.v 2) (aa<|.bin .add (.v 3)<|.n 1) ai),(.bin .add (.bin .add (.sl (.v 2) ai<|aa<|.v 3)<|.tup [(.v 6)])<|.sl (.v 2) (aa<|.bin .add (.v 3)<|.n 1) ai),(.bin .add (.bin .add (.sl (.v 2) ai<|aa<|.v 3)<|.tup [(.v 4)])<|.sl (.v 2) (aa<|.v 3) ai)]),
  .asg [7] (.bin .add (.v 7)<|.lst [(.bin .add (.bin .add (.sl (.v 2) ai<|aa<|.v 3)<|.tup [(.call 34 [(.v 0),(.v 1)])])<|.sl (.v 2) (aa<|.v 3) ai),(.rev<|.v 2),(.blt .list [(.v 2)]),(.c .non),.dnew,(.tup [(.v 2)])]),
  .asg [7] (.bin .add (.v 7)<|.lst [(.bin .add (.sl (.v 2) ai<|aa<|.v 3)<|.sl (.v 2) (aa<|.bin .add (.v 3)<|.n 1) ai),(.lst [(.v 5)]),(.bin .add (.sl (.v 2) (aa<|.v 3) ai)<|.sl (.v 2) ai<|aa<|.v 3)]),
  .ret (.ix (.v 7)<|.ix (.lst [(.n 0),(.n 0),(.n 0),(.n 1),(.n 1),(.n 2),(.n 3),(.n 3),(.n 4),(.n 5),(.n 6),(.n 7),(.n 8),(.n 9),(.n 10),(.n 11)])<|.call 2 [(.v 0),(.n 16)])]]
noncomputable def Qu:Fn:=#[2,3,
 [.ite (.or (.not<|.isi (.v 1) [.tuple])<|.cmp .gt (.blt .len [(.v 1)])<|.ix (.v 0)<|.n 1) [.ret<|.c<|.bl aj] [],
  .forr [2] (.of<|.v 1) [.ite (.not<|.call 11 [(.v 0),(.v 2)]) [.ret<|.c<|.bl aj] []],
  .ret (.cmp .eq (.call 36 [(.v 0),(.call 5 [(.v 0),(.v 1)])])<|.v 1)]]
noncomputable def Y2:Fn:=#[2,4,
 [.forr [2] (.rng1<|.n 8) [.asg [3]<|.call 38 [(.v 0),(.v 1),(.call 37 [(.v 0),(.v 1)])],
  .ite (.not<|.call 39 [(.v 1),(.v 3)]) [.ret<|.v 3] []],
  .ret (.ix (.lst [(.c .non),(.lst [(.tup [])]),(.tup [(.bin .mul (.tup [(.n 0)])<|.ix (.v 1)<|.n 1)]),(.tup [(.bin .mul (.tup [(.n 2)])<|.ix (.v 1)<|.n 1)])])<|.call 2 [(.v 0),(.n 3)])]]
noncomputable def X6:Fn:=#[2,2,
 [.ite (.isi (.v 1) [.list,.tuple]) [.ite (.or (.cmp .ne (.isi (.v 0) [.list])<|.isi (.v 1) [.list])<|.cmp .ne (.isi (.v 0) [.tuple])<|.isi (.v 1) [.tuple]) [.ret<|.c<|.bl aj] [],
  .ret (.and (.cmp .eq (.blt .len [(.v 0)])<|.blt .len [(.v 1)])<|.blt .all [(.comp1 [] 2 [0,1] (.zip (.v 0)<|.v 1) []<|.call 41 [(.v 0),(.v 1)])])] [],
  .ret (.and (.cmp .eq (.isi (.v 0) [.bool])<|.isi (.v 1) [.bool])<|.cmp .eq (.v 0)<|.v 1)]]
noncomputable def XV:Fn:=#[2,2,
 [.ite (.not<|.call 15 [(.v 0),(.v 1)]) [.raise 1 []] []]]
def VW:Fn:=#[3,3,
 [.ex<|.call 25 [(.v 0),(.v 1)],
  .ex (.call 42 [(.v 0),(.v 2)]),
  .ret (.call 31 [(.v 0),(.v 1),(.v 2)])]]
noncomputable def W6:Fn:=#[3,5,
 [.asg [3]<|.bin .mul (.tup [(.n 0)])<|.ix (.v 0)<|.n 1,
  .forr [4] (.rng1<|.ix (.v 0)<|.n 1) [.asg [3]<|.call 4 [(.v 0),(.v 3),(.ix (.v 2)<|.v 4),(.ix (.v 1)<|.v 4)]],
  .ret (.v 3)]]
noncomputable def UC:Fn:=#[3,3,
 [.ret<|.call 36 [(.v 0),(.call 5 [(.v 0),(.comp1 [0,1] 1 [0] (.of<|.v 2) []<|.call 44 [(.v 1),(.v 2),(.v 0)])])]]]
noncomputable def Qo:Fn:=#[1,4,
 [.asg []<|.c .non]]
noncomputable def Zeb:Fn:=#[1,10,
 [.forr [1] (.rng1<|.blt .max2 [(.n 1),(.blt .min2 [(.blt .len [(.v 0)]),(.n 8)])]) [.cel 2 1 [(.v 0),(.v 1)]
  [.asg [3]<|.call 3 [(.v 2),(.ix (.lst [(.n 27),(.n 125)])<|.blt .toInt [(.cmp .eq (.v 1)<|.n 0)])],
  .asg [4] (.call 7 [(.v 2),(.v 3)]),
  .forr [5] (.of<|.comp1 [2,3] 1 [0] (.rng1<|.n 4) []<|.call 34 [(.v 1),(.v 2)]) [.ite (.not<|.call 41 [(.call 43 [(.v 3),(.v 4),(.v 5)]),(.call 44 [(.v 3),(.v 4),(.v 5)])]) [.ret<|.c<|.bl aj] []],
  .forr [6] (.of<|.comp1 [2,3] 1 [0] (.rng1<|.n 3) []<|.call 37 [(.v 1),(.v 2)]) [.ite (.not<|.call 41 [(.call 33 [(.v 3),(.v 4),(.v 6)]),(.call 45 [(.v 3),(.v 4),(.v 6)])]) [.ret<|.c<|.bl aj] []],
  .asg [7,8] (.tup [(.call 8 [(.v 2),(.v 3),(.call 34 [(.v 2),(.v 3)])]),(.call 40 [(.v 2),(.v 3)])]),
  .asg [9] (.call 13 [(.v 2),(.v 3)]),
  .ite (.and (.not<|.call 11 [(.v 3),(.v 7)])<|.cmp .ne (.refu aj<|.call 43 [(.v 3),(.v 4),(.v 7)])<|.n 0) [.ret<|.c<|.bl aj] [],
  .ite (.cmp .ne (.refu aj<|.call 33 [(.v 3),(.v 4),(.v 8)])<|.n 1) [.ret<|.c<|.bl aj] [],
  .ite (.cmp .ne (.refu aj<|.call 33 [(.v 3),(.v 9),(.v 6)])<|.n 6) [.ret<|.c<|.bl aj] [],
  .ite (.cmp .ne (.refu aj<|.call 43 [(.v 3),(.v 9),(.v 7)])<|.n 6) [.ret<|.c<|.bl aj] [],
  .ite (.cmp .ne (.refu aj<|.call 33 [(.v 3),(.v 9),(.v 8)])<|.n 6) [.ret<|.c<|.bl aj] []]],
  .ret (.cmp .eq (.call 33 [(.tup [(.n 2),(.n 2)]),(.tup [(.tup [(.n 0),(.n 1)]),(.tup [(.n 1),(.n 0)])]),(.tup [(.tup [(.n 0),(.n 1)])])])<|.tup [(.tup [(.n 1),(.n 0)])])]]
def fns:List Fn:=[Qe,GM,yL,XO,yI,zV,J9,Wi,YL,YC,Yv,QZ,U6,Y5,Y9,zA,Vj,JG,qE,yG,ze,JL,Wx,Yl,qy,Wm,Uw,Vv,X7,VZ,X5,XJ,Q9,jH,W8,Um,Wk,Wq,Wn,Qu,Y2,X6,XV,VW,W6,UC,Qo,Zeb]
noncomputable abbrev tk:Nat:=2
noncomputable abbrev sn:List Nat:=[1]
end K72
namespace La
variable{F:Type}[nk F]
noncomputable abbrev Vec(F:Type):=Nat->F
abbrev Pt(F:Type):=List<|Nat×Vec F
def pr:Pt F->Vec F->Vec F
 |[],_,_=>0
 |a::P,v,j=>v a.1*a.2 j+pr P v j
structure Rf(P:Pt F):Prop where
 inc:P.Pairwise λa b=>a.1<b.1
 low:∀a∈P,∀j,j<a.1->a.2 j=0
 one:∀a∈P,a.2 a.1=1
 zer:∀a∈P,∀b∈P,a.1≠b.1->b.2 a.1=0
def Mem(P:Pt F)(v:Vec F):Prop:=∀j,v j=pr P v j
theorem Zgf(P u v)(c:F)(j):pr P (λj=>u j+c*v j) j=pr P u j+c*pr P v j:=by
 induction P with|nil=>show(0:F)=0+c*0;grind|cons a P ih=>show(u a.1+c*v a.1)*a.2 j+pr P _ j=(u a.1*a.2 j+pr P u j)+c*(v a.1*a.2 j+pr P v j);grind
theorem zf(P u v)(c:F)(j):pr P (λj=>u j-c*v j) j=pr P u j-c*pr P v j:=by
 induction P with|nil=>show(0:F)=0-c*0;grind|cons a P ih=>show(u a.1-c*v a.1)*a.2 j+pr P _ j=(u a.1*a.2 j+pr P u j)-c*(v a.1*a.2 j+pr P v j);grind
def xp{P:Pt F}(h:∀b∈P,u b.1=v b.1)(j):pr P u j=pr P v j:=by
 induction P with
 |nil=>rfl
 |cons a P ih=>
  show u a.1*a.2 j+pr P u j=v a.1*a.2 j+pr P v j;rw[h a<|al ..,ih λb hb=>h b<|am _ hb]
theorem XT{P:Pt F}(h:∀b∈P,v b.1*b.2 j=0):pr P v j=0:=by
 induction P with
 |nil=>rfl
 |cons a P ih=>
  show v a.1*a.2 j+pr P v j=0;rw[h a<|al ..];grind
theorem uh{P:Pt F}(inc:P.Pairwise λa b=>a.1<b.1)(ha:a∈P)(h:∀b∈P,b.1≠a.1->v b.1*b.2 j=0):pr P v j=v a.1*a.2 j:=by
 induction P with
 |nil=>cases ha
 |cons b P ih=>
  rw[bj]at inc;show v b.1*b.2 j+pr P v j=_;rcases aw.mp ha with e|hm
  .subst e
   rw[XT λc hc=>h c (am _ hc) (by have:=inc.1 c hc;lia)];grind
  .rw[h b (al ..) (by have:=inc.1 a hm;lia)];grind
def Rf.tail{P:Pt F}(h:Rf (a::P)):Rf P:=
 #[(bj.mp h.inc).2,λb hb=>h.low b<|am _ hb,λb hb=>h.one b<|am _ hb,λb hb c hc=>h.zer b (am _ hb) c<|am _ hc]
def Rf.nil:Rf ([]:Pt F):=#[k8,λ_ h=>(by cases h),λ_ h=>(by cases h),λ_ h=>(by cases h)]
theorem vD(h:Rf P)(ha:a∈P)(v:Vec F):pr P v a.1=v a.1:=by
 rw[uh h.inc ha λb hb ne=>by rw[h.zer a ha b hb<|Ne.symm ne];grind,h.one a ha];grind
theorem WB{P:Pt F}(h:Rf P)(ha:a∈P):Mem P a.2:=λj=>by
 rw[uh h.inc ha λb hb ne=>by rw[h.zer b hb a ha ne];grind,h.one a ha];grind
def UR(c:F)(hu:Mem P u)(hv:Mem P v):Mem P λj=>u j+c*v j:=λj=>by
 rw[Zgf,<-hu j,<-hv j]
def Gw(c:F)(hu:Mem P u)(hv:Mem P v):Mem P λj=>u j-c*v j:=λj=>by
 rw[zf,<-hu j,<-hv j]
theorem yf{P:Pt F}:Mem P λ_=>0:=λj=>(XT λb _=>by grind).symm
def ZaI(h:Rf P)(v:Vec F):Mem P (pr P v):=λj=>xp (λb hb=>(vD h hb v).symm) j
theorem jt{v:Vec F}(h:Mem P v)(z:∀b∈P,v b.1=0)(j:Nat):v j=0:=by
 rw[h j];exact XT λb hb=>by rw[z b hb];grind
theorem zC{P:Pt F}(h:Rf P)(hv:Mem P v)(hk:v k≠0)(hl:∀j,j<k->v j=0):∃a∈P,a.1=k:=by
 have inc:=h.inc;have low:=h.low;have gen:∀Q,Q.Pairwise (λa b=>a.1<b.1)->(∀a∈Q,∀j,j<a.1->a.2 j=0)->(∀j,v j=pr Q v j)->∃a∈Q,v a.1≠0/\∀j,j<a.1->v j=0:=by
  intro Q
  induction Q with
  |nil=>intro _ _ e;exact T7 (e k) hk
  |cons a Q ih=>
   intro inc low e;rw[bj]at inc;by_cases c:v a.1=0
   .obtain⟨b,hb,r⟩:=ih inc.2 (λb hb=>low b<|am _ hb) λj=>by
     have:v j=v a.1*a.2 j+pr Q v j:=e j;rw[c]at this;grind
    exact#[b,am _ hb,r]
   .refine#[a,al ..,c,λj hj=>?_]
    have e1:v j=v a.1*a.2 j+pr Q v j:=e j;have e2:pr Q v j=0:=XT λb hb=>by rw[low b (am _ hb) j (by have:=inc.1 b hb;lia)];grind
    rw[e1];grind
 obtain⟨a,ha,h1,h2⟩:=gen P inc low hv;refine#[a,ha,?_];by_cases c:a.1<k
 .exact T7 (hl _ c) h1
 .by_cases c2:k<a.1
  .exact T7 (h2 _ c2) hk
  .lia
def JZ{P Q:Pt F}(one0:(1:F)≠0)(hP:Rf P)(hQ:Rf Q)(h:∀v,Mem P v->Mem Q v):∀a∈P,∃b∈Q,b.1=a.1:=λa ha=>
 zC hQ (h _<|WB hP ha) (by rw[hP.one a ha];exact one0) (hP.low a ha)
theorem wf:∀{a b:List Nat},a.Pairwise (· < ·)->b.Pairwise (· < ·)->(∀x,x∈a↔x∈b)->a=b
 |[],[],_,_,_=>rfl
 |[],y::b,_,_,h=>by have:=(h y).mpr<|al ..;cases this
 |x::a,[],_,_,h=>by have:=(h x).mp<|al ..;cases this
 |x::a,y::b,ha,hb,h=>by
  rw[bj]at ha hb;have e:x=y:=by
   rcases aw.mp ((h x).mp<|al ..)with e|e
   .exact e
   .rcases aw.mp ((h y).mpr<|al ..)with e'|e'
    .exact e'.symm
    .have:=hb.1 x e;have:=ha.1 y e';lia
  subst e;rw[wf ha.2 hb.2 λz=>?_]
  constructor
  .intro hz
   rcases aw.mp ((h z).mp<|am _ hz)with e|e
   .have:=ha.1 z hz;lia
   .exact e
  .intro hz
   rcases aw.mp ((h z).mpr<|am _ hz)with e|e
   .have:=hb.1 z hz;lia
   .exact e
theorem GY:∀{a b:List Nat},a.Pairwise (· < ·)->b.Pairwise (· < ·)->(∀x∈a,x∈b)->a.length<=b.length/\(a.length=b.length->a=b)
 |[],b,_,_,_=>#[db _,λe=>(fv.mp e.symm).symm]
 |x::a,[],_,_,h=>by have:=h x<|al ..;cases this
 |x::a,y::b,ha,hb,h=>by
  have ha':=ha;rw[bj]at ha hb;by_cases e:x=y
  .subst e
   obtain⟨h1,h2⟩:=GY ha.2 hb.2 λz hz=>by
    rcases aw.mp (h z<|am _ hz)with e|e
    .have:=ha.1 z hz;lia
    .exact e
   refine#[by simp only[aV];lia,λe=>?_]
   rw[h2 (by simpa using e)]
  .have hxb:x∈b:=by
    rcases aw.mp (h x<|al ..)with e'|e'
    .exact T7 e' e
    .exact e'
   have:=hb.1 x hxb;obtain⟨h1,h2⟩:=GY ha' hb.2 λz hz=>by
    rcases aw.mp (h z hz)with e'|e'
    .rcases aw.mp hz with e2|e2
     .lia
     .have:=ha.1 z e2;lia
    .exact e'
   simp only[aV]at h1 ⊢;exact#[by lia,λe=>by lia]
def Rf.heads{P:Pt F}(h:Rf P):(P.map (·.1)).Pairwise (· < ·):=cZ.mpr h.inc
theorem uniq{P Q:Pt F}(one0:(1:F)≠0)(hP:Rf P)(hQ:Rf Q)(h:∀v,Mem P v↔Mem Q v):P=Q:=by
 have eh:=wf hP.heads hQ.heads λx=>by
  constructor
  .intro hx
   obtain⟨a,ha,rfl⟩:=aM.mp hx;obtain⟨b,hb,e⟩:=JZ one0 hP hQ (λv=>(h v).mp) a ha
   exact aM.mpr #[b,hb,e]
  .intro hx
   obtain⟨a,ha,rfl⟩:=aM.mp hx;obtain⟨b,hb,e⟩:=JZ one0 hQ hP (λv=>(h v).mpr) a ha
   exact aM.mpr #[b,hb,e]
 have ev:∀a∈P,∀b∈Q,a.1=b.1->a.2=b.2:=by
  intro a ha b hb e;have hd:=Gw 1 (WB hP ha)<|(h _).mpr<|WB hQ hb
  funext j
  have:=jt hd (λc hc=>by
   have:c.1∈Q.map (·.1):=by rw[<-eh];exact aM.mpr #[c,hc,rfl]
   obtain⟨c',hc',ec⟩:=aM.mp this;by_cases z:c.1=a.1
   .rw[z,hP.one a ha,e,hQ.one b hb];grind
   .rw[hP.zer c hc a ha z,<-ec,hQ.zer c' hc' b hb #[0]];grind) j
  grind
 clear h hP hQ
 induction P generalizing Q with
 |nil=>cases Q with|nil=>rfl|cons b Q=>cases eh
 |cons a P ih=>cases Q with
  |nil=>cases eh
  |cons b Q=>
   rw[aY]at eh;injection eh with e1 e2
   rw[ih e2 λx hx y hy=>ev x (am _ hx) y<|am _ hy]
   rw[Prod.ext e1<|ev a (al ..) b (al ..) e1]
def ins(x:Nat×Vec F):Pt F->Pt F
 |[]=>[x]
 |y::P=>if x.1<y.1 then x::y::P else y::ins x P
theorem YG(x):∀P:Pt F,(ins x P).Perm (x::P)
 |[]=>cC _
 |y::P=>by
  unfold ins;split
  .exact cC _
  .exact((YG x P).cons y).trans<|kO x y P
theorem vC(x):∀{P:Pt F},P.Pairwise (λa b=>a.1<b.1)->(∀a∈P,a.1≠x.1)->(ins x P).Pairwise λa b=>a.1<b.1
 |[],_,_=>by exact lQ ..
 |y::P,h,hn=>by
  have h':=bj.mp h;unfold ins;split
  .rename_i c
   refine bj.mpr #[λz hz=>?_,h]
   rcases aw.mp hz with rfl|hz
   .exact c
   .have:=h'.1 z hz;lia
  .rename_i c
   refine bj.mpr #[λz hz=>?_,vC x h'.2 λa ha=>hn a<|am _ ha]
   rcases aw.mp ((YG x P).mem_iff.mp hz)with rfl|hz
   .have:=hn y<|al ..;lia
   .exact h'.1 z hz
theorem Zae(x v j):∀P:Pt F,pr (ins x P) v j=v x.1*x.2 j+pr P v j
 |[]=>rfl
 |y::P=>by
  unfold ins;split
  .rfl
  .show v y.1*y.2 j+pr (ins x P) v j=v x.1*x.2 j+(v y.1*y.2 j+pr P v j)
   rw[Zae x v j P];grind
def off(h:Nat)(l:Vec F)(a:Nat×Vec F):Nat×Vec F:=(a.1,λj=>a.2 j-a.2 h*l j)
def wid(P:Pt F)(h:Nat)(l:Vec F):Pt F:=ins (h,l)<|P.map<|off h l
theorem Zaw(h l v j):∀P:Pt F,pr (P.map<|off h l) v j=pr P v j-pr P v h*l j
 |[]=>by show(0:F)=0-0*l j;grind
 |a::P=>by
  show v a.1*(a.2 j-a.2 h*l j)+pr (P.map<|off h l) v j=(v a.1*a.2 j+pr P v j)-(v a.1*a.2 h+pr P v h)*l j;rw[Zaw h l v j P];grind
structure Lead(P:Pt F)(h:Nat)(l:Vec F):Prop where
 one:l h=1
 low:∀j,j<h->l j=0
 zer:∀a∈P,l a.1=0
def Lead.ne{P:Pt F}(one0:(1:F)≠0)(L:Lead P h l)(ha:a∈P):a.1≠h:=λe=>by
 have:=L.zer a ha;rw[e,L.one]at this;exact one0 this
theorem ZeM{P:Pt F}(one0:(1:F)≠0)(hP:Rf P)(L:Lead P h l):Rf (wid P h l):=by
 have mem:∀{x},x∈wid P h l->x=(h,l)\/∃a∈P,x=off h l a:=λ{x} hx=>by
  rcases aw.mp ((YG _ _).mem_iff.mp hx)with e|e
  .exact .inl e
  .obtain⟨a,ha,e⟩:=aM.mp e
   exact .inr #[a,ha,e.symm]
 refine#[vC _ ?_ ?_,λx hx j hj=>?_,λx hx=>?_,λx hx y hy ne=>?_]
 .exact cZ.mpr hP.inc
 .intro a ha
  obtain⟨b,hb,rfl⟩:=aM.mp ha;exact L.ne (a:=b) one0 hb
 .rcases mem hx with rfl|⟨a,ha,rfl⟩
  .exact L.low j hj
  .show a.2 j-a.2 h*l j=0
   rw[hP.low a ha j hj];by_cases c:h<a.1
   .rw[hP.low a ha h c];grind
   .have:j<a.1:=hj
    rw[L.low j (by have:=L.ne one0 ha;lia)];grind
 .rcases mem hx with rfl|⟨a,ha,rfl⟩
  .exact L.one
  .show a.2 a.1-a.2 h*l a.1=1
   rw[hP.one a ha,L.zer a ha];grind
 .rcases mem hx with rfl|⟨a,ha,rfl⟩
  .rcases mem hy with rfl|⟨b,hb,rfl⟩
   .exact T7 rfl ne
   .show b.2 h-b.2 h*l h=0
    rw[L.one];grind
  .rcases mem hy with rfl|⟨b,hb,rfl⟩
   .exact L.zer a ha
   .show b.2 a.1-b.2 h*l a.1=0
    rw[hP.zer a ha b hb ne,L.zer a ha];grind
def ZcT(P:Pt F)(h l):(wid P h l).length=P.length+1:=by
 have:=(YG (h,l)<|P.map<|off h l).length_eq;rwa[aV,ax]at this
theorem Zdo(hP:Rf P)(L:Lead P h l)(u:Vec F):Mem (wid P h l) u↔∃c,Mem P λj=>u j-c*l j:=by
 have e:∀j,pr (wid P h l) u j=u h*l j+(pr P u j-pr P u h*l j):=λj=>by
  unfold wid;rw[Zae,Zaw]
 have pl:∀j,pr P l j=0:=λj=>XT λb hb=>by rw[L.zer b hb];grind
 constructor
 .intro hu
  refine#[u h-pr P u h,λj=>?_]
  rw[zf];have:=hu j;rw[e j]at this;show u j-(u h-pr P u h)*l j=_
  grind
 .rintro ⟨c,hc⟩ j
  rw[e j];have h1:=hc j;have h2:u h-c*l h=_:=hc h;rw[zf]at h1 h2;rw[L.one]at h2
  grind
def rest(P:Pt F)(v:Vec F):Vec F:=λj=>v j-pr P v j
theorem jN(hP:Rf P)(v:Vec F)(ha:a∈P):rest P v a.1=0:=by
 unfold rest;rw[vD hP ha];grind
theorem Qx{P:Pt F}:(∀j,rest P v j=0)↔Mem P v:=by
 constructor
 .intro h j;have:=h j;unfold rest at this;grind
 .intro h j;have:=h j;unfold rest;grind
theorem wX(hP:Rf P){i:F}(hi:i*rest P v h=1)(hl:∀j,j<h->rest P v j=0):Lead P h λj=>i*rest P v j:=
 #[hi,λj hj=>by rw[hl j hj];grind,λa ha=>by rw[jN hP v ha];grind]
theorem jf(hP:Rf P){i:F}(hi:i*rest P v h=1)(hl:∀j,j<h->rest P v j=0)(u) :
  Mem (wid P h λj=>i*rest P v j) u↔∃c,Mem P λj=>u j-c*v j:=by
 rw[Zdo hP<|wX hP hi hl]
 constructor
 .rintro ⟨c,hc⟩
  refine#[c*i,?_];have:=Gw (c*i) hc<|ZaI hP v;have e:(λj=>(u j-c*(i*rest P v j))-c*i*pr P v j)=λj=>u j-c*i*v j:=by funext j;unfold rest;grind
  rwa[e]at this
 .rintro ⟨c,hc⟩
  refine#[c*rest P v h,?_];have:=UR c hc<|ZaI hP v;have e:(λj=>(u j-c*v j)+c*pr P v j)=λj=>u j-c*rest P v h*(i*rest P v j):=by funext j;unfold rest at hi ⊢;grind
  rwa[e]at this
theorem jD(hv:Mem P v)(u:Vec F):Mem P u↔∃c,Mem P λj=>u j-c*v j:=by
 constructor
 .intro h;exact#[0,by have:=Gw 0 h hv;exact this]
 .rintro ⟨c,hc⟩
  have:=UR c hc hv;have e:(λj=>(u j-c*v j)+c*v j)=u:=by funext j;grind
  rw[e]at this;exact this
def xI(P:Pt F):List (Vec F)->Vec F->Prop
 |[],u=>Mem P u
 |v::vs,u=>∃c,xI P vs λj=>u j-c*v j
theorem VX(h:∀u,Mem P' u↔∃c,Mem P λj=>u j-c*v j):∀vs (u:Vec F),xI P' vs u↔xI P (v::vs) u
 |[],u=>h u
 |w::vs,u=>by
  constructor
  .rintro ⟨d,hd⟩
   obtain⟨c,hc⟩:=(VX h vs _).mp hd;refine#[c,d,?_];have e:(λj=>u j-c*v j-d*w j)=λj=>u j-d*w j-c*v j:=by funext j;grind
   rw[e];exact hc
  .rintro ⟨c,d,hc⟩
   refine#[d,(VX h vs _).mpr #[c,?_]];have e:(λj=>u j-d*w j-c*v j)=λj=>u j-c*v j-d*w j:=by funext j;grind
   rw[e];exact hc
theorem qc(hQ:Rf Q)(u:Vec F):xI P (Q.map (·.2)) u↔∃q,Mem Q q/\Mem P λj=>u j-q j:=by
 constructor
 .have gen:∀ws u,(∀w∈ws,Mem Q w)->xI P ws u->∃q,Mem Q q/\Mem P λj=>u j-q j:=by
   intro ws
   induction ws with
   |nil=>intro u _ h;exact#[λ_=>0,yf,by
    have e:(λj=>u j-0)=u:=by funext j;grind
    rw[e];exact h]
   |cons w ws ih=>
    rintro u hw ⟨c,h⟩
    obtain⟨q,hq,hp⟩:=ih _ (λx hx=>hw x<|am _ hx) h
    refine#[λj=>q j+c*w j,UR c hq<|hw w<|al ..,?_]
    have e:(λj=>u j-(q j+c*w j))=λj=>u j-c*w j-q j:=by funext j;grind
    rw[e];exact hp
  exact gen _ u λw hw=>by obtain⟨a,ha,rfl⟩:=aM.mp hw;exact WB hQ ha
 .rintro ⟨q,hq,hp⟩
  have gen:∀R u,(Mem P λj=>u j-pr R q j)->xI P (R.map (·.2)) u:=by
   intro R
   induction R with
   |nil=>
    intro u h;have e:(λj=>u j-pr [] q j)=u:=by funext j;show u j-0=u j;grind
    rwa[e]at h
   |cons a R ih=>
    intro u h;refine#[q a.1,ih _ ?_];have e:(λj=>u j-q a.1*a.2 j-pr R q j)=λj=>u j-pr (a::R) q j:=by funext j;show _=u j-(q a.1*a.2 j+pr R q j);grind
    rw[e];exact h
  refine gen Q u ?_;have e:(λj=>u j-pr Q q j)=λj=>u j-q j:=by funext j;rw[<-hq j]
  rw[e];exact hp
variable{F:Type}[nk F][DecidableEq F]
def Supp(n:Nat)(v:Vec F):Prop:=∀j,n<=j->v j=0
structure Pn(n:Nat)(P:Pt F):Prop where
 rf:Rf P
 lt:∀a∈P,a.1<n
 sp:∀a∈P,Supp n a.2
theorem Pn.nil :Pn n ([]:Pt F):=#[Rf.nil,λ_ h=>(by cases h),λ_ h=>(by cases h)]
def ZfV{n:Nat}{P:Pt F}(h:Pn n P):P.length<=n:=by
 have:=(GY h.rf.heads (List.pairwise_lt_range (n:=n)) λx hx=>by
  obtain⟨a,ha,rfl⟩:=aM.mp hx;exact aU.mpr<|h.lt a ha).1
 rwa [ax,bu]at this
theorem Zds(h:Pn n P)(v:Vec F):Supp n (pr P v):=λj hj=>XT λb hb=>by rw[h.sp b hb j hj];grind
def hdV(n:Nat)(v:Vec F):Option Nat:=(aO n).find? λj=>ag<|v j≠0
theorem Zbi{v:Vec F}(hs:Supp n v)(h:hdV n v=ai)(j):v j=0:=by
 by_cases c:j<n
 .have:=n4.mp h j (aU.mpr c)
  simpa using this
 .exact hs j #[0]
def zZ{v:Vec F}(h:hdV n v=aa k):k<n/\v k≠0/\∀j,j<k->v j=0:=by
 unfold hdV at h;rw[lG]at h;obtain⟨h1,h2,h3⟩:=h;refine#[aU.mp h2,by simpa using h1,λj hj=>?_]
 have:=h3 j hj
 simpa using this
def xK{v:Vec F}(hk:k<n)(h1:v k≠0)(h2:∀j,j<k->v j=0):hdV n v=aa k:=by
 unfold hdV;rw[lG];exact#[by simpa using h1,aU.mpr hk,λj hj=>by simpa using h2 j hj]
structure Fld(inv:F->F):Prop where
 inv:∀a,a≠0->inv a*a=1
 one0:(1:F)≠0
section
variable{inv:F->F}{n:Nat}
def more(inv:F->F)(n:Nat)(P:Pt F)(v:Vec F):Pt F:=match hdV n (rest P v)with
 |none=>P
 |some h=>wid P h λj=>inv (rest P v h)*rest P v j
structure Grow(n:Nat)(P:Pt F)(v:Vec F)(P':Pt F):Prop where
 pn:Pn n P'
 mem:∀u,Mem P' u↔∃c,Mem P λj=>u j-c*v j
 same:Mem P v->P'=P
 len:¬Mem P v->P'.length=P.length+1
theorem Vx(f:Fld inv)(hP:Pn n P)(hv:Supp n v):Grow n P v (more inv n P v):=by
 have hs:Supp n (rest P v):=λj hj=>by unfold rest;rw[hv j hj,Zds hP v j hj];grind
 cases q:hdV n (rest P v)with
 |none=>
  have e:more inv n P v=P:=by unfold more;rw[q]
  have hm:=Qx.mp<|Zbi hs q;rw[e];exact#[hP,jD hm,λ_=>rfl,λh=>T7 hm h]
 |some h=>
  have e:more inv n P v=wid P h λj=>inv (rest P v h)*rest P v j:=by unfold more;rw[q]
  obtain⟨h1,h2,h3⟩:=zZ q;have hi:=f.inv _ h2;rw[e];refine#[#[ZeM f.one0 hP.rf<|wX hP.rf hi h3,λa ha=>?_,λa ha=>?_],jf hP.rf hi h3,λhm=>T7 (Qx.mpr hm h) h2,λ_=>ZcT ..]
  .rcases aw.mp ((YG _ _).mem_iff.mp ha)with e|e
   .rw[e];exact h1
   .obtain⟨b,hb,rfl⟩:=aM.mp e
    exact hP.lt b hb
  .rcases aw.mp ((YG _ _).mem_iff.mp ha)with e|e
   .rw[e];intro j hj
    show inv (rest P v h)*rest P v j=0;rw[hs j hj];grind
   .obtain⟨b,hb,rfl⟩:=aM.mp e
    intro j hj;show b.2 j-b.2 h*(inv (rest P v h)*rest P v j)=0;rw[hP.sp b hb j hj,hs j hj];grind
def wF(inv:F->F)(n:Nat)(P:Pt F)(vs:List (Vec F)):Pt F:=vs.foldl (more inv n) P
theorem z5(f:Fld inv):∀vs {P:Pt F},Pn n P->(∀v∈vs,Supp n v)->Pn n (wF inv n P vs)/\∀u,Mem (wF inv n P vs) u↔xI P vs u
 |[],P,hP,_=>#[hP,λu=>Iff.rfl]
 |v::vs,P,hP,hv=>by
  have g:=Vx f hP<|hv v<|al ..;obtain⟨a,b⟩:=z5 f vs g.pn λw hw=>hv w<|am _ hw
  exact#[a,λu=>(b u).trans<|VX g.mem vs u]
def join(inv:F->F)(n:Nat)(P Q:Pt F):Pt F:=wF inv n P (Q.map (·.2))
def qW(f:Fld inv)(hP:Pn n P)(hQ:Pn n Q)(u):Mem (join inv n P Q) u↔∃q,Mem Q q/\Mem P λj=>u j-q j:=
 ((z5 f _ hP λv hv=>by obtain⟨a,ha,rfl⟩:=aM.mp hv;exact hQ.sp a ha).2 u).trans (qc hQ.rf u)
def ZhA(f:Fld inv){P Q:Pt F}(hP:Pn n P)(hQ:Pn n Q)(h:∀v,Mem P v↔Mem Q v):P=Q:=uniq f.one0 hP.rf hQ.rf h
end
end La
namespace Rw
open La
open Ev (ltI YR Zr)
section
variable{p:Nat}[NeZero p]
def ph(p:Nat)[NeZero p](a:Int):Fin p:=Fin.ofNat p (a%p).toNat
theorem ppos:(0:Int)<p:=by have:=NeZero.ne p;lia
theorem YM(a):((ph p a).val:Int)=a%p:=by
 have h:=ppos (p:=p);have h0:=gZ a (by lia:(p:Int)≠0)
 show((((a%p).toNat)%p:Nat):Int)=a%p;rw[Nat.mod_eq_of_lt<|(Int.toNat_lt h0).mpr<|fP a h];exact ki h0
theorem Vt{x y:Fin p}(h:(x.val:Int)=y.val):x=y:=Fin.ext #[0]
def qV(a b):ph p (a+b)=ph p a+ph p b:=Vt (by
 rw[YM];show(a+b)%p=(((ph p a).val+(ph p b).val:Nat):Int)%p;rw[pK,YM,YM,<-Int.add_emod])
def Zb7(a b):ph p (a*b)=ph p a*ph p b:=Vt (by
 rw[YM];show(a*b)%p=(((ph p a).val*(ph p b).val:Nat):Int)%p;rw[Int.natCast_mul,YM,YM,<-Int.mul_emod])
def Za2(a:Int):ph p (a%p)=ph p a:=Vt (by rw[YM,YM,Int.emod_emod])
def Vi:ph p 0=0:=Vt (by rw[YM];simp)
theorem V0(a):ph p (-a) = - ph p a:=by
 have h:ph p (-a+a)=ph p (-a)+ph p a:=qV _ _;rw[show -a+a=0 by lia,Vi]at h
 grind
def wp{a b:Int}(ha:0<=a/\a<p)(hb:0<=b/\b<p)(h:ph p a=ph p b):a=b:=by
 have:=congrArg (λx:Fin p=>(x.val:Int)) h
 simp[YM]at this;rwa[gf ha.1 ha.2,gf hb.1 hb.2]at this
theorem Zhn{a:Int}(ha:0<=a/\a<p):ph p a=0↔a=0:=by
 constructor
 .intro h;exact wp ha #[by lia,ppos] (by rw[h,Vi])
 .rintro rfl;exact Vi
end
abbrev Row:=List Int
def Zf(p n:Nat)(r:Row):Prop:=r.length=n/\∀a∈r,0<=a/\a<(p:Int)
def gt(r:Row)(j:Nat):Int:=r.getD j 0
def XY{p n:Nat}(h0:(0:Int)<p)(h:Zf p n r)(j):0<=gt r j/\gt r j<p:=by
 unfold gt;rw[aA];cases q:r[j]? with|none=>exact#[Int.le_refl _,h0]|some a=>exact h.2 a<|cO q
def Zay(h:r.length<=j):gt r j=0:=by unfold gt;rw[aA,bM h];rfl
def jC(hl:r.length=s.length)(h:∀j,gt r j=gt s j):r=s:=by
 apply iM hl;intro j h1 h2;have:=h j;unfold gt at this;rwa[aA,aA,af h1,af h2]at this
noncomputable def hdI:Row->Option Nat
 |[]=>ai
 |a::r=>if a≠0 then aa 0 else(hdI r).map (· + 1)
theorem Z1:∀{r:Row}{k:Nat},hdI r=aa k->gt r k≠0/\k<r.length/\∀j,j<k->gt r j=0
 |[],k,h=>by cases h
 |a::r,k,h=>by
  unfold hdI at h;by_cases c:a≠0
  .rw[T9 c]at h;cases h;exact#[c,by simp,λj hj=>by lia]
  .rw[T8 c]at h
   cases q:hdI r with
   |none=>rw[q]at h;cases h
   |some m=>
    rw[q]at h;have e:=ap h;subst e;obtain⟨h1,h2,h3⟩:=Z1 q;refine#[h1,by simp;lia,λj hj=>?_]
    cases j with|zero=>exact oO.mp c|succ j=>exact h3 j #[0]
theorem Y4:∀{r:Row},hdI r=ai->∀j,gt r j=0
 |[],_,j=>Zay<|db _
 |a::r,h,j=>by
  unfold hdI at h;by_cases c:a≠0
  .rw[T9 c]at h;cases h
  .rw[T8 c]at h
   cases j with|zero=>exact oO.mp c|succ j=>exact Y4 (mj.mp h) j
section
variable{p n:Nat}[NeZero p]
def toV(p:Nat)[NeZero p](r:Row):Vec (Fin p):=λj=>ph p<|gt r j
def Xg{r s:Row}(hr:Zf p n r)(hs:Zf p n s)(h:toV p r=toV p s):r=s:=
 jC (by rw[hr.1,hs.1]) λj=>wp (XY ppos hr j) (XY ppos hs j)<|congrFun h j
def Wa(hr:Zf p n r):Supp n (toV p r):=λj hj=>by unfold toV;rw[Zay (by rw[hr.1];exact hj),Vi]
def Yi{r:Row}(hr:Zf p n r) :toV p r j=0↔gt r j=0:=Zhn<|XY ppos hr j
def we(hr:Zf p n r):hdV n (toV p r)=hdI r:=by
 cases q:hdI r with
 |none=>
  cases q2:hdV n (toV p r)with|none=>rfl|some k=>exact T7 ((Yi hr).mpr<|Y4 q k) (zZ q2).2.1
 |some k=>
  obtain⟨a,b,c⟩:=Z1 q;exact xK (by rw[<-hr.1];exact b) (λz=>a<|(Yi hr).mp z) λj hj=>(Yi hr).mpr<|c j hj
def Zy(p:Nat)(r o:Row)(k:Int):Row:=List.zipWith (λa b=>(a+k*b)%p) r o
def Wv(p:Nat)(r:Row)(k:Int):Row:=r.map λa=>k*a%p
theorem Zgh(hl:r.length=o.length)(h0:f 0 0=0)(j):gt (List.zipWith f r o) j=f (gt r j) (gt o j):=by
 unfold gt;simp;rw[List.getElem?_zipWith];by_cases c:j<r.length
 .rw[af c,af #[0]];rfl
 .rw[bM #[0],bM #[0]];exact h0.symm
theorem Zu(hr:Zf p n r)(ho:Zf p n o):Zf p n (Zy p r o k):=by
 refine#[by unfold Zy;rw[List.length_zipWith,hr.1,ho.1];simp,λa ha=>?_]
 unfold Zy at ha;rw[<-iG]at ha;obtain⟨⟨x,y⟩,_,rfl⟩:=aM.mp ha;exact#[gZ _ (by have:=ppos (p:=p);lia),fP _ ppos]
def UQ(hr:Zf p n r)(ho:Zf p n o)(j):gt (Zy p r o k) j=(gt r j+k*gt o j)%p:=by
 unfold Zy;rw[Zgh (by rw[hr.1,ho.1]) #[2]]
def Z0(hr:Zf p n r)(ho:Zf p n o):toV p (Zy p r o k)=λj=>toV p r j+ph p k*toV p o j:=by
 funext j
 unfold toV;rw[UQ hr ho,Za2,qV,Zb7]
def ZbF(j):gt (Wv p r k) j=k*gt r j%p:=by
 unfold Wv gt;simp;cases r[j]?<;>simp
theorem Jp(hr:Zf p n r):Zf p n (Wv p r k):=by
 refine#[by unfold Wv;rw[ax,hr.1],λa ha=>?_]
 obtain⟨x,_,rfl⟩:=aM.mp ha;exact#[gZ _ (by have:=ppos (p:=p);lia),fP _ ppos]
def u6 :toV p (Wv p r k)=λj=>ph p k*toV p r j:=by
 funext j
 unfold toV;rw[ZbF,Za2,Zb7]
def toP(p:Nat)[NeZero p](P:List Row):Pt (Fin p):=P.map λr=>((hdI r).getD 0,toV p r)
structure pZ(p n:Nat)[NeZero p](P:List Row):Prop where
 row:∀r∈P,Zf p n r
 pn:Pn n (toP p P)
theorem pZ.nil:pZ p n []:=#[λ_ h=>(by cases h),Pn.nil]
def Yp(h:r∈P):((hdI r).getD 0,toV p r)∈toP p P:=aM.mpr #[r,h,rfl]
def pZ.head(one0:(1:Fin p)≠0)(h:pZ p n P)(hr:r∈P):∃k,hdI r=aa k/\k<n/\toV p r k=1:=by
 have h1:=h.pn.rf.one _<|Yp hr;cases q:hdI r with
 |none=>
  rw[q]at h1;have:toV p r 0=1:=h1;rw[((Yi<|h.row r hr).mpr<|Y4 q 0)]at this;exact T7 this.symm one0
 |some k=>
  rw[q]at h1;have h2:=h.pn.lt _<|Yp hr;rw[q]at h2;exact#[k,rfl,h2,h1]
def vJ(hP:∀r∈P,Zf p n r)(hQ:∀r∈Q,Zf p n r)(h:toP p P=toP p Q):P=Q:=by
 induction P generalizing Q with
 |nil=>cases Q with|nil=>rfl|cons b Q=>cases h
 |cons a P ih=>cases Q with
  |nil=>cases h
  |cons b Q=>
   injection h with e1 e2
   rw[Xg (hP a<|al ..) (hQ b<|al ..)<|congrArg Prod.snd e1,ih (λr hr=>hP r<|am _ hr) (λr hr=>hQ r<|am _ hr) e2]
def Zcr(P):(toP p P).map (·.2)=P.map (toV p):=by unfold toP;rw[bS];rfl
def GW(P):(toP p P).length=P.length:=by unfold toP;rw[ax]
def clr(p:Nat)(r o:Row)(h:Nat):Row:=Zy p r o<|-(gt r h)
def Zn(p:Nat)(P:List Row)(r:Row):Row:=P.foldl (λs o=>clr p s o<|(hdI o).getD 0) r
theorem GN(hr:Zf p n r)(ho:Zf p n o):toV p (clr p r o h)=λj=>toV p r j-toV p r h*toV p o j:=by
 unfold clr;rw[Z0 hr ho]
 funext j
 rw[V0];show toV p r j+(- toV p r h)*toV p o j=_
 grind
theorem UN:∀{P:List Row}{r:Row},(∀o∈P,Zf p n o)->Rf (toP p P)->Zf p n r->Zf p n (Zn p P r)/\toV p (Zn p P r)=rest (toP p P) (toV p r)
 |[],r,_,_,hr=>#[hr,by funext j;show toV p r j=toV p r j-0;grind]
 |o::P,r,hP,hf,hr=>by
  have ho:=hP o<|al ..;have hc:Zf p n (clr p r o<|(hdI o).getD 0):=Zu hr ho;obtain⟨a,b⟩:=UN (λo h=>hP o<|am _ h) hf.tail hc
  refine#[a,?_];show toV p (Zn p P<|clr p r o<|(hdI o).getD 0)=_;rw[b,GN hr ho];have z:∀j,pr (toP p P) (toV p o) j=0:=λj=>XT λc hc=>by
   have:toV p o c.1=0:=by
    have h1:c∈toP p (o::P):=am _ hc;have h2:((hdI o).getD 0,toV p o)∈toP p (o::P):=al ..;have h3:=(bj.mp hf.inc).1 c hc;exact hf.zer c h1 _ h2 (by simp only at h3 ⊢;lia)
   rw[this];grind
  funext j
  unfold rest;rw[zf,z];show toV p r j-toV p r ((hdI o).getD 0)*toV p o j-(pr (toP p P) (toV p r) j-_*0)=toV p r j-(toV p r ((hdI o).getD 0)*toV p o j+pr (toP p P) (toV p r) j)
  grind
def qZ(hP:pZ p n P)(hr:Zf p n r):hdI (Zn p P r)=ai↔Mem (toP p P) (toV p r):=by
 obtain⟨a,b⟩:=UN hP.row hP.pn.rf hr;rw[<-Qx,<-b]
 constructor
 .intro h j;exact(Yi a).mpr<|Y4 h j
 .intro h
  cases q:hdI (Zn p P r)with|none=>rfl|some k=>exact T7 ((Yi a).mp<|h k) (Z1 q).1
end
noncomputable def UZ(p:Nat)(a:Int):Int:=if a=1 then 1 else if p=3 then 2 else if a=2 then 3 else if a=3 then 2 else 4
def yp(p:Nat)[NeZero p](x:Fin p):Fin p:=ph p<|UZ p x.val
class Base(p:Nat):Prop where
 b:p=2\/p=3\/p=5
instance(p:Nat)[h:Base p]:NeZero p:=⟨by rcases h.b with e|e|e<;>lia⟩
section
variable{p n:Nat}[Base p]
def fld2:∀a,a≠0->yp 2 a*a=1:=by decide
def fld3:∀a,a≠0->yp 3 a*a=1:=by decide
def fld5:∀a,a≠0->yp 5 a*a=1:=by decide
def one2:(1:Fin 2)≠0:=by decide
def one3:(1:Fin 3)≠0:=by decide
def one5:(1:Fin 5)≠0:=by decide
def fld:Fld (yp p):=by
 rcases(inferInstance:Base p).b with e|e|e<;>subst e
 .exact#[fld2,one2]
 .exact#[fld3,one3]
 .exact#[fld5,one5]
def Zdn(h:0<=a/\a<(p:Int)):((ph p a).val:Int)=a:=by rw[YM,gf h.1 h.2]
def lead(p:Nat)(s:Row)(h:Nat):Row:=Wv p s<|UZ p<|gt s h
def XD(p:Nat)(P:List Row)(r:Row):List Row:=match hdI (Zn p P r)with
 |none=>P
 |some h=>(Zr<|P.map (λo=>clr p o (lead p (Zn p P r) h) h)++[lead p (Zn p P r) h]).reverse
def wA(h:Nat)(x:Row):List Row->List Row
 |[]=>[x]
 |y::P=>if h<(hdI y).getD 0 then x::y::P else y::wA h x P
theorem VU(h x):∀P,(wA h x P).Perm (x::P)
 |[]=>cC _
 |y::P=>by
  unfold wA;split
  .exact cC _
  .exact((VU h x P).cons y).trans<|kO x y P
theorem zL(hx:hdI x=aa h):∀P,toP p (wA h x P)=ins (h,toV p x) (toP p P)
 |[]=>by show[((hdI x).getD 0,toV p x)]=_;rw[hx];rfl
 |y::P=>by
  show toP p (if h<(hdI y).getD 0 then _ else _)=(if h<(hdI y).getD 0 then _ else _)
  split
  .show((hdI x).getD 0,toV p x)::_=_;rw[hx];rfl
  .show((hdI y).getD 0,toV p y)::toP p (wA h x P)=_;rw[zL hx P];rfl
theorem jq:∀{a b:Row}{h:Nat},a.length=b.length->(∀j,j<h->gt a j=gt b j)->gt b h<gt a h->h<a.length->ltI b a=ak
 |[],_,_,_,_,_,hl=>by simp at hl
 |x::a,[],_,e,_,_,_=>by simp at e
 |x::a,y::b,0,_,_,hlt,_=>by
  have:y<x:=hlt;unfold ltI;rw[T8 #[0]]
  exact T5 this
 |x::a,y::b,h+1,e,hj,hlt,hl=>by
  have:x=y:=hj 0 #[0]
  unfold ltI;rw[T9 this.symm];exact jq (by simpa using e) (λj h'=>hj (j+1)<|by lia) hlt (by simpa using hl)
theorem jB(ha:Zf p n a)(hb:Zf p n b)(h1:hdI a=aa h)(h2:hdI b=aa k)(hk:h<k):ltI b a=ak:=by
 obtain⟨a1,a2,a3⟩:=Z1 h1;obtain⟨b1,b2,b3⟩:=Z1 h2;refine jq (by rw[ha.1,hb.1]) (λj hj=>by rw[a3 j hj,b3 j<|by lia]) ?_ a2
 rw[b3 h hk];have:=(XY ppos ha h).1;lia
def pZ.falls{P:List Row}(hP:pZ p n P):P.Pairwise λa b=>ltI b a=ak:=by
 have inc:P.Pairwise λa b=>(hdI a).getD 0<(hdI b).getD 0:=by
  have:=hP.pn.rf.inc;unfold toP at this;rwa[cZ]at this
 refine lB (λ{a b} ha hb hab=>?_) inc
 obtain⟨h,e1,_⟩:=hP.head fld.one0 ha;obtain⟨k,e2,_⟩:=hP.head fld.one0 hb;rw[e1,e2]at hab;exact jB (hP.row a ha) (hP.row b hb) e1 e2 hab
def Uo{P:List Row}(h:P.Pairwise λa b=>ltI b a=ak):P.Nodup:=List.Pairwise.imp (λ{a b} hab e=>by
 rw[e]at hab;have:=Sd.UO hab;rw[hab]at this;cases this) h
def Zcw(hp:Q.Perm P)(h:Q.Pairwise λa b=>ltI b a=ak):(Zr P).reverse=Q:=by
 rw[(Sd.Wp ((Sd.Xc P).trans<|hp.symm.trans (ee Q).symm) (Sd.XS<|(hp.nodup_iff).mp<|Uo h)<|eN.mpr h),List.reverse_reverse]
def W7(hP:pZ p n P)(hr:Zf p n r):pZ p n (XD p P r)/\toP p (XD p P r)=more (yp p) n (toP p P) (toV p r):=by
 obtain⟨s1,s2⟩:=UN hP.row hP.pn.rf hr;have eh:=we s1;rw[s2]at eh;have g:=Vx fld hP.pn<|Wa hr;unfold XD;cases q:hdI (Zn p P r)with
 |none=>
  rw[q]at eh;exact#[hP,by unfold more;rw[eh]]
 |some h=>
  rw[q]at eh;have em:more (yp p) n (toP p P) (toV p r)=wid (toP p P) h (toV p<|lead p (Zn p P r) h):=by
   unfold more;rw[eh];show wid _ h _=_
   congr 1
   unfold lead;rw[u6,s2]
   funext j
   congr 1
   rw[<-s2];show ph p (UZ p<|(ph p<|gt (Zn p P r) h).val)=_;rw[Zdn<|XY ppos s1 h]
  have hl:Zf p n (lead p (Zn p P r) h):=Jp s1;rw[em]at g;have mem:=λx hx=>xK (g.pn.lt x hx) (by rw[g.pn.rf.one x hx];exact fld.one0)<|g.pn.rf.low x hx
  have hx:hdI (lead p (Zn p P r) h)=aa h:=by
   rw[<-we hl];exact mem (h,toV p<|lead p (Zn p P r) h)<|(YG _ _).mem_iff.mpr<|al ..
  have e1:toP p (P.map λo=>clr p o (lead p (Zn p P r) h) h)=(toP p P).map (off h<|toV p<|lead p (Zn p P r) h):=by
   unfold toP;rw[bS,bS];refine du λo ho=>?_
   have ho':=hP.row o ho;have hc:Zf p n (clr p o (lead p (Zn p P r) h) h):=Zu ho' hl;have ev:toV p (clr p o (lead p (Zn p P r) h) h)=(off h (toV p<|lead p (Zn p P r) h) ((hdI o).getD 0,toV p o)).2:=GN ho' hl;show((hdI<|clr p o (lead p (Zn p P r) h) h).getD 0,toV p<|clr p o (lead p (Zn p P r) h) h)=off h _ ((hdI o).getD 0,toV p o);have:=mem (off h (toV p<|lead p (Zn p P r) h) ((hdI o).getD 0,toV p o))<|(YG _ _).mem_iff.mpr<|am _<|aM.mpr #[_,Yp ho,rfl];rw[<-ev,we hc]at this;rw[this,ev];rfl
  have e2:toP p (wA h (lead p (Zn p P r) h)<|P.map λo=>clr p o (lead p (Zn p P r) h) h)=wid (toP p P) h (toV p<|lead p (Zn p P r) h):=by
   rw[zL hx,e1];rfl
  have hQ:pZ p n (wA h (lead p (Zn p P r) h)<|P.map λo=>clr p o (lead p (Zn p P r) h) h):=by
   refine#[λx hx=>?_,by rw[e2];exact g.pn]
   rcases aw.mp ((VU _ _ _).mem_iff.mp hx)with e|e
   .rw[e];exact hl
   .obtain⟨o,ho,rfl⟩:=aM.mp e
    exact Zu (hP.row o ho) hl
  show pZ p n (Zr _).reverse/\toP p (Zr _).reverse=_;rw[(Zcw ((VU h (lead p (Zn p P r) h)<|P.map λo=>clr p o (lead p (Zn p P r) h) h).trans (List.perm_append_singleton _ _).symm) hQ.falls)];exact#[hQ,by rw[e2,em]]
def Z2(p:Nat)(P:List Row)(rs:List Row):List Row:=rs.foldl (XD p) P
theorem vi:∀{rs:List Row}{P:List Row},pZ p n P->(∀r∈rs,Zf p n r)->pZ p n (Z2 p P rs)/\toP p (Z2 p P rs)=wF (yp p) n (toP p P) (rs.map<|toV p)
 |[],P,hP,_=>#[hP,rfl]
 |r::rs,P,hP,hr=>by
  obtain⟨a,b⟩:=W7 hP<|hr r<|al ..;obtain⟨c,d⟩:=vi a λx hx=>hr x<|am _ hx
  refine#[c,?_];show toP p (Z2 p (XD p P r) rs)=_;rw[d,b];rfl
def yW(hP:pZ p n P)(hQ:pZ p n Q):pZ p n (Z2 p P Q)/\toP p (Z2 p P Q)=join (yp p) n (toP p P) (toP p Q):=by
 obtain⟨a,b⟩:=vi hP hQ.row;exact#[a,by rw[b];unfold join;rw[Zcr]]
def ZI(P:List Row):List Nat:=P.map λr=>(hdI r).getD 0
def WE(P):(toP p P).map (·.1)=ZI P:=by unfold toP ZI;rw[bS];rfl
abbrev Mm(p:Nat)[NeZero p](P:List Row)(u:Vec (Fin p)):Prop:=Mem (toP p P) u
def eqP(hA:pZ p n A)(hB:pZ p n B)(h:∀u,Mm p A u↔Mm p B u):A=B:=vJ hA.row hB.row<|ZhA fld hA.pn hB.pn h
def Zdb{P Q:List Row}(hP:pZ p n P)(hQ:pZ p n Q)(u:Vec (Fin p)):Mm p (Z2 p P Q) u↔∃q,Mm p Q q/\Mm p P λj=>u j-q j:=by
 unfold Mm;rw[(yW hP hQ).2];exact qW fld hP.pn hQ.pn u
def pJ(hP:pZ p n P)(hQ:pZ p n Q):pZ p n (Z2 p P Q):=(yW hP hQ).1
theorem JN{P:List Row}(hP:pZ p n P):Z2 p [] P=P:=eqP (pJ pZ.nil hP) hP λu=>(Zdb pZ.nil hP u).trans #[by
 rintro ⟨q,h1,h2⟩;have e:u=q:=funext λj=>by have:u j-q j=0:=h2 j;grind
 rwa [e],λh=>#[u,h,λj=>by show u j-u j=0;grind]]
def X2(p:Nat)(P:List Row)(r:Row):Bool:=(hdI<|Zn p P r).isNone
def Yb(hP:pZ p n P)(hr:Zf p n r):X2 p P r=ak↔Mm p P (toV p r):=by
 unfold Mm;rw[<-qZ hP hr];unfold X2;cases hdI (Zn p P r)<;>simp
end
end Rw
namespace Pv
open Ev
open Rw
def Za{B β:Type}{a:B}{s:DS}{f:B->DS->PR β}:(PR.ok a s).bind f=f a s:=rfl
def Uv(hf:F[f]?=aa fn)(hne:f≠tk)(hl:vs.length=fn.ps):Zm F tk (d+1) f vs s=(rvs (Zm F tk d) (muts fn.body) fn.body (ZP fn.ns vs) [] s).bind λg s=>match g with
  |.ret v=>.ok v s
  |.nx _ _=>.ok .non s:=by
 rw[Zm,T8 hne,hf];show(if vs.length=fn.ps then _ else _)=_
 rw[T9 hl]
 all_goals rfl
def jx(s)(h:0<m):0<=(Wd s m).1/\(Wd s m).1<m:=by
 unfold Wd;split
 .exact#[gZ _ #[0],fP _ h]
 .exact#[gZ _ #[0],fP _ h]
def Vk(s)(h0:0<m)(h1:m<1073741824):∃v s',Zm F tk (d+1) tk [.drw,.int m] s=.ok (.int v) s'/\0<=v/\v<m:=by
 refine#[(Wd s m).1,(Wd s m).2,?_,jx s h0];rw[Zm,T9 rfl];show(if 0<m/\m<1073741824 then _ else _)=_
 rw[T9 #[h0,h1]]
theorem zq{B:Type}{e:B->V}{g:B->V}:∀{l:List B},(∀x∈l,f (e x) s=.ok [g x] s)->mapP f (l.map e) s=.ok (l.map g) s
 |[],_=>rfl
 |x::l,h=>by
  rw[aY,mapP,h x<|al ..];show(match mapP f (l.map e) s with|.ok zs s=>PR.ok ([g x]++zs) s|_=>.no)=_
  rw[zq λy hy=>h y<|am _ hy];rfl
theorem Us{B:Type}{e:B->V}{g:B->V}{q:B->Bool}:∀{l:List B},(∀x∈l,f (e x) s=.ok (if q x=ak then[g x]else[]) s)->mapP f (l.map e) s=.ok ((l.filter q).map g) s
 |[],_=>rfl
 |x::l,h=>by
  rw[aY,mapP,h x<|al ..];show(match mapP f (l.map e) s with|.ok zs s=>PR.ok ((if q x=ak then[g x]else[])++zs) s|_=>.no)=_
  rw[Us λy hy=>h y<|am _ hy,l0]
  cases q x<;>rfl
theorem V9{Q:V->Prop}(h:∀x s,∃y s',f x s=.ok [y] s'/\Q y):∀l s,∃ys s',mapP f l s=.ok ys s'/\ys.length=l.length/\∀y∈ys,Q y
 |[],s=>#[[],s,rfl,rfl,λ_ h=>by cases h]
 |x::l,s=>by
  obtain⟨y,s1,e1,q1⟩:=h x s;obtain⟨ys,s2,e2,l2,q2⟩:=V9 h l s1;refine#[y::ys,s2,?_,by rw[aV,aV,l2],λz hz=>?_]
  .rw[mapP,e1]
   show(match mapP f l s1 with|.ok zs s=>PR.ok ([y]++zs) s|_=>.no)=_
   rw[e2];rfl
  .rcases aw.mp hz with rfl|hz
   .exact q1
   .exact q2 z hz
theorem Ji{O B:Type}{Z:O->Option V->Env}{step:O->B->O}{e:B->V}(I:O->Prop):∀{l:List B}{st:O}{o:Option V},I st->(∀x∈l,∀st o,I st->I (step st x)/\∃o',body (e x) (Z st o) os s=.ok (.nx (Z (step st x) o') os) s)->∃o',I (l.foldl step st)/\Y6 body (l.map e) (Z st o) os s=.ok (.nx (Z (l.foldl step st) o') os) s
 |[],st,o,hI,_=>#[o,hI,rfl]
 |x::l,st,o,hI,h=>by
  obtain⟨h1,o1,e1⟩:=h x (al ..) st o hI;obtain⟨o2,h2,e2⟩:=Ji I h1 λy hy=>h y<|am _ hy
  refine#[o2,h2,?_];rw[aY,Y6,e1];exact e2
noncomputable def Vp:Option Nat->V
 |none=>.non
 |some k=>.int k
def spV(p n:Nat):V:=.tup [.int p,.int n]
def Z8(h:-4294967296<a)(h':a<4294967296):fits a=ak:=by
 refine T5 ?_;have h1:a.natAbs<2^32:=by lia
 exact bi h1<|dJ #[1] #[1]
def X9{B:Type}{xs:List B}{k:Nat}{x:B}(h:xs[k]?=aa x):at' xs (k:Int)=aa x:=by
 unfold at' ixN;rw[T9<|Int.ofNat_lt.mpr<|(aG.mp h).1];exact h
def QL{r:Row}(hk:k<r.length):at' (r.map V.int) (k:Int)=aa (.int<|gt r k):=by
 refine X9 ?_;rw[aK];unfold gt;rw[aA,af hk];rfl
theorem Yk{B:Type}{g:B->Bool}:∀l:List B,ZY (l.map λx=>.bl<|g x)=aa (l.map g)
 |[]=>rfl
 |x::l=>by rw[aY,ZY,Yk l];rfl
theorem Qc{B:Type}{e:B->V}{d:B->B->Bool}(hd:∀a b,d a b=ak↔a=b)(h:∀a b,f (e a) (e b)=aa (d a b)):∀a b:List B,∃c,Yz f (a.map e) (b.map e)=aa c/\(c=ak↔a=b)
 |[],[]=>#[ak,rfl,by simp]
 |[],_::_=>#[aj,rfl,by simp]
 |_::_,[]=>#[aj,rfl,by simp]
 |x::a,y::b=>by
  obtain⟨c,e1,e2⟩:=Qc hd h a b;refine#[d x y&&c,?_,?_]
  .rw[aY,aY,Yz,h,e1]
  .rw[aB,hd,e2];simp
def Zdh(k:Nat)(a b:Row):eqV (k+2) (Zc a) (Zc b)=aa (ag<|a=b):=by
 show Yz (eqV<|k+1) (a.map .int) (b.map .int)=_;obtain⟨c,e1,e2⟩:=Qc (f:=eqV<|k+1) (e:=V.int) (λa b=>by simp) (λa b=>rfl) a b
 rw[e1,show c=ag (a=b) by rw[cR,e2];simp]
def ZbH(k:Nat)(a b:List Row):eqV (k+3) (Zk a) (Zk b)=aa (ag<|a=b):=by
 show Yz (eqV<|k+2) (a.map Zc) (b.map Zc)=_;obtain⟨c,e1,e2⟩:=Qc (λa b=>by simp) (λa b=>Zdh k a b) a b
 rw[e1,show c=ag (a=b) by rw[cR,e2];simp]
theorem yq:∀(r o:Row),((r.map V.int).zip<|o.map V.int).map (λq=>V.tup [q.1,q.2])=(r.zip o).map λq=>V.tup [.int q.1,.int q.2]
 |[],_=>rfl
 |_::_,[]=>rfl
 |a::r,b::o=>by rw[aY,aY,dF,aY,dF,aY,yq r o]
theorem YB:∀r,intsV (r.map V.int)=aa r
 |[]=>rfl
 |a::r=>by show(intsV<|r.map V.int).map (a :: ·)=_;rw[YB r];rfl
theorem YE:∀P,Yy (P.map Zc)=aa P
 |[]=>rfl
 |r::P=>by
  show(match intsV (r.map V.int),Yy (P.map Zc)with|some a,aa b=>aa (a::b)|_,_=>ai)=_
  rw[YB,YE P]
theorem Qs:∀r:Row,WQ (r.map V.int)=ak
 |[]=>rfl
 |a::r=>Qs r
def Zda(n):Yc 0 n=(aO n).map λ(k:Nat)=>V.int (k:Int):=by
 refine du λk _=>?_
 simp
def ZT{B:Type}{a:B}{s:DS}:po (aa a) s=.ok a s:=rfl
section
variable{C:Zx}{cap:List Nat}{nl:Nat}{t:List Nat}{it:W}{elt tst:E}{Z:Env}{s:DS}{B:Type}
def ZM{l:List B}(hw:pvw C it Z s=.ok (l.map e) s)(hl:l.length<=lim)(h:∀x∈l,∃O,Zq t (e x) (Z9 cap nl Z)=aa O/\pv C elt O s=.ok (g x) s)(ho:own nl t=ak:=by rfl):pv C (.comp1 cap nl t it [] elt) Z s=.ok (.lst<|l.map g) s:=by
 rw[u0,T9 ho,hw,Za,zq λx hx=>by
  obtain⟨O,e1,e2⟩:=h x hx;rw[e1,ZT,Za,pvt,Za];rw[e2];rfl]
 rw[Za,T9 (by rw[ax];exact hl)];rfl
def Xd{l:List B}(hw:pvw C it Z s=.ok (l.map e) s)(hl:l.length<=lim)(h:∀x∈l,∃O v,Zq t (e x) (Z9 cap nl Z)=aa O/\pv C tst O s=.ok v s/\Zz v=aa (q x)/\(q x=ak->pv C elt O s=.ok (g x) s))(ho:own nl t=ak:=by rfl):pv C (.comp1 cap nl t it [tst] elt) Z s=.ok (.lst<|(l.filter q).map g) s:=by
 rw[u0,T9 ho,hw,Za,Us (q:=q) λx hx=>by
  obtain⟨O,v,e1,e2,e3,e4⟩:=h x hx;rw[e1,ZT,Za,pvt,e2,Za,e3,ZT,Za];cases c:q x with
  |true=>
   rw[T9 rfl,pvt,Za,e4 c];rfl
  |false=>rw[T8 #[2],Za,T8 #[2],T8 #[2]]]
 rw[Za,T9 (by rw[ax];exact bU (eO ..) hl)];rfl
def uN{Q:V->Prop}(hw:pvw C it Z s=.ok (Yc 0 k) s)(hl:k<=lim)(h:∀x s,∃O y s',Zq t x (Z9 cap nl Z)=aa O/\pv C elt O s=.ok y s'/\Q y)(ho:own nl t=ak:=by rfl) :
  ∃ys s',pv C (.comp1 cap nl t it [] elt) Z s=.ok (.lst ys) s'/\ys.length=k/\∀y∈ys,Q y:=by
 obtain⟨ys,s',e1,e2,e3⟩:=V9 (f:=λx s=>(po (Zq t x<|Z9 cap nl Z) s).bind λO s=>(pvt C [] O s).bind λb s=>if b then(pv C elt O s).bind λy s=>.ok [y] s else .ok [] s) (λx s=>by
  obtain⟨O,y,s',f1,f2,f3⟩:=h x s;refine#[y,s',?_,f3];rw[f1,ZT,Za,pvt,Za];rw[f2];rfl) (Yc 0 k) s
 have hk:(Yc 0 k).length=k:=by unfold Yc;simp
 refine#[ys,s',?_,by rw[e2,hk],e3]
 rw[u0,T9 ho,hw,Za,e1,Za,T9 (by rw[e2,hk];exact hl)];rfl
end
def ZeT{k:Nat}(h:k<=xs.length):Z6 xs ai (aa (k:Int))=xs.take k:=by
 show(xs.drop 0).take ((if(k:Int)<0 then((k:Int)+xs.length).toNat else si (k:Int).toNat xs.length)-0)=_
 rw[T8<|Int.not_lt.mpr<|Int.natCast_nonneg k,show si (k:Int).toNat xs.length-0=k from gX h];rfl
def yH{i:Int}{k:Nat}(hi:i=k)(h:k<=xs.length):Z6 xs (aa i) ai=xs.drop k:=by
 subst hi;show(xs.drop<|if(k:Int)<0 then((k:Int)+xs.length).toNat else si (k:Int).toNat xs.length).take (xs.length-(if(k:Int)<0 then((k:Int)+xs.length).toNat else si (k:Int).toNat xs.length))=_
 rw[show si (k:Int).toNat xs.length=k from gX h]
 exact cA<|mh bF
def Zag :Z6 xs (aa 1) ai=xs.tail:=by
 cases xs with|nil=>rfl|cons x xs=>exact yH rfl #[2]
def Zv(k:Nat):V:=.int k
def VJ(n):Yc 0 n=(aO n).map Zv:=by rw[Zda];rfl
def Qi(h0:0<=i)(h1:i<1000000):WP i=ak:=by
 unfold WP;have e:(2:Int)^62=4611686018427387904:=by decide
 rw[e];exact T5 #[by lia,by lia]
def Zp(hf:F[f]?=aa fn)(hne:f≠tk)(hl:vs.length=fn.ps)(h:rvs (Zm F tk d) (muts fn.body) fn.body (ZP fn.ns vs) [] s=.ok (.ret v) s'):Zm F tk (d+1) f vs s=.ok v s':=by
 rw[Uv hf hne hl,h];rfl
def G0(hf:F[f]?=aa fn)(hne:f≠tk)(hl:vs.length=fn.ps)(h:rvs (Zm F tk d) (muts fn.body) fn.body (ZP fn.ns vs) [] s=.ok (.nx Z os) s'):Zm F tk (d+1) f vs s=.ok .non s':=by
 rw[Uv hf hne hl,h];rfl
def Zh(h:rv C ms m Z os s=.ok (.nx ρ' os') s'):rvs C ms (m::l) Z os s=rvs C ms l ρ' os' s':=by rw[rvs,h];rfl
def Zi(h:rv C ms m Z os s=.ok (.ret v) s'):rvs C ms (m::l) Z os s=.ok (.ret v) s':=by rw[rvs,h];rfl
def Zw(h:pv C e Z s=.ok v s'):rv C ms (.ret e) Z os s=.ok (.ret v) s':=by rw[rE9,h];rfl
def JE(h:pv C (.call f as) Z s=.ok v s'):rv C ms (.ex<|.call f as) Z os s=.ok (.nx Z os) s':=by
 have:rv C ms (.ex<|.call f as) Z os s=(pv C (.call f as) Z s).bind λ_ s=>.ok (.nx Z os) s:=by
  rw[ZfN]
  all_goals(intro _ _ z;cases z)
 rw[this,h];rfl
def XW(h:YO C t Z s=.ok b s'):rv C ms (.ite t x y) Z os s=if b=ak then rvs C ms x Z os s' else rvs C ms y Z os s':=by rw[G8,h];rfl
def YN(h:pv C t Z s=.ok v s')(hb:Zz v=aa b):YO C t Z s=.ok b s':=by unfold YO;rw[h,Za,hb];rfl
def Zo(h:pvs C as Z s=.ok vs s1)(hc:C f vs s1=.ok v s'):pv C (.call f as) Z s=.ok v s':=by rw[jU,h];exact hc
def Ze:pvs C [] Z s=.ok [] s:=by rw[pvs]
def Zb(h:pv C e Z s=.ok v s1)(h2:pvs C es Z s1=.ok vs s'):pvs C (e::es) Z s=.ok (v::vs) s':=by rw[pvs,h,Za,h2];rfl
def Zd(h:Z[i]?=aa (aa v)):pv C (.v i) Z s=.ok v s:=by rw[pE2,h];rfl
def ZE(h:pv C e Z s=.ok v s')(hm:(ms.contains i&&fresh e)=aj):rv C ms (.asg [i] e) Z [] s=.ok (.nx (Z.set i<|aa v) []) s':=by
 rw[rE1];show(pv C e Z s).bind _=_;rw[h,Za,T8 (by rw[hm];simp)];rfl
def Zab{O B:Type}{L:List B}{e:B->V}{step:O->B->O}{Z:O->Option V->Env}{st:O}(I:O->Prop)(hw:pvw C it (hide os<|Z st o) s=.ok (L.map e) s)(hI:I st)(ht:(t.any os.contains)=aj)
  (h:∀x∈L,∀st o,I st->I (step st x)/\(os.isEmpty||(e x).flat)=ak/\∃ρ1 o',Zq t (e x) (Z st o)=aa ρ1/\rvs C ms b ρ1 os s=.ok (.nx (Z (step st x) o') os) s) :
  ∃o',I (L.foldl step st)/\rv C ms (.forr t it b) (Z st o) os s=.ok (.nx (Z (L.foldl step st) o') os) s:=by
 obtain⟨o',h1,h2⟩:=Ji (body:=λx Z os s=>if(t.any os.contains)=ak then .no else(po (Zq t x Z) s).bind λZ s=>rvs C ms b Z os s) I hI (λx hx st o hI=>by
  obtain⟨a,f,ρ1,o',b1,b2⟩:=h x hx st o hI;refine#[a,o',?_];rw[T8 (by rw[ht];simp),b1,ZT,Za,b2])
 refine#[o',h1,?_];rw[Q7,hw];exact h2
def Yr{n:Nat}(h:pv C e Z s=.ok (.int n) s')(hn:n<1000000):pvw C (.rng1 e) Z s=.ok ((aO n).map Zv) s':=by
 rw[wE1,h,Za];show(if WP (n:Int)=ak then PR.ok (Yc 0 (n:Int).toNat) s' else .no)=_
 rw[T9 (Qi #[0] #[0]),c7,VJ]
def UF{B:Type}{L:List B}{e:B->V}(I:List B->Env->Prop)(hw:pvw C it (hide os Z) s=.ok (L.map e) s)(hI:I L Z)(ht:(t.any os.contains)=aj)
  (h:∀x l Z,I (x::l) Z->(os.isEmpty||(e x).flat)=ak/\∃ρ1 ρ',Zq t (e x) Z=aa ρ1/\rvs C ms b ρ1 os s=.ok (.nx ρ' os) s/\I l ρ') :
  ∃ρ',I [] ρ'/\rv C ms (.forr t it b) Z os s=.ok (.nx ρ' os) s:=by
 rw[Q7,hw,Za];clear hw
 induction L generalizing Z with
 |nil=>exact#[Z,hI,rfl]
 |cons x L ih=>
  obtain⟨f,ρ1,ρ',b1,b2,b3⟩:=h x L Z hI;obtain⟨ρ2,c1,c2⟩:=ih b3;refine#[ρ2,c1,?_];rw[aY,Y6,T8 (by rw[ht];simp),b1,ZT,Za,b2]
  exact c2
def vc{O B:Type}{L:List B}{e:B->V}{step:O->B->O}{Z:O->Option V->Env}{st:O}(I:List B->O->Prop)(hw:pvw C it (hide os<|Z st o) s=.ok (L.map e) s)(hI:I L st)(ht:(t.any os.contains)=aj)
  (h:∀x l st o,I (x::l) st->I l (step st x)/\(os.isEmpty||(e x).flat)=ak/\∃ρ1 o',Zq t (e x) (Z st o)=aa ρ1/\rvs C ms b ρ1 os s=.ok (.nx (Z (step st x) o') os) s) :
  ∃o',I [] (L.foldl step st)/\rv C ms (.forr t it b) (Z st o) os s=.ok (.nx (Z (L.foldl step st) o') os) s:=by
 rw[Q7,hw,Za];clear hw
 induction L generalizing st o with
 |nil=>exact#[o,hI,rfl]
 |cons x L ih=>
  obtain⟨a,f,ρ1,o',b1,b2⟩:=h x L st o hI;obtain⟨o2,c1,c2⟩:=ih a;refine#[o2,c1,?_];rw[aY,Y6,T8 (by rw[ht];simp),b1,ZT,Za,b2]
  exact c2
def pvF:(∀a,fresh (.lst a)=ak)/\(∀a b,fresh (.bin .mul (.lst a) b)=ak)/\(∀b,Zz (.bl b)=aa b)/\(∀i,Zz (.int i)=aa (ag<|i≠0))/\(∀xs,Zz (.tup xs)=aa (!xs.isEmpty))/\(∀xs,Zz (.lst xs)=aa (!xs.isEmpty))/\(Zz .non=aa aj)/\(∀xs i,ixV (.tup xs) (.int i)=at' xs i)/\(∀xs i,ixV (.lst xs) (.int i)=at' xs i)/\(∀xs,YA (.tup xs)=aa xs)/\(∀xs,YA (.lst xs)=aa xs)/\(∀x,XF .len [x]=(YA x).map λxs=>.int xs.length)/\(∀x,XF .tuple [x]=(YA x).map .tup)/\(∀x,XF .list [x]=(YA x).map .lst)/\(∀xs,XF .all [.lst xs]=(ZY xs).map λbs=>.bl<|bs.all id)/\(∀a b,XF .max2 [.int a,.int b]=aa (.int (if b>a then b else a)))/\(∀a b,XF .min2 [.int a,.int b]=aa (.int (if b<a then b else a)))/\(∀a,XF .toInt [.int a]=aa (.int a))/\(∀a,XF .toInt [.bl a]=aa (.int<|b2i a))/\(∀xs,XF .sortedR [.lst xs]=(Yy xs).bind λrs=>if Yg rs=ak then aa (.lst<|(Zr rs).reverse.map Zc)else ai)/\(∀a b s,X4 .add (.int a) (.int b) s=.ok (.int<|a+b) s)/\(∀a b s,X4 .sub (.int a) (.int b) s=.ok (.int<|a-b) s)/\(∀a b s,X4 .mul (.int a) (.int b) s=if(fits a&&fits b)=ak then .ok (.int<|a*b) s else .no)/\(∀a b s,X4 .mod (.int a) (.int b) s=if 0<b then .ok (.int<|a%b) s else .no)/\(∀a b s,X4 .add (.tup a) (.tup b) s=if a.length+b.length<=lim then .ok (.tup<|a++b) s else .no)/\(∀a b s,X4 .mul (.tup a) (.int b) s=if 0<=b/\b<1000/\a.length<=1000 then .ok (.tup (au b.toNat a).flatten) s else .no)/\(∀a b s,X4 .mul (.lst a) (.int b) s=if 0<=b/\b<1000/\a.length<=1000 then .ok (.lst (au b.toNat a).flatten) s else .no)/\(∀a b s,X4 .add (.lst a) (.lst b) s=if a.length+b.length<=lim then .ok (.lst<|a++b) s else .no)/\(∀x y,YT .eq x y=(eqV ZB x y).map .bl)/\(∀x y,YT .ne x y=(eqV ZB x y).map λb=>.bl !b)/\(∀a b,YT .lt (.int a) (.int b)=aa (.bl<|ag<|a<b))/\(∀a b,YT .gt (.int a) (.int b)=aa (.bl<|ag<|b<a))/\(∀a b,YT .le (.int a) (.int b)=aa (.bl<|ag<|a<=b))/\(∀a b,YT .ge (.int a) (.int b)=aa (.bl<|ag<|b<=a))/\(∀x,YT .is x .non=aa (.bl<|QB x))/\(∀a b,YT .is (.bl a) (.bl b)=aa (.bl<|ag<|a=b))/\(∀x y,YT .inn x y=(Uk x y).map .bl)/\(∀x y,YT .nin x y=(Uk x y).map λb=>.bl !b)/\(QB .non=ak)/\(∀b,QB (.bl b)=aj)/\(∀b,QB (.int b)=aj)/\(∀b,QB (.tup b)=aj)/\(∀b,QB (.lst b)=aj)/\(ofD .non=aa .non)/\(∀b,ofD (.bl b)=aa (.bl b))/\(∀b,ofD (.int b)=aa (.int b))/\(∀Z,Y3 [] [] Z=aa Z)/\(∀i t x xs Z,Y3 (i::t) (x::xs) Z=Y3 t xs (Z.set i<|aa x))/\(∀i x Z,Zq [i] x Z=aa (Z.set i<|aa x))/\(∀i j t xs Z,Zq (i::j::t) (.tup xs) Z=Y3 (i::j::t) xs Z)/\(∀i j t xs Z,Zq (i::j::t) (.lst xs) Z=Y3 (i::j::t) xs Z)/\(∀k a b,eqV (k+1) (.int a) (.int b)=aa (ag<|a=b))/\(∀k a b,eqV (k+1) (.bl a) (.bl b)=aa (ag<|a=b))/\(∀k a b,eqV (k+1) (.tup a) (.tup b)=Yz (eqV k) a b)/\(∀k a b,eqV (k+1) (.lst a) (.lst b)=if a.length=b.length then Yz (eqV k) a b else aa aj):=
 #[λ_=>rfl,λ_ _=>rfl,λ_=>rfl,λ_=>rfl,λ_=>rfl,λ_=>rfl,rfl,λ_ _=>rfl,λ_ _=>rfl,λ_=>rfl,λ_=>rfl,λ_=>rfl,λ_=>rfl,λ_=>rfl,λ_=>rfl,λ_ _=>rfl,λ_ _=>rfl,λ_=>rfl,λ_=>rfl,λ_=>rfl,λ_ _ _=>rfl,λ_ _ _=>rfl,λ_ _ _=>rfl,λ_ _ _=>rfl,λ_ _ _=>rfl,λ_ _ _=>rfl,λ_ _ _=>rfl,λ_ _ _=>rfl,λ_ _=>rfl,λ_ _=>rfl,λ_ _=>rfl,λ_ _=>rfl,λ_ _=>rfl,λ_ _=>rfl,λ_=>rfl,λ_ _=>rfl,λ_ _=>rfl,λ_ _=>rfl,rfl,λ_=>rfl,λ_=>rfl,λ_=>rfl,λ_=>rfl,rfl,λ_=>rfl,λ_=>rfl,λ_=>rfl,λ_ _ _ _ _=>rfl,λ_ _ _=>rfl,λ_ _ _ _ _=>rfl,λ_ _ _ _ _=>rfl,λ_ _ _=>rfl,λ_ _ _=>rfl,λ_ _ _=>rfl,λ_ _ _=>rfl]
def pvE:=bg (bg (bg (bg (bg pvF<|bg @Za @ZT)<|bg @YO.eq_1<|bg @ZP.eq_1 @hide.eq_1)<|bg (bg @Z9.eq_1<|bg @Option.join.eq_1.{0} @lim.eq_1)<|bg (bg @rvs.eq_1 @rvs.eq_2)<|bg @pvA.eq_1 @pvA.eq_2)<|bg (bg (bg @pvs.eq_1<|bg @pvs.eq_2 @pvo.eq_1)<|bg @pvo.eq_2<|bg @pvt.eq_1 @pvt.eq_2)<|bg (bg @pE1<|bg @pE2 @pE3)<|bg (bg @pE4 @pE5)<|bg @pE7 @pE8)<|bg (bg (bg (bg @pE9<|bg @uy @ZcW)<|bg @YU<|bg @Zie @Xz)<|bg (bg @Zft<|bg @Zhk @jU)<|bg (bg @Yt @Zhx)<|bg @rE1 @rE2)<|bg (bg (bg @rE4<|bg @rE7 @rE9)<|bg (bg @Zfp @ZfN)<|bg @G8 @Q7)<|bg (bg @ZhQ<|bg @Zih @wE1)<|bg (bg @wE2 @wE5)<|bg @wE6 @wE7
end Pv
namespace K72
open Ev Pv Rw La
abbrev CV(d:Nat):Zx:=Zm fns 2 d
theorem JK(C:Zx)(s:DS)(v:V):∀(r:Row)(k:Nat)(a b:Option V),∃a' b',Y6 (λx Z os s=>if(([1,2]:List Nat).any os.contains)=ak then .no else(po (Zq [1,2] x Z) s).bind λZ s=>rvs C [] [.ite (.cmp .ne (.v 2)<|.n 0) [.ret<|.v 1] []] Z os s)
   (((Yc k r.length).zip<|r.map V.int).map λp=>V.tup [p.1,p.2]) [aa v,a,b] [] s=match hdI r with
    |some m=>.ok (.ret<|.int (k+m:Nat)) s
    |none=>.ok (.nx [aa v,a',b'] []) s
 |[],k,a,b=>#[a,b,rfl]
 |x::r,k,a,b=>by
  have er:Yc k (x::r).length=.int k::Yc (k+1:Nat) r.length:=by
   unfold Yc;rw[aV,me,aY,bS];refine List.cons_eq_cons.mpr #[by simp,?_]
   .refine du λj _=>?_
    show V.int ((k:Int)+((j+1:Nat):Int))=V.int (((k+1:Nat):Int)+(j:Int))
    congr 1
    lia
  obtain⟨a',b',ih⟩:=JK C s v r (k+1) (aa<|.int k)<|aa<|.int x;refine#[a',b',?_];rw[er,aY,dF,aY,Y6];by_cases c:x=0
  .subst c
   have e0:hdI (0::r)=(hdI r).map (· + 1):=by rw[hdI,T8 #[2]]
   have e1:(if(([1,2]:List Nat).any ([]:List Nat).contains)=ak then(.no:PR FlV)else(po (Zq [1,2] (V.tup [.int k,.int 0]) [aa v,a,b]) s).bind λZ s=>rvs C [] [.ite (.cmp .ne (.v 2)<|.n 0) [.ret<|.v 1] []] Z [] s)=.ok (.nx [aa v,aa<|.int k,aa<|.int 0] []) s:=by
    simp[pvE,ZB]
   rw[e1,Za,e0];show Y6 _ _ [aa v,aa<|.int k,aa<|.int 0] [] s=_;rw[ih];cases hdI r with|none=>rfl|some m=>show PR.ok (FlV.ret<|.int ((k+1+m:Nat):Int)) s=PR.ok (FlV.ret<|.int ((k+(m+1):Nat):Int)) s;congr 3;lia
  .have e0:hdI (x::r)=aa 0:=by rw[hdI,T9 c]
   have e1:(if(([1,2]:List Nat).any ([]:List Nat).contains)=ak then(.no:PR FlV)else(po (Zq [1,2] (V.tup [.int k,.int x]) [aa v,a,b]) s).bind λZ s=>rvs C [] [.ite (.cmp .ne (.v 2)<|.n 0) [.ret<|.v 1] []] Z [] s)=.ok (.ret<|.int k) s:=by
    simp[pvE,ZB,c]
   rw[e1,Za,e0];rfl
def zb(d:Nat)(r:Row)(s:DS):CV (d+1) 18 [Zc r] s=.ok (Vp<|hdI r) s:=by
 rw[CV,Uv rfl #[1] rfl]
 obtain⟨a,b,e⟩:=JK (Zm fns 2 d) s (Zc r) r 0 ai ai;show((rv _ [] (.forr [1,2] (.enum<|.v 0) _) [aa<|Zc r,ai,ai] [] s).bind _).bind _=_;have e2:rv (Zm fns 2 d) [] (.forr [1,2] (.enum<|.v 0) [.ite (.cmp .ne (.v 2)<|.n 0) [.ret<|.v 1] []]) [aa<|Zc r,ai,ai] [] s=match hdI r with
    |some m=>.ok (.ret<|.int (m:Nat)) s
    |none=>.ok (.nx [aa<|Zc r,a,b] []) s:=by
  rw[Q7];have ew:pvw (Zm fns 2 d) (.enum<|.v 0) (hide [] [aa<|Zc r,ai,ai]) s=.ok (((Yc 0 r.length).zip<|r.map V.int).map λp=>V.tup [p.1,p.2]) s:=by
   simp[pvE,Zc]
  rw[ew,Za];simp only[oJ,Int.natCast_zero]at e;exact e
 rw[e2];cases hdI r with|none=>rfl|some m=>rfl
section
variable{p n:Nat}[Base p]
def X3:(p:Int)<=5/\(2:Int)<=p:=by rcases(inferInstance:Base p).b with e|e|e<;>subst e<;>decide
theorem Qk(d:Nat){r o:Row}{k:Int}(s:DS)(hn:n<=6)(hr:Zf p n r)(ho:Zf p n o)(hk:-1000<k/\k<1000):CV (d+1) 16 [.int p,Zc r,Zc o,.int k] s=.ok (Zc<|Zy p r o k) s:=by
 rw[CV,Uv rfl #[1] rfl]
 have hp:=X3 (p:=p);have hc:=ZM (C:=Zm fns 2 d) (cap:=[3,0]) (nl:=2) (t:=[0,1]) (it:=.zip (.v 1)<|.v 2) (elt:=.bin .mod (.bin .add (.v 0)<|.bin .mul (.v 2)<|.v 1)<|.v 3) (Z:=[aa<|.int p,aa<|Zc r,aa<|Zc o,aa<|.int k]) (s:=s) (l:=r.zip o) (e:=λq=>V.tup [.int q.1,.int q.2]) (g:=λq=>V.int<|(q.1+k*q.2)%p)
  (by simp[pvE,Zc,yq]) (by rw[gW,hr.1,ho.1];unfold lim;lia) (λq hq=>by
   have h2:=ho.2 q.2 (gS hq).2;refine#[_,rfl,?_];have f1:=Z8 (a:=k) #[0] #[0]
   have f2:=Z8 (a:=q.2) #[0] #[0]
   have hp0:0<p:=by lia
   simp[pvE,f1,f2,hp0])
 have e:(r.zip o).map (λq=>V.int<|(q.1+k*q.2)%p)=(Zy p r o k).map V.int:=by
  unfold Zy;rw[<-iG,bS];rfl
 simp[Vj,pvE,hc,e];rfl
theorem vy(d:Nat){r o:Row}{h:Nat}(s:DS)(hn:n<=6)(hr:Zf p n r)(ho:Zf p n o)(hh:h<n):CV (d+2) 17 [.int p,Zc r,Zc o,.int h] s=.ok (Zc<|clr p r o h) s:=by
 rw[CV,Uv rfl #[1] rfl]
 have hg:=XY ppos hr h;have hp:=X3 (p:=p);have e:=Qk d (k:=-(gt r h)) s hn hr ho #[by lia,by lia]
 have e2:=QL (by rw[hr.1];exact hh)
 simp only[CV]at e;simp[JG,pvE,Zc,e2];simp only[Zc]at e;rw[e];simp[pvE,clr]
theorem Zht(d:Nat){r:Row}{k:Int}(s:DS)(hn:n<=6)(hr:Zf p n r)(hk:-1000<k/\k<1000):CV (d+1) 20 [.int p,Zc r,.int k] s=.ok (Zc<|Wv p r k) s:=by
 rw[CV,Uv (fn:=ze) rfl #[1] rfl]
 have hp:=X3 (p:=p);have hc:=ZM (C:=Zm fns 2 d) (cap:=[2,0]) (nl:=1) (t:=[0]) (it:=.of<|.v 1) (elt:=.bin .mod (.bin .mul (.v 1)<|.v 0)<|.v 2) (Z:=[aa<|.int p,aa<|Zc r,aa<|.int k]) (s:=s) (l:=r) (e:=V.int) (g:=λq=>V.int<|k*q%p)
  (by simp[pvE,Zc]) (by rw[hr.1];unfold lim;lia) (λq hq=>by
   have h2:=hr.2 q hq;refine#[_,rfl,?_];have f1:=Z8 (a:=k) #[0] #[0]
   have f2:=Z8 (a:=q) #[0] #[0]
   have hp0:0<p:=by lia
   simp[pvE,f1,f2,hp0])
 simp[ze,pvE,hc];simp[Zc,Wv]
def GU(C:Zx)(m:Nat){q a k:Int}(s:DS)(hq:0<q)(f1:fits a=ak)(f2:fits k=ak):Xm (YO C<|.cmp .ne (.bin .mod (.bin .mul (.v 2)<|.v 1)<|.v 0)<|.n 1) (rvs C [] [.aug 2 .add<|.n 1]) (m+1) [aa<|.int q,aa<|.int a,aa<|.int k] [] s =
  if k*a%q=1 then .ok (.nx [aa<|.int q,aa<|.int a,aa<|.int k] []) s else Xm (YO C<|.cmp .ne (.bin .mod (.bin .mul (.v 2)<|.v 1)<|.v 0)<|.n 1) (rvs C [] [.aug 2 .add<|.n 1]) m [aa<|.int q,aa<|.int a,aa<|.int<|k+1] [] s:=by
 rw[Xm];by_cases c:k*a%q=1<;>simp[pvE,f1,f2,hq,ZB,c,ZhF]
theorem Zcz(d:Nat){a:Int}(s:DS)(ha:0<a/\a<p):CV (d+1) 21 [.int p,.int a] s=.ok (.int<|UZ p a) s:=by
 rw[CV,Uv (fn:=JL) rfl #[1] rfl]
 generalize Zm fns 2 d=C;have fs:∀k:Int,0<=k->k<=5->fits k=ak:=λk h0 h1=>Z8 #[0] #[0]
 have hp:=X3 (p:=p);have fa:=fs a #[0] #[0]
 have key:Xm (YO C<|.cmp .ne (.bin .mod (.bin .mul (.v 2)<|.v 1)<|.v 0)<|.n 1) (rvs C [] [.aug 2 .add<|.n 1]) (996+1+1+1+1) [aa<|.int p,aa<|.int a,aa<|.int 1] [] s=.ok (.nx [aa<|.int p,aa<|.int a,aa<|.int<|UZ p a] []) s:=by
  rw[GU C _ s #[0] fa (fs 1 #[0] #[0]),GU C _ s #[0] fa (fs (1+1) #[0] #[0]),GU C _ s #[0] fa (fs (1+1+1) #[0] #[0]),GU C _ s #[0] fa<|fs (1+1+1+1) #[0] #[0]]
  rcases(inferInstance:Base p).b with e|e|e<;>subst e
  .have:a=1:=by lia
   subst this;rfl
  .have:a=1\/a=2:=by lia
   rcases this with e|e<;>subst e<;>rfl
  .have:a=1\/a=2\/a=3\/a=4:=by lia
   rcases this with e|e|e|e<;>subst e<;>rfl
 have e:rv C [] (.whl (.cmp .ne (.bin .mod (.bin .mul (.v 2)<|.v 1)<|.v 0)<|.n 1) [.aug 2 .add<|.n 1]) [aa<|.int p,aa<|.int a,aa<|.int 1] [] s=.ok (.nx [aa<|.int p,aa<|.int a,aa<|.int<|UZ p a] []) s:=by
  rw[ZhQ];exact key
 show((rvs C [] (.asg [2] (.n 1) :: .whl _ _ :: .ret (.v 2)::[]) [aa<|.int p,aa<|.int a,ai] [] s).bind _)=_;have e1:rv C [] (.asg [2]<|.n 1) [aa<|.int p,aa<|.int a,ai] [] s=.ok (.nx [aa<|.int p,aa<|.int a,aa<|.int 1] []) s:=by simp[pvE]
 rw[rvs,e1,Za];show((rvs C [] (.whl _ _ :: .ret (.v 2)::[]) [aa<|.int p,aa<|.int a,aa<|.int 1] [] s).bind _)=_;rw[rvs,e,Za];simp[pvE]
def Xx(C:Zx)(ms:List Nat){i j:Nat}{Z:Env}{os:List Nat}{s:DS}{e:E}(h:pvA C e Z os s=.ok (spV p n) s)(ho:os.contains i=aj/\os.contains j=aj):rv C ms (.asg [i,j] e) Z os s=.ok (.nx ((Z.set i<|aa<|.int p).set j<|aa<|.int n) os) s:=by
 rw[rE2,h,Za,T8 (by simpa using ho)]
 .rfl
 .simp
def u7(d:Nat){P:List Row}{r:Row}(s:DS)(hn:n<=6)(hP:pZ p n P)(hr:Zf p n r):CV (d+3) 19 [spV p n,Zk P,Zc r] s=.ok (Zc<|Zn p P r) s:=by
 refine Zp rfl #[1] rfl ?_
 show rvs (CV<|d+2) [] (.asg [3,4] (.v 0) :: .asg [5] (.v 2) :: .forr [6] (.of<|.v 1) [.asg [5]<|.call 17 [(.v 3),(.v 5),(.v 6),(.call 18 [(.v 6)])]] :: .ret (.v 5)::[]) [aa<|spV p n,aa<|Zk P,aa<|Zc r,ai,ai,ai,ai] [] s=_;rw[Zh<|Xx (p:=p) (n:=n) _ _ (by simp[pvE]) #[2]]
 rw[Zh (ρ':=[aa<|spV p n,aa<|Zk P,aa<|Zc r,aa<|.int p,aa<|.int n,aa<|Zc r,ai]) (os':=[]) (s':=s) (by simp[pvE])]
 obtain⟨o',hI,e⟩:=Zab (C:=CV<|d+2) (ms:=[]) (t:=[6]) (it:=.of<|.v 1) (b:=[.asg [5]<|.call 17 [(.v 3),(.v 5),(.v 6),(.call 18 [(.v 6)])]]) (L:=P) (e:=Zc) (step:=λst o=>clr p st o<|(hdI o).getD 0) (Z:=λst o=>[aa<|spV p n,aa<|Zk P,aa<|Zc r,aa<|.int p,aa<|.int n,aa<|Zc st,o]) (os:=[]) (s:=s) (Zf p n) (by simp[pvE,Zk]) hr rfl (λx hx st o hst=>by
  have hx':=hP.row x hx;obtain⟨k,hk,hkn,_⟩:=hP.head fld.one0 hx;refine#[Zu hst hx',rfl,_,aa<|Zc x,rfl,?_];have e1:=zb (d+1) x s;have e2:=vy d s hn hst hx' hkn;rw[hk]at e1;simp only[Vp]at e1;have e3:=e1;simp[pvE,e3,e2,hk])
 rw[Zh e];exact Zi<|Zw (by simp[pvE,Zn])
def dsum{P:List Row}(hP:pZ p n P):P.length<=n:=by
 rw[<-GW (p:=p)];exact ZfV hP.pn
theorem ZdU(d:Nat){P:List Row}{r:Row}(s:DS)(hn:n<=6)(hP:pZ p n P)(hr:Zf p n r):CV (d+4) 22 [spV p n,Zk P,Zc r] s=.ok (Zk<|XD p P r) s:=by
 refine Zp (fn:=Wx) rfl #[1] rfl ?_
 show rvs (CV<|d+3) [] Wx.body [aa<|spV p n,aa<|Zk P,aa<|Zc r,ai,ai,ai,ai,ai,ai] [] s=_
 dsimp only[Wx]
 obtain⟨l1,l2⟩:=UN hP.row hP.pn.rf hr;have hw:=(W7 hP hr).1;rw[Zh<|Xx (p:=p) (n:=n) _ _ (by simp[pvE]) #[2]]
 have e1:=u7 d s hn hP hr;rw[Zh (ρ':=[aa<|spV p n,aa<|Zk P,aa<|Zc r,aa<|.int p,aa<|.int n,aa<|Zc<|Zn p P r,ai,ai,ai]) (os':=[]) (s':=s) (by simp[pvE,e1])]
 have e2:=zb (d+2) (Zn p P r) s;rw[Zh (ρ':=[aa<|spV p n,aa<|Zk P,aa<|Zc r,aa<|.int p,aa<|.int n,aa<|Zc<|Zn p P r,aa<|Vp<|hdI<|Zn p P r,ai,ai]) (os':=[]) (s':=s) (by simp[pvE,e2])]
 cases q:hdI (Zn p P r)with
 |none=>
  refine Zi ?_;have:XD p P r=P:=by unfold XD;rw[q]
  simp[pvE,Vp,this]
 |some h=>
  obtain⟨h1,h2,h3⟩:=Z1 q;rw[l1.1]at h2;have hg:=XY ppos l1 h;have hp:=X3 (p:=p);have hwid:XD p P r=(Zr<|P.map (λo=>clr p o (lead p (Zn p P r) h) h)++[lead p (Zn p P r) h]).reverse:=by unfold XD;rw[q]
  rw[Zh (ρ':=[aa<|spV p n,aa<|Zk P,aa<|Zc r,aa<|.int p,aa<|.int n,aa<|Zc<|Zn p P r,aa<|.int h,ai,ai]) (os':=[]) (s':=s) (by simp[pvE,Vp])]
  have e3:=Zcz (p:=p) (d+2) (a:=gt (Zn p P r) h) s #[by lia,hg.2]
  have hi:-1000<UZ p (gt (Zn p P r) h)/\UZ p (gt (Zn p P r) h)<1000:=by
   unfold UZ
   repeat' split
   all_goals lia
  have e4:=Zht (p:=p) (d+2) s hn l1 hi;have e5:=QL (r:=Zn p P r) (k:=h) (by rw[l1.1];exact h2)
  have hl:Zf p n (lead p (Zn p P r) h):=Jp l1;rw[Zh (ρ':=[aa<|spV p n,aa<|Zk P,aa<|Zc r,aa<|.int p,aa<|.int n,aa<|Zc<|Zn p P r,aa<|.int h,aa<|Zc<|lead p (Zn p P r) h,ai]) (os':=[]) (s':=s) (by
   have e6:pv (CV<|d+3) (.call 20 [(.v 3),(.v 5),(.call 21 [(.v 3),(.ix (.v 5)<|.v 6)])]) [aa<|spV p n,aa<|Zk P,aa<|Zc r,aa<|.int p,aa<|.int n,aa<|Zc<|Zn p P r,aa<|.int h,ai,ai] s=.ok (Zc<|lead p (Zn p P r) h) s:=by
    refine Zo (vs:=[.int p,Zc<|Zn p P r,.int<|UZ p<|gt (Zn p P r) h]) (s1:=s) ?_ e4;have e7:pv (CV<|d+3) (.call 21 [(.v 3),(.ix (.v 5)<|.v 6)]) [aa<|spV p n,aa<|Zk P,aa<|Zc r,aa<|.int p,aa<|.int n,aa<|Zc<|Zn p P r,aa<|.int h,ai,ai] s=.ok (.int<|UZ p<|gt (Zn p P r) h) s:=by
     refine Zo (vs:=[.int p,.int<|gt (Zn p P r) h]) (s1:=s) ?_ e3;simp[pvE,Zc,e5]
    exact Zb (Zd rfl)<|Zb (Zd rfl)<|Zb e7 Ze
   rw[rE1];show(pv _ _ _ _).bind _=_;rw[e6];rfl)]
  have hc:=ZM (C:=CV<|d+3) (cap:=[3,7,6]) (nl:=1) (t:=[0]) (it:=.of<|.v 1) (elt:=.call 17 [(.v 1),(.v 0),(.v 2),(.v 3)]) (Z:=[aa<|spV p n,aa<|Zk P,aa<|Zc r,aa<|.int p,aa<|.int n,aa<|Zc<|Zn p P r,aa<|.int h,aa<|Zc<|lead p (Zn p P r) h,ai]) (s:=s) (l:=P) (e:=Zc) (g:=λo=>Zc<|clr p o (lead p (Zn p P r) h) h)
   (by simp[pvE,Zk]) (by have:=dsum hP;unfold lim;lia) (λo ho=>#[_,rfl,by
    have:=vy (p:=p) (d+1) (h:=h) s hn (hP.row o ho) hl h2;simp[pvE,this]])
  rw[Zh (ρ':=[aa<|spV p n,aa<|Zk P,aa<|Zc r,aa<|.int p,aa<|.int n,aa<|Zc<|Zn p P r,aa<|.int h,aa<|Zc<|lead p (Zn p P r) h,aa<|.lst<|P.map λo=>Zc<|clr p o (lead p (Zn p P r) h) h]) (os':=[]) (s':=s) (by simp[pvE,hc])]
  refine Zi<|Zw ?_;have ea:(P.map λo=>Zc<|clr p o (lead p (Zn p P r) h) h)++[Zc<|lead p (Zn p P r) h]=((P.map λo=>clr p o (lead p (Zn p P r) h) h)++[lead p (Zn p P r) h]).map Zc:=by rw[bT,bS];rfl
  have hs:Yg ((P.map λo=>clr p o (lead p (Zn p P r) h) h)++[lead p (Zn p P r) h])=ak:=by
   have hlen:((P.map λo=>clr p o (lead p (Zn p P r) h) h)++[lead p (Zn p P r) h]).length=P.length+1:=by simp
   have hnd:((P.map λo=>clr p o (lead p (Zn p P r) h) h)++[lead p (Zn p P r) h]).Nodup:=by
    have h5:=Uo hw.falls;rw[hwid]at h5;exact((Sd.Xc _).nodup_iff).mp<|((ee _).nodup_iff).mp h5
   have hd:=dsum hP;unfold Yg;rw[T5 (by rw[hlen];lia),T5 hnd]
   rw[aB];refine#[rfl,aX.mpr λx hx=>?_]
   have:x.length=n:=by
    rcases bK.mp hx with z|z
    .obtain⟨o,ho,rfl⟩:=aM.mp z
     exact(Zu (hP.row o ho) hl).1
    .rw[aZ.mp z];exact hl.1
   cases x with|nil=>simp at this;lia|cons _ _=>rfl
  have hlen2:P.length+1<=16777216:=by have:=dsum hP;lia
  simp[pvE,hlen2];rw[ea,YE];simp[pvE,hs,hwid,Zk,pe]
def Wc(d:Nat){P R:List Row}{v:V}(s:DS)(hn:n<=6)(hP:pZ p n P)(hR:∀r∈R,Zf p n r)(hv:YA v=aa (R.map Zc)):CV (d+5) 23 [spV p n,Zk P,v] s=.ok (Zk<|Z2 p P R) s:=by
 refine Zp (fn:=Yl) rfl #[1] rfl ?_
 show rvs (CV<|d+4) [] Yl.body [aa<|spV p n,aa<|Zk P,aa v,ai,ai] [] s=_
 dsimp only[Yl]
 rw[Zh (ρ':=[aa<|spV p n,aa<|Zk P,aa v,aa<|Zk P,ai]) (os':=[]) (s':=s) (by simp[pvE])]
 obtain⟨o',hI,e⟩:=Zab (C:=CV<|d+4) (ms:=[]) (t:=[4]) (it:=.of<|.v 2) (b:=[.asg [3]<|.call 22 [(.v 0),(.v 3),(.v 4)]]) (L:=R) (e:=Zc) (step:=XD p) (Z:=λst o=>[aa<|spV p n,aa<|Zk P,aa v,aa<|Zk st,o]) (st:=P) (o:=ai) (os:=[]) (s:=s) (pZ p n) (by show pvw (CV<|d+4) (.of<|.v 2) [aa<|spV p n,aa<|Zk P,aa v,aa<|Zk P,ai] s=_;rw[wE7,pE2];show po (YA v) s=_;rw[hv];rfl) hP rfl (λx hx st o hst=>by
  have hx':=hR x hx;refine#[(W7 hst hx').1,rfl,_,aa<|Zc x,rfl,?_];have e2:=ZdU d s hn hst hx';simp[pvE,e2])
 rw[Zh e];exact Zi<|Zw (by simp[pvE,Z2])
end
end K72
namespace Rw
open La
open Ev (ltI YR Zr)
end Rw
namespace Rw
open Ev (ltP Wr YW)
open La
section
variable{p n:Nat}[Base p]
def wZ(hW:pZ p n W)(hr:Zf p n r)(h:∀i,gt r i=0):X2 p W r=ak:=by
 rw[Yb hW hr];have e:toV p r=λ_=>0:=by funext k;exact(Yi hr).mpr<|h k
 rw[e];exact yf
def uj(hW:pZ p n W)(hr:r∈W):X2 p W r=ak:=by
 rw[Yb hW<|hW.row r hr];exact WB hW.pn.rf<|Yp hr
end
def rise(hs:List Nat):Bool:=(hs.zip hs.tail).all λq=>ag<|q.1<q.2
theorem QJ:∀{hs:List Nat},rise hs=ak↔hs.Pairwise (· < ·)
 |[]=>by simp[rise]
 |[a]=>by simp[rise]
 |a::b::l=>by
  have ih:=QJ (hs:=b::l);unfold rise at ih ⊢;rw[rF,dF,fT,aB,T0];rw[rF]at ih
  constructor
  .intro#[h1,h2]
   have h3:=ih.mp h2;refine bj.mpr #[λx hx=>?_,h3]
   rcases aw.mp hx with rfl|hx
   .exact h1
   .exact dm h1<|(bj.mp h3).1 x hx
  .intro h
   obtain⟨h1,h2⟩:=bj.mp h;exact#[h1 b<|al ..,ih.mpr h2]
def VY(R:List Row)(i k:Nat):Bool:=ag (gt (R.getD i []) k=1)&&(R.take i++R.drop (i+1)).all λr=>ag<|gt r k=0
def WM(R:List Row):Bool:=(R.all λr=>(hdI r).isSome)&&(rise (ZI R)&&(aO R.length).all λi=>VY R i<|(ZI R).getD i 0)
section
variable{p n:Nat}[Base p]
def GI{R:List Row}(hi):R.getD i []=R[i]:=by rw[aA,af hi];rfl
def QG(hi):(ZI R).getD i 0=(hdI R[i]).getD 0:=by
 unfold ZI;rw[aA,aK,af hi];rfl
def ZeL{R:List Row}(hj)(h:j≠i):R[j]∈R.take i++R.drop (i+1):=by
 by_cases c:j<i
 .refine da _ ?_
  have hl:j<(R.take i).length:=by rw[bQ];exact nS.mpr #[c,hj]
  rw[<-fX];exact aS hl
 .refine bp _ ?_
  have c:=fJ (d3 c)<|Ne.symm h;have hl:j-(i+1)<(R.drop<|i+1).length:=by rw[bF];exact Nat.sub_lt_sub_right c hj
  have e:(R.drop<|i+1)[j-(i+1)]=R[j]:=by rw[fY];congr 1;exact m9 c
  rw[<-e];exact aS hl
def J2{R:List Row}(h:r∈R.take i++R.drop (i+1)):∃j,∃hj,j≠i/\R[j]=r:=by
 rcases bK.mp h with z|z
 .obtain⟨j,hj,e⟩:=cu z
  rw[bQ]at hj;have hj:=nS.mp hj;exact#[j,hj.2,a8 hj.1,by rw[<-e,fX]]
 .obtain⟨j,hj,e⟩:=cu z
  rw[bF]at hj;exact#[i+1+j,Nat.add_lt_of_lt_sub' hj,by omega,by rw[<-e,fY]]
def J5:ph p 1=1:=by
 rcases(inferInstance:Base p).b with e|e|e<;>subst e<;>rfl
def UI(hr:Zf p n r):toV p r k=1↔gt r k=1:=by
 have hb:=(inferInstance:Base p).b
 constructor
 .intro h
  refine wp (XY ppos hr k) #[by omega,by omega] ?_
  rw[J5];exact h
 .intro h
  unfold toV;rw[h,J5]
def Xw(hR:∀r∈R,Zf p n r):WM R=ak↔pZ p n R:=by
 unfold WM;simp only[aB,aX,aU]
 constructor
 .intro#[h1,h2,h3]
  have hd:∀i hi,∃k,hdI R[i]=aa k/\gt R[i] k=1/\∀j (hj:j<R.length),j≠i->gt R[j] k=0:=λi hi=>by
   obtain⟨k,hk⟩:=bP.mp<|h1 _<|aS hi;have a:=h3 i hi;unfold VY at a;rw[QG hi,GI hi,hk,aB,T0,aX]at a;exact#[k,hk,a.1,λj hj ne=>T6<|a.2 _<|ZeL hj ne]
  have inc:=QJ.mp h2;have memP:∀a∈toP p R,∃i,∃(hi:i<R.length),a=((hdI R[i]).getD 0,toV p R[i]):=λa ha=>by
   obtain⟨r,hr,rfl⟩:=aM.mp ha;obtain⟨i,hi,rfl⟩:=cu hr;exact#[i,hi,rfl]
  refine#[hR,#[#[?_,λa ha j hj=>?_,λa ha=>?_,λa ha b hb ne=>?_],λa ha=>?_,λa ha=>?_]]
  .rw[<-WE (p:=p)]at inc
   exact cZ.mp inc
  .obtain⟨i,hi,rfl⟩:=memP a ha
   obtain⟨k,hk,_,_⟩:=hd i hi;rw[hk]at hj;exact(Yi<|hR _<|aS hi).mpr<|(Z1 hk).2.2 j hj
  .obtain⟨i,hi,rfl⟩:=memP a ha
   obtain⟨k,hk,h,_⟩:=hd i hi;rw[hk];exact(UI<|hR _<|aS hi).mpr h
  .obtain⟨i,hi,rfl⟩:=memP a ha
   obtain⟨j,hj,rfl⟩:=memP b hb;obtain⟨k,hk,_,h⟩:=hd i hi;rw[hk];refine(Yi<|hR _<|aS hj).mpr<|h j hj λe=>?_
   subst e;exact ne rfl
  .obtain⟨i,hi,rfl⟩:=memP a ha
   obtain⟨k,hk,_,_⟩:=hd i hi;rw[hk,<-(hR _<|aS hi).1];exact(Z1 hk).2.1
  .obtain⟨i,hi,rfl⟩:=memP a ha
   exact Wa<|hR _<|aS hi
 .intro hP
  have hk:∀r∈R,∃k,hdI r=aa k/\k<n/\toV p r k=1:=λr hr=>hP.head fld.one0 hr
  refine#[λr hr=>?_,QJ.mpr ?_,λi hi=>?_]
  .obtain⟨k,e,_⟩:=hk r hr
   rw[e];rfl
  .rw[<-WE (p:=p)];exact hP.pn.rf.heads
  .obtain⟨k,e,_,h1⟩:=hk _ (aS hi)
   unfold VY;rw[QG hi,GI hi,e,aB,T0,aX];refine#[(UI<|hR _<|aS hi).mp h1,λr hr=>?_]
   obtain⟨j,hj,ne,rfl⟩:=J2 hr;refine T5 ?_;obtain⟨k2,e2,_,_⟩:=hk _<|aS hj;have hh:((hdI R[i]).getD 0,toV p R[i]).1≠((hdI R[j]).getD 0,toV p R[j]).1:=by
    have inc:(ZI R).Pairwise (· < ·):=by rw[<-WE (p:=p)];exact hP.pn.rf.heads
    have pw:=bJ.mp inc;have li:(ZI R).length=R.length:=by unfold ZI;rw[ax]
    have gi:∀m (hm:m<R.length),(ZI R)[m]'#[3]=(hdI R[m]).getD 0:=λm hm=>by unfold ZI;rw[pi]
    intro z;rcases Nat.lt_or_gt_of_ne ne with c|c
    .have:=pw j i #[3] #[3] c
     rw[gi j hj,gi i hi]at this;omega
    .have:=pw i j #[3] #[3] c
     rw[gi j hj,gi i hi]at this;omega
   have:=hP.pn.rf.zer _ (Yp<|aS hi) _ (Yp<|aS hj) hh;rw[e]at this;exact(Yi<|hR _<|aS hj).mp this
end
end Rw
namespace Ab
open Ev Pv
mutual
noncomputable def okV:V->Bool
 |.tup xs=>Yn xs
 |.lst xs=>Yn xs
 |.drw=>aj
 |.scr _=>aj
 |.dct (.inr _)=>aj
 |.dow _=>aj
 |_=>ak
noncomputable def Yn:List V->Bool
 |[]=>ak
 |x::xs=>okV x&&Yn xs
end
def Th(m:Nat)(x:V):Prop:=okV x=ak/\∀xs,x=.tup xs->xs.length<=m
end Ab
namespace K72
open Ev Pv Rw La
def Vl{F:List Fn}{tk d f c:Nat}{vs:List V}{s s':DS}{fn:Fn}(hf:F[f]?=aa fn)(hne:f≠tk)(hl:vs.length=fn.ps)(h:rvs (Zm F tk d) (muts fn.body) fn.body (ZP fn.ns vs) [] s=.ex c s'):Zm F tk (d+1) f vs s=.ex c s':=by
 rw[Uv hf hne hl,h];rfl
def Gp{C:Zx}{ms:List Nat}{m:Sm}{l:List Sm}{Z:Env}{os:List Nat}{s s':DS}{c:Nat}(h:rv C ms m Z os s=.ex c s'):rvs C ms (m::l) Z os s=.ex c s':=by rw[rvs,h];rfl
def Wt{C:Zx}{Z:Env}{s s1 s':DS}{f c:Nat}{as:List E}{vs:List V}(h:pvs C as Z s=.ok vs s1)(hc:C f vs s1=.ex c s'):pv C (.call f as) Z s=.ex c s':=by rw[jU,h];exact hc
def Gc{C:Zx}{ms:List Nat}{Z:Env}{os:List Nat}{s s':DS}{f c:Nat}{as:List E}(h:pv C (.call f as) Z s=.ex c s'):rv C ms (.ex<|.call f as) Z os s=.ex c s':=by
 rw[ZfN,h]
 .rfl
 all_goals(intro i e z;cases z)
open Ab (okV Yn)
theorem Y0:∀{xs:List V},Yn xs=ak->∀x∈xs,okV x=ak
 |[],_,x,h=>by cases h
 |y::xs,h,x,m=>by
  obtain⟨h1,h2⟩:=(aB _ _).mp h;rcases aw.mp m with rfl|m
  .exact h1
  .exact Y0 h2 x m
noncomputable def isW(x:V)(lo hi:Int):Bool:=match x with
 |.int i=>ag (lo<=i)&&ag (i<=hi)
 |_=>aj
def jc{x:V}{lo hi:Int}(h:∀i,x≠.int i):isW x lo hi=aj:=by
 cases x with|int i=>exact T7 rfl<|h i|_=>rfl
def ZaZ{x:V}(hx:okV x=ak):(∃i,x=.int i)\/(∃b,x=.bl b)\/Yf x [.int]=aa aj/\∀i,x≠.int i:=by
 cases x with
 |int i=>exact .inl #[i,rfl]
 |bl b=>exact .inr<|.inl #[b,rfl]
 |drw=>cases hx
 |scr _=>cases hx
 |dow _=>cases hx
 |dct o=>cases o with|inl _=>exact .inr<|.inr #[rfl,nofun]|inr _=>cases hx
 |_=>exact .inr<|.inr #[rfl,nofun]
def Qv{x:V}(hx:okV x=ak):(∃xs,x=.tup xs)\/Yf x [.tuple]=aa aj/\∀xs,x≠.tup xs:=by
 cases x with
 |tup xs=>exact .inl #[xs,rfl]
 |drw=>cases hx
 |scr _=>cases hx
 |dow _=>cases hx
 |dct o=>cases o with|inl _=>exact .inr #[rfl,nofun]|inr _=>cases hx
 |_=>exact .inr #[rfl,nofun]
def jA(d:Nat){x:V}{lo hi:Int}(s:DS)(hx:okV x=ak):CV (d+1) 14 [x,.int lo,.int hi] s=.ok (.bl<|isW x lo hi) s:=by
 refine Zp rfl #[1] rfl ?_
 rcases ZaZ hx with⟨i,rfl⟩|⟨b,rfl⟩|⟨ha,no⟩
 .by_cases h:lo<=i
  .simp[Y9,pvE,isW,Yf,YI,h]
  .simp[Y9,pvE,isW,Yf,YI,h]
 .simp[Y9,pvE,isW,Yf,YI]
 .rw[jc no]
  simp[Y9,pvE,ha]
def Zt(p n:Nat)(x:V):Bool:=match x with
 |.tup xs=>ag (xs.length=n)&&xs.all λv=>isW v 0<|(p:Int)-1
 |_=>aj
def Ze4{p n:Nat}{x:V}(h:∀xs,x≠.tup xs):Zt p n x=aj:=by
 cases x with|tup xs=>exact T7 rfl<|h xs|_=>rfl
theorem Vy{p:Nat}:∀{xs:List V},(xs.all λv=>isW v 0<|(p:Int)-1)=ak->∃r:Row,xs=r.map .int/\∀a∈r,0<=a/\a<(p:Int)
 |[],_=>#[[],rfl,λ_ h=>by cases h]
 |x::xs,h=>by
  rw[fT,aB]at h;obtain⟨r,rfl,hr⟩:=Vy h.2;cases x with
  |int i=>
   have:=h.1;simp only[isW,aB,T0]at this;refine#[i::r,rfl,λa ha=>?_]
   rcases aw.mp ha with rfl|ha
   .lia
   .exact hr a ha
  |_=>cases h.1
def Za7{p n:Nat}{x:V}(h:Zt p n x=ak):∃r:Row,x=Zc r/\Zf p n r:=by
 cases x with
 |tup xs=>
  unfold Zt at h;rw[aB,T0]at h;obtain⟨r,rfl,hr⟩:=Vy h.2;exact#[r,rfl,by simpa using h.1,hr]
 |_=>cases h
def Zad{p n:Nat}{r:Row}(hr:Zf p n r):Zt p n (Zc r)=ak:=by
 unfold Zt Zc;rw[aB,T0,ax];refine#[hr.1,aX.mpr λv hv=>?_]
 obtain⟨a,ha,rfl⟩:=aM.mp hv;have:=hr.2 a ha;simp only[isW,aB,T0];lia
theorem Gi:∀r:Row,Yn (r.map .int)=ak
 |[]=>rfl
 |a::r=>Gi r
def XM(r:Row):okV (Zc r)=ak:=Gi r
section
variable{p n:Nat}[Base p]
theorem UV(d:Nat){x:V}(s:DS)(hn:n<=6)(hx:okV x=ak):CV (d+2) 15 [spV p n,x] s=.ok (.bl<|Zt p n x) s:=by
 refine Zp rfl #[1] rfl ?_
 dsimp only[zA]
 rw[Zh<|Xx (p:=p) (n:=n) _ _ (by simp[pvE]) #[2]]
 rcases Qv hx with⟨xs,rfl⟩|⟨ha,no⟩
 ·
  by_cases hl:xs.length=n
  .rw[Zh (ρ':=[aa<|spV p n,aa<|.tup xs,aa<|.int p,aa<|.int n]) (os':=[]) (s':=s) (by simp[pvE,Yf,YI,ZB,hl])]
   refine Zi<|Zw ?_;have hc:=ZM (C:=CV<|d+1) (cap:=[2]) (nl:=1) (t:=[0]) (it:=.of<|.v 1) (elt:=.call 14 [(.v 0),(.n 0),(.bin .sub (.v 1)<|.n 1)]) (Z:=[aa<|spV p n,aa<|.tup xs,aa<|.int p,aa<|.int n]) (s:=s) (l:=xs) (e:=id) (g:=λv=>V.bl<|isW v 0<|(p:Int)-1)
    (by simp[pvE]) (by unfold lim;lia) (λv hv=>#[_,rfl,by
     have e:=jA d (lo:=0) (hi:=(p:Int)-1) s<|Y0 hx v hv;simp[pvE,e]])
   have ht:=Yk (g:=λv:V=>isW v 0<|(p:Int)-1) xs
   simp[pvE,hc,ht,Zt,hl]
  .refine Zi ?_
   simp[pvE,Yf,YI,ZB,Zt,hl];lia
 .rw[Ze4 no]
  exact Zi (by simp[pvE,ha])
def ZeU(d:Nat){r:Row}(s:DS)(hn:n<=6)(hr:Zf p n r):CV (d+2) 15 [spV p n,Zc r] s=.ok (.bl ak) s:=by
 have e:=UV (p:=p) d s hn<|XM r;rw[Zad hr]at e;exact e
def qY(d:Nat){r:Row}(s:DS)(hn:n<=6)(hr:Zf p n r):CV (d+3) 42 [spV p n,Zc r] s=.ok .non s:=by
 have e:=ZeU d s hn hr;refine G0 (fn:=XV) (Z:=[aa<|spV p n,aa<|Zc r]) (os:=[]) rfl #[1] rfl ?_
 show rvs (CV<|d+2) [] _ [aa<|spV p n,aa<|Zc r] [] s=_;simp[XV,pvE,e]
theorem uQ(d:Nat){hs:List Nat}(s:DS)(hl:hs.length<=1000):CV (d+1) 26 [.lst<|hs.map Zv] s=.ok (.bl<|rise hs) s:=by
 refine Zp rfl #[1] rfl ?_
 have ez:∀(a b:List Nat),((a.map Zv).zip<|b.map Zv).map (λq=>V.tup [q.1,q.2])=(a.zip b).map λq=>V.tup [Zv q.1,Zv q.2]:=by
  intro a
  induction a with
  |nil=>intro b;rfl
  |cons x a ih=>intro b;cases b with|nil=>rfl|cons y b=>simp only[aY,dF];rw[ih]
 have hc:=ZM (C:=CV d) (cap:=[]) (nl:=2) (t:=[0,1]) (it:=.zip (.v 0)<|.sl (.v 0) (aa<|.n 1) ai) (elt:=.cmp .lt (.v 0)<|.v 1) (Z:=[aa<|.lst<|hs.map Zv]) (s:=s) (l:=hs.zip hs.tail) (g:=λq=>V.bl<|ag<|q.1<q.2)
  (by
   have e1:Z6 (hs.map Zv) (aa 1) ai=hs.tail.map Zv:=by rw[Zag,rP]
   simp[pvE,slV,e1];rw[<-rP,ez]) (by rw[gW];unfold lim;lia) (λq hq=>#[_,rfl,by simp[pvE,Zv]])
 have ht:=Yk (g:=λq:Nat×Nat=>ag<|q.1<q.2)<|hs.zip hs.tail
 simp[Uw,pvE,hc,ht,rise]
theorem xG(d:Nat){R:List Row}{k:Nat}(s:DS)(hl:R.length<=1000)(hk:∀r∈R,k<r.length):CV (d+1) 27 [Zk R,.int k] s=.ok (.bl<|R.all λr=>ag<|gt r k=0) s:=by
 refine Zp rfl #[1] rfl ?_
 have hc:=ZM (C:=CV d) (cap:=[1]) (nl:=1) (t:=[0]) (it:=.of<|.v 0) (elt:=.cmp .eq (.ix (.v 0)<|.v 1)<|.n 0) (Z:=[aa<|Zk R,aa<|.int k]) (s:=s) (l:=R) (e:=Zc) (g:=λr=>V.bl<|ag<|gt r k=0)
  (by simp[pvE,Zk]) (by unfold lim;lia) (λr hr=>#[_,rfl,by
   have:=QL<|hk r hr;simp[pvE,Zc,this,ZB]])
 have ht:=Yk (g:=λr:Row=>ag<|gt r k=0) R
 simp[Vv,pvE,hc,ht]
theorem GJ(d:Nat){R:List Row}{i k:Nat}(s:DS)(hR:∀r∈R,Zf p n r)(hl:R.length<=1000)(hi:i<R.length)(hk:k<n):CV (d+2) 28 [Zk R,Zv i,Zv k] s=.ok (.bl<|VY R i k) s:=by
 refine Zp rfl #[1] rfl ?_
 show rvs (CV<|d+1) [] X7.body [aa<|Zk R,aa<|.int i,aa<|.int k] [] s=_;have hrow:=hR _<|aS hi;have e1:at' (R.map Zc) (i:Int)=aa (Zc R[i]):=X9 (by rw[aK,af hi];rfl)
 have e2:=QL (by rw[hrow.1];exact hk)
 have e3:=xG d (R:=R.take i++R.drop (i+1)) s (by rw[aQ,bQ,bF];lia) (λr hr=>by
  obtain⟨j,hj,ne,rfl⟩:=J2 hr;rw[(hR _<|aS hj).1];exact hk)
 have c1:Z6 (R.map Zc) ai (aa (i:Int))=(R.take i).map Zc:=by rw[ZeT (by rw[ax];lia),List.map_take]
 have c2:Z6 (R.map Zc) (aa<|(i:Int)+1) ai=(R.drop<|i+1).map Zc:=by rw[yH (k:=i+1) #[0] (by rw[ax];lia),List.map_drop]
 have g0:pv (CV<|d+1) (.ix (.ix (.v 0)<|.v 1)<|.v 2) [aa<|Zk R,aa<|.int i,aa<|.int k] s=.ok (.int<|gt R[i] k) s:=by
  rw[Xz,Xz,Zd rfl,Za,Zd rfl,Za];show((po (at' (R.map Zc) (i:Int)) s).bind _)=_;rw[e1,ZT,Za,Zd rfl,Za];show po (at' (R[i].map V.int) (k:Int)) s=_;rw[e2];rfl
 have g1:pv (CV<|d+1) (.cmp .eq (.ix (.ix (.v 0)<|.v 1)<|.v 2)<|.n 1) [aa<|Zk R,aa<|.int i,aa<|.int k] s=.ok (.bl<|ag<|gt R[i] k=1) s:=by
  rw[YU,g0,Za];simp[pvE,ofD,ZB]
 have g2:pv (CV<|d+1) (.bin .add (.sl (.v 0) ai<|aa<|.v 1)<|.sl (.v 0) (aa<|.bin .add (.v 1)<|.n 1) ai) [aa<|Zk R,aa<|.int i,aa<|.int k] s=.ok (Zk<|R.take i++R.drop (i+1)) s:=by
  have c3:(R.take i).length+(R.drop<|i+1).length<=16777216:=by rw[bQ,bF];lia
  rw[bQ,bF]at c3;simp[pvE,Zk,slV,c1,c2,c3]
 have g3:=Zo (Zb g2<|Zb (Zd (i:=2) rfl) Ze) e3;refine Zi<|Zw ?_;rw[uy,g1,Za];unfold VY;rw[GI hi];cases ag (gt R[i] k=1)with|true=>exact g3|false=>rfl
theorem v4:∀R:List Row,WK .non (R.map λr=>Vp<|hdI r)=aa (!(R.all λr=>(hdI r).isSome))
 |[]=>rfl
 |r::R=>by
  show(match eqV ZB (Vp<|hdI r) .non,WK .non (R.map λr=>Vp<|hdI r)with|some a,aa b=>aa (a||b)|_,_=>ai)=_
  rw[v4 R,fT];cases hdI r with|none=>simp[Vp,qU,ZbQ,ZB]|some k=>simp[Vp,qU,ZbQ,ZB]
def j9{R:List Row}(h:(R.all λr=>(hdI r).isSome)=ak):R.map (λr=>Vp<|hdI r)=(ZI R).map Zv:=by
 unfold ZI;rw[bS];refine du λr hr=>?_
 obtain⟨k,hk⟩:=bP.mp<|aX.mp h r hr;show Vp (hdI r)=Zv ((hdI r).getD 0);rw[hk];rfl
theorem jb(d:Nat){R:List Row}(s:DS)(hn:n<=6)(hR:∀r∈R,Zf p n r)(hl:R.length<=1000):rvs (CV<|d+2) [] (VZ.body.drop 1) [aa<|spV p n,aa<|Zk R,ai] [] s=.ok (.ret<|.bl<|WM R) s:=by
 show rvs _ _ (.asg [2] (.comp1 [] 1 [0] (.of<|.v 1) []<|.call 18 [(.v 0)]) ::
  .ite (.or (.cmp .inn (.c .non)<|.v 2)<|.not<|.call 26 [(.v 2)]) [.ret<|.c<|.bl aj] [] ::
  .ret (.blt .all [(.comp1 [1] 2 [0,1] (.enum<|.v 2) []<|.call 28 [(.v 2),(.v 0),(.v 1)])])::[]) _ _ _=_
 have hc2:=ZM (C:=CV<|d+2) (cap:=[]) (nl:=1) (t:=[0]) (it:=.of<|.v 1) (elt:=.call 18 [(.v 0)]) (Z:=[aa<|spV p n,aa<|Zk R,ai]) (s:=s) (l:=R) (e:=Zc) (g:=λr=>Vp<|hdI r)
  (by simp[pvE,Zk]) (by unfold lim;lia) (λx hx=>#[_,rfl,by
   have e:=zb (d+1) x s;simp[pvE,e]])
 rw[Zh (ρ':=[aa<|spV p n,aa<|Zk R,aa<|.lst<|R.map λr=>Vp<|hdI r]) (os':=[]) (s':=s) (by simp[pvE,hc2])]
 have hin:=v4 R;unfold WM;cases hh:R.all λr=>(hdI r).isSome with
 |false=>
  rw[hh]at hin;exact Zi (by simp[pvE,Uk,hin])
 |true=>
  rw[hh]at hin;rw[j9 hh]at hin ⊢;have hln:(ZI R).length=R.length:=by unfold ZI;rw[ax]
  have e3:=uQ (d+1) (hs:=ZI R) s #[0]
  cases hr:rise (ZI R)with
  |false=>
   rw[hr]at e3;exact Zi (by simp[pvE,Uk,hin,e3])
  |true=>
  rw[hr]at e3;rw[Zh (ρ':=[aa<|spV p n,aa<|Zk R,aa<|.lst<|(ZI R).map Zv]) (os':=[]) (s':=s) (by simp[pvE,Uk,hin,e3])]
  refine Zi<|Zw ?_;have ew:((Yc 0 (ZI R).length).zip<|(ZI R).map Zv).map (λq=>V.tup [q.1,q.2])=(aO R.length).map λi=>V.tup [Zv i,Zv<|(ZI R).getD i 0]:=by
   apply iM
   .simp[Yc,hln]
   .intro i h1 h2
    have h3:i<R.length:=by simpa using h2
    have h4:i<(ZI R).length:=by lia
    simp[Yc,Zv,h4]
  have hc3:=ZM (cap:=[1]) (nl:=2) (t:=[0,1]) (elt:=.call 28 [(.v 2),(.v 0),(.v 1)]) (l:=aO R.length)
   (by
    have:pvw (CV<|d+2) (.enum<|.v 2) [aa<|spV p n,aa<|Zk R,aa<|.lst<|(ZI R).map Zv] s=.ok (((Yc 0 ((ZI R).map Zv).length).zip<|(ZI R).map Zv).map λq=>V.tup [q.1,q.2]) s:=by simp[pvE]
    rw[this,ax,ew]) (by rw[bu];unfold lim;lia) (λi hi=>#[_,rfl,by
    have hi':=aU.mp hi;have hk:(ZI R).getD i 0<n:=by
     rw[QG hi'];obtain⟨k,hk⟩:=bP.mp<|aX.mp hh _<|aS hi';rw[hk,<-(hR _<|aS hi').1];exact(Z1 hk).2.1
    exact Zo (Zb (Zd rfl)<|Zb (Zd rfl)<|Zb (Zd rfl) Ze)<|GJ d s hR hl hi' hk])
  have ht3:=Yk (g:=λi:Nat=>VY R i<|(ZI R).getD i 0)<|aO R.length
  rw[Yt,Zb hc3 Ze,Za];show po ((ZY _).map λbs=>V.bl<|bs.all id) s=_
  rw[ht3];show PR.ok (V.bl<|(re _ _).all id) s=_;rw[kl];rfl
def isP(p n:Nat)(x:V):Bool:=match x with
 |.tup xs=>xs.all (Zt p n)&&match Yy xs with
  |some R=>WM R
  |none=>aj
 |_=>aj
theorem WC:∀{xs:List V},xs.all (Zt p n)=ak->∃R:List Row,xs=R.map Zc/\∀r∈R,Zf p n r
 |[],_=>#[[],rfl,λ_ h=>by cases h]
 |x::xs,h=>by
  rw[fT,aB]at h;obtain⟨R,rfl,hR⟩:=WC h.2;obtain⟨r,rfl,hr⟩:=Za7 h.1;refine#[r::R,rfl,λa ha=>?_]
  rcases aw.mp ha with rfl|ha
  .exact hr
  .exact hR a ha
def GR{x:V}:isP p n x=ak↔∃P,x=Zk P/\pZ p n P:=by
 constructor
 .intro h
  cases x with
  |tup xs=>
   unfold isP at h;rw[aB]at h;obtain⟨R,rfl,hR⟩:=WC h.1;have h2:=h.2;rw[YE]at h2;exact#[R,rfl,(Xw hR).mp h2]
  |_=>cases h
 .rintro ⟨P,rfl,hP⟩
  show(_&&_)=ak;rw[aB,YE];refine#[aX.mpr λv hv=>?_,(Xw hP.row).mpr hP]
  obtain⟨r,hr,rfl⟩:=aM.mp hv;exact Zad<|hP.row r hr
def Zaa{x:V}(h:∀xs,x≠.tup xs):isP p n x=aj:=by
 cases x with|tup xs=>exact T7 rfl<|h xs|_=>rfl
theorem jV(d:Nat){x:V}(s:DS)(hn:n<=6)(hx:okV x=ak)(hl:∀xs,x=.tup xs->xs.length<=1000):CV (d+3) 29 [spV p n,x] s=.ok (.bl<|isP p n x) s:=by
 refine Zp rfl #[1] rfl ?_
 show rvs (CV<|d+2) [] (.ite (.or (.not<|.isi (.v 1) [.tuple])<|.not<|.blt .all [(.comp1 [0] 1 [0] (.of<|.v 1) []<|.call 15 [(.v 1),(.v 0)])]) [.ret<|.c<|.bl aj] []::VZ.body.drop 1) [aa<|spV p n,aa x,ai] [] s=_;rcases Qv hx with⟨xs,rfl⟩|⟨ha,no⟩
 ·
  have hl:=hl xs rfl;have hc1:=ZM (C:=CV<|d+2) (cap:=[0]) (nl:=1) (t:=[0]) (it:=.of<|.v 1) (elt:=.call 15 [(.v 1),(.v 0)]) (Z:=[aa<|spV p n,aa<|.tup xs,ai]) (s:=s) (l:=xs) (e:=id) (g:=λv=>V.bl<|Zt p n v)
   (by simp[pvE]) (by unfold lim;lia) (λv hv=>#[_,rfl,by
    have e:=UV (p:=p) d s hn<|Y0 hx v hv;simp[pvE,e]])
  have ht:=Yk (g:=λv:V=>Zt p n v) xs
  have hpt:Yf (.tup xs) [.tuple]=aa ak:=rfl;cases ha:xs.all (Zt p n)with
  |false=>
   have hf:(xs.map λv=>Zt p n v).all id=aj:=by rw[kl];exact ha
   refine Zi ?_;simp[pvE,hpt,hc1,ht,isP,ha,hf]
  |true=>
   have hf:(xs.map λv=>Zt p n v).all id=ak:=by rw[kl];exact ha
   rw[Zh (ρ':=[aa<|spV p n,aa<|.tup xs,ai]) (os':=[]) (s':=s) (by simp[pvE,hpt,hc1,ht,hf])]
   obtain⟨R,rfl,hR⟩:=WC ha;have e:=jb d s hn hR (by simpa using hl)
   have eb:isP p n (.tup<|R.map Zc)=WM R:=by
    show((R.map Zc).all (Zt p n)&&match Yy (R.map Zc)with|some R=>WM R|none=>aj)=_
    rw[ha,YE];rfl
   rw[eb];exact e
 .rw[Zaa no]
  exact Zi (by simp[pvE,ha])
theorem Vn:∀P:List Row,Yn (P.map Zc)=ak
 |[]=>rfl
 |r::P=>by
  show(okV (Zc r)&&Yn (P.map Zc))=ak;rw[XM,Vn P];rfl
def zg(P:List Row):okV (Zk P)=ak:=Vn P
def QX{P:List Row}(hP:pZ p n P):∀xs,Zk P=.tup xs->xs.length<=n:=λxs e=>by
 cases e;rw[ax];exact dsum hP
def Qh(d:Nat){x:V}(s:DS)(hn:n<=6)(hx:okV x=ak)(hl:∀xs,x=.tup xs->xs.length<=1000):CV (d+4) 30 [spV p n,x] s=if isP p n x=ak then .ok .non s else .ex 2 s:=by
 have e:=jV (p:=p) d s hn hx hl;cases h:isP p n x with
 |true=>
  rw[h]at e;refine G0 (Z:=[aa<|spV p n,aa x]) (os:=[]) rfl #[1] rfl ?_
  simp[X5,pvE,e]
 |false=>
  rw[h]at e;refine Vl rfl #[1] rfl ?_
  simp[X5,pvE,e];rfl
theorem qm(d:Nat){P:List Row}(s:DS)(hn:n<=6)(hP:pZ p n P):CV (d+4) 30 [spV p n,Zk P] s=.ok .non s:=by
 have e:=Qh (p:=p) d s hn (zg P) λxs z=>by have:=QX hP xs z;lia
 rw[T9<|GR.mpr #[P,rfl,hP]]at e;exact e
end
end K72
namespace Rw
open La
open Ev (ltP Wr YW)
section
variable{p n:Nat}[Base p]
variable{k:Nat}
theorem Vm{B:Type}[BEq B][LawfulBEq B]:∀{L A:List B},L.Nodup->(∀x∈L,x∈A)->L.length<=A.length
 |[],_,_,_=>db _
 |x::L,A,h,hs=>by
  rw[dD]at h;have h1:=Vm (L:=L) (A:=A.erase x) h.2 λy hy=>(List.mem_erase_of_ne (show y≠x from λe=>h.1<|by rw[<-e];exact hy)).mpr<|hs y<|am _ hy
  have h2:=hs x<|al ..;have h3:=List.length_erase_of_mem h2;have h4:=ml h2;rw[aV];omega
end
def Ur(p:Nat)(L:List Row)(o:Row):List Row:=(aO p).flatMap λ(k:Nat)=>L.map λr=>Zy p r o (k:Int)
def wS(p n:Nat)(P:List Row):List Row:=P.foldl (Ur p) [au n 0]
def uM(L o):(Ur p L o).length=L.length*p:=by
 unfold Ur;rw[List.length_flatMap,show((aO p).map λ(k:Nat)=>(L.map λr=>Zy p r o (k:Int)).length)=au p L.length from iM #[2] λi h1 h2=>by simp,List.sum_replicate_nat,oA]
def ZbM(P):(wS p n P).length=p^P.length:=by
 unfold wS
 suffices ∀(P L:List Row),(P.foldl (Ur p) L).length=L.length*p^P.length by rw[this];simp
 intro P
 induction P with|nil=>intro L;simp|cons o P ih=>intro L;rw[dk,ih,uM,aV,Nat.pow_succ,Nat.mul_assoc,oA p]
section
variable{p n:Nat}[Base p]
def Z3:Zf p n (au n 0):=#[bL,λa ha=>by
 have:=(inferInstance:Base p).b;rw[fm ha];omega]
def WF(j):gt (au n 0) j=0:=by
 unfold gt;rw[aA,cK];split<;>rfl
def qv(hL:∀r∈L,Zf p n r)(ho:Zf p n o):∀r∈Ur p L o,Zf p n r:=λr hr=>by
 obtain⟨k,_,h⟩:=fB.mp hr;obtain⟨q,hq,rfl⟩:=aM.mp h;exact Zu (hL q hq) ho
def Zd0(hW:pZ p n W)(hr:Zf p n r)(ho:Zf p n o)(h1:X2 p W r=ak)(h2:X2 p W o=ak):X2 p W (Zy p r o k)=ak:=by
 rw[Yb hW<|Zu hr ho];rw[Z0 hr ho];exact UR (ph p k) ((Yb hW hr).mp h1)<|(Yb hW ho).mp h2
theorem wI(hW:pZ p n W):∀{P L:List Row},(∀r∈P,r∈W)->(∀r∈L,Zf p n r/\X2 p W r=ak)->∀r∈P.foldl (Ur p) L,Zf p n r/\X2 p W r=ak
 |[],_,_,h=>h
 |o::P,L,hP,h=>by
  have ho:=hP o<|al ..;refine wI hW (P:=P) (λr hr=>hP r<|am _ hr) λr hr=>?_
  obtain⟨k,_,h3⟩:=fB.mp hr;obtain⟨q,hq,rfl⟩:=aM.mp h3;exact#[Zu (h q hq).1<|hW.row o ho,Zd0 hW (h q hq).1 (hW.row o ho) (h q hq).2<|uj hW ho]
theorem wK:∀{P L:List Row}{a r:Row},(∀o∈P,Zf p n o)->a∈L->Zf p n a->Zf p n r->hdI (Zn p P<|Zy p r a<|-1)=ai->r∈P.foldl (Ur p) L
 |[],L,a,r,_,ha,h1,h2,h=>by
  have e:=Xg h2 h1 (by
   funext j
   have z:=(Yi<|Zu h2 h1).mpr<|Y4 h j;rw[Z0 h2 h1,V0,J5]at z
   grind)
  rw[e];exact ha
 |o::P,L,a,r,hP,ha,h1,h2,h=>by
  have ho:=hP o<|al ..
  let x:=Zy p r a<|-1
  have hx:Zf p n x:=Zu h2 h1;have hk:=XY ppos hx<|(hdI o).getD 0;have e:clr p x o ((hdI o).getD 0)=Zy p r (Zy p a o<|gt x<|(hdI o).getD 0) (-1):=Xg (Zu hx ho) (Zu h2<|Zu h1 ho) (by
   rw[GN hx ho,Z0 h2<|Zu h1 ho,Z0 h1 ho]
   funext j
   show toV p (Zy p r a<|-1) j-toV p x ((hdI o).getD 0)*toV p o j=toV p r j+ph p (-1)*(toV p a j+toV p x ((hdI o).getD 0)*toV p o j);rw[Z0 h2 h1,V0,J5]
   grind)
  refine wK (P:=P) (λq hq=>hP q<|am _ hq) (fB.mpr #[(gt x<|(hdI o).getD 0).toNat,aU.mpr #[3],aM.mpr #[a,ha,by rw[ki hk.1]]]) (Zu h1 ho) h2 ?_
  rw[<-e];exact h
theorem xg(hP:pZ p n P):r∈wS p n P↔Zf p n r/\X2 p P r=ak:=by
 constructor
 .exact wI hP (λ_ h=>h) (λq hq=>by rw[aZ.mp hq];exact#[Z3,wZ hP Z3 WF]) r
 .intro#[h1,h2]
  refine wK hP.row (aZ.mpr rfl) Z3 h1 ?_;have e:Zy p r (au n 0) (-1)=r:=Xg (Zu h1 Z3) h1 (by
   rw[Z0 h1 Z3]
   funext j
   rw[(Yi Z3).mpr<|WF j]
   grind)
  rw[e];exact Option.isNone_iff_eq_none.mp h2
theorem zI:∀{P L:List Row},(∀o∈P,Zf p n o/\gt o ((hdI o).getD 0)=1)->(P.Pairwise λo q=>gt o ((hdI q).getD 0)=0)->(∀r∈L,Zf p n r/\∀o∈P,gt r ((hdI o).getD 0)=0)->L.Nodup->(P.foldl (Ur p) L).Nodup
 |[],_,_,_,_,h=>h
 |o::P,L,hP,hz,hL,h=>by
  obtain⟨ho,h1⟩:=hP o<|al ..;obtain⟨z1,z2⟩:=bj.mp hz;refine zI (P:=P) (λq hq=>hP q<|am _ hq) z2 (λr hr=>#[qv (λr hr=>(hL r hr).1) ho r hr,λq hq=>?_]) ?_
  .obtain⟨k,_,h3⟩:=fB.mp hr
   obtain⟨s,hs,rfl⟩:=aM.mp h3;rw[UQ (hL s hs).1 ho,(hL s hs).2 q<|am _ hq,z1 q hq];simp
  .have at_:∀k r,k<p->r∈L->gt (Zy p r o (k:Int)) ((hdI o).getD 0)=k:=λk r hk hr=>by
    rw[UQ (hL r hr).1 ho,(hL r hr).2 o<|al ..,h1,Int.zero_add,Int.mul_one,gf #[3] #[3]]
   refine List.pairwise_flatMap.mpr #[λk hk=>?_,?_]
   .refine cZ.mpr (h.imp_of_mem λ{a b} ha hb ne e=>ne<|Xg (hL a ha).1 (hL b hb).1 ?_)
    have q:=congrArg (toV p) e;rw[Z0 (hL a ha).1 ho,Z0 (hL b hb).1 ho]at q
    funext j
    have:=congrFun q j
    grind
   .refine List.nodup_range.imp_of_mem λ{a b} ha hb ne x hx y hy e=>ne ?_
    obtain⟨r,hr,rfl⟩:=aM.mp hx;obtain⟨q,hq,rfl⟩:=aM.mp hy;have:=at_ a r (aU.mp ha) hr;rw[e,at_ b q (aU.mp hb) hq]at this;omega
def Zde(hP:pZ p n P):(wS p n P).Nodup:=by
 have rf:=hP.pn.rf;refine zI (λo ho=>#[hP.row o ho,(UI<|hP.row o ho).mp<|rf.one _<|Yp ho]) ?_ (λr hr=>?_)<|dD.mpr #[by simp,mL]
 .exact(cZ.mp rf.inc).imp_of_mem λ{a b} ha hb lt=>(Yi<|hP.row a ha).mp<|rf.zer _ (Yp hb) _ (Yp ha)<|ek lt
 .rw[aZ.mp hr]
  exact#[Z3,λo _=>WF _]
end
open Pv (YK)
def ZbT :x∈YK F r↔x∈F\/x=r:=by
 unfold YK;split
 .rename_i h
  exact#[.inl,λz=>z.elim id λe=>e▸(eP.mp h)]
 .simp
def ZdO(h:F.Nodup):(YK F r).Nodup:=by
 unfold YK;split
 .exact h
 .rename_i q
  refine eZ.mpr #[h,by simp,λa ha b hb e=>q ?_]
  rw[aZ.mp hb]at e;exact eP.mpr<|e▸ha
theorem zm:∀{L F:List Row}{x:Row},x∈L.foldl YK F↔x∈F\/x∈L
 |[],F,x=>by simp
 |r::L,F,x=>by
  rw[dk,zm,ZbT,aw,or_assoc]
theorem vG:∀{L F:List Row},F.Nodup->(L.foldl YK F).Nodup
 |[],F,h=>h
 |r::L,F,h=>vG (L:=L)<|ZdO h
def qf(p:Nat)(F:List Row)(r:Row):List Row:=F.flatMap λo=>(aO<|p-1).map λ(k:Nat)=>Zy p o r<|(k:Int)+1
def Uz(p:Nat)(F:List Row)(r:Row):List Row:=if F.contains r then F else(qf p F r).foldl YK F
def ZD(p n:Nat)(R:List Row):List Row:=R.foldl (Uz p) [au n 0]
section
variable{p n:Nat}[Base p]
structure HasK(p n:Nat)[NeZero p](F P:List Row):Prop where
 part:pZ p n P
 nd:F.Nodup
 mem:∀x,x∈F↔Zf p n x/\X2 p P x=ak
theorem GO(hP:pZ p n P)(hr:Zf p n r)(hu:Zf p n u):X2 p (XD p P r) u=ak↔∃k,k<p/\X2 p P (Zy p u r<|-(k:Int))=ak:=by
 obtain⟨h1,h2⟩:=W7 hP hr;rw[Yb h1 hu,Mm,h2,(Vx (fld) hP.pn<|Wa hr).mem]
 constructor
 .rintro ⟨c,hc⟩
  refine#[c.val,c.isLt,(Yb hP<|Zu hu hr).mpr ?_];rw[Z0 hu hr];have e:ph p (-(c.val:Int)) = -c:=by
   rw[V0]
   congr 1
   exact Vt (by rw[YM,gf #[3] (by have:=c.isLt;omega)])
  rw[e];have e2:(λj=>toV p u j + -c*toV p r j)=λj=>toV p u j-c*toV p r j:=by funext j;grind
  rw[e2];exact hc
 .rintro ⟨k,_,hk⟩
  refine#[ph p (k:Int),?_];have:=(Yb hP<|Zu hu hr).mp hk;rw[Z0 hu hr,V0]at this;have e2:(λj=>toV p u j-ph p (k:Int)*toV p r j)=λj=>toV p u j + -ph p (k:Int)*toV p r j:=by funext j;grind
  rw[e2];exact this
def jJ(hP:pZ p n P)(hr:Zf p n r)(h:X2 p P r=ak):XD p P r=P:=by
 obtain⟨h1,h2⟩:=W7 hP hr;exact vJ h1.row hP.row<|h2.trans<|(Vx (fld) hP.pn<|Wa hr).same<|(Yb hP hr).mp h
def ZcX(hP:pZ p n P)(hr:Zf p n r)(h:X2 p P r=aj):(XD p P r).length=P.length+1:=by
 obtain⟨h1,h2⟩:=W7 hP hr;have:=(Vx (fld) hP.pn<|Wa hr).len λq=>by rw[(Yb hP hr).mpr q]at h;cases h
 rwa[<-h2,GW,GW]at this
theorem JQ(hu:Zf p n u)(hr:Zf p n r):Zy p (Zy p u r<|-k) r k=u:=by
 refine Xg (Zu (Zu hu hr) hr) hu ?_;rw[Z0 (Zu hu hr) hr,Z0 hu hr,V0]
 funext j;grind
theorem Jk(hu:Zf p n u)(hr:Zf p n r):Zy p u r 0=u:=by
 refine Xg (Zu hu hr) hu ?_;rw[Z0 hu hr,Vi]
 funext j;grind
def HasK.step(h:HasK p n F P)(hr:Zf p n r):HasK p n (Uz p F r) (XD p P r):=by
 obtain⟨h1,h2⟩:=W7 h.part hr;unfold Uz;by_cases c:F.contains r=ak
 .rw[T9 c,jJ h.part hr ((h.mem r).mp<|eP.mp c).2]
  exact h
 .rw[T8 c]
  refine#[h1,vG h.nd,λx=>?_]
  rw[zm]
  constructor
  .rintro (hx|hx)
   .obtain⟨a,b⟩:=(h.mem x).mp hx
    exact#[a,(GO h.part hr a).mpr #[0,by have:=(inferInstance:NeZero p).ne;omega,by rw[show(-((0:Nat):Int))=0 from rfl,Jk a hr];exact b]]
   .obtain⟨o,ho,hx⟩:=fB.mp hx
    obtain⟨k,hk,rfl⟩:=aM.mp hx;have hk:=aU.mp hk;obtain⟨a,b⟩:=(h.mem o).mp ho;refine#[Zu a hr,(GO h.part hr<|Zu a hr).mpr #[k+1,by omega,?_]]
    have e:=JQ (k:=-((k:Int)+1)) a hr;rw[Int.neg_neg]at e;rw[show(-((k+1:Nat):Int)) = -((k:Int)+1) by omega,e]
    exact b
  .rintro ⟨hx,hm⟩
   obtain⟨k,hk,hm⟩:=(GO h.part hr hx).mp hm;have ho:=(h.mem _).mpr #[Zu hx hr,hm];have e:=JQ (k:=(k:Int)) hx hr;cases k with
   |zero=>
    refine .inl ?_;rw[show(-((0:Nat):Int))=0 from rfl,Jk hx hr]at ho
    exact ho
   |succ k=>
    exact .inr (fB.mpr #[_,ho,aM.mpr #[k,aU.mpr #[3],by rw[show((k:Int)+1)=((k+1:Nat):Int) by omega];exact e]])
theorem HasK.nil:HasK p n [au n 0] []:=by
 refine#[pZ.nil,by simp,λx=>?_]
 rw[aZ]
 constructor
 .rintro rfl
  exact#[Z3,wZ pZ.nil Z3 WF]
 .rintro ⟨hx,hm⟩
  refine jC (by rw[hx.1,bL]) λj=>?_
  rw[WF];unfold X2 Zn at hm;rw[List.foldl_nil]at hm;cases q:hdI x with|none=>exact Y4 q j|some k=>rw[q]at hm;cases hm
theorem HasK.all:∀{R F P:List Row},HasK p n F P->(∀r∈R,Zf p n r)->HasK p n (R.foldl (Uz p) F) (Z2 p P R)
 |[],F,P,h,_=>h
 |r::R,F,P,h,hR=>HasK.all (R:=R) (h.step<|hR r<|al ..) λx hx=>hR x<|am _ hx
def Yd(hR:∀r∈R,Zf p n r):HasK p n (ZD p n R) (Z2 p [] R):=HasK.nil.all hR
def HasK.len(h:HasK p n F P):F.length=p^P.length:=by
 rw[<-ZbM P];refine Nat.le_antisymm (Vm h.nd λx hx=>?_)<|Vm (Zde h.part) λx hx=>?_
 .exact(xg h.part).mpr<|(h.mem x).mp hx
 .exact(h.mem x).mpr<|(xg h.part).mp hx
def Zc9(h:p^a=p^b):a=b:=by
 have h2:1<p:=by rcases(inferInstance:Base p).b with e|e|e<;>omega
 rcases Nat.lt_trichotomy a b with q|q|q
 .have:=gv h2 q;omega
 .exact q
 .have:=gv h2 q;omega
end
def vH(n j:Nat):Row:=(aO n).map λi=>if i=j then 1 else 0
def units(n:Nat):List Row:=(aO n).map<|vH n
def ZcQ:∀n,n<=6->WM (units n)=ak:=by
 intro n h
 match n,h with
 |0,_|1,_|2,_|3,_|4,_|5,_|6,_=>decide +kernel
def qh(n):(units n).length=n:=by unfold units;rw[ax,bu]
section
variable{p n:Nat}[Base p]
def YZ:∀r∈units n,Zf p n r:=λr hr=>by
 obtain⟨j,_,rfl⟩:=aM.mp hr;have h2:1<p:=by rcases(inferInstance:Base p).b with e|e|e<;>omega
 unfold vH;refine#[by rw[ax,bu],λa ha=>?_]
 obtain⟨i,_,rfl⟩:=aM.mp ha;split<;>omega
def wC(hn:n<=6):pZ p n (units n):=(Xw YZ).mp<|ZcQ n hn
def GS(hn:n<=6):(ZD p n<|units n).length=p^n:=by
 have h:=(Yd (p:=p) (n:=n) YZ).len;rw[JN<|wC hn,qh]at h;exact h
def ZaJ(hn:n<=6){R:List Row}(hR:∀r∈R,Zf p n r):((ZD p n R).length=(ZD p n<|units n).length)↔(Z2 p [] R).length=n:=by
 rw[GS hn,(Yd hR).len];exact#[Zc9,λe=>by rw[e]]
def ZcU(hn:n<=6)(hR:∀r∈R,Zf p n r)(h:(Z2 p [] R).length<n):((ZD p n<|units n).filter λr=>!(ZD p n R).contains r)≠[]:=λe=>by
 have hl:=Vm (Yd YZ).nd λx hx=>by
  have:=mm.mp e x hx
  simpa using this
 rw[GS hn,(Yd hR).len]at hl;have h2:1<p:=by rcases(inferInstance:Base p).b with e|e|e<;>omega
 have:=gv h2 h;omega
end
end Rw
namespace K72
open Ev Pv Rw La
def vW(h:Nat):(au h [V.int 0]).flatten=(au h (0:Int)).map V.int:=by
 induction h with|zero=>rfl|succ h ih=>rw[cr,eV,ih,cr];rfl
def Vz(r:Row):V.flat (Zc r)=ak:=Qs r
theorem Je:∀L:List Row,WQ (L.map Zc)=ak
 |[]=>rfl
 |r::L=>by
  show(V.flat (Zc r)&&WQ (L.map Zc))=ak;rw[Vz,Je L];rfl
section
variable{p n:Nat}[Base p]
def ix0{C:Zx}{i:Nat}{Z:Env}{s:DS}(h:Z[i]?=aa (aa<|spV p n)):pv C (.ix (.v i)<|.n 0) Z s=.ok (.int p) s:=by
 rw[Xz,Zd h,Za,pE1,show ofD (V.int 0)=aa (V.int 0)from rfl];rfl
def ix1{C:Zx}{i:Nat}{Z:Env}{s:DS}(h:Z[i]?=aa (aa<|spV p n)):pv C (.ix (.v i)<|.n 1) Z s=.ok (.int n) s:=by
 rw[Xz,Zd h,Za,pE1,show ofD (V.int 1)=aa (V.int 1)from rfl];rfl
def VF{C:Zx}{i:Nat}{Z:Env}{s:DS}(hn:n<=6)(h:Z[i]?=aa (aa<|spV p n)):pv C (.bin .mul (.tup [(.n 0)])<|.ix (.v i)<|.n 1) Z s=.ok (Zc<|au n 0) s:=by
 have g:pv C (.tup [(.n 0)]) Z s=.ok (.tup [.int 0]) s:=by simp[pvE,ofD]
 rw[pE7,g,Za,ix1 h,Za];show(if(0:Int)<=n/\(n:Int)<1000/\1<=1000 then PR.ok (V.tup (au (n:Int).toNat [V.int 0]).flatten) s else .no)=_
 rw[T9 #[by omega,by omega,by omega],c7,vW];rfl
def VS{C:Zx}{i j:Nat}{Z:Env}{s:DS}{r:Row}{k:Nat}(h:Z[i]?=aa (aa<|Zc r))(hj:Z[j]?=aa (aa<|Zv k))(hk:k<r.length):pv C (.ix (.v i)<|.v j) Z s=.ok (.int<|gt r k) s:=by
 rw[Xz,Zd h,Za,Zd hj,Za];show po (at' (r.map V.int) (k:Int)) s=_;rw[QL hk];rfl
def VG(d:Nat){r o:Row}{k:Int}(s:DS)(hn:n<=6)(hr:Zf p n r)(ho:Zf p n o)(hk:-1000<k/\k<1000):CV (d+1) 4 [spV p n,Zc r,.int k,Zc o] s=.ok (Zc<|Zy p r o k) s:=by
 have hp:=X3 (p:=p);refine Zp rfl #[1] rfl ?_
 show rvs (CV d) [] (.ret (.blt .tuple [(.comp1 [1,2,3,0] 1 [0] (.rng1<|.ix (.v 0)<|.n 1) []<|.bin .mod (.bin .add (.ix (.v 1)<|.v 0)<|.bin .mul (.v 2)<|.ix (.v 3)<|.v 0)<|.ix (.v 4)<|.n 0)])::[]) [aa<|spV p n,aa<|Zc r,aa<|.int k,aa<|Zc o] [] s=_;have hc:=ZM (cap:=[1,2,3,0]) (nl:=1) (t:=[0]) (it:=.rng1<|.ix (.v 0)<|.n 1) (elt:=.bin .mod (.bin .add (.ix (.v 1)<|.v 0)<|.bin .mul (.v 2)<|.ix (.v 3)<|.v 0)<|.ix (.v 4)<|.n 0) (Z:=[aa<|spV p n,aa<|Zc r,aa<|.int k,aa<|Zc o])
  (Yr (ix1 rfl)<|by omega) (by rw[bu];unfold lim;omega) (λj hj=>by
   have hj:=aU.mp hj;have h2:=XY #[3] ho j
   refine#[[aa<|Zv j,aa<|Zc r,aa<|.int k,aa<|Zc o,aa<|spV p n],rfl,?_];have e1:=VS (C:=CV d) (i:=1) (j:=0) (Z:=[aa<|Zv j,aa<|Zc r,aa<|.int k,aa<|Zc o,aa<|spV p n]) (s:=s) rfl rfl (by rw[hr.1];exact hj)
   have e2:=VS (C:=CV d) (i:=3) (j:=0) (Z:=[aa<|Zv j,aa<|Zc r,aa<|.int k,aa<|Zc o,aa<|spV p n]) (s:=s) rfl rfl (by rw[ho.1];exact hj)
   have e3:pv (CV d) (.bin .mul (.v 2)<|.ix (.v 3)<|.v 0) [aa<|Zv j,aa<|Zc r,aa<|.int k,aa<|Zc o,aa<|spV p n] s=.ok (.int<|k*gt o j) s:=by
    rw[pE7,Zd rfl,Za,e2,Za];show(if(fits k&&fits (gt o j))=ak then PR.ok (V.int<|k*gt o j) s else .no)=_
    rw[T9 (by rw[Z8 #[3] #[3],Z8 #[3] #[3]];rfl)]
   rw[pE7,pE7,e1,Za,e3,Za];show PR.bind (PR.ok (V.int<|gt r j+k*gt o j) s) _=_;rw[Za,ix0 rfl,Za];show(if(0:Int)<p then PR.ok (V.int<|(gt r j+k*gt o j)%p) s else .no)=_
   rw[T9 #[3]])
 have e:((aO n).map λj=>V.int<|(gt r j+k*gt o j)%p)=(Zy p r o k).map V.int:=by
  have hl:=(Zu (k:=k) hr ho).1;refine bW λi=>?_
  rw[aK,aK];by_cases hi:i<n
  .rw[cX hi,af (by rw[hl];exact hi)]
   have g:=UQ (k:=k) hr ho i;unfold gt at g;rw[aA,af<|by rw[hl];exact hi]at g
   simp only[Option.map_some,l4]at g ⊢;rw[g];rfl
  .rw[bM (by rw[bu];omega),bM (by rw[hl];omega)];rfl
 refine Zi<|Zw ?_;rw[Yt,Zb hc Ze,e];rfl
def jv(d:Nat){F:List Row}{r o:Row}{v:V}{a5:Option V}{k:Nat}(s:DS)(hn:n<=6)(hr:Zf p n r)(ho:Zf p n o)(hk:k<1000)(hl:F.length<lim) :
  rvs (CV<|d+1) [2] [.dput (.v 2) (.call 4 [(.v 0),(.v 4),(.v 5),(.v 3)])<|.c<|.bl ak] [aa<|spV p n,aa v,aa<|.dow F,aa<|Zc r,aa<|Zc o,aa<|Zv k] [2] s=.ok (.nx [aa<|spV p n,aa v,aa<|.dow<|YK F<|Zy p o r (k:Int),aa<|Zc r,aa<|Zc o,aa<|Zv k] [2]) s:=by
 have e:pv (CV<|d+1) (.call 4 [(.v 0),(.v 4),(.v 5),(.v 3)]) [aa<|spV p n,aa v,aa<|.dow F,aa<|Zc r,aa<|Zc o,aa<|Zv k] s=.ok (Zc<|Zy p o r (k:Int)) s:=
  Zo (Zb (Zd rfl)<|Zb (Zd rfl)<|Zb (Zd rfl)<|Zb (Zd rfl) Ze) (VG d s hn ho hr #[by omega,by omega])
 rw[Zh (ρ':=[aa<|spV p n,aa v,aa<|.dow<|YK F<|Zy p o r (k:Int),aa<|Zc r,aa<|Zc o,aa<|Zv k]) (by
  rw[rE7,T9<|show([2]:List Nat).contains 2=ak from rfl,pE1]
  show PR.bind (po (aa<|V.bl ak) s) _=_;rw[ZT,Za,T9 (show isT (.bl ak)=ak from rfl)]
  show PR.bind (po (aa F) s) _=_;rw[ZT,Za,e,Za];show PR.bind (po (intsV<|(Zy p o r (k:Int)).map V.int) s) _=_;rw[YB,ZT,Za,T9 hl];rfl),rvs]
def j4(d:Nat){F:List Row}{r o:Row}{v:V}{a5:Option V}(s:DS)(hn:n<=6)(hr:Zf p n r)(ho:Zf p n o)(hl:F.length+10<lim) :
  ∃b5,rvs (CV<|d+1) [2] [.forr [5] (.rng2 (.n 1)<|.ix (.v 0)<|.n 0) [.dput (.v 2) (.call 4 [(.v 0),(.v 4),(.v 5),(.v 3)])<|.c<|.bl ak]] [aa<|spV p n,aa v,aa<|.dow F,aa<|Zc r,aa<|Zc o,a5] [2] s
   = .ok (.nx [aa<|spV p n,aa v,aa<|.dow<|((aO<|p-1).map λ(k:Nat)=>Zy p o r<|(k:Int)+1).foldl YK F,aa<|Zc r,aa<|Zc o,b5] [2]) s:=by
 have hp:=X3 (p:=p);obtain⟨b5,_,e5⟩:=vc (t:=[5]) (it:=.rng2 (.n 1)<|.ix (.v 0)<|.n 0) (e:=λk=>Zv<|k+1) (step:=λ(F:List Row) (k:Nat)=>YK F<|Zy p o r<|(k:Int)+1) (Z:=λF x=>[aa<|spV p n,aa v,aa<|.dow F,aa<|Zc r,aa<|Zc o,x]) (st:=F) (os:=[2])
  (λl F=>(∀k∈l,k<5)/\F.length+l.length<lim) (by
   show pvw (CV<|d+1) _ [aa<|spV p n,aa v,ai,aa<|Zc r,aa<|Zc o,a5] s=_;rw[wE2,show pv (CV<|d+1) (.n 1) [aa<|spV p n,aa v,ai,aa<|Zc r,aa<|Zc o,a5] s=.ok (.int 1) s by rw[pE1];rfl,Za,ix0 rfl,Za]
   show(if(WP 1&&WP (p:Int))=ak then PR.ok (Yc 1 ((p:Int)-1).toNat) s else .no)=_
   rw[T9 (by rw[Qi #[3] #[3],Qi #[3] #[3]];rfl),show((p:Int)-1).toNat=p-1 by omega]
   congr 1
   refine du λk _=>?_
   rw[Int.add_comm];rfl) #[λk hk=>by have:=aU.mp hk;omega,by rw[bu];omega] rfl (λk l F x hI=>by
   obtain⟨h1,h2⟩:=hI;rw[aV]at h2;have hk:=h1 k<|al ..;have hl2:(YK F<|Zy p o r<|(k:Int)+1).length<=F.length+1:=by unfold YK;split<;>simp
   refine#[#[λq hq=>h1 q<|am _ hq,by omega],rfl,[aa<|spV p n,aa v,aa<|.dow F,aa<|Zc r,aa<|Zc o,aa<|Zv<|k+1],aa<|Zv<|k+1,rfl,?_]
   have:=jv d (a5:=ai) (v:=v) (k:=k+1) s hn hr ho (F:=F) #[3] #[3]
   rw[this];rfl)
 refine#[b5,?_];rw[Zh e5,rvs,List.foldl_map]
def u4(F:List Row)(o r:Row):qf p (o::F) r=((aO<|p-1).map λ(k:Nat)=>Zy p o r<|(k:Int)+1)++qf p F r:=rfl
theorem zQ:∀(L F:List Row),(L.foldl YK F).length<=F.length+L.length
 |[],F=>aI _
 |r::L,F=>by
  have h:=zQ L<|YK F r;have hl2:(YK F r).length<=F.length+1:=by unfold YK;split<;>simp
  rw[dk,aV];omega
theorem yz(d:Nat){r:Row}{v:V}(s:DS)(hn:n<=6)(hr:Zf p n r):∀(L F:List Row){a4 a5:Option V},(∀o∈L,Zf p n o)->F.length+5*L.length+10<lim->
  ∃b4 b5,Y6 (λx Z os s=>if(([4]:List Nat).any os.contains)=ak then .no else(po (Zq [4] x Z) s).bind λZ s=>rvs (CV<|d+1) [2] [.forr [5] (.rng2 (.n 1)<|.ix (.v 0)<|.n 0) [.dput (.v 2) (.call 4 [(.v 0),(.v 4),(.v 5),(.v 3)])<|.c<|.bl ak]] Z os s) (L.map Zc) [aa<|spV p n,aa v,aa<|.dow F,aa<|Zc r,a4,a5] [2] s
   = .ok (.nx [aa<|spV p n,aa v,aa<|.dow<|(qf p L r).foldl YK F,aa<|Zc r,b4,b5] [2]) s
 |[],F,a4,a5,_,_=>#[a4,a5,rfl]
 |o::L,F,a4,a5,ho,hl=>by
  have hp:=X3 (p:=p);rw[aV]at hl;obtain⟨b5,e⟩:=j4 d (F:=F) s hn hr (ho o<|al ..) #[3]
  have h1:=zQ ((aO<|p-1).map λ(k:Nat)=>Zy p o r<|(k:Int)+1) F
  rw[ax,bu]at h1;obtain⟨c4,c5,e2⟩:=yz d s hn hr L (((aO<|p-1).map λ(k:Nat)=>Zy p o r<|(k:Int)+1).foldl YK F) (λx hx=>ho x<|am _ hx) #[3]
  refine#[c4,c5,?_];rw[aY,Y6,T8 #[1],show Zq [4] (Zc o) [aa<|spV p n,aa v,aa<|.dow F,aa<|Zc r,a4,a5]=aa [aa<|spV p n,aa v,aa<|.dow F,aa<|Zc r,aa<|Zc o,a5]from rfl,ZT,Za,e,Za]
  rw[u4,oP];exact e2
def Zfi{C:Zx}{i j:Nat}{Z:Env}{s:DS}{r:Row}{F:List Row}(h:Z[i]?=aa (aa<|Zc r))(hj:Z[j]?=aa (aa<|.dow F)):pv C (.cmp .nin (.v i)<|.v j) Z s=.ok (.bl<|!F.contains r) s:=by
 rw[YU,Zd h,Za,Zd hj,Za];show po (((intsV<|r.map V.int).map λk=>F.contains k).map λb=>V.bl !b) s=_
 rw[YB];rfl
def Y8(d:Nat){R:List Row}{v:V}(s:DS)(hn:n<=6)(h1:1<=n)(hl:p^n<=1000)(hR:∀r∈R,Zf p n r)(hv:YA v=aa (R.map Zc)):CV (d+2) 5 [spV p n,v] s=.ok (.lst<|(Zr<|ZD p n R).map Zc) s:=by
 have hp:=X3 (p:=p);have big:∀{F P:List Row},HasK p n F P->F.length<=1000:=λ{F P} h=>by
  rw[h.len];refine bU (dJ #[3] ?_) hl
  exact dsum h.part
 refine Zp rfl #[1] rfl ?_
 show rvs (CV<|d+1) [2] (.dnw 2 (.bin .mul (.tup [(.n 0)])<|.ix (.v 0)<|.n 1) ::
  .forr [3] (.of<|.v 1) [.ite (.cmp .nin (.v 3)<|.v 2) [.forF [4] (.blt .listD [(.v 2)]) [.forr [5] (.rng2 (.n 1)<|.ix (.v 0)<|.n 0) [.dput (.v 2) (.call 4 [(.v 0),(.v 4),(.v 5),(.v 3)])<|.c<|.bl ak]]] []] ::
  .ret (.blt .sortedD [(.v 2)])::[]) [aa<|spV p n,aa v,ai,ai,ai,ai] [] s=_
 rw[Zh (ρ':=[aa<|spV p n,aa v,aa<|.dow [au n 0],ai,ai,ai]) (os':=[2]) (by
  rw[Zhu,VF hn rfl,Za];show PR.bind (po (intsV<|(au n (0:Int)).map V.int) s) _=_;rw[YB,ZT,Za,T9 (by show 2<6;omega)];rfl)]
 obtain⟨ρ',hI,e⟩:=UF (C:=CV<|d+1) (t:=[3]) (it:=.of<|.v 1) (b:=[.ite (.cmp .nin (.v 3)<|.v 2) [.forF [4] (.blt .listD [(.v 2)]) [.forr [5] (.rng2 (.n 1)<|.ix (.v 0)<|.n 0) [.dput (.v 2) (.call 4 [(.v 0),(.v 4),(.v 5),(.v 3)])<|.c<|.bl ak]]] []]) (os:=[2]) (s:=s)
  (λl Z=>(∀r∈l,Zf p n r)/\∃F P a3 a4 a5,Z=[aa<|spV p n,aa v,aa<|.dow F,a3,a4,a5]/\HasK p n F P/\l.foldl (Uz p) F=ZD p n R) (by
   rw[wE7,Zd rfl,Za,hv];rfl) #[hR,_,_,ai,ai,ai,rfl,HasK.nil,rfl] rfl (λr l Z hI=>by
   obtain⟨hr,F,P,a3,a4,a5,rfl,hF,hf⟩:=hI;have hr0:=hr r<|al ..;have hb:=big hF;refine#[by rw[Vz];rfl,[aa<|spV p n,aa v,aa<|.dow F,aa<|Zc r,a4,a5],?_]
   have et:=Zfi (C:=CV<|d+1) (i:=3) (j:=2) (Z:=[aa<|spV p n,aa v,aa<|.dow F,aa<|Zc r,a4,a5]) (s:=s) rfl rfl;have hfr:=λo ho=>((hF.mem o).mp ho).1
   by_cases c:F.contains r=ak
   .refine#[[aa<|spV p n,aa v,aa<|.dow F,aa<|Zc r,a4,a5],rfl,?_,λx hx=>hr x<|am _ hx,F,P,_,_,_,rfl,hF,?_]
    .rw[Zh (by rw[XW<|YN et rfl,c,T8 #[1],rvs]),rvs]
    .rw[dk]at hf
     unfold Uz at hf;rw[T9 c]at hf;exact hf
   .have c:F.contains r=aj:=by simpa using c
    obtain⟨b4,b5,e2⟩:=yz d s hn hr0 F F hfr (by unfold lim;omega)
    refine#[[aa<|spV p n,aa v,aa<|.dow<|(qf p F r).foldl YK F,aa<|Zc r,b4,b5],rfl,?_,λx hx=>hr x<|am _ hx,(qf p F r).foldl YK F,XD p P r,_,_,_,rfl,?_,?_]
    .rw[Zh (by
      rw[XW<|YN et rfl,c,T9 #[1],Zh (by
       rw[Zg2];show PR.bind (match pv (CV<|d+1) (.blt .listD [(.v 2)]) [aa<|spV p n,aa v,ai,aa<|Zc r,a4,a5] s with
        |.ok v s=>.ok v s
        |.ex c s=>.ex c s
        |.no=>(pv (CV<|d+1) (.blt .listD [(.v 2)]) [aa<|spV p n,aa v,aa<|.dow F,aa<|Zc r,a4,a5] s).bind λw s=>if(w.flat||true&&vV w)=ak then PR.ok w s else .no) _=_
       have g1:pv (CV<|d+1) (.blt .listD [(.v 2)]) [aa<|spV p n,aa v,ai,aa<|Zc r,a4,a5] s=.no:=by rw[Yt,pvs,pE2];rfl
       have g2:pv (CV<|d+1) (.blt .listD [(.v 2)]) [aa<|spV p n,aa v,aa<|.dow F,aa<|Zc r,a4,a5] s=.ok (.lst<|F.map Zc) s:=by rw[Yt,Zb (Zd rfl) Ze];rfl
       rw[g1,g2];show PR.bind (if(aj||true&&WQ (F.map Zc))=ak then PR.ok (V.lst<|F.map Zc) s else .no) _=_
       rw[Je,T9 (show(aj||true&&ak)=ak from rfl),Za]
       exact e2),rvs]),rvs]
    .have:=hF.step hr0
     unfold Uz at this;rw[T8<|by rw[c];decide]at this
     exact this
    .rw[dk]at hf
     unfold Uz at hf;rw[T8<|by rw[c];decide]at hf
     exact hf)
 obtain⟨_,F,P,a3,a4,a5,rfl,hF,hf⟩:=hI;rw[Zh e];refine Zi<|Zw ?_;have hf:=hf;subst hf;rw[Yt,Zb (Zd rfl) Ze,Za];have hb:=big hF;have ho:Yg (ZD p n R)=ak:=by
  unfold Yg;rw[aB,aB];refine#[#[T5 #[3],T5 hF.nd],aX.mpr λr hr=>?_]
  have:=((hF.mem r).mp hr).1.1;cases r with|nil=>simp at this;omega|cons _ _=>rfl
 show po (if Yg (ZD p n R)=ak then aa (V.lst<|(Zr<|ZD p n R).map Zc)else ai) s=_
 rw[T9 ho];rfl
def JX(d:Nat)(s:DS)(hn:n<=6):CV (d+1) 6 [spV p n] s=.ok (.lst<|(units n).map Zc) s:=by
 refine Zp rfl #[1] rfl ?_
 show rvs (CV d) [] (.ret (.comp1 [0] 1 [0] (.rng1<|.ix (.v 0)<|.n 1) []<|.blt .tuple [(.comp1 [0] 1 [0] (.rng1<|.ix (.v 1)<|.n 1) []<|.blt .toInt [(.cmp .eq (.v 0)<|.v 1)])])::[]) [aa<|spV p n] [] s=_;have hc:=ZM (cap:=[0]) (nl:=1) (t:=[0]) (it:=.rng1<|.ix (.v 0)<|.n 1) (elt:=.blt .tuple [(.comp1 [0] 1 [0] (.rng1<|.ix (.v 1)<|.n 1) []<|.blt .toInt [(.cmp .eq (.v 0)<|.v 1)])]) (Z:=[aa<|spV p n]) (g:=λj=>Zc<|vH n j)
  (Yr (ix1 rfl)<|by omega) (by rw[bu];unfold lim;omega) (λj hj=>by
   refine#[[aa<|Zv j,aa<|spV p n],rfl,?_];have hc:=ZM (cap:=[0]) (nl:=1) (t:=[0]) (it:=.rng1<|.ix (.v 1)<|.n 1) (elt:=.blt .toInt [(.cmp .eq (.v 0)<|.v 1)]) (Z:=[aa<|Zv j,aa<|spV p n]) (g:=λi=>V.int (if i=j then 1 else 0))
    (Yr (ix1 rfl)<|by omega) (by rw[bu];unfold lim;omega) (λi hi=>by
     refine#[[aa<|Zv i,aa<|Zv j],rfl,?_];have e:pv (CV d) (.cmp .eq (.v 0)<|.v 1) [aa<|Zv i,aa<|Zv j] s=.ok (.bl<|ag<|(i:Int)=j) s:=by
      rw[YU,Zd rfl,Za,Zd rfl,Za];rfl
     rw[Yt,Zb e Ze,Za];by_cases c:i=j
     .rw[T9 c,T5 #[3]];rfl
     .rw[T8 c,T4 #[3]];rfl)
   rw[Yt,Zb hc Ze,Za];unfold vH Zc;rw[bS];rfl)
 refine Zi<|Zw ?_;rw[hc];unfold units;rw[bS];rfl
end
open Ab (okV Yn)
section
variable{C:Zx}{Z:Env}{s s1 s2:DS}{a b:E}{x y:V}{xs ys:List V}
def ZN{i:Int}:pv C (.c<|.int i) Z s=.ok (.int i) s:=by rw[pE1];rfl
def pick{i:E}{v:Int}(h1:pv C a Z s=.ok (.lst xs) s1)(h2:pv C i Z s1=.ok (.int v) s2)(h0:0<=v)(hv:v<xs.length):∃x,x∈xs/\pv C (.ix a i) Z s=.ok x s2:=by
 obtain⟨k,rfl⟩:∃k:Nat,v=k:=#[v.toNat,by omega]
 have hk:k<xs.length:=by omega
 refine#[xs[k],aS hk,?_];rw[Xz,h1,Za,h2,Za];show po (at' xs (k:Int)) s2=_;rw[X9<|af hk];rfl
def zR{i:E}{v:Int}(h1:pv C a Z s=.ok (.tup xs) s1)(h2:pv C i Z s1=.ok (.int v) s2)(h0:0<=v)(hv:v<xs.length):pv C (.ix a i) Z s=.ok (xs.getD v.toNat .non) s2:=by
 obtain⟨k,rfl⟩:∃k:Nat,v=k:=#[v.toNat,by omega]
 have hk:k<xs.length:=by omega
 rw[Xz,h1,Za,h2,Za];show po (at' xs (k:Int)) s2=_;rw[X9<|af hk,aA,c7,af hk];rfl
def Z5(d:Nat)(s:DS){m:Int}{Z:Env}{i:Nat}{e:E}(hd:Z[i]?=aa (aa .drw))(he:pv (CV<|d+1) e Z s=.ok (.int m) s)(h0:0<m)(h1:m<1000):∃v s',pv (CV<|d+1) (.call 2 [(.v i),e]) Z s=.ok (.int v) s'/\0<=v/\v<m:=by
 obtain⟨v,s',e1,b⟩:=Vk s h0 #[3]
 exact#[v,s',Zo (Zb (Zd hd)<|Zb he Ze) e1,b]
def YH(h1:pv C a Z s=.ok (.tup xs) s)(h2:pv C b Z s=.ok (.tup ys) s)(h:xs.length+ys.length<=1000):pv C (.bin .add a b) Z s=.ok (.tup<|xs++ys) s:=by
 rw[pE7,h1,Za,h2,Za];show(if xs.length+ys.length<=lim then _ else _)=_
 rw[T9 (by unfold lim;omega)]
def y9(h1:pv C a Z s=.ok (.tup xs) s){k:Int}(h2:pv C b Z s=.ok (.int k) s):pv C (.sl a ai<|aa b) Z s=.ok (.tup<|Z6 xs ai<|aa k) s:=by
 rw[Zft,h1,Za,pvo,Za,pvo,h2,Za];rfl
def VM(h1:pv C a Z s=.ok (.tup xs) s){k:Int}(h2:pv C b Z s=.ok (.int k) s):pv C (.sl a (aa b) ai) Z s=.ok (.tup<|Z6 xs (aa k) ai) s:=by
 rw[Zft,h1,Za,pvo,h2,Za];rw[Za,pvo,Za];rfl
def Yo{lo hi:Option Int}:(Z6 xs lo hi).length<=xs.length:=by
 unfold Z6;rw[bQ,bF];omega
def Zb5(h:∀x∈xs,okV x=ak):Yn xs=ak:=by
 induction xs with
 |nil=>rfl
 |cons x xs ih=>
  show(okV x&&Yn xs)=ak;rw[h x<|al ..,ih λy hy=>h y<|am _ hy];rfl
def Xk{lo hi:Option Int}(h:Yn xs=ak):Yn (Z6 xs lo hi)=ak:=
 Zb5 λx hx=>Y0 h x<|b9<|dg hx
def XG(h:Yn xs=ak)(h2:Yn ys=ak):Yn (xs++ys)=ak:=
 Zb5 λx hx=>by
  rcases bK.mp hx with z|z
  .exact Y0 h x z
  .exact Y0 h2 x z
def Ya(h:pv C a Z s=.ok x s):pv C (.tup [a]) Z s=.ok (.tup [x]) s:=by
 rw[pE3,Zb h Ze];rfl
def ub{B:Type}{ms:List Nat}{i:Nat}{it:W}{b:List Sm}{L:List B}{e:B->V}{q:B->Bool}{v:V}{Z:Option V->Env}(o:Option V)(hw:pvw C it (hide []<|Z o) s=.ok (L.map e) s)(hs:∀o x,(Z o).set i (aa x)=Z (aa x))(hb:∀x∈L,rvs C ms b (Z<|aa<|e x) [] s=if q x=ak then .ok (.ret v) s else .ok (.nx (Z<|aa<|e x) []) s) :
  (L.any q=ak->rv C ms (.forr [i] it b) (Z o) [] s=.ok (.ret v) s)/\(L.any q=aj->∃o',rv C ms (.forr [i] it b) (Z o) [] s=.ok (.nx (Z o') []) s):=by
 rw[Q7,hw,Za];clear hw
 induction L generalizing o with
 |nil=>exact#[λh=>(by cases h),λ_=>#[o,rfl]]
 |cons x L ih=>
  have ih:=ih (aa<|e x) λy hy=>hb y<|am _ hy
  have h1:=hb x<|al ..;have step:Y6 (λx Z os s=>if(([i]:List Nat).any os.contains)=ak then .no else(po (Zq [i] x Z) s).bind λZ s=>rvs C ms b Z os s) ((x::L).map e) (Z o) [] s=if q x=ak then .ok (.ret v) s else Y6 (λx Z os s=>if(([i]:List Nat).any os.contains)=ak then .no else(po (Zq [i] x Z) s).bind λZ s=>rvs C ms b Z os s) (L.map e) (Z<|aa<|e x) [] s:=by
   rw[aY,Y6,T8 #[2]]
   show((PR.ok ((Z o).set i<|aa<|e x) s).bind λZ s=>rvs C ms b Z [] s).bind _=_
   rw[Za,hs o<|e x,h1];cases q x<;>rfl
  rw[step,fj];cases hq:q x with
  |true=>exact#[λ_=>rfl,λh=>(by cases h)]
  |false=>
   rw[T8 #[2],lw]
   exact ih
theorem Vr{Q:V->Prop}:∀{es:List E},(∀e∈es,∃v,pv C e Z s=.ok v s/\Q v)->∃vs,pvs C es Z s=.ok vs s/\vs.length=es.length/\∀v∈vs,Q v
 |[],_=>#[[],Ze,rfl,λ_ h=>by cases h]
 |e::es,h=>by
  obtain⟨v,e1,q1⟩:=h e<|al ..;obtain⟨vs,e2,l2,q2⟩:=Vr λe he=>h e<|am _ he
  refine#[v::vs,Zb e1 e2,by rw[aV,aV,l2],λu hu=>?_]
  rcases aw.mp hu with rfl|hu
  .exact q1
  .exact q2 u hu
end
section
variable{C:Zx}{Z:Env}{s:DS}{a b:E}
def wR{c:Bool}(h1:pv C a Z s=.ok (.bl aj) s)(h2:pv C b Z s=.ok (.bl c) s):pv C (.or a b) Z s=.ok (.bl c) s:=by rw[ZcW,h1];exact h2
def xt{c c':Bool}(h1:pv C a Z s=.ok (.bl c) s)(h2:pv C b Z s=.ok (.bl c') s):pv C (.and a b) Z s=.ok (.bl<|c&&c') s:=by
 rw[uy,h1];cases c
 .rfl
 .exact h2
def Wb{c:Bool}(h1:pv C a Z s=.ok (.bl c) s):pv C (.not a) Z s=.ok (.bl !c) s:=by rw[pE9,h1];rfl
def ug{P Q:List Row}(h1:pv C a Z s=.ok (Zk P) s)(h2:pv C b Z s=.ok (Zk Q) s):pv C (.cmp .eq a b) Z s=.ok (.bl<|ag<|P=Q) s:=by
 rw[YU,h1,Za,h2,Za];show po ((eqV ZB (Zk P)<|Zk Q).map V.bl) s=_;rw[ZB,ZbH];rfl
def Yj{f:Nat}{x y:E}{v w r:V}(h1:pv C x Z s=.ok v s)(h2:pv C y Z s=.ok w s)(h:C f [v,w] s=.ok r s):pv C (.call f [x,y]) Z s=.ok r s:=Zo (Zb h1<|Zb h2 Ze) h
def WO{f:Nat}{x y z:E}{v w u r:V}(h1:pv C x Z s=.ok v s)(h2:pv C y Z s=.ok w s)(h3:pv C z Z s=.ok u s)(h:C f [v,w,u] s=.ok r s):pv C (.call f [x,y,z]) Z s=.ok r s:=Zo (Zb h1<|Zb h2<|Zb h3 Ze) h
def guard{ms:List Nat}{t:E}{x l:List Sm}(h:pv C t Z s=.ok (.bl aj) s):rvs C ms (.ite t x []::l) Z [] s=rvs C ms l Z [] s:=by
 rw[Zh<|(XW<|YN h rfl).trans (by rw[T8 #[2],rvs])]
def Zai{P:List Row}(h1:pv C a Z s=.ok (Zk P) s):pv C (.blt .len [a]) Z s=.ok (.int P.length) s:=by
 rw[Yt,Zb h1 Ze,Za];show po (aa<|V.int (P.map Zc).length) s=_;rw[ax];rfl
def Qm{x y:Int}(h1:pv C a Z s=.ok (.int x) s)(h2:pv C b Z s=.ok (.int y) s):pv C (.bin .add a b) Z s=.ok (.int<|x+y) s:=by
 rw[pE7,h1,Za,h2,Za];rfl
def ne_int{x y:Int}(h1:pv C a Z s=.ok (.int x) s)(h2:pv C b Z s=.ok (.int y) s)(h:x=y):pv C (.cmp .ne a b) Z s=.ok (.bl aj) s:=by
 rw[YU,h1,Za,h2,Za];show PR.ok (V.bl !decide (x=y)) s=_;rw[T5 h];rfl
def Ua{x y:List V}(h1:pv C a Z s=.ok (.lst x) s)(h2:pv C b Z s=.ok (.lst y) s)(h:x.length+y.length<=lim):pv C (.bin .add a b) Z s=.ok (.lst<|x++y) s:=by
 rw[pE7,h1,Za,h2,Za];show(if x.length+y.length<=lim then _ else _)=_
 rw[T9 h]
end
def Go{C:Zx}{ms os:List Nat}{Z:Env}{s:DS}{B:Type}{t:List Nat}{it:W}{b:List Sm}{L:List B}{e:B->V}(I:List B->Env->Prop){s0:DS}(hw:pvw C it (hide os Z) s=.ok (L.map e) s0)(hI:I L Z)(ht:(t.any os.contains)=aj)
  (h:∀x l Z s,I (x::l) Z->∃ρ1 ρ' s',Zq t (e x) Z=aa ρ1/\rvs C ms b ρ1 os s=.ok (.nx ρ' os) s'/\I l ρ') :
  ∃ρ' s',I [] ρ'/\rv C ms (.forr t it b) Z os s=.ok (.nx ρ' os) s':=by
 rw[Q7,hw,Za];clear hw
 induction L generalizing Z s0 with
 |nil=>exact#[Z,s0,hI,rfl]
 |cons x L ih=>
  obtain⟨ρ1,ρ',s',b1,b2,b3⟩:=h x L Z s0 hI;obtain⟨ρ2,s2,c1,c2⟩:=ih b3;refine#[ρ2,s2,c1,?_];rw[aY,Y6,T8 (by rw[ht];simp),b1,ZT,Za,b2,Za]
  exact c2
section
variable{p n:Nat}[Base p]
def qN(d:Nat){x:V}{lo hi:Int}(s:DS)(hx:okV x=ak):CV (d+1) 10 [x,.int lo,.int hi] s=.ok (.bl<|isW x lo hi) s:=by
 refine Zp rfl #[1] rfl ?_
 rcases ZaZ hx with⟨i,rfl⟩|⟨b,rfl⟩|⟨ha,no⟩
 .by_cases h:lo<=i
  .simp[Yv,pvE,isW,Yf,YI,h]
  .simp[Yv,pvE,isW,Yf,YI,h]
 .simp[Yv,pvE,isW,Yf,YI]
 .rw[jc no]
  simp[Yv,pvE,ha]
def v7{C:Zx}{Z:Env}{s:DS}{i:Nat}{x:V}(h:Z[i]?=aa (aa x))(hx:okV x=ak):pv C (.not<|.isi (.v i) [.tuple]) Z s=.ok (.bl (!match x with|.tup _=>ak|_=>aj)) s:=by
 have g:pv C (.isi (.v i) [.tuple]) Z s=.ok (.bl (match x with|.tup _=>ak|_=>aj)) s:=by
  rw[Zhx,Zd h,Za];rcases Qv hx with⟨xs,rfl⟩|⟨ha,no⟩
  .rfl
  .rw[ha]
   cases x<;>first|rfl|exact T7 rfl<|no _
 exact Wb g
def QK{C:Zx}{Z:Env}{s:DS}{i:Nat}{x:V}{e:E}{ms:List Nat}{l:List Sm}(h:Z[i]?=aa (aa x))(hx:okV x=ak)(he:pv C e Z s=.ok (.int n) s):(∃xs,x=.tup xs/\xs.length=n/\rvs C ms (.ite (.or (.not<|.isi (.v i) [.tuple])<|.cmp .ne (.blt .len [(.v i)]) e) [.ret<|.c<|.bl aj] []::l) Z [] s=rvs C ms l Z [] s)\/
  ((∀xs,x=.tup xs->xs.length≠n)/\rvs C ms (.ite (.or (.not<|.isi (.v i) [.tuple])<|.cmp .ne (.blt .len [(.v i)]) e) [.ret<|.c<|.bl aj] []::l) Z [] s=.ok (.ret<|.bl aj) s):=by
 have g:=v7 (C:=C) (s:=s) h hx;have fin:pv C (.or (.not<|.isi (.v i) [.tuple])<|.cmp .ne (.blt .len [(.v i)]) e) Z s=.ok (.bl ak) s->rvs C ms (.ite (.or (.not<|.isi (.v i) [.tuple])<|.cmp .ne (.blt .len [(.v i)]) e) [.ret<|.c<|.bl aj] []::l) Z [] s=.ok (.ret<|.bl aj) s:=λq=>by
  refine Zi ?_;rw[XW<|YN q rfl,T9 rfl];exact Zi<|Zw (by rw[pE1];rfl)
 rcases Qv hx with⟨xs,rfl⟩|⟨_,no⟩
 .have e1:pv C (.cmp .ne (.blt .len [(.v i)]) e) Z s=.ok (.bl !decide ((xs.length:Int)=n)) s:=by
   have:pv C (.blt .len [(.v i)]) Z s=.ok (.int xs.length) s:=by rw[Yt,Zb (Zd h) Ze];rfl
   rw[YU,this,Za,he,Za];rfl
  by_cases c:xs.length=n
  .refine .inl #[xs,rfl,c,guard<|wR g ?_]
   rw[e1,T5 #[3]];rfl
  .refine .inr #[λys z=>by cases z;exact c,fin<|wR g ?_]
   rw[e1,T4 #[3]];rfl
 .refine .inr #[λxs z=>T7 z<|no xs,fin ?_]
  rw[ZcW,g];cases x<;>first|rfl|exact T7 rfl<|no _
def WX(d:Nat){x:V}(s:DS)(hn:n<=6)(hx:okV x=ak):CV (d+2) 11 [spV p n,x] s=.ok (.bl<|Zt p n x) s:=by
 refine Zp rfl #[1] rfl ?_
 show rvs (CV<|d+1) [] (.ite (.or (.not<|.isi (.v 1) [.tuple])<|.cmp .ne (.blt .len [(.v 1)])<|.ix (.v 0)<|.n 1) [.ret<|.c<|.bl aj] [] ::
  .ret (.blt .all [(.comp1 [0] 1 [0] (.of<|.v 1) []<|.call 10 [(.v 0),(.n 0),(.bin .sub (.ix (.v 1)<|.n 0)<|.n 1)])])::[]) [aa<|spV p n,aa x] [] s=_
 rcases QK (i:=1) (Z:=[aa<|spV p n,aa x]) (e:=.ix (.v 0)<|.n 1) rfl hx (ix1 rfl)with⟨xs,rfl,hl,e⟩|⟨no,e⟩
 .rw[e]
  refine Zi<|Zw ?_;have hc:=ZM (C:=CV<|d+1) (cap:=[0]) (nl:=1) (t:=[0]) (it:=.of<|.v 1) (elt:=.call 10 [(.v 0),(.n 0),(.bin .sub (.ix (.v 1)<|.n 0)<|.n 1)]) (Z:=[aa<|spV p n,aa<|.tup xs]) (s:=s) (e:=id)
   (by rw[wE7,Zd rfl,Za,mW];rfl) (by unfold lim;omega) (λv hv=>#[[aa v,aa<|spV p n],rfl,by
    have e2:pv (CV<|d+1) (.bin .sub (.ix (.v 1)<|.n 0)<|.n 1) [aa v,aa<|spV p n] s=.ok (.int<|(p:Int)-1) s:=by
     rw[pE7,ix0 rfl,Za,ZN,Za];rfl
    exact Zo (Zb (Zd rfl)<|Zb ZN<|Zb e2 Ze)<|qN d s<|Y0 hx v hv])
  rw[Yt,Zb hc Ze,Za];show po ((ZY<|xs.map λv=>V.bl<|isW v 0<|(p:Int)-1).map λbs=>V.bl<|bs.all id) s=_
  rw[Yk];show PR.ok (V.bl<|(xs.map λv=>isW v 0<|(p:Int)-1).all id) s=_
  unfold Zt;simp[hl]
 .rw[e]
  have:Zt p n x=aj:=by
   cases x with|tup xs=>show(ag (xs.length=n)&&_)=aj;rw[T4<|no xs rfl];rfl|_=>rfl
  rw[this]
theorem Wg:∀{xs:List V},xs.all (Zt p n)=ak->∃R:List Row,xs=R.map Zc/\∀r∈R,Zf p n r
 |[],_=>#[[],rfl,λ_ h=>by cases h]
 |x::xs,h=>by
  rw[fT,aB]at h;obtain⟨R,rfl,hR⟩:=Wg h.2;obtain⟨r,rfl,hr⟩:=Za7 h.1;refine#[r::R,rfl,λy hy=>?_]
  rcases aw.mp hy with rfl|hy
  .exact hr
  .exact hR y hy
def Zas{R:List Row}(hR:∀r∈R,Zf p n r):(R.map Zc).all (Zt p n)=ak:=aX.mpr λv hv=>by
 obtain⟨r,hr,rfl⟩:=aM.mp hv;exact Zad<|hR r hr
def ZV(p n:Nat)(x:V):Bool:=match x with
 |.tup xs=>ag (xs.length=n)&&(xs.all (Zt p n)&&ag ((Z2 p []<|(Yy xs).getD []).length=n))
 |_=>aj
def Gj{x:V}(h:∀xs,x=.tup xs->xs.length≠n):ZV p n x=aj:=by
 cases x with|tup xs=>show(ag (xs.length=n)&&_)=aj;rw[T4<|h xs rfl];rfl|_=>rfl
def XC{R:List Row}(hl:R.length=n)(hR:∀r∈R,Zf p n r):ZV p n (.tup<|R.map Zc)=ag ((Z2 p [] R).length=n):=by
 show(ag ((R.map Zc).length=n)&&((R.map Zc).all (Zt p n)&&ag ((Z2 p []<|(Yy<|R.map Zc).getD []).length=n)))=_;rw[ax,T5 hl,Zas hR,YE];rfl
def ZbE(d:Nat){x:V}(s:DS)(hn:n<=6)(hx:okV x=ak):CV (d+6) 24 [spV p n,x] s=.ok (.bl<|ZV p n x) s:=by
 refine Zp rfl #[1] rfl ?_
 show rvs (CV<|d+5) [] (.asg [2,3] (.v 0) :: .ite (.or (.not<|.isi (.v 1) [.tuple])<|.cmp .ne (.blt .len [(.v 1)])<|.v 3) [.ret<|.c<|.bl aj] [] ::
  .ret (.and (.blt .all [(.comp1 [0] 1 [0] (.of<|.v 1) []<|.call 15 [(.v 1),(.v 0)])])<|.cmp .eq (.blt .len [(.call 23 [(.v 0),(.tup []),(.v 1)])])<|.v 3)::[]) [aa<|spV p n,aa x,ai,ai] [] s=_
 rw[Zh<|Xx (p:=p) (n:=n) _ _ (by simp[pvE]) #[2]]
 show rvs (CV<|d+5) [] _ [aa<|spV p n,aa x,aa<|.int p,aa<|.int n] [] s=_;rcases QK (i:=1) (Z:=[aa<|spV p n,aa x,aa<|.int p,aa<|.int n]) (e:=.v 3) rfl hx (Zd rfl)with⟨xs,rfl,hl,e⟩|⟨no,e⟩
 .rw[e]
  refine Zi<|Zw ?_;have hc:=ZM (cap:=[0]) (nl:=1) (t:=[0]) (it:=.of<|.v 1) (elt:=.call 15 [(.v 1),(.v 0)]) (Z:=[aa<|spV p n,aa<|.tup xs,aa<|.int p,aa<|.int n]) (e:=id)
   (by rw[wE7,Zd rfl,Za,mW];rfl) (by unfold lim;omega) (λv hv=>#[[aa v,aa<|spV p n],rfl,Zo (Zb (Zd rfl)<|Zb (Zd rfl) Ze)<|UV (d+3) s hn<|Y0 hx v hv])
  have ha:pv (CV<|d+5) (.blt .all [(.comp1 [0] 1 [0] (.of<|.v 1) []<|.call 15 [(.v 1),(.v 0)])]) [aa<|spV p n,aa<|.tup xs,aa<|.int p,aa<|.int n] s=.ok (.bl<|xs.all<|Zt p n) s:=by
   rw[Yt,Zb hc Ze,Za];show po ((ZY<|xs.map λv=>V.bl<|Zt p n v).map λbs=>V.bl<|bs.all id) s=_
   rw[Yk];show PR.ok (V.bl<|(xs.map<|Zt p n).all id) s=_;rw[kl];rfl
  cases q:xs.all (Zt p n)with
  |false=>
   rw[q]at ha;rw[uy,ha];show PR.ok (V.bl aj) s=_;have:ZV p n (.tup xs)=aj:=by
    show(ag (xs.length=n)&&(xs.all (Zt p n)&&_))=aj;rw[q,kU,mO]
   rw[this]
  |true=>
   rw[q]at ha;obtain⟨R,rfl,hR⟩:=Wg q;rw[ax]at hl;have hw:=Wc d (v:=.tup<|R.map Zc) s hn pZ.nil hR rfl;have e2:pv (CV<|d+5) (.call 23 [(.v 0),(.tup []),(.v 1)]) [aa<|spV p n,aa<|.tup<|R.map Zc,aa<|.int p,aa<|.int n] s=.ok (Zk<|Z2 p [] R) s:=
    Zo (Zb (Zd rfl)<|Zb (by rw[pE3,pvs];rfl)<|Zb (Zd rfl) Ze) hw
   rw[XC hl hR,uy,ha];show pv (CV<|d+5) (.cmp .eq (.blt .len [(.call 23 [(.v 0),(.tup []),(.v 1)])])<|.v 3) _ s=_;rw[YU,Zai e2,Za,Zd rfl,Za];show PR.ok (V.bl<|ag<|((Z2 p [] R).length:Int)=n) s=_
   congr 2
   exact decide_eq_decide.mpr #[λz=>by omega,λz=>by omega]
 .rw[e,Gj no]
def Xu(L:List Row):(Zr L).length=L.length:=by
 have ins:∀(x:Row)(l:List Row),(YR x l).length=l.length+1:=λx l=>by
  induction l with|nil=>rfl|cons y l ih=>unfold YR;split<;>simp[ih]
 induction L with|nil=>rfl|cons x L ih=>show(YR x<|Zr L).length=_;rw[ins,ih];rfl
def zt(d:Nat){x:V}(s:DS)(hn:n<=6)(h1:1<=n)(hp:p^n<=1000)(hx:okV x=ak):CV (d+3) 12 [spV p n,x] s=.ok (.bl<|ZV p n x) s:=by
 refine Zp rfl #[1] rfl ?_
 let l2:List Sm:=[.ret<|.cmp .eq (.blt .len [(.call 5 [(.v 0),(.v 1)])])<|.blt .len [(.call 5 [(.v 0),(.call 6 [(.v 0)])])]]
 let l1:List Sm:=.forr [2] (.of<|.v 1) [.ite (.not<|.call 11 [(.v 0),(.v 2)]) [.ret<|.c<|.bl aj] []]::l2
 show rvs (CV<|d+2) [] (.ite (.or (.not<|.isi (.v 1) [.tuple])<|.cmp .ne (.blt .len [(.v 1)])<|.ix (.v 0)<|.n 1) [.ret<|.c<|.bl aj] []::l1) [aa<|spV p n,aa x,ai] [] s=_;rcases QK (i:=1) (Z:=[aa<|spV p n,aa x,ai]) (e:=.ix (.v 0)<|.n 1) rfl hx (ix1 rfl)with⟨xs,rfl,hl,e⟩|⟨no,e⟩
 .rw[e]
  obtain⟨g1,g2⟩:=ub (C:=CV<|d+2) (ms:=[]) (i:=2) (it:=.of<|.v 1) (b:=[.ite (.not<|.call 11 [(.v 0),(.v 2)]) [.ret<|.c<|.bl aj] []]) (v:=.bl aj) (Z:=λo=>[aa<|spV p n,aa<|.tup xs,o]) (s:=s) ai
   (by
    rw[wE7,Zd rfl,Za,mW];rfl) (λ_ _=>rfl) (λv hv=>by
    have e3:pv (CV<|d+2) (.not<|.call 11 [(.v 0),(.v 2)]) [aa<|spV p n,aa<|.tup xs,aa v] s=.ok (.bl !Zt p n v) s:=Wb<|Yj (Zd rfl) (Zd rfl)<|WX d s hn<|Y0 hx v hv;show rvs _ _ _ [aa<|spV p n,aa<|.tup xs,aa v] [] s=if(!Zt p n v)=ak then _ else PR.ok (.nx [aa<|spV p n,aa<|.tup xs,aa v] []) s
    cases q:(!Zt p n v)with
    |true=>
     rw[q]at e3;rw[T9 rfl];refine Zi ?_;rw[XW<|YN e3 rfl,T9 rfl];exact Zi<|Zw (by rw[pE1];rfl)
    |false=>rw[q]at e3;rw[T8 #[1],guard e3,rvs])
  cases q:xs.all (Zt p n)with
  |false=>
   have:(xs.any λv=>!Zt p n v)=ak:=by
    rw[fC];simp[q]
   rw[show l1=.forr [2] (.of<|.v 1) [.ite (.not<|.call 11 [(.v 0),(.v 2)]) [.ret<|.c<|.bl aj] []]::l2 from rfl,Zi<|g1 this]
   have:ZV p n (.tup xs)=aj:=by
    show(ag (xs.length=n)&&(xs.all (Zt p n)&&_))=aj;rw[q,kU,mO]
   rw[this]
  |true=>
   have:(xs.any λv=>!Zt p n v)=aj:=by
    rw[fC];simp[q]
   obtain⟨o',g2⟩:=g2 this;obtain⟨R,rfl,hR⟩:=Wg q;rw[ax]at hl;rw[show l1=.forr [2] (.of<|.v 1) [.ite (.not<|.call 11 [(.v 0),(.v 2)]) [.ret<|.c<|.bl aj] []]::l2 from rfl,Zh g2]
   refine Zi<|Zw ?_;have u1:pv (CV<|d+2) (.call 5 [(.v 0),(.v 1)]) [aa<|spV p n,aa<|.tup<|R.map Zc,o'] s=.ok (.lst<|(Zr<|ZD p n R).map Zc) s:=Yj (Zd rfl) (Zd rfl)<|Y8 d s hn h1 hp hR rfl;have u2:pv (CV<|d+2) (.call 6 [(.v 0)]) [aa<|spV p n,aa<|.tup<|R.map Zc,o'] s=.ok (.lst<|(units n).map Zc) s:=Zo (Zb (Zd rfl) Ze)<|JX (d+1) s hn;have u3:pv (CV<|d+2) (.call 5 [(.v 0),(.call 6 [(.v 0)])]) [aa<|spV p n,aa<|.tup<|R.map Zc,o'] s=.ok (.lst<|(Zr<|ZD p n<|units n).map Zc) s:=Yj (Zd rfl) u2<|Y8 d s hn h1 hp YZ rfl
   have len:∀{e:E}{L:List Row},pv (CV<|d+2) e [aa<|spV p n,aa<|.tup<|R.map Zc,o'] s=.ok (.lst<|(Zr L).map Zc) s->pv (CV<|d+2) (.blt .len [e]) [aa<|spV p n,aa<|.tup<|R.map Zc,o'] s=.ok (.int L.length) s:=λ{e L} h=>by
    rw[Yt,Zb h Ze];show PR.ok (V.int ((Zr L).map Zc).length) s=_;rw[ax,Xu]
   have e4:pv (CV<|d+2) (.cmp .eq (.blt .len [(.call 5 [(.v 0),(.v 1)])])<|.blt .len [(.call 5 [(.v 0),(.call 6 [(.v 0)])])]) [aa<|spV p n,aa<|.tup<|R.map Zc,o'] s=.ok (.bl<|ag<|((ZD p n R).length:Int)=((ZD p n<|units n).length:Nat)) s:=by
    rw[YU,len u1,Za,len u3,Za];rfl
   rw[XC hl hR,e4,decide_eq_decide.mpr<|Iff.trans #[λz=>Int.ofNat_inj.mp z,λz=>by rw[z]]<|ZaJ hn hR]
 .rw[e,Gj no]
end
end K72
namespace Rw
open La
def Xh(r:Row):Nat:=(hdI r).getD r.length
def ZW(E:List Row):List Nat:=(aO 6).filter ((E.filter λr=>(hdI r).isSome).map Xh).contains
def Jv(E:List Row)(h:Nat)(r:Row):Bool:=(ag (gt r h=1)&&ag (Xh r=h))&&(ZW E).all λk=>ag (k=h)||decide (gt r k=0)
def Zez(E:List Row):List Row:=(ZW E).flatMap λh=>E.filter<|Jv E h
def xC{l:List Row}(hn:l.Nodup)(hr:r∈l)(h:∀x∈l,q x=ak↔x=r):l.filter q=[r]:=by
 have hm:∀x,x∈l.filter q↔x=r:=λx=>by
  rw[cy];exact#[λz=>(h x z.1).mp z.2,λe=>by subst e;exact#[hr,(h x hr).mpr rfl]]
 have hd:=hn.filter q;generalize l.filter q=m at hm hd
 match m,hm,hd with
 |[],hm,_=>exact T7 ((hm r).mpr rfl) #[2]
 |[x],hm,_=>rw[(hm x).mp #[2]]
 |x::y::m,hm,hd=>
  have e1:=(hm x).mp #[2]
  have e2:=(hm y).mp #[2]
  subst e1;subst e2;simp at hd
theorem Jb :∀{l:List Row},(∀r∈l,g r=[r])->l.flatMap g=l
 |[],_=>rfl
 |r::l,h=>by
  rw[oQ,h r<|al ..,Jb λx hx=>h x<|am _ hx];rfl
section
variable{p n:Nat}[Base p]
def Wf(h:hdI r=aa k):Xh r=k:=by unfold Xh;rw[h];rfl
def Zdr(hn:n<=6)(h:HasK p n F P)(hE:E.Perm F):Zez E=P:=by
 have hF:=λx=>hE.mem_iff.trans<|h.mem x
 have hP:=h.part;have hp:∀r∈P,r∈E/\∃k,hdI r=aa k/\k<n/\gt r k=1:=λr hr=>by
  obtain⟨k,h1,h2,h3⟩:=hP.head (fld).one0 hr;exact#[(hF r).mpr #[hP.row r hr,uj hP hr],k,h1,h2,(UI<|hP.row r hr).mp h3]
 have hpl:ZW E=ZI P:=by
  refine wf (List.pairwise_lt_range.filter _) ?_ λk=>?_
  .have:=hP.pn.rf.heads
   rwa[WE]at this
  .unfold ZW
   rw[cy,aU,eP,aM];unfold ZI;rw[aM]
   constructor
   .rintro ⟨_,r,hr,rfl⟩
    obtain⟨hr,hs⟩:=cy.mp hr;obtain⟨k,hk⟩:=bP.mp hs;obtain⟨a,b⟩:=(hF r).mp hr;obtain⟨e1,_,e2⟩:=Z1 hk;obtain⟨c,hc,ec⟩:=zC hP.pn.rf ((Yb hP a).mp b) (λz=>e1<|(Yi a).mp z) λj hj=>(Yi a).mpr<|e2 j hj
    obtain⟨q,hq,rfl⟩:=aM.mp hc;exact#[q,hq,by rw[Wf hk];exact ec]
   .rintro ⟨r,hr,rfl⟩
    obtain⟨h1,k,h2,h3,_⟩:=hp r hr;exact#[by rw[h2];show k<6;omega,r,cy.mpr #[h1,by rw[h2];rfl],by rw[Wf h2,h2];rfl]
 unfold Zez;have e:ZI P=P.map λr=>(hdI r).getD 0:=rfl
 rw[hpl,e,List.flatMap_map];refine Jb λr hr=>?_
 obtain⟨h1,k,h2,h3,h4⟩:=hp r hr;rw[h2];show E.filter (Jv E k)=[r];have ir:=hP.row r hr;have ra:=Yp (p:=p) hr;rw[h2]at ra;refine xC (hE.nodup_iff.mpr h.nd) h1 λx hx=>?_
 unfold Jv;rw[aB,aB,T0,T0,aX,hpl]
 constructor
 .rintro ⟨⟨g1,g2⟩,g3⟩
  obtain⟨a,b⟩:=(hF x).mp hx;refine Xg a ir ?_
  funext j
  have hj:toV p r j=pr (toP p P) (toV p r) j:=WB hP.pn.rf ra j;rw[((Yb hP a).mp b) j,hj];refine xp (λc hc=>?_) j
  obtain⟨q,hq,rfl⟩:=aM.mp hc;obtain⟨_,i,i2,i3,i4⟩:=hp q hq;rw[i2];show toV p x i=toV p r i;have hi:i∈ZI P:=aM.mpr #[q,hq,by rw[i2];rfl]
  rcases(gV _ _).mp (g3 i hi)with z|z
  .have z:=T6 z
   subst z;unfold toV;rw[g1,h4]
  .have z:=T6 z
   by_cases c:i=k
   .subst c;rw[g1]at z;cases z
   .have qa:=Yp (p:=p) hq
    rw[i2]at qa;have zz:toV p r i=0:=hP.pn.rf.zer _ qa _ ra λe=>c e
    rw[zz];exact(Yi a).mpr z
 .rintro rfl
  refine#[#[h4,Wf h2],λi hi=>?_]
  obtain⟨q,hq,rfl⟩:=aM.mp hi;obtain⟨_,i,i2,i3,i4⟩:=hp q hq;rw[i2];show(ag (i=k)||decide (gt x i=0))=ak;by_cases c:i=k
  .rw[T5 c];rfl
  .have qa:=Yp (p:=p) hq
   rw[i2]at qa;have zz:toV p x i=0:=hP.pn.rf.zer _ qa _ ra λe=>c e
   rw[T5<|(Yi ir).mp zz,Bool.or_true]
def uU{E F P:List Row}(hn:n<=6)(h:HasK p n F P)(hE:E.Perm F):∀k∈ZW E,k<n:=λk hk=>by
 obtain⟨_,hk⟩:=cy.mp hk;obtain⟨r,hr,rfl⟩:=aM.mp<|eP.mp hk;obtain⟨hr,hs⟩:=cy.mp hr;obtain⟨k,e⟩:=bP.mp hs;have:=((h.mem r).mp<|hE.mem_iff.mp hr).1.1;rw[Wf e];have:=(Z1 e).2.1;omega
def u5(hR:∀r∈R,Zf p n r):Z2 p [] R=R↔pZ p n R:=
 #[λe=>by rw[<-e];exact(Yd hR).part,λh=>JN h]
end
end Rw
namespace K72
open Ev Pv Rw La
open Ab (okV Yn)
theorem Uj:∀r:Row,ZY (r.map V.int)=aa (r.map λa=>ag<|a≠0)
 |[]=>rfl
 |a::r=>by rw[aY,ZY,Uj r];rfl
theorem ZbW:∀r:Row,(r.map λa=>ag<|a≠0).any id=(hdI r).isSome
 |[]=>rfl
 |a::r=>by
  rw[aY,fj,ZbW r,hdI];by_cases c:a=0
  .subst c
   rw[T8 #[2]]
   cases hdI r<;>rfl
  .rw[T9 c,T5 c];rfl
def ZdZ{C:Zx}{Z:Env}{i:Nat}{r:Row}(s:DS)(h:Z[i]?=aa (aa<|Zc r)):pv C (.blt .any [(.v i)]) Z s=.ok (.bl (hdI r).isSome) s:=by
 rw[Yt,Zb (Zd h) Ze,Za];show po ((ZY<|r.map V.int).map λbs=>V.bl<|bs.any id) s=_
 rw[Uj];show PR.ok (V.bl _) s=_;rw[ZbW]
def uH(r:Row):(((aO r.length).filter λk=>ag<|gt r k≠0)++[r.length])[0]?=aa (Xh r):=by
 unfold Xh;cases q:hdI r with
 |none=>
  rw[mm.mpr λk _=>by simp[Y4 q k]];rfl
 |some k=>
  obtain⟨a,b,c⟩:=Z1 q;have f:(aO r.length).find? (λj=>ag<|gt r j≠0)=aa k:=xK b a c
  rw[<-List.head?_filter]at f;generalize (aO r.length).filter (λj=>ag<|gt r j≠0)=l at f
  cases l with|nil=>cases f|cons x l=>cases f;rfl
def yM(d:Nat){r:Row}(s:DS)(hl:r.length<=1000):CV (d+1) 35 [Zc r] s=.ok (Zv<|Xh r) s:=by
 refine Zp rfl #[1] rfl ?_
 show rvs (CV d) [] Um.body [aa<|Zc r] [] s=_;have el:pv (CV d) (.blt .len [(.v 0)]) [aa<|Zc r] s=.ok (.int r.length) s:=by
  rw[Yt,Zb (Zd rfl) Ze,Za];show po (aa<|V.int (r.map V.int).length) s=_;rw[ax];rfl
 have hc:=Xd (cap:=[0]) (nl:=1) (t:=[0]) (tst:=.cmp .ne (.ix (.v 1)<|.v 0)<|.n 0) (elt:=.v 0) (q:=λk=>ag<|gt r k≠0)
  (Yr el<|by omega) (by rw[bu];unfold lim;omega) (λk hk=>by
   have hk:=aU.mp hk;refine#[[aa<|Zv k,aa<|Zc r],.bl<|!decide (gt r k=0),rfl,?_,?_,λ_=>Zd rfl]
   .rw[YU,VS rfl rfl hk,Za,ZN,Za];rfl
   .simp[Zz])
 refine Zi<|Zw ?_;have e2:pv (CV d) (.lst [(.blt .len [(.v 0)])]) [aa<|Zc r] s=.ok (.lst [Zv r.length]) s:=by
  rw[pE4,Zb el Ze,Za];rfl
 rw[Xz,Ua hc e2 (by
  have:=eO (λk=>ag<|gt r k≠0)<|aO r.length
  rw[bu]at this;rw[ax,fV];unfold lim;omega),Za,ZN,Za]
 show po (at' _ ((0:Nat):Int)) s=_;rw[X9 (by
  have:=uH r;rw[show[Zv r.length]=[r.length].map Zv from rfl,<-bT,aK,this];rfl)];rfl
theorem Qn:∀l:List Nat,(∀k∈l,k<6)->WS (l.map Zv)=aa l
 |[],_=>rfl
 |k::l,h=>by
  have hk:=h k<|al ..;show(if 0<=(k:Int)/\(k:Int)<6 then(WS<|l.map Zv).map ((k:Int).toNat :: ·)else ai)=_
  rw[T9 #[by omega,by omega],Qn l λx hx=>h x<|am _ hx];rfl
def qD{q q':Nat->Bool}(l:List Nat)(h:∀k∈l,q' k = !q k):((l.filter q).map Zv).isEmpty=l.all q':=by
 induction l with
 |nil=>rfl
 |cons k l ih=>
  rw[fT,<-ih λx hx=>h x<|am _ hx,h k<|al ..,l0]
  cases q k<;>rfl
def Zfd{C:Zx}{a:E}{Z:Env}{s:DS}{xs:List V}(h:pv C a Z s=.ok (.lst xs) s):pv C (.cmp .eq a<|.lst []) Z s=.ok (.bl xs.isEmpty) s:=by
 have e2:pv C (.lst []) Z s=.ok (.lst []) s:=by rw[pE4,Ze];rfl
 rw[YU,h,Za,e2,Za];cases xs<;>rfl
theorem Uu{q:Row->Bool}:∀(l F:List Row),l.foldl (λF r=>if q r=ak then F++[r]else F) F=F++l.filter q
 |[],F=>by simp
 |r::l,F=>by
  rw[dk,Uu l,l0];cases q r<;>simp
section
variable{p n:Nat}[Base p]
def uX(d:Nat){E F:List Row}{h:Nat}{r:Row}(s:DS)(hn:n<=6)(hr:Zf p n r)(hpl:∀k∈ZW E,k<n)(hh:h<n)(hl:F.length<lim) :
  rvs (CV<|d+1) [3] [.ite (.and (.cmp .eq (.ix (.v 5)<|.v 4)<|.n 1)<|.cmp .eq (.call 35 [(.v 5)])<|.v 4) [.ite (.cmp .eq (.comp1 [4,5] 1 [0] (.of<|.v 2) [(.and (.cmp .ne (.v 0)<|.v 1)<|.cmp .ne (.ix (.v 2)<|.v 0)<|.n 0)]<|.v 0)<|.lst []) [.ex<|.mt .append (.v 3) [(.v 5)]] []] []] [aa<|spV p n,aa<|.lst<|E.map Zc,aa<|.lst<|(ZW E).map Zv,aa<|.lst<|F.map Zc,aa<|Zv h,aa<|Zc r] [3] s
   = .ok (.nx [aa<|spV p n,aa<|.lst<|E.map Zc,aa<|.lst<|(ZW E).map Zv,aa<|.lst<|(if Jv E h r=ak then F++[r]else F).map Zc,aa<|Zv h,aa<|Zc r] [3]) s:=by
 generalize hρ:[aa<|spV p n,aa<|.lst<|E.map Zc,aa<|.lst<|(ZW E).map Zv,aa<|.lst<|F.map Zc,aa<|Zv h,aa<|Zc r]=Z;have g4:Z[4]?=aa (aa<|Zv h):=by rw[<-hρ];rfl
 have g5:Z[5]?=aa (aa<|Zc r):=by rw[<-hρ];rfl
 have a1:pv (CV<|d+1) (.cmp .eq (.ix (.v 5)<|.v 4)<|.n 1) Z s=.ok (.bl<|ag<|gt r h=1) s:=by
  rw[YU,VS g5 g4 (by rw[hr.1];exact hh),Za,ZN,Za];rfl
 have a2:pv (CV<|d+1) (.cmp .eq (.call 35 [(.v 5)])<|.v 4) Z s=.ok (.bl<|ag<|Xh r=h) s:=by
  rw[YU,Zo (Zb (Zd g5) Ze) (yM d s (by rw[hr.1];omega)),Za,Zd g4,Za]
  show PR.ok (V.bl<|ag<|(Xh r:Int)=h) s=_
  congr 2
  exact decide_eq_decide.mpr #[λz=>by omega,λz=>by omega]
 have t1:=xt a1 a2;have hc:=Xd (C:=CV<|d+1) (cap:=[4,5]) (nl:=1) (t:=[0]) (it:=.of<|.v 2) (tst:=.and (.cmp .ne (.v 0)<|.v 1)<|.cmp .ne (.ix (.v 2)<|.v 0)<|.n 0) (elt:=.v 0) (Z:=Z) (s:=s)
  (by rw[wE7,Zd (by rw[<-hρ];rfl)];rfl) (by
   have:=eO ((E.filter λr=>(hdI r).isSome).map Xh).contains<|aO 6
   rw[bu]at this;unfold ZW lim;omega) (λk hk=>by
   have hk:=hpl k hk;refine#[[aa<|Zv k,aa<|Zv h,aa<|Zc r],.bl<|!decide (k=h) && !decide (gt r k=0),by rw[<-hρ];rfl,?_,rfl,λ_=>Zd rfl]
   refine xt ?_ ?_
   .rw[YU,Zd rfl,Za,Zd rfl,Za]
    show PR.ok (V.bl<|!decide ((k:Int)=h)) s=_
    congr 3
    exact decide_eq_decide.mpr #[λz=>by omega,λz=>by omega]
   .rw[YU,VS rfl rfl (by rw[hr.1];exact hk),Za,ZN,Za];rfl)
 have t2:=Zfd hc;rw[qD (q':=λk=>ag (k=h)||decide (gt r k=0)) _ λk _=>by simp]at t2
 have ef:Jv E h r=((ag (gt r h=1)&&ag (Xh r=h))&&(ZW E).all λk=>ag (k=h)||decide (gt r k=0)):=rfl
 have stay:∀{t:Ev.E}{x:List Sm},pv (CV<|d+1) t Z s=.ok (.bl aj) s->rvs (CV<|d+1) [3] [.ite t x []] Z [3] s=.ok (.nx Z [3]) s:=λ{t x} z=>by
  rw[Zh (by rw[XW<|YN z rfl,T8 #[1],rvs]),rvs]
 have into:∀{t:Ev.E}{x:List Sm}{R:PR FlV},pv (CV<|d+1) t Z s=.ok (.bl ak) s->rvs (CV<|d+1) [3] x Z [3] s=R->rvs (CV<|d+1) [3] [.ite t x []] Z [3] s=R:=λ{t x R} z w=>by
  rw[rvs,XW<|YN z rfl,T9 rfl,w];cases R with|ok f s=>cases f<;>simp[PR.bind,rvs]|_=>rfl
 cases q1:(ag (gt r h=1)&&ag (Xh r=h))with
 |false=>
  rw[q1]at t1;rw[ef,q1,kU,T8 #[1],hρ]
  exact stay t1
 |true=>
  rw[q1]at t1;rw[ef,q1,Bool.true_and];refine into t1 ?_;cases q2:(ZW E).all λk=>ag (k=h)||decide (gt r k=0)with
  |false=>
   rw[q2]at t2;rw[T8 #[1],hρ]
   exact stay t2
  |true=>
   rw[q2]at t2;rw[T9 rfl];refine into t2 ?_;rw[Zh (ρ':=Z.set 3<|aa<|.lst<|(F++[r]).map Zc) (by
    rw[Zfp,T9<|show([3]:List Nat).contains 3=ak from rfl,show z8 Z[3]?=aa (F.map Zc) by rw[<-hρ];rfl,ZT,Za,Zd g5,Za,T9 #[Vz r,by rw[ax];exact hl],bT];rfl),rvs,<-hρ]
   rfl
def Qb(d:Nat){E F P:List Row}(s:DS)(hn:n<=6)(hK:HasK p n F P)(hE:E.Perm F)(hl:E.length<=1000):CV (d+2) 36 [spV p n,.lst<|E.map Zc] s=.ok (Zk P) s:=by
 have hpl:=uU hn hK hE;have hR:=λr hr=>((hK.mem r).mp<|hE.mem_iff.mp hr).1
 have hF:=Zdr hn hK hE;refine Zp rfl #[1] rfl ?_
 show rvs (CV<|d+1) [3] Wk.body [aa<|spV p n,aa<|.lst<|E.map Zc,ai,ai,ai,ai] [] s=_
 dsimp only[Wk]
 have hc:=Xd (cap:=[]) (nl:=1) (t:=[0]) (it:=.of<|.v 1) (tst:=.blt .any [(.v 0)]) (elt:=.call 35 [(.v 0)]) (Z:=[aa<|spV p n,aa<|.lst<|E.map Zc,ai,ai,ai,ai])
  (by rw[wE7,Zd rfl];rfl) (by unfold lim;omega) (λr hr=>#[[aa<|Zc r],.bl (hdI r).isSome,rfl,ZdZ s rfl,rfl,λ_=>Zo (Zb (Zd rfl) Ze)<|yM d s (by rw[(hR r hr).1];omega)])
 have e1:pv (CV<|d+1) (.blt .sortedS [(.comp1 [] 1 [0] (.of<|.v 1) [(.blt .any [(.v 0)])]<|.call 35 [(.v 0)])]) [aa<|spV p n,aa<|.lst<|E.map Zc,ai,ai,ai,ai] s=.ok (.lst<|(ZW E).map Zv) s:=by
  rw[Yt,Zb hc Ze,Za,show(E.filter λr=>(hdI r).isSome).map (λr=>Zv<|Xh r)=((E.filter λr=>(hdI r).isSome).map Xh).map Zv by rw[bS];rfl]
  show po ((WS _).map λks=>V.lst (((aO 6).filter ks.contains).map λk:Nat=>.int k)) s=_
  rw[Qn _ λk hk=>by
   obtain⟨r,hr,rfl⟩:=aM.mp hk;obtain⟨hr,hs⟩:=cy.mp hr;obtain⟨k,e⟩:=bP.mp hs;rw[Wf e];have:=(Z1 e).2.1;have:=(hR r hr).1;omega]
  rfl
 rw[Zh<|ZE e1 rfl];rw[Zh (ρ':=[aa<|spV p n,aa<|.lst<|E.map Zc,aa<|.lst<|(ZW E).map Zv,aa<|.lst<|([]:List Row).map Zc,ai,ai]) (os':=[3]) (by
  rw[rE1];show PR.bind (pv _ (.lst []) _ s) _=_;rw[pE4,Ze];rfl)]
 have lP:P.length<=1000:=by have:=hK.part;have:=dsum this;omega
 obtain⟨ρ',hI,e⟩:=UF (C:=CV<|d+1) (os:=[3]) (t:=[4]) (it:=.of<|.v 2) (s:=s)
  (λl Z=>(∀k∈l,k<n)/\∃F a4 a5,Z=[aa<|spV p n,aa<|.lst<|E.map Zc,aa<|.lst<|(ZW E).map Zv,aa<|.lst<|F.map Zc,a4,a5]/\F++(l.flatMap λh=>E.filter<|Jv E h)=P) (by
   rw[wE7,Zd rfl];rfl) #[hpl,[],ai,ai,rfl,hF] rfl (λh l Z hI=>by
   obtain⟨hh,F,a4,a5,rfl,hf⟩:=hI;have h0:=hh h<|al ..;have lF:F.length<=1000:=by have:=congrArg hZ hf;rw[aQ]at this;omega
   obtain⟨b5,_,e5⟩:=vc (C:=CV<|d+1) (os:=[3]) (t:=[5]) (it:=.of<|.v 1) (Z:=λF x=>[aa<|spV p n,aa<|.lst<|E.map Zc,aa<|.lst<|(ZW E).map Zv,aa<|.lst<|F.map Zc,aa<|Zv h,x]) (st:=F) (s:=s)
    (λl F=>(∀r∈l,Zf p n r)/\F.length+l.length<lim) (by
     rw[wE7,Zd rfl];rfl) #[hR,by unfold lim;omega] rfl (λr l F x hI=>by
     obtain⟨i1,i2⟩:=hI;rw[aV]at i2;refine#[#[λq hq=>i1 q<|am _ hq,?_],by rw[Vz];rfl,[aa<|spV p n,aa<|.lst<|E.map Zc,aa<|.lst<|(ZW E).map Zv,aa<|.lst<|F.map Zc,aa<|Zv h,aa<|Zc r],aa<|Zc r,rfl,uX d s hn (i1 r<|al ..) hpl h0 #[3]]
     split
     .rw[aQ,fV];omega
     .omega)
   rw[Uu]at e5;refine#[rfl,[aa<|spV p n,aa<|.lst<|E.map Zc,aa<|.lst<|(ZW E).map Zv,aa<|.lst<|F.map Zc,aa<|Zv h,a5],_,rfl,by rw[Zh e5,rvs],λk hk=>hh k<|am _ hk,_,_,_,rfl,?_]
   rw[oQ,<-bE]at hf;exact hf)
 obtain⟨_,F,a4,a5,rfl,hf⟩:=hI;rw[List.flatMap_nil,cf]at hf;subst hf;rw[Zh e];refine Zi<|Zw ?_;rw[Yt,Zb (Zd rfl) Ze];rfl
end
end K72
namespace Ab
open Ev Pv
end Ab
namespace Lv
open Ev Pv
noncomputable def Qf:Fn:=#[2,2,[.ite (.cmp .lt (.v 1)<|.blt .len [(.v 0)]) [.ret<|.ix (.v 0)<|.v 1] [],.ret<|.n 0]]
noncomputable def UU(c:Nat):Fn:=#[2,3,[.asg [2]<|.call c [(.v 0),(.v 1)],.ite (.cmp .ge (.v 2)<|.bin .pow (.n 10)<|.n 18) [.ret<|.lst [(.bin .sub (.v 2)<|.bin .pow (.n 10)<|.n 18),(.c<|.bl ak)]] [],.ret<|.lst [(.bin .mod (.v 2)<|.n 2147483647),(.c<|.bl aj)]]]
noncomputable def xA(nn:Nat)(M:Int)(st:Nat)(B:List Sm)(r:E):Fn:=#[1,nn,[.forr [1] (.rng1<|.blt .max2 [(.n 1),(.blt .min2 [(.blt .len [(.v 0)]),(.c<|.int M)])]) [.cel 2 st [(.v 0),(.v 1)] B],.ret r]]
def ZcS(ht:ca≠tk)(hC:F[ca]?=aa Qf)(d)(k0:0<=k):∃c,Zm F tk (d+1) ca [.scr ns,.int k] s=.ok (.int c) s:=by
 by_cases c:k<ns.length
 .have hk:k.toNat<ns.length:=by lia
  refine#[ns[k.toNat],?_];simp[Zm,ht,hC,Qf,rvs,rE9,G8,pvs,pE1,pE2,YU,Xz,Yt,YO,PR.bind,po,ZP,YT,int2,XF,U4,YA,Zz,ixV,at',ixN,k0,c,hk,ofD]
 .refine#[0,?_]
  simp[Zm,ht,hC,Qf,rvs,rE9,G8,pvs,pE1,pE2,YU,Xz,Yt,YO,PR.bind,po,ZP,YT,int2,XF,U4,YA,Zz,ixV,at',ixN,k0,c,ofD]
def jr(ht:ca≠tk)(hts:st≠tk)(hC:F[ca]?=aa Qf)(hS:F[st]?=aa (UU ca))(d:Nat)(k0:0<=k):∃v d0,Zm F tk (d+2) st [.scr ns,.int k] s=.ok v s/\QV v=aa d0/\okS d0.1 d0.2=ak:=by
 obtain⟨c,e⟩:=ZcS ht hC (s:=s) (ns:=ns) d k0;rw[Zm,T8 hts,hS]
 generalize Zm F tk (d+1)=C at e ⊢;by_cases h:10^18<=c
 .have h':(1000000000000000000:Int)<=c:=by simpa using h
  have o:okS (c-1000000000000000000) ak=ak:=by simp[okS];lia
  refine#[.lst [.int<|c-1000000000000000000,.bl ak],(c-1000000000000000000,ak),?_,by simp[QV,o],o]
  simp[UU,rvs,rE1,rE9,G8,pvA,pvs,pE1,pE2,pE4,pE7,YU,jU,YO,PR.bind,po,ZP,YT,int2,Zz,ofD,Vo,Pv.UD,e,h',yY,Ju,Zbt,ZbP,ZbY,lim]
 .have h':¬(1000000000000000000:Int)<=c:=by simpa using h
  have o:okS (c%2147483647) aj=ak:=by simp[okS];lia
  refine#[.lst [.int<|c%2147483647,.bl aj],(c%2147483647,aj),?_,by simp[QV,o],o]
  simp[UU,rvs,rE1,rE9,G8,pvA,pvs,pE1,pE2,pE4,pE7,YU,jU,YO,PR.bind,po,ZP,YT,int2,Zz,ofD,Vo,Pv.UD,e,h',yY,Ju,Zbt,ZbP,ZbY,lim]
theorem zS(P:Env->Prop):∀xs,(∀x∈xs,∀Z s,P Z->∃ρ' s',P ρ'/\body x Z [] s=.ok (.nx ρ' []) s')->∀Z s,P Z->∃ρ' s',P ρ'/\Y6 body xs Z [] s=.ok (.nx ρ' []) s'
 |[],_,Z,s,h=>#[Z,s,h,rfl]
 |x::xs,hb,Z,s,h=>by
  obtain⟨ρ1,s1,h1,e1⟩:=hb x (al ..) Z s h;obtain⟨ρ2,s2,h2,e2⟩:=zS P xs (λy hy=>hb y<|am _ hy) ρ1 s1 h1
  refine#[ρ2,s2,h2,?_];rw[Y6,e1];exact e2
def hide_nil :hide [] Z=Z:=by
 unfold hide;apply bW
 intro i;rw[iV];cases Z[i]?<;>rfl
def Zbz(h0:Z[0]?=aa (aa<|.scr ns))(h1:Z[1]?=aa (aa<|.int k))(hl:Z.length=nn+3):(VE 2 Z).set 2 (aa .drw)=aa (.scr ns)::aa (.int k)::aa .drw::au nn ai:=by
 match Z,h0,h1,hl with
 |a::b::l,h0,h1,hl=>
  cases h0;cases h1;have:l.length=nn+1:=by simpa using hl
  unfold VE;simp[JH,V.flat,this,cr]
def law_ofR{r:E}(d:Nat)(ht:ca≠tk)(hts:st≠tk)(htl:L≠tk)(hC:F[ca]?=aa Qf)(hS:F[st]?=aa (UU ca))(hL:F[L]?=aa (xA (nn+3) M st B r))(hM:M<2^62)(hr:∀Z s,pv (Zm F tk<|d+2) r Z s=.ok (.bl ak) s)
  (hv:∀o (k:Nat) (s:DS),∃Z os s',rvs (Zm F tk<|d+2) (muts B) B (o::aa (.int k)::aa .drw::au nn ai) [] s=.ok (.nx Z os) s'/\Z[0]?=aa o/\Z.length=nn+3)(ns:List Int)(s:DS) :
  ∃S,Zm F tk (d+3) L [.scr ns] s=.ok (.bl ak) S:=by
 rw[show d+3=(d+2)+1 from rfl,Zm,T8 htl,hL]
 have hst:=λk (k0:0<=k) s=>jr ht hts hC hS (s:=s) (ns:=ns) (k:=k) d k0
 generalize Zm F tk (d+2)=C at hv hst hr ⊢;have hR:=hr;clear hr;have hr:∃m,pvw C (.rng1<|.blt .max2 [(.n 1),(.blt .min2 [(.blt .len [(.v 0)]),(.c<|.int M)])]) (ZP (nn+3) [.scr ns]) s=.ok (Yc 0 m) s:=by
  have e:pv C (.blt .max2 [(.n 1),(.blt .min2 [(.blt .len [(.v 0)]),(.c<|.int M)])]) (ZP (nn+3) [.scr ns]) s=.ok (.int<|if(if M<(ns.length:Int)then M else(ns.length:Int))>1 then(if M<(ns.length:Int)then M else(ns.length:Int))else 1) s:=by
   simp[pE1,pE2,Yt,pvs,PR.bind,po,ZP,ofD,XF,U4,blt2,qi,YA]
  rw[wE1,e];refine#[_,(T9 ?_ :)];unfold WP;refine T5 ?_;split<;>split<;>lia
 obtain⟨m,hr⟩:=hr;have hm:muts (xA (nn+3) M st B r).body=muts B:=(cf _).trans<|cf _;simp only[hm];show ∃S,(if 1=1 then _ else _)=_
 rw[T9 rfl];unfold xA;simp only;rw[rvs,Q7,hide_nil,hr]
 let body:=λx Z os s=>if([1].any os.contains)=ak then .no else(po (Zq [1] x Z) s).bind λZ s=>rvs C (muts B) [.cel 2 st [(.v 0),(.v 1)] B] Z os s
 have hb:∀x∈Yc 0 m,∀Z s,(Z[0]?=aa (aa<|.scr ns)/\Z.length=nn+3)->∃ρ' s',(ρ'[0]?=aa (aa<|.scr ns)/\ρ'.length=nn+3)/\body x Z [] s=.ok (.nx ρ' []) s':=by
  intro x hx Z s #[h0,hl];unfold Yc at hx;obtain⟨k,_,rfl⟩:=aM.mp hx;rw[Int.zero_add];obtain⟨v,d0,e1,e2,e3⟩:=hst (k:Int) #[0] s
  obtain⟨ρ2,os2,s2,e4,h2,l2⟩:=hv (aa<|.scr ns) k d0;have q0:(Z.set 1<|aa<|.int (k:Int))[0]?=aa (aa<|.scr ns):=by rw[ba #[1]];exact h0
  have q1:(Z.set 1<|aa<|.int (k:Int))[1]?=aa (aa<|.int (k:Int)):=bc #[0]
  have ql:(Z.set 1<|aa<|V.int (k:Int)).length=nn+3:=by rw[bC];exact hl
  have a:pvs C [(.v 0),(.v 1)] (Z.set 1<|aa<|.int (k:Int)) s=.ok [.scr ns,.int (k:Int)] s:=by
   simp only[pvs,pE2,q0,q1,PR.bind,po,Option.join];rfl
  refine#[ρ2.map JH,s,#[by rw[aK,h2];rfl,by rw[ax];exact l2],?_]
  show(rvs C (muts B) [.cel 2 st [(.v 0),(.v 1)] B] (Z.set 1<|aa<|.int (k:Int)) [] s)=_;rw[rvs,ZgY,T9 #[7],a]
  show PR.bind (PR.bind (C st [.scr ns,.int (k:Int)] s) _) _=_;rw[e1];show PR.bind (PR.bind (po (QV v) s) _) _=_;rw[e2];simp only[po,PR.bind,Zbz q0 q1 ql,e4,rvs]
 obtain⟨Z,s',h,e⟩:=zS (λZ=>Z[0]?=aa (aa<|.scr ns)/\Z.length=nn+3) (Yc 0 m) hb (ZP (nn+3) [.scr ns]) s #[rfl,by simp[ZP]]
 refine#[s',?_];show PR.bind (PR.bind (Y6 body (Yc 0 m) _ _ s) _) _=_;rw[e];show PR.bind (rvs C (muts B) [.ret r] Z [] s') _=_;rw[rvs,rE9,hR];rfl
end Lv
namespace K72
open Ev Pv Rw La
open Ab (okV Yn)
noncomputable def JR:List (Nat×Nat):=[(2,1),(2,2),(2,3),(2,4),(3,1),(3,2),(3,3),(5,1),(5,2),(2,3),(2,4),(3,3)]
def Zeu:List (Nat×Nat):=[(2,5),(2,6),(3,4),(5,3)]
def Y7:List (Nat×Nat):=JR++Zeu
def UJ:∀q∈Y7,(q.1=2\/q.1=3\/q.1=5)/\1<=q.2/\q.2<=6/\q.1^q.2<=1000:=by decide
def uF(d:Nat){m:Int}(s:DS):∃q s',CV (d+2) 3 [.drw,.int m] s=.ok (spV q.1 q.2) s'/\q∈Y7:=by
 let L:=if m>27 then Y7 else JR
 have hL:12<=L.length/\L.length<=16/\∀q∈L,q∈Y7:=by
  by_cases c:m>27
  .simp only[L,T9 c];exact#[by decide,by decide,λq hq=>hq]
  .simp only[L,T8 c];exact#[by decide,by decide,λq hq=>da _ hq]
 obtain⟨v,s',f1,f2,f3⟩:=Vk (m:=L.length) s #[3] #[3]
 obtain⟨k,rfl⟩:∃k:Nat,v=k:=#[v.toNat,by omega]
 have hk:k<L.length:=by omega
 refine#[L[k],s',Zp rfl #[1] rfl ?_,hL.2.2 _<|aS hk]
 show rvs (CV<|d+1) [] XO.body [aa .drw,aa<|.int m,ai] [] s=_
 dsimp only[XO]
 rw[Zh (ρ':=[aa .drw,aa<|.int m,aa<|.lst<|JR.map λq=>spV q.1 q.2]) (os':=[]) (s':=s) (by simp[pvE,JR,spV])]
 have e0:pv (CV<|d+1) (.cmp .gt (.v 1)<|.n 27) [aa .drw,aa<|.int m,aa<|.lst<|JR.map λq=>spV q.1 q.2] s=.ok (.bl<|ag<|27<m) s:=by
  rw[YU,Zd rfl,Za,ZN,Za];rfl
 rw[Zh (ρ':=[aa .drw,aa<|.int m,aa<|.lst<|L.map λq=>spV q.1 q.2]) (by
  rw[XW<|YN e0 rfl];by_cases c:m>27
  .simp only[L,T9 c]
   rw[T5 c,T9 rfl];rw[Zh (ρ':=[aa .drw,aa<|.int m,aa<|.lst<|Y7.map λq=>spV q.1 q.2]) (os':=[]) (s':=s) (by simp[pvE,Y7,JR,Zeu,spV]),rvs]
  .simp only[L,T8 c]
   rw[T4 c,T8 #[1],rvs])]
 refine Zi<|Zw ?_;have e1:pv (CV<|d+1) (.blt .len [(.v 2)]) [aa .drw,aa<|.int m,aa<|.lst<|L.map λq=>spV q.1 q.2] s=.ok (.int L.length) s:=by
  rw[Yt,Zb (Zd rfl) Ze,Za];show po (aa<|V.int (L.map λq=>spV q.1 q.2).length) s=_
  rw[ax];rfl
 rw[Xz,Zd rfl,Za,Zo (Zb (Zd rfl)<|Zb e1 Ze) f1,Za];show po (at' (L.map λq=>spV q.1 q.2) (k:Int)) s'=_
 rw[X9 (by rw[aK,af hk];rfl)];rfl
def WZ{C:Zx}{cap:List Nat}{nl:Nat}{t:List Nat}{it:W}{elt:E}{Z:Env}{s s0:DS}{k:Nat}{Q:V->Prop}(hw:pvw C it Z s=.ok (Yc 0 k) s0)(hl:k<=lim)(h:∀(x:V)(s:DS),∃O y s',Zq t x (Z9 cap nl Z)=aa O/\pv C elt O s=.ok y s'/\Q y)(ho:own nl t=ak:=by rfl) :
  ∃ys s',pv C (.comp1 cap nl t it [] elt) Z s=.ok (.lst ys) s'/\ys.length=k/\∀y∈ys,Q y:=by
 obtain⟨ys,s',e1,e2,e3⟩:=V9 (f:=λx s=>(po (Zq t x<|Z9 cap nl Z) s).bind λO s=>(pvt C [] O s).bind λb s=>if b then(pv C elt O s).bind λy s=>.ok [y] s else .ok [] s) (λx s=>by
  obtain⟨O,y,s',f1,f2,f3⟩:=h x s;refine#[y,s',?_,f3];rw[f1,ZT,Za,pvt,Za];rw[f2];rfl) (Yc 0 k) s0
 have hk:(Yc 0 k).length=k:=by unfold Yc;simp
 refine#[ys,s',?_,by rw[e2,hk],e3]
 rw[u0,T9 ho,hw,Za,e1,Za,T9 (by rw[e2,hk];exact hl)];rfl
theorem V3{p n:Nat}:∀{ys:List V},(∀y∈ys,∃r:Row,y=Zc r/\Zf p n r)->∃R:List Row,ys=R.map Zc/\∀r∈R,Zf p n r
 |[],_=>#[[],rfl,λ_ h=>by cases h]
 |y::ys,h=>by
  obtain⟨R,rfl,hR⟩:=V3 λz hz=>h z<|am _ hz
  obtain⟨r,rfl,hr⟩:=h y<|al ..;refine#[r::R,rfl,λx hx=>?_]
  rcases aw.mp hx with rfl|hx
  .exact hr
  .exact hR x hx
theorem xb{p:Nat}:∀{ys:List V},(∀y∈ys,∃a:Int,y=.int a/\0<=a/\a<(p:Int))->∃r:Row,ys=r.map V.int/\∀a∈r,0<=a/\a<(p:Int)
 |[],_=>#[[],rfl,λ_ h=>by cases h]
 |y::ys,h=>by
  obtain⟨r,rfl,hr⟩:=xb λz hz=>h z<|am _ hz
  obtain⟨a,rfl,h3⟩:=h y<|al ..;refine#[a::r,rfl,λx hx=>?_]
  rcases aw.mp hx with rfl|hx
  .exact h3
  .exact hr x hx
section
variable{p n:Nat}[Base p]
theorem YX:∀L:List Row,(Zr L).Perm L
 |[]=>cC _
 |x::L=>by
  have ins:∀(x:Row)(l:List Row),(YR x l).Perm (x::l):=λx l=>by
   induction l with
   |nil=>exact cC _
   |cons y l ih=>
    unfold YR;split
    .exact cC _
    .exact(ih.cons y).trans<|kO ..
  exact(ins x<|Zr L).trans<|(YX L).cons x
def UM(d:Nat)(s:DS)(hn:n<=6):∃r s',CV (d+2) 34 [.drw,spV p n] s=.ok (Zc r) s'/\Zf p n r:=by
 have hp:=X3 (p:=p);obtain⟨v,s1,f1,f2,f3⟩:=Vk (m:=(n:Int)+1) s #[3] #[3]
 obtain⟨w,s2,g1,g2,g3⟩:=Vk (m:=3) s1 #[3] #[3]
 obtain⟨k,hk,e0⟩:∃k:Nat,k<=n/\pv (CV<|d+1) (.bin .mul (.call 2 [(.v 0),(.bin .add (.ix (.v 1)<|.n 1)<|.n 1)])<|.blt .toInt [(.cmp .eq (.call 2 [(.v 0),(.n 3)])<|.n 0)]) [aa .drw,aa<|spV p n,ai] s=.ok (Zv k) s2:=by
  have h1:pv (CV<|d+1) (.bin .add (.ix (.v 1)<|.n 1)<|.n 1) [aa .drw,aa<|spV p n,ai] s=.ok (.int<|(n:Int)+1) s:=Qm (ix1 rfl) ZN;have h2:pv (CV<|d+1) (.call 2 [(.v 0),(.bin .add (.ix (.v 1)<|.n 1)<|.n 1)]) [aa .drw,aa<|spV p n,ai] s=.ok (.int v) s1:=Zo (Zb (Zd rfl)<|Zb h1 Ze) f1;have h3:pv (CV<|d+1) (.call 2 [(.v 0),(.n 3)]) [aa .drw,aa<|spV p n,ai] s1=.ok (.int w) s2:=Zo (Zb (Zd rfl)<|Zb ZN Ze) g1;have h4:pv (CV<|d+1) (.blt .toInt [(.cmp .eq (.call 2 [(.v 0),(.n 3)])<|.n 0)]) [aa .drw,aa<|spV p n,ai] s1=.ok (.int<|b2i<|ag<|w=0) s2:=by
   have:pv (CV<|d+1) (.cmp .eq (.call 2 [(.v 0),(.n 3)])<|.n 0) [aa .drw,aa<|spV p n,ai] s1=.ok (.bl<|ag<|w=0) s2:=by
    rw[YU,h3,Za,ZN,Za];rfl
   rw[Yt,Zb this Ze];rfl
  by_cases c:w=0
  .refine#[v.toNat,by omega,?_]
   rw[pE7,h2,Za,h4,Za,T5 c];show(if(fits v&&fits 1)=ak then PR.ok (V.int<|v*1) s2 else .no)=_
   rw[T9 (by rw[Z8 #[3] #[3]];rfl)]
   unfold Zv;rw[show v*1=((v.toNat:Nat):Int) by omega]
  .refine#[0,by omega,?_]
   rw[pE7,h2,Za,h4,Za,T4 c];show(if(fits v&&fits 0)=ak then PR.ok (V.int<|v*0) s2 else .no)=_
   rw[T9 (by rw[Z8 #[3] #[3]];rfl),Int.mul_zero];rfl
 obtain⟨ys,s3,e1,e2,e3⟩:=uN (C:=CV<|d+1) (cap:=[0,1]) (nl:=1) (t:=[0]) (it:=.rng1<|.bin .sub (.ix (.v 1)<|.n 1)<|.v 2) (elt:=.call 2 [(.v 1),(.ix (.v 2)<|.n 0)]) (Z:=[aa .drw,aa<|spV p n,aa<|Zv k]) (s:=s2) (k:=n-k) (Q:=λy=>∃a:Int,y=.int a/\0<=a/\a<(p:Int))
  (by
   rw[VJ];refine Yr ?_ #[3]
   rw[pE7,ix1 rfl,Za,Zd rfl,Za];show PR.ok (V.int<|(n:Int)-(k:Int)) s2=_;rw[show(n:Int)-(k:Int)=((n-k:Nat):Int) by omega]) (by unfold lim;omega) (λx s=>by
   obtain⟨v,s',f1,f2,f3⟩:=Vk (m:=p) s #[3] #[3]
   exact#[[aa x,aa .drw,aa<|spV p n],.int v,s',rfl,Zo (Zb (Zd rfl)<|Zb (ix0 rfl) Ze) f1,v,rfl,f2,f3])
 obtain⟨r,rfl,hr⟩:=xb e3;rw[ax]at e2;refine#[au k 0++r,s3,Zp rfl #[1] rfl ?_,by rw[aQ,bL,e2];omega,λa ha=>?_]
 .show rvs (CV<|d+1) [] W8.body [aa .drw,aa<|spV p n,ai] [] s=_
  dsimp only[W8]
  rw[Zh<|ZE e0 rfl];show rvs _ _ _ [aa .drw,aa<|spV p n,aa<|Zv k] [] s2=_;refine Zi<|Zw ?_;have g:pv (CV<|d+1) (.tup [(.n 0)]) [aa .drw,aa<|spV p n,aa<|Zv k] s2=.ok (.tup [.int 0]) s2:=Ya ZN;have g2:pv (CV<|d+1) (.bin .mul (.tup [(.n 0)])<|.v 2) [aa .drw,aa<|spV p n,aa<|Zv k] s2=.ok (.tup<|(au k (0:Int)).map V.int) s2:=by
   rw[pE7,g,Za,Zd rfl,Za];show(if(0:Int)<=k/\(k:Int)<1000/\1<=1000 then PR.ok (V.tup (au (k:Int).toNat [V.int 0]).flatten) s2 else .no)=_
   rw[T9 #[by omega,by omega,by omega],c7,vW]
  have g3:pv (CV<|d+1) (.blt .tuple [(.comp1 [0,1] 1 [0] (.rng1<|.bin .sub (.ix (.v 1)<|.n 1)<|.v 2) []<|.call 2 [(.v 1),(.ix (.v 2)<|.n 0)])]) [aa .drw,aa<|spV p n,aa<|Zv k] s2=.ok (.tup<|r.map V.int) s3:=by
   rw[Yt,Zb e1 Ze];rfl
  rw[pE7,g2,Za,g3,Za];show(if((au k (0:Int)).map V.int).length+(r.map V.int).length<=lim then PR.ok (V.tup<|(au k (0:Int)).map V.int++r.map V.int) s3 else .no)=_
  rw[T9 (by rw[ax,ax,bL];unfold lim;omega),<-bT];rfl
 .rcases bK.mp ha with ha|ha
  .rw[fm ha];omega
  .exact hr a ha
def yN(d:Nat)(s:DS)(hn:n<=6)(h1:1<=n)(hp:p^n<=1000):∃P s',CV (d+3) 37 [.drw,spV p n] s=.ok (Zk P) s'/\pZ p n P:=by
 obtain⟨v,s1,f1,f2,f3⟩:=Vk (m:=(n:Int)+1) s #[3] #[3]
 obtain⟨k,rfl⟩:∃k:Nat,v=k:=#[v.toNat,by omega]
 obtain⟨ys,s2,e1,e2,e3⟩:=WZ (cap:=[0,1]) (nl:=1) (t:=[0]) (it:=.rng1<|.call 2 [(.v 0),(.bin .add (.ix (.v 1)<|.n 1)<|.n 1)]) (elt:=.call 34 [(.v 1),(.v 2)]) (Z:=[aa .drw,aa<|spV p n,ai]) (Q:=λy=>∃r:Row,y=Zc r/\Zf p n r)
  (by
   rw[VJ];exact Yr (Zo (Zb (Zd rfl)<|Zb (Qm (ix1 rfl) ZN) Ze) f1)<|by omega) (by unfold lim;omega) (λx s=>by
   obtain⟨r,s',g1,g2⟩:=UM (p:=p) d s hn;exact#[[aa x,aa .drw,aa<|spV p n],Zc r,s',rfl,Zo (Zb (Zd rfl)<|Zb (Zd rfl) Ze) g1,r,rfl,g2])
 obtain⟨R,rfl,hR⟩:=V3 e3;have hK:=Yd hR;have hl:(Zr<|ZD p n R).length<=1000:=by
  rw[Xu,hK.len];have:=X3 (p:=p);exact bU (dJ #[3]<|dsum hK.part) hp
 refine#[Z2 p [] R,s2,Zp rfl #[1] rfl ?_,hK.part]
 show rvs (CV<|d+2) [] Wq.body [aa .drw,aa<|spV p n,ai] [] s=_
 dsimp only[Wq]
 rw[Zh<|ZE e1 rfl];exact Zi<|Zw<|Yj (Zd rfl) (Yj (Zd rfl) (Zd rfl)<|Y8 d s2 hn h1 hp hR rfl)<|Qb d s2 hn hK (YX _) hl
def xn(d:Nat){x:V}(s:DS)(hn:n<=6)(h1:1<=n)(hp:p^n<=1000)(hx:okV x=ak):CV (d+3) 39 [spV p n,x] s=.ok (.bl<|isP p n x) s:=by
 refine Zp rfl #[1] rfl ?_
 let l2:List Sm:=[.ret<|.cmp .eq (.call 36 [(.v 0),(.call 5 [(.v 0),(.v 1)])])<|.v 1]
 let l1:List Sm:=.forr [2] (.of<|.v 1) [.ite (.not<|.call 11 [(.v 0),(.v 2)]) [.ret<|.c<|.bl aj] []]::l2
 show rvs (CV<|d+2) [] (.ite (.or (.not<|.isi (.v 1) [.tuple])<|.cmp .gt (.blt .len [(.v 1)])<|.ix (.v 0)<|.n 1) [.ret<|.c<|.bl aj] []::l1) [aa<|spV p n,aa x,ai] [] s=_;have g:=v7 (C:=CV<|d+2) (Z:=[aa<|spV p n,aa x,ai]) (s:=s) (i:=1) rfl hx;have fin:pv (CV<|d+2) (.or (.not<|.isi (.v 1) [.tuple])<|.cmp .gt (.blt .len [(.v 1)])<|.ix (.v 0)<|.n 1) [aa<|spV p n,aa x,ai] s=.ok (.bl ak) s->rvs (CV<|d+2) [] (.ite (.or (.not<|.isi (.v 1) [.tuple])<|.cmp .gt (.blt .len [(.v 1)])<|.ix (.v 0)<|.n 1) [.ret<|.c<|.bl aj] []::l1) [aa<|spV p n,aa x,ai] [] s=.ok (.ret<|.bl aj) s:=λq=>by
  refine Zi ?_;rw[XW<|YN q rfl,T9 rfl];exact Zi<|Zw (by rw[pE1];rfl)
 rcases Qv hx with⟨xs,rfl⟩|⟨_,no⟩
 .have e1:pv (CV<|d+2) (.cmp .gt (.blt .len [(.v 1)])<|.ix (.v 0)<|.n 1) [aa<|spV p n,aa<|.tup xs,ai] s=.ok (.bl<|ag<|(n:Int)<xs.length) s:=by
   have:pv (CV<|d+2) (.blt .len [(.v 1)]) [aa<|spV p n,aa<|.tup xs,ai] s=.ok (.int xs.length) s:=by rw[Yt,Zb (Zd rfl) Ze];rfl
   rw[YU,this,Za,ix1 rfl,Za];rfl
  by_cases c:xs.length<=n
  .rw[T4<|by omega]at e1
   rw[guard<|wR g e1];obtain⟨g1,g2⟩:=ub (C:=CV<|d+2) (ms:=[]) (i:=2) (it:=.of<|.v 1) (b:=[.ite (.not<|.call 11 [(.v 0),(.v 2)]) [.ret<|.c<|.bl aj] []]) (v:=.bl aj) (Z:=λo=>[aa<|spV p n,aa<|.tup xs,o]) (s:=s) ai
    (by
     rw[wE7,Zd rfl,Za,mW];rfl) (λ_ _=>rfl) (λv hv=>by
     have e3:pv (CV<|d+2) (.not<|.call 11 [(.v 0),(.v 2)]) [aa<|spV p n,aa<|.tup xs,aa v] s=.ok (.bl !Zt p n v) s:=Wb<|Yj (Zd rfl) (Zd rfl)<|WX d s hn<|Y0 hx v hv;show rvs _ _ _ [aa<|spV p n,aa<|.tup xs,aa v] [] s=if(!Zt p n v)=ak then _ else PR.ok (.nx [aa<|spV p n,aa<|.tup xs,aa v] []) s
     cases q:(!Zt p n v)with
     |true=>
      rw[q]at e3;rw[T9 rfl];refine Zi ?_;rw[XW<|YN e3 rfl,T9 rfl];exact Zi<|Zw (by rw[pE1];rfl)
     |false=>rw[q]at e3;rw[T8 #[1],guard e3,rvs])
   cases q:xs.all (Zt p n)with
   |false=>
    have:(xs.any λv=>!Zt p n v)=ak:=by
     rw[fC];simp[q]
    rw[show l1=.forr [2] (.of<|.v 1) [.ite (.not<|.call 11 [(.v 0),(.v 2)]) [.ret<|.c<|.bl aj] []]::l2 from rfl,Zi<|g1 this]
    have:isP p n (.tup xs)=aj:=by
     show(xs.all (Zt p n)&&_)=aj;rw[q,kU]
    rw[this]
   |true=>
    have:(xs.any λv=>!Zt p n v)=aj:=by
     rw[fC];simp[q]
    obtain⟨o',g2⟩:=g2 this;obtain⟨R,rfl,hR⟩:=WC q;rw[show l1=.forr [2] (.of<|.v 1) [.ite (.not<|.call 11 [(.v 0),(.v 2)]) [.ret<|.c<|.bl aj] []]::l2 from rfl,Zh g2]
    refine Zi<|Zw ?_;have hK:=Yd hR;have hl:(Zr<|ZD p n R).length<=1000:=by
     rw[Xu,hK.len];have:=X3 (p:=p);exact bU (dJ #[3]<|dsum hK.part) hp
    rw[ug (Yj (Zd rfl) (Yj (Zd rfl) (Zd rfl)<|Y8 d s hn h1 hp hR rfl)<|Qb d s hn hK (YX _) hl)<|Zd rfl];have eb:isP p n (.tup<|R.map Zc)=WM R:=by
     show((R.map Zc).all (Zt p n)&&match Yy (R.map Zc)with|some R=>WM R|none=>aj)=_
     rw[q,YE];rfl
    rw[eb]
    congr 2
    rw[cR,T0,Xw hR,u5 hR]
  .rw[T5<|by omega]at e1
   rw[fin<|wR g e1];have:isP p n (.tup xs)=aj:=by
    cases q:isP p n (.tup xs)with
    |false=>rfl
    |true=>
     obtain⟨P,e,hP⟩:=GR.mp q;exact T7 (QX hP xs e.symm) c
   rw[this]
 .rw[Zaa no]
  refine fin ?_;rw[ZcW,g];cases x<;>first|rfl|exact T7 rfl<|no _
end
section
variable{C:Zx}{Z:Env}{s s':DS}{a b e:E}{x y:V}{xs ys:List V}
def Vg{Q:V->Prop}{es:List E}(hl:es.length<=1000)(h:∀e∈es,∃v,pv C e Z s=.ok v s/\Q v):∃vs,pv C (.lst es) Z s=.ok (.lst vs) s/\vs.length=es.length/\∀v∈vs,Q v:=by
 obtain⟨vs,e,l,q⟩:=Vr h;refine#[vs,?_,l,q];rw[pE4,e,Za,T9 (by unfold lim;omega)]
def YF{k:Int}(h:pv C a Z s=.ok (.int k) s):pv C (.bin .add a<|.n 1) Z s=.ok (.int<|k+1) s:=Qm h ZN
def WT{lo hi:E}{j k:Int}(ha:pv C a Z s=.ok (.tup xs) s)(hlo:pv C lo Z s=.ok (.int j) s)(hhi:pv C hi Z s=.ok (.int k) s)(hb:pv C b Z s=.ok x s)(hl:xs.length<=400)(ho:Yn xs=ak)(hx:okV x=ak):∃ys,pv C (.bin .add (.bin .add (.sl a ai<|aa lo)<|.tup [b])<|.sl a (aa hi) ai) Z s=.ok (.tup ys) s/\Yn ys=ak/\ys.length<=1000:=by
 have l1:=Yo (xs:=xs) (lo:=ai) (hi:=aa j);have l2:=Yo (xs:=xs) (lo:=aa k) (hi:=ai);refine#[(Z6 xs ai (aa j)++[x])++Z6 xs (aa k) ai,YH (YH (y9 ha hlo) (Ya hb)<|by simp;omega) (VM ha hhi) (by simp;omega),XG (XG (Xk ho) ?_)<|Xk ho,by simp;omega]
 show(okV x&&ak)=ak;rw[hx];rfl
def zc{lo hi:E}{j k:Int}(ha:pv C a Z s=.ok (.tup xs) s)(hlo:pv C lo Z s=.ok (.int j) s)(hhi:pv C hi Z s=.ok (.int k) s)(hl:xs.length<=400)(ho:Yn xs=ak):∃ys,pv C (.bin .add (.sl a ai<|aa lo)<|.sl a (aa hi) ai) Z s=.ok (.tup ys) s/\Yn ys=ak/\ys.length<=1000:=by
 have l1:=Yo (xs:=xs) (lo:=ai) (hi:=aa j);have l2:=Yo (xs:=xs) (lo:=aa k) (hi:=ai);exact#[_,YH (y9 ha hlo) (VM ha hhi) #[3],XG (Xk ho)<|Xk ho,by simp;omega]
def Gk(h:pv C a Z s=.ok (.tup xs) s):pv C (.bin .add (.blt .len [a])<|.n 1) Z s=.ok (.int<|(xs.length:Int)+1) s:=YF (by rw[Yt,Zb h Ze];rfl)
def Ge(h:pv C a Z s=.ok (.tup xs) s):pv C (.rev a) Z s=.ok (.tup xs.reverse) s:=by rw[Zhk,h];rfl
def wc(h:Yn xs=ak):Yn xs.reverse=ak:=Zb5 λx hx=>Y0 h x<|eF.mp hx
def QO(h:pv C a Z s=.ok (.tup xs) s):pv C (.blt .list [a]) Z s=.ok (.lst xs) s:=by rw[Yt,Zb h Ze];rfl
def wV:pv C (.c .non) Z s=.ok .non s:=by rw[pE1];rfl
def Ux(h1:okV x=ak)(h2:∀xs,x≠.tup xs):Ab.Th 1000 x:=#[h1,λxs e=>T7 e<|h2 xs]
def Ue(h:Yn xs=ak)(hl:xs.length<=1000):Ab.Th 1000 (.tup xs):=#[h,λys e=>by cases e;exact hl]
def XI(h:okV x=ak):Yn [x]=ak:=by show(okV x&&ak)=ak;rw[h];rfl
end
def XH(d:Nat){q:Nat×Nat}{r:Row}(s:DS)(hq:q∈Y7)(hr:Zf q.1 q.2 r):∃v s',CV (d+2) 8 [.drw,spV q.1 q.2,Zc r] s=.ok v s'/\Ab.Th 1000 v:=by
 obtain⟨hb,_,hn,_⟩:=UJ _ hq;obtain⟨p,n⟩:=q
 haveI:Base p:=⟨hb⟩
 have hp:=X3 (p:=p);have hn:=hn;have hl:=hr.1
 let Z (a3 a4 a5:Option V):Env:=[aa .drw,aa<|spV p n,aa<|Zc r,a3,a4,a5]
 have op:=Gi r;have lp:(r.map V.int).length<=6:=by rw[ax];omega
 have ep:∀a b c s,pv (CV<|d+1) (.v 2) (Z a b c) s=.ok (.tup<|r.map .int) s:=λ_ _ _ s=>Zd rfl
 obtain⟨j,s1,t1,t2,t3⟩:=Z5 d s (i:=0) rfl (Gk<|ep ..) #[3] #[3]
 obtain⟨ods,m1,m2,m3⟩:=Vg (C:=CV<|d+1) (Z:=Z (aa<|.int j) ai ai) (s:=s1) (Q:=λv=>okV v=ak) (es:=[(.ix (.v 1)<|.n 0),(.neg<|.n 1),(.c<|.bl ak),(.c<|.bl aj),(.c .non),(.c<|.str<|kT "0"),(.tup [(.n 0)]),(.bin .pow (.n 10)<|.n 29),(.n 0),(.n 1),(.bin .sub (.ix (.v 1)<|.n 0)<|.n 1)]) #[1] (λe he=>by
  simp only[aw,bq,or_false]at he;rcases he with rfl|rfl|rfl|rfl|rfl|rfl|rfl|rfl|rfl|rfl|rfl
  .exact#[_,ix0 rfl,rfl]
  .exact#[.int<|-1,by rw[pE8,ZN];rfl,rfl]
  .exact#[.bl ak,by rw[pE1];rfl,rfl]
  .exact#[.bl aj,by rw[pE1];rfl,rfl]
  .exact#[_,wV,rfl]
  .exact#[.str<|kT "0",by rw[pE1];rfl,rfl]
  .exact#[_,Ya ZN,rfl]
  .exact#[.int<|10^29,by simp[pvE,ofD,Vo,UD],rfl]
  .exact#[_,ZN,rfl]
  .exact#[_,ZN,rfl]
  .exact#[.int<|(p:Int)-1,by rw[pE7,ix0 rfl,Za,ZN,Za];rfl,rfl])
 obtain⟨v2,s2,w1,w2,w3⟩:=Z5 d s1 (m:=11) (i:=0) (Z:=Z (aa<|.int j) ai ai) rfl ZN #[1] #[1]
 obtain⟨od,hod,e6⟩:=pick m1 w1 w2 (by rw[m2];exact w3)
 have ho:=m3 od hod;have e3:∀a s,pv (CV<|d+1) (.v 3) (Z (aa<|.int j) (aa od) a) s=.ok (.int j) s:=λ_ s=>Zd rfl
 have e4:∀a s,pv (CV<|d+1) (.v 4) (Z (aa<|.int j) (aa od) a) s=.ok od s:=λ_ s=>Zd rfl
 obtain⟨ra,a1,a2,a3⟩:=Vg (Z:=Z (aa<|.int j) (aa od) ai) (s:=s2) (es:=[(.bin .add (.bin .add (.sl (.v 2) ai<|aa<|.v 3)<|.tup [(.v 4)])<|.sl (.v 2) (aa<|.bin .add (.v 3)<|.n 1) ai),(.bin .add (.bin .add (.sl (.v 2) ai<|aa<|.v 3)<|.tup [(.v 4)])<|.sl (.v 2) (aa<|.v 3) ai),(.bin .add (.sl (.v 2) ai<|aa<|.v 3)<|.sl (.v 2) (aa<|.bin .add (.v 3)<|.n 1) ai),(.blt .list [(.v 2)])]) #[1] (λe he=>by
  simp only[aw,bq,or_false]at he;rcases he with rfl|rfl|rfl|rfl
  .obtain⟨ys,g,h,l⟩:=WT (ep ..) (e3 ..) (YF<|e3 ..) (e4 ..) #[3] op ho
   exact#[_,g,Ue h l]
  .obtain⟨ys,g,h,l⟩:=WT (ep ..) (e3 ..) (e3 ..) (e4 ..) #[3] op ho
   exact#[_,g,Ue h l]
  .obtain⟨ys,g,h,l⟩:=zc (ep ..) (e3 ..) (YF<|e3 ..) #[3] op
   exact#[_,g,Ue h l]
  .exact#[_,QO<|ep ..,Ux op λxs z=>by cases z])
 let ρ5:Env:=Z (aa<|.int j) (aa od)<|aa<|.lst ra
 obtain⟨rb,b1,b2,b3⟩:=Vg (Z:=ρ5) (s:=s2) (es:=[(.rev<|.v 2),(.c .non),.dnew,(.lst [(.v 4)]),(.tup [(.v 2)])]) #[1] (λe he=>by
  simp only[aw,bq,or_false]at he;rcases he with rfl|rfl|rfl|rfl|rfl
  .exact#[_,Ge<|ep ..,Ue (wc op) (by rw[gI];omega)]
  .exact#[_,wV,Ux rfl λxs z=>by cases z]
  .exact#[.dct<|.inl [],by rw[pE5],Ux rfl λxs z=>by cases z]
  .exact#[.lst [od],by rw[pE4,Zb (e4 ..) Ze];rfl,Ux (XI ho) λxs z=>by cases z]
  .exact#[_,Ya<|ep ..,Ue (XI op) (by show 1<=1000;decide)])
 have b8:=Ua (a:=.v 5) (Zd rfl) b1 (by rw[a2,b2];decide)
 obtain⟨v5,s5,c1,c2,c3⟩:=Z5 d s2 (m:=12) (i:=0) (Z:=ρ5) rfl ZN #[1] #[1]
 obtain⟨ix,hix,c4⟩:=pick (a:=.lst [(.n 0),(.n 0),(.n 0),(.n 0),(.n 1),(.n 2),(.n 3),(.n 4),(.n 5),(.n 6),(.n 7),(.n 8)]) (xs:=[.int 0,.int 0,.int 0,.int 0,.int 1,.int 2,.int 3,.int 4,.int 5,.int 6,.int 7,.int 8]) (s:=s2) (by simp[pvE,ofD]) c1 c2 c3
 obtain⟨k,rfl,hk0,hk⟩:∃k:Int,ix=.int k/\0<=k/\k<9:=by
  simp at hix;rcases hix with rfl|rfl|rfl|rfl|rfl|rfl|rfl|rfl|rfl<;>exact#[_,rfl,by decide,by decide]
 obtain⟨one,hone,c5⟩:=pick b8 c4 hk0 (by rw[aQ,a2,b2];exact hk)
 refine#[one,s5,Zp rfl #[1] rfl ?_,(bK.mp hone).elim (a3 one)<|b3 one]
 show rvs (CV<|d+1) [] YL.body (Z ai ai ai) [] s=_
 dsimp only[YL]
 rw[Zh<|ZE t1 rfl];show rvs _ _ _ (Z (aa<|.int j) ai ai) _ _=_;rw[Zh<|ZE e6 rfl];show rvs _ _ _ (Z (aa<|.int j) (aa od) ai) _ _=_;rw[Zh<|ZE a1 rfl];exact Zi<|Zw c5
section
variable{p n:Nat}[Base p]
def Zbf(d:Nat){P:List Row}(s:DS)(hq:(p,n)∈Y7)(hP:pZ p n P):∃v s',CV (d+3) 38 [.drw,spV p n,Zk P] s=.ok v s'/\Ab.Th 1000 v:=by
 obtain⟨_,h1,hn,_⟩:=UJ _ hq;have hn:=hn;have h1:=h1;have hp:=X3 (p:=p);have hl:=dsum hP
 let Z (a3 a4 a5 a6 a7:Option V):Env:=[aa .drw,aa<|spV p n,aa<|Zk P,a3,a4,a5,a6,a7]
 have op:=Vn P;have lp:(P.map Zc).length<=6:=by rw[ax];omega
 have ep:∀a b c e f s,pv (CV<|d+2) (.v 2) (Z a b c e f) s=.ok (.tup<|P.map Zc) s:=λ_ _ _ _ _ s=>Zd rfl
 obtain⟨j,s1,t1,t2,t3⟩:=Z5 (d+1) s (i:=0) rfl (Gk<|ep ..) #[3] #[3]
 have hu:Zf p n (1::au (n-1) 0):=#[by rw[aV,bL];omega,λa ha=>by
  rcases aw.mp ha with rfl|ha
  .omega
  .rw[fm ha];omega]
 have eu:∀a s,pv (CV<|d+2) (.bin .add (.tup [(.n 1)])<|.bin .mul (.tup [(.n 0)])<|.bin .sub (.ix (.v 1)<|.n 1)<|.n 1) (Z a ai ai ai ai) s=.ok (Zc (1::au (n-1) 0)) s:=λa s=>by
  have g:pv (CV<|d+2) (.bin .sub (.ix (.v 1)<|.n 1)<|.n 1) (Z a ai ai ai ai) s=.ok (.int ((n-1:Nat):Int)) s:=by
   rw[pE7,ix1 rfl,Za,ZN,Za,show((n-1:Nat):Int)=(n:Int)-1 by omega];rfl
  have g2:pv (CV<|d+2) (.bin .mul (.tup [(.n 0)])<|.bin .sub (.ix (.v 1)<|.n 1)<|.n 1) (Z a ai ai ai ai) s=.ok (.tup<|(au (n-1) (0:Int)).map V.int) s:=by
   rw[pE7,Ya ZN,Za,g,Za];show(if(0:Int)<=((n-1:Nat):Int)/\((n-1:Nat):Int)<1000/\1<=1000 then PR.ok (V.tup (au ((n-1:Nat):Int).toNat [V.int 0]).flatten) s else .no)=_
   rw[T9 #[by omega,by omega,by omega],c7,vW]
  rw[YH (Ya ZN) g2 (by rw[ax,bL];show 1+(n-1)<=1000;omega)];rfl
 have rows:∀{u:Row},Zf p n u->∀k:Int,0<=k->k<(P.map Zc++[Zc u]).length->∃r,(P.map Zc++[Zc u]).getD k.toNat .non=Zc r/\Zf p n r:=λ{u} hu k h0 hk=>by
  have hk':k.toNat<(P.map Zc++[Zc u]).length:=by omega
  rw[aA,af hk',l4];have m:=aS hk';rcases bK.mp m with m|m
  .obtain⟨r,hr,e⟩:=aM.mp m
   exact#[r,e.symm,hP.row r hr]
  .exact#[u,aZ.mp m,hu]
 have la:∀{u:V},(P.map Zc++[u]).length=P.length+1:=λ{u}=>by rw[aQ,ax];rfl
 have lm:((P.map Zc).length:Int)=P.length:=by rw[ax]
 have e4:=zR (YH (ep (aa<|.int j) ai ai ai ai s1) (Ya<|eu (aa<|.int j) s1)<|by rw[ax];show P.length+1<=1000;omega) (Zd (i:=3) rfl) t2 (by rw[la];omega)
 obtain⟨r,er,hr⟩:=rows hu j t2 (by rw[la];omega)
 rw[er]at e4;obtain⟨x,s2,e5,hx⟩:=XH d s1 hq hr
 let ρ5 (a6 a7:Option V):Env:=Z (aa<|.int j) (aa<|Zc r) (aa x) a6 a7
 obtain⟨v1,s3,u1,u2,u3⟩:=Z5 (d+1) s2 (m:=2) (i:=0) (Z:=ρ5 ai ai) rfl ZN #[1] #[1]
 obtain⟨v2,s4,w1,w2,w3⟩:=Z5 (d+1) s3 (i:=0) rfl (Gk<|ep ..) #[3] #[3]
 have e7:=zR (YH (ep (aa<|.int j) (aa<|Zc r) (aa x) ai ai s3) (Ya<|Zd (i:=4) rfl)<|by rw[ax];show P.length+1<=1000;omega) w1 w2 (by rw[la];omega)
 obtain⟨o,eo,ho⟩:=rows hr v2 w2 (by rw[la];omega)
 rw[eo]at e7;have e8:=VG (d+1) (k:=1+v1) s4 hn hr ho #[3]
 have e9:pv (CV<|d+2) (.call 4 [(.v 1),(.v 4),(.bin .add (.n 1)<|.call 2 [(.v 0),(.n 2)]),(.ix (.bin .add (.v 2)<|.tup [(.v 4)])<|.call 2 [(.v 0),(.bin .add (.blt .len [(.v 2)])<|.n 1)])]) (ρ5 ai ai) s2=.ok (Zc<|Zy p r o<|1+v1) s4:=by
  have g:pv (CV<|d+2) (.bin .add (.n 1)<|.call 2 [(.v 0),(.n 2)]) (ρ5 ai ai) s2=.ok (.int<|1+v1) s3:=by
   rw[pE7,ZN,Za,u1,Za];rfl
  exact Zo (Zb (Zd rfl)<|Zb (Zd rfl)<|Zb g<|Zb e7 Ze) e8
 let m:V:=Zc<|Zy p r o<|1+v1
 let ρ6 (a7:Option V):Env:=ρ5 (aa m) a7
 have v3:∀a s,pv (CV<|d+2) (.v 3) (ρ6 a) s=.ok (.int j) s:=λ_ s=>Zd rfl
 have ep6:∀a s,pv (CV<|d+2) (.v 2) (ρ6 a) s=.ok (.tup<|P.map Zc) s:=λ_ s=>Zd rfl
 obtain⟨ra,a1,a2,a3⟩:=Vg (es:=[(.bin .add (.bin .add (.sl (.v 2) ai<|aa<|.v 3)<|.tup [(.v 5)])<|.sl (.v 2) (aa<|.bin .add (.v 3)<|.n 1) ai),(.bin .add (.bin .add (.sl (.v 2) ai<|aa<|.v 3)<|.tup [(.v 6)])<|.sl (.v 2) (aa<|.bin .add (.v 3)<|.n 1) ai),(.bin .add (.bin .add (.sl (.v 2) ai<|aa<|.v 3)<|.tup [(.v 4)])<|.sl (.v 2) (aa<|.v 3) ai)]) #[1] (λe he=>by
  simp only[aw,bq,or_false]at he;rcases he with rfl|rfl|rfl
  .obtain⟨ys,g,h,l⟩:=WT (ep6 ..) (v3 ..) (YF<|v3 ..) (Zd (i:=5) rfl) #[3] op hx.1
   exact#[_,g,Ue h l]
  .obtain⟨ys,g,h,l⟩:=WT (ep6 ..) (v3 ..) (YF<|v3 ..) (Zd (i:=6) rfl) #[3] op (XM _)
   exact#[_,g,Ue h l]
  .obtain⟨ys,g,h,l⟩:=WT (ep6 ..) (v3 ..) (v3 ..) (Zd (i:=4) rfl) #[3] op (XM _)
   exact#[_,g,Ue h l])
 obtain⟨r2,s5,f1,f2⟩:=UM d (p:=p) s4 hn;have f3:pv (CV<|d+2) (.bin .add (.bin .add (.sl (.v 2) ai<|aa<|.v 3)<|.tup [(.call 34 [(.v 0),(.v 1)])])<|.sl (.v 2) (aa<|.v 3) ai) (ρ6<|aa<|.lst ra) s4=.ok (.tup<|(Z6 (P.map Zc) ai (aa j)++[Zc r2])++Z6 (P.map Zc) (aa j) ai) s5:=by
  have l1:=Yo (xs:=P.map Zc) (lo:=ai) (hi:=aa j);have l2:=Yo (xs:=P.map Zc) (lo:=aa j) (hi:=ai);have g1:pv (CV<|d+2) (.tup [(.call 34 [(.v 0),(.v 1)])]) (ρ6<|aa<|.lst ra) s4=.ok (.tup [Zc r2]) s5:=by
   rw[pE3,Zb (Zo (Zb (Zd rfl)<|Zb (Zd rfl) Ze) f1) Ze];rfl
  have g2:pv (CV<|d+2) (.bin .add (.sl (.v 2) ai<|aa<|.v 3)<|.tup [(.call 34 [(.v 0),(.v 1)])]) (ρ6<|aa<|.lst ra) s4=.ok (.tup<|Z6 (P.map Zc) ai (aa j)++[Zc r2]) s5:=by
   rw[pE7,y9 (ep6 ..)<|v3 ..,Za,g1,Za];show(if(Z6 (P.map Zc) ai<|aa j).length+1<=lim then _ else _)=_
   rw[T9 (by unfold lim;omega)]
  rw[pE7,g2,Za,VM (ep6 ..)<|v3 ..,Za];show(if(Z6 (P.map Zc) ai (aa j)++[Zc r2]).length+(Z6 (P.map Zc) (aa j) ai).length<=lim then _ else _)=_
  rw[T9 (by rw[aQ];unfold lim;show _+1+_<=_;omega)]
 obtain⟨rb,b1,b2,b3⟩:=Vr (Z:=ρ6<|aa<|.lst ra) (s:=s5) (es:=[(.rev<|.v 2),(.blt .list [(.v 2)]),(.c .non),.dnew,(.tup [(.v 2)])]) (λe he=>by
  simp only[aw,bq,or_false]at he;rcases he with rfl|rfl|rfl|rfl|rfl
  .exact#[_,Ge<|ep6 ..,Ue (wc op) (by rw[gI];omega)]
  .exact#[_,QO<|ep6 ..,Ux op λxs z=>by cases z]
  .exact#[_,wV,Ux rfl λxs z=>by cases z]
  .exact#[.dct<|.inl [],by rw[pE5],Ux rfl λxs z=>by cases z]
  .exact#[_,Ya<|ep6 ..,Ue (XI op) (by show 1<=1000;decide)])
 let x4:V:=.tup<|(Z6 (P.map Zc) ai (aa j)++[Zc r2])++Z6 (P.map Zc) (aa j) ai
 have hx4:Ab.Th 1000 x4:=Ue (XG (XG (Xk op)<|XI<|XM r2)<|Xk op) (by
  have l1:=Yo (xs:=P.map Zc) (lo:=ai) (hi:=aa j);have l2:=Yo (xs:=P.map Zc) (lo:=aa j) (hi:=ai);rw[aQ,aQ];show _+1+_<=_;omega)
 have b8:pv (CV<|d+2) (.bin .add (.v 7)<|.lst [(.bin .add (.bin .add (.sl (.v 2) ai<|aa<|.v 3)<|.tup [(.call 34 [(.v 0),(.v 1)])])<|.sl (.v 2) (aa<|.v 3) ai),(.rev<|.v 2),(.blt .list [(.v 2)]),(.c .non),.dnew,(.tup [(.v 2)])]) (ρ6<|aa<|.lst ra) s4=.ok (.lst (ra++x4::rb)) s5:=by
  have g:pv (CV<|d+2) (.lst [(.bin .add (.bin .add (.sl (.v 2) ai<|aa<|.v 3)<|.tup [(.call 34 [(.v 0),(.v 1)])])<|.sl (.v 2) (aa<|.v 3) ai),(.rev<|.v 2),(.blt .list [(.v 2)]),(.c .non),.dnew,(.tup [(.v 2)])]) (ρ6<|aa<|.lst ra) s4=.ok (.lst (x4::rb)) s5:=by
   rw[pE4,Zb f3 b1,Za,T9 (by rw[aV,b2];decide)]
  rw[pE7,Zd rfl,Za,g,Za];show(if ra.length+(x4::rb).length<=lim then _ else _)=_
  rw[T9 (by rw[a2,show(x4::rb).length=6 from congrArg (· + 1) b2];decide)]
 let rc:List V:=ra++x4::rb
 have lc:rc.length=9:=by rw[aQ,show ra.length=3 from a2,show(x4::rb).length=6 from congrArg (· + 1) b2]
 obtain⟨rd,g1,g2,g3⟩:=Vg (Z:=ρ6<|aa<|.lst rc) (s:=s5) (es:=[(.bin .add (.sl (.v 2) ai<|aa<|.v 3)<|.sl (.v 2) (aa<|.bin .add (.v 3)<|.n 1) ai),(.lst [(.v 5)]),(.bin .add (.sl (.v 2) (aa<|.v 3) ai)<|.sl (.v 2) ai<|aa<|.v 3)]) #[1] (λe he=>by
  simp only[aw,bq,or_false]at he;rcases he with rfl|rfl|rfl
  .obtain⟨ys,g,h,l⟩:=zc (ep6 ..) (v3 ..) (YF<|v3 ..) #[3] op
   exact#[_,g,Ue h l]
  .exact#[.lst [x],by rw[pE4,Zb (Zd rfl) Ze];rfl,Ux (XI hx.1) λxs z=>by cases z]
  .have l1:=Yo (xs:=P.map Zc) (lo:=aa j) (hi:=ai)
   have l2:=Yo (xs:=P.map Zc) (lo:=ai) (hi:=aa j);exact#[_,YH (VM (ep6 ..)<|v3 ..) (y9 (ep6 ..)<|v3 ..) #[3],Ue (XG (Xk op)<|Xk op) (by rw[aQ];omega)])
 have g4:=Ua (a:=.v 7) (Zd rfl) g1 (by rw[lc,g2];decide)
 obtain⟨v5,s6,c1,c2,c3⟩:=Z5 (d+1) s5 (m:=16) (i:=0) (Z:=ρ6<|aa<|.lst<|rc++rd) rfl ZN #[1] #[1]
 obtain⟨ix,hix,c4⟩:=pick (a:=.lst [(.n 0),(.n 0),(.n 0),(.n 1),(.n 1),(.n 2),(.n 3),(.n 3),(.n 4),(.n 5),(.n 6),(.n 7),(.n 8),(.n 9),(.n 10),(.n 11)]) (xs:=[.int 0,.int 0,.int 0,.int 1,.int 1,.int 2,.int 3,.int 3,.int 4,.int 5,.int 6,.int 7,.int 8,.int 9,.int 10,.int 11]) (s:=s5) (by simp[pvE,ofD]) c1 c2 c3
 obtain⟨k,rfl,hk0,hk⟩:∃k:Int,ix=.int k/\0<=k/\k<12:=by
  simp at hix;rcases hix with rfl|rfl|rfl|rfl|rfl|rfl|rfl|rfl|rfl|rfl|rfl|rfl<;>exact#[_,rfl,by decide,by decide]
 obtain⟨one,hone,c5⟩:=pick (a:=.v 7) (Zd rfl) c4 hk0 (by rw[aQ,lc,g2];exact hk)
 have th1:Ab.Th 1000 one:=by
  rcases bK.mp hone with h|h
  .rcases bK.mp h with h|h
   .exact a3 one h
   .rcases aw.mp h with rfl|h
    .exact hx4
    .exact b3 one h
  .exact g3 one h
 refine#[one,s6,Zp rfl #[1] rfl ?_,th1]
 show rvs (CV<|d+2) [] Wn.body (Z ai ai ai ai ai) [] s=_
 dsimp only[Wn]
 rw[Zh<|ZE t1 rfl];show rvs _ _ _ (Z (aa<|.int j) ai ai ai ai) _ _=_;rw[Zh<|ZE e4 rfl];rw[Zh<|ZE (Zo (Zb (Zd rfl)<|Zb (Zd rfl)<|Zb (Zd rfl) Ze) e5) rfl];show rvs _ _ _ (ρ5 ai ai) _ _=_;rw[Zh<|ZE e9 rfl];show rvs _ _ _ (ρ6 ai) _ _=_;rw[Zh<|ZE a1 rfl];show rvs _ _ _ (ρ6<|aa<|.lst ra) _ _=_;rw[Zh<|ZE b8 rfl];show rvs _ _ _ (ρ6<|aa<|.lst rc) _ _=_;rw[Zh<|ZE g4 rfl];exact Zi<|Zw c5
end
end K72
namespace Rw
open La
end Rw
namespace K72
open Ev Pv Rw La
open Ab (okV Yn)
section
variable{C:Zx}{ms os:List Nat}{Z:Env}{s s':DS}{a b:E}
def Zc0{e:E}{w:Bool}{c:Nat}(h:pv C e Z s=.ex c s')(hc:1<=c/\c<=10):pv C (.refu w e) Z s=.ok (jw w<|c-1) s':=by
 rw[Zfc,h];show(if 1<=c/\c<=10 then _ else _)=_
 rw[T9 hc]
def VN{f c:Nat}{as:List E}{vs:List V}{i:Int}(h:pvs C as Z s=.ok vs s)(hc:C f vs s=.ex c s)(h1:1<=c/\c<=10)(hi:((c-1:Nat):Int)=i):pv C (.cmp .ne (.refu aj<|.call f as)<|.c<|.int i) Z s=.ok (.bl aj) s:=
 ne_int (Zc0 (Wt h hc) h1) ZN hi
theorem vz:∀t:List Nat,(t.any ([]:List Nat).contains)=aj
 |[]=>rfl
 |i::t=>by rw[fj,vz t];rfl
def vb{B:Type}{t:List Nat}{it:W}{b:List Sm}{L:List B}{e:B->V}(Q:V->Prop)(I:Env->Prop){s0:DS}(hw:pvw C it (hide [] Z) s=.ok (L.map e) s0)(hI:I Z)
  (h:∀x Z s,I Z->∃ρ1,Zq t (e x) Z=aa ρ1/\((∃v s',rvs C ms b ρ1 [] s=.ok (.ret v) s'/\Q v)\/∃ρ' s',rvs C ms b ρ1 [] s=.ok (.nx ρ' []) s'/\I ρ')) :
  (∃v s',rv C ms (.forr t it b) Z [] s=.ok (.ret v) s'/\Q v)\/∃ρ' s',rv C ms (.forr t it b) Z [] s=.ok (.nx ρ' []) s'/\I ρ':=by
 rw[Q7,hw,Za];clear hw;have hn:=vz t
 induction L generalizing Z s0 with
 |nil=>exact .inr #[Z,s0,rfl,hI]
 |cons x L ih=>
  obtain⟨ρ1,b1,b2⟩:=h x Z s0 hI;rw[aY,Y6,T8 (by rw[hn];simp),b1,ZT,Za]
  rcases b2 with⟨v,s',b2,b3⟩|⟨ρ',s',b2,b3⟩
  .exact .inl #[v,s',by rw[b2];rfl,b3]
  .rw[b2,Za]
   exact ih b3
end
section
variable{p n:Nat}[Base p]
def Zb8:isP p n (.tup [Zc<|au n 0])=aj:=by
 cases h:isP p n (.tup [Zc<|au n 0])with
 |false=>rfl
 |true=>
  obtain⟨P,e,hP⟩:=GR.mp h;have e:[Zc<|au n 0]=P.map Zc:=by injection e
  have l1:=congrArg hZ e;rw[ax]at l1;obtain⟨r,rfl⟩:=List.length_eq_one_iff.mp l1.symm;have e:Zc (au n 0)=Zc r:=by injection e
  have e:(au n (0:Int)).map V.int=r.map V.int:=by injection e
  obtain⟨k,hk,_⟩:=hP.head fld.one0<|List.mem_singleton_self r;have h1:=(Z1 hk).1;have e2:r=au n 0:=by
   have:=congrArg (λl:List V=>l.map λv=>match v with|.int i=>i|_=>0) e
   simp only[bS,Function.comp_def,List.map_id']at this;exact this.symm
  rw[e2]at h1;exact T7 (WF k) h1
def yj(d:Nat)(s:DS)(hn:n<=6)(h1:1<=n)(hp:p^n<=1000)(hq:(p,n)∈Y7):∃v s',CV (d+4) 40 [.drw,spV p n] s=.ok v s'/\Ab.Th 1000 v/\isP p n v=aj:=by
 have key:∃v s',rvs (CV<|d+3) [] Y2.body [aa .drw,aa<|spV p n,ai,ai] [] s=.ok (.ret v) s'/\(Ab.Th 1000 v/\isP p n v=aj):=by
  dsimp only[Y2]
  have hl:=vb (t:=[2]) (it:=.rng1<|.n 8) (L:=aO 8) (Z:=[aa .drw,aa<|spV p n,ai,ai]) (s:=s) (λv=>Ab.Th 1000 v/\isP p n v=aj) (λZ=>∃a2 a3,Z=[aa .drw,aa<|spV p n,a2,a3]) (Yr ZN<|by omega) #[_,_,rfl] (λx Z s hI=>by
   obtain⟨a2,a3,rfl⟩:=hI;refine#[[aa .drw,aa<|spV p n,aa<|Zv x,a3],rfl,?_];obtain⟨P,s1,e1,hP⟩:=yN d s hn h1 hp;obtain⟨v,s2,e2,hv⟩:=Zbf d s1 hq hP;have e3:=xn d s2 hn h1 hp hv.1;have st:∀{r},rvs (CV<|d+3) [] [.ite (.not<|.call 39 [(.v 1),(.v 3)]) [.ret<|.v 3] []] [aa .drw,aa<|spV p n,aa<|Zv x,aa v] [] s2=r->rvs (CV<|d+3) [] [.asg [3]<|.call 38 [(.v 0),(.v 1),(.call 37 [(.v 0),(.v 1)])],
  .ite (.not<|.call 39 [(.v 1),(.v 3)]) [.ret<|.v 3] []] [aa .drw,aa<|spV p n,aa<|Zv x,a3] [] s=r:=λh=>
    (Zh<|ZE (Zo (Zb (Zd rfl)<|Zb (Zd rfl)<|Zb (Zo (Zb (Zd rfl)<|Zb (Zd rfl) Ze) e1) Ze) e2) rfl).trans h
   have e4:pv (CV<|d+3) (.not<|.call 39 [(.v 1),(.v 3)]) [aa .drw,aa<|spV p n,aa<|Zv x,aa v] s2=.ok (.bl !isP p n v) s2:=Wb<|Yj (Zd rfl) (Zd rfl) e3;cases h:isP p n v with
   |true=>
    rw[h]at e4;exact .inr #[_,s2,st (by rw[guard e4,rvs]),_,_,rfl]
   |false=>
    rw[h]at e4;refine .inl #[v,s2,st<|Zi ?_,hv,h];rw[XW (b:=ak)<|YN e4 rfl,T9 rfl];exact Zi<|Zw<|Zd rfl)
  rcases hl with⟨v,s',e,h⟩|⟨ρ',s',e,a2,a3,rfl⟩
  .exact#[v,s',Zi e,h]
  .rw[Zh e]
   obtain⟨i,s2,e2,i0,i3⟩:=Vk (m:=3) s' #[3] #[3]
   have g2:pv (CV<|d+3) (.bin .mul (.tup [(.n 2)])<|.ix (.v 1)<|.n 1) [aa .drw,aa<|spV p n,a2,a3] s'=.ok (.tup (au (n:Int).toNat [V.int 2]).flatten) s':=by
    have g:pv (CV<|d+3) (.tup [(.n 2)]) [aa .drw,aa<|spV p n,a2,a3] s'=.ok (.tup [.int 2]) s':=by simp[pvE,ofD]
    rw[pE7,g,Za,ix1 rfl,Za];show(if(0:Int)<=n/\(n:Int)<1000/\1<=1000 then PR.ok (V.tup (au (n:Int).toNat [V.int 2]).flatten) s' else .no)=_
    rw[T9 #[by omega,by omega,by omega]]
   have gl:pv (CV<|d+3) (.lst [(.c .non),(.lst [(.tup [])]),(.tup [(.bin .mul (.tup [(.n 0)])<|.ix (.v 1)<|.n 1)]),(.tup [(.bin .mul (.tup [(.n 2)])<|.ix (.v 1)<|.n 1)])]) [aa .drw,aa<|spV p n,a2,a3] s'=.ok (.lst [.non,.lst [.tup []],.tup [Zc<|au n 0],.tup [.tup (au (n:Int).toNat [V.int 2]).flatten]]) s':=by
    have n0:pv (CV<|d+3) (.c .non) [aa .drw,aa<|spV p n,a2,a3] s'=.ok .non s':=by rw[pE1];rfl
    have n1:pv (CV<|d+3) (.lst [(.tup [])]) [aa .drw,aa<|spV p n,a2,a3] s'=.ok (.lst [.tup []]) s':=by simp[pvE]
    rw[pE4,Zb n0<|Zb n1<|Zb (Ya<|VF hn rfl)<|Zb (Ya g2) Ze];rfl
   have e3:=Zo (as:=[(.v 0),(.n 3)]) (Z:=[aa .drw,aa<|spV p n,a2,a3]) (Zb (Zd rfl)<|Zb ZN Ze) e2;have th:∀v,okV v=ak->(∀xs,v=.tup xs->xs.length<=1000)->Ab.Th 1000 v:=λv a b=>#[a,b]
   obtain rfl|rfl|rfl:i=0\/i=1\/i=2:=by omega
   .exact#[.non,s2,Zi (Zw (by rw[Xz,gl,Za,e3,Za];rfl)),#[rfl,λxs z=>by cases z],rfl]
   .exact#[.lst [.tup []],s2,Zi (Zw (by rw[Xz,gl,Za,e3,Za];rfl)),#[rfl,λxs z=>by cases z],rfl]
   .refine#[.tup [Zc<|au n 0],s2,Zi (Zw (by rw[Xz,gl,Za,e3,Za];rfl)),#[zg [au n 0],λxs z=>by cases z;show 1<=1000;omega],Zb8]
 obtain⟨v,s',e,h⟩:=key;exact#[v,s',Zp rfl #[1] rfl e,h]
end
theorem yh:∀L:List Row,Va (L.map λr=>V.tup [Zc r,.bl ak])=aa L
 |[]=>rfl
 |r::L=>by
  show((intsV<|r.map V.int).bind λa=>(Va<|L.map λr=>V.tup [Zc r,.bl ak]).map (a :: ·))=_
  rw[YB,yh L];rfl
section
variable{p n:Nat}[Base p]
def qp(d:Nat){R every:List Row}{a5 a6 a7:Option V}(s:DS)(hn:n<=6)(h1:1<=n)(hp:p^n<=1000)(hR:∀r∈R,Zf p n r)(hl:R.length<n)(hw:(Z2 p [] R).length=R.length)(he:every.Perm (ZD p n R)) :
  ∃r b6 b7 s',Zf p n r/\(Z2 p []<|R++[r]).length=R.length+1/\rvs (CV<|d+2) [] [.asg [6]<|.blt .dictP [(.comp1 [] 1 [0] (.of<|.v 3) []<|.tup [(.v 0),(.c<|.bl ak)])],
   .asg [7] (.comp1 [6] 1 [0] (.of<|.v 4) [(.cmp .nin (.v 0)<|.v 1)]<|.v 0),
   .asg [2] (.bin .add (.v 2)<|.tup [(.ix (.v 7)<|.call 2 [(.v 0),(.blt .len [(.v 7)])])]),
   .asg [3] (.call 5 [(.v 1),(.v 2)])] [aa .drw,aa<|spV p n,aa<|.tup<|R.map Zc,aa<|.lst<|every.map Zc,aa<|.lst<|(Zr<|ZD p n<|units n).map Zc,a5,a6,a7] [] s
   = .ok (.nx [aa .drw,aa<|spV p n,aa<|.tup<|(R++[r]).map Zc,aa<|.lst<|(Zr<|ZD p n<|R++[r]).map Zc,aa<|.lst<|(Zr<|ZD p n<|units n).map Zc,a5,b6,b7] []) s':=by
 have hpp:=X3 (p:=p);have hK:=Yd hR;have hU:=Yd (p:=p) (n:=n) YZ;have le:every.length<=1000:=by
  rw[he.length_eq,hK.len];exact bU (dJ #[3]<|by omega) hp
 have lu:(ZD p n<|units n).length<=1000:=by rw[GS hn];exact hp
 have hc:=ZM (C:=CV<|d+2) (cap:=[]) (nl:=1) (t:=[0]) (it:=.of<|.v 3) (elt:=.tup [(.v 0),(.c<|.bl ak)]) (Z:=[aa .drw,aa<|spV p n,aa<|.tup<|R.map Zc,aa<|.lst<|every.map Zc,aa<|.lst<|(Zr<|ZD p n<|units n).map Zc,a5,a6,a7]) (s:=s)
  (by rw[wE7,Zd rfl];rfl) (by unfold lim;omega) (λr _=>#[[aa<|Zc r],rfl,by
   have g:pv (CV<|d+2) (.c<|.bl ak) [aa<|Zc r] s=.ok (.bl ak) s:=by rw[pE1];rfl
   rw[pE3,Zb (Zd rfl)<|Zb g Ze,Za,T9 (by show 2<=lim;unfold lim;omega)]])
 have hd:pv (CV<|d+2) (.blt .dictP [(.comp1 [] 1 [0] (.of<|.v 3) []<|.tup [(.v 0),(.c<|.bl ak)])]) [aa .drw,aa<|spV p n,aa<|.tup<|R.map Zc,aa<|.lst<|every.map Zc,aa<|.lst<|(Zr<|ZD p n<|units n).map Zc,a5,a6,a7] s=.ok (.dct<|.inr every) s:=by
  rw[Yt,Zb hc Ze,Za];show po ((Va<|every.map λr=>V.tup [Zc r,.bl ak]).bind λks=>if Qa ks=ak then aa (V.dct<|.inr ks)else ai) s=_
  rw[yh];show po (if Qa every=ak then aa (V.dct<|.inr every)else ai) s=_
  rw[T9 (by
   unfold Qa;rw[aB];exact#[T5 (by unfold lim;omega),T5<|he.nodup_iff.mpr hK.nd])];rfl
 rw[Zh<|ZE hd rfl];show ∃r b6 b7 s',_/\_/\rvs _ _ _ [aa .drw,aa<|spV p n,aa<|.tup<|R.map Zc,aa<|.lst<|every.map Zc,aa<|.lst<|(Zr<|ZD p n<|units n).map Zc,a5,aa<|.dct<|.inr every,a7] [] s=_
 let S:=(Zr<|ZD p n<|units n).filter λr=>!every.contains r
 have hc2:=Xd (C:=CV<|d+2) (cap:=[6]) (nl:=1) (t:=[0]) (it:=.of<|.v 4) (tst:=.cmp .nin (.v 0)<|.v 1) (elt:=.v 0) (Z:=[aa .drw,aa<|spV p n,aa<|.tup<|R.map Zc,aa<|.lst<|every.map Zc,aa<|.lst<|(Zr<|ZD p n<|units n).map Zc,a5,aa<|.dct<|.inr every,a7]) (s:=s)
  (by rw[wE7,Zd rfl];rfl) (by rw[Xu];unfold lim;omega) (λr _=>#[[aa<|Zc r,aa<|.dct<|.inr every],.bl<|!every.contains r,rfl,by
   rw[YU,Zd rfl,Za,Zd rfl,Za];show po (((intsV<|r.map V.int).map λk=>every.contains k).map λb=>V.bl !b) s=_
   rw[YB];rfl,rfl,λ_=>Zd rfl])
 rw[Zh<|ZE hc2 rfl];show ∃r b6 b7 s',_/\_/\rvs _ _ _ [aa .drw,aa<|spV p n,aa<|.tup<|R.map Zc,aa<|.lst<|every.map Zc,aa<|.lst<|(Zr<|ZD p n<|units n).map Zc,a5,aa<|.dct<|.inr every,aa<|.lst<|S.map Zc] [] s=_;have hS:∀r,r∈S↔r∈ZD p n (units n)/\r∉ZD p n R:=λr=>by
  rw[cy,(YX _).mem_iff];refine and_congr_right λ_=>?_
  rw[<-he.mem_iff];simp
 have ne:0<S.length:=by
  have h:=ZcU hn hR #[3]
  obtain⟨x,hx⟩:=List.exists_mem_of_ne_nil _ h;rw[cy]at hx;exact ml<|(hS x).mpr #[hx.1,by simpa using hx.2]
 have lS:S.length<=1000:=bU (eO ..) (by rw[Xu];exact lu)
 have el:pv (CV<|d+2) (.blt .len [(.v 7)]) [aa .drw,aa<|spV p n,aa<|.tup<|R.map Zc,aa<|.lst<|every.map Zc,aa<|.lst<|(Zr<|ZD p n<|units n).map Zc,a5,aa<|.dct<|.inr every,aa<|.lst<|S.map Zc] s=.ok (.int S.length) s:=by
  rw[Yt,Zb (Zd rfl) Ze,Za];show po (aa<|V.int (S.map Zc).length) s=_;rw[ax];rfl
 obtain⟨v,s1,f1,f2,f3⟩:=Vk (m:=S.length) s #[3] #[3]
 obtain⟨k,rfl⟩:∃k:Nat,v=k:=#[v.toNat,by omega]
 have hk:k<S.length:=by omega
 obtain⟨m1,m2⟩:=(hS _).mp<|aS hk;have hr:=((hU.mem _).mp m1).1;have hm:X2 p (Z2 p [] R) S[k]=aj:=by
  cases q:X2 p (Z2 p [] R) S[k]with|false=>rfl|true=>exact T7 ((hK.mem _).mpr #[hr,q]) m2
 have hR2:∀r∈R++[S[k]],Zf p n r:=λr h=>by
  rcases bK.mp h with h|h
  .exact hR r h
  .rw[aZ.mp h];exact hr
 have ex:pv (CV<|d+2) (.ix (.v 7)<|.call 2 [(.v 0),(.blt .len [(.v 7)])]) [aa .drw,aa<|spV p n,aa<|.tup<|R.map Zc,aa<|.lst<|every.map Zc,aa<|.lst<|(Zr<|ZD p n<|units n).map Zc,a5,aa<|.dct<|.inr every,aa<|.lst<|S.map Zc] s=.ok (Zc S[k]) s1:=by
  rw[Xz,Zd rfl,Za,Zo (Zb (Zd rfl)<|Zb el Ze) f1,Za];show po (at' (S.map Zc) (k:Int)) s1=_;rw[X9 (by rw[aK,af hk];rfl)];rfl
 have et:pv (CV<|d+2) (.bin .add (.v 2)<|.tup [(.ix (.v 7)<|.call 2 [(.v 0),(.blt .len [(.v 7)])])]) [aa .drw,aa<|spV p n,aa<|.tup<|R.map Zc,aa<|.lst<|every.map Zc,aa<|.lst<|(Zr<|ZD p n<|units n).map Zc,a5,aa<|.dct<|.inr every,aa<|.lst<|S.map Zc] s=.ok (.tup<|(R++[S[k]]).map Zc) s1:=by
  have g:pv (CV<|d+2) (.tup [(.ix (.v 7)<|.call 2 [(.v 0),(.blt .len [(.v 7)])])]) [aa .drw,aa<|spV p n,aa<|.tup<|R.map Zc,aa<|.lst<|every.map Zc,aa<|.lst<|(Zr<|ZD p n<|units n).map Zc,a5,aa<|.dct<|.inr every,aa<|.lst<|S.map Zc] s=.ok (.tup [Zc S[k]]) s1:=by
   rw[pE3,Zb ex Ze,Za,T9 (by show 1<=lim;unfold lim;omega)]
  rw[pE7,Zd rfl,Za,g,Za];show(if(R.map Zc).length+1<=lim then PR.ok (V.tup<|R.map Zc++[Zc S[k]]) s1 else .no)=_
  rw[T9 (by rw[ax];unfold lim;omega),bT];rfl
 refine#[S[k],aa<|.dct<|.inr every,aa<|.lst<|S.map Zc,s1,hr,?_,?_]
 .have:Z2 p [] (R++[S[k]])=XD p (Z2 p [] R) S[k]:=by unfold Z2;rw[oP];rfl
  rw[this,ZcX hK.part hr hm,hw]
 .rw[Zh<|ZE et rfl]
  show rvs _ _ _ [aa .drw,aa<|spV p n,aa<|.tup<|(R++[S[k]]).map Zc,aa<|.lst<|every.map Zc,aa<|.lst<|(Zr<|ZD p n<|units n).map Zc,a5,aa<|.dct<|.inr every,aa<|.lst<|S.map Zc] [] s1=_;have e9:pv (CV<|d+2) (.call 5 [(.v 1),(.v 2)]) [aa .drw,aa<|spV p n,aa<|.tup<|(R++[S[k]]).map Zc,aa<|.lst<|every.map Zc,aa<|.lst<|(Zr<|ZD p n<|units n).map Zc,a5,aa<|.dct<|.inr every,aa<|.lst<|S.map Zc] s1=.ok (.lst<|(Zr<|ZD p n<|R++[S[k]]).map Zc) s1:=Yj (Zd rfl) (Zd rfl)<|Y8 d s1 hn h1 hp hR2 rfl;rw[Zh<|ZE e9 rfl,rvs];rfl
def yU(d:Nat)(s:DS)(hn:n<=6)(h1:1<=n)(hp:p^n<=1000):∃R s',CV (d+3) 7 [.drw,spV p n] s=.ok (.tup<|R.map Zc) s'/\R.length=n/\(∀r∈R,Zf p n r)/\(Z2 p [] R).length=n:=by
 have e0:pv (CV<|d+2) (.tup []) [aa .drw,aa<|spV p n,ai,ai,ai,ai,ai,ai] s=.ok (.tup []) s:=by rw[pE3,pvs];rfl
 have e1:pv (CV<|d+2) (.lst [(.bin .mul (.tup [(.n 0)])<|.ix (.v 1)<|.n 1)]) [aa .drw,aa<|spV p n,aa<|.tup [],ai,ai,ai,ai,ai] s=.ok (.lst<|[au n 0].map Zc) s:=by
  rw[pE4,Zb (VF hn rfl) Ze];rfl
 have e2:pv (CV<|d+2) (.call 5 [(.v 1),(.call 6 [(.v 1)])]) [aa .drw,aa<|spV p n,aa<|.tup [],aa<|.lst<|[au n 0].map Zc,ai,ai,ai,ai] s=.ok (.lst<|(Zr<|ZD p n<|units n).map Zc) s:=
  Yj (Zd rfl) (Zo (Zb (Zd rfl) Ze)<|JX (d+1) s hn) (Y8 d s hn h1 hp YZ rfl)
 obtain⟨ρ',s',hI,e⟩:=Go (C:=CV<|d+2) (os:=[]) (t:=[5]) (it:=.rng1<|.ix (.v 1)<|.n 1) (Z:=[aa .drw,aa<|spV p n,aa<|.tup [],aa<|.lst<|[au n 0].map Zc,aa<|.lst<|(Zr<|ZD p n<|units n).map Zc,ai,ai,ai]) (s:=s)
  (λl Z=>∃R every a5 a6 a7,Z=[aa .drw,aa<|spV p n,aa<|.tup<|R.map Zc,aa<|.lst<|every.map Zc,aa<|.lst<|(Zr<|ZD p n<|units n).map Zc,a5,a6,a7]/\R.length+l.length=n/\(∀r∈R,Zf p n r)/\(Z2 p [] R).length=R.length/\every.Perm (ZD p n R))
  (by
   exact Yr (ix1 rfl)<|by omega) #[[],[au n 0],ai,ai,ai,rfl,by rw[bu];simp,(λ_ h=>by cases h),rfl,cC _] rfl (λk l Z s hI=>by
   obtain⟨R,every,a5,a6,a7,rfl,hl,hR,hw,he⟩:=hI;rw[aV]at hl;obtain⟨r,b6,b7,s',hr,hw',e⟩:=qp d s hn h1 hp hR #[3] hw he
   refine#[_,_,s',rfl,e,R++[r],Zr<|ZD p n<|R++[r],_,_,_,rfl,by rw[aQ,fV];omega,λx hx=>?_,by rw[hw',aQ];rfl,YX _]
   rcases bK.mp hx with hx|hx
   .exact hR x hx
   .rw[aZ.mp hx];exact hr)
 obtain⟨R,every,a5,a6,a7,rfl,hl,hR,hw,he⟩:=hI;refine#[R,s',Zp rfl #[1] rfl ?_,hl,hR,by rw[hw];exact hl]
 show rvs (CV<|d+2) [] Wi.body [aa .drw,aa<|spV p n,ai,ai,ai,ai,ai,ai] [] s=_
 dsimp only[Wi]
 rw[Zh<|ZE e0 rfl];show rvs _ _ _ [aa .drw,aa<|spV p n,aa<|.tup [],ai,ai,ai,ai,ai] [] s=_;rw[Zh<|ZE e1 rfl];show rvs _ _ _ [aa .drw,aa<|spV p n,aa<|.tup [],aa<|.lst<|[au n 0].map Zc,ai,ai,ai,ai] [] s=_;rw[Zh<|ZE e2 rfl];show rvs _ _ _ [aa .drw,aa<|spV p n,aa<|.tup [],aa<|.lst<|[au n 0].map Zc,aa<|.lst<|(Zr<|ZD p n<|units n).map Zc,ai,ai,ai] [] s=_;rw[Zh e];exact Zi<|Zw<|Zd rfl
end
def ZaT(d:Nat)(a:Int)(s:DS):CV (d+1) 41 [.int a,.int a] s=.ok (.bl ak) s:=by
 refine Zp rfl #[1] rfl ?_
 simp[X6,pvE,Yf,YI,YT,ZbS,ZaH,ZB]
def zY(d:Nat){B:Type}{f:B->V}{l:List B}(s:DS)(hl:l.length<=1000)(h:∀x∈l,CV d 41 [f x,f x] s=.ok (.bl ak) s):CV (d+1) 41 [.tup<|l.map f,.tup<|l.map f] s=.ok (.bl ak) s:=by
 refine Zp rfl #[1] rfl ?_
 dsimp only[X6]
 refine Zi ?_;have hz:((l.map f).zip<|l.map f).map (λq=>V.tup [q.1,q.2])=l.map λx=>V.tup [f x,f x]:=by
  clear h hl
  induction l with|nil=>rfl|cons x l ih=>rw[aY,dF,aY,ih];rfl
 have hc:=ZM (cap:=[]) (nl:=2) (t:=[0,1]) (it:=.zip (.v 0)<|.v 1) (elt:=.call 41 [(.v 0),(.v 1)]) (Z:=[aa<|.tup<|l.map f,aa<|.tup<|l.map f])
  (by
   rw[wE5,Zd rfl,Za,Zd rfl,Za];show PR.ok (((l.map f).zip<|l.map f).map λq=>V.tup [q.1,q.2]) s=_
   rw[hz]) (by unfold lim;omega) (λx hx=>#[_,rfl,Zo (Zb (Zd rfl)<|Zb (Zd rfl) Ze)<|h x hx])
 have ht:=Yk (g:=λ_:B=>ak) l
 have ha:(l.map λ_=>ak).all id=ak:=by induction l<;>simp
 simp[pvE,Yf,YI,YT,ZbS,ZaH,ZB,hc,ht,ha]
def y8(d:Nat){r:Row}(s:DS)(hr:r.length<=1000):CV (d+2) 41 [Zc r,Zc r] s=.ok (.bl ak) s:=zY (d+1) s hr λa _=>ZaT d a s
def qB(d:Nat){R:List Row}(s:DS)(hl:R.length<=1000)(hr:∀r∈R,r.length<=1000):CV (d+3) 41 [.tup<|R.map Zc,.tup<|R.map Zc] s=.ok (.bl ak) s:=
 zY (d+2) s hl λr h=>y8 d s<|hr r h
section
variable{p n:Nat}[Base p]
def Ja(d:Nat){T:List Row}(s:DS)(hq:(p,n)∈Y7)(hl:T.length=n)(hT:∀r∈T,Zf p n r):∃v s',CV (d+3) 9 [.drw,spV p n,.tup<|T.map Zc] s=.ok v s'/\okV v=ak:=by
 obtain⟨_,h1,hn,_⟩:=UJ _ hq;have hn:=hn;have h1:=h1
 let Z (a3 a4 a5 a6:Option V):Env:=[aa .drw,aa<|spV p n,aa<|.tup<|T.map Zc,a3,a4,a5,a6]
 have op:=Vn T;have lm:(T.map Zc).length=n:=by rw[ax,hl]
 have ep:∀a b c e s,pv (CV<|d+2) (.v 2) (Z a b c e) s=.ok (.tup<|T.map Zc) s:=λ_ _ _ _ s=>Zd rfl
 have rows:∀k:Int,0<=k->k<n->∃r,(T.map Zc).getD k.toNat .non=Zc r/\Zf p n r:=λk h0 hk=>by
  have hk':k.toNat<(T.map Zc).length:=by omega
  rw[aA,af hk',l4];obtain⟨r,hr,e⟩:=aM.mp<|aS hk';exact#[r,e.symm,hT r hr]
 obtain⟨j,s1,t1,t2,t3⟩:=Z5 (d+1) s (i:=0) (Z:=Z ai ai ai ai) (e:=.ix (.v 1)<|.n 1) rfl (ix1 rfl) #[3] #[3]
 obtain⟨r,er,hr⟩:=rows j t2 t3;have e3:pv (CV<|d+2) (.ix (.v 2)<|.v 3) (Z (aa<|.int j) ai ai ai) s1=.ok (Zc r) s1:=by
  have:=zR (ep (aa<|.int j) ai ai ai s1) (Zd (i:=3) rfl) t2 #[3]
  rw[er]at this;exact this
 obtain⟨x,s2,e4,hx⟩:=XH d s1 hq hr;obtain⟨k,s3,u1,u2,u3⟩:=Z5 (d+1) s2 (i:=0) (Z:=Z (aa<|.int j) (aa x) ai ai) (e:=.ix (.v 1)<|.n 1) rfl (ix1 rfl) #[3] #[3]
 obtain⟨o,eo,ho⟩:=rows k u2 u3;have e5:=zR (ep (aa<|.int j) (aa x) ai ai s2) u1 u2 #[3]
 rw[eo]at e5
 let ρ5 (a6:Option V):Env:=Z (aa<|.int j) (aa x) (aa<|Zc o) a6
 have ep5:∀a s,pv (CV<|d+2) (.v 2) (ρ5 a) s=.ok (.tup<|T.map Zc) s:=λ_ s=>Zd rfl
 have v3:∀a s,pv (CV<|d+2) (.v 3) (ρ5 a) s=.ok (.int j) s:=λ_ s=>Zd rfl
 have tr:=λs=>by
  have:=zR (ep5 ai s) (v3 ai s) t2 #[3]
  rw[er]at this;exact this
 obtain⟨ra,a1,a2,a3⟩:=Vr (Q:=λv=>okV v=ak) (es:=[(.bin .add (.bin .add (.sl (.v 2) ai<|aa<|.v 3)<|.tup [(.v 4)])<|.sl (.v 2) (aa<|.bin .add (.v 3)<|.n 1) ai),(.bin .add (.bin .add (.sl (.v 2) ai<|aa<|.v 3)<|.tup [(.v 5)])<|.sl (.v 2) (aa<|.bin .add (.v 3)<|.n 1) ai),(.bin .add (.sl (.v 2) ai<|aa<|.v 3)<|.sl (.v 2) (aa<|.bin .add (.v 3)<|.n 1) ai)]) (λe he=>by
  simp only[aw,bq,or_false]at he;rcases he with rfl|rfl|rfl
  .obtain⟨ys,g,h,_⟩:=WT (ep5 ..) (v3 ..) (YF<|v3 ..) (Zd (i:=4) rfl) #[3] op hx.1
   exact#[_,g,h]
  .obtain⟨ys,g,h,_⟩:=WT (ep5 ..) (v3 ..) (YF<|v3 ..) (Zd (i:=5) rfl) #[3] op (XM o)
   exact#[_,g,h]
  .obtain⟨ys,g,h,_⟩:=zc (ep5 ..) (v3 ..) (YF<|v3 ..) #[3] op
   exact#[_,g,h])
 obtain⟨rb,b1,b2,b3⟩:=Vr (s:=s3) (Q:=λv=>okV v=ak) (es:=[(.bin .add (.v 2)<|.tup [(.ix (.v 2)<|.v 3)]),(.blt .list [(.v 2)]),(.rev<|.v 2),(.c .non),.dnew,(.tup [(.v 2)]),(.ix (.v 2)<|.v 3),(.lst [(.v 4)])]) (λe he=>by
  simp only[aw,bq,or_false]at he;rcases he with rfl|rfl|rfl|rfl|rfl|rfl|rfl|rfl
  .exact#[_,YH (ep5 ..) (Ya<|tr ..) (by rw[lm];show n+1<=1000;omega),XG op<|XI<|XM r]
  .exact#[_,QO<|ep5 ..,op]
  .exact#[_,Ge<|ep5 ..,wc op]
  .exact#[_,wV,rfl]
  .exact#[.dct<|.inl [],by rw[pE5],rfl]
  .exact#[_,Ya<|ep5 ..,XI op]
  .exact#[_,tr ..,XM r]
  .exact#[.lst [x],by rw[pE4,Zb (Zd rfl) Ze];rfl,XI hx.1])
 obtain⟨v1,s4,w1,w2,w3⟩:=Z5 (d+1) s3 (m:=2) (i:=0) (Z:=ρ5 ai) rfl ZN #[1] #[1]
 have e8:=VG (d+1) (k:=1+v1) s4 hn hr ho #[3]
 have e9:pv (CV<|d+2) (.call 4 [(.v 1),(.ix (.v 2)<|.v 3),(.bin .add (.n 1)<|.call 2 [(.v 0),(.n 2)]),(.v 5)]) (ρ5 ai) s3=.ok (Zc<|Zy p r o<|1+v1) s4:=by
  have g:pv (CV<|d+2) (.bin .add (.n 1)<|.call 2 [(.v 0),(.n 2)]) (ρ5 ai) s3=.ok (.int<|1+v1) s4:=by
   rw[pE7,ZN,Za,w1,Za];rfl
  exact Zo (Zb (Zd rfl)<|Zb (tr ..)<|Zb g<|Zb (Zd rfl) Ze) e8
 let m:V:=.tup<|(Z6 (T.map Zc) ai (aa j)++[Zc<|Zy p r o<|1+v1])++Z6 (T.map Zc) (aa<|j+1) ai
 have om:okV m=ak:=XG (XG (Xk op)<|XI<|XM _)<|Xk op;have em:pv (CV<|d+2) (.bin .add (.bin .add (.sl (.v 2) ai<|aa<|.v 3)<|.tup [(.call 4 [(.v 1),(.ix (.v 2)<|.v 3),(.bin .add (.n 1)<|.call 2 [(.v 0),(.n 2)]),(.v 5)])])<|.sl (.v 2) (aa<|.bin .add (.v 3)<|.n 1) ai) (ρ5 ai) s3=.ok m s4:=by
  have l1:=Yo (xs:=T.map Zc) (lo:=ai) (hi:=aa j);have l2:=Yo (xs:=T.map Zc) (lo:=aa<|j+1) (hi:=ai);have g1:pv (CV<|d+2) (.tup [(.call 4 [(.v 1),(.ix (.v 2)<|.v 3),(.bin .add (.n 1)<|.call 2 [(.v 0),(.n 2)]),(.v 5)])]) (ρ5 ai) s3=.ok (.tup [Zc<|Zy p r o<|1+v1]) s4:=by
   rw[pE3,Zb e9 Ze];rfl
  have g2:pv (CV<|d+2) (.bin .add (.sl (.v 2) ai<|aa<|.v 3)<|.tup [(.call 4 [(.v 1),(.ix (.v 2)<|.v 3),(.bin .add (.n 1)<|.call 2 [(.v 0),(.n 2)]),(.v 5)])]) (ρ5 ai) s3=.ok (.tup<|Z6 (T.map Zc) ai (aa j)++[Zc<|Zy p r o<|1+v1]) s4:=by
   rw[pE7,y9 (ep5 ..)<|v3 ..,Za,g1,Za];show(if(Z6 (T.map Zc) ai<|aa j).length+1<=lim then _ else _)=_
   rw[T9 (by unfold lim;omega)]
  rw[pE7,g2,Za,VM (ep5 ..)<|YF<|v3 ..,Za];show(if(Z6 (T.map Zc) ai (aa j)++[Zc<|Zy p r o<|1+v1]).length+(Z6 (T.map Zc) (aa<|j+1) ai).length<=lim then _ else _)=_
  rw[T9 (by rw[aQ];unfold lim;show _+1+_<=_;omega)]
 have la:(ra++rb++[m]).length=12:=by rw[aQ,aQ,a2,b2];rfl
 obtain⟨v5,s6,c1,c2,c3⟩:=Z5 (d+1) s4 (m:=16) (i:=0) (Z:=ρ5<|aa<|.lst<|ra++rb++[m]) rfl ZN #[1] #[1]
 obtain⟨ix,hix,c4⟩:=pick (a:=.lst [(.n 0),(.n 0),(.n 0),(.n 1),(.n 1),(.n 2),(.n 3),(.n 4),(.n 5),(.n 6),(.n 7),(.n 8),(.n 9),(.n 10),(.n 11),(.n 11)]) (xs:=[.int 0,.int 0,.int 0,.int 1,.int 1,.int 2,.int 3,.int 4,.int 5,.int 6,.int 7,.int 8,.int 9,.int 10,.int 11,.int 11]) (s:=s4) (by simp[pvE,ofD]) c1 c2 c3
 obtain⟨q,rfl,hq0,hq1⟩:∃q:Int,ix=.int q/\0<=q/\q<12:=by
  simp at hix;rcases hix with rfl|rfl|rfl|rfl|rfl|rfl|rfl|rfl|rfl|rfl|rfl|rfl<;>exact#[_,rfl,by decide,by decide]
 obtain⟨one,hone,c5⟩:=pick (a:=.v 6) (Zd rfl) c4 hq0 (by rw[la];exact hq1)
 have o1:okV one=ak:=by
  rcases bK.mp hone with h|h
  .exact(bK.mp h).elim (a3 one)<|b3 one
  .rw[aZ.mp h];exact om
 refine#[one,s6,Zp rfl #[1] rfl ?_,o1]
 show rvs (CV<|d+2) [] YC.body (Z ai ai ai ai) [] s=_
 dsimp only[YC]
 rw[Zh<|ZE t1 rfl];show rvs _ _ _ (Z (aa<|.int j) ai ai ai) _ _=_;rw[Zh<|ZE (Zo (Zb (Zd rfl)<|Zb (Zd rfl)<|Zb e3 Ze) e4) rfl];show rvs _ _ _ (Z (aa<|.int j) (aa x) ai ai) _ _=_;rw[Zh<|ZE e5 rfl];show rvs _ _ _ (ρ5 ai) _ _=_;rw[Zh (os':=[6]) (by
  rw[ZgU,Lv.hide_nil,a1,Za,T9 #[by rw[a2];decide,by show 6<7;decide]];rfl)]
 rw[Zh (os':=[6]) (by
  rw[ZhC,T9 #[7]]
  show(PR.ok ra s3).bind _=_;rw[Za];show(pvs (CV<|d+2) _ (ρ5 ai) s3).bind _=_;rw[b1,Za,T9 #[by rw[b2];decide,by rw[a2,b2];decide,by show 6<7;decide]];rfl)]
 rw[Zh (ρ':=ρ5<|aa<|.lst<|ra++rb++[m]) (by
  rw[ZhG,T9 #[7]]
  show(PR.ok (ra++rb) s3).bind _=_;rw[Za];show(pv (CV<|d+2) _ (ρ5 ai) s3).bind _=_;rw[em,Za,T9 (by rw[aQ,a2,b2];decide)];rfl)]
 exact Zi<|Zw c5
theorem wU:∀n:Nat,hdI (au n 0)=ai
 |0=>rfl
 |n+1=>by
  show(if(0:Int)≠0 then aa 0 else(hdI<|au n 0).map (· + 1))=ai
  rw[T8 #[2],wU n];rfl
theorem Jq:∀m:Nat,Z2 p [] (au m<|au n 0)=[]
 |0=>rfl
 |m+1=>by
  show Z2 p (XD p []<|au n 0) (au m<|au n 0)=[];have:XD p [] (au n 0)=[]:=by
   unfold XD;rw[show Zn p [] (au n 0)=au n 0 from rfl,wU]
  rw[this,Jq m]
def yg(d:Nat)(s:DS)(hn:n<=6)(h1:1<=n)(hp:p^n<=1000)(hq:(p,n)∈Y7):∃v s',CV (d+4) 13 [.drw,spV p n] s=.ok v s'/\okV v=ak/\ZV p n v=aj:=by
 have key:∃v s',rvs (CV<|d+3) [] Y5.body [aa .drw,aa<|spV p n,ai,ai] [] s=.ok (.ret v) s'/\(okV v=ak/\ZV p n v=aj):=by
  dsimp only[Y5]
  have hl:=vb (t:=[2]) (it:=.rng1<|.n 8) (L:=aO 8) (Z:=[aa .drw,aa<|spV p n,ai,ai]) (s:=s) (λv=>okV v=ak/\ZV p n v=aj) (λZ=>∃a2 a3,Z=[aa .drw,aa<|spV p n,a2,a3]) (Yr ZN<|by omega) #[_,_,rfl] (λx Z s hI=>by
   obtain⟨a2,a3,rfl⟩:=hI;refine#[[aa .drw,aa<|spV p n,aa<|Zv x,a3],rfl,?_];obtain⟨R,s1,e1,hl,hR,_⟩:=yU d s hn h1 hp;obtain⟨v,s2,e2,hv⟩:=Ja d s1 hq hl hR;have e3:=zt d s2 hn h1 hp hv;have st:∀{r},rvs (CV<|d+3) [] [.ite (.not<|.call 12 [(.v 1),(.v 3)]) [.ret<|.v 3] []] [aa .drw,aa<|spV p n,aa<|Zv x,aa v] [] s2=r->rvs (CV<|d+3) [] [.asg [3]<|.call 9 [(.v 0),(.v 1),(.call 7 [(.v 0),(.v 1)])],
  .ite (.not<|.call 12 [(.v 1),(.v 3)]) [.ret<|.v 3] []] [aa .drw,aa<|spV p n,aa<|Zv x,a3] [] s=r:=λh=>
    (Zh<|ZE (Zo (Zb (Zd rfl)<|Zb (Zd rfl)<|Zb (Zo (Zb (Zd rfl)<|Zb (Zd rfl) Ze) e1) Ze) e2) rfl).trans h
   have e4:pv (CV<|d+3) (.not<|.call 12 [(.v 1),(.v 3)]) [aa .drw,aa<|spV p n,aa<|Zv x,aa v] s2=.ok (.bl !ZV p n v) s2:=Wb<|Yj (Zd rfl) (Zd rfl) e3;cases h:ZV p n v with
   |true=>
    rw[h]at e4;exact .inr #[_,s2,st (by rw[guard e4,rvs]),_,_,rfl]
   |false=>
    rw[h]at e4;refine .inl #[v,s2,st<|Zi ?_,hv,h];rw[XW (b:=ak)<|YN e4 rfl,T9 rfl];exact Zi<|Zw<|Zd rfl)
  rcases hl with⟨v,s',e,h⟩|⟨ρ',s',e,a2,a3,rfl⟩
  .exact#[v,s',Zi e,h]
  .rw[Zh e]
   obtain⟨i,s2,e2,i0,i3⟩:=Vk (m:=3) s' #[3] #[3]
   have g2:pv (CV<|d+3) (.bin .mul (.tup [(.bin .mul (.tup [(.n 0)])<|.ix (.v 1)<|.n 1)])<|.ix (.v 1)<|.n 1) [aa .drw,aa<|spV p n,a2,a3] s'=.ok (.tup<|(au n<|au n (0:Int)).map Zc) s':=by
    rw[pE7,Ya<|VF hn rfl,Za,ix1 rfl,Za];show(if(0:Int)<=n/\(n:Int)<1000/\1<=1000 then PR.ok (V.tup (au (n:Int).toNat [Zc<|au n 0]).flatten) s' else .no)=_
    rw[T9 #[by omega,by omega,by omega],c7,List.map_replicate]
    congr 2
    induction n with|zero=>rfl|succ m ih=>simp
   have gl:pv (CV<|d+3) (.lst [(.c .non),(.tup []),(.bin .mul (.tup [(.bin .mul (.tup [(.n 0)])<|.ix (.v 1)<|.n 1)])<|.ix (.v 1)<|.n 1)]) [aa .drw,aa<|spV p n,a2,a3] s'=.ok (.lst [.non,.tup [],.tup<|(au n<|au n (0:Int)).map Zc]) s':=by
    have n0:pv (CV<|d+3) (.c .non) [aa .drw,aa<|spV p n,a2,a3] s'=.ok .non s':=by rw[pE1];rfl
    have n1:pv (CV<|d+3) (.tup []) [aa .drw,aa<|spV p n,a2,a3] s'=.ok (.tup []) s':=by rw[pE3,Ze];rfl
    rw[pE4,Zb n0<|Zb n1<|Zb g2 Ze];rfl
   have e3:=Zo (as:=[(.v 0),(.n 3)]) (Z:=[aa .drw,aa<|spV p n,a2,a3]) (Zb (Zd rfl)<|Zb ZN Ze) e2;obtain rfl|rfl|rfl:i=0\/i=1\/i=2:=by omega
   .exact#[.non,s2,Zi (Zw (by rw[Xz,gl,Za,e3,Za];rfl)),rfl,rfl]
   .exact#[.tup [],s2,Zi (Zw (by rw[Xz,gl,Za,e3,Za];rfl)),rfl,Gj λxs z=>by cases z;show 0≠n;omega]
   .refine#[.tup<|(au n<|au n (0:Int)).map Zc,s2,Zi (Zw (by rw[Xz,gl,Za,e3,Za];rfl)),Vn _,?_]
    rw[XC bL λr hr=>by rw[fm hr];exact Z3,Jq]
    exact T4 (by show 0≠n;omega)
 obtain⟨v,s',e,h⟩:=key;exact#[v,s',Zp rfl #[1] rfl e,h]
def XQ(p n:Nat)(T:List Row)(r:Row):Row:=(aO n).foldl (λacc k=>Zy p acc (T.getD k [])<|gt r k)<|au n 0
def QE{T:List Row}{r:Row}(hl:T.length=n)(hT:∀t∈T,Zf p n t):Zf p n (XQ p n T r):=by
 have:∀(L:List Nat)(acc:Row),(∀k∈L,k<n)->Zf p n acc->Zf p n (L.foldl (λacc k=>Zy p acc (T.getD k [])<|gt r k) acc):=by
  intro L
  induction L with
  |nil=>exact λ_ _ h=>h
  |cons k L ih=>
   intro acc hk h;refine ih _ (λj hj=>hk j<|am _ hj)<|Zu h<|hT _ ?_
   have:=hk k<|al ..;rw[aA,af #[3]]
   exact aS _
 exact this _ _ (λk hk=>aU.mp hk) Z3
def yn{T:List Row}{k:Nat}(hl:T.length=n)(hT:∀t∈T,Zf p n t)(hk:k<n):Zf p n (T.getD k []):=by
 rw[aA,af #[3]]
 exact hT _<|aS _
def Zcs{T:List Row}{r:Row}(hl:T.length=n)(hr:r.length=n):((r.map V.int).zip<|T.map Zc).map (λq=>V.tup [q.1,q.2])=(aO n).map λk=>V.tup [.int<|gt r k,Zc<|T.getD k []]:=by
 refine iM (by simp;omega) λi h1 h2=>?_
 have hi:i<n:=by simpa using h2
 simp only[pi,List.getElem_zip,List.getElem_range];rw[aA,af #[3]]
 unfold gt;rw[aA,af #[3]];rfl
def Qr(d:Nat){T:List Row}{r:Row}(s:DS)(hn:n<=6)(hl:T.length=n)(hT:∀t∈T,Zf p n t)(hr:Zf p n r):CV (d+2) 31 [spV p n,.tup<|T.map Zc,Zc r] s=.ok (Zc<|XQ p n T r) s:=by
 have hp:=X3 (p:=p);refine Zp rfl #[1] rfl ?_
 show rvs (CV<|d+1) [] XJ.body [aa<|spV p n,aa<|.tup<|T.map Zc,aa<|Zc r,ai,ai,ai,ai,ai] [] s=_
 dsimp only[XJ]
 rw[Zh<|Xx _ _ (by show pv _ _ _ _=_;exact Zd rfl) #[rfl,rfl]]
 show rvs _ _ _ [aa<|spV p n,aa<|.tup<|T.map Zc,aa<|Zc r,aa<|.int p,aa<|.int n,ai,ai,ai] [] s=_;have z:pv (CV<|d+1) (.bin .mul (.tup [(.n 0)])<|.v 4) [aa<|spV p n,aa<|.tup<|T.map Zc,aa<|Zc r,aa<|.int p,aa<|.int n,ai,ai,ai] s=.ok (Zc<|au n 0) s:=by
  rw[pE7,Ya ZN,Za,Zd rfl,Za];show(if(0:Int)<=n/\(n:Int)<1000/\1<=1000 then PR.ok (V.tup (au (n:Int).toNat [V.int 0]).flatten) s else .no)=_
  rw[T9 #[by omega,by omega,by omega],c7,vW];rfl
 rw[Zh<|ZE z rfl];show rvs _ _ _ [aa<|spV p n,aa<|.tup<|T.map Zc,aa<|Zc r,aa<|.int p,aa<|.int n,aa<|Zc<|au n 0,ai,ai] [] s=_;obtain⟨ρ',⟨_,acc,a6,a7,_,hf,rfl⟩,e⟩:=UF (C:=CV<|d+1) (ms:=[]) (os:=[]) (t:=[6,7]) (it:=.zip (.v 2)<|.v 1) (b:=[.asg [5]<|.call 16 [(.v 3),(.v 5),(.v 7),(.v 6)]])
  (λl Z=>(∀k∈l,k<n)/\∃acc a6 a7,Zf p n acc/\l.foldl (λacc k=>Zy p acc (T.getD k [])<|gt r k) acc=XQ p n T r/\Z=[aa<|spV p n,aa<|.tup<|T.map Zc,aa<|Zc r,aa<|.int p,aa<|.int n,aa<|Zc acc,a6,a7])
  (by
   rw[wE5,Zd rfl,Za,Zd rfl,Za];show PR.ok (((r.map V.int).zip<|T.map Zc).map λq=>V.tup [q.1,q.2]) s=_
   rw[Zcs hl hr.1]) #[λk hk=>aU.mp hk,_,ai,ai,Z3,rfl,rfl] rfl (λk l Z hI=>by
   obtain⟨hk,acc,a6,a7,ha,hf,rfl⟩:=hI;have k0:=hk k<|al ..;have ht:=yn hl hT k0;have g:=XY ppos hr k;refine#[rfl,[aa<|spV p n,aa<|.tup<|T.map Zc,aa<|Zc r,aa<|.int p,aa<|.int n,aa<|Zc acc,aa<|.int<|gt r k,aa<|Zc<|T.getD k []],[aa<|spV p n,aa<|.tup<|T.map Zc,aa<|Zc r,aa<|.int p,aa<|.int n,aa<|Zc<|Zy p acc (T.getD k [])<|gt r k,aa<|.int<|gt r k,aa<|Zc<|T.getD k []],rfl,?_,λj hj=>hk j<|am _ hj,_,_,_,Zu ha ht,hf,rfl]
   rw[Zh (ZE (Zo (Zb (Zd rfl)<|Zb (Zd rfl)<|Zb (Zd rfl)<|Zb (Zd rfl) Ze)<|Qk d s hn ha ht<|by omega) rfl),rvs]
   rfl)
 rw[Zh e,show acc=XQ p n T r from hf]
 exact Zi<|Zw<|Zd rfl
def vZ(d:Nat){T:List Row}{r:Row}(s:DS)(hn:n<=6)(hl:T.length=n)(hT:∀t∈T,Zf p n t)(hr:Zf p n r):CV (d+2) 44 [spV p n,.tup<|T.map Zc,Zc r] s=.ok (Zc<|XQ p n T r) s:=by
 have hp:=X3 (p:=p);refine Zp rfl #[1] rfl ?_
 show rvs (CV<|d+1) [] W6.body [aa<|spV p n,aa<|.tup<|T.map Zc,aa<|Zc r,ai,ai] [] s=_
 dsimp only[W6]
 rw[Zh<|ZE (VF hn rfl) rfl];show rvs _ _ _ [aa<|spV p n,aa<|.tup<|T.map Zc,aa<|Zc r,aa<|Zc<|au n 0,ai] [] s=_;obtain⟨ρ',⟨_,acc,a4,_,hf,rfl⟩,e⟩:=UF (C:=CV<|d+1) (ms:=[]) (t:=[4]) (it:=.rng1<|.ix (.v 0)<|.n 1) (b:=[.asg [3]<|.call 4 [(.v 0),(.v 3),(.ix (.v 2)<|.v 4),(.ix (.v 1)<|.v 4)]]) (s:=s)
  (λl Z=>(∀k∈l,k<n)/\∃acc a4,Zf p n acc/\l.foldl (λacc k=>Zy p acc (T.getD k [])<|gt r k) acc=XQ p n T r/\Z=[aa<|spV p n,aa<|.tup<|T.map Zc,aa<|Zc r,aa<|Zc acc,a4])
  (by rw[Lv.hide_nil];exact Yr (ix1 rfl)<|by omega) #[λk hk=>aU.mp hk,_,ai,Z3,rfl,rfl] rfl (λk l Z hI=>by
   obtain⟨hk,acc,a4,ha,hf,rfl⟩:=hI;have k0:=hk k<|al ..;have ht:=yn hl hT k0;have g:=XY ppos hr k;refine#[rfl,[aa<|spV p n,aa<|.tup<|T.map Zc,aa<|Zc r,aa<|Zc acc,aa<|Zv k],[aa<|spV p n,aa<|.tup<|T.map Zc,aa<|Zc r,aa<|Zc<|Zy p acc (T.getD k [])<|gt r k,aa<|Zv k],rfl,?_,λj hj=>hk j<|am _ hj,_,_,Zu ha ht,hf,rfl]
   have g1:pv (CV<|d+1) (.ix (.v 2)<|.v 4) [aa<|spV p n,aa<|.tup<|T.map Zc,aa<|Zc r,aa<|Zc acc,aa<|Zv k] s=.ok (.int<|gt r k) s:=VS rfl rfl (by rw[hr.1];exact k0)
   have g2:pv (CV<|d+1) (.ix (.v 1)<|.v 4) [aa<|spV p n,aa<|.tup<|T.map Zc,aa<|Zc r,aa<|Zc acc,aa<|Zv k] s=.ok (Zc<|T.getD k []) s:=by
    rw[Xz,Zd rfl,Za,Zd rfl,Za];show po (at' (T.map Zc) (k:Int)) s=_;rw[X9 (by rw[aK,af #[3]];rfl),aA,af #[3]];rfl
   rw[Zh (ZE (Zo (Zb (Zd rfl)<|Zb (Zd rfl)<|Zb g1<|Zb g2 Ze)<|VG d s hn ha ht<|by omega) rfl),rvs]
   rfl)
 rw[Zh e,show acc=XQ p n T r from hf]
 exact Zi<|Zw<|Zd rfl
def WU(d:Nat){x:V}(s:DS)(hn:n<=6)(hx:okV x=ak):CV (d+7) 25 [spV p n,x] s=if ZV p n x=ak then .ok .non s else .ex 7 s:=by
 have e:=ZbE (p:=p) d s hn hx;cases h:ZV p n x with
 |true=>
  rw[h]at e;refine G0 (Z:=[aa<|spV p n,aa x]) (os:=[]) rfl #[1] rfl ?_
  simp[Wm,pvE,e]
 |false=>
  rw[h]at e;refine Vl rfl #[1] rfl ?_
  simp[Wm,pvE,e];rfl
def G4(T:List Row):okV (.tup<|T.map Zc)=ak:=zg T
def JC(d:Nat){T:List Row}(s:DS)(hn:n<=6)(hl:T.length=n)(hT:∀t∈T,Zf p n t)(hw:(Z2 p [] T).length=n):CV (d+7) 25 [spV p n,.tup<|T.map Zc] s=.ok .non s:=by
 have e:=WU (p:=p) d s hn<|G4 T;rw[XC hl hT,T9<|T5 hw]at e;exact e
def qL(d:Nat){x:V}(s:DS)(hn:n<=6)(hx:okV x=ak)(h:Zt p n x=aj):CV (d+3) 42 [spV p n,x] s=.ex 1 s:=by
 have e:=UV (p:=p) d s hn hx;rw[h]at e;refine Vl rfl #[1] rfl ?_
 simp[XV,pvE,e];rfl
def Zdg(d:Nat){T:List Row}{r:Row}(s:DS)(hn:n<=6)(hl:T.length=n)(hT:∀t∈T,Zf p n t)(hw:(Z2 p [] T).length=n)(hr:Zf p n r):CV (d+8) 43 [spV p n,.tup<|T.map Zc,Zc r] s=.ok (Zc<|XQ p n T r) s:=by
 refine Zp rfl #[1] rfl ?_
 dsimp only[VW]
 rw[Zh<|JE<|Yj (Zd rfl) (Zd rfl)<|JC d s hn hl hT hw,Zh<|JE<|Yj (Zd rfl) (Zd rfl)<|qY (d+4) s hn hr];exact Zi<|Zw<|WO (Zd rfl) (Zd rfl) (Zd rfl)<|Qr (d+5) s hn hl hT hr
def ym(d:Nat){t x:V}{c:Nat}(s:DS)(hn:n<=6)(ht:okV t=ak)(hx:okV x=ak)(h:ZV p n t=aj/\c=7\/ZV p n t=ak/\Zt p n x=aj/\c=1):CV (d+8) 43 [spV p n,t,x] s=.ex c s:=by
 have e1:=WU (p:=p) d s hn ht;refine Vl rfl #[1] rfl ?_
 dsimp only[VW]
 rcases h with⟨h,rfl⟩|⟨h,h',rfl⟩
 .rw[T8<|by rw[h];simp]at e1
  exact Gp<|Gc<|Wt (Zb (Zd rfl)<|Zb (Zd rfl) Ze) e1
 .rw[T9 h]at e1
  rw[Zh<|JE<|Yj (Zd rfl) (Zd rfl) e1];exact Gp<|Gc<|Wt (Zb (Zd rfl)<|Zb (Zd rfl) Ze)<|qL (d+4) s hn hx h'
def xm(d:Nat){T P:List Row}(s:DS)(hn:n<=6)(hl:T.length=n)(hT:∀t∈T,Zf p n t)(hP:pZ p n P):CV (d+6) 32 [spV p n,.tup<|T.map Zc,Zk P] s=.ok (Zk<|Z2 p []<|P.map<|XQ p n T) s:=by
 have lP:=dsum hP;refine Zp rfl #[1] rfl ?_
 have hc:=ZM (cap:=[0,1]) (nl:=1) (t:=[0]) (it:=.of<|.v 2) (elt:=.call 31 [(.v 1),(.v 2),(.v 0)]) (Z:=[aa<|spV p n,aa<|.tup<|T.map Zc,aa<|Zk P])
  (by rw[wE7,Zd rfl];rfl) (by unfold lim;omega) (λr hr=>#[[aa<|Zc r,aa<|spV p n,aa<|.tup<|T.map Zc],rfl,WO (Zd rfl) (Zd rfl) (Zd rfl)<|Qr (d+3) s hn hl hT<|hP.row r hr])
 have t0:pv (CV<|d+5) (.tup []) [aa<|spV p n,aa<|.tup<|T.map Zc,aa<|Zk P] s=.ok (Zk []) s:=by rw[pE3,Ze];rfl
 refine Zi<|Zw<|WO (Zd rfl) t0 hc<|Wc d s hn pZ.nil (λr hr=>?_) (by rw[bS];rfl)
 obtain⟨q,hq,rfl⟩:=aM.mp hr;exact QE hl hT
def led(d:Nat){T P:List Row}(s:DS)(hn:n<=6)(hl:T.length=n)(hT:∀t∈T,Zf p n t)(hw:(Z2 p [] T).length=n)(hP:pZ p n P):CV (d+8) 33 [spV p n,.tup<|T.map Zc,Zk P] s=.ok (Zk<|Z2 p []<|P.map<|XQ p n T) s:=by
 refine Zp rfl #[1] rfl ?_
 dsimp only[jH]
 rw[Zh<|JE<|Yj (Zd rfl) (Zd rfl)<|JC d s hn hl hT hw,Zh<|JE<|Yj (Zd rfl) (Zd rfl)<|qm (d+3) s hn hP];exact Zi<|Zw<|WO (Zd rfl) (Zd rfl) (Zd rfl)<|xm (d+1) s hn hl hT hP
def Zgu(d:Nat){t x:V}{c:Nat}(s:DS)(hn:n<=6)(ht:okV t=ak)(hx:ZV p n t=aj/\c=7\/ZV p n t=ak/\Ab.Th 1000 x/\isP p n x=aj/\c=2):CV (d+8) 33 [spV p n,t,x] s=.ex c s:=by
 have e1:=WU (p:=p) d s hn ht;refine Vl rfl #[1] rfl ?_
 dsimp only[jH]
 rcases hx with⟨h,rfl⟩|⟨h,hx,h',rfl⟩
 .rw[T8<|by rw[h];simp]at e1
  exact Gp<|Gc<|Wt (Zb (Zd rfl)<|Zb (Zd rfl) Ze) e1
 .rw[T9 h]at e1
  have e2:=Qh (p:=p) (d+3) s hn hx.1 hx.2;rw[T8<|by rw[h'];simp]at e2
  rw[Zh<|JE<|Yj (Zd rfl) (Zd rfl) e1];exact Gp<|Gc<|Wt (Zb (Zd rfl)<|Zb (Zd rfl) Ze) e2
def Gd(d:Nat){T P:List Row}(s:DS)(hn:n<=6)(h1:1<=n)(hp:p^n<=1000)(hl:T.length=n)(hT:∀t∈T,Zf p n t)(hP:pZ p n P):CV (d+3) 45 [spV p n,.tup<|T.map Zc,Zk P] s=.ok (Zk<|Z2 p []<|P.map<|XQ p n T) s:=by
 have lP:=dsum hP;have hpp:=X3 (p:=p);have hR:∀r∈P.map (XQ p n T),Zf p n r:=λr hr=>by
  obtain⟨q,hq,rfl⟩:=aM.mp hr;exact QE hl hT
 refine Zp rfl #[1] rfl ?_
 have hc:=ZM (cap:=[0,1]) (nl:=1) (t:=[0]) (it:=.of<|.v 2) (elt:=.call 44 [(.v 1),(.v 2),(.v 0)]) (Z:=[aa<|spV p n,aa<|.tup<|T.map Zc,aa<|Zk P])
  (by rw[wE7,Zd rfl];rfl) (by unfold lim;omega) (λr hr=>#[[aa<|Zc r,aa<|spV p n,aa<|.tup<|T.map Zc],rfl,WO (Zd rfl) (Zd rfl) (Zd rfl)<|vZ d s hn hl hT<|hP.row r hr])
 have hK:=Yd hR;have hl2:(Zr<|ZD p n<|P.map<|XQ p n T).length<=1000:=by
  rw[Xu,hK.len];exact bU (dJ #[3]<|dsum hK.part) hp
 have e5:=Y8 d (v:=.lst<|P.map λr=>Zc<|XQ p n T r) s hn h1 hp hR (by rw[bS];rfl)
 have e6:=Qb d s hn hK (YX _) hl2;exact Zi<|Zw<|Yj (Zd rfl) (Yj (Zd rfl) hc e5) e6
end
noncomputable def Zfq:List Sm:=[.ite (.not<|.call 41 [(.call 43 [(.v 3),(.v 4),(.v 5)]),(.call 44 [(.v 3),(.v 4),(.v 5)])]) [.ret<|.c<|.bl aj] []]
noncomputable def wl:List Sm:=[.ite (.not<|.call 41 [(.call 33 [(.v 3),(.v 4),(.v 6)]),(.call 45 [(.v 3),(.v 4),(.v 6)])]) [.ret<|.c<|.bl aj] []]
noncomputable def Ze5:List Sm:=[.ite (.and (.not<|.call 11 [(.v 3),(.v 7)])<|.cmp .ne (.refu aj<|.call 43 [(.v 3),(.v 4),(.v 7)])<|.n 0) [.ret<|.c<|.bl aj] [],
  .ite (.cmp .ne (.refu aj<|.call 33 [(.v 3),(.v 4),(.v 8)])<|.n 1) [.ret<|.c<|.bl aj] [],
  .ite (.cmp .ne (.refu aj<|.call 33 [(.v 3),(.v 9),(.v 6)])<|.n 6) [.ret<|.c<|.bl aj] [],
  .ite (.cmp .ne (.refu aj<|.call 43 [(.v 3),(.v 9),(.v 7)])<|.n 6) [.ret<|.c<|.bl aj] [],
  .ite (.cmp .ne (.refu aj<|.call 33 [(.v 3),(.v 9),(.v 8)])<|.n 6) [.ret<|.c<|.bl aj] []]
def Zaz:List Sm:=.asg [3] (.call 3 [(.v 2),(.ix (.lst [(.n 27),(.n 125)])<|.blt .toInt [(.cmp .eq (.v 1)<|.n 0)])]) ::
  .asg [4] (.call 7 [(.v 2),(.v 3)]) ::
  .forr [5] (.of<|.comp1 [2,3] 1 [0] (.rng1<|.n 4) []<|.call 34 [(.v 1),(.v 2)]) Zfq ::
  .forr [6] (.of<|.comp1 [2,3] 1 [0] (.rng1<|.n 3) []<|.call 37 [(.v 1),(.v 2)]) wl ::
  .asg [7,8] (.tup [(.call 8 [(.v 2),(.v 3),(.call 34 [(.v 2),(.v 3)])]),(.call 40 [(.v 2),(.v 3)])]) ::
  .asg [9] (.call 13 [(.v 2),(.v 3)])::Ze5
abbrev kE(o:Option V)(k p n:Nat)(T:List Row)(x5 x6 x7 x8 x9:Option V):Env:=[o,aa<|.int k,aa .drw,aa<|spV p n,aa<|.tup<|T.map Zc,x5,x6,x7,x8,x9]
def Zce{C:Zx}{ms:List Nat}{Z ρ':Env}{s s1 s2:DS}{i j:Nat}{e f:E}{u v:V}(h1:pv C e Z s=.ok u s1)(h2:pv C f Z s1=.ok v s2)(hf:Y3 [i,j] [u,v] Z=aa ρ'):rv C ms (.asg [i,j]<|.tup [e,f]) Z [] s=.ok (.nx ρ' []) s2:=by
 have g:pv C (.tup [e,f]) Z s=.ok (.tup [u,v]) s2:=by rw[pE3,Zb h1<|Zb h2 Ze];rfl
 rw[rE2]
 .show(pv C (.tup [e,f]) Z s).bind _=_
  rw[g,Za,T8 #[2]]
  show(po (Y3 [i,j] [u,v] Z) s2).bind _=_;rw[hf];rfl
 .intro k z;cases z
theorem QD{p n:Nat}[Base p]:∀{ys:List V},(∀y∈ys,∃Q,y=Zk Q/\pZ p n Q)->∃R:List (List Row),ys=R.map Zk/\∀r∈R,pZ p n r
 |[],_=>#[[],rfl,λ_ h=>by cases h]
 |y::ys,h=>by
  obtain⟨R,rfl,hR⟩:=QD λz hz=>h z<|am _ hz
  obtain⟨r,rfl,hr⟩:=h y<|al ..;refine#[r::R,rfl,λx hx=>?_]
  rcases aw.mp hx with rfl|hx
  .exact hr
  .exact hR x hx
section
variable{p n:Nat}[Base p]
def ZcZ(d:Nat){o x5:Option V}{k:Nat}{T P:List Row}{x y t:V}(s:DS)(hn:n<=6)(hl:T.length=n)(hT:∀t∈T,Zf p n t)(hw:(Z2 p [] T).length=n)(hx:okV x=ak)(hy:Ab.Th 1000 y)(hy0:isP p n y=aj)(ht:okV t=ak)(ht0:ZV p n t=aj) :
  rvs (CV<|d+8) [] Ze5 (kE o k p n T x5 (aa<|Zk P) (aa x) (aa y)<|aa t) [] s=.ok (.nx (kE o k p n T x5 (aa<|Zk P) (aa x) (aa y)<|aa t) []) s:=by
 have hTt:ZV p n (.tup<|T.map Zc)=ak:=by rw[XC hl hT];exact T5 hw
 have g1:=Wb<|Yj (Z:=kE o k p n T x5 (aa<|Zk P) (aa x) (aa y)<|aa t) (x:=.v 3) (y:=.v 7) (Zd rfl) (Zd rfl)<|WX (d+6) s hn hx;have as:∀{i j:Nat}{u v:V},(kE o k p n T x5 (aa<|Zk P) (aa x) (aa y)<|aa t)[i]?=aa (aa u)->(kE o k p n T x5 (aa<|Zk P) (aa x) (aa y)<|aa t)[j]?=aa (aa v)->pvs (CV<|d+8) [(.v 3),(.v i),(.v j)] (kE o k p n T x5 (aa<|Zk P) (aa x) (aa y)<|aa t) s=.ok [spV p n,u,v] s:=λh1 h2=>Zb (Zd rfl)<|Zb (Zd h1)<|Zb (Zd h2) Ze
 have e1:pv (CV<|d+8) (.and (.not<|.call 11 [(.v 3),(.v 7)])<|.cmp .ne (.refu aj<|.call 43 [(.v 3),(.v 4),(.v 7)])<|.n 0) (kE o k p n T x5 (aa<|Zk P) (aa x) (aa y)<|aa t) s=.ok (.bl aj) s:=by
  cases h:Zt p n x with
  |true=>
   rw[h]at g1;rw[uy,g1];rfl
  |false=>
   rw[h]at g1;exact xt g1<|VN (as rfl rfl) (ym d s hn (G4 T) hx<|.inr #[hTt,h,rfl]) #[by decide,by decide] rfl
 unfold Ze5;rw[guard e1,guard (VN (i:=1) (as rfl rfl) (Zgu d s hn (G4 T)<|.inr #[hTt,hy,hy0,rfl]) #[by decide,by decide] rfl),
  guard (VN (i:=6) (as rfl rfl) (Zgu d s hn ht<|.inl #[ht0,rfl]) #[by decide,by decide] rfl),
  guard (VN (i:=6) (as rfl rfl) (ym d s hn ht hx<|.inl #[ht0,rfl]) #[by decide,by decide] rfl),
  guard (VN (i:=6) (as rfl rfl) (Zgu d s hn ht<|.inl #[ht0,rfl]) #[by decide,by decide] rfl),rvs]
end
def jX(d:Nat)(o:Option V)(k:Nat)(s:DS):∃Z os s',rvs (CV<|d+8) [] Zaz (o::aa (.int k)::aa .drw::au 7 ai) [] s=.ok (.nx Z os) s'/\Z[0]?=aa o/\Z.length=10:=by
 have e0:∃m,pv (CV<|d+8) (.ix (.lst [(.n 27),(.n 125)])<|.blt .toInt [(.cmp .eq (.v 1)<|.n 0)]) (o::aa (.int k)::aa .drw::au 7 ai) s=.ok (.int m) s:=by
  by_cases c:(k:Int)=0
  .have c':k=0:=by omega
   exact#[125,by simp[pvE,c',ZB,b2i,at',ixN]]
  .have c':k≠0:=by omega
   exact#[27,by simp[pvE,c',ZB,b2i,at',ixN]]
 obtain⟨m,e0⟩:=e0;obtain⟨⟨p,n⟩,s1,e1,hq⟩:=uF (d+6) s;obtain⟨hb,h1,hn,hp⟩:=UJ _ hq
 haveI:Base p:=⟨hb⟩
 have hn:=hn;have h1:=h1;have hp:=hp;obtain⟨T,s2,e2,hl,hT,hw⟩:=yU (d+5) s1 hn h1 hp;obtain⟨ys,s3,e3,l3,q3⟩:=WZ (C:=CV<|d+8) (cap:=[2,3]) (nl:=1) (t:=[0]) (it:=.rng1<|.n 4) (elt:=.call 34 [(.v 1),(.v 2)]) (Z:=kE o k p n T ai ai ai ai ai) (s:=s2) (k:=4) (Q:=λy=>∃r:Row,y=Zc r/\Zf p n r)
  (by rw[VJ];exact Yr ZN<|by omega) (by unfold lim;omega) (λx s=>by
   obtain⟨r,s',f1,f2⟩:=UM (d+6) (p:=p) s hn;exact#[[aa x,aa .drw,aa<|spV p n],Zc r,s',rfl,Zo (Zb (Zd rfl)<|Zb (Zd rfl) Ze) f1,r,rfl,f2])
 obtain⟨R,rfl,hR⟩:=V3 q3;obtain⟨ρ',s4,⟨_,x5,rfl⟩,e4⟩:=Go (os:=[]) (t:=[5]) (b:=Zfq)
  (λ(l:List Row) Z=>(∀r∈l,Zf p n r)/\∃x5:Option V,Z=kE o k p n T x5 ai ai ai ai)
  (by
   show pvw _ _ (kE o k p n T ai ai ai ai ai) s2=_;rw[wE7,e3,Za];rfl) (bg hR #[ai,rfl]) rfl (λr l Z s hI=>by
   obtain⟨hr,x5,rfl⟩:=hI;have h:=hr r<|al ..;have lo:=QE hl hT (r:=r);refine#[kE o k p n T (aa<|Zc r) ai ai ai ai,kE o k p n T (aa<|Zc r) ai ai ai ai,s,rfl,?_,λq h=>hr q<|am _ h,_,rfl]
   unfold Zfq;rw[guard (Wb<|Yj (WO (Zd rfl) (Zd rfl) (Zd rfl)<|Zdg d s hn hl hT hw h) (WO (Zd rfl) (Zd rfl) (Zd rfl)<|vZ (d+6) s hn hl hT h)<|y8 (d+6) s (by rw[lo.1];omega)),rvs])
 obtain⟨zs,s5,e5,l5,q5⟩:=WZ (C:=CV<|d+8) (cap:=[2,3]) (nl:=1) (t:=[0]) (it:=.rng1<|.n 3) (elt:=.call 37 [(.v 1),(.v 2)]) (Z:=kE o k p n T x5 ai ai ai ai) (s:=s4) (k:=3) (Q:=λy=>∃Q,y=Zk Q/\pZ p n Q)
  (by rw[VJ];exact Yr ZN<|by omega) (by unfold lim;omega) (λx s=>by
   obtain⟨P,s',f1,f2⟩:=yN (d+5) s hn h1 hp;exact#[[aa x,aa .drw,aa<|spV p n],Zk P,s',rfl,Zo (Zb (Zd rfl)<|Zb (Zd rfl) Ze) f1,P,rfl,f2])
 obtain⟨Ps,rfl,hPs⟩:=QD q5;obtain⟨ρ',s6,⟨_,x6,hx6,rfl⟩,e6⟩:=Go (os:=[]) (t:=[6]) (b:=wl)
  (λ(l:List (List Row)) Z=>(∀r∈l,pZ p n r)/\∃x6:Option V,((∃P,x6=aa (Zk P))\/l.length=3)/\Z=kE o k p n T x5 x6 ai ai ai)
  (by
   show pvw _ _ (kE o k p n T x5 ai ai ai ai) s4=_;rw[wE7,e5,Za];rfl) #[hPs,ai,.inr (by rw[ax]at l5;exact l5),rfl] rfl (λP l Z s hI=>by
   obtain⟨hr,x6,_,rfl⟩:=hI;have h:=hr P<|al ..;have lo:∀r∈Z2 p [] (P.map<|XQ p n T),r.length<=1000:=λr hr=>by
    have hK:=(Yd (R:=P.map<|XQ p n T) λr hr=>by
     obtain⟨q,hq,rfl⟩:=aM.mp hr;exact QE hl hT).part
    rw[(hK.row r hr).1];omega
   have ll:(Z2 p []<|P.map<|XQ p n T).length<=1000:=by
    have hK:=(Yd (R:=P.map<|XQ p n T) λr hr=>by
     obtain⟨q,hq,rfl⟩:=aM.mp hr;exact QE hl hT).part
    have:=dsum hK;omega
   refine#[kE o k p n T x5 (aa<|Zk P) ai ai ai,kE o k p n T x5 (aa<|Zk P) ai ai ai,s,rfl,?_,λq h=>hr q<|am _ h,_,.inl #[P,rfl],rfl]
   unfold wl;rw[guard<|Wb<|Yj (WO (Zd rfl) (Zd rfl) (Zd rfl)<|led d s hn hl hT hw h) (WO (Zd rfl) (Zd rfl) (Zd rfl)<|Gd (d+5) s hn h1 hp hl hT h)<|qB (d+5) s ll lo,rvs])
 obtain⟨P,rfl⟩:∃P,x6=aa (Zk P):=hx6.resolve_right #[2]
 obtain⟨r0,s7,e7,hr0⟩:=UM (d+6) (p:=p) s6 hn;obtain⟨x,s8,e8,hx⟩:=XH (d+6) s7 hq hr0;obtain⟨y,s9,e9,hy,hy0⟩:=yj (d+4) s8 hn h1 hp hq;obtain⟨t,s10,e10,ht,ht0⟩:=yg (d+4) s9 hn h1 hp hq;refine#[kE o k p n T x5 (aa<|Zk P) (aa x) (aa y)<|aa t,[],s10,?_,rfl,rfl];unfold Zaz;rw[Zh<|ZE (Zo (Zb (Zd rfl)<|Zb e0 Ze) e1) rfl];rw[Zh<|ZE (Zo (Zb (Zd rfl)<|Zb (Zd rfl) Ze) e2) rfl];show rvs _ _ _ (kE o k p n T ai ai ai ai ai) [] s2=_;rw[Zh e4,Zh e6,Zh<|Zce (Zo (Zb (Zd rfl)<|Zb (Zd rfl)<|Zb (Zo (Zb (Zd rfl)<|Zb (Zd rfl) Ze) e7) Ze) e8) (Zo (Zb (Zd rfl)<|Zb (Zd rfl) Ze) e9) rfl,Zh<|ZE (Zo (Zb (Zd rfl)<|Zb (Zd rfl) Ze) e10) rfl]
 exact ZcZ d s10 hn hl hT hw hx.1 hy hy0 ht ht0
def Zak(d:Nat)(Z:Env)(s:DS):pv (CV<|d+8) (.cmp .eq (.call 33 [(.tup [(.n 2),(.n 2)]),(.tup [(.tup [(.n 0),(.n 1)]),(.tup [(.n 1),(.n 0)])]),(.tup [(.tup [(.n 0),(.n 1)])])])<|.tup [(.tup [(.n 1),(.n 0)])]) Z s=.ok (.bl ak) s:=by
 haveI:Base 2:=⟨.inl rfl⟩
 have sp:pv (CV<|d+8) (.tup [(.n 2),(.n 2)]) Z s=.ok (spV 2 2) s:=by simp[pvE,ofD,spV]
 have t1:pv (CV<|d+8) (.tup [(.tup [(.n 0),(.n 1)]),(.tup [(.n 1),(.n 0)])]) Z s=.ok (.tup<|[[0,1],[1,0]].map Zc) s:=by simp[pvE,ofD,Zc]
 have t2:pv (CV<|d+8) (.tup [(.tup [(.n 0),(.n 1)])]) Z s=.ok (Zk [[0,1]]) s:=by simp[pvE,ofD,Zk,Zc]
 have t3:pv (CV<|d+8) (.tup [(.tup [(.n 1),(.n 0)])]) Z s=.ok (Zk [[1,0]]) s:=by simp[pvE,ofD,Zk,Zc]
 have hT:∀t∈[([0,1]:Row),[1,0]],Zf 2 2 t:=λt ht=>by
  simp only[aw,bq,or_false]at ht;rcases ht with rfl|rfl<;>exact#[rfl,λa ha=>by simp at ha;omega]
 have hP:pZ 2 2 [[0,1]]:=(Xw λr hr=>hT r<|by rw[aZ.mp hr];simp).mp (by decide +kernel)
 have e:=led (n:=2) d s #[3] rfl hT (by decide +kernel) hP
 rw[show Z2 2 [] ([[0,1]].map<|XQ 2 2 [[0,1],[1,0]])=[[1,0]] by decide +kernel]at e
 rw[ug (WO sp t1 t2 e) t3,T5 rfl]
def law_ok(ns:List Int)(s:DS):∃S,CV 63 47 [.scr ns] s=.ok (.bl ak) S:=
 Lv.law_ofR (B:=Zaz) 60 #[1] #[1] #[1] rfl rfl rfl #[1] (λZ s=>Zak 54 Z s) (λo k s=>jX 54 o k s) ns s
end K72
namespace K72
open PySem PySem.Spec PyProof.Rows L2 Sd Gn
open Sd (zX vI Zau jK vQ ZaE Zer ZaU jg v6 wL jz Zb1 uk Jm jo Zaj jY Zb4 xP um vE ue uo JI z7 wT v8 vX J1 jM)
def ZhL(s:fq):bN:=match s with|.FunctionDef x _ _ _ _ _ _ _ _ _=>x|_=>""
def top(i:Nat):fq:=PySem.Challenge.pw_fewspaces_k72_rows_and_parts_led.main.body.getD i<|.Pass #[0,0,0,0]
abbrev R(i m k:Nat):FR:=#[ZhL<|top i,top i,((Zg<|top i).names.map (·.1)).take m,k]
abbrev r0:=R 38 2 2
abbrev r1:=R 39 3 2
abbrev r2:=R 40 4 2
abbrev r3:=R 42 3 2
abbrev r4:=R 43 4 4
abbrev r5:=R 45 6 2
abbrev r6:=R 55 1 1
abbrev r7:=R 56 8 2
abbrev r8:=R 52 6 3
abbrev r9:=R 60 7 3
abbrev r10:=R 49 3 3
abbrev r11:=R 50 2 2
abbrev r12:=R 59 3 2
abbrev r13:=R 61 4 2
abbrev r14:=R 13 3 3
abbrev r15:=R 22 4 2
abbrev r16:=R 17 4 4
abbrev r17:=R 19 4 4
abbrev r18:=R 15 3 1
abbrev r19:=R 29 7 3
abbrev r20:=R 16 3 3
abbrev r21:=R 18 3 2
abbrev r22:=R 28 9 3
abbrev r23:=R 27 5 3
abbrev r24:=R 31 4 2
abbrev r25:=R 32 2 2
abbrev r26:=R 14 1 1
abbrev r27:=R 20 2 2
abbrev r28:=R 24 3 3
abbrev r29:=R 23 3 2
abbrev r30:=R 26 2 2
abbrev r31:=R 34 8 3
abbrev r32:=R 36 3 3
abbrev r33:=R 35 3 3
abbrev r34:=R 44 3 2
abbrev r35:=R 46 1 1
abbrev r36:FR:=#["_law_form",top 47,["_law_space_here","_law_every","_law_places","_law_found","_law_head_here","_law_row_here"],2]
abbrev r37:=R 48 3 2
abbrev r38:=R 53 8 3
abbrev r39:=R 51 3 2
abbrev r40:=R 54 4 2
abbrev r41:=R 62 2 2
abbrev r42:=R 25 2 2
abbrev r43:=R 33 3 3
abbrev r44:=R 57 5 3
abbrev r45:=R 58 3 3
abbrev r46:=R 41 4 1
abbrev r47:FR:=#["law",top 63,["_law_script","_law_k","_law_state_here","_law_space_here","_law_turn_here","_law_row_here","_law_part_here","_law_bad","_law_none","_law_strange"],1]
noncomputable abbrev rL:FR:=r47
abbrev fs:List FR:=[r0,r1,r2,r3,r4,r5,r6,r7,r8,r9,r10,r11,r12,r13,r14,r15,r16,r17,r18,r19,r20,r21,r22,r23,r24,r25,r26,r27,r28,r29,r30,r31,r32,r33,r34,r35,r36,r37,r38,r39,r40,r41,r42,r43,r44,r45,r46]
abbrev zs:List bN:=["all","any","bool","dict","enumerate","int","isinstance","len","list","max","min","range","set","sorted","sum","tuple","zip","ValueError"]
abbrev gs:List (bN×Gv):=[]
noncomputable def pp(k:Nat):iE:=([#[138,7,138,17],#[138,21,138,25],#[138,7,138,25],#[139,15,139,19],#[139,8,139,19],#[138,4,139,19],#[140,4,140,14],#[140,17,140,114],#[140,4,140,114],#[141,4,141,14],#[141,17,141,27],#[141,30,141,129],#[141,17,141,129],#[141,4,141,129],#[142,4,142,14],#[142,17,142,27],#[142,30,142,126],#[142,17,142,126],#[142,4,142,126],#[143,4,143,14],#[143,4,143,54],#[144,7,144,45],#[144,7,144,101],#[145,16,145,17],#[145,15,145,17],#[145,8,145,17],#[144,4,145,17],#[146,11,146,21],#[146,28,146,32],#[146,4,146,33],#[143,4,143,21],#[143,4,143,54],#[146,11,146,27],#[146,11,146,33],#[0,0,0,0],#[0,0,0,0],#[0,0,0,0],#[0,0,0,0],#[0,0,0,0],#[0,0,0,0],#[140,18,140,28],#[140,29,140,39],#[140,41,140,46],#[140,18,140,47],#[140,49,140,59],#[140,60,140,70],#[140,72,140,78],#[140,49,140,79],#[140,81,140,91],#[140,92,140,102],#[140,104,140,112],#[140,81,140,113],#[141,31,141,41],#[141,42,141,52],#[141,54,141,61],#[141,31,141,62],#[141,64,141,74],#[141,75,141,85],#[141,87,141,96],#[141,64,141,97],#[141,99,141,109],#[141,110,141,120],#[141,122,141,127],#[141,99,141,128],#[142,31,142,41],#[142,42,142,52],#[142,54,142,60],#[142,31,142,61],#[142,63,142,73],#[142,74,142,84],#[142,86,142,91],#[142,63,142,92],#[142,94,142,104],#[142,105,142,115],#[142,117,142,124],#[142,94,142,125],#[143,22,143,32],#[143,33,143,43],#[143,45,143,52],#[143,22,143,53],#[144,11,144,21],#[144,22,144,32],#[144,34,144,44],#[144,11,144,45],#[0,0,0,0],#[0,0,0,0],#[0,0,0,0],#[0,0,0,0],#[0,0,0,0],#[0,0,0,0],#[133,4,133,14],#[133,17,133,21],#[133,4,133,21],#[135,8,135,17],#[135,8,135,19],#[135,8,135,19],#[136,11,136,21],#[137,8,137,18],#[137,21,137,22],#[137,8,137,22],#[136,4,137,22],#[134,4,137,22],#[0,0,0,0],#[0,0,0,0],#[0,0,0,0],#[0,0,0,0],#[0,0,0,0],#[0,0,0,0],#[0,0,0,0],#[0,0,0,0],#[0,0,0,0],#[0,0,0,0]]:List iE).getD k #[0,0,0,0]
noncomputable abbrev jE{X xw C e}(i:Ev.E):=Sd.CE X xw C e i
noncomputable abbrev jF{X xw C e}(i:Ev.E):=Sd.CF X xw C e i
noncomputable abbrev jT{X xw C e}(i:Ev.E):=Sd.CT X xw C e i
noncomputable abbrev jS{X xw a C b e}(i:Ev.Sm):=Sd.CS X xw a C b e i
def okl:OkX fs zs gs fns tk sn 0 fs (fns.take 47)/\Zg5 aj fs zs gs fns tk 46 r46.st/\BdR aj fs zs gs fns tk sn 46 r46.st rL Zeb:=by
 refine#[?a,?b,?c]
 case' a=>repeat'(first|exact dN|refine#[#[rfl,rfl,by decide +kernel,?_],?_]|exact Zar|intro P w K mg base cl f fd d T L h hn cdv A outer s H E hr hu)
 case' b=>intro P w K mg base f fd d T hn cdv A outer s H hu;unfold Sd.ksum
 case' c=>intro P w K mg base cl f fd fL c Pt d T L h RA hn hC hB hP A outer s H E hp hr hr0 hu
 all_goals
 (repeat'(first
 |(with_reducible refine (?_:ay _ _=_));(first|exact vI|exact zX|exact v6|exact jg|exact Zau|exact ZaE|exact wL|exact jK|exact Zer|exact ZaU|exact vQ)
 |(with_reducible refine (?_:Cx.mg _ _=_));(exact Top.no #[4] #[5])
 |(with_reducible refine (?_:_=_));first|exact Zf1 _|kernel_rfl!
 |(with_reducible refine (?_:Gl _ _));show _=_;kernel_rfl!
 |refine (?_:Sd.CSs _ _ _ _ _ _ [.cel _ _ _ _]);refine Zfe Sd.Zal #[4] #[4] #[4] ?_ ?_ #[4] #[5] #[5] (show _=_ from by kernel_rfl!) #[5] (by first|exact vI|exact zX|exact v6|exact jg|exact Zau|exact ZaE|exact wL|exact jK|exact Zer|exact ZaU|exact vQ) rfl #[5] (by first|exact Or.inl #[5]|exact o0 #[5]|exact o0 (Or.inl #[5])|exact o0 (o0 #[5])) (by first|exact .inl rfl|exact .inr<|by kernel_rfl!) #[5] #[5] #[5]
 |refine (?_:Sd.CSs _ _ _ _ _ _ _);first|apply ZfR|apply ZcA
 |refine (?_:Sd.CA _ _ _ _ _);first|apply ZfH|apply ZcY
 |refine (?_:jF (.blt .sortedS _));apply ww
 |refine (?_:jF (.blt .list _));apply vB z7
 |refine (?_:jF (.blt .listD _));apply vB (uO rfl)
 |refine (?_:jF (.blt .sortedD _));apply ZcH (zo rfl)
 |refine (?_:jF (.lst _));apply ZfG
 |refine (?_:jF (.comp1 _ _ _ _ _ _));refine j6 rfl (by first|assumption|exact T6<|by kernel_rfl!) (jL<|by kernel_rfl!) ?_ (λ_ _ _ _=>#[?_,?_,?_]) (hs:=by intro _;kernel_rfl!)
 |refine (?_:Sd.CE _ _ _ (.BoolOp _ [_] _) _);apply ZfM
 |refine (?_:jE (.dix _ aj));apply Zd1
 |refine (?_:jE (.dix _ ak));apply Zc6
 |refine (?_:jE (.v _));apply ZhT
 |refine (?_:jE (.c _));first|apply ZfF|apply ZhM|apply ZfX|apply Zf0
 |refine (?_:jE (.call _ _));first|refine ZaL Sd.Zal #[4] #[4] #[4] ?_ #[5] (show _=_ from by kernel_rfl!) #[5] (by first|exact vI|exact zX|exact v6|exact jg|exact Zau|exact ZaE|exact wL|exact jK|exact Zer|exact ZaU|exact vQ) rfl|refine Zfw #[4] #[4] #[4] ?_ #[5] (show _=_ from by kernel_rfl!) #[5] (by first|exact vI|exact zX|exact v6|exact jg|exact Zau|exact ZaE|exact wL|exact jK|exact Zer|exact ZaU|exact vQ) rfl|refine ZaL Sd.Zid #[4] #[4] #[4] ?_ #[5] (show _=_ from by kernel_rfl!) #[5] (by first|exact vI|exact zX|exact v6|exact jg|exact Zau|exact ZaE|exact wL|exact jK|exact Zer|exact ZaU|exact vQ) rfl
 |refine (?_:jE (.refu _ _));refine ZgV (Pp:=pp) Sd.Zal #[4] #[4] #[4] #[4] rfl #[5] #[5] #[5] #[4] #[4] #[4] #[4] rfl rfl rfl rfl #[5] #[5] (show _=_ from by kernel_rfl!) λ_ _ _ _ _ _ _ _ _ _ _=>?_
 |refine (?_:jE .dnew);apply Zcl
 |refine (?_:jE (.ix _ _));apply ZhO
 |refine (?_:jE (.blt .len _));apply WG um
 |refine (?_:jE (.blt .tuple _));apply GV JI
 |refine (?_:jE (.blt .all _));apply WG (wT rfl)
 |refine (?_:jE (.blt .any _));apply WG (v8 rfl)
 |refine (?_:jE (.blt .toInt _));apply GV uo
 |refine (?_:jE (.blt .max2 _));apply WG (vE rfl)
 |refine (?_:jE (.blt .min2 _));apply WG (ue rfl)
 |refine (?_:jE (.blt .sum _));apply WG (vX rfl)
 |refine (?_:jE (.blt .dictP _));apply GV (J1 rfl #[4])
 |refine (?_:jE (.blt _ _));apply xY
 |refine (?_:jE (.bin _ _ _));first|apply Ze7|apply Zfj|apply Zfa|apply ZgG|apply ZdD|apply ZeR
 |refine (?_:jE (.tup _));apply Zfx
 |refine (?_:jE (.neg _));apply ZfK
 |refine (?_:jE (.not _));apply ZfQ
 |refine (?_:jE (.cmp .eq _ _));apply XR (jz #[4])
 |refine (?_:jE (.cmp .ne _ _));apply XR (Zb1 #[4])
 |refine (?_:jE (.cmp .lt _ _));apply XR (uk #[4])
 |refine (?_:jE (.cmp .le _ _));apply XR (Jm #[4])
 |refine (?_:jE (.cmp .gt _ _));apply XR (jo #[4])
 |refine (?_:jE (.cmp .ge _ _));apply XR (Zaj #[4])
 |refine (?_:jE (.cmp .is _ _));apply XR (jY #[4])
 |refine (?_:jE (.cmp .inn _ _));apply XR (Zb4 #[4])
 |refine (?_:jE (.cmp .nin _ _));apply XR (xP #[4])
 |refine (?_:jE (.chain _ _ _ _ _));first|apply zB (Jm<|by assumption) (Jm #[4])|apply zB (Jm<|by assumption) (uk #[4])
 |refine (?_:jE (.sl _ _ _));apply ZhB
 |refine (?_:jE (.rev _));apply ZeV
 |refine (?_:jE (.isi _ _));first|apply U9 (T:="int") (t:=.int)|apply U9 (T:="bool") (t:=.bool)|apply U9 (T:="tuple") (t:=.tuple)|apply U9 (T:="list") (t:=.list)|apply U9 (T:="dict") (t:=.dict)|apply Zcf (T:="list") (U:="tuple") (t:=.list) (u:=.tuple)
 |(first|show jE (.callF _ _)|show jE (.blt .rangeL _)|show jE (.lst _)|show jE (.comp1 _ _ _ _ _ _)|show jE (.comp2 _ _ _ _ _ _ _ _ _)|show jE (.blt .list _)|show jE (.blt .sorted _)|show jE (.blt .listD _)|show jE (.blt .sortedD _)|show jE (.blt .sortedS _)|show jE (.blt .sortedT _)|show jE (.blt .sortedU _));refine CF.ce ?_
 |refine (?_:jE _);apply ZfJ
 |refine (?_:Sd.CO _ _ _ _ _);first|apply Zdj|apply ZcM
 |refine (?_:jS (.raise _ []));apply ZgT Sd.Zal
 |refine (?_:jS (.ret _));first|apply Ze3|apply Zdv
 |refine (?_:jS (.dnw _ _));apply Ze8
 |refine (?_:jS (.dput _ _ _));apply Zd5
 |refine (?_:jS (.forF _ _ _));apply Zcn lv
 |refine (?_:jS (.lnw _ _));apply Zgs
 |refine (?_:jS (.cat _ _));apply Ze1
 |refine (?_:jS (.app _ _));apply Zf8
 |refine (?_:jS (.dset _ _));apply Zdx
 |refine (?_:jS (.asg _<|.comp1 _ _ _ _ _ _));refine ZbR rfl #[4] (jL<|by kernel_rfl!) ?_ (λ_ _ _ _=>#[?_,?_,?_]) (hsw:=by kernel_rfl!) (hy:=by kernel_rfl!) (hx:=by first|exact Or.inl #[5]|exact o0 #[5]|exact o0 (Or.inl #[5])|exact o0 (o0 #[5])) (hf:=by first|exact .inl rfl|exact .inr<|by kernel_rfl!) (hs:=by intro _;kernel_rfl!)
 |refine (?_:jS (.asg [_] _));first|refine ZcJ ?_ ?_ (hf:=by kernel_rfl!) (hs:=by kernel_rfl!) (hw:=by kernel_rfl!) (h1:=by kernel_rfl!)|apply ZcI
 |refine (?_:jS (.asg _ _));apply Zf7
 |refine (?_:jS (.ex<|.mt .append _ _));apply u9
 |refine (?_:jS (.ex _));apply Zc7
 |refine (?_:jS (.ite _ _ _));apply Zg3
 |refine (?_:jS (.forr _ _ _));apply ZeW lv
 |refine (?_:jS (.whl _ _));apply j8 lv
 |refine (?_:jS (.aug _ _ _));apply ZeS jM
 |refine (?_:jT (.not _));apply ZeN
 |refine (?_:jT (.cmp .eq _ _));apply XN (jz #[4])
 |refine (?_:jT (.cmp .ne _ _));apply XN (Zb1 #[4])
 |refine (?_:jT (.cmp .lt _ _));apply XN (uk #[4])
 |refine (?_:jT (.cmp .le _ _));apply XN (Jm #[4])
 |refine (?_:jT (.cmp .gt _ _));apply XN (jo #[4])
 |refine (?_:jT (.cmp .ge _ _));apply XN (Zaj #[4])
 |refine (?_:jT (.cmp .is _ _));apply XN (jY #[4])
 |refine (?_:jT (.cmp .inn _ _));apply XN (Zb4 #[4])
 |refine (?_:jT (.cmp .nin _ _));apply XN (xP #[4])
 |refine (?_:jT (.and _ _));refine CWh.ct<|Zbj ?_ ?_
 |refine (?_:jT (.or _ _));refine CWh.ct<|Zeh ?_ ?_
 |refine (?_:jT _);apply ZgB
 |refine (?_:Sd.CWh _ _ _ _ _);first|apply Zbj|apply Zdw|apply Zeh|apply Zgw
 |refine (?_:Sd.CTs _ _ _ _ _);first|apply Zc2|apply Zcc
 |refine (?_:Sd.CW _ _ _ _ _ _);first|apply ZcR|apply Zcy|apply ZgK|apply ZcC|apply Zha
 |refine (?_:Sd.CG _ _ _);first|apply ZcP|apply ZgI
 |refine (?_:Sd.CGs _ _ _);first|apply ZdI|apply ZaV
 |(first|exact Or.inl #[5]|exact o0 #[5]|exact o0 (Or.inl #[5])|exact o0 (o0 #[5]))
 |assumption
 |exact T6 #[5]
 |decide
 |(intro _;kernel_rfl!)
 |(intro _ _;kernel_rfl!)
 |(intro m h;cases h)))
end K72
namespace PySem.W.Fast
def tw16322556647559235615:=0
def tw11624122606354072387:=0
def tw10496596327786048846:=0
def tw6393106366784136996:=0
def tw6959935322576929470:=0
def tw6501282165571435291:=0
def tw154581774835663072:=0
def tw14091444422099099751:=0
def tw11920453576226511486:=0
def tw12749380983585899653:=0
def tw3345584904192656603:=0
def tw17265261041816437480:=0
def tw14713543251103312841:=0
def tw14020471671576636949:=0
def tw11359641110765797304:=0
def tw7644162070480862295:=0
def tw12484130429509857798:=0
def tw4015219659328607129:=0
def tw946132699028225432:=0
def tw3776406070918981059:=0
def tw5787945585391084517:=0
def tw4930236909041132687:=0
def tw8302464914848148885:=0
def tw13859647343362542476:=0
def tw15699822342407716221:=0
def tw16163889147016135879:=0
def tw17808554727966105895:=0
def tw3928937871892672380:=0
def tw9903083035986861225:=0
def tw2193219458543816929:=0
def tw7234542109087244413:=0
def tw3017129235889488755:=0
def tw7122177290545352987:=0
def tw15552498289079950323:=0
def tw31817734842681933:=0
def tw2129170742444115739:=0
def tw4472500420393171396:=0
def tw4492707468934864609:=0
def tw459306547604225757:=0
def tw13203208026474708023:=0
def tw14015648399974903877:=0
def tw7634316283091293451:=0
def tw12156617519915412543:=0
def tw5197265221820507071:=0
def tw7366371708258886435:=0
def tw7184348113034896381:=0
def tw13973754110486554661:=0
def tw9373976187466349248:=0
def tw17473375634876308472:=0
def tw11511754531168703292:=0
def tw9344738390793573816:=0
def tw2851963945932928841:=0
def tw86970313063409878:=0
def tw1606109295058693082:=0
def tw9946748655669685035:=0
def tw7738076032882430897:=0
def tw213072781697943522:=0
def tw15367342460425260943:=0
def tw6603395869618373677:=0
def tw6183165328513310398:=0
def tw1891185381550590561:=0
def tw11445450490767281756:=0
def tw12707721722502011950:=0
def tw11519360654123450747:=0
def tw16161377858209604380:=0
def tw16013320382295211137:=0
def tw6849617098036024163:=0
def tw11597336570831211829:=0
def tw10889126230243127975:=0
def tw11596064764181182622:=0
def tw14429425448549162691:=0
def tw9414999248381025481:=0
def tw15878249492657864356:=0
def tw9104487196433868001:=0
def tw14104208906939009546:=0
def tw5874994414740855621:=0
def tw17608756828259349457:=0
def tw12734183707588102864:=0
def tw18094767396834758826:=0
def tw8401656382343363078:=0
def tw4297700641961402819:=0
def tw10529864591257353224:=0
def tw9699304968630487919:=0
def tw4828065626596531106:=0
def tw11195211772385996078:=0
def tw923244877555281628:=0
def tw17534934317567773972:=0
def tw15495692111736830366:=0
def tw16192779514320179226:=0
def tw17723175659940817595:=0
def tw15041605768424069078:=0
def tw4899199604282602740:=0
def tw2214055338078877216:=0
def tw4533850745116472774:=0
def tw18343678872377326247:=0
def tw17529683237045359911:=0
def tw294574521543155616:=0
def tw10737653889224623097:=0
def tw3523314767088744942:=0
def tw15542555478119289866:=0
def tw8640998610175939484:=0
def tw12496588744281517856:=0
def tw10002455889428103034:=0
def tw6458130097990886956:=0
def tw17425501252413600084:=0
def tw3803649814379082396:=0
def tw13543848552647659721:=0
def tw4808172172982403284:=0
def tw3359992783621872377:=0
def tw8835227196434417943:=0
def tw6037964840417344799:=0
def tw4875474383834377118:=0
def tw16123528634958029393:=0
def tw7406410631028976126:=0
def tw5005733066004649902:=0
def tw17619683030597734323:=0
def tw1756739340491706751:=0
def tw13304324162640018015:=0
def tw1623971276769950094:=0
def tw996176398496070500:=0
def tw10401462176696423002:=0
def tw16687971168753718222:=0
def tw10198613553790777764:=0
def tw9348922394836653855:=0
def tw17181197711099823293:=0
def tw9002951009928842112:=0
def tw15513560625090873503:=0
def tw13634984713012296041:=0
def tw18234373604807275776:=0
def tw7643150322963295103:=0
def tw8673320783040654856:=0
def tw15328819730434161107:=0
def tw16485741363682405316:=0
def tw2215902651909387150:=0
def tw4839816433723436561:=0
def tw15572483223449020272:=0
def tw10893542469847541910:=0
def tw6249172549430948975:=0
def tw12901191436768347909:=0
def tw8185850667747443728:=0
def tw1199917347732294444:=0
def tw8073113266806018815:=0
def tw2200613352887150635:=0
def tw9544786305439106323:=0
def tw7359033176168150694:=0
def tw8072229673381728252:=0
def tw8921394677481437556:=0
def tw18239427785873172189:=0
def tw13044604874343951935:=0
def tw6569157060669214482:=0
def tw51531861663643910:=0
def tw17125585696765698137:=0
def tw10330470103471735511:=0
def tw15673616837916650102:=0
def tw11107231582560989779:=0
def tw3606976558794571287:=0
def tw2723387837625110688:=0
def tw15847476048971245097:=0
def tw6891846192432254996:=0
def tw1865450603861081696:=0
def tw8736341002303625233:=0
def tw10302770539900713934:=0
def tw14003002510700684976:=0
def tw3578566824979849830:=0
def tw8252197387919586367:=0
def tw5122705833215439412:=0
def tw2873047485945154976:=0
def tw13024821953496378083:=0
def tw12569196520718479269:=0
def tw12511599413946314414:=0
def tw15844252475698980482:=0
def tw4533262164865696370:=0
def tw1797474089003162318:=0
def tw4689029015143067742:=0
def tw6572855183800685427:=0
def tw8445808808781026467:=0
def tw12028210345459437552:=0
def tw1535266821235244302:=0
def tw11091739964463878032:=0
def tw12856489722959620862:=0
def tw10215530353934437591:=0
def tw5557873990220684990:=0
def tw9720597748425522954:=0
def tw18223997029636977709:=0
def tw6089185405480326587:=0
def tw4901256789029755482:=0
def tw3558952845803208552:=0
def tw18215834120536994833:=0
def tw12598660385599833443:=0
def tw9994258887956573859:=0
def tw8368369593335712049:=0
def tw11865195443057395817:=0
def tw11408819454820350801:=0
def tw16385819617592969772:=0
def tw6575437674202391893:=0
def tw1142823175697191927:=0
def tw10232901338502078343:=0
def tw17016980124301339648:=0
def tw7439215800931947433:=0
def tw6213279726233623490:=0
def tw14582752093449520478:=0
def tw8349393925338287777:=0
def tw6521132200776383717:=0
def tw7409952695088503703:=0
def tw3592165285872944992:=0
def tw1515980154702409662:=0
def tw14227232832249432285:=0
def tw11484140720493896752:=0
def tw2308297353207182408:=0
def tw13623479622903117174:=0
def tw9060717438271434173:=0
def tw8436052493466792880:=0
def tw7764988993663013038:=0
def tw1607687210174960189:=0
def tw13813676415614148629:=0
def tw4690616848045265690:=0
def tw18428289055310151608:=0
def tw10295775101692840084:=0
def tw16971888290593766799:=0
def tw9326374332141965754:=0
def tw5727823948340506467:=0
def tw16890618843878632836:=0
def tw13881000965821831269:=0
def tw580755618046128091:=0
def tw11599792063666515855:=0
def tw1238003313872719731:=0
def tw18048209961591479885:=0
def tw2724391558206675354:=0
def tw1300783889318588455:=0
def tw14608580834213233148:=0
def tw13660348556896885367:=0
def tw4055061050824026243:=0
def tw723070931563962400:=0
def tw13309664528575458777:=0
def tw3619175024883607733:=0
def tw12816876987052622579:=0
def tw7748610943898800572:=0
def tw15224168079624989082:=0
def tw12113152055017167885:=0
def tw7235763339909549500:=0
def tw5039940030253597047:=0
def tw8283837081218927781:=0
def tw10925846929761938064:=0
def tw3333638671821055941:=0
def tw882951127103317391:=0
def tw3222715985416665824:=0
def tw17954629685356918798:=0
def tw16394437568580840934:=0
def tw13722911980551352581:=0
def tw4431188618563616716:=0
def tw8954290828971308155:=0
def tw11529924445265871691:=0
def tw86035018205069267:=0
def tw5695236716171674184:=0
def tw7857210365128368054:=0
def tw2765052625643928207:=0
def tw1754631345093010332:=0
def tw16023545859055658841:=0
def tw12329195262264554598:=0
def tw14017077194009707527:=0
def tw13464256280048302668:=0
def tw17278971684098333152:=0
def tw15214849077177927449:=0
def tw10176388579912683462:=0
def tw15233255394881551295:=0
def tw9397396997752633440:=0
def tw12181875170500944114:=0
def tw8084523895783109632:=0
def tw9338389559703528283:=0
def tw110522891258397208:=0
def tw5229892321887113696:=0
def tw17187253293512450963:=0
def tw1314300231521576126:=0
def tw7853441316299620207:=0
def tw4222545529117022176:=0
def tw6381839973842117973:=0
def tw2106884968152892269:=0
def tw10298216236118096811:=0
def tw5045497773214533191:=0
def tw7512530324988086913:=0
def tw5173206005509540422:=0
def tw4107198406494774638:=0
def tw15804161136362000792:=0
def tw7600334302578843768:=0
def tw15585315471805061512:=0
def tw8881830797190643381:=0
def tw1648239964659309928:=0
def tw1995751102882617219:=0
def tw10001137145724089667:=0
def tw10684180578328315577:=0
def tw6030438242615181869:=0
def tw2659410088328088813:=0
def tw835465437904028641:=0
def tw8874634067759050479:=0
def tw133304007834455944:=0
def tw8807263172778641935:=0
def tw5910363122918261965:=0
def tw7426245811628763383:=0
def tw15857352362998597028:=0
def tw17624929294227400660:=0
def tw9332195662539838485:=0
def tw17385903194476329973:=0
def tw16747130223686576862:=0
def tw4396865285127364488:=0
def tw2155266963419264081:=0
def tw13194971239481382409:=0
def tw3487623684007196822:=0
def tw11527926359905062284:=0
def tw10302462525888034128:=0
def tw1701563690635434346:=0
def tw11635914289140925199:=0
def tw8618930684348257219:=0
def tw7111080184933492622:=0
def tw6324871209214079666:=0
def tw18118809138488550219:=0
def tw11297980213451135768:=0
def tw14657779648369489942:=0
def tw16963323111516059418:=0
def tw16720366647860026733:=0
def tw14339363377274916294:=0
def tw5865080492515347087:=0
def tw8789449486122684651:=0
def tw11985782761414338192:=0
def tw15839350418812191490:=0
def tw14740743047796449274:=0
def tw409501207099469957:=0
def tw11577401490209777941:=0
def tw1382729778309209445:=0
def tw18277540991752185057:=0
def tw12032563909656899111:=0
def tw15213149226695651547:=0
def tw15255378759980705841:=0
def tw9245666575450535590:=0
def tw12025342238795529243:=0
def tw3254851702121269400:=0
def tw7994233683211382066:=0
def tw1293166709311036611:=0
def tw10399255189288185994:=0
def tw9710887073814948023:=0
def tw1759177640396321591:=0
def tw18355677769591493675:=0
def tw16123125766178960851:=0
def tw1196672031839081824:=0
def tw17224970107803634146:=0
def tw14577423683110064333:=0
def tw15640771581217341728:=0
def tw17734040902257182161:=0
def tw16423764441843813856:=0
def tw11176793658235545031:=0
def tw15325654886153532214:=0
def tw5262604030712002979:=0
def tw17630780334409769095:=0
def tw11304234855641580462:=0
def tw12597708764865368050:=0
def tw460208423312138479:=0
def tw3889942084282690330:=0
def tw16691370483472440590:=0
def tw14948093405109163363:=0
def tw6992874983692696221:=0
def tw4901812328854583003:=0
def tw15447115200581494862:=0
def tw17657808291882333395:=0
def tw2321795736671218036:=0
def tw8416661141106193693:=0
def tw981479349377071798:=0
def tw7510027717146035841:=0
def tw13805969465146345118:=0
def tw4080008945708258699:=0
def tw14988728359259347500:=0
def tw7096762578940035531:=0
def tw13659414318784614958:=0
def tw18171506995334981804:=0
def tw15034200351668086881:=0
def tw10612592127762798309:=0
def tw10884716063649426460:=0
def tw11762403030769707900:=0
def tw10723812175522555219:=0
def tw5720090382189523972:=0
def tw6401165112455538566:=0
def tw9668259365791775869:=0
def tw12047522808467999134:=0
def tw3835054908247723298:=0
def tw9095899522050209119:=0
def tw10439326868573201875:=0
def tw1267973073859359911:=0
def tw16337326516794417744:=0
def tw9670251501798180268:=0
def tw7855132638624741752:=0
def tw1352876116130340405:=0
def tw6913085073158688782:=0
def tw9635465159560320834:=0
def tw12755329123684606175:=0
def tw1459787596209552088:=0
def tw14040735421776499743:=0
def tw6061208448680001156:=0
def tw10926204617579635715:=0
def tw17237096251543743705:=0
def tw10317168235318898734:=0
def tw18089064807363083239:=0
def tw284232219399079683:=0
end PySem.W.Fast
open PySem PySem.W PyProof.Rows Gn
set_option maxRecDepth 100000 in
set_option maxHeartbeats 0 in
theorem PySem.Challenge.cw_fewspaces_k72_rows_and_parts_led_holds : PySem.Challenge.rw_fewspaces_k72_rows_and_parts_led.Holds := by
  w_on; o_law; k_head; (case hw => w_witness2)
  k_fill
  refine Gn.Za3 (l := PySem.Challenge.rw_fewspaces_k72_rows_and_parts_led) (F := K72.fns) (tk := K72.tk) (L := 47) (c := 440) (Pt := 438) (cl := fun _ => [24, 37, 49, 61, 73, 85, 97, 109, 121, 133, 145]) (fun ns s => K72.law_ok ns s) rfl rfl (fun w h Y => PySem.W.km_in_of Y) rfl (fun w => by kernel_rfl!) (fun w => by kernel_rfl!) ?F
  case F =>
    intro w mg fa h KX G hmg;refine' Gn.Zdt (fs := K72.fs) (zs := K72.zs) (gs := K72.gs) (sn := K72.sn) KX G hmg K72.okl.1 (fun i fn e => by rw [cD] at e; split at e; exact e; cases e) rfl #[1] ?A ?Z ?Y ?E ?L rfl rfl rfl (by decide +kernel) (Gn.Zgo (Pp := K72.pp) K72.okl.2.1 K72.okl.2.2 #[5] #[5] #[5] #[5] #[5]) ?R
    case A => repeat' (first|exact FnsAt.nil|refine' FnsAt.cons ?h1 ?h2 ?h3 ?h4 ?h5 ?_; (case h1 => k_is); (case h2 => k_is); (case h3 => k_is); (case h4 => k_is); (case h5 => first|exact bd1 fun _ _ _ _ _ _ _ => rfl|exact bd2 fun _ _ _ _ _ _ _ _ => rfl|exact bd3 fun _ _ _ _ _ _ _ _ _ => rfl|exact bd4 fun _ _ _ _ _ _ _ _ _ _ => rfl|exact bd5 fun _ _ _ _ _ _ _ _ _ _ _ => rfl|exact bd6 fun _ _ _ _ _ _ _ _ _ _ _ _ => rfl))
    case L => repeat' (first|exact FnsAt.nil|refine' FnsAt.cons ?h1 ?h2 ?h3 ?h4 ?h5 ?_; (case h1 => k_is); (case h2 => k_is); (case h3 => k_is); (case h4 => k_is); (case h5 => first|exact bd1 fun _ _ _ _ _ _ _ => rfl|exact bd2 fun _ _ _ _ _ _ _ _ => rfl|exact bd3 fun _ _ _ _ _ _ _ _ _ => rfl|exact bd4 fun _ _ _ _ _ _ _ _ _ _ => rfl|exact bd5 fun _ _ _ _ _ _ _ _ _ _ _ => rfl|exact bd6 fun _ _ _ _ _ _ _ _ _ _ _ _ => rfl))
    case Z => repeat' (first|exact ZsAt.nil|refine' ZsAt.cons ?h1 ?_; (case h1 => k_is))
    case Y => repeat' (first|exact GsAt.nil|refine' GsAt.cons ?h1 ?_; (case h1 => k_is))
    case E => kernel_rfl!
    case R => rfl
