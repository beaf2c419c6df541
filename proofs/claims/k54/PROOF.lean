import PyProof.Rows.All
import Wide.All
import OpenK.AllK
import Wide.FinOn
import Lean
import PyProof.EqAt
import PyProof.EqKinds
import PyProof.TupleCall
import PyProof.Dict
import PySem.Builtin.Tuple.Common
import PyProof.CodeObj
import PyProof.ListMulAny
import PyProof.NeKinds
import PyProof.ConsumeWalk
import PyProof.CompFree
import PyProof.Cells
import PyProof.ZipIter
import PyProof.Draws
import PyProof.EnumMake
import PyProof.SumWalk
import PyProof.Rows.SortRuns
import KE.KSortTup
import PyProof.Rows.SortRev
import PyProof.FactsAll.tuple
import KE.KRevIter
import PyProof.FactsAll.range_2
import PyProof.ListRange
import PyProof.TupleOfSeq
import PyProof.TupleOfGen
import PyProof.CallType
import PyProof.DictWalks
import PyProof.IsiH_list
import PyProof.RulesTry
import KE.KDictOf
import KE.KDictSum
import PyProof.Rows.SetFrom
import PyProof.FactsAll.set
import KE.KSortKey
import Wide.Seal
import PySem.Challenge.RW_fewspaces_k54_whole_misses
set_option Elab.async false
set_option linter.all false
set_option compiler.extract_closed false
set_option maxRecDepth 100000
set_option maxHeartbeats 0
local macro_rules
|`(#[$x,$y])=>`(⟨$x,$y⟩)
|`(#[$x,$y,$z,*])=>`(⟨$x,$y,$z,*⟩)
abbrev T9:=@if_pos
abbrev T8:=@if_neg
abbrev T7:=@absurd
abbrev T6:=@of_decide_eq_true
abbrev T5:=@decide_eq_true
abbrev T4:=@decide_eq_false
abbrev T0:=@decide_eq_true_eq
open Option renaming some->aa,none->ae,map_eq_some_iff->cx,isSome_iff_exists->de,bind_eq_some_iff->du,isNone_iff_eq_none->kx,isSome_some->nz,isSome_map->nQ,getD_none->oA,getD_some->oG,map_some->o9
open PySem renaming wpAny_bind->ab,Value->ao,Shared->au,wpAny_pure->ax,starEach->aL,Addr->aP,model->aT,wpAny->aY,Program->bt,sizeLine->bx,Str->bI,World->bL,foldedSetIterable->bS,wpAny_newObj_type->b6,Heap->cc,wpAny_holding->ck,Around->cn,compareOp->cr,assignEach->cA,eval->cI,wpAny_field->cK,wpAny_of_eq->cM,wpAny_call_entry->cS,mainGlobals->cT,sizeLine_eq->cU,wpAny_mono->cV,wpAny_callSpecial?_slot->cX,FuncData->c8,SetTable->c9,cLine->dA,bootBuiltins->dC,Builtin->dD,swapsWithSole->dN,swappedStores->dO,assign->dQ,wpAny_setState_of->d6,wpAny_standAt->eg,cellsFrom->ei,wpAny_rule->eA,wpAny_Call_Name_kw->eB,wpAny_seqItems->eE,wpAny_setField_rec->eG,wpAny_passesOwn->eQ,codeAny_builtin->eU,binaryOp->eW,NameKind->eX,mem_of_lookup->fc,Scope->fg,backTo->fj,wpAny_askSetting->fq,codeAny->fC,wpAny_truthy_bool->fL,wpAny_pyIter_list->fN,Obj->fP,Stmt->fU,holding->fV,rawInt->gc,behindInMarks->gd,intKind->gn,wpAny_specialOf->gq,call_meets->gy,wpAny_pyIter_tuple->gA,sliceBounds->gI,wpAny_pyIter_rangeiter->gM,codeAny_mono->gP,wpAny_setField->gU,sysModules->ic,wpAny_forIn_list->ir,wpAny_updateSeq_pair->iB,codeAny_of_tree->iK,wpAny_loadPart'->iO,Pos->iP,wpAny_typeOf->iT,swapsWith->iX,DictEntry->iZ,isSubtype_type->kn,wpAny_binaryOp_repeat_ref->ku,wpAny_assign_Name->kC,standAt->kD,pyIter->kQ,wpAny_onRaise->kU,wpAny_attempt->kW,plainId_quiet->k5,wpAny_eqBool_int->lh,noFill_tuple_add->lj,wpAny_isInstance->lv,wpAny_load->lE,wpAny_pyNext_list_item->lF,wpAny_pyNext_range_end->lG,IsPart->lI,typeIs_int->lL,IsPair->lO,richCompare_meets_room->lT,wpAny_execs_nil->l4,letOwnedTupleGo->l5,pushCells_keeps->l8,wpAny_pyNext_list_end->ml,exec_Assign_Name_used->mm,builtinLookup_eq_fast->mn,wpAny_loadName_local->mw,pyNext->my,firstArgMember->mD,ZipApart->mE,hashByValue->mO,getItem->mR,callerA->mS,wpAny_loadName_cell->mT,wpAny_setEntries_of->mX,assignInOrder->m4,seq_tuple_add->m5,wpAny_newList->m9,builtinsNs->nj,tupleKind_room_in1->nA,rule->nF,BindsTo->nI,concat_meets->nJ,wpAny_sequenceKey->nK,seqIndex_neg->nL,valueAt->nP,wpAny_pyIter_enum->nU,setAddHashed->n8,wpAny_storeSet_of->n9,wpAny_pyIter_slot->oa,tupleKind->oo,Sem->oq,PassesOwn->ot,reduceHash->oB,seqSlot_of->oC,pushCells->oH,seqItems?->oS,seqIndex_of->oT,IsZip->oU,wpAny_letGo->oV,unsupported->oW,wpAny_Name->pB,Operator->pC,bindArgs->pF,call->pH,Meets->pI,compTurn->pK,intKind_is->pL,setsByText->pY,again->rj,bindL->rn,bindC->rq,setItem->rA,Result->rB,Keyword->rC,Tok->rD,ret->rF,atKey->rJ
open List renaming mem_cons_of_mem->af,getElem?_eq_getElem->ag,mem_cons_self->ai,length_map->aq,mem_cons->ay,replicate->az,getD_eq_getElem?_getD->aA,size_toArray->aB,mem_map->aC,range->aE,length_cons->aF,getElem?_map->aH,mem_range->aN,mem_singleton->aQ,pairwise_cons->aR,getElem_mem->aV,all_eq_true->aX,length_range->a7,getElem?_eq_some_iff->a9,length_append->ba,getElem?_append_right->bh,map_cons->bi,getElem?_set_ne->bj,mem_append_right->bm,getElem?_eq_none->bn,pairwise_iff_getElem->bo,append_assoc->bp,length_take->bq,length_drop->br,replicate_succ->bv,getElem_of_mem->bw,map_map->bC,pairwise_map->bD,mem_append_left->bG,length_set->bH,getElem?_append_left->bJ,lookup_cons->bK,mem_append->bM,getElem?_range->bO,map_append->bP,getElem?_replicate->bT,length_eq_zero_iff->bU,ext_getElem?->bV,map_congr_left->bW,getElem?_set_self->bZ,mem_of_mem_drop->b5,zip_cons_cons->b9,length_replicate->cg,drop_eq_getElem_cons->cp,mem_filter->cq,not_mem_nil->cu,flatten_cons->cw,take_of_length_le->cy,pairwise_append->cz,take_append_drop->cC,append_nil->cF,mem_flatMap->cG,toArray->cO,nodup_cons->cQ,getElem?_take->c0,length_singleton->db,mem_of_getElem?->dr,mem_reverse->dv,reverse_perm->dF,sum_replicate_nat->dG,mem_of_mem_take->dS,getElem_drop->dZ,pairwise_singleton->d5,filterMap_cons->d8,length_flatMap->d9,drop_length->eo,contains_iff_mem->eK,pairwise_reverse->eL,getLast?_eq_some_iff->eO,find?_cons->eR,getElem_take->eZ,getElem?_inj->e8,map_uncurry_zip_eq_zipWith->fb,mem_map_of_mem->fe,ext_getElem->fw,filter_cons->fA,contains_cons->fE,map_replicate->fH,of_mem_zip->fI,dropLast_concat_getLast->fJ,nodup_range->fX,map_reverse->fY,extract_eq_take_drop->f8,mem_of_find?_eq_some->f9,getElem_append_left->gl,foldl_cons->gp,length_zip->gv,map_const'->gx,zip_nil_right->gD,find?_eq_none->gE,mem_replicate->gF,reverse_cons->gS,nodup_append->gV,zip_nil_left->g6,pairwise_lt_range->g8,getElem?_reverse->h7,length_filter_le->h8,take_length->io,getElem_map->iu,all_cons->iw,isEmpty_toArray->iz,getElem?_mapIdx->iA,mem_iff_getElem->iD,drop_append_of_le_length->iE,take_append_of_le_length->iF,nil_append->iI,forIn_cons->iJ,reverse_append->iQ,length_zipWith->iS,all_map->iU,take->i4,drop_zero->kf,drop_drop->kh,getElem?_drop->ki,drop_left->kj,take_left->kl,perm_append_singleton->ko,getElem?_zip_eq_some->kw,mem_or_eq_of_mem_set->ky,getLast?_eq_none_iff->kz,getElem_append_right->kA,take_sublist->kF,getElem?_set->kG,foldl_append->kP,contains->kT,length_erase_of_mem->k6,find?_range_eq_some->k8,eq_of_mem_replicate->lc,any_eq_true->lq,zipIdx_cons->lu,perm_middle->ly,map_flatMap->lD,range_succ_eq_map->lN,drop_of_length_le->lR,length_pos_of_mem->lW,getElem_cons_succ->lZ,find?_some->mf,range_succ->mh,length_nil->mj,pairwise_flatMap->mr,map->mG,mem_erase_of_ne->mK,any_cons->m7,mem_filterMap->nk,filterMap_map->nu,find?_toArray->nB,map_nil->nN,drop_sublist->nV,zipWith->on,drop_append->oJ,countP_cons->oK,zipIdx_nil->o0,forIn_nil->pN,take_take->pQ,perm_cons->pS,tail_cons->p0,map_tail->re,drop->rz,zip->rK
open Decidable renaming decide->aj
open Option.some renaming inj->ak
open Bool renaming true->al,false->am,and_eq_true->aG,false_ne_true->aI,eq_iff_iff->bN,false_eq_true->b8,not_true->fK,or_eq_true->gu,false_or->kR,not_false->mH,not_eq_true'->oh,and_false->pG,and_true->rc,true_and->rh
open PySem.W renaming Frag->ap,katRev->be,kia_one->c6,kia_tup->c7,fnOf->ee,kitAny->eI,kat_len->eS,kitx_list->gN,kitx_dict->gO,keepIn->gQ,nsIn->hG,kat_nil->iN,codeIn->i7,katRev->kZ,cellsFrom_some->lH,instObj->l0,OpenLaw->l6,lookIn->mz,kitOne->mC,KdlSrc->mJ,mg_of->nc,kitx_float->nq,kitx_tuple->nr,kitx_none->nG,kitx_bool->nH,plainGet->ou,kitx_int->ow,kitx_str->ox,kitx_own->oy,kat_cons->oP,kat_kind->oQ,kat_yes->o5,kat_one->o6,KatTups->o7,kat_len->pA,findIn->pE,KatLex->pT,kat_no->pU,kat_lt->pV,WalkO->p7
open PySem.Heap renaming get?_push_of_some->aw,lt_size->aJ,get?_push_size->aO,size_push->cZ,get?_update_self->eJ,SameBut->fB,get?_push_ne->gY,ExtBut->kJ,size_update->lw,get?_update_other->lK,get?_update_ne->mW
open Array renaming length_toList->aD,getElem?_eq_getElem->aS,getElem?_toList->aZ,perm_iff_toList_perm->bB,toList_append->cE,getD_eq_getD_getElem?->dz,toList_push->d3,size_push->d7,toList_setIfInBounds->fS,size_extract->gC,size_append->gW,toList_extract->iC,forIn_toList->kr,size_setIfInBounds->kX,getElem?_eq_none->lQ,mem_toList_iff->mB,toList_reverse->mF,size_reverse->nD,toList_inj->oM,toList_map->oN,replicate->pc,size_map->pX
open PyProof.Rows renaming wpS_bind->aK,wpS_pure->aU,arrOf->a8,pendingOf->bc,SortSt->bR,Keyed->bY,callWith_type1->b4,wpS_forRange->cD,slot_tuple_getitem->dJ,wpS_mono->eY,seqObj->fv,wpS_modify->fF,SortKind->fR,elem'->f7,failedOf->gj,wpS_get->gX,callWith_builtin1->ig,setPending->iq,assignInOrder_cons->i5,envOfC->i6,list_sort_rev->km,AllBare->kB,subscriptTail_builtinR->lJ,wpS->mv,entry_tuple_getitem->mU,listUpdate_at->m8,args_tuple_getitem->nv,assignInOrder_nil->nE,seqEpoch_at->oX,IntsAre->pk,minRun'->pz,boot_range->pD,size_push'->pR,IsTup->rE,Call_->rG
open Nat renaming le_refl->aM,lt_of_lt_of_le->bg,lt_irrefl->bu,ne_of_lt->bz,le_trans->cf,zero_le->cL,pow_le_pow_right->dy,lt_succ_of_lt->dE,lt_trans->dR,lt_of_succ_lt->d4,le_of_not_lt->fm,le_add_right->fu,mul_comm->fD,ne_of_gt->fW,pow_succ->fZ,lt_of_le_of_ne->gB,le_of_lt->gL,zero_add->g7,lt_succ_self->ip,mul_le_mul->kc,le_succ->kK,lt_trichotomy->kO,add_assoc->kY,mul_assoc->k9,le_mul_of_pos_right->lC,mod_lt->lV,min_eq_left->me,mul_le_mul_right->mP,mul_le_mul_left->mZ,pow_le_pow_left->m3,lt_of_le_of_lt->nC,add_comm->nM,le_of_eq->nO,min_self->nS,add_zero->nY,succ_add->n5,pow_pos->oY,le_antisymm->pj
open And renaming intro->aW
open PySem.Value renaming none->bf,ref->bX,bool->dq,int->lg,type->ni,isStrOf->p6
open List.Perm renaming refl->bE,of_eq->gw,swap->gZ,nil_eq->oO
open PySem.NameKind renaming free->bF,cell->cH
open PySem.SetTable renaming bits->bQ,insertAt->b7,sizeAbove->cP,runEnd->cR,leap->dB,Probe->fz,grown->fT,turns->g9,fresh->kq,fill->k7,advance->lz,below->mL,layClean->n6,relaid->pe,fits->p9
open PySem.Builtin.Range renaming rangeFitsLong->cB,rangeSize->gG
open Int renaming emod_eq_of_lt->cW,emod_lt_of_pos->dM,emod_nonneg->eV,toNat_natCast->fO,natCast_mul->mi,toNat_of_nonneg->mY
open Pure renaming pure->cY
open True renaming intro->da
open List.Pairwise renaming imp_of_mem->dg,filter->e9,nil->fM
open PySem.Heap.SameBut renaming update->dH
open PySem.AutoSeq1 renaming wpAny_loadPart'->dL,sub_tuple_tuple->dP,wpAny_loadPart'->gh,idx_int->lm
open PySem.Around renaming under_plainId->dU
open Sum renaming inl->dW,inr->mQ
open PySem.Obj renaming mapSeq->eC,data_mapFields->eF,isFreed_of_fields->hZ,cls_mapFields->kL,putSet->pW,mapFields->rd
open PySem.F renaming slot_tuple_iterator_next->eD,args_tuple_add_2->gf,entry_tuple_add->gH,slot_tuple_add->gR,slot_int_rmul->iH,args_tuple_iterator_next_1->iL,slot_zip_next->iM,entry_tuple_iterator_next->iV,args_tuple_mul_2->i9,entry_tuple_mul->kH,slot_tuple_mul->ln,plain_list_iadd->lx,plain_reversed_new->mI,args_int_rmul_2->nR,args_zip_next_1->nT,args_tuple_lt_2->nZ,entry_int_rmul->oD,entry_zip_next->oI,entry_tuple_lt->oR,fills_int_mul->oZ,slot_tuple_lt->o8,plain_set_new->pb,slot_set_iter->pf
open PySem.Builtin.Slice renaming slicePlaces->eM,sliceAdjust->f6
open PySem.Builtin.SmallTypes renaming nextOf->eN
open LawfulBEq renaming eq_of_beq->fk
open PySem.SetTable.layClean renaming free->fG
open PySem.Builtin.Tuple renaming tupleItemsOf->fQ,tupleHashOf->ga,tupleHashOf->hU,tupleCompareSizes->hV,tupleTooMany->i8
open PySem.Builtin.List renaming listTooLong->gg,listLengthHint->iW
open PyProof.Rows.F renaming plain_set_update_loop->gK,entry_set_update_loop->lB
open PySem.SeqAt renaming EqAt->im
open PySem.SeqAt.EqAt renaming same->iG,of_refs->ke,int_str->ng,str_int->nh,int_int->ny
open Lean.Grind renaming CommRing->iR
open PyProof.Rows.IsTup renaming new->iY
open Break renaming runK->kg
open PySem.SeqAt.RcAt renaming tuples->kI,lists_lengths->kS,lists->oE
open PySem.SetTable.below renaming go->kM
open PySem.SetTable.probe renaming go->kN
open PySem.Str renaming ofString->lS
open ForIn renaming forIn->l7
open ForInStep renaming yield->l9
open Prod renaming fst->mM,snd->mN,ext->rH
open PySem.Builtin.Int renaming intBits->mV
open PySem.P renaming truthy_int->np
open PySem.pickOrder renaming go->n4
open PySem.hashByValue renaming eq_12->og
open Classical renaming not_not->oj
open Or renaming inr->oF
open PySem.PassesOwn renaming never->pi
open PyProof.Rows.SortSt renaming mk'->pO
open Min renaming min->p5
open PySem.Code renaming compLoop->p8
open List.cons renaming inj->rg
namespace L2
open PySem PySem.Spec PyProof.Rows
abbrev Key:=Sum Int bI
noncomputable def Jb:Key->ao->Bool
 |.inl k,v=>ao.isInt k v
 |.inr x,v=>p6 x v
noncomputable def Zg7(w:bL):Key->Int
 |.inl k=>hashInt k
 |.inr x=>hashStr w x
def ZZ:∀{k:Key}{v:ao},Jb k v=al->(∃i t,k=dW i/\v=lg i t)\/(∃x t,k=mQ x/\v=ao.str x t)
 |.inl i,v,h=>by
  obtain⟨t,e⟩:=ao.isInt_shape h;exact .inl #[i,t,rfl,e]
 |.inr x,v,h=>by
  obtain⟨t,e⟩:=ao.isStrOf_shape h;exact .inr #[x,t,rfl,e]
def qd(i:Int)(t:rD):Jb (.inl i) (.int i t)=al:=by simp[Jb,ao.isInt]
def uN(x:bI)(t:rD):Jb (.inr x) (.str x t)=al:=by simp[Jb,p6]
def Zem(a b:Int):aj ((dW a:Key)=dW b)=(a == b):=by
 by_cases e:a=b
 .subst e;simp
 .have h:¬(dW a:Key)=dW b:=λq=>e (dW.inj q)
  rw[T4 h];exact(beq_eq_false_iff_ne.mpr e).symm
def ZdZ(a b:bI):aj ((mQ a:Key)=mQ b)=aj (a=b):=by
 by_cases e:a=b
 .subst e;simp
 .have h:¬(mQ a:Key)=mQ b:=λq=>e (mQ.inj q)
  rw[T4 h,T4 e]
def ZfG(a:Int)(b:bI):aj ((dW a:Key)=mQ b)=am:=T4 (λq=>nomatch q)
def Zek(a:bI)(b:Int):aj ((mQ a:Key)=dW b)=am:=T4 (λq=>nomatch q)
noncomputable def YI(prog:bt)(w:bL):PySem.KeyKind prog w Key where
 is:=Jb
 hash:=Zg7 w
 inj:=λv a b ha hb=>by
  rcases ZZ ha with⟨i,t,rfl,rfl⟩|⟨x,t,rfl,rfl⟩
  .rcases ZZ hb with⟨j,u,rfl,e⟩|⟨y,u,rfl,e⟩
   .injection e with e1 _;rw[e1]
   .exact nomatch e
  .rcases ZZ hb with⟨j,u,rfl,e⟩|⟨y,u,rfl,e⟩
   .exact nomatch e
   .injection e with e1 _;rw[e1]
 byValue:=λk v h=>by
  rcases ZZ h with⟨i,t,rfl,rfl⟩|⟨x,t,rfl,rfl⟩<;>rfl
 pyHash:=λhv h=>by
  rcases ZZ hv with⟨i,t,rfl,rfl⟩|⟨x,t,rfl,rfl⟩
  .exact wpAny_pyHash_int h
  .exact wpAny_pyHash_str h
 eqBool:=λhu hv h=>by
  rcases ZZ hu with⟨i,t,rfl,rfl⟩|⟨x,t,rfl,rfl⟩
  .rcases ZZ hv with⟨j,u,rfl,rfl⟩|⟨y,u,rfl,rfl⟩
   .rw[Zem]at h;exact lh h
   .rw[ZfG]at h;exact ng i t y u _ _ _ _ h
  .rcases ZZ hv with⟨j,u,rfl,rfl⟩|⟨y,u,rfl,rfl⟩
   .rw[Zek]at h;exact nh x t j u _ _ _ _ h
   .rw[ZdZ]at h;exact wpAny_eqBool_str h
 «strs»:=λk x t v h=>by
  rcases ZZ h with⟨i,u,rfl,e⟩|⟨y,u,rfl,e⟩
  .exact nomatch e
  .injection e with e1 _
   subst e1;cases v<;>rfl
def yG(prog:bt)(w:bL)(i:Int)(t:rD):(YI prog w).is (.inl i) (.int i t)=al:=qd i t
def zD(prog:bt)(w:bL)(x:bI)(t:rD):(YI prog w).is (.inr x) (.str x t)=al:=uN x t
inductive V where
 |non|bl (b:Bool)|int (i:Int)|str (x:bI)|byt (b:Array UInt8)|flt (b:UInt64)|ref (a:aP)|ty (n:String)
 deriving DecidableEq
def ZD:V->ao->Prop
 |.non,u=>u=bf
 |.bl b,u=>u=dq b
 |.int i,u=>∃t,u=lg i t
 |.str x,u=>∃t,u=ao.str x t
 |.byt b,u=>∃t,u=ao.bytes b t
 |.flt b,u=>∃t,u=ao.float b t
 |.ref a,u=>u=bX a
 |.ty n,u=>u=ni n
abbrev Vals:List V->List ao->Prop:=Paired ZD
theorem Vals.length{xs:List V}{us:List ao}(r:Vals xs us):xs.length=us.length:=Paired.length r
theorem Vals.get:∀{xs:List V}{us:List ao}{i:Nat}{x:V},Vals xs us->xs[i]?=aa x->∃u,us[i]?=aa u/\ZD x u
 |_,_,_,_,.nil,e=>by simp at e
 |_,_,0,_,.cons r _,e=>by simp at e;subst e;exact#[_,rfl,r]
 |_,_,i+1,x,.cons _ t,e=>by
  obtain⟨u,h1,h2⟩:=Vals.get t (by simpa using e)
  exact#[u,by simpa using h1,h2]
theorem Vals.set(r:ZD x u):∀{xs:List V}{us:List ao}(i:Nat),Vals xs us->Vals (xs.set i x) (us.set i u)
 |_,_,_,.nil=>.nil
 |_,_,0,.cons _ t=>.cons r t
 |_,_,i+1,.cons q t=>.cons q<|Vals.set r i t
theorem Vals.append:∀{xs ys:List V}{us ws:List ao},Vals xs us->Vals ys ws->Vals (xs++ys) (us++ws)
 |_,_,_,_,.nil,s=>s
 |_,_,_,_,.cons r t,s=>.cons r<|Vals.append t s
theorem Vals.take:∀{xs:List V}{us:List ao}(n:Nat),Vals xs us->Vals (xs.take n) (us.take n)
 |_,_,0,_=>.nil
 |_,_,_+1,.nil=>.nil
 |_,_,n+1,.cons r t=>.cons r<|Vals.take n t
theorem Vals.drop:∀{xs:List V}{us:List ao}(n:Nat),Vals xs us->Vals (xs.drop n) (us.drop n)
 |_,_,0,r=>r
 |_,_,_+1,.nil=>.nil
 |_,_,n+1,.cons _ t=>Vals.drop n t
def xI:Option V->Option ao->Prop
 |some v,aa u=>ZD v u
 |none,ae=>True
 |_,_=>False
def KV{κ:Type}:List (κ×V)->List (κ×ao)->Prop:=Paired λ(p:κ×V) (q:κ×ao)=>p.1=q.1/\ZD p.2 q.2
noncomputable def kV:Key->V
 |.inl i=>.int i
 |.inr x=>.str x
inductive HO where
 |lst (xs:List V)
 |tup (xs:List V)
 |dK (kvs:List (Key×V))|dT (kvs:List (List Key×V))
 |set (S:Int->Bool) (n:Nat)
 |ins (C dx:aP) (fs:List (bI×V))
 |own (x:aP)
 |xd (fs:List (bI×V))
 |met (f x:aP)
 |rng (lo hi:Int)
 |frz (o:fP) (u:HO)
 |tbl (ps:Array ao)
 |ext (φ:cc->Prop)
abbrev Hp:=aP->Option HO
noncomputable def upd(H:Hp)(a:aP)(o:HO):Hp:=λb=>if b=a then aa o else H b
def ZL :upd H a o a=aa o:=by unfold upd;rw[T9 rfl]
def Zv(h:b≠a):upd H a o b=H b:=by unfold upd;rw[T8 h]
def ZO{H:Hp}{a b:aP}{o:HO}(h:H a=aa o)(h':H b=ae):a≠b:=by
 intro e;subst e;rw[h]at h';cases h'
section
variable(P:bt)(w:bL)
def Xk(H:Hp)(h:cc)(a:aP):HO->Prop
 |.lst xs=>xs.length<=bx/\∃(its:List ao)(n:Nat),Vals xs its/\h.get? a=aa {cls:=.type "list",data:=.seq its.toArray n}
 |.tup xs=>xs.length<=bx/\∃its:List ao,Vals xs its/\rE h a its.toArray
 |.dK kvs=>kvs.length<=bx/\(a == ic)=am/\∃vs,KV kvs vs/\h.DictOf (YI P w) a vs
 |.dT kvs=>kvs.length<=bx/\(a == ic)=am/\∃xs:List (List Key×aP×ao),
   Paired (λ(p:List Key×V) (q:List Key×aP×ao)=>p.1=q.1/\H q.2.1=aa (.tup<|p.1.map kV)/\ZD p.2 q.2.2) kvs xs/\
   ∃o es ep,h.get? a=aa o/\o.ExactDict/\o.data=.dict es ep/\es.toList=xs.map (entryOfKey<|oo<|YI P w)/\(xs.map (·.1)).Nodup
 |.set S n=>h.SetOf (gn P w) a S n
 |.ins C dx fs=>H dx=aa (.own a)/\fs.length<=1000/\dx≠a/\h.get? a=aa (l0 C dx)/\
   ∃mA,h.Ns1 dx mA/\(∀f,xI (fs.lookup f)<|mA f)/\PySem.Within mA (fs.map (·.1))
 |.own _=>∃o,h.get? a=aa o
 |.xd fs=>∃mA,h.Ns1 a mA/\∀f,xI (fs.lookup f)<|mA f
 |.rng lo hi=>∃t u v,h.get? a=aa {cls:=.type "range",data:=.fields [.int lo t,.int hi u,.int 1 v].toArray}
 |.frz o u=>h.get? a=aa o/\Xk H h a u
 |.tbl ps=>h.get? a=aa {cls:=.none,data:=.fields ps}
 |.met f x=>h.get? a=aa (PySem.W.methodObj (.ref f)<|.ref x)
 |.ext φ=>φ h/\(∃o,h.get? a=aa o)/\∀h1 h2:cc,φ h1->(∀o,h1.get? a=aa o->h2.get? a=aa o)->φ h2
def HOk(H:Hp)(h:cc):Prop:=∀a o,H a=aa o->Xk P w H h a o
end
theorem Xk.lt(x:Xk P w H h a o):a<h.objs.size:=by
 cases o with|lst xs=>obtain⟨_,_,_,_,e⟩:=x;exact aJ e|tup xs=>obtain⟨_,_,_,p⟩:=x;exact p.lt|dK kvs=>obtain⟨_,_,_,_,o,_,_,e,_⟩:=x;exact aJ e|dT kvs=>obtain⟨_,_,_,_,o,_,_,e,_⟩:=x;exact aJ e|set S n=>obtain⟨o,_,_,_,e,_⟩:=x;exact aJ e|ins C dx fs=>obtain⟨_,_,_,e,_⟩:=x;exact aJ e|own y=>obtain⟨_,e⟩:=x;exact aJ e|xd fs=>obtain⟨_,⟨_,_,_,e,_⟩,_⟩:=x;exact aJ e|rng lo hi=>obtain⟨_,_,_,e⟩:=x;exact aJ e|frz ob u=>obtain⟨e,_⟩:=x;exact aJ e|tbl ps=>exact aJ (x)|met f y=>exact aJ (x)|ext φ=>obtain⟨_,⟨_,e⟩,_⟩:=x;exact aJ e
theorem Paired.mapP{B β:Type}{F G:B->β->Prop}:∀{l₁:List B}{l₂:List β},Paired F l₁ l₂->(∀a b,F a b->G a b)->Paired G l₁ l₂
 |_,_,.nil,_=>.nil
 |_,_,.cons r t,f=>.cons (f _ _ r)<|Paired.mapP t f
def Xk.stay(x:Xk P w H h a o)(k:∀b u,(b=a\/H b=aa (.own a))->h.get? b=aa u->h'.get? b=aa u)
  (ho:∀b,H b=aa (.own a)->H' b=aa (.own a))(ht:∀b xs,H b=aa (.tup xs)->H' b=aa (.tup xs)):Xk P w H' h' a o:=by
 induction o with
 |lst xs=>obtain⟨z,its,n,r,e⟩:=x;exact#[z,its,n,r,k _ _ (.inl rfl) e]
 |tup xs=>obtain⟨z,its,r,ob,e,c⟩:=x;exact#[z,its,r,ob,k _ _ (.inl rfl) e,c]
 |dK kvs=>obtain⟨z,y,vs,r,ob,es,ep,e,c⟩:=x;exact#[z,y,vs,r,ob,es,ep,k _ _ (.inl rfl) e,c]
 |dT kvs=>
  obtain⟨z,y,xs,r,ob,es,ep,e,c⟩:=x;exact#[z,y,xs,Paired.mapP r λp q z=>#[z.1,ht _ _ z.2.1,z.2.2],ob,es,ep,k _ _ (.inl rfl) e,c]
 |set S n=>obtain⟨ob,es,ep,t,e,c⟩:=x;exact#[ob,es,ep,t,k _ _ (.inl rfl) e,c]
 |ins C dx fs=>
  obtain⟨d,z,ne,e,mA,⟨od,es,ep,e2,c⟩,r⟩:=x;exact#[ho _ d,z,ne,k _ _ (.inl rfl) e,mA,#[od,es,ep,k _ _ (.inr d) e2,c],r]
 |own y=>obtain⟨ob,e⟩:=x;exact#[ob,k _ _ (.inl rfl) e]
 |xd fs=>obtain⟨mA,⟨od,es,ep,e,c⟩,r⟩:=x;exact#[mA,#[od,es,ep,k _ _ (.inl rfl) e,c],r]
 |rng lo hi=>obtain⟨t,u,v,e⟩:=x;exact#[t,u,v,k _ _ (.inl rfl) e]
 |frz ob u ih=>obtain⟨e,q⟩:=x;exact#[k _ _ (.inl rfl) e,ih q]
 |tbl ps=>
  have e:=x;exact k a _ (.inl rfl) e
 |met f y=>
  have e:=x;exact k a _ (.inl rfl) e
 |ext φ=>obtain⟨p,⟨o,e⟩,st⟩:=x;exact#[st _ _ p λo q=>k _ _ (.inl rfl) q,#[o,k _ _ (.inl rfl) e],st]
theorem HOk.lt(x:HOk P w H h)(e:H a=aa o):a<h.objs.size:=(x a o e).lt
def HOk.fresh(x:HOk P w H h)(e:h.objs.size<=a):H a=ae:=by
 cases q:H a with|none=>rfl|some u=>exact T7 (bg (x.lt q) e)<|bu _
def HOk.kept(x:HOk P w H h)(k:∀b u,h.get? b=aa u->h'.get? b=aa u):HOk P w H h':=λa o e=>
 (x a o e).stay (λb u _ q=>k b u q) (λ_ q=>q) λ_ _ q=>q
def HOk.laid(x:HOk P w H h)(k:∀b u,h.get? b=aa u->h'.get? b=aa u)(hp:h.objs.size<=a)(new:Xk P w (upd H a o) h' a o):HOk P w (upd H a o) h':=λb u e=>by
 have hn:=x.fresh hp;by_cases hb:b=a
 .subst hb;rw[ZL]at e;cases e;exact new
 .rw[Zv hb]at e
  exact(x b u e).stay (λc v _ q=>k c v q) (λc q=>by rw[Zv<|ZO q hn];exact q) λc xs q=>by rw[Zv<|ZO q hn];exact q
def Rd(H:Hp)(a:aP)(u:HO):Prop:=H a=aa u\/∃o,H a=aa (.frz o u)
def Rd.ok(r:Rd H a u)(x:HOk P w H h):Xk P w H h a u:=by
 rcases r with r|⟨o,r⟩
 .exact x a u r
 .obtain⟨_,q⟩:=x a _ r
  exact q
def Mut:Option HO->Prop
 |some (.lst _)=>True
 |some (.dK _)=>True
 |some (.dT _)=>True
 |some (.set _ _)=>True
 |some (.ins _ _ _)=>True
 |some (.ext _)=>True
 |_=>False
def HOk.write(ok:HOk P w H h)(mu:Mut (H x))(he:e=x\/H e=aa (.own x))(k:∀b u,b≠e->h.get? b=aa u->h'.get? b=aa u)(heo:∃u,h'.get? e=aa u)
  (new:Xk P w (upd H x o') h' x o'):HOk P w (upd H x o') h':=λb u q=>by
 have nown:∀c y,H c=aa (.own y)->c≠x:=λc y r z=>by subst z;rw[r]at mu;exact mu
 have ntup:∀c xs,H c=aa (.tup xs)->c≠x:=λc xs r z=>by subst z;rw[r]at mu;exact mu
 by_cases hb:b=x
 .subst hb;rw[ZL]at q;cases q;exact new
 .rw[Zv hb]at q
  by_cases hbe:b=e
  .have q':H b=aa (.own x):=by
    rcases he with z|z
    .exact T7 (hbe.trans z) hb
    .rw[hbe];exact z
   rw[q]at q';cases q';obtain⟨v,hv⟩:=heo;exact#[v,by rw[hbe];exact hv]
  .refine(ok b u q).stay (λc v hc r=>k c v ?_ r) (λc r=>by rw[Zv<|nown c b r];exact r) λc xs r=>by rw[Zv<|ntup c xs r];exact r
   rcases hc with rfl|hc
   .exact hbe
   .rintro rfl
    rcases he with z|z
    .exact nown c b hc z
    .rw[hc]at z;cases z;exact hb rfl
structure Un(fs ex:List aP)(H H':Hp)(h h':cc):Prop where
 keep:∀b o,h.get? b=aa o->H b=ae->b∉fs->b∉ex->h'.get? b=aa o
 slot:∀b o,h.get? b=aa o->H b=ae->b∈fs->b∉ex->∃sl,h'.get? b=aa {o with slots:=sl}
 free:∀b o,h.get? b=aa o->H b=ae->b∉ex->H' b=ae
 there:∀b o,h.get? b=aa o->b∉ex->∃o',h'.get? b=aa o'
 tups:∀b xs,H b=aa (.tup xs)->H' b=aa (.tup xs)
 frzs:∀b o u,H b=aa (.frz o u)->H' b=aa (.frz o u)
 tbls:∀b ps,H b=aa (.tbl ps)->∃more,H' b=aa (.tbl<|ps++more)
def Un.any(u:Un fs ex H H1 h h1)(q:h.get? b=aa ob)(n:H b=ae)(hx:b∉ex):∃sl,h1.get? b=aa {ob with slots:=sl}:=by
 by_cases hb:b∈fs
 .exact u.slot b ob q n hb hx
 .exact#[ob.slots,u.keep b ob q n hb hx]
def Un.kept(k:∀b u,h.get? b=aa u->h'.get? b=aa u):Un fs ex H H h h':=
 #[λb ob q _ _ _=>k b ob q,λb ob q _ _ _=>#[ob.slots,k b ob q],λ_ _ _ n _=>n,λb ob q _=>#[ob,k b ob q],λ_ _ q=>q,λ_ _ _ q=>q,λ_ ps q=>#[#[],by rw[q];simp]]
def Un.refl:Un fs ex H H h h:=Un.kept λ_ _ q=>q
def Un.laid(k:∀b u,h.get? b=aa u->h'.get? b=aa u)(hp:h.objs.size<=a)(hn:H a=ae):Un fs ex H (upd H a o) h h' where
 keep:=λb u q _ _ _=>k b u q
 slot:=λb u q _ _ _=>#[u.slots,k b u q]
 free:=λb u q n _=>by rw[Zv<|bz<|bg (aJ q) hp];exact n
 there:=λb u q _=>#[u,k b u q]
 tups:=λb xs q=>by rw[Zv<|ZO q hn];exact q
 frzs:=λb u xs q=>by rw[Zv<|ZO q hn];exact q
 tbls:=λb ps q=>#[#[],by rw[Zv<|ZO q hn,q];simp]
def Un.write(mu:Mut (H x))(he:e=x\/H e=aa (.own x))(k:∀b u,b≠e->h.get? b=aa u->h'.get? b=aa u)(heo:∃u,h'.get? e=aa u):Un fs ex H (upd H x o) h h':=by
 have hx:∀b,H b=ae->b≠x:=λb n z=>by subst z;rw[n]at mu;exact mu
 have hb:∀b,H b=ae->b≠e:=λb n z=>by
  subst z;rcases he with r|r
  .exact hx b n r
  .rw[n]at r;cases r
 have hm:∀b u,H b=aa u->¬Mut (aa u)->b≠x:=λb u q nm z=>by subst z;rw[q]at mu;exact nm mu
 refine#[λb u q n _ _=>k b u (hb b n) q,λb u q n _ _=>#[u.slots,k b u (hb b n) q],λb u q n _=>by rw[Zv<|hx b n];exact n,λb u q _=>?_,
  λb xs q=>by rw[Zv<|hm b _ q λz=>z];exact q,λb u xs q=>by rw[Zv<|hm b _ q λz=>z];exact q,λb ps q=>#[#[],by rw[Zv<|hm b _ q λz=>z,q];simp]]
 by_cases hbe:b=e
 .subst hbe;exact heo
 .exact#[u,k b u hbe q]
noncomputable def trk(h:cc)(H:Hp):List aP:=(aE h.objs.size).filter λa=>(H a).isSome
noncomputable def G8(h:cc)(H:Hp):cc:=PySem.W.hideAll h<|trk h H
def qg(h:cc)(H:Hp):(G8 h H).objs.size=h.objs.size:=PySem.W.hideAll_size _ _
def Zah(e:h.get? b=aa o)(n:H b=ae):(G8 h H).get? b=aa o:=
 PySem.W.hideAll_get _ e λhm=>by
  have q:=(cq.mp hm).2;rw[n]at q;simp at q
def Zdm(e:(G8 h H).get? b=aa o):h.get? b=aa o/\H b=ae:=by
 have e':=PySem.W.of_hideAll (trk h H) e;refine#[e',?_];cases q:H b with
 |none=>rfl
 |some x=>
  have hm:b∈trk h H:=cq.mpr #[aN.mpr<|aJ e',by simp[q]]
  have z:(G8 h H).get? b=ae:=PySem.W.hideAll_none (trk h H) hm;rw[z]at e;cases e
structure Mod(K:ap)(mg:bI->Option ao)(base:cc):Prop where
 kin:K.In base
 glob:base.Ns cT mg
 blt:∃mb,base.Ns nj mb/\∀x:bI,x≠"__name__"->mb x=dC x
 nolimit:base.NoLimit
structure Cx where
 prog:bt
 w:bL
 K:ap
 mg:bI->Option ao
 base:cc
 A:cn
 N:List bI
 s₀:au
 H₀:Hp
 env:Env
 outer:List Env
 stack:List Env
 ex:List aP
 fn:bI->Bool
 calm:Bool
 pn:List (aP×fP)
 xe:ao->au->Prop
noncomputable def frs(l:List Env):List aP:=l.filterMap (·.frame)
noncomputable abbrev Cx.fs(X:Cx):List aP:=frs X.outer
def Vis(sc:fg)(x:bI):Prop:=sc.names.lookup x=aa .local\/sc.names.lookup x=aa .cell\/sc.names.lookup x=aa .free
def Loc(sc:fg)(x:bI):Prop:=sc.names.lookup x=aa .local\/sc.names.lookup x=aa .cell
def Look(env:Env)(h:cc)(m:bI->Option ao)(x:bI)(u:ao):Prop:=
 (env.kindOf x=aa .local/\m x=aa u)\/((env.kindOf x=aa .cell\/env.kindOf x=aa .free)/\∃c,env.cells.lookup x=aa c/\h.IsCell c (aa u))
structure Cx.Ok(X:Cx):Prop where
 mod:Mod X.K X.mg X.base
 kind:X.env.scope.kind=.function
 glob:X.env.globals=cT
 blt:X.env.builtins=nj
 above:X.s₀.heap.objs.size<=X.env.locals
 inj:∀x y c,X.env.cells.lookup x=aa c->X.env.cells.lookup y=aa c->x=y
 has:∀x,(X.env.kindOf x=aa .cell\/X.env.kindOf x=aa .free)->∃c,X.env.cells.lookup x=aa c
 cab:∀x c,X.fn x=al->X.env.cells.lookup x=aa c->X.s₀.heap.objs.size<=c
 hd:X.calm=al->X.A.handled=ae
 frames:X.A.frames=aa X.stack
 stk:X.stack=X.outer\/(X.stack=X.env::X.outer/\X.env.frame=aa X.env.locals)
 exf:∀b∈X.ex,b≠X.env.locals/\∀x c,X.env.cells.lookup x=aa c->c≠b
 bs:∀b o,X.base.get? b=aa o->X.s₀.heap.get? b=aa o/\X.H₀ b=ae
 bsz:X.base.objs.size<=X.s₀.heap.objs.size
 noex:∀b o,X.base.get? b=aa o->b∉X.ex
 exfs:∀b∈X.ex,b∉X.fs
 funs:X.s₀.heap.FunFrames X.base X.outer
 frf:∀b∈X.fs,X.H₀ b=ae
structure Inv(X:Cx)(pq:List (aP×fP))(Z:List (Option V))(H:Hp)(s:au):Prop where
 ok:X.Ok
 os:s.os=X.s₀.os
 bare:kB s.gens
 base:Un X.fs X.ex X.H₀ H X.s₀.heap s.heap
 loc:∃m,s.heap.Ns X.env.locals m/\∀(i:Nat)(x:bI)(v:V),X.N[i]?=aa x->Z[i]?=aa (aa v)->Vis X.env.scope x->∃u,ZD v u/\Look X.env s.heap m x u
 cell:∀x c,X.env.cells.lookup x=aa c->∃v,s.heap.IsCell c v
 free:H X.env.locals=ae
 freeC:∀x c,X.env.cells.lookup x=aa c->H c=ae
 pin:∀p∈X.pn++pq,s.heap.get? p.1=aa p.2/\H p.1=ae/\p.1≠X.env.locals/\p.1∉X.fs/\∀v,p.2.data≠.cell v
 hok:HOk X.prog X.w H s.heap
 len:Z.length=X.N.length
section
variable{X:Cx}{pq:List (aP×fP)}{Z:List (Option V)}{H H':Hp}{s:au}{h':cc}
def Cx.Ok.nofr(ok:X.Ok)(e:X.base.get? b=aa o):b∉X.fs:=λhb=>by
 have:=(ok.funs.mem hb).1;rw[e]at this;cases this
theorem Inv.bs(I:Inv X pq Z H s):∀b o,X.base.get? b=aa o->s.heap.get? b=aa o/\H b=ae:=λb o e=>
 #[I.base.keep b o (I.ok.bs b o e).1 (I.ok.bs b o e).2 (I.ok.nofr e)<|I.ok.noex b o e,I.base.free b o (I.ok.bs b o e).1 (I.ok.bs b o e).2<|I.ok.noex b o e]
def Inv.bk(I:Inv X pq Z H s):∀b o,X.base.get? b=aa o->s.heap.get? b=aa o:=λb o e=>(I.bs b o e).1
theorem Inv.mod(I:Inv X pq Z H s):Mod X.K X.mg X.base:=I.ok.mod
def Inv.kIn(I:Inv X pq Z H s):X.K.In s.heap:=I.ok.mod.kin.keeps I.bk
theorem Inv.lt(I:Inv X pq Z H s):X.env.locals<s.heap.objs.size:=let #[_,hn,_]:=I.loc;hn.lt
def Inv.sz(I:Inv X pq Z H s):X.s₀.heap.objs.size<=s.heap.objs.size:=cf I.ok.above<|gL I.lt
def Inv.nofs(I:Inv X pq Z H s)(h:s.heap.objs.size<=a):a∉X.fs:=λhb=>by
 obtain⟨_,o,ho,_⟩:=I.ok.funs.mem hb;exact T7 (bg (aJ ho)<|cf I.sz h)<|bu _
def Inv.cne(I:Inv X pq Z H s):∀x c,X.env.cells.lookup x=aa c->c≠X.env.locals:=λx c e z=>by
 obtain⟨v,o,ho,hd⟩:=I.cell x c e;obtain⟨m,⟨o',es,ep,ho',hd',_⟩,_⟩:=I.loc;rw[z,ho']at ho;cases ho;rw[hd']at hd;cases hd
theorem Inv.funs(I:Inv X pq Z H s):s.heap.FunFrames X.base X.outer:=by
 have all:∀(l:List Env),(∀b∈frs l,b∈X.fs)->X.s₀.heap.FunFrames X.base l->s.heap.FunFrames X.base l:=by
  intro l
  induction l with
  |nil=>intro _ _;trivial
  |cons env r ih=>
   intro hs hl;obtain⟨hk,⟨L,o,hf,hn,ho,hd⟩,hr⟩:=hl;have hL:=hs L (by unfold frs;rw[d8,hf];exact ai)
   obtain⟨sl,e⟩:=I.base.slot L o ho (I.ok.frf L hL) hL λz=>I.ok.exfs L z hL
   exact#[hk,#[L,_,hf,hn,e,hd],ih (λb hb=>hs b<|by unfold frs;rw[d8,hf];exact af _ hb) hr]
 exact all X.outer (λ_ hb=>hb) I.ok.funs
theorem Inv.stack(I:Inv X pq Z H s):s.heap.FunFrames X.base X.stack:=by
 rcases I.ok.stk with e|⟨e,hf⟩
 .rw[e];exact I.funs
 .rw[e]
  obtain⟨m,hn,_⟩:=I.loc;refine .cons (by rw[I.ok.kind];decide) hf hn ?_ I.funs
  exact cc.get?_none_of_le<|cf I.ok.bsz I.ok.above
def Inv.stkSub(I:Inv X pq Z H s):∀b∈frs X.stack,b∈X.env.locals::X.fs:=λb hb=>by
 rcases I.ok.stk with e|⟨e,hf⟩
 .rw[e]at hb;exact af _ hb
 .rw[e]at hb
  unfold frs at hb;rw[d8,hf]at hb;exact hb
def Inv.stkFree(I:Inv X pq Z H s):∀b∈frs X.stack,H b=ae:=λb hb=>by
 rcases ay.mp (I.stkSub b hb)with e|hb
 .rw[e];exact I.free
 .obtain⟨_,o,ho,_⟩:=I.ok.funs.mem hb
  exact I.base.free b o ho (I.ok.frf b hb) λz=>I.ok.exfs b z hb
def Inv.step{g':Array GenState}{t':Nat}{d':Drawn}{ch:List aP}(I:Inv X pq Z H s)
  (hch:∀b∈ch,(b∈X.ex\/X.s₀.heap.objs.size<=b)/\b≠X.env.locals/\(∀x c,X.env.cells.lookup x=aa c->c≠b)/\∀p∈X.pn++pq,p.1≠b)
  (keep:∀b o,b≠X.env.locals->b∉X.fs->b∉ch->s.heap.get? b=aa o->H b=ae->h'.get? b=aa o)
  (slot:∀b o,b≠X.env.locals->b∈X.fs->b∉ch->s.heap.get? b=aa o->H b=ae->∃sl,h'.get? b=aa {o with slots:=sl})(free:∀b o,b∉ch->s.heap.get? b=aa o->H b=ae->H' b=ae)
  (there:∀b o,b∉ch->s.heap.get? b=aa o->∃o',h'.get? b=aa o')
  (tups:∀b xs,H b=aa (.tup xs)->H' b=aa (.tup xs))(frzs:∀b o u,H b=aa (.frz o u)->H' b=aa (.frz o u))(tbls:∀b ps,H b=aa (.tbl ps)->∃more,H' b=aa (.tbl<|ps++more))
  (ns:∀m,s.heap.Ns X.env.locals m->h'.Ns X.env.locals m)(hok:HOk X.prog X.w H' h')(hg:kB g') :
  Inv X pq Z H' {s with heap:=h',gens:=g',drawn:=d',toks:=t' }:=by
 have neL:∀b o,X.s₀.heap.get? b=aa o->b≠X.env.locals:=λb o e=>bz<|bg (aJ e) I.ok.above
 have neC:∀b o,X.s₀.heap.get? b=aa o->b∉X.ex->b∉ch:=λb o e hx hb=>by
  rcases(hch b hb).1 with z|z
  .exact hx z
  .exact T7 (bg (aJ e) z)<|bu _
 have cellK:∀x c,X.env.cells.lookup x=aa c->∀v,s.heap.IsCell c v->h'.IsCell c v:=by
  rintro x c e v ⟨o,ho,hd⟩;have nch:=λz=>(hch c z).2.2.1 x c e rfl
  by_cases hc:c∈X.fs
  .obtain⟨sl,q⟩:=slot c o (I.cne x c e) hc nch ho (I.freeC x c e)
   exact#[_,q,hd]
  .exact#[o,keep c o (I.cne x c e) hc nch ho<|I.freeC x c e,hd]
 refine#[I.ok,I.os,hg,#[λb o e n hb hx=>?_,λb o e n hb hx=>?_,λb o e n hx=>?_,λb o e hx=>?_,λb xs e=>tups b xs<|I.base.tups b xs e,λb o xs e=>frzs b o xs<|I.base.frzs b o xs e,λb ps e=>?_],?_,λx c e=>?_,?_,λx c e=>?_,λp hp=>?_,hok,I.len]
 .exact keep b o (neL b o e) hb (neC b o e hx) (I.base.keep b o e n hb hx)<|I.base.free b o e n hx
 .obtain⟨sl,e1⟩:=I.base.slot b o e n hb hx
  obtain⟨sl',e2⟩:=slot b _ (neL b o e) hb (neC b o e hx) e1<|I.base.free b o e n hx;exact#[sl',e2]
 .obtain⟨o',e1⟩:=I.base.there b o e hx
  exact free b o' (neC b o e hx) e1<|I.base.free b o e n hx
 .obtain⟨o',e1⟩:=I.base.there b o e hx
  exact there b o' (neC b o e hx) e1
 .obtain⟨m1,e1⟩:=I.base.tbls b ps e
  obtain⟨m2,e2⟩:=tbls b _ e1;exact#[m1++m2,by rw[e2,Array.append_assoc]]
 .obtain⟨m,hn,hl⟩:=I.loc
  refine#[m,ns m hn,λi x v e1 e2 e3=>?_]
  obtain⟨u,r,l⟩:=hl i x v e1 e2 e3;refine#[u,r,?_];rcases l with l|⟨k,c,e,z⟩
  .exact .inl l
  .exact .inr #[k,c,e,cellK x c e _ z]
 .obtain⟨v,z⟩:=I.cell x c e
  exact#[v,cellK x c e v z]
 .obtain⟨m,⟨o,_,_,ho,_⟩,_⟩:=I.loc
  exact free _ o (λz=>(hch _ z).2.1 rfl) ho I.free
 .obtain⟨v,o,ho,hd⟩:=I.cell x c e
  exact free c o (λz=>(hch c z).2.2.1 x c e rfl) ho<|I.freeC x c e
 .obtain⟨e,n,ne,nf,d⟩:=I.pin p hp
  have nch:=λz=>(hch p.1 z).2.2.2 p hp rfl
  exact#[keep p.1 p.2 ne nf nch e n,free p.1 p.2 nch e n,ne,nf,d]
def Inv.un{t':Nat}(I:Inv X pq Z H s)(u:Un X.fs [] H H' s.heap h')(hok:HOk X.prog X.w H' h'):Inv X pq Z H' {s with heap:=h',toks:=t' }:=by
 obtain⟨m,⟨o,es,ep,ho,r⟩,_⟩:=id I.loc;obtain⟨sl,hL⟩:=u.any ho I.free (by simp)
 exact I.step (g':=s.gens) (d':=s.drawn) (ch:=[]) (λ_ z=>nomatch z) (λb o _ hb _ e n=>u.keep b o e n hb<|by simp) (λb o _ hb _ e n=>u.slot b o e n hb<|by simp) (λb o _ e n=>u.free b o e n<|by simp) (λb o _ e=>u.there b o e<|by simp) u.tups u.frzs u.tbls (λm' hm=>by
  obtain⟨o',es',ep',ho',r'⟩:=hm;rw[ho]at ho';cases ho';exact#[_,es',ep',hL,r']) hok I.bare
def Inv.call{g':Array GenState}{t':Nat}{d':Drawn}{ch:List aP}(I:Inv X pq Z H s)(u:Un (frs X.stack) ch H H' s.heap h')(hok:HOk X.prog X.w H' h')(hg:kB g')
  (hch:∀b∈ch,(b∈X.ex\/X.s₀.heap.objs.size<=b)/\b≠X.env.locals/\(∀x c,X.env.cells.lookup x=aa c->c≠b)/\∀p∈X.pn++pq,p.1≠b) :
  Inv X pq Z H' {s with heap:=h',gens:=g',drawn:=d',toks:=t' }:=by
 obtain⟨m,⟨o,es,ep,ho,r⟩,_⟩:=id I.loc;obtain⟨sl,hL⟩:=u.any ho I.free λz=>(hch _ z).2.1 rfl
 exact I.step hch (λb o hL hb hc e n=>u.keep b o e n (λz=>(ay.mp<|I.stkSub b z).elim hL hb) hc) (λb o _ _ hc e n=>u.any e n hc) (λb o hc e n=>u.free b o e n hc) (λb o hc e=>u.there b o e hc) u.tups u.frzs u.tbls (λm' hm=>by
  obtain⟨o',es',ep',ho',r'⟩:=hm;rw[ho]at ho';cases ho';exact#[_,es',ep',hL,r']) hok hg
def Inv.turned{t':Nat}{it:aP}(I:Inv X pq Z H s)(k:∀b o,b≠it->s.heap.get? b=aa o->h'.get? b=aa o)(hn:H it=ae)(hL:it≠X.env.locals)
  (h1:it∈X.ex\/X.s₀.heap.objs.size<=it)(h2:∀x c,X.env.cells.lookup x=aa c->c≠it)(h3:∀p∈X.pn++pq,p.1≠it):Inv X pq Z H {s with heap:=h',toks:=t' }:=by
 have nit:∀b u,H b=aa u->b≠it:=λb u e z=>by rw[z,hn]at e;cases e
 refine I.step (g':=s.gens) (d':=s.drawn) (ch:=[it]) (λb hb=>?_) (λb o _ _ hc e _=>k b o (λz=>hc<|by simp[z]) e) (λb o _ _ hc e _=>#[o.slots,k b o (λz=>hc<|by simp[z]) e]) (λ_ _ _ _ n=>n)
  (λb o hc e=>#[o,k b o (λz=>hc<|by simp[z]) e]) (λ_ _ e=>e) (λ_ _ _ e=>e) (λb ps e=>#[#[],by rw[e];simp]) (λm hm=>?_) (λb u e=>?_) I.bare
 .have e:b=it:=by simpa using hb
  subst e;exact#[h1,hL,h2,h3]
 .obtain⟨o,es,ep,ho,r⟩:=hm
  exact#[o,es,ep,k _ o (Ne.symm hL) ho,r]
 .refine(I.hok b u e).stay (λc v hc q=>k c v ?_ q) (λ_ q=>q) λ_ _ q=>q
  rcases hc with z|z
  .rw[z];exact nit b u e
  .exact nit c _ z
def Inv.tok(I:Inv X pq Z H s)(t:Nat):Inv X pq Z H {s with toks:=t}:=I.un (h':=s.heap) (t':=t) Un.refl I.hok
theorem Inv.kept(I:Inv X pq Z H s)(k:∀b u,s.heap.get? b=aa u->h'.get? b=aa u):Inv X pq Z H {s with heap:=h',toks:=t' }:=I.un (Un.kept k)<|I.hok.kept k
theorem Inv.laid(I:Inv X pq Z H s)(k:∀b u,s.heap.get? b=aa u->h'.get? b=aa u)(hp:s.heap.objs.size<=a)(new:Xk X.prog X.w (upd H a o) h' a o) :
  Inv X pq Z (upd H a o) {s with heap:=h',toks:=t' }:=I.un (Un.laid k hp<|I.hok.fresh hp)<|I.hok.laid k hp new
theorem Inv.write(I:Inv X pq Z H s)(mu:Mut (H x))(he:e=x\/H e=aa (.own x))(k:∀b u,b≠e->s.heap.get? b=aa u->h'.get? b=aa u)(heo:∃u,h'.get? e=aa u)
  (new:Xk X.prog X.w (upd H x o) h' x o):Inv X pq Z (upd H x o) {s with heap:=h',toks:=t' }:=I.un (Un.write mu he k heo)<|I.hok.write mu he k heo new
def Inv.pins_of(I:Inv X pq Z H s)(h:∀p∈pins',s.heap.get? p.1=aa p.2/\H p.1=ae/\p.1≠X.env.locals/\p.1∉X.fs/\∀v,p.2.data≠.cell v):Inv X pins' Z H s:=
 #[I.ok,I.os,I.bare,I.base,I.loc,I.cell,I.free,I.freeC,λp hp=>(bM.mp hp).elim (λz=>I.pin p<|bG _ z)<|h p,I.hok,I.len]
def zm{N:List bI}(hN:N.Nodup){i j:Nat}{x:bI}(a:N[i]?=aa x)(b:N[j]?=aa x):i=j:=by
 obtain⟨h1,e1⟩:=a9.mp a;obtain⟨h2,e2⟩:=a9.mp b;exact(List.getElem_inj hN).mp<|e1.trans e2.symm
def Ub{M:Model}{A:cn}{E:ao->au->Prop}{i:Nat}{x:bI}{v:V}{u:ao}{Q:Unit->au->Prop}(I:Inv X pq Z H s)(hN:X.N.Nodup)(hi:X.N[i]?=aa x)(hx:Loc X.env.scope x)(r:ZD v u)
  (h:∀s',Inv X pq (Z.set i<|aa v) H s'->(∃a,fB a s.heap s'.heap/\(a=X.env.locals\/X.env.cells.lookup x=aa a))->Q () s')(hf:X.fn x=al\/X.env.scope.names.lookup x=aa .local:=by first|exact .inl rfl|exact .inr rfl|assumption):aY M A (storeName X.env x u) Q E s:=by
 obtain⟨m,hn,hl⟩:=id I.loc;have hcls:(X.env.scope.kind == .class||(X.env.scope.kind == .module&&X.env.locals != X.env.globals))=am:=by rw[I.ok.kind];rfl
 have hiσ:i<Z.length:=by rw[I.len];exact(a9.mp hi).1
 have cne:=I.cne;have tracked:∀{a:aP}{h':cc},(∃o,s.heap.get? a=aa o/\H a=ae)->fB a s.heap h'->HOk X.prog X.w H h':=λ{a h'} ha hs b ob e=>by
  obtain⟨_,_,hfree⟩:=ha;refine(I.hok b ob e).stay (λc w' hc q=>(hs.2 c ?_).trans q) (λ_ q=>q) λ_ _ q=>q
  rintro rfl
  rcases hc with rfl|hc
  .rw[hfree]at e;cases e
  .rw[hfree]at hc;cases hc
 rcases hx with hk|hk
 .refine wpAny_storeName_local hk hn (λh' hn' hs=>?_) hcls
  obtain⟨oL,_,_,hoL,_⟩:=id hn;refine h _ #[I.ok,I.os,I.bare,#[λb o e n hb hx=>?_,λb o e n hb hx=>?_,I.base.free,λb o e hx=>?_,I.base.tups,I.base.frzs,I.base.tbls],#[_,hn',λj y v' e1 e2 e3=>?_],λy c e=>?_,I.free,I.freeC,λp hp=>?_,tracked #[oL,hoL,I.free] hs,by simpa using I.len] #[_,hs,.inl rfl]
  .exact(hs.2 b<|bz<|bg (aJ e) I.ok.above).trans<|I.base.keep b o e n hb hx
  .obtain⟨sl,e1⟩:=I.base.slot b o e n hb hx
   exact#[sl,(hs.2 b<|bz<|bg (aJ e) I.ok.above).trans e1]
  .obtain⟨o',e1⟩:=I.base.there b o e hx
   exact#[o',(hs.2 b<|bz<|bg (aJ e) I.ok.above).trans e1]
  .by_cases hj:j=i
   .subst hj
    rw[hi]at e1;cases e1;rw[bZ hiσ]at e2;cases e2;exact#[u,r,.inl #[hk,by simp]]
   .rw[bj<|Ne.symm hj]at e2
    obtain⟨u',r',q⟩:=hl j y v' e1 e2 e3;refine#[u',r',?_];rcases q with⟨k,e⟩|⟨k,c,e,z⟩
    .refine .inl #[k,?_]
     have:y≠x:=λe=>hj<|zm hN e1<|e▸hi
     simp[this,e]
    .exact .inr #[k,c,e,z.sameBut hs<|cne y c e]
  .obtain⟨w',z⟩:=I.cell y c e
   exact#[w',z.sameBut hs<|cne y c e]
  .obtain⟨e,n,ne,nf,d⟩:=I.pin p hp
   exact#[(hs.2 p.1 ne).trans e,n,ne,nf,d]
 .have hfn:X.fn x=al:=by
   rcases hf with z|z
   .exact z
   .rw[z]at hk;cases hk
  obtain⟨c,hc⟩:=I.ok.has x<|.inl hk;obtain⟨w',z⟩:=I.cell x c hc;refine wpAny_storeName_cell I.ok.kind hk hc z λh' hc' hs=>?_
  obtain⟨oc,hoc,hocd⟩:=id z;refine h {s with heap:=h' } #[I.ok,I.os,I.bare,#[λb o e n hb hx=>?_,λb o e n hb hx=>?_,I.base.free,λb o e hx=>?_,I.base.tups,I.base.frzs,I.base.tbls],#[m,hn.sameBut hs<|Ne.symm<|cne x c hc,λj y v' e1 e2 e3=>?_],λy c' e=>?_,I.free,I.freeC,λp hp=>?_,tracked #[oc,hoc,I.freeC x c hc] hs,by simpa using I.len] #[c,hs,.inr hc]
  .exact(hs.2 b<|bz<|bg (aJ e)<|I.ok.cab x c hfn hc).trans<|I.base.keep b o e n hb hx
  .obtain⟨sl,e1⟩:=I.base.slot b o e n hb hx
   exact#[sl,(hs.2 b<|bz<|bg (aJ e)<|I.ok.cab x c hfn hc).trans e1]
  .obtain⟨o',e1⟩:=I.base.there b o e hx
   exact#[o',(hs.2 b<|bz<|bg (aJ e)<|I.ok.cab x c hfn hc).trans e1]
  .by_cases hj:j=i
   .subst hj
    rw[hi]at e1;cases e1;rw[bZ hiσ]at e2;cases e2;exact#[u,r,.inr #[.inl hk,c,hc,hc']]
   .rw[bj<|Ne.symm hj]at e2
    obtain⟨u',r',q⟩:=hl j y v' e1 e2 e3;refine#[u',r',?_];rcases q with q|⟨k,c',e,z'⟩
    .exact .inl q
    .refine .inr #[k,c',e,z'.sameBut hs ?_]
     rintro rfl
     exact hj<|zm hN e1<|I.ok.inj _ _ _ e hc▸hi
  .by_cases hcc:c'=c
   .subst hcc;exact#[_,hc']
   .obtain⟨w2,z2⟩:=I.cell y c' e
    exact#[w2,z2.sameBut hs hcc]
  .obtain⟨e,n,ne,nf,d⟩:=I.pin p hp
   refine#[(hs.2 p.1 ?_).trans e,n,ne,nf,d];intro q;rw[q,hoc]at e;have q':=ak e;exact d w' (by rw[<-q'];exact hocd)
def Vy{E:ao->au->Prop}{Q:Unit->au->Prop}(I:Inv X pq Z H s)(hN:X.N.Nodup)(hi:X.N[i]?=aa x)(hx:Loc X.env.scope x)(r:ZD v u)
  (h:∀s',Inv X pq (Z.set i<|aa v) H s'->Q () s')(hf:X.fn x=al\/X.env.scope.names.lookup x=aa .local:=by first|exact .inl rfl|exact .inr rfl|assumption):aY M A (storeName X.env x u) Q E s:=
 Ub I hN hi hx r (λs' I' _=>h s' I') hf
def Inv.call'(I:Inv X pq Z H s)(ho:s'.os=s.os)(u:Un (frs X.stack) ch H H' s.heap s'.heap)(hok:HOk X.prog X.w H' s'.heap)(hg:kB s'.gens)
  (hch:∀b∈ch,(b∈X.ex\/X.s₀.heap.objs.size<=b)/\b≠X.env.locals/\(∀x c,X.env.cells.lookup x=aa c->c≠b)/\∀p∈X.pn++pq,p.1≠b):Inv X pq Z H' s':=by
 obtain⟨h',g',d',t',o'⟩:=s';have e:=ho;subst e;exact I.call (g':=g') (t':=t') (d':=d') u hok hg hch
end
abbrev XK:=ao->Option aP->Hp->Prop
abbrev St:=List<|Option V
abbrev VK:=V->Hp->Prop
abbrev TE:=St->Hp->VK->Prop
abbrev TT:=St->Hp->(Bool->Hp->Prop)->Prop
abbrev TA:=St->Hp->(List V->Hp->Prop)->Prop
structure Ends where
 nx:St->Hp->Prop
 rt:VK
 bk:St->Hp->Prop:=λ_ _=>False
 ct:St->Hp->Prop:=λ_ _=>False
abbrev TS:=Ends->St->Hp->Prop
def EP(X:Cx)(pq:List (aP×fP))(Z:St)(Q:VK)(u:ao)(s':au):Prop:=∃v H',Inv X pq Z H' s'/\ZD v u/\Q v H'
def TP(X:Cx)(pq:List (aP×fP))(Z:St)(Q:Bool->Hp->Prop)(b:Bool)(s':au):Prop:=∃H',Inv X pq Z H' s'/\Q b H'
def AP(X:Cx)(pq:List (aP×fP))(Z:St)(Q:List V->Hp->Prop)(us:List ao)(s':au):Prop:=∃vs H',Inv X pq Z H' s'/\Vals vs us/\Q vs H'
def SP(X:Cx)(pq:List (aP×fP))(D:Ends)(f:Flow)(s':au):Prop:=
 match f with
 |.next=>∃σ' H',Inv X pq σ' H' s'/\D.nx σ' H'
 |.brk=>∃σ' H',Inv X pq σ' H' s'/\D.bk σ' H'
 |.cont=>∃σ' H',Inv X pq σ' H' s'/\D.ct σ' H'
 |.ret u=>∃v σ' H',Inv X pq σ' H' s'/\ZD v u/\D.rt v H'
def PE(X:Cx)(e:Expr)(t:TE):Prop:=
 ∀(pq:List (aP×fP))(s:au)(Z:St)(H:Hp)(Q:VK),Inv X pq Z H s->t Z H Q->aY (aT X.prog X.w) X.A (cI e X.env) (EP X pq Z Q) X.xe s
def PT(X:Cx)(e:Expr)(t:TT):Prop:=
 ∀(pq:List (aP×fP))(s:au)(Z:St)(H:Hp)(Q:Bool->Hp->Prop),Inv X pq Z H s->t Z H Q->aY (aT X.prog X.w) X.A (isTrue e X.env<|cI e X.env) (TP X pq Z Q) X.xe s
def PW(X:Cx)(e:Expr)(t:TT):Prop:=
 ∀(whole:oq ao)(pq:List (aP×fP))(s:au)(Z:St)(H:Hp)(Q:Bool->Hp->Prop),Inv X pq Z H s->t Z H Q->aY (aT X.prog X.w) X.A (isTrue e X.env whole) (TP X pq Z Q) X.xe s
def PW.pt(h:PW X e t):PT X e t:=h _
def PA(X:Cx)(es:List Expr)(t:TA):Prop:=
 ∀(pos:iP)(pq:List (aP×fP))(s:au)(Z:St)(H:Hp)(Q:List V->Hp->Prop),Inv X pq Z H s->t Z H Q->aY (aT X.prog X.w) X.A (spliced<|fj pos<|aL es X.env) (AP X pq Z Q) X.xe s
def PS(X:Cx)(st:fU)(t:TS):Prop:=
 ∀(pq:List (aP×fP))(s:au)(Z:St)(H:Hp)(D:Ends),Inv X pq Z H s->t D Z H->aY (aT X.prog X.w) X.A (exec st X.env) (SP X pq D) X.xe s
def PSs(X:Cx)(st:List fU)(t:TS):Prop:=
 ∀(pq:List (aP×fP))(s:au)(Z:St)(H:Hp)(D:Ends),Inv X pq Z H s->t D Z H->aY (aT X.prog X.w) X.A (execs st X.env) (SP X pq D) X.xe s
def thn{B:Type}{t:oq B}{Q Q':B->au->Prop}{M:Model}{A:cn}{E:ao->au->Prop}{s:au}(h:aY M A t Q E s)(hQ:∀a s,Q a s->Q' a s):aY M A t Q' E s:=cV h hQ λ_ _ x=>x
def Zhf(i:Nat):TE:=λZ H Q=>∃v,Z[i]?=aa (aa v)/\Q v H
def tC(v:V):TE:=λ_ H Q=>Q v H
def Gc(hN:X.N[i]?=aa x)(hv:Vis X.env.scope x)(hd:(x == ("__debug__" : bI))=am:=by decide)(hcd:(x == ("__classdict__" : bI))=am:=by decide):PE X (.Name x pos) (Zhf i):=by
 intro pq s Z H Q I h;obtain⟨v,e,h⟩:=h;obtain⟨m,hn,hl⟩:=I.loc;obtain⟨u,r,l⟩:=hl i x v hN e hv;have fin:EP X pq Z Q u s:=#[v,H,I,r,h];rcases l with⟨hk,hm⟩|⟨hk,c,hc,hcell⟩
 .exact pB (mw I.ok.kind hk hn hm fin) hd
 .rcases hk with hk|hk
  .exact pB (mT I.ok.kind hk hc hcell fin) hd
  .exact pB (wpAny_loadName_free I.ok.kind hk hc hcell fin hcd) hd
def Gp{i j pos}:PE X (.Constant (.int i) j pos) (tC<|.int i):=λ_ _ _ H _ I h=>wpAny_Constant_int #[.int i,H,I.tok _,#[_,rfl],h]
def ZdH{b j pos}:PE X (.Constant (.bool b) j pos) (tC<|.bl b):=λ_ _ _ H _ I h=>Constant_bool #[.bl b,H,I,rfl,h]
def Zd3{j pos}:PE X (.Constant .none j pos) (tC .non):=λ_ _ _ H _ I h=>Constant_none #[.non,H,I,rfl,h]
def Gl(X:Cx)(x:bI):Prop:=X.env.kindOf x=aa .globalImplicit
def ZcF{E:ao->au->Prop}{Q:ao->au->Prop}(I:Inv X pq Z H s)(hg:Gl X x)(hm:X.mg x=aa u)(h:Q u s)
  (hd:(x == ("__debug__" : bI))=am:=by decide):aY (aT X.prog X.w) X.A (cI (.Name x pos) X.env) Q E s:=
 Calls.Name_function_global I.ok.kind hg (Calls.loadGlobal_global (by rw[I.ok.glob];exact I.mod.glob.keeps I.bk) hm h) hd
def YT{E:ao->au->Prop}{Q:ao->au->Prop}(I:Inv X pq Z H s)(hg:Gl X x)(hm:X.mg x=ae)(hv:dC x=aa u)(h:Q u s)
  (hn:x≠"__name__":=by decide)(hd:(x == ("__debug__" : bI))=am:=by decide):aY (aT X.prog X.w) X.A (cI (.Name x pos) X.env) Q E s:=by
 obtain⟨mb,h1,h2⟩:=I.mod.blt;exact Calls.Name_function_global I.ok.kind hg (Calls.loadGlobal_builtin (by rw[I.ok.glob];exact I.mod.glob.keeps I.bk) hm (by rw[I.ok.blt];exact h1.keeps I.bk) ((h2 x hn).trans hv) h) hd
def GD(hg:Gl X x)(hm:X.mg x=ae)(hv:dC x=aa u)(r:ZD v u)(hn:x≠"__name__":=by decide)(hd:(x == ("__debug__" : bI))=am:=by decide):PE X (.Name x pos) (tC v):=
 λ_ _ _ H _ I h=>YT I hg hm hv #[v,H,I,r,h] hn hd
def tOr(t u:TT):TT:=λZ H Q=>t Z H λc H1=>if c=al then Q al H1 else u Z H1 Q
def Zhg(t:TT):TT:=λZ H Q=>t Z H λc H1=>Q (!c) H1
def Zen(ha:PT X a tA):PW X (.BoolOp .Or [a] pos) tA:=by
 intro wh pq s Z H Q I h;refine isTrue_or<|thn (ha pq s Z H Q I h) λc s1 e=>?_
 cases c with|false=>exact isTrue_or_nil e|true=>exact e
def Zf3(ha:PT X a tA)(hb:PW X (.BoolOp .Or (b::rest) pos) tB'):PW X (.BoolOp .Or (a::b::rest) pos) (tOr tA tB'):=by
 intro wh pq s Z H Q I h;refine isTrue_or<|thn (ha pq s Z H _ I h) λc s1 #[H1,I1,q1]=>?_
 cases c with|true=>exact#[H1,I1,q1]|false=>exact hb wh pq s1 Z H1 Q I1 q1
def ZfA(ha:PT X a tA):PT X (.UnaryOp .Not a pos) (Zhg tA):=by
 intro pq s Z H Q I h;exact isTrue_not<|ha pq s Z H (λc H1=>Q (!c) H1) I h
def Zf7(ta tb:TE):TE:=λZ H Q=>ta Z H λx H1=>∃c,x=.bl c/\if c=al then tb Z H1 Q else Q (.bl am) H1
def ZeI{op}{t:TE}(h:PE X a t):PE X (.BoolOp op [a] pos) t:=λpq s Z H Q I hw=>BoolOp_one<|h pq s Z H Q I hw
def Zd7(ha:PE X a ta)(hb:PE X (.BoolOp .And (b::rest) pos) tb):PE X (.BoolOp .And (a::b::rest) pos) (Zf7 ta tb):=by
 intro pq s Z H Q I h;refine BoolOp_and<|thn (ha pq s Z H _ I h) λv s1 #[x,H1,I1,r1,q1]=>?_
 obtain⟨c,rfl,q1⟩:=q1;cases r1;refine fL ?_;cases c with|true=>exact hb pq s1 Z H1 Q I1 q1|false=>exact#[.bl am,H1,I1,rfl,q1]
def tIf(t:TT)(ta tb:TE):TE:=λZ H Q=>t Z H λc H1=>if c=al then ta Z H1 Q else tb Z H1 Q
def ZbB{c:Expr}(hc:PT X c tA)(ha:PE X a ta)(hb:PE X b tb):PE X (.IfExp c a b pos) (tIf tA ta tb):=by
 intro pq s Z H Q I h;refine wpAny_IfExp<|thn (hc pq s Z H _ I h) λd s1 #[H1,I1,q1]=>?_
 cases d with|true=>exact ha pq s1 Z H1 Q I1 q1|false=>exact hb pq s1 Z H1 Q I1 q1
def SqL(K:ap)(H:Hp)(a:aP)(xs:List V):Prop:=
 Rd H a (.lst xs)\/
  ∃(o:fP)(its:Array ao)(n:Nat),K.lookup a=aa o/\o.cls=.type "list"/\o.dict=ae/\o.data=.seq its n/\its.size<=bx/\Vals xs its.toList
def SqT(K:ap)(H:Hp)(a:aP)(xs:List V):Prop:=
 Rd H a (.tup xs)\/
  ∃(o:fP)(its:Array ao)(n:Nat),K.lookup a=aa o/\o.cls=.type "tuple"/\o.data=.seq its n/\its.size<=bx/\Vals xs its.toList
noncomputable def Zhe:ao->Option V
 |.none=>aa .non
 |.bool b=>aa<|.bl b
 |.int i _=>aa<|.int i
 |.str x _=>aa<|.str x
 |.bytes b _=>aa<|.byt b
 |.float b _=>aa<|.flt b
 |.ref a=>aa<|.ref a
 |.type n=>aa<|.ty n
 |_=>ae
def ZD.abs(r:ZD x u):Zhe u=aa x:=by
 cases x with|non=>cases r;rfl|bl _=>cases r;rfl|int _=>obtain⟨t,rfl⟩:=r;rfl|str _=>obtain⟨t,rfl⟩:=r;rfl|byt _=>obtain⟨t,rfl⟩:=r;rfl|flt _=>obtain⟨t,rfl⟩:=r;rfl|ref _=>cases r;rfl|ty _=>cases r;rfl
def ZD.inj{x y:V}{u:ao}(r:ZD x u)(q:ZD y u):x=y:=ak<|r.abs.symm.trans q.abs
theorem Vals.inj:∀{xs ys:List V}{us:List ao},Vals xs us->Vals ys us->xs=ys
 |_,_,_,.nil,.nil=>rfl
 |_,_,_,.cons r t,.cons r' t'=>by rw[r.inj r',Vals.inj t t']
def SqL.of{K:ap}(h:H a=aa (.lst xs)):SqL K H a xs:=.inl<|.inl h
def SqT.of{K:ap}(h:H a=aa (.tup xs)):SqT K H a xs:=.inl<|.inl h
def Inv.list(I:Inv X pq Z H s)(h:SqL X.K H a xs):∃its:List ao,Vals xs its/\PlainL s.heap a its.toArray/\xs.length<=bx:=by
 rcases h with h|⟨o,its,n,hk,hc,hd,hs,hz,r⟩
 .obtain⟨z,its,n,r,e⟩:=h.ok I.hok
  exact#[its,r,#[_,n,e,rfl,rfl,rfl],z]
 .refine#[its.toList,r,#[o,n,I.kIn a o hk,hc,hd,by simpa using hs],?_]
  have e:=r.length;simp only[aD]at e;lia
def Inv.tuple(I:Inv X pq Z H s)(h:SqT X.K H a xs):∃its:List ao,Vals xs its/\rE s.heap a its.toArray/\xs.length<=bx:=by
 rcases h with h|⟨o,its,n,hk,hc,hs,hz,r⟩
 .obtain⟨z,its,r,p⟩:=h.ok I.hok
  exact#[its,r,p,z]
 .refine#[its.toList,r,#[o,I.kIn a o hk,hc,n,by simpa using hs],?_]
  have e:=r.length;simp only[aD]at e;lia
def Inv.list_inj(I:Inv X pq Z H s)(h:SqL X.K H a xs)(h':SqL X.K H a ys):xs=ys:=by
 obtain⟨its,r,⟨o,n,e,_,_,d⟩,_⟩:=I.list h;obtain⟨its',r',⟨o',n',e',_,_,d'⟩,_⟩:=I.list h';rw[e]at e';cases e';rw[d]at d';injection d' with d1 _
 have:its=its':=by simpa using congrArg Array.toList d1
 subst this;exact r.inj r'
def Inv.tuple_inj(I:Inv X pq Z H s)(h:SqT X.K H a xs)(h':SqT X.K H a ys):xs=ys:=by
 obtain⟨its,r,⟨o,e,_,n,d⟩,_⟩:=I.tuple h;obtain⟨its',r',⟨o',e',_,n',d'⟩,_⟩:=I.tuple h';rw[e]at e';cases e';rw[d]at d';injection d' with d1 _
 have:its=its':=by simpa using congrArg Array.toList d1
 subst this;exact r.inj r'
noncomputable abbrev Cx.wish(X:Cx)(E:ao->au->Prop):Cx:={X with xe:=E}
noncomputable abbrev Cx.nox(X:Cx):Cx:=X.wish λ_ _=>False
theorem Cx.Ok.wish{X:Cx}(ok:X.Ok)(E:ao->au->Prop):(X.wish E).Ok:=
 #[ok.mod,ok.kind,ok.glob,ok.blt,ok.above,ok.inj,ok.has,ok.cab,ok.hd,ok.frames,ok.stk,ok.exf,ok.bs,ok.bsz,ok.noex,ok.exfs,ok.funs,ok.frf]
def Cx.Ok.unwish{X:Cx}{E:ao->au->Prop}(ok:(X.wish E).Ok):X.Ok:=
 #[ok.mod,ok.kind,ok.glob,ok.blt,ok.above,ok.inj,ok.has,ok.cab,ok.hd,ok.frames,ok.stk,ok.exf,ok.bs,ok.bsz,ok.noex,ok.exfs,ok.funs,ok.frf]
section
variable{X:Cx}{pq:List (aP×fP)}{Z:St}{H:Hp}{s:au}{E:ao->au->Prop}
theorem Inv.wish(I:Inv X pq Z H s)(E:ao->au->Prop):Inv (X.wish E) pq Z H s:=#[I.ok.wish E,I.os,I.bare,I.base,I.loc,I.cell,I.free,I.freeC,I.pin,I.hok,I.len]
theorem Inv.unwish(I:Inv (X.wish E) pq Z H s):Inv X pq Z H s:=#[I.ok.unwish,I.os,I.bare,I.base,I.loc,I.cell,I.free,I.freeC,I.pin,I.hok,I.len]
theorem SP.unwish{D:Ends}{f:Flow}{s':au}(h:SP (X.wish E) pq D f s'):SP X pq D f s':=by
 cases f with|next=>obtain⟨σ',H',I,q⟩:=h;exact#[σ',H',I.unwish,q]|brk=>obtain⟨σ',H',I,q⟩:=h;exact#[σ',H',I.unwish,q]|cont=>obtain⟨σ',H',I,q⟩:=h;exact#[σ',H',I.unwish,q]|ret u=>obtain⟨v,σ',H',I,r,q⟩:=h;exact#[v,σ',H',I.unwish,r,q]
theorem PSs.nox{st:List fU}{t:TS}(h:PSs X.nox st t):PSs X st t:=λpq s Z H D I hw=>
 cV (h pq s Z H D (I.wish _) hw) (λ_ _ q=>q.unwish) λ_ _ z=>False.elim z
end
section
variable{X:Cx}{st:fU}{rest:List fU}{t u:TS}{e:Expr}{te:TE}{pos:iP}
def Zgb:TS:=λD Z H=>D.nx Z H
def ZgV(t u:TS):TS:=λD Z H=>t {D with nx:=u D} Z H
def Zdq:PSs X [] Zgb:=λ_ _ Z H _ I h=>l4 #[Z,H,I,h]
def zu(h1:PS X st t)(h2:PSs X rest u):PSs X (st::rest) (ZgV t u):=by
 intro pq s Z H D I h;refine wpAny_execs_cons<|thn (h1 pq s Z H {D with nx:=u D} I h) λf s1 q=>?_
 cases f with
 |next=>
  obtain⟨σ',H',I',q⟩:=q;exact h2 pq s1 σ' H' D I' q
 |ret v=>exact q
 |brk=>exact q
 |cont=>exact q
def Inv.quiet(I:Inv X pq Z H s):interactive X.env=am:=by simp[interactive,I.ok.kind]
def ZfM(te:TE):TS:=λD Z H=>te Z H λ_ H1=>D.nx Z H1
def w6(he:PE X e te)(hs:iX e ae pos.line X.env=cY am:=by rfl):PS X (.Expr e pos) (ZfM te):=by
 intro pq s Z H D I h;exact wpAny_Expr_any (thn (he pq s Z H _ I h)<|by rintro v s1 ⟨x,H1,I1,r1,q1⟩;exact #[Z,H1,I1,q1]) I.quiet hs
def Zhj(te:TE):TS:=λD Z H=>te Z H D.rt
def ZaY(he:PE X e te):PS X (.Return (aa e) pos) (Zhj te):=by
 intro pq s Z H D I h;exact wpAny_Return_some<|thn (he pq s Z H _ I h)<|by rintro v s1 ⟨x,H1,I1,r1,q1⟩;exact #[x,Z,H1,I1,r1,q1]
def Zg4(c:TT)(t u:TS):TS:=λD Z H=>c Z H λb H1=>if b=al then t D Z H1 else u D Z H1
def ZfL{c:Expr}{a b:List fU}{tc:TT}(hc:PT X c tc)(ha:PSs X a t)(hb:PSs X b u):PS X (.If c a b pos) (Zg4 tc t u):=by
 intro pq s Z H D I h;refine wpAny_If<|thn (hc pq s Z H _ I h) λd s1 #[H1,I1,q1]=>?_
 cases d with|true=>exact ha pq s1 Z H1 D I1 q1|false=>exact hb pq s1 Z H1 D I1 q1
end
abbrev TG:=V->St->Hp->(St->Hp->Prop)->Prop
abbrev TGs:=List V->St->Hp->(St->Hp->Prop)->Prop
def PG(X:Cx)(target:Expr)(t:TG):Prop:=
 ∀(pq:List (aP×fP))(s:au)(Z:St)(H:Hp)(v:V)(u:ao)(Q:St->Hp->Prop),Inv X pq Z H s->ZD v u->t v Z H Q->
  aY (aT X.prog X.w) X.A (assign target X.env u) (λ_ s'=>∃σ' H',Inv X pq σ' H' s'/\Q σ' H') X.xe s
def PGs(X:Cx)(ts:List Expr)(t:TGs):Prop:=
 ∀(pq:List (aP×fP))(s:au)(Z:St)(H:Hp)(vs:List V)(us:List ao)(Q:St->Hp->Prop),Inv X pq Z H s->Vals vs us->t vs Z H Q->
  aY (aT X.prog X.w) X.A (m4 ((cA ts X.env).map (·.2)) us) (λ_ s'=>∃σ' H',Inv X pq σ' H' s'/\Q σ' H') X.xe s
abbrev TSet:=V->V->V->Hp->(Hp->Prop)->Prop
def PSet(X:Cx)(t:TSet):Prop:=
 ∀(pq:List (aP×fP))(s:au)(Z:St)(H:Hp)(o i v:V)(ov iv u:ao)(Q:Hp->Prop),Inv X pq Z H s->ZD o ov->ZD i iv->ZD v u->t o i v H Q->
  aY (aT X.prog X.w) X.A (rA ov iv u) (λ_ s'=>∃H',Inv X pq Z H' s'/\Q H') X.xe s
abbrev TIp:=V->V->Hp->VK->Prop
def PIp(X:Cx)(op:pC)(t:TIp):Prop:=
 ∀(pq:List (aP×fP))(s:au)(Z:St)(H:Hp)(x y:V)(v u:ao)(Q:VK),Inv X pq Z H s->ZD x v->ZD y u->t x y H Q->
  aY (aT X.prog X.w) X.A (inplaceOp op v u) (EP X pq Z Q) X.xe s
section
variable{X:Cx}{pos:iP}
def ZfY(i:Nat):TG:=λv Z H Q=>Q (Z.set i<|aa v) H
def J7(hN:X.N.Nodup)(hi:X.N[i]?=aa x)(hx:Loc X.env.scope x)(hf:X.fn x=al\/X.env.scope.names.lookup x=aa .local:=by first|exact .inl rfl|exact .inr rfl|assumption):PG X (.Name x pos) (ZfY i):=by
 intro pq s Z H v u Q I r h;exact kC<|Vy I hN hi hx r (λs' I'=>#[_,H,I',h]) hf
def ZgW:TGs:=λvs Z H Q=>vs=[]/\Q Z H
def Zgo(t:TG)(u:TGs):TGs:=λvs Z H Q=>∃v r,vs=v::r/\t v Z H λσ' H'=>u r σ' H' Q
def ZbG:PGs X [] ZgW:=by
 intro pq s Z H vs us Q I r h;obtain⟨e,h⟩:=h;subst e;cases r;exact nE #[Z,H,I,h]
def jb{e:Expr}{es:List Expr}{t:TG}{u:TGs}(h1:PG X e t)(h2:PGs X es u)
  (hs:(cA (e::es) X.env).map (·.2)=assign e X.env::(cA es X.env).map (·.2):=by rfl):PGs X (e::es) (Zgo t u):=by
 intro pq s Z H vs us Q I r h;obtain⟨v,vr,e1,h⟩:=h;subst e1;cases r with
 |cons r rr=>
  rw[hs];refine i5<|thn (h1 pq s Z H _ _ _ I r h) λ_ s1 #[σ1,H1,I1,q1]=>?_
  exact h2 pq s1 σ1 H1 _ _ Q I1 rr q1
def Zg5(K:ap)(n:Nat)(t:TGs):TG:=λv Z H Q=>∃a xs,v=.ref a/\SqT K H a xs/\xs.length=n/\t xs Z H Q
def ZfC(hc:X.calm=al)(h:PGs X es t)
  (hn:(cA es X.env).length=n:=by rfl)(hst:(cA es X.env).findIdx? (·.1)=ae:=by rfl):PG X (.Tuple es k pos) (Zg5 X.K n t):=by
 intro pq s Z H v u Q I r hw;obtain⟨a,xs,e1,hq,hl,hw⟩:=hw;subst e1;cases r;obtain⟨its,rv,ht,hz⟩:=I.tuple hq;refine assign_Tuple_tuple (I.ok.hd hc) ht (by simp[hn,<-hl,rv.length]) hst λh' hx=>?_
 have I1:=I.kept (t':=s.toks) λb o e=>hx b o (bz<|aJ e) e
 exact h pq _ Z H xs _ Q I1 (by simpa using rv) hw
def ZgO(to ti:TE)(t:TSet):TG:=λv Z H Q=>to Z H λo H1=>ti Z H1 λi H2=>t o i v H2 λH3=>Q Z H3
def jI{o i:Expr}{to ti:TE}{t:TSet}(ho:PE X o to)(hi:PE X i ti)(hs:PSet X t)
  (ha:∀v,assign (.Subscript o i pos) X.env v=(do
   let ov <-fV [v] (cI o X.env)
   let iv <-fV [v,ov] (cI i X.env)
   kD pos
   fV [v,ov,iv] (rA ov iv v)
   release [v,ov,iv] []):=by intro _;rfl):PG X (.Subscript o i pos) (ZgO to ti t):=by
 intro pq s Z H v u Q I r h;rw[ha];refine ab<|ck<|thn (ho pq s Z H _ I h) λov s1 #[x,H1,I1,r1,q1]=>?_
 refine ab<|ck<|thn (hi pq s1 Z H1 _ I1 q1) λiv s2 #[y,H2,I2,r2,q2]=>?_
 refine ab<|eg<|ab<|ck<|thn (hs pq s2 Z H2 x y v ov iv u _ I2 r1 r2 r q2) λ_ s3 #[H3,I3,q3]=>?_
 exact wpAny_release #[Z,H3,I3,q3]
def Zg2(te:TE)(g:TG):TS:=λD Z H=>te Z H λx H1=>g x Z H1 D.nx
def VU{tg e:Expr}{te:TE}{g:TG}(he:PE X e te)(hg:PG X tg g)(hs:dN [tg] e pos.line X.env=cY am:=by rfl)(hw:dO [tg] e X.env=cY ae:=by rfl)
  (h1:(cA [tg] X.env).map (·.2)=[assign tg X.env]:=by rfl):PS X (.Assign [tg] e pos) (Zg2 te g):=by
 intro pq s Z H D I h;refine wpAny_Assign_stores (thn (he pq s Z H _ I h) λv s1 #[x,H1,I1,r1,q1]=>?_) hs hw
 rw[h1];exact thn (hg pq s1 Z H1 x v _ I1 r1 q1) λ_ s2 q=>q
def Zhl(i j:Nat)(ta:TA):TS:=λD Z H=>ta Z H λvs H1=>∃v w,vs=[v,w]/\D.nx ((Z.set i<|aa v).set j<|aa w) H1
def ZeP{i j:Nat}{x y:bI}{a b:Expr}{ta:TA}{px py pt:iP}{kt k2 pt2}(hc:X.calm=al)(hN:X.N.Nodup)(hi:X.N[i]?=aa x)(hj:X.N[j]?=aa y)(hij:i≠j)
  (hx:X.env.scope.names.lookup x=aa .local)(hy:X.env.scope.names.lookup y=aa .local)(ha:PA X [a,b] ta)
  (hw:dO [.Tuple [.Name x px,.Name y py] kt pt] (.Tuple [a,b] k2 pt2) X.env=cY (aa [x,y]))
  (hs:dN [.Tuple [.Name x px,.Name y py] kt pt] (.Tuple [a,b] k2 pt2) pos.line X.env=cY am:=by rfl) :
  PS X (.Assign [.Tuple [.Name x px,.Name y py] kt pt] (.Tuple [a,b] k2 pt2) pos) (Zhl i j ta):=by
 intro pq s Z H D I h;rw[exec_Assign_arm];refine ab<|eg ?_;rw[hs];refine ab<|ax ?_;rw[T8 (by decide)]
 refine ab<|Tuple_<|thn (ha _ pq s Z H _ I h) λus s1 #[vs,H1,I1,r1,q1]=>?_
 obtain⟨v,w,e1,q1⟩:=q1;subst e1;obtain⟨u1,u2,rfl,rv,rw'⟩:∃u1 u2,us=[u1,u2]/\ZD v u1/\ZD w u2:=by
  cases r1 with
  |cons p q=>
   cases q with
   |cons p' q'=>
    cases q';exact#[_,_,rfl,p,p']
 refine b6 ?_ (by show 2<=bx;decide)
 have I2:Inv X pq Z H1 {s1 with heap:=s1.heap.push {cls:=.type "tuple",data:=.seq [u1,u2].toArray}}:=I1.kept (t':=s1.toks) λb o e=>aw _ e
 rw[hw];refine ab<|ax ?_;show aY (aT X.prog X.w) X.A (do nF "assign.swapped-stores";let items <-unpackItems (.ref s1.heap.objs.size) 2 ae;m4 [λv=>bindName X.env y v,λv=>bindName X.env x v] items.reverse;cY Flow.next) _ _ _
 refine ab<|eA<|ab<|unpackItems_tuple (items:=[u1,u2].toArray) (I.ok.hd hc) (iY s1.heap _) λh' hx'=>?_
 have I3:=I2.kept (h':=h') (t':=s1.toks) λb o e=>hx' b o (bz<|aJ e) e
 refine ab<|i5<|wpAny_bindName<|Vy I3 hN hj (.inl hy) rw' (λs2 I4=>?_)<|.inr hy
 refine i5<|wpAny_bindName<|Vy I4 hN hi (.inl hx) rv (λs3 I5=>nE<|ax ?_)<|.inr hx
 rw[List.set_comm _ _<|Ne.symm hij]at I5;exact#[_,H1,I5,q1]
def Zg8(i:Nat)(te:TE)(ti:TIp):TS:=λD Z H=>∃x,Z[i]?=aa (aa x)/\te Z H λy H1=>ti x y H1 λz H2=>D.nx (Z.set i<|aa z) H2
def Zef{i:Nat}{x:bI}{e:Expr}{te:TE}{op:pC}{ti:TIp}{pos':iP}(hN:X.N.Nodup)(hi:X.N[i]?=aa x)(hx:Loc X.env.scope x)(he:PE X e te)(ho:PIp X op ti)(hf:X.fn x=al\/X.env.scope.names.lookup x=aa .local:=by first|exact .inl rfl|exact .inr rfl|assumption) :
  PS X (.AugAssign (.Name x pos') op e pos) (Zg8 i te ti):=by
 intro pq s Z H D I h;obtain⟨v,e1,h⟩:=h;obtain⟨m,hn,hl⟩:=I.loc;have vis:Vis X.env.scope x:=by rcases hx with k|k;exact .inl k;exact .inr<|.inl k
 obtain⟨u,r,l⟩:=hl i x v hi e1 vis;refine wpAny_AugAssign_Name ?_;have go:aY (aT X.prog X.w) X.A (cI e X.env) (λw s₂=>aY (aT X.prog X.w) X.A (inplaceOp op u w) (λr s₃=>aY (aT X.prog X.w) X.A (storeName X.env x r) (λ_=>SP X pq D .next) X.xe s₃) X.xe s₂) X.xe s:=by
  refine thn (he pq s Z H _ I h) λw s1 #[y,H1,I1,r1,q1]=>?_
  refine thn (ho pq s1 Z H1 v y u w _ I1 r r1 q1) λz s2 #[zv,H2,I2,r2,q2]=>?_
  exact Vy I2 hN hi hx r2 (λs3 I3=>#[_,H2,I3,q2]) hf
 rcases l with⟨hk,hm⟩|⟨hk,c,hc,hcell⟩
 .exact mw I.ok.kind hk hn hm go
 .rcases hk with hk|hk
  .exact mT I.ok.kind hk hc hcell go
  .rcases hx with k|k
   .have:X.env.scope.names.lookup x=aa .free:=hk
    rw[k]at this;cases this
   .have:X.env.scope.names.lookup x=aa .free:=hk
    rw[k]at this;cases this
end
section
variable{X:Cx}{pos:iP}
def Zfh(c:TT)(tb:TS):TS:=λD Z H=>∃W:Nat->St->Hp->Prop,(∃m,W m Z H)/\∀m Z H,W m Z H->
 c Z H λb H1=>if b=al then ∃N:St->Hp->Prop,(∀σ' H',N σ' H'->∃m',m'<m/\W m' σ' H')/\tb {D with nx:=N,ct:=N,bk:=D.nx} Z H1 else D.nx Z H1
def Zag{c:Expr}{body:List fU}{tc:TT}{tb:TS}(hp:ot (aT X.prog X.w) X.A X.env X.xe)(hc:PT X c tc)(hb:PSs X body tb):PS X (.While c body [] pos) (Zfh tc tb):=by
 intro pq s Z H D I h;obtain⟨W,⟨m0,w0⟩,turn⟩:=h;refine wpAny_While<|codeAny_whileLoop (λn s'=>∃σ' H',Inv X pq σ' H' s'/\W n σ' H') ?_ m0 #[Z,H,I,w0]
 rintro n s1 ⟨σ1,H1,I1,w1⟩
 refine eQ hp<|thn (hc pq s1 σ1 H1 _ I1<|turn n σ1 H1 w1) λb s2 #[H2,I2,q2]=>?_
 cases b with
 |true=>
  obtain⟨N,hN,q2⟩:=q2;rw[T9 rfl];refine eQ hp<|thn (hb pq s2 σ1 H2 _ I2 q2) λf s3 q3=>?_
  cases f with
  |next=>
   obtain⟨σ3,H3,I3,n3⟩:=q3;obtain⟨m',hm,w3⟩:=hN σ3 H3 n3;exact#[m',hm,σ3,H3,I3,w3]
  |cont=>
   obtain⟨σ3,H3,I3,n3⟩:=q3;obtain⟨m',hm,w3⟩:=hN σ3 H3 n3;exact#[m',hm,σ3,H3,I3,w3]
  |brk=>exact q3
  |ret v=>exact q3
 |false=>
  rw[T8 aI];exact l4 #[σ1,H2,I2,q2]
end
structure It where
 go:Nat->Hp->Prop
 yld:Nat->Hp->V->Hp->Prop
 stop:Nat->Hp->Prop
def Vu(X:Cx)(pq:List (aP×fP))(H:Hp)(b:aP):Prop:=
 H b=ae/\b≠X.env.locals/\b∉X.fs/\(b∈X.ex\/X.s₀.heap.objs.size<=b)/\(∀x c,X.env.cells.lookup x=aa c->c≠b)/\∀p∈X.pn++pq,p.1≠b
def Inv.fpOk(I:Inv X pq Z H s)(hb:s.heap.objs.size<=b)(hn:H' b=ae):Vu X pq H' b:=by
 refine#[hn,fW<|bg I.lt hb,I.nofs hb,.inr<|cf I.sz hb,λx c e z=>?_,λp hp z=>?_]
 .obtain⟨v,q⟩:=I.cell x c e
  exact T7 (bg q.lt<|by rw[z];exact hb)<|bu _
 .exact T7 (bg (aJ (I.pin p hp).1)<|by rw[z];exact hb)<|bu _
structure Turn(P:bt)(w:bL)(K:ap)(tg:Expr)(J:It)(fp:List aP)(it:aP)(tn:Nat->cc->Prop):Prop where
 mem:it∈fp
 obj:∀i h,tn i h->∀b∈fp,∃o,h.get? b=aa o/\∀v,o.data≠.cell v
 keep:∀i h h',tn i h->(∀b∈fp,∀o,h.get? b=aa o->h'.get? b=aa o)->tn i h'
 item:∀(X:Cx),X.prog=P->X.w=w->X.K=K->X.calm=al->∀(i:Nat)(pq:List (aP×fP))(s:au)(Z:St)(H:Hp)(E:ao->au->Prop),Inv X pq Z H s->(∀b∈fp,Vu X pq H b)->tn i s.heap->J.go i H->
  aY (aT P w) X.A (my<|.ref it) (λr s1=>∃u,r=aa u/\
   aY (aT P w) X.A (l5 tg (.ref it) u) (λ_ s2=>∃x H',Inv X pq Z H' s2/\ZD x u/\J.yld i H x H'/\tn (i+1) s2.heap/\∀b∈fp,H' b=ae) E s1) E s
 done:∀(X:Cx),X.prog=P->X.w=w->X.K=K->X.calm=al->∀(i:Nat)(pq:List (aP×fP))(s:au)(Z:St)(H:Hp)(E:ao->au->Prop),Inv X pq Z H s->(∀b∈fp,Vu X pq H b)->tn i s.heap->J.stop i H->
  aY (aT P w) X.A (my<|.ref it) (λr s1=>r=ae/\Inv X pq Z H s1) E s
 self:∀(A:cn)(i:Nat)(s:au)(Q:ao->au->Prop)(E:ao->au->Prop),tn i s.heap->Q (.ref it) s->aY (aT P w) A (kQ<|.ref it) Q E s
abbrev TI:=St->Hp->(It->Hp->Prop)->Prop
def PIE(X:Cx)(pq:List (aP×fP))(Z:St)(tg:Expr)(R:It->Hp->Prop)(itv:ao)(s2:au):Prop:=
 ∃(it:aP)(fp:List aP)(tn:Nat->cc->Prop)(J:It)(H':Hp),itv=.ref it/\Inv X pq Z H' s2/\Turn X.prog X.w X.K tg J fp it tn/\tn 0 s2.heap/\(∀b∈fp,Vu X pq H' b)/\R J H'
def PI(X:Cx)(tg iter:Expr)(wi:TI):Prop:=
 ∀(pq:List (aP×fP))(s:au)(Z:St)(H:Hp)(R:It->Hp->Prop),Inv X pq Z H s->wi Z H R->
  aY (aT X.prog X.w) X.A (cI iter X.env) (λv s1=>aY (aT X.prog X.w) X.A (kQ v) (PIE X pq Z tg R) X.xe s1) X.xe s
def vN{E:ao->au->Prop}{Q:Unit->au->Prop}(ho:s.heap.get? it=aa o)(hc:o.cls=.type n)(hd:o.data=.fields vs)
  (hn:["enumerate","zip","dict_itemiterator","dict_reverseitemiterator","odict_iterator","itertools.zip_longest","itertools.pairwise"].contains n=am)(hQ:Q () s):aY M A (l5 tg (.ref it) u) Q E s:=by
 cases tg<;>first
  |exact ax hQ
  |(cases u<;>first
    |exact ax hQ
    |(refine ab (lE ho ?_)
      rw[hc,hd];show aY M A (if(["enumerate","zip","dict_itemiterator","dict_reverseitemiterator","odict_iterator","itertools.zip_longest","itertools.pairwise"].contains n&&vs[0]? == aa (gc _))=al then _ else _) Q E s
      rw[T8 (by intro h;rw[hn,Bool.false_and]at h;cases h)]
      exact ax hQ))
noncomputable def Itl(K:ap)(a:aP):It:=
 #[λi H=>∃xs x,SqL K H a xs/\xs[i]?=aa x,λi H x H'=>H'=H/\∀xs,SqL K H a xs->xs[i]?=aa x,λi H=>∃xs,SqL K H a xs/\xs.length<=i]
noncomputable def Itt(K:ap)(a:aP):It:=
 #[λi H=>∃xs x,SqT K H a xs/\xs[i]?=aa x,λi H x H'=>H'=H/\∀xs,SqT K H a xs->xs[i]?=aa x,λi H=>∃xs,SqT K H a xs/\xs.length<=i]
noncomputable def Itr(lo:Int)(n:Nat):It:=#[λi _=>i<n,λi H x H'=>H'=H/\x=.int (lo+i),λi _=>n<=i]
def u6{P:bt}{w:bL}{K:ap}{tg:Expr}(a it:aP):Turn P w K tg (Itl K a) [it] it (λi h=>h.IsListIter it a i) where
 mem:=by simp
 obj:=λi h st b hb=>by
  have e:b=it:=by simpa using hb
  subst e;obtain⟨o,e,c,d⟩:=st;exact#[o,e,λv z=>by rw[d]at z;cases z]
 keep:=λi h h' st k=>st.at λo e=>k it (by simp) o e
 item:=by
  intro X hP hw hK hc i pq s Z H E I hf st hg;subst hP hw hK;obtain⟨xs,x,hq,hx⟩:=hg;obtain⟨its,rv,p,hz⟩:=I.list hq;obtain⟨u,hu,ru⟩:=rv.get hx;obtain⟨f0,f1,f2,f3,f4,f5⟩:=hf it (by simp)
  refine lF st p.isList (by simpa using hu) λh' st' sb=>?_
  have I1:=I.turned (t':=s.toks) (λb o hb e=>(sb.2 b hb).trans e) f0 f1 f3 f4 f5
  obtain⟨o,e,c,d⟩:=id st';exact#[u,rfl,vN e c d (by decide) #[x,H,I1,ru,#[rfl,λys hy=>by rw[I.list_inj hy hq];exact hx],st',λb hb=>(hf b hb).1]]
 done:=by
  intro X hP hw hK hc i pq s Z H E I hf st hg;subst hP hw hK;obtain⟨xs,hq,hx⟩:=hg;obtain⟨its,rv,p,hz⟩:=I.list hq;obtain⟨f0,f1,f2,f3,f4,f5⟩:=hf it (by simp)
  have hl:=rv.length;exact ml (I.ok.hd hc) st p.isList (by simp;lia) λh' eb=>#[rfl,I.turned (t':=s.toks) (λb o hb e=>eb b o hb e) f0 f1 f3 f4 f5]
 self:=λ_ _ _ _ _ st h=>wpAny_pyIter_listiter st h
def xV{P:bt}{w:bL}{K:ap}{tg:Expr}(a it:aP):Turn P w K tg (Itt K a) [it] it (λi h=>h.IsTupleIter it a i) where
 mem:=by simp
 obj:=λi h st b hb=>by
  have e:b=it:=by simpa using hb
  subst e;obtain⟨o,e,c,d⟩:=st;exact#[o,e,λv z=>by rw[d]at z;cases z]
 keep:=λi h h' st k=>st.at λo e=>k it (by simp) o e
 item:=by
  intro X hP hw hK hc i pq s Z H E I hf st hg;subst hP hw hK;obtain⟨xs,x,hq,hx⟩:=hg;obtain⟨its,rv,p,hz⟩:=I.tuple hq;obtain⟨u,hu,ru⟩:=rv.get hx;obtain⟨f0,f1,f2,f3,f4,f5⟩:=hf it (by simp)
  refine wpAny_pyNext_tuple_item st (p) (by simpa using hu) λh' st' sb=>?_
  have I1:=I.turned (t':=s.toks) (λb o hb e=>(sb.2 b hb).trans e) f0 f1 f3 f4 f5
  obtain⟨o,e,c,d⟩:=id st';exact#[u,rfl,vN e c d (by decide) #[x,H,I1,ru,#[rfl,λys hy=>by rw[I.tuple_inj hy hq];exact hx],st',λb hb=>(hf b hb).1]]
 done:=by
  intro X hP hw hK hc i pq s Z H E I hf st hg;subst hP hw hK;obtain⟨xs,hq,hx⟩:=hg;obtain⟨its,rv,p,hz⟩:=I.tuple hq;obtain⟨f0,f1,f2,f3,f4,f5⟩:=hf it (by simp)
  have hl:=rv.length;exact wpAny_pyNext_tuple_end (I.ok.hd hc) st (p) (by simp;lia) λh' eb=>#[rfl,I.turned (t':=s.toks) (λb o hb e=>eb b o hb e) f0 f1 f3 f4 f5]
 self:=λ_ _ _ _ _ st h=>wpAny_pyIter_tupleiter st h
def ww{P:bt}{w:bL}{K:ap}{tg:Expr}(it:aP)(lo:Int)(n:Nat):Turn P w K tg (Itr lo n) [it] it (λi h=>IsRangeIter h it (lo+(i:Nat)*1) ((n:Int)-(i:Nat)) 1) where
 mem:=by simp
 obj:=λi h st b hb=>by
  have e:b=it:=by simpa using hb
  subst e;exact#[_,st,λv z=>by
   have z':=z;cases z']
 keep:=λi h h' st k=>k it (by simp) _ st
 item:=by
  intro X hP hw hK hc i pq s Z H E I hf st hg;subst hP hw hK;obtain⟨f0,f1,f2,f3,f4,f5⟩:=hf it (by simp)
  have W:=Walks.range (prog:=X.prog) (w:=X.w) (I.ok.hd hc) it lo 1 n;refine W.item i s _ _ hg st λv h' tk hv st' kk=>?_
  obtain⟨t,rfl⟩:=hv;have I1:Inv X pq Z H {s with heap:=h',toks:=tk}:=I.turned (λb o hb e=>kk b o (by simpa using hb) e) f0 f1 f3 f4 f5
  refine#[_,rfl,vN st' rfl rfl (by decide) #[.int<|lo+i,H,I1,#[t,?_],#[rfl,rfl],st',λb hb=>(hf b hb).1]]
  rw[Int.mul_one]
 done:=by
  intro X hP hw hK hc i pq s Z H E I hf st hg;subst hP hw hK;obtain⟨f0,f1,f2,f3,f4,f5⟩:=hf it (by simp)
  exact lG (I.ok.hd hc) st (by have:n<=i:=hg;lia) λh' eb=>#[rfl,I.turned (t':=s.toks) (λb o hb e=>eb b o hb e) f0 f1 f3 f4 f5]
 self:=λ_ _ _ _ _ st h=>gM st h
section
variable{X:Cx}{tg:Expr}
theorem zY{pq:List (aP×fP)}{Z:St}{H:Hp}{s:au}{R:It->Hp->Prop}{E:ao->au->Prop}{lo hi:Int}{t u v:rD}{tk:Nat}(I:Inv X pq Z H s)(h1:-(2^62)<=lo)(h2:lo<2^62)(h3:-(2^62)<=hi)(h4:hi<2^62)
  (q:R (Itr lo (hi-lo).toNat) H):aY (aT X.prog X.w) X.A (kQ<|.ref s.heap.objs.size) (PIE X pq Z tg R) E {s with heap:=s.heap.push {cls:=.type "range",data:=.fields [.int lo t,.int hi u,.int 1 v].toArray},toks:=tk}:=by
 refine wpAny_pyIter_range (IsRange.new ..) (small_one h1 h2 h3 h4) ?_;have I1:Inv X pq Z H {s with heap:=s.heap.push {cls:=.type "range",data:=.fields [.int lo t,.int hi u,.int 1 v].toArray},toks:=tk}:=I.kept λb o e=>aw _ e
 refine#[(s.heap.push {cls:=.type "range",data:=.fields [.int lo t,.int hi u,.int 1 v].toArray}).objs.size,[(s.heap.push {cls:=.type "range",data:=.fields [.int lo t,.int hi u,.int 1 v].toArray}).objs.size],_,_,H,rfl,
  I1.kept (t':=tk) λb o e=>aw _ e,ww _ lo (hi-lo).toNat,?_,λb hb=>?_,q]
 .have e1:lo+((0:Nat):Int)*1=lo:=by simp
  have e2:(((hi-lo).toNat:Nat):Int)-((0:Nat):Int)=gG lo hi 1:=by rw[rangeSize_one];split<;>lia
  rw[e1,e2];exact aO _ rfl
 .have e:b=(s.heap.push {cls:=.type "range",data:=.fields [.int lo t,.int hi u,.int 1 v].toArray}).objs.size:=by simpa using hb
  subst e;exact I1.fpOk (aM _)<|I1.hok.fresh<|aM _
def ZgA(ta:TA):TI:=λZ H R=>ta Z H λvs H1=>∃j:Int,vs=[.int j]/\-(2^62)<=j/\j<2^62/\R (Itr 0 j.toNat) H1
def Zgl(ta:TA):TI:=λZ H R=>ta Z H λvs H1=>∃i j:Int,vs=[.int i,.int j]/\(-(2^62)<=i/\i<2^62/\-(2^62)<=j/\j<2^62)/\R (Itr i (j-i).toNat) H1
theorem qy{a:Expr}{ta:TA}{p pos:iP}(hg:Gl X "range")(hm:X.mg "range" = ae)(ha:PA X [a] ta)(hs:aL [a] X.env=[(am,cI a X.env)]:=by rfl):PI X tg (.Call (.Name "range" p) [a] [] pos) (ZgA ta):=by
 intro pq s Z H R I h;refine rG<|YT I hg hm pD<|b4 (thn (ha pos pq s Z H _ I h) λus s1 #[vs,H1,I1,r1,q1]=>?_) hs rfl
 obtain⟨j,e,q1,q2,q⟩:=q1;subst e;cases r1 with
 |cons r rr=>
  cases rr;obtain⟨t,rfl⟩:=r;exact call_range_1<|zY I1 (by lia) (by lia) q1 q2 (by simpa using q)
def qJ{a b:Expr}{ta:TA}{p pos:iP}(hg:Gl X "range")(hm:X.mg "range" = ae)(ha:PA X [a,b] ta)(hs:aL [a,b] X.env=[(am,cI a X.env),(am,cI b X.env)]:=by rfl)(hs2:aL [b] X.env=[(am,cI b X.env)]:=by rfl) :
  PI X tg (.Call (.Name "range" p) [a,b] [] pos) (Zgl ta):=by
 intro pq s Z H R I h;refine rG<|YT I hg hm pD<|b4 (thn (ha pos pq s Z H _ I h) λus s1 #[vs,H1,I1,r1,q1]=>?_) (by rw[hs,hs2]) (by rw[hs2];rfl)
 obtain⟨i,j,e,⟨q1,q2,q3,q4⟩,q⟩:=q1;subst e;cases r1 with
 |cons r rr=>
  cases rr with
  |cons r' rr=>
   cases rr;obtain⟨t,rfl⟩:=r;obtain⟨t',rfl⟩:=r';exact call_range_2<|zY I1 q1 q2 q3 q4 q
def ZgU(wi:TI)(g:TG)(tb:TS):TS:=λD Z H=>wi Z H λJ H1=>∃W:Nat->Nat->St->Hp->Prop,(∃m,W 0 m Z H1)/\∀i m Z H,W i m Z H->
 (J.stop i H/\D.nx Z H)\/(J.go i H/\∃N:St->Hp->Prop,(∀σ' H',N σ' H'->∃m',m'<m/\W (i+1) m' σ' H')/\∀x H',J.yld i H x H'->g x Z H' λσ2 H2=>tb {D with nx:=N,ct:=N,bk:=D.nx} σ2 H2)
noncomputable def QX(fp:List aP)(h:cc):List (aP×fP):=fp.filterMap λb=>(h.get? b).map λo=>(b,o)
def X0(hb:b∈fp)(e:h.get? b=aa o):(b,o)∈QX fp h:=nk.mpr #[b,hb,by rw[e];rfl]
def qD(hp:p∈QX fp h):p.1∈fp/\h.get? p.1=aa p.2:=by
 obtain⟨b,hb,e⟩:=nk.mp hp;cases q:h.get? b with
 |none=>rw[q]at e;cases e
 |some o=>
  rw[q]at e;have e':=ak e;subst e';exact#[hb,q]
def Inv.pinned(I:Inv X pq Z H s)(hf:∀b∈fp,Vu X pq H b)(ho:∀b∈fp,∃o,s.heap.get? b=aa o/\∀v,o.data≠.cell v):Inv X (pq++QX fp s.heap) Z H s:=
 I.pins_of λp hp=>(bM.mp hp).elim (λz=>I.pin p<|bm _ z) λz=>by
  obtain⟨hb,e⟩:=qD z;obtain⟨f0,f1,f2,_⟩:=hf p.1 hb;obtain⟨o,e',d⟩:=ho p.1 hb;rw[e]at e';cases e';exact#[e,f0,f1,f2,d]
def Inv.unpinned(I:Inv X (pq++pl) Z H s):Inv X pq Z H s:=I.pins_of λp hp=>I.pin p<|bm _<|bG _ hp
def Zfx{iter:Expr}{body:List fU}{wi:TI}{g:TG}{tb:TS}{pos:iP}(hp:ot (aT X.prog X.w) X.A X.env X.xe)(hc:X.calm=al)(hi:PI X tg iter wi)(hg:PG X tg g)(hb:PSs X body tb)
  (hs:∀x,bS iter X.env x=cY x:=by intro _;rfl):PS X (.For tg iter body [] pos) (ZgU wi g tb):=by
 intro pq s Z H D I h;refine wpAny_For (thn (hi pq s Z H _ I h) λv s1 h1=>thn h1 λitv s2 h2=>?_) hs
 obtain⟨it,fp,tn,J,H2,e,I2,T,st2,f2,W,⟨m0,w0⟩,turn⟩:=h2;subst e;have stat:∀{H':Hp},(∀b∈fp,H' b=ae)->∀b∈fp,Vu X pq H' b:=λhn b hb=>#[hn b hb,(f2 b hb).2]
 refine codeAny_forLoop_any (λn s'=>∃i σ' H',Inv X pq σ' H' s'/\tn i s'.heap/\(∀b∈fp,H' b=ae)/\W i n σ' H') ?_ m0 #[0,Z,H2,I2,st2,λb hb=>(f2 b hb).1,w0]
 rintro n s3 ⟨i,σ3,H3,I3,st3,fr3,w3⟩
 rcases turn i n σ3 H3 w3 with⟨stop,qn⟩|⟨go,N,hN,step⟩
 .refine eQ hp (thn (T.done X rfl rfl rfl hc i pq s3 σ3 H3 X.xe I3 (stat fr3) st3 stop) λr s4 #[hr,I4]=>?_)
  subst hr;exact l4 #[σ3,H3,I4,qn]
 .refine eQ hp (thn (T.item X rfl rfl rfl hc i pq s3 σ3 H3 X.xe I3 (stat fr3) st3 go) λr s4 #[u,hr,h4]=>?_)
  subst hr;refine eQ hp<|thn h4 λ_ s5 #[x,H5,I5,r5,y5,st5,fr5]=>?_
  have I5':=I5.pinned (stat fr5)<|T.obj _ _ st5;refine eQ hp<|thn (hg _ s5 σ3 H5 x u _ I5' r5<|step x H5 y5) λ_ s6 #[σ6,H6,I6,q6]=>?_
  refine eQ hp<|thn (hb _ s6 σ6 H6 _ I6 q6) λf s7 q7=>?_
  have rj:∀{σ7:St}{H7:Hp},Inv X (pq++QX fp s5.heap) σ7 H7 s7->N σ7 H7->∃m,m<n/\∃i σ' H',Inv X pq σ' H' s7/\tn i s7.heap/\(∀b∈fp,H' b=ae)/\W i m σ' H':=λ{σ7 H7} I7 n7=>by
   obtain⟨m',hm,w7⟩:=hN σ7 H7 n7;refine#[m',hm,i+1,σ7,H7,I7.unpinned,T.keep _ _ _ st5 λb hb o e=>(I7.pin (b,o)<|bm _<|bm _<|X0 hb e).1,λb hb=>?_,w7]
   obtain⟨o,e,d⟩:=T.obj _ _ st5 b hb;exact(I7.pin (b,o)<|bm _<|bm _<|X0 hb e).2.1
  cases f with|next=>obtain⟨σ7,H7,I7,n7⟩:=q7;exact rj I7 n7|cont=>obtain⟨σ7,H7,I7,n7⟩:=q7;exact rj I7 n7|brk=>obtain⟨σ7,H7,I7,q7⟩:=q7;exact#[σ7,H7,I7.unpinned,q7]|ret v=>obtain⟨x7,σ7,H7,I7,r7,q7⟩:=q7;exact#[x7,σ7,H7,I7.unpinned,r7,q7]
end
abbrev R2:=V->V->Hp->VK->Prop
def OpR(X:Cx)(f:ao->ao->oq ao)(r:R2):Prop:=
 ∀(pq:List (aP×fP))(s:au)(Z:St)(H:Hp)(x y:V)(v u:ao)(Q:VK),Inv X pq Z H s->ZD x v->ZD y u->r x y H Q->
  aY (aT X.prog X.w) X.A (f v u) (EP X pq Z Q) X.xe s
def UnR(X:Cx)(f:ao->oq ao)(r:V->Hp->VK->Prop):Prop:=
 ∀(pq:List (aP×fP))(s:au)(Z:St)(H:Hp)(x:V)(v:ao)(Q:VK),Inv X pq Z H s->ZD x v->r x H Q->
  aY (aT X.prog X.w) X.A (f v) (EP X pq Z Q) X.xe s
def Z5(X:Cx)(f:ao)(r:List V->Hp->VK->Prop):Prop:=
 ∀(pq:List (aP×fP))(s:au)(Z:St)(H:Hp)(xs:List V)(us:List ao)(Q:VK),Inv X pq Z H s->Vals xs us->r xs H Q->
  aY (aT X.prog X.w) X.A (call f us) (EP X pq Z Q) X.xe s
def Zhc(X:Cx)(r:V->Hp->(Bool->Hp->Prop)->Prop):Prop:=
 ∀(pq:List (aP×fP))(s:au)(Z:St)(H:Hp)(x:V)(v:ao)(Q:Bool->Hp->Prop),Inv X pq Z H s->ZD x v->r x H Q->
  aY (aT X.prog X.w) X.A (truthy v) (TP X pq Z Q) X.xe s
def tOp(r:R2)(ta tb:TE):TE:=λZ H Q=>ta Z H λx H1=>tb Z H1 λy H2=>r x y H2 Q
def tUn(r:V->Hp->VK->Prop)(ta:TE):TE:=λZ H Q=>ta Z H λx H1=>r x H1 Q
def rI(C:Int->Int->Prop)(g:Int->Int->V):R2:=λx y H Q=>∃i j,x=.int i/\y=.int j/\C i j/\Q (g i j) H
def rI0(g:Int->Int->V):R2:=λx y H Q=>∃i j,x=.int i/\y=.int j/\Q (g i j) H
def rU(g:Int->V):V->Hp->VK->Prop:=λx H Q=>∃i,x=.int i/\Q (g i) H
section
variable{X:Cx}{a b c:Expr}{ta tb tc:TE}{pos:iP}
def Zfa(ha:PE X a ta)(hb:PE X b tb){pq:List (aP×fP)}{s:au}{Z:St}{H:Hp}{R:V->V->Hp->Prop}(I:Inv X pq Z H s)
  (h:ta Z H λx H1=>tb Z H1 λy H2=>R x y H2){Q:ao->au->Prop}{f:ao->ao->oq ao}
  (hf:∀v u s2 x y H2,Inv X pq Z H2 s2->ZD x v->ZD y u->R x y H2->aY (aT X.prog X.w) X.A (f v u) Q X.xe s2) :
  aY (aT X.prog X.w) X.A (cI a X.env) (λv s₁=>aY (aT X.prog X.w) X.A (cI b X.env) (λu s₂=>aY (aT X.prog X.w) X.A (f v u) Q X.xe s₂) X.xe s₁) X.xe s:=by
 refine thn (ha pq s Z H _ I h) λv s1 #[x,H1,I1,r1,q1]=>?_
 refine thn (hb pq s1 Z H1 _ I1 q1) λu s2 #[y,H2,I2,r2,q2]=>?_
 exact hf v u s2 x y H2 I2 r1 r2 q2
def UP(ho:OpR X (eW op) r)(ha:PE X a ta)(hb:PE X b tb):PE X (.BinOp a op b pos) (tOp r ta tb):=by
 intro pq s Z H Q I h;exact wpAny_BinOp<|Zfa ha hb I h λv u s2 x y H2 I2 rx ry q=>ho pq s2 Z H2 x y v u Q I2 rx ry q
def ZfK{op:UnaryOp}{r:V->Hp->VK->Prop}(ho:UnR X (unaryOp op) r)(ha:PE X a ta):PE X (.UnaryOp op a pos) (tUn r ta):=by
 intro pq s Z H Q I h;exact UnaryOp_<|thn (ha pq s Z H _ I h)<|by rintro v s1 ⟨x,H1,I1,r1,q1⟩;exact ho pq s1 Z H1 x v Q I1 r1 q1
def opI{f:ao->ao->oq ao}{C:Int->Int->Prop}{g:Int->Int->Int}
  (nF:∀(i j:Int)(t u:rD)(s:au)(Q:ao->au->Prop)(E:ao->au->Prop),C i j->Q (.int (g i j) s.toks) {s with toks:=s.toks+1}->aY (aT X.prog X.w) X.A (f (.int i t)<|.int j u) Q E s) :
  OpR X f (rI C λi j=>.int<|g i j):=by
 intro pq s Z H x y v u Q I rx ry h;obtain⟨i,j,rfl,rfl,hc,q⟩:=h;obtain⟨t,rfl⟩:=rx;obtain⟨t',rfl⟩:=ry;exact nF i j t t' s _ _ hc #[.int<|g i j,H,I.tok _,#[_,rfl],q]
def ZeE{f:ao->ao->oq ao}{g:Int->Int->Int}
  (nF:∀(i j:Int)(t u:rD)(s:au)(Q:ao->au->Prop)(E:ao->au->Prop),Q (.int (g i j) s.toks) {s with toks:=s.toks+1}->aY (aT X.prog X.w) X.A (f (.int i t)<|.int j u) Q E s) :
  OpR X f (rI0 λi j=>.int<|g i j):=by
 intro pq s Z H x y v u Q I rx ry h;obtain⟨i,j,rfl,rfl,q⟩:=h;obtain⟨t,rfl⟩:=rx;obtain⟨t',rfl⟩:=ry;exact nF i j t t' s _ _ #[.int<|g i j,H,I.tok _,#[_,rfl],q]
def ZcX{f:ao->ao->oq ao}{g:Int->Int->Bool}
  (nF:∀(i j:Int)(t u:rD)(s:au)(Q:ao->au->Prop)(E:ao->au->Prop),Q (.bool<|g i j) s->aY (aT X.prog X.w) X.A (f (.int i t)<|.int j u) Q E s) :
  OpR X f (rI0 λi j=>.bl<|g i j):=by
 intro pq s Z H x y v u Q I rx ry h;obtain⟨i,j,rfl,rfl,q⟩:=h;obtain⟨t,rfl⟩:=rx;obtain⟨t',rfl⟩:=ry;exact nF i j t t' s _ _ #[.bl<|g i j,H,I,rfl,q]
def CPow(i j:Int):Prop:=0<=j/\j<=1000000/\i.natAbs<2^64
def Ze7:OpR X (eW .Add) (rI0 λi j=>.int<|i+j):=ZeE λ_ _ _ _ _ _ _ q=>add_int q
def ZeD:OpR X (eW .Sub) (rI0 λi j=>.int<|i-j):=ZeE λ_ _ _ _ _ _ _ q=>sub_int q
theorem Zes:OpR X (eW .Mod) (rI (λ_ j=>0<j) λi j=>.int<|i%j):=opI λi j _ _ _ _ _ hc q=>by
 have h1:=hc;exact mod_int' (by lia) (by rw[Int.fmod_eq_emod_of_nonneg i (by lia)];exact q)
def Zfb:OpR X (eW .Pow) (rI CPow λi j=>.int<|i^j.toNat):=opI λ_ _ _ _ _ _ _ hc q=>pow_int_small hc.1 hc.2.1 hc.2.2 q
def Zcw:OpR X (inplaceOp .Add) (rI0 λi j=>.int<|i+j):=ZeE λ_ _ _ _ _ _ _ q=>iadd_int q
def unI{f:ao->oq ao}{g:Int->Int}
  (nF:∀(i:Int)(t:rD)(s:au)(Q:ao->au->Prop)(E:ao->au->Prop),Q (.int (g i) s.toks) {s with toks:=s.toks+1}->aY (aT X.prog X.w) X.A (f<|.int i t) Q E s) :
  UnR X f (rU λi=>.int<|g i):=by
 intro pq s Z H x v Q I rx h;obtain⟨i,rfl,q⟩:=h;obtain⟨t,rfl⟩:=rx;exact nF i t s _ _ #[.int<|g i,H,I.tok _,#[_,rfl],q]
def Zea:UnR X (unaryOp .USub) (rU λi=>.int<|-i):=unI λ_ _ _ _ _ q=>neg_int q
end
noncomputable def scal:V->V->Bool
 |.non,.non=>al|.non,.int _=>al|.int _,.non=>al|.non,.bl _=>al|.bl _,.non=>al|.non,.str _=>al|.str _,.non=>al
 |.int _,.int _=>al|.bl _,.bl _=>al|.str _,.str _=>al|.byt _,.byt _=>al
 |.int _,.str _=>al|.str _,.int _=>al|.bl _,.str _=>al|.str _,.bl _=>al
 |_,_=>am
def rEq:R2:=λx y H Q=>scal x y=al/\Q (.bl<|aj<|x=y) H
def rNe:R2:=λx y H Q=>scal x y=al/\Q (.bl<|!decide (x=y)) H
def wF :aj (V.int i=V.int j)=(i == j):=by
 rw[bN];simp
def Za3 :aj (V.bl i=V.bl j)=(i == j):=by
 rw[bN];simp
def vn :aj (V.str i=V.str j)=(i == j):=by
 rw[bN];simp
def vZ :aj (V.byt i=V.byt j)=(i.toList == j.toList):=by
 rw[bN];cases i;cases j;simp
section
variable{X:Cx}{a b c:Expr}{ta tb tc:TE}{pos:iP}
def ZA(I:Inv X pq Z H s)(q:Q (.bl k) H)(e:k=k'):EP X pq Z Q (.bool k') s:=by
 subst e;exact#[.bl k,H,I,rfl,q]
def ZfX:OpR X (cr .Eq) rEq:=by
 intro pq s Z H x y v u Q I rx ry h;obtain⟨hs,q⟩:=h;cases x with
 |non=>
  cases rx;cases y with|non=>cases ry;exact PySem.EqNone.eq_none_none<|ZA I q (by simp)|bl j=>cases ry;exact PySem.EqNone.eq_none_bool<|ZA I q (by simp)|int j=>obtain⟨t',rfl⟩:=ry;exact PySem.EqNone.eq_none_int<|ZA I q (by simp)|str j=>obtain⟨t',rfl⟩:=ry;exact PySem.EqNone.eq_none_str<|ZA I q (by simp)|_=>exact T7 (hs) aI
 |bl i=>
  cases rx;cases y with|non=>cases ry;exact PySem.EqNone.eq_bool_none<|ZA I q (by simp)|bl j=>cases ry;exact eq_bool<|ZA I q Za3|str j=>obtain⟨t',rfl⟩:=ry;exact PySem.EqMixed.eq_bool_str<|ZA I q (by simp)|_=>exact T7 (hs) aI
 |int i=>
  obtain⟨t,rfl⟩:=rx;cases y with|non=>cases ry;exact PySem.EqNone.eq_int_none<|ZA I q (by simp)|int j=>obtain⟨t',rfl⟩:=ry;exact eq_int<|ZA I q wF|str j=>obtain⟨t',rfl⟩:=ry;exact PySem.EqMixed.eq_int_str<|ZA I q (by simp)|_=>exact T7 (hs) aI
 |str i=>
  obtain⟨t,rfl⟩:=rx;cases y with|non=>cases ry;exact PySem.EqNone.eq_str_none<|ZA I q (by simp)|bl j=>cases ry;exact PySem.EqMixed.eq_str_bool<|ZA I q (by simp)|int j=>obtain⟨t',rfl⟩:=ry;exact PySem.EqMixed.eq_str_int<|ZA I q (by simp)|str j=>obtain⟨t',rfl⟩:=ry;exact eq_str<|ZA I q vn|_=>exact T7 (hs) aI
 |byt i=>
  obtain⟨t,rfl⟩:=rx;cases y with|byt j=>obtain⟨t',rfl⟩:=ry;exact PySem.W.eq_bytes<|ZA I q vZ|_=>exact T7 (hs) aI
 |_=>cases y<;>exact T7 (hs) aI
def ZgC:OpR X (cr .NotEq) rNe:=by
 intro pq s Z H x y v u Q I rx ry h;obtain⟨hs,q⟩:=h;cases x with
 |non=>
  cases rx;cases y with|non=>cases ry;exact PySem.EqNone.ne_none_none<|ZA I q (by simp)|bl j=>cases ry;exact PySem.EqNone.ne_none_bool<|ZA I q (by simp)|int j=>obtain⟨t',rfl⟩:=ry;exact PySem.EqNone.ne_none_int<|ZA I q (by simp)|str j=>obtain⟨t',rfl⟩:=ry;exact PySem.EqNone.ne_none_str<|ZA I q (by simp)|_=>exact T7 (hs) aI
 |bl i=>
  cases rx;cases y with|non=>cases ry;exact PySem.EqNone.ne_bool_none<|ZA I q (by simp)|bl j=>cases ry;exact ne_bool<|ZA I q<|congrArg not Za3|str j=>obtain⟨t',rfl⟩:=ry;exact PySem.EqMixed.ne_bool_str<|ZA I q (by simp)|_=>exact T7 (hs) aI
 |int i=>
  obtain⟨t,rfl⟩:=rx;cases y with|non=>cases ry;exact PySem.EqNone.ne_int_none<|ZA I q (by simp)|int j=>obtain⟨t',rfl⟩:=ry;exact ne_int<|ZA I q<|congrArg not wF|str j=>obtain⟨t',rfl⟩:=ry;exact PySem.EqMixed.ne_int_str<|ZA I q (by simp)|_=>exact T7 (hs) aI
 |str i=>
  obtain⟨t,rfl⟩:=rx;cases y with|non=>cases ry;exact PySem.EqNone.ne_str_none<|ZA I q (by simp)|bl j=>cases ry;exact PySem.EqMixed.ne_str_bool<|ZA I q (by simp)|int j=>obtain⟨t',rfl⟩:=ry;exact PySem.EqMixed.ne_str_int<|ZA I q (by simp)|str j=>obtain⟨t',rfl⟩:=ry;exact ne_str<|ZA I q<|congrArg not vn|_=>exact T7 (hs) aI
 |byt i=>
  obtain⟨t,rfl⟩:=rx;cases y with|byt j=>obtain⟨t',rfl⟩:=ry;exact PySem.W.ne_bytes<|ZA I q<|congrArg not vZ|_=>exact T7 (hs) aI
 |_=>cases y<;>exact T7 (hs) aI
def Zgv:OpR X (cr .Lt) (rI0 λi j=>.bl<|aj<|i<j):=ZcX λ_ _ _ _ _ _ _ q=>lt_int q
def Zf2:OpR X (cr .LtE) (rI0 λi j=>.bl<|aj<|i<=j):=ZcX λ_ _ _ _ _ _ _ q=>le_int q
def Zgh:OpR X (cr .Gt) (rI0 λi j=>.bl<|aj<|j<i):=ZcX λ_ _ _ _ _ _ _ q=>gt_int q
def Zgk:OpR X (cr .GtE) (rI0 λi j=>.bl<|aj<|j<=i):=ZcX λ_ _ _ _ _ _ _ q=>ge_int q
def Ze5:OpR X (cr .Is) (λx y H Q=>y=.non/\Q (.bl<|aj<|x=.non) H):=by
 intro pq s Z H x y v u Q I rx ry h;obtain⟨rfl,q⟩:=h;cases ry;refine is_none_gen<|ZA I q ?_;cases x<;>first
  |(cases rx;rfl)
  |(obtain⟨t,rfl⟩:=rx;rfl)
def ZcU:OpR X (cr .IsNot) (λx y H Q=>y=.non/\Q (.bl<|!decide (x=.non)) H):=by
 intro pq s Z H x y v u Q I rx ry h;obtain⟨rfl,q⟩:=h;cases ry;refine isnot_none_gen<|ZA I q ?_;cases x<;>first
  |(cases rx;rfl)
  |(obtain⟨t,rfl⟩:=rx;rfl)
def OpR.or(h:OpR X f r)(h':OpR X f r'):OpR X f (λx y H Q=>r x y H Q\/r' x y H Q):=by
 intro pq s Z H x y v u Q I rx ry q;rcases q with q|q
 .exact h pq s Z H x y v u Q I rx ry q
 .exact h' pq s Z H x y v u Q I rx ry q
def Zd8(b:Expr)(h:op≠.In:=by decide)(h2:op≠.NotIn:=by decide):gd op b=am:=by
 have e1:(op == CmpOp.In)=am:=by cases op<;>first|rfl|exact T7 rfl h
 have e2:(op == CmpOp.NotIn)=am:=by cases op<;>first|rfl|exact T7 rfl h2
 cases b<;>simp[gd,e1,e2]
def Zc1(ho:OpR X (cr op) r)(ha:PE X a ta)(hb:PE X b tb)(hm:gd op b=am):PE X (.Compare a [op] [b] pos) (tOp r ta tb):=by
 intro pq s Z H Q I h;exact wpAny_Compare1 (Zfa ha hb I h λv u s2 x y H2 I2 rx ry q=>ho pq s2 Z H2 x y v u Q I2 rx ry q) hm
def Zgr(t:TE):TT:=λZ H Q=>t Z H λx H'=>∃k,x=.bl k/\Q k H'
def Zcj(ho:OpR X (cr op) r)(ha:PE X a ta)(hb:PE X b tb)(hm:gd op b=am):PT X (.Compare a [op] [b] pos) (Zgr<|tOp r ta tb):=by
 intro pq s Z H Q I h;refine wpAny_isTrue_Compare1 (thn (ha pq s Z H _ I h) λv s1 #[x,H1,I1,r1,q1]=>thn (hb pq s1 Z H1 _ I1 q1) λu s2 #[y,H2,I2,r2,q2]=>
  thn (ho pq s2 Z H2 x y v u _ I2 r1 r2 q2) λc s3 #[z,H3,I3,r3,k,e,q3]=>?_) hm
 subst e;cases r3;exact fL #[H3,I3,q3]
def Zed(r r':R2)(ta tb tc:TE):TE:=λZ H Q=>ta Z H λx H1=>tb Z H1 λy H2=>r x y H2 λz H3=>∃k,z=.bl k/\
 (if k=al then tc Z H3 λw' H4=>r' y w' H4 Q else Q (.bl am) H3)
def Zav(ho:OpR X (cr op) r)(ho':OpR X (cr op') r')(ha:PE X a ta)(hb:PE X b tb)(hc:PE X c tc)
  (hm:lastMarks [op,op'] [b,c]=am:=by with_unfolding_all rfl):PE X (.Compare a [op,op'] [b,c] pos) (Zed r r' ta tb tc):=by
 intro pq s Z H Q I h;refine Compare_chain (thn (ha pq s Z H _ I h) λv s1 #[x,H1,I1,r1,q1]=>chain_link (thn (hb pq s1 Z H1 _ I1 q1) λu s2 #[y,H2,I2,r2,q2]=>
  thn (ho pq s2 Z H2 x y v u _ I2 r1 r2 q2) λd s3 #[z,H3,I3,r3,k,e,q3]=>?_)) hm
 subst e;cases r3;refine fL ?_;cases k with|false=>exact ite_ff #[.bl am,H3,I3,rfl,q3]|true=>exact ite_tt<|chain_last<|thn (hc pq s3 Z H3 _ I3 q3)<|by rintro w' s4 ⟨z',H4,I4,r4,q4⟩;exact ho' pq s4 Z H4 y z' u w' Q I4 r2 r4 q4
def Zdi(K:ap)(x:V)(H:Hp)(k:Bool):Prop:=
 match x with
 |.non=>k=am
 |.bl b=>k=b
 |.int i=>k=(i != 0)
 |.str y=>y.length<=bx/\k=((y.length:Int) != 0)
 |.byt y=>y.size<=bx/\k=((y.size:Int) != 0)
 |.ref p=>(∃xs,SqL K H p xs/\k = !xs.isEmpty)\/(∃xs,SqT K H p xs/\k = !xs.isEmpty)\/∃kvs,H p=aa (.dK kvs)/\k = !kvs.isEmpty
 |_=>False
def xT{κ:Type}{kvs:List (κ×V)}{vs:List (κ×ao)}(r:KV kvs vs):(!vs.isEmpty) = !kvs.isEmpty:=by
 cases r<;>rfl
def UZ{xs:List V}{its:List ao}(r:Vals xs its):(!its.toArray.isEmpty) = !xs.isEmpty:=by
 cases r<;>simp
def Qj:(bx:Nat)<2^63:=by rw[cU];decide
theorem Zbj:Zhc X (λx H Q=>∃k,Zdi X.K x H k/\Q k H):=by
 intro pq s Z H x v Q I rx h;obtain⟨k,e,q⟩:=h;have hl:=Qj;have hs:=cU;cases x with
 |non=>
  cases rx;have e':=e;subst e';exact truthy_none #[H,I,q]
 |bl b=>
  cases rx;have e':k=b:=e;subst e';exact fL #[H,I,q]
 |int i=>
  obtain⟨t,rfl⟩:=rx;have e':=e;subst e';exact np #[H,I,q]
 |str y=>
  obtain⟨t,rfl⟩:=rx;obtain⟨hy,e'⟩:=e;subst e';exact PySem.P.truthy_str (by lia) #[H,I.tok _,q]
 |byt y=>
  obtain⟨t,rfl⟩:=rx;obtain⟨hy,e'⟩:=e;subst e';exact PySem.W.truthy_bytes (by lia) #[H,I.tok _,q]
 |ref p=>
  cases rx;have e':=e;rcases e' with⟨xs,hx,e'⟩|⟨xs,hx,e'⟩|⟨kvs,hx,e'⟩
  .subst e'
   obtain⟨its,r,pl,hz⟩:=I.list hx;have hlen:=r.length;exact wpAny_truthy_list pl.isList (by simp only[aB];lia) #[H,I.tok _,by rw[UZ r];exact q]
  .subst e'
   obtain⟨its,r,pl,hz⟩:=I.tuple hx;have hlen:=r.length;exact truthy_tuple pl (by simp only[aB];lia) #[H,I.tok _,by rw[UZ r];exact q]
  .subst e'
   obtain⟨hz,hS,vs,r,m⟩:=I.hok p _ hx;have hlen:=Paired.length r;exact wpAny_truthy_dict hS m (by lia) #[H,I.tok _,by rw[xT r];exact q]
 |_=>exact(e).elim
def Zbi(ha:PE X a ta)(he:∀whole,isTrue a X.env whole=(do let v <-whole;kD a.pos;fV [v] (truthy v))) :
  PT X a (λZ H Q=>ta Z H λx H'=>∃k,Zdi X.K x H' k/\Q k H'):=by
 intro pq s Z H Q I h;exact isTrue_plain (thn (ha pq s Z H _ I h)<|by rintro v s1 ⟨x,H1,I1,r1,q1⟩;exact Zbj pq s1 Z H1 x v Q I1 r1 q1)<|he _
def JP(r:Vals [x] us):∃u,us=[u]/\ZD x u:=by
 cases r with|cons r1 r2=>cases r2;exact#[_,rfl,r1]
def zQ(r:Vals [x,y] us):∃u w',us=[u,w']/\ZD x u/\ZD y w':=by
 cases r with
 |cons r1 r2=>
  cases r2 with|cons r3 r4=>cases r4;exact#[_,_,rfl,r1,r3]
def u9(hc:X.calm=al):Z5 X (.builtin "max") (λxs H Q=>∃i j,xs=[.int i,.int j]/\Q (.int (if j>i then j else i)) H):=by
 intro pq s Z H xs us Q I r h;obtain⟨i,j,rfl,q⟩:=h;obtain⟨u,w',rfl,⟨t,rfl⟩,⟨t',rfl⟩⟩:=zQ r;refine max_two_ints (I.ok.hd hc) λh' tk k=>#[_,H,I.kept k,?_,q]
 by_cases hj:j>i
 .rw[T9 hj,T9 hj];exact#[_,rfl]
 .rw[T8 hj,T8 hj];exact#[_,rfl]
def qo(hc:X.calm=al):Z5 X (.builtin "min") (λxs H Q=>∃i j,xs=[.int i,.int j]/\Q (.int (if j<i then j else i)) H):=by
 intro pq s Z H xs us Q I r h;obtain⟨i,j,rfl,q⟩:=h;obtain⟨u,w',rfl,⟨t,rfl⟩,⟨t',rfl⟩⟩:=zQ r;refine min_two_ints (I.ok.hd hc) λh' tk k=>#[_,H,I.kept k,?_,q]
 by_cases hj:j<i
 .rw[T9 hj,T9 hj];exact#[_,rfl]
 .rw[T8 hj,T8 hj];exact#[_,rfl]
def qx:Z5 X (.type "int") (λxs H Q=>(∃i,xs=[.int i]/\Q (.int i) H)\/∃k,xs=[.bl k]/\Q (.int (if k then 1 else 0)) H):=by
 intro pq s Z H xs us Q I r h;rcases h with⟨i,rfl,q⟩|⟨k,rfl,q⟩
 .obtain⟨u,rfl,t,rfl⟩:=JP r
  exact call_int_int #[.int i,H,I,#[_,rfl],q]
 .obtain⟨u,rfl,r1⟩:=JP r
  cases r1;exact call_int_bool #[.int (if k then 1 else 0),H,I.tok _,#[_,rfl],q]
end
structure ObjM(h:cc)(x dx C:aP)(mA:bI->Option ao):Prop where
 obj:h.get? x=aa (l0 C dx)
 ns:h.Ns1 dx mA
 ne:dx≠x
def uL{h:cc}{dx:aP}{mA:bI->Option ao}(n:h.Ns1 dx mA):∃od,h.get? dx=aa od/\∀name,mz name od=aa (mA name):=by
 obtain⟨o,es,ep,ho,hd,hk,_,hm⟩:=n;refine#[o,ho,λname=>?_]
 have e:=hm name;unfold nsFind findBy at e;rw[<-Array.find?_toList]at e;unfold mz;rw[hd]
 dsimp only
 split
 .rename_i y q
  rw[q]at e;exact congrArg aa e
 .rename_i q
  rw[q]at e;have a:es.toList.any (·.refKey)=am:=by
   rw[List.any_eq_false];intro y hy;obtain⟨z,t,hkey⟩:=hk y<|mB.mp hy;simp[iZ.refKey,hkey]
  have a':¬es.toList.any (·.refKey)=al:=by rw[a];exact aI
  rw[T8 a'];exact congrArg aa e
def ObjM.look(I:ObjM h x dx C mA):∃od,PySem.W.InstAt h x (l0 C dx) C (aa od)/\∀name,mz name od=aa (mA name):=
 let #[od,ho,hl]:=uL I.ns
 #[od,#[I.obj,rfl,rfl,ho],hl]
section
variable{P:bt}{w:bL}{H H':Hp}{h h':cc}{a C dx:aP}{fs fs':List (bI×V)}
def uk(hok:HOk P w H h)(e:H a=aa (.ins C dx fs)):∃mA,ObjM h a dx C mA/\(∀f,xI (fs.lookup f)<|mA f)/\PySem.Within mA (fs.map (·.1))/\fs.length<=1000/\H dx=aa (.own a):=by
 obtain⟨d,z,ne,ob,mA,n,r,q⟩:=(hok a _ e)
 exact#[mA,#[ob,n,ne],r,q,z,d]
end
structure Cls(K:ap)(C:aP):Prop where
 pg:ou K C bI.empty=al
 hd:PySem.W.hasDictIn K C=al
 po:PySem.W.plainOver K C=al
 sa:pE K (.ref C) "__setattr__" = aa (aa<|.builtin "object.__setattr__")
def Cls.get{K:ap}{C:aP}(c:Cls K C)(f:bI):ou K C f=al:=c.pg
section
variable{X:Cx}{pq:List (aP×fP)}{Z:St}{H:Hp}{s:au}{A:cn}{E:ao->au->Prop}{Q:ao->au->Prop}{c:ao}{b:Bool}
inductive TyOf(K:ap)(H:Hp):V->ao->Prop where
 |non:TyOf K H .non (.type "NoneType")
 |bl (x:Bool):TyOf K H (.bl x) (.type "bool")
 |int (i:Int):TyOf K H (.int i) (.type "int")
 |str (x:bI):TyOf K H (.str x) (.type "str")
 |flt (x:UInt64):TyOf K H (.flt x) (.type "float")
 |lst {a:aP} {xs:List V} (e:H a=aa (.lst xs)):TyOf K H (.ref a) (.type "list")
 |frz {a:aP} {o:fP} {xs:List V} (e:H a=aa (.frz o<|.lst xs)):TyOf K H (.ref a) (.type "list")
 |tup {a:aP} {xs:List V} (e:H a=aa (.tup xs)):TyOf K H (.ref a) (.type "tuple")
 |dK {a:aP} {kvs:List (Key×V)} (e:H a=aa (.dK kvs)):TyOf K H (.ref a) (.type "dict")
 |dT {a:aP} {kvs:List (List Key×V)} (e:H a=aa (.dT kvs)):TyOf K H (.ref a) (.type "dict")
 |ins {a C dx:aP} {fs:List (bI×V)} (e:H a=aa (.ins C dx fs)) (cl:Cls K C) (ha:pE K (.ref C) "__class__" = aa (aa<|.builtin "object.__class__"))
   (hn:PySem.W.specialIn K (.builtin "object.__class__") "__get__" = aa (aa<|.builtin "getset_descriptor.__get__")) (htk:PySem.W.takesIn K (.builtin "object.__class__")=aa al)
   (hm:PySem.W.mroIn K C (.type "object")=aa al):TyOf K H (.ref a) (.ref C)
def qf(I:Inv X pq Z H s)(rx:ZD x u)(ty:TyOf X.K H x t)(e:mC X.K t c=aa b)(h:∀tk,Q (.bool b) {s with toks:=tk}) :
  aY (aT X.prog X.w) A (call (.builtin "isinstance") [u,c]) Q E s:=by
 cases ty with
 |non=>cases(show u=bf from rx);exact c6 nG I.kIn da e (λz=>nomatch z) h
 |bl y=>cases(rx);exact c6 nH I.kIn da e (λz=>nomatch z) h
 |int i=>obtain⟨t,q⟩:=(rx);cases q;exact c6 ow I.kIn da e (λz=>nomatch z) h
 |str y=>obtain⟨t,q⟩:=(rx);cases q;exact c6 ox I.kIn da e (λz=>nomatch z) h
 |flt y=>obtain⟨t,q⟩:=(rx);cases q;exact c6 nq I.kIn da e (λz=>nomatch z) h
 |@lst a xs ea=>
  cases(rx)
  obtain⟨_,_,n,_,h1⟩:=(I.hok a _ ea)
  exact c6 gN I.kIn #[_,h1,rfl] e (λz=>nomatch z) h
 |@frz a ob xs ea=>
  cases(rx)
  obtain⟨_,_,_,n,_,h1⟩:=(I.hok a _ ea)
  exact c6 gN I.kIn #[_,h1,rfl] e (λz=>nomatch z) h
 |@tup a xs ea=>
  cases(rx)
  obtain⟨_,_,_,p⟩:=(I.hok a _ ea)
  obtain⟨o,h1,h2,_⟩:=p;exact c6 nr I.kIn #[o,h1,h2] e (λz=>nomatch z) h
 |@dK a kvs ea=>
  cases(show u=bX a from rx)
  obtain⟨_,_,vs,_,p⟩:=(I.hok a _ ea)
  obtain⟨o,es,ep,h1,h2,_⟩:=p;exact c6 gO I.kIn #[o,h1,h2.1] e (λz=>nomatch z) h
 |@dT a kvs ea=>
  cases(show u=bX a from rx)
  obtain⟨_,_,xs,_,o,es,ep,h1,h2,_⟩:=(I.hok a _ ea)
  exact c6 gO I.kIn #[o,h1,h2.1] e (λz=>nomatch z) h
 |@ins a C dx fs ea cl ha hn htk hm=>
  cases(show u=bX a from rx)
  obtain⟨mA,O,_⟩:=uk I.hok ea;obtain⟨od,J,_⟩:=O.look;exact c6 (oy (cl.get _) cl.hd ha hn htk hm) I.kIn J e (λz=>nomatch z) h
end
structure Room(k:Nat)(A:cn):Prop where
 hd:A.handled=ae
 dp:A.depth+3*k+5<recursionLimit
 un:A.units+16*k+200<dA
theorem Room.deeper(r:Room (k+1) A)(env:Env):Room k (A.deeper env):=
 #[r.hd,by have:=r.dp;show A.depth+1+3*k+5<_;lia,by have:=r.un;show A.units+3+16*k+200<_;lia]
theorem Room.depth(r:Room k A):A.depth<recursionLimit:=by have:=r.dp;lia
def Zhh:TA:=λ_ H Q=>Q [] H
def ZgJ(ta:TE)(tr:TA):TA:=λZ H Q=>ta Z H λx H1=>tr Z H1 λxs H2=>Q (x::xs) H2
section
variable{X:Cx}{e:Expr}{es:List Expr}{te:TE}{t:TA}{pos:iP}
def Qp:PA X [] Zhh:=λ_ _ _ _ H Q I h=>Calls.spliced_nil #[[],H,I,.nil,h]
def Xp(ha:PE X e te)(hr:PA X es t)(hs:aL (e::es) X.env=(am,cI e X.env)::aL es X.env:=by rfl):PA X (e::es) (ZgJ te t):=by
 intro pos pq s Z H Q I h;rw[hs];refine Calls.spliced_cons<|thn (ha pq s Z H _ I h) λu s1 #[x,H1,I1,r1,q1]=>?_
 exact thn (hr pos pq s1 Z H1 _ I1 q1)<|by rintro us s2 ⟨xs,H2,I2,r2,q2⟩;exact #[x::xs,H2,I2,.cons r1 r2,q2]
def Zhk(t:TA):TE:=λZ H Q=>t Z H λxs H1=>xs.length<=bx/\∀p,H1 p=ae->Q (.ref p) (upd H1 p<|.tup xs)
def Zhm(t:TA):TE:=λZ H Q=>t Z H λxs H1=>xs.length<=bx/\∀p,H1 p=ae->Q (.ref p) (upd H1 p<|.lst xs)
def Zbt{x1}(h:PA X es t):PE X (.Tuple es x1 pos) (Zhk t):=by
 intro pq s Z H Q I hq;refine wpAny_Tuple_spliced<|thn (h pos pq s Z H _ I hq) λus s1 #[xs,H1,I1,r,z,q]=>#[by rw[<-r.length];exact z,?_]
 have hf:=I1.hok.fresh<|aM _;refine#[.ref s1.heap.objs.size,upd H1 s1.heap.objs.size<|.tup xs,I1.laid (t':=s1.toks) (λb u e=>aw _ e) (aM _) ?_,rfl,q _ hf]
 exact#[z,us,r,#[_,aO _ rfl,rfl,_,rfl]]
def Zao(h:PA X es t):PE X (.List es pos) (Zhm t):=by
 intro pq s Z H Q I hq;refine wpAny_List_spliced<|thn (h pos pq s Z H _ I hq) λus s1 #[xs,H1,I1,r,z,q]=>#[by rw[<-r.length];exact z,?_]
 have hf:=I1.hok.fresh<|aM _;refine#[.ref s1.heap.objs.size,upd H1 s1.heap.objs.size<|.lst xs,I1.laid (t':=s1.toks) (λb u e=>aw _ e) (aM _) ?_,rfl,q _ hf]
 exact#[z,us,0,r,aO _ rfl]
end
abbrev Sp:=List V->Hp->VK->XK->Prop
abbrev CXT:=List Env->Hp->au->XK->ao->au->Prop
structure Env0(P:bt)(w:bL)(K:ap)(mg:bI->Option ao)(base:cc)(A:cn)(outer:List Env)(s:au)(H:Hp):Prop where
 frames:A.frames=aa outer
 mod:Mod K mg base
 bs:∀b o,base.get? b=aa o->s.heap.get? b=aa o/\H b=ae
 bsz:base.objs.size<=s.heap.objs.size
 funs:s.heap.FunFrames base outer
 frf:∀b∈frs outer,H b=ae
 hok:HOk P w H s.heap
 bare:kB s.gens
def CE(outer:List Env)(P:bt)(w:bL)(H:Hp)(s:au)(Q:VK)(u:ao)(s':au):Prop:=
 ∃v H',s'.os=s.os/\kB s'.gens/\Un (frs outer) [] H H' s.heap s'.heap/\HOk P w H' s'.heap/\ZD v u/\Q v H'
def CR(CX:CXT)(outer:List Env)(P:bt)(w:bL)(H:Hp)(s:au)(Q:VK)(E:XK)(r:rB)(s':au):Prop:=
 match r with
 |.ok (.ret u)=>CE outer P w H s Q u s'
 |.ok _=>False
 |.error e=>CX outer H s E e s'
structure FnOk(P:bt)(w:bL)(K:ap)(mg:bI->Option ao)(base:cc)(CX:CXT)(k:Nat)(f:aP)(fd:c8)(ps:List bI)(sp:Sp):Prop where
 len:∀vs H Q E,sp vs H Q E->vs.length=ps.length
 run:∀(A:cn)(outer:List Env)(s:au)(H:Hp)(args:Args)(us:List ao)(vs:List V)(Q:VK)(E:XK),Room k A->Env0 P w K mg base A outer s H->nI s fd args (ps.zip us)->Vals vs us->sp vs H Q E->
  fC (aT P w) A (.call (.ref f) args) (CR CX outer P w H s Q E) s
section
variable{X:Cx}{pq:List (aP×fP)}{Z:St}{H:Hp}{s s':au}
def Inv.env0(I:Inv X pq Z H s):Env0 X.prog X.w X.K X.mg X.base X.A X.stack s H:=
 #[I.ok.frames,I.ok.mod,I.bs,cf I.ok.bsz I.sz,I.stack,I.stkFree,I.hok,I.bare]
def Inv.after(I:Inv X pq Z H s)(h:CE X.stack X.prog X.w H s Q u s'):EP X pq Z Q u s':=by
 obtain⟨v,H',os,bare,un,hok,r,q⟩:=h;obtain⟨hh,g,d,t,os'⟩:=s';obtain rfl:os'=s.os:=os;exact#[v,H',I.call (h':=hh) (g':=g) (d':=d) (t':=t) un hok bare (λb z=>T7 z (by simp)),r,q]
end
def ZdE(sp:Sp)(dvs:List V)(E:XK)(t:TA):TE:=λZ H Q=>t Z H λvs H1=>sp (vs++dvs) H1 Q E
def QA(K:ap)(fd:c8)(ps:List bI)(ds:List ao):Prop:=
 ∀(s:au)(us:List ao),K.In s.heap->(us++ds).length=ps.length->nI s fd #[us,[]] (ps.zip<|us++ds)
def QA.all{K:ap}{fd:c8}{ps:List bI}(h:∀us:List ao,us.length=ps.length->pF fd #[us,[]]=cY (ps.zip us)):QA K fd ps []:=λs us _ hl=>by
 rw[cF]at hl ⊢;exact .of_eq<|h us hl
def xW(CX:CXT)(X:Cx)(E:XK):Prop:=∀(pq:List (aP×fP))(Z:St)(H:Hp)(s:au)(e:ao)(s':au),Inv X pq Z H s->CX X.stack H s E e s'->X.xe e s'
section
variable{X:Cx}{CX:CXT}{k:Nat}{f C:aP}{fd:c8}{ps:List bI}{sp:Sp}{dvs:List V}{ds:List ao}{E:XK}{x m:bI}{p pos apos:iP}{e o:Expr}{es:List Expr}{ta:TE}{t:TA}
def ZeR(F:FnOk X.prog X.w X.K X.mg X.base CX k f fd ps sp)(hr:Room k X.A)(hb:QA X.K fd ps ds)(hd:Vals dvs ds)(hx:xW CX X E)
  (I:Inv X pq Z H s)(r:Vals vs us)(h:sp (vs++dvs) H Q E):aY (aT X.prog X.w) X.A (call (.ref f) us) (EP X pq Z Q) X.xe s:=by
 have r2:=r.append hd;have hl:(us++ds).length=ps.length:=by rw[<-r2.length];exact F.len _ _ _ _ h
 refine wpAny_call<|gP (F.run X.A X.stack s H #[us,[]] (us++ds) (vs++dvs) Q E hr I.env0 (hb s us I.kIn hl) r2 h) λr s' hq=>?_
 cases r with
 |error e=>exact hx pq Z H s e s' I hq
 |ok fl=>
  cases fl with|ret u=>exact I.after hq|next=>exact False.elim hq|brk=>exact False.elim hq|cont=>exact False.elim hq
def wL(F:FnOk X.prog X.w X.K X.mg X.base CX k f fd ps sp)(hr:Room k X.A)(hg:Gl X x)(hm:X.mg x=aa (.ref f))(hk:gQ X.K (.ref f)=al)(hb:QA X.K fd ps ds)(hd:Vals dvs ds)(hx:xW CX X E)
  (ha:PA X (e::es) t)(hdb:(x == ("__debug__" : bI))=am:=by decide)(he:aL (e::es) X.env=(am,cI e X.env)::aL es X.env:=by rfl)(hpl:(fj pos<|aL es X.env).any (·.1)=am:=by rfl) :
  PE X (.Call (.Name x p) (e::es) [] pos) (ZdE sp dvs E t):=by
 intro pq s Z H Q I h;refine eB<|ZcF I hg hm ?_ hdb;refine PySem.W.callWith_K I.ok.mod.kin hk (thn (ha pos pq s Z H _ I h) λus s1 #[vs,H1,I1,r,q]=>#[I1.kIn,?_]) he hpl
 exact ZeR F hr hb hd hx I1 r q
end
structure FnScope(N P:List bI)(sc:fg):Prop where
 kind:sc.kind=.function
 co:sc.isCoroutine=am
 gen:sc.isGenerator=am
 nd:N.Nodup
 pre:N.take P.length=P
 par:∀x∈P,sc.names.lookup x=aa .local\/sc.names.lookup x=aa .cell
 nofree:∀y∈sc.names,y.2≠.free
theorem Jm{kindOf:bI->Option eX}{x:bI}:∀{binds:List (bI×ao)}{m:bI->Option ao},(∀v,(x,v)∉binds)->rn kindOf binds m x=m x
 |[],_,_=>rfl
 |(n,v)::r,m,h=>by
  unfold rn;rw[Jm λw hw=>h w<|af _ hw]
  split
  .have:x≠n:=by rintro rfl;exact h v ai
   simp[this]
  .rfl
theorem Jt{kindOf:bI->Option eX}{x:bI}:∀{binds:List (bI×ao)}{m:bI->Option ao},(∀v,(x,v)∉binds)->rq kindOf binds m x=m x
 |[],_,_=>rfl
 |(n,v)::r,m,h=>by
  unfold rq;rw[Jt λw hw=>h w<|af _ hw]
  split
  .rfl
  .have:x≠n:=by rintro rfl;exact h v ai
   simp[this]
theorem JW{kindOf:bI->Option eX}{x:bI}{v:ao}:∀{P:List bI}{vs:List ao}{i:Nat}{m:bI->Option ao},P.Nodup->P[i]?=aa x->vs[i]?=aa v->kindOf x=aa .local->
  rn kindOf (P.zip vs) m x=aa v
 |[],_,_,_,_,h,_,_=>by simp at h
 |_::_,[],_,_,_,_,h,_=>by simp at h
 |p::P,w::vs,0,m,nd,h1,h2,hk=>by
  simp at h1 h2;subst h1;subst h2;show rn kindOf ((p,w)::P.zip vs) m p=_;unfold rn;rw[Jm λv hv=>(cQ.mp nd).1 (fI hv).1,T9 hk]
  simp
 |p::P,w::vs,i+1,m,nd,h1,h2,hk=>by
  unfold rn;exact JW (cQ.mp nd).2 (by simpa using h1) (by simpa using h2) hk
theorem Jk{kindOf:bI->Option eX}{x:bI}{v:ao}:∀{P:List bI}{vs:List ao}{i:Nat}{m:bI->Option ao},P.Nodup->P[i]?=aa x->vs[i]?=aa v->kindOf x≠aa .local->
  rq kindOf (P.zip vs) m x=aa v
 |[],_,_,_,_,h,_,_=>by simp at h
 |_::_,[],_,_,_,_,h,_=>by simp at h
 |p::P,w::vs,0,m,nd,h1,h2,hk=>by
  simp at h1 h2;subst h1;subst h2;show rq kindOf ((p,w)::P.zip vs) m p=_;unfold rq;rw[Jt λv hv=>(cQ.mp nd).1 (fI hv).1,T8 hk]
  simp
 |p::P,w::vs,i+1,m,nd,h1,h2,hk=>by
  unfold rq;exact Jk (cQ.mp nd).2 (by simpa using h1) (by simpa using h2) hk
noncomputable def start(N:List bI)(vs:List V):St:=vs.map aa++az (N.length-vs.length) ae
noncomputable def zi(CX:CXT)(P:bt)(w:bL)(K:ap)(mg:bI->Option ao)(base:cc)(N:List bI)(qual:bI)(scope:fg)(f:aP)(cd:ao)(A:cn)(outer:List Env)(s:au)(H:Hp)(E:XK):Cx where
 prog:=P
 w:=w
 K:=K
 mg:=mg
 base:=base
 A:=A.deeper<|i6 qual scope s.heap.objs.size f cd
 N:=N
 s₀:=s
 H₀:=H
 env:=i6 qual scope s.heap.objs.size f cd
 outer:=outer
 stack:=i6 qual scope s.heap.objs.size f cd::outer
 ex:=[]
 calm:=al
 fn:=λ_=>al
 pn:=[]
 xe:=λe s'=>aY (aT P w) (A.deeper<|i6 qual scope s.heap.objs.size f cd) (leaving (i6 qual scope s.heap.objs.size f cd) e) (λ_ s''=>CX outer H s E e s'') (λe' s''=>CX outer H s E e' s'') s'
def zE{sc:fg}{n:Nat}{x:bI}(h:sc.names.lookup x=aa .cell):∃c,(ei n sc.names []).lookup x=aa c:=by
 have q:=lH sc.names n []<|.inl h;exact de.mp q
def u4{CX:CXT}{P:bt}{w:bL}{K:ap}{mg:bI->Option ao}{base:cc}{N ps:List bI}{qual:bI}{scope:fg}{f:aP}{cd:ao}{A:cn}{outer:List Env}{s s1:au}{H:Hp}{E:XK}{us:List ao}{vs:List V}
  (S:FnScope N ps scope)(hd:A.handled=ae)(e0:Env0 P w K mg base A outer s H)(hl:vs.length=ps.length)(r:Vals vs us)
  (x:InCallC s s.heap.objs.size (rn (i6 qual scope s.heap.objs.size f cd).kindOf (ps.zip us) λ_=>ae) (ei (s.heap.objs.size+1) scope.names []) (rq (i6 qual scope s.heap.objs.size f cd).kindOf (ps.zip us) λ_=>ae) s1) :
  Inv (zi CX P w K mg base N qual scope f cd A outer s H E) [] (start N vs) H s1:=by
 have hpl:ps.length<=N.length:=by have:=congrArg List.length S.pre;rw[bq]at this;lia
 obtain⟨h1,tk,rfl,hk⟩:=x.done;have noA:∀b:aP,b∉(zi CX P w K mg base N qual scope f cd A outer s H E).ex:=λb z=>T7 (show b∈([]:List aP)from z) (by simp)
 refine#[#[e0.mod,S.kind,rfl,rfl,aM _,λy z c h1 h2=>?_,λy hy=>?_,λy c _ h=>?_,λ_=>hd,cn.frames_deeper e0.frames,.inr #[rfl,rfl],λb z=>T7 z<|noA b,e0.bs,e0.bsz,λb _ _=>noA b,λb z=>T7 z<|noA b,e0.funs,e0.frf],
  rfl,e0.bare,Un.kept hk,#[_,x.toInCall.ns,λi y v h1 h2 h3=>?_],λy c h=>#[_,x.cell y c h],e0.hok.fresh<|aM _,λy c h=>?_,λp hp=>T7 (show p∈([]:List (aP×fP))from hp) (by simp),e0.hok.kept hk,?_]
 .exact name_of_addr x.apart (fc h1)<|fc h2
 .have hy:=hy
  rcases hy with hy|hy
  .exact zE hy
  .exact T7 rfl<|S.nofree _<|fc hy
 .exact gL<|x.above y c<|fc h
 .have hi:i<vs.length:=by
   unfold start at h2;by_cases hi:i<vs.length
   .exact hi
   .rw[bh<|by simpa using hi]at h2
    rw[bT]at h2;split at h2<;>cases h2
  have ha:vs[i]?=aa v:=by
   unfold start at h2;rw[bJ (by simpa using hi),aH]at h2
   cases e:vs[i]? with|none=>rw[e]at h2;cases h2|some a=>rw[e]at h2;cases h2;rfl
  obtain⟨u,hu,rv⟩:=r.get ha;have hp:ps[i]?=aa y:=by
   rw[<-S.pre,List.getElem?_take_of_lt (by lia)];exact h1
  have ndP:ps.Nodup:=by rw[<-S.pre];exact S.nd.sublist<|kF _ _
  refine#[u,rv,?_];rcases S.par y (dr hp)with k|k
  .exact .inl #[k,JW ndP hp hu k]
  .obtain⟨c,e⟩:=zE k
   refine .inr #[.inl k,c,e,?_];have q:=x.cell y c e;rw[Jk ndP hp hu<|by show scope.names.lookup y≠_;rw[k];decide]at q
   exact q
 .exact e0.hok.fresh<|gL<|x.above y c<|fc h
 .unfold start
  show _=N.length;rw[ba,aq,cg];lia
def Zf4{CX:CXT}{P:bt}{w:bL}{K:ap}{mg:bI->Option ao}{base:cc}{k:Nat}{f:aP}{name qual:bI}{params:Arguments}{body:List fU}{scope:fg}{dV kV doc pm cdv ct oc:ao}{an od:Option aP}
  {osl:Array (Option ao)}{N ps:List bI}{sp:Sp}(lk:K.lookup f=aa #[oc,od,.func<|ee name qual params body scope dV kV doc pm an cdv ct,osl])(hcd:i7 K cdv qual=al)(S:FnScope N ps scope)
  (len:∀vs H Q E,sp vs H Q E->vs.length=ps.length)
  (hbody:∀(A:cn)(outer:List Env)(s:au)(H:Hp)(vs:List V)(Q:VK)(E:XK),Room k (A.deeper<|i6 qual scope s.heap.objs.size f cdv)->sp vs H Q E->
   ∃t,PSs (zi CX P w K mg base N qual scope f cdv A outer s H E) body t/\t {nx:=λ_ H'=>Q .non H',rt:=Q} (start N vs) H) :
  FnOk P w K mg base CX (k+1) f (ee name qual params body scope dV kV doc pm an cdv ct) ps sp:=by
 refine#[len,λA outer s H args us vs Q E hr e0 hb r hsp=>?_]
 have hl:=len _ _ _ _ hsp;have KX:=e0.mod.kin.keeps λb o e=>(e0.bs b o e).1
 have lim:=e0.mod.nolimit.keeps λb o e=>(e0.bs b o e).1
 have hkind:∀y∈ps.zip us,scope.names.lookup y.1=aa .local\/(scope.names.lookup y.1=aa .cell/\((ei (s.heap.objs.size+1) scope.names []).lookup y.1).isSome=al):=by
  rintro ⟨n,v⟩ hy;rcases S.par n (fI hy).1 with q|q
  .exact .inl q
  .exact .inr #[q,lH _ _ _<|.inl q]
 refine codeAny_call_function hr.depth (KX _ _ lk) rfl S.co S.gen rfl (PySem.W.codeRec_of KX hcd)<|hb _ _ _ _ ?_;refine wpAny_newFunctionEnv_cells S.kind hkind λenv he s1 x=>?_
 subst he;refine#[lim.keeps x.toInCall.keep,codeAny_func ?_];obtain⟨t,ht,hq⟩:=hbody A outer s H vs Q E (hr.deeper _) hsp;have I:Inv (zi CX P w K mg base N qual scope f cdv A outer s H E) [] (start N vs) H s1:=u4 S hr.hd e0 hl r x;refine cV (ht [] s1 (start N vs) H _ I hq) (λfl s' hs=>?_) λe s' hs=>hs
 have fin:∀{σ':St}{H':Hp}{v:V}{u:ao},Inv (zi CX P w K mg base N qual scope f cdv A outer s H E) [] σ' H' s'->ZD v u->Q v H'->CE outer P w H s Q u s':=
  λ{σ' H' v u} J rv q=>#[v,H',J.os,J.bare,J.base,J.hok,rv,q]
 cases fl with
 |ret u=>
  obtain⟨v,σ',H',J,rv,q⟩:=hs;exact fin J rv q
 |next=>
  obtain⟨σ',H',J,q⟩:=hs;exact fin (v:=V.non) J rfl q
 |brk=>
  obtain⟨_,_,_,q⟩:=hs;exact False.elim q
 |cont=>
  obtain⟨_,_,_,q⟩:=hs;exact False.elim q
section
variable{X:Cx}{x:bI}{p pos:iP}{e:Expr}{es:List Expr}{t:TA}{id T:String}{r:List V->Hp->VK->Prop}
def tCB(r:List V->Hp->VK->Prop)(t:TA):TE:=λZ H Q=>t Z H λvs H1=>r vs H1 Q
def Qs(hc:Z5 X (.builtin id) r)(hg:Gl X x)(hm:X.mg x=ae)(hv:dC x=aa (.builtin id))(ha:PA X (e::es) t)(hn:x≠"__name__":=by decide)(hdb:(x == ("__debug__" : bI))=am:=by decide)
  (he:aL (e::es) X.env=(am,cI e X.env)::aL es X.env:=by rfl)(hpl:(fj pos<|aL es X.env).any (·.1)=am:=by rfl):PE X (.Call (.Name x p) (e::es) [] pos) (tCB r t):=by
 intro pq s Z H Q I h;refine eB<|YT I hg hm hv ?_ hn hdb;exact ig (thn (ha pos pq s Z H _ I h)<|by rintro us s1 ⟨vs,H1,I1,r1,q1⟩;exact hc pq s1 Z H1 vs us Q I1 r1 q1) he hpl
def uZ(hc:Z5 X (.type T) r)(hg:Gl X x)(hm:X.mg x=ae)(hv:dC x=aa (.type T))(ha:PA X (e::es) t)(hn:x≠"__name__":=by decide)(hdb:(x == ("__debug__" : bI))=am:=by decide)
  (he:aL (e::es) X.env=(am,cI e X.env)::aL es X.env:=by rfl)(hpl:(fj pos<|aL es X.env).any (·.1)=am:=by rfl):PE X (.Call (.Name x p) (e::es) [] pos) (tCB r t):=by
 intro pq s Z H Q I h;refine eB<|YT I hg hm hv ?_ hn hdb;exact b4 (thn (ha pos pq s Z H _ I h)<|by rintro us s1 ⟨vs,H1,I1,r1,q1⟩;exact hc pq s1 Z H1 vs us Q I1 r1 q1) he hpl
end
end L2
namespace HT
open PySem PyProof.Rows
section
variable{prog:bt}{w:bL}{A:cn}{E:ao->au->Prop}{s:au}
def Zct{Q:ao->au->Prop}(ht:rE s.heap t vs.toArray)(hb:rE s.heap b ws.toArray)(hv:vs≠[])
  (h1:ws=[]->Q (.ref t) s)(h2:ws≠[]->Q (.ref s.heap.objs.size) {s with heap:=s.heap.push {cls:=.type "tuple",data:=.seq (vs++ws).toArray}})
  (hsz:vs.length+ws.length<=bx):aY (aT prog w) A (eW .Add (.ref t)<|.ref b) Q E s:=by
 obtain⟨⟨cls,dd,data,sl⟩,ho,hc,n,hd⟩:=id ht;obtain⟨⟨cls2,dd2,data2,sl2⟩,ho2,hc2,n2,hd2⟩:=id hb;simp only at hc hd hc2 hd2;subst hc hd hc2 hd2;have e:vs.toArray++ws.toArray=(vs++ws).toArray:=by simp
 by_cases hw:ws=[]
 .exact nJ #[_,ho,rfl] #[_,ho2,rfl] lj m5 gR gH (gf _ _)
   (tuple_addW1 t b vs.toArray ws.toArray n n2 dd dd2 sl sl2 (by simpa using hv)<|by simp[hw]) #[ho,ho2,h1 hw]
 .refine nJ #[_,ho,rfl] #[_,ho2,rfl] lj m5 gR gH (gf _ _)
   (tuple_addW2 t b vs.toArray ws.toArray n n2 dd dd2 sl sl2 (by simpa using hv) (by simpa using hw)<|by rw[aB,aB];exact hsz) #[ho,ho2,?_]
  rw[e];exact h2 hw
noncomputable def sIx(n d:Nat):Option Int->Nat
 |none=>d
 |some v=>if v<0 then(v+(n:Int)).toNat else p5 v.toNat n
theorem Zfi(n d:Nat)(hd:d<=n)(o:Option Int):sIx n d o<=n:=by
 cases o with
 |none=>exact hd
 |some v=>
  show(if v<0 then(v+(n:Int)).toNat else p5 v.toNat n)<=n
  by_cases hv:v<0
  .rw[T9 hv];lia
  .rw[T8 hv];exact Nat.min_le_right _ _
theorem ue(v:Int)(n d:Nat):(if v<0 then max (v+(n:Int)) 0 else p5 v (n:Int))=((sIx n d (aa v):Nat):Int):=by
 show(if v<0 then max (v+(n:Int)) 0 else p5 v (n:Int))=(((if v<0 then(v+(n:Int)).toNat else p5 v.toNat n):Nat):Int)
 by_cases hv:v<0
 .simp only[T9 hv];lia
 .simp only[T8 hv];lia
theorem xZ(lo hi:Option Int)(n:Nat):f6 lo hi 1 (n:Int)=(((sIx n 0 lo:Nat):Int),((sIx n n hi:Nat):Int)):=by
 have h1:¬((1:Int)<0):=by lia
 unfold f6;simp only[h1,if_false];refine rH ?_ ?_
 .cases lo with|none=>rfl|some v=>exact ue v n 0
 .cases hi with|none=>rfl|some v=>exact ue v n n
theorem xQ(i j:Nat):eM (i:Int) (j:Int) 1=j-i:=by
 unfold eM;have h1:(1:Int)>0:=by lia
 simp only[h1,if_true,Int.ediv_one];split<;>lia
def Qi{Q:Option Int->au->Prop}(p:lI v o)(h:Q o s):aY (aT prog w) A (dD.Slice.slicePartIndex v) Q E s:=by
 cases p with|none=>exact slicePart_none h|int i t=>exact slicePart_int h
def XD{sl:aP}{vl vu:ao}{lo hi:Option Int}{n:Nat}{Q:Int×Int×Nat->au->Prop}(hs:s.heap.IsSliceOf sl vl vu .none)(pl:lI vl lo)(pu:lI vu hi)
  (h:Q (((sIx n 0 lo:Nat):Int),1,sIx n n hi-sIx n 0 lo) s):aY (aT prog w) A (dD.Slice.sliceApplied (.ref sl)<|cY (n:Int)) Q E s:=by
 obtain⟨os,hos,hcs,hds⟩:=id hs;refine ab<|ab<|cK hos hds rfl<|ab<|cK hos hds rfl<|ab<|cK hos hds rfl<|ax ?_;refine ab<|slicePart_none ?_;show aY _ _ (if((1:Int) == 0)=al then _ else _) _ _ s
 rw[T8 (by decide)]
 refine ab<|Qi pl<|ab<|Qi pu<|ab<|ax ?_;show aY _ _ (match f6 lo hi 1 (n:Int)with|(lo,hi)=>cY (lo,(1:Int),eM lo hi 1)) _ _ s
 rw[xZ lo hi n];show aY _ _ (cY (((sIx n 0 lo:Nat):Int),(1:Int),eM ((sIx n 0 lo:Nat):Int) ((sIx n n hi:Nat):Int) 1)) _ _ s;rw[xQ];exact ax h
theorem qV(xs:Array ao)(i k:Nat):((aE k).filterMap λ(m:Nat)=>xs[((i:Int)+(m:Int)*1).toNat]?).toArray=((xs.toList.drop i).take k).toArray:=by
 have e:(λ(m:Nat)=>xs[((i:Int)+(m:Int)*1).toNat]?)=λm=>xs[i+m]?:=by
  funext m
  have:((i:Int)+(m:Int)*1).toNat=i+m:=by lia
  rw[this]
 rw[e];have:=pick_run xs i k;rw[nu]at this;have e2:((λx=>xs[x]?)∘λx=>i+x)=λm=>xs[i+m]?:=rfl
 rw[e2]at this;rw[this]
theorem VH{t sl:aP}{items:Array ao}{vl vu:ao}{lo hi:Option Int}{Q:ao->au->Prop}(ht:rE s.heap t items)(hs:s.heap.IsSliceOf sl vl vu .none)(pl:lI vl lo)(pu:lI vu hi)
  (hw:¬(sIx items.size 0 lo=0/\sIx items.size items.size hi=items.size))
  (h:Q (.ref s.heap.objs.size) {s with heap:=s.heap.push {cls:=.type "tuple",data:=.seq ((items.toList.drop<|sIx items.size 0 lo).take<|sIx items.size items.size hi-sIx items.size 0 lo).toArray}})
  (hsz:items.size<=bx):aY (aT prog w) A (mR (.ref t)<|.ref sl) Q E s:=by
 have htake:sizeOk (.seq ((items.toList.drop<|sIx items.size 0 lo).take<|sIx items.size items.size hi-sIx items.size 0 lo).toArray):=by
  show((items.toList.drop<|sIx items.size 0 lo).take<|sIx items.size items.size hi-sIx items.size 0 lo).toArray.size<=bx;rw[aB,bq,br,aD];lia
 have hj:sIx items.size items.size hi<=items.size:=Zfi _ _ (aM _) hi;obtain⟨os,hos,hcs,hds⟩:=id hs;have hTs:s.TypeIs (.ref sl) "slice":=#[os,hos,hcs];unfold mR
 try with_reducible refine ck ?_
 first|refine ab<|ax ?_|skip
 refine ab<|nK ht.typeIs (by decide) ?_
 refine ab (cX ht.typeIs dJ
  (cS dJ ht.typeIs mU ?_<|nv _ _))
 show aY _ _ (fQ (.ref t) >>= _) _ _ s;refine ab<|tupleItemsOf_ ht ?_;refine ab<|iT hTs ?_;rw[T9 (by decide)]
 refine ab<|XD hs pl pu ?_;have hno:¬((((sIx items.size 0 lo:Nat):Int) == 0&&(1:Int) == 1&&(sIx items.size items.size hi-sIx items.size 0 lo) == items.size)=al):=by
  intro q;rw[aG,aG]at q;have q1:=fk q.1.1;have q2:=fk q.2;exact hw #[by lia,by lia]
 show aY _ _ (if(((sIx items.size 0 lo:Nat):Int) == 0&&(1:Int) == 1&&(sIx items.size items.size hi-sIx items.size 0 lo) == items.size)=al then _ else _) _ _ s
 rw[T8 hno,qV]
 first
  |exact ab<|b6 (ax #[_,rfl,ax h]) htake
  |exact ab<|b6 (ab<|ax<|ax #[_,rfl,ax h]) htake
  |exact ab<|ab<|b6 (ax<|ax #[_,rfl,ax h]) htake
  |exact ab<|ab (m:=dD.Tuple.tupleExact _)<|b6 (ax #[_,rfl,ax h]) htake
end
end HT
namespace L2
open PySem PySem.Spec PyProof.Rows
abbrev TO:=St->Hp->(Option Int->Hp->Prop)->Prop
def PO(X:Cx)(e:Option Expr)(t:TO):Prop:=
 ∀(pq:List (aP×fP))(s:au)(Z:St)(H:Hp)(Q:Option Int->Hp->Prop),Inv X pq Z H s->t Z H Q->
  aY (aT X.prog X.w) X.A (evalPart e X.env) (λu s'=>∃o H',Inv X pq Z H' s'/\lI u o/\Q o H') X.xe s
def ZbV:TO:=λ_ H Q=>Q ae H
def Zf6(t:TE):TO:=λZ H Q=>t Z H λx H1=>∃i,x=.int i/\Q (aa i) H1
section
variable{X:Cx}{e:Expr}{te:TE}{lo hi:Option Expr}{tl th:TO}{pos p2:iP}
def Zcv:PO X ae ZbV:=by
 intro pq s Z H Q I h;rw[evalPart_none];exact ax #[ae,H,I,.none,h]
def ZX(h:PE X e te):PO X (aa e) (Zf6 te):=by
 intro pq s Z H Q I hw;rw[evalPart_some];refine thn (h pq s Z H _ I hw) λu s1 #[x,H1,I1,r1,q1]=>?_
 obtain⟨i,rfl,q⟩:=q1;obtain⟨t,rfl⟩:=r1;exact#[aa i,H1,I1,.int i t,q]
def SlR(X:Cx)(r:V->Option Int->Option Int->Hp->VK->Prop):Prop:=
 ∀(pq:List (aP×fP))(s:au)(Z:St)(H:Hp)(x:V)(v vl vu:ao)(lo hi:Option Int)(sl:aP)(Q:VK),Inv X pq Z H s->ZD x v->s.heap.IsSliceOf sl vl vu .none->lI vl lo->lI vu hi->r x lo hi H Q->
  ∃T id,typeLookup (.type T) "__getitem__" = cY (aa<|.builtin id)/\s.TypeIs v T/\aY (aT X.prog X.w) X.A (mR v<|.ref sl) (EP X pq Z Q) X.xe s
def SlR.or{r r':V->Option Int->Option Int->Hp->VK->Prop}(h:SlR X r)(h':SlR X r'):SlR X (λx lo hi H Q=>r x lo hi H Q\/r' x lo hi H Q):=by
 intro pq s Z H x v vl vu lo hi sl Q I rx hs pl pu q;rcases q with q|q
 .exact h pq s Z H x v vl vu lo hi sl Q I rx hs pl pu q
 .exact h' pq s Z H x v vl vu lo hi sl Q I rx hs pl pu q
def tSl(r:V->Option Int->Option Int->Hp->VK->Prop)(te:TE)(tl th:TO):TE:=λZ H Q=>te Z H λx H1=>tl Z H1 λl H2=>th Z H2 λu H3=>r x l u H3 Q
def jQ{r:V->Option Int->Option Int->Hp->VK->Prop}(hr:SlR X r)(he:PE X e te)(hl:PO X lo tl)(hu:PO X hi th):PE X (.Subscript e (.Slice lo hi ae p2) pos) (tSl r te tl th):=by
 intro pq s Z H Q I h;refine Subscript_<|thn (he pq s Z H _ I h) λv s1 #[x,H1,I1,r1,q1]=>?_
 refine wpAny_Slice<|thn (hl pq s1 Z H1 _ I1 q1) λvl s2 #[l,H2,I2,pl,q2]=>thn (hu pq s2 Z H2 _ I2 q2) λvu s3 #[u,H3,I3,pu,q3]=>?_
 rw[evalPart_none];refine ax ?_;have I4:Inv X pq Z H3 {s3 with heap:=s3.heap.push {cls:=.type "slice",data:=.fields [vl,vu,.none].toArray}}:=I3.kept (t':=s3.toks) λb ob q=>aw _ q
 obtain⟨T,id,hT,ht,hg⟩:=hr pq {s3 with heap:=s3.heap.push {cls:=.type "slice",data:=.fields [vl,vu,.none].toArray}} Z H3 x v vl vu l u s3.heap.objs.size Q I4 r1 (cc.IsSliceOf.new ..) pl pu q3
 exact tail_any ht hT hg (by with_unfolding_all rfl)
noncomputable def XM(xs:List V)(lo hi:Option Int):List V:=(xs.drop<|HT.sIx xs.length 0 lo).take<|HT.sIx xs.length xs.length hi-HT.sIx xs.length 0 lo
theorem Ul(xs:List V)(lo hi:Option Int):(XM xs lo hi).length<=xs.length:=by
 unfold XM;rw[bq,br];lia
def Zg0(K:ap):V->Option Int->Option Int->Hp->VK->Prop:=λx lo hi H Q=>∃a xs,x=.ref a/\SqT K H a xs/\
 ¬(HT.sIx xs.length 0 lo=0/\HT.sIx xs.length xs.length hi=xs.length)/\∀p,H p=ae->Q (.ref p) (upd H p<|.tup<|XM xs lo hi)
def Ze8:SlR X (Zg0 X.K):=by
 intro pq s Z H x v vl vu lo hi sl Q I rx hs pl pu h;obtain⟨a,xs,rfl,hx,hw,q⟩:=h;cases rx;obtain⟨its,r,ht,hz⟩:=I.tuple hx;have hlen:its.toArray.size=xs.length:=by rw[aB];exact r.length.symm
 refine#["tuple",_,dJ.lookup,ht.typeIs,?_];refine HT.VH ht hs pl pu (by rw[hlen];exact hw) ?_ (by rw[hlen];exact hz)
 rw[hlen];refine#[.ref s.heap.objs.size,_,I.laid (t':=s.toks) (λb ob q=>aw _ q) (aM _) ?_,rfl,q _<|I.hok.fresh<|aM _]
 exact#[cf (Ul xs lo hi) hz,_,(r.drop<|HT.sIx xs.length 0 lo).take<|HT.sIx xs.length xs.length hi-HT.sIx xs.length 0 lo,iY _ _]
def ZdG(K:ap):R2:=λx y H Q=>∃a b xs ys,x=.ref a/\y=.ref b/\SqT K H a xs/\SqT K H b ys/\xs≠[]/\xs.length+ys.length<=bx/\
 (ys=[]->Q (.ref a) H)/\(ys≠[]->∀p,H p=ae->Q (.ref p) (upd H p<|.tup<|xs++ys))
def Vals.nil_iff(r:Vals xs us):us=[]↔xs=[]:=by
 cases r with|nil=>simp|cons _ _=>simp
def Zda:OpR X (eW .Add) (ZdG X.K):=by
 intro pq s Z H x y v u Q I rx ry h;obtain⟨a,b,xs,ys,rfl,rfl,ha,hb,hx,hz,q1,q2⟩:=h;cases rx;cases ry;obtain⟨its,r1,p1,_⟩:=I.tuple ha;obtain⟨its2,r2,p2,_⟩:=I.tuple hb;refine HT.Zct p1 p2 (λz=>hx<|r1.nil_iff.mp z) (λz=>#[.ref a,H,I,rfl,q1<|r2.nil_iff.mp z]) (λz=>?_) (by rw[<-r1.length,<-r2.length];exact hz)
 refine#[.ref s.heap.objs.size,_,I.laid (t':=s.toks) (λb ob q=>aw _ q) (aM _) ?_,rfl,q2 (λw=>z<|r2.nil_iff.mpr w) _<|I.hok.fresh<|aM _]
 exact#[by rw[ba];exact hz,_,r1.append r2,iY _ _]
end
noncomputable def ixN(n:Nat)(i:Int):Option Nat:=if 0<=i then(if i<n then aa i.toNat else ae)else if -(n:Int)<=i then aa (i+n).toNat else ae
noncomputable def atI{B:Type}(xs:List B)(i:Int):Option B:=(ixN xs.length i).bind λj=>xs[j]?
def vq(h:ixN n i=aa j):seqIndex? i n=aa j/\j<n/\-(n:Int)<=i/\i<n:=by
 unfold ixN at h;by_cases h0:0<=i
 .rw[T9 h0]at h
  by_cases h1:i<n
  .rw[T9 h1]at h
   have e:=ak h;exact#[by rw[oT h0 h1,e],by lia,by lia,h1]
  .rw[T8 h1]at h;cases h
 .rw[T8 h0]at h
  by_cases h1:-(n:Int)<=i
  .rw[T9 h1]at h
   have e:=ak h;exact#[by rw[nL (by lia) h1,e],by lia,h1,by lia]
  .rw[T8 h1]at h;cases h
def vb{B:Type}{xs:List B}{i:Int}{v:B}(h:atI xs i=aa v):∃j,seqIndex? i xs.length=aa j/\xs[j]?=aa v/\j<xs.length/\-(xs.length:Int)<=i/\i<xs.length:=by
 unfold atI at h;cases e:ixN xs.length i with
 |none=>rw[e]at h;cases h
 |some j=>
  rw[e]at h;obtain⟨h1,h2,h3,h4⟩:=vq e;exact#[j,h1,h,h2,h3,h4]
def vK(b:Expr):Prop:=∀o i,subscripted b am o i=operate [o,i] (mR o i)
def IxR(X:Cx)(r:R2):Prop:=
 ∀(value slice:Expr)(pq:List (aP×fP))(s:au)(Z:St)(H:Hp)(x y:V)(v u:ao)(Q:VK),Inv X pq Z H s->ZD x v->ZD y u->r x y H Q->
  subscripted slice am v u=operate [v,u] (mR v u)->aY (aT X.prog X.w) X.A (subscriptTail value slice v u) (EP X pq Z Q) X.xe s
def MtR(X:Cx)(id:String)(r:V->List V->Hp->VK->Prop):Prop:=
 ∀(pq:List (aP×fP))(s:au)(Z:St)(H:Hp)(x:V)(xs:List V)(v:ao)(us:List ao)(Q:VK),Inv X pq Z H s->ZD x v->Vals xs us->r x xs H Q->
  aY (aT X.prog X.w) X.A (call (.builtin id) (v::us)) (EP X pq Z Q) X.xe s
section
variable{X:Cx}{a b:Expr}{ta tb:TE}{pos:iP}
def IxR.or(h:IxR X r)(h':IxR X r'):IxR X (λx y H Q=>r x y H Q\/r' x y H Q):=by
 intro value slice pq s Z H x y v u Q I rx ry q hs;rcases q with q|q
 .exact h value slice pq s Z H x y v u Q I rx ry q hs
 .exact h' value slice pq s Z H x y v u Q I rx ry q hs
def je(hr:IxR X r)(ha:PE X a ta)(hb:PE X b tb)(hs:vK b):PE X (.Subscript a b pos) (tOp r ta tb):=by
 intro pq s Z H Q I h;exact Subscript_<|Zfa ha hb I h λv u s2 x y H2 I2 rx ry q=>hr a b pq s2 Z H2 x y v u Q I2 rx ry q<|hs _ _
def Zg9(K:ap):R2:=λx y H Q=>∃p xs i v,x=.ref p/\y=.int i/\SqL K H p xs/\atI xs i=aa v/\Q v H
def Zha(K:ap):R2:=λx y H Q=>∃p xs i v,x=.ref p/\y=.int i/\SqT K H p xs/\atI xs i=aa v/\Q v H
theorem GE:IxR X (Zg9 X.K):=by
 intro value slice pq s Z H x y v u Q I rx ry h hs;obtain⟨p,xs,i,z,rfl,rfl,hq,he,q⟩:=h;cases rx;obtain⟨t,rfl⟩:=ry;obtain⟨its,r,pl,hz⟩:=I.list hq;obtain⟨j,h1,h2,h3,h4,h5⟩:=vb he;obtain⟨w,ew,rw'⟩:=r.get h2;have hl:=r.length;have hn:=Qj;have fin:EP X pq Z Q w s:=#[z,H,I,rw',q];by_cases h0:0<=i
 .have hj:i.toNat=j:=by
   rw[oT h0 h5]at h1;exact ak h1
  exact item_listR pl.isList h0 (by lia) (by rw[hj];simpa using ew) fin hs
 .have hj:(i+(its.toArray.size:Int)).toNat=j:=by
   rw[nL (by lia) h4]at h1
   rw[aB,<-hl];exact ak h1
  exact lJ pl.isList.typeIs slot_list_getitem.lookup
   (wpAny_getItem_list_neg pl.isList (by lia) (by rw[aB]<;>lia) (by lia) (by rw[hj];simpa using ew) #[rfl,fin]) hs
theorem Zff:IxR X (Zha X.K):=by
 intro value slice pq s Z H x y v u Q I rx ry h hs;obtain⟨p,xs,i,z,rfl,rfl,hq,he,q⟩:=h;cases rx;obtain⟨t,rfl⟩:=ry;obtain⟨its,r,pl,hz⟩:=I.tuple hq;obtain⟨j,h1,h2,h3,h4,h5⟩:=vb he;obtain⟨w,ew,rw'⟩:=r.get h2;have hl:=r.length;have hn:=Qj;have fin:EP X pq Z Q w s:=#[z,H,I,rw',q];exact lJ pl.typeIs slot_tuple_getitem.lookup
  (getItem_tuple pl (by lia) (by lia) (by rw[aB,<-hl];exact h1) (by simpa using ew) #[rfl,fin]) hs
def xX(its:List ao)(n j:Nat)(u:ao):eC (·.setIfInBounds j u) {cls:=.type "list",data:=.seq its.toArray n}={cls:=.type "list",data:=.seq (its.set j u).toArray n}:=by
 simp[eC]
theorem Inv.lst{pq:List (aP×fP)}{Z:St}{H:Hp}{s:au}{p:aP}{xs:List V}(I:Inv X pq Z H s)(h:H p=aa (.lst xs)) :
  ∃(its:List ao)(n:Nat),Vals xs its/\s.heap.get? p=aa {cls:=.type "list",data:=.seq its.toArray n}/\xs.length<=bx:=by
 obtain⟨z,its,n,r,e⟩:=I.hok p _ h;exact#[its,n,r,e,z]
def Inv.lstUpd{pq:List (aP×fP)}{Z:St}{H:Hp}{s:au}{p:aP}{xs ys:List V}{its its':List ao}{n n':Nat}{f:fP->fP}(I:Inv X pq Z H s)(h:H p=aa (.lst xs))
  (ho:s.heap.get? p=aa {cls:=.type "list",data:=.seq its.toArray n})(hf:f {cls:=.type "list",data:=.seq its.toArray n}={cls:=.type "list",data:=.seq its'.toArray n' })(r:Vals ys its')(hz:ys.length<=bx)(t:Nat) :
  Inv X pq Z (upd H p<|.lst ys) {s with heap:=s.heap.update p f,toks:=t}:=by
 have e:(s.heap.update p f).get? p=aa {cls:=.type "list",data:=.seq its'.toArray n' }:=by
  rw[eJ f ho (by rw[hf]<;>rfl),hf]
 refine I.write (by rw[h];trivial) (.inl rfl) (λb u hb q=>(lK _ _<|Ne.symm hb).trans q) #[_,e] ?_
 exact#[hz,its',n',r,e]
def Zgn:V->V->V->Hp->(Hp->Prop)->Prop:=λo i v H Q=>∃p xs k j,o=.ref p/\i=.int k/\H p=aa (.lst xs)/\ixN xs.length k=aa j/\Q (upd H p<|.lst<|xs.set j v)
theorem zH:PSet X Zgn:=by
 intro pq s Z H o i v ov iv u Q I ro ri rv h;obtain⟨p,xs,k,j,rfl,rfl,hp,hj,q⟩:=h;cases ro;obtain⟨t,rfl⟩:=ri;obtain⟨its,n,r,ho,hz⟩:=I.lst hp;obtain⟨h1,h2,h3,h4⟩:=vq hj;have hl:=r.length;have hn:=Qj;have I':=
  I.lstUpd hp ho (xX its n j u) (r.set rv j) (by rw[bH];exact hz) s.toks
 by_cases h0:0<=k
 .have hk:k.toNat=j:=by
   rw[oT h0 h4]at h1;exact ak h1
  exact PySem.W.ki_setAt ho h0 (by lia) (by rw[aB,<-hl];exact h4) (by rw[hk];exact#[_,I',q])
 .have hk:(k+(its.toArray.size:Int)).toNat=j:=by
   rw[nL (by lia) h3]at h1
   rw[aB,<-hl];exact ak h1
  exact PySem.W.ki_setBack ho (by lia) (by rw[aB,<-hl];exact h3) (by lia) (by rw[hk];exact#[_,I',q])
theorem Gx(lo hi:Option Int)(n:Nat):(gI lo hi ae n).1=((HT.sIx n 0 lo:Nat):Int)/\(gI lo hi ae n).2.1=((HT.sIx n n hi:Nat):Int)/\(gI lo hi ae n).2.2=1:=by
 refine#[?_,?_,rfl]
 .cases lo with
  |none=>simp[gI,HT.sIx]
  |some i=>
   simp only[gI,HT.sIx,oA,show(1:Int)>0 by decide,if_true]
   by_cases h:i<0
   .simp only[h,if_true]<;>lia
   .simp only[h,if_false]<;>lia
 .cases hi with
  |none=>simp[gI,HT.sIx]
  |some i=>
   simp only[gI,HT.sIx,oA,show(1:Int)>0 by decide,if_true]
   by_cases h:i<0
   .simp only[h,if_true]<;>lia
   .simp only[h,if_false]<;>lia
def Q0(its:List ao)(lo hi:Option Int):slicePick its.toArray lo hi ae=((its.drop<|HT.sIx its.length 0 lo).take<|HT.sIx its.length its.length hi-HT.sIx its.length 0 lo).toArray:=by
 obtain⟨h1,h2,h3⟩:=Gx lo hi its.toArray.size;unfold slicePick;rw[h1,h2,h3];simp only[sliceRange_one,pick_run,aB]<;>rfl
def Zhb(K:ap):V->Option Int->Option Int->Hp->VK->Prop:=λx lo hi H Q=>∃a xs,x=.ref a/\SqL K H a xs/\∀p,H p=ae->Q (.ref p) (upd H p<|.lst<|XM xs lo hi)
theorem ZbP:SlR X (Zhb X.K):=by
 intro pq s Z H x v vl vu lo hi sl Q I rx hs pl pu h;obtain⟨a,xs,rfl,hx,q⟩:=h;cases rx;obtain⟨its,r,ht,hz⟩:=I.list hx;have hlen:=r.length;refine#["list",_,slot_list_getitem.lookup,ht.isList.typeIs,?_];refine wpAny_getItem_list_slice ht.isList hs pl pu .none (by simp) ?_ (by rw[aB]<;>lia)
 rw[Q0,<-hlen];refine#[.ref s.heap.objs.size,_,I.laid (t':=s.toks) (λb ob q=>aw _ q) (aM _) ?_,rfl,q _<|I.hok.fresh<|aM _]
 exact#[cf (Ul xs lo hi) hz,_,0,(r.drop<|HT.sIx xs.length 0 lo).take<|HT.sIx xs.length xs.length hi-HT.sIx xs.length 0 lo,aO _ rfl]
noncomputable def vx:V->Bool
 |.non=>al
 |.bl _=>al
 |.int _=>al
 |.str _=>al
 |_=>am
noncomputable def eqV:V->V->Bool
 |.non,.non=>al
 |.bl a,.bl b=>a == b
 |.bl a,.int b=>(if a then 1 else 0) == b
 |.int a,.bl b=>a == (if b then 1 else 0)
 |.int a,.int b=>a == b
 |.str a,.str b=>a == b
 |_,_=>am
def Ze2{A:cn}{s:au}{y x:V}{u v:ao}(ry:ZD y u)(rx:ZD x v)(fy:vx y=al)(fx:vx x=al):im A s u v (eqV y x):=by
 cases y with
 |non=>
  cases ry;cases x with|non=>cases rx;exact iG _|bl b=>cases rx;exact im.none_bool b|int b=>obtain⟨t,rfl⟩:=rx;exact im.none_int b t|str b=>obtain⟨t,rfl⟩:=rx;exact im.none_str b t|_=>exact T7 (fx) aI
 |bl a=>
  cases ry;cases x with|non=>cases rx;exact im.bool_none a|bl b=>cases rx;exact im.bool_bool a b|int b=>obtain⟨t,rfl⟩:=rx;exact im.bool_int a b t|str b=>obtain⟨t,rfl⟩:=rx;exact im.bool_str a b t|_=>exact T7 (fx) aI
 |int a=>
  obtain⟨t',rfl⟩:=ry;cases x with|non=>cases rx;exact im.int_none a t'|bl b=>cases rx;exact im.int_bool a t' b|int b=>obtain⟨t,rfl⟩:=rx;exact ny a t' b t|str b=>obtain⟨t,rfl⟩:=rx;exact ng a t' b t|_=>exact T7 (fx) aI
 |str a=>
  obtain⟨t',rfl⟩:=ry;cases x with|non=>cases rx;exact im.str_none a t'|bl b=>cases rx;exact im.str_bool a t' b|int b=>obtain⟨t,rfl⟩:=rx;exact nh a t' b t|str b=>obtain⟨t,rfl⟩:=rx;exact im.str_str a t' b t|_=>exact T7 (fx) aI
 |_=>exact T7 (fy) aI
theorem Gs:Z5 X (.builtin "len") (λxs H Q=>∃p ys,xs=[.ref p]/\(SqL X.K H p ys\/SqT X.K H p ys)/\Q (.int ys.length) H):=by
 intro pq s Z H xs us Q I r h;obtain⟨p,ys,rfl,hq,q⟩:=h;obtain⟨u,rfl,rx⟩:=JP r;cases rx;have hn:=Qj;rcases hq with hq|hq
 .obtain⟨its,r',pl,hz⟩:=I.list hq
  have hlen:=r'.length;exact Calls.call_len_list pl.isList (by simp only[aB]<;>lia) #[.int ys.length,H,I.tok _,#[s.toks+1,by rw[aB,hlen]],q]
 .obtain⟨its,r',pl,hz⟩:=I.tuple hq
  have hlen:=r'.length;exact len_tuple pl (by simp only[aB]<;>lia) #[.int ys.length,H,I.tok _,#[s.toks+1,by rw[aB,hlen]],q]
theorem QZ:Z5 X (.type "tuple") (λxs H Q=>∃p ys,xs=[.ref p]/\((SqL X.K H p ys/\∀l,H l=ae->Q (.ref l) (upd H l<|.tup ys))\/(SqT X.K H p ys/\Q (.ref p) H))):=by
 intro pq s Z H xs us Q I r h;obtain⟨p,ys,rfl,h⟩:=h;obtain⟨u,rfl,rx⟩:=JP r;cases rx;rcases h with⟨hq,q⟩|⟨hq,q⟩
 .obtain⟨its,r',pl,hz⟩:=I.list hq
  have hlen:=r'.length;refine call_tuple_list pl.isList (λh' kp=>?_) (by simp only[aB]<;>lia)
  have I1:=I.kept (t':=s.toks) kp
  have I2:=
   I1.laid (t':=s.toks) (λb o e=>aw _ e) (aM _) (show Xk X.prog X.w _ _ _ (.tup ys)from#[hz,its,r',iY _ _])
  exact#[.ref h'.objs.size,_,I2,rfl,q _<|I1.hok.fresh<|aM _]
 .obtain⟨its,r',pl,hz⟩:=I.tuple hq
  exact call_tuple_same pl #[.ref p,H,I,rfl,q]
def tyV(K:ap)(T:String)(x:V)(H:Hp):Prop:=match x with
 |.str _=>T = "str"
 |.int _=>T = "int"
 |.ref p=>(T = "list"/\∃xs,SqL K H p xs)\/(T = "tuple"/\∃o,K.lookup p=aa o/\o.cls=.type "tuple"/\o.dict=ae)\/
   (T = "dict"/\((∃kvs,H p=aa (.dK kvs))\/∃kvs,H p=aa (.dT kvs)))\/(T = "set"/\∃S n,H p=aa (.set S n))
 |_=>False
def ZeF(I:Inv X pq Z H s)(r:ZD x v)(ty:tyV X.K T x H) :
  s.TypeIs v T/\∀a,v=.ref a->∃ob,s.heap.get? a=aa ob/\ob.dict=ae:=by
 cases x with
 |str z=>
  obtain⟨t,rfl⟩:=r;cases(ty)
  exact#[typeIs_str s z t,λ_ e=>nomatch e]
 |int i=>
  obtain⟨t,rfl⟩:=r;cases(ty)
  exact#[lL s i t,λ_ e=>nomatch e]
 |ref p=>
  cases r;rcases ty with⟨rfl,xs,hq⟩|⟨rfl,o,hk,hc,hd⟩|⟨rfl,hk⟩|⟨rfl,S,n,hk⟩
  .obtain⟨its,_,pl,_⟩:=I.list hq
   refine#[pl.isList.typeIs,λa e=>?_]
   cases e;obtain⟨o,n,e,c,hd,_⟩:=pl;exact#[o,e,hd]
  .refine#[#[o,I.kIn p o hk,hc],λa e=>?_]
   cases e;exact#[o,I.kIn _ o hk,hd]
  .have z:∃o,s.heap.get? p=aa o/\o.ExactDict:=by
    rcases hk with⟨kvs,hk⟩|⟨kvs,hk⟩
    .obtain⟨_,_,_,_,o,_,_,e,ex,_⟩:=I.hok p _ hk
     exact#[o,e,ex]
    .obtain⟨_,_,_,_,o,_,_,e,ex,_⟩:=I.hok p _ hk
     exact#[o,e,ex]
   obtain⟨o,e,ex⟩:=z;refine#[#[o,e,ex.1],λa e2=>?_]
   cases e2;exact#[o,e,ex.2.1]
  .obtain⟨o,_,_,_,e,ex,_⟩:=I.hok p _ hk
   refine#[#[o,e,ex.1],λa e2=>?_]
   cases e2;exact#[o,e,ex.2.1]
 |_=>exact False.elim ty
def tBM(K:ap)(T:String)(r:V->List V->Hp->VK->Prop)(to:TE)(t:TA):TE:=λZ H Q=>to Z H λx H1=>tyV K T x H1/\t Z H1 λxs H2=>r x xs H2 Q
variable{o e:Expr}{es:List Expr}{to:TE}{t:TA}{name:bI}{apos cpos:iP}{T id:String}{r:V->List V->Hp->VK->Prop}
def Zgf(pa:PlainAttrs T)(slot:Slot T name id)(hty:typeOf (.builtin id)=cY (.type "method_descriptor"))(hm:MtR X id r)(ho:PE X o to)(ha:PA X (e::es) t)
  (hbase:attributeBase o name X.env (cI o X.env)=cI o X.env:=by rfl)
  (hfew:((fj cpos<|aL (e::es) X.env).all (λx=>!x.1)&&(backToKw cpos<|keywordEach [] X.env).all (λx=>x.1.isSome)
   && aj ((e::es).length+([]:List rC).length+(if([]:List rC).isEmpty then 0 else 1)<30))=al:=by rfl)
  (hline:(apos.endLine == cpos.line)=al:=by rfl)(hs:aL (e::es) X.env=(am,cI e X.env)::aL es X.env:=by rfl)(hplain:(fj cpos<|aL es X.env).any (·.1)=am:=by rfl) :
  PE X (.Call (.Attribute o name apos) (e::es) [] cpos) (tBM X.K T r to t):=by
 intro pq s Z H Q I h;refine wpAny_Call_method_late hbase hfew hline rfl<|thn (ho pq s Z H _ I h) λv s1 #[x,H1,I1,r1,ty,q1]=>?_
 obtain⟨h1,h2⟩:=ZeF I1 r1 ty;refine#[T,id,pa,slot,hty,h1,h2,?_];have hA:=ha cpos pq s1 Z H1 _ I1 q1;rw[hs]at hA ⊢;refine Calls.callWith_builtin (by show(am||(fj cpos<|aL es X.env).any (·.1))=am;rw[hplain]<;>rfl)<|Calls.evalArgs_plain ?_
 exact thn hA<|by rintro us s2 ⟨vs,H2,I2,r2,q2⟩;exact hm pq s2 Z H2 x vs v us Q I2 r1 r2 q2
end
def MtM(X:Cx)(id:String)(r:V->List V->Hp->VK->Prop):Prop:=
 ∀(pq:List (aP×fP))(s:au)(Z:St)(H:Hp)(x:V)(xs:List V)(v:ao)(us:List ao)(Q:VK),Inv X pq Z H s->ZD x v->Vals xs us->r x xs H Q->
  aY (aT X.prog X.w) X.A (call (.builtin id) (v::us)) (EP X pq Z Q) X.xe s
def Vals.one:∀{x:V}{us:List ao},Vals [x] us->∃u,us=[u]/\ZD x u
 |_,_,.cons r .nil=>#[_,rfl,r]
theorem Vals.rep(h:Vals xs us):∀k:Nat,Vals (az k xs).flatten (az k us).flatten
 |0=>.nil
 |k+1=>by
  rw[bv,bv,cw,cw];exact Vals.append h<|Vals.rep h k
theorem VL(its:List ao):∀(k:Nat)(acc:List ao),
  List.foldl (λx1 x2=>x1++x2) acc.toArray (az k its.toArray)=(acc++(az k its).flatten).toArray
 |0,acc=>by simp
 |k+1,acc=>by
  have e:acc.toArray++its.toArray=(acc++its).toArray:=by simp
  have e2:(acc++its)++(az k its).flatten=acc++(az (k+1) its).flatten:=by
   rw[bv,cw,bp]
  rw[<-e2,<-VL its k (acc++its),<-e,bv,gp]
section
variable{X:Cx}{pq:List (aP×fP)}{Z:St}{H:Hp}{s:au}{l b:aP}{xs ys zs:List V}
def Inv.lset{its its':List ao}{n:Nat}{f:Array ao->Array ao}{t':Nat}(I:Inv X pq Z H s)(hH:H l=aa (.lst xs))
  (e:s.heap.get? l=aa {cls:=.type "list",data:=.seq its.toArray n})(hf:f its.toArray=its'.toArray)(hv:Vals ys its')(hz:ys.length<=bx) :
  Inv X pq Z (upd H l<|.lst ys) {s with heap:=s.heap.update l<|eC f,toks:=t' }:=by
 have q:=PySem.IsL.update e f;rw[hf]at q;refine I.write (by rw[hH];exact trivial) (.inl rfl) (λb' u hb hu=>(lK s.heap (eC f)<|Ne.symm hb).trans hu) #[_,q] ?_
 exact#[hz,its',_,hv,q]
def Inv.lnew(I:Inv X pq Z H s)(hv:Vals ys its)(hz:ys.length<=bx) :
  Inv X pq Z (upd H s.heap.objs.size<|.lst ys) {s with heap:=s.heap.push {cls:=.type "list",data:=.seq its.toArray},toks:=t' }:=
 I.laid (λ_ _ q=>aw _ q) (aM _) #[hz,its,0,hv,aO _ rfl]
theorem Inv.fresh(I:Inv X pq Z H s):H s.heap.objs.size=ae:=I.hok.fresh<|aM _
def Inv.lstM(I:Inv X pq Z H s)(hH:H l=aa (.lst xs)):xs.length<=bx/\∃(its:List ao)(n:Nat),Vals xs its/\xs.length=its.length/\s.heap.get? l=aa {cls:=.type "list",data:=.seq its.toArray n}:=by
 obtain⟨z,its,n,r,e⟩:=I.hok l _ hH;exact#[z,its,n,r,r.length,e]
theorem j5(h:n<=bx):gg n=am:=by
 exact T4 (by lia)
end
section
variable{X:Cx}
def ZbR:V->List V->Hp->VK->Prop:=λx vs H Q=>∃l xs y,x=.ref l/\vs=[y]/\H l=aa (.lst xs)/\xs.length<bx/\Q .non (upd H l<|.lst<|xs++[y])
theorem u5:MtM X "list.append" ZbR:=by
 intro pq s Z H x vs v us Q I rx rv h;obtain⟨l,xs,y,rfl,rfl,hH,hz,q⟩:=h;cases rx;obtain⟨u,rfl,ru⟩:=rv.one;obtain⟨z,its,n,r,hl,e⟩:=I.lstM hH;refine gy F.slot_list_append #[_,e,rfl] F.entry_list_append (F.args_list_append_2 _ _) (PySem.list_append l its.toArray n u<|by rw[aB];lia) #[e,?_]
 refine#[.non,_,I.lset (its':=its++[u]) hH e (by simp) (r.append<|.cons ru .nil) ?_,rfl,q]
 rw[ba,db];lia
def Zc4:V->List V->Hp->VK->Prop:=λx vs H Q=>∃l b xs zs,x=.ref l/\vs=[.ref b]/\H l=aa (.lst xs)/\H b=aa (.lst zs)/\xs.length+zs.length<=bx/\Q .non (upd H l<|.lst<|xs++zs)
theorem uz:MtM X "list.extend" Zc4:=by
 intro pq s Z H x vs v us Q I rx rv h;obtain⟨l,b,xs,zs,rfl,rfl,hH,hB,hz,q⟩:=h;cases rx;obtain⟨u,rfl,ru⟩:=rv.one;cases ru;obtain⟨z,its,n,r,hl,e⟩:=I.lstM hH;obtain⟨z2,its2,n2,r2,hl2,e2⟩:=I.lstM hB;have hsz:its.toArray.size+its2.toArray.size<=bx:=by rw[aB,aB];lia
 have hlong:¬(!its.toArray.isEmpty&&gg (its.toArray.size+its2.toArray.size))=al:=by
  rw[j5 hsz,pG];exact aI
 refine gy F.slot_list_extend #[_,e,rfl] F.entry_list_extend (F.args_list_extend_2 _ _)
  (AutoSeq1.list_extend_list_list_0 l its.toArray n b its2.toArray n2 hlong (by rw[aB];lia)<|by lia) #[e,e2,?_]
 refine#[.non,_,I.lset (its':=its++its2) hH e (by simp) (r.append r2) ?_,rfl,q]
 rw[ba];lia
def Zgd:R2:=λx y H Q=>∃l b xs zs,x=.ref l/\y=.ref b/\H l=aa (.lst xs)/\H b=aa (.lst zs)/\xs.length+zs.length<=bx/\∀p,H p=ae->Q (.ref p) (upd H p<|.lst<|xs++zs)
theorem Zew:OpR X (eW .Add) Zgd:=by
 intro pq s Z H x y v u Q I rx ry h;obtain⟨l,b,xs,zs,rfl,rfl,hH,hB,hz,q⟩:=h;cases rx;cases ry;obtain⟨z,its,n,r,hl,e⟩:=I.lstM hH;obtain⟨z2,its2,n2,r2,hl2,e2⟩:=I.lstM hB;refine PySem.P.add_list e e2 ?_ (by rw[aB,aB];lia)
 have ea:its.toArray++its2.toArray=(its++its2).toArray:=by simp
 rw[ea];exact#[.ref _,_,I.lnew (t':=s.toks) (r.append r2) (by rw[ba];lia),rfl,q _ I.fresh]
def GW{B:Type}(xs:List B)(k:Nat):(az k xs).flatten.length=k*xs.length:=by
 induction k with|zero=>simp|succ k ih=>rw[bv,cw,ba,ih,Nat.succ_mul,nM]
end
end L2
namespace Att
open PySem PySem.W PySem.Calls PyProof.Rows
def Uy :∀(ns:List Int)(vs:List ao),WellAll P h vs (ns.map WData.int)->pk vs ns:=by
 intro ns
 induction ns with
 |nil=>
  intro vs w;rw[nN]at w;cases w;exact .nil
 |cons n ns ih=>
  intro vs w;rw[bi]at w;cases w with
  |cons a b=>
   cases a;exact .cons _ _<|ih _ b
def qm{l:OpenLaw}{n:Nat}(hn:l.most=aa n){P:Params}{h:cc}{args:List WData}{vals:List ao}
  (hpre:l.row.toRowW.claim.pre args=al)(hwl:WellAll P h vals args) :
  ∃a vs ns,vals=[bX a]/\args=[WData.list<|ns.map WData.int]/\h.get? a=aa {cls:=.type "list",data:=.seq vs.toArray}/\pk vs ns/\ns.length<=n:=by
 have hsh:=(pre_splitW hpre).1;have hc:l.pre.holds [] {args:=args}=al:=(pre_splitW hpre).2;obtain⟨d,r,rfl,h1,h2⟩:=hasAllW_cons hsh;obtain rfl:=hasAllW_nil h2;obtain⟨xs,rfl,h3⟩:=hasW_list h1;obtain⟨ns,rfl⟩:=items_int h3;have hlen:ns.length<=n:=by
  have h4:(WTm.not<|.lt (.lit<|.int (n:Int))<|.len<|.arg 0).holds [] {args:=[.list<|ns.map .int]}=al:=by
   have h4:=(holds_andW hc).1;rw[hn]at h4;exact h4
  have h5:=condW_of h4<|w_not<|w_lt w_lit<|w_len_list<|w_arg rfl;rw[aq]at h5;refine fm λq=>?_
  have q':(n:Int)<((ns.length:Nat):Int):=by lia
  first
   |(rw[T5 q']at h5;exact T7 h5 (by decide))
   |(simp at h5;lia)
 cases hwl with
 |cons w1 w2=>
  cases w2;cases w1 with|list ho hall=>exact#[_,_,ns,rfl,rfl,ho,Uy ns _ hall,hlen]
def qC(l:OpenLaw)(args:List WData):l.row.toRowW.claim.post args (.bool al) args=al:=
 postW_of
  (by first|rfl|decide|simp[WShape.has,WShape.arms,WShape.armsAll])
  (w_eq_bool (w_res rfl) w_lit) rfl
def zt{l:OpenLaw}{n:Nat}{q:bt}{loose:List bI}{XP:(bI->Option ao)->cc->Prop}{YP:bL->cc->Prop}{d:DefRec}
  (hn:l.most=aa n)(hdf:d.params.defaults=[])
  (call:∀(w:bL)(s₀ s₁:au)(mg mb:bI->Option ao)(fa:aP)(o:fP)(pm cd doc:ao)(a:aP)(vs:List ao)(ns:List Int),
   Ground q loose [] XP w s₀ mg mb s₁.heap->YP w s₁.heap->
   s₁.heap.get? fa=aa o->o.data=.func (docDef d.name d.params d.body d.scope pm cd doc)->s₁.heap.CodeRec cd d.name->mg d.name=aa (.ref fa)->
   s₁.heap.get? a=aa {cls:=.type "list",data:=.seq vs.toArray}->pk vs ns->ns.length<=n->s₁.gens = #[]->
   fC (aT l.prog w) mS (.call (.ref fa) #[[.ref a],[]]) (λr s'=>r=.ok (.ret<|.bool al)/\OldK s₁.heap s'.heap/\s'.os=s₁.os/\kB s'.gens) s₁) :
  WalkO q loose XP YP l.row.toRowW d [] (λf vs=>pH f vs):=by
 intro w s₀ s₁ mg mb G Y fa o pm cd doc dV kV ho hd hcd hD hmg hg args vals as hpre hlay hrd hwl hlo;obtain rfl:dV=.none:=Dflts.none hD hdf;obtain rfl:kV=.none:=Dflts.noKw hD;obtain⟨a,vs,ns,rfl,rfl,hobj,hints,hlen⟩:=qm hn hpre hwl;refine enter_call<|gP (call w s₀ s₁ mg mb fa o pm cd doc a vs ns G Y ho (fd_plain hd) hcd hmg hobj hints hlen hg) λr s' hq=>?_
 obtain⟨rfl,h2,h3,h4⟩:=hq;exact#[.inl #[.bool al,.bool al,[],rfl,λ_=>rfl,.bool al,qC l _,λ_=>#[fM,λ_ hm=>(nomatch hm)]],h2,h3,h4]
end Att
namespace L2
open PySem PySem.Spec PyProof.Rows
theorem JM:∀{vs:List ao}{ns:List Int},pk vs ns->Vals (ns.map V.int) vs
 |_,_,.nil=>.nil
 |_,_,.cons n t h=>.cons #[t,rfl]<|JM h
def Only(H:Hp):Prop:=∀b,H b=ae\/∃o xs,H b=aa (.frz o<|.lst xs)
def ZaG{P:bt}{w:bL}{K:ap}{mg mb:bI->Option ao}{CX:CXT}{k:Nat}{fa a:aP}{fd:c8}{x:bI}{sp:Sp}{s₁:au}{vs:List ao}{ns:List Int}
  (KX:K.In s₁.heap)(hns:s₁.heap.Ns cT mg)(hb:s₁.heap.Ns nj mb)(hbb:∀x:bI,x≠"__name__"->mb x=dC x)(hlim:s₁.heap.NoLimit)(hg:s₁.gens = #[])
  (ha:s₁.heap.get? a=aa {cls:=.type "list",data:=.seq vs.toArray})(hi:pk vs ns)(hl:ns.length<=bx)(hr:Room k mS)
  (F:∀base:cc,K.In base->base.Ns cT mg->FnOk P w K mg base CX k fa fd [x] sp)(hbind:∀(s:au)(u:ao),nI s fd #[[u],[]] [(x,u)])
  (hsp:∀H:Hp,Only H->SqL K H a (ns.map V.int)->sp [.ref a] H (λv _=>v=.bl al) λ_ _ _=>False)
  (hCX:∀H e s',CX [] H s₁ (λ_ _ _=>False) e s'->False) :
  fC (aT P w) mS (.call (.ref fa) #[[.ref a],[]]) (λr s'=>r=.ok (.ret<|.bool al)/\OldK s₁.heap s'.heap/\s'.os=s₁.os/\kB s'.gens) s₁:=by
 have rv:=JM hi;have lenV:=hi.length;have core:∀H:Hp,Only H->SqL K H a (ns.map V.int)->HOk P w H s₁.heap->(∀b,H b≠ae->b=a)->(H a≠ae->K.lookup a=ae)->
   fC (aT P w) mS (.call (.ref fa) #[[.ref a],[]]) (λr s'=>r=.ok (.ret<|.bool al)/\OldK s₁.heap s'.heap/\s'.os=s₁.os/\kB s'.gens) s₁:=by
  intro H hO hS hok hA hK;have base_of:∀{b:aP}{o:fP},s₁.heap.get? b=aa o->H b=ae->(G8 s₁.heap H).get? b=aa o:=λe n=>Zah e n
  have noA:∀{b:aP}{o:fP}{es:Array iZ}{ep:Nat},s₁.heap.get? b=aa o->o.data=.dict es ep->H b=ae:=λ{b o es ep} e d=>by
   cases q:H b with
   |none=>rfl
   |some u=>
    have e':b=a:=hA b (by rw[q];simp)
    subst e';rw[ha]at e;cases e;have d':Data.seq vs.toArray _=Data.dict es ep:=d;cases d'
  have nsK:∀{b:aP}{m:bI->Option ao},s₁.heap.Ns b m->(G8 s₁.heap H).Ns b m:=λ{b m} #[o,es,ep,e,d,r]=>#[o,es,ep,base_of e<|noA e d,d,r]
  have hKb:K.In (G8 s₁.heap H):=λb o e=>base_of (KX b o e) (by
   cases q:H b with
   |none=>rfl
   |some u=>
    have e':b=a:=hA b (by rw[q];simp)
    subst e';rw[hK<|by rw[q];simp]at e;cases e)
  have hM:Mod K mg (G8 s₁.heap H):=#[hKb,nsK hns,#[mb,nsK hb,hbb],let #[mc,h1,h2]:=hlim;#[mc,nsK h1,h2]];have e0:Env0 P w K mg (G8 s₁.heap H) mS [] s₁ H:=#[rfl,hM,λb o e=>Zdm e,nO<|qg _ _,trivial,λb hb=>T7 (show b∈([]:List aP)from hb) (by simp),hok,.of_eq hg]
  refine gP ((F _ hKb<|nsK hns).run mS [] s₁ H #[[.ref a],[]] [.ref a] [.ref a] _ _ hr e0 (hbind s₁<|.ref a) (.cons rfl .nil)<|hsp H hO hS) λr s' h=>?_
  cases r with
  |error e=>exact(hCX H e s' h).elim
  |ok fl=>
   cases fl with
   |next=>exact False.elim h
   |brk=>exact False.elim h
   |cont=>exact False.elim h
   |ret u=>
    obtain⟨v,H',os,bare,un,hok',r',q⟩:=h;have q':v=.bl al:=q;subst q';obtain rfl:u=dq al:=r';refine#[rfl,OldK.of_keep λb o e=>?_,os,bare]
    cases q:H b with
    |none=>exact un.keep b o e q (by intro z;exact T7 (show b∈([]:List aP)from z)<|by simp) (by simp)
    |some u=>
     rcases hO b with z|⟨ob,xs,z⟩
     .rw[q]at z;cases z
     .have z2:=un.frzs b ob _ z
      obtain⟨e1,_⟩:=hok b _ z;obtain⟨e2,_⟩:=hok' b _ z2;rw[e]at e1;cases e1;exact e2
 cases hk:K.lookup a with
 |some o=>
  have e:=KX a o hk;rw[ha]at e;cases e;refine core (λ_=>ae) (λ_=>.inl rfl) (.inr #[_,vs.toArray,_,hk,rfl,rfl,rfl,by rw[aB,lenV];exact hl,by simpa using rv]) (λb u z=>by have z':(ae:Option HO)=aa u:=z;cases z') (λb z=>T7 rfl z) λz=>T7 rfl z
 |none=>
  refine core (λb=>if b=a then aa (.frz {cls:=.type "list",data:=.seq vs.toArray}<|.lst<|ns.map V.int)else ae) (λb=>?_) (.inl<|.inr #[{cls:=.type "list",data:=.seq vs.toArray},T9 rfl]) (λb u z=>?_) (λb z=>?_) λ_=>hk
  .by_cases hb:b=a
   .exact .inr #[_,_,T9 hb]
   .exact .inl<|T8 hb
  .by_cases hb:b=a
   .have z':=(T9 hb).symm.trans z
    cases z';subst hb;exact#[ha,by rw[aq];exact hl,vs,_,rv,ha]
   .have z':=(T8 hb).symm.trans z
    cases z'
  .by_cases hb:b=a
   .exact hb
   .exact T7 (T8 hb) z
def ZbH{l:l6}{n k:Nat}{q:bt}{loose:List bI}{XP:(bI->Option ao)->cc->Prop}{YP:bL->cc->Prop}{d:DefRec}{K:Params->ap}{CX:bL->CXT}{sp:bL->Sp}{x:bI}
  (hn:l.most=aa n)(hn2:n<=bx)(hdf:d.params.defaults=[])(hr:Room k mS)
  (hY:∀(w:bL)(h:cc),YP w h->(K w.params).In h)
  (F:∀(w:bL)(mg:bI->Option ao)(fa:aP)(h:cc),(K w.params).In h->h.Ns cT mg->mg d.name=aa (.ref fa)->
   ∃fd:c8,(∀(s:au)(u:ao),nI s fd #[[u],[]] [(x,u)])/\
    ∀base:cc,(K w.params).In base->base.Ns cT mg->FnOk l.prog w (K w.params) mg base (CX w) k fa fd [x] (sp w))
  (hsp:∀(w:bL)(H:Hp)(a:aP)(ns:List Int),ns.length<=n->Only H->SqL (K w.params) H a (ns.map V.int)->sp w [.ref a] H (λv _=>v=.bl al) λ_ _ _=>False)
  (hCX:∀(w:bL)(H:Hp)(s:au)(e:ao)(s':au),CX w [] H s (λ_ _ _=>False) e s'->False) :
  p7 q loose XP YP l.row.toRowW d [] (λf vs=>pH f vs):=by
 refine Att.zt hn hdf λw s₀ s₁ mg mb fa o pm cd doc a vs ns G Y ho hd hcd hmg hobj hints hlen hg=>?_
 have KX:=hY w _ Y;obtain⟨fd,hb,hF⟩:=F w mg fa _ KX G.T.g hmg;exact ZaG KX G.T.g G.T.b G.T.builtins G.T.nolimit hg hobj hints (cf hlen hn2) hr hF hb (λH hO hS=>hsp w H a ns hlen hO hS) λH e s'=>hCX w H s₁ e s'
noncomputable def Xo(s:fU):Arguments:=match s with
 |.FunctionDef _ a _ _ _ _ _ _ _ _=>a
 |_=>{posonlyargs:=[],args:=[],vararg:=ae,kwonlyargs:=[],kw_defaults:=[],kwarg:=ae,defaults:=[]}
noncomputable def YD(s:fU):List fU:=match s with
 |.FunctionDef _ _ b _ _ _ _ _ _ _=>b
 |_=>[]
noncomputable def ZB(s:fU):fg:=match s with
 |.FunctionDef _ _ _ _ _ _ sc _ _ _=>sc
 |_=>{kind:=.function,names:=[],isGenerator:=am,isCoroutine:=am}
noncomputable abbrev CX0:CXT:=λ_ _ _ _ _ _=>False
noncomputable abbrev E0:XK:=λ_ _ _=>False
def ZdN{X:Cx}:xW CX0 X E0:=λ_ _ _ _ _ _ _ h=>h.elim
structure Fun(K:ap)(x qual:bI)(st:fU)(f:aP)(fd:c8):Prop where
 ex:∃(oc:ao)(od:Option aP)(kV doc pm:ao)(an:Option aP)(cdv ct:ao)(osl:Array (Option ao)),
  fd=ee x qual (Xo st) (YD st) (ZB st) .none kV doc pm an cdv ct/\K.lookup f=aa #[oc,od,.func fd,osl]/\i7 K cdv qual=al
 kp:gQ K (.ref f)=al
section
variable{P:bt}{w:bL}{K:ap}{mg:bI->Option ao}{base:cc}
def Fun.ok{x qual:bI}{st:fU}{f:aP}{fd:c8}{N ps:List bI}{k:Nat}{sp:Sp}(F:Fun K x qual st f fd)(S:FnScope N ps (ZB st))(len:∀vs H Q E,sp vs H Q E->vs.length=ps.length)
  (hbody:∀(cdv:ao)(A:cn)(outer:List Env)(s:au)(H:Hp)(vs:List V)(Q:VK)(E:XK),Room k (A.deeper<|i6 qual (ZB st) s.heap.objs.size f cdv)->sp vs H Q E->
   ∃t,PSs (zi CX0 P w K mg base N qual (ZB st) f cdv A outer s H E).nox (YD st) t/\t {nx:=λ_ H'=>Q .non H',rt:=Q} (start N vs) H):FnOk P w K mg base CX0 (k+1) f fd ps sp:=by
 obtain⟨oc,od,kV,doc,pm,an,cdv,ct,osl,rfl,lk,hcd⟩:=F.ex;refine Zf4 lk hcd S len λA outer s H vs Q E hr hsp=>?_
 obtain⟨t,h,q⟩:=hbody cdv A outer s H vs Q E hr hsp;exact#[t,h.nox,q]
def Fun.binds{x qual:bI}{st:fU}{f:aP}{fd:c8}{ps:List bI}(F:Fun K x qual st f fd)
  (h:∀(kV doc pm:ao)(an:Option aP)(cdv ct:ao)(us:List ao),us.length=ps.length->pF (ee x qual (Xo st) (YD st) (ZB st) .none kV doc pm an cdv ct) #[us,[]]=cY (ps.zip us)):QA K fd ps []:=by
 obtain⟨oc,od,kV,doc,pm,an,cdv,ct,osl,rfl,lk,hcd⟩:=F.ex;exact .all<|h kV doc pm an cdv ct
def Zd0{x qual:bI}{st:fU}{f:aP}{oc:ao}{od an:Option aP}{osl:Array (Option ao)}{kV doc pm cdv ct:ao}(l:K.lookup f=aa #[oc,od,.func<|ee x qual (Xo st) (YD st) (ZB st) .none kV doc pm an cdv ct,osl])
  (c:i7 K cdv qual=al)(k:gQ K (.ref f)=al):Fun K x qual st f (ee x qual (Xo st) (YD st) (ZB st) .none kV doc pm an cdv ct):=#[#[oc,od,kV,doc,pm,an,cdv,ct,osl,rfl,l,c],k]
end
section
variable{κ:Type}[DecidableEq κ]
noncomputable def U0(kvs:List (κ×V))(k:κ):Option V:=(kvs.find? λkv=>aj<|kv.1=k).map (·.2)
def QC{p:κ×V}{r:List (κ×V)}{k:κ}(e:p.1=k):U0 (p::r) k=aa p.2:=by simp[U0,eR,e]
def UQ{p:κ×V}{r:List (κ×V)}{k:κ}(e:¬p.1=k):U0 (p::r) k=U0 r k:=by simp[U0,eR,e]
theorem yf(k:κ):∀kvs:List (κ×V),(kvs.any λkv=>aj<|kv.1=k)=(U0 kvs k).isSome
 |[]=>rfl
 |p::r=>by
  rw[m7];by_cases e:p.1=k
  .simp only[QC e,T5 e,Bool.true_or,nz]
  .rw[UQ e,T4 e,kR];exact yf k r
def xI.isSome_eq(r:xI o u):o.isSome=u.isSome:=by
 cases o with
 |none=>cases u with|none=>rfl|some _=>exact(r).elim
 |some _=>cases u with|none=>exact(r).elim|some _=>rfl
def KV.val{kvs:List (κ×V)}{vs:List (κ×ao)}(r:KV kvs vs)(k:κ):xI (U0 kvs k) (nP vs k):=by
 unfold KV at r
 induction r with
 |nil=>exact da
 |@cons p q ps qs h t ih=>
  obtain⟨h1,h2⟩:=h;by_cases e:p.1=k
  .have e':=h1.symm.trans e
   have b:nP (q::qs) k=aa q.2:=by simp[nP,eR,e']
   rw[QC e,b];exact h2
  .have e':¬q.1=k:=λz=>e (h1.trans z)
   have b:nP (q::qs) k=nP qs k:=by simp[nP,eR,e']
   rw[UQ e,b];exact ih
end
def Zar(r:ZD (kV k) u):(YI P w).is k u=al:=by
 cases k with|inl i=>obtain⟨t,e⟩:=(r);subst e;exact yG P w i t|inr x=>obtain⟨t,e⟩:=(r);subst e;exact zD P w x t
theorem JN :∀{ks:List Key}{us:List ao},Vals (ks.map kV) us->ItemsAre (YI P w) ks us
 |[],_,r=>by rw[nN]at r;cases r;exact .nil
 |k::ks,_,r=>by
  rw[bi]at r;cases r with|cons h t=>exact .cons (Zar h)<|JN t
abbrev KT(H:Hp):List (List Key×V)->List (List Key×aP×ao)->Prop:=Paired λp q=>p.1=q.1/\H q.2.1=aa (.tup<|p.1.map kV)/\ZD p.2 q.2.2
def KT.val{H:Hp}{kvs:List (List Key×V)}{xs:List (List Key×aP×ao)}(r:KT H kvs xs)(k:List Key):xI (U0 kvs k) ((rJ xs k).map (·.2)):=by
 induction r with
 |nil=>exact da
 |@cons p q ps qs h t ih=>
  obtain⟨h1,_,h2⟩:=h;by_cases e:p.1=k
  .have e':=h1.symm.trans e
   have b:rJ (q::qs) k=aa q.2:=by simp[rJ,eR,e']
   rw[QC e,b];exact h2
  .have e':¬q.1=k:=λz=>e (h1.trans z)
   have b:rJ (q::qs) k=rJ qs k:=by simp[rJ,eR,e']
   rw[UQ e,b];exact ih
def ZdA(ok:HOk P w H h)(e:Rd H a u):Xk P w H h a u:=e.ok ok
def ZdP(ok:HOk P w H h)(e:Rd H a (.dK kvs)):kvs.length<=bx/\(a == ic)=am/\∃vs,KV kvs vs/\h.DictOf (YI P w) a vs:=
 ZdA ok e
def wa(ok:HOk P w H h)(e:H a=aa (.tup<|ks.map kV)):(oo<|YI P w).is h ks a:=by
 obtain⟨_,its,r,o,h1,h2,n,h3⟩:=(ok a _ e)
 exact#[o,its.toArray,n,h1,h2,h3,by simpa using JN r]
def Zdw(ok:HOk P w H h)(e:Rd H a (.dT kvs)):kvs.length<=bx/\(a == ic)=am/\
  ∃xs,KT H kvs xs/\h.DictOfH (oo<|YI P w) a xs:=by
 obtain⟨z,y,xs,r,o,es,ep,h1,h2,h3,h4,h5⟩:=(ZdA ok e)
 refine#[z,y,xs,r,o,es,ep,h1,h2,h3,h4,λx hx=>?_,h5]
 have all:∀{l:List (List Key×V)}{m:List (List Key×aP×ao)},KT H l m->∀x∈m,(oo<|YI P w).is h x.1 x.2.1:=by
  intro l m q
  induction q with
  |nil=>intro x hx;exact nomatch hx
  |@cons p q ps qs hq t ih=>
   intro x hx;rcases ay.mp hx with e|hx
   .subst e
    exact wa ok (by rw[<-hq.1];exact hq.2.1)
   .exact ih x hx
 exact all r x hx
def DGet(H:Hp)(a:aP)(y:V)(r:Option V):Prop:=
 (∃kvs k,Rd H a (.dK kvs)/\y=kV k/\r=U0 kvs k)\/∃kvs k b,Rd H a (.dT kvs)/\y=.ref b/\H b=aa (.tup<|k.map kV)/\r=U0 kvs k
def ZgX{Q:ao->au->Prop}(hu:A.units+1<dA)(I:Inv X pq Z H s)(g:DGet H a y o)(ry:ZD y u)(h:∀s',Inv X pq Z H s'->Q (.bool o.isSome) s') :
  aY (aT X.prog X.w) A (cr .In u<|.ref a) Q E s:=by
 rcases g with⟨kvs,k,e,ey,l⟩|⟨kvs,k,b,e,ey,eb,l⟩
 .subst ey
  obtain⟨z,hd,vs,rel,dd⟩:=ZdP I.hok e;refine wpAny_in_of (Zar ry) hd dd.mapOf ?_;rw[<-(rel.val k).isSome_eq,<-l];exact h _<|I.tok _
 .subst ey
  cases(ry)
  obtain⟨z,hd,xs,rel,dd⟩:=Zdw I.hok e;refine wpAny_in_heap (nA hu) (wa I.hok eb) hd dd ?_;have q:=(rel.val k).isSome_eq;rw[nQ]at q;rw[<-q,<-l];exact h _<|I.tok _
def Zdo{Q:ao->au->Prop}(hu:A.units+1<dA)(I:Inv X pq Z H s)(g:DGet H a y o)(ry:ZD y u)(h:∀s',Inv X pq Z H s'->Q (.bool<|!o.isSome) s') :
  aY (aT X.prog X.w) A (cr .NotIn u<|.ref a) Q E s:=by
 rcases g with⟨kvs,k,e,ey,l⟩|⟨kvs,k,b,e,ey,eb,l⟩
 .subst ey
  obtain⟨z,hd,vs,rel,dd⟩:=ZdP I.hok e;refine wpAny_notIn_of (Zar ry) hd dd.mapOf ?_;rw[<-(rel.val k).isSome_eq,<-l];exact h _<|I.tok _
 .subst ey
  cases(ry)
  obtain⟨z,hd,xs,rel,dd⟩:=Zdw I.hok e;refine wpAny_notIn_heap (nA hu) (wa I.hok eb) hd dd ?_;have q:=(rel.val k).isSome_eq;rw[nQ]at q;rw[<-q,<-l];exact h _<|I.tok _
end L2
namespace Pv
open PySem (Str)
inductive V where
 |non|bl (b:Bool)|int (i:Int)|str (x:bI)|tup (xs:List V)|lst (xs:List V)|drw|dct (ks:Option (List<|List Int))|scr (ns:List Int)
 |dow (ks:List (List Int))
 deriving Inhabited
end Pv
namespace Ev
open PySem (Str)
def nos{B:Type}{P:Prop}{b:B}(h:ae=aa b):P:=by cases h
noncomputable def lim:Nat:=16777216
inductive Bop where|add|sub|mul|fdiv|mod|pow
 deriving DecidableEq
inductive Cop where|eq|ne|lt|le|gt|ge|is|isn|inn|nin
 deriving DecidableEq
inductive Ty where|int|bool|str|tuple|list|dict|cls (c:Nat)
 deriving DecidableEq
inductive Bf where|len|max2|min2|toInt|tuple|list|all|any|sum|sorted|sortedR|dictP|listD|sortedD|sortedS|sortedT|sortedU|index|rangeT|rangeL
 deriving DecidableEq
inductive Mf where|append|extend|index
 deriving DecidableEq
mutual
inductive E where
 |c (d:Pv.V)|v (i:Nat)
 |tup (es:List E)|lst (es:List E)|dnew
 |bin (op:Bop) (a b:E)|neg (a:E)|not (a:E)|and (a b:E)|or (a b:E)|ite (t a b:E)
 |cmp (op:Cop) (a b:E)|chain (o p:Cop) (a b d:E)
 |ix (a i:E)|sl (a:E) (lo hi:Option E)|rev (a:E)
 |call (f:Nat) (as:List E)|blt (f:Bf) (as:List E)|mt (m:Mf) (o:E) (as:List E)
 |isi (a:E) (ts:List Ty)
 |inT (a:E) (tab:List (Int×Int))|getT (tab:List (Int×Int)) (a:E)
 |dput1 (k v:E)
 |comp1 (cap:List Nat) (nl:Nat) (t:List Nat) (it:W) (ifs:List E) (elt:E)
 |comp2 (cap:List Nat) (nl:Nat) (t:List Nat) (it:W) (ifs:List E) (u:List Nat) (jt:W) (jfs:List E) (elt:E)
 |fi (e:E)
 |refu (w:Bool) (e:E)
 |dix (a:E) (k:Bool)
 |callF (f:Nat) (as:List E)
inductive W where
 |of (e:E)|rng1 (a:E)|rng2 (a b:E)|zip (a b:E)|enum (a:E)|rrng (a b:E)|rtup (a:E)|dk (e:E)
end
inductive Sm where
 |asg (t:List Nat) (e:E)|par (t:List Nat) (es:List E)|aug (i:Nat) (op:Bop) (e:E)|put (o i e:E)|dput (o i e:E)
 |ret (e:E)|ex (e:E)|ite (t:E) (a b:List Sm)|forr (t:List Nat) (it:W) (b:List Sm)|whl (t:E) (b:List Sm)
 |raise (c:Nat) (as:List E)|pas|brk|cnt
 |mov (i j:Nat)
 |dset (i:Nat) (e:E)|cel (i f:Nat) (as:List E) (b:List Sm)
 |retO (i:Nat)
 |dnw (i:Nat) (k:E)|forF (t:List Nat) (e:E) (b:List Sm)
 |lnw (i:Nat) (es:List E)|cat (i:Nat) (es:List E)|app (i:Nat) (e:E)
noncomputable def b2i(b:Bool):Int:=if b then 1 else 0
noncomputable def Zr:Nat:=6
noncomputable def ixN(n:Nat)(i:Int):Option Nat:=if 0<=i then(if i<n then aa i.toNat else ae)else if -(n:Int)<=i then aa (i+n).toNat else ae
noncomputable def at'{B:Type}(xs:List B)(i:Int):Option B:=(ixN xs.length i).bind λj=>xs[j]?
noncomputable def sIx(n d:Nat):Option Int->Nat
 |none=>d
 |some i=>if i<0 then(i+n).toNat else p5 i.toNat n
noncomputable def fits(i:Int):Bool:=aj<|i.natAbs<2^8000
noncomputable def big:Int:=2^8000
def Zbq(h:b<1073741824):b<big:=Int.lt_trans h (by decide +kernel)
noncomputable def ltI:List Int->List Int->Bool
 |[],[]=>am
 |[],_::_=>al
 |_::_,[]=>am
 |a::x,b::y=>if a=b then ltI x y else aj (a<b)
noncomputable def Xj(x:List Int):List (List Int)->List (List Int)
 |[]=>[x]
 |y::r=>if ltI x y then x::y::r else y::Xj x r
noncomputable def ZH:List (List Int)->List (List Int)
 |[]=>[]
 |x::r=>Xj x<|ZH r
noncomputable def WU{B:Type}(lt:B->B->Bool)(x:B):List B->List B
 |[]=>[x]
 |y::r=>if lt x y then x::y::r else y::WU lt x r
noncomputable def ZG{B:Type}(lt:B->B->Bool):List B->List B
 |[]=>[]
 |x::r=>WU lt x<|ZG lt r
noncomputable def ltP:List (List Int)->List (List Int)->Bool
 |[],[]=>am
 |[],_::_=>al
 |_::_,[]=>am
 |a::x,b::y=>if a=b then ltP x y else ltI a b
noncomputable def Zga(is:List Int):Bool:=aj (is.length<=1000)&&is.all λi=>aj<|-1099511627776<=i/\i<=1099511627776
noncomputable def Yq(rs:List (List Int)):Bool:=aj (rs.length<=100000)&&decide rs.Nodup&&rs.all λr=>!r.isEmpty
noncomputable def Yi(ps:List (List<|List Int)):Bool:=aj (ps.length<=100000)&&decide ps.Nodup&&(aj (ps.length<=1)||ps.all λP=>!P.isEmpty)
noncomputable def Zfw(ks:List (List Int)):Bool:=aj (ks.length<=lim)&&decide ks.Nodup
noncomputable def Xb(i:Int):Bool:=aj<|-(2^62)<=i/\i<2^62
noncomputable def few(i:Int):Bool:=aj<|0<=i/\i<=1000
noncomputable def y9:Nat:=1000
noncomputable def ZeM:List bI:=["row","part","number","heads","not beside","not in","turn","lot","many","note"]
noncomputable def spcs:List (Nat×Nat):=[(2,1),(2,2),(2,3),(2,4),(3,1),(3,2),(3,3),(5,1),(5,2),(2,5),(2,6),(3,4),(5,3)]
noncomputable def ZdO(rs:List (List Int)):Bool:=Yq rs&&(aj (rs.length<=300)&&spcs.any λq=>rs.all λr=>aj (r.length=q.2)&&r.all λa=>aj<|0<=a/\a<(q.1:Int))
noncomputable def vU(P:List (List Int)):Int:=oB<|hU<|P.map λr=>oB<|hU<|r.map PySem.hashInt
noncomputable def XB(ps:List (List<|List Int)):Bool:=Yi ps&&(aj (ps.length<=1399)&&aj (ps.map vU).Nodup)
structure Fn where
 ps:Nat
 ns:Nat
 body:List Sm
end Ev
namespace Pv
open Ev
open PySem (Str)
noncomputable abbrev DS:=Int×Bool
inductive PR(B:Type) where
 |ok (a:B) (s:DS)|ex (c:Nat) (s:DS)|no
noncomputable def PR.bind{B β:Type}(r:PR B)(f:B->DS->PR β):PR β:=match r with
 |.ok a s=>f a s
 |.ex c s=>.ex c s
 |.no=>.no
noncomputable def PR.nox{B:Type}(r:PR B):PR B:=match r with
 |.ex _ _=>.no
 |r=>r
noncomputable def po{B:Type}(o:Option B)(s:DS):PR B:=match o with
 |some a=>.ok a s
 |none=>.no
abbrev Env:=List<|Option V
mutual
noncomputable def V.flat:V->Bool
 |.tup xs=>Xe xs
 |.lst _=>am
 |.drw=>am
 |.dct _=>am
 |.dow _=>am
 |_=>al
noncomputable def Xe:List V->Bool
 |[]=>al
 |x::xs=>x.flat&&Xe xs
end
mutual
noncomputable def ofD:V->Option V
 |.non=>aa .non
 |.bl b=>aa<|.bl b
 |.int i=>aa<|.int i
 |.str x=>aa<|.str x
 |.tup xs=>(ZfZ xs).map .tup
 |_=>ae
noncomputable def ZfZ:List V->Option (List V)
 |[]=>aa []
 |x::xs=>match ofD x,ZfZ xs with
  |some a,aa b=>aa (a::b)
  |_,_=>ae
end
noncomputable def Zu:V->Option Bool
 |.non=>aa am
 |.bl b=>aa b
 |.int i=>aa<|aj<|i≠0
 |.tup xs=>aa<|!xs.isEmpty
 |.lst xs=>aa<|!xs.isEmpty
 |_=>ae
noncomputable def YE(f:V->V->Option Bool):List V->List V->Option Bool
 |[],[]=>aa al
 |x::xs,y::ys=>match f x y,YE f xs ys with
  |some a,aa b=>aa<|a&&b
  |_,_=>ae
 |_,_=>aa am
noncomputable def eqV:Nat->V->V->Option Bool
 |0,_,_=>ae
 |k+1,x,y=>match x with
  |.non=>match y with
   |.non=>aa al
   |.bl _|.int _|.str _=>aa am
   |_=>ae
  |.bl a=>match y with
   |.bl b=>aa<|aj<|a=b
   |.int b=>aa<|aj<|b2i a=b
   |.non|.str _=>aa am
   |_=>ae
  |.int a=>match y with
   |.int b=>aa<|aj<|a=b
   |.bl b=>aa<|aj<|a=b2i b
   |.non|.str _=>aa am
   |_=>ae
  |.str a=>match y with
   |.str b=>aa<|aj<|a=b
   |.non|.bl _|.int _=>aa am
   |_=>ae
  |.tup xs=>match y with
   |.tup ys=>YE (eqV k) xs ys
   |_=>ae
  |.lst xs=>match y with
   |.lst ys=>if xs.length=ys.length then YE (eqV k) xs ys else aa am
   |_=>ae
  |_=>ae
noncomputable def Xx(x:V):List V->Option Bool
 |[]=>aa am
 |y::ys=>match eqV Zr y x,Xx x ys with
  |some a,aa b=>aa (a||b)
  |_,_=>ae
noncomputable def ZgZ(x:V)(xs:List V):Option Nat:=if Xx x xs=aa al then xs.findIdx? λy=>eqV Zr y x == aa al else ae
noncomputable def X3:V->Ty->Option Bool
 |.non,_=>aa am
 |.bl _,t=>aa<|aj<|t=.bool\/t=.int
 |.int _,t=>aa<|aj<|t=.int
 |.str _,t=>aa<|aj<|t=.str
 |.tup _,t=>aa<|aj<|t=.tuple
 |.lst _,t=>aa<|aj<|t=.list
 |.dct ae,t=>aa<|aj<|t=.dict
 |_,_=>ae
noncomputable def Yz(x:V):List Ty->Option Bool
 |[]=>aa am
 |t::ts=>match X3 x t with
  |some al=>aa al
  |some am=>Yz x ts
  |none=>ae
noncomputable def XM(xs:List V)(lo hi:Option Int):List V:=(xs.drop<|sIx xs.length 0 lo).take<|sIx xs.length xs.length hi-sIx xs.length 0 lo
noncomputable def Q4(op:Bop)(a b:Int)(s:DS):PR V:=match op with
 |.add=>.ok (.int<|a+b) s
 |.sub=>.ok (.int<|a-b) s
 |.mul=>if(fits a&&fits b)=al then .ok (.int<|a*b) s else .no
 |.fdiv=>if 0<b/\b<Ev.big then .ok (.int<|a / b) s else .no
 |.mod=>if 0<b then .ok (.int<|a%b) s else .no
 |.pow=>if 0<=b/\b<=1000/\a.natAbs<2^64 then .ok (.int<|a^b.toNat) s else .no
noncomputable def Xi(op:Bop)(x y:V)(s:DS):PR V:=match x with
 |.int a=>match y with
  |.int b=>Q4 op a b s
  |_=>.no
 |.tup a=>match y with
  |.tup b=>match op with
   |.add=>if a.length+b.length<=lim then .ok (.tup<|a++b) s else .no
   |_=>.no
  |.int b=>match op with
   |.mul=>if 0<=b/\b<1000/\a.length<=1000 then .ok (.tup (az b.toNat a).flatten) s else .no
   |_=>.no
  |_=>.no
 |.lst a=>match y with
  |.lst b=>match op with
   |.add=>if a.length+b.length<=lim then .ok (.lst<|a++b) s else .no
   |_=>.no
  |.int b=>match op with
   |.mul=>if 0<=b/\b<1000/\a.length<=1000 then .ok (.lst (az b.toNat a).flatten) s else .no
   |_=>.no
  |_=>.no
 |_=>.no
noncomputable def ZgB(op:Bop)(x y:V)(s:DS):PR V:=match x,y with
 |.int _,.int _=>Xi op x y s
 |_,_=>.no
noncomputable def intsV:List V->Option (List Int)
 |[]=>aa []
 |.int i::r=>(intsV r).map (i :: ·)
 |_::_=>ae
noncomputable def Vr(x y:V):Option Bool:=match y with
 |.tup ys=>Xx x ys
 |.lst ys=>Xx x ys
 |.dct (aa ks)=>match x with
  |.tup k=>(intsV k).map λk=>ks.contains k
  |_=>ae
 |.dow ks=>match x with
  |.tup k=>(intsV k).map λk=>ks.contains k
  |_=>ae
 |_=>ae
noncomputable def Ue:V->Bool
 |.non=>al
 |_=>am
noncomputable def Zd(r:List Int):V:=.tup<|r.map .int
noncomputable def Z1:List V->Option (List<|List Int)
 |[]=>aa []
 |.tup x::r=>match intsV x,Z1 r with
  |some a,aa b=>aa (a::b)
  |_,_=>ae
 |_::_=>ae
noncomputable def int2(x y:V):Option (Int×Int):=match x with
 |.int a=>match y with
  |.int b=>aa (a,b)
  |_=>ae
 |_=>ae
noncomputable def isV(x y:V):Option Bool:=match y with
 |.non=>aa<|Ue x
 |.bl b=>match x with
  |.bl a=>aa<|aj<|a=b
  |_=>ae
 |_=>ae
noncomputable def YU(op:Cop)(x y:V):Option V:=match op with
 |.eq=>(eqV Zr x y).map .bl
 |.ne=>(eqV Zr x y).map λb=>.bl !b
 |.lt=>match x with
  |.tup a=>match y with
   |.tup b=>(Z1 a).bind λP=>(Z1 b).map λQ=>.bl<|ltP P Q
   |_=>ae
  |x=>(int2 x y).map λz=>.bl<|aj<|z.1<z.2
 |.gt=>(int2 x y).map λz=>.bl<|aj<|z.2<z.1
 |.le=>(int2 x y).map λz=>.bl<|aj<|z.1<=z.2
 |.ge=>(int2 x y).map λz=>.bl<|aj<|z.2<=z.1
 |.is=>(isV x y).map .bl
 |.isn=>(isV x y).map λb=>.bl !b
 |.inn=>(Vr x y).map .bl
 |.nin=>(Vr x y).map λb=>.bl !b
noncomputable def ixV(x y:V):Option V:=match x,y with
 |.tup xs,.int i=>at' xs i
 |.lst xs,.int i=>at' xs i
 |.scr xs,.int i=>(at' xs i).map .int
 |_,_=>ae
noncomputable def slV(x:V)(lo hi:Option Int):Option V:=match x with
 |.tup xs=>aa<|.tup<|XM xs lo hi
 |.lst xs=>aa<|.lst<|XM xs lo hi
 |_=>ae
noncomputable def ZgT:V->Option V
 |.tup xs=>aa<|.tup xs.reverse
 |_=>ae
noncomputable def UJ:V->Option Bool
 |.non=>aa am
 |.bl b=>aa b
 |.int i=>aa<|aj<|i≠0
 |_=>ae
noncomputable def Yv:List V->Option (List Bool)
 |[]=>aa []
 |x::xs=>match UJ x,Yv xs with
  |some b,aa bs=>aa (b::bs)
  |_,_=>ae
noncomputable def Za(P:List (List Int)):V:=.tup<|P.map Zd
noncomputable def xo:V->Option (List<|List Int)
 |.tup ks=>Z1 ks
 |_=>ae
noncomputable def Yy:List V->Option (List<|List<|List Int)
 |[]=>aa []
 |x::r=>match xo x,Yy r with
  |some a,aa b=>aa (a::b)
  |_,_=>ae
noncomputable def Zhi:List V->Bool
 |.tup (.int _::_)::_=>al
 |_=>am
noncomputable def YN:V->Option (List V)
 |.tup xs=>aa xs
 |.lst xs=>aa xs
 |.scr ns=>aa<|ns.map .int
 |_=>ae
noncomputable def Zgw:V->Option (List V)
 |.dct (aa ks)=>aa<|ks.map Zd
 |_=>ae
noncomputable def ZU(lo:Int)(n:Nat):List V:=(aE n).map λ(k:Nat)=>.int<|lo+(k:Int)
noncomputable def Zf0:V->Option (List Int)
 |.tup [.tup k,.bl b]=>if b=al then intsV k else ae
 |_=>ae
noncomputable def ZaU:List V->Option (List<|List Int)
 |[]=>aa []
 |v::r=>(Zf0 v).bind λa=>(ZaU r).map (a :: ·)
noncomputable def Zaq:List V->Option (List Nat)
 |[]=>aa []
 |.int i::r=>if 0<=i/\i<6 then(Zaq r).map (i.toNat :: ·)else ae
 |_=>ae
noncomputable def blt1(f:Bf)(x:V):Option V:=match f with
 |.len=>(YN x).map λxs=>.int xs.length
 |.toInt=>match x with
  |.int a=>aa<|.int a
  |.bl b=>aa<|.int<|b2i b
  |_=>ae
 |.tuple=>(YN x).map .tup
 |.list=>(YN x).map .lst
 |.all=>match x with
  |.lst xs=>(Yv xs).map λbs=>.bl<|bs.all id
  |_=>ae
 |.any=>(YN x).bind λxs=>(Yv xs).map λbs=>.bl<|bs.any id
 |.sum=>match x with
  |.lst xs=>(intsV xs).bind λis=>if Zga is=al then aa (.int is.sum)else ae
  |_=>ae
 |.sorted=>match x with
  |.lst xs=>if Zhi xs=al then(Z1 xs).bind λrs=>if Yq rs=al then aa (.lst<|(ZH rs).map Zd)else ae else(Yy xs).bind λps=>if Yi ps=al then aa (.lst<|(ZG ltP ps).map Za)else ae
  |_=>ae
 |.sortedR=>match x with
  |.lst xs=>(Z1 xs).bind λrs=>if Yq rs=al then aa (.lst<|(ZH rs).reverse.map Zd)else ae
  |_=>ae
 |.rangeT=>match x with
  |.int i=>if few i then aa (.tup<|ZU 0 i.toNat)else ae
  |_=>ae
 |.rangeL=>match x with
  |.int i=>if few i then aa (.lst<|ZU 0 i.toNat)else ae
  |_=>ae
 |.listD=>match x with
  |.dow ks=>aa<|.lst<|ks.map Zd
  |_=>ae
 |.sortedD=>match x with
  |.dow ks=>if Yq ks=al then aa (.lst<|(ZH ks).map Zd)else ae
  |_=>ae
 |.sortedS=>match x with
  |.lst xs=>(Zaq xs).map λks=>.lst (((aE 6).filter ks.contains).map λk:Nat=>.int k)
  |_=>ae
 |.sortedU=>match x with
  |.lst xs=>(Yy xs).bind λps=>if XB ps=al then aa (.lst<|(ZG ltP ps).map Za)else ae
  |_=>ae
 |.sortedT=>match x with
  |.lst xs=>(Z1 xs).bind λrs=>if ZdO rs=al then aa (.lst<|(ZH rs).map Zd)else ae
  |_=>ae
 |.dictP=>match x with
  |.lst xs=>(ZaU xs).bind λks=>if Zfw ks=al then aa (.dct<|aa ks)else ae
  |_=>ae
 |_=>ae
noncomputable def blt2(f:Bf)(x y:V):Option V:=match x,y with
 |.lst xs,y=>match f with
  |.index=>(ZgZ y xs).map λj:Nat=>.int j
  |_=>ae
 |.int a,.int b=>match f with
  |.max2=>aa<|.int (if b>a then b else a)
  |.min2=>aa<|.int (if b<a then b else a)
  |_=>ae
 |_,_=>ae
noncomputable def Wi(f:Bf)(as:List V):Option V:=match as with
 |[x]=>blt1 f x
 |[x,y]=>blt2 f x y
 |_=>ae
noncomputable def Y7:List Nat->List V->Env->Option Env
 |[],[],O=>aa O
 |i::t,x::xs,O=>Y7 t xs<|O.set i<|aa x
 |_,_,_=>ae
noncomputable def ZbA:V->Option (List V)
 |.tup xs=>aa xs
 |.lst xs=>aa xs
 |_=>ae
noncomputable def Zp(t:List Nat)(x:V)(O:Env):Option Env:=match t with
 |[i]=>aa<|O.set i<|aa x
 |t=>match ZbA x with
  |some xs=>Y7 t xs O
  |none=>ae
abbrev ZJ:=Nat->List V->DS->PR V
noncomputable def Z8(cap:List Nat)(nl:Nat)(O:Env):Env:=az nl ae++cap.map λi=>(O[i]?).join
noncomputable def mapP(f:V->DS->PR (List V)):List V->DS->PR (List V)
 |[],s=>.ok [] s
 |x::xs,s=>match f x s with
  |.ok ys s=>match mapP f xs s with
   |.ok zs s=>.ok (ys++zs) s
   |_=>.no
  |_=>.no
noncomputable def ZgP(w:Bool)(c:Nat):V:=if w then .str (ZeM.getD c "")else .int c
noncomputable def own(nl:Nat)(t:List Nat):Bool:=t.all λi=>aj<|i<nl
noncomputable def own2(nl:Nat)(t u:List Nat):Bool:=own nl t&&u.all λi=>aj (i<nl) && !t.contains i
mutual
noncomputable def pv(C:ZJ):E->Env->DS->PR V
 |.c d,_,s=>po (ofD d) s
 |.v i,O,s=>po (O[i]?).join s
 |.tup es,O,s=>(pvs C es O s).bind λxs s=>if xs.length<=lim then .ok (.tup xs) s else .no
 |.lst es,O,s=>(pvs C es O s).bind λxs s=>if xs.length<=lim then .ok (.lst xs) s else .no
 |.dnew,_,s=>.ok (.dct ae) s
 |.dput1 k v,O,s=>(pv C k O s).bind λx s=>(pv C v O s).bind λy s=>match x,y with
  |.int _,.int _=>.ok (.dct ae) s
  |_,_=>.no
 |.bin op a b,O,s=>(pv C a O s).bind λx s=>(pv C b O s).bind λy s=>Xi op x y s
 |.neg a,O,s=>(pv C a O s).bind λx s=>match x with
  |.int i=>.ok (.int<|-i) s
  |_=>.no
 |.not a,O,s=>(pv C a O s).bind λx s=>(po (Zu x) s).bind λb s=>.ok (.bl !b) s
 |.and a b,O,s=>(pv C a O s).bind λx s=>match x with
  |.bl c=>if c then pv C b O s else .ok (.bl am) s
  |_=>.no
 |.or a b,O,s=>(pv C a O s).bind λx s=>match x with
  |.bl c=>if c then .ok (.bl al) s else pv C b O s
  |_=>.no
 |.ite t a b,O,s=>(pv C t O s).bind λx s=>(po (Zu x) s).bind λc s=>if c then pv C a O s else pv C b O s
 |.cmp op a b,O,s=>(pv C a O s).bind λx s=>(pv C b O s).bind λy s=>po (YU op x y) s
 |.chain o p a b d,O,s=>(pv C a O s).bind λx s=>(pv C b O s).bind λy s=>(po (YU o x y) s).bind λz s=>match z with
  |.bl c=>if c then(pv C d O s).bind λw s=>po (YU p y w) s else .ok (.bl am) s
  |_=>.no
 |.ix a i,O,s=>(pv C a O s).bind λx s=>(pv C i O s).bind λy s=>po (ixV x y) s
 |.sl a lo hi,O,s=>(pv C a O s).bind λx s=>(pvo C lo O s).bind λl s=>(pvo C hi O s).bind λh s=>po (slV x l h) s
 |.rev a,O,s=>(pv C a O s).bind λx s=>po (ZgT x) s
 |.call f as,O,s=>(pvs C as O s).bind λxs s=>C f xs s
 |.blt f as,O,s=>(pvs C as O s).bind λxs s=>po (Wi f xs) s
 |.mt _ _ _,_,_=>.no
 |.isi a ts,O,s=>(pv C a O s).bind λx s=>(po (Yz x ts) s).bind λb s=>.ok (.bl b) s
 |.inT a tab,O,s=>(pv C a O s).bind λx s=>match x with
  |.int i=>.ok (.bl ((tab.map (·.1)).contains i)) s
  |_=>.no
 |.getT tab a,O,s=>(pv C a O s).bind λx s=>match x with
  |.int i=>(po (tab.lookup i) s).bind λj s=>.ok (.int j) s
  |_=>.no
 |.comp1 cap nl t it ifs elt,O,s=>if own nl t=al then(pvw C it O s).bind λw s=>
   ((mapP (λx s=>(po (Zp t x<|Z8 cap nl O) s).bind λZ s=>(pvt C ifs Z s).bind λb s=>if b then(pv C elt Z s).bind λy s=>.ok [y] s else .ok [] s) w s).bind
    λys s=>if ys.length<=lim then .ok (.lst ys) s else .no).nox
  else .no
 |.comp2 cap nl t it ifs u jt jfs elt,O,s=>if own2 nl t u=al then(pvw C it O s).bind λw s=>
   ((mapP (λx s=>(po (Zp t x<|Z8 cap nl O) s).bind λZ s=>(pvt C ifs Z s).bind λb s=>if b then
    (pvw C jt Z s).bind λw2 s=>mapP (λx s=>(po (Zp u x Z) s).bind λZ s=>(pvt C jfs Z s).bind λb s=>if b then(pv C elt Z s).bind λy s=>.ok [y] s else .ok [] s) w2 s
    else .ok [] s) w s).bind
    λys s=>if ys.length<=lim then .ok (.lst ys) s else .no).nox
  else .no
 |.fi a,O,s=>(pv C a O s).bind λx s=>match x with
  |.int i=>if Xb i=al then .ok (.int i) s else .no
  |_=>.no
 |.refu w e,O,s=>match pv C e O s with
  |.ok _ s=>.ok .non s
  |.ex c s=>if 1<=c/\c<=10 then .ok (ZgP w<|c-1) s else .no
  |.no=>.no
 |.dix a k,O,s=>(pv C a O s).bind λx s=>match x with
  |.drw=>.ok (if k then .bl s.2 else .int s.1) s
  |_=>.no
 |.callF f as,O,s=>(pvs C as O s).bind λxs s=>C f xs s
noncomputable def pvs(C:ZJ):List E->Env->DS->PR (List V)
 |[],_,s=>.ok [] s
 |e::es,O,s=>(pv C e O s).bind λx s=>(pvs C es O s).bind λxs s=>.ok (x::xs) s
noncomputable def pvo(C:ZJ):Option E->Env->DS->PR (Option Int)
 |none,_,s=>.ok ae s
 |some e,O,s=>(pv C e O s).bind λx s=>match x with
  |.int i=>.ok (aa i) s
  |_=>.no
noncomputable def pvt(C:ZJ):List E->Env->DS->PR Bool
 |[],_,s=>.ok al s
 |e::es,O,s=>(pv C e O s).bind λx s=>(po (Zu x) s).bind λb s=>if b then pvt C es O s else .ok am s
noncomputable def pvw(C:ZJ):W->Env->DS->PR (List V)
 |.rng1 a,O,s=>(pv C a O s).bind λx s=>match x with
  |.int i=>if Xb i then .ok (ZU 0 i.toNat) s else .no
  |_=>.no
 |.rng2 a b,O,s=>(pv C a O s).bind λx s=>(pv C b O s).bind λy s=>match x,y with
  |.int i,.int j=>if(Xb i&&Xb j)=al then .ok (ZU i (j-i).toNat) s else .no
  |_,_=>.no
 |.rrng a b,O,s=>(pv C a O s).bind λx s=>(pv C b O s).bind λy s=>match x,y with
  |.int i,.int j=>if(Xb i&&Xb j)=al then .ok (ZU i (j-i).toNat).reverse s else .no
  |_,_=>.no
 |.rtup a,O,s=>(pv C a O s).bind λx s=>match x with
  |.tup xs=>.ok xs.reverse s
  |_=>.no
 |.zip a b,O,s=>(pv C a O s).bind λx s=>(pv C b O s).bind λy s=>match YN x,YN y with
  |some v,aa w=>.ok ((v.zip w).map λp=>.tup [p.1,p.2]) s
  |_,_=>.no
 |.enum a,O,s=>(pv C a O s).bind λx s=>match YN x with
  |some w=>.ok (((ZU 0 w.length).zip w).map λp=>.tup [p.1,p.2]) s
  |none=>.no
 |.of e,O,s=>(pv C e O s).bind λx s=>po (YN x) s
 |.dk e,O,s=>(pv C e O s).bind λx s=>po (Zgw x) s
end
inductive FlV where|nx (O:Env) (os:List Nat)|ret (v:V)|brk (O:Env) (os:List Nat)|cnt (O:Env) (os:List Nat)
noncomputable def hide(os:List Nat)(O:Env):Env:=O.mapIdx λi o=>if os.contains i then ae else o
noncomputable def fresh:E->Bool
 |.lst _=>al
 |.comp1 .. => al
 |.comp2 .. => al
 |.bin .mul (.lst _) _=>al
 |.blt .list _=>al
 |.blt .sorted _=>al
 |.blt .rangeL _=>al
 |.blt .listD _=>al
 |.blt .sortedD _=>al
 |.blt .sortedS _=>al
 |.blt .sortedT _=>al
 |.blt .sortedU _=>al
 |.callF _ _=>al
 |_=>am
noncomputable def ur:V->Bool
 |.lst xs=>Xe xs
 |_=>am
noncomputable def pvA(C:ZJ)(e:E)(O:Env)(os:List Nat)(s:DS):PR V:=match os with
 |[]=>pv C e O s
 |os=>match pv C e (hide os O) s with
  |.ok v s=>.ok v s
  |.ex c s=>.ex c s
  |.no=>(pv C e O s).bind λv s=>if(v.flat||fresh e&&ur v)=al then .ok v s else .no
noncomputable def ZgS(C:ZJ)(es:List E)(O:Env)(os:List Nat)(s:DS):PR (List V):=match os with
 |[]=>pvs C es O s
 |os=>match pvs C es (hide os O) s with
  |.ok v s=>.ok v s
  |.ex c s=>.ex c s
  |.no=>(pvs C es O s).bind λv s=>if Xe v then .ok v s else .no
noncomputable def Xz(C:ZJ)(e:E)(O:Env)(s:DS):PR Bool:=(pv C e O s).bind λx s=>po (Zu x) s
noncomputable def Wo(body:V->Env->List Nat->DS->PR FlV):List V->Env->List Nat->DS->PR FlV
 |[],O,os,s=>.ok (.nx O os) s
 |x::xs,O,os,s=>(body x O os s).bind λf s=>match f with
  |.nx O os=>Wo body xs O os s
  |.cnt O os=>Wo body xs O os s
  |.brk O os=>.ok (.nx O os) s
  |.ret v=>.ok (.ret v) s
noncomputable def XC(test:Env->DS->PR Bool)(body:Env->List Nat->DS->PR FlV):Nat->Env->List Nat->DS->PR FlV
 |0,_,_,_=>.no
 |n+1,O,os,s=>(test O s).bind λb s=>if b then(body O os s).bind λf s=>match f with
  |.nx O os=>XC test body n O os s
  |.cnt O os=>XC test body n O os s
  |.brk O os=>.ok (.nx O os) s
  |.ret v=>.ok (.ret v) s
  else .ok (.nx O os) s
noncomputable def okS(x:Int)(b:Bool):Bool:=aj (0<=x)&&(b||decide (x<2147483647))
noncomputable def Qg:V->Option DS
 |.lst [.int a,.bl b]=>if okS a b=al then aa (a,b)else ae
 |_=>ae
noncomputable def Uk(o:Option V):Option V:=o.filter V.flat
noncomputable def VD(i:Nat)(O:Env):Env:=(O.take i).map Uk++az (O.length-i) ae
noncomputable def ZfU:Option (Option V)->Option (List<|List Int)
 |some (aa<|.dow ks)=>aa ks
 |_=>ae
noncomputable def ZfV(ks:List (List Int))(k:List Int):List (List Int):=if ks.contains k then ks else ks++[k]
noncomputable def Zgx:V->Option (List Int)
 |.tup k=>intsV k
 |_=>ae
noncomputable def isT:V->Bool
 |.bl al=>al
 |_=>am
noncomputable def VB:Option (Option V)->Option (List V)
 |some (aa<|.lst xs)=>aa xs
 |_=>ae
mutual
noncomputable def rv(C:ZJ)(ms:List Nat):Sm->Env->List Nat->DS->PR FlV
 |.asg [i] e,O,os,s=>(pvA C e O os s).bind λv s=>if(ms.contains i&&fresh e)=al then match v with
   |.lst xs=>if Xe xs=al/\i<O.length then .ok (.nx (O.set i<|aa v) (i::os.filter (· != i))) s else .no
   |_=>.no
  else .ok (.nx (O.set i<|aa v) (os.filter (· != i))) s
 |.asg t e,O,os,s=>(pvA C e O os s).bind λv s=>if(t.any os.contains)=al then .no else(po (Zp t v O) s).bind λO s=>.ok (.nx O os) s
 |.par t es,O,os,s=>(ZgS C es O os s).bind λvs s=>if(t.any os.contains)=al then .no else(po (Y7 t vs O) s).bind λO s=>.ok (.nx O os) s
 |.aug i op e,O,os,s=>if os.contains i then .no else(po (O[i]?).join s).bind λx s=>(pv C e O s).bind λy s=>(ZgB op x y s).bind λz s=>.ok (.nx (O.set i<|aa z) os) s
 |.put (.v i) k e,O,os,s=>if os.contains i then(pv C e O s).bind λv s=>if v.flat then(po (VB O[i]?) s).bind λxs s=>(pv C k O s).bind λy s=>match y with
   |.int n=>(po (ixN xs.length n) s).bind λj s=>.ok (.nx (O.set i<|aa<|.lst<|xs.set j v) os) s
   |_=>.no
  else .no else .no
 |.put _ _ _,_,_,_=>.no
 |.dput (.v i) k e,O,os,s=>if os.contains i then(pv C e O s).bind λv s=>if isT v=al then(po (ZfU O[i]?) s).bind λks s=>(pv C k O s).bind λy s=>(po (Zgx y) s).bind λr s=>if ks.length<lim then .ok (.nx (O.set i<|aa<|.dow<|ZfV ks r) os) s else .no
  else .no else .no
 |.dput _ _ _,_,_,_=>.no
 |.ret e,O,os,s=>(pv C e O s).bind λv s=>.ok (.ret v) s
 |.ex (.mt .append (.v i) [e]),O,os,s=>if os.contains i then(po (VB O[i]?) s).bind λxs s=>(pv C e O s).bind λv s=>if v.flat=al/\xs.length<lim then .ok (.nx (O.set i<|aa<|.lst<|xs++[v]) os) s else .no else .no
 |.ex (.mt .extend (.v i) [e]),O,os,s=>if os.contains i then(po (VB O[i]?) s).bind λxs s=>(pv C e (hide os O) s).bind λv s=>match v with
   |.lst ys=>if Xe ys=al/\xs.length+ys.length<=lim then .ok (.nx (O.set i<|aa<|.lst<|xs++ys) os) s else .no
   |_=>.no
  else .no
 |.ex e,O,os,s=>(pv C e O s).bind λ_ s=>.ok (.nx O os) s
 |.ite t a b,O,os,s=>(Xz C t O s).bind λc s=>if c then rvs C ms a O os s else rvs C ms b O os s
 |.forr t it b,O,os,s=>(pvw C it (hide os O) s).bind λw s=>Wo (λx O os s=>if(t.any os.contains)=al then .no else(po (Zp t x O) s).bind λO s=>rvs C ms b O os s) w O os s
 |.whl t b,O,os,s=>XC (Xz C t) (rvs C ms b) y9 O os s
 |.raise c as,O,os,s=>(pvs C as O s).bind λ_ s=>.ex c s
 |.pas,O,os,s=>.ok (.nx O os) s
 |.brk,O,os,s=>.ok (.brk O os) s
 |.cnt,O,os,s=>.ok (.cnt O os) s
 |.mov i j,O,os,s=>if(os.contains j&&(!os.contains i&&aj (i≠j)))=al then(po (VB O[j]?) s).bind λxs s=>.ok (.nx ((O.set i<|aa<|.lst xs).set j ae) (os.filter (· != j))) s else .no
 |.dset i e,O,os,s=>(pv C e O s).bind λv s=>match v with
  |.int x=>if okS x s.2=al then match(O[i]?).join with
   |some .drw=>.ok (.nx O os) (x,s.2)
   |_=>.no
   else .no
  |_=>.no
 |.cel i f as b,O,os,s=>if os.isEmpty=al then(pvs C as O s).bind λxs s=>(C f xs s).bind λv s=>(po (Qg v) s).bind λd s=>match rvs C ms b ((VD i O).set i<|aa .drw) [] d with
  |.ok (.nx O _) _=>.ok (.nx (O.map Uk) []) s
  |.ok (.cnt O _) _=>.ok (.cnt (O.map Uk) []) s
  |.ok (.brk O _) _=>.ok (.brk (O.map Uk) []) s
  |.ok (.ret v) _=>if v.flat=al then .ok (.ret v) s else .no
  |_=>.no
  else .no
 |.retO i,O,os,s=>if os.contains i then(po (VB O[i]?) s).bind λxs s=>.ok (.ret<|.lst xs) s else .no
 |.dnw i k,O,os,s=>(pv C k O s).bind λy s=>(po (Zgx y) s).bind λr s=>if i<O.length then .ok (.nx (O.set i<|aa<|.dow [r]) (i::os.filter (· != i))) s else .no
 |.lnw i es,O,os,s=>(pvs C es (hide os O) s).bind λxs s=>if xs.length<=lim/\i<O.length then .ok (.nx (O.set i<|aa<|.lst xs) (i::os.filter (· != i))) s else .no
 |.cat i es,O,os,s=>if os.contains i then(po (VB O[i]?) s).bind λxs s=>(pvs C es (hide os O) s).bind λys s=>if ys.length<=lim/\xs.length+ys.length<=lim/\i<O.length then .ok (.nx (O.set i<|aa<|.lst<|xs++ys) (i::os.filter (· != i))) s else .no else .no
 |.app i e,O,os,s=>if os.contains i then(po (VB O[i]?) s).bind λxs s=>(pv C e (hide os O) s).bind λv s=>if xs.length<lim then .ok (.nx (O.set i<|aa<|.lst<|xs++[v]) os) s else .no else .no
 |.forF t e b,O,os,s=>(pvA C e O os s).bind λv s=>match v with
  |.lst w=>Wo (λx O os s=>if(t.any os.contains)=al then .no else(po (Zp t x O) s).bind λO s=>rvs C ms b O os s) w O os s
  |_=>.no
noncomputable def rvs(C:ZJ)(ms:List Nat):List Sm->Env->List Nat->DS->PR FlV
 |[],O,os,s=>.ok (.nx O os) s
 |m::ss,O,os,s=>(rv C ms m O os s).bind λf s=>match f with
  |.nx O os=>rvs C ms ss O os s
  |f=>.ok f s
end
mutual
noncomputable def wD:Sm->List Nat
 |.put (.v i) _ _=>[i]
 |.ex (.mt .append (.v i) _)=>[i]
 |.ex (.mt .extend (.v i) _)=>[i]
 |.ite _ a b=>muts a++muts b
 |.forr _ _ b=>muts b
 |.whl _ b=>muts b
 |.cel _ _ _ b=>muts b
 |.retO i=>[i]
 |.dput (.v i) _ _=>[i]
 |.forF _ _ b=>muts b
 |_=>[]
noncomputable def muts:List Sm->List Nat
 |[]=>[]
 |m::ss=>wD m++muts ss
end
noncomputable def ZR(n:Nat)(xs:List V):Env:=xs.map aa++az (n-xs.length) ae
noncomputable def Wj(s:DS)(m:Int):Int×DS:=
 if s.2 then(s.1%m,(s.1 / m,al))else
  let x:=(s.1*48271+29)%2147483647
  let y:=(x*x+39373*x+7)%2147483629
  let z:=(y*y+16807*y)%2147483587
  (z / 8%m,(x,am))
noncomputable def ZdX(vs:List V)(s:DS):PR V:=match vs with
 |[.drw,.int m]=>if 0<m/\m<1073741824 then .ok (.int (Wj s m).1) (Wj s m).2 else .no
 |_=>.no
noncomputable def Zo(F:List Fn)(tk:Nat):Nat->ZJ
 |0,_,_,_=>.no
 |d+1,f,xs,s=>if f=tk then ZdX xs s else match F[f]? with
  |some fn=>if xs.length=fn.ps then(rvs (Zo F tk d) (muts fn.body) fn.body (ZR fn.ns xs) [] s).bind λf s=>match f with
    |.ret v=>.ok v s
    |.nx _ _=>.ok .non s
    |_=>.no
   else .no
  |none=>.no
end Pv
namespace Sd
open PySem PySem.Spec PyProof.Rows L2
open Ev (E Sm Fn Bop Cop Ty Bf Mf)
noncomputable abbrev D:=Pv.V
noncomputable abbrev Zy:=Pv.DS
noncomputable abbrev Lc:=Pv.Env
noncomputable abbrev R:=Pv.PR
noncomputable abbrev Calls:=Pv.ZJ
structure Mx where
 K:ap
 n0:Option aP
 X:aP->Prop
 xz:∀a,n0=aa a->X a
def Scr(K:ap)(H:Hp)(a:aP)(ns:List Int):Prop:=
 (∃o,H a=aa (.frz o<|.lst<|ns.map V.int))\/
  ∃(o:fP)(its:Array ao)(n:Nat),K.lookup a=aa o/\o.cls=.type "list"/\o.dict=ae/\o.data=.seq its n/\its.size<=bx/\Vals (ns.map V.int) its.toList
def Scr.sq{K:ap}{H:Hp}{a:aP}{ns:List Int}(h:Scr K H a ns):SqL K H a (ns.map V.int):=by
 rcases h with⟨o,h⟩|h
 .exact .inl<|.inr #[o,h]
 .exact .inr h
def Dct(H:Hp)(a:aP):Option (List<|List Int)->Prop
 |none=>∃vs,H a=aa (.dK vs)
 |some ks=>∃o vs,H a=aa (.frz o<|.dT vs)/\vs.map (·.1)=ks.map (·.map dW)
mutual
def Rep(O:Mx)(H:Hp):D->V->Prop
 |.non,v=>v=.non
 |.bl b,v=>v=.bl b
 |.int i,v=>v=.int i
 |.str x,v=>v=.str x
 |.tup ds,v=>∃a xs,v=.ref a/\H a=aa (.tup xs)/\Reps O H ds xs
 |.lst ds,v=>∃a xs,v=.ref a/\H a=aa (.lst xs)/\¬O.X a/\Reps O H ds xs
 |.drw,v=>∃a,v=.ref a/\O.n0=aa a
 |.dct o,v=>∃a,v=.ref a/\Dct H a o
 |.scr ns,v=>∃a,v=.ref a/\Scr O.K H a ns
 |.dow ks,v=>∃a vs,v=.ref a/\H a=aa (.dT vs)/\¬O.X a/\vs.map (·.1)=ks.map (·.map dW)
def Reps(O:Mx)(H:Hp):List D->List V->Prop
 |[],xs=>xs=[]
 |d::ds,xs=>∃v vs,xs=v::vs/\Rep O H d v/\Reps O H ds vs
end
structure Fut(O:Mx)(H:Hp)(ρ':Mx)(H':Hp):Prop where
 eq:ρ'=O
 keep:∀a o,H a=aa o->H' a=aa o\/(O.n0=aa a/\∃xs,o=.lst xs)\/((∃ps,o=.tbl ps)/\∃ps,H' a=aa (.tbl ps))
def Fut.refl(O:Mx)(H:Hp):Fut O H O H:=#[rfl,λ_ _ h=>.inl h]
def Fut.trans{O ρ1 ρ2:Mx}{H H1 H2:Hp}(a:Fut O H ρ1 H1)(b:Fut ρ1 H1 ρ2 H2):Fut O H ρ2 H2:=by
 obtain⟨rfl,f⟩:=a;obtain⟨rfl,g⟩:=b;refine#[rfl,λa o h=>(f a o h).elim (λh=>g a o h) λz=>z.elim (λz=>.inr<|.inl z) λ#[e,ps,h]=>?_]
 rcases g a _ h with q|⟨_,xs,q⟩|⟨_,q⟩
 .exact .inr<|.inr #[e,ps,q]
 .cases q
 .exact .inr<|.inr #[e,q]
def Fut.there(f:Fut O H ρ' H')(n:O.n0≠.some a)(h:H a≠ae):H' a≠ae:=by
 obtain⟨o,e⟩:=Option.ne_none_iff_exists'.mp h;rcases f.keep a o e with q|q|⟨_,_,q⟩
 .rw[q];intro z;cases z
 .exact T7 q.1 n
 .rw[q];intro z;cases z
def Fut.new(f:Fut O H ρ' H')(h:H' a=ae)(xd:∀a,O.X a->H' a≠ae):H a=ae:=by
 cases q:H a with
 |none=>rfl
 |some o=>
  rcases f.keep a o q with e|e|⟨_,_,e⟩
  .rw[h]at e;cases e
  .exact T7 h<|xd a<|O.xz a e.1
  .rw[h]at e;cases e
structure Lat(O:Mx)(H:Hp)(ρ':Mx)(H':Hp):Prop where
 K:ρ'.K=O.K
 n0:ρ'.n0=O.n0
 keep':∀a o,H a=aa o->(∀xs,o=.lst xs->¬O.X a)->(∀ps,o≠.tbl ps)->(∀vs,o=.dT vs->¬O.X a)->H' a=aa o
 X:∀a,H a≠ae->ρ'.X a->O.X a
def Lat.keep(f:Lat O H ρ' H')(a:aP)(o:HO)(h:H a=aa o)(x:∀xs,o=.lst xs->¬O.X a)(n:∀ps,o≠.tbl ps:=by intro _ z;cases z)(m:∀vs,o=.dT vs->¬O.X a:=by intro _ z;cases z):H' a=aa o:=f.keep' a o h x n m
mutual
theorem Rep.lat(f:Lat O H ρ' H'):∀{d:D}{v:V},Rep O H d v->Rep ρ' H' d v
 |.non,_,h|.bl _,_,h|.int _,_,h|.str _,_,h=>by exact h
 |.tup ds,v,h=>by
  obtain⟨a,xs,e,t,r⟩:=h;exact#[a,xs,e,f.keep a _ t (λ_ z=>by cases z),r.lat f]
 |.lst ds,v,h=>by
  obtain⟨a,xs,e,t,x,r⟩:=h;exact#[a,xs,e,f.keep a _ t λ_ _=>x,λz=>x (f.X a (by rw[t];intro z;cases z) z),r.lat f]
 |.drw,v,h=>by unfold Rep at h ⊢;rw[f.n0];exact h
 |.dct o,v,h=>by
  obtain⟨a,e,t⟩:=h;refine#[a,e,?_];cases o with|none=>obtain⟨vs,t⟩:=t;exact#[vs,f.keep a _ t λ_ z=>by cases z]|some ks=>obtain⟨o,vs,t,q⟩:=t;exact#[o,vs,f.keep a _ t (λ_ z=>by cases z),q]
 |.scr ns,v,h=>by
  unfold Rep at h ⊢;obtain⟨a,e,t⟩:=h;rw[f.K];refine#[a,e,?_];rcases t with⟨o,t⟩|t
  .exact .inl #[o,f.keep a _ t λ_ z=>by cases z]
  .exact .inr t
 |.dow ks,v,h=>by
  unfold Rep at h ⊢;obtain⟨a,vs,e,t,x,q⟩:=h;exact#[a,vs,e,f.keep a _ t (λ_ z=>by cases z) (by intro _ z;cases z) λ_ _=>x,λz=>x (f.X a (by rw[t];intro z;cases z) z),q]
theorem Reps.lat(f:Lat O H ρ' H'):∀{ds:List D}{xs:List V},Reps O H ds xs->Reps ρ' H' ds xs
 |[],_,h=>by exact h
 |d::ds,xs,h=>by
  obtain⟨v,vs,e,r,rs⟩:=h;exact#[v,vs,e,r.lat f,rs.lat f]
end
noncomputable def ZgL:bI:="law.<locals>.<lambda>"
def Tb(H:Hp):Prop:=∀(P:aP)(ps:Array ao),H P=aa (.tbl ps)->TriplesOk ps.toList/\∀(pos:iP)(cv:ao),codeAmong pos ps.toList=aa cv->
 ∃(c:aP)(oc:fP)(vs:Array ao)(t:rD),cv=.ref c/\H c=aa (.frz oc<|.own c)/\oc.data=.fields vs/\vs[1]?=aa (.str ZgL t)
theorem Tb.upd(h:Tb H)(hp:∀ob u,H p≠aa (.frz ob u))(ho:∀ps,o≠.tbl ps):Tb (upd H p o):=λP ps e=>by
 by_cases z:P=p
 .subst z;rw[ZL]at e;cases e;exact T7 rfl<|ho ps
 .rw[Zv z]at e
  obtain⟨a,b⟩:=h P ps e;refine#[a,λpos cv q=>?_]
  obtain⟨c,oc,vs,t,e1,e2,e3⟩:=b pos cv q;exact#[c,oc,vs,t,e1,by rw[Zv λz=>hp oc (.own c) (by rw[<-z];exact e2)];exact e2,e3]
structure St3(K:ap)(O:Mx)(S:Zy)(H:Hp):Prop where
 hk:O.K=K
 xd:∀a,O.X a->H a≠ae
 dw:∀a,O.n0=aa a->H a=aa (.lst [.int S.1,.bl S.2])/\Pv.okS S.1 S.2=al
 tb:Tb H
def Fut.lat(f:Fut O H ρ' H'):Lat O H ρ' H':=by
 obtain⟨rfl,f⟩:=f;exact#[rfl,rfl,λa o h x n _=>(f a o h).elim id λz=>z.elim (λz=>T7 (ρ'.xz a z.1) (let #[xs,e]:=z.2;x xs e))<|by rintro ⟨⟨ps,e⟩,_⟩;exact T7 e<|n ps,λ_ _ h=>h]
def Rep.mono(f:Fut O H ρ' H')(h:Rep O H d v):Rep ρ' H' d v:=h.lat f.lat
def Reps.mono(f:Fut O H ρ' H')(h:Reps O H d v):Reps ρ' H' d v:=h.lat f.lat
section
variable{O:Mx}{H:Hp}{v:V}
def Reps.nil:Reps O H [] []:=by rfl
def Reps.cons{d:D}{v:V}{ds:List D}{vs:List V}(r:Rep O H d v)(rs:Reps O H ds vs):Reps O H (d::ds) (v::vs):=by
 exact#[v,vs,rfl,r,rs]
theorem Reps.length:∀{ds:List D}{xs:List V},Reps O H ds xs->xs.length=ds.length
 |[],_,h=>by rw[h];rfl
 |d::ds,xs,h=>by
  obtain⟨v,vs,rfl,_,rs⟩:=h;rw[aF,aF,Reps.length rs]
theorem Reps.append:∀{ds es:List D}{xs ys:List V},Reps O H ds xs->Reps O H es ys->Reps O H (ds++es) (xs++ys)
 |[],_,_,_,h,r=>by rw[h];exact r
 |d::ds,_,_,_,h,r=>by
  obtain⟨v,vs,rfl,a,rs⟩:=h;exact Reps.cons a<|Reps.append rs r
theorem Reps.take:∀{ds:List D}{xs:List V}(k:Nat),Reps O H ds xs->Reps O H (ds.take k) (xs.take k)
 |_,_,0,_=>Reps.nil
 |[],_,k+1,h=>by rw[h];exact Reps.nil
 |d::ds,_,k+1,h=>by
  obtain⟨v,vs,rfl,a,rs⟩:=h;exact Reps.cons a<|Reps.take k rs
theorem Reps.drop:∀{ds:List D}{xs:List V}(k:Nat),Reps O H ds xs->Reps O H (ds.drop k) (xs.drop k)
 |_,_,0,h=>h
 |[],_,k+1,h=>by rw[h];exact Reps.nil
 |d::ds,_,k+1,h=>by
  obtain⟨v,vs,rfl,a,rs⟩:=h;exact Reps.drop k rs
theorem Reps.get:∀{ds:List D}{xs:List V}{i:Nat}{d:D},Reps O H ds xs->ds[i]?=aa d->∃v,xs[i]?=aa v/\Rep O H d v
 |[],_,_,_,_,e=>by simp at e
 |d::ds,_,0,_,h,e=>by
  obtain⟨v,vs,rfl,a,rs⟩:=h;simp at e;subst e;exact#[v,rfl,a]
 |d::ds,_,i+1,_,h,e=>by
  obtain⟨v,vs,rfl,a,rs⟩:=h;obtain⟨u,q,r⟩:=Reps.get rs (by simpa using e)
  exact#[u,by simpa using q,r]
theorem Reps.set{d:D}{v:V}(r:Rep O H d v):∀{ds:List D}{xs:List V}(i:Nat),Reps O H ds xs->Reps O H (ds.set i d) (xs.set i v)
 |[],_,i,h=>by unfold Reps at h;rw[h];exact Reps.nil
 |_::_,_,0,h=>by
  unfold Reps at h;obtain⟨_,_,rfl,_,rs⟩:=h;exact Reps.cons r rs
 |_::_,_,i+1,h=>by
  unfold Reps at h;obtain⟨_,_,rfl,a,rs⟩:=h;exact Reps.cons a<|Reps.set r i rs
theorem Reps.reverse:∀{ds:List D}{xs:List V},Reps O H ds xs->Reps O H ds.reverse xs.reverse
 |[],_,h=>by rw[h];exact Reps.nil
 |d::ds,_,h=>by
  obtain⟨v,vs,rfl,a,rs⟩:=h;rw[gS,gS];exact Reps.append (Reps.reverse rs)<|Reps.cons a Reps.nil
theorem Reps.rep(h:Reps O H ds xs):∀k:Nat,Reps O H (az k ds).flatten (az k xs).flatten
 |0=>Reps.nil
 |k+1=>by
  rw[bv,bv,cw,cw];exact Reps.append h<|Reps.rep h k
theorem Reps.ints:∀ns:List Int,Reps O H (ns.map Pv.V.int) (ns.map V.int)
 |[]=>Reps.nil
 |n::ns=>Reps.cons (by rfl)<|Reps.ints ns
def Rep.int'{i:Int}(h:Rep O H (.int i) v):v=.int i:=by exact h
def Rep.bl'{b:Bool}(h:Rep O H (.bl b) v):v=.bl b:=by exact h
def Rep.non'(h:Rep O H .non v):v=.non:=by exact h
def Rep.str'{x:bI}(h:Rep O H (.str x) v):v=.str x:=by exact h
def Rep.tup'{ds:List D}(h:Rep O H (.tup ds) v):∃a xs,v=.ref a/\H a=aa (.tup xs)/\Reps O H ds xs:=by exact h
def Rep.lst'{ds:List D}(h:Rep O H (.lst ds) v):∃a xs,v=.ref a/\H a=aa (.lst xs)/\¬O.X a/\Reps O H ds xs:=by exact h
def Rep.drw'(h:Rep O H .drw v):∃a,v=.ref a/\O.n0=aa a:=by exact h
def Rep.dct'(h:Rep O H (.dct o) v):∃a,v=.ref a/\Dct H a o:=by exact h
def Rep.scr'(h:Rep O H (.scr ns) v):∃a,v=.ref a/\Scr O.K H a ns:=by exact h
def Rep.dow'{ks:List (List Int)}(h:Rep O H (.dow ks) v):∃a vs,v=.ref a/\H a=aa (.dT vs)/\¬O.X a/\vs.map (·.1)=ks.map (·.map dW):=by unfold Rep at h;exact h
def ZS(i:Int):Rep O H (.int i) (.int i):=by rfl
def Ym(b:Bool):Rep O H (.bl b) (.bl b):=by rfl
def vI:Rep O H .non .non:=by rfl
def XW(h:H a=aa (.tup xs))(r:Reps O H ds xs):Rep O H (.tup ds) (.ref a):=by exact#[a,xs,rfl,h,r]
def VA(h:H a=aa (.lst xs))(x:¬O.X a)(r:Reps O H ds xs):Rep O H (.lst ds) (.ref a):=by exact#[a,xs,rfl,h,x,r]
def Rep.seq(h:Rep O H x v)(e:Pv.YN x=aa ds):∃p xs,v=.ref p/\(SqL O.K H p xs\/SqT O.K H p xs)/\Reps O H ds xs:=by
 cases x with|tup es=>cases e;obtain⟨p,xs,rfl,h,r⟩:=h.tup';exact#[p,xs,rfl,.inr<|SqT.of h,r]|lst es=>cases e;obtain⟨p,xs,rfl,h,_,r⟩:=h.lst';exact#[p,xs,rfl,.inl<|SqL.of h,r]|scr ns=>cases e;obtain⟨p,e,q⟩:=h.scr';exact#[p,_,e,.inl q.sq,Reps.ints ns]|_=>cases e
end
structure LocR(O:Mx)(H:Hp)(l:Lc)(Z:L2.St):Prop where
 len:l.length=Z.length
 val:∀(i:Nat)(d:D),l[i]?=aa (aa d)->∃v,Z[i]?=aa (aa v)/\Rep O H d v
theorem LocR.mono(f:Fut O H ρ' H')(r:LocR O H l Z):LocR ρ' H' l Z:=
 #[r.len,λi d e=>let #[v,q,h]:=r.val i d e;#[v,q,h.mono f]]
theorem LocR.set(r:LocR O H l Z)(i:Nat)(h:Rep O H d v):LocR O H (l.set i<|aa d) (Z.set i<|aa v):=
 #[by rw[bH,bH];exact r.len,λj e q=>by
  rw[kG]at q ⊢;split at q
  .rename_i hij
   subst hij;split at q
   .rename_i hl
    cases q;rw[T9 rfl,T9 (by rw[<-r.len];exact hl)]
    exact#[v,rfl,h]
   .cases q
  .rename_i hij
   rw[T8 hij];exact r.val j e q]
def End{B β:Type}(K:ap)(xw:Nat->Hp->Prop)(rep:Mx->Hp->B->β->Prop)(O:Mx)(H:Hp)(Q:β->Hp->Prop):R B->Prop
 |.ok d S=>∀ρ' H' v,Fut O H ρ' H'->St3 K ρ' S H'->rep ρ' H' d v->Q v H'
 |.ex c S=>∀ρ' H',Fut O H ρ' H'->St3 K ρ' S H'->xw c H'
 |.no=>False
section
variable{K:ap}{xw:Nat->Hp->Prop}{O ρ':Mx}{H H':Hp}{B β α' β':Type}{rep:Mx->Hp->B->β->Prop}{rep':Mx->Hp->α'->β'->Prop}
def End.mono{Q:β->Hp->Prop}(f:Fut O H ρ' H')(h:End K xw rep O H Q r):End K xw rep ρ' H' Q r:=by
 cases r with|ok d S=>exact λρ2 H2 v g st r=>h ρ2 H2 v (f.trans g) st r|ex c S=>exact λρ2 H2 g st=>h ρ2 H2 (f.trans g) st|no=>exact h
theorem End.bind{Q:β'->Hp->Prop}{Q1:β->Hp->Prop}(h:End K xw rep' O H Q (r.bind f))
  (k:∀d S ρ1 H1 v,Fut O H ρ1 H1->St3 K ρ1 S H1->rep ρ1 H1 d v->End K xw rep' ρ1 H1 Q (f d S)->Q1 v H1):End K xw rep O H Q1 r:=by
 cases r with|ok d S=>exact λρ1 H1 v g st r=>k d S ρ1 H1 v g st r<|End.mono g h|ex c S=>exact h|no=>exact h
theorem End.ok{Q:β->Hp->Prop}(h:End K xw rep O H Q (.ok a S))(st:St3 K O S H)(r:rep O H a v):Q v H:=h O H v (Fut.refl O H) st r
def End.ob{Q:β'->Hp->Prop}(h:End K xw rep' O H Q ((Pv.po o S).bind f)):∃a,o=aa a/\End K xw rep' O H Q (f a S):=by
 cases o with|none=>exact h.elim|some a=>exact#[a,rfl,h]
theorem End.po{Q:β->Hp->Prop}(h:End K xw rep O H Q (Pv.po o S)):∃a,o=aa a/\End K xw rep O H Q (.ok a S):=by
 cases o with|none=>exact h.elim|some a=>exact#[a,rfl,h]
theorem End.map{Q:β->Hp->Prop}(h:End K xw rep O H Q (Pv.po (o.map f) S)):∃a,o=aa a/\End K xw rep O H Q (.ok (f a) S):=by
 cases o with|none=>exact h.elim|some a=>exact#[a,rfl,h]
def End.ite{c:Prop}[Decidable c]{Q:β->Hp->Prop}(h:End K xw rep O H Q (if c then a else b)):(c/\End K xw rep O H Q a)\/(¬c/\End K xw rep O H Q b):=by
 split at h
 .exact .inl #[‹_›,h]
 .exact .inr #[‹_›,h]
def End.guard{c:Prop}[Decidable c]{Q:β->Hp->Prop}(h:End K xw rep O H Q (if c then a else .no)):c/\End K xw rep O H Q a:=by
 rcases h.ite with h|⟨_,h⟩
 .exact h
 .exact h.elim
end
abbrev nx:Nat->Hp->Prop:=λ_ _=>False
theorem End.nox{B β:Type}{K:ap}{xw:Nat->Hp->Prop}{O:Mx}{H:Hp}{rep:Mx->Hp->B->β->Prop}{Q:β->Hp->Prop}{r:R B}(h:End K xw rep O H Q r.nox):End K nx rep O H Q r:=by
 cases r with|ok d S=>exact h|ex c S=>exact h.elim|no=>exact h
def Uw(_:Mx)(_:Hp)(a b:Bool):Prop:=a=b
def Zg1(_:Mx)(_:Hp)(a b:Option Int):Prop:=a=b
section
variable(X:Cx)(xw:Nat->Hp->Prop)
def tE(f:Lc->Zy->R D):TE:=λZ H Q=>∃O l S,St3 X.K O S H/\LocR O H l Z/\End X.K xw Rep O H Q (f l S)
def tA(f:Lc->Zy->R (List D)):TA:=λZ H Q=>∃O l S,St3 X.K O S H/\LocR O H l Z/\End X.K xw Reps O H Q (f l S)
def tB3(f:Lc->Zy->R Bool):TT:=λZ H Q=>∃O l S,St3 X.K O S H/\LocR O H l Z/\End X.K xw Uw O H Q (f l S)
def tO(f:Lc->Zy->R (Option Int)):TO:=λZ H Q=>∃O l S,St3 X.K O S H/\LocR O H l Z/\End X.K xw Zg1 O H Q (f l S)
variable(C:Calls)
structure CE(e:Expr)(i:E):Prop where
 h:PE X e (tE X xw<|Pv.pv C i)
structure CT(e:Expr)(i:E):Prop where
 h:PT X e (tB3 X xw<|Pv.Xz C i)
structure CA(es:List Expr)(is:List E):Prop where
 h:PA X es (tA X xw<|Pv.pvs C is)
structure CO(e:Option Expr)(i:Option E):Prop where
 h:PO X e (tO X xw<|Pv.pvo C i)
end
def PE.imp(h:PE X e t)(k:∀Z H Q,t' Z H Q->t Z H Q):PE X e t':=λpq s Z H Q I q=>h pq s Z H Q I<|k Z H Q q
def PT.imp(h:PT X e t)(k:∀Z H Q,t' Z H Q->t Z H Q):PT X e t':=λpq s Z H Q I q=>h pq s Z H Q I<|k Z H Q q
def PA.imp(h:PA X e t)(k:∀Z H Q,t' Z H Q->t Z H Q):PA X e t':=λpos pq s Z H Q I q=>h pos pq s Z H Q I<|k Z H Q q
def PO.imp(h:PO X e t)(k:∀Z H Q,t' Z H Q->t Z H Q):PO X e t':=λpq s Z H Q I q=>h pq s Z H Q I<|k Z H Q q
section
variable{K:ap}{O ρ':Mx}{S:Zy}{H H':Hp}{a p:aP}
def ZF(hp:H p=ae):Fut O H O (upd H p o):=#[rfl,λb u h=>.inl (by rw[Zv<|ZO h hp];exact h)]
def St3.fresh(st:St3 K O S H)(hp:H p=ae)(ho:∀ps,o≠.tbl ps:=by intro _ z;cases z):St3 K O S (upd H p o):=
 have n:∀b,H b≠ae->b≠p:=λb h z=>h (by rw[z];exact hp)
 #[st.hk,λb h=>by rw[Zv<|n b<|st.xd b h];exact st.xd b h,λb h=>by
  have:=st.dw b h;rw[Zv<|n b (by rw[this.1];intro z;cases z)];exact this,st.tb.upd (λob u z=>by rw[hp]at z;cases z) ho]
def St3.nx(st:St3 K O S H)(hp:H p=ae):¬O.X p:=λz=>st.xd p z hp
end
def WS:Ev.lim=bx:=by rw[cU];rfl
section
variable{K:ap}{xw:Nat->Hp->Prop}{O:Mx}{H:Hp}{S:Zy}{Q:VK}
def End.newT(h:End K xw Rep O H Q (.ok (.tup ds) S))(st:St3 K O S H)(r:Reps O H ds xs):∀p,H p=ae->Q (.ref p) (upd H p<|.tup xs):=λp hp=>
 h O _ _ (ZF hp) (st.fresh hp) (XW ZL<|r.mono<|ZF hp)
def End.newL(h:End K xw Rep O H Q (.ok (.lst ds) S))(st:St3 K O S H)(r:Reps O H ds xs):∀p,H p=ae->Q (.ref p) (upd H p<|.lst xs):=λp hp=>
 h O _ _ (ZF hp) (st.fresh hp) (VA ZL (st.nx hp)<|r.mono<|ZF hp)
end
section
variable{X:Cx}{xw:Nat->Hp->Prop}{C:Calls}{e a b c:Expr}{i j k:E}{pos:iP}
def Zfm{n:Int}{q}:CE X xw C (.Constant (.int n) q pos) (.c<|.int n):=.mk <| PE.imp Gp<|by rintro Z H Q ⟨O,l,S,st,lr,h⟩;exact End.ok h st<|ZS n
def ZfO{n:Bool}{q}:CE X xw C (.Constant (.bool n) q pos) (.c<|.bl n):=.mk <| PE.imp ZdH<|by rintro Z H Q ⟨O,l,S,st,lr,h⟩;exact End.ok h st<|Ym n
def Ze1{q}:CE X xw C (.Constant .none q pos) (.c .non):=.mk <| PE.imp Zd3<|by rintro Z H Q ⟨O,l,S,st,lr,h⟩;exact End.ok h st vI
def Zhd(n:Nat){x:bI}(hN:X.N[n]?=aa x)(hv:Vis X.env.scope x)(hd:(x == ("__debug__" : bI))=am)
  (hcd:(x == ("__classdict__" : bI))=am):CE X xw C (.Name x pos) (.v n):=.mk <| PE.imp (Gc hN hv hd hcd)<|by
 rintro Z H Q ⟨O,l,S,st,lr,h⟩;rw[Pv.pv]at h;cases q:l[n]? with
 |none=>rw[q]at h;exact h.elim
 |some o=>
  cases o with
  |none=>rw[q]at h;exact h.elim
  |some d=>
   rw[q]at h;obtain⟨v,q2,r⟩:=lr.val n d q;exact#[v,q2,End.ok h st r]
def Zd6:CA X xw C [] []:=.mk <| PA.imp Qp<|by
 rintro Z H Q ⟨O,l,S,st,lr,h⟩;rw[Pv.pvs]at h;exact End.ok h st Reps.nil
def Zb3{es:List Expr}{is:List E}(ha:CE X xw C e i)(hr:CA X xw C es is)(hs:aL (e::es) X.env=(am,cI e X.env)::aL es X.env):CA X xw C (e::es) (i::is):=.mk <|
 PA.imp (Xp ha.h hr.h hs)<|by
  rintro Z H Q ⟨O,l,S,st,lr,h⟩;rw[Pv.pvs]at h;exact#[O,l,S,st,lr,h.bind λx S1 ρ1 H1 v f1 st1 r1 h1=>#[ρ1,l,S1,st1,lr.mono f1,h1.bind λxs S2 ρ2 H2 vs f2 st2 r2 h2=>h2.ok st2<|Reps.cons (r1.mono f2) r2]]
def Zd5{es:List Expr}{is:List E}{q}(h:CA X xw C es is):CE X xw C (.Tuple es q pos) (.tup is):=.mk <| PE.imp (Zbt h.h)<|by
 rintro Z H Q ⟨O,l,S,st,lr,h⟩;rw[Pv.pv]at h;refine#[O,l,S,st,lr,h.bind λxs S1 ρ1 H1 vs f1 st1 r1 h1=>?_]
 obtain⟨hl,h1⟩:=h1.guard;exact#[by rw[r1.length,<-WS];exact hl,h1.newT st1 r1]
def Wp{r:R2}{g:D->D->Zy->R D}(hg:∀{O H S x y v u Q},St3 X.K O S H->Rep O H x v->Rep O H y u->End X.K xw Rep O H Q (g x y S)->r v u H Q) :
  ∀Z H Q,tE X xw (λl S=>(Pv.pv C i l S).bind λx S=>(Pv.pv C j l S).bind λy S=>g x y S) Z H Q->tOp r (tE X xw<|Pv.pv C i) (tE X xw<|Pv.pv C j) Z H Q:=λZ H Q #[O,l,S,st,lr,h]=>
 #[O,l,S,st,lr,h.bind λx S1 ρ1 H1 v f1 st1 r1 h1=>#[ρ1,l,S1,st1,lr.mono f1,h1.bind λy S2 ρ2 H2 u f2 st2 r2 h2=>hg st2 (r1.mono f2) r2 h2]]
end
def Zbr(K:ap):R2:=λx y H Q=>∃a b ys,x=.ref a/\y=.ref b/\SqT K H a []/\SqT K H b ys/\Q (.ref b) H
def Zaw:OpR X (eW .Add) (Zbr X.K):=by
 intro pq s Z H x y v u Q I rx ry h;obtain⟨a,b,ys,rfl,rfl,ha,hb,q⟩:=h;cases rx;cases ry;obtain⟨its,r1,p1,_⟩:=I.tuple ha;obtain⟨its2,r2,p2,_⟩:=I.tuple hb;have e0:=r1.nil_iff.mpr rfl;obtain⟨⟨cls,dd,data,sl⟩,ho,hc,n,hd⟩:=id p1;obtain⟨⟨cls2,dd2,data2,sl2⟩,ho2,hc2,n2,hd2⟩:=id p2;simp only at hc hd hc2 hd2;subst hc hd hc2 hd2;exact nJ #[_,ho,rfl] #[_,ho2,rfl] lj m5 gR gH (gf _ _)
   (tuple_addW0 a b its.toArray its2.toArray n n2 dd dd2 sl sl2<|by rw[e0];rfl) #[ho,ho2,#[.ref b,H,I,rfl,q]]
def Zg3(K:ap):V->Option Int->Option Int->Hp->VK->Prop:=λx lo hi H Q=>∃a xs,x=.ref a/\SqT K H a xs/\
 (HT.sIx xs.length 0 lo=0/\HT.sIx xs.length xs.length hi=xs.length)/\Q (.ref a) H
def WG{prog:bt}{w:bL}{A:cn}{E:ao->au->Prop}{s:au}{t sl:aP}{items:Array ao}{vl vu:ao}{lo hi:Option Int}{Q:ao->au->Prop}(ht:rE s.heap t items)(hs:s.heap.IsSliceOf sl vl vu .none)(pl:lI vl lo)(pu:lI vu hi)
  (hw:HT.sIx items.size 0 lo=0/\HT.sIx items.size items.size hi=items.size)(h:Q (.ref t) s):aY (aT prog w) A (mR (.ref t)<|.ref sl) Q E s:=by
 obtain⟨os,hos,hcs,hds⟩:=id hs;have hTs:s.TypeIs (.ref sl) "slice":=#[os,hos,hcs];unfold mR
 try with_reducible refine ck ?_
 first|refine ab<|ax ?_|skip
 refine ab<|nK ht.typeIs (by decide) ?_
 refine ab (cX ht.typeIs dJ
  (cS dJ ht.typeIs mU ?_<|nv _ _))
 show aY _ _ (fQ (.ref t) >>= _) _ _ s;refine ab<|tupleItemsOf_ ht ?_;refine ab<|iT hTs ?_;rw[T9 (by decide)]
 refine ab<|HT.XD hs pl pu ?_;have hyes:((((HT.sIx items.size 0 lo:Nat):Int) == 0&&(1:Int) == 1&&(HT.sIx items.size items.size hi-HT.sIx items.size 0 lo) == items.size)=al):=by
  rw[hw.1,hw.2];simp
 show aY _ _ (if(((HT.sIx items.size 0 lo:Nat):Int) == 0&&(1:Int) == 1&&(HT.sIx items.size items.size hi-HT.sIx items.size 0 lo) == items.size)=al then _ else _) _ _ s
 rw[T9 hyes];refine ab<|ab<|iT ht.typeIs<|ax ?_;rw[T9 (by decide)]
 exact ab<|eA<|ax #[_,rfl,ax h]
def qK:SlR X (Zg3 X.K):=by
 intro pq s Z H x v vl vu lo hi sl Q I rx hs pl pu h;obtain⟨a,xs,rfl,hx,hw,q⟩:=h;cases rx;obtain⟨its,r,ht,hz⟩:=I.tuple hx;have hlen:its.toArray.size=xs.length:=by rw[aB];exact r.length.symm
 refine#["tuple",_,dJ.lookup,ht.typeIs,?_];exact WG ht hs pl pu (by rw[hlen];exact hw) #[.ref a,H,I,rfl,q]
def wG(h:Ev.fits i=al):mV i<=2^20:=by
 have h1:=T6 h;unfold mV;split
 .exact cL _
 .rename_i hz
  have hne:i.natAbs≠0:=by intro z;exact hz (by simp[Int.natAbs_eq_zero.mp z])
  have:=(Nat.log2_lt hne).mpr h1;have e:(2:Nat)^20=1048576:=by decide
  omega
def Zaa:OpR X (eW .FloorDiv) (rI (λ_ j=>0<j/\j<Ev.big) λi j=>.int<|i / j):=opI λi j _ _ _ _ _ hc q=>by
 have h1:=hc.1;have h2:=hc.2;have hne:j.natAbs≠0:=by omega
 have h3:j.natAbs<2^8000:=by
  have e:(j.natAbs:Int)=j:=Int.natAbs_of_nonneg (by omega)
  have h4:(j.natAbs:Int)<((2^8000:Nat):Int):=by rw[e,Int.natCast_pow];exact h2
  exact Int.ofNat_lt.mp h4
 have h5:=(Nat.log2_lt hne).mpr h3;exact floordiv_int (by omega) (by rw[Int.fdiv_eq_ediv_of_nonneg i (by omega)];exact q)<|.inl<|PyProof.noPylong_of_log2 (by omega)
def Zc2:OpR X (eW .Mult) (rI (λi j=>Ev.fits i=al/\Ev.fits j=al) λi j=>.int<|i*j):=opI λ_ _ _ _ _ _ _ hc q=>mul_int q<|IntMulOk.of_bits (wG hc.1)<|wG hc.2
def Ze0:OpR X (cr .Is) (λx y H Q=>∃a b,x=.bl a/\y=.bl b/\Q (.bl<|aj<|a=b) H):=by
 intro pq s Z H x y v u Q I rx ry h;obtain⟨a,b,rfl,rfl,q⟩:=h;cases rx;cases ry;cases a<;>cases b<;>exact ax #[.bl _,H,I,rfl,q]
def ZbL:OpR X (cr .IsNot) (λx y H Q=>∃a b,x=.bl a/\y=.bl b/\Q (.bl<|aj<|a≠b) H):=by
 intro pq s Z H x y v u Q I rx ry h;obtain⟨a,b,rfl,rfl,q⟩:=h;cases rx;cases ry;cases a<;>cases b<;>exact ax #[.bl _,H,I,rfl,q]
def Ja:fillsNumberSlot (.type "tuple") "mul" = cY am:=
 PySem.fillsNumberSlot_seq ln.lookup (by decide +kernel) F.slot_tuple_rmul.lookup (by decide +kernel)
def GC:seqRepeat? (.type "tuple")=cY (aa<|.builtin "tuple.__mul__"):=by
 unfold seqRepeat?
 rw[oC (name:="__mul__") ln.lookup (by decide +kernel),oC (name:="__rmul__") F.slot_tuple_rmul.lookup (by decide +kernel)]
 rfl
def U4(a:Int)(t:rD)(l:aP)(items:Array ao)(n:Nat)(dd:Option aP)(sl:Array (Option ao)) :
  pI (dD.«int.__rmul__» #[[.int a t,.ref l],[]]) (λ_ R s=>s.heap.get? l=aa {cls:=.type "tuple",dict:=dd,data:=.seq items n,slots:=sl}/\R (.ok<|.ret ao.notImplemented) s):=
 .of_wp λprog w A R s h=>by obtain⟨hp,g,d,tk,os⟩:=s;obtain⟨hl,h⟩:=h;wp_walk;exact#[_,rfl,h]
def GV(l:aP)(items:Array ao)(n:Nat)(dd:Option aP)(sl:Array (Option ao))(x:Int)(u:rD)(h0:¬(x < -(2^63)||x>=2^63)=al)(hc:(items.isEmpty||x == 1)=al) :
  pI (dD.«tuple.__mul__» #[[.ref l,.int x u],[]]) (λ_ R s=>s.heap.get? l=aa {cls:=.type "tuple",dict:=dd,data:=.seq items n,slots:=sl}/\R (.ok<|.ret<|bX l) {s with heap:=s.heap,toks:=s.toks}):=
 .of_wp λprog w A R s h=>by obtain⟨hp,g,d,tk,os⟩:=s;obtain⟨hl,h⟩:=h;have f1:=lm;have f2:=dP;wp_walk;rw[T8 h0];wp_walk using dL hl;exact#[_,rfl,h]
def GH(l:aP)(items:Array ao)(n:Nat)(dd:Option aP)(sl:Array (Option ao))(x:Int)(u:rD)(h0:¬(x < -(2^63)||x>=2^63)=al)(hc:¬(items.isEmpty||x == 1)=al)(h1:(x<=0||items.isEmpty)=al) :
  pI (dD.«tuple.__mul__» #[[.ref l,.int x u],[]]) (λ_ R s=>s.heap.get? l=aa {cls:=.type "tuple",dict:=dd,data:=.seq items n,slots:=sl}/\R (.ok<|.ret<|bX s.heap.objs.size) {s with heap:=s.heap.push {cls:=.type "tuple",data:=.seq #[]},toks:=s.toks}):=
 .of_wp λprog w A R s h=>by obtain⟨hp,g,d,tk,os⟩:=s;obtain⟨hl,h⟩:=h;have f1:=lm;have f2:=dP;wp_walk;rw[T8 h0];wp_walk using dL hl;exact#[_,rfl,h]
def xc(l:aP)(items:Array ao)(n:Nat)(dd:Option aP)(sl:Array (Option ao))(x:Int)(u:rD)(h0:¬(x < -(2^63)||x>=2^63)=al)(hc:¬(items.isEmpty||x == 1)=al)(h1:¬(x<=0||items.isEmpty)=al)
  (h2:¬(items.size*x>(2^63-1) / 8))(h3:¬i8 (items.size*x)=al)(hsz:((az x.toNat items).foldl (·++·) #[]).size<=bx) :
  pI (dD.«tuple.__mul__» #[[.ref l,.int x u],[]]) (λ_ R s=>s.heap.get? l=aa {cls:=.type "tuple",dict:=dd,data:=.seq items n,slots:=sl}/\R (.ok<|.ret<|bX s.heap.objs.size) {s with heap:=s.heap.push {cls:=.type "tuple",data:=.seq ((az x.toNat items).foldl (·++·) #[])},toks:=s.toks}):=
 .of_wp λprog w A R s h=>by obtain⟨hp,g,d,tk,os⟩:=s;obtain⟨hl,h⟩:=h;have f1:=lm;have f2:=dP;wp_walk;rw[T8 h0];wp_walk using dL hl;rw[T8 h2];wp_walk using dL hl;exact#[_,rfl,h]
def Zdr(K:ap):R2:=λx y H Q=>∃a k xs,x=.ref a/\y=.int k/\SqT K H a xs/\(0<=k/\k<1000/\xs.length<=1000)/\
 ((xs=[]\/k=1)->Q (.ref a) H)/\(¬(xs=[]\/k=1)->∀p,H p=ae->Q (.ref p) (upd H p<|.tup (az k.toNat xs).flatten))
def Zc6 :OpR X (eW .Mult) (Zdr X.K):=by
 intro pq s Z H x y v u Q I rx ry h;obtain⟨a,k,xs,rfl,rfl,hx,⟨k0,k1,hz⟩,q1,q2⟩:=h;cases rx;obtain⟨t,rfl⟩:=ry;obtain⟨its,r,pt,_⟩:=I.tuple hx;have hl:=r.length;obtain⟨⟨cls,dd,data,sl⟩,ho,hc,n,hd⟩:=id pt;simp only at hc hd;subst hc hd;have h0:¬(aj (k < -(2^63))||decide (k>=2^63))=al:=by
  rw[T4 (by lia),T4 (by lia)];exact aI
 refine ku (by decide) #[_,ho,rfl] (λs'=>lL s' k t) Ja oZ iH GC F.slot_int_index.lookup
  (gy iH (lL s k t) oD (nR _ _) (U4 k t a its.toArray n dd sl) #[ho,rfl,#[_,ho,rfl],?_])
 have hnil:=r.nil_iff;by_cases c:xs=[]\/k=1
 .have c':(its.toArray.isEmpty||k == 1)=al:=by
   rcases c with c|c
   .rw[hnil.mpr c];rfl
   .rw[c];simp
  exact gy ln #[_,ho,rfl] kH (i9 _ _) (GV a its.toArray n dd sl k t h0 c') #[ho,#[.ref a,H,I,rfl,q1 c]]
 .have ne:=λz=>c (.inl<|hnil.mp z)
  have k1:k≠1:=λz=>c<|.inr z
  have c':¬(its.toArray.isEmpty||k == 1)=al:=by
   rw[beq_eq_false_iff_ne.mpr k1,Bool.or_false,iz];cases its with|nil=>exact T7 rfl ne|cons _ _=>exact aI
  have fin:∀arr:List ao,arr=(az k.toNat its).flatten->EP X pq Z Q (bX s.heap.objs.size) {s with heap:=s.heap.push {cls:=.type "tuple",data:=.seq arr.toArray}}:=λarr e=>by
   subst e;refine#[.ref s.heap.objs.size,_,I.laid (t':=s.toks) (λb ob q=>aw _ q) (aM _) ?_,rfl,q2 c _<|I.hok.fresh<|aM _]
   refine#[?_,_,r.rep k.toNat,iY _ _];rw[GW,cU];have:k.toNat*xs.length<=1000*1000:=kc (by lia) hz
   lia
  by_cases z:k=0
  .have h1:(aj (k<=0)||its.toArray.isEmpty)=al:=by rw[z];rfl
   refine gy ln #[_,ho,rfl] kH (i9 _ _) (GH a its.toArray n dd sl k t h0 c' h1) #[ho,?_];exact fin [] (by rw[z];rfl)
  .have h1:¬(aj (k<=0)||its.toArray.isEmpty)=al:=by
    rw[T4 (by lia),kR,iz]
    cases its with|nil=>exact T7 rfl ne|cons _ _=>exact aI
   have hm:(its.toArray.size:Int)*k<=1000*1000:=by
    rw[aB,<-hl];exact Int.mul_le_mul (by lia) (by lia) k0 (by lia)
   have joined:(az k.toNat its.toArray).foldl (·++·) #[]=(az k.toNat its).flatten.toArray:=by
    have:=VL its k.toNat [];rw[iI]at this;exact this
   have hsz:((az k.toNat its.toArray).foldl (·++·) #[]).size<=bx:=by
    rw[joined,aB,GW,cU,<-hl];have:k.toNat*xs.length<=1000*1000:=kc (by lia) hz
    lia
   refine gy ln #[_,ho,rfl] kH (i9 _ _) (xc a its.toArray n dd sl k t h0 c' h1 (by lia) (by
    unfold i8;rw[T4 (by rw[cU];lia)]
    exact aI) hsz) #[ho,?_]
   rw[joined];exact fin _ rfl
def ZdQ:R2:=λx y H Q=>∃a k xs,x=.ref a/\y=.int k/\H a=aa (.lst xs)/\(0<=k/\k<1000/\xs.length<=1000)/\∀p,H p=ae->Q (.ref p) (upd H p<|.lst (az k.toNat xs).flatten)
def ug :OpR X (eW .Mult) ZdQ:=by
 intro pq s Z H x y v u Q I rx ry h;obtain⟨a,k,xs,rfl,rfl,hx,⟨k0,k1,hz⟩,q2⟩:=h;cases rx;obtain⟨t,rfl⟩:=ry;obtain⟨its,r,pl,_⟩:=I.list<|SqL.of hx;have hl:=r.length;obtain⟨⟨cls,dd,data,sl⟩,n,ho,hc,hd2,hd⟩:=id pl;simp only at hc hd hd2;subst hc hd;have hm:k.toNat*its.length<=1000*1000:=kc (by lia) (by lia)
 have hm2:its.length*k.toNat<=1000*1000:=by rw[fD];exact hm
 refine ku (by decide) #[_,ho,rfl] (λs'=>lL s' k t) noFill_list_mul oZ iH repeat_list F.slot_int_index.lookup
  (gy iH (lL s k t) oD (nR _ _) (lm_int_rmul_list_any k t a its.toArray n dd sl) #[ho,rfl,#[_,ho,rfl],
   gy F.slot_list_mul #[_,ho,rfl] F.entry_list_mul (F.args_list_mul_2 _ _) (lm_list_mul_any a its.toArray n dd sl k t (by simp[dD.List.listFitsIndex];lia) (by rw[aB];lia)<|by rw[aB];simp[gg,bx];lia) #[ho,?_]])
 have joined:(az (if its.toArray.isEmpty=al then 0 else k.toNat) its.toArray).foldl (λx1 x2=>x1++x2) #[]=(az k.toNat its).flatten.toArray:=by
  have h0:=VL its k.toNat [];rw[iI]at h0;by_cases z:its=[]
  .subst z
   have e:∀m:Nat,(az m ([]:List ao)).flatten=[]:=λm=>by induction m with|zero=>rfl|succ m ih=>rw[bv,cw,ih];rfl
   rw[e];rfl
  .rw[T8 (by rw[iz];cases its with|nil=>exact T7 rfl z|cons _ _=>exact aI)]
   exact h0
 rw[joined];refine#[.ref s.heap.objs.size,_,I.laid (t':=s.toks) (λb ob q=>aw _ q) (aM _) ?_,rfl,q2 _<|I.hok.fresh<|aM _]
 refine#[?_,_,0,r.rep k.toNat,aO _ rfl];rw[GW,cU];rw[hl];lia
section
variable{X:Cx}{xw:Nat->Hp->Prop}{C:Calls}{e a b c:Expr}{i j k:E}{pos:iP}
variable{O:Mx}{H:Hp}{S:Zy}{x y:D}{v u:V}{Q:VK}{K:ap}
def ZdR(K:ap):R2:=λx y H Q=>rI0 (λi j=>.int<|i+j) x y H Q\/(ZdG K x y H Q\/(Zbr K x y H Q\/Zgd x y H Q))
def Zck:OpR X (eW .Add) (ZdR X.K):=Ze7.or<|Zda.or<|Zaw.or Zew
def Zfs(st:St3 K O S H)(rx:Rep O H x v)(ry:Rep O H y u)(h:End K xw Rep O H Q (Pv.Xi .add x y S)):ZdR K v u H Q:=by
 cases x with
 |int i=>cases y with|int j=>exact .inl #[i,j,rx.int',ry.int',End.ok h st<|ZS _]|_=>exact False.elim h
 |tup ds=>cases y with
  |tup es=>
   obtain⟨hl,h⟩:=End.guard h;obtain⟨p,xs,rfl,hp,r1⟩:=rx.tup';obtain⟨q,ys,rfl,hq,r2⟩:=ry.tup';have l1:=r1.length;have l2:=r2.length;by_cases z:xs=[]
   .subst z
    have e1:=bU.mp l1.symm;subst e1;exact .inr<|.inr<|.inl #[p,q,ys,rfl,rfl,SqT.of hp,SqT.of hq,End.ok h st<|XW hq r2]
   .refine .inr (.inl #[p,q,xs,ys,rfl,rfl,SqT.of hp,SqT.of hq,z,by rw[l1,l2,<-WS];exact hl,λz2=>?_,λ_=>h.newT st<|r1.append r2])
    subst z2;have e2:=bU.mp l2.symm;subst e2;refine End.ok h st ?_;rw[cF];exact XW hp r1
  |_=>exact False.elim h
 |lst ds=>cases y with
  |lst es=>
   obtain⟨hl,h⟩:=End.guard h;obtain⟨p,xs,rfl,hp,_,r1⟩:=rx.lst';obtain⟨q,ys,rfl,hq,_,r2⟩:=ry.lst';exact .inr<|.inr<|.inr #[p,q,xs,ys,rfl,rfl,hp,hq,by rw[r1.length,r2.length,<-WS];exact hl,h.newL st<|r1.append r2]
  |_=>exact False.elim h
 |_=>cases y<;>exact False.elim h
def ZeL(st:St3 K O S H)(rx:Rep O H x v)(ry:Rep O H y u)(h:End K xw Rep O H Q (Pv.Xi .sub x y S)):rI0 (λi j=>.int<|i-j) v u H Q:=by
 cases x with
 |int i=>cases y with|int j=>exact#[i,j,rx.int',ry.int',End.ok h st<|ZS _]|_=>exact False.elim h
 |_=>cases y<;>exact False.elim h
def ZdV(K:ap):R2:=λx y H Q=>rI (λi j=>Ev.fits i=al/\Ev.fits j=al) (λi j=>.int<|i*j) x y H Q\/(Zdr K x y H Q\/ZdQ x y H Q)
def Zcu:OpR X (eW .Mult) (ZdV X.K):=Zc2.or<|Zc6.or ug
def ZeC(st:St3 K O S H)(rx:Rep O H x v)(ry:Rep O H y u)(h:End K xw Rep O H Q (Pv.Xi .mul x y S)):ZdV K v u H Q:=by
 cases x with
 |int i=>cases y with
  |int j=>
   obtain⟨hc,h⟩:=End.guard h;exact .inl #[i,j,rx.int',ry.int',(aG _ _).mp hc,End.ok h st<|ZS _]
  |_=>exact False.elim h
 |tup ds=>cases y with
  |int k=>
   obtain⟨⟨h0,h1,h2⟩,h⟩:=End.guard h;obtain⟨p,xs,rfl,hp,r1⟩:=rx.tup';have l1:=r1.length;refine .inr <| .inl #[p,k,xs,rfl,ry.int',SqT.of hp,#[h0,h1,by rw[l1];exact h2],λz=>?_,λ_=>h.newT st<|r1.rep k.toNat]
   refine End.ok h st<|XW hp ?_;rcases z with z|z
   .subst z
    have e1:=bU.mp l1.symm;subst e1;have:∀m:Nat,(az m ([]:List D)).flatten=[]:=λm=>by induction m with|zero=>rfl|succ m ih=>rw[bv,cw,ih];rfl
    rw[this];exact Reps.nil
   .subst z
    show Reps O H (az 1 ds).flatten xs;rw[bv,List.replicate_zero,cw,List.flatten_nil,cF];exact r1
  |_=>exact False.elim h
 |lst ds=>cases y with
  |int k=>
   obtain⟨⟨h0,h1,h2⟩,h⟩:=End.guard h;obtain⟨p,xs,rfl,hp,_,r1⟩:=rx.lst';exact .inr<|.inr #[p,k,xs,rfl,ry.int',hp,#[h0,h1,by rw[r1.length];exact h2],h.newL st<|r1.rep k.toNat]
  |_=>exact False.elim h
 |_=>cases y<;>exact False.elim h
def ZcG(st:St3 K O S H)(rx:Rep O H x v)(ry:Rep O H y u)(h:End K xw Rep O H Q (Pv.Xi .fdiv x y S)):rI (λ_ j=>0<j/\j<Ev.big) (λi j=>.int<|i / j) v u H Q:=by
 cases x with
 |int i=>cases y with
  |int j=>
   obtain⟨hc,h⟩:=End.guard h;exact#[i,j,rx.int',ry.int',hc,End.ok h st<|ZS _]
  |_=>exact False.elim h
 |_=>cases y<;>exact False.elim h
def Zeh(st:St3 K O S H)(rx:Rep O H x v)(ry:Rep O H y u)(h:End K xw Rep O H Q (Pv.Xi .mod x y S)):rI (λ_ j=>0<j) (λi j=>.int<|i%j) v u H Q:=by
 cases x with
 |int i=>cases y with
  |int j=>
   obtain⟨hc,h⟩:=End.guard h;exact#[i,j,rx.int',ry.int',hc,End.ok h st<|ZS _]
  |_=>exact False.elim h
 |_=>cases y<;>exact False.elim h
theorem ZeB(st:St3 K O S H)(rx:Rep O H x v)(ry:Rep O H y u)(h:End K xw Rep O H Q (Pv.Xi .pow x y S)):rI CPow (λi j=>.int<|i^j.toNat) v u H Q:=by
 cases x with
 |int i=>cases y with
  |int j=>
   obtain⟨hc,h⟩:=End.guard h;exact#[i,j,rx.int',ry.int',#[hc.1,by lia,hc.2.2],End.ok h st<|ZS _]
  |_=>exact False.elim h
 |_=>cases y<;>exact False.elim h
def ZfD(ha:CE X xw C a i)(hb:CE X xw C b j):CE X xw C (.BinOp a .Add b pos) (.bin .add i j):=.mk <| PE.imp (UP Zck ha.h hb.h) (Wp λst rx ry h=>Zfs st rx ry h)
def Zeg(ha:CE X xw C a i)(hb:CE X xw C b j):CE X xw C (.BinOp a .Sub b pos) (.bin .sub i j):=.mk <| PE.imp (UP ZeD ha.h hb.h) (Wp λst rx ry h=>ZeL st rx ry h)
def Zfv(ha:CE X xw C a i)(hb:CE X xw C b j):CE X xw C (.BinOp a .Mult b pos) (.bin .mul i j):=.mk <| PE.imp (UP Zcu ha.h hb.h) (Wp λst rx ry h=>ZeC st rx ry h)
def Zcp(ha:CE X xw C a i)(hb:CE X xw C b j):CE X xw C (.BinOp a .FloorDiv b pos) (.bin .fdiv i j):=.mk <| PE.imp (UP Zaa ha.h hb.h) (Wp λst rx ry h=>ZcG st rx ry h)
def Zfq(ha:CE X xw C a i)(hb:CE X xw C b j):CE X xw C (.BinOp a .Mod b pos) (.bin .mod i j):=.mk <| PE.imp (UP Zes ha.h hb.h) (Wp λst rx ry h=>Zeh st rx ry h)
def Zej(ha:CE X xw C a i)(hb:CE X xw C b j):CE X xw C (.BinOp a .Pow b pos) (.bin .pow i j):=.mk <| PE.imp (UP Zfb ha.h hb.h) (Wp λst rx ry h=>ZeB st rx ry h)
def ZfE(ha:CE X xw C a i):CE X xw C (.UnaryOp .USub a pos) (.neg i):=.mk <| PE.imp (ZfK Zea ha.h)<|by
 rintro Z H Q ⟨O,l,S,st,lr,h⟩;refine#[O,l,S,st,lr,End.bind (h) λx S1 ρ1 H1 v f1 st1 r1 h1=>?_]
 cases x with|int n=>exact#[n,r1.int',End.ok h1 st1<|ZS _]|_=>exact False.elim h1
def zj(st:St3 K O S H)(rx:Rep O H x v)(h:Pv.Zu x=aa n):Zdi K v H n:=by
 cases x with
 |non=>rw[rx.non'];exact(ak h).symm
 |bl b=>rw[rx.bl'];exact(ak h).symm
 |int i=>
  rw[rx.int'];have h':=ak h;rw[<-h'];by_cases z:i=0
  .subst z;rfl
  .rw[T5 z];exact(bne_iff_ne.mpr z).symm
 |tup ds=>
  obtain⟨p,xs,rfl,hp,r⟩:=rx.tup';have h':=ak h;refine .inr<|.inl #[xs,SqT.of hp,?_];rw[<-h'];have:=r.length;cases ds<;>cases xs<;>first|rfl|(simp at this)
 |lst ds=>
  obtain⟨p,xs,rfl,hp,_,r⟩:=rx.lst';refine .inl #[xs,SqL.of hp,?_];rw[<-ak h];have:=r.length;cases ds<;>cases xs<;>first|rfl|(simp at this)
 |_=>cases h
def Ze6(ha:CE X xw C a i)(he:∀whole,isTrue a X.env whole=(do let v <-whole;kD a.pos;fV [v] (truthy v))):CT X xw C a i:=.mk <|
 PT.imp (Zbi ha.h he)<|by
  rintro Z H Q ⟨O,l,S,st,lr,h⟩;refine#[O,l,S,st,lr,End.bind (show End X.K xw Uw O H Q ((Pv.pv C i l S).bind λx S=>Pv.po (Pv.Zu x) S)from h) λx S1 ρ1 H1 v f1 st1 r1 h1=>?_]
  cases q:Pv.Zu x with|none=>rw[q]at h1;exact False.elim h1|some n=>rw[q]at h1;exact#[n,zj st1 r1 q,End.ok h1 st1 rfl]
def ZeU(ha:CT X xw C a i):CT X xw C (.UnaryOp .Not a pos) (.not i):=.mk <| PT.imp (ZfA ha.h)<|by
 rintro Z H Q ⟨O,l,S,st,lr,h⟩;refine#[O,l,S,st,lr,?_];have h':End X.K xw Uw O H Q (((Pv.pv C i l S).bind λx S=>(Pv.po (Pv.Zu x) S).bind λb S=>.ok (.bl !b) S).bind λx S=>Pv.po (Pv.Zu x) S):=h
 show End X.K xw Uw O H (λc H1=>Q (!c) H1) ((Pv.pv C i l S).bind λx S=>Pv.po (Pv.Zu x) S)
 cases q:Pv.pv C i l S with
 |no=>rw[q]at h';exact h'
 |ex c S1=>rw[q]at h';exact h'
 |ok x S1=>
  rw[q]at h';show End X.K xw Uw O H _ (Pv.po (Pv.Zu x) S1);have h2:End X.K xw Uw O H Q (((Pv.po (Pv.Zu x) S1).bind λb S=>.ok (.bl !b) S).bind λx S=>Pv.po (Pv.Zu x) S):=h'
  cases t:Pv.Zu x with
  |none=>rw[t]at h2;exact h2
  |some n=>
   rw[t]at h2;intro ρ1 H1 w f1 st1 e;exact h2 ρ1 H1 (!w) f1 st1 (by rw[<-(e)];rfl)
def Zel(ha:CE X xw C a i):CE X xw C (.UnaryOp .Not a pos) (.not i):=.mk <| by
 intro pq s Z H Q I hq;obtain⟨O,l,S,st,lr,h⟩:=hq;have h':=h
 refine UnaryOp_<|thn (ha.h pq s Z H (λv H1=>∃k,Zdi X.K v H1 k/\Q (.bl !k) H1) I #[O,l,S,st,lr,End.bind h' λx S1 ρ1 H1 v f1 st1 r1 h1=>?_]) λv s1 #[x,H1,I1,r1,q1]=>?_
 .cases q:Pv.Zu x with|none=>rw[q]at h1;exact False.elim h1|some n=>rw[q]at h1;exact#[n,zj st1 r1 q,End.ok h1 st1<|Ym _]
 .obtain⟨k,tk,q2⟩:=q1
  refine not_of<|thn (Zbj pq s1 Z H1 x v (λk' H'=>Q (.bl !k') H') I1 r1 #[k,tk,q2]) λk' s2 #[H2,I2,q3]=>?_
  exact#[.bl<|!k',H2,I2,rfl,q3]
def Zd9{rest:List Expr}(ha:CE X xw C a i)(hb:CE X xw C (.BoolOp .And (b::rest) pos) j):CE X xw C (.BoolOp .And (a::b::rest) pos) (.and i j):=.mk <| PE.imp (Zd7 ha.h hb.h)<|by
 rintro Z H Q ⟨O,l,S,st,lr,h⟩;refine#[O,l,S,st,lr,End.bind (h) λx S1 ρ1 H1 v f1 st1 r1 h1=>?_]
 cases x with
 |bl c=>
  refine#[c,r1.bl',?_];cases c with|true=>exact#[ρ1,l,S1,st1,lr.mono f1,h1]|false=>exact End.ok h1 st1<|Ym _
 |_=>exact False.elim h1
def Ze9{op}(ha:CE X xw C a i):CE X xw C (.BoolOp op [a] pos) i:=.mk <| ZeI ha.h
def Zev(hc:CT X xw C c k)(ha:CE X xw C a i)(hb:CE X xw C b j):CE X xw C (.IfExp c a b pos) (.ite k i j):=.mk <| PE.imp (ZbB hc.h ha.h hb.h)<|by
 rintro Z H Q ⟨O,l,S,st,lr,h⟩;have h':End X.K xw Rep O H Q ((Pv.pv C k l S).bind λx S=>(Pv.po (Pv.Zu x) S).bind λc S=>if c then Pv.pv C i l S else Pv.pv C j l S):=h
 refine#[O,l,S,st,lr,?_];show End X.K xw Uw O H _ ((Pv.pv C k l S).bind λx S=>Pv.po (Pv.Zu x) S)
 cases q:Pv.pv C k l S with
 |no=>rw[q]at h';exact h'
 |ex c S1=>rw[q]at h';exact h'
 |ok x S1=>
  rw[q]at h';have h2:End X.K xw Rep O H Q ((Pv.po (Pv.Zu x) S1).bind λc S=>if c then Pv.pv C i l S else Pv.pv C j l S):=h'
  show End X.K xw Uw O H _ (Pv.po (Pv.Zu x) S1);cases t:Pv.Zu x with
  |none=>rw[t]at h2;exact h2
  |some n=>
   rw[t]at h2;have h3:End X.K xw Rep O H Q (if n then Pv.pv C i l S1 else Pv.pv C j l S1):=h2
   intro ρ1 H1 w f1 st1 e;have e':n=w:=e;subst e';cases n with|true=>exact#[ρ1,l,S1,st1,lr.mono f1,h3.mono f1]|false=>exact#[ρ1,l,S1,st1,lr.mono f1,h3.mono f1]
structure CWh(X:Cx)(xw:Nat->Hp->Prop)(C:Calls)(e:Expr)(i:E):Prop where
 h:PW X e (tB3 X xw<|Pv.Xz C i)
def CWh.ct(h:CWh X xw C e i):CT X xw C e i:=.mk <| PW.pt h.h
def PW.imp(h:PW X e t)(k:∀Z H Q,t' Z H Q->t Z H Q):PW X e t':=λwh pq s Z H Q I q=>h wh pq s Z H Q I<|k Z H Q q
def ZfI(ha:CT X xw C a i):CWh X xw C (.BoolOp .Or [a] pos) i:=.mk <| Zen ha.h
def Zdz{rest:List Expr}(ha:CT X xw C a i)(hb:CWh X xw C (.BoolOp .Or (b::rest) pos) j):CWh X xw C (.BoolOp .Or (a::b::rest) pos) (.or i j):=.mk <| PW.imp (Zf3 ha.h hb.h)<|by
 rintro Z H Q ⟨O,l,S,st,lr,h⟩;have h':End X.K xw Uw O H Q (((Pv.pv C i l S).bind λx S=>match x with|.bl c=>if c then .ok (.bl al) S else Pv.pv C j l S|_=>.no).bind λx S=>Pv.po (Pv.Zu x) S):=h
 refine#[O,l,S,st,lr,?_];show End X.K xw Uw O H _ ((Pv.pv C i l S).bind λx S=>Pv.po (Pv.Zu x) S)
 cases q:Pv.pv C i l S with
 |no=>rw[q]at h';exact h'
 |ex c S1=>rw[q]at h';exact h'
 |ok x S1=>
  rw[q]at h';cases x with
  |bl n=>
   intro ρ1 H1 w f1 st1 e;have e':n=w:=e;subst e';cases n with|false=>exact#[ρ1,l,S1,st1,lr.mono f1,End.mono f1 (h')]|true=>exact(h') ρ1 H1 al f1 st1 rfl
  |_=>exact False.elim h'
end
theorem U8{f:D->D->Option Bool}(hf:∀x y v b,Rep O H x v->Rep O H y v->f x y=aa b->b=al):∀{ds es:List D}{xs:List V}{b:Bool},Reps O H ds xs->Reps O H es xs->Pv.YE f ds es=aa b->b=al
 |[],[],_,b,_,_,h=>(ak h).symm
 |d::ds,e::es,_,b,r1,r2,h=>by
  obtain⟨v,vs,rfl,a1,b1⟩:=r1;obtain⟨v',vs',e',a2,b2⟩:=r2;cases e';unfold Pv.YE at h;cases q1:f d e with
  |none=>rw[q1]at h;cases h
  |some p=>
   cases q2:Pv.YE f ds es with
   |none=>rw[q1,q2]at h;cases h
   |some q=>
    rw[q1,q2]at h;have h':=ak h;rw[<-h',hf d e v p a1 a2 q1,U8 hf b1 b2 q2];rfl
 |[],_::_,_,b,r1,r2,h=>by
  have l1:=r1.length;have l2:=r2.length;rw[l1]at l2;simp at l2
 |_::_,[],_,b,r1,r2,h=>by
  have l1:=r1.length;have l2:=r2.length;rw[l1]at l2;simp at l2
def Rep.sc{x y:D}{v:V}(r1:Rep O H x v)(r2:Rep O H y v)(h:∀a,v≠.ref a):x=y:=by
 cases x<;>cases y<;>unfold Rep at r1 r2<;>subst_vars<;>first
  |rfl
  |(cases r2;rfl)
  |(cases r1;rfl)
  |(obtain⟨a,z,_⟩:=r1;exact T7 z<|h a)
  |(obtain⟨a,z,_⟩:=r2;exact T7 z<|h a)
  |(obtain⟨a,_,z,_⟩:=r1;exact T7 z<|h a)
  |(obtain⟨a,_,z,_⟩:=r2;exact T7 z<|h a)
  |cases r1
  |cases r2
def j7{k:Nat}{x:D}{v:V}{b:Bool}(r:Rep O H x v)(hv:∀a,v≠.ref a)(h:Pv.eqV (k+1) x x=aa b):b=al:=by
 cases x<;>first
  |exact(ak h).symm
  |(rw[<-ak h];exact T5 rfl)
  |exact Ev.nos h
  |(obtain⟨a,_,z,_⟩:=r.tup';exact T7 z<|hv a)
  |(obtain⟨a,_,z,_⟩:=r.lst';exact T7 z<|hv a)
theorem Rep.ref{x:D}{p:aP}(r:Rep O H x (.ref p)){y:D}{k:Nat}{b:Bool}(h:Pv.eqV (k+1) x y=aa b\/Pv.eqV (k+1) y x=aa b):(∃ds es,x=.tup ds/\y=.tup es)\/∃ds es,x=.lst ds/\y=.lst es:=by
 cases x with
 |tup ds=>cases y<;>first|exact .inl #[_,_,rfl,rfl]|(rcases h with h|h<;>exact Ev.nos h)
 |lst ds=>cases y<;>first|exact .inr #[_,_,rfl,rfl]|(rcases h with h|h<;>exact Ev.nos h)
 |non=>cases r.non'
 |bl _=>cases r.bl'
 |int _=>cases r.int'
 |str _=>cases r.str'
 |_=>cases y<;>rcases h with h|h<;>exact Ev.nos h
theorem Vs:∀(k:Nat)(x y:D)(v:V)(b:Bool),Rep O H x v->Rep O H y v->Pv.eqV k x y=aa b->b=al
 |0,_,_,_,_,_,_,h=>by cases h
 |k+1,x,y,v,b,r1,r2,h=>by
  by_cases hv:∃a,v=.ref a
  .obtain⟨p,rfl⟩:=hv
   rcases r1.ref (.inl h)with⟨ds,es,rfl,rfl⟩|⟨ds,es,rfl,rfl⟩
   .obtain⟨_,_,z,e1,q1⟩:=r1.tup'
    cases z;obtain⟨_,_,z,e2,q2⟩:=r2.tup';cases z;rw[e1]at e2;cases e2;exact U8 (λx y v b=>Vs k x y v b) q1 q2 h
   .obtain⟨_,_,z,e1,_,q1⟩:=r1.lst'
    cases z;obtain⟨_,_,z,e2,_,q2⟩:=r2.lst';cases z;rw[e1]at e2;cases e2;have h:(if ds.length=es.length then Pv.YE (Pv.eqV k) ds es else aa am)=aa b:=h
    rw[T9<|by rw[<-q1.length,q2.length]]at h
    exact U8 (λx y v b=>Vs k x y v b) q1 q2 h
  .have hv:=λa z=>hv #[a,z]
   cases r1.sc r2 hv;exact j7 r1 hv h
noncomputable def eAt(f:D->D->Option Bool)(ds es:List D)(j:Nat):Bool:=match ds[j]?,es[j]? with
 |some x,aa y=>(f x y).getD am
 |_,_=>am
theorem Xr{f:D->D->Option Bool}:∀{ds es:List D}{b:Bool},Pv.YE f ds es=aa b->
  ((aE<|p5 ds.length es.length).all (eAt f ds es)&&ds.length == es.length)=b/\∀j x y,ds[j]?=aa x->es[j]?=aa y->f x y=aa (eAt f ds es j)
 |[],[],b,h=>#[ak h,λj x y e=>by simp at e]
 |[],_::es,b,h=>#[by rw[<-ak h];simp,λj x y e=>by simp at e]
 |_::ds,[],b,h=>#[by rw[<-ak h];simp,λj x y _ e=>by simp at e]
 |d::ds,e::es,b,h=>by
  unfold Pv.YE at h;cases q1:f d e with
  |none=>rw[q1]at h;cases h
  |some p=>
   cases q2:Pv.YE f ds es with
   |none=>rw[q1,q2]at h;cases h
   |some q=>
    rw[q1,q2]at h;obtain⟨ih,ih2⟩:=Xr q2;have h':=ak h;have e0:eAt f (d::ds) (e::es) 0=p:=by simp[eAt,q1]
    have es':∀j,eAt f (d::ds) (e::es) (j+1)=eAt f ds es j:=λj=>by simp[eAt]
    refine#[?_,λj x y hx hy=>?_]
    .rw[<-h',<-ih,aF,aF,Nat.succ_min_succ,lN,iw,e0,iU]
     have:((aE<|p5 ds.length es.length).all<|eAt f (d::ds) (e::es)∘Nat.succ)=(aE<|p5 ds.length es.length).all (eAt f ds es):=by
      exact congrArg (λg=>(aE<|p5 ds.length es.length).all g)<|funext λj=>es' j
     rw[this,Bool.and_assoc]
     congr 2
     simp
    .cases j with
     |zero=>
      simp at hx hy;subst hx hy;rw[e0];exact q1
     |succ j=>
      rw[es' j];exact ih2 j x y (by simpa using hx) (by simpa using hy)
def in1_units{A:cn}{k:Nat}(h:A.units+(k+1)<dA):A.in1.units+k<dA:=by
 have e:A.in1.units<=A.units+1:=by
  first|exact aM _|(simp[cn.in1,cn.units]<;>lia)
 lia
theorem xS(I:Inv X pq Z H s):∀(k:Nat)(A:cn)(x y:D)(v u:V)(vv uu:ao)(b:Bool),A.units+k<dA->Rep O H x v->Rep O H y u->ZD v vv->ZD u uu->Pv.eqV k x y=aa b->im A s vv uu b
 |0,_,_,_,_,_,_,_,_,_,_,_,_,_,h=>by cases h
 |k+1,A,x,y,v,u,vv,uu,b,hu,r1,r2,e1,e2,h=>by
  have flat:vx v=al->vx u=al->eqV v u=b->im A s vv uu b:=λf1 f2 e=>by rw[<-e];exact Ze2 e1 e2 f1 f2
  have bb:∀{a c:Bool},(a == c)=aj (a=c):=λ{a c}=>by cases a<;>cases c<;>rfl
  have ii:∀{a c:Int},(a == c)=aj (a=c):=λ{a c}=>by rw[bN];simp
  have ss:∀{a c:bI},(a == c)=aj (a=c):=λ{a c}=>by rw[bN];simp
  have item:∀{ds es:List D}{xs ys:List V}(j:Nat)(its its2:List ao)(j1:j<its.toArray.size)(j2:j<its2.toArray.size),its.toArray.size=ds.length->its2.toArray.size=es.length->Vals xs its->Vals ys its2->Reps O H ds xs->Reps O H es ys->(∀j x y,ds[j]?=aa x->es[j]?=aa y->Pv.eqV k x y=aa (eAt (Pv.eqV k) ds es j))->im A.in1 s its.toArray[j] its2.toArray[j] (eAt (Pv.eqV k) ds es j):=λ{ds es xs ys} j its its2 j1 j2 n1 n2 v1 v2 q1 q2 ea=>by
   have d1:ds[j]?=aa ds[j]:=ag (by lia)
   have d2:es[j]?=aa es[j]:=ag (by lia)
   obtain⟨w1,g1,z1⟩:=q1.get d1;obtain⟨w2,g2,z2⟩:=q2.get d2;obtain⟨m1,k1,y1⟩:=v1.get g1;obtain⟨m2,k2,y2⟩:=v2.get g2;have o1:its.toArray[j]=m1:=by simpa using(a9.mp k1).2
   have o2:its2.toArray[j]=m2:=by simpa using(a9.mp k2).2
   rw[o1,o2];exact xS I k A.in1 ds[j] es[j] w1 w2 m1 m2 _ (in1_units hu) z1 z2 y1 y2<|ea j _ _ d1 d2
  cases x with
  |non=>
   cases r1.non';cases y with|non=>cases r2.non';exact flat rfl rfl<|ak h|bl _=>cases r2.bl';exact flat rfl rfl<|ak h|int _=>cases r2.int';exact flat rfl rfl<|ak h|str _=>cases r2.str';exact flat rfl rfl<|ak h|_=>exact Ev.nos h
  |bl i=>
   cases r1.bl';cases y with|non=>cases r2.non';exact flat rfl rfl<|ak h|bl _=>cases r2.bl';exact flat rfl rfl<|bb.trans<|ak h|int _=>cases r2.int';exact flat rfl rfl<|ii.trans<|ak h|str _=>cases r2.str';exact flat rfl rfl<|ak h|_=>exact Ev.nos h
  |int i=>
   cases r1.int';cases y with|non=>cases r2.non';exact flat rfl rfl<|ak h|bl _=>cases r2.bl';exact flat rfl rfl<|ii.trans<|ak h|int _=>cases r2.int';exact flat rfl rfl<|ii.trans<|ak h|str _=>cases r2.str';exact flat rfl rfl<|ak h|_=>exact Ev.nos h
  |str i=>
   cases r1.str';cases y with|non=>cases r2.non';exact flat rfl rfl<|ak h|bl _=>cases r2.bl';exact flat rfl rfl<|ak h|int _=>cases r2.int';exact flat rfl rfl<|ak h|str _=>cases r2.str';exact flat rfl rfl<|ss.trans<|ak h|_=>exact Ev.nos h
  |tup ds=>
   obtain⟨p,xs,rfl,hp,q1⟩:=r1.tup';cases e1;cases y with
   |tup es=>
    obtain⟨p',ys,rfl,hp',q2⟩:=r2.tup';cases e2;by_cases hpp:p=p'
    .subst hpp
     rw[Vs (k+1) (.tup ds) (.tup es) (.ref p) b r1 r2 h];exact iG _
    .obtain⟨its,v1,t1,_⟩:=I.tuple (SqT.of hp)
     obtain⟨its2,v2,t2,_⟩:=I.tuple<|SqT.of hp';have h':=h;obtain⟨ev,ea⟩:=Xr h';have n1:its.toArray.size=ds.length:=by rw[aB,<-v1.length,q1.length]
     have n2:its2.toArray.size=es.length:=by rw[aB,<-v2.length,q2.length]
     refine ke hpp ?_;rw[<-ev,<-n1,<-n2];exact kI t1 t2 (by lia) λj j1 j2=>item j its its2 j1 j2 n1 n2 v1 v2 q1 q2 ea
   |_=>exact Ev.nos h
  |lst ds=>
   obtain⟨p,xs,rfl,u1,_,q1⟩:=r1.lst';cases e1;cases y with
   |lst es=>
    obtain⟨p',ys,rfl,u2,_,q2⟩:=r2.lst';cases e2;by_cases hpp:p=p'
    .subst hpp
     rw[Vs (k+1) (.lst ds) (.lst es) (.ref p) b r1 r2 h];exact iG _
    .obtain⟨its,v1,p1,_⟩:=I.list (SqL.of u1)
     obtain⟨its2,v2,p2,_⟩:=I.list<|SqL.of u2;have n1:its.toArray.size=ds.length:=by rw[aB,<-v1.length,q1.length]
     have n2:its2.toArray.size=es.length:=by rw[aB,<-v2.length,q2.length]
     refine ke hpp ?_;have h2:(if ds.length=es.length then Pv.YE (Pv.eqV k) ds es else aa am)=aa b:=h
     by_cases hl:ds.length=es.length
     .rw[T9 hl]at h2
      obtain⟨ev,ea⟩:=Xr h2;have ev':(aE ds.length).all (eAt (Pv.eqV k) ds es)=b:=by
       rw[<-ev,<-hl,nS];simp
      rw[<-ev',<-n1];exact oE p1.isList p2.isList (by lia) (by lia) λj j1 j2=>item j its its2 j1 j2 n1 n2 v1 v2 q1 q2 ea
     .rw[T8 hl]at h2
      rw[<-ak h2];exact kS p1.isList p2.isList (bne_iff_ne.mpr<|by lia) (by lia)
   |_=>exact Ev.nos h
  |_=>exact Ev.nos h
def Vk(I:Inv X pq Z H s){k:Nat}{A:cn}{ds es:List D}{xs ys:List V}{its its2:List ao}{b:Bool}(hu:A.units+(k+1)<dA)
  (q1:Reps O H ds xs)(q2:Reps O H es ys)(v1:Vals xs its)(v2:Vals ys its2)(h:Pv.YE (Pv.eqV k) ds es=aa b) :
  ∀j (h1:j<its.toArray.size) (h2:j<its2.toArray.size),im A.in1 s its.toArray[j] its2.toArray[j] (eAt (Pv.eqV k) ds es j):=λj j1 j2=>by
 obtain⟨_,ea⟩:=Xr h;have n1:its.toArray.size=ds.length:=by rw[aB,<-v1.length,q1.length]
 have n2:its2.toArray.size=es.length:=by rw[aB,<-v2.length,q2.length]
 have d1:ds[j]?=aa ds[j]:=ag (by lia)
 have d2:es[j]?=aa es[j]:=ag (by lia)
 obtain⟨w1,g1,z1⟩:=q1.get d1;obtain⟨w2,g2,z2⟩:=q2.get d2;obtain⟨m1,k1,y1⟩:=v1.get g1;obtain⟨m2,k2,y2⟩:=v2.get g2;have o1:its.toArray[j]=m1:=by
  have:=a9.mp k1
  simpa using this.2
 have o2:its2.toArray[j]=m2:=by
  have:=a9.mp k2
  simpa using this.2
 rw[o1,o2];exact xS I k A.in1 ds[j] es[j] w1 w2 m1 m2 _ (in1_units hu) z1 z2 y1 y2<|ea j _ _ d1 d2
def Zce(K:ap)(xw:Nat->Hp->Prop)(op:Cop):R2:=λv u H Q=>∃O S x y,St3 K O S H/\Rep O H x v/\Rep O H y u/\End K xw Rep O H Q (Pv.po (Pv.YU op x y) S)
def ZeO :∀Z H Q,tE X xw (Pv.pv C<|.cmp op i j) Z H Q->tOp (Zce X.K xw op) (tE X xw<|Pv.pv C i) (tE X xw<|Pv.pv C j) Z H Q:=λZ H Q h=>
 Wp (λ{O H S x y v u Q} st rx ry h=>#[O,S,x,y,st,rx,ry,h]) Z H Q h
def dI{a c:Int}:(a == c)=aj (a=c):=by rw[bN];simp
def wU{H:Hp}{O:Mx}{k:Nat}{x y:D}{v u:V}{b:Bool}(rx:Rep O H x v)(ry:Rep O H y u)(hb:Pv.eqV (k+1) x y=aa b):(scal v u=al/\aj (v=u)=b)\/(∃i j,v=.bl i/\u=.int j/\aj (Ev.b2i i=j)=b)\/(∃i j,v=.int i/\u=.bl j/\aj (i=Ev.b2i j)=b)\/(∃ds es,x=.tup ds/\y=.tup es/\Pv.YE (Pv.eqV k) ds es=aa b)\/∃ds es,x=.lst ds/\y=.lst es/\(if ds.length=es.length then Pv.YE (Pv.eqV k) ds es else aa am)=aa b:=by
 cases x with
 |non=>cases rx.non';cases y with|non=>cases ry.non';exact .inl #[rfl,ak hb▸by simp]|bl _=>cases ry.bl';exact .inl #[rfl,ak hb]|int _=>cases ry.int';exact .inl #[rfl,ak hb]|str _=>cases ry.str';exact .inl #[rfl,ak hb]|_=>exact Ev.nos hb
 |bl i=>cases rx.bl';cases y with|non=>cases ry.non';exact .inl #[rfl,ak hb]|bl j=>cases ry.bl';exact .inl #[rfl,ak hb▸by simp]|int j=>cases ry.int';exact .inr<|.inl #[i,j,rfl,rfl,ak hb]|str _=>cases ry.str';exact .inl #[rfl,ak hb]|_=>exact Ev.nos hb
 |int i=>cases rx.int';cases y with|non=>cases ry.non';exact .inl #[rfl,ak hb]|bl j=>cases ry.bl';exact .inr<|.inr<|.inl #[i,j,rfl,rfl,ak hb]|int _=>cases ry.int';exact .inl #[rfl,ak hb▸by simp]|str _=>cases ry.str';exact .inl #[rfl,ak hb]|_=>exact Ev.nos hb
 |str i=>cases rx.str';cases y with|non=>cases ry.non';exact .inl #[rfl,ak hb]|bl _=>cases ry.bl';exact .inl #[rfl,ak hb]|int _=>cases ry.int';exact .inl #[rfl,ak hb]|str _=>cases ry.str';exact .inl #[rfl,ak hb▸by simp]|_=>exact Ev.nos hb
 |tup ds=>cases y with|tup es=>exact .inr<|.inr<|.inr<|.inl #[ds,es,rfl,rfl,hb]|_=>exact Ev.nos hb
 |lst ds=>cases y with|lst es=>exact .inr<|.inr<|.inr<|.inr #[ds,es,rfl,rfl,hb]|_=>exact Ev.nos hb
 |_=>exact Ev.nos hb
def Zeo(hu:X.A.units+6<dA):OpR X (cr .Eq) (Zce X.K xw .eq):=by
 intro pq s Z H v u vv uu Q I e1 e2 h;obtain⟨O,S,x,y,st,rx,ry,h⟩:=h;obtain⟨b,hb,h1⟩:=End.map h;have q:=End.ok h1 st<|Ym b;rcases wU rx ry hb with⟨hs,e⟩|⟨i,j,rfl,rfl,e⟩|⟨i,j,rfl,rfl,e⟩|⟨ds,es,rfl,rfl,hb'⟩|⟨ds,es,rfl,rfl,h2⟩
 .exact ZfX pq s Z H v u vv uu Q I e1 e2 #[hs,by rw[e];exact q]
 .cases e1
  obtain⟨t,rfl⟩:=e2;refine EqBoolInt.eq_bool_int #[.bl b,H,I,?_,q];show dq ((if i then 1 else 0) == j)=dq b
  rw[dI];exact congrArg dq e
 .cases e2
  obtain⟨t,rfl⟩:=e1;refine EqBoolInt.eq_int_bool #[.bl b,H,I,?_,q];show dq (i == (if j then 1 else 0))=dq b
  rw[dI];exact congrArg dq e
 ·
  obtain⟨p,xs,rfl,hp,q1⟩:=rx.tup';cases e1;obtain⟨p',ys,rfl,hp',q2⟩:=ry.tup';cases e2;obtain⟨its,v1,t1,_⟩:=I.tuple<|SqT.of hp;obtain⟨its2,v2,t2,_⟩:=I.tuple<|SqT.of hp';obtain⟨ev,_⟩:=Xr hb';have n1:its.toArray.size=ds.length:=by rw[aB,<-v1.length,q1.length]
  have n2:its2.toArray.size=es.length:=by rw[aB,<-v2.length,q2.length]
  refine kI t1 t2 (by lia) (Vk I hu q1 q2 v1 v2 hb') X.prog X.w X.xe _ ?_
  rw[n1,n2,ev];exact#[.bl b,H,I,rfl,q]
 ·
  obtain⟨p,xs,rfl,u1,_,q1⟩:=rx.lst';cases e1;obtain⟨p',ys,rfl,u2,_,q2⟩:=ry.lst';cases e2;obtain⟨its,v1,p1,_⟩:=I.list<|SqL.of u1;obtain⟨its2,v2,p2,_⟩:=I.list<|SqL.of u2;have n1:its.toArray.size=ds.length:=by rw[aB,<-v1.length,q1.length]
  have n2:its2.toArray.size=es.length:=by rw[aB,<-v2.length,q2.length]
  by_cases hl:ds.length=es.length
  .rw[T9 hl]at h2
   obtain⟨ev,_⟩:=Xr h2;have ev':(aE ds.length).all (eAt (Pv.eqV 5) ds es)=b:=by
    rw[<-ev,<-hl,nS];simp
   refine oE p1.isList p2.isList (by lia) (by lia) (Vk I hu q1 q2 v1 v2 h2) X.prog X.w X.xe _ ?_
   rw[n1,ev'];exact#[.bl b,H,I,rfl,q]
  .rw[T8 hl]at h2
   refine kS p1.isList p2.isList (bne_iff_ne.mpr<|by lia) (by lia) X.prog X.w X.xe _ ?_
   exact#[.bl b,H,I,congrArg dq<|ak h2,q]
def Zfl(hu:X.A.units+6<dA):OpR X (cr .NotEq) (Zce X.K xw .ne):=by
 intro pq s Z H v u vv uu Q I e1 e2 h;obtain⟨O,S,x,y,st,rx,ry,h⟩:=h;obtain⟨b,hb,h1⟩:=End.map h;have q:=End.ok h1 st<|Ym _;rcases wU rx ry hb with⟨hs,e⟩|⟨i,j,rfl,rfl,e⟩|⟨i,j,rfl,rfl,e⟩|⟨ds,es,rfl,rfl,hb'⟩|⟨ds,es,rfl,rfl,h2⟩
 .exact ZgC pq s Z H v u vv uu Q I e1 e2 #[hs,by rw[e];exact q]
 .cases e1
  obtain⟨t,rfl⟩:=e2;refine EqBoolInt.ne_bool_int #[.bl !b,H,I,?_,q];show dq (!((if i then 1 else 0) == j))=dq !b
  rw[dI];exact congrArg (λz=>dq !z) e
 .cases e2
  obtain⟨t,rfl⟩:=e1;refine EqBoolInt.ne_int_bool #[.bl !b,H,I,?_,q];show dq (!(i == (if j then 1 else 0)))=dq !b
  rw[dI];exact congrArg (λz=>dq !z) e
 ·
  obtain⟨p,xs,rfl,hp,q1⟩:=rx.tup';cases e1;obtain⟨p',ys,rfl,hp',q2⟩:=ry.tup';cases e2;obtain⟨its,v1,t1,_⟩:=I.tuple<|SqT.of hp;obtain⟨its2,v2,t2,_⟩:=I.tuple<|SqT.of hp';obtain⟨ev,_⟩:=Xr hb';have n1:its.toArray.size=ds.length:=by rw[aB,<-v1.length,q1.length]
  have n2:its2.toArray.size=es.length:=by rw[aB,<-v2.length,q2.length]
  refine SeqAt.RcNeAt.tuples t1 t2 (by lia) (Vk I hu q1 q2 v1 v2 hb') X.prog X.w X.xe _ ?_
  rw[n1,n2,ev];exact#[.bl !b,H,I,rfl,q]
 ·
  obtain⟨p,xs,rfl,u1,_,q1⟩:=rx.lst';cases e1;obtain⟨p',ys,rfl,u2,_,q2⟩:=ry.lst';cases e2;obtain⟨its,v1,p1,_⟩:=I.list<|SqL.of u1;obtain⟨its2,v2,p2,_⟩:=I.list<|SqL.of u2;have n1:its.toArray.size=ds.length:=by rw[aB,<-v1.length,q1.length]
  have n2:its2.toArray.size=es.length:=by rw[aB,<-v2.length,q2.length]
  by_cases hl:ds.length=es.length
  .rw[T9 hl]at h2
   obtain⟨ev,_⟩:=Xr h2;have ev':(aE ds.length).all (eAt (Pv.eqV 5) ds es)=b:=by
    rw[<-ev,<-hl,nS];simp
   refine SeqAt.RcNeAt.lists p1.isList p2.isList (by lia) (by lia) (Vk I hu q1 q2 v1 v2 h2) X.prog X.w X.xe _ ?_
   rw[n1,ev'];exact#[.bl !b,H,I,rfl,q]
  .rw[T8 hl]at h2
   refine SeqAt.RcNeAt.lists_lengths p1.isList p2.isList (bne_iff_ne.mpr<|by lia) (by lia) X.prog X.w X.xe _ ?_
   exact#[.bl !b,H,I,congrArg (λz=>dq !z)<|ak h2,q]
theorem J9(hf:∀x x' y v b b',Rep O H x v->Rep O H x' v->f x y=aa b->f x' y=aa b'->b=b') :
  ∀{ds ds' es:List D}{xs:List V}{b b':Bool},Reps O H ds xs->Reps O H ds' xs->Pv.YE f ds es=aa b->Pv.YE f ds' es=aa b'->b=b'
 |[],[],[],_,b,b',_,_,h,h'=>(ak h).symm.trans<|ak h'
 |[],[],_::_,_,b,b',_,_,h,h'=>(ak h).symm.trans<|ak h'
 |_::_,_::_,[],_,b,b',_,_,h,h'=>(ak h).symm.trans<|ak h'
 |d::ds,d'::ds',e::es,_,b,b',r1,r2,h,h'=>by
  obtain⟨v,vs,rfl,a1,b1⟩:=r1;obtain⟨v',vs',e',a2,b2⟩:=r2;cases e';unfold Pv.YE at h h';cases q1:f d e with
  |none=>rw[q1]at h;cases h
  |some p=>
   cases q2:Pv.YE f ds es with
   |none=>rw[q1,q2]at h;cases h
   |some q=>
    cases q3:f d' e with
    |none=>rw[q3]at h';cases h'
    |some p'=>
     cases q4:Pv.YE f ds' es with
     |none=>rw[q3,q4]at h';cases h'
     |some q'=>
      rw[q1,q2]at h;rw[q3,q4]at h';have z1:=ak h;have z2:=ak h';rw[<-z1,<-z2,hf d d' e v p p' a1 a2 q1 q3,J9 hf b1 b2 q2 q4]
 |[],_::_,_,_,b,b',r1,r2,_,_=>by
  have l1:=r1.length;have l2:=r2.length;rw[l1]at l2;simp at l2
 |_::_,[],_,_,b,b',r1,r2,_,_=>by
  have l1:=r1.length;have l2:=r2.length;rw[l1]at l2;simp at l2
theorem GQ:∀(k:Nat)(x x' y:D)(v:V)(b b':Bool),Rep O H x v->Rep O H x' v->Pv.eqV k x y=aa b->Pv.eqV k x' y=aa b'->b=b'
 |0,_,_,_,_,_,_,_,_,h,_=>by cases h
 |k+1,x,x',y,v,b,b',r1,r2,h,h'=>by
  by_cases hv:∃a,v=.ref a
  .obtain⟨p,rfl⟩:=hv
   rcases r1.ref (.inl h)with⟨ds,es,rfl,rfl⟩|⟨ds,es,rfl,rfl⟩<;>rcases r2.ref (.inl h')with⟨ds',es',rfl,z⟩|⟨ds',es',rfl,z⟩<;>cases z
   .obtain⟨_,_,z,e1,q1⟩:=r1.tup'
    cases z;obtain⟨_,_,z,e2,q2⟩:=r2.tup';cases z;rw[e1]at e2;cases e2;exact J9 (λx x' y v b b'=>GQ k x x' y v b b') q1 q2 h h'
   .obtain⟨_,_,z,e1,_,q1⟩:=r1.lst'
    cases z;obtain⟨_,_,z,e2,_,q2⟩:=r2.lst';cases z;rw[e1]at e2;cases e2;have l:ds'.length=ds.length:=by rw[<-q1.length,q2.length]
    have h:(if ds.length=es.length then Pv.YE (Pv.eqV k) ds es else aa am)=aa b:=h
    have h':(if ds'.length=es.length then Pv.YE (Pv.eqV k) ds' es else aa am)=aa b':=h'
    rw[l]at h';by_cases c:ds.length=es.length
    .rw[T9 c]at h h'
     exact J9 (λx x' y v b b'=>GQ k x x' y v b b') q1 q2 h h'
    .rw[T8 c]at h h'
     exact ak<|h.symm.trans h'
  .cases r1.sc r2 λa z=>hv #[a,z]
   exact ak<|h.symm.trans h'
theorem GS :∀{ds:List D}{b:Bool},Pv.Xx x ds=aa b->∀d∈ds,∃c,Pv.eqV Ev.Zr d x=aa c
 |[],_,_,d,hd=>by cases hd
 |y::ys,b,h,d,hd=>by
  unfold Pv.Xx at h;cases q1:Pv.eqV Ev.Zr y x with
  |none=>rw[q1]at h;cases h
  |some p=>
   cases q2:Pv.Xx x ys with
   |none=>rw[q1,q2]at h;cases h
   |some q=>
    rcases ay.mp hd with rfl|hd
    .exact#[p,q1]
    .exact GS q2 d hd
theorem ve :∀{ds:List D}{b:Bool},Pv.Xx x ds=aa b->(ds.any λd=>(Pv.eqV Ev.Zr d x).getD am)=b
 |[],_,h=>ak h
 |y::ys,b,h=>by
  unfold Pv.Xx at h;cases q1:Pv.eqV Ev.Zr y x with
  |none=>rw[q1]at h;cases h
  |some p=>
   cases q2:Pv.Xx x ys with
   |none=>rw[q1,q2]at h;cases h
   |some q=>
    rw[q1,q2]at h;rw[m7,ve q2,q1,<-ak h];rfl
open Classical in
def VE(I:Inv X pq Z H s)(hu:A.units+6<dA)(rx:Rep O H x v)(ex:ZD v vv)
  (q:Reps O H ds xs)(vs:Vals xs its)(h:Pv.Xx x ds=aa b):∃e:ao->Bool,(∀u,u∈its.toArray->im A s u vv (e u))/\its.toArray.any e=b:=by
 refine#[λu=>aj (∃d∈ds,∃w,Rep O H d w/\ZD w u/\Pv.eqV Ev.Zr d x=aa al),λu hu'=>?_,?_]
 .have hu2:u∈its:=by simpa using hu'
  obtain⟨j,hj,e⟩:=bw hu2;have hl:j<ds.length:=by rw[<-q.length,vs.length];exact hj
  obtain⟨w,g,r⟩:=q.get<|ag hl;obtain⟨u',g',r'⟩:=vs.get g;have eu:u'=u:=by
   rw[ag hj]at g';exact(ak g').symm.trans e
  subst eu;obtain⟨c,hc⟩:=GS h ds[j]<|aV hl;have ec:aj (∃d∈ds,∃w,Rep O H d w/\ZD w u'/\Pv.eqV Ev.Zr d x=aa al)=c:=by
   cases c with
   |true=>exact T5 #[ds[j],aV hl,w,r,r',hc]
   |false=>
    refine T4 ?_
    rintro ⟨d,hd,w',a1,a2,a3⟩
    cases a2.inj r';exact T7 (GQ 6 d ds[j] x w al am a1 r a3 hc) (by decide)
  dsimp only
  rw[ec];exact xS I 6 A ds[j] x w v u' vv c hu r rx r' ex hc
 .rw[<-ve h,List.any_toArray,bN,lq,lq]
  constructor
  .rintro ⟨u,hu1,h1⟩
   obtain⟨d,hd,w,a1,a2,a3⟩:=T6 h1;exact#[d,hd,by rw[a3];rfl]
  .rintro ⟨d,hd,h1⟩
   obtain⟨j,hj,e⟩:=bw hd;subst e;obtain⟨w,g,r⟩:=q.get<|ag hj;obtain⟨u,g',r'⟩:=vs.get g;refine#[u,dr g',T5 #[ds[j],hd,w,r,r',?_]];obtain⟨c,hc⟩:=GS h ds[j] hd;rw[hc]at h1 ⊢;exact congrArg aa h1
section
variable{X:Cx}{xw:Nat->Hp->Prop}{C:Calls}{e a b c:Expr}{i j k:E}{pos p p':iP}
def Zey(hu:X.A.units+7<dA):OpR X (cr .In) (λv u H Q=>∃O S x ds b,St3 X.K O S H/\Rep O H x v/\(Rep O H (.tup ds) u\/Rep O H (.lst ds) u)/\Pv.Xx x ds=aa b/\Q (.bl b) H):=by
 intro pq s Z H v u vv uu Q I e1 e2 h;obtain⟨O,S,x,ds,b,st,rx,ry,hb,q⟩:=h;rcases ry with ry|ry
 .obtain⟨p,xs,rfl,hp,q1⟩:=ry.tup'
  cases e2;obtain⟨its,v1,t1,_⟩:=I.tuple<|SqT.of hp;obtain⟨f,h1,h2⟩:=VE I (in1_units hu) rx e1 q1 v1 hb;exact SeqAt.in_tupleAt f t1 h1 (by rw[h2];exact#[.bl b,H,I,rfl,q])
 .obtain⟨p,xs,rfl,hx,_,q1⟩:=ry.lst'
  cases e2;obtain⟨its,v1,t1,_⟩:=I.list<|SqL.of hx;obtain⟨f,h1,h2⟩:=VE I (in1_units hu) rx e1 q1 v1 hb;exact SeqAt.in_listAt f t1.isList h1 (by rw[h2];exact#[.bl b,H,I,rfl,q])
def Zco(hu:X.A.units+7<dA):OpR X (cr .NotIn) (λv u H Q=>∃O S x ds b,St3 X.K O S H/\Rep O H x v/\(Rep O H (.tup ds) u\/Rep O H (.lst ds) u)/\Pv.Xx x ds=aa b/\Q (.bl !b) H):=by
 intro pq s Z H v u vv uu Q I e1 e2 h;obtain⟨O,S,x,ds,b,st,rx,ry,hb,q⟩:=h;rcases ry with ry|ry
 .obtain⟨p,xs,rfl,hp,q1⟩:=ry.tup'
  cases e2;obtain⟨its,v1,t1,_⟩:=I.tuple<|SqT.of hp;obtain⟨f,h1,h2⟩:=VE I (in1_units hu) rx e1 q1 v1 hb;exact SeqAt.notIn_tupleAt f t1 h1 (by rw[h2];exact#[.bl !b,H,I,rfl,q])
 .obtain⟨p,xs,rfl,hx,_,q1⟩:=ry.lst'
  cases e2;obtain⟨its,v1,t1,_⟩:=I.list<|SqL.of hx;obtain⟨f,h1,h2⟩:=VE I (in1_units hu) rx e1 q1 v1 hb;exact SeqAt.notIn_listAt f t1.isList h1 (by rw[h2];exact#[.bl !b,H,I,rfl,q])
variable{O:Mx}{H:Hp}{S:Zy}{x y:D}{v u:V}{Q:VK}{K:ap}
def Zdc(h:Pv.int2 x y=aa z):x=.int z.1/\y=.int z.2:=by
 cases x<;>first|exact Ev.nos h|(cases y<;>first|exact Ev.nos h|(cases h;exact#[rfl,rfl]))
def Gy{f:Int×Int->Bool}(st:St3 K O S H)(rx:Rep O H x v)(ry:Rep O H y u)(h:End K xw Rep O H Q (Pv.po ((Pv.int2 x y).map λz=>.bl<|f z) S)):rI0 (λi j=>.bl<|f (i,j)) v u H Q:=by
 obtain⟨z,hz,h⟩:=End.map h;obtain⟨rfl,rfl⟩:=Zdc hz;exact#[_,_,rx.int',ry.int',End.ok h st<|Ym _]
def ZgG(st:St3 K O S H)(rx:Rep O H x v)(ry:Rep O H y u)(h:End K xw Rep O H Q (Pv.po (Pv.YU .lt x y) S)):rI0 (λi j=>.bl<|aj<|i<j) v u H Q\/∃a b A B,x=.tup a/\y=.tup b/\Pv.Z1 a=aa A/\Pv.Z1 b=aa B/\Q (.bl<|Ev.ltP A B) H:=by
 cases x with
 |tup a=>cases y with
  |tup b=>
   obtain⟨z,hz,h⟩:=End.po h;obtain⟨A,hA,hz⟩:=du.mp hz;obtain⟨B,hB,rfl⟩:=cx.mp hz;exact .inr #[a,b,A,B,rfl,rfl,hA,hB,End.ok h st<|Ym _]
  |_=>exact False.elim h
 |_=>exact .inl<|Gy (f:=λz=>aj<|z.1<z.2) st rx ry h
end
section
variable{X:Cx}{xw:Nat->Hp->Prop}{C:Calls}{e a b c:Expr}{i j k:E}{pos p p':iP}
def YM{B β γ:Type}(r:R B)(f:B->Zy->R β)(g:β->Zy->R γ):(r.bind f).bind g=r.bind λa S=>(f a S).bind g:=by cases r<;>rfl
def xL{B:Type}{o:Option B}{f:B->Bool}{z:D}(h:o.map (λa=>Pv.V.bl<|f a)=aa z):∃b,z=.bl b:=by
 obtain⟨a,_,rfl⟩:=cx.mp h;exact#[_,rfl]
def qY{o:Cop}{x y:D}{S S':Zy}{z:D}(h:Pv.po (Pv.YU o x y) S=.ok z S'):∃b,z=.bl b:=by
 have h:Pv.YU o x y=aa z:=by
  cases q:Pv.YU o x y<;>rw[q]at h<;>cases h;rfl
 cases o with
 |lt=>
  cases x with
  |tup a=>
   cases y with|tup b=>obtain⟨A,_,h⟩:=du.mp h;exact xL h|_=>exact Ev.nos h
  |int i=>exact xL h
  |_=>exact Ev.nos h
 |_=>exact xL h
def Xt(X:Cx)(xw:Nat->Hp->Prop)(op:CmpOp)(o:Cop):Prop:=OpR X (cr op)<|Zce X.K xw o
def OpR.imp(h:OpR X f r)(k:∀v u H Q,r' v u H Q->r v u H Q):OpR X f r':=λpq s Z H x y v u Q I e1 e2 q=>h pq s Z H x y v u Q I e1 e2<|k x y H Q q
theorem jd(hu:X.A.units+7<dA):Xt X xw .Eq .eq:=Zeo (by lia)
theorem Zbd(hu:X.A.units+7<dA):Xt X xw .NotEq .ne:=Zfl (by lia)
def JY(hu:X.A.units+7<dA):Xt X xw .LtE .le:=OpR.imp Zf2<|by rintro v u H Q ⟨O,S,x,y,st,rx,ry,h⟩;exact Gy st rx ry h
def jL(hu:X.A.units+7<dA):Xt X xw .Gt .gt:=OpR.imp Zgh<|by rintro v u H Q ⟨O,S,x,y,st,rx,ry,h⟩;exact Gy (f:=λz=>aj<|z.2<z.1) st rx ry h
def jB(hu:X.A.units+7<dA):Xt X xw .GtE .ge:=OpR.imp Zgk<|by rintro v u H Q ⟨O,S,x,y,st,rx,ry,h⟩;exact Gy st rx ry h
def Zbw{O:Mx}{H:Hp}{x y:D}{v u:V}{b:Bool}(rx:Rep O H x v)(ry:Rep O H y u)(h:Pv.isV x y=aa b):(u=.non/\aj (v=.non)=b)\/∃i j,v=.bl i/\u=.bl j/\aj (i=j)=b:=by
 cases y with
 |non=>
  refine .inl #[ry.non',?_];rw[<-ak h];cases x<;>unfold Rep at rx<;>first
   |(subst rx;rfl)
   |(obtain⟨_,z,_⟩:=rx;subst z;rfl)
   |(obtain⟨_,_,z,_⟩:=rx;subst z;rfl)
 |bl j=>cases x with|bl i=>exact .inr #[i,j,rx.bl',ry.bl',ak h]|_=>exact Ev.nos h
 |_=>exact Ev.nos h
def Za8(hu:X.A.units+7<dA):Xt X xw .Is .is:=OpR.imp (Ze5.or Ze0)<|by
 rintro v u H Q ⟨O,S,x,y,st,rx,ry,h⟩;obtain⟨b,hb,h⟩:=End.map h;have q:=End.ok h st<|Ym b;rcases Zbw rx ry hb with⟨e,z⟩|⟨i,j,e,e2,z⟩
 .exact .inl #[e,by rw[z];exact q]
 .exact .inr #[i,j,e,e2,by rw[z];exact q]
def xx(hu:X.A.units+7<dA):Xt X xw .IsNot .isn:=OpR.imp (ZcU.or ZbL)<|by
 rintro v u H Q ⟨O,S,x,y,st,rx,ry,h⟩;obtain⟨b,hb,h⟩:=End.map h;have q:=End.ok h st<|Ym !b;rcases Zbw rx ry hb with⟨e,z⟩|⟨i,j,e,e2,z⟩
 .exact .inl #[e,by rw[z];exact q]
 .exact .inr #[i,j,e,e2,by rw[decide_not,z];exact q]
def zc{O:Mx}{H:Hp}{x y:D}{u:V}{b:Bool}(ry:Rep O H y u)(h:Pv.Vr x y=aa b) :
  (∃ds,(Rep O H (.tup ds) u\/Rep O H (.lst ds) u)/\Pv.Xx x ds=aa b)\/
  (∃(l:List (List Int))(k:List D)(ks:List Int),(∃(p:aP)(vs:List (List Key×V)),u=.ref p/\Rd H p (.dT vs)/\vs.map (·.1)=l.map (·.map dW))/\x=.tup k/\Pv.intsV k=aa ks/\l.contains ks=b):=by
 cases y with
 |tup ys=>exact .inl #[ys,.inl ry,h]
 |lst ys=>exact .inl #[ys,.inr ry,h]
 |dct o=>
  cases o with
  |none=>exact Ev.nos h
  |some l=>
   cases x with
   |tup k=>
    obtain⟨ks,e,z⟩:=cx.mp h;obtain⟨p,e1,o,vs,e2,e3⟩:=ry.dct';exact .inr #[l,k,ks,#[p,vs,e1,.inr #[o,e2],e3],rfl,e,z]
   |_=>exact Ev.nos h
 |dow l=>
  cases x with
  |tup k=>
   obtain⟨ks,e,z⟩:=cx.mp h;obtain⟨p,vs,e1,e2,_,e3⟩:=ry.dow';exact .inr #[l,k,ks,#[p,vs,e1,.inl e2,e3],rfl,e,z]
  |_=>exact Ev.nos h
 |_=>exact Ev.nos h
def Xv{op:CmpOp}{o:Cop}(hc:Xt X xw op o)(ha:CE X xw C a i)(hb:CE X xw C b j)(hm:gd op b=am):CE X xw C (.Compare a [op] [b] pos) (.cmp o i j):=.mk <|
 PE.imp (Zc1 hc ha.h hb.h hm) (ZeO)
def XA{op:CmpOp}{o:Cop}(hc:Xt X xw op o)(ha:CE X xw C a i)(hb:CE X xw C b j)(hm:gd op b=am):CT X xw C (.Compare a [op] [b] pos) (.cmp o i j):=.mk <|
 PT.imp (Zcj hc ha.h hb.h hm)<|by
  rintro Z H Q ⟨O,l,S,st,lr,h⟩;have h':End X.K xw Uw O H Q (((Pv.pv C i l S).bind λx S=>(Pv.pv C j l S).bind λy S=>Pv.po (Pv.YU o x y) S).bind λx S=>Pv.po (Pv.Zu x) S):=h
  simp only[YM]at h';refine#[O,l,S,st,lr,h'.bind λx S1 ρ1 H1 v f1 st1 r1 h1=>#[ρ1,l,S1,st1,lr.mono f1,h1.bind λy S2 ρ2 H2 u f2 st2 r2 h2=>#[ρ2,S2,x,y,st2,r1.mono f2,r2,?_]]]
  have h3:∀{r:R D},(∀z S',r=.ok z S'->∃b,z=.bl b)->End X.K xw Uw ρ2 H2 Q (r.bind λx S=>Pv.po (Pv.Zu x) S)->End X.K xw Rep ρ2 H2 (λx H'=>∃k,x=V.bl k/\Q k H') r:=λ{r} hr h=>by
   cases r with
   |no=>exact h
   |ex _ _=>exact h
   |ok z S3=>
    obtain⟨b,rfl⟩:=hr z S3 rfl;exact λρ3 H3 w f3 st3 r3=>#[b,r3.bl',h ρ3 H3 b f3 st3 rfl]
  exact h3 (λz S' e=>qY e) h2
def yU{op op':CmpOp}{o o':Cop}{d:Expr}{k:E}(hc:Xt X xw op o)(hc':Xt X xw op' o')(ha:CE X xw C a i)(hb:CE X xw C b j)(hd:CE X xw C d k)
  (hm:lastMarks [op,op'] [b,d]=am):CE X xw C (.Compare a [op,op'] [b,d] pos) (.chain o o' i j k):=.mk <|
 PE.imp (Zav hc hc' ha.h hb.h hd.h hm)<|by
  rintro Z H Q ⟨O,l,S,st,lr,h⟩;refine#[O,l,S,st,lr,End.bind (show End X.K xw Rep O H Q ((Pv.pv C i l S).bind _)from h) λx S1 ρ1 H1 v f1 st1 r1 h1=>#[ρ1,l,S1,st1,lr.mono f1,h1.bind λy S2 ρ2 H2 u f2 st2 r2 h2=>#[ρ2,S2,x,y,st2,r1.mono f2,r2,h2.bind λz S3 ρ3 H3 w f3 st3 r3 h3=>?_]]]
  cases z with
  |bl n=>
   refine#[n,r3.bl',?_];cases n with|true=>exact#[ρ3,l,S3,st3,((lr.mono f1).mono f2).mono f3,End.bind (show End X.K xw Rep ρ3 H3 Q ((Pv.pv C k l S3).bind _)from h3) λt S4 ρ4 H4 t' f4 st4 r4 h4=>#[ρ4,S4,y,t,st4,(r2.mono f3).mono f4,r4,h4]]|false=>exact End.ok h3 st3<|Ym _
  |_=>exact False.elim h3
end
section
variable{X:Cx}{xw:Nat->Hp->Prop}{C:Calls}{e a b c:Expr}{i j k:E}{pos p p' p2:iP}
variable{O:Mx}{H:Hp}{S:Zy}{x y:D}{v u:V}{Q:VK}{K:ap}
def Jv{d:D}{ks:List D}{k:List Int}(h:Pv.intsV (d::ks)=aa k):∃n r,d=.int n/\Pv.intsV ks=aa r/\k=n::r:=by
 cases d<;>first|exact Ev.nos h|(obtain⟨r,e,z⟩:=cx.mp h;exact#[_,r,rfl,e,z.symm])
theorem V6:∀{ks:List D}{k:List Int}{xs:List V},Pv.intsV ks=aa k->Reps O H ks xs->xs=(k.map (dW:Int->Key)).map kV
 |[],k,xs,h,r=>by cases h;rw[r];rfl
 |d::ks,k,xs,h,r=>by
  obtain⟨v,vs,rfl,a1,b1⟩:=r;obtain⟨n,r,rfl,e,rfl⟩:=Jv h;rw[a1.int',V6 e b1];rfl
theorem vc:∀{k k':List Int},k.map (dW:Int->Key)=k'.map dW->k=k'
 |[],[],_=>rfl
 |[],_::_,h=>by simp at h
 |_::_,[],h=>by simp at h
 |a::k,b::k',h=>by
  rw[bi,bi]at h;injection h with h1 h2
  rw[dW.inj h1,vc h2]
def JK{k:List Int}{l:List (List Int)}{vs:List (List Key×V)}(h:vs.map (·.1)=l.map (·.map (dW:Int->Key))):(U0 vs<|k.map dW).isSome=l.contains k:=by
 rw[<-yf,show(vs.any λkv=>aj<|kv.1=k.map dW)=(vs.map (·.1)).any λy=>aj (y=k.map dW) by rw[List.any_map];rfl,h,List.any_map,List.contains_eq_any_beq]
 congr 1
 funext y
 show aj (y.map dW=k.map dW)=(k == y);by_cases z:y=k
 .subst z;simp
 .rw[T4 λw=>z<|vc w,beq_eq_false_iff_ne.mpr<|Ne.symm z]
theorem Zex(hu:X.A.units+7<dA):OpR X (cr .In) (λv u H Q=>∃a y o,u=.ref a/\v=y/\DGet H a y o/\Q (.bl o.isSome) H):=by
 intro pq s Z H v u vv uu Q I e1 e2 h;obtain⟨a,y,o,rfl,rfl,g,q⟩:=h;cases e2;exact ZgX (by lia) I g e1 λs' I'=>#[.bl o.isSome,H,I',rfl,q]
theorem Zcm(hu:X.A.units+7<dA):OpR X (cr .NotIn) (λv u H Q=>∃a y o,u=.ref a/\v=y/\DGet H a y o/\Q (.bl !o.isSome) H):=by
 intro pq s Z H v u vv uu Q I e1 e2 h;obtain⟨a,y,o,rfl,rfl,g,q⟩:=h;cases e2;exact Zdo (by lia) I g e1 λs' I'=>#[.bl !o.isSome,H,I',rfl,q]
def Zad(hu:X.A.units+7<dA):Xt X xw .In .inn:=OpR.imp ((Zey hu).or<|Zex hu)<|by
 rintro v u H Q ⟨O,S,x,y,st,rx,ry,h⟩;obtain⟨b,hb,h⟩:=End.map h;have q:=End.ok h st<|Ym _;rcases zc ry hb with⟨ds,hy,hb⟩|⟨l,k,ks,hy,rfl,hk,e⟩
 .exact .inl #[O,S,x,ds,b,st,rx,hy,hb,q]
 .obtain⟨p,vs,rfl,hx,r⟩:=hy
  obtain⟨a,xs,rfl,ha,r2⟩:=rx.tup';refine .inr #[p,.ref a,_,rfl,rfl,.inr #[vs,_,a,hx,rfl,by rw[ha,V6 hk r2],rfl],?_]
  rw[JK r,e];exact q
def xU(hu:X.A.units+7<dA):Xt X xw .NotIn .nin:=OpR.imp ((Zco hu).or<|Zcm hu)<|by
 rintro v u H Q ⟨O,S,x,y,st,rx,ry,h⟩;obtain⟨b,hb,h⟩:=End.map h;have q:=End.ok h st<|Ym _;rcases zc ry hb with⟨ds,hy,hb⟩|⟨l,k,ks,hy,rfl,hk,e⟩
 .exact .inl #[O,S,x,ds,b,st,rx,hy,hb,q]
 .obtain⟨p,vs,rfl,hx,r⟩:=hy
  obtain⟨a,xs,rfl,ha,r2⟩:=rx.tup';refine .inr #[p,.ref a,_,rfl,rfl,.inr #[vs,_,a,hx,rfl,by rw[ha,V6 hk r2],rfl],?_]
  rw[JK r,e];exact q
def Zfe(r:Reps O H ds xs)(q:Ev.at' ds n=aa d):∃w,atI xs n=aa w/\Rep O H d w:=by
 obtain⟨m,q2,q⟩:=du.mp q;obtain⟨w,g,rw'⟩:=r.get q;refine#[w,?_,rw'];unfold atI;rw[r.length,show ixN ds.length n=aa m from q2]
 exact g
def Zgs(ha:CE X xw C a i)(hb:CE X xw C b j)(hs:vK b):CE X xw C (.Subscript a b pos) (.ix i j):=.mk <| PE.imp (je (GE.or Zff) ha.h hb.h hs) (Wp λ{O H S x y v u Q} st rx ry h=>by
 obtain⟨d,hd,g0⟩:=End.po h;have k:∃ds n,Pv.YN x=aa ds/\y=.int n/\Ev.at' ds n=aa d:=by
  cases y with
  |int n=>
   cases x with
   |tup ds=>exact#[ds,n,rfl,rfl,hd]
   |lst ds=>exact#[ds,n,rfl,rfl,hd]
   |scr ns=>
    obtain⟨z,e,rfl⟩:=cx.mp hd;obtain⟨m,q2,q⟩:=du.mp e;refine#[_,n,rfl,rfl,?_];unfold Ev.at';rw[aq,q2];show(ns.map Pv.V.int)[m]?=_;rw[aH,q];rfl
   |_=>exact Ev.nos hd
  |_=>cases x<;>exact Ev.nos hd
 obtain⟨ds,n,e,rfl,hn⟩:=k;obtain⟨p,xs,rfl,hp,r⟩:=rx.seq e;obtain⟨w,g,rw'⟩:=Zfe r hn;rw[st.hk]at hp;have q:=End.ok g0 st rw';rcases hp with hp|hp
 .exact .inl #[p,xs,n,w,rfl,ry.int',hp,g,q]
 .exact .inr #[p,xs,n,w,rfl,ry.int',hp,g,q])
def Zc9:CO X xw C ae ae:=.mk <| PO.imp Zcv<|by rintro Z H Q ⟨O,l,S,st,lr,h⟩;exact End.ok h st rfl
def ZcZ(h:CE X xw C e i):CO X xw C (aa e) (aa i):=.mk <| PO.imp (ZX h.h)<|by
 rintro Z H Q ⟨O,l,S,st,lr,h⟩;refine#[O,l,S,st,lr,End.bind (h) λx S1 ρ1 H1 v f1 st1 r1 h1=>?_]
 cases x with|int n=>exact#[n,r1.int',End.ok h1 st1 rfl]|_=>exact False.elim h1
def GP(n d:Nat)(o:Option Int):Ev.sIx n d o=HT.sIx n d o:=by
 cases o with
 |none=>rfl
 |some i=>first|rfl|(rfl)
def wX(r:Reps O H ds xs)(lo hi:Option Int):Reps O H (Pv.XM ds lo hi) (XM xs lo hi):=by
 unfold Pv.XM XM;rw[GP,GP,r.length];exact(r.drop _).take _
def ZfR{lo hi:Option Expr}{il ih:Option E}(ha:CE X xw C a i)(hl:CO X xw C lo il)(hh:CO X xw C hi ih):CE X xw C (.Subscript a (.Slice lo hi ae p2) pos) (.sl i il ih):=.mk <|
 PE.imp (jQ (Ze8.or<|qK.or ZbP) ha.h hl.h hh.h)<|by
  rintro Z H Q ⟨O,l,S,st,lr,h⟩;refine#[O,l,S,st,lr,End.bind (h) λx S1 ρ1 H1 v f1 st1 r1 h1=>#[ρ1,l,S1,st1,lr.mono f1,h1.bind λy S2 ρ2 H2 u f2 st2 r2 h2=>#[ρ2,l,S2,st2,(lr.mono f1).mono f2,h2.bind λz S3 ρ3 H3 w f3 st3 r3 h3=>?_]]]
  have e1:y=u:=r2;have e2:z=w:=r3;subst e1 e2;have r0:=(r1.mono f2).mono f3;cases x with
  |tup ds=>
   obtain⟨p,xs,rfl,hp,r⟩:=r0.tup';have h':=h3;by_cases hw:HT.sIx xs.length 0 y=0/\HT.sIx xs.length xs.length z=xs.length
   .refine .inr (.inl #[p,xs,rfl,SqT.of hp,hw,End.ok h' st3 ?_])
    have ew:Pv.XM ds y z=ds:=by
     unfold Pv.XM;rw[GP,GP,<-r.length,hw.1,hw.2,kf,Nat.sub_zero,r.length,io]
    rw[ew];exact XW hp r
   .exact .inl #[p,xs,rfl,SqT.of hp,hw,h'.newT st3<|wX r y z]
  |lst ds=>
   obtain⟨p,xs,rfl,hp,_,r⟩:=r0.lst';exact .inr<|.inr #[p,xs,rfl,SqL.of hp,End.newL (h3) st3<|wX r y z]
  |_=>exact False.elim h3
def Gr(K:ap)(xw:Nat->Hp->Prop)(f:Bf):List V->Hp->VK->Prop:=λvs H Q=>∃O S ds,St3 K O S H/\Reps O H ds vs/\End K xw Rep O H Q (Pv.po (Pv.Wi f ds) S)
def Z5.imp{r r':List V->Hp->VK->Prop}(h:Z5 X f r)(k:∀vs H Q,r' vs H Q->r vs H Q):Z5 X f r':=λpq s Z H xs us Q I e q=>h pq s Z H xs us Q I e<|k xs H Q q
def Za7 :∀Z H Q,tE X xw (Pv.pv C<|.blt f is) Z H Q->tCB (Gr X.K xw f) (tA X xw<|Pv.pvs C is) Z H Q:=λZ H Q #[O,l,S,st,lr,h]=>
 #[O,l,S,st,lr,End.bind (h) λxs S1 ρ1 H1 vs f1 st1 r1 h1=>#[ρ1,S1,xs,st1,r1,h1]]
def ji(r:Reps O H [d] vs):∃v,vs=[v]/\Rep O H d v:=by
 obtain⟨v,ws,rfl,a1,b1⟩:=r;exact#[v,by rw[b1],a1]
def va{d e:D}{vs:List V}(r:Reps O H [d,e] vs):∃v w,vs=[v,w]/\Rep O H d v/\Rep O H e w:=by
 obtain⟨v,ws,rfl,a1,b1⟩:=r;obtain⟨w,rfl,b2⟩:=ji b1;exact#[v,w,rfl,a1,b2]
def ym{rep:Mx->Hp->D->V->Prop}{f:Bf}{ds:List D}{vs:List V}(h:End K xw rep O H Q (Pv.po (Pv.Wi f ds) S))(r:Reps O H ds vs)(h1:f≠.max2:=by decide)(h2:f≠.min2:=by decide)(h3:f≠.index:=by decide):∃d v z,vs=[v]/\Rep O H d v/\Pv.blt1 f d=aa z/\End K xw rep O H Q (.ok z S):=by
 obtain⟨z,hz,g⟩:=End.po h
 match ds,hz with
 |[d],hz=>obtain⟨v,rfl,rv⟩:=ji r;exact#[d,v,z,rfl,rv,hz,g]
 |[x,y],hz=>
  have hz:Pv.blt2 f x y=aa z:=hz;cases x<;>first|exact Ev.nos hz|(cases y<;>first|exact Ev.nos hz|(cases f<;>first|exact Ev.nos hz|contradiction))
def Zdu{f:Bf}{ds:List D}{vs:List V}(h:End K xw Rep O H Q (Pv.po (Pv.Wi f ds) S))(r:Reps O H ds vs)(h1:∀d,Pv.blt1 f d=ae)(h3:f≠.index:=by decide):∃m n z,vs=[.int m,.int n]/\Pv.blt2 f (.int m) (.int n)=aa z/\End K xw Rep O H Q (.ok z S):=by
 obtain⟨z,hz,g⟩:=End.po h
 match ds,hz with
 |[d],hz=>exact Ev.nos<|(h1 d).symm.trans hz
 |[x,y],hz=>
  have hz:Pv.blt2 f x y=aa z:=hz;cases x<;>first|exact Ev.nos hz|(cases y<;>first|exact Ev.nos hz|(obtain⟨v,w,rfl,r1,r2⟩:=va r;exact#[_,_,z,by rw[r1.int',r2.int'],hz,g])|(cases f<;>first|exact Ev.nos hz|contradiction))
def wK:Z5 X (.builtin "len") (Gr X.K xw .len):=Z5.imp Gs<|by
 rintro vs H Q ⟨O,S,ds,st,r,h⟩;obtain⟨d,v,z,rfl,rv,hz,h⟩:=ym h r;obtain⟨xs,hx,rfl⟩:=cx.mp hz;obtain⟨p,ys,rfl,hq,r2⟩:=rv.seq hx;refine#[p,ys,rfl,by rw[<-st.hk];exact hq,?_]
 rw[r2.length];exact End.ok h st<|ZS _
def v5(hc:X.calm=al):Z5 X (.builtin "max") (Gr X.K xw .max2):=Z5.imp (u9 hc)<|by
 rintro vs H Q ⟨O,S,ds,st,r,h⟩;obtain⟨m,n,z,rfl,hz,h⟩:=Zdu h r λ_=>rfl
 cases hz;exact#[m,n,rfl,End.ok h st<|ZS _]
def vW(hc:X.calm=al):Z5 X (.builtin "min") (Gr X.K xw .min2):=Z5.imp (qo hc)<|by
 rintro vs H Q ⟨O,S,ds,st,r,h⟩;obtain⟨m,n,z,rfl,hz,h⟩:=Zdu h r λ_=>rfl
 cases hz;exact#[m,n,rfl,End.ok h st<|ZS _]
def uj:Z5 X (.type "int") (Gr X.K xw .toInt):=Z5.imp qx<|by
 rintro vs H Q ⟨O,S,ds,st,r,h⟩;obtain⟨d,v,z,rfl,r1,hz,h⟩:=ym h r;cases d with|int m=>cases hz;exact .inl #[m,by rw[r1.int'],End.ok h st<|ZS _]|bl m=>cases hz;exact .inr #[m,by rw[r1.bl'],End.ok h st<|ZS _]|_=>exact Ev.nos hz
def JX:Z5 X (.type "tuple") (Gr X.K xw .tuple):=Z5.imp QZ<|by
 rintro vs H Q ⟨O,S,ds,st,r,h⟩;obtain⟨d,v,z,rfl,r1,hz,h⟩:=ym h r;cases d with|tup ds=>cases hz;obtain⟨p,xs,rfl,hp,r2⟩:=r1.tup';exact#[p,xs,rfl,.inr #[SqT.of hp,End.ok h st r1]]|lst ds=>cases hz;obtain⟨p,xs,rfl,hp,_,r2⟩:=r1.lst';exact#[p,xs,rfl,.inl #[SqL.of hp,h.newT st r2]]|scr ns=>cases hz;obtain⟨p,rfl,hp⟩:=r1.scr';rw[st.hk]at hp;exact#[p,_,rfl,.inl #[hp.sq,h.newT st<|Reps.ints ns]]|_=>exact Ev.nos hz
def UH{f:Bf}{id:String}{x:bI}{es:List Expr}{is:List E}(hc:Z5 X (.builtin id) (Gr X.K xw f))(hm:X.mg x=ae)(ha:CA X xw C (e::es) is)(hg:Gl X x)(hv:dC x=aa (.builtin id))(hn:x≠"__name__")(hdb:(x == ("__debug__" : bI))=am)
  (he:aL (e::es) X.env=(am,cI e X.env)::aL es X.env)(hpl:(fj pos<|aL es X.env).any (·.1)=am):CE X xw C (.Call (.Name x p) (e::es) [] pos) (.blt f is):=.mk <|
 PE.imp (Qs hc hg hm hv ha.h hn hdb he hpl) Za7
def vB{f:Bf}{id:String}{x:bI}{es:List Expr}{is:List E}(hc:Z5 X (.type id) (Gr X.K xw f))(hm:X.mg x=ae)(ha:CA X xw C (e::es) is)(hg:Gl X x)(hv:dC x=aa (.type id))(hn:x≠"__name__")(hdb:(x == ("__debug__" : bI))=am)
  (he:aL (e::es) X.env=(am,cI e X.env)::aL es X.env)(hpl:(fj pos<|aL es X.env).any (·.1)=am):CE X xw C (.Call (.Name x p) (e::es) [] pos) (.blt f is):=.mk <|
 PE.imp (uZ hc hg hm hv ha.h hn hdb he hpl) Za7
end
section
variable{X:Cx}{xw:Nat->Hp->Prop}{C:Calls}{e a b c:Expr}{i j k:E}{pos p p' p2:iP}
theorem Qw:∀{ds:List D}{bs:List Bool},Pv.Yv ds=aa bs->bs.length=ds.length/\∀j d,ds[j]?=aa d->Pv.UJ d=aa (bs.getD j am)
 |[],bs,h=>by cases h;exact#[rfl,λj d e=>by simp at e]
 |d::ds,bs,h=>by
  unfold Pv.Yv at h;cases q1:Pv.UJ d with
  |none=>rw[q1]at h;cases h
  |some b=>
   cases q2:Pv.Yv ds with
   |none=>rw[q1,q2]at h;cases h
   |some cs=>
    rw[q1,q2]at h;cases h;obtain⟨l,ih⟩:=Qw q2;refine#[by rw[aF,aF,l],λj d' e=>?_]
    cases j with|zero=>simp at e;subst e;simpa using q1|succ j=>simpa using ih j d' (by simpa using e)
def qI(bs:List Bool):(aE bs.length).all (λj=>bs.getD j am)=bs.all id:=by
 rw[bN,aX,aX]
 constructor
 .intro h b hb
  obtain⟨j,hj,e⟩:=bw hb;have:=h j<|aN.mpr hj
  simpa[ag hj,e]using this
 .intro h j hj
  have hj':=aN.mp hj
  simpa[ag hj']using h bs[j]<|aV hj'
def Gg(r:Rep O H d v)(e:ZD v u)(h:Pv.UJ d=aa n)(s:au)(Q:Bool->au->Prop)(E:ao->au->Prop)(q:Q n s) :
  aY (aT prog w) A (truthy u) Q E s:=by
 cases d with
 |non=>cases r.non';cases e;cases h;exact truthy_none q
 |bl b=>cases r.bl';cases e;cases h;exact fL q
 |int m=>
  cases r.int';obtain⟨t,rfl⟩:=e;have h':=ak h;refine np ?_;have:(m != 0)=n:=by
   rw[<-h'];by_cases z:m=0
   .subst z;rfl
   .rw[T5 z];exact bne_iff_ne.mpr z
  rw[this];exact q
 |_=>cases h
def uP(hc:X.calm=al):Z5 X (.builtin "all") (λvs H Q=>∃O ds v bs,vs=[v]/\Rep O H (.lst ds) v/\Pv.Yv ds=aa bs/\Q (.bl<|bs.all id) H):=by
 intro pq s Z H vs us Q I r h;obtain⟨O,ds,v,bs,rfl,rs,hb,q⟩:=h;obtain⟨p,xs,rfl,hx,_,rx⟩:=rs.lst';obtain⟨u,rfl,ru⟩:=JP r;cases ru;obtain⟨its,rv,pl,hz⟩:=I.list<|SqL.of hx;obtain⟨lb,tb⟩:=Qw hb;have hlt:p<s.heap.objs.size:=by obtain⟨_,e,_⟩:=pl.isList;exact aJ e
 have hlen:its.toArray.size=bs.length:=by rw[aB,<-rv.length,rx.length,lb]
 refine call_all_walk<|fN pl.isList #[s.heap.objs.size,[s.heap.objs.size,p],[s.heap.objs.size],its.toArray.size,(λi v=>its.toArray[i]?=aa v),(λi h=>h.IsListIter s.heap.objs.size p i/\h.IsList p its.toArray),λj=>bs.getD j am,rfl,Walks.list (A:=X.A.in1) (I.ok.hd hc) s.heap.objs.size p (bz hlt) its.toArray,#[#[_,aO _ rfl,rfl,rfl],pl.isList.push _],?_,?_]
 .intro j v s' Q' E' hv hQ'
  have hj:its[j]?=aa v:=by simpa using hv
  have jl:j<ds.length:=by
   have:=(a9.mp hj).1;rw[<-rv.length,rx.length]at this;exact this
  obtain⟨w',g,r'⟩:=rx.get<|ag jl;obtain⟨u',g',ru'⟩:=rv.get g;rw[hj]at g';cases g';exact Gg r' ru' (tb j _<|ag jl) s' Q' E' hQ'
 .intro h' tk hk
  rw[hlen,qI];have kp:=λb o e=>hk b o (λhm=>by
   have:b=s.heap.objs.size:=by simpa using hm
   exact T7 (this▸aJ e)<|bu _)<|aw _ e
  exact#[.bl<|bs.all id,H,I.kept (t':=tk) kp,rfl,q]
def vh(hc:X.calm=al):Z5 X (.builtin "all") (Gr X.K xw .all):=Z5.imp (uP hc)<|by
 rintro vs H Q ⟨O,S,ds,st,r,h⟩;obtain⟨d,v,z,rfl,r1,hz,h⟩:=ym h r;cases d with|lst ds=>obtain⟨bs,hb,rfl⟩:=cx.mp hz;exact#[O,ds,v,bs,rfl,r1,hb,End.ok h st<|Ym _]|_=>exact Ev.nos hz
noncomputable def ZI:Ty->String
 |.int=>"int" | .bool=>"bool" | .str=>"str" | .tuple=>"tuple" | .list=>"list" | .dict=>"dict" | .cls _=>""
def wl{K:ap}{O:Mx}{H:Hp}{x:D}{v:V}{t:Ty}{n:Bool}(rx:Rep O H x v)(ht:∀m,t≠.cls m)(h:Pv.X3 x t=aa n) :
  ∃tv,TyOf K H v tv/\mC K tv (.type<|ZI t)=aa n:=by
 cases x with
 |non=>rw[rx.non'];refine#[_,.non,?_];cases h;cases t<;>first|rfl|exact T7 rfl<|ht _
 |bl b=>rw[rx.bl'];refine#[_,.bl b,?_];cases h;cases t<;>first|rfl|exact T7 rfl<|ht _
 |int b=>rw[rx.int'];refine#[_,.int b,?_];cases h;cases t<;>first|rfl|exact T7 rfl<|ht _
 |str b=>rw[rx.str'];refine#[_,.str b,?_];cases h;cases t<;>first|rfl|exact T7 rfl<|ht _
 |tup ds=>
  obtain⟨p,xs,rfl,hp,_⟩:=rx.tup';refine#[_,.tup hp,?_];cases h;cases t<;>first|rfl|exact T7 rfl<|ht _
 |lst ds=>
  obtain⟨p,xs,rfl,hp,_⟩:=rx.lst';refine#[_,.lst hp,?_];cases h;cases t<;>first|rfl|exact T7 rfl<|ht _
 |dct o=>
  cases o with
  |some _=>exact Ev.nos h
  |none=>
   obtain⟨p,rfl,_,e⟩:=rx.dct';refine#[_,.dK e,?_];cases h;cases t<;>first|rfl|exact T7 rfl<|ht _
 |_=>exact Ev.nos h
def ZaQ(T:String):Z5 X (.builtin "isinstance") (λvs H Q=>∃v tv n,vs=[v,.ty T]/\TyOf X.K H v tv/\mC X.K tv (.type T)=aa n/\Q (.bl n) H):=by
 intro pq s Z H vs us Q I r h;obtain⟨v,tv,n,rfl,ty,e,q⟩:=h;obtain⟨u,w',rfl,r1,r2⟩:=zQ r;cases r2;exact qf I r1 ty e λtk=>#[.bl n,H,I.tok tk,rfl,q]
def Gi{T:bI}{t:Ty}(ht:∀m,t≠.cls m)(hm:X.mg "isinstance" = ae)(hmT:X.mg T=ae)(ha:CE X xw C a i)(hg:Gl X "isinstance")(hgT:Gl X T)(hvT:dC T=aa (.type<|ZI t))(hnT:T≠"__name__")(hdT:(T == ("__debug__" : bI))=am)
  (hs1:aL [a,.Name T p2] X.env=(am,cI a X.env)::aL [.Name T p2] X.env)(hs2:aL [.Name T p2] X.env=(am,cI (.Name T p2) X.env)::aL [] X.env)(hpl:(fj pos<|aL [.Name T p2] X.env).any (·.1)=am) :
  CE X xw C (.Call (.Name "isinstance" p) [a,.Name T p2] [] pos) (.isi i [t]):=.mk <|
 PE.imp (Qs (ZaQ<|ZI t) hg hm (by rfl) (Xp ha.h (Xp (GD (v:=.ty<|ZI t) hgT hmT hvT rfl hnT hdT) Qp hs2) hs1) (by decide) (by decide) hs1 hpl)<|by
  rintro Z H Q ⟨O,l,S,st,lr,h⟩;refine#[O,l,S,st,lr,End.bind (show End X.K xw Rep O H Q ((Pv.pv C i l S).bind _)from h) λx S1 ρ1 H1 v f1 st1 r1 h1=>?_]
  obtain⟨n,hn,h2⟩:=End.ob h1;have hn':Pv.X3 x t=aa n:=by
   unfold Pv.Yz at hn;cases q:Pv.X3 x t with|none=>rw[q]at hn;cases hn|some m=>rw[q]at hn;cases m<;>exact hn
  obtain⟨tv,ty,e⟩:=wl r1 ht hn';exact#[v,tv,n,rfl,ty,e,End.ok h2 st1<|Ym _]
def ZfQ(P:bt)(w:bL)(K:ap)(a:aP)(tab:List (Int×Int)):Prop:=(a == ic)=am/\∃f:Int->Option ao,(∀h:cc,K.In h->h.MapOf (gn P w) a f)/\∀k,(tab.lookup k=ae->f k=ae)/\∀j,tab.lookup k=aa j->∃t,f k=aa (.int j t)
def WH(fr:Bool)(H0:Hp)(O:Mx)(H:Hp)(d:D)(v:V):Prop:=Rep O H d v/\(fr=al->∀ds,d=.lst ds->∃a,v=.ref a/\H0 a=ae)
theorem End.fr{K:ap}{xw:Nat->Hp->Prop}{O:Mx}{H H0:Hp}{Q:VK}{r:R D}{fr:Bool}(h:End K xw Rep O H Q r):End K xw (WH fr H0) O H Q r:=by
 cases r with|ok d S=>exact λρ' H' v f st r=>h ρ' H' v f st r.1|_=>exact h
def spF(K:ap)(C:Calls)(fr:Bool)(n:Nat):Sp:=λvs H Q _=>∃O ds S,St3 K O S H/\Reps O H ds vs/\End K (λ_ _=>False) (WH fr H) O H Q (C n ds S)
def ZcP{n kk:Nat}{fr:Bool}{f:aP}{fd:c8}{ps:List bI}{x:bI}{es:List Expr}{is:List E}(F:FnOk X.prog X.w X.K X.mg X.base CX0 kk f fd ps (spF X.K C fr n))(hr:Room kk X.A)(hm:X.mg x=aa (.ref f))(hk:gQ X.K (.ref f)=al)(hb:QA X.K fd ps [])
  (ha:CA X (λ_ _=>False) C (e::es) is)(hg:Gl X x:=by rfl)(hdb:(x == ("__debug__" : bI))=am:=by decide)(he:aL (e::es) X.env=(am,cI e X.env)::aL es X.env:=by rfl)(hpl:(fj pos<|aL es X.env).any (·.1)=am:=by rfl) :
  CE X (λ_ _=>False) C (.Call (.Name x p) (e::es) [] pos) (.call n is):=.mk <|
 PE.imp (wL F hr hg hm hk hb .nil ZdN ha.h hdb he hpl) λZ H Q #[O,l,S,st,lr,h]=>
  #[O,l,S,st,lr,End.bind (show End X.K (λ_ _=>False) Rep O H Q ((Pv.pvs C is l S).bind _)from h) λxs S1 ρ1 H1 vs f1 st1 r1 h1=>by
   rw[cF];exact#[ρ1,xs,S1,st1,r1,h1.fr]]
end
abbrev Own:=Nat->Option aP
noncomputable def Mx.ex(O:Mx)(W:Own):Mx:=#[O.K,O.n0,λa=>O.X a\/∃i,W i=aa a,λa h=>.inl<|O.xz a h]
mutual
theorem Rep.flat(hk:ρ'.K=O.K)(k:∀a o,H a=aa o->(∀xs,o≠.lst xs)->(∀vs,o≠.dT vs)->H' a=aa o):∀{d:D}{v:V},d.flat=al->Rep O H d v->Rep ρ' H' d v
 |.non,_,_,h|.bl _,_,_,h|.int _,_,_,h|.str _,_,_,h=>by exact h
 |.tup ds,v,f,h=>by
  obtain⟨a,xs,e,t,r⟩:=h;exact#[a,xs,e,k a _ t (λ_ z=>by cases z) (λ_ z=>by cases z),r.flat hk k (by exact f)]
 |.scr ns,v,_,h=>by
  unfold Rep at h ⊢;obtain⟨a,e,t⟩:=h;rw[hk];refine#[a,e,?_];rcases t with⟨o,t⟩|t
  .exact .inl #[o,k a _ t (λ_ z=>by cases z) λ_ z=>by cases z]
  .exact .inr t
 |.lst _,_,f,_|.drw,_,f,_|.dct _,_,f,_|.dow _,_,f,_=>by cases f
theorem Reps.flat(hk:ρ'.K=O.K)(k:∀a o,H a=aa o->(∀xs,o≠.lst xs)->(∀vs,o≠.dT vs)->H' a=aa o):∀{ds:List D}{xs:List V},Pv.Xe ds=al->Reps O H ds xs->Reps ρ' H' ds xs
 |[],_,_,h=>by exact h
 |d::ds,xs,f,h=>by
  obtain⟨v,vs,e,r,rs⟩:=h;have f:=(aG _ _).mp f;exact#[v,vs,e,r.flat hk k f.1,rs.flat hk k f.2]
end
def X4(O:Mx)(H:Hp)(a:aP):D->Prop
 |.lst xs=>∃us,H a=aa (.lst us)/\Reps O H xs us
 |.dow ks=>∃vs,H a=aa (.dT vs)/\vs.map (·.1)=ks.map (·.map dW)
 |_=>False
def X4.ob{O:Mx}{H:Hp}{a:aP}{d:D}(h:X4 O H a d):(∃us,H a=aa (.lst us))\/∃vs,H a=aa (.dT vs):=by
 cases d with|lst xs=>obtain⟨us,e,_⟩:=h;exact .inl #[us,e]|dow ks=>obtain⟨vs,e,_⟩:=h;exact .inr #[vs,e]|_=>exact h.elim
def X4.ne{O:Mx}{H:Hp}{a:aP}{d:D}(h:X4 O H a d):H a≠ae:=by
 rcases h.ob with⟨_,z⟩|⟨_,z⟩<;>(rw[z];intro q;cases q)
def X4.rep{O:Mx}{H:Hp}{a:aP}{d:D}(h:X4 O H a d)(x:¬O.X a):Rep O H d (.ref a):=by
 cases d with|lst xs=>obtain⟨us,e,r⟩:=h;exact VA e x r|dow ks=>obtain⟨vs,e,q⟩:=h;unfold Rep;exact#[a,vs,rfl,e,x,q]|_=>exact h.elim
theorem X4.lat{O ρ':Mx}{H H':Hp}{a:aP}{d:D}(h:X4 O H a d)(f:Lat O H ρ' H')(e:H' a=H a):X4 ρ' H' a d:=by
 cases d with|lst xs=>obtain⟨us,q,r⟩:=h;exact#[us,e.trans q,r.lat f]|dow ks=>obtain⟨vs,q,r⟩:=h;exact#[vs,e.trans q,r]|_=>exact h
def Lat.own{O:Mx}{H:Hp}{b:aP}{o':HO}(x:O.X b)(hb:(∃us,H b=aa (.lst us))\/∃vs,H b=aa (.dT vs)):Lat O H O (upd H b o'):=#[rfl,rfl,λc u z nx _ nd=>by
 rw[Zv (λq=>by
  rw[q]at z;rcases hb with⟨_,e⟩|⟨_,e⟩<;>(rw[e]at z;cases z)
  .exact nx _ rfl<|q▸x
  .exact nd _ rfl<|q▸x)]
 exact z,λ_ _ z=>z]
structure Eu(O:Mx)(H0:Hp)(W:Own)(l:Lc)(os:List Nat)(Z:L2.St)(H:Hp):Prop where
 fut:Fut O H0 O H
 xd:∀a,O.X a->H0 a≠ae
 len:l.length=Z.length
 osW:∀i,os.contains i=(W i).isSome
 inj:∀i j a,W i=aa a->W j=aa a->i=j
 new:∀i a,W i=aa a->H0 a=ae
 own:∀i a,W i=aa a->∃d,l[i]?=aa (aa d)/\Z[i]?=aa (aa<|.ref a)/\X4 (O.ex W) H a d
 val:∀(i:Nat)(d:D),l[i]?=aa (aa d)->W i=ae->∃v,Z[i]?=aa (aa v)/\Rep (O.ex W) H d v
section
variable{K:ap}{O:Mx}{H0 H H':Hp}{W W':Own}{l:Lc}{os:List Nat}{Z:L2.St}{S:Zy}
def Lat.unex:Lat (O.ex W) H O H:=#[rfl,rfl,λ_ _ h _ _ _=>h,λ_ _ x=>.inl x]
theorem Fut.ex(f:Fut O H O H'):Fut (O.ex W) H (O.ex W) H':=#[rfl,f.keep]
def St3.unex(st:St3 K (O.ex W) S H):St3 K O S H:=#[st.hk,λa x=>st.xd a<|.inl x,st.dw,st.tb]
def Eu.nx(h:Eu O H0 W l os Z H)(e:W i=aa a):¬O.X a:=λz=>h.xd a z<|h.new i a e
theorem Eu.st(h:Eu O H0 W l os Z H)(st:St3 K O S H):St3 K (O.ex W) S H:=
 #[st.hk,λa x=>x.elim (st.xd a) λ#[i,e]=>(let #[_,_,_,z]:=h.own i a e;z.ne),st.dw,st.tb]
def qS(f:Fut O H O H')(x:¬O.X a)(h:H a=aa o)(n:∀ps,o≠.tbl ps:=by intro _ z;cases z):H' a=aa o:=(f.keep a o h).elim id λz=>z.elim (λz=>T7 (O.xz a z.1) x)<|by rintro ⟨⟨ps,e⟩,_⟩;exact T7 e<|n ps
def Eu.all(h:Eu O H0 W l os Z H):LocR O H l Z:=#[h.len,λi v e=>by
 cases q:W i with
 |none=>obtain⟨d,a,b⟩:=h.val i v e q;exact#[d,a,b.lat Lat.unex]
 |some n=>
  obtain⟨d,a,c,r⟩:=h.own i n q;rw[a]at e;cases e;exact#[_,c,(r.lat Lat.unex rfl).rep<|h.nx q]]
def qR(e:(Pv.hide os l)[i]?=aa (aa v)):l[i]?=aa (aa v)/\os.contains i=am:=by
 unfold Pv.hide at e;rw[iA]at e;cases q:l[i]? with
 |none=>rw[q]at e;cases e
 |some o=>
  rw[q]at e;have e':(if os.contains i=al then ae else o)=aa v:=ak e
  by_cases c:os.contains i=al
  .rw[T9 c]at e';cases e'
  .rw[T8 c]at e';exact#[by rw[e'],by simpa using c]
def hide_nil:Pv.hide [] l=l:=by
 unfold Pv.hide;refine bV λi=>?_
 rw[iA];cases l[i]?<;>rfl
def Eu.nW(h:Eu O H0 W l os Z H){i:Nat}(b:os.contains i=am):W i=ae:=by
 rw[h.osW]at b;cases q:W i with|none=>rfl|some _=>rw[q]at b;cases b
def Eu.hid(h:Eu O H0 W l os Z H):LocR (O.ex W) H (Pv.hide os l) Z:=#[by unfold Pv.hide;rw[List.length_mapIdx];exact h.len,λi v e=>by
 obtain⟨a,b⟩:=qR e;exact h.val i v a<|h.nW b]
theorem Eu.mono(h:Eu O H0 W l os Z H)(f:Fut O H O H'):Eu O H0 W l os Z H':=
 #[h.fut.trans f,h.xd,h.len,h.osW,h.inj,h.new,λi a q=>by
  obtain⟨d,p,c,r⟩:=h.own i a q;exact#[d,p,c,r.lat f.ex.lat (by rcases r.ob with⟨_,e⟩|⟨_,e⟩<;>rw[qS f (h.nx q) e,e])],λi v a b=>by
  obtain⟨d,c,r⟩:=h.val i v a b;exact#[d,c,r.mono f.ex]]
def GL{B:Type}{l:List (Option B)}{i j:Nat}{o:Option B}{v:B}(e:(l.set i o)[j]?=aa (aa v)):(i=j/\o=aa v/\i<l.length)\/(i≠j/\l[j]?=aa (aa v)):=by
 rw[kG]at e;by_cases c:i=j
 .rw[T9 c]at e
  by_cases z:i<l.length
  .rw[T9 z]at e;exact .inl #[c,ak e,z]
  .rw[T8 z]at e;cases e
 .rw[T8 c]at e;exact .inr #[c,e]
theorem Eu.set{i:Nat}{o:Option D}{v:V}(h:Eu O H0 W l os Z H)(hi:os.contains i=am)(r:∀d,o=aa d->Rep (O.ex W) H d v):Eu O H0 W (l.set i o) os (Z.set i<|aa v) H:=by
 have hw:=h.nW hi;refine#[h.fut,h.xd,by rw[bH,bH];exact h.len,h.osW,h.inj,h.new,λj n q=>?_,λj w e q=>?_]
 .obtain⟨d,a,c,e⟩:=h.own j n q
  have ij:i≠j:=λz=>by rw[z,q]at hw;cases hw
  exact#[d,by rw[bj ij];exact a,by rw[bj ij];exact c,e]
 .rcases GL e with⟨rfl,z,hl⟩|⟨c,z⟩
  .exact#[v,bZ (by rw[<-h.len];exact hl),r w z]
  .rw[bj c];exact h.val j w z q
noncomputable def QM:List Nat->List V->L2.St->L2.St
 |i::t,x::xs,Z=>QM t xs<|Z.set i<|aa x
 |_,_,Z=>Z
theorem Eu.fill:∀{t:List Nat}{vs:List D}{us:List V}{l l':Lc}{Z:L2.St},Eu O H0 W l os Z H->(t.any os.contains)=am->Reps (O.ex W) H vs us->Pv.Y7 t vs l=aa l'->us.length=t.length/\Eu O H0 W l' os (QM t us Z) H
 |[],[],_,l,l',Z,h,_,r,e=>by rw[r];cases e;exact#[rfl,h]
 |[],_::_,_,_,_,_,_,_,_,e=>by cases e
 |_::_,[],_,_,_,_,_,_,_,e=>by cases e
 |i::t,v::vs,_,l,l',Z,h,ht,r,e=>by
  obtain⟨d,ds,rfl,a,b⟩:=r;rw[m7,Bool.or_eq_false_iff]at ht;obtain⟨z,q⟩:=Eu.fill (h.set ht.1 λ_ z=>by cases z;exact a) ht.2 b e
  exact#[by rw[aF,aF,z],q]
def tGU(K:ap)(t:List Nat):TG:=λv Z H Q=>match t with
 |[i]=>Q (Z.set i<|aa v) H
 |t=>∃a xs,v=.ref a/\(SqT K H a xs\/H a=aa (.lst xs))/\xs.length=t.length/\Q (QM t xs Z) H
def Eu.assign{Q:L2.St->Hp->Prop}(h:Eu O H0 W l os Z H)(ht:(t.any os.contains)=am)(r:Rep (O.ex W) H d v)(e:Pv.Zp t d l=aa l')(q:∀σ',Eu O H0 W l' os σ' H->Q σ' H):tGU K t v Z H Q:=by
 have gen:∀t:List Nat,(t.any os.contains)=am->(match Pv.ZbA d with
   |some xs=>Pv.Y7 t xs l
   |none=>ae)=aa l'->∃a xs,v=.ref a/\(SqT K H a xs\/H a=aa (.lst xs))/\xs.length=t.length/\Q (QM t xs Z) H:=by
  intro t ht e;cases d with|tup vs=>obtain⟨p,ds,rfl,hp,rs⟩:=r.tup';obtain⟨z,y⟩:=h.fill ht rs e;exact#[p,ds,rfl,.inl<|SqT.of hp,z,q _ y]|lst vs=>obtain⟨p,ds,rfl,hp,_,rs⟩:=r.lst';obtain⟨z,y⟩:=h.fill ht rs e;exact#[p,ds,rfl,.inr hp,z,q _ y]|_=>cases e
 match t,ht,e with
 |[i],ht,e=>cases e;exact q _<|h.set (by simpa using ht) λ_ z=>by cases z;exact r
 |[],ht,e=>exact gen [] ht e
 |i::j::t,ht,e=>exact gen (i::j::t) ht e
noncomputable def noW(W:Own)(i:Nat):Own:=λj=>if j=i then ae else W j
def Wz{i j:Nat}{a:aP}(z:noW W i j=aa a):j≠i/\W j=aa a:=by
 unfold noW at z;by_cases c:j=i
 .rw[T9 c]at z;cases z
 .rw[T8 c]at z;exact#[c,z]
theorem Lat.noW{i:Nat}:Lat (O.ex W) H (O.ex<|noW W i) H:=#[rfl,rfl,λ_ _ h _ _ _=>h,λ_ _ x=>x.elim .inl λ#[j,e]=>.inr #[j,(Wz e).2]]
def Qk{i:Nat}(h:∀i,os.contains i=(W i).isSome)(j:Nat):(os.filter (· != i)).contains j=(noW W i j).isSome:=by
 unfold noW;by_cases c:j=i
 .simp[c]
 .simp only[c,if_false]
  rw[<-h j,bN,eK,eK,cq];simp[c]
def Eu.drop{i:Nat}{o:Option D}{v:V}(h:Eu O H0 W l os Z H)(r:∀d,o=aa d->Rep (O.ex<|noW W i) H d v):Eu O H0 (noW W i) (l.set i o) (os.filter (· != i)) (Z.set i<|aa v) H:=by
 refine#[h.fut,h.xd,by rw[bH,bH];exact h.len,Qk h.osW,λa b n x y=>h.inj a b n (Wz x).2 (Wz y).2,λj n z=>h.new j n (Wz z).2,λj n z=>?_,λj w e z=>?_]
 .obtain⟨d,a,c,e⟩:=h.own j n (Wz z).2
  have ij:i≠j:=Ne.symm (Wz z).1;exact#[d,by rw[bj ij];exact a,by rw[bj ij];exact c,e.lat Lat.noW rfl]
 .rcases GL e with⟨rfl,e,hl⟩|⟨c,e⟩
  .exact#[v,bZ (by rw[<-h.len];exact hl),r w e]
  .rw[bj c]
   unfold Sd.noW at z;rw[T8<|Ne.symm c]at z;obtain⟨d',a,b⟩:=h.val j w e z;exact#[d',a,b.lat Lat.noW]
noncomputable def Gu(W:Own)(i:Nat)(a:aP):Own:=λj=>if j=i then aa a else W j
def Eu.takeO{i:Nat}{a:aP}{d:D}(h:Eu O H0 W l os Z H)(hd:∀a,O.X a->H a≠ae)(f:Fut O H O H')(hn:H a=ae)(hx:¬(O.ex W).X a)(r:X4 (O.ex<|Gu W i a) H' a d)(hi:i<l.length) :
  Eu O H0 (Gu W i a) (l.set i<|aa d) (i::os.filter (· != i)) (Z.set i<|aa<|.ref a) H':=by
 have h1:=h.mono f;have get:∀{j m},Gu W i a j=aa m->(j=i/\a=m)\/(j≠i/\W j=aa m):=λ{j m} z=>by
  unfold Gu at z;by_cases c:j=i
  .rw[T9 c]at z;exact .inl #[c,ak z]
  .rw[T8 c]at z;exact .inr #[c,z]
 have na:H0 a=ae:=h.fut.new hn hd;have lt:Lat (O.ex W) H (O.ex<|Gu W i a) H':=#[rfl,rfl,f.ex.lat.keep',λb hb x=>by
  rcases x with x|⟨j,x⟩
  .exact .inl x
  .rcases get x with⟨_,z⟩|⟨_,z⟩
   .exact T7 hn<|z▸hb
   .exact .inr #[j,z]]
 refine#[h1.fut,h.xd,by rw[bH,bH];exact h.len,λj=>?_,λp q m x y=>?_,λj m z=>?_,λj m z=>?_,λj w q z=>?_]
 .have:=Qk (i:=i) h.osW j
  unfold Gu;by_cases c:j=i
  .simp[c]
  .unfold noW at this
   rw[T8 c]at this ⊢;rw[fE,this,beq_eq_false_iff_ne.mpr c,kR]
 .rcases get x with⟨x1,x2⟩|⟨x1,x2⟩<;>rcases get y with⟨y1,y2⟩|⟨y1,y2⟩
  .rw[x1,y1]
  .exact T7 (.inr #[q,x2▸y2]) hx
  .exact T7 (.inr #[p,y2▸x2]) hx
  .exact h.inj p q m x2 y2
 .rcases get z with⟨_,z⟩|⟨_,z⟩
  .exact z▸na
  .exact h.new j m z
 .rcases get z with⟨z1,z2⟩|⟨z1,z2⟩
  .subst z1 z2
   exact#[d,bZ hi,bZ (by rw[<-h.len];exact hi),r]
  .obtain⟨d',p,c,q⟩:=h.own j m z2
   exact#[d',by rw[bj<|Ne.symm z1];exact p,by rw[bj<|Ne.symm z1];exact c,q.lat lt (by rcases q.ob with⟨_,e⟩|⟨_,e⟩<;>rw[qS f (h.nx z2) e,e])]
 .unfold Gu at z
  by_cases c:j=i
  .rw[T9 c]at z;cases z
  .rw[T8 c]at z
   rw[bj<|Ne.symm c]at q ⊢;obtain⟨d,p,b⟩:=h.val j w q z;exact#[d,p,b.lat lt]
def Eu.take(h:Eu O H0 W l os Z H)(hd:∀a,O.X a->H a≠ae)(f:Fut O H O H')(hn:H a=ae)(hf:Pv.Xe xs=al)(r:Rep (O.ex W) H' (.lst xs) (.ref a))(hi:i<l.length) :
  Eu O H0 (Gu W i a) (l.set i<|aa<|.lst xs) (i::os.filter (· != i)) (Z.set i<|aa<|.ref a) H':=by
 obtain⟨_,us,en,hs,hx,rs⟩:=r.lst';cases en;exact h.takeO (d:=.lst xs) hd f hn hx #[us,hs,rs.flat (O:=O.ex W) (ρ':=O.ex<|Gu W i a) rfl (λ_ _ z _ _=>z) hf] hi
def Eu.mutO{i:Nat}{a:aP}{d':D}{o':HO}(h:Eu O H0 W l os Z H)(hw:W i=aa a)(r:X4 (O.ex W) (upd H a o') a d'):Eu O H0 W (l.set i<|aa d') os Z (upd H a o'):=by
 obtain⟨d,p,c,e⟩:=h.own i a hw;have hi:i<l.length:=(a9.mp p).1;have lt:Lat (O.ex W) H (O.ex W) (upd H a o'):=Lat.own (show(O.ex W).X a from oF #[i,hw]) e.ob
 refine#[#[rfl,λb o z=>?_],h.xd,by rw[bH];exact h.len,h.osW,h.inj,h.new,λj m z=>?_,λj w q z=>?_]
 .rw[Zv λq=>by rw[q,h.new i a hw]at z;cases z]
  exact h.fut.keep b o z
 .by_cases k:i=j
  .subst k
   rw[hw]at z;cases z;exact#[d',bZ hi,c,r]
  .obtain⟨d2,a',c',e'⟩:=h.own j m z
   exact#[d2,by rw[bj k];exact a',c',e'.lat lt<|Zv λq:m=a=>k<|h.inj i j a hw<|q▸z]
 .have k:i≠j:=λk=>by rw[<-k,hw]at z;cases z
  rw[bj k]at q;obtain⟨d,a',b'⟩:=h.val j w q z;exact#[d,a',b'.lat lt]
def Eu.mut(h:Eu O H0 W l os Z H)(hw:W i=aa a)(r:Reps (O.ex W) H ys us):Eu O H0 W (l.set i<|aa<|.lst ys) os Z (upd H a<|.lst us):=by
 obtain⟨d,p,c,e⟩:=h.own i a hw;exact h.mutO hw (d':=.lst ys) #[us,ZL,r.lat<|Lat.own (show(O.ex W).X a from oF #[i,hw]) e.ob]
def St3.mut{K:ap}{i:Nat}{a:aP}{o':HO}(st:St3 K O S H)(h:Eu O H0 W l os Z H)(hw:W i=aa a)(ht:∀ps,o'≠.tbl ps:=by intro _ z;cases z):St3 K O S (upd H a o'):=by
 obtain⟨d,p,c,e⟩:=h.own i a hw;have ne:∀b,O.X b->b≠a:=λb x z=>h.nx hw<|z▸x
 exact#[st.hk,λb x=>by rw[Zv<|ne b x];exact st.xd b x,λb x=>by rw[Zv<|ne b<|O.xz b x];exact st.dw b x,st.tb.upd (λo u z=>by rcases e.ob with⟨_,e⟩|⟨_,e⟩<;>(rw[e]at z;cases z)) ht]
structure Base(O:Mx)(H0 H1:Hp):Prop where
 fut:Fut O H0 O H1
 dom:∀a,H1 a=ae->H0 a=ae
def Eu.rebase(b:Base O H0 H1)(x:∀a,O.X a->H0 a≠ae)(h:Eu O H1 W l os Z H):Eu O H0 W l os Z H:=#[b.fut.trans h.fut,x,h.len,h.osW,h.inj,λi a e=>b.dom a<|h.new i a e,h.own,h.val]
open Classical in
noncomputable def Q2(H:Hp)(W:Own):Hp:=λa=>if ∃i,W i=aa a then ae else H a
def Eu.off(h:Eu O H0 W l os Z H)(hd:∀a,O.X a->H a≠ae):Base O H0 (Q2 H W)/\Eu O (Q2 H W) W l os Z H:=by
 have nw:∀a,H0 a≠ae->Q2 H W a=H a:=λa z=>T8 λ#[i,e]=>z<|h.new i a e
 refine#[#[#[rfl,λa o e=>?_],λa e=>?_],#[rfl,λa o e=>.inl ?_],λa x=>?_,h.len,h.osW,h.inj,λi a e=>T9 #[i,e],h.own,h.val]
 .rw[nw a (by rw[e];intro z;cases z)];exact h.fut.keep a o e
 .cases q:H0 a with
  |none=>rfl
  |some o=>
   rw[nw a<|by rw[q];intro z;cases z]at e
   rw[h.fut.new e hd]at q;cases q
 .unfold Q2 at e
  split at e
  .cases e
  .exact e
 .rw[nw a<|h.xd a x];exact hd a x
def Eu.walk(h:Eu O H0 W l os Z H)(h':Eu O (Q2 H W) W' l' os' σ' H'):Lat (O.ex W) H (O.ex W') H':=by
 refine#[rfl,rfl,λa o e x n nd=>?_,λa e x=>?_]
 .have nw:¬∃i,W i=aa a:=by
   rintro ⟨i,w⟩;obtain⟨_,_,_,z⟩:=h.own i a w;rcases z.ob with⟨us,z⟩|⟨us,z⟩<;>rw[e]at z
   .exact x us (ak z)<|.inr #[i,w]
   .exact nd us (ak z)<|.inr #[i,w]
  rcases h'.fut.keep a o (by unfold Q2;rw[T8 nw];exact e)with z|⟨z,xs,q⟩|⟨⟨ps,q⟩,_⟩
  .exact z
  .exact T7 (.inl<|O.xz a z)<|x xs q
  .exact T7 q<|n ps
 .rcases x with x|⟨i,x⟩
  .exact .inl x
  .have:=h'.new i a x
   unfold Q2 at this;split at this
   .exact .inr ‹_›
   .exact T7 this e
end
section
variable(X:Cx)(xw:Nat->Hp->Prop)(C:Calls)
def tF(f:Lc->Zy->R D):TE:=λZ H Q=>∃O l S,St3 X.K O S H/\LocR O H l Z/\End X.K xw (WH al H) O H Q (f l S)
structure CF(e:Expr)(i:E):Prop where
 h:PE X e (tF X xw<|Pv.pv C i)
end
def CF.ce{X:Cx}{xw:Nat->Hp->Prop}{C:Calls}{e:Expr}{i:E}(h:CF X xw C e i):CE X xw C e i:=.mk <| PE.imp h.h<|by rintro Z H Q ⟨O,l,S,st,lr,h⟩;exact #[O,l,S,st,lr,h.fr]
def End.newF{K:ap}{xw:Nat->Hp->Prop}{O:Mx}{H0 H:Hp}{Q:VK}{S S0:Zy}{ds:List D}{xs:List V}(h:End K xw (WH al H0) O H Q (.ok (.lst ds) S))(f:Fut O H0 O H)(s0:St3 K O S0 H0)(st:St3 K O S H)(r:Reps O H ds xs):∀p,H p=ae->Q (.ref p) (upd H p<|.lst xs):=λp hp=>
 h O _ _ (ZF hp) (st.fresh hp) #[VA ZL (st.nx hp)<|r.mono<|ZF hp,λ_ _ _=>#[p,rfl,f.new hp st.xd]]
def Zx(fr:Bool)(K:ap)(xw:Nat->Hp->Prop)(O:Mx)(H0:Hp)(D:Ends):R Pv.FlV->Prop
 |.ok (.nx l os) S=>∀H' σ' W',St3 K O S H'->Eu O H0 W' l os σ' H'->D.nx σ' H'
 |.ok (.brk l os) S=>∀H' σ' W',St3 K O S H'->Eu O H0 W' l os σ' H'->D.bk σ' H'
 |.ok (.cnt l os) S=>∀H' σ' W',St3 K O S H'->Eu O H0 W' l os σ' H'->D.ct σ' H'
 |.ok (.ret d) S=>∀H' v,Fut O H0 O H'->St3 K O S H'->WH fr H0 O H' d v->D.rt v H'
 |.ex c S=>∀H',Fut O H0 O H'->St3 K O S H'->xw c H'
 |.no=>False
section
variable{fr:Bool}{K:ap}{xw:Nat->Hp->Prop}{O:Mx}{H0 H:Hp}{B β:Type}{rep:Mx->Hp->B->β->Prop}{D:Ends}{W:Own}{l:Lc}{os:List Nat}{Z:L2.St}{S:Zy}
theorem Zx.bind{Q1:β->Hp->Prop}(he:Eu O H0 W l os Z H)(h:Zx fr K xw O H0 D (r.bind f))
  (k:∀d S H1 v,Fut O H O H1->St3 K O S H1->rep O H1 d v->Zx fr K xw O H0 D (f d S)->Q1 v H1):End K xw rep O H Q1 r:=by
 cases r with|ok d S=>exact λρ1 H1 v g st r=>by cases g.eq;exact k d S H1 v g st r h|ex c S=>exact λρ1 H1 g st=>by cases g.eq;exact h H1 (he.fut.trans g) st|no=>exact h
def Zx.bindW{Q1:β->Hp->Prop}(he:Eu O H0 W l os Z H)(h:Zx fr K xw O H0 D (r.bind f))
  (k:∀d S H1 v,Fut O H O H1->St3 K O S H1->rep (O.ex W) H1 d v->Zx fr K xw O H0 D (f d S)->Q1 v H1):End K xw rep (O.ex W) H Q1 r:=by
 cases r with|ok d S=>exact λρ1 H1 v g st r=>by cases g.eq;exact k d S H1 v #[rfl,g.keep] st.unex r h|ex c S=>exact λρ1 H1 g st=>by cases g.eq;exact h H1 (he.fut.trans #[rfl,g.keep]) st.unex|no=>exact h
def Zx.ob(h:Zx fr K xw O H0 D ((Pv.po o S).bind f)):∃a,o=aa a/\Zx fr K xw O H0 D (f a S):=by
 cases o with|none=>exact h.elim|some a=>exact#[a,rfl,h]
def Zx.guard{c:Prop}[Decidable c](h:Zx fr K xw O H0 D (if c then a else .no)):c/\Zx fr K xw O H0 D a:=by
 split at h
 .exact#[‹_›,h]
 .exact h.elim
def Zx.guardN{c:Prop}[Decidable c](h:Zx fr K xw O H0 D (if c then .no else a)):¬c/\Zx fr K xw O H0 D a:=by
 split at h
 .exact h.elim
 .exact#[‹_›,h]
theorem Zx.rebase(b:Base O H0 H1)(x:∀a,O.X a->H0 a≠ae)(h:Zx fr K xw O H0 D r):Zx fr K xw O H1 D r:=by
 cases r with
 |ok f S=>
  cases f with|nx l os=>exact λH' σ' W' st e=>h H' σ' W' st<|e.rebase b x|brk l os=>exact λH' σ' W' st e=>h H' σ' W' st<|e.rebase b x|cnt l os=>exact λH' σ' W' st e=>h H' σ' W' st<|e.rebase b x|ret d=>exact λH' v f st r=>h H' v (b.fut.trans f) st #[r.1,λz ds y=>let #[a,e,q]:=r.2 z ds y;#[a,e,b.dom a q]]
 |ex c S=>exact λH' f st=>h H' (b.fut.trans f) st
 |no=>exact h
end
section
variable(X:Cx)(xw:Nat->Hp->Prop)(fr:Bool)
def tS3(f:Lc->List Nat->Zy->R Pv.FlV):TS:=λD Z H=>∃O H0 W l os S,St3 X.K O S H/\Eu O H0 W l os Z H/\Zx fr X.K xw O H0 D (f l os S)
variable(C:Calls)(ms:List Nat)
structure CS(st:fU)(s:Sm):Prop where
 h:PS X st (tS3 X xw fr<|Pv.rv C ms s)
structure CSs(st:List fU)(s:List Sm):Prop where
 h:PSs X st (tS3 X xw fr<|Pv.rvs C ms s)
structure CG(tg:Expr)(t:List Nat):Prop where
 h:PG X tg (tGU X.K t)
def ZgN(t:List Nat):TGs:=λvs Z H Q=>vs.length=t.length/\Q (QM t vs Z) H
structure CGs(tgs:List Expr)(t:List Nat):Prop where
 h:PGs X tgs (ZgN t)
end
def PS.imp(h:PS X e t)(k:∀D Z H,t' D Z H->t D Z H):PS X e t':=λpq s Z H D I q=>h pq s Z H D I<|k D Z H q
def PSs.imp(h:PSs X e t)(k:∀D Z H,t' D Z H->t D Z H):PSs X e t':=λpq s Z H D I q=>h pq s Z H D I<|k D Z H q
def PG.imp(h:PG X e t)(k:∀v Z H Q,t' v Z H Q->t v Z H Q):PG X e t':=λpq s Z H v u Q I r q=>h pq s Z H v u Q I r<|k v Z H Q q
def PGs.imp(h:PGs X e t)(k:∀v Z H Q,t' v Z H Q->t v Z H Q):PGs X e t':=λpq s Z H v u Q I r q=>h pq s Z H v u Q I r<|k v Z H Q q
section
variable{X:Cx}{xw:Nat->Hp->Prop}{fr:Bool}{C:Calls}{ns:List Nat}{e a b c:Expr}{i j k:E}{pos p p' p2:iP}{s0:fU}{ss:List fU}{m0:Sm}{ms ms':List Sm}
def ZeH{es:List Expr}{is:List E}(h:CA X xw C es is):CF X xw C (.List es pos) (.lst is):=.mk <| PE.imp (Zao h.h)<|by
 rintro Z H Q ⟨O,l,S,st,lr,h⟩;rw[Pv.pv]at h;refine#[O,l,S,st,lr,h.bind λxs S1 ρ1 H1 vs f1 st1 r1 h1=>?_]
 obtain⟨hl,h1⟩:=h1.guard;cases f1.eq;exact#[by rw[r1.length,<-WS];exact hl,h1.newF f1 st st1 r1]
def Zd2{es:List Expr}{is:List E}(ha:CA X xw C es is)(hb:CE X xw C b j):CF X xw C (.BinOp (.List es p) .Mult b pos) (.bin .mul (.lst is) j):=.mk <| PE.imp (UP ug (Zao ha.h) hb.h)<|by
 rintro Z H Q ⟨O,l,S,st,lr,h⟩;rw[Pv.pv,Pv.pv,YM]at h;refine#[O,l,S,st,lr,h.bind λxs S1 ρ1 H1 vs f1 st1 r1 h1=>?_]
 cases f1.eq;by_cases hl:xs.length<=Ev.lim
 .rw[T9 hl]at h1
  refine#[by rw[r1.length,<-WS];exact hl,λq hq=>#[O,l,S1,st1.fresh hq,(lr.mono f1).mono<|ZF hq,?_]]
  have h2:End X.K xw (WH al H) O (upd H1 q<|.lst vs) Q ((Pv.pv C j l S1).bind λy s=>Pv.Xi .mul (.lst xs) y s):=End.mono (ZF hq) h1
  refine h2.bind λy S2 ρ2 H2 u f2 st2 r2 h2=>?_
  cases f2.eq;cases y with
  |int k=>
   obtain⟨⟨h0,h1,h2⟩,h⟩:=End.guard h2;exact#[q,k,vs,rfl,r2.int',qS f2 (st1.nx hq) ZL,#[h0,h1,by rw[r1.length];exact h2],h.newF (f1.trans<|(ZF hq).trans f2) st st2<|(r1.mono<|(ZF hq).trans f2).rep k.toNat]
  |_=>exact False.elim h2
 .rw[T8 hl]at h1;exact h1.elim
def ZeG:CSs X xw fr C ns [] []:=.mk <| PSs.imp Zdq<|by rintro D Z H ⟨O,H0,W,l,os,S,st,he,h⟩;exact h H Z W st he
def Zb0(h1:CS X xw fr C ns s0 m0)(h2:CSs X xw fr C ns ss ms):CSs X xw fr C ns (s0::ss) (m0::ms):=.mk <| PSs.imp (zu h1.h h2.h)<|by
 rintro D Z H ⟨O,H0,W,l,os,S,st,he,h⟩;refine#[O,H0,W,l,os,S,st,he,?_];rw[Pv.rvs]at h;cases q:Pv.rv C ns m0 l os S with
 |no=>rw[q]at h;exact h
 |ex c S1=>rw[q]at h;exact h
 |ok fl S1=>
  rw[q]at h;cases fl with|nx l1 os1=>exact λH1 σ1 W1 st1 he1=>#[O,H0,W1,l1,os1,S1,st1,he1,h]|_=>exact h
def Zfp(he:CE X xw C e i):CS X xw am C ns (.Return (aa e) pos) (.ret i):=.mk <| PS.imp (ZaY he.h)<|by
 rintro D Z H ⟨O,H0,W,l,os,S,st,en,h⟩;rw[Pv.rv]at h;exact#[O,l,S,st,en.all,Zx.bind en h λx S1 H1 v f1 st1 r1 h1=>h1 H1 v (en.fut.trans f1) st1 #[r1,λz=>by cases z]]
def zZ{K:ap}{O:Mx}{H0 H:Hp}{W:Own}{l:Lc}{os:List Nat}{Z:L2.St}{S:Zy}{a:aP}(en:Eu O H0 W l os Z H)(st:St3 K O S H)(h:H a=ae):H0 a=ae:=en.fut.new h st.xd
def Zcs(he:CF X xw C e i):CS X xw fr C ns (.Return (aa e) pos) (.ret i):=.mk <| PS.imp (ZaY he.h)<|by
 rintro D Z H ⟨O,H0,W,l,os,S,st,en,h⟩;rw[Pv.rv]at h;exact#[O,l,S,st,en.all,Zx.bind en h λx S1 H1 v f1 st1 r1 h1=>h1 H1 v (en.fut.trans f1) st1 #[r1.1,λ_ ds y=>let #[a,e,q]:=r1.2 rfl ds y;#[a,e,zZ en st q]]]
def Zdg{n:Nat}{is:List E}(he:CE X xw C e (.call n is))(hs:iX e ae pos.line X.env=cY am):CS X xw fr C ns (.Expr e pos) (.ex<|.call n is):=.mk <| PS.imp (w6 he.h hs) λD Z H #[O,H0,W,l,os,S,st,en,h]=>
 #[O,l,S,st,en.all,Zx.bind en (show Zx fr X.K xw O H0 D ((Pv.pv C (.call n is) l S).bind λ_ s=>.ok (.nx l os) s)from h) λx S1 H1 v f1 st1 r1 h1=>h1 H1 Z W st1<|en.mono f1]
def ZfW{sa sb:List fU}(hc:CT X xw C c k)(ha:CSs X xw fr C ns sa ms)(hb:CSs X xw fr C ns sb ms'):CS X xw fr C ns (.If c sa sb pos) (.ite k ms ms'):=.mk <| PS.imp (ZfL hc.h ha.h hb.h)<|by
 rintro D Z H ⟨O,H0,W,l,os,S,st,en,h⟩;rw[Pv.rv]at h;refine#[O,l,S,st,en.all,Zx.bind en h λx S1 H1 v f1 st1 r1 h1=>?_]
 have e1:x=v:=r1;subst e1;cases x with|true=>exact#[O,H0,W,l,os,S1,st1,en.mono f1,h1]|false=>exact#[O,H0,W,l,os,S1,st1,en.mono f1,h1]
def Zb5{n:Nat}{x:bI}(hN:X.N.Nodup)(hi:X.N[n]?=aa x)(hx:L2.Loc X.env.scope x)(hf:X.fn x=al\/X.env.scope.names.lookup x=aa .local):CG X (.Name x pos) [n]:=.mk <|
 PG.imp (J7 hN hi hx hf) λv Z H Q q=>q
def Zdh:CGs X [] []:=.mk <| PGs.imp ZbG<|by
 rintro vs Z H Q ⟨h,q⟩;cases vs with|nil=>exact#[rfl,q]|cons _ _=>cases h
def jm{tgs:List Expr}{n:Nat}{t:List Nat}{x:bI}(hN:X.N.Nodup)(h2:CGs X tgs t)(hi:X.N[n]?=aa x)(hx:L2.Loc X.env.scope x)(hf:X.fn x=al\/X.env.scope.names.lookup x=aa .local)
  (hs:(cA (.Name x pos::tgs) X.env).map (·.2)=dQ (.Name x pos) X.env::(cA tgs X.env).map (·.2)):CGs X (.Name x pos::tgs) (n::t):=.mk <|
 PGs.imp (jb (J7 hN hi hx hf) h2.h hs)<|by
  rintro vs Z H Q ⟨h,q⟩;cases vs with|nil=>cases h|cons v vs=>exact#[v,vs,rfl,Nat.succ.inj h,q]
theorem JT{E:ao->au->Prop}(hne:t≠it):∀(n i:Nat)(s:au)(Q:List ao->au->Prop),s.heap.IsListIter it t i->s.heap.IsList t items->i+n<=items.size->
  (∀h',cc.IsListIter h' it t (i+n)->fB it s.heap h'->Q ((items.toList.drop i).take n) {s with heap:=h' })->aY (aT prog w) A (draw (.ref it) n) Q E s
 |0,i,s,Q,hit,_,_,hQ=>by
  exact ax (by simpa using hQ s.heap hit<|fB.refl ..)
 |n+1,i,s,Q,hit,ht,hle,hQ=>by
  have hlt:i<items.size:=by lia
  refine ab<|lF hit ht (x:=items[i]) (by simp[hlt]) λh₁ hit₁ hs₁=>?_
  refine ab<|ck<|JT hne n (i+1) _ _ hit₁ (ht.extBut hs₁.extBut hne) (by lia) λh₂ hit₂ hs₂=>ax ?_
  have hd:items.toList.drop i=items[i]::items.toList.drop (i+1):=by simp[cp,hlt]
  have:=hQ h₂ (by rw[show i+(n+1)=i+1+n by lia];exact hit₂)<|hs₁.trans hs₂
  rw[hd,List.take_succ_cons]at this;exact this
theorem z7{E:ao->au->Prop}{x1}{Q:Unit->au->Prop}(hh:A.handled=ae)(ht:s.heap.IsList t items)
  (hn:(cA elts env).length=items.size)(hstar:(cA elts env).findIdx? (·.1)=ae)
  (h:∀h',kJ s.heap.objs.size s.heap h'->aY (aT prog w) A (m4 ((cA elts env).map (·.2)) items.toList) Q E {s with heap:=h' }) :
  aY (aT prog w) A (dQ (.Tuple elts x1 pos) env<|.ref t) Q E s:=by
 rw[assign_Tuple];refine ab<|eg ?_;have hlt:t≠s.heap.objs.size:=by obtain⟨o,ho,_⟩:=ht;exact bz<|aJ ho
 unfold unpack;rw[hn,hstar];refine ab<|ck ?_;refine ab ?_;refine ab<|gq ht.typeIs slot_list_iter.lookup ?_;refine ax ?_;simp only[b8,if_false];refine ab<|ck<|fN ht ?_;refine ab<|ck<|JT hlt items.size 0 _ _ #[_,aO _ rfl,rfl,rfl] (ht.push _) (by lia) λh₁ hit₁ hs₁=>?_
 have hall:i4 items.size (rz 0 items.toList)=items.toList:=by
  rw[kf];exact cy (by simp)
 rw[hall];rw[T8 (by simp)]
 have ht₁:=(ht.push _).extBut hs₁.extBut hlt;refine ab<|ck<|ml hh hit₁ ht₁ (by simp) λh₂ he₂=>?_
 simp only[Option.isSome_none,b8,if_false];exact ax<|h h₂ λb o hb e=>he₂ b o hb<|hs₁.extBut b o hb<|aw _ e
def gTL(K:ap)(n:Nat)(t:TGs):TG:=λv Z H Q=>∃a xs,v=.ref a/\(SqT K H a xs\/H a=aa (.lst xs))/\xs.length=n/\t xs Z H Q
def Zgt{X:Cx}{pos:iP}{es:List Expr}{k:Nat}{t:TGs}{n:Nat}(hc:X.calm=al)(h:PGs X es t)
  (hn:(cA es X.env).length=n:=by rfl)(hst:(cA es X.env).findIdx? (·.1)=ae:=by rfl):PG X (.Tuple es k pos) (gTL X.K n t):=by
 intro pq s Z H v u Q I r hw;obtain⟨a,xs,e1,hq|hq,hl,hw⟩:=hw
 .exact ZfC hc h hn hst pq s Z H v u Q I r #[a,xs,e1,hq,hl,hw]
 .subst e1
  cases r;obtain⟨its,rv,pl,hz⟩:=I.list<|SqL.of hq;refine z7 (I.ok.hd hc) pl.isList (by simp[hn,<-hl,rv.length]) hst λh' hx=>?_
  have I1:=I.kept (t':=s.toks) λb o e=>hx b o (bz<|aJ e) e
  exact h pq _ Z H xs _ Q I1 (by simpa using rv) hw
def Zeb{tgs:List Expr}{q2:Nat}{n m:Nat}{r:List Nat}(hc:X.calm=al)(h:CGs X tgs (n::m::r))(hn:(cA tgs X.env).length=(n::m::r).length)(hst:(cA tgs X.env).findIdx? (·.1)=ae):CG X (.Tuple tgs q2 pos) (n::m::r):=.mk <|
 PG.imp (Zgt hc h.h hn hst)<|by rintro v Z H Q ⟨a,xs,e,hp,hl,q⟩;exact #[a,xs,e,hp,hl,hl,q]
def Zx.evA{D:Ends}{K:ap}{O:Mx}{H0 H:Hp}{W:Own}{l:Lc}{os:List Nat}{Z:L2.St}{S:Zy}{f:Pv.V->Zy->R Pv.FlV}{Q1:VK}(z:Bool)(hz:Pv.fresh i=al->z=al)(st:St3 K O S H)(en:Eu O H0 W l os Z H)(h:Zx fr K xw O H0 D ((Pv.pvA C i l os S).bind f))
  (k:∀d S1 H1 v,Fut O H O H1->St3 K O S1 H1->WH z H (O.ex W) H1 d v->Zx fr K xw O H0 D (f d S1)->Q1 v H1):∃ρ' l' S,St3 K ρ' S H/\LocR ρ' H l' Z/\End K xw (WH z H) ρ' H Q1 (Pv.pv C i l' S):=by
 have hid:Zx fr K xw O H0 D ((Pv.pv C i (Pv.hide os l) S).bind f)->∃ρ' l' S,St3 K ρ' S H/\LocR ρ' H l' Z/\End K xw (WH z H) ρ' H Q1 (Pv.pv C i l' S):=λh=>#[O.ex W,Pv.hide os l,S,en.st st,en.hid,Zx.bindW en h k]
 cases os with
 |nil=>exact hid (by rw[hide_nil];exact h)
 |cons o os=>
  have h:Zx fr K xw O H0 D (Pv.PR.bind (match Pv.pv C i (Pv.hide (o::os) l) S with
   |.ok v s=>.ok v s
   |.ex c s=>.ex c s
   |.no=>(Pv.pv C i l S).bind λv s=>if(v.flat||Pv.fresh i&&Pv.ur v)=al then .ok v s else .no) f):=h
  cases q:Pv.pv C i (Pv.hide (o::os) l) S with
  |ok v s=>rw[q]at h;exact hid (by rw[q];exact h)
  |ex c s=>rw[q]at h;exact hid (by rw[q];exact h)
  |no=>
   rw[q]at h;have h:Zx fr K xw O H0 D (((Pv.pv C i l S).bind λv s=>if(v.flat||Pv.fresh i&&Pv.ur v)=al then Pv.PR.ok v s else .no).bind f):=h
   rw[YM]at h;refine#[O,l,S,st,en.all,Zx.bind en h λd S1 H1 v f1 st1 r1 h1=>?_]
   by_cases c:(d.flat||Pv.fresh i&&Pv.ur d)=al
   case neg=>rw[T8 c]at h1;exact h1.elim
   rw[T9 c]at h1;refine k d S1 H1 v f1 st1 #[?_,r1.2] h1;rcases(gu _ _).mp c with c|c
   .exact Rep.flat (O:=O) (ρ':=O.ex W) rfl (λ_ _ z _ _=>z) c r1.1
   .obtain⟨c1,c2⟩:=(aG _ _).mp c
    cases d with
    |lst xs=>
     obtain⟨a,rfl,ha⟩:=r1.2 (hz c1) xs rfl;obtain⟨_,us,e,hs,hx,rs⟩:=r1.1.lst';cases e;exact VA hs (λx=>x.elim hx λ#[i,w]=>let #[_,_,_,z]:=en.own i a w;T7 ha z.ne)<|rs.flat (O:=O) (ρ':=O.ex W) rfl (λ_ _ z _ _=>z) c2
    |_=>cases c2
def End.unfr{K:ap}{O:Mx}{H H0:Hp}{Q:VK}{r:R D}(h:End K xw (WH am H0) O H Q r):End K xw Rep O H Q r:=by
 cases r with|ok d S=>exact λρ' H' v f st r=>h ρ' H' v f st #[r,λz=>by cases z]|_=>exact h
def ZbJ{n:Nat}{tg:Expr}(he:CE X xw C e i)(hg:CG X tg [n])(hf:Pv.fresh i=am)(hs:dN [tg] e pos.line X.env=cY am)(hw:dO [tg] e X.env=cY ae)
  (h1:(cA [tg] X.env).map (·.2)=[dQ tg X.env]):CS X xw fr C ns (.Assign [tg] e pos) (.asg [n] i):=.mk <| PS.imp (VU he.h hg.h hs hw h1)<|by
 rintro D Z H ⟨O,H0,W,l,os,S,st,en,h⟩;rw[Pv.rv]at h;obtain⟨ρ',l',S',a,b,c⟩:=Zx.evA (Q1:=λx H1=>tGU X.K [n] x Z H1 D.nx) am (λz=>by rw[hf]at z;cases z) st en h λd S1 H1 v f1 st1 r1 h1=>by
  rw[hf,pG,T8 aI]at h1;exact h1 H1 _ _ st1<|(en.mono f1).drop (o:=aa d) λ_ z=>by cases z;exact r1.1.lat Lat.noW
 exact#[ρ',l',S',a,b,c.unfr]
def Zfz{D:Ends}{O:Mx}{H0 H:Hp}{W:Own}{l:Lc}{os:List Nat}{Z:L2.St}{S:Zy}{n:Nat}(st:St3 X.K O S H)(en:Eu O H0 W l os Z H)(h:Zx fr X.K xw O H0 D (Pv.rv C ns (.asg [n] i) l os S)):tF X xw (Pv.pv C i) Z H λx H1=>D.nx (Z.set n<|aa x) H1:=by
 rw[Pv.rv]at h;refine Zx.evA al (λ_=>rfl) st en h λd S1 H1 v f1 st1 r1 h1=>?_
 by_cases c:(ns.contains n&&Pv.fresh i)=al
 .rw[T9 c]at h1
  cases d with
  |lst xs=>
   obtain⟨⟨hf,hl⟩,h1⟩:=Zx.guard h1;obtain⟨a,rfl,ha⟩:=r1.2 rfl xs rfl;exact h1 H1 _ _ st1<|en.take st.xd f1 ha hf r1.1 hl
  |_=>exact h1.elim
 .rw[T8 c]at h1
  exact h1 H1 _ _ st1<|(en.mono f1).drop (o:=aa d) λ_ z=>by cases z;exact r1.1.lat Lat.noW
def Zb2{n:Nat}{tg:Expr}(he:CF X xw C e i)(hg:CG X tg [n])(hs:dN [tg] e pos.line X.env=cY am)(hw:dO [tg] e X.env=cY ae)
  (h1:(cA [tg] X.env).map (·.2)=[dQ tg X.env]):CS X xw fr C ns (.Assign [tg] e pos) (.asg [n] i):=.mk <| PS.imp (VU he.h hg.h hs hw h1)<|by rintro D Z H ⟨O,H0,W,l,os,S,st,en,h⟩;exact Zfz st en h
def Zer{n m:Nat}{t:List Nat}{tg:Expr}(he:CE X xw C e i)(hg:CG X tg (n::m::t))(hf:Pv.fresh i=am)(hs:dN [tg] e pos.line X.env=cY am)(hw:dO [tg] e X.env=cY ae)
  (h1:(cA [tg] X.env).map (·.2)=[dQ tg X.env]):CS X xw fr C ns (.Assign [tg] e pos) (.asg (n::m::t) i):=.mk <| PS.imp (VU he.h hg.h hs hw h1)<|by
 rintro D Z H ⟨O,H0,W,l,os,S,st,en,h⟩;rw[Pv.rv]at h
 .obtain⟨ρ',l',S',a,b,c⟩:=Zx.evA (Q1:=λx H1=>tGU X.K (n::m::t) x Z H1 D.nx) am (λz=>by rw[hf]at z;cases z) st en h λd S1 H1 v f1 st1 r1 h1=>by
   obtain⟨ht,h1⟩:=h1.guardN;obtain⟨l',hl,h1⟩:=Zx.ob h1;exact(en.mono f1).assign (by simpa using ht) r1.1 hl λσ' e'=>h1 H1 σ' W st1 e'
  exact#[ρ',l',S',a,b,c.unfr]
 .intro _ z;cases z
end
theorem Eu.at{O:Mx}{H0 H:Hp}{W:Own}{l:Lc}{os:List Nat}{Z:L2.St}{i:Nat}{xs:List D}(h:Eu O H0 W l os Z H)(hi:os.contains i=al)(hx:Pv.VB l[i]?=aa xs):∃a,W i=aa a/\Z[i]?=aa (aa<|.ref a)/\∃us,H a=aa (.lst us)/\Reps (O.ex W) H xs us:=by
 rw[h.osW]at hi;obtain⟨a,w⟩:=de.mp hi;obtain⟨d,p,c,r⟩:=h.own i a w;rw[p]at hx;cases d with|lst ys=>cases hx;exact#[a,w,c,r]|_=>cases hx
section
variable{X:Cx}{xw:Nat->Hp->Prop}{fr:Bool}{C:Calls}{ns:List Nat}{e a b c:Expr}{i j k:E}{pos p p' p2:iP}{s0:fU}{ms ms':List Sm}{n:Nat}{x:bI}
def ZeS{ix:Expr}{ii:E}(hi:CE X xw C ix ii)(he:CE X xw C e i)(hN:X.N[n]?=aa x)(hv:Vis X.env.scope x)(hd:(x == ("__debug__" : bI))=am)
  (hcd:(x == ("__classdict__" : bI))=am)
  (ha:∀v,dQ (.Subscript (.Name x p') ix p) X.env v=(do
   let ov <-fV [v] (cI (.Name x p') X.env)
   let iv <-fV [v,ov] (cI ix X.env)
   kD p
   fV [v,ov,iv] (rA ov iv v)
   release [v,ov,iv] []))(hs:dN [.Subscript (.Name x p') ix p] e pos.line X.env=cY am)(hw:dO [.Subscript (.Name x p') ix p] e X.env=cY ae)
  (h1:(cA [.Subscript (.Name x p') ix p] X.env).map (·.2)=[dQ (.Subscript (.Name x p') ix p) X.env]):CS X xw fr C ns (.Assign [.Subscript (.Name x p') ix p] e pos) (.put (.v n) ii i):=.mk <|
 PS.imp (VU he.h (jI (Gc hN hv hd hcd) hi.h (zH (X:=X)) ha) hs hw h1)<|by
 rintro D Z H ⟨O,H0,W,l,os,S,st,en,h⟩;rw[Pv.rv]at h;obtain⟨c,h⟩:=h.guard;refine#[O,l,S,st,en.all,Zx.bind en h λy S1 H1 v f1 st1 r1 h1=>?_]
 obtain⟨hf,h1⟩:=h1.guard;obtain⟨xs,hx,h1⟩:=Zx.ob h1;obtain⟨a,ha,q,_⟩:=(en.mono f1).at c hx;refine#[.ref a,q,O,l,S1,st1,(en.mono f1).all,Zx.bind (en.mono f1) h1 λz S2 H2 w f2 st2 r2 h2=>?_]
 have en2:=(en.mono f1).mono f2;obtain⟨a',ha',_,us,e2,r'⟩:=en2.at c hx;rw[ha]at ha';cases ha';cases z with
 |int m=>
  obtain⟨j,hj,h2⟩:=Zx.ob h2;exact#[a,us,m,j,rfl,r2.int',e2,by rw[r'.length];exact hj,h2 _ _ W (st2.mut en2 ha)<|en2.mut ha<|Reps.set (Rep.flat (O:=O) (ρ':=O.ex W) rfl (λ_ _ z _ _=>z) hf<|r1.mono f2) j r']
 |_=>exact h2.elim
def uX{apos cpos:iP}(he:CE X xw C e i)(hN:X.N[n]?=aa x)(hv:Vis X.env.scope x)(hd:(x == ("__debug__" : bI))=am)
  (hcd:(x == ("__classdict__" : bI))=am)
  (hbase:attributeBase (.Name x p) "extend" X.env (cI (.Name x p) X.env)=cI (.Name x p) X.env)
  (hfew:((fj cpos<|aL [e] X.env).all (λx=>!x.1)&&(backToKw cpos<|keywordEach [] X.env).all (λx=>x.1.isSome)
   && aj (([e]:List Expr).length+([]:List rC).length+(if([]:List rC).isEmpty then 0 else 1)<30))=al)
  (hline:(apos.endLine == cpos.line)=al)(hs:aL [e] X.env=(am,cI e X.env)::aL [] X.env)(hplain:(fj cpos<|aL [] X.env).any (·.1)=am)
  (hw:iX (.Call (.Attribute (.Name x p) "extend" apos) [e] [] cpos) ae pos.line X.env=cY am) :
  CS X xw fr C ns (.Expr (.Call (.Attribute (.Name x p) "extend" apos) [e] [] cpos) pos) (.ex<|.mt .extend (.v n) [i]):=.mk <|
 PS.imp (w6 (Zgf PySem.F.plainAttrs_list PySem.F.slot_list_extend PySem.F.type_list_extend uz (Gc hN hv hd hcd) (Xp he.h Qp hs) hbase hfew hline hs hplain) hw)<|by
 rintro D Z H ⟨O,H0,W,l,os,S,st,en,h⟩;rw[Pv.rv]at h;obtain⟨c,h⟩:=h.guard;obtain⟨xs,hx,h⟩:=Zx.ob h;obtain⟨a,ha,q,us,e1,_⟩:=en.at c hx;refine#[.ref a,q,.inl #[rfl,us,SqL.of e1],O.ex W,Pv.hide os l,S,en.st st,en.hid,Zx.bindW en h λy S1 H1 v f1 st1 r1 h1=>?_]
 cases y with
 |lst ys=>
  obtain⟨⟨hf,hl⟩,h1⟩:=Zx.guard h1;have en1:=en.mono f1;obtain⟨a',ha',_,us,e2,r'⟩:=en1.at c hx;rw[ha]at ha';cases ha';obtain⟨b,ws,rfl,e3,_,r3⟩:=r1.lst';exact#[a,b,us,ws,rfl,rfl,e2,e3,by rw[r'.length,r3.length,<-WS];exact hl,h1 _ _ W (st1.mut en1 ha)<|en1.mut ha<|r'.append r3]
 |_=>exact h1.elim
def Zfo{m:Nat}{y:bI}{px py pt:iP}{kt k2 pt2}(hc:X.calm=al)(hN:X.N.Nodup)(ha:CA X xw C [a,b] [i,j])(hnm:n≠m)(hi:X.N[n]?=aa x)(hj:X.N[m]?=aa y)
  (hx:X.env.scope.names.lookup x=aa .local)(hy:X.env.scope.names.lookup y=aa .local)
  (hw:dO [.Tuple [.Name x px,.Name y py] kt pt] (.Tuple [a,b] k2 pt2) X.env=cY (aa [x,y]))
  (hs:dN [.Tuple [.Name x px,.Name y py] kt pt] (.Tuple [a,b] k2 pt2) pos.line X.env=cY am) :
  CS X xw fr C ns (.Assign [.Tuple [.Name x px,.Name y py] kt pt] (.Tuple [a,b] k2 pt2) pos) (.par [n,m] [i,j]):=.mk <|
 PS.imp (ZeP hc hN hi hj hnm hx hy ha.h hw hs)<|by
 rintro D Z H ⟨O,H0,W,l,os,S,st,en,h⟩;rw[Pv.rv]at h;have fin:∀{vs:List Pv.V}{us:List V}{S1:Zy}{H1:Hp},Fut O H O H1->St3 X.K O S1 H1->Reps (O.ex W) H1 vs us->Zx fr X.K xw O H0 D (if([n,m].any os.contains)=al then .no else(Pv.po (Pv.Y7 [n,m] vs l) S1).bind λO s=>.ok (.nx O os) s)->∃v w,us=[v,w]/\D.nx ((Z.set n<|aa v).set m<|aa w) H1:=λ{vs us S1 H1} f1 st1 r1 h1=>by
  obtain⟨ht,h1⟩:=h1.guardN;obtain⟨l',hl,h1⟩:=Zx.ob h1;obtain⟨hz,e'⟩:=(en.mono f1).fill (by simpa using ht) r1 hl
  match us,hz,e' with
  |[v,w],_,e'=>exact#[v,w,rfl,h1 H1 _ W st1 e']
 cases os with
 |nil=>exact#[O.ex W,Pv.hide [] l,S,en.st st,en.hid,Zx.bindW en (by rw[hide_nil];exact h) λvs S1 H1 us f1 st1 r1 h1=>fin f1 st1 r1 h1]
 |cons o os=>
  have h:Zx fr X.K xw O H0 D (Pv.PR.bind (match Pv.pvs C [i,j] (Pv.hide (o::os) l) S with
   |.ok v s=>.ok v s
   |.ex c s=>.ex c s
   |.no=>(Pv.pvs C [i,j] l S).bind λv s=>if Pv.Xe v then .ok v s else .no) _):=h
  cases q:Pv.pvs C [i,j] (Pv.hide (o::os) l) S with
  |ok v s=>rw[q]at h;exact#[O.ex W,_,S,en.st st,en.hid,Zx.bindW en (by rw[q];exact h) λvs S1 H1 us f1 st1 r1 h1=>fin f1 st1 r1 h1]
  |ex c s=>rw[q]at h;exact#[O.ex W,_,S,en.st st,en.hid,Zx.bindW en (by rw[q];exact h) λvs S1 H1 us f1 st1 r1 h1=>fin f1 st1 r1 h1]
  |no=>
   rw[q]at h;have h:Zx fr X.K xw O H0 D (((Pv.pvs C [i,j] l S).bind λv s=>if Pv.Xe v=al then Pv.PR.ok v s else .no).bind _):=h
   rw[YM]at h;refine#[O,l,S,st,en.all,Zx.bind en h λvs S1 H1 us f1 st1 r1 h1=>?_]
   by_cases c:Pv.Xe vs=al
   case neg=>rw[T8 c]at h1;exact h1.elim
   rw[T9 c]at h1;exact fin f1 st1 (Reps.flat (O:=O) (ρ':=O.ex W) rfl (λ_ _ z _ _=>z) c r1) h1
def ZaV{n:Nat}:CS X (λ_ _=>False) fr C ns s0 (.raise n []):=.mk <| λpq s Z H D I #[O,H0,W,l,os,S,st,en,h]=>
 False.elim ((show Zx fr X.K (λ_ _=>False) O H0 D (.ex n S)from h) H en.fut st)
structure AugOk(X:Cx)(op:pC)(o:Bop):Prop where
 h:∃t:TIp,PIp X op t/\∀(xw:Nat->Hp->Prop) O S H n m Q,St3 X.K O S H->End X.K xw Rep O H Q (Pv.Xi o (.int n) (.int m) S)->t (.int n) (.int m) H Q
def ZaK:AugOk X .Add .add:=#[_,Zcw,λxw O S H n m Q st h=>#[n,m,rfl,rfl,End.ok h st<|ZS _]]
def qP{o:Bop}{a b:Int}{S S':Zy}{z:D}(h:Pv.Q4 o a b S=.ok z S'):∃y,z=.int y:=by
 unfold Pv.Q4 at h;cases o<;>simp only at h<;>first
  |(cases h;exact#[_,rfl])
  |(split at h<;>cases h;exact#[_,rfl])
def ZfJ{op:pC}{o:Bop}(ho:AugOk X op o)(hN:X.N.Nodup)(he:CE X xw C e i)(hi:X.N[n]?=aa x)(hx:L2.Loc X.env.scope x)(hf:X.fn x=al\/X.env.scope.names.lookup x=aa .local) :
  CS X xw fr C ns (.AugAssign (.Name x p) op e pos) (.aug n o i):=.mk <| by
 obtain⟨t,ht,hq⟩:=ho.h;refine PS.imp (Zef hN hi hx he.h ht hf) λD Z H #[O,H0,W,l,os,S,st,en,h]=>?_
 rw[Pv.rv]at h;obtain⟨c,h⟩:=h.guardN;obtain⟨d,hd,h1⟩:=Zx.ob h;obtain⟨v,hv,rv⟩:=en.all.val n d (by cases q:l[n]?<;>rw[q]at hd<;>cases hd;rfl)
 refine#[v,hv,O,l,S,st,en.all,Zx.bind en h1 λy S1 H1 u f1 st1 r1 h2=>?_]
 cases d with
 |int m=>cases y with
  |int m'=>
   rw[rv.int',r1.int'];have h2:Zx fr X.K xw O H0 D ((Pv.Q4 o m m' S1).bind λz S=>.ok (.nx (l.set n<|aa z) os) S):=h2
   refine hq xw O S1 H1 m m' _ st1 (show End X.K xw Rep O H1 _ (Pv.Q4 o m m' S1)from ?_)
   have en1:=en.mono f1;cases q:Pv.Q4 o m m' S1 with
   |no=>rw[q]at h2;exact h2
   |ex c S2=>rw[q]at h2;exact λρ1 H2 g s2=>by cases g.eq;exact h2 H2 (en1.fut.trans g) s2
   |ok z S2=>
    rw[q]at h2;obtain⟨y,rfl⟩:=qP q;exact λρ1 H2 w g s2 r2=>by
     cases g.eq;cases r2.int';exact h2 H2 _ W s2<|(en1.mono g).set (o:=aa<|.int y) (by simpa using c) λ_ z=>by cases z;exact ZS _
  |_=>exact False.elim h2
 |_=>exact False.elim h2
def Zbg{body:List fU}(hp:ot (aT X.prog X.w) X.A X.env X.xe)(hc:CT X xw C c k)(hb:CSs X xw fr C ns body ms):CS X xw fr C ns (.While c body [] pos) (.whl k ms):=.mk <| PS.imp (Zag hp hc.h hb.h)<|by
 rintro D Z H ⟨O,H0,W,l,os,S,st,en,h⟩;refine#[λm σ' H'=>∃W' l' os' S',St3 X.K O S' H'/\Eu O H0 W' l' os' σ' H'/\Zx fr X.K xw O H0 D (Pv.XC (Pv.Xz C k) (Pv.rvs C ns ms) m l' os' S'),#[Ev.y9,W,l,os,S,st,en,h],?_]
 rintro m σ' H' ⟨W',l',os',S',st',en',e'⟩
 cases m with
 |zero=>exact False.elim e'
 |succ m=>
  rw[Pv.XC]at e';refine#[O,l',S',st',en'.all,Zx.bind en' e' λb S1 H1 b' f1 st1 r1 h1=>?_]
  have eb:b=b':=r1;subst eb;cases b with
  |false=>
   rw[T8 aI]at h1 ⊢;exact h1 H1 σ' W' st1<|en'.mono f1
  |true=>
   rw[T9 rfl]at h1 ⊢;refine#[λσ2 H2=>∃W2 l2 os2 S2,St3 X.K O S2 H2/\Eu O H0 W2 l2 os2 σ2 H2/\Zx fr X.K xw O H0 D (Pv.XC (Pv.Xz C k) (Pv.rvs C ns ms) m l2 os2 S2),λσ2 H2 w=>#[m,ip m,w],O,H0,W',l',os',S1,st1,en'.mono f1,?_]
   cases q:Pv.rvs C ns ms l' os' S1 with
   |no=>rw[q]at h1;exact h1
   |ex c S2=>rw[q]at h1;exact h1
   |ok fl S2=>
    rw[q]at h1;cases fl with|nx l3 os3=>exact λH4 σ4 W4 st4 lr4=>#[W4,l3,os3,S2,st4,lr4,h1]|cnt l3 os3=>exact λH4 σ4 W4 st4 lr4=>#[W4,l3,os3,S2,st4,lr4,h1]|brk l3 os3=>exact h1|ret d=>exact h1
end
structure WRel(K:ap)(O:Mx)(H:Hp)(w:List D)(J:It):Prop where
 go:∀(i:Nat) ρ' S' H',Lat O H ρ' H'->St3 K ρ' S' H'->i<w.length->J.go i H'/\∀x H'',J.yld i H' x H''->Fut ρ' H' ρ' H''/\St3 K ρ' S' H''/\∀d,w[i]?=aa d->Rep ρ' H'' d x
 stop:∀ρ' S' H',Lat O H ρ' H'->St3 K ρ' S' H'->J.stop w.length H'
section
variable(X:Cx)(xw:Nat->Hp->Prop)
def tW3(f:Lc->Zy->R (List D)):TI:=λZ H Q=>∃O l S,St3 X.K O S H/\LocR O H l Z/\End X.K xw (WRel X.K) O H Q (f l S)
structure CW(C:Calls)(tg it:Expr)(w:Ev.W):Prop where
 h:PI X tg it (tW3 X xw<|Pv.pvw C w)
end
def PI.imp(h:PI X tg it t)(k:∀Z H Q,t' Z H Q->t Z H Q):PI X tg it t':=λpq s Z H R I q=>h pq s Z H R I<|k Z H R q
section
variable{X:Cx}{xw:Nat->Hp->Prop}{C:Calls}{e a b c tg it:Expr}{i j k:E}{pos p p' p2:iP}
def ZgY(K:ap)(tl:TE):TI:=λZ H R=>tl Z H λx H1=>∃a,x=.ref a/\(((∃xs,SqL K H1 a xs)/\R (Itl K a) H1)\/((∃xs,SqT K H1 a xs)/\R (Itt K a) H1))
def Zfj(hl:PE X l tl):PI X tg l (ZgY X.K tl):=by
 intro pq s Z H R I h;refine thn (hl pq s Z H _ I h) λv s1 #[x,H1,I1,r1,a,e,q]=>?_
 subst e;cases r1;rcases q with⟨⟨xs,hq⟩,q⟩|⟨⟨xs,hq⟩,q⟩
 .obtain⟨its,rv,p,hz⟩:=I1.list hq
  refine fN p.isList ?_;refine#[s1.heap.objs.size,[s1.heap.objs.size],_,_,H1,rfl,I1.kept (t':=s1.toks) λb o e=>aw _ e,u6 a _,#[_,aO _ rfl,rfl,rfl],λb hb=>?_,q]
  have e:b=s1.heap.objs.size:=by simpa using hb
  subst e;exact I1.fpOk (aM _)<|I1.hok.fresh<|aM _
 .obtain⟨its,rv,p,hz⟩:=I1.tuple hq
  refine gA (p) ?_
  refine#[s1.heap.objs.size,[s1.heap.objs.size],_,_,H1,rfl,I1.kept (t':=s1.toks) λb o e=>aw _ e,xV a _,#[_,aO _ rfl,rfl,rfl],λb hb=>?_,q]
  have e:b=s1.heap.objs.size:=by simpa using hb
  subst e;exact I1.fpOk (aM _)<|I1.hok.fresh<|aM _
def VV{K:ap}{O:Mx}{H:Hp}{ds:List D}{xs:List V}{J:It}(r:Reps O H ds xs)(hg:∀ρ' H',Lat O H ρ' H'->(∀i x,xs[i]?=aa x->J.go i H'/\∀y H'',J.yld i H' y H''->H''=H'/\y=x)/\∀n,n=xs.length->J.stop n H'):WRel K O H ds J where
 go:=λi ρ' S' H' f st hi=>by
  obtain⟨v,g,r'⟩:=(r.lat f).get<|ag hi;obtain⟨a,b⟩:=(hg ρ' H' f).1 i v g;refine#[a,λx H'' y=>?_]
  obtain⟨rfl,rfl⟩:=b x H'' y;exact#[Fut.refl _ _,st,λd hd=>by rw[ag hi]at hd;cases hd;exact r']
 stop:=λρ' S' H' f st=>(hg ρ' H' f).2 _ r.length.symm
def jD{K K':ap}{O:Mx}{H:Hp}{ds:List D}{a:aP}{xs:List V}(hp:H a=aa (.tup xs))(r:Reps O H ds xs):WRel K O H ds (Itt K' a):=VV r λρ' H' f=>by
 have h:=SqT.of (K:=K')<|f.keep a _ hp λ_ z=>by cases z
 exact#[λi x g=>#[#[xs,x,h,g],λy H'' z=>#[z.1,by have:=z.2 xs h;rw[g]at this;exact(ak this).symm]],λn e=>#[xs,h,by omega]]
def v9{K K':ap}{O:Mx}{H:Hp}{ds:List D}{a:aP}{xs:List V}(hp:∀ρ' H',Lat O H ρ' H'->SqL K' H' a xs)(r:Reps O H ds xs):WRel K O H ds (Itl K' a):=VV r λρ' H' f=>by
 have h:=hp ρ' H' f;exact#[λi x g=>#[#[xs,x,h,g],λy H'' z=>#[z.1,by have:=z.2 xs h;rw[g]at this;exact(ak this).symm]],λn e=>#[xs,h,by omega]]
def JD(lo:Int)(n:Nat):(Pv.ZU lo n).length=n:=by unfold Pv.ZU;rw[aq,a7]
theorem JF(lo:Int):∀(l:List Nat),Reps O H (l.map λ(k:Nat)=>Pv.V.int<|lo+(k:Int)) (l.map λ(k:Nat)=>V.int<|lo+(k:Int))
 |[]=>Reps.nil
 |_::l=>Reps.cons (ZS _)<|JF lo l
def yx{K:ap}{O:Mx}{H:Hp}{lo:Int}{n:Nat}:WRel K O H (Pv.ZU lo n) (Itr lo n):=VV (JF lo<|aE n) λρ' H' f=>by
 refine#[λi x g=>?_,λm e=>?_]
 .have hi:i<n:=by have:=(a9.mp g).1;simpa using this
  rw[aH,bO hi]at g;exact#[hi,λy H'' z=>#[z.1,z.2.trans<|ak g]]
 .rw[aq,a7]at e;show n<=m;omega
def ZgI(he:CE X xw C e i):CW X xw C tg e (.of i):=.mk <| PI.imp (Zfj he.h)<|by
 rintro Z H Q ⟨O,l,S,st,lr,h⟩;rw[Pv.pvw]at h;refine#[O,l,S,st,lr,h.bind λx S1 ρ1 H1 v f1 st1 r1 h1=>?_]
 obtain⟨ds,hd,h1⟩:=End.po h1;have q:∀{J},WRel X.K ρ1 H1 ds J->Q J H1:=λw=>End.ok h1 st1 w
 cases x with
 |tup ds=>cases hd;obtain⟨a,xs,rfl,hp,r⟩:=r1.tup';exact#[a,rfl,.inr #[#[xs,SqT.of hp],q<|jD hp r]]
 |lst ds=>cases hd;obtain⟨a,xs,rfl,hp,hx,r⟩:=r1.lst';exact#[a,rfl,.inl #[#[xs,SqL.of hp],q<|v9 (λρ' H' f=>SqL.of<|f.keep a _ hp λ_ _=>hx) r]]
 |scr ns=>
  cases hd;obtain⟨a,rfl,hp⟩:=r1.scr';rw[st1.hk]at hp;refine#[a,rfl,.inl #[#[_,hp.sq],q<|v9 (λρ' H' f=>?_)<|Reps.ints ns]]
  rcases hp with⟨o,hp⟩|hp
  .exact .inl<|.inr #[o,f.keep a _ hp λ_ z=>by cases z]
  .exact .inr hp
 |_=>exact Ev.nos hd
def Zdx{B β:Type}{rep:Mx->Hp->B->β->Prop}{O:Mx}{l:Lc}{S:Zy}{Z:L2.St}{H:Hp}{Q:β->Hp->Prop}{Q1:List V->Hp->Prop}{g:D->Zy->R B}(st:St3 X.K O S H)(lr:LocR O H l Z)(h:End X.K xw rep O H Q ((Pv.pv C i l S).bind g))
  (k:∀x S1 ρ1 H1 v,St3 X.K ρ1 S1 H1->Rep ρ1 H1 x v->End X.K xw rep ρ1 H1 Q (g x S1)->Q1 [v] H1):tA X xw (Pv.pvs C [i]) Z H Q1:=by
 refine#[O,l,S,st,lr,?_];show End X.K xw Reps O H _ ((Pv.pv C i l S).bind λx S=>.ok [x] S)
 cases q:Pv.pv C i l S with
 |no=>rw[q]at h;exact h
 |ex c S1=>rw[q]at h;exact h
 |ok x S1=>
  rw[q]at h;intro ρ1 H1 vs f1 st1 r1;obtain⟨v,rfl,r⟩:=ji r1;exact k x S1 ρ1 H1 v st1 r<|End.mono f1 h
def Zbz{B β:Type}{rep:Mx->Hp->B->β->Prop}{O:Mx}{l:Lc}{S:Zy}{Z:L2.St}{H:Hp}{Q:β->Hp->Prop}{Q1:List V->Hp->Prop}{g:D->D->Zy->R B}(st:St3 X.K O S H)(lr:LocR O H l Z)(h:End X.K xw rep O H Q ((Pv.pv C i l S).bind λx S=>(Pv.pv C j l S).bind λy S=>g x y S))
  (k:∀x y S1 ρ1 H1 v u,St3 X.K ρ1 S1 H1->Rep ρ1 H1 x v->Rep ρ1 H1 y u->End X.K xw rep ρ1 H1 Q (g x y S1)->Q1 [v,u] H1):tA X xw (Pv.pvs C [i,j]) Z H Q1:=by
 refine#[O,l,S,st,lr,?_];show End X.K xw Reps O H _ ((Pv.pv C i l S).bind λx S=>((Pv.pv C j l S).bind λy S=>.ok [y] S).bind λxs S=>.ok (x::xs) S)
 cases q:Pv.pv C i l S with
 |no=>rw[q]at h;exact h
 |ex c S1=>rw[q]at h;exact h
 |ok x S1=>
  rw[q]at h;have h:End X.K xw rep O H Q ((Pv.pv C j l S1).bind λy S=>g x y S):=h
  show End X.K xw Reps O H _ (((Pv.pv C j l S1).bind λy S=>.ok [y] S).bind λxs S=>.ok (x::xs) S)
  cases q2:Pv.pv C j l S1 with
  |no=>rw[q2]at h;exact h
  |ex c S2=>rw[q2]at h;exact h
  |ok y S2=>
   rw[q2]at h;intro ρ1 H1 vs f1 st1 r1;obtain⟨v,u,rfl,rv,ru⟩:=va r1;exact k x y S2 ρ1 H1 v u st1 rv ru<|End.mono f1 h
def Yo(h:Ev.Xb n=al):-(2^62)<=n/\n<2^62:=T6 h
def Zb1(hm:X.mg "range" = ae)(ha:CA X xw C [a] [i])(hg:Gl X "range")(hs:aL [a] X.env=[(am,cI a X.env)]):CW X xw C tg (.Call (.Name "range" p) [a] [] pos) (.rng1 i):=.mk <|
 PI.imp (qy hg hm ha.h hs) λZ H Q #[O,l,S,st,lr,h]=>Zdx st lr h λx S1 ρ1 H1 v st1 r h1=>by
  cases x with
  |int n=>
   obtain⟨hs,h2⟩:=End.guard h1;exact#[n,by rw[r.int'],(Yo hs).1,(Yo hs).2,End.ok (rep:=WRel X.K) h2 st1 yx]
  |_=>exact False.elim h1
def ZcE(hm:X.mg "range" = ae)(ha:CA X xw C [a,b] [i,j])(hg:Gl X "range")(hs:aL [a,b] X.env=[(am,cI a X.env),(am,cI b X.env)])(hs2:aL [b] X.env=[(am,cI b X.env)]) :
  CW X xw C tg (.Call (.Name "range" p) [a,b] [] pos) (.rng2 i j):=.mk <|
 PI.imp (qJ hg hm ha.h hs hs2) λZ H Q #[O,l,S,st,lr,h]=>Zbz st lr h λx y S1 ρ1 H1 v u st1 rv ru h1=>by
  cases x with
  |int n=>cases y with
   |int m=>
    obtain⟨hs,h3⟩:=End.guard h1;obtain⟨s1,s2⟩:=(aG _ _).mp hs;exact#[n,m,by rw[rv.int',ru.int'],#[(Yo s1).1,(Yo s1).2,(Yo s2).1,(Yo s2).2],End.ok (rep:=WRel X.K) h3 st1 yx]
   |_=>exact False.elim h1
  |_=>exact False.elim h1
def Zcr{D:Ends}{Z:L2.St}{O:Mx}{H0 H1:Hp}{W:Own}{l:Lc}{os:List Nat}{S1:Zy}{J:It}{wk:List Pv.V}{fr:Bool}{ns:List Nat}{ms:List Sm}{t:List Nat}(st1:St3 X.K O S1 H1)(en:Eu O H0 W l os Z H1)(r1:WRel X.K (O.ex W) H1 wk J)
  (h1:Zx fr X.K xw O H0 D (Pv.Wo (λx O os s=>if(t.any<|kT os)=al then(.no:Pv.PR Pv.FlV)else(Pv.po (Pv.Zp t x O) s).bind λO s=>Pv.rvs C ns ms O os s) wk l os S1)):∃W:Nat->Nat->L2.St->Hp->Prop,(∃m,W 0 m Z H1)/\∀i m Z H,W i m Z H->
   (J.stop i H/\D.nx Z H)\/(J.go i H/\∃N:L2.St->Hp->Prop,(∀σ' H',N σ' H'->∃m',m'<m/\W (i+1) m' σ' H')/\∀x H',J.yld i H x H'->tGU X.K t x Z H' λσ2 H2=>tS3 X xw fr (Pv.rvs C ns ms) {D with nx:=N,ct:=N,bk:=D.nx} σ2 H2):=by
 obtain⟨bs,en1⟩:=en.off st1.xd;have h1:=h1.rebase bs en.xd;generalize hB:(λx O os s=>if(t.any<|kT os)=al then(.no:Pv.PR Pv.FlV)else(Pv.po (Pv.Zp t x O) s).bind λO s=>Pv.rvs C ns ms O os s)=B at h1
 let I:Nat->L2.St->Hp->Prop:=λn σ' H'=>∃W' l' os' S',St3 X.K O S' H'/\Eu O (Q2 H1 W) W' l' os' σ' H'/\Zx fr X.K xw O (Q2 H1 W) D (Pv.Wo B (wk.drop n) l' os' S')
 refine#[λn m σ' H'=>m=wk.length-n/\n<=wk.length/\I n σ' H',#[wk.length,rfl,cL _,W,l,os,S1,st1,en1,h1],?_]
 rintro n m σ' H' ⟨rfl,hn,W',l',os',S',st',en',e'⟩
 have lat:=en.walk en';by_cases hlt:n<wk.length
 .right
  rw[cp hlt,Pv.Wo]at e';obtain⟨go,yl⟩:=r1.go n _ S' H' lat (en'.st st') hlt;refine#[go,I<|n+1,λσ2 H2 q=>#[wk.length-(n+1),by omega,rfl,hlt,q],λx H3 y=>?_]
  obtain⟨f3,st3,rp⟩:=yl x H3 y;have rx:=rp _<|ag hlt;have f3:Fut O H' O H3:=#[rfl,f3.keep];have hBn:B wk[n] l' os' S'=if(t.any<|kT os')=al then(.no:Pv.PR Pv.FlV)else(Pv.po (Pv.Zp t wk[n] l') S').bind λO s=>Pv.rvs C ns ms O os' s:=by rw[<-hB]
  rw[hBn]at e';by_cases c:(t.any<|kT os')=al
  .rw[T9 c]at e';exact e'.elim
  rw[T8 c]at e';cases ha:Pv.Zp t wk[n] l' with
  |none=>rw[ha]at e';exact e'.elim
  |some l2=>
   rw[ha]at e';refine(en'.mono f3).assign (by simpa using c) rx ha λσ2 e2=>#[O,_,W',l2,os',S',st3.unex,e2,?_]
   have e':Zx fr X.K xw O (Q2 H1 W) D ((Pv.rvs C ns ms l2 os' S').bind _):=e';cases q:Pv.rvs C ns ms l2 os' S' with
   |no=>rw[q]at e';exact e'
   |ex c S2=>rw[q]at e';exact e'
   |ok fl S2=>
    rw[q]at e';cases fl with|nx l3 os3=>exact λH4 σ4 W4 st4 lr4=>#[W4,l3,os3,S2,st4,lr4,e']|cnt l3 os3=>exact λH4 σ4 W4 st4 lr4=>#[W4,l3,os3,S2,st4,lr4,e']|brk l3 os3=>exact e'|ret d=>exact e'
 .left
  have en2:n=wk.length:=by omega
  subst en2;rw[eo]at e';exact#[r1.stop _ S' H' lat<|en'.st st',e' H' σ' W' st' en']
def Zfy{body:List fU}{fr:Bool}{ns:List Nat}{ms:List Sm}{w:Ev.W}{t:List Nat}(hp:ot (aT X.prog X.w) X.A X.env X.xe)(hc:X.calm=al)(hw:CW X xw C tg it w)(hg:CG X tg t)(hb:CSs X xw fr C ns body ms)
  (hs:∀x,bS it X.env x=cY x):CS X xw fr C ns (.For tg it body [] pos) (.forr t w ms):=.mk <| PS.imp (Zfx hp hc hw.h hg.h hb.h hs)<|by
 rintro D Z H ⟨O,H0,W,l,os,S,st,en,h⟩;rw[Pv.rv]at h;refine#[O.ex W,Pv.hide os l,S,en.st st,en.hid,Zx.bindW en h λwk S1 H1 J f1 st1 r1 h1=>Zcr st1 (en.mono f1) r1 h1]
end
end Sd
namespace Sd
open PySem PySem.Spec PyProof.Rows L2
noncomputable def uC(env:Env):List (bI×eX)->List (bI×aP)->List (bI×aP)
 |[],acc=>acc
 |x::r,acc=>uC env r (if(x.2 == bF)=al then(x.1,(env.cells.lookup x.1).getD 0)::acc else acc)
theorem Qf{env:Env}{f:bI×eX->List (bI×aP)->oq (ForInStep<|List<|bI×aP)}:∀(names:List (bI×eX))(acc:List (bI×aP)),
  (∀x∈names,∀c,f x c=cY (.yield (if(x.2 == bF)=al then(x.1,(env.cells.lookup x.1).getD 0)::c else c)))->l7 names acc f=cY (uC env names acc)
 |[],acc,_=>rfl
 |x::r,acc,h=>by
  rw[iJ,h x ai,pure_bind];exact Qf r _ λy hy=>h y<|af _ hy
theorem zW :∀(names:List (bI×eX))(acc:List (bI×aP)),(uC env names acc).lookup x=aa c->acc.lookup x=aa c\/(∃y∈names,y.1=x/\y.2=.free/\c=(env.cells.lookup x).getD 0)
 |[],acc,h=>.inl h
 |y::r,acc,h=>by
  rcases zW r _ h with h|⟨z,hz,e⟩
  .by_cases hf:(y.2 == bF)=al
   .rw[T9 hf,bK]at h
    cases q:(x == y.1)with
    |true=>
     rw[q]at h;have e:=fk q;exact .inr #[y,ai,e.symm,fk hf,by rw[e];exact(ak h).symm]
    |false=>rw[q]at h;exact .inl h
   .rw[T8 hf]at h;exact .inl h
  .exact .inr #[z,af _ hz,e]
theorem zP :∀(names:List (bI×eX))(acc:List (bI×aP)),(acc.lookup x).isSome=al->((uC env names acc).lookup x).isSome=al
 |[],acc,h=>h
 |y::r,acc,h=>by
  refine zP r _ ?_;split
  .rw[bK]
   cases(x == y.1)with|true=>rfl|false=>exact h
  .exact h
theorem zn :∀(names:List (bI×eX))(acc:List (bI×aP)),(x,bF)∈names->((uC env names acc).lookup x).isSome=al
 |[],acc,h=>by cases h
 |y::r,acc,h=>by
  rcases ay.mp h with h|h
  .subst h
   refine zP r _ ?_;rw[T9 (by rfl),bK,beq_self_eq_true]
   rfl
  .exact zn r _ h
def xN{scope:fg}{env:Env}(h:∀y∈scope.names,y.2=.free->∃c,env.cells.lookup y.1=aa c) :
  ∃cl,closureFor scope env=cY cl/\(∀x c,cl.lookup x=aa c->env.cells.lookup x=aa c)/\∀x,(x,bF)∈scope.names->∃c,cl.lookup x=aa c:=by
 refine#[uC env scope.names [],?_,λx c e=>?_,λx hx=>de.mp<|zn _ _ hx]
 .simp only[closureFor]
  rw[Qf (env:=env) scope.names [] (λx hx c=>by
   obtain⟨n,kind⟩:=x;by_cases hk:(kind == bF)=al
   .obtain⟨a,ha⟩:=h (n,kind) hx (fk hk)
    have ha':=ha;simp only[hk,if_true,cellOf,ha',pure_bind,oG]
   .simp only[hk,if_false]
    rfl),pure_bind]
 .rcases zW _ _ e with e|⟨y,hy,e1,e2,e3⟩
  .cases e
  .obtain⟨a,ha⟩:=h y hy e2
   rw[e1]at ha;rw[e3,ha];rfl
theorem VX{x:bI}{c:aP}{lo:Nat}:∀(names:List (bI×eX))(h:cc)(acc:List (bI×aP)),lo<=h.objs.size->(ei h.objs.size names acc).lookup x=aa c->
  ((x,cH)∉names/\acc.lookup x=aa c)\/((x,cH)∈names/\lo<=c/\(oH h names).IsCell c ae)
 |[],h,acc,_,e=>.inl #[by simp,e]
 |(name,kind)::r,h,acc,hlo,e=>by
  unfold ei at e;unfold oH;split at e
  .rename_i hk
   rw[T9 hk];have hk:=fk hk;subst hk;rw[<-cZ h {cls:=.type "cell",data:=.cell ae}]at e;rcases VX r (h.push {cls:=.type "cell",data:=.cell ae}) ((name,h.objs.size)::acc) (cf hlo<|by rw[cZ];exact kK _) e with⟨e1,e2⟩|⟨e1,e2⟩
   .rw[bK]at e2
    cases hb:x == name with
    |true=>
     rw[hb]at e2;cases e2;have:=fk hb;subst this;exact .inr #[ai,hlo,_,l8 _ _ _ _<|aO _ rfl,rfl]
    |false=>
     rw[hb]at e2;refine .inl #[λhm=>?_,e2]
     rcases ay.mp hm with q|q
     .cases q
      rw[beq_self_eq_true]at hb;cases hb
     .exact e1 q
   .exact .inr #[af _ e1,e2]
  .rename_i hk
   rw[T8 hk];rcases VX r _ _ hlo e with⟨e1,e2⟩|⟨e1,e2⟩
   .refine .inl #[λhm=>?_,e2]
    rcases ay.mp hm with q|q
    .cases q
     exact hk rfl
    .exact e1 q
   .exact .inr #[af _ e1,e2]
theorem V9:∀(names:List (bI×eX))(n:Nat)(acc:List (bI×aP)),(∀x c,acc.lookup x=aa c->c<n)->(∀x y c,acc.lookup x=aa c->acc.lookup y=aa c->x=y)->
  ∀x y c,(ei n names acc).lookup x=aa c->(ei n names acc).lookup y=aa c->x=y
 |[],n,acc,_,h=>h
 |(name,kind)::r,n,acc,hl,h=>by
  unfold ei;split
  .refine V9 r (n+1) _ (λx c e=>?_) λx y c e1 e2=>?_
   .rw[bK]at e
    split at e
    .cases e;exact ip _
    .exact dE<|hl x c e
   .rw[bK]at e1 e2
    cases p:x == name<;>cases q:y == name<;>rw[p]at e1<;>rw[q]at e2
    .exact h x y c e1 e2
    .cases e2;exact T7 (hl x _ e1)<|bu _
    .cases e1;exact T7 (hl y _ e2)<|bu _
    .rw[fk p,fk q]
  .exact V9 r n acc hl h
theorem VY{x:bI}:∀(names:List (bI×eX))(n:Nat)(acc:List (bI×aP)),(∃c,acc.lookup x=aa c)\/(x,cH)∈names->∃c,(ei n names acc).lookup x=aa c
 |[],n,acc,h=>h.elim (λh=>h) λh=>by cases h
 |(name,kind)::r,n,acc,h=>by
  unfold ei;split
  .refine VY r _ _ ?_
   cases hb:x == name with
   |true=>exact .inl #[n,by rw[bK,hb]]
   |false=>
    rcases h with⟨c,e⟩|h
    .exact .inl #[c,by rw[bK,hb];exact e]
    .rcases ay.mp h with q|q
     .cases q
      rw[beq_self_eq_true]at hb;cases hb
     .exact .inr q
  .rename_i hk
   refine VY r _ _<|h.imp (λh=>h) λh=>?_
   rcases ay.mp h with q|q
   .cases q
    exact T7 rfl hk
   .exact q
def wc{M:Model}{A:cn}{E:ao->au->Prop}{s:au}{scope:fg}{g:aP}{cl:List (bI×aP)}{q:bI}{env:Env}{Q:Env->au->Prop}
  (h:Q (newEnv scope s.heap.objs.size g (ei (s.heap.objs.size+1) scope.names cl) q ae .none (aa env) nj) {s with heap:=oH (s.heap.push {cls:=.type "dict",data:=.dict #[]}) scope.names}) :
  aY M A (newFunctionEnv scope g cl [] q ae .none<|aa env) Q E s:=by
 simp only[newFunctionEnv,nz,if_true];refine ab<|wpAny_alloc ?_;refine ab<|wpAny_layCells _ (λname kind cells=>by cases hkc:kind == cH<;>simp[hkc]) _ _ _ _ ?_
 rw[show({s with heap:=s.heap.push {cls:=.type "dict",data:=.dict #[]}}:au).heap.objs.size=s.heap.objs.size+1 from cZ ..]
 exact ax h
noncomputable def cxC(X:Cx)(N:List bI)(scope:fg)(cl:List (bI×aP))(s:au)(H:Hp)(fp:List aP):Cx:=
 {X with N:=N,s₀:=s,H₀:=H,env:=compEnvC scope cl s.heap.objs.size X.env,outer:=X.stack,ex:=fp,fn:=λx=>scope.names.any λy=>y.2 == .cell&&y.1 == x,pn:=[],xe:=λ_ _=>False}
def PTs(X:Cx)(ifs:List Expr)(t:TT):Prop:=
 ∀(pq:List (aP×fP))(s:au)(Z:L2.St)(H:Hp)(Q:Bool->Hp->Prop),Inv X pq Z H s->t Z H Q->
  aY (aT X.prog X.w) X.A (l7 ifs al λc r=>if r=al then do let ok <-isTrue c X.env (cI c X.env);cY (l9 ok)else cY (l9 r)) (TP X pq Z Q) X.xe s
def Zb9 :PTs X [] (λZ H Q=>Q al H):=λpq s Z H Q I h=>wpAny_tests_nil #[H,I,h]
def ZbS(h:PT X c t):PTs X [c] t:=λpq s Z H Q I hq=>wpAny_tests_one<|h pq s Z H Q I hq
structure CompScope(sc:fg)(N0:List bI)(scope:fg)(N:List bI)(cap:List Nat)(nl:Nat):Prop where
 kind:scope.kind=.function
 cell:∀y∈scope.names,y.2=.cell->(y.1,bF)∉scope.names
 names:∀y∈scope.names,y.2=.local->scope.names.lookup y.1=aa .local
 free:∀y∈scope.names,y.2=.free->sc.names.lookup y.1=aa .cell\/sc.names.lookup y.1=aa .free
 apart:∀y∈scope.names,y.2=.free->scope.names.lookup y.1≠aa .local
 len:N.length=nl+cap.length
 cap:∀p∈cap.zipIdx,N[nl+p.2]?=N0[p.1]?/\(N0[p.1]?).map (λx=>aj<|(x,bF)∈scope.names)=aa al
def CompScope.capt{sc:fg}{N0:List bI}{scope:fg}{N:List bI}{cap:List Nat}{nl:Nat}(h:CompScope sc N0 scope N cap nl)(i j:Nat)(e:cap[i]?=aa j):∃x,N[nl+i]?=aa x/\N0[j]?=aa x/\(x,bF)∈scope.names:=by
 have hm:(j,i)∈cap.zipIdx:=by
  rw[List.mem_zipIdx_iff_getElem?];exact e
 obtain⟨h1,h2⟩:=h.cap (j,i) hm;cases q:N0[j]? with
 |none=>rw[q]at h2;cases h2
 |some x=>
  rw[q]at h1 h2
  exact#[x,h1,rfl,T6<|ak h2]
noncomputable def Xf(cap:List Nat)(nl:Nat)(Z:L2.St):L2.St:=az nl ae++cap.map λi=>(Z[i]?).join
section
variable{X:Cx}{pq:List (aP×fP)}{Z:L2.St}{H:Hp}{s:au}
theorem Vz{env:Env}{x:bI}:∀{names:List (bI×eX)},(names.map λ(n,k)=>if(k == bF&&env.scope.kind == .function&&env.kindOf n == aa .cell)then(n,cH)else(n,k)).lookup x=aa .cell\/
  (names.map λ(n,k)=>if(k == bF&&env.scope.kind == .function&&env.kindOf n == aa .cell)then(n,cH)else(n,k)).lookup x=aa .free->(x,bF)∈names\/(x,cH)∈names
 |[],h=>by rcases h with h|h<;>cases h
 |(n,k)::r,h=>by
  have ih:=@Vz env x r;rw[bi]at h;by_cases e:x=n
  .subst e
   by_cases c:(k == bF&&env.scope.kind == .function&&env.kindOf x == aa .cell)=al
   .have:=(aG _ _).mp c
    rw[fk ((aG _ _).mp this.1).1];exact .inl ai
   .simp only[T8 c,bK,beq_self_eq_true,Option.some.injEq]at h
    rcases h with h|h
    .rw[h];exact .inr ai
    .rw[h];exact .inl ai
  .have hb:(x == n)=am:=beq_eq_false_iff_ne.mpr e
   refine(ih ?_).imp (af _)<|af _;by_cases c:(k == bF&&env.scope.kind == .function&&env.kindOf n == aa .cell)=al
   .simpa only[T9 c,bK,hb]using h
   .simpa only[T8 c,bK,hb]using h
theorem Zaf{N:List bI}{scope:fg}{cl:List (bI×aP)}{fp:List aP}{cap:List Nat}{nl:Nat}{h1:cc}{tk:Nat}(I:Inv X pq Z H s)(CS:CompScope X.env.scope X.N scope N cap nl)(hN:X.N.Nodup)
  (c1:∀x c,cl.lookup x=aa c->((x,cH)∉scope.names/\X.env.cells.lookup x=aa c)\/((x,cH)∈scope.names/\s.heap.objs.size<=c/\h1.IsCell c ae))(c2:∀x,(x,bF)∈scope.names\/(x,cH)∈scope.names->∃c,cl.lookup x=aa c)
  (c3:∀x y c,cl.lookup x=aa c->cl.lookup y=aa c->x=y)(hf:∀b∈fp,Vu X pq H b)(hb:∀b∈fp,∃o,s.heap.get? b=aa o)(hns:∃m,h1.Ns s.heap.objs.size m)(hk:∀b o,s.heap.get? b=aa o->h1.get? b=aa o) :
  Inv (cxC X N scope cl s H fp) [] (Xf cap nl Z) H {s with heap:=h1,toks:=tk}:=by
 have bne:∀b∈fp,b≠s.heap.objs.size:=λb hb' e=>by
  obtain⟨o,ho⟩:=hb b hb';exact T7 (aJ ho) (by rw[e];exact bu _)
 refine#[#[I.ok.mod,CS.kind,I.ok.glob,I.ok.blt,aM _,c3,λx hx=>c2 x<|Vz (env:=X.env) hx,λx c h e=>?_,I.ok.hd,I.ok.frames,.inl rfl,
  λb hb'=>#[bne b hb',λx c e=>(c1 x c e).elim (λq=>(hf b hb').2.2.2.2.1 x c q.2) λq z=>?_],I.bs,cf I.ok.bsz I.sz,λb o e hb'=>?_,λb hb' hm=>?_,I.stack,I.stkFree],
  rfl,I.bare,Un.kept hk,?_,λx c e=>?_,I.hok.fresh<|aM _,λx c e=>(c1 x c e).elim (λq=>I.freeC x c q.2) λq=>I.hok.fresh q.2.1,λp hp=>T7 hp (by simp[cxC]),I.hok.kept hk,?_]
 .rcases c1 x c e with q|q
  .obtain⟨y,hy,e⟩:=lq.mp h
   obtain⟨e1,e2⟩:=(aG _ _).mp e;obtain⟨y,k⟩:=y;have a1:k=.cell:=fk e1;have a2:y=x:=fk e2;subst a1 a2;exact T7 hy q.1
  .exact q.2.1
 .obtain⟨o,ho⟩:=hb b hb'
  have:=aJ ho;rw[<-z]at this;exact T7 q.2.1<|Nat.not_le.mpr this
 .rcases(hf b hb').2.2.2.1 with z|z
  .exact I.ok.noex b o e z
  .exact T7 (aJ e)<|Nat.not_lt.mpr<|cf I.ok.bsz z
 .rcases ay.mp (I.stkSub b hm)with e|e
  .exact(hf b hb').2.1 e
  .exact(hf b hb').2.2.1 e
 .obtain⟨m1,hm1⟩:=hns
  refine#[m1,hm1,λi x v e1 e2 e3=>?_]
  obtain⟨m,hm,hl⟩:=I.loc;have hi:nl<=i:=by
   by_cases hi:nl<=i
   .exact hi
   .have z:(Xf cap nl Z)[i]?=aa ae:=by
     unfold Xf;rw[bJ (by simp;lia),bT,T9 (by lia)]
    rw[z]at e2;cases e2
  have e2':(cap.map λi=>(Z[i]?).join)[i-nl]?=aa (aa v):=by
   have:(Xf cap nl Z)[i]?=aa (aa v):=e2;unfold Xf at this
   rwa [bh (by simp;exact hi),cg]at this
  rw[aH]at e2';cases hj:cap[i-nl]? with
  |none=>rw[hj]at e2';cases e2'
  |some j=>
   rw[hj]at e2';have hv:Z[j]?=aa (aa v):=by
    have:(Z[j]?).join=aa v:=ak e2';cases q:Z[j]? with
    |none=>rw[q]at this;cases this
    |some o=>rw[q]at this;cases o with|none=>cases this|some w=>cases this;rfl
   obtain⟨x',n1,n2,fr⟩:=CS.capt _ _ hj;have ex:x'=x:=by
    have:N[nl+(i-nl)]?=aa x:=by rw[show nl+(i-nl)=i by lia];exact e1
    rw[n1]at this;exact ak this
   subst ex;have kd:=CS.free _ fr rfl;have vis:Vis X.env.scope x':=by
    rcases kd with z|z
    .exact .inr<|.inl z
    .exact .inr<|.inr z
   obtain⟨u,r,lk⟩:=hl j x' v n2 hv vis;refine#[u,r,?_];rcases lk with⟨k,_⟩|⟨k,c,ec,hc⟩
   .have k':X.env.scope.names.lookup x'=aa .local:=k
    rcases kd with z|z<;>(rw[z]at k';cases k')
   .obtain⟨c',ec'⟩:=c2 x' (.inl fr)
    have ecc:c'=c:=by
     have:=(c1 x' c' ec').elim (λq=>q.2) λq=>T7 fr<|CS.cell _ q.1 rfl
     rw[ec]at this;exact(ak this).symm
    subst ecc;have vis2:Vis (relabel scope X.env) x':=e3;refine .inr #[?_,c',ec',?_]
    .rcases vis2 with z|z|z
     .have z':(scope.names.map λ(n,k)=>if(k == bF&&X.env.scope.kind == .function&&X.env.kindOf n == aa .cell)then(n,cH)else(n,k)).lookup x'=aa .local:=z
      exfalso
      have:∀(names:List (bI×eX)),(∀y∈names,y.2=eX.local->y.1≠x')->(names.map λ(n,k)=>if(k == bF&&X.env.scope.kind == .function&&X.env.kindOf n == aa .cell)then(n,cH)else(n,k)).lookup x'≠aa .local:=by
       intro names
       induction names with
       |nil=>intro _ h;cases h
       |cons y r ih=>
        obtain⟨n,k⟩:=y;intro hy h;rw[bi]at h;by_cases e:x'=n
        .subst e
         by_cases c:(k == bF&&X.env.scope.kind == .function&&X.env.kindOf x' == aa .cell)=al
         .simp only[T9 c,bK,beq_self_eq_true]at h;cases h
         .simp only[T8 c,bK,beq_self_eq_true]at h
          exact hy (x',k) ai (ak h) rfl
        .have hb:(x' == n)=am:=beq_eq_false_iff_ne.mpr e
         refine ih (λy hy'=>hy y<|af _ hy') ?_
         by_cases c:(k == bF&&X.env.scope.kind == .function&&X.env.kindOf n == aa .cell)=al
         .simp only[T9 c,bK,hb]at h;exact h
         .simp only[T8 c,bK,hb]at h;exact h
      refine this scope.names (λy hy hl e=>?_) z'
      have l1:=CS.names y hy hl;rw[e]at l1;exact CS.apart (x',.free) fr rfl l1
     .exact .inl z
     .exact .inr z
    .obtain⟨o,ho,hd⟩:=hc
     exact#[o,hk c' o ho,hd]
 .rcases c1 x c e with q|q
  .obtain⟨v,o,ho,hd⟩:=I.cell x c q.2
   exact#[v,o,hk c o ho,hd]
  .exact#[ae,q.2.2]
 .unfold Xf
  show _=N.length;rw[ba,cg,aq,CS.len]
end
abbrev TEm:=L2.St->Hp->(L2.St->Hp->Prop)->Prop
def yk(X:Cx)(act:oq Fin->oq Fin)(te:TEm):Prop:=
 ∀(pq:List (aP×fP))(s:au)(Z:L2.St)(H:Hp)(Q:L2.St->Hp->Prop)(k:oq Fin)(QF:Fin->au->Prop)(EE:ao->au->Prop),Inv X pq Z H s->te Z H Q->(∀s' σ' H',Inv X pq σ' H' s'->Q σ' H'->aY (aT X.prog X.w) X.A k QF EE s')->
  aY (aT X.prog X.w) X.A (act k) QF EE s
noncomputable def QY(ipos:iP)(tg:Expr)(ifs:List Expr)(act:oq Fin->oq Fin)(it:ao)(env:Env)(c:Code):oq Fin:=do
 kD ipos
 match <-my it with
 |none=>cY<|.done .next
 |some v=>
  l5 tg it v
  assign tg env v
  let mut ok:=al
  for c in ifs do
   if ok then ok <-isTrue c env (cI c env)
  if ok then act (rj c)else rj c
def vG(J:It)(g:TG)(tt:TT)(te:TEm)(W:Nat->Nat->L2.St->Hp->Prop)(Q:L2.St->Hp->Prop):Prop:=∀i m σ' H',W i m σ' H'->
  (J.stop i H'/\Q σ' H')\/(J.go i H'/\∀x H'',J.yld i H' x H''->g x σ' H'' λσ2 H2=>tt σ2 H2 λok H3=>if ok=al then te σ2 H3 λσ3 H4=>∃m',m'<m/\W (i+1) m' σ3 H4 else ∃m',m'<m/\W (i+1) m' σ2 H3)
def Jc{tn:Nat->cc->Prop}{Rr:rB->au->Prop}{Q:L2.St->Hp->Prop}{W:Nat->Nat->L2.St->Hp->Prop}
  (hc:Y.calm=al)(hx:∀a b,Y.xe a b->False)(hT:pK e depth (.ref it) acc Y.env=QY ipos tg ifs act (.ref it) Y.env (.compLoop e depth (.ref it) acc Y.env))(hquiet:(p8 e depth (.ref it) acc Y.env).isFrame=am)
  (hq:(p8 e depth (.ref it) acc Y.env).quiet=al)(T:Turn Y.prog Y.w Y.K tg J fp it tn)(hg:PG Y tg g)(ht:PTs Y ifs tt)(he:yk Y act te)(stat:∀{H':Hp},(∀b∈fp,H' b=ae)->∀b∈fp,Vu Y pq H' b)
  (turn:vG J g tt te W Q)(fin:∀Z H s,Inv Y pq Z H s->Q Z H->Rr (.ok .next) s)
  (I0:Inv Y pq Z H s)(st0:tn 0 s.heap)(fr0:∀b∈fp,H b=ae)(w0:W 0 m Z H)(hden:(aT Y.prog Y.w).den (.compLoop e depth (.ref it) acc Y.env)=(pK e depth (.ref it) acc Y.env).onRaise (λx=>do noteFrame x Y.env;theTreesLotGoes x))
  (hund:Y.A.under (.compLoop e depth (.ref it) acc Y.env)=Y.A):fC (aT Y.prog Y.w) Y.A (.compLoop e depth (.ref it) acc Y.env) Rr s:=by
 refine codeAny_loop hq (λn s'=>∃i σ' H',Inv Y pq σ' H' s'/\tn i s'.heap/\(∀b∈fp,H' b=ae)/\W i n σ' H') (λn s5 hI=>?_) m #[0,Z,H,I0,st0,fr0,w0]
 rw[hund,hden,hT];refine wpAny_noted ?_;obtain⟨i,σ5,H5,I5,st5,fr5,w5⟩:=hI;refine ab<|eg<|ab ?_;rcases turn i n σ5 H5 w5 with⟨stop,qn⟩|⟨go,step⟩
 .refine cV (T.done Y rfl rfl rfl hc i pq s5 σ5 H5 (λ_ _=>False) I5 (stat fr5) st5 stop) (λr s6 #[hr,I6]=>?_) λ_ _ h'=>h'.elim
  subst hr;exact ax<|fin σ5 H5 s6 I6 qn
 .refine cV (T.item Y rfl rfl rfl hc i pq s5 σ5 H5 (λ_ _=>False) I5 (stat fr5) st5 go) (λr s6 #[u,hr,h6]=>?_) λ_ _ h'=>h'.elim
  subst hr;refine ab<|cV h6 (λ_ s7 #[x,H7,I7,r7,y7,st7,fr7]=>?_) λ_ _ h'=>h'.elim
  have I7':=I7.pinned (stat fr7)<|T.obj _ _ st7;have back:∀{σ8:L2.St}{H8:Hp}{s8:au}{m':Nat},Inv Y (pq++QX fp s7.heap) σ8 H8 s8->m'<n->W (i+1) m' σ8 H8->∃m,m<n/\∃i σ' H',Inv Y pq σ' H' s8/\tn i s8.heap/\(∀b∈fp,H' b=ae)/\W i m σ' H':=λ{σ8 H8 s8 m'} I8 hm w8=>by
   refine#[m',hm,i+1,σ8,H8,I8.unpinned,T.keep _ _ _ st7 λb hb' o e=>(I8.pin (b,o)<|bm _<|bm _<|X0 hb' e).1,λb hb'=>?_,w8]
   obtain⟨o,e,d⟩:=T.obj _ _ st7 b hb';exact(I8.pin (b,o)<|bm _<|bm _<|X0 hb' e).2.1
  refine ab<|cV (hg _ s7 σ5 H7 x u _ I7' r7<|step x H7 y7) (λ_ s8 #[σ8,H8,I8,q8]=>?_) λ_ _ h'=>(hx _ _ h').elim
  refine ab<|cV (ht _ s8 σ8 H8 _ I8 q8) (λok s9 #[H9,I9,q9]=>?_) λ_ _ h'=>(hx _ _ h').elim
  cases ok with
  |false=>
   rw[T8 aI]at q9;obtain⟨m',hm,w9⟩:=q9;exact ax #[rfl,back I9 hm w9]
  |true=>
   rw[T9 rfl]at q9;exact he _ s9 σ8 H9 _ _ _ _ I9 q9<|by rintro s10 σ10 H10 I10 ⟨m',hm,w10⟩;exact ax #[rfl,back I10 hm w10]
def QE{Y:Cx}{elt:Expr}{te:TE}{D:aP}(hx:∀a b,Y.xe a b->False)(he:PE Y elt te):yk Y (λk=>(do let _ <-call (.builtin "list.append") [.ref D,<-cI elt Y.env]:oq Unit) >>= λ_=>k) (λZ H Q=>te Z H λy H4=>∃ys,H4 D=aa (.lst ys)/\ys.length<bx/\Q Z (upd H4 D<|.lst<|ys++[y])):=by
 intro pq s Z H Q k QF EE I h hk;refine ab ?_;refine ab<|cV (he pq s Z H _ I h) (λxv s10 #[y,H10,I10,r10,ys,hDy,hz,q]=>?_) λ_ _ h'=>(hx _ _ h').elim
 refine ab<|cV (u5 pq s10 Z H10 (.ref D) [y] (.ref D) [xv] (λv H'=>v=.non/\H'=upd H10 D (.lst<|ys++[y])) I10 rfl (.cons r10 .nil) #[D,ys,y,rfl,rfl,hDy,hz,rfl,rfl]) (λ_ s11 #[v11,H11,I11,_,_,eH]=>?_) λ_ _ h'=>(hx _ _ h').elim
 subst eH;exact ax<|hk _ _ _ I11 q
def wB(wi:TI)(g:TG)(tt:TT)(te:aP->TEm)(cap:List Nat)(nl:Nat):TE:=λZ H Q=>wi Z H λJ H1=>∀D,H1 D=ae->∃W:Nat->Nat->L2.St->Hp->Prop,(∃m,W 0 m (Xf cap nl Z)<|upd H1 D<|.lst [])/\vG J g tt (te D) W λ_ H'=>Q (.ref D) H'
def qW(wi:TI)(g:TG)(tt:TT)(te:TE)(cap:List Nat)(nl:Nat):TE:=λZ H Q=>wi Z H λJ H1=>∀D,H1 D=ae->∃W:Nat->Nat->L2.St->Hp->Prop,(∃m,W 0 m (Xf cap nl Z)<|upd H1 D<|.lst [])/\∀i m σ' H',W i m σ' H'->
  (J.stop i H'/\Q (.ref D) H')\/(J.go i H'/\∀x H'',J.yld i H' x H''->g x σ' H'' λσ2 H2=>tt σ2 H2 λok H3=>if ok=al then te σ2 H3 λy H4=>∃ys,H4 D=aa (.lst ys)/\ys.length<bx/\∃m',m'<m/\W (i+1) m' σ2 (upd H4 D<|.lst<|ys++[y])else ∃m',m'<m/\W (i+1) m' σ2 H3)
structure Gone(X:Cx)(pq:List (aP×fP))(H:Hp)(s:au)(C:aP):Prop where
 free:H C=ae
 ns:∃m,s.heap.Ns C m
 loc:C≠X.env.locals
 big:X.s₀.heap.objs.size<=C
 cel:∀x c,X.env.cells.lookup x=aa c->c≠C
 pin:∀p∈X.pn++pq,p.1≠C
def VR{tg iter elt:Expr}{ifs:List Expr}{scope:fg}{pos fpos:iP}{N:List bI}{cap:List Nat}{nl:Nat}{wi:TI}{g:TG}{tt:TT}{te:aP->TEm}{act:ao->Env->oq Fin->oq Fin}{rest:List Comprehension}{pq:List (aP×fP)}{s:au}{Z:L2.St}{H:Hp}{Q:VK}{use:Option (ao->oq Unit)}{QQ:ao->au->Prop}(hc:X.calm=al)(hN:X.N.Nodup)(CS:CompScope X.env.scope X.N scope N cap nl)(hi:PI X tg iter wi)
  (hT:∀it acc env,pK (.ListComp elt (#[tg,iter,ifs,0]::rest) scope pos) 0 it acc env=QY iter.pos tg ifs (act acc env) it env (.compLoop (.ListComp elt (#[tg,iter,ifs,0]::rest) scope pos) 0 it acc env))
  (hb:∀cl s H fp,PG (cxC X N scope cl s H fp) tg g/\PTs (cxC X N scope cl s H fp) ifs tt/\∀D,yk (cxC X N scope cl s H fp) (act (.ref D) (cxC X N scope cl s H fp).env)<|te D)
  (hs:∀x,bS iter X.env x=cY x)(I:Inv X pq Z H s)(h:wB wi g tt te cap nl Z H Q)
  (fin:∀D C H5 s6,Inv X pq Z H5 s6->Gone X pq H5 s6 C->Q (.ref D) H5->compPost (aT X.prog X.w) X.A X.xe use QQ (.ref D) C (.ok .next) s6) :
  aY (aT X.prog X.w) X.A (comprehension (.ListComp elt (#[tg,iter,ifs,0]::rest) scope pos) scope X.env fpos (newList []) am (cI iter X.env) use) QQ X.xe s:=by
 obtain⟨cl,hcl,c1,c2⟩:=xN (scope:=scope) (env:=X.env) λy hy hf=>I.ok.has y.1<|CS.free y hy hf
 refine wpAny_comprehension_free (use:=use) rfl hs hcl CS.kind CS.names ?_;refine thn (hi pq s Z H _ I h) λv s1 h1=>thn h1 λitv s2 h2=>?_
 obtain⟨it,fp,tn,J,H2,rfl,I2,T,st2,f2,q2⟩:=h2;obtain⟨W,⟨m0,w0⟩,turn⟩:=q2 s2.heap.objs.size<|I2.hok.fresh<|aM _;refine b6<|wc ?_
 dsimp only
 have I3:Inv X pq Z (upd H2 s2.heap.objs.size<|.lst []) {s2 with heap:=s2.heap.push {cls:=.type "list",dict:=ae,data:=.seq ([]:List ao).toArray},toks:=s2.toks}:=
  I2.laid (λb u e=>aw _ e) (aM _) #[cL _,[],0,.nil,aO _ rfl]
 generalize hD:s2.heap.objs.size=D at I3 w0 turn ⊢;generalize hs3:({s2 with heap:=s2.heap.push {cls:=.type "list",dict:=ae,data:=.seq ([]:List ao).toArray},toks:=s2.toks}:au)=s3 at I3
 have hh3:s2.heap.push {cls:=.type "list",dict:=ae,data:=.seq ([]:List ao).toArray}=s3.heap:=by rw[<-hs3]
 rw[hh3];have old:∀b o,s2.heap.get? b=aa o->s3.heap.get? b=aa o:=λb o e=>by rw[<-hh3];exact aw _ e
 have neD:∀b∈fp,b≠D:=λb hb' e=>by
  obtain⟨o,ho,_⟩:=T.obj _ _ st2 b hb';exact T7 (aJ ho) (by rw[e,<-hD];exact bu _)
 have f3:∀b∈fp,Vu X pq (upd H2 D<|.lst []) b:=λb hb'=>#[by rw[Zv<|neD b hb'];exact(f2 b hb').1,(f2 b hb').2]
 generalize hh4:oH (s3.heap.push {cls:=.type "dict",data:=.dict #[]}) scope.names=h₁;have keep4:∀b o,s3.heap.get? b=aa o->h₁.get? b=aa o:=λb o e=>by rw[<-hh4];exact l8 _ _ b o<|aw _ e
 have hns₁:∃m,h₁.Ns s3.heap.objs.size m:=#[_,by rw[<-hh4];exact(cc.Ns.new s3.heap<|.type "dict").keeps<|l8 _ _]
 have lt3:∀x c,cl.lookup x=aa c->c<s3.heap.objs.size+1:=λx c e=>by
  obtain⟨v,q⟩:=I3.cell x c<|c1 x c e;exact dE q.lt
 have c3:=V9 scope.names _ cl lt3 λx y c h1 h2=>I.ok.inj x y c (c1 x c h1)<|c1 y c h2
 have c2':∀x,(x,bF)∈scope.names\/(x,cH)∈scope.names->∃c,(ei (s3.heap.objs.size+1) scope.names cl).lookup x=aa c:=λx hx=>VY _ _ _<|hx.imp (c2 x) λh=>h
 have c1':∀x c,(ei (s3.heap.objs.size+1) scope.names cl).lookup x=aa c->((x,cH)∉scope.names/\X.env.cells.lookup x=aa c)\/((x,cH)∈scope.names/\s3.heap.objs.size<=c/\h₁.IsCell c ae):=λx c e=>by
  rw[<-cZ s3.heap {cls:=.type "dict",data:=.dict #[]}]at e;refine(VX (lo:=s3.heap.objs.size) _ _ _ (by rw[cZ];exact kK _) e).imp (λq=>#[q.1,c1 x c q.2]) λq=>?_
  rw[hh4]at q;exact q
 generalize ei (s3.heap.objs.size+1) scope.names cl=cl at c1' c2' c3;have I4:=Zaf (tk:=s2.toks) I3 CS hN c1' c2' c3 f3 (λb hb'=>let #[o,ho,_]:=T.obj _ _ st2 b hb';#[o,old b o ho]) hns₁ keep4
 have e4:({s3 with heap:=h₁,toks:=s2.toks}:au)={s2 with heap:=h₁,toks:=s2.toks}:=by rw[<-hs3]
 rw[e4]at I4;obtain⟨hg,ht,he⟩:=hb cl s3 (upd H2 D<|.lst []) fp;generalize hY:cxC X N scope cl s3 (upd H2 D<|.lst []) fp=Y at I4 hg ht he;have yP:Y.prog=X.prog:=by rw[<-hY];rfl
 have stat:∀{H':Hp},(∀b∈fp,H' b=ae)->∀b∈fp,Vu Y [] H' b:=λhn b hb'=>by
  subst hY;refine#[hn b hb',λe=>?_,λhm=>?_,.inl hb',λx c e=>(c1' x c e).elim (λq=>(f3 b hb').2.2.2.2.1 x c q.2) λq z=>?_,λp hp=>T7 hp (by simp[cxC])]
  .obtain⟨o,ho,_⟩:=T.obj _ _ st2 b hb'
   have:=aJ<|old b o ho;rw[e]at this;exact T7 this<|bu _
  .rcases ay.mp (I3.stkSub b hm)with e|e
   .exact(f3 b hb').2.1 e
   .exact(f3 b hb').2.2.1 e
  .obtain⟨o,ho,_⟩:=T.obj _ _ st2 b hb'
   have:=aJ<|old b o ho;rw[<-z]at this;exact T7 q.2.1<|Nat.not_le.mpr this
 subst hY
 let Y:=cxC X N scope cl s3 (upd H2 D<|.lst []) fp
 have st4:tn 0 h₁:=T.keep _ _ _ st2 λb hb' o e=>keep4 b o<|old b o e
 have fr4:∀b∈fp,upd H2 D (HO.lst []) b=ae:=λb hb'=>(f3 b hb').1
 have loop:fC (aT X.prog X.w) X.A (.compLoop (.ListComp elt (#[tg,iter,ifs,0]::rest) scope pos) 0 (.ref it) (.ref D)<|compEnvC scope cl s3.heap.objs.size X.env)
   (compPost (aT X.prog X.w) X.A X.xe use QQ (.ref D) s3.heap.objs.size) {s2 with heap:=h₁,toks:=s2.toks}:=by
  refine Jc (Y:=cxC X N scope cl s3 (upd H2 D<|.lst []) fp) (pq:=[]) (W:=W) (Q:=λ_ H'=>Q (.ref D) H') hc (λ_ _ z=>z) (hT _ _ _) rfl rfl T hg ht (he D) stat turn (λσ5 H5 s6 I6 qn=>?_) I4 st4 fr4 w0 rfl rfl
  obtain⟨m6,hn6,_⟩:=I6.loc;have u:=I6.base;have IX:Inv X pq Z H5 s6:=Inv.call' (s':=s6) (ch:=fp) I3 I6.os #[u.keep,u.slot,u.free,u.there,u.tups,u.frzs,u.tbls] I6.hok I6.bare λb hb'=>#[(f3 b hb').2.2.2.1,(f3 b hb').2.1,(f3 b hb').2.2.2.2.1,λp hp e=>(f3 b hb').2.2.2.2.2 p hp e]
  refine fin D s3.heap.objs.size H5 s6 IX #[I6.free,#[m6,hn6],Ne.symm<|bz I3.lt,I3.sz,λx c e z=>?_,λp hp z=>?_] qn
  .obtain⟨v,q⟩:=I3.cell x c e
   exact T7 q.lt (by rw[z];exact bu _)
  .exact T7 (aJ (I3.pin p hp).1) (by rw[z];exact bu _)
 subst hs3;exact codeAny_compStart_list loop<|T.self _ 0 _ _ _ st4 loop
def Gone.inv(G:Gone X pq H s C)(I:Inv X pq Z H s)(hsb:fB C s.heap h'):Inv X pq Z H {s with heap:=h' }:=
 I.turned (t':=s.toks) (λb o hb e=>(hsb.2 b hb).trans e) G.free G.loc (.inr G.big) G.cel G.pin
def Zfc(te:TE)(D:aP):TEm:=λZ H Q=>te Z H λy H4=>∃ys,H4 D=aa (.lst ys)/\ys.length<bx/\Q Z (upd H4 D<|.lst<|ys++[y])
def Zcz(hc:X.calm=al)(hN:X.N.Nodup)(CS:CompScope X.env.scope X.N scope N cap nl)(hi:PI X tg iter wi)
  (hb:∀cl s H fp,PG (cxC X N scope cl s H fp) tg g/\PTs (cxC X N scope cl s H fp) ifs tt/\PE (cxC X N scope cl s H fp) elt te)
  (hs:∀x,bS iter X.env x=cY x:=by intro _;rfl):PE X (.ListComp elt [#[tg,iter,ifs,0]] scope pos) (qW wi g tt te cap nl):=by
 intro pq s Z H Q I h;rw[eval_ListComp];refine VR (act:=λacc env k=>(do let _ <-call (.builtin "list.append") [acc,<-cI elt env]:oq Unit) >>= λ_=>k) hc hN CS hi (λ_ _ _=>rfl) (λcl s H fp=>#[(hb cl s H fp).1,(hb cl s H fp).2.1,λD=>QE (λ_ _ z=>z) (hb cl s H fp).2.2]) hs I h λD C H5 s6 I6 G q=>?_
 obtain⟨m6,hn6⟩:=G.ns;exact#[m6,hn6,λh' hsb=>#[.ref D,H5,G.inv I6 hsb,rfl,q]]
def Zbv(hc:X.calm=al)(hN:X.N.Nodup)(CS:CompScope X.env.scope X.N scope N cap nl)(hi:PI X tg iter wi)
  (hb:∀cl s H fp,PG (cxC X N scope cl s H fp) tg g/\PTs (cxC X N scope cl s H fp) ifs tt/\PE (cxC X N scope cl s H fp) elt te)
  (hsw:iX (.ListComp elt [#[tg,iter,ifs,0]] scope pos) (aa<|.Name y py) spos.line X.env=cY al)
  (hy:X.N[i]?=aa y)(hx:L2.Loc X.env.scope y)(hf:X.fn y=al\/X.env.scope.names.lookup y=aa .local)
  (hs:∀x,bS iter X.env x=cY x:=by intro _;rfl):PS X (.Assign [.Name y py] (.ListComp elt [#[tg,iter,ifs,0]] scope pos) spos) (λD Z H=>qW wi g tt te cap nl Z H λv H1=>D.nx (Z.set i<|aa v) H1):=by
 intro pq s Z H D I h;rw[mm _ _ _ _ hsw];refine ab<|eg<|ab ?_;refine ab<|cV (VR (Q:=λv H1=>D.nx (Z.set i<|aa v) H1) (act:=λacc env k=>(do let _ <-call (.builtin "list.append") [acc,<-cI elt env]:oq Unit) >>= λ_=>k) hc hN CS hi (λ_ _ _=>rfl) (λcl s H fp=>#[(hb cl s H fp).1,(hb cl s H fp).2.1,λD=>QE (λ_ _ z=>z) (hb cl s H fp).2.2]) hs I h λA C H5 s6 I6 G q=>?_) (λ_ s' hq=>ax<|ax hq) λ_ _ e=>e
 refine kC<|Ub (v:=V.ref A) I6 hN hy hx rfl (λs7 I7 #[a,hsb,ha]=>?_) hf
 have hCa:C≠a:=by
  rcases ha with e|e
  .rw[e];exact G.loc
  .exact Ne.symm<|G.cel y a e
 obtain⟨m6,hn6⟩:=G.ns;have G7:Gone X pq H5 s7 C:=#[G.free,#[m6,hn6.sameBut hsb hCa],G.loc,G.big,G.cel,G.pin];exact#[m6,hn6.sameBut hsb hCa,λh' hs'=>#[Z.set i<|aa<|.ref A,H5,G7.inv I7 hs',q]]
def wm(wi:TI)(g:TG)(tt:TT)(te:TEm):TEm:=λZ H Q=>wi Z H λJ H1=>∃W:Nat->Nat->L2.St->Hp->Prop,(∃m,W 0 m Z H1)/\vG J g tt te W Q
def xf(hc:Y.calm=al)(hx:∀a b,Y.xe a b->False)(hi:PI Y t2 i2 wi)(hg:PG Y t2 g)(ht:PTs Y f2 tt)(he:yk Y act te)
  (hs:∀x,bS i2 Y.env x=cY x)
  (hstart:∀(it:ao)(R:rB->au->Prop)(s:au),fC (aT Y.prog Y.w) Y.A (.compLoop (.ListComp elt gens scope pos) 1 it acc Y.env) R s->aY (aT Y.prog Y.w) Y.A (kQ it) (λit' s'=>fC (aT Y.prog Y.w) Y.A (.compLoop (.ListComp elt gens scope pos) 1 it' acc Y.env) R s') (notedBy (aT Y.prog Y.w) Y.A Y.env λx s'=>R (.error x) s') s->fC (aT Y.prog Y.w) Y.A (.compStart (.ListComp elt gens scope pos) 1 it acc Y.env) R s)
  (hT:∀it,pK (.ListComp elt gens scope pos) 1 it acc Y.env=QY i2.pos t2 f2 act it Y.env (.compLoop (.ListComp elt gens scope pos) 1 it acc Y.env)) :
  yk Y (λk=>do let x <-cI i2 Y.env;kD i2.pos;let x <-bS i2 Y.env x;let _ <-runOwn (.compStart (.ListComp elt gens scope pos) 1 (<-fV [x] (kQ x)) acc Y.env) Y.env;k) (wm wi g tt te):=by
 intro pq s Z H Q k QF EE I h hk;refine ab<|cV (hi pq s Z H _ I h) (λv s1 h1=>ab<|eg<|ab<|cM (hs v)<|ab<|ck<|cV h1 (λitv s2 h2=>?_) λ_ _ z=>(hx _ _ z).elim) λ_ _ z=>(hx _ _ z).elim
 obtain⟨it,fp,tn,J,H2,rfl,I2,T,st2,f2',W,⟨m0,w0⟩,turn⟩:=h2;have stat:∀{H':Hp},(∀b∈fp,H' b=ae)->∀b∈fp,Vu Y pq H' b:=λhn b hb=>#[hn b hb,(f2' b hb).2]
 have loop:fC (aT Y.prog Y.w) Y.A (.compLoop (.ListComp elt gens scope pos) 1 (.ref it) acc Y.env) (λr s'=>match r with|.ok f=>aY (aT Y.prog Y.w) Y.A k QF EE s'|.error x=>cameBackBy (aT Y.prog Y.w) Y.A Y.env EE x s') s2:=
  Jc hc hx (hT _) rfl rfl T hg ht he stat turn (λσ5 H5 s6 I6 qn=>hk s6 σ5 H5 I6 qn) I2 st2 (λb hb=>(f2' b hb).1) w0 rfl rfl
 exact ab<|wpAny_runOwn<|hstart _ _ _ loop<|T.self _ 0 _ _ _ st2 loop
def Zeq{R:rB->au->Prop}
  (h0:fC (aT prog w) A (.compLoop (.ListComp elt [#[t1,i1,f1,0],#[t2,i2,f2,0]] scope pos) 1 it acc env) R s)
  (h:aY (aT prog w) A (kQ it) (λit' s'=>fC (aT prog w) A (.compLoop (.ListComp elt [#[t1,i1,f1,0],#[t2,i2,f2,0]] scope pos) 1 it' acc env) R s') (notedBy (aT prog w) A env λx s'=>R (.error x) s') s) :
  fC (aT prog w) A (.compStart (.ListComp elt [#[t1,i1,f1,0],#[t2,i2,f2,0]] scope pos) 1 it acc env) R s:=by
 refine iK ?_;show aY _ _ ((compStart (.ListComp elt [#[t1,i1,f1,0],#[t2,i2,f2,0]] scope pos) 1 it acc env).onRaise λx=>do noteFrame x env;kD theWindowsPlace) _ _ s
 refine wpAny_notedAt ?_;refine ab<|fq<|wpAny_ite ?_;split
 .first|exact ab<|ax<|ax<|aW rfl h0|exact ax<|aW rfl h0
 .first|exact ab<|eA<|ab<|eg<|ab<|cV h (λit' s' h'=>ax<|aW rfl h') λ_ _ x=>x|(refine ab<|eA ?_;exact ab<|eg<|ab<|cV h (λit' s' h'=>ax<|aW rfl h') λ_ _ x=>x)
def uD(hc:X.calm=al)(hN:X.N.Nodup)(CS:CompScope X.env.scope X.N scope N cap nl)(hi:PI X t1 i1 wi)
  (hb:∀cl s H fp,PG (cxC X N scope cl s H fp) t1 g1/\PTs (cxC X N scope cl s H fp) f1 tt1/\PI (cxC X N scope cl s H fp) t2 i2 wj/\PG (cxC X N scope cl s H fp) t2 g2/\PTs (cxC X N scope cl s H fp) f2 tt2/\PE (cxC X N scope cl s H fp) elt te)
  (hsw:iX (.ListComp elt [#[t1,i1,f1,0],#[t2,i2,f2,0]] scope pos) (aa<|.Name y py) spos.line X.env=cY al)
  (hy:X.N[i]?=aa y)(hx:L2.Loc X.env.scope y)(hf:X.fn y=al\/X.env.scope.names.lookup y=aa .local)
  (hs:∀x,bS i1 X.env x=cY x:=by intro _;rfl)(hs2:∀env x,bS i2 env x=cY x:=by intro _ _;rfl) :
  PS X (.Assign [.Name y py] (.ListComp elt [#[t1,i1,f1,0],#[t2,i2,f2,0]] scope pos) spos) (λD Z H=>wB wi g1 tt1 (λD=>wm wj g2 tt2<|Zfc te D) cap nl Z H λv H1=>D.nx (Z.set i<|aa v) H1):=by
 intro pq s Z H D I h;rw[mm _ _ _ _ hsw];refine ab<|eg<|ab ?_;refine ab<|cV (VR (act:=λacc env k=>do let x <-cI i2 env;kD i2.pos;let x <-bS i2 env x;let _ <-runOwn (.compStart (.ListComp elt [#[t1,i1,f1,0],#[t2,i2,f2,0]] scope pos) 1 (<-fV [x] (kQ x)) acc env) env;k) hc hN CS hi (λ_ _ _=>rfl) (λcl s H fp=>?_) hs I h λA C H5 s6 I6 G q=>?_) (λ_ s' hq=>ax<|ax hq) λ_ _ e=>e
 .obtain⟨a1,a2,a3,a4,a5,a6⟩:=hb cl s H fp
  exact#[a1,a2,λD=>xf hc (λ_ _ z=>z) a3 a4 a5 (QE (λ_ _ z=>z) a6) (λx=>hs2 _ x) (λit R s k1 k2=>Zeq k1 k2) λit=>rfl]
 refine kC<|Ub (v:=V.ref A) I6 hN hy hx rfl (λs7 I7 #[a,hsb,ha]=>?_) hf
 have hCa:C≠a:=by
  rcases ha with e|e
  .rw[e];exact G.loc
  .exact Ne.symm<|G.cel y a e
 obtain⟨m6,hn6⟩:=G.ns;have G7:Gone X pq H5 s7 C:=#[G.free,#[m6,hn6.sameBut hsb hCa],G.loc,G.big,G.cel,G.pin];exact#[m6,hn6.sameBut hsb hCa,λh' hs'=>#[Z.set i<|aa<|.ref A,H5,G7.inv I7 hs',q]]
open Ev (E Sm Fn Bop Cop Ty Bf Mf)
section
variable{X:Cx}{xw:Nat->Hp->Prop}{C:Calls}{e a b c tg it:Expr}{i j k:E}{pos p p' p2:iP}
structure CTs(X:Cx)(xw:Nat->Hp->Prop)(C:Calls)(ifs:List Expr)(is:List E):Prop where
 h:PTs X ifs (tB3 X xw<|Pv.pvt C is)
def PTs.imp{X:Cx}{e:List Expr}{t t':TT}(h:PTs X e t)(k:∀Z H Q,t' Z H Q->t Z H Q):PTs X e t':=λpq s Z H Q I q=>h pq s Z H Q I<|k Z H Q q
def ZbT:CTs X xw C [] []:=.mk <| PTs.imp Zb9<|by rintro Z H Q ⟨O,l,S,st,lr,h⟩;exact End.ok (h) st rfl
def Zch(Z:Lc)(S:Zy):Pv.pvt C [i] Z S=Pv.Xz C i Z S:=by
 show((Pv.pv C i Z S).bind λx S=>(Pv.po (Pv.Zu x) S).bind λb S=>if b then Pv.pvt C [] Z S else .ok am S)=(Pv.pv C i Z S).bind λx S=>Pv.po (Pv.Zu x) S
 congr 1
 funext x S
 cases Pv.Zu x with|none=>rfl|some b=>cases b<;>rfl
def Zcb(h:CT X xw C c i):CTs X xw C [c] [i]:=.mk <| PTs.imp (ZbS h.h)<|by rintro Z H Q ⟨O,l,S,st,lr,h⟩;exact #[O,l,S,st,lr,by rw[<-Zch];exact h]
def LocR.caught(lr:LocR O H l Z)(cap:List Nat)(nl:Nat):LocR O H (Pv.Z8 cap nl l) (Xf cap nl Z):=by
 refine#[by unfold Pv.Z8 Xf;simp,λn d e=>?_]
 unfold Pv.Z8 at e;by_cases hn:n<nl
 .rw[bJ (by simp;exact hn),bT,T9 hn]at e
  cases e
 .rw[bh (by simp;omega),cg,aH]at e
  unfold Xf;rw[bh (by simp;omega),cg,aH]
  cases q:cap[n-nl]? with
  |none=>rw[q]at e;cases e
  |some m=>
   rw[q]at e;have e':(l[m]?).join=aa d:=ak e;have:l[m]?=aa (aa d):=by
    cases z:l[m]? with
    |none=>rw[z]at e';cases e'
    |some o=>rw[z]at e';cases o with|none=>cases e'|some w=>cases e';rfl
   obtain⟨v,hv,r⟩:=lr.val m d this;exact#[v,by show aa ((Z[m]?).join)=_;rw[hv];rfl,r]
noncomputable def Mx.at(O:Mx)(A:aP):Mx:=#[O.K,O.n0,λa=>O.X a\/a=A,λa h=>.inl<|O.xz a h]
def XJ(O:Mx)(A:aP)(H H':Hp):Prop:=∀a o,a≠A->H a=aa o->H' a=aa o\/(O.n0=aa a/\∃xs,o=.lst xs)\/((∃ps,o=.tbl ps)/\∃ps,H' a=aa (.tbl ps))
def XJ.trans(f:XJ O A H H1)(g:XJ O A H1 H2):XJ O A H H2:=λa o n h=>(f a o n h).elim (g a o n) λz=>z.elim (λz=>.inr<|.inl z)<|by
 rintro ⟨e,ps,h⟩;rcases g a _ n h with q|⟨_,xs,q⟩|⟨_,q⟩
 .exact .inr<|.inr #[e,ps,q]
 .cases q
 .exact .inr<|.inr #[e,q]
def XJ.of(f:Fut (O.at A) H ρ' H1):XJ O A H H1:=λa o _ h=>f.keep a o h
structure CI(K:ap)(O:Mx)(A:aP)(acc:List D)(l:Lc)(Z:L2.St)(H:Hp)(S:Zy):Prop where
 st:St3 K (O.at A) S H
 lr:LocR (O.at A) H l Z
 ac:∃us,H A=aa (.lst us)/\Reps (O.at A) H acc us
section
variable{K:ap}{O:Mx}{A:aP}{acc:List D}{l l':Lc}{Z:L2.St}{H H':Hp}{S S':Zy}
def XJ.lat(f:XJ O A H H')(ha:H A=aa (.lst us)):Lat (O.at A) H (O.at A) H':=#[rfl,rfl,λa o h x n _=>by
 by_cases c:a=A
 .subst c;rw[ha]at h;cases h;exact T7 (.inr rfl)<|x us rfl
 .rcases f a o c h with z|⟨z,xs,e⟩|⟨⟨ps,e⟩,_⟩
  .exact z
  .exact T7 (.inl<|O.xz a z)<|x xs e
  .exact T7 e<|n ps,λ_ _ x=>x]
theorem CI.mono(h:CI K O A acc l Z H S)(na:O.n0≠aa A)(f:Fut (O.at A) H ρ' H')(st:St3 K (O.at A) S' H'):CI K O A acc l Z H' S':=by
 obtain⟨us,e,r⟩:=h.ac;cases f.eq;exact#[st,h.lr.mono f,us,(f.keep A _ e).elim id λz=>z.elim (λz=>T7 z.1 na)<|by rintro ⟨⟨_,z⟩,_⟩;exact (by cases z),r.mono f]
def ZfF{Q:L2.St->Hp->Prop}(lr:LocR O H l Z)(r:Rep O H d v)(e:Pv.Zp t d l=aa l')(q:∀σ',LocR O H l' σ'->Q σ' H):tGU K t v Z H Q:=by
 have fill:∀{t:List Nat}{vs:List D}{us:List V}{l l':Lc}{Z:L2.St},LocR O H l Z->Reps O H vs us->Pv.Y7 t vs l=aa l'->us.length=t.length/\LocR O H l' (QM t us Z):=λ{t}=>by
  induction t with
  |nil=>intro vs us l l' Z h r e;cases vs with|nil=>rw[r];cases e;exact#[rfl,h]|cons _ _=>cases e
  |cons i t ih=>intro vs us l l' Z h r e;cases vs with
   |nil=>cases e
   |cons v vs=>
    obtain⟨d,ds,rfl,a,b⟩:=r;obtain⟨z,q⟩:=ih (h.set i a) b e;exact#[by rw[aF,aF,z],q]
 have gen:∀t:List Nat,(match Pv.ZbA d with
   |some xs=>Pv.Y7 t xs l
   |none=>ae)=aa l'->∃a xs,v=.ref a/\(SqT K H a xs\/H a=aa (.lst xs))/\xs.length=t.length/\Q (QM t xs Z) H:=by
  intro t e;cases d with|tup vs=>obtain⟨p,ds,rfl,hp,rs⟩:=r.tup';obtain⟨z,y⟩:=fill lr rs e;exact#[p,ds,rfl,.inl<|SqT.of hp,z,q _ y]|lst vs=>obtain⟨p,ds,rfl,hp,_,rs⟩:=r.lst';obtain⟨z,y⟩:=fill lr rs e;exact#[p,ds,rfl,.inr hp,z,q _ y]|_=>cases e
 match t,e with
 |[i],e=>cases e;exact q _<|lr.set i r
 |[],e=>exact gen [] e
 |i::j::t,e=>exact gen (i::j::t) e
theorem Jp:∀{t:List Nat}{vs:List D}{l l':Lc},Pv.Y7 t vs l=aa l'->l'.length=l.length/\∀j,j∉t->l'[j]?=l[j]?
 |[],[],l,l',h=>by cases h;exact#[rfl,λ_ _=>rfl]
 |[],_::_,_,_,h=>by cases h
 |_::_,[],_,_,h=>by cases h
 |i::t,v::vs,l,l',h=>by
  obtain⟨a,b⟩:=Jp (t:=t) h;exact#[by rw[a,bH],λj hj=>by rw[b j λz=>hj<|af _ z,bj λz=>hj (by rw[z];exact ai ..)]]
def Uu(e:Pv.Zp t v l=aa l'):l'.length=l.length/\∀j,j∉t->l'[j]?=l[j]?:=by
 have gen:∀t:List Nat,(match Pv.ZbA v with
   |some xs=>Pv.Y7 t xs l
   |none=>ae)=aa l'->l'.length=l.length/\∀j,j∉t->l'[j]?=l[j]?:=λt e=>by
  cases q:Pv.ZbA v with|none=>rw[q]at e;cases e|some xs=>rw[q]at e;exact Jp e
 match t,e with
 |[i],e=>cases e;exact#[bH ..,λj hj=>bj λz=>hj (by rw[z];exact ai ..)]
 |[],e=>exact gen [] e
 |i::j::t,e=>exact gen (i::j::t) e
def LocR.back(e:Pv.Zp t v l=aa l')(hn:∀i∈t,∀d,l[i]?≠aa (aa d))(lr:LocR O H l' Z):LocR O H l Z:=by
 obtain⟨a,b⟩:=Uu e;exact#[by rw[<-a];exact lr.len,λi d q=>lr.val i d (by rw[b i λz=>hn i z d q];exact q)]
end
noncomputable def Zdy(C:Calls)(t:List Nat)(is:List E)(G:Lc->Zy->R (List D))(l:Lc)(x:D)(S:Zy):R (List D):=(Pv.po (Pv.Zp t x l) S).bind λl S=>(Pv.pvt C is l S).bind λb S=>if b then G l S else .ok [] S
def UF{B β:Type}{r:R B}{f:B->Zy->R β}{b:β}{S:Zy}(h:r.bind f=.ok b S):∃a S1,r=.ok a S1/\f a S1=.ok b S:=by
 cases r with|ok a S1=>exact#[a,S1,rfl,h]|ex _ _=>cases h|no=>cases h
def qk(h:Pv.mapP f (x::w) S=.ok rs S2):∃y S1 zs,f x S=.ok y S1/\Pv.mapP f w S1=.ok zs S2/\rs=y++zs:=by
 rw[Pv.mapP]at h;split at h
 .split at h
  .cases h;exact#[_,_,_,‹_›,‹_›,rfl]
  .cases h
 .cases h
def Zgg(K:ap)(O:Mx)(A:aP)(P:Lc->Prop)(te:TEm)(G:Lc->Zy->R (List D)):Prop:=∀acc l Z H S ys S2 QQ,P l->CI K O A acc l Z H S->G l S=.ok ys S2->(acc++ys).length<=Ev.lim->(∀σ3 H3,XJ O A H H3->CI K O A (acc++ys) l σ3 H3 S2->QQ σ3 H3)->te Z H QQ
def U9{O ρw:Mx}{A:aP}{Hw:Hp}{w:List D}{J:It}(r:WRel X.K ρw Hw w J)(na:O.n0≠aa A){t:List Nat}{is:List E}{te:TEm}{G:Lc->Zy->R (List D)}{P:Lc->Prop}(em:Zgg X.K O A P te G){l:Lc}(hn:∀i∈t,∀d,l[i]?≠aa (aa d))(hP:∀x l2,Pv.Zp t x l=aa l2->P l2){acc ys:List D}{Z:L2.St}{H:Hp}{S S2:Zy}{QQ:L2.St->Hp->Prop}
  (hl:∀H',XJ O A H H'->Lat ρw Hw (O.at A) H')(c:CI X.K O A acc l Z H S)(h:Pv.mapP (Zdy C t is G l) w S=.ok ys S2)(hz:(acc++ys).length<=Ev.lim)(k:∀σ3 H3,XJ O A H H3->CI X.K O A (acc++ys) l σ3 H3 S2->QQ σ3 H3) :
  ∃W:Nat->Nat->L2.St->Hp->Prop,(∃m,W 0 m Z H)/\vG J (tGU X.K t) (tB3 X nx<|Pv.pvt C is) te W QQ:=by
 refine#[λn m σ' H'=>m=w.length-n/\n<=w.length/\XJ O A H H'/\∃ac rs S',ac++rs=acc++ys/\Pv.mapP (Zdy C t is G l) (w.drop n) S'=.ok rs S2/\CI X.K O A ac l σ' H' S',#[w.length,rfl,cL _,λ_ _ _ h=>.inl h,acc,ys,S,rfl,h,c],?_]
 rintro n m σ' H' ⟨rfl,hn',ff,ac,rs,S',ea,e',c'⟩
 have lat:=hl H' ff;by_cases hlt:n<w.length
 .right
  rw[cp hlt]at e';obtain⟨y1,S1,r1,q1,q2,rfl⟩:=qk e';obtain⟨go,yl⟩:=r.go n _ S' H' lat c'.st hlt;refine#[go,λx H3 y=>?_]
  obtain⟨f3,st3,rp⟩:=yl x H3 y;have rx:=rp _<|ag hlt;obtain⟨l2,Sa,ha,q1⟩:=UF q1;obtain⟨b,Sb,hb,q1⟩:=UF q1;have hal:Pv.Zp t w[n] l=aa l2/\Sa=S':=by
   cases z:Pv.Zp t w[n] l<;>rw[z]at ha<;>cases ha;exact#[rfl,rfl]
  obtain⟨hal,rfl⟩:=hal;have ff3:=ff.trans<|XJ.of f3;have c3:=c'.mono na f3 st3;refine ZfF c3.lr rx hal λσ2 lr2=>#[O.at A,l2,Sa,st3,lr2,?_]
  rw[hb];intro ρ4 H4 b' f4 st4 eb;have eb:=eb;subst eb;cases f4.eq;have ff4:=ff3.trans<|XJ.of f4;have c4:=c3.mono na f4 st4;cases b with
  |false=>
   rw[T8 aI]at q1 ⊢;cases q1;exact#[w.length-(n+1),by omega,rfl,hlt,ff4,ac,r1,_,ea,q2,c4.st,(lr2.mono f4).back hal hn,c4.ac]
  |true=>
   rw[T9 rfl]at q1 ⊢;refine em ac l2 σ2 H4 Sb y1 S1 _ (hP _ _ hal) #[c4.st,lr2.mono f4,c4.ac] q1 ?_ λσ3 H5 f5 c5=>#[w.length-(n+1),by omega,rfl,hlt,ff4.trans f5,ac++y1,r1,S1,by rw[bp];exact ea,q2,c5.st,c5.lr.back hal hn,c5.ac]
   rw[<-ea]at hz;simp only[ba]at hz ⊢;omega
 .left
  have en:n=w.length:=by omega
  subst en;rw[eo]at e';cases e';rw[cF]at ea;subst ea;exact#[r.stop _ _ H' lat c'.st,k σ' H' ff c']
def ZaE{O:Mx}{A:aP}(na:O.n0≠aa A)(ie:E):Zgg X.K O A (λ_=>True) (Zfc (tE X nx<|Pv.pv C ie) A) (λl S=>(Pv.pv C ie l S).bind λy S=>.ok [y] S):=λacc l Z H S ys S2 QQ _ c h hz k=>by
 obtain⟨y,S1,hy,h⟩:=UF h;cases h;refine#[O.at A,l,S,c.st,c.lr,?_];rw[hy];intro ρ4 H4 v f4 st4 r4;cases f4.eq;have c4:=c.mono na f4 st4;obtain⟨us,e,r⟩:=c4.ac;rw[ba]at hz;have hz:acc.length+1<=Ev.lim:=hz;have fa:XJ O A H4 (upd H4 A<|.lst<|us++[v]):=λa o n h=>.inl (by rw[Zv n];exact h)
 have lt:=fa.lat e;refine#[us,e,by rw[r.length,<-WS];omega,k Z _ ((XJ.of f4).trans fa) #[#[st4.hk,λb x=>?_,λb x=>?_,st4.tb.upd (λo u z=>by rw[e]at z;cases z) λ_ z=>by cases z],#[c4.lr.len,λi d q=>let #[u,a,b]:=c4.lr.val i d q;#[u,a,b.lat lt]],_,ZL,(r.lat lt).append<|Reps.cons (r4.lat lt) Reps.nil]]
 .by_cases z:b=A
  .rw[z,ZL];intro q;cases q
  .rw[Zv z];exact st4.xd b x
 .rw[Zv λz=>na (by rw[<-z];exact x)];exact st4.dw b x
def vw(st:St3 X.K O S H)(lr:LocR O H l Z)(hA:H A=ae):O.n0≠aa A/\CI X.K O A [] l Z (upd H A<|.lst []) S/\∀H',XJ O A (upd H A<|.lst []) H'->Fut O H O H'/\Lat O H (O.at A) H':=by
 have ne:∀a,H a≠ae->a≠A:=λa h z=>h<|z▸hA
 have f:∀H',XJ O A (upd H A<|.lst []) H'->Fut O H O H'/\Lat O H (O.at A) H':=λH' g=>by
  have f:Fut O H O H':=#[rfl,λa o h=>g a o (ne a<|by rw[h];intro z;cases z) (by rw[Zv<|ne a (by rw[h];intro z;cases z)];exact h)]
  exact#[f,rfl,rfl,f.lat.keep',λa h x=>x.elim id λz=>T7 z<|ne a h]
 have s:=st.fresh (o:=.lst []) hA;obtain⟨f1,lt⟩:=f _ λ_ _ _ h=>.inl h
 refine#[λz=>st.xd A (O.xz A z) hA,#[#[s.hk,λb x=>x.elim (s.xd b) λz=>(by rw[z,ZL];intro q;cases q),s.dw,s.tb],#[lr.len,λi d q=>let #[u,a,b]:=lr.val i d q;#[u,a,b.lat lt]],[],ZL,Reps.nil],f]
def V7{l:Lc}{cap:List Nat}{nl i:Nat}(h:i<nl)(v:D):(Pv.Z8 cap nl l)[i]?≠aa (aa v):=by
 unfold Pv.Z8;rw[bJ (by simpa using h),bT,T9 h]
 intro z;cases z
def yN(f0:Fut O H0 O H)(hA:H A=ae)(st:St3 X.K O S H)(f:Fut O H O H')(c:CI X.K O A ys l Z H' S')(h:End X.K nx (WH al H0) O H Q (.ok (.lst ys) S')):Q (.ref A) H':=by
 obtain⟨us,e,r⟩:=c.ac;have lt:Lat (O.at A) H' O H':=#[rfl,rfl,λ_ _ h _ _ _=>h,λ_ _ x=>.inl x]
 refine h O H' _ f #[c.st.hk,λb x=>c.st.xd b<|.inl x,c.st.dw,c.st.tb] #[VA e (st.nx hA)<|r.lat lt,λ_ _ _=>#[A,rfl,f0.new hA st.xd]]
def yJ{K:ap}{rep:Mx->Hp->D->V->Prop}{O:Mx}{H:Hp}{Q:VK}{r:R (List D)}(h:End K xw rep O H Q (r.bind λys s=>if ys.length<=Ev.lim then Pv.PR.ok (.lst ys) s else .no).nox):∃ys S,r=.ok ys S/\ys.length<=Ev.lim/\End K nx rep O H Q (.ok (.lst ys) S):=by
 cases r with
 |no=>exact h.elim
 |ex c S=>exact h.elim
 |ok ys S=>
  have h:=End.nox h
  obtain⟨hl,h⟩:=End.guard h;exact#[ys,S,rfl,hl,h]
def zC{is:List E}{ie:E}{cap:List Nat}{nl:Nat}{w:Ev.W}{t:List Nat}{Z:L2.St}{H:Hp}{Q:VK}(hyp:tF X xw (Pv.pv C<|.comp1 cap nl t w is ie) Z H Q):qW (tW3 X xw<|Pv.pvw C w) (tGU X.K t) (tB3 X nx<|Pv.pvt C is) (tE X nx<|Pv.pv C ie) cap nl Z H Q:=by
 obtain⟨O,l,S,st,lr,h⟩:=hyp;rw[Pv.pv]at h;obtain⟨ho,h⟩:=End.guard h;refine#[O,l,S,st,lr,h.bind λwk S1 ρ1 H1 J f1 st1 r1 h1=>λA hA=>?_]
 cases f1.eq;obtain⟨ys,S2,hm,hl,h1⟩:=yJ h1;obtain⟨na,ci,ft⟩:=vw st1 ((lr.mono f1).caught cap nl) hA;exact U9 r1 na (ZaE na ie) (λi hi d=>V7 (T6<|aX.mp ho i hi) d) (λ_ _ _=>da) (λH' f=>(ft H' f).2) ci hm hl λσ3 H3 f3 c3=>yN f1 hA st1 (ft H3 f3).1 c3 h1
def uJ{is js:List E}{ie:E}{cap:List Nat}{nl:Nat}{w w2:Ev.W}{t u:List Nat}{Z:L2.St}{H:Hp}{Q:VK}(hyp:tF X xw (Pv.pv C<|.comp2 cap nl t w is u w2 js ie) Z H Q) :
  wB (tW3 X xw<|Pv.pvw C w) (tGU X.K t) (tB3 X nx<|Pv.pvt C is) (λD=>wm (tW3 X nx<|Pv.pvw C w2) (tGU X.K u) (tB3 X nx<|Pv.pvt C js)<|Zfc (tE X nx<|Pv.pv C ie) D) cap nl Z H Q:=by
 obtain⟨O,l,S,st,lr,h⟩:=hyp;rw[Pv.pv]at h;obtain⟨ho,h⟩:=End.guard h;obtain⟨ho,hu⟩:=(aG _ _).mp ho;refine#[O,l,S,st,lr,h.bind λwk S1 ρ1 H1 J f1 st1 r1 h1=>λA hA=>?_]
 cases f1.eq;obtain⟨ys,S2,hm,hl,h1⟩:=yJ h1;obtain⟨na,ci,ft⟩:=vw st1 ((lr.mono f1).caught cap nl) hA;have hu:∀i∈u,i<nl/\i∉t:=λi hi=>by
  have:=(aG _ _).mp<|aX.mp hu i hi;exact#[T6 this.1,by simpa using this.2]
 refine U9 (P:=λl=>∀i∈u,∀d,l[i]?≠aa (aa d)) r1 na (λacc l Z H S ys S2 QQ pl c h hz k=>?_) (λi hi d=>V7 (T6<|aX.mp ho i hi) d) (λx l2 e i hi d=>?_) (λH' f=>(ft H' f).2) ci hm hl λσ3 H3 f3 c3=>yN f1 hA st1 (ft H3 f3).1 c3 h1
 .obtain⟨wk2,S5,hw,h⟩:=UF h
  refine#[O.at A,l,S,c.st,c.lr,?_];rw[hw];intro ρ5 H5 J5 f5 st5 r5;cases f5.eq;have c5:=c.mono na f5 st5;obtain⟨us,e,_⟩:=c5.ac;exact U9 r5 na (ZaE na ie) pl (λ_ _ _=>da) (λH' f=>f.lat e) c5 h hz λσ3 H3 f3 c3=>k σ3 H3 ((XJ.of f5).trans f3) c3
 .rw[(Uu e).2 i (hu i hi).2]
  exact V7 (hu i hi).1 d
def j8{elt:Expr}{ifs:List Expr}{is:List E}{ie:E}{scope:fg}{N:List bI}{cap:List Nat}{nl:Nat}{w:Ev.W}{t:List Nat}(hc:X.calm=al)(hN:X.N.Nodup)(CSc:CompScope X.env.scope X.N scope N cap nl)(hi:CW X xw C tg it w)
  (hb:∀cl s H fp,CG (cxC X N scope cl s H fp) tg t/\CTs (cxC X N scope cl s H fp) nx C ifs is/\CE (cxC X N scope cl s H fp) nx C elt ie)
  (hs:∀x,bS it X.env x=cY x):CF X xw C (.ListComp elt [#[tg,it,ifs,0]] scope pos) (.comp1 cap nl t w is ie):=.mk <|
 PE.imp (Zcz (g:=tGU X.K t) (tt:=tB3 X nx<|Pv.pvt C is) (te:=tE X nx<|Pv.pv C ie) hc hN CSc hi.h (λcl s H fp=>have#[a,b,c]:=hb cl s H fp;#[a.h,b.h,c.h]) hs) λZ H Q hyp=>zC hyp
def ju{fr:Bool}{ns:List Nat}{elt:Expr}{ifs:List Expr}{is:List E}{ie:E}{scope:fg}{N:List bI}{cap:List Nat}{nl:Nat}{w:Ev.W}{t:List Nat}{n:Nat}{y:bI}{spos py:iP}(hc:X.calm=al)(hN:X.N.Nodup)(CSc:CompScope X.env.scope X.N scope N cap nl)(hi:CW X xw C tg it w)
  (hb:∀cl s H fp,CG (cxC X N scope cl s H fp) tg t/\CTs (cxC X N scope cl s H fp) nx C ifs is/\CE (cxC X N scope cl s H fp) nx C elt ie)
  (hsw:iX (.ListComp elt [#[tg,it,ifs,0]] scope pos) (aa<|.Name y py) spos.line X.env=cY al)
  (hy:X.N[n]?=aa y)(hx:L2.Loc X.env.scope y)(hf:X.fn y=al\/X.env.scope.names.lookup y=aa .local)
  (hs:∀x,bS it X.env x=cY x):CS X xw fr C ns (.Assign [.Name y py] (.ListComp elt [#[tg,it,ifs,0]] scope pos) spos) (.asg [n]<|.comp1 cap nl t w is ie):=.mk <|
 PS.imp (Zbv (g:=tGU X.K t) (tt:=tB3 X nx<|Pv.pvt C is) (te:=tE X nx<|Pv.pv C ie) hc hN CSc hi.h (λcl s H fp=>have#[a,b,c]:=hb cl s H fp;#[a.h,b.h,c.h]) hsw hy hx hf hs)<|by rintro D Z H ⟨O,H0,W,l,os,S,st,en,h⟩;exact zC<|Zfz st en h
def u7{fr:Bool}{ns:List Nat}{elt t1 i1 t2 i2:Expr}{f1' f2':List Expr}{is js:List E}{ie:E}{scope:fg}{N:List bI}{cap:List Nat}{nl:Nat}{w w2:Ev.W}{t u:List Nat}{n:Nat}{y:bI}{spos py:iP}(hc:X.calm=al)(hN:X.N.Nodup)(CSc:CompScope X.env.scope X.N scope N cap nl)(hi:CW X xw C t1 i1 w)
  (hb:∀cl s H fp,CG (cxC X N scope cl s H fp) t1 t/\CTs (cxC X N scope cl s H fp) nx C f1' is/\CW (cxC X N scope cl s H fp) nx C t2 i2 w2/\CG (cxC X N scope cl s H fp) t2 u/\CTs (cxC X N scope cl s H fp) nx C f2' js/\CE (cxC X N scope cl s H fp) nx C elt ie)
  (hsw:iX (.ListComp elt [#[t1,i1,f1',0],#[t2,i2,f2',0]] scope pos) (aa<|.Name y py) spos.line X.env=cY al)
  (hy:X.N[n]?=aa y)(hx:L2.Loc X.env.scope y)(hf:X.fn y=al\/X.env.scope.names.lookup y=aa .local)
  (hs:∀x,bS i1 X.env x=cY x)(hs2:∀env x,bS i2 env x=cY x) :
  CS X xw fr C ns (.Assign [.Name y py] (.ListComp elt [#[t1,i1,f1',0],#[t2,i2,f2',0]] scope pos) spos) (.asg [n]<|.comp2 cap nl t w is u w2 js ie):=.mk <|
 PS.imp (uD (wj:=tW3 X nx<|Pv.pvw C w2) (g1:=tGU X.K t) (tt1:=tB3 X nx<|Pv.pvt C is) (g2:=tGU X.K u) (tt2:=tB3 X nx<|Pv.pvt C js) (te:=tE X nx<|Pv.pv C ie) hc hN CSc hi.h (λcl s H fp=>have#[a,b,c,d,e,f]:=hb cl s H fp;#[a.h,b.h,c.h,d.h,e.h,f.h]) hsw hy hx hf hs hs2)<|by rintro D Z H ⟨O,H0,W,l,os,S,st,en,h⟩;exact uJ<|Zfz st en h
end
theorem LocR.start(r:Reps O H ds vs)(N:List bI)(n:Nat)(hn:n=N.length):LocR O H (Pv.ZR n ds) (L2.start N vs):=by
 subst hn;have hl:=r.length;refine#[by unfold Pv.ZR L2.start;simp[hl],λi d e=>?_]
 unfold Pv.ZR at e;by_cases hi:i<ds.length
 .rw[bJ (by simpa using hi),aH]at e
  cases q:ds[i]? with
  |none=>rw[q]at e;cases e
  |some d'=>
   rw[q]at e;cases e;obtain⟨v,hv,r'⟩:=r.get q;refine#[v,?_,r'];unfold L2.start;rw[bJ (by simp;lia),aH,hv]
   rfl
 .rw[bh (by simp;lia),bT]at e
  split at e<;>cases e
theorem Eu.start{K:ap}{O:Mx}{H:Hp}{S:Zy}{ds:List D}{vs:List V}(st:St3 K O S H)(r:Reps O H ds vs)(N:List bI)(n:Nat)(hn:n=N.length):Eu O H (λ_=>ae) (Pv.ZR n ds) [] (L2.start N vs) H:=by
 have lr:=LocR.start r N n hn;refine#[Fut.refl _ _,st.xd,lr.len,λ_=>rfl,λ_ _ _ h=>?_,λ_ _ h=>?_,λ_ _ h=>?_,λi d e _=>?_]
 .cases h
 .cases h
 .cases h
 .obtain⟨v,a,b⟩:=lr.val i d e
  exact#[v,a,Rep.lat (O:=O) (ρ':=O.ex λ_=>ae) #[rfl,rfl,λ_ _ h _ _ _=>h,λ_ _ x=>Or.elim x id λ#[_,z]=>by cases z] b]
section
variable{P:bt}{w:bL}{K:ap}{mg:bI->Option ao}{base:cc}
noncomputable def yI(C:Calls)(fn:Fn)(ds:List D)(S:Zy):R D:=if ds.length=fn.ps then(Pv.rvs C (Pv.muts fn.body) fn.body (Pv.ZR fn.ns ds) [] S).bind λf S=>match f with
  |.ret x=>.ok x S
  |.nx _ _=>.ok .non S
  |_=>.no
 else .no
def jn{C:Calls}{fn:Fn}{fr:Bool}{xw:Nat->Hp->Prop}{O:Mx}{H:Hp}{ds:List D}{S:Zy}{Q:VK}{E:L2.Ends}(hE:∀v H',Q v H'->E.rt v H')(hN:∀Z H',Q .non H'->E.nx Z H')(h:End K xw (WH fr H) O H Q (yI C fn ds S)):Zx fr K xw O H E (Pv.rvs C (Pv.muts fn.body) fn.body (Pv.ZR fn.ns ds) [] S):=by
 obtain⟨_,h⟩:=End.guard h;cases q:Pv.rvs C (Pv.muts fn.body) fn.body (Pv.ZR fn.ns ds) [] S with
 |no=>rw[q]at h;exact h
 |ex c S2=>rw[q]at h;exact λH' f st=>h O H' f st
 |ok fl S2=>
  rw[q]at h;cases fl with|ret x=>exact λH' v f st r=>hE v H'<|h O H' v f st r|nx l os=>exact λH' σ' W' st en=>hN σ' H'<|h O H' .non en.fut st #[vI,λ_ _ z=>by cases z]|brk l os=>exact False.elim h|cnt l os=>exact False.elim h
def jr{C C':Calls}{n:Nat}{fn:Fn}{fr:Bool}{x qual:bI}{st:fU}{f:aP}{fd:c8}{N ps:List bI}{k:Nat}(hF:∀O S H ds vs,St3 K O S H->Reps O H ds vs->C' n ds S=.no\/C' n ds S=yI C fn ds S)(hns:fn.ns=N.length)(hps:fn.ps=ps.length)(Fu:Fun K x qual st f fd)(S:FnScope N ps (ZB st))
  (hb:∀(cdv:ao)(A:cn)(outer:List Env)(s:au)(H:Hp)(E:XK),Room k (A.deeper<|i6 qual (ZB st) s.heap.objs.size f cdv)->
   CSs (zi CX0 P w K mg base N qual (ZB st) f cdv A outer s H E).nox (λ_ _=>False) fr C (Pv.muts fn.body) (YD st) fn.body) :
  FnOk P w K mg base CX0 (k+1) f fd ps (spF K C' fr n):=by
 have eq:∀{O S H ds vs Q},St3 K O S H->Reps O H ds vs->End K (λ_ _=>False) (WH fr H) O H Q (C' n ds S)->End K (λ_ _=>False) (WH fr H) O H Q (yI C fn ds S):=λ{O S H ds vs Q} st r h=>by
  rcases hF O S H ds vs st r with e|e
  .rw[e]at h;exact h.elim
  .rw[e]at h;exact h
 refine Fu.ok S (λvs H Q E #[O,ds,S,st,r,h]=>?_) λcdv A outer s H vs Q E hr #[O,ds,S',st,r,h]=>#[_,(hb cdv A outer s H E hr).h,O,H,λ_=>ae,Pv.ZR fn.ns ds,[],S',st,Eu.start st r N fn.ns hns,jn (λ_ _ q=>q) (λ_ _ q=>q)<|eq st r h]
 have h:=eq st r h;unfold yI at h;obtain⟨hl,_⟩:=End.guard h;rw[r.length,hl,hps]
def vT{F:List Fn}{tk n k:Nat}{fr:Bool}{f:aP}{fd:c8}{ps:List bI}:FnOk P w K mg base CX0 k f fd ps (spF K (Pv.Zo F tk 0) fr n):=
 #[λvs H Q E #[O,ds,S,st,r,h]=>False.elim h,by rintro A outer s H args us vs Q E hr e0 hb r ⟨O,ds,S,st,r',h⟩;exact False.elim h]
end
def yo{a b c}:aL (.Constant a b c::es) env=(am,cI (.Constant a b c) env)::aL es env:=rfl
def ua{a b}:aL (.Name a b::es) env=(am,cI (.Name a b) env)::aL es env:=rfl
def jR{a b c}:aL (.Tuple a b c::es) env=(am,cI (.Tuple a b c) env)::aL es env:=rfl
def jj{a b c d}:aL (.BinOp a b c d::es) env=(am,cI (.BinOp a b c d) env)::aL es env:=rfl
def ZdW{a b c}:aL (.UnaryOp a b c::es) env=(am,cI (.UnaryOp a b c) env)::aL es env:=rfl
def ZaC{a b c d}:aL (.Compare a b c d::es) env=(am,cI (.Compare a b c d) env)::aL es env:=rfl
def Zas{a b c}:aL (.Subscript a b c::es) env=(am,cI (.Subscript a b c) env)::aL es env:=rfl
def vF{a b c d}:aL (.Call a b c d::es) env=(am,cI (.Call a b c d) env)::aL es env:=rfl
def ub{a b c d}:aL (.ListComp a b c d::es) env=(am,cI (.ListComp a b c d) env)::aL es env:=rfl
def Xw:List iZ->List (Int×Int)->Prop
 |[],[]=>True
 |e::r,(k,j)::q=>(∃t,e.key=.int k t)/\e.hash=hashInt k/\(∃u,e.val=.int j u)/\Xw r q
 |_,_=>False
theorem Xw.mem :∀{es:List iZ}{tab:List (Int×Int)},Xw es tab->∀e∈es,∃k,(gn P w).is k e.key=al/\e.hash=(gn P w).hash k
 |[],_,_,e,h=>by cases h
 |e::r,[],h,_,_=>h.elim
 |e::r,(k,j)::q,h,x,hx=>by
  obtain⟨⟨t,h1⟩,h2,_,h4⟩:=h;rcases ay.mp hx with rfl|hx
  .exact#[k,by rw[h1];exact pL P w k t,h2]
  .exact Xw.mem h4 x hx
theorem Xw.find(k:Int):∀{es:List iZ}{tab:List (Int×Int)},Xw es tab->(tab.lookup k=ae->(es.find? λe=>(gn P w).is k e.key)=ae)/\∀j,tab.lookup k=aa j->∃e t,(es.find? λe=>(gn P w).is k e.key)=aa e/\e.val=.int j t
 |[],[],_=>#[λ_=>rfl,λj h=>by cases h]
 |[],_::_,h=>h.elim
 |e::r,[],h=>h.elim
 |e::r,(k',j')::q,h=>by
  obtain⟨⟨t,h1⟩,h2,⟨u,h3⟩,h4⟩:=h;obtain⟨i1,i2⟩:=Xw.find k h4;rw[bK,eR];have hd:(gn P w).is k e.key=aj (k=k'):=KeyKind.is_eq_decide (by rw[h1];exact pL P w k' t) k
  rw[hd];by_cases z:k=k'
  .subst z
   rw[beq_self_eq_true,T5 rfl];exact#[λz=>(by cases z),λj z=>(by cases z;exact#[e,u,rfl,h3])]
  .rw[beq_eq_false_iff_ne.mpr z,T4 z]
   exact#[i1,i2]
def Zdk{P:bt}{w:bL}{K:ap}{a:aP}{es:Array iZ}{n:Nat}{tab:List (Int×Int)}(hl:K.lookup a=aa #[.type "dict",ae,.dict es n,#[]])(ht:Xw es.toList tab)(ha:(a == ic)=am):ZfQ P w K a tab:=by
 refine#[ha,λk=>findBy (gn P w).is es k,λh X=>#[_,es,n,X _ _ hl,#[rfl,rfl,rfl],rfl,λe he=>ht.mem e<|mB.mpr he,λ_=>rfl],λk=>?_]
 obtain⟨l⟩:=es;obtain⟨i1,i2⟩:=Xw.find k ht;refine#[λz=>?_,λj z=>?_]
 .show((l.toArray.find? λe=>(gn P w).is k e.key).map (·.val))=ae
  rw[nB,i1 z];rfl
 .obtain⟨e,t,q1,q2⟩:=i2 j z
  refine#[t,?_];show((l.toArray.find? λe=>(gn P w).is k e.key).map (·.val))=_
  rw[nB,q1];exact congrArg aa q2
def hu7(hr:Room k A):A.units+7<dA:=nC (by lia) hr.un
def jx{K:ap}{C:Calls}{n:Nat}{H:Hp}{a:aP}{ns:List Int}(hO:Only H)(hS:SqL K H a (ns.map V.int))(h:∀s,∃S',C n [.scr ns] s=.ok (.bl al) S'):spF K C am n [.ref a] H (λv _=>v=.bl al) λ_ _ _=>False:=by
 obtain⟨S',e⟩:=h (0,am);have sc:Scr K H a ns:=by
  rcases hS with(hS|hS)|hS
  .rcases hO a with z|⟨o,xs,z⟩
   .rw[z]at hS;cases hS
   .rw[z]at hS;cases hS
  .exact .inl hS
  .exact .inr hS
 refine#[#[K,ae,λ_=>False,λ_ h=>by cases h],[.scr ns],(0,am),#[rfl,λ_ h=>h.elim,λ_ h=>(by cases h),λP ps e=>by rcases hO P with z|⟨_,_,z⟩<;>(rw[z]at e;cases e)],Reps.cons (by unfold Rep;exact#[a,rfl,sc]) Reps.nil,?_]
 rw[e];exact λρ' H' v _ _ r=>r.1.bl'
end Sd
namespace Sd
open PySem PySem.Spec PyProof.Rows L2
def Src(b:Bool)(h:cc)(it l:aP)(k:Nat):Prop:=match b with
 |true=>h.IsListIter it l k
 |false=>h.IsTupleIter it l k
def Y9(b:Bool)(h:cc)(l:aP)(xs:Array ao):Prop:=match b with
 |true=>h.IsList l xs
 |false=>h.IsTuple l xs
def Src.ext(x:Src b h it l k)(e:kJ c h h')(n:it≠c):Src b h' it l k:=by
 cases b
 .exact cc.IsTupleIter.extBut x e n
 .exact cc.IsListIter.extBut x e n
def Src.keep(x:Src b h it l k)(e:∀o,h.get? it=aa o->h'.get? it=aa o):Src b h' it l k:=by
 cases b
 .obtain⟨o,ho,r⟩:=x;exact#[o,e o ho,r]
 .obtain⟨o,ho,r⟩:=x;exact#[o,e o ho,r]
def Src.obj(x:Src b h it l k):∃o,h.get? it=aa o/\∀v,o.data≠.cell v:=by
 cases b
 .obtain⟨o,ho,_,d⟩:=x;exact#[o,ho,λv z=>by rw[d]at z;cases z]
 .obtain⟨o,ho,_,d⟩:=x;exact#[o,ho,λv z=>by rw[d]at z;cases z]
def Y9.keep(x:Y9 b h l xs)(e:∀o,h.get? l=aa o->h'.get? l=aa o):Y9 b h' l xs:=by
 cases b
 .obtain⟨o,ho,r⟩:=x;exact#[o,e o ho,r]
 .obtain⟨o,ho,r⟩:=x;exact#[o,e o ho,r]
def Zbc{Q:ao->au->Prop}(hit:s.heap.IsTupleIter it t i)(ht:s.heap.IsTuple t items)(hx:items[i]?=aa x)
  (hQ:∀h',h'.IsTupleIter it t (i+1)->fB it s.heap h'->Q x {s with heap:=h' }):aY (aT prog w) A (eN<|.ref it) Q E s:=by
 obtain⟨o,ho,hc,hd⟩:=id hit;obtain⟨ol,hol,_,nl,hdl⟩:=ht;refine ab<|cX hit.typeIs eD<|cS eD hit.typeIs iV ?_<|iL _;show aY _ _ (field (.ref it) 0 >>= _) _ _ s;refine ab<|cK ho hd rfl ?_;show aY _ _ (if(bX t == bf)=al then _ else _) _ _ s
 rw[T8 (by exact aI)];refine ab<|cK ho hd rfl ?_
 refine ab<|eE hol hdl ?_;simp only[fO,hx];refine ab<|gU ho hd (by simp)<|ax #[x,rfl,ax<|hQ _ #[_,eJ _ ho<|hZ<|eF hd _,(kL ..).trans hc,?_]<|dH ..]
 rw[eF hd];simp[gc]
def G5{Q:ao->au->Prop}(hh:A.handled=ae)(hit:s.heap.IsTupleIter it t i)(ht:s.heap.IsTuple t items)(hx:items[i]?=ae)
  (hE:∀h' e,kJ it s.heap h'->(∃o,h'.get? e=aa o/\o.cls=.type "StopIteration")->E (.ref e) {s with heap:=h' }):aY (aT prog w) A (eN<|.ref it) Q E s:=by
 obtain⟨o,ho,hc,hd⟩:=id hit;obtain⟨ol,hol,_,nl,hdl⟩:=ht;refine ab<|cX hit.typeIs eD<|cS eD hit.typeIs iV ?_<|iL _;show aY _ _ (field (.ref it) 0 >>= _) _ _ s;refine ab<|cK ho hd rfl ?_;show aY _ _ (if(bX t == bf)=al then _ else _) _ _ s
 rw[T8 (by exact aI)];refine ab<|cK ho hd rfl ?_
 refine ab<|eE hol hdl ?_;simp only[fO,hx];refine ab<|eA<|ab<|gU ho hd (by simp) ?_;show aY _ _ (newExc (.type "StopIteration") [] >>= _) _ _ _
 refine ab ?_;simp only[newExc,newTuple];refine ab<|b6 ?_ (by size_fits)
 refine ab (cM (by first|rfl|(simp only[mD];rfl))<|b6 ?_ (by size_fits))
 simp only[raiseNew];refine ab<|wpAny_handled ?_;first|rw[hh]|rw[hh]
 exact ab<|ax<|wpAny_throw<|hE _ _ (((dH ..).extBut.push _).push _) #[_,aO _ rfl,rfl]
def VI{Q:ao->au->Prop}(hit:Src b s.heap it l k)(hl:Y9 b s.heap l xs)(hx:xs[k]?=aa x)
  (hQ:∀h',Src b h' it l (k+1)->fB it s.heap h'->Q x {s with heap:=h' }):aY (aT prog w) A (eN<|.ref it) Q E s:=by
 cases b
 .exact Zbc hit hl hx hQ
 .exact wpAny_nextOf_list_item hit hl hx hQ
def Ga{Q:ao->au->Prop}(hh:A.handled=ae)(hit:Src b s.heap it l k)(hl:Y9 b s.heap l xs)(hx:xs[k]?=ae)
  (hE:∀h' e,kJ it s.heap h'->(∃o,h'.get? e=aa o/\o.cls=.type "StopIteration")->E (.ref e) {s with heap:=h' }):aY (aT prog w) A (eN<|.ref it) Q E s:=by
 cases b
 .exact G5 hh hit hl hx hE
 .exact wpAny_nextOf_list_end hh hit hl hx hE
noncomputable def Xd(b:Bool)(l:aP):fP:={cls:=.type (if b then "list_iterator" else "tuple_iterator"),data:=.fields [.ref l,.int 0 0].toArray}
def zq{Q:ao->au->Prop}(hl:Y9 b s.heap l xs)(h:Q (.ref s.heap.objs.size) {s with heap:=s.heap.push (Xd b l)}):aY (aT prog w) A (kQ<|.ref l) Q E s:=by
 cases b
 .exact gA hl h
 .exact fN hl h
structure ZipSt(b1 b2:Bool)(z TI TO i1 i2 l1 l2:aP)(k:Nat)(f0:ao)(h:cc):Prop where
 zp:oU h z TI TO f0
 ti:lO h TI (.ref i1) (.ref i2)
 to:∃a b,lO h TO a b
 s1:Src b1 h i1 l1 k
 s2:Src b2 h i2 l2 k
def Za4{b1 b2:Bool}{z TI TO i1 i2 l1 l2:aP}{k:Nat}{xs ys:Array ao}{x y:ao}{Q:ao->au->Prop}(D:mE z TI TO i1 i2 l1 l2)(Z:ZipSt b1 b2 z TI TO i1 i2 l1 l2 k .none s.heap)(hl1:Y9 b1 s.heap l1 xs)(hl2:Y9 b2 s.heap l2 ys)(hx:xs[k]?=aa x)(hy:ys[k]?=aa y)
  (hQ:∀h',ZipSt b1 b2 z TI TO i1 i2 l1 l2 (k+1) (gc s.heap.objs.size) h'->lO h' s.heap.objs.size x y->(∀c o,c∉[z,TO,i1,i2]->s.heap.get? c=aa o->h'.get? c=aa o)->Q (.ref s.heap.objs.size) {s with heap:=h' }) :
  aY (aT prog w) A (dD.«zip.__next__» #[[.ref z],[]]) (λfin s'=>∃v,fin=.done (.ret v)/\Q v s') E s:=by
 obtain⟨hz,hTI,⟨a,b,hTO⟩,h1,h2⟩:=Z;show aY _ _ (field (.ref z) 2 >>= _) _ _ _;refine ab<|cK hz rfl (x:=.bool am) rfl ?_;refine ab<|cK hz rfl (x:=.ref TI) rfl<|ab<|eE hTI rfl ?_;refine ab ?_;refine ab<|cK hz rfl (x:=.none) rfl<|ax ?_;simp only[if_true];refine ab<|eA<|ab<|cK hz rfl (x:=.ref TO) rfl<|ab<|eG hz (by simp) λh₁ hz₁ hs₁=>?_
 replace hz₁:oU h₁ z TI TO .ellipsis:=by exact hz₁
 refine ab ?_;simp only[lu,o0,iJ,pN];refine ab<|ab<|kU ?_;refine ab<|VI (h1.ext hs₁.extBut D.i1z) (hl1.keep λo e=>hs₁.extBut _ o D.l1z e) hx λh₂ h1₂ hs₂=>ax ?_
 have hTO₂:lO h₂ TO a b:=by exact hs₂.extBut _ _ D.TOi1<|hs₁.extBut _ _ D.TOz hTO
 refine ab<|eE hTO₂ rfl<|ab<|iB hTO₂ λh₃ hTO₃ hs₃=>?_
 replace hTO₃:lO h₃ TO x b:=by exact hTO₃
 refine ab<|oV<|ax<|ab<|ab<|kU ?_;have to3:∀c o,c≠z->c≠TO->c≠i1->s.heap.get? c=aa o->h₃.get? c=aa o:=λc o c1 c2 c3 e=>hs₃.extBut _ _ c2<|hs₂.extBut _ _ c3<|hs₁.extBut _ _ c1 e
 refine ab<|VI (h2.keep λo e=>to3 _ o D.i2z D.TOi2.symm D.i12.symm e) (hl2.keep λo e=>to3 _ o D.l2z D.l2TO D.l2i1 e) hy λh₄ h2₄ hs₄=>ax ?_
 have hTO₄:lO h₄ TO x b:=by exact hs₄.extBut _ _ D.TOi2 hTO₃
 refine ab<|eE hTO₄ rfl<|ab<|iB hTO₄ λh₅ hTO₅ hs₅=>?_
 replace hTO₅:lO h₅ TO x y:=by exact hTO₅
 refine ab<|oV<|ax<|ax<|ab<|eE hTO₅ rfl<|ab<|wpAny_newTuple ?_;have hsz:h₅.objs.size=s.heap.objs.size:=by rw[hs₅.1,hs₄.1,hs₃.1,hs₂.1,hs₁.1]
 have to5:=λc o c1 c2 c3 c4 e=>hs₅.extBut _ _ c2<|hs₄.extBut _ _ c4<|to3 c o c1 c2 c3 e
 have hz₅:oU h₅ z TI TO .ellipsis:=by exact hs₅.extBut _ _ D.TOz.symm<|hs₄.extBut _ _ D.i2z.symm<|hs₃.extBut _ _ D.TOz.symm<|hs₂.extBut _ _ D.i1z.symm hz₁
 have h1₅:Src b1 h₅ i1 l1 (k+1):=((h1₂.ext hs₃.extBut D.TOi1.symm).ext hs₄.extBut D.i12).ext hs₅.extBut D.TOi1.symm;have h2₅:Src b2 h₅ i2 l2 (k+1):=h2₄.ext hs₅.extBut D.TOi2.symm;have zl:z<h₅.objs.size:=aJ hz₅;refine ab ?_;have hz₆:oU (h₅.push {cls:=.type "tuple",data:=.seq [x,y].toArray}) z TI TO .ellipsis:=by exact aw _ hz₅
 refine ab<|eG hz₆ (by simp) λh₇ hz₇ hs₇=>?_
 replace hz₇:oU h₇ z TI TO (gc h₅.objs.size):=by exact hz₇
 refine eG hz₇ (by simp) λh₈ hz₈ hs₈=>ax #[_,rfl,?_]
 replace hz₈:oU h₈ z TI TO (gc h₅.objs.size):=by exact hz₈
 have up:∀c o,c≠z->h₅.get? c=aa o->h₈.get? c=aa o:=λc o c1 e=>by exact hs₈.extBut _ _ c1<|hs₇.extBut _ _ c1<|aw _ e
 have hT₈:lO h₈ h₅.objs.size x y:=by exact hs₈.extBut _ _ (fW zl)<|hs₇.extBut _ _ (fW zl)<|aO _ rfl
 show Q (.ref h₅.objs.size) _;rw[hsz]at hz₈ hT₈ ⊢;refine hQ h₈ #[hz₈,up _ _ D.TIz<|to5 _ _ D.TIz D.TITO D.TIi1 D.TIi2 hTI,#[x,y,up _ _ D.TOz hTO₅],h1₅.keep λo e=>up _ o D.i1z e,h2₅.keep λo e=>up _ o D.i2z e] hT₈ λc o hc e=>?_
 simp only[ay,cu,or_false,not_or]at hc;exact up c o hc.1<|to5 c o hc.1 hc.2.1 hc.2.2.1 hc.2.2.2 e
def Q5{b1 b2:Bool}{z TI TO i1 i2 l1 l2:aP}{k:Nat}{xs ys:Array ao}{Q:Fin->au->Prop}(hh:A.handled=ae)(D:mE z TI TO i1 i2 l1 l2)(Z:ZipSt b1 b2 z TI TO i1 i2 l1 l2 k .none s.heap)(hl1:Y9 b1 s.heap l1 xs)(hl2:Y9 b2 s.heap l2 ys)(hend:xs[k]?=ae\/ys[k]?=ae)
  (hE:∀h' e,(∀c o,c∉[z,TO,i1,i2]->s.heap.get? c=aa o->h'.get? c=aa o)->(∃o,h'.get? e=aa o/\o.cls=.type "StopIteration")->E (.ref e) {s with heap:=h' }) :
  aY (aT prog w) A (dD.«zip.__next__» #[[.ref z],[]]) Q E s:=by
 obtain⟨hz,hTI,⟨a,b,hTO⟩,h1,h2⟩:=Z;have hk:∀{c:aP},c∉[z,TO,i1,i2]->c≠z/\c≠TO/\c≠i1/\c≠i2:=λhc=>by
  simp only[ay,cu,or_false,not_or]at hc;exact hc
 show aY _ _ (field (.ref z) 2 >>= _) _ _ _;refine ab<|cK hz rfl rfl ?_;refine ab<|cK hz rfl (x:=.ref TI) rfl<|ab<|eE hTI rfl ?_;refine ab ?_;refine ab<|cK hz rfl (x:=.none) rfl<|ax ?_;simp only[if_true];refine ab<|eA<|ab<|cK hz rfl (x:=.ref TO) rfl<|ab<|eG hz (by simp) λh₁ hz₁ hs₁=>?_
 replace hz₁:oU h₁ z TI TO .ellipsis:=by exact hz₁
 refine ab ?_;simp only[lu,o0,iJ,pN];refine ab<|ab<|kU ?_;have l1₁:=hl1.keep λo e=>hs₁.extBut _ o D.l1z e
 cases hx:xs[k]? with
 |none=>
  refine ab<|Ga hh (h1.ext hs₁.extBut D.i1z) l1₁ hx λh₂ e hs₂ he=>?_
  obtain⟨oe,hoe,hce⟩:=he;have hz₂:oU h₂ z TI TO .ellipsis:=by exact hs₂ _ _ D.i1z.symm hz₁
  have hez:e≠z:=λx=>by subst x;rw[hz₂]at hoe;cases hoe;simp at hce
  exact eG hz₂ (by simp) λh₃ _ hs₃=>hE h₃ e (λc o hc x=>hs₃.extBut _ _ (hk hc).1<|hs₂ _ _ (hk hc).2.2.1<|hs₁.extBut _ _ (hk hc).1 x) #[oe,hs₃.extBut _ _ hez hoe,hce]
 |some x=>
  have hy:ys[k]?=ae:=by rcases hend with q|q;rw[hx]at q;cases q;exact q
  refine ab<|VI (h1.ext hs₁.extBut D.i1z) l1₁ hx λh₂ h1₂ hs₂=>ax ?_
  have hTO₂:lO h₂ TO a b:=by exact hs₂.extBut _ _ D.TOi1<|hs₁.extBut _ _ D.TOz hTO
  refine ab<|eE hTO₂ rfl<|ab<|iB hTO₂ λh₃ hTO₃ hs₃=>?_
  refine ab<|oV<|ax<|ab<|ab<|kU ?_;have to3:∀c o,c≠z->c≠TO->c≠i1->s.heap.get? c=aa o->h₃.get? c=aa o:=λc o c1 c2 c3 e=>hs₃.extBut _ _ c2<|hs₂.extBut _ _ c3<|hs₁.extBut _ _ c1 e
  refine ab<|Ga hh (h2.keep λo e=>to3 _ o D.i2z D.TOi2.symm D.i12.symm e) (hl2.keep λo e=>to3 _ o D.l2z D.l2TO D.l2i1 e) hy λh₄ e hs₄ he=>?_
  obtain⟨oe,hoe,hce⟩:=he;have hz₄:oU h₄ z TI TO .ellipsis:=by exact hs₄ _ _ D.i2z.symm<|hs₃.extBut _ _ D.TOz.symm<|hs₂.extBut _ _ D.i1z.symm hz₁
  have hez:e≠z:=λx=>by subst x;rw[hz₄]at hoe;cases hoe;simp at hce
  exact eG hz₄ (by simp) λh₅ _ hs₅=>hE h₅ e (λc o hc x=>hs₅.extBut _ _ (hk hc).1<|hs₄ _ _ (hk hc).2.2.2<|to3 c o (hk hc).1 (hk hc).2.1 (hk hc).2.2.1 x) #[oe,hs₅.extBut _ _ hez hoe,hce]
def wz{b1 b2:Bool}{z TI TO i1 i2 l1 l2:aP}{k:Nat}{xs ys:Array ao}{x y:ao}{Q:Option ao->au->Prop}(D:mE z TI TO i1 i2 l1 l2)(Z:ZipSt b1 b2 z TI TO i1 i2 l1 l2 k .none s.heap)(hl1:Y9 b1 s.heap l1 xs)(hl2:Y9 b2 s.heap l2 ys)(hx:xs[k]?=aa x)(hy:ys[k]?=aa y)
  (hQ:∀h',ZipSt b1 b2 z TI TO i1 i2 l1 l2 (k+1) (gc s.heap.objs.size) h'->lO h' s.heap.objs.size x y->(∀c o,c∉[z,TO,i1,i2]->s.heap.get? c=aa o->h'.get? c=aa o)->Q (aa<|.ref s.heap.objs.size) {s with heap:=h' }) :
  aY (aT prog w) A (my<|.ref z) Q E s:=by
 have hT:s.TypeIs (.ref z) "zip":=#[_,Z.zp,rfl];exact ab<|kW<|cX hT iM<|cS iM hT oI (Za4 D Z hl1 hl2 hx hy λh' a1 a2 a3=>ax<|hQ h' a1 a2 a3)<|nT _
def QO{b1 b2:Bool}{z TI TO i1 i2 l1 l2:aP}{k:Nat}{xs ys:Array ao}{Q:Option ao->au->Prop}(hh:A.handled=ae)(D:mE z TI TO i1 i2 l1 l2)(Z:ZipSt b1 b2 z TI TO i1 i2 l1 l2 k .none s.heap)(hl1:Y9 b1 s.heap l1 xs)(hl2:Y9 b2 s.heap l2 ys)(hend:xs[k]?=ae\/ys[k]?=ae)
  (hQ:∀h',(∀c o,c∉[z,TO,i1,i2]->s.heap.get? c=aa o->h'.get? c=aa o)->Q ae {s with heap:=h' }):aY (aT prog w) A (my<|.ref z) Q E s:=by
 have hT:s.TypeIs (.ref z) "zip":=#[_,Z.zp,rfl];refine ab<|kW<|cX hT iM<|cS iM hT oI (Q5 hh D Z hl1 hl2 hend λh' e hk he=>?_)<|nT _
 obtain⟨o,ho,hc⟩:=he;exact ab<|lv #[o,ho,hc] isSubtype_stop<|ax<|hQ _ hk
noncomputable def zH1(h:cc)(b1:Bool)(l1:aP):cc:=h.push<|Xd b1 l1
noncomputable def zH2(h:cc)(b1 b2:Bool)(l1 l2:aP):cc:=(zH1 h b1 l1).push<|Xd b2 l2
noncomputable def zH3(h:cc)(b1 b2:Bool)(l1 l2:aP):cc:=(zH2 h b1 b2 l1 l2).push {cls:=.type "tuple",data:=.seq [.ref h.objs.size,.ref (zH1 h b1 l1).objs.size].toArray}
noncomputable def zH4(h:cc)(b1 b2:Bool)(l1 l2:aP):cc:=(zH3 h b1 b2 l1 l2).push {cls:=.type "tuple",data:=.seq [.none,.none].toArray}
noncomputable def zH5(h:cc)(b1 b2:Bool)(l1 l2:aP):cc:=(zH4 h b1 b2 l1 l2).push {cls:=.type "zip",data:=.fields [.none,.bool am,.bool am,.ref (zH2 h b1 b2 l1 l2).objs.size,.ref (zH3 h b1 b2 l1 l2).objs.size].toArray}
def Zdj(b1 b2:Bool)(l1 l2:aP)(xs ys:Array ao) :
  pI (dD.«zip.__new__» #[[.type "zip",.ref l1,.ref l2],[]]) (λ_ R s=>Y9 b1 s.heap l1 xs/\Y9 b2 s.heap l2 ys/\R (.ok<|.ret<|.ref (zH4 s.heap b1 b2 l1 l2).objs.size) {s with heap:=zH5 s.heap b1 b2 l1 l2}):=
 .of_wp λprog w A R s h=>by
  obtain⟨hp,g,d,tk,os⟩:=s;obtain⟨hl1,hl2,h⟩:=h;have hsub:=sub_zip;have hL1:=hl1;have hL2:Y9 b2 (au.heap #[hp.push<|Xd b1 l1,g,d,tk,os]) l2 ys:=hl2.keep λo e=>aw _ e
  wp_walk using zq hL1,zq hL2
  exact#[_,rfl,h]
def Zbl{Q:ao->au->Prop}(hl1:Y9 b1 s.heap l1 xs)(hl2:Y9 b2 s.heap l2 ys)
  (h:∀h' n,n=s.heap.objs.size->ZipSt b1 b2 (n+4) (n+2) (n+3) n (n+1) l1 l2 0 .none h'->(∀c o,s.heap.get? c=aa o->h'.get? c=aa o)->Q (.ref<|n+4) {s with heap:=h' }) :
  aY (aT prog w) A (call (.type "zip") [.ref l1,.ref l2]) Q E s:=by
 refine callType_new F.called_zip (by decide) (F.typeCall_zip_2 _ _) (F.newCall_zip_2 _ _) (λobj=>F.args_object_init_3 obj _ _) F.entry_zip_new (Zdj b1 b2 l1 l2 xs ys) #[hl1,hl2,?_]
 have z1:(zH1 s.heap b1 l1).objs.size=s.heap.objs.size+1:=cZ ..;have z2:(zH2 s.heap b1 b2 l1 l2).objs.size=s.heap.objs.size+2:=by unfold zH2;rw[cZ,z1]
 have z3:(zH3 s.heap b1 b2 l1 l2).objs.size=s.heap.objs.size+3:=by unfold zH3;rw[cZ,z2]
 have z4:(zH4 s.heap b1 b2 l1 l2).objs.size=s.heap.objs.size+4:=by unfold zH4;rw[cZ,z3]
 have g5:(zH5 s.heap b1 b2 l1 l2).get? (zH4 s.heap b1 b2 l1 l2).objs.size=aa {cls:=.type "zip",data:=.fields [.none,.bool am,.bool am,.ref (zH2 s.heap b1 b2 l1 l2).objs.size,.ref (zH3 s.heap b1 b2 l1 l2).objs.size].toArray}:=aO _ rfl;have k4:∀c o,(zH4 s.heap b1 b2 l1 l2).get? c=aa o->(zH5 s.heap b1 b2 l1 l2).get? c=aa o:=λc o e=>aw _ e
 have k3:=λc o e=>k4 c o<|aw _ e
 have k2:=λc o e=>k3 c o<|aw _ e
 have k1:=λc o e=>k2 c o<|aw _ e
 have g4:=k4 _ _<|aO (zH3 s.heap b1 b2 l1 l2) rfl;have g3:=k3 _ _<|aO (zH2 s.heap b1 b2 l1 l2) rfl;have g2:=k2 _ _<|aO (zH1 s.heap b1 l1) rfl;have g1:=k1 _ _<|aO s.heap rfl;rw[z2,z3,z4]at g5;rw[z1,z2]at g3;rw[z3]at g4;rw[z1]at g2;rw[z4];have src:∀b l it,(zH5 s.heap b1 b2 l1 l2).get? it=aa (Xd b l)->Src b (zH5 s.heap b1 b2 l1 l2) it l 0:=λb l it e=>by
  cases b
  .exact#[_,e,rfl,rfl]
  .exact#[_,e,rfl,rfl]
 exact#[#[_,g5,rfl],h _ _ rfl #[g5,g3,#[_,_,g4],src b1 l1 _ g1,src b2 l2 _ g2] λc o e=>k1 c o<|aw _ e]
open Ev (E Sm Fn Bop Cop Ty Bf Mf)
def Ww{X:Cx}{pq:List (aP×fP)}{Z:L2.St}{H:Hp}{s:au}{h':cc}{t':Nat}{ch:List aP}(I:Inv X pq Z H s)(k:∀b o,b∉ch->s.heap.get? b=aa o->h'.get? b=aa o)(hf:∀b∈ch,Vu X pq H b):Inv X pq Z H {s with heap:=h',toks:=t' }:=by
 have nit:∀b u,H b=aa u->b∉ch:=λb u e z=>by have:=(hf b z).1;rw[e]at this;cases this
 refine I.step (g':=s.gens) (d':=s.drawn) (λb hb=>?_) (λb o _ _ hc e _=>k b o hc e) (λb o _ _ hc e _=>#[o.slots,k b o hc e]) (λ_ _ _ _ n=>n) (λb o hc e=>#[o,k b o hc e]) (λ_ _ e=>e) (λ_ _ _ e=>e) (λb ps e=>#[#[],by rw[e];simp]) (λm hm=>?_) (λb u e=>?_) I.bare
 .exact#[(hf b hb).2.2.2.1,(hf b hb).2.1,(hf b hb).2.2.2.2.1,(hf b hb).2.2.2.2.2]
 .obtain⟨o,es,ep,ho,r⟩:=hm
  exact#[o,es,ep,k _ o (λz=>(hf _ z).2.1 rfl) ho,r]
 .refine(I.hok b u e).stay (λc v hc q=>k c v ?_ q) (λ_ q=>q) λ_ _ q=>q
  rcases hc with z|z
  .rw[z];exact nit b u e
  .exact nit c _ z
def JV{h:cc}{o o':fP}{b:aP}(e:(h.push o').get? b=aa o)(n:b≠h.objs.size):h.get? b=aa o:=by
 unfold cc.get? cc.push at *;simp only[Array.getElem?_push]at e;rw[T8 n]at e;exact e
def Wc{a b:Nat}(h:a<b\/b<a):(a:aP)≠b:=λe=>by
 have e':=e;omega
def Sq(b:Bool)(K:ap)(H:Hp)(l:aP)(xs:List V):Prop:=match b with
 |true=>SqL K H l xs
 |false=>SqT K H l xs
def XU(I:Inv X pq Z H s)(h:Sq b X.K H l xs):∃its:List ao,Vals xs its/\Y9 b s.heap l its.toArray:=by
 cases b
 .obtain⟨its,r,p,_⟩:=I.tuple h;exact#[its,r,p]
 .obtain⟨its,r,p,_⟩:=I.list h;exact#[its,r,p.isList]
def xA(I:Inv X pq Z H s)(h:Sq b X.K H l xs)(h':Sq b X.K H l ys):xs=ys:=by
 cases b
 .exact I.tuple_inj h h'
 .exact I.list_inj h h'
def za(x:Y9 b h l xs):l<h.objs.size:=by
 cases b
 .obtain⟨o,ho,_⟩:=x;exact aJ ho
 .obtain⟨o,ho,_⟩:=x;exact aJ ho
noncomputable def Itz(K:ap)(b1 b2:Bool)(l1 l2:aP):It:=
 #[λi H=>∃xs ys x y,Sq b1 K H l1 xs/\Sq b2 K H l2 ys/\xs[i]?=aa x/\ys[i]?=aa y,
  λi H v H'=>∃T x y,(∀xs,Sq b1 K H l1 xs->xs[i]?=aa x)/\(∀ys,Sq b2 K H l2 ys->ys[i]?=aa y)/\H T=ae/\H'=upd H T (.tup [x,y])/\v=.ref T,
  λi H=>∃xs ys,Sq b1 K H l1 xs/\Sq b2 K H l2 ys/\(xs.length<=i\/ys.length<=i)]
def ZaF{P:bt}{w:bL}{K:ap}{elts:List Expr}{kk:Nat}{tp:iP}{b1 b2:Bool}{z TI TO i1 i2 l1 l2:aP}(D:mE z TI TO i1 i2 l1 l2) :
  Turn P w K (.Tuple elts kk tp) (Itz K b1 b2 l1 l2) [z,TI,TO,i1,i2] z (λi h=>ZipSt b1 b2 z TI TO i1 i2 l1 l2 i .none h) where
 mem:=by simp
 obj:=λi h st b hb=>by
  simp only[ay,cu,or_false]at hb;obtain⟨a,c,hTO⟩:=st.to;rcases hb with e|e|e|e|e<;>subst e
  .exact#[_,st.zp,λv q=>by cases q]
  .exact#[_,st.ti,λv q=>by cases q]
  .exact#[_,hTO,λv q=>by cases q]
  .exact st.s1.obj
  .exact st.s2.obj
 keep:=λi h h' st k=>by
  obtain⟨a,c,hTO⟩:=st.to;exact#[k z (by simp) _ st.zp,k TI (by simp) _ st.ti,#[a,c,k TO (by simp) _ hTO],st.s1.keep λo e=>k i1 (by simp) o e,st.s2.keep λo e=>k i2 (by simp) o e]
 item:=by
  intro X hP hw hK hc i pq s Z H E I hf st hg;subst hP hw hK;obtain⟨xs,ys,x,y,hq1,hq2,hx,hy⟩:=hg;obtain⟨its,rv,o1⟩:=XU I hq1;obtain⟨its2,rv2,o2⟩:=XU I hq2;obtain⟨u,hu,ru⟩:=rv.get hx;obtain⟨u2,hu2,ru2⟩:=rv2.get hy;refine wz D st o1 o2 (x:=u) (y:=u2) (by simpa using hu) (by simpa using hu2) λh' Z' hT hk=>?_
  have hfree:=I.hok.fresh<|aM _;have ltz:∀b∈[z,TI,TO,i1,i2],b≠s.heap.objs.size:=λb hb e=>by
   simp only[ay,cu,or_false]at hb;obtain⟨a,c,hTO⟩:=st.to;rcases hb with q|q|q|q|q<;>subst q
   .exact T7 (aJ st.zp) (by rw[e];exact bu _)
   .exact T7 (aJ st.ti) (by rw[e];exact bu _)
   .exact T7 (aJ hTO) (by rw[e];exact bu _)
   .obtain⟨o,ho,_⟩:=st.s1.obj;exact T7 (aJ ho) (by rw[e];exact bu _)
   .obtain⟨o,ho,_⟩:=st.s2.obj;exact T7 (aJ ho) (by rw[e];exact bu _)
  have IA:Inv X pq Z (upd H s.heap.objs.size<|.tup [x,y]) {s with heap:=s.heap.push {cls:=.type "tuple",data:=.seq [u,u2].toArray},toks:=s.toks}:=
   I.laid (λb o e=>aw _ e) (aM _) #[by show 2<=bx;decide,[u,u2],.cons ru<|.cons ru2 .nil,iY _ _]
  have hf2:∀b∈[z,TI,TO,i1,i2],Vu X pq (upd H s.heap.objs.size<|.tup [x,y]) b:=λb hb=>#[by rw[Zv<|ltz b hb];exact(hf b hb).1,(hf b hb).2]
  have IB:Inv X pq Z (upd H s.heap.objs.size<|.tup [x,y]) {s with heap:=h',toks:=s.toks}:=by
   refine Ww (s:={s with heap:=s.heap.push {cls:=.type "tuple",data:=.seq [u,u2].toArray},toks:=s.toks}) (ch:=[z,TO,i1,i2]) IA (λb o hb e=>?_) λb hb=>hf2 b (by simp only[ay,cu,or_false]at hb ⊢;rcases hb with q|q|q|q<;>simp[q])
   by_cases hbs:b=s.heap.objs.size
   .subst hbs
    have e':=e;rw[aO _ rfl]at e';cases e';exact hT
   .refine hk b o hb ?_
    have e':=e;have hlt:=aJ e';rw[cZ]at hlt;exact JV e' hbs
  refine#[.ref s.heap.objs.size,rfl,wpAny_letOwnedTupleGo_zip Z'.zp λh2 hz2 hs2=>?_]
  have IC:Inv X pq Z (upd H s.heap.objs.size<|.tup [x,y]) {s with heap:=h2,toks:=s.toks}:=Ww (s:={s with heap:=h',toks:=s.toks}) (ch:=[z]) IB (λb o hb e=>(hs2.2 b<|by simpa using hb).trans e) λb hb=>hf2 b (by simp only[aQ]at hb;simp[hb])
  obtain⟨a,c,hTO⟩:=Z'.to;refine#[.ref s.heap.objs.size,_,IC,rfl,#[_,x,y,λzs hz=>by rw[xA I hz hq1];exact hx,λzs hz=>by rw[xA I hz hq2];exact hy,hfree,rfl,rfl],?_,λb hb=>(hf2 b hb).1]
  exact#[hz2,hs2.extBut _ _ D.TIz Z'.ti,#[a,c,hs2.extBut _ _ D.TOz hTO],Z'.s1.ext hs2.extBut D.i1z,Z'.s2.ext hs2.extBut D.i2z]
 done:=by
  intro X hP hw hK hc i pq s Z H E I hf st hg;subst hP hw hK;obtain⟨xs,ys,hq1,hq2,hend⟩:=hg;obtain⟨its,rv,o1⟩:=XU I hq1;obtain⟨its2,rv2,o2⟩:=XU I hq2;have e1:=rv.length;have e2:=rv2.length;refine QO (I.ok.hd hc) D st o1 o2 (by rcases hend with q|q;exact .inl (by simp;omega);exact .inr<|by simp;omega) λh' hk=>#[rfl,Ww (t':=s.toks) (ch:=[z,TO,i1,i2]) I (λb o hb e=>hk b o hb e) λb hb=>hf b (by simp only[ay,cu,or_false]at hb ⊢;rcases hb with q|q|q|q<;>simp[q])]
 self:=λ_ _ _ _ _ st h=>wpAny_pyIter_zip st.zp h
def ZgR(K:ap)(ta:TA):TI:=λZ H R=>ta Z H λvs H1=>∃b1 b2 l1 l2,vs=[.ref l1,.ref l2]/\(∃xs,Sq b1 K H1 l1 xs)/\(∃ys,Sq b2 K H1 l2 ys)/\R (Itz K b1 b2 l1 l2) H1
def ZfB{a b:Expr}{ta:TA}{p pos:iP}(hg:Gl X "zip")(hm:X.mg "zip" = ae)(ha:PA X [a,b] ta)(hs:aL [a,b] X.env=[(am,cI a X.env),(am,cI b X.env)]:=by rfl)(hs2:aL [b] X.env=[(am,cI b X.env)]:=by rfl) :
  PI X (.Tuple elts kk tp) (.Call (.Name "zip" p) [a,b] [] pos) (ZgR X.K ta):=by
 intro pq s Z H R I h;refine rG<|YT I hg hm (by rfl)<|b4 (thn (ha pos pq s Z H _ I h) λus s1 #[vs,H1,I1,r1,q1]=>?_) (by rw[hs,hs2]) (by rw[hs2];rfl)
 obtain⟨b1,b2,l1,l2,e,⟨xs,hq1⟩,⟨ys,hq2⟩,q⟩:=q1;subst e;cases r1 with
 |cons r rr=>
  cases rr with
  |cons r' rr=>
   cases rr;cases r;cases r';obtain⟨its,rv,o1⟩:=XU I1 hq1;obtain⟨its2,rv2,o2⟩:=XU I1 hq2;have lt1:=za o1;have lt2:=za o2;refine Zbl o1 o2 λh' n hn Y hk=>?_
   have I2:=I1.kept (t':=s1.toks) hk
   have q1:(l1:Nat)<n:=by rw[hn];exact lt1
   have q2:(l2:Nat)<n:=by rw[hn];exact lt2
   have D:mE (n+4) (n+2) (n+3) n (n+1) l1 l2:=by constructor<;>first|exact Wc (by omega)|exact Wc<|.inl<|bg q1<|fu n _|exact Wc<|.inl<|bg q2<|fu n _|exact Wc<|.inl q1|exact Wc<|.inl q2
   refine wpAny_pyIter_zip Y.zp #[n+4,[n+4,n+2,n+3,n,n+1],_,_,H1,rfl,I2,ZaF D,Y,λb hb=>?_,q]
   have hbn:s1.heap.objs.size<=b:=by
    rw[<-hn];simp only[ay,cu,or_false]at hb;rcases hb with e|e|e|e|e<;>rw[e]
    .exact fu n 4
    .exact fu n 2
    .exact fu n 3
    .exact aM n
    .exact fu n 1
   exact I1.fpOk hbn<|I1.hok.fresh hbn
def Side(K:ap)(O:Mx)(H:Hp)(wk:List D)(b:Bool)(l:aP):Prop:=∀ρ' H',Lat O H ρ' H'->∃vs,Sq b K H' l vs/\Reps ρ' H' wk vs
def GU{K:ap}{O:Mx}{H:Hp}{x:D}{v:V}{wk:List D}(hk:O.K=K)(r:Rep O H x v)(h:Pv.YN x=aa wk):∃b l,v=.ref l/\(∃xs,Sq b K H l xs)/\Side K O H wk b l:=by
 cases x with
 |tup ds=>
  obtain⟨a,xs,rfl,hp,rs⟩:=r.tup';cases h;exact#[am,a,rfl,#[xs,SqT.of hp],λρ' H' f=>#[xs,SqT.of (f.keep a _ hp λ_ z=>by cases z),rs.lat f]]
 |lst ds=>
  obtain⟨a,xs,rfl,hp,hx,rs⟩:=r.lst';cases h;exact#[al,a,rfl,#[xs,SqL.of hp],λρ' H' f=>#[xs,SqL.of<|f.keep a _ hp λ_ _=>hx,rs.lat f]]
 |scr ns=>
  obtain⟨a,rfl,hp⟩:=r.scr';cases h;rw[hk]at hp;refine#[al,a,rfl,#[_,hp.sq],λρ' H' f=>#[_,?_,Reps.ints ns]]
  rcases hp with⟨o,hp⟩|hp
  .exact .inl<|.inr #[o,f.keep a _ hp λ_ z=>by cases z]
  .exact .inr hp
 |_=>exact Ev.nos h
def Zbo{K:ap}{O:Mx}{H:Hp}{v w:List D}{b1 b2:Bool}{l1 l2:aP}(h1:Side K O H v b1 l1)(h2:Side K O H w b2 l2):WRel K O H ((v.zip w).map λp=>.tup [p.1,p.2]) (Itz K b1 b2 l1 l2) where
 go:=λi ρ' S' H' f st hi=>by
  obtain⟨xs,q1,r1⟩:=h1 ρ' H' f;obtain⟨ys,q2,r2⟩:=h2 ρ' H' f;have hi':i<p5 v.length w.length:=by simpa using hi
  obtain⟨x,g1,rx⟩:=r1.get (ag (show i<v.length by omega))
  obtain⟨y,g2,ry⟩:=r2.get (ag (show i<w.length by omega))
  refine#[#[xs,ys,x,y,q1,q2,g1,g2],λu H'' #[T,x',y',e1,e2,hT,eH,eu]=>?_]
  subst eH eu;have ex:=(e1 xs q1).symm.trans g1;have ey:=(e2 ys q2).symm.trans g2;cases ex;cases ey;refine#[ZF hT,st.fresh hT,λd hd=>?_]
  have hz:(v.zip w)[i]?=aa (v[i],w[i]):=kw.mpr #[ag (by omega),ag (by omega)]
  rw[aH,hz]at hd;cases hd;exact XW ZL<|Reps.cons (rx.mono<|ZF hT)<|Reps.cons (ry.mono<|ZF hT) Reps.nil
 stop:=λρ' S' H' f st=>by
  obtain⟨xs,q1,r1⟩:=h1 ρ' H' f;obtain⟨ys,q2,r2⟩:=h2 ρ' H' f;refine#[xs,ys,q1,q2,?_];show xs.length<=((v.zip w).map λp=>Pv.V.tup [p.1,p.2]).length\/_
  rw[r1.length,r2.length,aq,gv];omega
section
variable{X:Cx}{xw:Nat->Hp->Prop}{C:Calls}{a b:Expr}{i j:E}{pos p tp:iP}{elts:List Expr}{kk:Nat}
def Zfd(hm:X.mg "zip" = ae)(ha:CA X xw C [a,b] [i,j])(hg:Gl X "zip")(hs:aL [a,b] X.env=[(am,cI a X.env),(am,cI b X.env)])(hs2:aL [b] X.env=[(am,cI b X.env)]) :
  CW X xw C (.Tuple elts kk tp) (.Call (.Name "zip" p) [a,b] [] pos) (.zip i j):=.mk <|
 PI.imp (ZfB hg hm ha.h hs hs2) λZ H Q #[O,l,S,st,lr,h]=>Zbz st lr h λx y S1 ρ1 H1 v u st1 rv ru h1=>by
  cases e1:Pv.YN x with
  |none=>rw[e1]at h1;exact False.elim h1
  |some v1=>
   cases e2:Pv.YN y with
   |none=>rw[e1,e2]at h1;exact False.elim h1
   |some v2=>
    rw[e1,e2]at h1;obtain⟨b1,l1,rfl,s1,d1⟩:=GU st1.hk rv e1;obtain⟨b2,l2,rfl,s2,d2⟩:=GU st1.hk ru e2;exact#[b1,b2,l1,l2,rfl,s1,s2,End.ok (rep:=WRel X.K) h1 st1<|Zbo d1 d2]
end
def Jh(hh:A.handled=ae)(b:Bool)(it l:aP)(hne:l≠it)(xs:Array ao) :
  Draws prog w A it [it,l] xs.size (λi v=>xs[i]?=aa v) (λi h=>Src b h it l i/\Y9 b h l xs) where
 live:=λ_ _ st=>let #[o,ho,_]:=st.1.obj;#[o,ho]
 frame:=λ_ _ _ st hk=>#[st.1.keep λo e=>hk it (by simp) o e,st.2.keep λo e=>hk l (by simp) o e]
 item:=λi s Q E hi st hQ=>VI st.1 st.2 (aS hi) λh' hit' hs'=>hQ _ h' s.toks (aS hi) #[hit',st.2.keep λo e=>hs'.extBut _ o hne e] hs'
 done:=λs Q E st hE=>Ga hh st.1 st.2 (lQ<|aM _) hE
noncomputable def Ite(K:ap)(b:Bool)(l:aP):It:=
 #[λi H=>∃xs x,Sq b K H l xs/\xs[i]?=aa x,
  λi H v H'=>∃T x,(∀xs,Sq b K H l xs->xs[i]?=aa x)/\H T=ae/\H'=upd H T (.tup [.int i,x])/\v=.ref T,
  λi H=>∃xs,Sq b K H l xs/\xs.length=i]
def uY{P:bt}{w:bL}{K:ap}{elts:List Expr}{kk:Nat}{tp:iP}{b:Bool}{e it l:aP}(hei:e≠it)(hle:l≠e)(hli:l≠it) :
  Turn P w K (.Tuple elts kk tp) (Ite K b l) [e,it] e (λi h=>(∃old,IsEnum h e it i old)/\Src b h it l i) where
 mem:=by simp
 obj:=λi h st c hc=>by
  simp only[ay,cu,or_false]at hc;obtain⟨⟨old,he⟩,hs⟩:=st;rcases hc with q|q<;>subst q
  .exact#[_,he,λv q=>by cases q]
  .exact hs.obj
 keep:=λi h h' st k=>by
  obtain⟨⟨old,he⟩,hs⟩:=st;exact#[#[old,k e (by simp) _ he],hs.keep λo q=>k it (by simp) o q]
 item:=by
  intro X hP hw hK hc i pq s Z H E I hf st hg;subst hP hw hK;obtain⟨xs,x,hq,hx⟩:=hg;obtain⟨its,rv,o1⟩:=XU I hq;obtain⟨⟨old,he⟩,hs⟩:=st;obtain⟨u,hu,ru⟩:=rv.get hx;have hlt:i<its.toArray.size:=by
   have:=(a9.mp hu).1
   simpa using this
  have hh:X.A.in1.handled=ae:=I.ok.hd hc;refine wpAny_pyNext_enum_itemD (Jh hh b it l hli its.toArray) he #[hs,o1] hlt hei (by simp only[ay,cu,or_false,not_or];exact#[hei,Ne.symm hle]) λx' h' tk hP ho hst hT hsz hk=>?_
  have ex:x'=u:=by
   have:its.toArray[i]?=aa u:=by simpa using hu
   rw[this]at hP;exact(ak hP).symm
  subst ex;have hfree:=I.hok.fresh<|aM _;have ltz:∀c∈[e,it],c≠s.heap.objs.size:=λc hc q=>by
   simp only[ay,cu,or_false]at hc;rcases hc with z|z<;>subst z
   .exact T7 (aJ he) (by rw[q];exact bu _)
   .obtain⟨o,ho,_⟩:=hs.obj;exact T7 (aJ ho) (by rw[q];exact bu _)
  have IA:Inv X pq Z (upd H s.heap.objs.size<|.tup [.int i,x]) {s with heap:=s.heap.push {cls:=.type "tuple",data:=.seq [.int i tk,x'].toArray},toks:=tk+1}:=
   I.laid (λc o q=>aw _ q) (aM _) #[by show 2<=bx;decide,[.int i tk,x'],.cons #[tk,rfl]<|.cons ru .nil,iY _ _]
  have hf2:∀c∈[e,it],Vu X pq (upd H s.heap.objs.size<|.tup [.int i,x]) c:=λc hc=>#[by rw[Zv<|ltz c hc];exact(hf c hc).1,(hf c hc).2]
  have IB:Inv X pq Z (upd H s.heap.objs.size<|.tup [.int i,x]) {s with heap:=h',toks:=tk+1}:=by
   refine Ww (s:={s with heap:=s.heap.push {cls:=.type "tuple",data:=.seq [.int i tk,x'].toArray},toks:=tk+1}) (ch:=[e,it]) IA (λc o hc q=>?_) hf2
   by_cases hcs:c=s.heap.objs.size
   .subst hcs
    have q':=q;rw[aO _ rfl]at q';cases q';exact hT
   .simp only[ay,cu,or_false,not_or]at hc
    exact hk c o hc.1 hc.2<|JV q hcs
  refine#[.ref s.heap.objs.size,rfl,wpAny_letOwnedTupleGo_enum ho λh2 he2 hs2=>?_]
  have IC:Inv X pq Z (upd H s.heap.objs.size<|.tup [.int i,x]) {s with heap:=h2,toks:=tk+1}:=Ww (s:={s with heap:=h',toks:=tk+1}) (ch:=[e]) IB (λc o hc q=>(hs2.2 c<|by simpa using hc).trans q) λc hc=>hf2 c (by simp only[aQ]at hc;simp[hc])
  refine#[.ref s.heap.objs.size,_,IC,rfl,#[_,x,λzs hz=>by rw[xA I hz hq];exact hx,hfree,rfl,rfl],#[#[x',by simpa using he2],hst.1.ext hs2.extBut<|Ne.symm hei],λc hc=>(hf2 c hc).1]
 done:=by
  intro X hP hw hK hc i pq s Z H E I hf st hg;subst hP hw hK;obtain⟨xs,hq,hend⟩:=hg;obtain⟨its,rv,o1⟩:=XU I hq;obtain⟨⟨old,he⟩,hs⟩:=st;have e1:=rv.length;have hh:X.A.in1.handled=ae:=I.ok.hd hc;have en:i=its.toArray.size:=by simp;lia
  subst en;exact wpAny_pyNext_enum_endD (Jh hh b it l hli its.toArray) he #[hs,o1] λh' hx=>#[rfl,Ww (t':=s.toks) (ch:=[e,it]) I (λc o hc q=>hx c o (λz=>hc<|by simp[z]) q) hf]
 self:=λ_ _ _ _ _ st h=>by
  obtain⟨⟨old,he⟩,_⟩:=st;exact nU he h
section
variable{prog:bt}{w:bL}{A:cn}{E:ao->au->Prop}{s:au}
def Zbe(l:aP)(items:Array ao)(n:Nat)(dct:Option aP)(sl:Array (Option ao)) :
  pI (dD.«enumerate.__new__» #[[.type "enumerate",.ref l],[]]) (λ_ R s=>s.heap.get? l=aa {cls:=.type "tuple",dict:=dct,data:=.seq items n,slots:=sl}/\
   R (.ok<|.ret<|.ref (s.heap.push<|Xd am l).objs.size) {s with heap:=(s.heap.push<|Xd am l).push {cls:=.type "enumerate",data:=.fields [.none,.bool am,.ref s.heap.objs.size,gc 0,.none,.none].toArray}}):=
 .of_wp λprog w A R s h=>by
  obtain⟨hp,g,d,tk,os⟩:=s;obtain⟨hl,h⟩:=h;have hsub:=sub_enumerate;have hL:cc.IsTuple (au.heap #[hp,g,d,tk,os]) l items:=#[_,hl,rfl,n,rfl]
  wp_walk using gh hl;refine wpAny_stack_any λst=>ax ?_;split
  .rename_i c _ _ _ _ _;cases(c == ni "enumerate")<;>(wp_walk using gh hl,gA hL;exact#[_,rfl,h])
  .wp_walk using gh hl,gA hL;exact#[_,rfl,h]
def qt{Q:ao->au->Prop}(hL:Y9 b s.heap l xs)
  (h:∀h' n,n=s.heap.objs.size->IsEnum h' (n+1) n 0 .none->Src b h' n l 0->(∀c o,s.heap.get? c=aa o->h'.get? c=aa o)->Q (.ref<|n+1) {s with heap:=h' }):aY (aT prog w) A (call (.type "enumerate") [.ref l]) Q E s:=by
 cases b with
 |true=>exact call_enumerate_list hL λh' a1 a2 _ a4=>h h' _ rfl a1 a2 a4
 |false=>
  obtain⟨⟨c,dct,dt,sl⟩,hl,hc,n,hd⟩:=hL;simp only at hc hd;subst hc hd;refine callType_new F.called_enumerate (by decide) (F.typeCall_enumerate_1 _) (F.newCall_enumerate_1 _) (λobj=>F.args_object_init_2 obj _) F.entry_enumerate_new (Zbe l xs n dct sl) #[hl,?_]
  have hz:(s.heap.push<|Xd am l).objs.size=s.heap.objs.size+1:=cZ ..;have g2:=aO (s.heap.push<|Xd am l) (o:={cls:=.type "enumerate",data:=.fields [.none,.bool am,.ref s.heap.objs.size,gc 0,.none,.none].toArray}) rfl;have g1:((s.heap.push<|Xd am l).push {cls:=.type "enumerate",data:=.fields [.none,.bool am,.ref s.heap.objs.size,gc 0,.none,.none].toArray}).get? s.heap.objs.size=aa (Xd am l):=aw _<|aO _ rfl;rw[hz]at g2 ⊢;exact#[#[_,g2,rfl],h _ _ rfl g2 #[_,g1,rfl,rfl] λc o q=>aw _<|aw _ q]
end
def Zf1(K:ap)(ta:TA):TI:=λZ H R=>ta Z H λvs H1=>∃b l,vs=[.ref l]/\(∃xs,Sq b K H1 l xs)/\R (Ite K b l) H1
def ZcC{a:Expr}{ta:TA}{p pos:iP}(hg:Gl X "enumerate")(hm:X.mg "enumerate" = ae)(ha:PA X [a] ta)(hs:aL [a] X.env=[(am,cI a X.env)]:=by rfl):PI X (.Tuple elts kk tp) (.Call (.Name "enumerate" p) [a] [] pos) (Zf1 X.K ta):=by
 intro pq s Z H R I h;refine rG<|YT I hg hm (by rfl)<|b4 (thn (ha pos pq s Z H _ I h) λus s1 #[vs,H1,I1,r1,q1]=>?_) hs rfl
 obtain⟨b,l,e,⟨xs,hq⟩,q⟩:=q1;subst e;cases r1 with
 |cons r rr=>
  cases rr;cases r;obtain⟨its,rv,o1⟩:=XU I1 hq;have lt1:=za o1;refine qt o1 λh' n hn he hs' hk=>?_
  have I2:=I1.kept (t':=s1.toks) hk
  have q1:(l:Nat)<n:=by rw[hn];exact lt1
  refine nU he #[n+1,[n+1,n],_,_,H1,rfl,I2,uY (Wc<|.inr<|ip n) (Wc<|.inl<|dE q1)<|Wc<|.inl q1,#[#[_,he],hs'],λc hc=>?_,q]
  have hbn:s1.heap.objs.size<=c:=by
   rw[<-hn];simp only[ay,cu,or_false]at hc;rcases hc with e|e<;>rw[e]
   .exact kK n
   .exact aM n
  exact I1.fpOk hbn<|I1.hok.fresh hbn
def jk{lo:Int}{n i:Nat}(h:i<n):(Pv.ZU lo n)[i]?=aa (.int<|lo+i):=by
 unfold Pv.ZU;rw[aH,bO h];rfl
def qF{K:ap}{O:Mx}{H:Hp}{w:List D}{b:Bool}{l:aP}(h1:Side K O H w b l):WRel K O H (((Pv.ZU 0 w.length).zip w).map λp=>.tup [p.1,p.2]) (Ite K b l) where
 go:=λi ρ' S' H' f st hi=>by
  obtain⟨xs,q1,r1⟩:=h1 ρ' H' f;have hi':i<w.length:=by
   rw[aq,gv,JD]at hi;lia
  obtain⟨x,g1,rx⟩:=r1.get<|ag hi';refine#[#[xs,x,q1,g1],λu H'' #[T,x',e1,hT,eH,eu]=>?_]
  subst eH eu;have ex:=(e1 xs q1).symm.trans g1;cases ex;refine#[ZF hT,st.fresh hT,λd hd=>?_]
  have hz:((Pv.ZU 0 w.length).zip w)[i]?=aa (.int<|0+i,w[i]):=kw.mpr #[jk hi',ag hi'];rw[aH,hz]at hd;cases hd;refine XW ZL<|Reps.cons ?_<|Reps.cons (rx.mono<|ZF hT) Reps.nil;rw[show((0:Int)+i)=i by lia]
  exact ZS _
 stop:=λρ' S' H' f st=>by
  obtain⟨xs,q1,r1⟩:=h1 ρ' H' f;refine#[xs,q1,?_];show xs.length=(((Pv.ZU 0 w.length).zip w).map λp=>Pv.V.tup [p.1,p.2]).length
  rw[aq,gv,JD,r1.length];lia
section
variable{X:Cx}{xw:Nat->Hp->Prop}{C:Calls}{a b:Expr}{i j:E}{pos p tp:iP}{elts:List Expr}{kk:Nat}
def Zca(hm:X.mg "enumerate" = ae)(ha:CA X xw C [a] [i])(hg:Gl X "enumerate")(hs:aL [a] X.env=[(am,cI a X.env)]) :
  CW X xw C (.Tuple elts kk tp) (.Call (.Name "enumerate" p) [a] [] pos) (.enum i):=.mk <|
 PI.imp (ZcC hg hm ha.h hs) λZ H Q #[O,l,S,st,lr,h]=>Zdx st lr h λx S1 ρ1 H1 v st1 r h1=>by
  cases e1:Pv.YN x with
  |none=>rw[e1]at h1;exact False.elim h1
  |some wk=>
   rw[e1]at h1;obtain⟨b1,l1,rfl,s1,d1⟩:=GU st1.hk r e1;exact#[b1,l1,rfl,s1,End.ok (rep:=WRel X.K) h1 st1<|qF d1]
end
end Sd
namespace Tq
open PySem PyProof.Rows
noncomputable def Yx:Bool->bY->Array bY->Nat->Nat->Nat->StateT bR oq (Option Nat):=sortPriv% PySem.Builtin.gallop
def xH(lf:Bool)(k:bY)(ar:Array bY)(bs n hn:Nat):Yx lf k ar bs n hn=(do
 let bd (i:Nat):StateT bR oq (Option Bool):=do
  let x <-f7 ar (bs+i)
  if lf then lt' x k else return (<-lt' k x).map (!·)
 let mut la:=0
 let mut of:=1
 let mut lo:=0
 let mut hi:=0
 let aa rt <-bd hn|return ae
 if rt then
  let mx:=n-hn
  for _ in [0:n] do
   if of>=mx then break
   let aa mo <-bd (hn+of)|return ae
   if !mo then break
   la:=of
   of:=2*of+1
  lo:=hn+la+1
  hi:=hn+p5 of mx
 else
  let mx:=hn+1
  for _ in [0:n] do
   if of>=mx then break
   let aa fo <-bd (hn-of)|return ae
   if fo then break
   la:=of
   of:=2*of+1
  lo:=hn+1-p5 of mx
  hi:=hn-la
 for _ in [0:n] do
  if lo>=hi then break
  let m:=lo+(hi-lo) / 2
  let aa mo <-bd m|return ae
  if mo then lo:=m+1 else hi:=m
 return aa hi):=rfl
noncomputable abbrev BT:=Option (Option Nat)×Nat×Nat
def jq{F:Nat->BT->StateT bR oq (ForInStep BT)}{n:Nat}{τ:bR}{B:Nat->Bool}{Q:BT->bR->Prop}
  (hF:∀i lo hi (Q:ForInStep BT->bR->Prop),hi<=n->(lo>=hi->Q (.done (ae,lo,hi)) τ)->(lo<hi->Q (.yield (ae,if B (lo+(hi-lo) / 2)=al then(lo+(hi-lo) / 2+1,hi)else(lo,lo+(hi-lo) / 2))) τ)->mv (aT prog w) A E s (F i (ae,lo,hi)) Q τ)
  (mono:∀i j,i<=j->j<n->B j=al->B i=al)(hq:∀r,r<=n->(∀i,i<n->(B i=al↔i<r))->Q (ae,r,r) τ){lo hi:Nat}(h1:lo<=hi)(h2:hi<=n)(h3:∀i,i<lo->B i=al)(h4:∀i,hi<=i->i<n->B i=am) :
  mv (aT prog w) A E s (l7 [0:n] ((ae,lo,hi):BT) F) Q τ:=by
 have fin:∀lo,lo<=n->(∀i,i<lo->B i=al)->(∀i,lo<=i->i<n->B i=am)->Q (ae,lo,lo) τ:=λlo a2 a4 a5=>hq _ a2 λi hi=>by
  refine#[λhB=>?_,a4 i]
  by_cases c:i<lo
  .exact c
  .rw[a5 i (by omega) hi]at hB;cases hB
 refine cD
  (I:=λi c st'=>st'=τ/\c.1=ae/\c.2.1<=c.2.2/\c.2.2<=n/\c.2.2-c.2.1+i<=n/\(∀i,i<c.2.1->B i=al)/\∀i,c.2.2<=i->i<n->B i=am) ?_ ?_ #[rfl,rfl,h1,h2,by dsimp only;omega,h3,h4]
 .rintro i ⟨r,lo,hi⟩ st' hi0 hin ⟨rfl,rfl,a1,a2,a3,a4,a5⟩
  dsimp only at a1 a2 a3 a4 a5 ⊢
  refine hF i lo hi _ a2 (λc=>?_) λc=>?_
  .have e:lo=hi:=by omega
   subst e;exact fin lo a2 a4 a5
  .cases hm:B (lo+(hi-lo) / 2)with
   |true=>
    simp only[if_true];exact#[trivial,trivial,by omega,a2,by omega,λj hj=>mono j _ (by omega) (by omega) hm,a5]
   |false=>
    simp only[b8,if_false];refine#[trivial,trivial,by omega,by omega,by omega,a4,λj hj hn=>?_]
    cases hj2:B j with|false=>rfl|true=>rw[mono _ j hj hn hj2]at hm;cases hm
 .rintro ⟨r,lo,hi⟩ st' ⟨rfl,rfl,a1,a2,a3,a4,a5⟩
  dsimp only at a1 a2 a3 a4 a5 ⊢
  have e:lo=hi:=by omega
  subst e;exact fin lo a2 a4 a5
def Zft{lf:Bool}{k:bY}{ar:Array bY}{bs n hn:Nat}{τ:bR}{B:Nat->Bool}{Q:Option Nat->bR->Prop}(hh:hn<n)
  (hb:∀i,i<n->∀Q:Option Bool->bR->Prop,Q (aa<|B i) τ->mv (aT prog w) A E s (do
   let x <-f7 ar (bs+i)
   if lf then lt' x k else return (<-lt' k x).map (!·)) Q τ)
  (mono:∀i j,i<=j->j<n->B j=al->B i=al)(hq:∀r,r<=n->(∀i,i<n->(B i=al↔i<r))->Q (aa r) τ):mv (aT prog w) A E s (Yx lf k ar bs n hn) Q τ:=by
 have no:∀{i j},i<=j->j<n->B i=am->B j=am:=λ{i j} h hj hi=>by
  cases q:B j with|false=>rfl|true=>rw[mono i j h hj q]at hi;cases hi
 rw[xH]
 dsimp only
 refine aK<|hb hn hh _ ?_
 dsimp only
 cases h0:B hn with
 |true=>
  rw[T9 rfl];refine aK (eY (cD
   (I:=λi (c:BT) st'=>st'=τ/\c.1=ae/\c.2.1<c.2.2/\i<c.2.2/\hn+c.2.1<n/\B (hn+c.2.1)=al)
   (Q:=λ(c:BT) st'=>st'=τ/\c.1=ae/\c.2.1<c.2.2/\hn+c.2.1<n/\B (hn+c.2.1)=al/\(n<=hn+c.2.2\/B (hn+c.2.2)=am)) ?_ ?_ #[rfl,rfl,by decide,by decide,hh,h0]) ?_)
  .rintro i ⟨r,la,f⟩ st' _ hin ⟨rfl,rfl,a1,a2,a3,a4⟩
   dsimp only at a1 a2 a3 a4 ⊢
   by_cases c:f>=n-hn
   .rw[T9 c]
    exact aU #[rfl,rfl,a1,a3,a4,.inl (by dsimp only;omega)]
   .rw[T8 c]
    refine aK<|hb _ (by omega) _ ?_
    dsimp only
    cases hm:B (hn+f)with|true=>exact aU #[rfl,rfl,by dsimp only;omega,by dsimp only;omega,by dsimp only;omega,hm]|false=>exact aU #[rfl,rfl,a1,a3,a4,.inr hm]
  .rintro ⟨r,la,f⟩ st' ⟨rfl,rfl,a1,a2,a3,a4⟩
   dsimp only at a1 a2 a3 a4 ⊢
   exact#[rfl,rfl,a1,a3,a4,.inl (by omega)]
  .rintro ⟨r,la,f⟩ st' ⟨rfl,rfl,a1,a3,a4,a5⟩
   dsimp only at a1 a3 a4 a5 ⊢
   refine aK (jq (n:=n) (B:=B) (λi lo hi Q h1 h2 h3=>by
    by_cases c:lo>=hi
    .simp only[T9 c];exact aU<|h2 c
    .simp only[T8 c]
     refine aK<|hb _ (by omega) _ ?_
     have h3:=h3 (by omega)
     cases hm:B (lo+(hi-lo) / 2)<;>(rw[hm]at h3;exact aU h3)) mono (λr hr hB=>aU<|hq r hr hB) (by omega) (by omega) (λi hi=>mono i _ (by omega) a3 a4) λi h1 h2=>?_)
   rcases a5 with a5|a5
   .omega
   .exact no (by omega) h2 a5
 |false=>
  rw[T8 (by simp)]
  refine aK (eY (cD
   (I:=λi (c:BT) st'=>st'=τ/\c.1=ae/\c.2.1<c.2.2/\i<c.2.2/\c.2.1<=hn/\B (hn-c.2.1)=am)
   (Q:=λ(c:BT) st'=>st'=τ/\c.1=ae/\c.2.1<c.2.2/\c.2.1<=hn/\B (hn-c.2.1)=am/\(hn<c.2.2\/B (hn-c.2.2)=al)) ?_ ?_ #[rfl,rfl,by decide,by decide,cL _,h0]) ?_)
  .rintro i ⟨r,la,f⟩ st' _ hin ⟨rfl,rfl,a1,a2,a3,a4⟩
   dsimp only at a1 a2 a3 a4 ⊢
   by_cases c:f>=hn+1
   .rw[T9 c]
    exact aU #[rfl,rfl,a1,a3,a4,.inl (by dsimp only;omega)]
   .rw[T8 c]
    refine aK<|hb _ (by omega) _ ?_
    dsimp only
    cases hm:B (hn-f)with|true=>exact aU #[rfl,rfl,a1,a3,a4,.inr hm]|false=>exact aU #[rfl,rfl,by dsimp only;omega,by dsimp only;omega,by dsimp only;omega,hm]
  .rintro ⟨r,la,f⟩ st' ⟨rfl,rfl,a1,a2,a3,a4⟩
   dsimp only at a1 a2 a3 a4 ⊢
   exact#[rfl,rfl,a1,a3,a4,.inl (by omega)]
  .rintro ⟨r,la,f⟩ st' ⟨rfl,rfl,a1,a3,a4,a5⟩
   dsimp only at a1 a3 a4 a5 ⊢
   refine aK (jq (n:=n) (B:=B) (λi lo hi Q h1 h2 h3=>by
    by_cases c:lo>=hi
    .simp only[T9 c];exact aU<|h2 c
    .simp only[T8 c]
     refine aK<|hb _ (by omega) _ ?_
     have h3:=h3 (by omega)
     cases hm:B (lo+(hi-lo) / 2)<;>(rw[hm]at h3;exact aU h3)) mono (λr hr hB=>aU<|hq r hr hB) (by omega) (by omega) (λi hi=>?_) λi h1 h2=>no h1 h2 a4)
   rcases a5 with a5|a5
   .omega
   .exact mono i _ (by omega) (by omega) a5
abbrev Srt(R:B->B->Prop)(l:List B):Prop:=l.Pairwise R
abbrev lr(rk:B->Nat):B->B->Prop:=λx y=>rk x<rk y
abbrev gr(rk:B->Nat):B->B->Prop:=λx y=>rk y<rk x
structure ML(R:B->B->Prop)(T o ra rb:List B):Prop where
 perm:(o++ra++rb).Perm T
 so:Srt R o
 sa:Srt R ra
 sb:Srt R rb
 lt:∀x∈o,∀y,y∈ra\/y∈rb->R x y
def ML.as{T o xs ra rb:List B}(h:ML R T o (xs++ra) rb)(hx:∀x∈xs,∀y∈rb,R x y):ML R T (o++xs) ra rb:=by
 obtain⟨s1,s2,s3⟩:=cz.mp h.sa;refine#[by simpa[bp]using h.perm,cz.mpr #[h.so,s1,λx hx y hy=>h.lt x hx y<|.inl<|bG _ hy],s2,h.sb,λx hx2 y hy=>?_]
 rcases bM.mp hx2 with z|z
 .exact h.lt x z y<|hy.imp (bm _) id
 .rcases hy with hy|hy
  .exact s3 x z y hy
  .exact hx x z y hy
def ML.swap{T o ra rb:List B}(h:ML R T o ra rb):ML R T o rb ra:=by
 refine#[List.Perm.trans ?_ h.perm,h.so,h.sb,h.sa,λx hx y hy=>h.lt x hx y hy.symm]
 rw[bp,bp];exact List.perm_append_comm.append_left _
def ML.bs(h:ML R T o ra (xs++rb))(hx:∀x∈xs,∀y∈ra,R x y):ML R T (o++xs) ra rb:=(h.swap.as hx).swap
def ML.fin{T o ra:List B}(h:ML R T o ra []):(o++ra).Perm T/\Srt R (o++ra):=by
 have h':=ML.as (ra:=[]) (by simpa using h) λx _ y hy=>by cases hy
 exact#[by simpa using h'.perm,h'.so]
def ML.ne(h:ML R T o ra rb)(hT:(T.map rk).Nodup)(hx:x∈ra)(hy:y∈rb):rk x≠rk y:=by
 have n:=((h.perm.map rk).nodup_iff).mpr hT;rw[bP,gV]at n;exact n.2.2 _ (fe<|bm _ hx) _<|fe hy
structure Od(prog:bt)(w:bL)(A:cn)(E:ao->au->Prop)(s:au)(κ:fR)(In:bY->Prop)(rk:bY->Nat):Prop where
 ask:∀{x y:bY}{τ:bR}{Q:Option Bool->bR->Prop},In x->In y->kindOf τ=κ->Q (aa<|aj<|rk x<rk y) τ->mv (aT prog w) A E s (lt' x y) Q τ
def Sg(τ st':bR):Prop:=kindOf st'=kindOf τ/\a8 st'=a8 τ/\bc st'=bc τ/\gj st'=gj τ
section
variable{In:bY->Prop}
def ZE{Q:bY->bR->Prop}(h:ar[i]?=aa x)(hq:Q x τ):mv (aT prog w) A E s (f7 ar i) Q τ:=by
 rw[elem'_eq,h];exact aU hq
def Wy{Q:Unit->bR->Prop}(hq:Q () τ):mv (aT prog w) A E s (liftM (nF t):StateT bR oq Unit) Q τ:=wpS_lift<|eA #[rfl,hq]
theorem vd(O:Od prog w A E s κ In rk){Q:Option Nat->bR->Prop}(hk:kindOf τ=κ)(ik:In k)(hh:h0<n)(hn:i+n<=ar.size)(ia:∀x∈ar.toList,In x)
  (so:Srt (lr rk) ((ar.toList.drop i).take n))(ne:∀x∈(ar.toList.drop i).take n,rk x≠rk k)
  (hq:∀r,r<=n->(∀x∈((ar.toList.drop i).take n).take r,rk x<rk k)->(∀x∈((ar.toList.drop i).take n).drop r,rk k<rk x)->Q (aa r) τ):mv (aT prog w) A E s (Yx lf k ar i n h0) Q τ:=by
 generalize hl:(ar.toList.drop i).take n=l at so ne hq;have ll:l.length=n:=by rw[<-hl,bq,br,aD];lia
 have at_:∀j (hj:j<n),ar[i+j]?=aa (l[j]'(by lia)):=λj hj=>by
  have:ar.toList[i+j]?=aa (l[j]'(by lia)):=by
   subst hl;rw[eZ,dZ];exact ag _
  simpa using this
 have mem:∀j (hj:j<n),In (l[j]'(by lia)):=λj hj=>ia _ (by
  have h2:∀x∈l,x∈ar.toList:=λx hx=>by rw[<-hl]at hx;exact b5<|dS hx
  exact h2 _<|aV _)
 have hB:∀j (hj:j<n),((l[j]?).any λx=>aj<|rk x<rk k)=aj (rk (l[j]'(by lia))<rk k):=λj hj=>by
  rw[ag (by lia)];rfl
 refine Zft (B:=λj=>(l[j]?).any λx=>aj<|rk x<rk k) hh (λj hj Q hQ=>?_) (λa b hab hb h=>?_) λr hr hr2=>hq r hr (λx hx=>?_) λx hx=>?_
 .rw[hB j hj]at hQ
  refine aK<|ZE (at_ j hj) ?_;cases lf with
  |true=>exact O.ask (mem j hj) ik hk hQ
  |false=>
   refine aK<|O.ask ik (mem j hj) hk<|aU ?_;have e:(!decide (rk k<rk (l[j]'(by lia))))=aj (rk (l[j]'(by lia))<rk k):=by
    have:=ne _<|aV (n:=j) (by lia)
    by_cases c:rk k<rk (l[j]'(by lia))
    .rw[T5 c,T4 (by lia)];rfl
    .rw[T4 c,T5 (by lia)];rfl
   show Q (aa<|!decide (rk k<rk (l[j]'(by lia)))) τ
   rw[e];exact hQ
 .rw[hB b hb]at h
  rw[hB a (by lia)]
  rcases Nat.lt_or_eq_of_le hab with c|c
  .have:=bo.mp so a b (by lia) (by lia) c
   have h:=T6 h;exact T5 (by lia)
  .subst c;exact h
 .obtain⟨j,hj,rfl⟩:=bw hx
  rw[bq]at hj;have:=(hr2 j<|by lia).mpr (by lia)
  rw[hB j<|by lia]at this
  rw[eZ];exact T6 this
 .obtain⟨j,hj,rfl⟩:=bw hx
  rw[br]at hj;rw[dZ];have h1:=hr2 (r+j) (by lia)
  rw[hB _<|by lia]at h1
  have h2:=ne _<|aV (n:=r+j) (by lia)
  have h3:¬rk (l[r+j]'(by lia))<rk k:=λz=>T7 (h1.mp<|T5 z) (by lia)
  lia
end
noncomputable abbrev KA:=Array bY
noncomputable abbrev SM:=StateT bR oq
noncomputable def Ql:KA->KA->SM KA:=sortPriv% PySem.Builtin.mergeLo
noncomputable def JU:Nat->SM Unit:=sortPriv% PySem.Builtin.setMinGallop
def Zbp(g:Nat):JU g=modify λs=>pO (kindOf s) (a8 s) (bc s) g (gj s):=rfl
noncomputable abbrev dn(a b o:KA)(i j:Nat):KA:=o++a.extract i a.size++b.extract j b.size
noncomputable abbrev ls(a b o:KA)(i j:Nat):KA:=o++b.extract j b.size++a.extract i a.size
noncomputable abbrev T2:=Option KA×KA×Nat×Nat×Nat×Nat
noncomputable abbrev T3:=Option KA×KA×Nat×Nat×Nat×Nat×Nat
noncomputable abbrev T1:=Option KA×KA×Nat×Nat×Nat
noncomputable def F1(a b:KA)(g:Nat)(c:T2):SM (ForInStep T2):=do
 let o:=c.2.1
 let i:=c.2.2.1
 let j:=c.2.2.2.1
 let ca:=c.2.2.2.2.1
 let cb:=c.2.2.2.2.2
 let aa t <-lt' (<-f7 b j) (<-f7 a i)|return .done (aa<|dn a b o i j,o,i,j,ca,cb)
 if t then
  let o:=o.push<|<-f7 b j
  let j:=j+1
  if j == b.size then return .done (aa<|dn a b o i j,o,i,j,0,cb+1)
  if cb+1>=g then return .done (ae,o,i,j,0,cb+1)
  return .yield (ae,o,i,j,0,cb+1)
 else
  let o:=o.push<|<-f7 a i
  let i:=i+1
  if i+1 == a.size then return .done (aa<|ls a b o i j,o,i,j,ca+1,0)
  if ca+1>=g then return .done (ae,o,i,j,ca+1,0)
  return .yield (ae,o,i,j,ca+1,0)
noncomputable def G3(a b:KA)(g ca cb i:Nat)(o:KA)(j:Nat):SM (ForInStep T3):=do
 let o:=o.push<|<-f7 a i
 let i:=i+1
 if i+1 == a.size then return .done (aa<|ls a b o i j,o,i,j,g,ca,cb)
 if ca<7&&cb<7 then return .done (ae,o,i,j,g,ca,cb)
 return .yield (ae,o,i,j,g,ca,cb)
noncomputable def G2(a b:KA)(g ca cb j:Nat)(o:KA)(i:Nat):SM (ForInStep T3):=do
 let o:=o.push<|<-f7 b j
 let j:=j+1
 if j == b.size then return .done (aa<|dn a b o i j,o,i,j,g,ca,cb)
 let aa k <-Yx al (<-f7 a i) b j (b.size-j) 0|return .done (aa<|dn a b o i j,o,i,j,g,ca,cb)
 if k>0 then
  let o:=o++b.extract j (j+k)
  let j:=j+k
  if j == b.size then return .done (aa<|dn a b o i j,o,i,j,g,ca,k)
  else G3 a b g ca k i o j
 else G3 a b g ca k i o j
noncomputable def G1(a b:KA)(o:KA)(i j ca cb g:Nat):SM (ForInStep T3):=do
 JU g
 let aa k <-Yx am (<-f7 b j) a i (a.size-i) 0|return .done (aa<|dn a b o i j,o,i,j,g,ca,cb)
 if k>0 then
  let o:=o++a.extract i (i+k)
  let i:=i+k
  if i+1 == a.size then return .done (aa<|ls a b o i j,o,i,j,g,k,cb)
  else if i == a.size then return .done (aa<|dn a b o i j,o,i,j,g,k,cb)
  else G2 a b g k cb j o i
 else G2 a b g k cb j o i
noncomputable def F2(a b:KA)(c:T3):SM (ForInStep T3):=
 if c.2.2.2.2.1>1 then G1 a b c.2.1 c.2.2.1 c.2.2.2.1 c.2.2.2.2.2.1 c.2.2.2.2.2.2 (c.2.2.2.2.1-1)
 else G1 a b c.2.1 c.2.2.1 c.2.2.2.1 c.2.2.2.2.2.1 c.2.2.2.2.2.2 c.2.2.2.2.1
noncomputable def F0(a b:KA)(c:T1):SM (ForInStep T1):=do
 let d <-l7 [0:a.size+b.size] ((ae,c.2.1,c.2.2.1,c.2.2.2.1,0,0):T2) λ_ d=>F1 a b c.2.2.2.2 d
 kg d.1 (λ_=>do
  nF "list.sort.gallop"
  let e <-l7 [0:a.size+b.size] ((ae,d.2.1,d.2.2.1,d.2.2.2.1,c.2.2.2.2+1,d.2.2.2.2.1,d.2.2.2.2.2):T3) λ_ d=>F2 a b d
  kg e.1 (λ_=>do
   JU (e.2.2.2.2.1+1)
   cY (.yield (ae,e.2.1,e.2.2.1,e.2.2.2.1,e.2.2.2.2.1+1))) λr=>cY<|.done (aa r,e.2.1,e.2.2.1,e.2.2.2.1,e.2.2.2.2.1)) λr=>cY<|.done (aa r,d.2.1,d.2.2.1,d.2.2.2.1,c.2.2.2.2)
def yp(a b:KA):Ql a b=(do
 nF "list.sort.merge-lo"
 let y <-f7 b 0
 if 1 == b.size then return dn a b #[y] 0 1
 if 0+1 == a.size then return ls a b #[y] 0 1
 let τ <-get
 let c <-l7 [0:a.size+b.size] ((ae,#[y],0,1,gallopOf τ):T1) λ_ c=>F0 a b c
 kg c.1 (λ_=>oW "internal:list.sort.merge-bound") λr=>cY r):=rfl
def Wv(a:KA)(i:Nat):(a.extract i a.size).toList=a.toList.drop i:=by
 rw[iC,f8,<-aD];exact cy (by rw[br];exact aM _)
def vf(a:KA)(i k:Nat):(a.extract i<|i+k).toList=(a.toList.drop i).take k:=by
 rw[iC,f8,Nat.add_sub_cancel_left]
def Yd{a:KA}{i:Nat}(h:i<a.size):a.toList.drop i=a[i]::a.toList.drop (i+1):=by
 rw[cp (by simpa using h)];rfl
def td{B:Type}(l:List B)(n r:Nat):(l.drop n).take r++l.drop (n+r)=l.drop n:=by rw[<-kh,cC]
def ZN{a:KA}{i:Nat}(h:i<a.size):a[i]?=aa a[i]:=aS h
section
variable{prog:bt}{w:bL}{A:cn}{E:ao->au->Prop}{s:au}{κ:fR}{In:bY->Prop}{rk:bY->Nat}
def ZC{B:Type}{c:Prop}[Decidable c]{x y:SM B}{Q:B->bR->Prop}{τ:bR}(h1:c->mv (aT prog w) A E s x Q τ)(h2:¬c->mv (aT prog w) A E s y Q τ):mv (aT prog w) A E s (if c then x else y) Q τ:=by
 by_cases h:c
 .rw[T9 h];exact h1 h
 .rw[T8 h];exact h2 h
theorem v8(O:Od prog w A E s κ In rk){Q:Option Nat->bR->Prop}(hk:kindOf τ=κ)(ik:In k)(hi:i<ar.size)(ia:∀x∈ar.toList,In x)(so:Srt (lr rk) (ar.toList.drop i))(ne:∀x∈ar.toList.drop i,rk x≠rk k)
  (hq:∀r,i+r<=ar.size->(∀x∈(ar.toList.drop i).take r,rk x<rk k)->(∀x∈ar.toList.drop (i+r),rk k<rk x)->Q (aa r) τ):mv (aT prog w) A E s (Yx lf k ar i (ar.size-i) 0) Q τ:=by
 have e:(ar.toList.drop i).take (ar.size-i)=ar.toList.drop i:=cy (by rw[br,aD];exact aM _)
 refine vd O hk ik (Nat.sub_pos_of_lt hi) (nO<|Nat.add_sub_cancel'<|gL hi) ia (e.symm▸so) (e.symm▸ne) λr h1 h2 h3=>?_
 rw[e]at h2 h3;rw[kh]at h3;exact hq r (by lia) h2 h3
structure Mg(κ:fR)(In:bY->Prop)(rk:bY->Nat)(a b:KA)(T:List bY):Prop where
 nd:(T.map rk).Nodup
 ia:∀x∈a.toList,In x
 ib:∀x∈b.toList,In x
 last:∀y∈b.toList,∀x∈a.toList.drop (a.size-1),rk y<rk x
def Res(rk:bY->Nat)(T:List bY)(r:KA):Prop:=r.toList.Perm T/\Srt (lr rk) r.toList
abbrev Lo(rk:bY->Nat)(a b:KA)(T:List bY)(o:KA)(i j:Nat):Prop:=ML (lr rk) T o.toList (a.toList.drop i)<|b.toList.drop j
structure Iv(rk:bY->Nat)(a b:KA)(T:List bY)(o:KA)(i j:Nat):Prop where
 m:Lo rk a b T o i j
 hi:i+1<a.size
 hj:j<b.size
 z:o.size=i+j
variable{a b:KA}{T:List bY}
def Gq(h:Lo rk a b T o i j)(hj:(j == b.size)=al):Res rk T (dn a b o i j):=by
 have hj:=beq_iff_eq.mp hj;unfold Lo at h;rw[hj,<-aD,eo]at h;have:=h.fin;unfold Res dn;rw[cE,cE,Wv,Wv,hj,<-aD,eo,cF];exact this
def ZcA(h:Lo rk a b T o i j)(hi:(i == a.size)=al):Res rk T (dn a b o i j):=by
 have hi:=beq_iff_eq.mp hi;unfold Lo at h;rw[hi,<-aD,eo]at h;have:=h.swap.fin;unfold Res dn;rw[cE,cE,Wv,Wv,hi,<-aD,eo,cF];exact this
theorem GG(G:Mg κ In rk a b T)(h:Lo rk a b T o i j)(hi:(i+1 == a.size)=al):Res rk T (ls a b o i j):=by
 have hi:=beq_iff_eq.mp hi;have e:a.size-1=i:=by lia
 have:=(ML.bs (by rw[cF];exact h) λy hy x hx=>G.last y (b5 hy) x<|by rw[e];exact hx).fin
 unfold Res ls;rw[cE,cE,Wv,Wv];exact this
def Zbu(h:Lo rk a b T o i j)(hj:j<b.size)(hy:∀x∈a.toList.drop i,rk b[j]<rk x):Lo rk a b T (o.push b[j]) i (j+1):=by
 unfold Lo at h ⊢;rw[Yd hj]at h;rw[d3];exact ML.bs h λx hx y hy'=>by rw[aQ.mp hx];exact hy y hy'
def ZdT(h:Lo rk a b T o i j)(hi:i<a.size)(hx:∀y∈b.toList.drop j,rk a[i]<rk y):Lo rk a b T (o.push a[i]) (i+1) j:=by
 unfold Lo at h ⊢;rw[Yd hi]at h;rw[d3];exact ML.as h λx hx' y hy'=>by rw[aQ.mp hx'];exact hx y hy'
def wH(h:Srt (lr rk) (x::l))(hx:rk y<rk x):∀z∈x::l,rk y<rk z:=λz hz=>by
 rcases ay.mp hz with rfl|hz
 .exact hx
 .exact dR hx<|(aR.mp h).1 z hz
def UW(h:m<n)(q:¬(m+1 == n)=al):m+1<n:=gB h λz=>q<|beq_iff_eq.mpr z
theorem Zgm(O:Od prog w A E s κ In rk)(G:Mg κ In rk a b T){g ca cb:Nat}{r0:Option KA}{τ:bR}{Q:ForInStep T2->bR->Prop}(hk:kindOf τ=κ)(I:Iv rk a b T o i j)
  (hd:∀r c,Res rk T r->Q (.done (aa r,c)) τ)(hb:∀o' i' j' ca cb,Iv rk a b T o' i' j'->o'.size=o.size+1->Q (.done (ae,o',i',j',ca,cb)) τ/\Q (.yield (ae,o',i',j',ca,cb)) τ):mv (aT prog w) A E s (F1 a b g (r0,o,i,j,ca,cb)) Q τ:=by
 have hi:=d4 I.hi;have ha:a[i]∈a.toList.drop i:=by rw[Yd hi];exact ai ..
 have hb':b[j]'I.hj∈b.toList.drop j:=by rw[Yd I.hj];exact ai ..
 have sa:=I.m.sa;have sb:=I.m.sb;rw[Yd hi]at sa;rw[Yd I.hj]at sb;refine aK<|ZE (ZN I.hj)<|aK<|ZE (ZN hi)<|aK<|O.ask (G.ib _<|b5 hb') (G.ia _<|b5 ha) hk ?_;by_cases c:rk (b[j]'I.hj)<rk a[i]
 .rw[T5 c]
  refine aK<|ZE (ZN I.hj) ?_;have m:=Zbu I.m I.hj (by rw[Yd hi];exact wH sa c)
  have z:(o.push<|b[j]'I.hj).size=o.size+1:=d7 ..;refine ZC (λq=>aU<|hd _ _<|Gq m q) λq=>?_
  have h:=hb _ _ _ 0 (cb+1) #[m,I.hi,UW I.hj q,by rw[z,I.z];lia] z
  exact ZC (λ_=>aU h.1) λ_=>aU h.2
 .rw[T4 c]
  refine aK<|ZE (ZN hi) ?_;have c':=gB (fm c)<|I.m.ne G.nd ha hb';have m:=ZdT I.m hi (by rw[Yd I.hj];exact wH sb c')
  have z:(o.push a[i]).size=o.size+1:=d7 ..;refine ZC (λq=>aU<|hd _ _<|GG G m q) λq=>?_
  have h:=hb _ _ _ (ca+1) 0 #[m,UW I.hi q,I.hj,by rw[z,I.z];lia] z
  exact ZC (λ_=>aU h.1) λ_=>aU h.2
theorem Sg.trans(h:Sg s1 s2)(k:Sg s2 s3):Sg s1 s3:=#[k.1.trans h.1,k.2.1.trans h.2.1,k.2.2.1.trans h.2.2.1,k.2.2.2.trans h.2.2.2]
def UD{Q:Unit->bR->Prop}(h:∀st',Sg τ st'->Q () st'):mv (aT prog w) A E s (JU g) Q τ:=by
 rw[Zbp];exact fF<|h _ #[rfl,rfl,rfl,rfl]
section
variable(O:Od prog w A E s κ In rk)(G:Mg κ In rk a b T)
include O G
theorem ZdF{g ca cb:Nat}{τ:bR}(m:Lo rk a b T o i j)(hi:i+1<a.size)(hj:j<b.size)(z:o.size=i+j)(hx:∀y∈b.toList.drop j,rk a[i]<rk y)
  (hd:∀r c,Res rk T r->Q (.done (aa r,c)) τ)(hb:∀o' i' j' g ca cb,Iv rk a b T o' i' j'->o'.size=o.size+1->Q (.done (ae,o',i',j',g,ca,cb)) τ/\Q (.yield (ae,o',i',j',g,ca,cb)) τ):mv (aT prog w) A E s (G3 a b g ca cb i o j) Q τ:=by
 have hi':=d4 hi;refine aK<|ZE (ZN hi') ?_;have m:=ZdT m hi' hx;have z':(o.push a[i]).size=o.size+1:=d7 ..;refine ZC (λq=>aU<|hd _ _<|GG G m q) λq=>?_
 have h:=hb _ _ _ g ca cb #[m,UW hi q,hj,by rw[z',z];lia] z'
 exact ZC (λ_=>aU h.1) λ_=>aU h.2
theorem Zdt{g ca cb:Nat}{τ:bR}(hk:kindOf τ=κ)(m:Lo rk a b T o i j)(hi:i+1<a.size)(hj:j<b.size)(z:o.size=i+j)(hy:∀x∈a.toList.drop i,rk b[j]<rk x)
  (hd:∀r c,Res rk T r->Q (.done (aa r,c)) τ)(hb:∀o' i' j' g ca cb,Iv rk a b T o' i' j'->o.size<o'.size->Q (.done (ae,o',i',j',g,ca,cb)) τ/\Q (.yield (ae,o',i',j',g,ca,cb)) τ):mv (aT prog w) A E s (G2 a b g ca cb j o i) Q τ:=by
 have hi':=d4 hi;refine aK<|ZE (ZN hj) ?_;have m:=Zbu m hj hy;have z':(o.push b[j]).size=o.size+1:=d7 ..;refine ZC (λq=>aU<|hd _ _<|Gq m q) λq=>?_
 have hj:=UW hj q;have ha:a[i]∈a.toList.drop i:=by rw[Yd hi'];exact ai ..
 refine aK<|ZE (ZN hi')<|aK<|v8 O hk (G.ia _<|b5 ha) hj G.ib m.sb (λy hy=>(m.ne G.nd ha hy).symm) λr hr h1 h2=>?_
 refine ZC (λ_=>?_) λc=>?_
 .have m2:Lo rk a b T (o.push b[j]++b.extract (j+1) (j+1+r)) i (j+1+r):=by
   unfold Lo;rw[cE,vf];refine ML.bs ?_ λy hy x hx=>?_
   .rw[td];exact m
   .have sa:=m.sa
    rw[Yd hi']at sa hx;exact wH sa (h1 y hy) x hx
  have z2:(o.push b[j]++b.extract (j+1) (j+1+r)).size=o.size+1+r:=by rw[gW,z',gC];lia
  refine ZC (λq=>aU<|hd _ _<|Gq m2 q) λq=>?_
  have hj2:=gB hr λz=>q<|beq_iff_eq.mpr z
  exact ZdF O G m2 hi hj2 (by rw[z2,z];lia) h2 hd λo' i' j' g ca cb I e=>hb o' i' j' g ca cb I (by lia)
 .have e:r=0:=by lia
  subst e;exact ZdF O G m hi hj (by rw[z',z];lia) h2 hd λo' i' j' g ca cb I e=>hb o' i' j' g ca cb I (by lia)
theorem ZdB{g ca cb:Nat}{τ:bR}(hk:kindOf τ=κ)(I:Iv rk a b T o i j)
  (hd:∀r c st',Sg τ st'->Res rk T r->Q (.done (aa r,c)) st')(hb:∀o' i' j' g ca cb st',Sg τ st'->Iv rk a b T o' i' j'->o.size<o'.size->Q (.done (ae,o',i',j',g,ca,cb)) st'/\Q (.yield (ae,o',i',j',g,ca,cb)) st'):mv (aT prog w) A E s (G1 a b o i j ca cb g) Q τ:=by
 obtain⟨m,hi,hj,z⟩:=I;have hi':=d4 hi;have hb':b[j]∈b.toList.drop j:=by rw[Yd hj];exact ai ..
 refine aK<|UD λst' sg=>aK<|ZE (ZN hj)<|aK<|v8 O (sg.1.trans hk) (G.ib _<|b5 hb') hi' G.ia m.sa (λx hx=>m.ne G.nd hx hb') λr hr h1 h2=>?_
 refine ZC (λ_=>?_) λc=>?_
 .have m2:Lo rk a b T (o++a.extract i (i+r)) (i+r) j:=by
   unfold Lo;rw[cE,vf];refine ML.as ?_ λx hx y hy=>?_
   .rw[td];exact m
   .have sb:=m.sb
    rw[Yd hj]at sb hy;exact wH sb (h1 x hx) y hy
  have z2:(o++a.extract i (i+r)).size=o.size+r:=by rw[gW,gC];lia
  refine ZC (λq=>aU<|hd _ _ st' sg<|GG G m2 q) λq=>ZC (λq=>aU<|hd _ _ st' sg<|ZcA m2 q) λq2=>?_
  have q2:i+r≠a.size:=λz=>q2<|beq_iff_eq.mpr z
  exact Zdt O G (sg.1.trans hk) m2 (UW (by lia) q) hj (by rw[z2,z];lia) h2 (λr c=>hd r c st' sg) λo' i' j' g ca cb I e=>hb o' i' j' g ca cb st' sg I (by lia)
 .have e:r=0:=by lia
  subst e;exact Zdt O G (sg.1.trans hk) m hi hj z h2 (λr c=>hd r c st' sg) λo' i' j' g ca cb I e=>hb o' i' j' g ca cb st' sg I (by lia)
theorem ZfP{g ca cb:Nat}{r0:Option KA}{τ:bR}(hk:kindOf τ=κ)(I:Iv rk a b T o i j)
  (hd:∀r c st',Sg τ st'->Res rk T r->Q (.done (aa r,c)) st')(hb:∀o' i' j' g ca cb st',Sg τ st'->Iv rk a b T o' i' j'->o.size<o'.size->Q (.done (ae,o',i',j',g,ca,cb)) st'/\Q (.yield (ae,o',i',j',g,ca,cb)) st'):mv (aT prog w) A E s (F2 a b (r0,o,i,j,g,ca,cb)) Q τ:=by
 exact ZC (λ_=>ZdB O G hk I hd hb) λ_=>ZdB O G hk I hd hb
theorem Zgp{Q:ForInStep T1->bR->Prop}(hk:kindOf τ=κ)(I:Iv rk a b T o i j)
  (hd:∀r c st',Sg τ st'->Res rk T r->Q (.done (aa r,c)) st')(hy:∀o' i' j' g st',Sg τ st'->Iv rk a b T o' i' j'->o.size<o'.size->Q (.yield (ae,o',i',j',g)) st'):mv (aT prog w) A E s (F0 a b (r0,o,i,j,g)) Q τ:=by
 refine aK (eY (cD
  (I:=λx (c:T2) st'=>st'=τ/\c.1=ae/\Iv rk a b T c.2.1 c.2.2.1 c.2.2.2.1/\o.size+x<=c.2.1.size)
  (Q:=λ(c:T2) st'=>st'=τ/\((∃r,c.1=aa r/\Res rk T r)\/c.1=ae/\Iv rk a b T c.2.1 c.2.2.1 c.2.2.2.1/\o.size<c.2.1.size)) ?_ ?_ #[rfl,rfl,I,aM _]) ?_)
 .rintro x ⟨r,o',i',j',ca,cb⟩ st' _ _ ⟨rfl,rfl,I',hz⟩
  exact Zgm O G hk I' (λr c h=>#[rfl,.inl #[r,rfl,h]]) λo2 i2 j2 ca cb I2 e=>#[#[rfl,.inr #[rfl,I2,by dsimp only at hz ⊢;lia]],rfl,rfl,I2,by dsimp only at hz ⊢;lia]
 .rintro ⟨r,o',i',j',ca,cb⟩ st' ⟨rfl,rfl,I',hz⟩
  have:=I'.hi;have:=I'.hj;have:=I'.z;lia
 .rintro ⟨r,o',i',j',ca,cb⟩ st' ⟨rfl,⟨r',rfl,h⟩|⟨rfl,I',hz⟩⟩
  .exact aU<|hd _ _ _ #[rfl,rfl,rfl,rfl] h
  .dsimp only at I' hz
   refine aK (Wy (aK (eY (cD
    (I:=λx (c:T3) st''=>Sg st' st''/\c.1=ae/\Iv rk a b T c.2.1 c.2.2.1 c.2.2.2.1/\o'.size+x<=c.2.1.size)
    (Q:=λ(c:T3) st''=>Sg st' st''/\((∃r,c.1=aa r/\Res rk T r)\/c.1=ae/\Iv rk a b T c.2.1 c.2.2.1 c.2.2.2.1/\o'.size<c.2.1.size)) ?_ ?_ #[#[rfl,rfl,rfl,rfl],rfl,I',aM _]) ?_)))
   .rintro x ⟨r,o2,i2,j2,g,ca,cb⟩ st2 _ _ ⟨sg,rfl,I2,hz2⟩
    dsimp only at I2 hz2
    exact ZfP O G (sg.1.trans hk) I2 (λr c st3 s3 h=>#[sg.trans s3,.inl #[r,rfl,h]]) λo3 i3 j3 g ca cb st3 s3 I3 e=>#[#[sg.trans s3,.inr #[rfl,I3,by dsimp only;lia]],sg.trans s3,rfl,I3,by dsimp only;lia]
   .rintro ⟨r,o2,i2,j2,g,ca,cb⟩ st2 ⟨sg,rfl,I2,hz2⟩
    have:=I2.hi;have:=I2.hj;have:=I2.z;lia
   .rintro ⟨r,o2,i2,j2,g,ca,cb⟩ st2 ⟨sg,⟨r',rfl,h⟩|⟨rfl,I2,hz2⟩⟩
    .exact aU<|hd _ _ _ sg h
    .exact aK<|UD λst3 s3=>aU<|hy _ _ _ _ _ (sg.trans s3) I2<|dR hz hz2
theorem xK{τ:bR}{Q:KA->bR->Prop}(hk:kindOf τ=κ)(ha:0<a.size)(hb:0<b.size)(sa:Srt (lr rk) a.toList)(sb:Srt (lr rk) b.toList)(hT:(a.toList++b.toList).Perm T)(h0:∀x∈a.toList,rk b[0]<rk x)
  (hq:∀r st',Sg τ st'->Res rk T r->Q r st'):mv (aT prog w) A E s (Ql a b) Q τ:=by
 rw[yp];refine aK<|Wy<|aK<|ZE (ZN hb) ?_;have m0:Lo rk a b T #[] 0 0:=#[by simpa using hT,.nil,by simpa using sa,by simpa using sb,λx hx=>by cases hx]
 have m:=Zbu m0 hb (by simpa using h0)
 have sg0:Sg τ τ:=#[rfl,rfl,rfl,rfl];refine ZC (λq=>aU<|hq _ _ sg0<|Gq m q) λq1=>ZC (λq=>aU<|hq _ _ sg0<|GG G m q) λq2=>aK (gX (aK (eY (cD
  (I:=λx (c:T1) st''=>Sg τ st''/\c.1=ae/\Iv rk a b T c.2.1 c.2.2.1 c.2.2.2.1/\x<=c.2.1.size)
  (Q:=λ(c:T1) st''=>Sg τ st''/\∃r,c.1=aa r/\Res rk T r) ?_ ?_ #[sg0,rfl,#[m,UW ha q2,UW hb q1,rfl],cL _]) ?_)))
 .rintro x ⟨r,o,i,j,g⟩ st2 _ _ ⟨sg,rfl,I,hz⟩
  dsimp only at I hz
  exact Zgp O G (sg.1.trans hk) I (λr c st3 s3 h=>#[sg.trans s3,r,rfl,h]) λo3 i3 j3 g st3 s3 I3 e=>#[sg.trans s3,rfl,I3,by dsimp only;lia]
 .rintro ⟨r,o,i,j,g⟩ st2 ⟨sg,rfl,I,hz⟩
  have:=I.hi;have:=I.hj;have:=I.z;lia
 .rintro ⟨r,o,i,j,g⟩ st2 ⟨sg,r',rfl,h⟩
  exact aU<|hq _ _ sg h
end
end
noncomputable def U5:KA->KA->SM KA:=sortPriv% PySem.Builtin.mergeHi
noncomputable abbrev dh(a b o:KA)(i j:Nat):KA:=a.extract 0 i++b.extract 0 j++o.reverse
noncomputable abbrev fh(a b o:KA)(i j:Nat):KA:=b.extract 0 j++a.extract 0 i++o.reverse
noncomputable abbrev U1:=Option KA×Nat×Nat×KA×Nat
noncomputable abbrev U2:=Option KA×Nat×Nat×KA×Nat×Nat
noncomputable abbrev U3:=Option KA×Nat×Nat×KA×Nat×Nat×Nat
noncomputable def H1(a b:KA)(g:Nat)(c:U2):SM (ForInStep U2):=do
 let i:=c.2.1
 let j:=c.2.2.1
 let o:=c.2.2.2.1
 let ca:=c.2.2.2.2.1
 let cb:=c.2.2.2.2.2
 let aa t <-lt' (<-f7 b (j-1)) (<-f7 a (i-1))|return .done (aa<|dh a b o i j,i,j,o,ca,cb)
 if t then
  let i:=i-1
  let o:=o.push<|<-f7 a i
  if i == 0 then return .done (aa<|dh a b o i j,i,j,o,ca+1,0)
  if ca+1>=g then return .done (ae,i,j,o,ca+1,0)
  return .yield (ae,i,j,o,ca+1,0)
 else
  let j:=j-1
  let o:=o.push<|<-f7 b j
  if j == 1 then return .done (aa<|fh a b o i j,i,j,o,0,cb+1)
  if cb+1>=g then return .done (ae,i,j,o,0,cb+1)
  return .yield (ae,i,j,o,0,cb+1)
noncomputable def K3(a b:KA)(g ca cb i:Nat)(o:KA)(j:Nat):SM (ForInStep U3):=do
 let i:=i-1
 let o:=o.push<|<-f7 a i
 if i == 0 then return .done (aa<|dh a b o i j,i,j,o,g,ca,cb)
 if ca<7&&cb<7 then return .done (ae,i,j,o,g,ca,cb)
 return .yield (ae,i,j,o,g,ca,cb)
noncomputable def K2(a b:KA)(g ca cb j:Nat)(o:KA)(i:Nat):SM (ForInStep U3):=do
 let j:=j-1
 let o:=o.push<|<-f7 b j
 if j == 1 then return .done (aa<|fh a b o i j,i,j,o,g,ca,cb)
 let aa t <-Yx al (<-f7 a (i-1)) b 0 j (j-1)|return .done (aa<|dh a b o i j,i,j,o,g,ca,cb)
 if j-t>0 then
  let o:=o++(b.extract t j).reverse
  if t == 1 then return .done (aa<|fh a b o i t,i,t,o,g,ca,j-t)
  else if t == 0 then return .done (aa<|dh a b o i t,i,t,o,g,ca,j-t)
  else K3 a b g ca (j-t) i o t
 else K3 a b g ca (j-t) i o j
noncomputable def K1(a b:KA)(o:KA)(i j ca cb g:Nat):SM (ForInStep U3):=do
 JU g
 let aa t <-Yx am (<-f7 b (j-1)) a 0 i (i-1)|return .done (aa<|dh a b o i j,i,j,o,g,ca,cb)
 if i-t>0 then
  let o:=o++(a.extract t i).reverse
  if t == 0 then return .done (aa<|dh a b o t j,t,j,o,g,i-t,cb)
  else K2 a b g (i-t) cb j o t
 else K2 a b g (i-t) cb j o i
noncomputable def H2(a b:KA)(c:U3):SM (ForInStep U3):=
 if c.2.2.2.2.1>1 then K1 a b c.2.2.2.1 c.2.1 c.2.2.1 c.2.2.2.2.2.1 c.2.2.2.2.2.2 (c.2.2.2.2.1-1)
 else K1 a b c.2.2.2.1 c.2.1 c.2.2.1 c.2.2.2.2.2.1 c.2.2.2.2.2.2 c.2.2.2.2.1
noncomputable def TT(n:Nat)(f1:Nat->U2->SM (ForInStep U2))(f2:U3->SM (ForInStep U3))(c:U1):SM (ForInStep U1):=do
 let d <-l7 [0:n] ((ae,c.2.1,c.2.2.1,c.2.2.2.1,0,0):U2) λ_ d=>f1 c.2.2.2.2 d
 kg d.1 (λ_=>do
  nF "list.sort.gallop"
  let e <-l7 [0:n] ((ae,d.2.1,d.2.2.1,d.2.2.2.1,c.2.2.2.2+1,d.2.2.2.2.1,d.2.2.2.2.2):U3) λ_ d=>f2 d
  kg e.1 (λ_=>do
   JU (e.2.2.2.2.1+1)
   cY (.yield (ae,e.2.1,e.2.2.1,e.2.2.2.1,e.2.2.2.2.1+1))) λr=>cY<|.done (aa r,e.2.1,e.2.2.1,e.2.2.2.1,e.2.2.2.2.1)) λr=>cY<|.done (aa r,d.2.1,d.2.2.1,d.2.2.2.1,c.2.2.2.2)
def zK(a b:KA):U5 a b=(do
 nF "list.sort.merge-hi"
 let x <-f7 a (a.size-1)
 if a.size-1 == 0 then return dh a b #[x] (a.size-1) b.size
 if b.size == 1 then return fh a b #[x] (a.size-1) b.size
 let τ <-get
 let c <-l7 [0:a.size+b.size] ((ae,a.size-1,b.size,#[x],gallopOf τ):U1) λ_ c=>TT (a.size+b.size) (H1 a b) (H2 a b) c
 kg c.1 (λ_=>oW "internal:list.sort.merge-bound") λr=>cY r):=rfl
def jV{a:KA}{t i:Nat}:(a.extract t i).toList=(a.toList.take i).drop t:=by
 rw[iC,f8,List.drop_take]
noncomputable abbrev rv(a:KA)(i:Nat):List bY:=(a.toList.take i).reverse
def Vi{a:KA}{i:Nat}(h:0<i)(h2:i<=a.size):rv a i=a[i-1]::rv a (i-1):=by
 obtain⟨k,rfl⟩:∃k,i=k+1:=#[i-1,by lia]
 show(a.toList.take<|k+1).reverse=_;rw[List.take_succ_eq_append_getElem (by rw[aD];exact h2),iQ];rfl
def jo{a:KA}{t i:Nat}(h:t<=i):rv a i=((a.toList.take i).drop t).reverse++rv a t:=by
 rw[<-iQ];have:=cC t<|a.toList.take i;rw[pQ,me h]at this;rw[this]
section
variable{prog:bt}{w:bL}{A:cn}{E:ao->au->Prop}{s:au}{κ:fR}{In:bY->Prop}{rk:bY->Nat}{a b:KA}{T:List bY}
abbrev Hi(rk:bY->Nat)(a b:KA)(T:List bY)(o:KA)(i j:Nat):Prop:=ML (gr rk) T o.toList (rv a i)<|rv b j
structure Ih(rk:bY->Nat)(a b:KA)(T:List bY)(o:KA)(i j:Nat):Prop where
 m:Hi rk a b T o i j
 i0:0<i
 i1:i<=a.size
 j0:1<j
 j1:j<=b.size
 z:o.size+i+j=a.size+b.size
def Gb{l:List bY}{r:KA}(h:l.Perm T/\Srt (gr rk) l)(e:r.toList=l.reverse):Res rk T r:=by
 unfold Res;rw[e];exact#[(dF l).trans h.1,eL.mpr h.2]
def Zb6(h:Hi rk a b T o i j)(hi:(i == 0)=al):Res rk T (dh a b o i j):=by
 cases beq_iff_eq.mp hi;refine Gb (ML.fin h.swap) ?_;simp
def Zhn(h:Hi rk a b T o i j)(hj:(j == 0)=al):Res rk T (dh a b o i j):=by
 cases beq_iff_eq.mp hj;refine Gb (ML.fin h) ?_;simp
def Gj(fs:∀x∈a.toList,∀y∈b.toList.take 1,rk y<rk x)(h:Hi rk a b T o i j)(hj:(j == 1)=al):Res rk T (fh a b o i j):=by
 cases beq_iff_eq.mp hj;have:=(ML.as (by rw[cF];exact h) λx hx y hy=>fs x (dS<|dv.mp hx) y<|dv.mp hy).swap.fin
 refine Gb this ?_;simp
def Zbb(h:Hi rk a b T o i j)(i0:0<i)(i1:i<=a.size)(hx:∀y∈rv b j,rk y<rk a[i-1]):Hi rk a b T (o.push a[i-1]) (i-1) j:=by
 unfold Hi at h ⊢;rw[Vi i0 i1]at h;rw[d3];exact ML.as h λx hx' y hy'=>by rw[aQ.mp hx'];exact hx y hy'
def ZdI(h:Hi rk a b T o i j)(j0:0<j)(j1:j<=b.size)(hx:∀y∈rv a i,rk y<rk b[j-1]):Hi rk a b T (o.push b[j-1]) i (j-1):=by
 unfold Hi at h ⊢;rw[Vi j0 j1]at h;rw[d3];exact ML.bs h λx hx' y hy'=>by rw[aQ.mp hx'];exact hx y hy'
def vV{l:List bY}{x y:bY}(h:Srt (gr rk) (x::l))(hx:rk x<rk y):∀z∈x::l,rk z<rk y:=λz hz=>by
 rcases ay.mp hz with rfl|hz
 .exact hx
 .exact dR ((aR.mp h).1 z hz) hx
theorem vo(O:Od prog w A E s κ In rk){lf:Bool}{k:bY}{ar:KA}{n:Nat}{τ:bR}{Q:Option Nat->bR->Prop}(hk:kindOf τ=κ)(ik:In k)(hn:0<n)(h1:n<=ar.size)(ia:∀x∈ar.toList,In x)(so:Srt (gr rk) (rv ar n))(ne:∀x∈rv ar n,rk x≠rk k)
  (hq:∀r,r<=n->(∀x∈rv ar r,rk x<rk k)->(∀x∈((ar.toList.take n).drop r).reverse,rk k<rk x)->Q (aa r) τ):mv (aT prog w) A E s (Yx lf k ar 0 n<|n-1) Q τ:=by
 refine vd O hk ik (Nat.sub_lt hn Nat.one_pos) (by lia) ia (eL.mp so) (λx hx=>ne x<|dv.mpr hx) λr h2 h3 h4=>hq r h2 (λx hx=>h3 x ?_) λx hx=>h4 x<|dv.mp hx
 have hx:=dv.mp hx;rw[pQ,me h2];exact hx
def UA{a:KA}{i:Nat}(i0:0<i)(i1:i<=a.size):a[i-1]∈rv a i:=by rw[Vi i0 i1];exact ai ..
def yW{a:KA}{i:Nat}{x:bY}(h:x∈rv a i):x∈a.toList:=dS<|dv.mp h
section
variable(O:Od prog w A E s κ In rk)(G:Mg κ In rk a b T)(fs:∀x∈a.toList,∀y∈b.toList.take 1,rk y<rk x)
include O G fs
theorem ZfT{g ca cb:Nat}{r0:Option KA}{τ:bR}{Q:ForInStep U2->bR->Prop}(hk:kindOf τ=κ)(I:Ih rk a b T o i j)
  (hd:∀r c,Res rk T r->Q (.done (aa r,c)) τ)(hb:∀o' i' j' ca cb,Ih rk a b T o' i' j'->o'.size=o.size+1->Q (.done (ae,i',j',o',ca,cb)) τ/\Q (.yield (ae,i',j',o',ca,cb)) τ):mv (aT prog w) A E s (H1 a b g (r0,i,j,o,ca,cb)) Q τ:=by
 obtain⟨m,i0,i1,j0,j1,z⟩:=I;have j0':=d4 j0;have hja:j-1<b.size:=by lia
 have hia:i-1<a.size:=by lia
 have ha:=UA i0 i1;have hb':=UA j0' j1;have sa:=m.sa;have sb:=m.sb;rw[Vi i0 i1]at sa;rw[Vi j0' j1]at sb;refine aK<|ZE (ZN hja)<|aK<|ZE (ZN hia)<|aK<|O.ask (G.ib _<|yW hb') (G.ia _<|yW ha) hk ?_;by_cases c:rk b[j-1]<rk a[i-1]
 .rw[T5 c]
  refine aK<|ZE (ZN hia) ?_;have m:=Zbb m i0 i1 (by rw[Vi j0' j1];exact vV sb c)
  have z':(o.push a[i-1]).size=o.size+1:=d7 ..;refine ZC (λq=>aU<|hd _ _<|Zb6 m q) λq=>?_
  have q:i-1≠0:=λz=>q<|beq_iff_eq.mpr z
  have h:=hb _ _ _ (ca+1) 0 #[m,by lia,by lia,j0,j1,by lia] z'
  exact ZC (λ_=>aU h.1) λ_=>aU h.2
 .rw[T4 c]
  refine aK<|ZE (ZN hja) ?_;have c':=gB (fm c)<|m.ne G.nd ha hb';have m:=ZdI m j0' j1 (by rw[Vi i0 i1];exact vV sa c')
  have z':(o.push b[j-1]).size=o.size+1:=d7 ..;refine ZC (λq=>aU<|hd _ _<|Gj fs m q) λq=>?_
  have q:j-1≠1:=λz=>q<|beq_iff_eq.mpr z
  have h:=hb _ _ _ 0 (cb+1) #[m,i0,i1,by lia,by lia,by lia] z'
  exact ZC (λ_=>aU h.1) λ_=>aU h.2
theorem ZdC{g ca cb:Nat}{τ:bR}(I:Ih rk a b T o i j)(hx:∀y∈rv b j,rk y<rk (a[i-1]'(by have:=I.i0;have:=I.i1;lia)))
  (hd:∀r c,Res rk T r->Q (.done (aa r,c)) τ)(hb:∀o' i' j' g ca cb,Ih rk a b T o' i' j'->o'.size=o.size+1->Q (.done (ae,i',j',o',g,ca,cb)) τ/\Q (.yield (ae,i',j',o',g,ca,cb)) τ):mv (aT prog w) A E s (K3 a b g ca cb i o j) Q τ:=by
 obtain⟨m,i0,i1,j0,j1,z⟩:=I;refine aK<|ZE (ZN<|by lia) ?_
 have m:=Zbb m i0 i1 hx;have z':(o.push a[i-1]).size=o.size+1:=d7 ..;refine ZC (λq=>aU<|hd _ _<|Zb6 m q) λq=>?_
 have q:i-1≠0:=λz=>q<|beq_iff_eq.mpr z
 have h:=hb _ _ _ g ca cb #[m,by lia,by lia,j0,j1,by lia] z'
 exact ZC (λ_=>aU h.1) λ_=>aU h.2
theorem ZdS{g ca cb:Nat}{τ:bR}(hk:kindOf τ=κ)(I:Ih rk a b T o i j)(hy:∀y∈rv a i,rk y<rk (b[j-1]'(by have:=I.j0;have:=I.j1;lia)))
  (hd:∀r c,Res rk T r->Q (.done (aa r,c)) τ)(hb:∀o' i' j' g ca cb,Ih rk a b T o' i' j'->o.size<o'.size->Q (.done (ae,i',j',o',g,ca,cb)) τ/\Q (.yield (ae,i',j',o',g,ca,cb)) τ):mv (aT prog w) A E s (K2 a b g ca cb j o i) Q τ:=by
 obtain⟨m,i0,i1,j0,j1,z⟩:=I;refine aK<|ZE (ZN<|by lia) ?_
 have m:=ZdI m (d4 j0) j1 hy;have z':(o.push b[j-1]).size=o.size+1:=d7 ..;refine ZC (λq=>aU<|hd _ _<|Gj fs m q) λq=>?_
 have q:j-1≠1:=λz=>q<|beq_iff_eq.mpr z
 have ha:=UA i0 i1;refine aK<|ZE (ZN<|by lia)<|aK<|vo O hk (G.ia _<|yW ha) (by lia) (by lia) G.ib m.sb (λy hy=>(m.ne G.nd ha hy).symm) λr hr h1 h2=>?_
 refine ZC (λc=>?_) λc=>?_
 .have m2:Hi rk a b T (o.push b[j-1]++(b.extract r<|j-1).reverse) i r:=by
   unfold Hi;rw[cE,mF,jV];refine ML.bs ?_ λy hy x hx=>?_
   .rw[<-jo hr];exact m
   .have sa:=m.sa
    rw[Vi i0 i1]at sa hx;exact vV sa (h2 y hy) x hx
  have z2:(o.push b[j-1]++(b.extract r<|j-1).reverse).size=o.size+1+(j-1-r):=by rw[gW,z',nD,gC];lia
  refine ZC (λq=>aU<|hd _ _<|Gj fs m2 q) λq1=>ZC (λq=>aU<|hd _ _<|Zhn m2 q) λq2=>?_
  have q1:r≠1:=λz=>q1<|beq_iff_eq.mpr z
  have q2:r≠0:=λz=>q2<|beq_iff_eq.mpr z
  exact ZdC O G fs #[m2,i0,i1,by lia,by lia,by lia] h1 hd λo' i' j' g ca cb I e=>hb o' i' j' g ca cb I (by lia)
 .have e:r=j-1:=by lia
  subst e;exact ZdC O G fs #[m,i0,i1,by lia,by lia,by lia] h1 hd λo' i' j' g ca cb I e=>hb o' i' j' g ca cb I (by lia)
theorem ZdJ{g ca cb:Nat}{τ:bR}(hk:kindOf τ=κ)(I:Ih rk a b T o i j)
  (hd:∀r c st',Sg τ st'->Res rk T r->Q (.done (aa r,c)) st')(hb:∀o' i' j' g ca cb st',Sg τ st'->Ih rk a b T o' i' j'->o.size<o'.size->Q (.done (ae,i',j',o',g,ca,cb)) st'/\Q (.yield (ae,i',j',o',g,ca,cb)) st'):mv (aT prog w) A E s (K1 a b o i j ca cb g) Q τ:=by
 obtain⟨m,i0,i1,j0,j1,z⟩:=I;have j0':=d4 j0;have hb':=UA j0' j1;refine aK<|UD λst' sg=>aK<|ZE (ZN<|by lia)<|aK<|vo O (sg.1.trans hk) (G.ib _<|yW hb') i0 i1 G.ia m.sa (λx hx=>m.ne G.nd hx hb') λr hr h1 h2=>?_
 refine ZC (λc=>?_) λc=>?_
 .have m2:Hi rk a b T (o++(a.extract r i).reverse) r j:=by
   unfold Hi;rw[cE,mF,jV];refine ML.as ?_ λx hx y hy=>?_
   .rw[<-jo hr];exact m
   .have sb:=m.sb
    rw[Vi j0' j1]at sb hy;exact vV sb (h2 x hx) y hy
  have z2:(o++(a.extract r i).reverse).size=o.size+(i-r):=by rw[gW,nD,gC];lia
  refine ZC (λq=>aU<|hd _ _ st' sg<|Zb6 m2 q) λq=>?_
  have q:r≠0:=λz=>q<|beq_iff_eq.mpr z
  exact ZdS O G fs (sg.1.trans hk) #[m2,by lia,by lia,j0,j1,by lia] h1 (λr c=>hd r c st' sg) λo' i' j' g ca cb I e=>hb o' i' j' g ca cb st' sg I (by lia)
 .have e:r=i:=by lia
  subst e;exact ZdS O G fs (sg.1.trans hk) #[m,i0,i1,j0,j1,z] h1 (λr c=>hd r c st' sg) λo' i' j' g ca cb I e=>hb o' i' j' g ca cb st' sg I (by lia)
theorem Zf8{g ca cb:Nat}{r0:Option KA}{τ:bR}(hk:kindOf τ=κ)(I:Ih rk a b T o i j)
  (hd:∀r c st',Sg τ st'->Res rk T r->Q (.done (aa r,c)) st')(hb:∀o' i' j' g ca cb st',Sg τ st'->Ih rk a b T o' i' j'->o.size<o'.size->Q (.done (ae,i',j',o',g,ca,cb)) st'/\Q (.yield (ae,i',j',o',g,ca,cb)) st'):mv (aT prog w) A E s (H2 a b (r0,i,j,o,g,ca,cb)) Q τ:=by
 exact ZC (λ_=>ZdJ O G fs hk I hd hb) λ_=>ZdJ O G fs hk I hd hb
theorem Zgq{g:Nat}{r0:Option KA}{τ:bR}{Q:ForInStep U1->bR->Prop}(hk:kindOf τ=κ)(I:Ih rk a b T o i j)
  (hd:∀r c st',Sg τ st'->Res rk T r->Q (.done (aa r,c)) st')(hy:∀o' i' j' g st',Sg τ st'->Ih rk a b T o' i' j'->o.size<o'.size->Q (.yield (ae,i',j',o',g)) st'):mv (aT prog w) A E s (TT (a.size+b.size) (H1 a b) (H2 a b) (r0,i,j,o,g)) Q τ:=by
 refine aK (eY (cD
  (I:=λx (c:U2) st'=>st'=τ/\c.1=ae/\Ih rk a b T c.2.2.2.1 c.2.1 c.2.2.1/\o.size+x<=c.2.2.2.1.size)
  (Q:=λ(c:U2) st'=>st'=τ/\((∃r,c.1=aa r/\Res rk T r)\/c.1=ae/\Ih rk a b T c.2.2.2.1 c.2.1 c.2.2.1/\o.size<c.2.2.2.1.size)) ?_ ?_ #[rfl,rfl,I,aM _]) ?_)
 .rintro x ⟨r,i',j',o',ca,cb⟩ st' _ _ ⟨rfl,rfl,I',hz⟩
  exact ZfT O G fs hk I' (λr c h=>#[rfl,.inl #[r,rfl,h]]) λo2 i2 j2 ca cb I2 e=>#[#[rfl,.inr #[rfl,I2,by dsimp only at hz ⊢;lia]],rfl,rfl,I2,by dsimp only at hz ⊢;lia]
 .rintro ⟨r,i',j',o',ca,cb⟩ st' ⟨rfl,rfl,I',hz⟩
  have:=I'.i0;have:=I'.j0;have:=I'.z;lia
 .rintro ⟨r,i',j',o',ca,cb⟩ st' ⟨rfl,⟨r',rfl,h⟩|⟨rfl,I',hz⟩⟩
  .exact aU<|hd _ _ _ #[rfl,rfl,rfl,rfl] h
  .dsimp only at I' hz
   refine aK (Wy (aK (eY (cD
    (I:=λx (c:U3) st''=>Sg st' st''/\c.1=ae/\Ih rk a b T c.2.2.2.1 c.2.1 c.2.2.1/\o'.size+x<=c.2.2.2.1.size)
    (Q:=λ(c:U3) st''=>Sg st' st''/\((∃r,c.1=aa r/\Res rk T r)\/c.1=ae/\Ih rk a b T c.2.2.2.1 c.2.1 c.2.2.1/\o'.size<c.2.2.2.1.size)) ?_ ?_ #[#[rfl,rfl,rfl,rfl],rfl,I',aM _]) ?_)))
   .rintro x ⟨r,i2,j2,o2,g,ca,cb⟩ st2 _ _ ⟨sg,rfl,I2,hz2⟩
    dsimp only at I2 hz2
    exact Zf8 O G fs (sg.1.trans hk) I2 (λr c st3 s3 h=>#[sg.trans s3,.inl #[r,rfl,h]]) λo3 i3 j3 g ca cb st3 s3 I3 e=>#[#[sg.trans s3,.inr #[rfl,I3,by dsimp only;lia]],sg.trans s3,rfl,I3,by dsimp only;lia]
   .rintro ⟨r,i2,j2,o2,g,ca,cb⟩ st2 ⟨sg,rfl,I2,hz2⟩
    have:=I2.i0;have:=I2.j0;have:=I2.z;lia
   .rintro ⟨r,i2,j2,o2,g,ca,cb⟩ st2 ⟨sg,⟨r',rfl,h⟩|⟨rfl,I2,hz2⟩⟩
    .exact aU<|hd _ _ _ sg h
    .exact aK<|UD λst3 s3=>aU<|hy _ _ _ _ _ (sg.trans s3) I2<|dR hz hz2
theorem xR{τ:bR}{Q:KA->bR->Prop}(hk:kindOf τ=κ)(ha:0<a.size)(hb:0<b.size)(sa:Srt (lr rk) a.toList)(sb:Srt (lr rk) b.toList)(hT:(a.toList++b.toList).Perm T)
  (hq:∀r st',Sg τ st'->Res rk T r->Q r st'):mv (aT prog w) A E s (U5 a b) Q τ:=by
 rw[zK];refine aK<|Wy<|aK<|ZE (ZN<|by lia) ?_
 have ea:rv a a.size=a.toList.reverse:=by show(a.toList.take a.size).reverse=_;rw[<-aD,io]
 have eb:rv b b.size=b.toList.reverse:=by show(b.toList.take b.size).reverse=_;rw[<-aD,io]
 have m0:Hi rk a b T #[] a.size b.size:=by
  unfold Hi;rw[ea,eb];exact#[by simpa using((dF _).append<|dF _).trans hT,.nil,eL.mpr sa,eL.mpr sb,λx hx=>by cases hx]
 have m:=Zbb m0 ha (aM _) λy hy=>G.last y (yW hy) _ (by rw[Yd (by lia)];exact ai ..)
 have sg0:Sg τ τ:=#[rfl,rfl,rfl,rfl];refine ZC (λq=>aU<|hq _ _ sg0<|Zb6 m q) λq1=>ZC (λq=>aU<|hq _ _ sg0<|Gj fs m q) λq2=>?_
 have q1:a.size-1≠0:=λz=>q1<|beq_iff_eq.mpr z
 have q2:b.size≠1:=λz=>q2<|beq_iff_eq.mpr z
 refine aK (gX (aK (eY (cD
  (I:=λx (c:U1) st''=>Sg τ st''/\c.1=ae/\Ih rk a b T c.2.2.2.1 c.2.1 c.2.2.1/\x<=c.2.2.2.1.size)
  (Q:=λ(c:U1) st''=>Sg τ st''/\∃r,c.1=aa r/\Res rk T r) ?_ ?_ #[sg0,rfl,#[m,by dsimp only;lia,by dsimp only;lia,by dsimp only;lia,aM _,by show 1+(a.size-1)+b.size=_;lia],cL _]) ?_)))
 .rintro x ⟨r,i,j,o,g⟩ st2 _ _ ⟨sg,rfl,I,hz⟩
  dsimp only at I hz
  exact Zgq O G fs (sg.1.trans hk) I (λr c st3 s3 h=>#[sg.trans s3,r,rfl,h]) λo3 i3 j3 g st3 s3 I3 e=>#[sg.trans s3,rfl,I3,by dsimp only;lia]
 .rintro ⟨r,i,j,o,g⟩ st2 ⟨sg,rfl,I,hz⟩
  have:=I.i0;have:=I.j0;have:=I.z;lia
 .rintro ⟨r,i,j,o,g⟩ st2 ⟨sg,r',rfl,h⟩
  exact aU<|hq _ _ sg h
end
end
noncomputable def Kr(rk:bY->Nat)(xs:Array bY)(i:Nat):Nat:=match xs[i]? with
 |some p=>rk p
 |none=>0
def Vb(h:xs[i]?=ys[j]?):Kr rk xs i=Kr rk ys j:=by unfold Kr;rw[h]
structure Sb(κ:fR)(a₀:Array bY)(P:Array (Nat×Nat×Nat))(lo:Nat)(L:List bY)(τ:bR):Prop where
 kd:kindOf τ=κ
 pm:(a8 τ).Perm a₀
 fl:gj τ=ae
 pd:bc τ=P
 ah:(a8 τ).toList.take lo=L
def Up(rk:bY->Nat)(xs:Array bY)(lo m:Nat):Prop:=∀i j,lo<=i->i<j->j<lo+m->Kr rk xs i<Kr rk xs j
def Dn(rk:bY->Nat)(xs:Array bY)(lo m:Nat):Prop:=∀i j,lo<=i->i<j->j<lo+m->Kr rk xs j<Kr rk xs i
section
variable{κ:fR}{a₀:Array bY}{P:Array (Nat×Nat×Nat)}{lo:Nat}{L:List bY}{τ:bR}{In:bY->Prop}{rk:bY->Nat}
theorem Sb.size(h:Sb κ a₀ P lo L τ):(a8 τ).size=a₀.size:=h.pm.size_eq
def Sb.in(h:Sb κ a₀ P lo L τ)(ia:∀x∈a₀.toList,In x):∀x∈(a8 τ).toList,In x:=λx hx=>ia x<|(bB.mp h.pm).mem_iff.mp hx
def zJ(hi:i<xs.size):Kr rk xs i=rk xs[i]:=by unfold Kr;rw[aS hi]
theorem Sb.ne(h:Sb κ a₀ P lo L τ)(nd:(a₀.toList.map rk).Nodup)(hi:i<a₀.size)(hj:j<a₀.size)(e:Kr rk (a8 τ) i=Kr rk (a8 τ) j):i=j:=by
 have hs:=h.size;have n:=(((bB.mp h.pm).map rk).nodup_iff).mpr nd;have g:∀k,k<a₀.size->((a8 τ).toList.map rk)[k]?=aa (Kr rk (a8 τ) k):=λk hk=>by
  rw[aH,aZ,aS (by lia),zJ (by lia)];rfl
 exact(e8 (by rw[aq,aD];lia) n).mp (by rw[g i hi,g j hj,e])
def Sb.setA(h:Sb κ a₀ P lo L τ)(hp:xs.Perm (a8 τ))(hf:∀k,k<lo->xs[k]?=(a8 τ)[k]?):Sb κ a₀ P lo L (setArr τ xs):=
 #[h.kd,hp.trans h.pm,h.fl,h.pd,by
  rw[<-h.ah];refine bV λk=>?_
  rw[c0,c0];split
  .rw[aZ,aZ];exact hf k ‹_›
  .rfl]
variable{prog:bt}{w:bL}{A:cn}{E:ao->au->Prop}{s:au}
theorem JC(O:Od prog w A E s κ In rk)(h:Sb κ a₀ P lo L τ)(ia:∀x∈a₀.toList,In x){Q:Option Bool->bR->Prop}(hi:i<a₀.size)(hj:j<a₀.size)(q:Q (aa<|aj<|Kr rk (a8 τ) i<Kr rk (a8 τ) j) τ):mv (aT prog w) A E s (ltAt' i j) Q τ:=by
 have hs:=h.size;have m:∀k (hk:k<(a8 τ).size),In (a8 τ)[k]:=λk hk=>h.in ia _ (by simp)
 rw[ltAt'_eq];refine aK<|gX ?_;refine aK<|ZE (ZN<|by lia)<|aK<|ZE (ZN<|by lia) ?_
 rw[zJ (by lia),zJ<|by lia]at q
 exact O.ask (m i _) (m j _) h.kd q
theorem Zd4(xs:Array bY):Up rk xs lo 1:=λi j a b c=>by lia
theorem ZcY(h1:1<=m)(u:Up rk xs lo m)(c:Kr rk xs (lo+m-1)<Kr rk xs (lo+m)):Up rk xs lo (m+1):=λi j a b d=>by
 by_cases z:j=lo+m
 .subst z
  by_cases y:i=lo+m-1
  .rw[y];exact c
  .exact dR (u i (lo+m-1) a (by lia)<|by lia) c
 .exact u i j a b (by lia)
theorem ZcV(h1:1<=m)(u:Dn rk xs lo m)(c:Kr rk xs (lo+m)<Kr rk xs (lo+m-1)):Dn rk xs lo (m+1):=λi j a b d=>by
 by_cases z:j=lo+m
 .subst z
  by_cases y:i=lo+m-1
  .rw[y];exact c
  .exact dR c<|u i (lo+m-1) a (by lia) (by lia)
 .exact u i j a b (by lia)
theorem jZ(O:Od prog w A E s κ In rk)(ia:∀x∈a₀.toList,In x)(nd:(a₀.toList.map rk).Nodup){Q:AscSt->bR->Prop}
  (hF:∀i m (Q:ForInStep AscSt->bR->Prop),1<=m->m<nrem->(Kr rk (a8 τ) (lo+m)<Kr rk (a8 τ) (lo+m-1)->Q (.done (ae,m)) τ)->(¬Kr rk (a8 τ) (lo+m)<Kr rk (a8 τ) (lo+m-1)->Q (.yield (ae,m+1)) τ)->mv (aT prog w) A E s (F i (ae,m)) Q τ)
  (hn:lo+nrem<=a₀.size)(h1:1<=n0)(hl:n0<=nrem)(hB:Sb κ a₀ P lo L τ)(u:Up rk (a8 τ) lo n0)
  (q:∀m,n0<=m->m<=nrem->Up rk (a8 τ) lo m->(m<nrem->Kr rk (a8 τ) (lo+m)<Kr rk (a8 τ) (lo+m-1))->Q (ae,m) τ):mv (aT prog w) A E s (l7 [n0:nrem] ((ae,n0):AscSt) F) Q τ:=by
 refine cD (I:=λi c st'=>st'=τ/\c=(ae,i)/\Up rk (a8 τ) lo i) ?_ ?_ #[rfl,rfl,u]
 .rintro i c st' ha hb ⟨rfl,rfl,u⟩
  refine hF i i _ (by lia) hb (λc=>q i ha (by lia) u λ_=>c) λc=>#[rfl,rfl,ZcY (by lia) u ?_]
  have:Kr rk (a8 st') (lo+i-1)≠Kr rk (a8 st') (lo+i):=λe=>by
   have:=hB.ne nd (by lia) (by lia) e
   lia
  lia
 .rintro c st' ⟨rfl,rfl,u⟩
  have e:max n0 nrem=nrem:=by lia
  rw[e]at u ⊢;exact q nrem hl (aM _) u λz=>T7 z<|bu _
theorem Za1(O:Od prog w A E s κ In rk)(ia:∀x∈a₀.toList,In x)(nd:(a₀.toList.map rk).Nodup){Q:Option Nat->bR->Prop}(hn:lo+nrem<=a₀.size)(h1:1<=nrem)(hB:Sb κ a₀ P lo L τ)
  (q:∀m st',Sb κ a₀ P lo L st'->1<=m->m<=nrem->Up rk (a8 st') lo m->Q (aa m) st'):mv (aT prog w) A E s (countRun' lo nrem) Q τ:=by
 rw[countRun'_eq];refine aK<|jZ O ia nd (λi m Q a b k1 k2=>?_) hn (aM _) h1 hB (Zd4 _) λm m1 m2 u c=>?_
 .refine aK (JC O hB ia (by lia) (by lia) ?_)
  dsimp only
  split
  .exact aU<|k1<|T6 ‹_›
  .exact aU<|k2 λz=>‹¬_› (T5 z)
 dsimp only
 by_cases e:m=nrem
 .rw[T9 (by simpa using e)]
  exact aU<|q m τ hB m1 m2 u
 rw[T8 (by simpa using e)]
 by_cases c1:m>1
 .rw[T9 c1]
  refine aK<|JC O hB ia (by lia) (by lia) ?_
  dsimp only
  rw[T9<|T5<|u lo (lo+m-1) (aM _) (by lia) (by lia)]
  exact aU<|q m τ hB m1 m2 u
 rw[T8 c1];obtain rfl:m=1:=by lia
 refine aK<|Wy ?_;have nl:∀i j,i<a₀.size->j<a₀.size->i≠j->¬Kr rk (a8 τ) i<Kr rk (a8 τ) j->Kr rk (a8 τ) j<Kr rk (a8 τ) i:=λi j hi hj ne c=>by
  have:Kr rk (a8 τ) i≠Kr rk (a8 τ) j:=λe=>ne<|hB.ne nd hi hj e
  lia
 have d2:Dn rk (a8 τ) lo 2:=λi j a b d=>by
  obtain⟨rfl,rfl⟩:i=lo/\j=lo+1:=by lia
  exact c (by lia)
 refine aK<|eY (cD (I:=λi c st'=>st'=τ/\c=(ae,i,0)/\Dn rk (a8 τ) lo i) (Q:=λc st'=>st'=τ/\∃i,c=(ae,i,0)/\2<=i/\i<=nrem/\Dn rk (a8 τ) lo i) ?_ ?_ #[rfl,rfl,d2]) ?_
 .rintro i c st' ha hb ⟨rfl,rfl,u⟩
  dsimp only
  refine aK<|JC O hB ia (by lia) (by lia) ?_
  dsimp only
  split
  .rw[T8<|bu 0]
   exact aU #[rfl,rfl,ZcV (by lia) u<|T6 ‹_›]
  .refine aK (JC O hB ia (by lia) (by lia) ?_)
   dsimp only
   rw[T9<|T5<|nl (lo+i) (lo+i-1) (by lia) (by lia) (by lia) λz=>‹¬_› (T5 z)]
   exact aU #[rfl,i,rfl,by lia,by lia,u]
 .rintro c st' ⟨rfl,rfl,u⟩
  have e:max (1+1) nrem=nrem:=by lia
  rw[e]at u ⊢;exact#[rfl,nrem,rfl,by lia,aM _,u]
 .rintro c st' ⟨rfl,i,rfl,h2,hi,u⟩
  dsimp only
  rw[T8<|bu 0];refine aK<|wpS_reverse ?_;have hs:=hB.size;have gm:=λk=>getElem?_mirror_all (xs:=a8 st') (i:=lo) (j:=lo+i) (by lia) k
  have hB2:=hB.setA (mirror_perm ..) λk hk=>by
   rw[gm k,T8 (by lia)]
  have u2:Up rk (mirror (a8 st') lo (lo+i)<|(lo+i-lo) / 2) lo i:=λa b h1 h2 h3=>by
   have e:∀k,lo<=k->k<lo+i->Kr rk (mirror (a8 st') lo (lo+i)<|(lo+i-lo) / 2) k=Kr rk (a8 st') (lo+(lo+i-1-k)):=λk ka kb=>Vb (by rw[gm k,T9 #[ka,kb]];congr 1;lia)
   rw[e a h1 (by lia),e b (by lia) h3]
   exact u _ _ (by lia) (by lia) (by lia)
  refine aK<|jZ O ia nd (λi m Q a b k1 k2=>?_) hn (by lia) hi hB2 u2 λm m1 m2 u c=>?_
  .refine aK (JC O hB2 ia (by dsimp only;lia) (by dsimp only;lia) ?_)
   dsimp only
   split
   .exact aU<|k1<|T6 ‹_›
   .exact aU<|k2 λz=>‹¬_› (T5 z)
  .exact aU<|q m _ hB2 (by lia) m2 u
theorem ZcO(O:Od prog w A E s κ In rk)(ia:∀x∈a₀.toList,In x)(nd:(a₀.toList.map rk).Nodup){Q:Bool->bR->Prop}(hn:lo+n<=a₀.size)(h1:1<=ok)(hok:ok<=n)(hB:Sb κ a₀ P lo L τ)(u:Up rk (a8 τ) lo ok)
  (q:∀st',Sb κ a₀ P lo L st'->Up rk (a8 st') lo n->Q al st'):mv (aT prog w) A E s (binarySort' lo n ok) Q τ:=by
 rw[binarySort'_eq];refine aK<|eY (cD (I:=λk c st'=>c=(ae,())/\Sb κ a₀ P lo L st'/\Up rk (a8 st') lo k) (Q:=λc st'=>c=(ae,())/\Sb κ a₀ P lo L st'/\Up rk (a8 st') lo n) ?_ ?_ #[rfl,hB,by rw[Nat.max_eq_left h1];exact u]) ?_
 .rintro k c st' ha hb ⟨rfl,B,u⟩
  have hs:=B.size;refine aK (eY (cD (I:=λx c st2=>st2=st'/\∃l r,c=(ae,l,r)/\l<=r/\r<=k/\r-l<=k-x/\(∀i,i<l->Kr rk (a8 st') (lo+i)<Kr rk (a8 st') (lo+k))/\∀i,r<=i->i<k->Kr rk (a8 st') (lo+k)<Kr rk (a8 st') (lo+i))
   (Q:=λc st2=>st2=st'/\∃l r,c=(ae,l,r)/\l<=k/\(∀i,i<l->Kr rk (a8 st') (lo+i)<Kr rk (a8 st') (lo+k))/\∀i,l<=i->i<k->Kr rk (a8 st') (lo+k)<Kr rk (a8 st') (lo+i)) ?_ ?_ #[rfl,0,k,rfl,by lia,by lia,by lia,λi hi=>by lia,λi a b=>by lia]) ?_)
  .rintro x c st2 _ hx ⟨rfl,l,r,rfl,g1,g2,g3,g4,g5⟩
   dsimp only
   by_cases c:l>=r
   .rw[T9 c]
    exact aU #[rfl,l,r,rfl,by lia,g4,λi a b=>g5 i (by lia) b]
   .rw[T8 c]
    refine aK<|JC O B ia (by lia) (by lia) ?_
    dsimp only
    split
    .have cm:=T6 ‹_›
     refine aU #[rfl,l,(l+r) / 2,rfl,by lia,by lia,by lia,g4,λi a b=>?_]
     by_cases y:i=(l+r) / 2
     .rw[y];exact cm
     .exact dR cm<|u _ _ (by lia) (by lia) (by lia)
    .have cm:Kr rk (a8 st2) (lo+(l+r) / 2)<Kr rk (a8 st2) (lo+k):=by
      have z:¬Kr rk (a8 st2) (lo+k)<Kr rk (a8 st2) (lo+(l+r) / 2):=λz=>‹¬_› (T5 z)
      have:Kr rk (a8 st2) (lo+k)≠Kr rk (a8 st2) (lo+(l+r) / 2):=λe=>by
       have:=B.ne nd (by lia) (by lia) e
       lia
      lia
     refine aU #[rfl,(l+r) / 2+1,r,rfl,by lia,by lia,by lia,λi a=>?_,g5]
     by_cases y:i=(l+r) / 2
     .rw[y];exact cm
     .exact dR (u _ _ (by lia) (by lia)<|by lia) cm
  .rintro c st2 ⟨rfl,l,r,rfl,g1,g2,g3,g4,g5⟩
   exact#[rfl,l,r,rfl,by lia,g4,λi a b=>g5 i (by lia) b]
  .rintro c st2 ⟨rfl,l,r,rfl,g2,g4,g5⟩
   dsimp only
   rw[moveDown'_eq];refine aK<|fF<|aU ?_;have gb:=λi=>getElem?_bubble (xs:=a8 st2) (src:=lo+k) (by lia) (lo+k-(lo+l)) (by lia) i
   have e1:lo+k-(lo+k-(lo+l))=lo+l:=by lia
   rw[e1]at gb;refine#[rfl,B.setA (bubble_perm ..) λi hi=>?_,λi j a b d=>?_]
   .rw[gb i,T8 (by lia),T8 (by lia)]
   .have e:∀i,Kr rk (bubble (a8 st2) (lo+k)<|lo+k-(lo+l)) i=if i=lo+l then Kr rk (a8 st2) (lo+k)else if lo+l<i/\i<=lo+k then Kr rk (a8 st2) (i-1)else Kr rk (a8 st2) i:=λi=>by
     have h:=gb i;split at h
     .rw[T9 ‹_›];exact Vb h
     .rw[T8 ‹_›]
      split at h
      .rw[T9 ‹_›];exact Vb h
      .rw[T8 ‹_›];exact Vb h
    rw[e i,e j];have low:∀x,lo<=x->x<lo+l->Kr rk (a8 st2) x<Kr rk (a8 st2) (lo+k):=λx a b=>by
     have:=g4 (x-lo) (by lia)
     rwa [show lo+(x-lo)=x by lia]at this
    have high:∀x,lo+l<=x->x<lo+k->Kr rk (a8 st2) (lo+k)<Kr rk (a8 st2) x:=λx a b=>by
     have:=g5 (x-lo) (by lia) (by lia)
     rwa [show lo+(x-lo)=x by lia]at this
    by_cases ci:i=lo+l
    .rw[T9 ci,T8 (by lia),T9 (by lia)]
     exact high _ (by lia) (by lia)
    .rw[T8 ci]
     by_cases cj:j=lo+l
     .rw[T9 cj,T8 (by lia)]
      exact low _ a (by lia)
     .rw[T8 cj]
      by_cases di:lo+l<i/\i<=lo+k
      .rw[T9 di,T9 (by lia)];exact u _ _ (by lia) (by lia) (by lia)
      .rw[T8 di]
       by_cases dj:lo+l<j/\j<=lo+k
       .rw[T9 dj]
        by_cases z:i=j-1
        .lia
        .exact u _ _ a (by lia) (by lia)
       .rw[T8 dj];exact u _ _ a b (by lia)
 .rintro c st' ⟨rfl,B,u⟩
  have e:max (max ok 1) n=n:=by lia
  rw[e]at u;exact#[rfl,B,u]
 .rintro c st' ⟨rfl,B,u⟩
  exact aU<|q st' B u
end
def zI(i:Nat):mergeAt' i=(do
 let t <-get
 let (aa (ia,ma,pw),aa (ib,mb,_)):=((bc t)[i]?,(bc t)[i+1]?)|unsupported "internal:list.sort.pending"
 set (iq t<|((bc t).setIfInBounds i (ia,ma+mb,pw)).eraseIdxIfInBounds<|i+1)
 let aa r <-Yx am (<-f7 (a8 t) ib) (a8 t) ia ma 0|return am
 let (ja,la):=(ia+r,ma-r)
 if la == 0 then return al
 let aa lb <-Yx al (<-f7 (a8 t) (ja+la-1)) (a8 t) ib mb (mb-1)|return am
 if lb == 0 then return al
 let u:=(a8 t).extract ja ib
 let v:=(a8 t).extract ib<|ib+lb
 let mg <-if la<=lb then Ql u v else U5 u v
 modify λt=>setArr t<|mg.toList.zipIdx.foldl (λa (p,j)=>a.setIfInBounds (ja+j) p)<|a8 t
 return (gj<|<-get).isNone):=rfl
theorem zF(b:Nat):∀(m:List bY)(j:Nat)(a:Array bY),b+j+m.length<=a.size->((m.zipIdx j).foldl (λa q=>a.setIfInBounds (b+q.2) q.1) a).toList=a.toList.take (b+j)++m++a.toList.drop (b+j+m.length)
 |[],j,a,h=>by simp
 |x::r,j,a,h=>by
  rw[aF]at h;rw[lu,gp,zF b r (j+1) _ (by rw[kX];lia)]
  dsimp only
  rw[fS,aF,<-kY b j 1,List.take_add_one,List.take_set_of_le<|aM _,bZ (by simpa using(by lia:b+j<a.size)),List.drop_set_of_lt (by lia)]
  simp[kY,nM 1]
def Runs(rk:bY->Nat):List (Nat×Nat)->Nat->Nat->List bY->Prop
 |[],a,b,_=>a=b
 |(i,n)::r,a,b,l=>i=a/\1<=n/\Srt (lr rk) ((l.drop a).take n)/\Runs rk r (a+n) b l
section
theorem Runs.le:∀{r:List (Nat×Nat)}{a b:Nat}{l:List bY},Runs rk r a b l->a+r.length<=b
 |[],a,b,l,h=>nO h
 |(i,n)::r,a,b,l,#[_,h1,_,h]=>by have:=h.le;rw[aF];lia
theorem Runs.app:∀{r q:List (Nat×Nat)}{a b:Nat}{l:List bY},Runs rk (r++q) a b l↔∃c,Runs rk r a c l/\Runs rk q c b l
 |[],q,a,b,l=>#[λh=>#[a,rfl,h],λ#[c,h1,h2]=>by cases h1;exact h2]
 |(i,n)::r,q,a,b,l=>by
  constructor
  .rintro ⟨h1,h2,h3,h4⟩
   obtain⟨c,h5,h6⟩:=Runs.app.mp h4;exact#[c,#[h1,h2,h3,h5],h6]
  .rintro ⟨c,⟨h1,h2,h3,h4⟩,h5⟩
   exact#[h1,h2,h3,Runs.app.mpr #[c,h4,h5]]
theorem Runs.congr:∀{r:List (Nat×Nat)}{a b:Nat}{l l':List bY},Runs rk r a b l->(∀k,a<=k->k<b->l'[k]?=l[k]?)->Runs rk r a b l'
 |[],a,b,l,l',h,_=>h
 |(i,n)::r,a,b,l,l',#[h1,h2,h3,h4],e=>by
  have:=h4.le;refine#[h1,h2,?_,h4.congr λk ha hb=>e k (by lia) hb]
  have:(l'.drop a).take n=(l.drop a).take n:=bV λk=>by
   rw[c0,c0,ki,ki];split
   .exact e _ (by lia) (by lia)
   .rfl
  rw[this];exact h3
def G6(hx:Srt (lr rk) x)(hy:Srt (lr rk) y)(h:∀a∈x,∀b∈y,rk a<rk b):Srt (lr rk) (x++y):=cz.mpr #[hx,hy,h]
structure Sc(κ:fR)(a₀:Array bY)(τ:bR):Prop where
 kd:kindOf τ=κ
 pm:(a8 τ).Perm a₀
 fl:gj τ=ae
variable{In:bY->Prop}
theorem xF(O:Od prog w A E s κ In rk)(ia:∀x∈a₀.toList,In x)(nd:(a₀.toList.map rk).Nodup){Q:Bool->bR->Prop}(h:Sc κ a₀ τ)(h1:(bc τ)[i]?=aa (a,na,pw))(h2:(bc τ)[i+1]?=aa (a+na,nb,qw))
  (hl:(a8 τ).toList=U++(X++(Y++Z)))(lU:U.length=a)(lX:X.length=na)(lY:Y.length=nb)(xa:1<=na)(yb:1<=nb)(sx:Srt (lr rk) X)(sy:Srt (lr rk) Y)
  (q:∀st' M,Sc κ a₀ st'->bc st'=((bc τ).setIfInBounds i (a,na+nb,pw)).eraseIdxIfInBounds (i+1)->(a8 st').toList=U++(M++Z)->M.length=na+nb->Srt (lr rk) M->Q al st'):mv (aT prog w) A E s (mergeAt' i) Q τ:=by
 have hp:=bB.mp h.pm;have ial:=λx hx=>ia x<|hp.mem_iff.mp hx
 have ndl:=((hp.map rk).nodup_iff).mpr nd;have hsz:(a8 τ).size=a+(na+(nb+Z.length)):=by rw[<-aD,hl];simp[lU,lX,lY]
 have dX:((a8 τ).toList.drop a).take na=X:=by rw[hl,<-lU,kj,<-lX,kl]
 have dY:((a8 τ).toList.drop<|a+na).take nb=Y:=by rw[hl,<-bp,<-lU,<-lX,<-ba,kj,<-lY,kl]
 have ndXY:∀x∈X,∀y∈Y,rk x≠rk y:=λx hx y hy e=>by
  rw[hl,bP,gV,bP,gV]at ndl;exact ndl.2.1.2.2 _ (fe hx) _ (by rw[bP];exact bG _<|fe hy) e
 have inX:∀x∈X,In x:=λx hx=>ial x (by rw[hl];simp[hx])
 have inY:∀y∈Y,In y:=λy hy=>ial y (by rw[hl];simp[hy])
 obtain⟨y0,Y',rfl⟩:∃y0 Y',Y=y0::Y':=by cases Y with|nil=>simp at lY;lia|cons y Y'=>exact#[y,Y',rfl]
 have e0:(a8 τ)[a+na]?=aa y0:=by
  rw[<-aZ,hl,<-bp,bh (by simp;lia)]
  simp[lU,lX]
 rw[zI];refine aK<|gX ?_;rw[h1,h2]
 dsimp only
 refine aK<|fF ?_
 generalize hst:iq τ (((bc τ).setIfInBounds i (a,na+nb,pw)).eraseIdxIfInBounds<|i+1)=st1;have S1:Sc κ a₀ st1:=by rw[<-hst];exact#[h.kd,h.pm,h.fl]
 have P1:bc st1=((bc τ).setIfInBounds i (a,na+nb,pw)).eraseIdxIfInBounds (i+1):=by rw[<-hst]
 have A1:a8 st1=a8 τ:=by rw[<-hst]
 refine aK<|ZE e0<|aK<|vd O S1.kd (inY y0<|ai ..) xa (by lia) ial (by rw[dX];exact sx) (by rw[dX];exact λx hx=>ndXY x hx y0<|ai ..) λr hr r1 r2=>?_
 rw[dX]at r1 r2
 dsimp only
 have lowY:∀x∈X.take r,∀y∈y0::Y',rk x<rk y:=λx hx y hy=>by
  rcases ay.mp hy with rfl|hy
  .exact r1 x hx
  .exact dR (r1 x hx)<|(aR.mp sy).1 y hy
 by_cases c:na-r=0
 .rw[T9 (by simpa using c)]
  have:X.take r=X:=cy (by lia)
  rw[this]at lowY;exact aU<|q st1 (X++y0::Y') S1 P1 (by rw[A1,hl,bp]) (by rw[ba,lX,lY])<|G6 sx sy lowY
 rw[T8 (by simpa using c)]
 have exl:(a8 τ)[a+r+(na-r)-1]?=X[na-1]?:=by
  rw[<-aZ,hl,bh (by lia),bJ (by lia)]
  congr 1;lia
 have xl:X[na-1]?=aa (X[na-1]'(by lia)):=ag _
 generalize hx0:X[na-1]'(by lia)=x0 at xl
 have mx0:x0∈X:=dr xl;have mx1:x0∈X.drop r:=dr (i:=na-1-r) (by rw[ki];rw[<-xl];congr 1;lia)
 have maxX:∀x∈X,x=x0\/rk x<rk x0:=λx hx=>by
  obtain⟨k,hk,rfl⟩:=iD.mp hx;by_cases z:k=na-1
  .subst z;exact .inl hx0
  .right;rw[<-hx0];exact bo.mp sx k (na-1) hk (by lia) (by lia)
 refine aK<|ZE (exl.trans xl)<|aK<|vd O S1.kd (inX x0 mx0) (by lia) (by lia) ial (by rw[dY];exact sy) (by rw[dY];exact λy hy=>Ne.symm<|ndXY x0 mx0 y hy) λt ht t1 t2=>?_
 rw[dY]at t1 t2
 dsimp only
 have t0:t≠0:=λz=>by
  subst z;have a1:=r2 x0 mx1;have a2:=t2 y0<|ai ..;lia
 rw[T8 (by simpa using t0)]
 generalize hY:y0::Y'=Y at *;have eu:((a8 τ).extract (a+r)<|a+na).toList=X.drop r:=by
  have:a+na=(a+r)+(na-r):=by lia
  rw[this,vf,<-kh,hl,<-lU,kj,iE (by lia)]
  rw[show na-r=(X.drop r).length by rw[br,lX],kl]
 have ev:((a8 τ).extract (a+na)<|a+na+t).toList=Y.take t:=by
  rw[vf,hl,<-bp,<-lU,<-lX,<-ba,kj,iF (by lia)]
 generalize hu:(a8 τ).extract (a+r) (a+na)=u at *;generalize hv:(a8 τ).extract (a+na) (a+na+t)=v at *;have ul:u.size=na-r:=by rw[<-aD,eu,br,lX]
 have vl:v.size=t:=by rw[<-aD,ev,bq,lY];lia
 have su:Srt (lr rk) u.toList:=by rw[eu];exact sx.sublist<|nV ..
 have sv:Srt (lr rk) v.toList:=by rw[ev];exact sy.sublist<|kF ..
 have v0:∀x∈u.toList,rk (v[0]'(by lia))<rk x:=λx hx=>by
  have:v.toList[0]?=aa y0:=by
   rw[ev,<-hY];obtain⟨t',rfl⟩:∃t',t=t'+1:=#[t-1,by lia]
   rfl
  have e:v[0]'(by lia)=y0:=by
   rw[aZ,aS<|by lia]at this
   exact ak this
  rw[e];exact r2 x (by rw[<-eu];exact hx)
 have G:Mg κ In rk u v (u.toList++v.toList):=by
  refine#[?_,λx hx=>inX x<|b5<|eu▸hx,λy hy=>inY y<|dS<|ev▸hy,λy hy x hx=>?_]
  .rw[bP,gV]
   have nx:∀{z:List bY},Srt (lr rk) z->(z.map rk).Nodup:=λ{z} hz=>bD.mpr<|hz.imp λhab=>bz hab
   refine#[nx su,nx sv,λp hp p' hp' e=>?_]
   obtain⟨x,hx,rfl⟩:=aC.mp hp;obtain⟨y,hy,rfl⟩:=aC.mp hp';exact ndXY x (b5<|eu▸hx) y (dS<|ev▸hy) e
  .have hx:x=x0:=by
    rw[eu,ul,kh,show r+(na-r-1)=na-1 by lia,cp (by lia),show na-1+1=X.length by lia,eo,aQ]at hx
    rw[hx];exact hx0
   rw[hx];exact t1 y (by rw[<-ev];exact hy)
 have fin:∀r' st',Sg st1 st'->Res rk (u.toList++v.toList) r'->mv (aT prog w) A E s (do
   modify λt=>setArr t<|r'.toList.zipIdx.foldl (λz (p,j)=>z.setIfInBounds (a+r+j) p)<|a8 t
   return (gj<|<-get).isNone) Q st':=λr' st' sg hr'=>by
  obtain⟨g1,g2,g3,g4⟩:=sg;obtain⟨k1,k2⟩:=hr';have rl:r'.toList.length=(na-r)+t:=by rw[k1.length_eq,ba,aD,aD,ul,vl]
  refine aK<|fF<|aK<|gX<|aU ?_;have fo:=zF (a+r) r'.toList 0 (a8 τ) (by lia)
  have el:((r'.toList.zipIdx.foldl (λz (q:bY×Nat)=>z.setIfInBounds (a+r+q.2) q.1)<|a8 τ).toList)=U++((X.take r++(r'.toList++Y.drop t))++Z):=by
   rw[fo,nY,hl,<-lU,List.take_append,oJ,rl];have e1:U.length+r-U.length=r:=by lia
   have e2:U.length+r+(na-r+t)-U.length=na+t:=by lia
   rw[e1,e2,cy (by lia),lR (by lia),iI,iF (by lia),<-lX,oJ,lR (by lia),iI,show X.length+t-X.length=t by lia,iE (by lia)]
   simp[bp]
  have hX:X.take r++X.drop r=X:=cC ..;have hYt:Y.take t++Y.drop t=Y:=cC ..;have pM:(X.take r++(r'.toList++Y.drop t)).Perm (X++Y):=by
   rw[eu,ev]at k1;have:(X.take r++(r'.toList++Y.drop t)).Perm (X.take r++((X.drop r++Y.take t)++Y.drop t)):=(k1.append_right _).append_left _;refine this.trans<|gw ?_;rw[bp<|X.drop r,hYt,<-bp,hX]
  rw[g4,S1.fl];refine q (setArr st'<|r'.toList.zipIdx.foldl (λz (q:bY×Nat)=>z.setIfInBounds (a+r+q.2) q.1)<|a8 st') (X.take r++(r'.toList++Y.drop t)) #[g1.trans S1.kd,?_,g4.trans S1.fl] (g3.trans P1) (by rw[<-el,<-A1,<-g2]) (by rw[pM.length_eq,ba,lX,lY]) ?_
  .refine(bB.mpr ?_).trans h.pm
   rw[g2,A1,el,hl,<-bp X Y Z];exact(pM.append_right _).append_left _
  .have memR:∀z∈r'.toList,z∈X.drop r\/z∈Y.take t:=λz hz=>by
    have:=k1.mem_iff.mp hz;rw[eu,ev]at this;exact bM.mp this
   have sX:=cz.mp<|hX.symm▸sx;have sY:=cz.mp<|hYt.symm▸sy;refine G6 sX.1 (G6 k2 sY.2.1 λp hp y hy=>?_) λx hx z hz=>?_
   .rcases memR p hp with m|m
    .have:=t2 y hy
     rcases maxX p (b5 m)with rfl|m
     .exact this
     .exact dR m this
    .exact sY.2.2 p m y hy
   .rcases bM.mp hz with m|m
    .rcases memR z m with m|m
     .exact sX.2.2 x hx z m
     .exact lowY x hx z<|dS m
    .exact lowY x hx z<|b5 m
 by_cases cl:na-r<=t
 .rw[T9 cl]
  exact aK<|xK O G S1.kd (by lia) (by lia) su sv (bE _) v0 λr' st' sg hr'=>fin r' st' sg hr'
 .rw[T8 cl]
  have fs:∀x∈u.toList,∀y∈v.toList.take 1,rk y<rk x:=λx hx y hy=>by
   have e:=Yd (a:=v) (i:=0) (by lia)
   rw[kf]at e;rw[e]at hy;rw[aQ.mp hy];exact v0 x hx
  exact aK<|xR O G fs S1.kd (by lia) (by lia) su sv (bE _) λr' st' sg hr'=>fin r' st' sg hr'
end
section
variable{In:bY->Prop}
noncomputable abbrev g2(q:Nat×Nat×Nat):Nat×Nat:=(q.1,q.2.1)
noncomputable def pl(τ:bR):List (Nat×Nat):=(bc τ).toList.map g2
def cut2{B:Type}{l:List B}{i:Nat}{x y:B}(h1:l[i]?=aa x)(h2:l[i+1]?=aa y):l=l.take i++(x::y::l.drop (i+2)):=by
 obtain⟨a,e1⟩:=a9.mp h1;obtain⟨b,e2⟩:=a9.mp h2
 conv=>lhs;rw[<-cC i l,cp a,cp b,e1,e2]
theorem WX(O:Od prog w A E s κ In rk)(ia:∀x∈a₀.toList,In x)(nd:(a₀.toList.map rk).Nodup){Q:Bool->bR->Prop}{i b:Nat}{R3:List (Nat×Nat)}(h:Sc κ a₀ τ)(hi:i+1<(bc τ).size)(hb:b<=a₀.size)(hr:Runs rk (pl τ++R3) 0 b (a8 τ).toList)
  (q:∀st',Sc κ a₀ st'->(bc st').size=(bc τ).size-1->Runs rk (pl st'++R3) 0 b (a8 st').toList->Q al st'):mv (aT prog w) A E s (mergeAt' i) Q τ:=by
 obtain⟨⟨a,na,pw⟩,h1⟩:∃x,(bc τ)[i]?=aa x:=#[_,aS (by lia)]
 obtain⟨⟨b1,nb,qw⟩,h2⟩:∃x,(bc τ)[i+1]?=aa x:=#[_,aS hi];have e:=cut2 (by rw[aZ];exact h1) (by rw[aZ];exact h2)
 generalize hA:(bc τ).toList.take i=RA at e;generalize hC:(bc τ).toList.drop (i+2)=RC at e;have lA:RA.length=i:=by rw[<-hA,bq,aD];lia
 unfold pl at hr;rw[e,bP,bp]at hr;obtain⟨c,r1,r2⟩:=Runs.app.mp hr;obtain⟨z1,n1,s1,z2,n2,s2,r3⟩:=r2
 dsimp only[g2]at z1 n1 s1 z2 n2 s2 r3
 subst z1 z2;have hle:=r3.le;have hsz:(a8 τ).toList.length=a₀.size:=by rw[aD];exact h.pm.size_eq
 generalize hl:(a8 τ).toList=l at *;have el:l=l.take a++((l.drop a).take na++((l.drop<|a+na).take nb++l.drop (a+na+nb))):=by
  rw[td,td,cC]
 have lU:(l.take a).length=a:=by rw[bq];lia
 refine xF O ia nd h h1 h2 (hl.trans el) lU (by rw[bq,br];lia) (by rw[bq,br];lia) n1 n2 s1 s2 λst' M S' hp' hl' lM sM=>?_
 have hpl:(bc st').toList=RA++((a,na+nb,pw)::RC):=by
  rw[hp',Array.toList_eraseIdxIfInBounds,fS,e,List.set_append_right _ _ (by lia),lA,Nat.sub_self]
  rw[List.eraseIdx_append_of_length_le (by lia),lA,show i+1-i=1 by lia]
  rfl
 refine q st' S' ?_ ?_
 .rw[<-aD,hpl,<-aD,e]
  simp
 .have at_:∀k,(k<a\/a+na+nb<=k)->(a8 st').toList[k]?=l[k]?:=λk hk=>by
   rw[hl']
   conv=>rhs;rw[el]
   rcases hk with hk|hk
   .rw[bJ (by lia),bJ (by lia)]
   .rw[bh (by lia),bh (by lia),bh (by lia),<-bp,bh (by simp;lia)]
    congr 1
    simp;lia
  unfold pl;rw[hpl,bP,bp];refine Runs.app.mpr #[a,r1.congr λk _ hk=>at_ k<|.inl hk,rfl,by dsimp only[g2];lia,?_,?_]
  .rw[hl',<-lM,List.drop_left' lU,kl];exact sM
  .rw[<-kY];exact r3.congr λk hk _=>at_ k<|.inr hk
theorem qM{lo n:Nat}{xs:Array bY}(hn:lo+n<=xs.size)(u:Up rk xs lo n):Srt (lr rk) ((xs.toList.drop lo).take n):=by
 refine bo.mpr λi j hi hj hij=>?_
 rw[bq,br,aD]at hi hj;have g:∀k (hk:k<((xs.toList.drop lo).take n).length),((xs.toList.drop lo).take n)[k]=xs[lo+k]'(by rw[bq,br,aD]at hk;lia):=λk hk=>by
  rw[eZ,dZ,Array.getElem_toList]
 rw[g,g];have:=u (lo+i) (lo+j) (by lia) (by lia) (by lia)
 rw[zJ (by lia),zJ<|by lia]at this
 exact this
def J0{P:Array (Nat×Nat×Nat)}{k pw:Nat}:(P.modify k λq=>(q.1,q.2.1,pw)).toList.map g2=P.toList.map g2:=by
 refine bV λi=>?_
 rw[aH,aH,aZ,aZ,Array.getElem?_modify];split
 .cases P[i]?<;>rfl
 .rfl
theorem sort_ok(O:Od prog w A E s κ In rk)(ia:∀x∈a₀.toList,In x)(nd:(a₀.toList.map rk).Nodup){Q:Unit->bR->Prop}(hk:kindOf τ=κ)(ha:a8 τ=a₀)(hp:bc τ = #[])(hf:gj τ=ae)(h1:1<=a₀.size)
  (q:∀st',(a8 st').Perm a₀->gj st'=ae->Srt (lr rk) (a8 st').toList->Q () st'):mv (aT prog w) A E s sortRuns' Q τ:=by
 rw[sortRuns'_eq];refine aK<|gX ?_;rw[ha]
 dsimp only
 have S0:Sc κ a₀ τ:=#[hk,by rw[ha],hf]
 refine aK (eY (cD
  (I:=λx c st'=>∃lo,c=(ae,lo)/\x<=lo/\lo<=a₀.size/\Sc κ a₀ st'/\Runs rk (pl st') 0 lo (a8 st').toList)
  (Q:=λc st'=>c=(ae,a₀.size)/\Sc κ a₀ st'/\Runs rk (pl st') 0 a₀.size (a8 st').toList) ?_ ?_ #[0,rfl,aM _,cL _,S0,by unfold pl;rw[hp];rfl]) ?_)
 .rintro x c st1 _ hx ⟨lo,rfl,g1,g2',S1,R1⟩
  dsimp only
  by_cases c:lo>=a₀.size
  .rw[T9 c]
   obtain rfl:lo=a₀.size:=by lia
   exact aU #[rfl,S1,R1]
  rw[T8 c];have B1:Sb κ a₀ (bc st1) lo ((a8 st1).toList.take lo) st1:=#[S1.kd,S1.pm,S1.fl,rfl,rfl];refine aK<|Za1 O ia nd (by lia) (by lia) B1 λm st2 B2 m1 m2 u2=>?_
  dsimp only
  have done:∀n st3,1<=n->lo+n<=a₀.size->Sc κ a₀ st3->Runs rk (pl st3++[(lo,n)]) 0 (lo+n) (a8 st3).toList->∃lo',((ae,lo+n):Option PUnit×Nat)=(ae,lo')/\x+1<=lo'/\lo'<=a₀.size/\Sc κ a₀ (iq st3<|(bc st3).push (lo,n,0))/\Runs rk (pl<|iq st3<|(bc st3).push (lo,n,0)) 0 lo' (a8 st3).toList:=λn st3 n1 n2 S3 R3=>
   #[lo+n,rfl,by lia,n2,#[S3.kd,S3.pm,S3.fl],by
    have:pl (iq st3<|(bc st3).push (lo,n,0))=pl st3++[(lo,n)]:=by
     show mG g2 ((bc st3).push (lo,n,0)).toList=_;rw[d3,bP];rfl
    rw[this];exact R3]
  by_cases c2:m<pz a₀.size a₀.size 0
  .rw[T9 c2]
   refine aK<|Wy<|aK<|ZcO (n:=p5 (a₀.size-lo)<|pz a₀.size a₀.size 0) O ia nd (by lia) m1 (by lia) B2 u2 λst5 B u=>?_
   have n1:1<=p5 (a₀.size-lo) (pz a₀.size a₀.size 0):=by lia
   have n2:lo+p5 (a₀.size-lo) (pz a₀.size a₀.size 0)<=a₀.size:=by lia
   simp only[fK,b8,if_false];generalize p5 (a₀.size-lo) (pz a₀.size a₀.size 0)=n at *;clear B2 u2;refine aK<|gX ?_;have S5:Sc κ a₀ st5:=#[B.kd,B.pm,B.fl];have hz:(a8 st5).size=a₀.size:=B.size;have R5:Runs rk (pl st5++[(lo,n)]) 0 (lo+n) (a8 st5).toList:=Runs.app.mpr #[lo,by
    unfold pl at R1 ⊢;rw[B.pd];refine R1.congr λk _ hk=>?_
    have e:(i4 lo _)[k]?=(i4 lo _)[k]?:=congrArg (λl=>l[k]?) B.ah
    rw[c0,c0,T9 hk,T9 hk]at e;exact e,rfl,n1,qM (by lia) u,rfl]
   cases hbk:(bc st5).back? with
   |none=>
    exact aK<|fF<|aU<|done n st5 n1 n2 S5 R5
   |some q5=>
    obtain⟨x1,x2,x3⟩:=q5
    dsimp only
    refine aK<|eY (cD (I:=λ_ c st3=>c=(ae,())/\Sc κ a₀ st3/\Runs rk (pl st3++[(lo,n)]) 0 (lo+n) (a8 st3).toList) ?_ (λc st3 h=>h) #[rfl,S5,R5]) ?_
    .rintro x c st3 _ _ ⟨rfl,S3,R3⟩
     refine aK<|gX ?_;by_cases c:(bc st3).size>1
     .rw[T9 c,aS<|show(bc st3).size-2<(bc st3).size by lia]
      dsimp only
      split
      .exact aU #[rfl,S3,R3]
      .refine aK (WX O ia nd S3 (by lia) n2 R3 λst4 S4 _ R4=>?_)
       simp only[fK,b8,if_false];exact aU #[rfl,S4,R4]
     .rw[T8 c]
      exact aU #[rfl,S3,R3]
    .rintro c st3 ⟨rfl,S3,R3⟩
     dsimp only
     exact aK (fF (aK (fF (aU (done n (iq st3 _) n1 n2 #[S3.kd,S3.pm,S3.fl] (by
      show Runs rk (mG g2 (Array.modify _ _ _).toList++_) _ _ _;rw[J0];exact R3))))))
  .rw[T8 c2]
   have n2:lo+m<=a₀.size:=by lia
   refine aK<|gX ?_;have S5:Sc κ a₀ st2:=#[B2.kd,B2.pm,B2.fl];have hz:(a8 st2).size=a₀.size:=B2.size;have R5:Runs rk (pl st2++[(lo,m)]) 0 (lo+m) (a8 st2).toList:=Runs.app.mpr #[lo,by
    unfold pl at R1 ⊢;rw[B2.pd];refine R1.congr λk _ hk=>?_
    have e:(i4 lo _)[k]?=(i4 lo _)[k]?:=congrArg (λl=>l[k]?) B2.ah
    rw[c0,c0,T9 hk,T9 hk]at e;exact e,rfl,m1,qM (by lia) u2,rfl]
   cases hbk:(bc st2).back? with
   |none=>
    exact aK<|fF<|aU<|done m st2 m1 n2 S5 R5
   |some q5=>
    obtain⟨x1,x2,x3⟩:=q5
    dsimp only
    refine aK<|eY (cD (I:=λ_ c st3=>c=(ae,())/\Sc κ a₀ st3/\Runs rk (pl st3++[(lo,m)]) 0 (lo+m) (a8 st3).toList) ?_ (λc st3 h=>h) #[rfl,S5,R5]) ?_
    .rintro x c st3 _ _ ⟨rfl,S3,R3⟩
     refine aK<|gX ?_;by_cases c:(bc st3).size>1
     .rw[T9 c,aS<|show(bc st3).size-2<(bc st3).size by lia]
      dsimp only
      split
      .exact aU #[rfl,S3,R3]
      .refine aK (WX O ia nd S3 (by lia) n2 R3 λst4 S4 _ R4=>?_)
       simp only[fK,b8,if_false];exact aU #[rfl,S4,R4]
     .rw[T8 c]
      exact aU #[rfl,S3,R3]
    .rintro c st3 ⟨rfl,S3,R3⟩
     dsimp only
     exact aK (fF (aK (fF (aU (done m (iq st3 _) m1 n2 #[S3.kd,S3.pm,S3.fl] (by
      show Runs rk (mG g2 (Array.modify _ _ _).toList++_) _ _ _;rw[J0];exact R3))))))
 .rintro c st1 ⟨lo,rfl,g1,g2',S1,R1⟩
  obtain rfl:lo=a₀.size:=by lia
  exact#[rfl,S1,R1]
 .rintro c st1 ⟨rfl,S1,R1⟩
  dsimp only
  have len1:=R1.le;refine aK (eY (cD
   (I:=λx c st2=>c=(ae,())/\Sc κ a₀ st2/\Runs rk (pl st2) 0 a₀.size (a8 st2).toList/\(bc st2).size<=max 1 (a₀.size-x))
   (Q:=λc st2=>c=(ae,())/\Sc κ a₀ st2/\Runs rk (pl st2) 0 a₀.size (a8 st2).toList/\(bc st2).size<=1) ?_ ?_ #[rfl,S1,R1,by unfold pl at len1;rw[aq,aD]at len1;lia]) ?_)
  .rintro x c st2 _ hx ⟨rfl,S2,R2,l2⟩
   refine aK<|gX ?_;by_cases c:(bc st2).size<=1
   .rw[T9 c]
    exact aU #[rfl,S2,R2,c]
   rw[T8 c];generalize hj:(if(Option.any (λx=>aj<|x<((bc st2)[(bc st2).size-2+1]?).elim 0 λx=>x.2.1)<|if(bc st2).size-2>0 then Option.map (λx=>x.2.1) (bc st2)[(bc st2).size-2-1]? else ae)=al then(bc st2).size-2-1 else(bc st2).size-2)=j
   have hj1:j+1<(bc st2).size:=by
    have g:∀b:Bool,(if b=al then(bc st2).size-2-1 else(bc st2).size-2)+1<(bc st2).size:=λb=>by cases b<;>simp<;>lia
    rw[<-hj];exact g _
   refine aK<|WX (R3:=[]) O ia nd S2 hj1 (aM _) (by rw[cF];exact R2) λst3 S3 l3 R3=>?_
   rw[cF]at R3;simp only[fK,b8,if_false];exact aU #[rfl,S3,R3,by lia]
  .rintro c st2 ⟨rfl,S2,R2,l2⟩
   exact#[rfl,S2,R2,by lia]
  .rintro c st2 ⟨rfl,S2,R2,l2⟩
   dsimp only
   refine aU<|q st2 S2.pm S2.fl ?_;have hz:(a8 st2).toList.length=a₀.size:=by rw[aD];exact S2.pm.size_eq
   unfold pl at R2
   match hP:(bc st2).toList,R2 with
   |[],R2=>exact T7 (show 0=a₀.size from R2) (by lia)
   |[(i,n,pw)],R2=>
    obtain⟨_,_,z,e⟩:=R2;have e:0+n=a₀.size:=e;rw[kf,cy<|by dsimp only[g2];lia]at z
    exact z
   |_::_::_,_=>rw[<-aD,hP]at l2;simp at l2
end
end Tq
namespace Sq
open PySem PySem.W PyProof.Rows
structure Ord(n:Nat)(lt:Nat->Nat->Bool):Prop where
 tot:∀i j,i<n->j<n->i≠j->lt i j=am->lt j i=al
 asy:∀i j,i<n->j<n->lt i j=al->lt j i=am
 tr:∀i j k,i<n->j<n->k<n->lt i j=al->lt j k=al->lt i k=al
noncomputable abbrev g(p:Array Nat)(i:Nat):Nat:=p.getD i 0
def Pm(n:Nat)(p:Array Nat):Prop:=p.Perm<|cO<|aE n
theorem Pm.size(h:Pm n p):p.size=n:=by have:=Array.Perm.size_eq h;simpa using this
def jH(h:i<p.size):p[i]?=aa (g p i):=by simp[g,h]
def Pm.lt(h:Pm n p)(hi:i<n):g p i<n:=by
 have hs:=h.size;have h1:g p i∈p.toList:=by
  have:p.toList[i]?=aa (g p i):=by rw[aZ];exact jH (by lia)
  exact dr this
 have h2:p.toList.Perm (aE n):=by simpa using bB.mp h
 exact aN.mp<|h2.mem_iff.mp h1
def Up(lt:Nat->Nat->Bool)(p:Array Nat)(m:Nat):Prop:=∀i j,i<j->j<m->lt (g p i) (g p j)=al
theorem Jq{B:Type}{p q:B->Bool}:∀{l:List B},(∀x∈l,p x=al->q x=al)->(∃x∈l,q x=al/\p x=am)->l.countP p<l.countP q
 |[],_,#[x,hx,_]=>by cases hx
 |y::l,h,#[x,hx,h1,h2]=>by
  have hm:=List.countP_mono_left λz hz=>h z<|af _ hz
  rw[oK,oK];rcases ay.mp hx with rfl|hx
  .rw[h1,h2,T9 rfl,T8 aI];lia
  .have:=Jq (λz hz=>h z<|af _ hz) #[x,hx,h1,h2]
   have hy:=h y<|ai ..;cases e:p y with|false=>rw[T8 aI];lia|true=>rw[hy e,T9 rfl];lia
noncomputable def rank(n:Nat)(lt:Nat->Nat->Bool)(i:Nat):Nat:=(aE n).countP λj=>lt j i
def UG{n:Nat}{lt:Nat->Nat->Bool}(O:Ord n lt){i j:Nat}(hi:i<n)(hj:j<n):aj (rank n lt i<rank n lt j)=lt i j:=by
 have irr:∀k,k<n->lt k k=am:=λk hk=>by
  cases e:lt k k with|false=>rfl|true=>rw[<-e];exact O.asy k k hk hk e
 have up:=λ{a b} ha hb e=>
  Jq (λx hx h=>O.tr x a b (aN.mp hx) ha hb h e) #[a,aN.mpr ha,e,irr a ha]
 cases e:lt i j with
 |true=>exact T5<|up hi hj e
 |false=>
  refine T4 λh=>?_
  by_cases z:i=j
  .subst z;exact bu _ h
  .exact Nat.lt_asymm h<|up hj hi<|O.tot i j hi hj z e
section
open Classical
noncomputable def idx(vs:List ao)(v:ao):Nat:=if h:∃i:Nat,vs[i]?=aa v then choose h else 0
def xP(nd:vs.Nodup)(h:vs[i]?=aa v):idx vs v=i:=by
 have hx:∃i:Nat,vs[i]?=aa v:=#[i,h];unfold idx;rw[dif_pos hx];have e:=choose_spec hx;have hl:=(a9.mp e).1;exact(e8 hl nd).mp<|e.trans h.symm
end
def ZeK{vs:List ao}{κ:fR}{lt:Nat->Nat->Bool}(nd:vs.Nodup)(h1:1<=vs.length)(O:Ord vs.length lt)
  (ask:∀i j,i<vs.length->j<vs.length->∀(C:Bool->au->Prop)(E:ao->au->Prop),C (lt i j) s->aY (aT prog w) A (keyLt' κ (vs.getD i bf)<|vs.getD j bf) C E s) :
  aY (aT prog w) A ((sortRuns').run<|pO κ (vs.toArray.zip vs.toArray) #[] 7 ae) (λr s'=>s'=s/\∃p,Pm vs.length p/\Up lt p vs.length/\gj r.2=ae/\(a8 r.2).map (·.2)=cO (p.toList.map λi=>vs.getD i bf)) E s:=by
 have hz:(vs.toArray.zip vs.toArray).toList=vs.map λv=>(v,v):=by
  rw[ksk_zip];show rK vs vs=_;clear ask O h1 nd
  induction vs with|nil=>rfl|cons v l ih=>rw[b9,ih];rfl
 let rk:bY->Nat:=λx=>rank vs.length lt<|idx vs x.1
 let In:bY->Prop:=λx=>∃i:Nat,vs[i]?=aa x.1/\x=(x.1,x.1)
 have atI:∀{x:bY},In x->idx vs x.1<vs.length/\vs.getD (idx vs x.1) bf=x.1:=λ{x} #[i,e,_]=>by
  rw[xP nd e];exact#[(a9.mp e).1,by rw[aA,e];rfl]
 have od:Tq.Od prog w A E s κ In rk:=⟨λ{x y τ Q} ix iy hk q=>by
  obtain⟨a1,a2⟩:=atI ix;obtain⟨b1,b2⟩:=atI iy;rw[lt'_eq];refine aK<|gX ?_;rw[hk];have:=ask _ _ a1 b1 (λb s'=>s'=s/\b=lt (idx vs x.1) (idx vs y.1)) (λ_ _=>False) #[rfl,rfl]
  rw[a2,b2]at this;refine aK<|wpS_lift<|kW<|cV this (λb s' h=>?_) λ_ _ h=>h.elim
  obtain⟨rfl,rfl⟩:=h;refine#[rfl,aU ?_];rw[<-UG O a1 b1];exact q⟩
 have ia:∀x∈(vs.toArray.zip vs.toArray).toList,In x:=λx hx=>by
  rw[hz]at hx;obtain⟨v,hv,rfl⟩:=aC.mp hx;obtain⟨i,hi,e⟩:=iD.mp hv;exact#[i,by rw[ag hi,e],rfl]
 have rks:(vs.toArray.zip vs.toArray).toList.map rk=(aE vs.length).map (rank vs.length lt):=by
  rw[hz,bC];refine bV λi=>?_
  rw[aH,aH];by_cases h:i<vs.length
  .rw[bO h,ag h]
   exact congrArg (λk=>aa<|rank vs.length lt k)<|xP nd<|ag h
  .rw[bn (by lia),bn (by rw[a7];lia)];rfl
 have ndr:((vs.toArray.zip vs.toArray).toList.map rk).Nodup:=by
  rw[rks];refine bD.mpr<|dg ?_ fX;intro a b ha hb ne e;have ha:=aN.mp ha;have hb:=aN.mp hb;have h1:=UG O ha hb;have h2:=UG O hb ha;rw[e,T4<|bu _]at h1 h2;exact T7 (O.tot a b ha hb ne h1.symm) (by rw[<-h2];simp)
 have sz:(vs.toArray.zip vs.toArray).size=vs.length:=by rw[<-aD,hz,aq]
 refine Tq.sort_ok (Q:=λ_ st'=>∃p,Pm vs.length p/\Up lt p vs.length/\gj st'=ae/\(a8 st').map (·.2)=cO (p.toList.map λi=>vs.getD i bf)) od ia ndr rfl rfl rfl rfl (by lia) λst' pm fl so=>?_
 have pl:=bB.mp pm;have inS:=λx hx=>ia x<|pl.mem_iff.mp hx
 have pp:((a8 st').toList.map λx=>idx vs x.1).Perm (aE vs.length):=by
  refine(pl.map _).trans<|gw ?_;rw[hz,bC];refine bV λi=>?_
  rw[aH];by_cases h:i<vs.length
  .rw[bO h,ag h]
   exact congrArg aa<|xP nd<|ag h
  .rw[bn (by lia),bn (by rw[a7];lia)];rfl
 have sl:(a8 st').toList.length=vs.length:=by rw[pl.length_eq,hz,aq]
 refine#[cO<|(a8 st').toList.map λx=>idx vs x.1,bB.mpr pp,λi j hij hj=>?_,fl,?_]
 .have gk:∀k (hk:k<(a8 st').toList.length),g (cO<|(a8 st').toList.map λx=>idx vs x.1) k=idx vs ((a8 st').toList[k]).1:=λk hk=>by
   show((cO<|(a8 st').toList.map λx=>idx vs x.1).getD k 0)=_
   rw[dz,List.getElem?_toArray,aH,ag hk];rfl
  rw[gk i (by lia),gk j (by lia)]
  have:=bo.mp so i j (by lia) (by lia) hij
  rw[<-UG O (atI<|inS _<|aV _).1 (atI<|inS _<|aV _).1];exact T5 this
 .apply oM.mp
  rw[oN,bC];refine bW λx hx=>?_
  have hi:=inS x hx;show x.2=vs.getD (idx vs x.1) bf;rw[(atI hi).2];obtain⟨_,_,e⟩:=hi;rw[e]
open PySem.Calls
def Lat(h h':cc):Prop:=∀b o,h.get? b=aa o->h'.get? b=aa o
structure Asks(prog:bt)(w:bL)(A:cn)(h:cc)(vs:List ao)(κ:fR)(lt:Nat->Nat->Bool):Prop where
 kind:2<=vs.length->∀(s':au)(E:ao->au->Prop)(Q:fR->au->Prop),Lat h s'.heap->Q κ s'->aY (aT prog w) A (keyKind' vs.toArray) Q E s'
 nd:vs.Nodup
 cmp:∀i j,i<vs.length->j<vs.length->∀(s':au)(C:Bool->au->Prop)(E:ao->au->Prop),Lat h s'.heap->C (lt i j) s'->aY (aT prog w) A (keyLt' κ (vs.getD i bf)<|vs.getD j bf) C E s'
noncomputable def ltR(b:Bool)(n:Nat)(lt:Nat->Nat->Bool):Nat->Nat->Bool:=λi j=>if b=al then lt (n-1-i) (n-1-j)else lt i j
def Zc5(O:Ord n lt):Ord n (ltR b n lt):=by
 cases b
 .exact O
 .exact#[λi j hi hj ne h=>O.tot _ _ (by lia) (by lia) (by lia) h,λi j hi hj h=>O.asy _ _ (by lia) (by lia) h,λi j k hi hj hk h1 h2=>O.tr _ _ _ (by lia) (by lia) (by lia) h1 h2]
def yz(hi:i<vs.length):(kZ b vs).getD i bf=vs.getD (if b=al then vs.length-1-i else i) bf:=by
 cases b
 .rfl
 .show vs.reverse.getD i bf=vs.getD (vs.length-1-i) bf
  simp only[aA];rw[h7 hi]
def uA(vs:List ao):(aE vs.length).map (λi=>vs.getD i bf)=vs:=by
 apply bV
 intro i;rw[aH];by_cases h:i<vs.length
 .rw[bO h];simp[h]
 .simp[fm h]
def list_sort_rev{P:PySem.Fin->au->Prop}(ho:s.heap.get? a=aa (fv "list" vs.toArray n))(h64:vs.length<=100000)
  (h00:∀b o,h0.get? b=aa o->b≠a/\s.heap.get? b=aa o)(O:Ord vs.length lt)(K:Asks prog w A h0 vs κ lt)
  (h:∀p,Pm vs.length p->Up (ltR b vs.length lt) p vs.length->P (.done<|.ret .none) {s with heap:=sortedHeap s.heap a vs (cO<|kZ b<|p.toList.map λi=>(kZ b vs).getD i bf)}) :
  aY (aT prog w) A (dD.«list.sort» #[[.ref a],[(lS "reverse",.bool b)]]) P E s:=by
 rw[km];have ha:=aJ ho;refine ab<|listItems_at ho rfl ?_;refine ab<|m8 ho rfl ?_;obtain⟨e1,ho1⟩:∃e1,(s.heap.update a<|eC λ_=>#[]).get? a=aa (fv "list" #[] e1):=#[_,get?_update_seq ho λ_=>#[]]
 refine ab<|oX ho1 rfl ?_;refine ab<|wpAny_newTuple ?_;refine ab<|m9 ?_;refine ck ?_;have ho6:(((s.heap.update a<|eC λ_=>#[]).push<|fv "tuple" vs.toArray 0).push<|fv "list" #[] 0).get? a=aa (fv "list" #[] e1):=by
  rw[gY _ _ _ (by rw[pR,lw];exact bz<|dE ha),gY _ _ _ (by rw[lw];exact bz ha)]
  exact ho1
 have lat:Lat h0 (((s.heap.update a<|eC λ_=>#[]).push<|fv "tuple" vs.toArray 0).push<|fv "list" #[] 0):=λb o e=>by
  obtain⟨nb,e⟩:=h00 b o e;exact aw _<|aw _ (by rw[mW _ _ _ _ nb];exact e)
 generalize hs':((s.heap.update a<|eC λ_=>#[]).push<|fv "tuple" vs.toArray 0).push (fv "list" #[] 0)=h1 at ho6 lat ⊢
 dsimp only
 have step:∀t:oq PySem.Fin,aY (aT prog w) A t P E {s with heap:=h1}->aY (aT prog w) A (if b=al then(do let _ <-nF "list.sort.reverse";t)else t) P E {s with heap:=h1}:=by
  intro t ht;split
  .exact ab<|eA ht
  .exact ht
 refine step _ ?_;have hrl:=pA b vs;have fin:∀out:List ao,out.length=vs.length->(∃p,Pm vs.length p/\Up (ltR b vs.length lt) p vs.length/\out=p.toList.map λi=>(kZ b vs).getD i bf)->
   P (.done<|.ret .none) {s with heap:=h1.update a (eC λ_=>cO<|kZ b out)}:=by
  rintro out _ ⟨p,h1',h2',rfl⟩
  subst hs';exact h p h1' h2'
 by_cases h2:vs.toArray.size<2
 .rw[T9 h2,T9 h2]
  refine ab<|ax ?_;rw[StateT.run_pure];refine ab<|ax ?_
  dsimp only
  have hz:((a8<|pO general' (if b=al then(vs.toArray.zip vs.toArray).reverse else vs.toArray.zip vs.toArray) #[] 7 ae).map (·.2))=cO (kZ b vs):=by
   rw[kat_pairs b rfl];apply oM.mp;rw[oN,ksk_zip];exact List.map_snd_zip<|aM _
  rw[hz];refine ab<|oX ho6 rfl ?_;rw[kat_outs];refine ab<|m8 ho6 rfl ?_ (hsz2:=by rw[aB];(try rw[pA]);(try rw[pA]);rw[cU];lia)
  simp only[bne_self_eq_false,b8,if_false];refine ax<|fin (kZ b vs) (pA b vs) #[cO<|aE vs.length,Array.Perm.refl _,λi j a1 a2=>by rw[aB]at h2;lia,?_]
  rw[<-hrl];exact(uA _).symm
 .rw[T8 h2,T8 h2]
  have l2:2<=vs.length:=by rw[aB]at h2;lia
  refine ab<|K.kind l2 _ _ _ lat ?_;rw[kat_pairs b rfl];have ndR:(kZ b vs).Nodup:=by
   cases b
   .exact K.nd
   .exact(dF vs).nodup_iff.mpr K.nd
  refine ab (cV (ZeK ndR (by lia) (by rw[hrl];exact Zc5 (b:=b) O) (by
    rw[hrl];intro i j hi hj C E hC;rw[yz hi,yz hj];cases b
    .exact K.cmp i j hi hj _ _ _ lat hC
    .exact K.cmp _ _ (by simp only[if_true];lia) (by simp only[if_true];lia) _ _ _ lat hC)) ?_ λ_ _ x=>x)
  rintro ⟨⟨⟩,st'⟩ s' ⟨rfl,p,e2,e3,hf,har⟩
  rw[hrl]at e2 e3
  dsimp only
  rw[har];have hl:(p.toList.map λi=>(kZ b vs).getD i bf).length=vs.length:=by rw[aq,aD,e2.size]
  refine ab<|oX ho6 rfl ?_;rw[kat_outs];refine ab<|m8 ho6 rfl ?_ (hsz2:=by rw[aB];(try rw[pA]);rw[hl,cU];lia)
  rw[hf];simp only[bne_self_eq_false,b8,if_false];exact ax<|fin _ hl #[p,e2,e3,rfl]
def xr{l:aP}{vs:List ao}{b:Bool}{κ:fR}{lt:Nat->Nat->Bool}{Q:ao->au->Prop}(hl:s.heap.IsList l vs.toArray)(h64:vs.length<=100000)(O:Ord vs.length lt)(K:Asks prog w A.in1.in1 s.heap vs κ lt)
  (h:∀p,Pm vs.length p->Up (ltR b vs.length lt) p vs.length->Q (.ref<|s.heap.objs.size+1) {s with heap:=sortedAll s.heap vs (cO<|kZ b<|p.toList.map λi=>(kZ b vs).getD i bf)}) :
  aY (aT prog w) A (call (.builtin "sorted") [.ref l] [(lS "reverse",.bool b)]) Q E s:=by
 refine call_function_entry_kw kind_sorted plain_sorted entry_sorted (args_sorted_rev _ _) ?_;unfold dD.«sorted»;refine ab (m:=checkCount "sorted" 1 1 _)<|ax ?_;refine ab<|collect_list hl ?_;refine ab<|m9 ?_;have hsz:((s.heap.push<|fv "list" #[] 0).update s.heap.objs.size (eC (·++vs.toArray))).objs.size=s.heap.objs.size+1:=by
  rw[lw,pR]
 have hoL:(((s.heap.push<|fv "list" #[] 0).update s.heap.objs.size (eC (·++vs.toArray))).push<|fv "list" vs.toArray 0).get? (s.heap.objs.size+1)=aa (fv "list" vs.toArray 0):=by
  rw[<-hsz];exact aO _ rfl
 show aY _ _ _ _ _ {s with heap:=((s.heap.push<|fv "list" #[] 0).update s.heap.objs.size (eC (·++vs.toArray))).push (fv "list" vs.toArray 0)}
 rw[hsz];refine ab<|ck<|wpAny_call_entry_kw slot_list_sort #[_,hoL,rfl] entry_list_sort (list_sort_rev (h0:=s.heap) hoL h64 (λb o e=>?_) O K  λp a1 a2=>#[_,rfl,?_])<|args_list_sort_rev _ _
 .have hlt:b<s.heap.objs.size:=aJ e
  refine#[bz<|dE hlt,?_];rw[gY _ _ _ (by rw[hsz];exact bz<|dE hlt),mW _ _ _ _<|bz hlt,gY _ _ _<|bz hlt]
  exact e
 .exact ax #[_,rfl,h p a1 a2]
def uW(a:aP):dD.«list.sort» #[[.ref a],[]]=dD.«list.sort» #[[.ref a],[(lS "reverse",.bool am)]]:=by
 rw[PyProof.Rows.list_sort_plain,km];rfl
end Sq
namespace Sd
open PySem PySem.Spec PyProof.Rows L2
open Ev (E Sm Fn Bop Cop Ty Bf Mf)
section
variable{X:Cx}{pq:List (aP×fP)}{Z:L2.St}{H:Hp}{s:au}{A:cn}{E:ao->au->Prop}{b:Bool}{Q:ao->au->Prop}
def xm(I:Inv X pq Z H s)(rx:ZD x u)(ty:TyOf X.K H x t)(htp:s.heap.get? tp=aa #[.type "tuple",dd,.seq its.toArray n,sl])
  (e:eI X.K t its=aa b)(h:∀tk,Q (.bool b) {s with toks:=tk}):aY (aT X.prog X.w) A (call (.builtin "isinstance") [u,.ref tp]) Q E s:=by
 cases ty with
 |non=>cases(show u=bf from rx);exact c7 nG I.kIn da htp e (λz=>nomatch z) h
 |bl y=>cases(rx);exact c7 nH I.kIn da htp e (λz=>nomatch z) h
 |int i=>obtain⟨t,q⟩:=(rx);cases q;exact c7 ow I.kIn da htp e (λz=>nomatch z) h
 |str y=>obtain⟨t,q⟩:=(rx);cases q;exact c7 ox I.kIn da htp e (λz=>nomatch z) h
 |flt y=>obtain⟨t,q⟩:=(rx);cases q;exact c7 nq I.kIn da htp e (λz=>nomatch z) h
 |@lst a xs ea=>
  cases(rx);obtain⟨_,_,n,_,h1⟩:=(I.hok a _ ea)
  exact c7 gN I.kIn #[_,h1,rfl] htp e (λz=>nomatch z) h
 |@frz a ob xs ea=>
  cases(rx);obtain⟨_,_,_,n,_,h1⟩:=(I.hok a _ ea)
  exact c7 gN I.kIn #[_,h1,rfl] htp e (λz=>nomatch z) h
 |@tup a xs ea=>
  cases(rx);obtain⟨_,_,_,p⟩:=(I.hok a _ ea)
  obtain⟨o,h1,h2,_⟩:=p;exact c7 nr I.kIn #[o,h1,h2] htp e (λz=>nomatch z) h
 |@dK a kvs ea=>
  cases(show u=bX a from rx);obtain⟨_,_,vs,_,p⟩:=(I.hok a _ ea)
  obtain⟨o,es,ep,h1,h2,_⟩:=p;exact c7 gO I.kIn #[o,h1,h2.1] htp e (λz=>nomatch z) h
 |@dT a kvs ea=>
  cases(show u=bX a from rx);obtain⟨_,_,xs,_,o,es,ep,h1,h2,_⟩:=(I.hok a _ ea)
  exact c7 gO I.kIn #[o,h1,h2.1] htp e (λz=>nomatch z) h
 |@ins a C dx fs ea cl ha hn htk hm=>
  cases(show u=bX a from rx);obtain⟨mA,O,_⟩:=uk I.hok ea
  obtain⟨od,J,_⟩:=O.look;exact c7 (oy (cl.get _) cl.hd ha hn htk hm) I.kIn J htp e (λz=>nomatch z) h
end
section
variable{X:Cx}{xw:Nat->Hp->Prop}{C:Calls}{e a b c:Expr}{i j k:E}{pos p p' p2 p3:iP}
def qc(T U:String):Z5 X (.builtin "isinstance") (λvs H Q=>∃v tv n q,vs=[v,.ref q]/\H q=aa (.tup [.ty T,.ty U])/\TyOf X.K H v tv/\eI X.K tv [.type T,.type U]=aa n/\Q (.bl n) H):=by
 intro pq s Z H vs us Q I r h;obtain⟨v,tv,n,q,rfl,hq,ty,e,qq⟩:=h;obtain⟨u,w',rfl,r1,r2⟩:=zQ r;cases r2;obtain⟨its,rv,⟨o,ho,hc,m,hd⟩,_⟩:=I.tuple<|SqT.of hq;obtain⟨cls,dd,data,sl⟩:=o;simp only at hc hd;subst hc hd;obtain⟨z1,z2,rfl,q1,q2⟩:=zQ rv;cases q1;cases q2;exact xm I r1 ty ho e λtk=>#[.bl n,H,I.tok tk,rfl,qq]
def TyOf.later{K:ap}{H:Hp}{v:V}{tv:ao}{q:aP}{o:HO}(h:TyOf K H v tv)(hq:H q=ae):TyOf K (upd H q o) v tv:=by
 cases h with|non=>exact .non|bl b=>exact .bl b|int b=>exact .int b|str b=>exact .str b|flt b=>exact .flt b|lst e=>exact .lst (by rw[Zv<|ZO e hq];exact e)|frz e=>exact .frz (by rw[Zv<|ZO e hq];exact e)|tup e=>exact .tup (by rw[Zv<|ZO e hq];exact e)|dK e=>exact .dK (by rw[Zv<|ZO e hq];exact e)|dT e=>exact .dT (by rw[Zv<|ZO e hq];exact e)|ins e a1 a2 a3 a4 a5=>exact .ins (by rw[Zv<|ZO e hq];exact e) a1 a2 a3 a4 a5
def TyOf.uniq{K:ap}{H:Hp}{v:V}{t1 t2:ao}(h1:TyOf K H v t1)(h2:TyOf K H v t2):t1=t2:=by
 cases h1<;>cases h2<;>first|rfl|simp_all
theorem ZbZ{T U:bI}{t u:Ty}{k0:Nat}{p4:iP}(ht:∀m,t≠.cls m)(hu:∀m,u≠.cls m)(hm:X.mg "isinstance" = ae)(hmT:X.mg T=ae)(hmU:X.mg U=ae)(ha:CE X xw C a i)(hg:Gl X "isinstance")(hgT:Gl X T)(hgU:Gl X U)(hvT:dC T=aa (.type<|ZI t))(hvU:dC U=aa (.type<|ZI u))(hnT:T≠"__name__")(hdT:(T == ("__debug__" : bI))=am)(hnU:U≠"__name__")(hdU:(U == ("__debug__" : bI))=am)
  (hs0:aL [.Name T p2,.Name U p3] X.env=(am,cI (.Name T p2) X.env)::aL [.Name U p3] X.env)(hs00:aL [.Name U p3] X.env=(am,cI (.Name U p3) X.env)::aL [] X.env)
  (hs1:aL [a,.Tuple [.Name T p2,.Name U p3] k0 p4] X.env=(am,cI a X.env)::aL [.Tuple [.Name T p2,.Name U p3] k0 p4] X.env)(hs2:aL [.Tuple [.Name T p2,.Name U p3] k0 p4] X.env=(am,cI (.Tuple [.Name T p2,.Name U p3] k0 p4) X.env)::aL [] X.env)(hpl:(fj pos<|aL [.Tuple [.Name T p2,.Name U p3] k0 p4] X.env).any (·.1)=am) :
  CE X xw C (.Call (.Name "isinstance" p) [a,.Tuple [.Name T p2,.Name U p3] k0 p4] [] pos) (.isi i [t,u]):=.mk <|
 PE.imp (Qs (qc (ZI t)<|ZI u) hg hm (by rfl) (Xp ha.h (Xp (Zbt<|Xp (GD (v:=.ty<|ZI t) hgT hmT hvT rfl hnT hdT) (Xp (GD (v:=.ty<|ZI u) hgU hmU hvU rfl hnU hdU) Qp hs00) hs0) Qp hs2) hs1) (by decide) (by decide) hs1 hpl)<|by
  rintro Z H Q ⟨O,l,S,st,lr,h⟩;refine#[O,l,S,st,lr,End.bind (show End X.K xw Rep O H Q ((Pv.pv C i l S).bind _)from h) λx S1 ρ1 H1 v f1 st1 r1 h1=>#[by show 2<=bx;rw[cU];lia,λq hq=>?_]]
  obtain⟨n,hn,h2⟩:=End.ob h1;have st2:=st1.fresh (o:=.tup [.ty<|ZI t,.ty<|ZI u]) hq;have f2:=ZF (O:=ρ1) (o:=.tup [.ty<|ZI t,.ty<|ZI u]) hq;have fin:∀tv,TyOf X.K H1 v tv->eI X.K tv [.type<|ZI t,.type<|ZI u]=aa n->_:=λtv ty e=>(#[v,tv,n,q,rfl,ZL,TyOf.later ty hq,e,h2 ρ1 _ _ f2 st2<|Ym n]:∃v' tv n q',[v,V.ref q]=[v',.ref q']/\upd H1 q (.tup [.ty<|ZI t,.ty<|ZI u]) q'=aa (.tup [.ty<|ZI t,.ty<|ZI u])/\TyOf X.K (upd H1 q<|.tup [.ty<|ZI t,.ty<|ZI u]) v' tv/\eI X.K tv [.type<|ZI t,.type<|ZI u]=aa n/\Q (.bl n) (upd H1 q<|.tup [.ty<|ZI t,.ty<|ZI u]))
  unfold Pv.Yz at hn;cases q1:Pv.X3 x t with
  |none=>rw[q1]at hn;cases hn
  |some m=>
   rw[q1]at hn;obtain⟨tv,ty,e⟩:=wl r1 ht q1;cases m with
   |true=>
    have hn':n=al:=(ak hn).symm;exact fin tv ty (by unfold eI;rw[e,hn'])
   |false=>
    have hn1:(match Pv.X3 x u with
     |some al=>aa al
     |some am=>Pv.Yz x []
     |none=>ae)=aa n:=hn
    cases q2:Pv.X3 x u with
    |none=>rw[q2]at hn1;cases hn1
    |some m2=>
     rw[q2]at hn1;obtain⟨tv2,ty2,e2⟩:=wl r1 hu q2;have et:tv2=tv:=TyOf.uniq ty2 ty;subst et;refine fin tv2 ty ?_;unfold eI;rw[e];show eI X.K tv2 [.type<|ZI u]=aa n;unfold eI;rw[e2];cases m2 with|true=>exact hn1|false=>exact hn1
end
end Sd
namespace Sd
open Ev (ltI Xj ZH)
theorem UN:∀{x y:List Int},x≠y->ltI x y=am->ltI y x=al
 |[],[],h,_=>T7 rfl h
 |[],_::_,_,h=>by cases h
 |_::_,[],_,_=>rfl
 |a::x,b::y,h,e=>by
  unfold ltI at e ⊢;by_cases c:a=b
  .subst c
   rw[T9 rfl]at e ⊢;exact UN (λz=>h<|by rw[z]) e
  .rw[T8 c]at e
   rw[T8<|Ne.symm c];have:=of_decide_eq_false e;exact T5 (by omega)
theorem Y2:∀{x y:List Int},ltI x y=al->ltI y x=am
 |[],[],h=>by cases h
 |[],_::_,_=>rfl
 |_::_,[],h=>by cases h
 |a::x,b::y,e=>by
  unfold ltI at e ⊢;by_cases c:a=b
  .subst c
   rw[T9 rfl]at e ⊢;exact Y2 e
  .rw[T8 c]at e
   rw[T8<|Ne.symm c];have:=T6 e;exact T4 (by omega)
theorem Gf:∀{x y z:List Int},ltI x y=al->ltI y z=al->ltI x z=al
 |[],[],_,h,_=>by cases h
 |_::_,[],_,h,_=>by cases h
 |_,_::_,[],_,h=>by cases h
 |[],_::_,_::_,_,_=>rfl
 |a::x,b::y,c::z,e,f=>by
  unfold ltI at e f ⊢;by_cases h1:a=b
  .subst h1
   rw[T9 rfl]at e;by_cases h2:a=c
   .subst h2
    rw[T9 rfl]at f ⊢;exact Gf e f
   .rw[T8 h2]at f ⊢;exact f
  .rw[T8 h1]at e
   have e':=T6 e;by_cases h2:b=c
   .subst h2
    rw[T8 h1];exact e
   .rw[T8 h2]at f
    have f':=T6 f;rw[T8 (by omega)]
    exact T5 (by omega)
theorem V0(x:List Int):∀l:List (List Int),(Xj x l).Perm (x::l)
 |[]=>bE _
 |y::r=>by
  unfold Xj;split
  .exact bE _
  .exact((V0 x r).cons y).trans<|gZ x y r
theorem Xc:∀l:List (List Int),(ZH l).Perm l
 |[]=>bE _
 |x::r=>(V0 x<|ZH r).trans<|(Xc r).cons x
theorem Uf(x:List Int):∀{l:List (List Int)},(∀y∈l,x≠y)->l.Pairwise (λa b=>ltI a b=al)->(Xj x l).Pairwise (λa b=>ltI a b=al)
 |[],_,_=>by exact d5 ..
 |y::r,hn,h=>by
  rw[aR]at h;unfold Xj;split
  .rename_i c
   rw[aR,aR];refine#[λz hz=>?_,h]
   rcases ay.mp hz with rfl|hz
   .exact c
   .exact Gf c<|h.1 z hz
  .rename_i c
   rw[aR];refine#[λz hz=>?_,Uf x (λy hy=>hn y<|af _ hy) h.2]
   rcases ay.mp ((V0 x r).mem_iff.mp hz)with rfl|hz
   .exact UN (hn y<|ai ..) (by simpa using c)
   .exact h.1 z hz
theorem XY:∀{l:List (List Int)},l.Nodup->(ZH l).Pairwise (λa b=>ltI a b=al)
 |[],_=>fM
 |x::r,h=>by
  rw[cQ]at h;exact Uf x (λy hy e=>h.1<|by rw[e];exact(Xc r).mem_iff.mp hy)<|XY h.2
theorem Wg:∀{a b:List (List Int)},a.Perm b->a.Pairwise (λx y=>ltI x y=al)->b.Pairwise (λx y=>ltI x y=al)->a=b
 |[],b,p,_,_=>(oO p)
 |x::a,[],p,_,_=>by have:=p.length_eq;simp at this
 |x::a,y::b,p,ha,hb=>by
  rw[aR]at ha hb;have e:x=y:=by
   rcases ay.mp (p.mem_iff.mp<|ai ..)with h|h
   .exact h
   .rcases ay.mp (p.mem_iff.mpr (ai))with h2|h2
    .exact h2.symm
    .have z1:=hb.1 x h
     have z2:=ha.1 y h2;rw[Y2 z1]at z2;cases z2
  subst e;rw[Wg (pS x |>.mp p) ha.2 hb.2]
open PySem PySem.Spec PyProof.Rows L2
open Ev (E Sm Fn Bop Cop Ty Bf Mf Yq WU ZG ltP Yi)
noncomputable def Q9(fin:Bool):List Int->List Int->Bool
 |[],_=>fin
 |_::_,[]=>fin
 |a::x,b::y=>if a=b then Q9 fin x y else aj (a<b)
theorem GX:∀(x y:List Int),Q9 (aj<|x.length<y.length) x y=ltI x y
 |[],[]=>rfl
 |[],_::_=>by unfold Q9 ltI;simp
 |_::_,[]=>by unfold Q9 ltI;simp
 |a::x,b::y=>by
  unfold Q9 ltI;have:aj ((a::x).length<(b::y).length)=aj (x.length<y.length):=by simp
  rw[this,GX x y]
theorem zT{C:Bool->au->Prop}:∀{x y:List Int}{u v:List ao}{i:Nat},Vals (x.map V.int) u->Vals (y.map V.int) v->C (Q9 fin x y) s->pT prog w A b fin C (u.zip v) i s
 |[],_,_,_,_,.nil,_,h=>by rw[g6];exact iN h
 |_::_,[],_,_,_,_,.nil,h=>by rw[gD];exact iN h
 |a::x,c::y,_,_,i,.cons ra ta,.cons rb tb,h=>by
  obtain⟨t,rfl⟩:=ra;obtain⟨t',rfl⟩:=rb;rw[b9];refine oP<|lh ?_;unfold Q9 at h;by_cases e:a=c
  .rw[T9 e]at h
   rw[beq_iff_eq.mpr e];exact o5<|zT ta tb h
  .rw[T8 e]at h
   rw[beq_eq_false_iff_ne.mpr e];refine pU ?_;cases q:(b&&i == 0)with|true=>exact oneLt_int h|false=>exact o6 _ _<|lt_int h
inductive RowsAt(h:cc):List (List Int)->List ao->Prop where
 |nil:RowsAt h [] []
 |cons {r:List Int} {rs:List (List Int)} {vs:List ao} {a:aP} {o:fP} {us:List ao} {m:Nat} (ho:h.get? a=aa o) (hc:o.cls=.type "tuple") (hd:o.data=.seq us.toArray m) (hv:Vals (r.map V.int) us) (t:RowsAt h rs vs):RowsAt h (r::rs) (.ref a::vs)
theorem Qv:∀{ks:List D}{k:List Int},Pv.intsV ks=aa k->ks=k.map Pv.V.int
 |[],k,h=>by cases h;rfl
 |d::ks,k,h=>by
  obtain⟨n,r,rfl,e,rfl⟩:=Jv h;rw[Qv e];rfl
def uU(h:Pv.Z1 (d::ds)=aa rs):∃a b,d=Pv.Zd a/\Pv.Z1 ds=aa b/\rs=a::b:=by
 cases d with
 |tup x=>
  have h:(match Pv.intsV x,Pv.Z1 ds with
   |some a,aa b=>aa (a::b)
   |_,_=>ae)=aa rs:=h
  cases q1:Pv.intsV x with
  |none=>rw[q1]at h;cases h
  |some a=>
   cases q2:Pv.Z1 ds with
   |none=>rw[q1,q2]at h;cases h
   |some b=>
    rw[q1,q2]at h;exact#[a,b,congrArg Pv.V.tup<|Qv q1,rfl,(ak h).symm]
 |_=>exact Ev.nos h
theorem Reps.intsV:∀{r:List Int}{xs:List V},Reps O H (r.map Pv.V.int) xs->xs=r.map V.int
 |[],xs,h=>by exact h
 |n::r,xs,h=>by
  have h':=h;obtain⟨v,vs,rfl,a,b⟩:=h';rw[a.int',Reps.intsV b];rfl
theorem Vx(I:Inv X pq Z H s):∀{ds:List D}{rs:List (List Int)}{xs:List V}{its:List ao},Pv.Z1 ds=aa rs->Reps O H ds xs->Vals xs its->RowsAt s.heap rs its/\ds=rs.map Pv.Zd
 |[],rs,xs,its,h,r,v=>by
  subst r;cases v;cases h;exact#[.nil,rfl]
 |d::ds,rs,xs,its,h,r,v=>by
  obtain⟨x,xs',rfl,r1,r2⟩:=r;cases v with
  |cons v1 v2=>
   obtain⟨a,b,rfl,q2,rfl⟩:=uU h;obtain⟨t,e⟩:=Vx I q2 r2 v2;obtain⟨p,ys,rfl,hp,ry⟩:=r1.tup';have ey:=Reps.intsV ry;subst ey;cases v1;obtain⟨us,rv,⟨o,ho,hc,m,hd⟩,_⟩:=I.tuple<|SqT.of hp;exact#[.cons ho hc hd rv t,by rw[e];rfl]
theorem RowsAt.length{h:cc}:∀{rs:List (List Int)}{vs:List ao},RowsAt h rs vs->rs.length=vs.length
 |_,_,.nil=>rfl
 |_,_,.cons _ _ _ _ t=>by rw[aF,aF,RowsAt.length t]
theorem RowsAt.at{h:cc}:∀{rs:List (List Int)}{vs:List ao}(i:Nat),RowsAt h rs vs->i<vs.length->∃a o us m,vs.getD i bf=.ref a/\h.get? a=aa o/\o.data=.seq us.toArray m/\Vals ((rs.getD i []).map V.int) us
 |_,_,_,.nil,hi=>by simp at hi
 |_,_,0,.cons ho hc hd hv t,_=>#[_,_,_,_,rfl,ho,hd,hv]
 |_,_,i+1,.cons ho hc hd hv t,hi=>by
  obtain⟨a,o,us,m,e1,e2,e3,e4⟩:=RowsAt.at i t (by simpa using hi)
  exact#[a,o,us,m,by simpa using e1,e2,e3,by simpa using e4]
theorem RowsAt.tups(k:Sq.Lat h h'):∀{rs:List (List Int)}{vs:List ao},RowsAt h rs vs->(∀r∈rs,r≠[])->∃fs,o7 h' vs fs/\fs.length=vs.length/\∀v∈fs,∃n t,v=lg n t
 |_,_,.nil,_=>#[[],.nil,rfl,λv hv=>by cases hv]
 |_,_,.cons (r:=r) ho hc hd hv t,hn=>by
  obtain⟨fs,t1,t2,t3⟩:=RowsAt.tups k t λr hr=>hn r<|af _ hr
  have hr:=hn r<|ai ..;cases r with
  |nil=>exact T7 rfl hr
  |cons n r=>
   obtain⟨u,g,rel⟩:=hv.get (i:=0) rfl;refine#[u::fs,.cons (k _ _ ho) hc hd (by simpa using g) t1,by rw[aF,aF,t2],λv hv=>?_]
   rcases ay.mp hv with rfl|hv
   .obtain⟨tk,e⟩:=rel
    exact#[n,tk,e]
   .exact t3 v hv
theorem Vq:∀{x y:List Int}{us:List ao},Vals (x.map V.int) us->Vals (y.map V.int) us->x=y
 |[],[],_,_,_=>rfl
 |[],_::_,_,.nil,h=>by cases h
 |_::_,[],_,h,.nil=>by cases h
 |a::x,b::y,_,.cons r t,.cons r' t'=>by
  obtain⟨k,rfl⟩:=r;obtain⟨k',e⟩:=r';cases e;rw[Vq t t']
def yg{B:Type}{df:B}{rs:List B}{vs:List ao}(hl:rs.length=vs.length)(nd:rs.Nodup)(h:∀i j,i<vs.length->j<vs.length->vs.getD i bf=vs.getD j bf->rs.getD i df=rs.getD j df):vs.Nodup:=by
 refine bo.mpr λi j hi hj hij e=>?_
 have:=h i j hi hj (by simp[hi,hj,e])
 simp only[aA,ag (show i<rs.length by lia),ag (show j<rs.length by lia)]at this
 exact bo.mp nd i j (by lia) (by lia) hij this
def qr{prog:bt}{w:bL}{A:cn}{h:cc}{rs:List (List Int)}{vs:List ao}(R:RowsAt h rs vs)(nd:rs.Nodup)(hn:∀r∈rs,r≠[]):Sq.Asks prog w A h vs (tuples' al) (λi j=>ltI (rs.getD i [])<|rs.getD j []):=by
 refine#[λh2 s' E Q k q=>?_,yg (df:=[]) R.length nd λi j hi hj e=>?_,λi j hi hj s' C E k q=>?_]
 .obtain⟨fs,t1,t2,t3⟩:=R.tups k hn
  exact oQ (T:=.type "int") t1 (by lia) (λv hv=>by obtain⟨n,t,rfl⟩:=t3 v hv;exact PySem.W.Looks.of_pure rfl) rfl q
 .obtain⟨a,o,us,m,e1,e2,e3,e4⟩:=R.at i hi
  obtain⟨a',o',us',m',f1,f2,f3,f4⟩:=R.at j hj;rw[e1,f1]at e;cases e;rw[e2]at f2;cases f2;rw[e3]at f3;cases f3;exact Vq e4 f4
 .obtain⟨a,o,us,m,e1,e2,e3,e4⟩:=R.at i hi
  obtain⟨a',o',us',m',f1,f2,f3,f4⟩:=R.at j hj;rw[e1,f1];refine pV (k _ _ e2) e3 (k _ _ f2) f3<|zT e4 f4 ?_;have l1:us.toArray.size=(rs.getD i []).length:=by rw[aB,<-e4.length,aq]
  have l2:us'.toArray.size=(rs.getD j []).length:=by rw[aB,<-f4.length,aq]
  rw[l1,l2,GX];exact q
def Zak{rs:List (List Int)}{n:Nat}(hn:rs.Nodup)(hl:rs.length=n):Sq.Ord n (λi j=>ltI (rs.getD i [])<|rs.getD j []):=by
 have hd:∀i j,i<n->j<n->i≠j->rs.getD i []≠rs.getD j []:=λi j hi hj ne e=>by
  simp only[aA]at e;have hi':i<rs.length:=by lia
  have hj':j<rs.length:=by lia
  refine ne<|(e8 hi' hn).mp ?_;rw[ag hi',ag hj']at e ⊢;exact congrArg aa e
 exact#[λi j hi hj ne e=>UN (hd i j hi hj ne) e,λi j _ _ e=>Y2 e,λi j k _ _ _ e f=>Gf e f]
def Qz{B β:Type}(b:Bool)(f:B->β)(l:List B):be b (l.map f)=(be b l).map f:=by
 cases b
 .rfl
 .exact fY.symm
def Ut{B:Type}(b:Bool)(l:List B):(be b l).Perm l:=by
 cases b
 .exact bE _
 .exact dF l
def Xn{B:Type}{d:B}{b:Bool}{vs:List B}{i:Nat}(hi:i<vs.length):(be b vs).getD i d=vs.getD (if b=al then vs.length-1-i else i) d:=by
 cases b
 .rfl
 .show vs.reverse.getD i d=vs.getD (vs.length-1-i) d
  simp only[aA];rw[h7 hi]
def ZaT{rs:List (List Int)}{b:Bool}{p:Array Nat}(hn:rs.Nodup)(h1:Sq.Pm rs.length p)(h2:Sq.Up (Sq.ltR b rs.length λi j=>ltI (rs.getD i [])<|rs.getD j []) p rs.length) :
  (p.toList.map λi=>(be b rs).getD i [])=ZH rs:=by
 have hp:p.toList.Perm (aE rs.length):=by simpa using bB.mp h1
 have hl:p.toList.length=rs.length:=by rw[hp.length_eq,a7]
 refine Wg ?_ ?_<|XY hn
 .refine((hp.map _).trans ?_).trans (Xc rs).symm
  have e:(aE rs.length).map (λi=>(be b rs).getD i [])=be b rs:=by
   apply bV
   intro i;rw[aH];by_cases h:i<rs.length
   .have:i<(be b rs).length:=by rw[eS];exact h
    rw[bO h];simp[this]
   .have:(be b rs).length<=i:=by rw[eS];lia
    simp[fm h,this]
  rw[e];exact Ut b rs
 .rw[bD,bo]
  intro i j hi hj hij;have g1:p.toList[i]=Sq.g p i:=by
   have:=Sq.jH (by simpa using hi)
   rw[<-aZ,ag hi]at this;exact ak this
  have g2:p.toList[j]=Sq.g p j:=by
   have:=Sq.jH (by simpa using hj)
   rw[<-aZ,ag hj]at this;exact ak this
  rw[g1,g2,Xn (h1.lt (by lia)),Xn<|h1.lt (by lia)]
  have:=h2 i j hij (by lia)
  cases b
  .exact this
  .exact this
def ZaH{F:List Nat}{xs:List V}{rs:List (List Int)}(h:Reps O H (rs.map Pv.Zd) xs)(hF:∀i∈F,i<rs.length):Reps O H ((F.map λi=>rs.getD i []).map Pv.Zd) (F.map λi=>xs.getD i V.non):=by
 induction F with
 |nil=>exact Reps.nil
 |cons i F ih=>
  refine Reps.cons ?_<|ih λj hj=>hF j<|af _ hj
  have hi:=hF i<|ai ..;obtain⟨v,g,r⟩:=h.get (by rw[aH,ag hi];rfl)
  show Rep O H (Pv.Zd<|rs.getD i []) (xs.getD i V.non);rw[aA,aA,g,ag hi];exact r
def yn{F:List Nat}{xs:List V}{us:List ao}(h:Vals xs us)(hF:∀i∈F,i<xs.length):Vals (F.map λi=>xs.getD i V.non) (F.map λi=>us.getD i bf):=by
 induction F with
 |nil=>exact .nil
 |cons i F ih=>
  refine .cons ?_<|ih λj hj=>hF j<|af _ hj
  have hi:=hF i<|ai ..;obtain⟨u,g,r⟩:=h.get<|ag hi;show ZD (xs.getD i V.non) (us.getD i bf);rw[aA,aA,g,ag hi];exact r
def zy(h:Reps O H ds xs):Reps O H (be b ds) (be b xs):=by
 cases b
 .exact h
 .exact h.reverse
def zg :∀{xs:List V}{us:List ao},Vals xs us->Vals (be b xs) (be b us):=by
 cases b
 .exact λh=>h
 .have snoc:∀{xs:List V}{us:List ao}{x:V}{u:ao},Vals xs us->ZD x u->Vals (xs++[x]) (us++[u]):=by
   intro xs us x u h r
   induction h with|nil=>exact .cons r .nil|cons a _ ih=>exact .cons a ih
  intro xs us h;show Vals xs.reverse us.reverse
  induction h with|nil=>exact .nil|cons r t ih=>rw[gS,gS];exact snoc ih r
def Zdv(b:Bool):List V->Hp->VK->Prop:=λvs H Q=>∃O ds rws v,vs=[v]/\Rep O H (.lst ds) v/\Pv.Z1 ds=aa rws/\Yq rws=al/\∀ys,Reps O H ((if b then(ZH rws).reverse else ZH rws).map Pv.Zd) ys->∀p,H p=ae->Q (.ref p) (upd H p<|.lst ys)
def qa{pq:List (aP×fP)}{s:au}{Z:L2.St}{H:Hp}{vs:List V}{us:List ao}{Q:VK}{b:Bool}(I:Inv X pq Z H s)(r:Vals vs us)(h:Zdv b vs H Q) :
  ∃(l:aP)(its:List ao)(rs:List (List Int)),us=[.ref l]/\s.heap.IsList l its.toArray/\its.length<=100000/\rs.length=its.length/\Sq.Ord its.length (λi j=>ltI (rs.getD i [])<|rs.getD j [])/\(∀A,Sq.Asks X.prog X.w A s.heap its (tuples' al) λi j=>ltI (rs.getD i [])<|rs.getD j [])/\
   ∀p,Sq.Pm its.length p->Sq.Up (Sq.ltR b its.length λi j=>ltI (rs.getD i [])<|rs.getD j []) p its.length->
    EP X pq Z Q (.ref<|s.heap.objs.size+1) {s with heap:=sortedAll s.heap its (cO<|be b<|p.toList.map λi=>(be b its).getD i bf)}:=by
 obtain⟨O,ds,rws,v,rfl,r1,hrw,hok,h3⟩:=h;obtain⟨l,xs,rfl,hx,_,rx⟩:=r1.lst';obtain⟨u,rfl,ru⟩:=JP r;cases ru;obtain⟨its,rv,pl,hz⟩:=I.list<|SqL.of hx;obtain⟨RA,ed⟩:=Vx I hrw rx rv;obtain⟨hok1,hok3⟩:=(aG _ _).mp hok;obtain⟨hok1,hok2⟩:=(aG _ _).mp hok1;have h64:=T6 hok1;have hnd:=T6 hok2;have hne:∀r∈rws,r≠[]:=λr hr e=>by
  have:=aX.mp hok3 r hr;rw[e]at this;cases this
 have hlen:=RA.length;refine#[l,its,rws,rfl,pl.isList,by lia,hlen,Zak hnd hlen,λA=>qr RA hnd hne,λp hp hu=>?_]
 rw[<-hlen]at hp hu;have out:=ZaT hnd hp hu;have hmem:∀i∈p.toList,i<rws.length:=λi hi=>by
  have hp':p.toList.Perm (aE rws.length):=by simpa using bB.mp hp
  exact aN.mp<|hp'.mem_iff.mp hi
 subst ed;have xl:xs.length=rws.length:=by rw[rx.length,aq]
 have rx1:Reps O H ((be b rws).map Pv.Zd) (be b xs):=by rw[<-Qz];exact zy rx
 have rx2:=ZaH rx1 (by rw[eS];exact hmem)
 rw[out]at rx2;have rx3:=zy (b:=b) rx2;have rv2:=zg (b:=b)<|yn (zg (b:=b) rv) (by rw[eS,xl];exact hmem)
 have eb:(if b=al then(ZH rws).reverse else ZH rws)=be b (ZH rws):=rfl
 rw[eb,<-Qz]at h3;obtain⟨ep,he⟩:=sortedAll_at s.heap its<|cO<|be b<|p.toList.map λi=>(be b its).getD i bf
 refine#[.ref<|s.heap.objs.size+1,_,I.laid (t':=s.toks) (λb ob q=>sortedAll_old q) (kK _) ?_,rfl,h3 _ rx3 _<|I.hok.fresh<|kK _]
 refine#[?_,_,ep,rv2,he];rw[eS,aq,aD,hp.size,cU];lia
def xD{kp kp2:iP}{q0}(hm:X.mg "sorted" = ae)(ha:CA X xw C [e] [i])(hg:Gl X "sorted")
  (he:fj pos (aL [e] X.env)=(am,cI e X.env)::fj pos (aL [] X.env))(hpl:(fj pos<|aL [e] X.env).any (·.1)=am) :
  CE X xw C (.Call (.Name "sorted" p) [e] [#[aa "reverse",.Constant (.bool al) q0 kp,kp2]] pos) (.blt .sortedR [i]):=.mk <| by
 intro pq s Z H Q I hq;obtain⟨O,l,S,st,lr,h⟩:=hq;refine eB<|YT I hg hm (show dC "sorted" = aa (.builtin "sorted")from rfl) ?_ (by decide) (by decide)
 refine callWith_kw (thn (ha.h pos pq s Z H (λvs H1=>Zdv al vs H1 Q) I ?_) λus s1 #[vs,H1,I1,r1,q1]=>?_) he hpl rfl rfl
 .refine#[O,l,S,st,lr,End.bind (show End X.K xw Rep O H Q ((Pv.pvs C [i] l S).bind λxs S=>Pv.po (Pv.Wi .sortedR xs) S)from h) λxs S1 ρ1 H1 vs f1 st1 r1 h1=>?_]
  obtain⟨d,v,z,rfl,r1,hz,h1⟩:=ym h1 r1;cases d with
  |lst ds=>
   obtain⟨rws,hr,hz⟩:=du.mp hz;split at hz
   .cases hz;exact#[ρ1,ds,rws,v,rfl,r1,hr,‹_›,λys r=>h1.newL st1 r]
   .cases hz
  |_=>exact Ev.nos hz
 .refine kws_cons (thn (ZdH pq s1 Z H1 (λv H2=>v=.bl al/\H2=H1) I1 #[rfl,rfl]) λu s2 #[x,H2,I2,r2,e1,e2]=>kws_nil ?_)
  subst e1 e2;cases r2;obtain⟨l,its,rs,rfl,h1,h2,h3,h4,h5,h6⟩:=qa I2 r1 q1;exact Sq.xr (b:=al) h1 h2 h4 (h5 _) λp a b=>h6 p a b
end Sd
namespace Sd
open PySem PySem.Spec PyProof.Rows L2
open Ev (ltI)
open PySem.SeqAt PySem.MeetsSeq PySem.MeetsSeq2 PySem.MeetsSeq3 PySem.SeqRoads2
open PySem.AutoSeq1 (wpAny_loadPart')
def xt(l b:aP)(u v:List ao)(n n2:Nat)(dd dd2:Option aP)(sl sl2:Array (Option ao))(x y:List Int)(hx:Vals (x.map V.int) u)(hy:Vals (y.map V.int) v) :
  pI (dD.«tuple.__lt__» #[[.ref l,.ref b],[]]) (λA R s=>s.heap.get? l=aa {cls:=.type "tuple",dict:=dd,data:=.seq u.toArray n,slots:=sl}/\s.heap.get? b=aa {cls:=.type "tuple",dict:=dd2,data:=.seq v.toArray n2,slots:=sl2}/\R (.ok<|.ret<|.bool<|ltI x y) s):=
 .of_wp λprog w A R s h=>by
  obtain⟨hp,g,d,tk,os⟩:=s;obtain⟨hl,hb,h⟩:=h;have f2:=dP;rw[<-GX]at h
  wp_walk using iO hl,iO hb,ir _ (λrest b s'=>b.1=ae/\s'=#[hp,g,d,tk,os]/\∃x' y' u' v',rest=rK u' v'/\Vals (mG V.int x') u'/\Vals (mG V.int y') v'/\R (.ok<|.ret<|.bool<|Q9 (aj<|x.length<y.length) x' y') #[hp,g,d,tk,os]) _
  case turn=>
   rintro ⟨a,c⟩ rest b s' ⟨hb',rfl,x',y',u',v',hz,hx',hy',hR⟩
   match x',y',u',v',hx',hy',hz,hR with
   |i::x',j::y',_::u',_::v',.cons ra ta,.cons rb tb,hz,hR=>
    obtain⟨t,rfl⟩:=ra;obtain⟨t',rfl⟩:=rb;rw[b9]at hz;injection hz with h1 h2
    cases h1;unfold Q9 at hR;refine ab<|lh ?_;by_cases e:i=j
    .rw[T9 e]at hR
     rw[beq_iff_eq.mpr e]
     wp_walk
     exact#[rfl,rfl,x',y',u',v',h2,ta,tb,hR]
    .rw[T8 e]at hR
     rw[beq_eq_false_iff_ne.mpr e];simp only[mH,if_true];refine ab<|eA<|ab<|PyProof.Rows.lt_int ?_
     wp_walk
     exact#[_,rfl,by simpa using hR]
   |[],_,_,_,.nil,_,hz,_=>rw[g6]at hz;cases hz
   |_::_,[],_,_,_,.nil,hz,_=>rw[gD]at hz;cases hz
  case fin=>
   rintro ⟨b1,b2⟩ s' ⟨hb',rfl,x',y',u',v',hz,hx',hy',hR⟩
   simp only at hb';subst hb';have hf:Q9 (aj<|x.length<y.length) x' y'=aj (x.length<y.length):=by
    match x',y',u',v',hx',hy',hz with
    |[],_,_,_,_,_,_=>rfl
    |_::_,[],_,_,_,_,_=>rfl
    |_::_,_::_,_::_,_::_,.cons _ _,.cons _ _,hz=>rw[b9]at hz;cases hz
   rw[hf]at hR;have l1:u.length=x.length:=by rw[<-hx.length,aq]
   have l2:v.length=y.length:=by rw[<-hy.length,aq]
   wp_walk
   exact#[_,rfl,by simpa[hV,l1,l2]using hR]
  case h=>
   exact#[rfl,rfl,x,y,u,v,by simp,hx,hy,h]
def Zdp{E:ao->au->Prop}{Q:ao->au->Prop}(ha:s.heap.get? a=aa o)(hc:o.cls=.type "tuple")(hd:o.data=.seq u.toArray m)(hx:Vals (x.map V.int) u)
  (hb:s.heap.get? b=aa o')(hc':o'.cls=.type "tuple")(hd':o'.data=.seq v.toArray m')(hy:Vals (y.map V.int) v)(hu:A.units<dA)(q:Q (.bool<|ltI x y) s):aY (aT prog w) A (cr .Lt (.ref a)<|.ref b) Q E s:=by
 obtain⟨cls,dd,data,sl⟩:=o;obtain⟨cls2,dd2,data2,sl2⟩:=o';simp only at hc hd hc' hd';subst hc hd hc' hd';exact lT (op:=.Lt) #[_,ha,rfl] #[_,hb,rfl] o8 oR (nZ _ _) (xt a b u v m m' dd dd2 sl sl2 x y hx hy) #[ha,hb,#[(λx=>nomatch x),q]] hu
end Sd
namespace Sd
open Ev (ltI ltP WU ZG)
structure StrictB{B:Type}(lt:B->B->Bool):Prop where
 tot:∀{x y},x≠y->lt x y=am->lt y x=al
 asy:∀{x y},lt x y=al->lt y x=am
 tr:∀{x y z},lt x y=al->lt y z=al->lt x z=al
theorem vE:∀{x y:List (List Int)},x≠y->ltP x y=am->ltP y x=al
 |[],[],h,_=>T7 rfl h
 |[],_::_,_,h=>by cases h
 |_::_,[],_,_=>rfl
 |a::x,b::y,h,e=>by
  unfold ltP at e ⊢;by_cases c:a=b
  .subst c
   rw[T9 rfl]at e ⊢;exact vE (λz=>h<|by rw[z]) e
  .rw[T8 c]at e
   rw[T8<|Ne.symm c];exact UN c e
theorem vk:∀{x y:List (List Int)},ltP x y=al->ltP y x=am
 |[],[],h=>by cases h
 |[],_::_,_=>rfl
 |_::_,[],h=>by cases h
 |a::x,b::y,e=>by
  unfold ltP at e ⊢;by_cases c:a=b
  .subst c
   rw[T9 rfl]at e ⊢;exact vk e
  .rw[T8 c]at e
   rw[T8<|Ne.symm c];exact Y2 e
theorem Zby:∀{x y z:List (List Int)},ltP x y=al->ltP y z=al->ltP x z=al
 |[],[],_,h,_=>by cases h
 |_::_,[],_,h,_=>by cases h
 |_,_::_,[],_,h=>by cases h
 |[],_::_,_::_,_,_=>rfl
 |a::x,b::y,c::z,e,f=>by
  unfold ltP at e f ⊢;by_cases h1:a=b
  .subst h1
   rw[T9 rfl]at e;by_cases h2:a=c
   .subst h2
    rw[T9 rfl]at f ⊢;exact Zby e f
   .rw[T8 h2]at f ⊢;exact f
  .rw[T8 h1]at e
   by_cases h2:b=c
   .subst h2
    rw[T8 h1];exact e
   .rw[T8 h2]at f
    have g:=Gf e f;rw[T8 λz=>by subst z;rw[Y2 e]at f;cases f]
    exact g
def Z4:StrictB ltP:=#[vE,vk,Zby]
section
variable{B:Type}{lt:B->B->Bool}
theorem VZ(x:B):∀l:List B,(WU lt x l).Perm (x::l)
 |[]=>bE _
 |y::r=>by
  unfold WU;split
  .exact bE _
  .exact((VZ x r).cons y).trans<|gZ x y r
theorem Z2:∀l:List B,(ZG lt l).Perm l
 |[]=>bE _
 |x::r=>(VZ x<|ZG lt r).trans<|(Z2 r).cons x
theorem Us(O:StrictB lt)(x:B):∀{l:List B},(∀y∈l,x≠y)->l.Pairwise (λa b=>lt a b=al)->(WU lt x l).Pairwise (λa b=>lt a b=al)
 |[],_,_=>by exact d5 ..
 |y::r,hn,h=>by
  rw[aR]at h;unfold WU;split
  .rename_i c
   rw[aR,aR];refine#[λz hz=>?_,h]
   rcases ay.mp hz with rfl|hz
   .exact c
   .exact O.tr c<|h.1 z hz
  .rename_i c
   rw[aR];refine#[λz hz=>?_,Us O x (λy hy=>hn y<|af _ hy) h.2]
   rcases ay.mp ((VZ x r).mem_iff.mp hz)with rfl|hz
   .exact O.tot (hn y<|ai ..) (by simpa using c)
   .exact h.1 z hz
theorem Yu(O:StrictB lt):∀{l:List B},l.Nodup->(ZG lt l).Pairwise (λa b=>lt a b=al)
 |[],_=>fM
 |x::r,h=>by
  rw[cQ]at h;exact Us O x (λy hy e=>h.1<|by rw[e];exact(Z2 r).mem_iff.mp hy)<|Yu O h.2
theorem YY(O:StrictB lt):∀{a b:List B},a.Perm b->a.Pairwise (λx y=>lt x y=al)->b.Pairwise (λx y=>lt x y=al)->a=b
 |[],b,p,_,_=>(oO p)
 |x::a,[],p,_,_=>by have:=p.length_eq;simp at this
 |x::a,y::b,p,ha,hb=>by
  rw[aR]at ha hb;have e:x=y:=by
   rcases ay.mp (p.mem_iff.mp<|ai ..)with h|h
   .exact h
   .rcases ay.mp (p.mem_iff.mpr (ai))with h2|h2
    .exact h2.symm
    .have z1:=hb.1 x h
     have z2:=ha.1 y h2;rw[O.asy z1]at z2;cases z2
  subst e;rw[YY O (pS x |>.mp p) ha.2 hb.2]
end
open PySem PySem.Spec PyProof.Rows L2
theorem Gh:∀{x:List Int}{u:List ao}{j:Nat}(h:j<u.length),Vals (x.map V.int) u->∃t,u[j]=lg (x.getD j 0) t
 |[],[],_,h,.nil=>by simp at h
 |_::_,_::_,0,_,.cons ra _=>by obtain⟨t,rfl⟩:=ra;exact#[t,rfl]
 |_::x,_::u,j+1,h,.cons _ ta=>by
  obtain⟨t,e⟩:=Gh (by simpa using h) ta
  exact#[t,by simpa using e]
def Zgj:∀{x y:List Int},((aE<|p5 x.length y.length).all (λj=>x.getD j 0 == y.getD j 0)&&x.length == y.length)=aj (x=y):=by
 intro x y;rw[bN,aG,aX,decide_eq_true_iff]
 constructor
 .rintro ⟨h1,h2⟩
  have h2:x.length=y.length:=by simpa using h2
  apply fw h2;intro i hi hj;have:=h1 i<|aN.mpr (by lia)
  simpa[hi,hj]using this
 .rintro rfl
  exact#[λj _=>by simp,by simp]
def We(h:cc)(r:List Int)(v:ao):Prop:=∃a o us m,v=.ref a/\h.get? a=aa o/\o.cls=.type "tuple"/\o.data=.seq us.toArray m/\Vals (r.map V.int) us
def We.lat(k:Sq.Lat h h')(R:We h r v):We h' r v:=by
 obtain⟨a,o,us,m,e,ho,hc,hd,hv⟩:=R;exact#[a,o,us,m,e,k _ _ ho,hc,hd,hv]
def vy(hx:We s.heap x v)(hy:We s.heap y u)(hu:A.units<dA):im A s v u (aj<|x=y):=by
 obtain⟨a,o,us,m,rfl,ho,hc,hd,hv⟩:=hx;obtain⟨b,o',us',m',rfl,ho',hc',hd',hv'⟩:=hy;have l1:us.toArray.size=x.length:=by rw[aB,<-hv.length,aq]
 have l2:us'.toArray.size=y.length:=by rw[aB,<-hv'.length,aq]
 by_cases e:a=b
 .subst e
  rw[ho]at ho';cases ho';rw[hd]at hd';injection hd' with h1 h2
  have h1:us=us':=by simpa using h1
  subst h1;rw[T5<|Vq hv hv'];exact iG _
 .refine ke e ?_
  have:=kI #[o,ho,hc,m,hd] #[o',ho',hc',m',hd'] hu (λj h1 h2=>by
   obtain⟨t,e1⟩:=Gh (by simpa using h1) hv
   obtain⟨t',e2⟩:=Gh (by simpa using h2) hv'
   rw[show us.toArray[j]=us[j]'(by simpa using h1) by simp,show us'.toArray[j]=us'[j]'(by simpa using h2) by simp,e1,e2]
   exact ny _ _ _ _)
  rw[l1,l2,Zgj]at this;exact this
def yd{E:ao->au->Prop}{Q:ao->au->Prop}(hx:We s.heap x v)(hy:We s.heap y u)(hu:A.units<dA)(q:Q (.bool<|ltI x y) s):aY (aT prog w) A (cr .Lt v u) Q E s:=by
 obtain⟨a,o,us,m,rfl,ho,hc,hd,hv⟩:=hx;obtain⟨b,o',us',m',rfl,ho',hc',hd',hv'⟩:=hy;exact Zdp ho hc hd hv ho' hc' hd' hv' hu q
noncomputable def Q6(fin:Bool):List (List Int)->List (List Int)->Bool
 |[],_=>fin
 |_::_,[]=>fin
 |a::x,b::y=>if a=b then Q6 fin x y else ltI a b
theorem zb:∀(x y:List (List Int)),Q6 (aj<|x.length<y.length) x y=ltP x y
 |[],[]=>rfl
 |[],_::_=>by unfold Q6 ltP;simp
 |_::_,[]=>by unfold Q6 ltP;simp
 |a::x,b::y=>by
  unfold Q6 ltP;have:aj ((a::x).length<(b::y).length)=aj (x.length<y.length):=by simp
  rw[this,zb x y]
inductive RowsIn(h:cc):List (List Int)->List ao->Prop where
 |nil:RowsIn h [] []
 |cons {r:List Int} {rs:List (List Int)} {v:ao} {vs:List ao} (a:We h r v) (t:RowsIn h rs vs):RowsIn h (r::rs) (v::vs)
theorem RowsIn.lat(k:Sq.Lat h h'):∀{rs:List (List Int)}{vs:List ao},RowsIn h rs vs->RowsIn h' rs vs
 |_,_,.nil=>.nil
 |_,_,.cons a t=>.cons (a.lat k)<|RowsIn.lat k t
theorem RowsIn.length :∀{rs:List (List Int)}{vs:List ao},RowsIn h rs vs->rs.length=vs.length
 |_,_,.nil=>rfl
 |_,_,.cons _ t=>by rw[aF,aF,RowsIn.length t]
theorem yY{C:Bool->au->Prop}(hu:A.units<dA):∀{x y:List (List Int)}{u v:List ao}{i:Nat},RowsIn s.heap x u->RowsIn s.heap y v->C (Q6 fin x y) s->pT prog w A am fin C (u.zip v) i s
 |[],_,_,_,_,.nil,_,h=>by rw[g6];exact iN h
 |_::_,[],_,_,_,_,.nil,h=>by rw[gD];exact iN h
 |a::x,c::y,_,_,i,.cons ra ta,.cons rb tb,h=>by
  rw[b9];refine oP<|vy ra rb hu prog w _ _ ?_;unfold Q6 at h;by_cases e:a=c
  .rw[T9 e]at h
   rw[T5 e];exact o5<|yY hu ta tb h
  .rw[T8 e]at h
   rw[T4 e];refine pU ?_;exact o6 _ _<|yd ra rb hu h
open Ev (E Sm Fn Bop Cop Ty Bf Mf Xj ZH Yq Yi)
section
variable{B:Type}{lt:B->B->Bool}{df:B}
theorem Zho(O:StrictB lt){rs:List B}{n:Nat}(hn:rs.Nodup)(hl:rs.length=n):Sq.Ord n (λi j=>lt (rs.getD i df)<|rs.getD j df):=by
 have hd:∀i j,i<n->j<n->i≠j->rs.getD i df≠rs.getD j df:=λi j hi hj ne e=>by
  simp only[aA]at e;have hi':i<rs.length:=by lia
  have hj':j<rs.length:=by lia
  refine ne<|(e8 hi' hn).mp ?_;rw[ag hi',ag hj']at e ⊢;exact congrArg aa e
 exact#[λi j hi hj ne e=>O.tot (hd i j hi hj ne) e,λi j _ _ e=>O.asy e,λi j k _ _ _ e f=>O.tr e f]
theorem ZgQ(O:StrictB lt)(hn:rs.Nodup)(h1:Sq.Pm rs.length p)(h2:Sq.Up (Sq.ltR b rs.length λi j=>lt (rs.getD i df)<|rs.getD j df) p rs.length) :
  (p.toList.map λi=>(be b rs).getD i df)=ZG lt rs:=by
 have hp:p.toList.Perm (aE rs.length):=by simpa using bB.mp h1
 have hl:p.toList.length=rs.length:=by rw[hp.length_eq,a7]
 refine YY O ?_ ?_<|Yu O hn
 .refine((hp.map _).trans ?_).trans (Z2 rs).symm
  have e:(aE rs.length).map (λi=>(be b rs).getD i df)=be b rs:=by
   apply bV
   intro i;rw[aH];by_cases h:i<rs.length
   .have:i<(be b rs).length:=by rw[eS];exact h
    rw[bO h];simp[this]
   .have:(be b rs).length<=i:=by rw[eS];lia
    simp[fm h,this]
  rw[e];exact Ut b rs
 .rw[bD,bo]
  intro i j hi hj hij;have g1:p.toList[i]=Sq.g p i:=by
   have:=Sq.jH (by simpa using hi)
   rw[<-aZ,ag hi]at this;exact ak this
  have g2:p.toList[j]=Sq.g p j:=by
   have:=Sq.jH (by simpa using hj)
   rw[<-aZ,ag hj]at this;exact ak this
  rw[g1,g2,Xn (h1.lt (by lia)),Xn<|h1.lt (by lia)]
  have:=h2 i j hij (by lia)
  cases b
  .exact this
  .exact this
def uQ{O:Mx}{H:Hp}{enc:B->D}{F:List Nat}{xs:List V}{rs:List B}(h:Reps O H (rs.map enc) xs)(hF:∀i∈F,i<rs.length):Reps O H ((F.map λi=>rs.getD i df).map enc) (F.map λi=>xs.getD i V.non):=by
 induction F with
 |nil=>exact Reps.nil
 |cons i F ih=>
  refine Reps.cons ?_<|ih λj hj=>hF j<|af _ hj
  have hi:=hF i<|ai ..;obtain⟨v,g,r⟩:=h.get (by rw[aH,ag hi];rfl)
  show Rep O H (enc<|rs.getD i df) (xs.getD i V.non);rw[aA,aA,g,ag hi];exact r
end
section
variable{X:Cx}{pq:List (aP×fP)}{Z:L2.St}{H:Hp}{s:au}{O:Mx}
inductive PartsAt(h:cc):List (List (List Int))->List ao->Prop where
 |nil:PartsAt h [] []
 |cons {P:List (List Int)} {ps:List (List<|List Int)} {vs:List ao} {a:aP} {o:fP} {us:List ao} {m:Nat} (ho:h.get? a=aa o) (hc:o.cls=.type "tuple") (hd:o.data=.seq us.toArray m) (hv:RowsIn h P us) (t:PartsAt h ps vs):PartsAt h (P::ps) (.ref a::vs)
theorem RowsAt.ins{h:cc}:∀{rs:List (List Int)}{vs:List ao},RowsAt h rs vs->RowsIn h rs vs
 |_,_,.nil=>.nil
 |_,_,.cons ho hc hd hv t=>.cons #[_,_,_,_,rfl,ho,hc,hd,hv]<|RowsAt.ins t
def Qb(h:Pv.Yy (d::ds)=aa ps):∃ks a b,d=.tup ks/\Pv.Z1 ks=aa a/\Pv.Yy ds=aa b/\ps=a::b:=by
 cases d with
 |tup ks=>
  have h:(match Pv.Z1 ks,Pv.Yy ds with
   |some a,aa b=>aa (a::b)
   |_,_=>ae)=aa ps:=h
  cases q1:Pv.Z1 ks with
  |none=>rw[q1]at h;cases h
  |some a=>
   cases q2:Pv.Yy ds with|none=>rw[q1,q2]at h;cases h|some b=>rw[q1,q2]at h;exact#[ks,a,b,rfl,q1,rfl,(ak h).symm]
 |_=>exact Ev.nos h
theorem yq(I:Inv X pq Z H s):∀{ds:List D}{ps:List (List<|List Int)}{xs:List V}{its:List ao},Pv.Yy ds=aa ps->Reps O H ds xs->Vals xs its->PartsAt s.heap ps its/\ds=ps.map Pv.Za
 |[],ps,xs,its,h,r,v=>by
  subst r;cases v;cases h;exact#[.nil,rfl]
 |d::ds,ps,xs,its,h,r,v=>by
  obtain⟨x,xs',rfl,r1,r2⟩:=r;cases v with
  |cons v1 v2=>
   obtain⟨ks,a,b,rfl,q1,q2,rfl⟩:=Qb h;obtain⟨t,e⟩:=yq I q2 r2 v2;obtain⟨p,ys,rfl,hp,ry⟩:=r1.tup';cases v1;obtain⟨us,rv,⟨o,ho,hc,m,hd⟩,_⟩:=I.tuple<|SqT.of hp;obtain⟨ra,ek⟩:=Vx I q1 ry rv;exact#[.cons ho hc hd ra.ins t,by rw[e,ek];rfl]
theorem PartsAt.length :∀{ps:List (List<|List Int)}{vs:List ao},PartsAt h ps vs->ps.length=vs.length
 |_,_,.nil=>rfl
 |_,_,.cons _ _ _ _ t=>by rw[aF,aF,PartsAt.length t]
theorem PartsAt.at :∀{ps:List (List<|List Int)}{vs:List ao}(i:Nat),PartsAt h ps vs->i<vs.length->∃a o us m,vs.getD i bf=.ref a/\h.get? a=aa o/\o.data=.seq us.toArray m/\RowsIn h (ps.getD i []) us
 |_,_,_,.nil,hi=>by simp at hi
 |_,_,0,.cons ho hc hd hv t,_=>#[_,_,_,_,rfl,ho,hd,hv]
 |_,_,i+1,.cons ho hc hd hv t,hi=>by
  obtain⟨a,o,us,m,e1,e2,e3,e4⟩:=PartsAt.at i t (by simpa using hi)
  exact#[a,o,us,m,by simpa using e1,e2,e3,by simpa using e4]
theorem PartsAt.tups(k:Sq.Lat h h'):∀{ps:List (List<|List Int)}{vs:List ao},PartsAt h ps vs->(∀P∈ps,P≠[])->∃fs,o7 h' vs fs/\fs.length=vs.length/\∀v∈fs,∃r,We h' r v
 |_,_,.nil,_=>#[[],.nil,rfl,λv hv=>by cases hv]
 |_,_,.cons (P:=P) ho hc hd hv t,hn=>by
  obtain⟨fs,t1,t2,t3⟩:=PartsAt.tups k t λr hr=>hn r<|af _ hr
  have hr:=hn P<|ai ..;cases hv with
  |nil=>exact T7 rfl hr
  |cons a tl=>
   rename_i r rs v vs
   refine#[v::fs,.cons (k _ _ ho) hc hd (by simp) t1,by rw[aF,aF,t2],λz hz=>?_]
   rcases ay.mp hz with rfl|hz
   .exact#[r,a.lat k]
   .exact t3 z hz
theorem QT :∀{P P':List (List Int)}{us:List ao},RowsIn h P us->RowsIn h P' us->P=P'
 |_,_,_,.nil,.nil=>rfl
 |_,_,_,.cons r t,.cons r' t'=>by
  obtain⟨a,o,us,m,rfl,ho,_,hd,hv⟩:=r;obtain⟨a',o',us',m',e,ho',_,hd',hv'⟩:=r';cases e;rw[ho]at ho';cases ho';rw[hd]at hd';cases hd';rw[Vq hv hv',QT t t']
theorem xB(hu:A.units<dA)(R:PartsAt h ps vs)(nd:ps.Nodup)(hn:2<=vs.length->∀P∈ps,P≠[]):Sq.Asks prog w A h vs (tuples' am) (λi j=>ltP (ps.getD i [])<|ps.getD j []):=by
 refine#[λh2 s' E Q k q=>?_,yg (df:=[]) R.length nd λi j hi hj e=>?_,λi j hi hj s' C E k q=>?_]
 .obtain⟨fs,t1,t2,t3⟩:=R.tups k (hn h2)
  exact oQ (T:=.type "tuple") t1 (by lia) (λv hv=>by
   obtain⟨r,a,o,us,m,rfl,ho,hc,_,_⟩:=t3 v hv;exact λA Q E s kk qq=>iT #[o,kk _ _ ho,hc] qq) rfl q
 .obtain⟨a,o,us,m,e1,e2,e3,e4⟩:=R.at i hi
  obtain⟨a',o',us',m',f1,f2,f3,f4⟩:=R.at j hj;rw[e1,f1]at e;cases e;rw[e2]at f2;cases f2;rw[e3]at f3;cases f3;exact QT e4 f4
 .obtain⟨a,o,us,m,e1,e2,e3,e4⟩:=R.at i hi
  obtain⟨a',o',us',m',f1,f2,f3,f4⟩:=R.at j hj;rw[e1,f1];refine pV (k _ _ e2) e3 (k _ _ f2) f3<|yY hu (e4.lat k) (f4.lat k) ?_;have l1:us.toArray.size=(ps.getD i []).length:=by rw[aB,<-e4.length]
  have l2:us'.toArray.size=(ps.getD j []).length:=by rw[aB,<-f4.length]
  rw[l1,l2,zb];exact q
end
def Ux:isSubtype (.type "range_iterator") (.type "reversed")=cY am:=by rw[kn];kernel_rfl
section
variable{prog:bt}{w:bL}{A:cn}{E:ao->au->Prop}{s:au}
noncomputable abbrev jY(lo:Int)(n:Nat):fP:={cls:=.type "range_iterator",data:=.fields [gc<|lo+n-1,gc n,gc<|-1].toArray}
theorem WI{r:aP}{lo hi:Int}{t u v:rD}{Q:ao->au->Prop}(hr:IsRange s.heap r lo hi 1 t u v)(h1:-(2^62)<=lo)(h2:lo<2^62)(h3:-(2^62)<=hi)(h4:hi<2^62)
  (h:Q (.ref s.heap.objs.size) {s with heap:=s.heap.push (jY lo (hi-lo).toNat)}):aY (aT prog w) A (call (.builtin "range.__reversed__") [.ref r]) Q E s:=by
 refine cS F.slot_range_reversed #[_,hr,rfl] F.entry_range_reversed ?_<|F.args_range_reversed_1 _;unfold dD.«range.__reversed__»;refine ab<|cM rfl ?_;refine ab<|ab<|cK hr rfl rfl ?_;refine ab<|cM rfl ?_;refine ab<|cK hr rfl rfl ?_;refine ab<|cM rfl ?_;refine ab<|cK hr rfl rfl ?_;refine ab<|cM rfl ?_;refine ax ?_
 have hn:gG lo hi 1=((hi-lo).toNat:Int):=by rw[rangeSize_one];split<;>lia
 have hs:(cB lo&&cB hi&&cB 1&&cB (-1)&&cB (lo-1)&&cB (gG lo hi 1))=al:=by
  rw[hn];simp only[cB,aG,T0];lia
 simp only[hs,fK,b8,if_false,if_true];refine ab<|b6<|ax #[_,rfl,?_];rw[hn];have e:lo+(((hi-lo).toNat:Int)-1)*1=lo+((hi-lo).toNat:Int)-1:=by lia
 simp only[e];exact h
def WE{r:aP}{lo hi:Int}{t u v:rD}{Q₁:ao->au->Prop}(hr:IsRange s.heap r lo hi 1 t u v)(h1:-(2^62)<=lo)(h2:lo<2^62)(h3:-(2^62)<=hi)(h4:hi<2^62)
  (h:Q₁ (.ref s.heap.objs.size) {s with heap:=s.heap.push (jY lo (hi-lo).toNat)}) :
  fC (aT prog w) A (.call (.builtin "reversed.__new__") #[[.type "reversed",.ref r],[]]) (wants Q₁ E) s:=by
 refine iK ?_;refine ab<|cM (F.newCall_reversed_1 _)<|ax #[k5 mI _,eU F.entry_reversed_new ?_];rw[dU mI _];unfold dD.«reversed.__new__»;refine ab<|cM (newClass_reversed _) ?_
 try dsimp only
 refine ab (cM (by first|rfl|kernel_rfl) ?_)
 refine ab (cM (by first|rfl|kernel_rfl) ?_)
 try dsimp only
 refine ab<|gq #[_,hr,rfl] F.slot_range_reversed.lookup ?_
 try dsimp only
 refine ab<|cM (F.slot_range_reversed.bind _) ?_
 try dsimp only
 first
 |rw[T8 (aI)]
 |(rw[T8<|show¬((ao.builtin "range.__reversed__" == bf)=al)from aI])
 refine ab<|eA ?_;refine ab<|WI hr h1 h2 h3 h4 ?_
 first
 |exact ax h
 |exact ab<|ax<|ax h
def WF{r:aP}{lo hi:Int}{t u v:rD}{Q:ao->au->Prop}(hr:IsRange s.heap r lo hi 1 t u v)(h1:-(2^62)<=lo)(h2:lo<2^62)(h3:-(2^62)<=hi)(h4:hi<2^62)
  (h:Q (.ref s.heap.objs.size) {s with heap:=s.heap.push (jY lo (hi-lo).toNat)}):aY (aT prog w) A (call (.type "reversed") [.ref r]) Q E s:=by
 refine callType_other (Q₁:=λobj s₁=>obj=.ref s.heap.objs.size/\s₁={s with heap:=s.heap.push (jY lo (hi-lo).toNat)}) (by decide +kernel) F.create_reversed #[_,_,F.mro_reversed] F.made_reversed Ux (F.typeCall_reversed_1 _) (WE hr h1 h2 h3 h4 #[rfl,rfl]) ?_
 rintro obj s₁ ⟨rfl,rfl⟩
 exact#[#[_,aO _ rfl,rfl],h]
end
noncomputable def Itrv(lo:Int)(n:Nat):It:=#[λi _=>i<n,λi H x H'=>H'=H/\x=.int (lo+n-1-i),λi _=>n<=i]
def y8{P:bt}{w:bL}{K:ap}{tg:Expr}(it:aP)(lo:Int)(n:Nat):Turn P w K tg (Itrv lo n) [it] it (λi h=>IsRangeIter h it (lo+n-1+(i:Nat)*(-1)) ((n:Int)-(i:Nat))<|-1) where
 mem:=by simp
 obj:=λi h st b hb=>by
  have e:b=it:=by simpa using hb
  subst e;exact#[_,st,λv z=>by
   have z':=z;cases z']
 keep:=λi h h' st k=>k it (by simp) _ st
 item:=by
  intro X hP hw hK hc i pq s Z H E I hf st hg;subst hP hw hK;obtain⟨f0,f1,f2,f3,f4,f5⟩:=hf it (by simp)
  have W:=Walks.range (prog:=X.prog) (w:=X.w) (I.ok.hd hc) it (lo+n-1) (-1) n;refine W.item i s _ _ hg st λv h' tk hv st' kk=>?_
  obtain⟨t,rfl⟩:=hv;have I1:Inv X pq Z H {s with heap:=h',toks:=tk}:=I.turned (λb o hb e=>kk b o (by simpa using hb) e) f0 f1 f3 f4 f5
  refine#[_,rfl,vN st' rfl rfl (by decide) #[.int<|lo+n-1-i,H,I1,#[t,?_],#[rfl,rfl],st',λb hb=>(hf b hb).1]]
  have e:lo+n-1+(i:Int) * -1=lo+n-1-i:=by lia
  rw[e]
 done:=by
  intro X hP hw hK hc i pq s Z H E I hf st hg;subst hP hw hK;obtain⟨f0,f1,f2,f3,f4,f5⟩:=hf it (by simp)
  exact lG (I.ok.hd hc) st (by have:n<=i:=hg;lia) λh' eb=>#[rfl,I.turned (t':=s.toks) (λb o hb e=>eb b o hb e) f0 f1 f3 f4 f5]
 self:=λ_ _ _ _ _ st h=>gM st h
section
variable{X:Cx}{xw:Nat->Hp->Prop}{C:Calls}{a b tg:Expr}{i j:E}{pos p p2 p3:iP}
def Zgc(ta:TA):TI:=λZ H R=>ta Z H λvs H1=>∃i j:Int,vs=[.int i,.int j]/\(-(2^62)<=i/\i<2^62/\-(2^62)<=j/\j<2^62)/\R (Itrv i (j-i).toNat) H1
theorem uH{ta:TA}(hgr:Gl X "reversed")(hmr:X.mg "reversed" = ae)(hg:Gl X "range")(hm:X.mg "range" = ae)(ha:PA X [a,b] ta)(hs:aL [a,b] X.env=[(am,cI a X.env),(am,cI b X.env)])(hs2:aL [b] X.env=[(am,cI b X.env)]) :
  PI X tg (.Call (.Name "reversed" p) [.Call (.Name "range" p2) [a,b] [] p3] [] pos) (Zgc ta):=by
 intro pq s Z H R I h;refine rG<|YT I hgr hmr (rfl)<|b4 (Calls.spliced_cons ?_) rfl rfl
 refine rG<|YT I hg hm pD<|b4 (thn (ha p3 pq s Z H _ I h) λus s1 #[vs,H1,I1,r1,q1]=>?_) (by rw[hs,hs2]) (by rw[hs2];rfl)
 obtain⟨lo,hi,e,⟨q1,q2,q3,q4⟩,q⟩:=q1;subst e;cases r1 with
 |cons r rr=>
  cases rr with
  |cons r' rr=>
   cases rr;obtain⟨t,rfl⟩:=r;obtain⟨t',rfl⟩:=r';refine call_range_2<|Calls.spliced_nil ?_;refine WF (IsRange.new ..) q1 q2 q3 q4 ?_;have I2:Inv X pq Z H1 {s1 with heap:=s1.heap.push {cls:=.type "range",data:=.fields [.int lo t,.int hi t',.int 1 s1.toks].toArray},toks:=s1.toks+1}:=I1.kept λb o e=>aw _ e
   have I3:=I2.kept (t':=s1.toks+1) (h':=(s1.heap.push {cls:=.type "range",data:=.fields [.int lo t,.int hi t',.int 1 s1.toks].toArray}).push<|jY lo (hi-lo).toNat) λb o e=>aw _ e
   refine gM (aO _ rfl) ?_;refine#[_,[(s1.heap.push {cls:=.type "range",data:=.fields [.int lo t,.int hi t',.int 1 s1.toks].toArray}).objs.size],_,_,H1,rfl,I3,y8 _ lo (hi-lo).toNat,?_,λb hb=>?_,q]
   .rw[show lo+((hi-lo).toNat:Int)-1+((0:Nat):Int)*(-1)=lo+((hi-lo).toNat:Int)-1 by lia,show(((hi-lo).toNat:Nat):Int)-((0:Nat):Int)=((hi-lo).toNat:Int) by lia]
    exact aO _ rfl
   .have e:b=(s1.heap.push {cls:=.type "range",data:=.fields [.int lo t,.int hi t',.int 1 s1.toks].toArray}).objs.size:=by simpa using hb
    subst e;exact I2.fpOk (aM _)<|I2.hok.fresh<|aM _
theorem xi{lo:Int}{n i:Nat}(h:i<n):(Pv.ZU lo n).reverse[i]?=aa (.int<|lo+n-1-i):=by
 unfold Pv.ZU;rw[<-fY,aH,h7 (by simpa using h),a7,bO (by lia)]
 simp only[o9]
 congr 2
 lia
def uE{K:ap}{O:Mx}{H:Hp}{lo:Int}{n:Nat}:WRel K O H (Pv.ZU lo n).reverse (Itrv lo n) where
 go:=λi ρ' S' H' f st hi=>by
  have hi':i<n:=by simpa[Pv.ZU]using hi
  refine#[hi',λx H'' #[e,hx]=>?_]
  subst e hx;refine#[Fut.refl _ _,st,λd hd=>?_]
  rw[xi hi']at hd;cases hd;exact ZS _
 stop:=λρ' S' H' f st=>by show n<=((Pv.ZU lo n).reverse).length;simp[Pv.ZU]
def ZcW(hmr:X.mg "reversed" = ae)(hm:X.mg "range" = ae)(ha:CA X xw C [a,b] [i,j])(hgr:Gl X "reversed")(hg:Gl X "range")(hs:aL [a,b] X.env=[(am,cI a X.env),(am,cI b X.env)])(hs2:aL [b] X.env=[(am,cI b X.env)]) :
  CW X xw C tg (.Call (.Name "reversed" p) [.Call (.Name "range" p2) [a,b] [] p3] [] pos) (.rrng i j):=.mk <|
 PI.imp (uH hgr hmr hg hm ha.h hs hs2) λZ H Q #[O,l,S,st,lr,h]=>Zbz st lr h λx y S1 ρ1 H1 v u st1 rv ru h1=>by
  cases x with
  |int n=>cases y with
   |int m=>
    obtain⟨hs,h3⟩:=End.guard h1;obtain⟨s1,s2⟩:=(aG _ _).mp hs;exact#[n,m,by rw[rv.int',ru.int'],#[(Yo s1).1,(Yo s1).2,(Yo s2).1,(Yo s2).2],End.ok (rep:=WRel X.K) h3 st1 uE]
   |_=>exact False.elim h1
  |_=>exact False.elim h1
end
open PySem.SeqAt PySem.MeetsSeq PySem.MeetsSeq2 PySem.MeetsSeq3 PySem.SeqRoads2
open PySem.AutoSeq1 (wpAny_loadPart')
def wA(l b:aP)(u v:List ao)(n n2:Nat)(dd dd2:Option aP)(sl sl2:Array (Option ao))(x y:List (List Int)) :
  pI (dD.«tuple.__lt__» #[[.ref l,.ref b],[]]) (λA R s=>s.heap.get? l=aa {cls:=.type "tuple",dict:=dd,data:=.seq u.toArray n,slots:=sl}/\s.heap.get? b=aa {cls:=.type "tuple",dict:=dd2,data:=.seq v.toArray n2,slots:=sl2}/\A.units+1<dA/\RowsIn s.heap x u/\RowsIn s.heap y v/\R (.ok<|.ret<|.bool<|ltP x y) s):=
 .of_wp λprog w A R s h=>by
  obtain⟨hp,g,d,tk,os⟩:=s;obtain⟨hl,hb,hu,hx,hy,h⟩:=h;have f2:=dP;rw[<-zb]at h
  wp_walk using iO hl,iO hb,ir _ (λrest b s'=>b.1=ae/\s'=#[hp,g,d,tk,os]/\∃x' y' u' v',rest=rK u' v'/\RowsIn hp x' u'/\RowsIn hp y' v'/\R (.ok<|.ret<|.bool<|Q6 (aj<|x.length<y.length) x' y') #[hp,g,d,tk,os]) _
  case turn=>
   rintro ⟨a,c⟩ rest b s' ⟨hb',rfl,x',y',u',v',hz,hx',hy',hR⟩
   match x',y',u',v',hx',hy',hz,hR with
   |i::x',j::y',_::u',_::v',.cons ra ta,.cons rb tb,hz,hR=>
    rw[b9]at hz;injection hz with h1 h2
    cases h1;unfold Q6 at hR;refine ab<|vy ra rb (by lia) prog w _ _ ?_
    by_cases e:i=j
    .rw[T9 e]at hR
     rw[T5 e]
     wp_walk
     exact#[rfl,rfl,x',y',u',v',h2,ta,tb,hR]
    .rw[T8 e]at hR
     rw[T4 e];simp only[mH,if_true];refine ab<|eA<|ab<|yd ra rb (by lia) ?_
     wp_walk
     exact#[_,rfl,by simpa using hR]
   |[],_,_,_,.nil,_,hz,_=>rw[g6]at hz;cases hz
   |_::_,[],_,_,_,.nil,hz,_=>rw[gD]at hz;cases hz
  case fin=>
   rintro ⟨b1,b2⟩ s' ⟨hb',rfl,x',y',u',v',hz,hx',hy',hR⟩
   simp only at hb';subst hb';have hf:Q6 (aj<|x.length<y.length) x' y'=aj (x.length<y.length):=by
    match x',y',u',v',hx',hy',hz with
    |[],_,_,_,_,_,_=>rfl
    |_::_,[],_,_,_,_,_=>rfl
    |_::_,_::_,_::_,_::_,.cons _ _,.cons _ _,hz=>rw[b9]at hz;cases hz
   rw[hf]at hR;have l1:u.length=x.length:=by rw[<-hx.length]
   have l2:v.length=y.length:=by rw[<-hy.length]
   wp_walk
   exact#[_,rfl,by simpa[hV,l1,l2]using hR]
  case h=>
   exact#[rfl,rfl,x,y,u,v,by simp,hx,hy,h]
def ZaD{E:ao->au->Prop}{Q:ao->au->Prop}(ha:s.heap.get? a=aa o)(hc:o.cls=.type "tuple")(hd:o.data=.seq u.toArray m)(hx:RowsIn s.heap x u)
  (hb:s.heap.get? b=aa o')(hc':o'.cls=.type "tuple")(hd':o'.data=.seq v.toArray m')(hy:RowsIn s.heap y v)(hu:A.units+3<dA)(q:Q (.bool<|ltP x y) s):aY (aT prog w) A (cr .Lt (.ref a)<|.ref b) Q E s:=by
 obtain⟨cls,dd,data,sl⟩:=o;obtain⟨cls2,dd2,data2,sl2⟩:=o';simp only at hc hd hc' hd';subst hc hd hc' hd';exact lT (op:=.Lt) #[_,ha,rfl] #[_,hb,rfl] o8 oR (nZ _ _) (wA a b u v m m' dd dd2 sl sl2 x y) #[ha,hb,by first|exact hu|(lia)|lia,hx,hy,#[(λx=>nomatch x),q]] (by lia)
def wM(hu:X.A.units+7<dA):Xt X xw .Lt .lt:=by
 intro pq s Z H v0 u0 v u Q I rv ru #[O,S,x,y,st,rx,ry,h];rcases ZgG st rx ry h with z|⟨a,b,A,B,rfl,rfl,hA,hB,q⟩
 .exact Zgv pq s Z H v0 u0 v u Q I rv ru z
 .obtain⟨p1,xs,rfl,hp1,r1⟩:=rx.tup'
  obtain⟨p2,ys,rfl,hp2,r2⟩:=ry.tup';cases rv;cases ru;obtain⟨us,w1,⟨o,ho,hc,m,hd⟩,_⟩:=I.tuple<|SqT.of hp1;obtain⟨us',w2,⟨o',ho',hc',m',hd'⟩,_⟩:=I.tuple<|SqT.of hp2;obtain⟨ra,_⟩:=Vx I hA r1 w1;obtain⟨rb,_⟩:=Vx I hB r2 w2;exact ZaD ho hc hd ra.ins ho' hc' hd' rb.ins (by lia) #[.bl<|ltP A B,H,I,rfl,q]
end Sd
namespace Sd
open PySem PySem.Spec PyProof.Rows L2
open Ev (E Sm Fn Bop Cop Ty Bf Mf)
section
variable{X:Cx}{xw:Nat->Hp->Prop}{fr:Bool}{C:Calls}{ns:List Nat}{e a:Expr}{i:E}{pos p p' p2:iP}{n:Nat}{x:bI}{q:Option bI}
def Zb8{q}(ha:CE X xw C a i):CE X xw C (.Subscript a (.Constant (.int 0) q p2) pos) (.dix i am):=.mk <| PE.imp (je GE ha.h Gp<|by intro _ _;with_unfolding_all rfl)<|by
 rintro Z H Q ⟨O,l,S,st,lr,h⟩;rw[Pv.pv]at h;refine#[O,l,S,st,lr,h.bind λx S1 ρ1 H1 v f1 st1 r1 h1=>?_]
 cases x with|drw=>obtain⟨p,rfl,hn⟩:=r1.drw';exact#[p,_,0,_,rfl,rfl,SqL.of (st1.dw p hn).1,rfl,End.ok h1 st1<|ZS _]|_=>exact h1.elim
def Zdl{q}(ha:CE X xw C a i):CE X xw C (.Subscript a (.Constant (.int 1) q p2) pos) (.dix i al):=.mk <| PE.imp (je GE ha.h Gp<|by intro _ _;with_unfolding_all rfl)<|by
 rintro Z H Q ⟨O,l,S,st,lr,h⟩;rw[Pv.pv]at h;refine#[O,l,S,st,lr,h.bind λx S1 ρ1 H1 v f1 st1 r1 h1=>?_]
 cases x with|drw=>obtain⟨p,rfl,hn⟩:=r1.drw';exact#[p,_,1,_,rfl,rfl,SqL.of (st1.dw p hn).1,rfl,End.ok h1 st1<|Ym _]|_=>exact h1.elim
def ZbO{q}(he:CE X xw C e i)(hN:X.N[n]?=aa x)(hv:Vis X.env.scope x)(hd:(x == ("__debug__" : bI))=am)
  (hcd:(x == ("__classdict__" : bI))=am)
  (ha:∀v,dQ (.Subscript (.Name x p') (.Constant (.int 0) q p2) p) X.env v=(do
   let ov <-fV [v] (cI (.Name x p') X.env)
   let iv <-fV [v,ov] (cI (.Constant (.int 0) q p2) X.env)
   kD p
   fV [v,ov,iv] (rA ov iv v)
   release [v,ov,iv] []))(hs:dN [.Subscript (.Name x p') (.Constant (.int 0) q p2) p] e pos.line X.env=cY am)(hw:dO [.Subscript (.Name x p') (.Constant (.int 0) q p2) p] e X.env=cY ae)
  (h1:(cA [.Subscript (.Name x p') (.Constant (.int 0) q p2) p] X.env).map (·.2)=[dQ (.Subscript (.Name x p') (.Constant (.int 0) q p2) p) X.env]):CS X xw fr C ns (.Assign [.Subscript (.Name x p') (.Constant (.int 0) q p2) p] e pos) (.dset n i):=.mk <|
 PS.imp (VU he.h (jI (Gc hN hv hd hcd) Gp (zH (X:=X)) ha) hs hw h1)<|by
 rintro D Z H ⟨O,H0,W,l,os,S,st,en,h⟩;rw[Pv.rv]at h;refine#[O,l,S,st,en.all,Zx.bind en h λy S1 H1 v f1 st1 r1 h1=>?_]
 cases y with
 |int y=>
  obtain⟨hk,h1⟩:=h1.guard;have hx:l[n]?=aa (aa .drw):=by
   cases z:l[n]? with
   |none=>rw[z]at h1;exact h1.elim
   |some o=>cases o with
    |none=>rw[z]at h1;exact h1.elim
    |some d=>cases d<;>rw[z]at h1<;>first|rfl|exact h1.elim
  rw[hx]at h1;obtain⟨u,hu,r⟩:=(en.mono f1).all.val n .drw hx;obtain⟨a,rfl,hn⟩:=r.drw';obtain⟨e1,_⟩:=st1.dw a hn;refine#[.ref a,hu,a,_,0,0,rfl,rfl,e1,rfl,?_];rw[r1.int'];have f2:Fut O H1 O (upd H1 a<|.lst [.int y,.bl S1.2]):=#[rfl,λb o z=>by
   by_cases c:b=a
   .subst c;rw[e1]at z;cases z;exact .inr<|.inl #[hn,_,rfl]
   .exact .inl (by rw[Zv c];exact z)]
  refine h1 _ Z W #[st1.hk,λb x=>?_,λb x=>?_,st1.tb.upd (λo u z=>by rw[e1]at z;cases z) λ_ z=>by cases z]<|(en.mono f1).mono f2
  .by_cases c:b=a
   .rw[c];show upd _ _ _ _≠ae;rw[ZL];intro z;cases z
   .show upd _ _ _ _≠ae;rw[Zv c];exact st1.xd b x
  .rw[hn]at x
   cases x;exact#[ZL,hk]
 |_=>exact h1.elim
end
open Ev in
noncomputable def WO:Fn:=#[2,4,
 [.ite (.dix (.v 0) al) [.asg [2]<|.bin .mod (.dix (.v 0) am)<|.v 1,
  .dset 0 (.bin .fdiv (.dix (.v 0) am)<|.v 1),
  .ret (.v 2)] [],
  .dset 0 (.bin .mod (.bin .add (.bin .mul (.dix (.v 0) am)<|.c<|.int 48271)<|.c<|.int 29)<|.c<|.int 2147483647),
  .asg [3] (.bin .mod (.bin .add (.bin .add (.bin .mul (.dix (.v 0) am)<|.dix (.v 0) am)<|.bin .mul (.c<|.int 39373)<|.dix (.v 0) am)<|.c<|.int 7)<|.c<|.int 2147483629),
  .asg [3] (.bin .mod (.bin .add (.bin .mul (.v 3)<|.v 3)<|.bin .mul (.c<|.int 16807)<|.v 3)<|.c<|.int 2147483587),
  .ret (.bin .mod (.bin .fdiv (.v 3)<|.c<|.int 8)<|.v 1)]]
open Ev Pv in
def WC(h0:0<=a)(h:a<4294967296):fits a=al:=by
 refine T5 ?_;have h1:a.natAbs<2^32:=by lia
 exact bg h1<|dy (by decide) (by decide)
open Ev Pv in
def ZaN(h:okS s.1 s.2=al)(m0:0<m)(m1:m<1073741824):yI C WO [.drw,.int m] s=.ok (.int (Wj s m).1) (Wj s m).2:=by
 obtain⟨a,b⟩:=s;have hm:muts WO.body=[]:=rfl;unfold yI;rw[hm];have ha:=T6 ((aG _ _).mp h).1;have lt8:(8:Int)<big:=Zbq (by decide)
 cases b with
 |true=>
  have o2:okS (a / m) al=al:=by simp[okS];exact Int.ediv_nonneg ha (by lia)
  simp[WO,Wj,rvs,rv,pvA,Pv.pv.eq_1,Pv.pv.eq_2,Pv.pv.eq_7,Pv.pv.eq_28,Xz,PR.bind,po,Zu,ZR,ofD,Xi,Pv.Q4,m0,m1,Zbq m1,o2,hide]
 |false=>
  have hb:a<2147483647:=by simpa using((aG _ _).mp h).2
  have h1:=WC ha (by lia)
  have x0:0<=(a*48271+29)%2147483647:=by lia
  have x1:(a*48271+29)%2147483647<2147483647:=by lia
  generalize hxx:(a*48271+29)%2147483647=x at x0 x1;have y0:0<=(x*x+39373*x+7)%2147483629:=by lia
  have y1:(x*x+39373*x+7)%2147483629<2147483629:=by lia
  generalize hyy:(x*x+39373*x+7)%2147483629=y at y0 y1;have f1:=WC x0 (by lia)
  have f2:=WC y0 (by lia)
  have f3:fits 48271=al:=WC (by lia) (by lia)
  have f4:fits 39373=al:=WC (by lia) (by lia)
  have f5:fits 16807=al:=WC (by lia) (by lia)
  have o2:okS x am=al:=by simp[okS,x0,x1]
  simp[WO,Wj,rvs,rv,pvA,Pv.pv.eq_1,Pv.pv.eq_2,Pv.pv.eq_7,Pv.pv.eq_28,Xz,PR.bind,po,Zu,ZR,ofD,Xi,Pv.Q4,m0,m1,lt8,h1,hxx,hyy,f1,f2,f3,f4,f5,o2,hide]
def ZcM{K:ap}{F:List Fn}{tk d:Nat}:∀O S H ds vs,St3 K O S H->Reps O H ds vs->Pv.Zo F tk (d+1) tk ds S=.no\/Pv.Zo F tk (d+1) tk ds S=yI (Pv.Zo F tk d) WO ds S:=λO S H ds vs st r=>by
 rw[Pv.Zo,T9 rfl];unfold Pv.ZdX;split
 .rename_i m
  obtain⟨v,u,rfl,r1,_⟩:=va r;obtain⟨a,_,hn⟩:=r1.drw';split
  .rename_i hm
   exact .inr (ZaN (st.dw a hn).2 hm.1 hm.2).symm
  .exact .inl rfl
 .exact .inl rfl
def Zcn{K:ap}{F:List Fn}{tk n d:Nat}{fn:Fn}(hn:n≠tk)(hf:F[n]?=aa fn):∀O S H ds vs,St3 K O S H->Reps O H ds vs->Pv.Zo F tk (d+1) n ds S=.no\/Pv.Zo F tk (d+1) n ds S=yI (Pv.Zo F tk d) fn ds S:=λO S H ds vs st r=>by
 rw[Pv.Zo,T8 hn,hf]
 all_goals exact .inr rfl
def ZbX(h:Pv.Qg v=aa d):v=.lst [.int d.1,.bl d.2]/\Pv.okS d.1 d.2=al:=by
 unfold Pv.Qg at h;split at h
 .split at h
  .cases h;exact#[rfl,‹_›]
  .cases h
 .cases h
def zR{l:Lc}{i:Nat}{d:D}(h:(l.map Pv.Uk)[i]?=aa (aa d)):l[i]?=aa (aa d)/\d.flat=al:=by
 rw[aH]at h;cases q:l[i]? with
 |none=>rw[q]at h;cases h
 |some o=>
  rw[q]at h;have h:=ak h;obtain⟨a,b⟩:=Option.filter_eq_some_iff.mp h;exact#[by rw[a],b]
def j4{n:Nat}{l:Lc}{i:Nat}{d:D}(h:(Pv.VD n l)[i]?=aa (aa d)):l[i]?=aa (aa d)/\d.flat=al:=by
 unfold Pv.VD at h;rw[List.getElem?_append]at h;split at h
 .obtain⟨a,b⟩:=zR h
  rw[c0]at a;split at a
  .exact#[a,b]
  .cases a
 .rw[bT]at h
  split at h<;>cases h
def zA :(Pv.VD n l).length=l.length:=by
 unfold Pv.VD;rw[ba,aq,bq,cg];omega
def tCl(X:Cx)(xw:Nat->Hp->Prop)(C:Calls)(fi:Nat)(is:List E):TE:=λZ H Q=>tA X xw (Pv.pvs C is) Z H λvs H1=>∃O ds S,St3 X.K O S H1/\Reps O H1 ds vs/\End X.K xw (WH al H1) O H1 Q (C fi ds S)
def ZeV{xw:Nat->Hp->Prop}{fi:Nat}{y:bI}{es:List Expr}{is:List E}{ss:List fU}{B:List Sm}(hc:PE X (.Call (.Name y p') (e::es) [] p) (tCl X xw C fi is))(hB:CSs X xw fr C ns ss B)(hN:X.N.Nodup)
  (hi:X.N[n]?=aa x:=by rfl)(hx:L2.Loc X.env.scope x:=by first|exact Or.inl rfl|exact oF rfl)(hf:X.fn x=al\/X.env.scope.names.lookup x=aa .local:=by first|exact .inl rfl|exact .inr rfl)
  (hs:dN [.Name x px] (.Call (.Name y p') (e::es) [] p) pos.line X.env=cY am:=by rfl)(hw:dO [.Name x px] (.Call (.Name y p') (e::es) [] p) X.env=cY ae:=by rfl)
  (h1:(cA [.Name x px] X.env).map (·.2)=[dQ (.Name x px) X.env]:=by rfl) :
  CSs X xw fr C ns (.Assign [.Name x px] (.Call (.Name y p') (e::es) [] p) pos::ss) [.cel n fi is B]:=.mk <|
 PSs.imp (zu (VU hc (J7 hN hi hx hf) hs hw h1) hB.h)<|by
 rintro D Z H ⟨O,H0,W,l,os,S,st,en,h⟩;have h:Zx fr X.K xw O H0 D (Pv.rv C ns (.cel n fi is B) l os S):=by
  rw[Pv.rvs]at h;cases q:Pv.rv C ns (.cel n fi is B) l os S with|no=>rw[q]at h;exact h|ex c s=>rw[q]at h;exact h|ok g s=>rw[q]at h;cases g<;>exact h
 rw[Pv.rv]at h;obtain⟨ho,h⟩:=h.guard;refine#[O,l,S,st,en.all,Zx.bind en h λxs S1 H1 vs f1 st1 r1 h1=>?_]
 refine#[O,xs,S1,st1,r1,Zx.bind (en.mono f1) h1 λv S2 H2 u f2 st2 r2 h2=>?_]
 obtain⟨d,hd,h3⟩:=Zx.ob h2;obtain⟨rfl,hok⟩:=ZbX hd;obtain⟨a,rfl,na⟩:=r2.2 rfl _ rfl;obtain⟨_,us,z,ea,_,ru⟩:=r2.1.lst';cases z;obtain⟨u1,u2,rfl,q1,q2⟩:=va ru;cases q1.int';cases q2.bl';have en2:=(en.mono f1).mono f2;have nX:∀q,O.X q->q≠a:=λq x z=>st1.xd q x<|z▸na
 let ρ':Mx:=#[O.K,aa a,λq=>O.X q\/q=a,λq h=>.inr (ak h).symm]
 have st':St3 X.K ρ' d H2:=#[st2.hk,λq x=>x.elim (st2.xd q) λz=>(by rw[z,ea];intro w;cases w),λq x=>(by cases x;exact#[ea,hok]),st2.tb]
 have en':Eu ρ' H2 (λ_=>ae) ((Pv.VD n l).set n<|aa .drw) [] (Z.set n<|aa<|.ref a) H2:=by
  refine#[Fut.refl _ _,st'.xd,by rw[bH,bH,zA];exact en.len,λ_=>rfl,λ_ _ _ z=>?_,λ_ _ z=>?_,λ_ _ z=>?_,λi w q _=>?_]
  .cases z
  .cases z
  .cases z
  .rcases GL q with⟨rfl,z,hl⟩|⟨c,z⟩
   .cases z
    exact#[.ref a,bZ (by rw[<-en.len,<-zA];exact hl),by exact#[a,rfl,rfl]]
   .obtain⟨z,hfl⟩:=j4 z
    obtain⟨v,hv,r⟩:=en2.all.val i w z;exact#[v,by rw[bj c];exact hv,Rep.flat (O:=O) (ρ':=ρ'.ex λ_=>ae) rfl (λ_ _ z _ _=>z) hfl r]
 have n0:∀{b},b≠a->ρ'.n0≠aa b:=λc w=>T7 (ak w).symm c
 have keep:∀{H'},Fut ρ' H2 ρ' H'->∀b o,b≠a->H2 b=aa o->(∀ps,o≠.tbl ps)->H' b=aa o:=λ{H'} f b o c z n=>(f.keep b o z).elim id λw=>w.elim (λw=>T7 w.1<|n0 c) λ#[#[ps,e],_]=>T7 e<|n ps
 have back:∀{H':Hp}{s:Zy},Fut ρ' H2 ρ' H'->St3 X.K ρ' s H'->St3 X.K O S2 H'/\Fut O H0 O H':=λ{H' s} f w=>by
  refine#[#[st2.hk,λq x=>?_,λq x=>?_,w.tb],rfl,λb o z=>?_]
  .exact f.there (n0<|nX q x)<|st2.xd q x
  .obtain⟨e1,e2⟩:=st2.dw q x
   exact#[keep f q _ (nX q<|O.xz q x) e1 (by intro _ z;cases z),e2]
  .have ne:b≠a:=λc=>by rw[c,zZ (en.mono f1) st1 na]at z;cases z
   rcases en2.fut.keep b o z with y|y|⟨e,ps,y⟩
   .rcases f.keep b o y with q|q|q
    .exact .inl q
    .exact T7 q.1<|n0 ne
    .exact .inr<|.inr q
   .exact .inr<|.inl y
   .rcases f.keep b _ y with q|⟨_,xs,q⟩|⟨_,q⟩
    .exact .inr<|.inr #[e,ps,q]
    .cases q
    .exact .inr<|.inr #[e,q]
 have backE:∀{H':Hp}{s:Zy}{W':Own}{l':Lc}{os':List Nat}{σ':L2.St},Eu ρ' H2 W' l' os' σ' H'->St3 X.K ρ' s H'->St3 X.K O S2 H'/\Eu O H0 (λ_=>ae) (l'.map Pv.Uk) [] σ' H':=λ{H' s W' l' os' σ'} g w=>by
  obtain⟨a1,a2⟩:=back g.fut w;refine#[a1,a2,en.xd,by rw[aq];exact g.len,λ_=>rfl,λ_ _ _ z=>?_,λ_ _ z=>?_,λ_ _ z=>?_,λi w q _=>?_]
  .cases z
  .cases z
  .cases z
  .obtain⟨z,hfl⟩:=zR q
   obtain⟨v,hv,r⟩:=g.all.val i w z;exact#[v,hv,Rep.flat (O:=ρ') (ρ':=O.ex λ_=>ae) rfl (λ_ _ z _ _=>z) hfl r]
 refine#[ρ',H2,λ_=>ae,_,[],d,st',en',?_]
 cases q:Pv.rvs C ns B ((Pv.VD n l).set n<|aa .drw) [] d with
 |no=>rw[q]at h3;exact h3
 |ex c s=>rw[q]at h3;exact h3.elim
 |ok g s=>
  rw[q]at h3;cases g with
  |nx l' os'=>exact λH' σ' W' w g=>let #[a1,a2]:=backE g w;h3 H' σ' _ a1 a2
  |brk l' os'=>exact λH' σ' W' w g=>let #[a1,a2]:=backE g w;h3 H' σ' _ a1 a2
  |cnt l' os'=>exact λH' σ' W' w g=>let #[a1,a2]:=backE g w;h3 H' σ' _ a1 a2
  |ret v=>
   obtain⟨hfl,h3⟩:=Zx.guard h3;exact λH' v' f w r=>let #[a1,a2]:=back f w;h3 H' v' a2 a1 #[Rep.flat (O:=ρ') (ρ':=O) rfl (λ_ _ z _ _=>z) hfl r.1,λ_ ds z=>by rw[z]at hfl;cases hfl]
open Ev (ltI Xj ZH Yq)
section
variable{prog:bt}{w:bL}{A:cn}{E:ao->au->Prop}{s:au}{d:aP}{ep:Nat}{od:fP}{es:Array iZ}
def jv{T:String}{r:aP}{n:Nat}{P:Nat->ao->Prop}{OK:cc->Prop}{R:List ao->au->Prop}(K:mJ prog w T r d n P OK)(hh:A.handled=ae)(hok:OK s.heap)(hn:n<=bx)
  (h:∀h' tk acc,(∀b o,s.heap.get? b=aa o->h'.get? b=aa o)->s.heap.objs.size<=h'.objs.size->ItemsOf P acc n->R acc.toList {s with heap:=h',toks:=tk}):aY (aT prog w) A (collect<|.ref r) R E s:=by
 obtain⟨l1,l2⟩:=K.there _ hok
 let S:=s.heap.objs.size
 have hS:(s.heap.push {cls:=.type "list",data:=.seq #[]}).get? S=aa {cls:=.type "list",data:=.seq #[]}:=aO _ rfl;have fin:∀{h':cc}{tk c:Nat}{acc:Array ao},(∀b o,b≠S->(s.heap.push {cls:=.type "list",data:=.seq #[]}).get? b=aa o->h'.get? b=aa o)->h'.get? S=aa {cls:=.type "list",dict:=ae,data:=.seq acc c,slots:=#[]}->ItemsOf P acc n->R acc.toList {s with heap:=h',toks:=tk}:=
  λk e i=>h _ _ _ (λb o z=>k b o (bz<|aJ z)<|aw _ z) (gL<|aJ e) i
 unfold collect;refine ab<|wpAny_runValue<|eU entry_proto_collect' ?_;rw[dU PySem.F.plain_proto_collect _];refine ab (m:=newList [])<|b6<|ax #[k5 lx _,eU entry_list_iadd' ?_];rw[dU lx _];show aY _ A.in1 (dD.List.listExtendWith (.ref S) (.ref r)<|.ref S) _ _ {s with heap:=s.heap.push {cls:=.type "list",data:=.seq #[]}}
 refine cV (PySem.W.kdl_extend (A:=A) (R:=λq s'=>∃h' tk acc c,q=.ok (.ret<|.ref S)/\s'={s with heap:=h',toks:=tk}/\h'.get? S=aa {cls:=.type "list",dict:=ae,data:=.seq acc c,slots:=#[]}/\R acc.toList s') K hh (K.keep _ _ hok λb _ o e=>aw _ e) S (fW l1) (fW l2) _ 0 hS (λh' tk acc c k e i=>#[h',tk,acc,c,rfl,rfl,e,fin k e i]) hn) (λf s' x=>?_) λe s' x=>?_
 .cases f with
  |done f=>
   obtain⟨h',tk,acc,c,z,rfl,e,q⟩:=x;cases z;exact ab (m:=load S)<|lE e<|ax q
  |again c'=>
   refine#[x.1,gP x.2 λy s2 z=>?_]
   obtain⟨h',tk,acc,c,rfl,rfl,e,q⟩:=z;exact ab (m:=load S)<|lE e<|ax q
 .obtain⟨_,_,_,_,z,_⟩:=x
  cases z
end
section
variable{X:Cx}{xw:Nat->Hp->Prop}{fr:Bool}{C:Calls}{ns:List Nat}{e a b c tg:Expr}{i j k:E}{pos p p' p2 dp:iP}{n:Nat}{x:bI}
theorem ze:∀ks:List (List Int),Pv.Z1 (ks.map Pv.Zd)=aa ks
 |[]=>rfl
 |k::ks=>by
  have hi:∀k:List Int,Pv.intsV (k.map Pv.V.int)=aa k:=λk=>by
   induction k with|nil=>rfl|cons n k ih=>show(Pv.intsV<|k.map Pv.V.int).map (n :: ·)=_;rw[ih];rfl
  show(match Pv.intsV (k.map Pv.V.int),Pv.Z1 (ks.map Pv.Zd)with|some a,aa b=>aa (a::b)|_,_=>ae)=_
  rw[hi,ze ks]
end
end Sd
namespace Sd
open PySem PySem.Spec PyProof.Rows
def SetAt.store{h:cc}{a:aP}{o:fP}{es es':Array (Int×ao)}{ep:Nat}{t t':c9}(ho:h.get? a=aa o)(hd:o.data=.set es ep t):(h.update a<|pW es' t').get? a=aa {o with data:=.set es' (ep+1) t' }:=by
 have:=eJ (pW es' t') ho (by rw[putSet_of es' t' hd];rfl)
 rwa [putSet_of es' t' hd]at this
noncomputable def WJ(w:bL):Bool:=!w.params.followText "set-order"
section
variable{prog:bt}{w:bL}{A:cn}{E:ao->au->Prop}{s:au}
def ZcB(a:ao){Q:ao->au->Prop}(h:Q (.ref s.heap.objs.size) {s with heap:=s.heap.push {cls:=.type "set",dict:=ae,data:=.set #[] 0 (.fresh 0 0<|WJ w)}}) :
  fC (aT prog w) A (.call (.builtin "set.__new__") #[[.type "set",a],[]]) (wants Q E) s:=by
 refine iK ?_;show aY _ A.in1 (do checkBuiltinCall "set.__new__" #[[.type "set",a],[]];rj (.builtin "set.__new__" #[[.type "set",a],[]])) _ _ s;refine ab<|cM (F.newCall_set_1 a)<|ax #[k5 pb _,eU F.entry_set_new ?_];rw[dU pb _];unfold dD.«set.__new__» dD.Frozenset.newClass;have hsub:=sub_set_self;obtain⟨hp,g,d,tk,os⟩:=s
 dsimp only
 wp_walk
 refine fq<|ax ?_;dsimp only;simp only[newObj];exact ab<|wpAny_alloc<|ax<|ax h
end
def Vj:Slot "set_iterator" "__next__" "set_iterator.__next__":=.of (owner:="set_iterator") (n:="__next__") (by rw[typeLookup_type,mn];kernel_rfl) (by decide +kernel) (by decide +kernel) (by decide +kernel) (by first|(left;decide +kernel)|(right;decide +kernel)) (by rw[kn];kernel_rfl)
def yV:Slot "set_iterator" "__iter__" "set_iterator.__iter__":=.of (owner:="set_iterator") (n:="__iter__") (by rw[typeLookup_type,mn];kernel_rfl) (by decide +kernel) (by decide +kernel) (by decide +kernel) (by first|(left;decide +kernel)|(right;decide +kernel)) (by rw[kn];kernel_rfl)
def ut:entryFor table "set_iterator.__next__" = aa dD.«set_iterator.__next__»:=entryFor_of_tree (by kernel_rfl)
def uT:entryFor table "set_iterator.__iter__" = aa dD.«dict_keyiterator.__iter__»:=entryFor_alias (id':="dict_keyiterator.__iter__") (by kernel_rfl) rfl (by decide +kernel) (by kernel_rfl)
def wq:entryFor table "set.__iter__" = aa dD.«frozenset.__iter__»:=entryFor_alias (id':="frozenset.__iter__") (by kernel_rfl) rfl (by decide +kernel) (by kernel_rfl)
def jJ:Manifest.owners.lookup (String.ofList ['r','o','t','a','r','e','t','i','_','t','e','s'].reverse)=aa Manifest.sig_set_iterator:=by kernel_rfl
def ZaW(a:ao):argsOk "set_iterator.__next__" #[[a],[]]:=by unfold argsOk;rw[signature?_of (id:="set_iterator.__next__") (n:=['_','_','t','x','e','n','_','_']) (o:=['r','o','t','a','r','e','t','i','_','t','e','s']) (by kernel_rfl) jJ];kernel_rfl
def Za9(a:ao):argsOk "set_iterator.__iter__" #[[a],[]]:=by unfold argsOk;rw[signature?_of (id:="set_iterator.__iter__") (n:=['_','_','r','e','t','i','_','_']) (o:=['r','o','t','a','r','e','t','i','_','t','e','s']) (by kernel_rfl) jJ];kernel_rfl
theorem wS{B:Type}{nx:Nat->Nat}:∀(n k:Nat)(l:List B)(out:Array B),l.length=n->(n4 nx n k l out).toList.Perm (out.toList++l)
 |0,k,l,out,h=>by
  cases l with|nil=>simp[n4]|cons=>cases h
 |n+1,k,l,out,h=>by
  have hj:nx k%l.length<l.length:=lV _ (by lia)
  unfold n4;rw[ag hj];refine(wS n (k+1) _ _<|by rw[List.length_eraseIdx_of_lt hj];lia).trans ?_
  rw[d3,bp];refine List.Perm.append_left _ ?_;rw[List.eraseIdx_eq_take_drop_succ];have e:=cC (nx k%l.length) l;rw[cp hj]at e;have p:(i4 (nx k%l.length) l++l[nx k%l.length]::rz (nx k%l.length+1) l).Perm (l[nx k%l.length]::(i4 (nx k%l.length) l++rz (nx k%l.length+1) l)):=ly;exact p.symm.trans (by rw[e])
noncomputable def WM(w:bL)(a:aP)(ep:Nat)(es:Array (Int×ao)):Array (Int×ao):=if w.params.followText "set-order" = al then pickOrder (w.params.setOrder a ep) es else es
def yB{w:bL}{a:aP}{ep:Nat}{es:Array (Int×ao)}:(WM w a ep es).toList.Perm es.toList:=by
 unfold WM;split
 .unfold pickOrder
  simpa using wS es.size 0 es.toList #[] (by simp)
 .exact bE _
def Vw{w:bL}{a:aP}{ep:Nat}{es:Array (Int×ao)}:(WM w a ep es).size=es.size:=by
 rw[<-aD,yB.length_eq,aD]
section
variable{prog:bt}{w:bL}{A:cn}{E:ao->au->Prop}{s:au}{a it:aP}{b i ep:Nat}{o:fP}{tg:Nat->Nat}
def ZbF{Q:Bool->au->Prop}(hT:s.TypeIs (.ref a) "set")(h:Q am s):aY (aT prog w) A (iW<|.ref a) Q E s:=by
 unfold iW;refine ab<|gq hT F.slot_set_len.lookup ?_;generalize hid:("set.__len__" : String)=id0
 wp_delta
 rw[show splitId id0=aa ("set","__len__")from by subst hid;decide +kernel];subst hid
 refine ab<|lv (T:="set") (b:=al) hT (by rw[kn];kernel_rfl) ?_;refine wpAny_ite_split (λz=>T7 z<|by decide) (λ_=>wpAny_ite_split (λ_=>ab<|iT hT<|ax h) λz=>T7 (by decide +kernel) z)
end
open L2
section
variable{prog:bt}{w:bL}{A:cn}{E:ao->au->Prop}{s:au}{d:aP}
theorem wg{T:String}{n:Nat}{P:Nat->ao->Prop}{OK:cc->Prop}{κ:fR}{lt:Nat->Nat->Bool}{vs:List ao}{Q:ao->au->Prop}(src:mJ prog w T d d n P OK)(hh:A.handled=ae)(hok:OK s.heap)(hv:∀acc,ItemsOf P acc n->acc.toList=vs)(hn:n<=100000)(hl:vs.length=n)
  (O:Sq.Ord vs.length lt)(K:Sq.Asks prog w A.in1.in1 s.heap vs κ lt)
  (h:∀p h' tk D n,Sq.Pm vs.length p->Sq.Up (Sq.ltR am vs.length lt) p vs.length->(∀b o,s.heap.get? b=aa o->h'.get? b=aa o)->s.heap.objs.size<=D->h'.get? D=aa (fv "list" (cO<|be am<|p.toList.map λi=>(be am vs).getD i bf) n)->Q (.ref D) {s with heap:=h',toks:=tk}) :
  aY (aT prog w) A (call (.builtin "sorted") [.ref d]) Q E s:=by
 refine Calls.call_function_entry kind_sorted plain_sorted entry_sorted (args_sorted1 _) ?_;unfold dD.«sorted»;refine ab (m:=checkCount "sorted" 1 1 _)<|ax ?_;refine ab<|jv (A:=A.in1) src hh hok (by rw[cU];lia) λh1 tk acc hk big hacc=>?_
 rw[hv acc hacc];refine ab<|m9 ?_ (by rw[cU];lia)
 have hoL:(h1.push<|fv "list" vs.toArray 0).get? h1.objs.size=aa (fv "list" vs.toArray 0):=aO _ rfl;show aY _ _ _ _ _ {s with heap:=h1.push<|fv "list" vs.toArray 0,toks:=tk}
 refine ab (ck (cS slot_list_sort #[_,hoL,rfl] entry_list_sort (by
  rw[Sq.uW];exact Sq.list_sort_rev (h0:=s.heap) hoL (by lia) (λb o e=>by
   have hlt:b<h1.objs.size:=aJ<|hk b o e;exact#[bz hlt,aw _<|hk b o e]) O K λp a1 a2=>#[_,rfl,ax #[_,rfl,by
    obtain⟨n,hn⟩:=sortedHeap_at (out:=cO<|be am<|p.toList.map λi=>(be am vs).getD i bf) hoL
    exact h p _ tk _ n a1 a2 (λb o e=>by
     have hlt:b<h1.objs.size:=aJ<|hk b o e;rw[sortedHeap_old (bz hlt) (by rw[pR];exact dE hlt)]
     exact aw _<|hk b o e) big hn]])<|args_list_sort _))
end
open Ev (E Sm Fn Bop Cop Ty Bf Mf)
end Sd
namespace Sd
open PySem PySem.Spec PyProof.Rows
noncomputable def fxm(m x:Nat):Nat:=(x*5+1)%(m+1)
noncomputable def orb(m:Nat):Nat->Nat->Nat
 |0,x=>x
 |n+1,x=>orb m n<|fxm m x
noncomputable def Xm:List Nat:=[7,31,127,511,2047,8191]
noncomputable def vm(m:Nat):Nat->Nat->Bool
 |0,x=>aj<|fxm m x=0
 |n+1,x=>match fxm m x with
  |0=>am
  |y+1=>vm m n<|y+1
def wI:Xm.all (λm=>vm m m 0)=al:=by decide +kernel
theorem Wx(m:Nat):∀(a b x:Nat),orb m (a+b) x=orb m b (orb m a x)
 |0,b,x=>by rw[g7];rfl
 |a+1,b,x=>by rw[n5];exact Wx m a b<|fxm m x
theorem xn{m:Nat}:∀{n x:Nat},vm m n x=al->(∀j,0<j->j<=n->orb m j x≠0)/\orb m (n+1) x=0
 |0,x,h=>#[λj a b=>T7 a (by lia),T6 h]
 |n+1,x,h=>by
  unfold vm at h;cases q:fxm m x with
  |zero=>rw[q]at h;cases h
  |succ y=>
   rw[q]at h;obtain⟨h1,h2⟩:=xn (n:=n) h;refine#[λj a b=>?_,?_]
   .obtain⟨i,rfl⟩:∃i,j=i+1:=#[j-1,by lia]
    show orb m i (fxm m x)≠0;rw[q];by_cases c:i=0
    .subst c;exact Nat.succ_ne_zero y
    .exact h1 i (by lia) (by lia)
   .show orb m (n+1) (fxm m x)=0
    rw[q];exact h2
theorem qT{B:Type}[BEq B][LawfulBEq B]:∀{L A:List B},L.Nodup->(∀x∈L,x∈A)->L.length<=A.length
 |[],_,_,_=>cL _
 |x::L,A,h,hs=>by
  rw[cQ]at h;have h1:=qT (L:=L) (A:=A.erase x) h.2 λy hy=>(mK (show y≠x from λe=>h.1<|by rw[<-e];exact hy)).mpr<|hs y<|af _ hy
  have h2:=hs x<|ai ..;have h3:=k6 h2;have h4:=lW h2;rw[aF];lia
theorem Zbk(m:Nat):∀(k x:Nat),x<=m->orb m k x<=m
 |0,_,h=>h
 |k+1,x,_=>Zbk m k _ (by have:fxm m x<m+1:=lV _ (by lia);lia)
def ud{m j:Nat}(hm:m∈Xm)(hj:j<=m):∃k,k<m+1/\orb m k 0=j:=by
 obtain⟨h1,h2⟩:=xn<|aX.mp wI m hm
 let L:=(aE<|m+1).map λk=>orb m k 0
 have nd:L.Nodup:=by
  refine bD.mpr<|dg (λ{a b} ha hb (lt:a<b) e=>?_) g8
  have hb:=aN.mp hb;have z:orb m (a+(m+1-b)) 0=0:=by
   rw[Wx,e,<-Wx,show b+(m+1-b)=m+1 by lia,h2]
  exact h1 _ (by lia) (by lia) z
 have hl:L.length=m+1:=by simp[L]
 have hm:j∈L:=Classical.byContradiction λc=>by
  have:=qT (L:=j::L) (A:=aE<|m+1) (cQ.mpr #[c,nd]) λx hx=>by
   rcases ay.mp hx with rfl|hx
   .exact aN.mpr (by lia)
   .obtain⟨k,_,rfl⟩:=aC.mp hx
    exact aN.mpr (by have:=Zbk m k 0<|cL _;lia)
  rw[aF,hl,a7]at this;lia
 obtain⟨k,hk,e⟩:=aC.mp hm;exact#[k,aN.mp hk,e]
def uV{m i e:Nat}(hm:m∈Xm)(hi:i<=m)(he:e<=m):∃k,k<=m/\orb m k i=e:=by
 obtain⟨_,h1⟩:=xn<|aX.mp wI m hm;obtain⟨a,a1,a2⟩:=ud hm hi;obtain⟨b,b1,b2⟩:=ud hm he;by_cases c:a<=b
 .refine#[b-a,by lia,?_]
  rw[<-a2,<-Wx,show a+(b-a)=b by lia,b2]
 .refine#[b+(m+1)-a,by lia,?_]
  rw[<-a2,<-Wx,show a+(b+(m+1)-a)=(m+1)+b by lia,Wx,h1,b2]
noncomputable def lp(m:Nat):Nat->Nat×Nat->Nat×Nat
 |0,q=>q
 |n+1,q=>lp m n<|dB m q.1 q.2
theorem vi(m:Nat):∀n i,lp m n (i,0)=(orb m n i,0)
 |0,_=>rfl
 |n+1,i=>by
  show lp m n (dB m i 0)=_;rw[show dB m i 0=(fxm m i,0)from rfl,vi m n];rfl
theorem ZaM(m:Nat):∀(a b:Nat)(q:Nat×Nat),lp m (a+b) q=lp m b (lp m a q)
 |0,b,q=>by rw[g7];rfl
 |a+1,b,q=>by rw[n5];exact ZaM m a b _
theorem Zab(m:Nat):∀(n:Nat)(q:Nat×Nat),(lp m n q).2=q.2 / 32^n
 |0,q=>by rw[Nat.pow_zero,Nat.div_one];rfl
 |n+1,q=>by
  show(lp m n<|dB m q.1 q.2).2=_;rw[Zab m n,show(dB m q.1 q.2).2=q.2 / 32 from rfl,Nat.div_div_eq_div_mul,fZ,fD]
def W9(m i p:Nat):(dB m i p).1<=m:=by
 have:(dB m i p).1<m+1:=lV _ (by lia)
 lia
theorem ZdU{m:Nat}:∀{n:Nat}{q:Nat×Nat},q.1<=m->(lp m n q).1<=m
 |0,_,h=>h
 |n+1,q,_=>ZdU (n:=n)<|W9 m q.1 q.2
def yi{m i p e:Nat}(hm:m∈Xm)(hi:i<=m)(hp:p<2^64)(he:e<=m):∃n,n<=m+13/\(lp m n (i,p)).1=e:=by
 have h0:(lp m 13 (i,p)).2=0:=by
  rw[Zab];exact Nat.div_eq_of_lt<|bg hp (by decide)
 have h1:(lp m 13 (i,p)).1<=m:=ZdU hi;obtain⟨k,k1,k2⟩:=uV hm h1 he;refine#[13+k,by lia,?_]
 rw[ZaM,show lp m 13 (i,p)=((lp m 13 (i,p)).1,0)from rH rfl h0,vi]
 exact k2
def vD(h:Int):bQ h<2^64:=by
 unfold bQ;have:=dM h (show(0:Int)<2^64 by decide)
 have:=eV h (show(2:Int)^64≠0 by decide)
 lia
def J6{m i:Nat}(h:i<=m):i<=cR m i/\cR m i<=m/\cR m i-i<=9:=by
 unfold cR;split<;>lia
noncomputable def cnt(xs:List Nat)(j:Nat):Nat:=xs.countP (· < j)
theorem Wh:∀{xs:List Nat}{j:Nat},xs.Pairwise (· < ·)->∀i (hi:i<xs.length),xs[i]<j↔i<cnt xs j
 |[],_,_,i,hi=>by simp at hi
 |x::xs,j,h,i,hi=>by
  obtain⟨h1,h2⟩:=aR.mp h;unfold cnt;by_cases c:x<j
  .rw[List.countP_cons_of_pos (by simpa using c)]
   cases i with
   |zero=>simp[c]
   |succ i=>
    have:=Wh (j:=j) h2 i (by simpa using hi)
    unfold cnt at this;simp only[lZ];lia
  .rw[List.countP_cons_of_neg (by simpa using c)]
   have z:xs.countP (· < j)=0:=List.countP_eq_zero.mpr λy hy=>by
    have:=h1 y hy;simp;lia
   rw[z];cases i with
   |zero=>simp[c]
   |succ i=>
    have:=h1 _<|aV (l:=xs) (n:=i) (by simpa using hi)
    simp only[lZ];lia
def Gd(xs:List Nat)(j:Nat):cnt xs j<=xs.length:=List.countP_le_length
theorem Qa{xs:Array Nat}{j:Nat}(hs:xs.toList.Pairwise (· < ·)):∀(f lo hi:Nat),hi-lo<=f->lo<=cnt xs.toList j->cnt xs.toList j<=hi->hi<=xs.size->kM xs j f lo hi=cnt xs.toList j
 |0,lo,hi,hf,h1,h2,_=>by
  show lo=_;lia
 |f+1,lo,hi,hf,h1,h2,h3=>by
  show(if lo<hi then(if xs.getD ((lo+hi) / 2) j<j then kM xs j f ((lo+hi) / 2+1) hi else kM xs j f lo ((lo+hi) / 2))else lo)=_
  by_cases c:lo<hi
  .rw[T9 c]
   have hm:(lo+hi) / 2<xs.size:=by lia
   have key:=Wh (j:=j) hs ((lo+hi) / 2) (by simpa using hm)
   have e:xs.getD ((lo+hi) / 2) j=xs.toList[(lo+hi) / 2]'(by simpa using hm):=by
    rw[dz,aS hm];simp
   rw[e];by_cases d:xs.toList[(lo+hi) / 2]'(by simpa using hm)<j
   .rw[T9 d]
    exact Qa hs f _ hi (by lia) (by have:=key.mp d;lia) h2 h3
   .rw[T8 d]
    exact Qa hs f lo _ (by lia) h1 (by have:=mt key.mpr d;lia) (by lia)
  .rw[T8 c];lia
def Qm{xs:Array Nat}{j:Nat}(hs:xs.toList.Pairwise (· < ·)):mL xs j=cnt xs.toList j:=
 Qa hs xs.size 0 xs.size (by lia) (cL _) (by have:=Gd xs.toList j;simpa using this) (aM _)
structure TOk(t:c9):Prop where
 mem:t.mask∈Xm
 srt:t.place.toList.Pairwise (· < ·)
 le:∀j∈t.place.toList,j<=t.mask
 dm:t.dummies = #[]
def ZbM{t:c9}(T:TOk t)(j:Nat):t.slot j=if j∈t.place.toList then .live (cnt t.place.toList j)else .empty:=by
 unfold c9.slot
 dsimp only
 rw[Qm T.srt,T.dm];have hd:c9.has #[] j=am:=rfl;rw[hd,T8 aI];by_cases c:j∈t.place.toList
 .rw[T9 c]
  obtain⟨i,hi,e⟩:=bw c;have:cnt t.place.toList j=i:=by
   have h1:=Wh (j:=j) T.srt i hi;have h2:¬i<cnt t.place.toList j:=λz=>by have:=h1.mpr z;lia
   rcases Nat.lt_or_ge (cnt t.place.toList j) i with z|z
   .have h3:=bo.mp T.srt (cnt t.place.toList j) i (by lia) hi z
    have h4:=(Wh (j:=j) T.srt (cnt t.place.toList j)<|by lia).mp (by lia)
    lia
   .lia
  rw[this];have e2:t.place[i]?=aa j:=by
   rw[<-aZ,ag hi,e]
  rw[T9 (by rw[e2];simp)]
 .rw[T8 c]
  refine T8 λz=>c ?_
  have z:t.place[cnt t.place.toList j]?=aa j:=by simpa using z
  rw[<-aZ]at z;exact dr z
noncomputable def adv(t:c9):Nat->fz->fz
 |0,p=>p
 |n+1,p=>adv t n<|t.advance p
theorem Gk(t:c9):∀(a b:Nat)(p:fz),adv t (a+b) p=adv t b (adv t a p)
 |0,b,p=>by rw[g7];rfl
 |a+1,b,p=>by rw[n5];exact Gk t a b _
theorem v7(t:c9):∀(c:Nat)(p:fz),c<=p.more->adv t c p={p with j:=p.j+c,more:=p.more-c}
 |0,p,_=>rfl
 |c+1,p,h=>by
  show adv t c (t.advance p)=_;have e:t.advance p={p with j:=p.j+1,more:=p.more-1}:=T9 (by lia)
  rw[e,v7 t c _ (by show c<=p.more-1;lia)]
  show({j:=p.j+1+c,more:=p.more-1-c,i:=p.i,perturb:=p.perturb,dummy:=p.dummy}:fz)=_;rw[show p.j+1+c=p.j+(c+1) by lia,show p.more-1-c=p.more-(c+1) by lia]
noncomputable def at_(m:Nat)(q:Nat×Nat)(d:Option Nat):fz:={j:=q.1,more:=cR m q.1-q.1,i:=q.1,perturb:=q.2,dummy:=d}
def Zan(t:c9){q:Nat×Nat}{d:Option Nat}(hq:q.1<=t.mask):∃k,k<=10/\adv t k (at_ t.mask q d)=at_ t.mask (dB t.mask q.1 q.2) d:=by
 have h9:=(J6 hq).2.2;refine#[(cR t.mask q.1-q.1)+1,by lia,?_]
 rw[Gk,v7 t (cR t.mask q.1-q.1) (at_ t.mask q d)<|aM _];show t.advance _=_;exact T8 (by show¬(cR t.mask q.1-q.1)-(cR t.mask q.1-q.1)>0;lia)
theorem Jl(t:c9){d:Option Nat}:∀(n:Nat){q:Nat×Nat},q.1<=t.mask->∃k,k<=10*n/\adv t k (at_ t.mask q d)=at_ t.mask (lp t.mask n q) d
 |0,q,_=>#[0,by lia,rfl]
 |n+1,q,hq=>by
  obtain⟨a,a1,a2⟩:=Zan t (d:=d) hq;obtain⟨b,b1,b2⟩:=Jl t (d:=d) n<|W9 t.mask q.1 q.2;exact#[a+b,by lia,by rw[Gk,a2,b2];rfl]
theorem ZdY{t:c9}(T:TOk t){ha:Nat->Int}{h:Int}(hh:∀i,i<t.place.size->ha i≠h):∀(f:Nat)(p:fz),p.j+p.more<=t.mask->p.i<=t.mask->(∃k,k<f/\(adv t k p).j∉t.place.toList)->∃j,kN t ha h f p=aa (.empty j p.dummy)/\j∉t.place.toList/\j<=t.mask
 |0,_,_,_,#[_,h,_]=>by lia
 |f+1,p,h1,h2,#[k,k1,k2]=>by
  rw[kN,ZbM T];by_cases c:p.j∈t.place.toList
  .rw[T9 c]
   have hc:cnt t.place.toList p.j<t.place.size:=by
    obtain⟨i,hi,e⟩:=bw c;have:=Wh (j:=p.j) T.srt i hi;have h3:¬i<cnt t.place.toList p.j:=λz=>by have:=this.mpr z;lia
    have:i<t.place.size:=by simpa using hi
    lia
   have hne:(ha (cnt t.place.toList p.j) == h)=am:=by simpa using hh _ hc
   show ∃j,(if(ha (cnt t.place.toList p.j) == h)=al then _ else kN t ha h f (t.advance p))=_/\_
   rw[hne,T8 aI];have ed:(t.advance p).dummy=p.dummy:=by
    unfold lz;split<;>rfl
   have g:=ZdY T hh f (t.advance p) (by
    unfold lz;split
    .show p.j+1+(p.more-1)<=t.mask;lia
    .have:=W9 t.mask p.i p.perturb
     have:=J6 this;show(dB t.mask p.i p.perturb).1+(cR t.mask (dB t.mask p.i p.perturb).1-(dB t.mask p.i p.perturb).1)<=t.mask;lia) (by
    unfold lz;split
    .exact h2
    .exact W9 t.mask p.i p.perturb) (by
    cases k with
    |zero=>exact T7 c k2
    |succ k=>exact#[k,by lia,k2])
   rw[ed]at g;exact g
  .rw[T8 c]
   exact#[p.j,rfl,c,by lia]
def wx{t:c9}(T:TOk t)(hl:t.place.size<=t.mask):∃e,e<=t.mask/\e∉t.place.toList:=by
 by_cases c:∃e,e<=t.mask/\e∉t.place.toList
 .exact c
 .have hs:∀e∈aE (t.mask+1),e∈t.place.toList:=λe he=>by
   have:=aN.mp he;by_cases z:e∈t.place.toList
   .exact z
   .exact T7 #[e,by lia,z] c
  have:=(fX (n:=t.mask+1)).length_le_of_subset hs;rw[a7,aD]at this;lia
def xE{t:c9}(T:TOk t)(hl:t.place.size<=t.mask){ha:Nat->Int}{h:Int}(hh:∀i,i<t.place.size->ha i≠h):∃j,t.probe ha h (t.probeStart h)=aa (.empty j ae)/\j∉t.place.toList/\j<=t.mask:=by
 obtain⟨e,e1,e2⟩:=wx T hl;have hi:bQ h%(t.mask+1)<=t.mask:=by
  have:=lV (bQ h) (show 0<t.mask+1 by lia)
  lia
 obtain⟨n,n1,n2⟩:=yi T.mem hi (vD h) e1;obtain⟨k,k1,k2⟩:=Jl t (d:=ae) n (q:=(bQ h%(t.mask+1),bQ h)) hi;have r:=J6 hi;refine ZdY T hh _ (t.probeStart h) (by
  show bQ h%(t.mask+1)+(cR t.mask (bQ h%(t.mask+1))-bQ h%(t.mask+1))<=t.mask;lia) hi #[k,by unfold g9;lia,?_]
 show(adv t k<|at_ t.mask (bQ h%(t.mask+1),bQ h) ae).j∉_;rw[k2];show(lp t.mask n (bQ h%(t.mask+1),bQ h)).1∉_;rw[n2];exact e2
def zr{B:Type}(xs:Array B)(p:Nat)(x:B)(hp:p<=xs.size):(b7 xs p x).toList=xs.toList.take p++x::xs.toList.drop p:=by
 unfold b7;simp;exact cy (by simp)
def wp{l:List Nat}{j:Nat}(h:l.Pairwise (· < ·))(hj:j∉l):(l.take (cnt l j)++j::l.drop (cnt l j)).Pairwise (· < ·):=by
 have ht:∀a∈l.take (cnt l j),a<j:=λa ha=>by
  obtain⟨i,hi,rfl⟩:=bw ha;rw[bq]at hi;rw[eZ];exact(Wh h i<|by lia).mpr (by lia)
 have hd:∀a∈l.drop (cnt l j),j<a:=λa ha=>by
  obtain⟨i,hi,rfl⟩:=bw ha;rw[br]at hi;rw[dZ];have:=mt (Wh (j:=j) h (cnt l j+i)<|by lia).mp (by lia)
  have ne:l[cnt l j+i]≠j:=λe=>hj<|e▸aV (by lia)
  lia
 refine cz.mpr #[h.sublist<|kF ..,aR.mpr #[hd,h.sublist<|nV ..],λa ha b hb=>?_]
 rcases ay.mp hb with rfl|hb
 .exact ht a ha
 .have:=ht a ha;have:=hd b hb;lia
def Ya{B:Type}(l:List B)(p:Nat)(x:B):(l.take p++x::l.drop p).Perm (x::l):=by
 refine ly.trans<|List.Perm.cons x ?_;rw[cC]
def ZeJ{t:c9}(T:TOk t){j:Nat}(hj:j∉t.place.toList)(hl:j<=t.mask):TOk (t.put j).1/\(t.put j).1.place.size=t.place.size+1/\(t.put j).2=cnt t.place.toList j/\(t.put j).1.mask=t.mask/\(t.put j).1.plain=t.plain/\(t.put j).1.led=t.led:=by
 have hb:=Qm (j:=j) T.srt;have hc:cnt t.place.toList j<=t.place.size:=by have:=Gd t.place.toList j;simpa using this
 have hp:(t.put j).1.place.toList=t.place.toList.take (cnt t.place.toList j)++j::t.place.toList.drop (cnt t.place.toList j):=by
  show(b7 t.place (mL t.place j) j).toList=_;rw[hb,zr _ _ _ hc]
 refine#[#[T.mem,by rw[hp];exact wp T.srt hj,λa ha=>?_,?_],?_,hb,rfl,rfl,rfl]
 .rw[hp]at ha
  rcases ay.mp ((Ya _ _ _).mem_iff.mp ha)with rfl|ha
  .exact hl
  .exact T.le a ha
 .show(if c9.has t.dummies j=al then _ else t.dummies) = #[]
  rw[T.dm];rfl
 .rw[<-aD,hp,(Ya _ _ _).length_eq,aF,aD]
theorem Jg{m:Nat}{owner:Array (Option Nat)}:∀(f i p:Nat),i<=m->(∃n,n<f/\owner.getD (lp m n (i,p)).1 (aa 0)=ae)->∃j,j<=m/\fG m owner f i p=aa j/\owner.getD j (aa 0)=ae
 |0,_,_,_,#[_,h,_]=>by lia
 |f+1,i,p,hi,#[n,n1,n2]=>by
  have r:=J6 hi;rw[fG];cases q:(aE<|cR m i+1-i).find? λk=>(owner.getD (i+k)<|aa 0).isNone with
  |some k=>
   have h1:=aN.mp<|f9 q;have h2:=mf q;exact#[i+k,by lia,rfl,kx.mp h2]
  |none=>
   cases n with
   |zero=>
    have:=gE.mp q 0<|aN.mpr (by lia)
    rw[nY]at this;have n2:owner.getD i (aa 0)=ae:=n2;rw[n2]at this;exact T7 rfl this
   |succ n=>
    exact Jg f _ _ (W9 m i p) #[n,by lia,n2]
theorem yX{k:Nat}:∀{l:List (Option Nat)}{j:Nat},l[j]?=aa ae->((l.set j<|aa k).filterMap id).Perm (k::l.filterMap id)
 |[],j,h=>by simp at h
 |o::l,0,h=>by
  have h:o=ae:=by simpa using h
  subst h;exact bE _
 |o::l,j+1,h=>by
  have ih:=yX (k:=k) (l:=l) (j:=j) (by simpa using h)
  cases o with|none=>exact ih|some x=>exact(ih.cons x).trans<|gZ ..
theorem yt:∀{l:List (Option Nat)},(∀o∈l,o≠ae)->(l.filterMap id).length=l.length
 |[],_=>rfl
 |o::l,h=>by
  cases o with
  |none=>exact T7 rfl<|h ae<|ai ..
  |some x=>
   show(l.filterMap id).length+1=l.length+1;rw[yt λo ho=>h o<|af _ ho]
structure Own2(m:Nat)(owner:Array (Option Nat))(k:Nat):Prop where
 sz:owner.size=m+1
 pm:(owner.toList.filterMap id).Perm (aE k)
noncomputable def ZcK(m:Nat)(acc:Option (Array (Option Nat)×Nat))(h:Int):Option (Array (Option Nat)×Nat):=do
 let x <-acc
 match x with
 |(owner,k)=>do
  let j <-fG m owner (g9 m) (bQ h%(m+1)) (bQ h)
  cY (owner.setIfInBounds j<|aa k,k+1)
def Zac{m k:Nat}{owner:Array (Option Nat)}{h:Int}(hm:m∈Xm)(O:Own2 m owner k)(hk:k<=m):∃o',ZcK m (aa (owner,k)) h=aa (o',k+1)/\Own2 m o' (k+1):=by
 have hi:bQ h%(m+1)<=m:=by
  have:=lV (bQ h) (show 0<m+1 by lia)
  lia
 obtain⟨e,e1,e2⟩:∃e,e<=m/\owner.getD e (aa 0)=ae:=by
  by_cases c:∃e,e<=m/\owner.getD e (aa 0)=ae
  .exact c
  .have:=yt (l:=owner.toList) λo ho z=>by
    subst z;obtain⟨i,hi,e⟩:=bw ho;have hi':i<owner.size:=by simpa using hi
    refine c #[i,by rw[O.sz]at hi';lia,?_]
    rw[dz,aS hi'];have:owner[i]=ae:=by simpa using e
    rw[this];rfl
   rw[O.pm.length_eq,a7,aD,O.sz]at this;lia
 obtain⟨n,n1,n2⟩:=yi hm hi (vD h) e1;obtain⟨j,j1,j2,j3⟩:=Jg (owner:=owner) (g9 m) _ (bQ h) hi #[n,by unfold g9;lia,by rw[n2];exact e2]
 refine#[owner.setIfInBounds j<|aa k,?_,by rw[kX];exact O.sz,?_]
 .unfold ZcK
  show(fG m owner (g9 m) (bQ h%(m+1))<|bQ h).bind _=_;rw[j2];rfl
 .rw[fS]
  have hj:owner.toList[j]?=aa ae:=by
   have hj:j<owner.size:=by rw[O.sz];lia
   rw[aZ,aS hj];rw[dz,aS hj]at j3;exact congrArg aa j3
  refine(yX hj).trans<|(O.pm.cons k).trans ?_;rw[mh];exact(ko k _).symm
theorem vR{m:Nat}(hm:m∈Xm):∀(hs:List Int){k:Nat}{owner:Array (Option Nat)},Own2 m owner k->k+hs.length<=m->∃o',hs.foldl (ZcK m) (aa (owner,k))=aa (o',k+hs.length)/\Own2 m o' (k+hs.length)
 |[],_,owner,O,_=>#[owner,rfl,O]
 |h::hs,k,owner,O,hk=>by
  rw[aF]at hk;obtain⟨o1,e1,O1⟩:=Zac (h:=h) hm O (by lia)
  obtain⟨o2,e2,O2⟩:=vR hm hs O1 (by lia)
  rw[gp,e1,aF,show k+(hs.length+1)=k+1+hs.length by lia]
  exact#[o2,e2,O2]
theorem QN{B:Type}{g:Nat->Option B}:∀l:List Nat,(l.filterMap λj=>(g j).map λx=>(j,x)).map mM=l.filter λj=>(g j).isSome
 |[]=>rfl
 |j::l=>by
  rw[d8,fA];cases h:g j with
  |none=>exact QN l
  |some x=>
   show j::_=_;rw[QN l];rfl
theorem UX{B:Type}{g:Nat->Option B}:∀l:List Nat,(l.filterMap λj=>(g j).map λx=>(j,x)).map mN=l.filterMap g
 |[]=>rfl
 |j::l=>by
  rw[d8,d8];cases h:g j with
  |none=>exact UX l
  |some x=>
   show x::_=_;rw[UX l]
def we(o:Array (Option Nat)):(aE o.size).filterMap (λj=>o.getD j ae)=o.toList.filterMap id:=by
 have e:o.toList=(aE o.size).map λj=>o.getD j ae:=by
  refine bV λi=>?_
  rw[aH];by_cases h:i<o.size
  .rw[bO h,aZ,aS h]
   show aa o[i]=aa (o.getD i ae);rw[dz,aS h];rfl
  .rw[bn (by rw[aD];lia),bn (by rw[a7];lia)];rfl
 rw[e,nu];rfl
def Zb7{t:c9}{hs:Array Int}{w:Nat}(hm:cP w-1∈Xm)(hn:hs.size<=cP w-1):∃t' order,t.relaid hs w=aa (t',order)/\TOk t'/\t'.mask=cP w-1/\t'.place.size=hs.size/\t'.plain=t.plain/\t'.led=t.led/\order.toList.Perm (aE hs.size):=by
 generalize hM:cP w-1=m at hm hn;have O0:Own2 m (pc (m+1) ae) 0:=#[Array.size_replicate,by
  rw[Array.toList_replicate];have:∀n,(az n (ae:Option Nat)).filterMap id=[]:=λn=>by
   induction n with|zero=>rfl|succ n ih=>rw[bv];exact ih
  rw[this];exact bE _]
 obtain⟨o,e1,O⟩:=vR hm hs.toList O0 (by rw[aD];lia)
 rw[aD,g7]at e1 O
 let live:=(aE<|m+1).filterMap λj=>(o.getD j ae).map λx=>(j,x)
 have e2:n6 m hs=aa o:=by
  unfold n6;rw[<-Array.foldl_toList];show((hs.toList.foldl (ZcK m)<|aa (pc (m+1) ae,0)).map _)=_;rw[e1];rfl
 have e3:t.relaid hs w=aa ({mask:=m,place:=(live.map mM).toArray,dummies:=#[],finger:=t.finger,led:=t.led,moves:=t.movedTo m,plain:=t.plain},(live.map mN).toArray):=by
  unfold pe;rw[hM];unfold c9.laid;rw[e2];rfl
 have hf:live.map mM=(aE<|m+1).filter λj=>(o.getD j ae).isSome:=QN _
 have hsn:live.map mN=o.toList.filterMap id:=by
  rw[<-we,O.sz];exact UX _
 refine#[_,_,e3,#[hm,?_,λj hj=>?_,rfl],rfl,?_,rfl,rfl,?_]
 .show(live.map mM).Pairwise (· < ·)
  rw[hf];exact g8.filter _
 .have hj:j∈live.map mM:=hj
  rw[hf]at hj;have:=aN.mp (cq.mp hj).1;show j<=m;lia
 .show(live.map mM).toArray.size=hs.size
  rw[aB,aq,<-aq (f:=mN) (as:=live),hsn,O.pm.length_eq,a7]
 .show(live.map mN).Perm _
  rw[hsn];exact O.pm
def j6{es:Array (Int×ao)}{order:Array Nat}(h:order.toList.Perm (aE es.size)):(order.filterMap λx=>es[x]?).toList.Perm es.toList:=by
 rw[Array.toList_filterMap];refine(h.filterMap _).trans<|gw ?_;exact filterMap_getElem?_range _
def Uv(h:cc)(a:aP)(led:Bool)(L:List (Int×ao)):Prop:=∃o es ep t,h.get? a=aa o/\o.ExactSet/\o.data=.set es ep t/\TOk t/\t.place.size=es.size/\t.plain=al/\t.led=led/\es.toList.Perm L/\es.size*5<t.mask*3
def Uv.keep{h h':cc}{a:aP}{led:Bool}{L:List (Int×ao)}(S:Uv h a led L)(k:∀o,h.get? a=aa o->h'.get? a=aa o):Uv h' a led L:=
 let #[o,es,ep,t,ho,r]:=S;#[o,es,ep,t,k o ho,r]
def yD{t:c9}{n:Nat}(T:TOk t)(h:t.place.size=n)(hl:n*5<t.mask*3):t.fits n=al:=by
 unfold p9 k7;rw[T.dm,h,aG];exact#[by simp,T5 (by show n+0<=t.mask;lia)]
def ZbQ{t:c9}{n:Nat}(T:TOk t)(h:t.place.size=n)(hl:n<=t.mask):t.fits n=al:=by
 unfold p9 k7;rw[T.dm,h,aG];exact#[by simp,T5 hl]
def Zcd{t:c9}(T:TOk t):t.gaveWay=am:=by
 have:Xm.all (λm=>!(m%2 == 0))=al:=by decide
 have:=aX.mp this _ T.mem;unfold c9.gaveWay
 simpa using this
noncomputable def ZaL(n m:Nat):Bool:=!(aj (m*3<=n*5)&&aj ((n-1)*5<m*3))||(aj (cP (fT n)-1∈Xm)&&aj (n*5<(cP (fT n)-1)*3)&&aj (cP (fT n)<=16777216))
def Za0:(aE 1401).all (λn=>Xm.all λm=>ZaL n m)=al:=by decide +kernel
def Zcf{n m:Nat}(hn:n<=1400)(hm:m∈Xm)(h1:m*3<=n*5)(h2:(n-1)*5<m*3):cP (fT n)-1∈Xm/\n*5<(cP (fT n)-1)*3/\cP (fT n)<=bx:=by
 have h:=aX.mp (aX.mp Za0 n<|aN.mpr<|by lia) m hm
 unfold ZaL at h;rw[T5 h1,T5 h2]at h;simp only[aG,T0,rc,fK,kR]at h;exact#[h.1.1,h.1.2,by rw[cU];exact h.2]
section
variable{prog:bt}{w:bL}{A:cn}{E:ao->au->Prop}{s:au}{a x:aP}{hx:Int}{led:Bool}{L:List (Int×ao)}
theorem jh{Q:Bool->au->Prop}(hS:Uv s.heap a led L)(hn:∀e∈L,e.1≠hx)(hl:L.length<1400)(hv:∀{A:cn}{E:ao->au->Prop}{Q:Bool->au->Prop},Q al s->aY (aT prog w) A (mO 8<|.ref x) Q E s)
  (h:∀h',fB a s.heap h'->Uv h' a led ((hx,.ref x)::L)->Q al {s with heap:=h' }):aY (aT prog w) A (n8 a (.ref x) hx) Q E s:=by
 obtain⟨o,es,ep,t,ho,hex,hd,T,hp,hpl,hld,pm,hr⟩:=hS;have hf:=yD T hp hr;have hes:es.size=L.length:=by rw[<-aD,pm.length_eq]
 have hg:=Zcd T;unfold n8 setAddHashedIn;refine ck<|ab<|d6 ho hd hf ?_
 dsimp only
 rw[show byScan (.ref x) es=am from rfl,T8 aI]
 refine ab ?_;unfold setSearch setSearchFrom;refine ab<|d6 ho hd hf ?_
 dsimp only
 rw[hg,T8 aI];obtain⟨j,ej,hj,hjm⟩:=xE T (by lia) (ha:=λi=>(Option.map (λx=>x.fst) es[i]?).getD 0) (h:=hx) λi hi=>by
  rw[hp]at hi;rw[aS hi];exact hn _<|pm.mem_iff.mp<|Array.getElem_mem_toList hi
 generalize hq:c9.probe t _ _ _=r;have hr2:r=aa (.empty j ae):=hq.symm.trans ej;subst hr2;refine ax ?_;refine ab<|d6 ho hd hf ?_
 dsimp only
 obtain⟨T1,p1,c1,m1,pl1,ld1⟩:=ZeJ T hj hjm;generalize ht1:t.put j=t1 at T1 p1 c1 m1 pl1 ld1;obtain⟨t1,p⟩:=t1
 dsimp only at T1 p1 c1 m1 pl1 ld1 ⊢
 rw[T9<|pl1.trans hpl];refine ab<|hv ?_;rw[T9 rfl];have pm1:(b7 es p (hx,bX x)).toList.Perm ((hx,bX x)::L):=by
  have hc:p<=es.size:=by rw[c1,<-hp];have:=Gd t.place.toList j;simpa using this
  rw[zr _ _ _ hc];exact(Ya _ _ _).trans<|pm.cons _
 have sz1:(b7 es p (hx,bX x)).size=es.size+1:=by
  rw[<-aD,pm1.length_eq,aF,hes]
 refine ab<|n9 ho hd ?_ (by rw[sz1,hes,cU];lia)
 have g1:=SetAt.store (es':=b7 es p (hx,bX x)) (t':=t1) ho hd;have sb1:=dH s.heap a<|pW (b7 es p (hx,bX x)) t1;have hmem:=T.mem;cases q:t1.tooFull with
 |false=>
  rw[T8 (by simp)]
  have hlt:¬t1.fill*5>=t1.mask*3:=of_decide_eq_false q;have hfl:t1.fill=es.size+1:=by
   unfold k7;rw[T1.dm,p1,hp];rfl
  exact ax<|h _ sb1 #[_,_,_,t1,g1,hex,rfl,T1,by rw[p1,sz1,hp],pl1.trans hpl,ld1.trans hld,pm1,by rw[sz1];lia]
 |true=>
  rw[T9 (by simp)]
  have hge:t1.fill*5>=t1.mask*3:=T6 q;have hfl:t1.fill=es.size+1:=by
   unfold k7;rw[T1.dm,p1,hp];rfl
  obtain⟨g2,g3,g4⟩:=Zcf (n:=es.size+1) (m:=t.mask) (by lia) hmem (by lia) (by lia)
  obtain⟨t2,order,e2,T2,m2,p2,pl2,ld2,om⟩:=Zb7 (t:=t1) (hs:=(b7 es p (hx,bX x)).map λx=>x.fst) g2 (by rw[pX,sz1];lia)
  rw[pX]at p2 om;have pm2:=j6 om;have sz2:((order.filterMap λy=>(b7 es p (hx,bX x))[y]?)).size=es.size+1:=by
   rw[<-aD,pm2.length_eq,aD,sz1]
  refine ab ?_;unfold setRelay;refine ab<|d6 g1 rfl (ZbQ T1 (by rw[p1,sz1,hp])<|by rw[sz1,m1];lia) ?_
  dsimp only
  rw[T8 (by lia)]
  generalize hq2:pe t1 _ _=r2;have hr3:r2=aa (t2,order):=hq2.symm.trans e2;subst hr3;refine ab<|cM (a:=((order.filterMap λy=>(b7 es p (hx,bX x))[y]?),t2)) ?_ ?_
  .show(if((order.filterMap λy=>(b7 es p (hx,bX x))[y]?).size != (b7 es p (hx,bX x)).size)=al then _ else _)=_
   rw[sz2,sz1,T8 (by simp)]
  .dsimp only
   refine n9 g1 rfl ?_ (by rw[sz2,hes,cU];lia)
   have g5:=SetAt.store (es':=(order.filterMap λy=>(b7 es p (hx,bX x))[y]?)) (t':=t2) g1 rfl
   exact ax<|h _ (sb1.trans<|dH _ a _) #[_,_,_,t2,g5,hex,rfl,T2,by rw[p2,sz2,sz1],pl2.trans<|pl1.trans hpl,ld2.trans<|ld1.trans hld,pm2.trans pm1,by rw[sz2,m2];lia]
end
open L2
noncomputable def ZgF(r:List Int):Int:=reduceHash<|ga<|r.map hashInt
def qG(h:cc)(a:aP)(r:List Int):Prop:=∃o us m,h.get? a=aa o/\o.cls=.type "tuple"/\o.data=.seq us.toArray m/\Vals (r.map V.int) us
theorem yT{prog:bt}{w:bL}:∀{r:List Int}{us:List ao},Vals (r.map V.int) us->ItemsAre (gn prog w) r us
 |[],_,h=>by cases h;exact .nil
 |n::r,_,h=>by
  cases h with
  |cons x h=>
   obtain⟨t,rfl⟩:=x;exact .cons (pL _ _ _ _)<|yT h
def qG.key{prog:bt}{w:bL}{h:cc}{a:aP}{r:List Int}(R:qG h a r):IsTupleKey (gn prog w) h r a:=
 let #[o,us,m,h1,h2,h3,h4]:=R;#[o,us.toArray,m,h1,h2,h3,by simpa using yT h4]
theorem zB:∀{r:List Int}{us:List ao},Vals (r.map V.int) us->∀v∈us,∃n t,v=.int n t
 |[],_,h,v,hv=>by cases h;cases hv
 |n::r,_,h,v,hv=>by
  cases h with
  |cons x h=>
   obtain⟨t,rfl⟩:=x;rcases ay.mp hv with rfl|hv
   .exact#[n,t,rfl]
   .exact zB h v hv
section
variable{prog:bt}{w:bL}{A:cn}{E:ao->au->Prop}{s:au}
def Zc0(led:Bool):TOk (.fresh 0 0 led)/\(kq 0 0 led).place.size=0/\(kq 0 0 led).plain=al/\(kq 0 0 led).led=led/\0*5<(kq 0 0 led).mask*3:=
 #[#[by show 7∈Xm;decide,by show List.Pairwise _ [];exact fM,(λj h=>T7 (show j∈([]:List Nat)from h) (cu)),rfl],rfl,rfl,rfl,by show 0<21;decide]
end
end Sd
namespace Sd
open PySem PySem.Spec PyProof.Rows
noncomputable def Xy(t:c9)(i:Nat):Nat:=if i=0 then 0 else t.place.toList.getD (i-1) 0+1
noncomputable def Wk(w:bL)(t:c9)(i:Nat):Nat:=if w.params.followText "set-order" = al then 0 else Xy t i
def Zcq{t:c9}(T:TOk t){i:Nat}(hi:i<=t.place.size):mL t.place (Xy t i)=i:=by
 rw[Qm T.srt];have hl:t.place.toList.length=t.place.size:=aD;have hc:=Gd t.place.toList<|Xy t i;have key:∀k (hk:k<t.place.toList.length),k<i↔k<cnt t.place.toList (Xy t i):=λk hk=>by
  rw[<-Wh T.srt k hk];unfold Xy;cases i with
  |zero=>simp
  |succ i=>
   rw[T8 (by lia),aA,ag (show i+1-1<t.place.toList.length by lia)]
   show _↔t.place.toList[k]<t.place.toList[i]+1;rcases kO k i with z|z|z
   .have:=bo.mp T.srt k i hk (by lia) z;lia
   .subst z;lia
   .have:=bo.mp T.srt i k (by lia) hk z;lia
 rcases kO (cnt t.place.toList<|Xy t i) i with z|z|z
 .have:=(key (cnt t.place.toList<|Xy t i)<|by lia).mp z;lia
 .exact z
 .have:=(key i<|by lia).mpr z;lia
structure SetO(w:bL)(o:fP)(es:Array (Int×ao))(ep:Nat)(t:c9):Prop where
 ex:o.ExactSet
 dat:o.data=.set es ep t
 ok:TOk t
 sz:t.place.size=es.size
 pl:t.plain=al
 ld:t.led=WJ w
 rm:es.size*5<t.mask*3
def SetO.fit{w:bL}{o:fP}{es:Array (Int×ao)}{ep:Nat}{t:c9}(S:SetO w o es ep t):t.fits es.size=al:=yD S.ok S.sz S.rm
section
variable{prog:bt}{w:bL}{A:cn}{E:ao->au->Prop}{s:au}{a it:aP}{i ep:Nat}{o:fP}{es:Array (Int×ao)}{t:c9}
theorem y6{Q:Option (ao×Nat)->au->Prop}(S:SetO w o es ep t)(hi:i<=es.size)(ho:s.heap.get? a=aa o)(h:Q (((WM w a ep es)[i]?).map λe=>(e.2,Wk w t<|i+1)) s) :
  aY (aT prog w) A (setNext a (Wk w t i) i ep) Q E s:=by
 have hf:=S.fit;have hd:=S.dat;unfold setNext;refine ab<|d6 ho hd hf ?_
 dsimp only
 unfold pY;refine ab<|ab<|fq<|ax ?_;unfold WM Wk at h;unfold Wk;show aY _ _ (if w.params.followText "set-order" = al then _ else _) _ _ _
 by_cases c:w.params.followText "set-order" = al
 .rw[T9 c]
  rw[T9 c,T9 c]at h;rw[T8 (by simp)]
  unfold setWalk;refine ab<|ab<|d6 ho hd hf ?_
  dsimp only
  unfold pY;refine ab<|ab<|fq<|ax ?_;show aY _ _ (if w.params.followText "set-order" = al then _ else _) _ _ _
  rw[T9 c];refine ab<|fq<|ax<|ax ?_;rw[T9 c];exact h
 .rw[T8 c]
  rw[T8 c,T8 c]at h;have hl:t.led=al:=by rw[S.ld];unfold WJ;simp[c]
  have bl:=Zcq S.ok (i:=i) (by rw[S.sz];exact hi)
  split
  .rename_i z
   have z:(!t.plain&&aj (es.size>1))=al:=z;rw[S.pl]at z;exact T7 z (by simp)
  .refine ab (cM (a:=()) ?_<|ax ?_)
   .show(if(!t.led && !es.isEmpty)=al then _ else _)=_
    rw[hl];rfl
   .rw[bl]
    by_cases lt:i<es.size
    .have e2:t.place[i]?=aa (t.place[i]'(by rw[S.sz];exact lt)):=aS _
     have e3:Xy t (i+1)=t.place[i]'(by rw[S.sz];exact lt)+1:=by
      unfold Xy;rw[T8 (by lia),aA,Nat.add_sub_cancel,aZ,e2];rfl
     rw[aS lt]at h;rw[aS lt,e2];rw[e3]at h;exact h
    .have e1:es[i]?=ae:=lQ (by lia)
     rw[e1]at h;rw[e1];exact h
def WY(w:bL)(h:cc)(it a:aP)(t:c9)(n i ep:Nat):Prop:=∃o,h.get? it=aa o/\o.cls=.type "set_iterator"/\o.data=.fields [.int (Wk w t i) 0,.int i 0,.ref a,.int n 0,.int ep 0].toArray
def uO{Q:ao->au->Prop}(S:SetO w o es ep t)(ho:s.heap.get? a=aa o)
  (hQ:Q (.ref s.heap.objs.size) {s with heap:=s.heap.push {cls:=.type "set_iterator",data:=.fields [.int (Wk w t 0) 0,.int 0 0,.ref a,.int es.size 0,.int ep 0].toArray}}):aY (aT prog w) A (kQ<|.ref a) Q E s:=by
 have hf:=S.fit;have hd:=S.dat;have hT:s.TypeIs (.ref a) "set":=#[_,ho,S.ex.1];refine oa hT pf<|cS pf hT wq ?_<|F.args_set_iter_1 _;unfold dD.«frozenset.__iter__» dD.Frozenset.slot0 slotArgs dD.Frozenset.addrOf dD.Frozenset.sizeOf;refine ab<|cM (a:=a) rfl<|ab<|ab<|mX ho hd hf<|ax ?_;unfold setDrawn pY;refine ab<|ab<|d6 ho hd hf<|ab<|ab<|fq<|ax<|ax ?_
 dsimp only
 have nd:∀x:Bool,(!x&&(!t.plain&&aj (es.size>1)))=am:=λx=>by rw[S.pl];simp
 split
 .rename_i z
  exact T7 ((nd _).symm.trans z) (by simp)
 .refine ab (ax<|ab<|wpAny_setEpoch_of ho hd hf ?_)
  refine ab<|b6<|ax #[_,rfl,"set_iterator",_,#[_,aO _ rfl,rfl],Vj.lookup,?_];have z0:Wk w t 0=0:=by unfold Wk Xy;split<;>rfl
  rw[z0]at hQ
  simpa[gc]using hQ
def qj{n:Nat}{Q:ao->au->Prop}(hit:WY w s.heap it a t n i ep)(h:Q (.ref it) s):aY (aT prog w) A (kQ<|.ref it) Q E s:=by
 have hT:s.TypeIs (.ref it) "set_iterator":=let #[o,h1,h2,_]:=hit;#[o,h1,h2];refine oa hT yV<|cS yV hT uT (show aY _ _ (rF<|.ref it) _ _ s from ax #[_,rfl,"set_iterator",_,hT,Vj.lookup,h])<|Za9 _
theorem Ji{Q:Option ao->au->Prop}(S:SetO w o es ep t)(hi:i<=es.size)(hit:WY w s.heap it a t es.size i ep)(ho:s.heap.get? a=aa o)
  (h1:∀e,(WM w a ep es)[i]?=aa e->∀h',WY w h' it a t es.size (i+1) ep->fB it s.heap h'->Q (aa e.2) {s with heap:=h' })
  (h2:i=es.size->A.handled=ae/\∀h',kJ it s.heap h'->Q ae {s with heap:=h' }):aY (aT prog w) A (my<|.ref it) Q E s:=by
 have hf:=S.fit;have hd:=S.dat;obtain⟨oi,hq,hc,hdi⟩:=id hit;have hT:s.TypeIs (.ref it) "set_iterator":=#[oi,hq,hc];unfold my;refine ab<|kW<|cX (name:=lS "__next__") hT Vj<|cS Vj hT ut ?_<|ZaW _;unfold dD.«set_iterator.__next__» slotArgs;refine ab<|cM (a:=(bX it,[])) rfl<|ab<|wpAny_fieldsOf hq hdi ?_
 dsimp only
 refine ab<|mX ho hd hf ?_;rw[T8 (by simp)]
 simp only[fO];refine ab<|y6 S hi ho ?_;cases q:(WM w a ep es)[i]? with
 |some e=>
  refine ab<|gU hq hdi (by simp) ?_
  have g1:=eJ (rd (·.setIfInBounds 0 (gc ((Wk w t (i+1):Nat):Int)))) hq<|hZ<|eF hdi _
  have d1:=eF hdi (·.setIfInBounds 0 (gc ((Wk w t (i+1):Nat):Int)))
  refine ab<|gU g1 d1 (by simp) ?_
  have g2:=eJ (rd (·.setIfInBounds 1 (gc<|(i:Int)+1))) g1<|hZ<|eF d1 _
  refine ax #[_,rfl,ax<|h1 e q _ #[_,g2,?_,?_]<|(dH ..).trans<|dH ..]
  .exact(kL ..).trans<|(kL ..).trans hc
  .rw[eF d1];simp[gc]
 |none=>
  have hn:i=es.size:=by
   have:=Array.getElem?_eq_none_iff.mp q;rw[Vw]at this;lia
  obtain⟨hh,hQ⟩:=h2 hn;refine ab<|gU hq hdi (by simp) (show aY _ _ (newExc (.type "StopIteration") [] >>= _) _ _ _ from ab ?_)
  simp only[newExc,newTuple];refine ab<|b6 ?_ (by size_fits)
  refine ab (m:=mD _ _) (cM (a:=bf) (by first|rfl|(simp only[mD];rfl))<|b6 ?_ (by size_fits))
  simp only[raiseNew];refine ab<|wpAny_handled ?_;rw[show A.in1.handled=ae from hh]
  refine ab<|ax<|wpAny_throw ?_;refine ab<|lv (T:="StopIteration") (b:=al) #[_,aO _ rfl,rfl] isSubtype_stop ?_;exact ax<|hQ _<|((dH ..).extBut.push _).push _
def WY.at{n:Nat}{h h':cc}(hit:WY w h it a t n i ep)(k:∀o,h.get? it=aa o->h'.get? it=aa o):WY w h' it a t n i ep:=
 let #[o,h1,r]:=hit;#[o,k o h1,r]
theorem Zbf(S:SetO w o es ep t):mJ prog w "set" a a es.size (λi v=>((WM w a ep es)[i]?).map (·.2)=aa v) (λh=>h.get? a=aa o) where
 type:=λ_ hm=>#[_,hm,S.ex.1]
 there:=λ_ hm=>#[aJ hm,aJ hm]
 keep:=λ_ _ hm hk=>hk a (.inl rfl) _ hm
 notList:=by decide
 notTuple:=by decide
 hint:=λ_ _ _ _ hm hq=>ZbF #[_,hm,S.ex.1] hq
 iter:=λA s hh hm=>by
  have hne:a≠s.heap.objs.size:=bz<|aJ hm;refine#[{cls:=.type "set_iterator",data:=.fields [.int (Wk w t 0) 0,.int 0 0,.ref a,.int es.size 0,.int ep 0].toArray},λi h=>i<=es.size/\WY w h s.heap.objs.size a t es.size i ep/\h.get? a=aa o,λE Q hq=>?_,?_,cL _,#[_,aO _ rfl,rfl,rfl],aw _ hm]
  .exact uO S hm hq
  .exact{
    sub:=λb hb=>by simp at hb;simp[hb]
    frame:=λ_ _ _ st hk=>#[st.1,st.2.1.at λo e=>hk _ (by simp) o e,hk a (by simp) _ st.2.2]
    item:=λi s' Q E hi st hQ=>Ji S st.1 st.2.1 st.2.2 (λe q h' hit' sb=>hQ _ h' s'.toks (by rw[q];rfl) #[hi,hit',sb.extBut _ _ hne st.2.2] λb o hb e=>sb.extBut b o (λz=>hb<|by simp[z]) e) λz=>T7 hi (by lia)
    done:=λs' Q E st hQ=>Ji S st.1 st.2.1 st.2.2 (λe q _ _ _=>T7 (Array.getElem?_eq_some_iff.mp q).1<|by rw[Vw];lia) λ_=>#[hh,λh' eb=>hQ h' s'.toks λb o hb e=>eb b o (λz=>hb<|by simp[z]) e]
    self:=λ_ _ _ _ st hQ=>qj st.2.1 hQ}
end
open L2
open Ev (ltI Xj ZH)
def Y1{B:Type}{l:List B}{i:Nat}{d:B}(h:i<l.length):l.getD i d=l[i]:=by
 rw[aA,ag h];rfl
open Ev (E Sm Fn Bop Cop Ty Bf Mf spcs ZdO Yq)
theorem Jo:∀{x:List D}{a:List Int},Pv.intsV x=aa a->x=a.map Pv.V.int
 |[],a,h=>by cases h;rfl
 |v::x,a,h=>by
  cases v with
  |int i=>
   obtain⟨b,hb,rfl⟩:=cx.mp h;rw[Jo hb];rfl
  |_=>exact Ev.nos h
theorem JQ:∀{ds:List D}{rs:List (List Int)},Pv.Z1 ds=aa rs->ds=rs.map Pv.Zd
 |[],rs,h=>by cases h;rfl
 |v::ds,rs,h=>by
  cases v with
  |tup x=>
   have h:(match Pv.intsV x,Pv.Z1 ds with|some a,aa b=>aa (a::b)|_,_=>ae)=aa rs:=h
   cases q1:Pv.intsV x with
   |none=>rw[q1]at h;cases h
   |some a=>
    cases q2:Pv.Z1 ds with
    |none=>rw[q1,q2]at h;cases h
    |some b=>
     rw[q1,q2]at h;cases h;rw[Jo q1,JQ q2];rfl
  |_=>exact Ev.nos h
end Sd
namespace Sd
open PySem PyProof.Rows L2 Ev
variable{X:Cx}{xw:Nat->Hp->Prop}{C:Calls}{ns:List Nat}{e:Expr}{i:E}{pos:iP}
end Sd
namespace Sd
open PySem PySem.Spec PyProof.Rows L2
structure Kd(prog:bt)(w:bL)(B:Type) where
 hsh:B->Int
 ob:cc->aP->B->Prop
 at':∀{h a r},ob h a r->a<h.objs.size
 keep:∀{h h':cc}{a r},ob h a r->(∀b o,h.get? b=aa o->h'.get? b=aa o)->ob h' a r
 hash:∀{A:cn}{E:ao->au->Prop}{s:au}{Q:Int->au->Prop}{a r},A.units+2<dA->ob s.heap a r->(∀tk,Q (hsh r) {s with toks:=tk})->aY (aT prog w) A (pyHash<|.ref a) Q E s
 hbv:∀{A:cn}{E:ao->au->Prop}{s:au}{Q:Bool->au->Prop}{a r},ob s.heap a r->Q al s->aY (aT prog w) A (mO 8<|.ref a) Q E s
section
variable{prog:bt}{w:bL}{B:Type}{A:cn}{E:ao->au->Prop}{s:au}
noncomputable def GA(f:B->Int)(df:B)(rs:List B)(vs:List ao)(i:Nat):Int×ao:=(f<|rs.getD i df,vs.getD i .none)
noncomputable def YX(f:B->Int)(df:B)(rs:List B)(vs:List ao)(i:Nat):List (Int×ao):=((aE i).map<|GA f df rs vs).reverse
def xJ(f:B->Int)(df:B)(rs:List B)(vs:List ao)(i:Nat):YX f df rs vs (i+1)=GA f df rs vs i::YX f df rs vs i:=by
 unfold YX;rw[mh,bP,iQ];rfl
theorem uw{df:B}(K:Kd prog w B){R:rB->au->Prop}{I:aP}{fp wr:List aP}{n:Nat}{P:Nat->ao->Prop}{St:Nat->cc->Prop}{led:Bool}(W:Walks prog w A.in1 I fp wr n P St)(S:aP)(hSf:S∉fp)(hu:A.units+5<dA){h0:cc}{rs:List B}{vs:List ao}(hn:rs.length=n)(hnd:(rs.map K.hsh).Nodup)(h3:n<=1399)(hv:∀i x,P i x->x=vs.getD i .none)(hr:∀i,i<n->∃q,vs.getD i .none=.ref q/\K.ob h0 q (rs.getD i df))(hfr:∀b∈S::wr,h0.get? b=ae) :
  ∀(k i:Nat)(s:au),n-i=k->i<=n->St i s.heap->Uv s.heap S led (YX K.hsh df rs vs i)->(∀b o,h0.get? b=aa o->s.heap.get? b=aa o)->
   (∀h' tk,(∀b o,b∉S::wr->s.heap.get? b=aa o->h'.get? b=aa o)->Uv h' S led (YX K.hsh df rs vs n)->R (.ok<|.ret .none) {s with heap:=h',toks:=tk})->fC (aT prog w) A (.builtin "set.update.loop" #[[.ref S,.ref I],[]]) R s:=by
 have hSw:S∉wr:=λz=>hSf<|W.sub _ z
 intro k
 induction k with
 |zero=>
  intro i s hk hi st hS _ hR;obtain rfl:i=n:=by lia
  refine eU lB ?_;rw[dU gK _];show aY _ A.in1 (my (.ref I) >>= _) _ _ s;exact ab<|W.done s _ _ st λh' tk kp=>ax<|hR h' tk (λb o z e=>kp b o (λy=>z<|af _ y) e)<|hS.keep λo e=>kp S o hSw e
 |succ k ih=>
  intro i s hk hi st hS k0 hR;have lt:i<n:=by lia
  refine eU lB ?_;rw[dU gK _];show aY _ A.in1 (my (.ref I) >>= _) _ _ s;refine ab<|W.item i s _ _ lt st λx h1 tk hP st1 kp=>?_
  obtain⟨q,eq,Rq⟩:=hr i lt;obtain rfl:x=.ref q:=(hv i x hP).trans eq;have nf:∀b o,h0.get? b=aa o->b∉S::wr:=λb o e z=>by rw[hfr b z]at e;cases e
  have k1:∀b o,h0.get? b=aa o->h1.get? b=aa o:=λb o e=>kp b o (λy=>nf b o e<|af _ y)<|k0 b o e
  have R1:K.ob h1 q (rs.getD i df):=K.keep Rq k1;show aY _ A.in1 (fV [bX q] (setAdd S<|.ref q) >>= _) _ _ _;refine ab<|ck ?_;unfold setAdd;refine ck<|ab<|K.hash (by simp;lia) R1 λtk2=>?_
  have hne:∀e∈YX K.hsh df rs vs i,e.1≠K.hsh (rs.getD i df):=λe he z=>by
   obtain⟨j,hj,rfl⟩:=aC.mp<|dv.mp he;have hj:=aN.mp hj;have:=bo.mp hnd j i (by rw[aq];lia) (by rw[aq];lia) hj
   rw[iu,iu]at this;refine this ?_;have z:K.hsh (rs.getD j df)=K.hsh (rs.getD i df):=z;rw[aA,aA,ag (show j<rs.length by lia),ag (show i<rs.length by lia)]at z
   exact z
  have hlen:(YX K.hsh df rs vs i).length=i:=by unfold YX;simp
  show aY _ _ (n8 S (.ref q)<|K.hsh<|rs.getD i df) _ _ _;refine jh (s:={s with heap:=h1,toks:=tk2}) (hx:=K.hsh<|rs.getD i df) (hS.keep λo e=>kp S o hSw e) hne (by lia) (λhQ=>K.hbv R1 hQ) λh2 sb hS2=>?_
  have hS2:Uv h2 S led (YX K.hsh df rs vs<|i+1):=by rw[xJ];unfold GA;rw[eq];exact hS2
  have k2:∀b o,b∉S::wr->h1.get? b=aa o->h2.get? b=aa o:=λb o z e=>by rw[sb.2 b λy=>z (by rw[y];exact ai)];exact e
  refine ax #[k5 gK _,ih (i+1) _ (by lia) lt (W.frame _ _ _ st1 λb z o e=>?_) hS2 (λb o e=>k2 b o (nf b o e)<|k1 b o e) λh3 tk3 kp3 hS3=>hR h3 tk3 (λb o z e=>kp3 b o z<|k2 b o z<|kp b o (λy=>z<|af _ y) e) hS3]
  rw[sb.2 b λy=>hSf<|y▸z];exact e
set_option maxHeartbeats 3200000 in
theorem u8{df:B}(K:Kd prog w B){l:aP}{items:Array ao}{rs:List B}{Q:ao->au->Prop}(hh:A.handled=ae)(hu:A.units+7<dA)(hl:s.heap.IsList l items)(hn:rs.length=items.size)(hnd:(rs.map K.hsh).Nodup)(h3:rs.length<=1399)(hr:∀i,i<rs.length->∃q,items.toList.getD i .none=.ref q/\K.ob s.heap q (rs.getD i df))
  (h:∀h' tk,Uv h' s.heap.objs.size (WJ w) (YX K.hsh df rs items.toList rs.length)->(∀b o,s.heap.get? b=aa o->h'.get? b=aa o)->Q (.ref s.heap.objs.size) {s with heap:=h',toks:=tk}):aY (aT prog w) A (call (.type "set") [.ref l]) Q E s:=by
 obtain⟨c,tl,hmro⟩:=F.called_set.mro;have hmade:=F.called_set.made;have hsub:=F.called_set.sub;refine wpAny_call<|iK ?_;show aY _ _ (callAny (.type "set") _) _ _ _;refine ax #[Code.quiet_builtin _ (by decide +kernel),eU F.entry_type_call ?_];rw[cn.under_plain (weight_type_call_type "set" [.ref l] []) rfl]
 have h1:=F.called_set.notType;have h2:=F.called_set.canCreate;have hct:=F.typeCall_set_1<|.ref l
 repeat(any_goals (first|assumption|wp_step))
 let so:fP:={cls:=.type "set",dict:=ae,data:=.set #[] 0 (.fresh 0 0<|WJ w)}
 refine gP (ZcB (.ref l) (E:=E) (Q:=λobj s1=>obj=.ref s.heap.objs.size/\s1={s with heap:=s.heap.push so}) #[rfl,rfl]) λr s1 hr1=>?_
 cases r with
 |error e=>exact hr1
 |ok fl=>
  cases fl with
  |ret obj=>
   obtain⟨rfl,rfl⟩:=hr1;have hS:(s.heap.push so).get? s.heap.objs.size=aa so:=aO _ rfl;have hT:au.TypeIs {s with heap:=s.heap.push so} (.ref s.heap.objs.size) "set":=#[_,hS,rfl]
   have hli:=F.called_set.init.lookup;have hbi:=F.called_set.init.bind<|.ref s.heap.objs.size
   repeat(any_goals (first|assumption|wp_step))
   refine gP (codeAny_call_builtin (R:=wants (λr s2=>r=.none/\∃h' tk,s2={s with heap:=h',toks:=tk}/\Uv h' s.heap.objs.size (WJ w) (YX K.hsh df rs items.toList rs.length)/\∀b o,s.heap.get? b=aa o->h'.get? b=aa o) E) F.called_set.init.plain F.entry_set_init<|check_set_init_1 hT ?_) λr2 s2 hr2=>?_
   .obtain⟨⟨ocls,odict,odata,oslots⟩,hol,hcl,nl,hdl⟩:=hl
    simp only at hcl hdl;subst hcl hdl;have hol':(s.heap.push so).get? l=aa {cls:=.type "list",dict:=odict,data:=.seq items nl,slots:=oslots}:=aw _ hol;have hsls:=F.sub_list_set;have hslf:=F.sub_list_frozenset;have hne:(ni "list" == ni "dict")=am:=by decide
    have hl1:(s.heap.push so).IsList l items:=#[_,hol',rfl,nl,rfl];unfold dD.«set.__init__» noKeywords dD.Frozenset.updateFrom;generalize hPI:kQ=PI
    wp_walk
    subst hPI;refine fN hl1<|ab<|wpAny_runValue ?_;have hlS:l<s.heap.objs.size:=aJ hol;have sz:(s.heap.push so).objs.size=s.heap.objs.size+1:=cZ ..;have hh3:A.in1.in1.in1.handled=ae:=by simp[hh]
    obtain⟨f1,f2,f3,f4,f5⟩:=Zc0<|WJ w;have out:∀b,b<s.heap.objs.size->b∉s.heap.objs.size::[(s.heap.push so).objs.size]:=λb hb z=>by
     rw[sz]at z;rcases ay.mp z with z|z
     .lia
     .have:=aQ.mp z;lia
    refine uw (df:=df) K (led:=WJ w) (h0:=s.heap) (rs:=rs) (vs:=items.toList) (Walks.list hh3 _ l (by rw[sz];exact bz<|dE hlS) items) s.heap.objs.size (by rw[sz];intro z;rcases ay.mp z with z|z;exact T7 z<|bz<|ip _;exact T7 (aQ.mp z)<|fW hlS) (by simp;lia) hn hnd (by lia) (λi x e=>by
     rw[aA,aZ,e];rfl) (λi hi=>by
     obtain⟨q,e,R⟩:=hr i (by lia)
     exact#[q,e,R]) (λb hb=>by
     cases z:s.heap.get? b with
     |none=>rfl
     |some o=>exact T7 hb<|out b<|aJ z) (items.size-0) 0 _ (by lia) (cL _) #[#[_,aO _ rfl,rfl,rfl],hl1.push _] #[so,#[],0,_,aw _ hS,#[rfl,rfl,rfl],rfl,f1,f2,f3,f4,bE _,f5] (λb o e=>aw _<|aw _ e) λh' tk kp hS'=>?_
    show aY _ _ _ _ _ _;refine ax ?_;show aY _ _ (rF bf) _ _ _;refine ax #[rfl,h',tk,rfl,by rw[hn];exact hS',λb o e=>kp b o (out b<|aJ e)<|aw _<|aw _ e]
   .cases r2 with
    |error e=>exact hr2
    |ok fl2=>
     cases fl2 with
     |ret r=>
      obtain⟨rfl,h',tk,rfl,hS',hk'⟩:=hr2
      repeat(any_goals (first|assumption|wp_step))
      exact h _ _ hS' hk'
     |_=>exact hr2.elim
  |_=>exact hr1.elim
end
noncomputable def YQ(P:List (List Int)):Int:=reduceHash<|ga<|P.map ZgF
def JS(h:cc)(a:aP)(P:List (List Int)):Prop:=∃o us m,h.get? a=aa o/\o.cls=.type "tuple"/\o.data=.seq us.toArray m/\RowsIn h P us
def We.obj{h:cc}{r:List Int}{v:ao}(R:We h r v):∃a,v=.ref a/\qG h a r:=
 let #[a,o,us,m,e,ho,hc,hd,hv]:=R;#[a,e,o,us,m,ho,hc,hd,hv]
theorem RowsIn.all{h:cc}:∀{P:List (List Int)}{us:List ao},RowsIn h P us->∀v∈us,∃a r,v=.ref a/\qG h a r
 |_,_,.nil,v,hv=>by cases hv
 |_,_,.cons R t,v,hv=>by
  rcases ay.mp hv with rfl|hv
  .obtain⟨a,e,R⟩:=R.obj
   exact#[a,_,e,R]
  .exact RowsIn.all t v hv
section
variable{prog:bt}{w:bL}{E:ao->au->Prop}
def jp{f:Nat}{A:cn}{s:au}{a:aP}{r:List Int}{Q:Bool->au->Prop}(R:qG s.heap a r)(hQ:Q al s):aY (aT prog w) A (mO (f+1)<|.ref a) Q E s:=by
 obtain⟨o,us,m,ho,hc,hd,hv⟩:=R;have hi:=zB hv;rw[og];refine ab<|gq #[o,ho,hc] F.slot_tuple_hash.lookup ?_;refine ab (m:=oS<|.ref a) ?_;unfold oS
 refine ab<|lE ho ?_;rw[hd];refine ax ?_;refine ab ?_;show aY _ _ (l7 us.toArray (ae,()) _) _ _ s;rw[<-kr];refine ir _ (λl b s'=>b=(ae,())/\s'=s/\∀v∈l,∃n t,v=lg n t) _ (λx rest b s' h=>?_) (λb s' h=>?_) _ _ #[rfl,rfl,hi]
 .obtain⟨rfl,rfl,h⟩:=h
  obtain⟨n,t,rfl⟩:=h x<|ai ..;refine ab<|cM (hashByValue_scannable f rfl) ?_;rw[show plainKind (lg n t)=al from rfl,T8 (by simp)]
  exact ax #[rfl,rfl,λv hv=>h v<|af _ hv]
 .obtain⟨rfl,rfl,_⟩:=h
  exact ax hQ
def Zap{A:cn}{s:au}{a:aP}{P:List (List Int)}{Q:Bool->au->Prop}(R:JS s.heap a P)(hQ:Q al s):aY (aT prog w) A (mO 8<|.ref a) Q E s:=by
 obtain⟨o,us,m,ho,hc,hd,hv⟩:=R;have hi:=hv.all;rw[og];refine ab<|gq #[o,ho,hc] F.slot_tuple_hash.lookup ?_;refine ab (m:=oS<|.ref a) ?_;unfold oS
 refine ab<|lE ho ?_;rw[hd];refine ax ?_;refine ab ?_;show aY _ _ (l7 us.toArray (ae,()) _) _ _ s;rw[<-kr];refine ir _ (λl b s'=>b=(ae,())/\s'=s/\∀v∈l,∃a r,v=bX a/\qG s.heap a r) _ (λx rest b s' h=>?_) (λb s' h=>?_) _ _ #[rfl,rfl,hi]
 .obtain⟨rfl,rfl,h⟩:=h
  obtain⟨q,r,rfl,Rq⟩:=h x<|ai ..;refine ab<|jp (f:=6) Rq ?_;rw[T8 (by simp)]
  exact ax #[rfl,rfl,λv hv=>h v<|af _ hv]
 .obtain⟨rfl,rfl,_⟩:=h
  exact ax hQ
theorem US:∀(P:List (List Int))(vs:List ao)(A:cn)(s:au)(b:Array Int)(Q:Array Int->au->Prop),RowsIn s.heap P vs->A.units<dA->
  (∀tk b',b'.toList=b.toList++P.map ZgF->Q b' {s with toks:=tk})->
  aY (aT prog w) A (l7 vs b λx r=>do let h <-pyHash x;cY PUnit.unit;cY (l9<|r.push h)) Q E s
 |[],_,A,s,b,Q,x,_,h=>by cases x;exact ax<|h s.toks b (by simp)
 |r::P,_,A,s,b,Q,x,hu,h=>by
  cases x with
  |cons x1 x2=>
   obtain⟨a,rfl,R⟩:=x1.obj;rw[iJ];refine ab<|ab<|wpAny_pyHash_tuple (knd:=gn prog w) hu R.key ?_;refine ab<|ax<|ax ?_;exact US P _ A _ _ Q x2 hu λtk' b' hb=>h tk' b' (by rw[hb,d3,bp];rfl)
theorem uy{A:cn}{s:au}{a:aP}{P:List (List Int)}{Q:Int->au->Prop}(hu:A.units+2<dA)(R:JS s.heap a P)(h:∀tk,Q (YQ P) {s with toks:=tk}):aY (aT prog w) A (pyHash<|.ref a) Q E s:=by
 obtain⟨o,us,m,ho,hc,hd,hv⟩:=R;refine PySem.W.pyHash_slot (T:="tuple") #[_,ho,hc] F.slot_tuple_hash F.entry_tuple_hash (F.args_tuple_hash_1 _) (by rfl) (.inr<|by lia) ?_
 show aY _ _ (fQ (.ref a) >>= _) _ _ s;refine ab<|wpAny_tupleItemsOf ho hd ?_;refine ab ?_;rw[<-kr];refine US P us A.in1 s #[] _ hv (by simp only[cn.in1_units];lia) λtk b hb=>?_
 show aY _ _ (retInt<|ga b.toList) _ _ _;rw[hb];exact ab<|wpAny_mkInt<|ax #[_,_,rfl,h _]
noncomputable def Zbs(prog:bt)(w:bL):Kd prog w (List<|List Int) where
 hsh:=YQ
 ob:=JS
 at':=λ#[o,us,m,ho,_]=>aJ ho
 keep:=λ#[o,us,m,ho,hc,hd,hv] k=>#[o,us,m,k _ _ ho,hc,hd,hv.lat k]
 hash:=uy
 hbv:=Zap
end
open Ev (ltP WU ZG)
noncomputable def ixK{B:Type}[BEq B](df:B)(rs:List B)(r:B):Nat:=((aE rs.length).find? λi=>rs.getD i df == r).getD 0
def jw{B:Type}[BEq B][LawfulBEq B]{df:B}{rs:List B}(hnd:rs.Nodup){i:Nat}(hi:i<rs.length):ixK df rs (rs.getD i df)=i:=by
 unfold ixK;cases q:(aE rs.length).find? λk=>rs.getD k df == rs.getD i df with
 |none=>exact T7 (gE.mp q i<|aN.mpr hi) (by simp)
 |some j=>
  have h1:=aN.mp<|f9 q;have h2:rs.getD j df=rs.getD i df:=by simpa using mf q
  rw[Y1 h1,Y1 hi]at h2;show j=i;refine(e8 h1 hnd).mp ?_;rw[ag h1,ag hi,h2]
def J4{B:Type}[BEq B][LawfulBEq B]{df:B}{rs:List B}(hnd:rs.Nodup){r:B}(hr:r∈rs):ixK df rs r<rs.length/\rs.getD (ixK df rs r) df=r:=by
 obtain⟨i,hi,rfl⟩:=bw hr;have:=jw (df:=df) hnd hi;rw[Y1 hi]at this;rw[this];exact#[hi,Y1 hi]
noncomputable def Qh{B:Type}(f:B->Int)(df:B)(rs:List B)(e:Int×ao):B:=(rs.find? λr=>f r == e.1).getD df
def QP{B:Type}{f:B->Int}{df:B}{rs:List B}{vs:List ao}(hh:(rs.map f).Nodup){i:Nat}(hi:i<rs.length):Qh f df rs (GA f df rs vs i)=rs.getD i df:=by
 unfold Qh GA;cases q:rs.find? λr=>f r == f (rs.getD i df)with
 |none=>exact T7 (gE.mp q (rs.getD i df)<|by rw[Y1 hi];exact aV hi) (by simp)
 |some r=>
  have h1:=f9 q;have h2:f r=f (rs.getD i df):=by simpa using mf q
  obtain⟨j,hj,rfl⟩:=bw h1;show rs[j]=rs.getD i df;rw[Y1 hi]at h2 ⊢;have:j=i:=by
   refine(e8 (l:=rs.map f) (by rw[aq];exact hj) hh).mp ?_
   rw[aH,aH,ag hj,ag hi];exact congrArg aa h2
  subst this;rfl
def qi{B:Type}(df:B)(rs:List B):(aE rs.length).map (λi=>rs.getD i df)=rs:=by
 refine bV λi=>?_
 rw[aH];by_cases h:i<rs.length
 .rw[bO h,ag h]
  exact congrArg aa<|Y1 h
 .rw[bn (by rw[a7];lia),bn (by lia)];rfl
theorem Qt{h:cc}{g:Int×ao->List (List Int)}:∀{l:List (Int×ao)},(∀e∈l,∃q,e.2=.ref q/\JS h q (g e))->PartsAt h (l.map g) (l.map (·.2))
 |[],_=>.nil
 |e::l,H=>by
  obtain⟨q,e1,o,us,m,h1,h2,h3,h4⟩:=H e<|ai ..;rw[bi,bi,e1];exact .cons h1 h2 h3 h4<|Qt λx hx=>H x<|af _ hx
section
variable{prog:bt}{w:bL}{A:cn}{E:ao->au->Prop}{s:au}{d:aP}
theorem ye{rs:List (List<|List Int)}{vs:List ao}{Q:ao->au->Prop}(hh:A.handled=ae)(hS:Uv s.heap d (WJ w) (YX YQ [] rs vs rs.length))(hnd:rs.Nodup)(hhd:(rs.map YQ).Nodup)(hu:A.units+2<dA)(hne:2<=rs.length->∀r∈rs,r≠[])(h3:rs.length<=1399)(hr:∀i,i<rs.length->∃q,vs.getD i .none=.ref q/\JS s.heap q (rs.getD i []))
  (h:∀h' tk D n,(∀b o,s.heap.get? b=aa o->h'.get? b=aa o)->s.heap.objs.size<=D->h'.get? D=aa (fv "list" ((ZG ltP rs).map λr=>vs.getD (ixK [] rs r) bf).toArray n)->Q (.ref D) {s with heap:=h',toks:=tk}) :
  aY (aT prog w) A (call (.builtin "sorted") [.ref d]) Q E s:=by
 obtain⟨o,es,ep,t,ho,hex,hd,T,hp,hpl,hld,pm,hrm⟩:=hS;have SO:SetO w o es ep t:=#[hex,hd,T,hp,hpl,hld,hrm];have pm':(WM w d ep es).toList.Perm (YX YQ [] rs vs rs.length):=yB.trans pm;have hent:∀e∈YX YQ [] rs vs rs.length,∃i,i<rs.length/\e=GA YQ [] rs vs i:=λe he=>by
  obtain⟨i,hi,rfl⟩:=aC.mp<|dv.mp he;exact#[i,aN.mp hi,rfl]
 generalize hl:(WM w d ep es).toList=l at pm';have hle:∀e∈l,∃i,i<rs.length/\e=GA YQ [] rs vs i:=λe he=>hent e<|pm'.mem_iff.mp he
 let rs':=l.map<|Qh YQ [] rs
 have hP:rs'.Perm rs:=by
  refine(pm'.map<|Qh YQ [] rs).trans ?_;unfold YX;rw[fY,bC];refine(dF _).trans<|gw ?_;rw[show(aE rs.length).map (Qh YQ [] rs∘GA YQ [] rs vs)=(aE rs.length).map λi=>rs.getD i []from bW λi hi=>QP hhd<|aN.mp hi]
  exact qi [] rs
 have nd':rs'.Nodup:=hP.nodup_iff.mpr hnd;have RA:PartsAt s.heap rs' (l.map (·.2)):=Qt λe he=>by
  obtain⟨i,hi,rfl⟩:=hle e he;rw[QP hhd hi];exact hr i hi
 have hvs:l.map (·.2)=rs'.map λr=>vs.getD (ixK [] rs r) bf:=by
  show _=(l.map<|Qh YQ [] rs).map _;rw[bC];refine bW λe he=>?_
  obtain⟨i,hi,rfl⟩:=hle e he;show vs.getD i .none=vs.getD (ixK [] rs<|Qh YQ [] rs<|GA YQ [] rs vs i) .none;rw[QP hhd hi,jw hnd hi]
 have hlen:l.length=rs.length:=by rw[<-hP.length_eq];show _=(l.map _).length;rw[aq]
 have hsz:es.size=rs.length:=by
  rw[<-hlen,<-hl,aD,Vw]
 have hl2:rs'.length=(l.map (·.2)).length:=by show(l.map _).length=_;rw[aq,aq]
 refine wg (vs:=l.map (·.2)) (Zbf SO) hh ho (λacc ha=>?_) (by lia) (by rw[aq,hlen,hsz]) (Zho (df:=[]) Z4 nd' hl2) (xB (by simp;lia) RA nd' λh2 r hr'=>hne (by rw[aq,hlen]at h2;exact h2) r<|hP.mem_iff.mp hr') λp h' tk D n g1 g2 kp hD hL=>?_
 .refine bV λi=>?_
  rw[<-hl];by_cases hi:i<es.size
  .have hla:i<acc.size:=by rw[ha.1];exact hi
   have:=ha.2 i acc[i]<|aS hla;rw[aH,aZ,aZ,this,aS hla]
  .rw[bn (by rw[aD,ha.1];lia),bn (by rw[aq,aD,Vw];lia)]
 .rw[<-hl2]at g1 g2
  have out:(p.toList.map λi=>rs'.getD i [])=ZG ltP rs':=ZgQ (b:=am) Z4 nd' g1 g2
  have es':ZG ltP rs'=ZG ltP rs:=YY Z4 ((Z2 _).trans<|hP.trans (Z2 _).symm) (Yu Z4 nd')<|Yu Z4 hnd;have hq:p.toList.Perm (aE rs'.length):=by simpa using bB.mp g1
  have e:(p.toList.map λi=>(l.map (·.2)).getD i bf)=(ZG ltP rs).map λr=>vs.getD (ixK [] rs r) bf:=by
   rw[<-es',<-out,bC];refine bW λi hi=>?_
   have hi:=aN.mp<|hq.mem_iff.mp hi;rw[hvs];show(rs'.map _).getD i .none=vs.getD (ixK [] rs<|rs'.getD i []) .none;rw[Y1 (show i<(rs'.map _).length by rw[aq];exact hi),iu,Y1 hi]
  refine h h' tk D n kp hD ?_;rw[hL];show aa (fv "list" (cO (p.toList.map λi=>(l.map (·.2)).getD i bf)) n)=_
  rw[e]
end
open Ev (E Sm Fn Bop Cop Ty Bf Mf XB Yi)
def QJ{ps:List (List<|List Int)}(h:XB ps=al):ps.Nodup/\(ps.map YQ).Nodup/\(2<=ps.length->∀P∈ps,P≠[])/\ps.length<=1399:=by
 unfold XB at h;rw[aG,aG,T0,T0]at h;obtain⟨h1,h2,h3⟩:=h;unfold Yi at h1;rw[aG,aG,T0,T0,gu,T0,aX]at h1;refine#[h1.1.2,h3,λh4 P hP e=>?_,h2]
 rcases h1.2 with h|h
 .lia
 .have:=h P hP
  rw[e]at this;cases this
theorem Jj:∀ps:List (List<|List Int),Pv.Yy (ps.map Pv.Za)=aa ps
 |[]=>rfl
 |P::ps=>by
  show(match Pv.Z1 (P.map Pv.Zd),Pv.Yy (ps.map Pv.Za)with|some a,aa b=>aa (a::b)|_,_=>ae)=_
  rw[ze P,Jj ps]
theorem Qo:∀{ds:List D}{ps:List (List<|List Int)},Pv.Yy ds=aa ps->ds=ps.map Pv.Za
 |[],ps,h=>by cases h;rfl
 |d::ds,ps,h=>by
  obtain⟨ks,a,b,rfl,q1,q2,rfl⟩:=Qb h;rw[JQ q1,Qo q2];rfl
theorem W5{h:cc}:∀{rs:List (List<|List Int)}{us:List ao},PartsAt h rs us->∀i,i<rs.length->∃q,us.getD i .none=.ref q/\JS h q (rs.getD i [])
 |_,_,.nil,i,hi=>by cases hi
 |_,_,.cons (a:=a) h1 h2 h3 h4 R,0,_=>#[a,rfl,_,_,_,h1,h2,h3,h4]
 |_,_,.cons h1 h2 h3 h4 R,i+1,hi=>W5 R i (by simpa using hi)
def ZgD(te:TE):TE:=λZ H Q=>te Z H λv H1=>∃(O:Mx)(a:aP)(xs:List V)(rs:List (List<|List Int)),v=.ref a/\H1 a=aa (.lst xs)/\Reps O H1 (rs.map Pv.Za) xs/\XB rs=al/\∀D,H1 D=ae->Q (.ref D) (upd H1 D<|.lst<|(ZG ltP rs).map λr=>xs.getD (ixK [] rs r) V.non)
def xy{X:Cx}{e:Expr}{te:TE}{p p2 p3 pos:iP}(hc:X.calm=al)(hu:X.A.units+7<dA)(he:PE X e te)(hm1:X.mg "sorted" = ae)(hm2:X.mg "set" = ae)(hg1:Gl X "sorted")(hg2:Gl X "set")
  (hs1:aL [e] X.env=(am,cI e X.env)::aL [] X.env)(hs2:aL [.Call (.Name "set" p2) [e] [] p3] X.env=(am,cI (.Call (.Name "set" p2) [e] [] p3) X.env)::aL [] X.env) :
  PE X (.Call (.Name "sorted" p) [.Call (.Name "set" p2) [e] [] p3] [] pos) (ZgD te):=by
 intro pq s Z H Q I h;refine eB<|YT I hg1 hm1 (by rfl) ?_ (by decide) (by decide)
 refine ig ?_ hs2 rfl;rw[hs2];show aY _ _ (spliced ((am,cI (.Call (.Name "set" p2) [e] [] p3) X.env)::fj pos (aL [] X.env))) _ _ s;refine Calls.spliced_cons ?_;refine eB<|YT I hg2 hm2 (by rfl) ?_ (by decide) (by decide)
 refine b4 ?_ hs1 rfl;rw[hs1];show aY _ _ (spliced ((am,cI e X.env)::fj p3 (aL [] X.env))) _ _ s;refine Calls.spliced_cons<|thn (he pq s Z H _ I h) λu s1 #[x,H1,I1,r1,O,a,xs,rs,ex,ha,rx,hok,q1]=>Calls.spliced_nil ?_
 subst ex;cases(show u=bX a from r1)
 obtain⟨nd,hnd,hne,h3⟩:=QJ hok;obtain⟨hz,us,n,rel,ho⟩:=I1.hok a _ ha;obtain⟨RA,_⟩:=yq I1 (Jj rs) rx rel;have hlx:xs.length=rs.length:=by rw[rx.length,aq]
 have hlen:us.length=rs.length:=by rw[<-rel.length,hlx]
 have hh:=I1.ok.hd hc;refine u8 (Zbs X.prog X.w) (df:=[]) (rs:=rs) (items:=us.toArray) hh hu #[_,ho,rfl,n,rfl] (by simp[hlen]) hnd h3 (λi hi=>W5 RA i hi) λh2 tk2 hS k2=>?_
 refine Calls.spliced_nil ?_;have hS:Uv h2 s1.heap.objs.size (WJ X.w) (YX YQ [] rs us rs.length):=hS;refine ye (s:={s1 with heap:=h2,toks:=tk2}) hh hS nd hnd (by lia) hne h3 (λi hi=>by
  obtain⟨q,e,R⟩:=W5 RA i hi;exact#[q,e,(Zbs X.prog X.w).keep R k2]) λh3' tk3 D m k3 hD hL=>?_
 have le:s1.heap.objs.size<=D:=by
  obtain⟨o,_,_,_,hg,_⟩:=hS;exact cf (gL<|aJ hg) hD
 have hix:∀i∈(ZG ltP rs).map (ixK [] rs),i<xs.length:=λi hi=>by
  obtain⟨r,hr,rfl⟩:=aC.mp hi;rw[hlx];exact(J4 nd<|(Z2 rs).mem_iff.mp hr).1
 have rv:=yn (F:=(ZG ltP rs).map<|ixK [] rs) rel hix;rw[bC,bC]at rv;refine#[.ref D,_,I1.laid (a:=D) (o:=.lst<|(ZG ltP rs).map λr=>xs.getD (ixK [] rs r) V.non) (h':=h3') (t':=tk3) (λb o e=>k3 b o<|k2 b o e) le #[?_,_,m,rv,hL],rfl,q1 D<|I1.hok.fresh le]
 rw[aq,(Z2 rs).length_eq,cU];lia
def xh{X:Cx}{xw:Nat->Hp->Prop}{C:Calls}{e:Expr}{i:E}{p p2 p3 pos:iP}(hc:X.calm=al)(hu:X.A.units+7<dA)(he:CE X xw C e i)(hm1:X.mg "sorted" = ae)(hm2:X.mg "set" = ae)(hg1:Gl X "sorted")(hg2:Gl X "set")
  (hs1:aL [e] X.env=(am,cI e X.env)::aL [] X.env)(hs2:aL [.Call (.Name "set" p2) [e] [] p3] X.env=(am,cI (.Call (.Name "set" p2) [e] [] p3) X.env)::aL [] X.env) :
  CF X xw C (.Call (.Name "sorted" p) [.Call (.Name "set" p2) [e] [] p3] [] pos) (.blt .sortedU [i]):=.mk <| PE.imp (xy hc hu he.h hm1 hm2 hg1 hg2 hs1 hs2)<|by
 rintro Z H Q ⟨O,l,S,st,lr,h⟩;rw[Pv.pv,Pv.pvs,YM]at h;refine#[O,l,S,st,lr,h.bind λx S1 ρ1 H1 v f1 st1 r1 h1=>?_]
 cases f1.eq;rw[Pv.pvs]at h1;obtain⟨z,hz,h2⟩:=End.po h1;clear h1;cases x with
 |lst ds=>
  obtain⟨rs,e1,hz⟩:=du.mp hz;split at hz
  case isFalse=>cases hz
  rename_i hok
  cases hz;obtain⟨a,xs,rfl,ha,_,rx⟩:=r1.lst';have hds:ds=rs.map Pv.Za:=Qo e1;subst hds;obtain⟨nd,_,_,_⟩:=QJ hok;refine#[O,a,xs,rs,rfl,ha,rx,hok,?_];have hix:∀i∈(ZG ltP rs).map (ixK [] rs),i<rs.length:=λi hi=>by
   obtain⟨r,hr,rfl⟩:=aC.mp hi;exact(J4 nd<|(Z2 rs).mem_iff.mp hr).1
  have rm:=uQ (enc:=Pv.Za) (df:=[]) (F:=(ZG ltP rs).map<|ixK [] rs) rx hix;have e2:((ZG ltP rs).map<|ixK [] rs).map (λi=>rs.getD i [])=ZG ltP rs:=by
   rw[bC];exact(bW λr hr=>(J4 nd<|(Z2 rs).mem_iff.mp hr).2).trans<|List.map_id' _
  rw[e2,bC]at rm;exact End.newF (show End X.K xw (WH al H) O H1 Q (.ok (.lst<|(ZG ltP rs).map Pv.Za) S1)from h2) f1 st st1 rm
 |_=>exact Ev.nos hz
end Sd
namespace Gn
open PySem PySem.Spec PyProof.Rows L2
open Ev (E Sm Fn Bop Cop Ty Bf Mf)
open Sd (Calls spF CompScope cxC hu7 vT jx)
structure FR where
 x:bI
 st:fU
 N:List bI
 k:Nat
noncomputable def FR.ps(r:FR):List bI:=r.N.take r.k
noncomputable def scB(N:List bI)(k:Nat)(sc:fg):Bool:=
 (match sc.kind with|.function=>al|_=>am)&&(!sc.isCoroutine&&(!sc.isGenerator&&(decide N.Nodup&&((N.take k).all (λx=>aj (sc.names.lookup x=aa .local)||decide (sc.names.lookup x=aa .cell))&&sc.names.all λy=>aj<|y.2≠.free))))
def Zee(h:scB N k sc=al):FnScope N (N.take k) sc:=by
 unfold scB at h;simp only[aG,oh,T0,aX,gu]at h;obtain⟨h1,h2,h3,h4,h5,h6⟩:=h;refine#[?_,h2,h3,h4,?_,h5,h6]
 .cases e:sc.kind<;>rw[e]at h1<;>first|rfl|cases h1
 .rw[bq]
  by_cases hk:k<=N.length
  .rw[me hk]
  .rw[Nat.min_eq_right (by omega),io,cy (by omega)]
inductive Gv where
 |int (n:Int)|tab (t:List (Int×Int))
 deriving DecidableEq
def Zgy(K:ap)(mg:bI->Option ao)(x:bI):Gv->Prop
 |.int n=>∃t:rD,mg x=aa (.int n t)
 |.tab t=>∃tb:aP,(∀P w,Sd.ZfQ P w K tb t)/\mg x=aa (.ref tb)
structure Top(K:ap)(mg:bI->Option ao)(fs:List FR)(zs:List bI)(gs:List (bI×Gv))(f:Nat->aP)(fd:Nat->c8):Prop where
 d:∀i r,fs[i]?=aa r->Fun K r.x r.x r.st (f i) (fd i)
 b:∀i r,fs[i]?=aa r->QA K (fd i) r.ps []
 m:∀i r,fs[i]?=aa r->mg r.x=aa (.ref<|f i)
 z:∀x∈zs,mg x=ae
 g:∀y∈gs,Zgy K mg y.1 y.2
def All(P:bt)(w:bL)(K:ap)(mg:bI->Option ao)(base:cc)(fs:List FR)(F:List Fn)(tk:Nat)(sn:List Nat)(f:Nat->aP)(fd:Nat->c8)(d:Nat):Prop:=
 ∀i r,fs[i]?=aa r->FnOk P w K mg base CX0 d (f i) (fd i) r.ps (spF K (Pv.Zo F tk d) (sn.contains i) i)
def Bd(fs:List FR)(zs:List bI)(gs:List (bI×Gv))(F:List Fn)(tk:Nat)(sn:List Nat)(i:Nat)(r:FR)(fn:Fn):Prop:=
 ∀(P:bt)(w:bL)(K:ap)(mg:bI->Option ao)(base:cc)(f:Nat->aP)(fd:Nat->c8)(d:Nat),Top K mg fs zs gs f fd->All P w K mg base fs F tk sn f fd d->r.N.Nodup->
  ∀(cdv:ao)(A:cn)(outer:List Env)(s:au)(H:Hp)(E:XK),Room d (A.deeper<|i6 r.x (ZB r.st) s.heap.objs.size (f i) cdv)->(A.deeper<|i6 r.x (ZB r.st) s.heap.objs.size (f i) cdv).units+7<dA->
   Sd.CSs (zi CX0 P w K mg base r.N r.x (ZB r.st) (f i) cdv A outer s H E).nox (λ_ _=>False) (sn.contains i) (Pv.Zo F tk d) (Pv.muts fn.body) (YD r.st) fn.body
def OkL(fs:List FR)(zs:List bI)(gs:List (bI×Gv))(F:List Fn)(tk:Nat)(sn:List Nat):Nat->List FR->List Fn->Prop
 |_,[],[]=>True
 |i,r::rs,fn::fns=>(fn.ns=r.N.length/\fn.ps=r.ps.length/\scB r.N r.k (ZB r.st)=al/\Bd fs zs gs F tk sn i r fn)/\OkL fs zs gs F tk sn (i+1) rs fns
 |_,_,_=>False
theorem OkL.get{fs:List FR}{zs:List bI}{gs:List (bI×Gv)}{F:List Fn}{tk:Nat}{sn:List Nat}:∀{rs:List FR}{fns:List Fn}{i0:Nat},OkL fs zs gs F tk sn i0 rs fns->∀i r,rs[i]?=aa r->∃fn,fns[i]?=aa fn/\fn.ns=r.N.length/\fn.ps=r.ps.length/\scB r.N r.k (ZB r.st)=al/\Bd fs zs gs F tk sn (i0+i) r fn
 |[],_,_,_,i,r,e=>by simp at e
 |_::_,[],_,h,_,_,_=>h.elim
 |r::rs,fn::fns,i0,h,0,r',e=>by
  simp at e;subst e;exact#[fn,rfl,h.1.1,h.1.2.1,h.1.2.2.1,h.1.2.2.2]
 |r::rs,fn::fns,i0,h,i+1,r',e=>by
  obtain⟨g,a,b,c,d,q⟩:=OkL.get h.2 i r' (by simpa using e)
  exact#[g,by simpa using a,b,c,d,by rw[kY,nM 1 i]at q;exact q]
theorem Zba{P:bt}{w:bL}{K:ap}{mg:bI->Option ao}{base:cc}{fs:List FR}{zs:List bI}{gs:List (bI×Gv)}{F:List Fn}{tk:Nat}{sn:List Nat}{f:Nat->aP}{fd:Nat->c8}(O:OkL fs zs gs F tk sn 0 fs F)(hT:F[tk]?=aa Sd.WO)(T:Top K mg fs zs gs f fd):∀d,All P w K mg base fs F tk sn f fd d
 |0=>λi r h=>vT
 |d+1=>λi r h=>by
  obtain⟨fn,a,b,c,e,q⟩:=O.get i r h;rw[g7]at q;have S:=Zee e;have hb:=λcdv A outer s H E hr=>(q P w K mg base f fd d T (Zba O hT T d) S.nd cdv A outer s H E hr<|hu7 hr)
  by_cases ht:i=tk
  .subst ht
   rw[hT]at a;cases a;exact Sd.jr Sd.ZcM b c (T.d i r h) S hb
  .exact Sd.jr (Sd.Zcn ht a) b c (T.d i r h) S hb
def JE(r:FR):Prop:=∀(kV doc pm:ao)(an:Option aP)(cdv ct:ao)(us:List ao),us.length=r.ps.length->pF (ee r.x r.x (Xo r.st) (YD r.st) (ZB r.st) .none kV doc pm an cdv ct) #[us,[]]=cY (r.ps.zip us)
section
variable{x:bI}{st:fU}
noncomputable abbrev bA(x:bI)(st:fU)(kV doc pm:ao)(an:Option aP)(cdv ct:ao)(us:List ao):=pF (ee x x (Xo st) (YD st) (ZB st) .none kV doc pm an cdv ct) #[us,[]]
def bd1(h:∀kV doc pm an cdv ct a0,bA x st kV doc pm an cdv ct [a0]=cY ((N.take n).zip [a0]))(hl:(N.take n).length=1:=by rfl):JE #[x,st,N,n]:=λkV doc pm an cdv ct us e=>match us,e.trans hl with|[a0],_=>h kV doc pm an cdv ct a0
def bd2(h:∀kV doc pm an cdv ct a0 a1,bA x st kV doc pm an cdv ct [a0,a1]=cY ((N.take n).zip [a0,a1]))(hl:(N.take n).length=2:=by rfl):JE #[x,st,N,n]:=λkV doc pm an cdv ct us e=>match us,e.trans hl with|[a0,a1],_=>h kV doc pm an cdv ct a0 a1
def bd3(h:∀kV doc pm an cdv ct a0 a1 a2,bA x st kV doc pm an cdv ct [a0,a1,a2]=cY ((N.take n).zip [a0,a1,a2]))(hl:(N.take n).length=3:=by rfl):JE #[x,st,N,n]:=λkV doc pm an cdv ct us e=>match us,e.trans hl with|[a0,a1,a2],_=>h kV doc pm an cdv ct a0 a1 a2
def bd4(h:∀kV doc pm an cdv ct a0 a1 a2 a3,bA x st kV doc pm an cdv ct [a0,a1,a2,a3]=cY ((N.take n).zip [a0,a1,a2,a3]))(hl:(N.take n).length=4:=by rfl):JE #[x,st,N,n]:=λkV doc pm an cdv ct us e=>match us,e.trans hl with|[a0,a1,a2,a3],_=>h kV doc pm an cdv ct a0 a1 a2 a3
end
inductive FnsAt(K:ap):List FR->List aP->List c8->Prop
 |nil:FnsAt K [] [] []
 |cons {x:bI} {st:fU} {N:List bI} {n:Nat} {a:aP} {rs:List FR} {as:List aP} {fds:List c8} {oc kV dc pm cd ct:ao} {od an:Option aP} {sl:Array (Option ao)}
   (h1:hG K cT x=aa (aa<|.ref a)) (h2:K.lookup a=aa #[oc,od,.func<|ee x x (Xo st) (YD st) (ZB st) .none kV dc pm an cd ct,sl])
   (h3:i7 K cd x=al) (h4:gQ K (.ref a)=al) (h5:JE #[x,st,N,n]) (t:FnsAt K rs as fds) :
   FnsAt K (#[x,st,N,n]::rs) (a::as) (ee x x (Xo st) (YD st) (ZB st) .none kV dc pm an cd ct::fds)
inductive ZsAt(K:ap):List bI->Prop
 |nil:ZsAt K []
 |cons {x:bI} {zs:List bI} (h:hG K cT x=aa ae) (t:ZsAt K zs):ZsAt K (x::zs)
inductive GsAt(K:ap):List (bI×Gv)->Prop
 |nil:GsAt K []
 |cons {x:bI} {n:Int} {u:rD} {gs:List (bI×Gv)} (h:hG K cT x=aa (aa<|.int n u)) (t:GsAt K gs):GsAt K ((x,.int n)::gs)
 |tab {x:bI} {a:aP} {es:Array iZ} {n:Nat} {tb:List (Int×Int)} {gs:List (bI×Gv)} (h:hG K cT x=aa (aa<|.ref a)) (h2:K.lookup a=aa #[.type "dict",ae,.dict es n,#[]]) (h3:Sd.Xw es.toList tb) (h4:(a == ic)=am) (t:GsAt K gs):GsAt K ((x,.tab tb)::gs)
theorem GsAt.get{K:ap}{h:cc}{mg:bI->Option ao}(X:K.In h)(G:h.Ns cT mg):∀{gs:List (bI×Gv)},GsAt K gs->∀y∈gs,Zgy K mg y.1 y.2
 |_,.nil,x,h=>by simp at h
 |_,.cons h t,x,m=>by
  rcases ay.mp m with rfl|m
  .exact#[_,nc X G h]
  .exact t.get X G x m
 |_,.tab h h2 h3 h4 t,x,m=>by
  rcases ay.mp m with rfl|m
  .exact#[_,λP w=>Sd.Zdk h2 h3 h4,nc X G h]
  .exact t.get X G x m
theorem FnsAt.get{K:ap}{fd0:c8}:∀{fs:List FR}{as:List aP}{fds:List c8},FnsAt K fs as fds->∀i r,fs[i]?=aa r->
  hG K cT r.x=aa (aa<|.ref<|as.getD i 0)/\Fun K r.x r.x r.st (as.getD i 0) (fds.getD i fd0)/\JE r
 |_,_,_,.nil,i,r,e=>by simp at e
 |_,_,_,.cons h1 h2 h3 h4 h5 t,0,r,e=>by
  simp at e;subst e;exact#[h1,Zd0 h2 h3 h4,h5]
 |_,_,_,.cons h1 h2 h3 h4 h5 t,i+1,r,e=>by
  obtain⟨a,b,c⟩:=t.get i r (by simpa using e)
  exact#[by simpa using a,by simpa using b,c]
theorem ZsAt.get{K:ap}:∀{zs:List bI},ZsAt K zs->∀x∈zs,hG K cT x=aa ae
 |_,.nil,x,h=>by simp at h
 |_,.cons h t,x,m=>by
  rcases ay.mp m with rfl|m
  .exact h
  .exact t.get x m
def ZeW{l:l6}{w:bL}{K:ap}{h:cc}{mg:bI->Option ao}{fa:aP}{fs:List FR}{zs:List bI}{gs:List (bI×Gv)}{F:List Fn}{tk L:Nat}{sn:List Nat}{st:fU}{N:List bI}{as:List aP}{fds:List c8}
  (X:K.In h)(G:h.Ns cT mg)(hfa:mg "law" = aa (.ref fa))(hL:fs[L]?=aa #["law",st,"_law_script" :: N,1])(O:OkL fs zs gs F tk sn 0 fs F)(hT:F[tk]?=aa Sd.WO)(hLs:sn.contains L=am)(A:FnsAt K fs as fds)(Z:ZsAt K zs)(Y:GsAt K gs) :
  ∃fd:c8,(∀(s:au)(v:ao),nI s fd #[[v],[]] [("_law_script",v)])/\∀base:cc,K.In base->base.Ns cT mg->FnOk l.prog w K mg base CX0 65 fa fd ["_law_script"] (spF K (Pv.Zo F tk 65) am L):=by
 cases fds with
 |nil=>cases A;simp at hL
 |cons fd0 fds'=>
 have T:Top K mg fs zs gs (λi=>as.getD i 0) (λi=>(fd0::fds').getD i fd0):=
  #[λi r e=>(A.get i r e).2.1,λi r e=>by
   obtain⟨_,F,B⟩:=A.get (fd0:=fd0) i r e;exact F.binds B,λi r e=>nc X G (A.get (fd0:=fd0) i r e).1,λx hx=>PySem.W.mg_none_of X G<|Z.get x hx,λy hy=>Y.get X G y hy]
 have e:=hfa.symm.trans<|T.m L _ hL;obtain⟨_,Fu,B⟩:=A.get (fd0:=fd0) L _ hL;cases e;refine#[(fd0::fds').getD L fd0,λs v=>?_,λbase _ _=>?_]
 .obtain⟨oc,od,kV,doc,pm,an,cdv,ct,osl,e,lk,hcd⟩:=Fu.ex
  rw[e];exact .of_eq<|B kV doc pm an cdv ct [v] rfl
 .have:=Zba (P:=l.prog) (w:=w) (base:=base) O hT T 65 L _ hL
  rw[hLs]at this;exact this
def walk{l:l6}{q:bt}{loose:List bI}{XP:(bI->Option ao)->cc->Prop}{YP:bL->cc->Prop}{d:DefRec}{K:Params->ap}{F:List Fn}{tk L:Nat}(hok:∀(ns:List Int) s,∃S,Pv.Zo F tk 65 L [.scr ns] s=.ok (.bl al) S)(hn:l.most=aa 63)(hdf:d.params.defaults=[])
  (hY:∀(w:bL)(h:cc),YP w h->(K w.params).In h)
  (hF:∀(w:bL)(mg:bI->Option ao)(fa:aP)(h:cc),(K w.params).In h->h.Ns cT mg->mg d.name=aa (.ref fa)->
   ∃fd:c8,(∀(s:au)(u:ao),nI s fd #[[u],[]] [("_law_script",u)])/\∀base:cc,(K w.params).In base->base.Ns cT mg->FnOk l.prog w (K w.params) mg base CX0 65 fa fd ["_law_script"] (spF (K w.params) (Pv.Zo F tk 65) am L)) :
  p7 q loose XP YP l.row.toRowW d [] (λf vs=>pH f vs):=
 L2.ZbH (n:=63) (k:=65) (x:="_law_script") (CX:=λ_=>CX0) (sp:=λw=>spF (K w.params) (Pv.Zo F tk 65) am L) hn (by decide) hdf #[rfl,by decide,by decide] hY hF (λw H a ns hl hO hS=>jx hO hS<|hok ns) λ_ _ _ _ _ z=>z
def Top.no{K:ap}{mg:bI->Option ao}{x:bI}(T:Top K mg fs zs gs f fd)(h:zs.contains x=al):mg x=ae:=T.z x (by simpa using h)
def ZgH{n:Nat}{x:bI}(T:Top X.K X.mg fs zs gs f fd)(h:All X.prog X.w X.K X.mg X.base fs F tk sn f fd d)(hr:Room d X.A)(ha:Sd.CA X (λ_ _=>False) (Pv.Zo F tk d) (e::es) is)(hx:(fs[n]?).map FR.x=aa x)(hg:Gl X x)(hdb:(x == ("__debug__" : bI))=am)
  (he:aL (e::es) X.env=(am,cI e X.env)::aL es X.env)(hpl:(fj pos<|aL es X.env).any (·.1)=am):Sd.CE X (λ_ _=>False) (Pv.Zo F tk d) (.Call (.Name x p) (e::es) [] pos) (.call n is):=by
 cases e0:fs[n]? with
 |none=>rw[e0]at hx;cases hx
 |some r=>
  rw[e0]at hx;obtain rfl:r.x=x:=ak hx;exact Sd.ZcP (h n r e0) hr (T.m n r e0) (T.d n r e0).kp (T.b n r e0) ha hg hdb he hpl
def Zgi{x y:bI}{n k:Nat}{px p':iP}{ss:List fU}{B:List Sm}{fr:Bool}{ns:List Nat}(T:Top X.K X.mg fs zs gs f fd)(h:All X.prog X.w X.K X.mg X.base fs F tk sn f fd d)(hr:Room d X.A)(ha:Sd.CA X (λ_ _=>False) (Pv.Zo F tk d) (e::es) is)(hB:Sd.CSs X (λ_ _=>False) fr (Pv.Zo F tk d) ns ss B)(hN:X.N.Nodup)(hx:(fs[k]?).map FR.x=aa y)(hk:sn.contains k=al)
  (hg:Gl X y)(hdb:(y == ("__debug__" : bI))=am)(he:aL (e::es) X.env=(am,cI e X.env)::aL es X.env)(hpl:(fj p<|aL es X.env).any (·.1)=am)(hi:X.N[n]?=aa x)(hl:L2.Loc X.env.scope x)(hf:X.fn x=al\/X.env.scope.names.lookup x=aa .local)
  (hs:dN [.Name x px] (.Call (.Name y p') (e::es) [] p) pos.line X.env=cY am)(hw:dO [.Name x px] (.Call (.Name y p') (e::es) [] p) X.env=cY ae)(h1:(cA [.Name x px] X.env).map (·.2)=[dQ (.Name x px) X.env]) :
  Sd.CSs X (λ_ _=>False) fr (Pv.Zo F tk d) ns (.Assign [.Name x px] (.Call (.Name y p') (e::es) [] p) pos::ss) [.cel n k is B]:=by
 cases e0:fs[k]? with
 |none=>rw[e0]at hx;cases hx
 |some r=>
  rw[e0]at hx;obtain rfl:r.x=y:=ak hx;have q:=h k r e0;rw[hk]at q;refine Sd.ZeV (Sd.PE.imp (wL q hr hg (T.m k r e0) (T.d k r e0).kp (T.b k r e0) .nil ZdN ha.h hdb he hpl) λZ H Q z=>?_) hB hN hi hl hf hs hw h1
  unfold ZdE;simp only[cF];exact z
noncomputable def csB(sc:fg)(N0:List bI)(scope:fg)(N:List bI)(cap:List Nat)(nl:Nat):Bool:=
 ((N.take nl).all (λx=>aj (scope.names.lookup x=aa .local)||decide (scope.names.lookup x=aa .cell))&&(aj (N.length=nl+cap.length)&&(cap.zipIdx.all (λp=>aj (N[nl+p.2]?=N0[p.1]?)&&aj ((N0[p.1]?).map (λx=>aj<|(x,bF)∈scope.names)=aa al)) &&
  ((match scope.kind with|.function=>al|_=>am)&&scope.names.all λy=>(!decide (y.2=.cell) || !decide ((y.1,bF)∈scope.names))&&((!decide (y.2=.local)||decide (scope.names.lookup y.1=aa .local))&&(!decide (y.2=.free)||((aj (sc.names.lookup y.1=aa .cell)||decide (sc.names.lookup y.1=aa .free))&&aj (scope.names.lookup y.1≠aa .local))))))))
def Zfn{sc:fg}{N0:List bI}{scope:fg}{N:List bI}{cap:List Nat}{nl:Nat}(h:csB sc N0 scope N cap nl=al):CompScope sc N0 scope N cap nl:=by
 unfold csB at h;simp only[aG,gu,oh,T0,decide_eq_false_iff_not,aX]at h;obtain⟨_,h1,h2,h3,h4⟩:=h;refine#[?_,λy hy z=>(h4 y hy).1.resolve_left λq=>q z,λy hy z=>?_,λy hy z=>?_,λy hy z=>?_,h1,h2]
 .cases e:scope.kind<;>rw[e]at h3<;>first|rfl|cases h3
 .rcases(h4 y hy).2.1 with q|q
  .exact T7 z q
  .exact q
 .rcases(h4 y hy).2.2 with q|q
  .exact T7 z q
  .exact q.1
 .rcases(h4 y hy).2.2 with q|q
  .exact T7 z q
  .exact q.2
noncomputable def cN(scope:fg)(nl:Nat)(cap:List Nat)(N0:List bI):List bI:=((scope.names.drop 1).take nl).map (·.1)++cap.map λi=>N0.getD i ""
def wt{sc:fg}{N0:List bI}{scope:fg}{cap:List Nat}{nl:Nat}(h:csB sc N0 scope (cN scope nl cap N0) cap nl=al):CompScope sc N0 scope (cN scope nl cap N0) cap nl:=Zfn h
end Gn
namespace K54
open Ev
noncomputable def Qr:Fn:=#[2,2,
 [.ite (.cmp .lt (.v 1)<|.blt .len [(.v 0)]) [.ret<|.ix (.v 0)<|.v 1] [],
  .ret (.c<|.int 0)]]
noncomputable def GO:Fn:=#[2,3,
 [.asg [2]<|.call 0 [(.v 0),(.v 1)],
  .ite (.cmp .ge (.v 2)<|.bin .pow (.c<|.int 10)<|.c<|.int 18) [.ret<|.lst [(.bin .sub (.v 2)<|.bin .pow (.c<|.int 10)<|.c<|.int 18),(.c<|.bl al)]] [],
  .ret (.lst [(.bin .mod (.v 2)<|.c<|.int 2147483647),(.c<|.bl am)])]]
noncomputable def zU:Fn:=#[2,4,
 [.ite (.dix (.v 0) al) [.asg [2]<|.bin .mod (.dix (.v 0) am)<|.v 1,
  .dset 0 (.bin .fdiv (.dix (.v 0) am)<|.v 1),
  .ret (.v 2)] [],
  .dset 0 (.bin .mod (.bin .add (.bin .mul (.dix (.v 0) am)<|.c<|.int 48271)<|.c<|.int 29)<|.c<|.int 2147483647),
  .asg [3] (.bin .mod (.bin .add (.bin .add (.bin .mul (.dix (.v 0) am)<|.dix (.v 0) am)<|.bin .mul (.c<|.int 39373)<|.dix (.v 0) am)<|.c<|.int 7)<|.c<|.int 2147483629),
  .asg [3] (.bin .mod (.bin .add (.bin .mul (.v 3)<|.v 3)<|.bin .mul (.c<|.int 16807)<|.v 3)<|.c<|.int 2147483587),
  .ret (.bin .mod (.bin .fdiv (.v 3)<|.c<|.int 8)<|.v 1)]]
noncomputable def X1:Fn:=#[2,3,
 [.asg [2]<|.lst [(.tup [(.c<|.int 2),(.c<|.int 1)]),(.tup [(.c<|.int 2),(.c<|.int 2)]),(.tup [(.c<|.int 2),(.c<|.int 3)]),(.tup [(.c<|.int 2),(.c<|.int 4)]),(.tup [(.c<|.int 3),(.c<|.int 1)]),(.tup [(.c<|.int 3),(.c<|.int 2)]),(.tup [(.c<|.int 3),(.c<|.int 3)]),(.tup [(.c<|.int 5),(.c<|.int 1)]),(.tup [(.c<|.int 5),(.c<|.int 2)]),(.tup [(.c<|.int 2),(.c<|.int 3)]),(.tup [(.c<|.int 2),(.c<|.int 4)]),(.tup [(.c<|.int 3),(.c<|.int 3)])],
  .ite (.cmp .gt (.v 1)<|.c<|.int 27) [.asg [2]<|.bin .add (.v 2)<|.lst [(.tup [(.c<|.int 2),(.c<|.int 5)]),(.tup [(.c<|.int 2),(.c<|.int 6)]),(.tup [(.c<|.int 3),(.c<|.int 4)]),(.tup [(.c<|.int 5),(.c<|.int 3)])]] [],
  .ret (.ix (.v 2)<|.call 2 [(.v 0),(.blt .len [(.v 2)])])]]
noncomputable def Ve:Fn:=#[4,4,
 [.ret<|.blt .tuple [(.comp1 [3,0] 2 [0,1] (.zip (.v 1)<|.v 2) []<|.bin .mod (.bin .add (.v 0)<|.bin .mul (.v 2)<|.v 1)<|.v 3)]]]
noncomputable def Ju:Fn:=#[4,4,
 [.ret<|.call 4 [(.v 0),(.v 1),(.v 2),(.neg<|.ix (.v 1)<|.v 3)]]]
noncomputable def qH:Fn:=#[1,3,
 [.forr [1,2] (.enum<|.v 0) [.ite (.cmp .ne (.v 2)<|.c<|.int 0) [.ret<|.v 1] []],
  .ret (.c .non)]]
noncomputable def zo:Fn:=#[3,7,
 [.asg [3,4]<|.v 0,
  .asg [5] (.v 2),
  .forr [6] (.of<|.v 1) [.asg [5]<|.call 5 [(.v 3),(.v 5),(.v 6),(.call 6 [(.v 6)])]],
  .ret (.v 5)]]
noncomputable def GY:Fn:=#[3,3,
 [.ret<|.blt .tuple [(.comp1 [2,0] 1 [0] (.of<|.v 1) []<|.bin .mod (.bin .mul (.v 1)<|.v 0)<|.v 2)]]]
noncomputable def Jx:Fn:=#[2,3,
 [.asg [2]<|.c<|.int 1,
  .whl (.cmp .ne (.bin .mod (.bin .mul (.v 2)<|.v 1)<|.v 0)<|.c<|.int 1) [.aug 2 .add<|.c<|.int 1],
  .ret (.v 2)]]
noncomputable def Ws:Fn:=#[3,9,
 [.asg [3,4]<|.v 0,
  .asg [5] (.call 7 [(.v 0),(.v 1),(.v 2)]),
  .asg [6] (.call 6 [(.v 5)]),
  .ite (.cmp .is (.v 6)<|.c .non) [.ret<|.v 1] [],
  .asg [7] (.call 8 [(.v 3),(.v 5),(.call 9 [(.v 3),(.ix (.v 5)<|.v 6)])]),
  .asg [8] (.comp1 [3,7,6] 1 [0] (.of<|.v 1) []<|.call 5 [(.v 1),(.v 0),(.v 2),(.v 3)]),
  .ret (.blt .tuple [(.blt .sortedR [(.bin .add (.v 8)<|.lst [(.v 7)])])])]]
noncomputable def Yj:Fn:=#[3,5,
 [.asg [3]<|.v 1,
  .forr [4] (.of<|.v 2) [.asg [3]<|.call 10 [(.v 0),(.v 3),(.v 4)]],
  .ret (.v 3)]]
noncomputable def Xa:Fn:=#[3,3,
 [.ret<|.and (.isi (.v 0) [.int])<|.and (.not<|.isi (.v 0) [.bool])<|.chain .le .le (.v 1) (.v 0)<|.v 2]]
noncomputable def yA:Fn:=#[2,4,
 [.asg [2,3]<|.v 0,
  .ite (.or (.not<|.isi (.v 1) [.tuple])<|.cmp .ne (.blt .len [(.v 1)])<|.v 3) [.ret<|.c<|.bl am] [],
  .ret (.blt .all [(.comp1 [2] 1 [0] (.of<|.v 1) []<|.call 12 [(.v 0),(.c<|.int 0),(.bin .sub (.v 1)<|.c<|.int 1)])])]]
noncomputable def WP:Fn:=#[2,2,
 [.ite (.not<|.call 13 [(.v 0),(.v 1)]) [.raise 1 []] []]]
noncomputable def WB:Fn:=#[2,3,
 [.ite (.not<|.isi (.v 1) [.tuple,.list]) [.raise 1 []] [],
  .forr [2] (.of<|.v 1) [.ex<|.call 14 [(.v 0),(.v 2)]],
  .ret (.call 11 [(.v 0),(.tup []),(.v 1)])]]
noncomputable def Uj:Fn:=#[1,1,
 [.ret<|.blt .all [(.comp1 [] 2 [0,1] (.zip (.v 0)<|.sl (.v 0) (aa<|.c<|.int 1) ae) []<|.cmp .lt (.v 0)<|.v 1)]]]
noncomputable def XN:Fn:=#[2,2,
 [.ret<|.blt .all [(.comp1 [1] 1 [0] (.of<|.v 0) []<|.cmp .eq (.ix (.v 0)<|.v 1)<|.c<|.int 0)]]]
noncomputable def Wd:Fn:=#[3,3,
 [.ret<|.and (.cmp .eq (.ix (.ix (.v 0)<|.v 1)<|.v 2)<|.c<|.int 1)<|.call 17 [(.bin .add (.sl (.v 0) ae<|aa<|.v 1)<|.sl (.v 0) (aa<|.bin .add (.v 1)<|.c<|.int 1) ae),(.v 2)]]]
noncomputable def VW:Fn:=#[2,3,
 [.ite (.or (.not<|.isi (.v 1) [.tuple])<|.not<|.blt .all [(.comp1 [0] 1 [0] (.of<|.v 1) []<|.call 13 [(.v 1),(.v 0)])]) [.ret<|.c<|.bl am] [],
  .asg [2] (.comp1 [] 1 [0] (.of<|.v 1) []<|.call 6 [(.v 0)]),
  .ite (.or (.cmp .inn (.c .non)<|.v 2)<|.not<|.call 16 [(.v 2)]) [.ret<|.c<|.bl am] [],
  .ret (.blt .all [(.comp1 [1] 2 [0,1] (.enum<|.v 2) []<|.call 18 [(.v 2),(.v 0),(.v 1)])])]]
noncomputable def Uo:Fn:=#[2,2,
 [.ite (.not<|.call 19 [(.v 0),(.v 1)]) [.raise 2 []] []]]
noncomputable def Vf:Fn:=#[3,3,
 [.ite (.not<|.call 12 [(.v 0),(.v 1),(.v 2)]) [.raise 3 []] []]]
noncomputable def Q3:Fn:=#[2,6,
 [.asg [2,3]<|.v 0,
  .asg [4] (.lst [(.bin .add (.bin .mul (.tup [(.c<|.int 0)])<|.v 1)<|.tup [(.c<|.int 1)])]),
  .forr [5] (.rng2 (.bin .add (.v 1)<|.c<|.int 1)<|.v 3) [.asg [4]<|.comp2 [2] 2 [0] (.of<|.v 4) [] [1] (.rng1<|.v 2) []<|.bin .add (.v 0)<|.tup [(.v 1)]],
  .ret (.v 4)]]
noncomputable def Q7:Fn:=#[2,5,
 [.asg [2]<|.ite (.v 1) (.bin .add (.call 6 [(.ix (.v 1)<|.neg<|.c<|.int 1)])<|.c<|.int 1)<|.c<|.int 0,
  .asg [3] (.lst []),
  .forr [4] (.rrng (.v 2)<|.blt .len [(.v 0)]) [.ite (.call 17 [(.v 1),(.v 4)]) [.ex<|.mt .extend (.v 3) [(.ix (.v 0)<|.v 4)]] []],
  .ret (.v 3)]]
noncomputable def yO:Fn:=#[2,7,
 [.asg [2,3]<|.v 0,
  .ex (.call 21 [(.v 1),(.c<|.int 0),(.v 3)]),
  .asg [4] (.comp1 [0] 1 [0] (.rng1<|.v 3) []<|.call 22 [(.v 1),(.v 0)]),
  .asg [5] (.lst [(.tup [])]),
  .forr [6] (.rng1<|.v 1) [.asg [5]<|.comp2 [4] 2 [0] (.of<|.v 5) [] [1] (.of<|.call 23 [(.v 2),(.v 0)]) []<|.bin .add (.v 0)<|.tup [(.v 1)]],
  .ret (.v 5)]]
noncomputable def Uc:Fn:=#[3,3,
 [.ret<|.cmp .eq (.blt .len [(.call 11 [(.v 0),(.v 1),(.v 2)])])<|.bin .add (.blt .len [(.v 1)])<|.blt .len [(.v 2)]]]
noncomputable def XQ:Fn:=#[2,4,
 [.ex<|.call 20 [(.v 0),(.v 1)],
  .asg [2,3] (.v 0),
  .ret (.comp1 [0,1] 1 [0] (.of<|.call 24 [(.v 0),(.bin .sub (.v 3)<|.blt .len [(.v 1)])]) [(.call 25 [(.v 1),(.v 2),(.v 0)])]<|.v 0)]]
noncomputable def W6:Fn:=#[2,3,
 [.asg [2]<|.bin .mul (.call 2 [(.v 0),(.bin .add (.ix (.v 1)<|.c<|.int 1)<|.c<|.int 1)])<|.blt .toInt [(.cmp .eq (.call 2 [(.v 0),(.c<|.int 3)])<|.c<|.int 0)],
  .ret (.bin .add (.bin .mul (.tup [(.c<|.int 0)])<|.v 2)<|.blt .tuple [(.comp1 [0,1] 1 [0] (.rng1<|.bin .sub (.ix (.v 1)<|.c<|.int 1)<|.v 2) []<|.call 2 [(.v 1),(.ix (.v 2)<|.c<|.int 0)])])]]
noncomputable def Vo:Fn:=#[3,3,
 [.ex<|.call 20 [(.v 0),(.v 1)],
  .ex (.call 20 [(.v 0),(.v 2)])]]
noncomputable def XI:Fn:=#[3,5,
 [.ex<|.call 28 [(.v 0),(.v 1),(.v 2)],
  .asg [3,4] (.v 0),
  .ret (.and (.cmp .eq (.bin .add (.blt .len [(.v 1)])<|.blt .len [(.v 2)])<|.v 4)<|.call 25 [(.v 0),(.v 1),(.v 2)])]]
noncomputable def Wu:Fn:=#[2,6,
 [.ex<|.call 20 [(.v 0),(.v 1)],
  .asg [2,3] (.v 0),
  .asg [4] (.lst [(.bin .mul (.tup [(.c<|.int 0)])<|.v 3)]),
  .forr [5] (.of<|.v 1) [.asg [4]<|.comp2 [2,5] 2 [0] (.of<|.v 4) [] [1] (.rng1<|.v 2) []<|.call 4 [(.v 2),(.v 0),(.v 3),(.v 1)]],
  .ret (.v 4)]]
noncomputable def qp:Fn:=#[3,3,
 [.ret<|.cmp .is (.call 6 [(.call 7 [(.v 0),(.v 1),(.v 2)])])<|.c .non]]
noncomputable def QK:Fn:=#[4,7,
 [.ite (.not<|.call 29 [(.v 0),(.v 1),(.v 2)]) [.raise 4 []] [],
  .ex (.call 14 [(.v 0),(.v 3)]),
  .asg [4,5] (.v 0),
  .asg [6] (.comp1 [4,3] 1 [0] (.of<|.call 30 [(.v 0),(.v 1)]) []<|.tup [(.v 0),(.call 4 [(.v 1),(.v 2),(.v 0),(.neg<|.c<|.int 1)])]),
  .ret (.ix (.comp1 [0,2] 2 [0,1] (.of<|.v 6) [(.call 31 [(.v 2),(.v 3),(.v 1)])]<|.tup [(.v 0),(.v 1)])<|.c<|.int 0)]]
noncomputable def yr:Fn:=#[4,4,
 [.ret<|.blt .tuple [(.comp1 [1,2,3,0] 1 [0] (.rng1<|.ix (.v 0)<|.c<|.int 1) []<|.bin .mod (.bin .add (.ix (.v 1)<|.v 0)<|.bin .mul (.v 2)<|.ix (.v 3)<|.v 0)<|.ix (.v 4)<|.c<|.int 0)]]]
noncomputable def UK:Fn:=#[3,3,
 [.ex<|.call 20 [(.v 0),(.v 1)],
  .ex (.call 14 [(.v 0),(.v 2)]),
  .ret (.call 31 [(.v 0),(.v 1),(.v 2)])]]
noncomputable def Yl:Fn:=#[4,7,
 [.par [4,5] [(.call 27 [(.v 0),(.v 1)]),(.call 27 [(.v 0),(.v 1)])],
  .asg [6] (.comp1 [1,2,3] 1 [0] (.of<|.tup [(.v 4),(.v 5),(.call 33 [(.v 1),(.v 4),(.c<|.int 1),(.v 5)])]) []<|.call 32 [(.v 1),(.v 2),(.v 3),(.v 0)]),
  .ite (.cmp .ne (.call 33 [(.v 1),(.ix (.ix (.v 6)<|.c<|.int 0)<|.c<|.int 0),(.c<|.int 1),(.ix (.ix (.v 6)<|.c<|.int 0)<|.c<|.int 1)])<|.v 4) [.ret<|.c<|.bl am] [],
  .ite (.or (.cmp .isn (.call 34 [(.v 1),(.v 2),(.ix (.ix (.v 6)<|.c<|.int 0)<|.c<|.int 0)])<|.c<|.bl al)<|.cmp .isn (.call 34 [(.v 1),(.v 3),(.ix (.ix (.v 6)<|.c<|.int 0)<|.c<|.int 1)])<|.c<|.bl al) [.ret<|.c<|.bl am] [],
  .ret (.cmp .eq (.ix (.v 6)<|.c<|.int 2)<|.blt .tuple [(.comp1 [1,6] 1 [0] (.rng1<|.c<|.int 2) []<|.call 33 [(.v 1),(.ix (.ix (.v 2)<|.c<|.int 0)<|.v 0),(.c<|.int 1),(.ix (.ix (.v 2)<|.c<|.int 1)<|.v 0)])])]]
noncomputable def wf:Fn:=#[3,3,
 [.ex<|.call 28 [(.v 0),(.v 1),(.v 2)],
  .ret (.call 25 [(.v 0),(.v 1),(.v 2)])]]
noncomputable def YJ:Fn:=#[3,7,
 [.asg [3,4]<|.v 0,
  .asg [5] (.bin .mul (.lst [(.c<|.int 0)])<|.v 4),
  .put (.v 5) (.v 2) (.c<|.int 1),
  .forr [6] (.of<|.v 1) [.put (.v 5) (.call 6 [(.v 6)])<|.bin .mod (.neg<|.ix (.v 6)<|.v 2)<|.v 3],
  .ret (.blt .tuple [(.v 5)])]]
noncomputable def Wt:Fn:=#[2,6,
 [.ex<|.call 20 [(.v 0),(.v 1)],
  .asg [2,3] (.v 0),
  .asg [4] (.comp1 [] 1 [0] (.of<|.v 1) []<|.call 6 [(.v 0)]),
  .asg [5] (.comp1 [4] 1 [0] (.rng1<|.v 3) [(.cmp .nin (.v 0)<|.v 1)]<|.v 0),
  .ret (.call 15 [(.v 0),(.comp1 [0,1] 1 [0] (.of<|.v 5) []<|.call 37 [(.v 1),(.v 2),(.v 0)])])]]
noncomputable def Vm:Fn:=#[3,3,
 [.ex<|.call 28 [(.v 0),(.v 1),(.v 2)],
  .ret (.call 11 [(.v 0),(.v 1),(.v 2)])]]
noncomputable def vj:Fn:=#[3,3,
 [.ex<|.call 28 [(.v 0),(.v 1),(.v 2)],
  .ret (.call 38 [(.v 0),(.call 39 [(.v 0),(.call 38 [(.v 0),(.v 1)]),(.call 38 [(.v 0),(.v 2)])])])]]
noncomputable def ZfN:Fn:=#[1,10,
 [.forr [1] (.rng1<|.blt .max2 [(.c<|.int 1),(.blt .min2 [(.blt .len [(.v 0)]),(.c<|.int 5)])]) [.cel 2 1 [(.v 0),(.v 1)]
  [.asg [3]<|.call 3 [(.v 2),(.ix (.lst [(.c<|.int 27),(.c<|.int 125)])<|.blt .toInt [(.cmp .eq (.v 1)<|.c<|.int 0)])],
  .asg [4] (.call 15 [(.v 3),(.comp1 [2,3] 1 [0] (.rng1<|.call 2 [(.v 2),(.bin .add (.ix (.v 3)<|.c<|.int 1)<|.c<|.int 1)]) []<|.call 27 [(.v 1),(.v 2)])]),
  .asg [5] (.call 26 [(.v 3),(.v 4)]),
  .asg [6] (.c<|.int 1),
  .forr [7] (.rng1<|.bin .mul (.blt .len [(.v 4)])<|.bin .sub (.ix (.v 3)<|.c<|.int 1)<|.blt .len [(.v 4)]) [.asg [6]<|.bin .mul (.v 6)<|.ix (.v 3)<|.c<|.int 0],
  .ite (.or (.cmp .ne (.blt .len [(.v 5)])<|.v 6)<|.cmp .ne (.blt .sortedU [(.v 5)])<|.v 5) [.ret<|.c<|.bl am] [],
  .asg [8] (.call 24 [(.v 3),(.bin .sub (.ix (.v 3)<|.c<|.int 1)<|.blt .len [(.v 4)])]),
  .forr [9] (.of<|.comp1 [8,2] 1 [0] (.rng1<|.c<|.int 4) []<|.ix (.v 1)<|.call 2 [(.v 2),(.blt .len [(.v 1)])]) [.ite (.or (.cmp .ne (.call 36 [(.v 3),(.v 4),(.v 9)])<|.cmp .eq (.call 40 [(.v 3),(.v 4),(.v 9)])<|.tup [])<|.cmp .ne (.cmp .inn (.v 9)<|.v 5)<|.call 36 [(.v 3),(.v 4),(.v 9)]) [.ret<|.c<|.bl am] [],
  .ite (.cmp .ne (.call 29 [(.v 3),(.v 4),(.v 9)])<|.cmp .eq (.blt .len [(.call 39 [(.v 3),(.v 4),(.v 9)])])<|.ix (.v 3)<|.c<|.int 1) [.ret<|.c<|.bl am] [],
  .ite (.cmp .ne (.call 29 [(.v 3),(.call 38 [(.v 3),(.v 4)]),(.call 38 [(.v 3),(.v 9)])])<|.call 29 [(.v 3),(.v 4),(.v 9)]) [.ret<|.c<|.bl am] []],
  .ite (.not<|.call 35 [(.v 2),(.v 3),(.v 4),(.ix (.v 5)<|.call 2 [(.v 2),(.v 6)])]) [.ret<|.c<|.bl am] []]],
  .ret (.c<|.bl al)]]
noncomputable def fns:List Fn:=[Qr,GO,zU,X1,Ve,Ju,qH,zo,GY,Jx,Ws,Yj,Xa,yA,WP,WB,Uj,XN,Wd,VW,Uo,Vf,Q3,Q7,yO,Uc,XQ,W6,Vo,XI,Wu,qp,QK,yr,UK,Yl,wf,YJ,Wt,Vm,vj,ZfN]
noncomputable abbrev tk:Nat:=2
noncomputable abbrev sn:List Nat:=[1]
end K54
namespace La
variable{F:Type}[iR F]
noncomputable abbrev Vec(F:Type):=Nat->F
noncomputable abbrev Pt(F:Type):=List<|Nat×Vec F
noncomputable def pr:Pt F->Vec F->Vec F
 |[],_,_=>0
 |a::P,v,j=>v a.1*a.2 j+pr P v j
structure Rf(P:Pt F):Prop where
 inc:P.Pairwise λa b=>a.1<b.1
 low:∀a∈P,∀j,j<a.1->a.2 j=0
 one:∀a∈P,a.2 a.1=1
 zer:∀a∈P,∀b∈P,a.1≠b.1->b.2 a.1=0
def Mem(P:Pt F)(v:Vec F):Prop:=∀j,v j=pr P v j
theorem Zd1(P:Pt F)(u v:Vec F)(c:F)(j:Nat):pr P (λj=>u j+c*v j) j=pr P u j+c*pr P v j:=by
 induction P with|nil=>show(0:F)=0+c*0;grind|cons a P ih=>show(u a.1+c*v a.1)*a.2 j+pr P _ j=(u a.1*a.2 j+pr P u j)+c*(v a.1*a.2 j+pr P v j);grind
theorem V5(P:Pt F)(u v:Vec F)(c:F)(j:Nat):pr P (λj=>u j-c*v j) j=pr P u j-c*pr P v j:=by
 induction P with|nil=>show(0:F)=0-c*0;grind|cons a P ih=>show(u a.1-c*v a.1)*a.2 j+pr P _ j=(u a.1*a.2 j+pr P u j)-c*(v a.1*a.2 j+pr P v j);grind
def qX{P:Pt F}{u v:Vec F}(h:∀b∈P,u b.1=v b.1)(j:Nat):pr P u j=pr P v j:=by
 induction P with
 |nil=>rfl
 |cons a P ih=>
  show u a.1*a.2 j+pr P u j=v a.1*a.2 j+pr P v j;rw[h a<|ai ..,ih λb hb=>h b<|af _ hb]
theorem Y0{P:Pt F}{v:Vec F}{j:Nat}(h:∀b∈P,v b.1*b.2 j=0):pr P v j=0:=by
 induction P with
 |nil=>rfl
 |cons a P ih=>
  show v a.1*a.2 j+pr P v j=0;rw[h a<|ai ..,ih λb hb=>h b<|af _ hb];grind
theorem wQ{P:Pt F}{v:Vec F}{j:Nat}{a:Nat×Vec F}(inc:P.Pairwise λa b=>a.1<b.1)(ha:a∈P)(h:∀b∈P,b.1≠a.1->v b.1*b.2 j=0):pr P v j=v a.1*a.2 j:=by
 induction P with
 |nil=>cases ha
 |cons b P ih=>
  rw[aR]at inc;show v b.1*b.2 j+pr P v j=_;rcases ay.mp ha with e|hm
  .subst e
   rw[Y0 λc hc=>h c (af _ hc) (by have:=inc.1 c hc;lia)];grind
  .rw[ih inc.2 hm λc hc=>h c<|af _ hc,h b (ai ..) (by have:=inc.1 a hm;lia)];grind
def Rf.tail{a:Nat×Vec F}{P:Pt F}(h:Rf (a::P)):Rf P:=
 #[(aR.mp h.inc).2,λb hb=>h.low b<|af _ hb,λb hb=>h.one b<|af _ hb,λb hb c hc=>h.zer b (af _ hb) c<|af _ hc]
def Rf.nil:Rf ([]:Pt F):=#[fM,λ_ h=>(by cases h),λ_ h=>(by cases h),λ_ h=>(by cases h)]
theorem J3{P:Pt F}(h:Rf P){a:Nat×Vec F}(ha:a∈P)(v:Vec F):pr P v a.1=v a.1:=by
 rw[wQ h.inc ha λb hb ne=>by rw[h.zer a ha b hb<|Ne.symm ne];grind,h.one a ha];grind
theorem YZ{P:Pt F}(h:Rf P){a:Nat×Vec F}(ha:a∈P):Mem P a.2:=λj=>by
 rw[wQ h.inc ha λb hb ne=>by rw[h.zer b hb a ha ne];grind,h.one a ha];grind
def YC(c:F)(hu:Mem P u)(hv:Mem P v):Mem P λj=>u j+c*v j:=λj=>by
 rw[Zd1,<-hu j,<-hv j]
def XX(c:F)(hu:Mem P u)(hv:Mem P v):Mem P λj=>u j-c*v j:=λj=>by
 rw[V5,<-hu j,<-hv j]
theorem Yg{P:Pt F}:Mem P λ_=>0:=λj=>(Y0 λb _=>by grind).symm
def xG{P:Pt F}(h:Rf P)(v:Vec F):Mem P (pr P v):=λj=>qX (λb hb=>(J3 h hb v).symm) j
def wT{v:Vec F}:Mem ([]:Pt F) v↔∀j,v j=0:=Iff.rfl
theorem z9{P:Pt F}{v:Vec F}(h:Mem P v)(z:∀b∈P,v b.1=0)(j:Nat):v j=0:=by
 rw[h j];exact Y0 λb hb=>by rw[z b hb];grind
theorem yj{P:Pt F}(h:Rf P){v:Vec F}(hv:Mem P v){k:Nat}(hk:v k≠0)(hl:∀j,j<k->v j=0):∃a∈P,a.1=k:=by
 have inc:=h.inc;have low:=h.low;have gen:∀Q:Pt F,Q.Pairwise (λa b=>a.1<b.1)->(∀a∈Q,∀j,j<a.1->a.2 j=0)->(∀j,v j=pr Q v j)->∃a∈Q,v a.1≠0/\∀j,j<a.1->v j=0:=by
  intro Q
  induction Q with
  |nil=>intro _ _ e;exact T7 (e k) hk
  |cons a Q ih=>
   intro inc low e;rw[aR]at inc;by_cases c:v a.1=0
   .obtain⟨b,hb,r⟩:=ih inc.2 (λb hb=>low b<|af _ hb) λj=>by
     have:v j=v a.1*a.2 j+pr Q v j:=e j;rw[c]at this;grind
    exact#[b,af _ hb,r]
   .refine#[a,ai ..,c,λj hj=>?_]
    have e1:v j=v a.1*a.2 j+pr Q v j:=e j;have e2:pr Q v j=0:=Y0 λb hb=>by rw[low b (af _ hb) j (by have:=inc.1 b hb;lia)];grind
    rw[e1,e2,low a (ai ..) j hj];grind
 obtain⟨a,ha,h1,h2⟩:=gen P inc low hv;refine#[a,ha,?_];by_cases c:a.1<k
 .exact T7 (hl _ c) h1
 .by_cases c2:k<a.1
  .exact T7 (h2 _ c2) hk
  .lia
def VN{P Q:Pt F}(one0:(1:F)≠0)(hP:Rf P)(hQ:Rf Q)(h:∀v,Mem P v->Mem Q v):∀a∈P,∃b∈Q,b.1=a.1:=λa ha=>
 yj hQ (h _<|YZ hP ha) (by rw[hP.one a ha];exact one0) (hP.low a ha)
theorem xp:∀{a b:List Nat},a.Pairwise (· < ·)->b.Pairwise (· < ·)->(∀x,x∈a↔x∈b)->a=b
 |[],[],_,_,_=>rfl
 |[],y::b,_,_,h=>by have:=(h y).mpr<|ai ..;cases this
 |x::a,[],_,_,h=>by have:=(h x).mp<|ai ..;cases this
 |x::a,y::b,ha,hb,h=>by
  rw[aR]at ha hb;have e:x=y:=by
   rcases ay.mp ((h x).mp<|ai ..)with e|e
   .exact e
   .rcases ay.mp ((h y).mpr<|ai ..)with e'|e'
    .exact e'.symm
    .have:=hb.1 x e;have:=ha.1 y e';lia
  subst e;rw[xp ha.2 hb.2 λz=>?_]
  constructor
  .intro hz
   rcases ay.mp ((h z).mp<|af _ hz)with e|e
   .have:=ha.1 z hz;lia
   .exact e
  .intro hz
   rcases ay.mp ((h z).mpr<|af _ hz)with e|e
   .have:=hb.1 z hz;lia
   .exact e
theorem J8:∀{a b:List Nat},a.Pairwise (· < ·)->b.Pairwise (· < ·)->(∀x∈a,x∈b)->a.length<=b.length/\(a.length=b.length->a=b)
 |[],b,_,_,_=>#[cL _,λe=>(bU.mp e.symm).symm]
 |x::a,[],_,_,h=>by have:=h x<|ai ..;cases this
 |x::a,y::b,ha,hb,h=>by
  have ha':=ha;rw[aR]at ha hb;by_cases e:x=y
  .subst e
   obtain⟨h1,h2⟩:=J8 ha.2 hb.2 λz hz=>by
    rcases ay.mp (h z<|af _ hz)with e|e
    .have:=ha.1 z hz;lia
    .exact e
   refine#[by simp only[aF];lia,λe=>?_]
   rw[h2 (by simpa using e)]
  .have hxb:x∈b:=by
    rcases ay.mp (h x<|ai ..)with e'|e'
    .exact T7 e' e
    .exact e'
   have:=hb.1 x hxb;obtain⟨h1,h2⟩:=J8 ha' hb.2 λz hz=>by
    rcases ay.mp (h z hz)with e'|e'
    .rcases ay.mp hz with e2|e2
     .lia
     .have:=ha.1 z e2;lia
    .exact e'
   simp only[aF]at h1 ⊢;exact#[by lia,λe=>by lia]
def Rf.heads{P:Pt F}(h:Rf P):(P.map (·.1)).Pairwise (· < ·):=bD.mpr h.inc
theorem z5{P Q:Pt F}(one0:(1:F)≠0)(hP:Rf P)(hQ:Rf Q)(h:∀v,Mem P v->Mem Q v):P.length<=Q.length/\(P.length=Q.length->∀v,Mem Q v->Mem P v):=by
 obtain⟨h1,h2⟩:=J8 hP.heads hQ.heads λx hx=>by
  obtain⟨a,ha,rfl⟩:=aC.mp hx;obtain⟨b,hb,e⟩:=VN one0 hP hQ h a ha;exact aC.mpr #[b,hb,e]
 rw[aq,aq]at h1 h2;refine#[h1,λe v hv=>?_]
 have eh:=h2 e;have hd:Mem Q λj=>v j-1*pr P v j:=XX 1 hv<|h _<|xG hP v
 have z:∀j,v j-1*pr P v j=0:=λj=>z9 hd (λb hb=>by
  have:b.1∈P.map (·.1):=by rw[eh];exact aC.mpr #[b,hb,rfl]
  obtain⟨a,ha,ea⟩:=aC.mp this;show v b.1-1*pr P v b.1=0;rw[<-ea,J3 hP ha v];grind) j
 intro j;have:=z j
 grind
theorem uniq{P Q:Pt F}(one0:(1:F)≠0)(hP:Rf P)(hQ:Rf Q)(h:∀v,Mem P v↔Mem Q v):P=Q:=by
 have eh:=xp hP.heads hQ.heads λx=>by
  constructor
  .intro hx
   obtain⟨a,ha,rfl⟩:=aC.mp hx;obtain⟨b,hb,e⟩:=VN one0 hP hQ (λv=>(h v).mp) a ha
   exact aC.mpr #[b,hb,e]
  .intro hx
   obtain⟨a,ha,rfl⟩:=aC.mp hx;obtain⟨b,hb,e⟩:=VN one0 hQ hP (λv=>(h v).mpr) a ha
   exact aC.mpr #[b,hb,e]
 have ev:∀a∈P,∀b∈Q,a.1=b.1->a.2=b.2:=by
  intro a ha b hb e;have hd:=XX 1 (YZ hP ha)<|(h _).mpr<|YZ hQ hb
  funext j
  have:=z9 hd (λc hc=>by
   have:c.1∈Q.map (·.1):=by rw[<-eh];exact aC.mpr #[c,hc,rfl]
   obtain⟨c',hc',ec⟩:=aC.mp this;by_cases z:c.1=a.1
   .rw[z,hP.one a ha,e,hQ.one b hb];grind
   .rw[hP.zer c hc a ha z,<-ec,hQ.zer c' hc' b hb (by lia)];grind) j
  grind
 clear h hP hQ
 induction P generalizing Q with
 |nil=>cases Q with|nil=>rfl|cons b Q=>cases eh
 |cons a P ih=>cases Q with
  |nil=>cases eh
  |cons b Q=>
   rw[bi,bi]at eh;injection eh with e1 e2
   have e3:=ev a (ai ..) b (ai ..) e1;rw[ih e2 λx hx y hy=>ev x (af _ hx) y<|af _ hy]
   rw[rH e1 e3]
noncomputable def ins(x:Nat×Vec F):Pt F->Pt F
 |[]=>[x]
 |y::P=>if x.1<y.1 then x::y::P else y::ins x P
theorem Ya(x:Nat×Vec F):∀P:Pt F,(ins x P).Perm (x::P)
 |[]=>bE _
 |y::P=>by
  unfold ins;split
  .exact bE _
  .exact((Ya x P).cons y).trans<|gZ x y P
theorem wO(x:Nat×Vec F):∀{P:Pt F},P.Pairwise (λa b=>a.1<b.1)->(∀a∈P,a.1≠x.1)->(ins x P).Pairwise λa b=>a.1<b.1
 |[],_,_=>by exact d5 ..
 |y::P,h,hn=>by
  have h':=aR.mp h;unfold ins;split
  .rename_i c
   refine aR.mpr #[λz hz=>?_,h]
   rcases ay.mp hz with rfl|hz
   .exact c
   .have:=h'.1 z hz;lia
  .rename_i c
   refine aR.mpr #[λz hz=>?_,wO x h'.2 λa ha=>hn a<|af _ ha]
   rcases ay.mp ((Ya x P).mem_iff.mp hz)with rfl|hz
   .have:=hn y<|ai ..;lia
   .exact h'.1 z hz
theorem Za2(x:Nat×Vec F)(v:Vec F)(j:Nat):∀P:Pt F,pr (ins x P) v j=v x.1*x.2 j+pr P v j
 |[]=>rfl
 |y::P=>by
  unfold ins;split
  .rfl
  .show v y.1*y.2 j+pr (ins x P) v j=v x.1*x.2 j+(v y.1*y.2 j+pr P v j)
   rw[Za2 x v j P];grind
noncomputable def off(h:Nat)(l:Vec F)(a:Nat×Vec F):Nat×Vec F:=(a.1,λj=>a.2 j-a.2 h*l j)
noncomputable def wid(P:Pt F)(h:Nat)(l:Vec F):Pt F:=ins (h,l)<|P.map<|off h l
theorem ZaP(h:Nat)(l v:Vec F)(j:Nat):∀P:Pt F,pr (P.map<|off h l) v j=pr P v j-pr P v h*l j
 |[]=>by show(0:F)=0-0*l j;grind
 |a::P=>by
  show v a.1*(a.2 j-a.2 h*l j)+pr (P.map<|off h l) v j=(v a.1*a.2 j+pr P v j)-(v a.1*a.2 h+pr P v h)*l j;rw[ZaP h l v j P];grind
structure Lead(P:Pt F)(h:Nat)(l:Vec F):Prop where
 one:l h=1
 low:∀j,j<h->l j=0
 zer:∀a∈P,l a.1=0
def Lead.ne{P:Pt F}{h:Nat}{l:Vec F}(one0:(1:F)≠0)(L:Lead P h l){a:Nat×Vec F}(ha:a∈P):a.1≠h:=λe=>by
 have:=L.zer a ha;rw[e,L.one]at this;exact one0 this
theorem ZbC{P:Pt F}{h:Nat}{l:Vec F}(one0:(1:F)≠0)(hP:Rf P)(L:Lead P h l):Rf (wid P h l):=by
 have mem:∀{x},x∈wid P h l->x=(h,l)\/∃a∈P,x=off h l a:=λ{x} hx=>by
  rcases ay.mp ((Ya _ _).mem_iff.mp hx)with e|e
  .exact .inl e
  .obtain⟨a,ha,e⟩:=aC.mp e
   exact .inr #[a,ha,e.symm]
 refine#[wO _ ?_ ?_,λx hx j hj=>?_,λx hx=>?_,λx hx y hy ne=>?_]
 .exact bD.mpr hP.inc
 .intro a ha
  obtain⟨b,hb,rfl⟩:=aC.mp ha;exact L.ne (a:=b) one0 hb
 .rcases mem hx with rfl|⟨a,ha,rfl⟩
  .exact L.low j hj
  .show a.2 j-a.2 h*l j=0
   rw[hP.low a ha j hj];by_cases c:h<a.1
   .rw[hP.low a ha h c];grind
   .have:j<a.1:=hj
    rw[L.low j (by have:=L.ne one0 ha;lia)];grind
 .rcases mem hx with rfl|⟨a,ha,rfl⟩
  .exact L.one
  .show a.2 a.1-a.2 h*l a.1=1
   rw[hP.one a ha,L.zer a ha];grind
 .rcases mem hx with rfl|⟨a,ha,rfl⟩
  .rcases mem hy with rfl|⟨b,hb,rfl⟩
   .exact T7 rfl ne
   .show b.2 h-b.2 h*l h=0
    rw[L.one];grind
  .rcases mem hy with rfl|⟨b,hb,rfl⟩
   .exact L.zer a ha
   .show b.2 a.1-b.2 h*l a.1=0
    rw[hP.zer a ha b hb ne,L.zer a ha];grind
def Gw(P:Pt F)(h:Nat)(l:Vec F):(wid P h l).length=P.length+1:=by
 have:=(Ya (h,l)<|P.map<|off h l).length_eq;rw[aF,aq]at this;exact this
theorem ZbK{P:Pt F}{h:Nat}{l:Vec F}(hP:Rf P)(L:Lead P h l)(u:Vec F):Mem (wid P h l) u↔∃c,Mem P λj=>u j-c*l j:=by
 have e:∀j,pr (wid P h l) u j=u h*l j+(pr P u j-pr P u h*l j):=λj=>by
  unfold wid;rw[Za2,ZaP]
 have pl:∀j,pr P l j=0:=λj=>Y0 λb hb=>by rw[L.zer b hb];grind
 constructor
 .intro hu
  refine#[u h-pr P u h,λj=>?_]
  rw[V5,pl];have:=hu j;rw[e j]at this;show u j-(u h-pr P u h)*l j=_
  grind
 .rintro ⟨c,hc⟩ j
  rw[e j];have h1:=hc j;have h2:u h-c*l h=_:=hc h;rw[V5,pl]at h1 h2;rw[L.one]at h2
  grind
noncomputable def rest(P:Pt F)(v:Vec F):Vec F:=λj=>v j-pr P v j
theorem Zae(hP:Rf P)(v:Vec F)(ha:a∈P):rest P v a.1=0:=by
 unfold rest;rw[J3 hP ha];grind
theorem QG{P:Pt F}{v:Vec F}:(∀j,rest P v j=0)↔Mem P v:=by
 constructor
 .intro h j;have:=h j;unfold rest at this;grind
 .intro h j;have:=h j;unfold rest;grind
theorem vO{P:Pt F}(hP:Rf P){v:Vec F}{h:Nat}{i:F}(hi:i*rest P v h=1)(hl:∀j,j<h->rest P v j=0):Lead P h λj=>i*rest P v j:=
 #[hi,λj hj=>by rw[hl j hj];grind,λa ha=>by rw[Zae hP v ha];grind]
theorem Zax{P:Pt F}(hP:Rf P){v:Vec F}{h:Nat}{i:F}(hi:i*rest P v h=1)(hl:∀j,j<h->rest P v j=0)(u:Vec F) :
  Mem (wid P h λj=>i*rest P v j) u↔∃c,Mem P λj=>u j-c*v j:=by
 rw[ZbK hP<|vO hP hi hl]
 constructor
 .rintro ⟨c,hc⟩
  refine#[c*i,?_];have:=XX (c*i) hc<|xG hP v;have e:(λj=>(u j-c*(i*rest P v j))-c*i*pr P v j)=λj=>u j-c*i*v j:=by funext j;unfold rest;grind
  rw[e]at this;exact this
 .rintro ⟨c,hc⟩
  refine#[c*rest P v h,?_];have:=YC c hc<|xG hP v;have e:(λj=>(u j-c*v j)+c*pr P v j)=λj=>u j-c*rest P v h*(i*rest P v j):=by funext j;unfold rest at hi ⊢;grind
  rw[e]at this;exact this
theorem jA(hv:Mem P v)(u:Vec F):Mem P u↔∃c,Mem P λj=>u j-c*v j:=by
 constructor
 .intro h;exact#[0,by have:=XX 0 h hv;exact this]
 .rintro ⟨c,hc⟩
  have:=YC c hc hv;have e:(λj=>(u j-c*v j)+c*v j)=u:=by funext j;grind
  rw[e]at this;exact this
def WZ(P:Pt F):List (Vec F)->Vec F->Prop
 |[],u=>Mem P u
 |v::vs,u=>∃c,WZ P vs λj=>u j-c*v j
theorem V3{P P':Pt F}{v:Vec F}(h:∀u,Mem P' u↔∃c,Mem P λj=>u j-c*v j):∀(vs:List (Vec F))(u:Vec F),WZ P' vs u↔WZ P (v::vs) u
 |[],u=>h u
 |w::vs,u=>by
  constructor
  .rintro ⟨d,hd⟩
   obtain⟨c,hc⟩:=(V3 h vs _).mp hd;refine#[c,d,?_];have e:(λj=>u j-c*v j-d*w j)=λj=>u j-d*w j-c*v j:=by funext j;grind
   show WZ P vs λj=>u j-c*v j-d*w j
   rw[e];exact hc
  .rintro ⟨c,d,hc⟩
   refine#[d,(V3 h vs _).mpr #[c,?_]];have e:(λj=>u j-d*w j-c*v j)=λj=>u j-c*v j-d*w j:=by funext j;grind
   show WZ P vs λj=>u j-d*w j-c*v j
   rw[e];exact hc
theorem uI{P Q:Pt F}(hQ:Rf Q)(u:Vec F):WZ P (Q.map (·.2)) u↔∃q,Mem Q q/\Mem P λj=>u j-q j:=by
 constructor
 .have gen:∀(ws:List (Vec F))(u:Vec F),(∀w∈ws,Mem Q w)->WZ P ws u->∃q,Mem Q q/\Mem P λj=>u j-q j:=by
   intro ws
   induction ws with
   |nil=>intro u _ h;exact#[λ_=>0,Yg,by
    have e:(λj=>u j-0)=u:=by funext j;grind
    rw[e];exact h]
   |cons w ws ih=>
    rintro u hw ⟨c,h⟩
    obtain⟨q,hq,hp⟩:=ih _ (λx hx=>hw x<|af _ hx) h
    refine#[λj=>q j+c*w j,YC c hq<|hw w<|ai ..,?_]
    have e:(λj=>u j-(q j+c*w j))=λj=>u j-c*w j-q j:=by funext j;grind
    rw[e];exact hp
  exact gen _ u λw hw=>by obtain⟨a,ha,rfl⟩:=aC.mp hw;exact YZ hQ ha
 .rintro ⟨q,hq,hp⟩
  have gen:∀(R:Pt F)(u:Vec F),(Mem P λj=>u j-pr R q j)->WZ P (R.map (·.2)) u:=by
   intro R
   induction R with
   |nil=>
    intro u h;have e:(λj=>u j-pr [] q j)=u:=by funext j;show u j-0=u j;grind
    rw[e]at h;exact h
   |cons a R ih=>
    intro u h;refine#[q a.1,ih _ ?_];have e:(λj=>u j-q a.1*a.2 j-pr R q j)=λj=>u j-pr (a::R) q j:=by funext j;show _=u j-(q a.1*a.2 j+pr R q j);grind
    show Mem P λj=>u j-q a.1*a.2 j-pr R q j
    rw[e];exact h
  refine gen Q u ?_;have e:(λj=>u j-pr Q q j)=λj=>u j-q j:=by funext j;rw[<-hq j]
  rw[e];exact hp
variable{F:Type}[iR F][DecidableEq F]
def Supp(n:Nat)(v:Vec F):Prop:=∀j,n<=j->v j=0
structure Pn(n:Nat)(P:Pt F):Prop where
 rf:Rf P
 lt:∀a∈P,a.1<n
 sp:∀a∈P,Supp n a.2
theorem Pn.nil{n:Nat}:Pn n ([]:Pt F):=#[Rf.nil,λ_ h=>(by cases h),λ_ h=>(by cases h)]
theorem vH(h:Pn n P)(v:Vec F):Supp n (pr P v):=λj hj=>Y0 λb hb=>by rw[h.sp b hb j hj];grind
def X8{n:Nat}{P:Pt F}(h:Pn n P){v:Vec F}(hv:Mem P v):Supp n v:=λj hj=>by rw[hv j];exact vH h v j hj
noncomputable def hdV(n:Nat)(v:Vec F):Option Nat:=(aE n).find? λj=>aj<|v j≠0
theorem yH{n:Nat}{v:Vec F}(hs:Supp n v)(h:hdV n v=ae)(j:Nat):v j=0:=by
 by_cases c:j<n
 .have:=gE.mp h j (aN.mpr c)
  simpa using this
 .exact hs j (by lia)
def UU{n:Nat}{v:Vec F}{k:Nat}(h:hdV n v=aa k):k<n/\v k≠0/\∀j,j<k->v j=0:=by
 unfold hdV at h;rw[k8]at h;obtain⟨h1,h2,h3⟩:=h;refine#[aN.mp h2,by simpa using h1,λj hj=>?_]
 have:=h3 j hj
 simpa using this
def wC{n:Nat}{v:Vec F}{k:Nat}(hk:k<n)(h1:v k≠0)(h2:∀j,j<k->v j=0):hdV n v=aa k:=by
 unfold hdV;rw[k8];exact#[by simpa using h1,aN.mpr hk,λj hj=>by simpa using h2 j hj]
structure Fld(inv:F->F):Prop where
 inv:∀a,a≠0->inv a*a=1
 one0:(1:F)≠0
section
variable{inv:F->F}{n:Nat}
noncomputable def more(inv:F->F)(n:Nat)(P:Pt F)(v:Vec F):Pt F:=match hdV n (rest P v)with
 |none=>P
 |some h=>wid P h λj=>inv (rest P v h)*rest P v j
structure Grow(n:Nat)(P:Pt F)(v:Vec F)(P':Pt F):Prop where
 pn:Pn n P'
 mem:∀u,Mem P' u↔∃c,Mem P λj=>u j-c*v j
 same:Mem P v->P'=P
 len:¬Mem P v->P'.length=P.length+1
theorem XO(f:Fld inv){P:Pt F}{v:Vec F}(hP:Pn n P)(hv:Supp n v):Grow n P v (more inv n P v):=by
 have hs:Supp n (rest P v):=λj hj=>by unfold rest;rw[hv j hj,vH hP v j hj];grind
 cases q:hdV n (rest P v)with
 |none=>
  have e:more inv n P v=P:=by unfold more;rw[q]
  have hm:=QG.mp<|yH hs q;rw[e];exact#[hP,jA hm,λ_=>rfl,λh=>T7 hm h]
 |some h=>
  have e:more inv n P v=wid P h λj=>inv (rest P v h)*rest P v j:=by unfold more;rw[q]
  obtain⟨h1,h2,h3⟩:=UU q;have hi:=f.inv _ h2;have L:=vO hP.rf hi h3;rw[e];refine#[#[ZbC f.one0 hP.rf L,λa ha=>?_,λa ha=>?_],Zax hP.rf hi h3,λhm=>T7 (QG.mpr hm h) h2,λ_=>Gw ..]
  .rcases ay.mp ((Ya _ _).mem_iff.mp ha)with e|e
   .rw[e];exact h1
   .obtain⟨b,hb,rfl⟩:=aC.mp e
    exact hP.lt b hb
  .rcases ay.mp ((Ya _ _).mem_iff.mp ha)with e|e
   .rw[e];intro j hj
    show inv (rest P v h)*rest P v j=0;rw[hs j hj];grind
   .obtain⟨b,hb,rfl⟩:=aC.mp e
    intro j hj;show b.2 j-b.2 h*(inv (rest P v h)*rest P v j)=0;rw[hP.sp b hb j hj,hs j hj];grind
noncomputable def WK(inv:F->F)(n:Nat)(P:Pt F)(vs:List (Vec F)):Pt F:=vs.foldl (more inv n) P
theorem XE(f:Fld inv):∀(vs:List (Vec F)){P:Pt F},Pn n P->(∀v∈vs,Supp n v)->Pn n (WK inv n P vs)/\∀u,Mem (WK inv n P vs) u↔WZ P vs u
 |[],P,hP,_=>#[hP,λu=>Iff.rfl]
 |v::vs,P,hP,hv=>by
  have g:=XO f hP<|hv v<|ai ..;obtain⟨a,b⟩:=XE f vs g.pn λw hw=>hv w<|af _ hw
  exact#[a,λu=>(b u).trans<|V3 g.mem vs u]
noncomputable def join(inv:F->F)(n:Nat)(P Q:Pt F):Pt F:=WK inv n P (Q.map (·.2))
def vC(f:Fld inv){P Q:Pt F}(hP:Pn n P)(hQ:Pn n Q):Pn n (join inv n P Q):=(XE f _ hP λv hv=>by obtain⟨a,ha,rfl⟩:=aC.mp hv;exact hQ.sp a ha).1
def Wr(f:Fld inv){P Q:Pt F}(hP:Pn n P)(hQ:Pn n Q)(u:Vec F):Mem (join inv n P Q) u↔∃q,Mem Q q/\Mem P λj=>u j-q j:=
 ((XE f _ hP λv hv=>by obtain⟨a,ha,rfl⟩:=aC.mp hv;exact hQ.sp a ha).2 u).trans (uI hQ.rf u)
def Zat(f:Fld inv){P Q:Pt F}(hP:Pn n P)(hQ:Pn n Q)(h:∀v,Mem P v↔Mem Q v):P=Q:=uniq f.one0 hP.rf hQ.rf h
theorem sub_self(u:Vec F):(λj=>u j-u j)=λ_=>0:=by funext j;grind
theorem JB(f:Fld inv){P Q:Pt F}(hP:Pn n P)(hQ:Pn n Q){u:Vec F}(h:Mem P u):Mem (join inv n P Q) u:=
 (Wr f hP hQ u).mpr #[λ_=>0,Yg,by
   have e:(λj=>u j-0)=u:=by funext j;grind
   rw[e];exact h]
def W0(f:Fld inv){P Q:Pt F}(hP:Pn n P)(hQ:Pn n Q){u:Vec F}(h:Mem Q u):Mem (join inv n P Q) u:=
 (Wr f hP hQ u).mpr #[u,h,by rw[sub_self];exact Yg]
theorem QS(f:Fld inv){P Q R:Pt F}(hP:Pn n P)(hQ:Pn n Q)(h1:∀u,Mem P u->Mem R u)(h2:∀u,Mem Q u->Mem R u){u:Vec F}(h:Mem (join inv n P Q) u):Mem R u:=by
 obtain⟨q,a,b⟩:=(Wr f hP hQ u).mp h;have:=YC 1 (h1 _ b)<|h2 _ a;have e:(λj=>u j-q j+1*q j)=u:=by funext j;grind
 rw[e]at this;exact this
theorem qv(f:Fld inv){P Q M:Pt F}(hP:Pn n P)(hQ:Pn n Q)(hM:Pn n M)(h:∀u,Mem M u↔Mem P u/\Mem Q u):(join inv n P Q).length+M.length=P.length+Q.length:=by
 have gen:∀(vs:List (Vec F))(J T:Pt F),(∀v∈vs,Mem Q v/\Supp n v)->Pn n J->Pn n T->(∀u,Mem T u->Mem Q u)->(∀u,Mem M u->Mem T u)->(∀u,Mem J u↔∃t,Mem T t/\Mem P λj=>u j-t j)->J.length+M.length=P.length+T.length->(WK inv n J vs).length+M.length=P.length+(WK inv n T vs).length:=by
  intro vs
  induction vs with
  |nil=>intro J T _ _ _ _ _ _ e;exact e
  |cons v vs ih=>
   intro J T hv hJ hT h1 h2 h3 e;obtain⟨hvQ,hvS⟩:=hv v<|ai ..;have gJ:=XO f hJ hvS;have gT:=XO f hT hvS;refine ih (more inv n J v) (more inv n T v) (λw hw=>hv w<|af _ hw) gJ.pn gT.pn (λu hu=>?_) (λu hu=>?_) (λu=>?_) ?_
   .obtain⟨c,hc⟩:=(gT.mem u).mp hu
    have:=YC c (h1 _ hc) hvQ;have e:(λj=>u j-c*v j+c*v j)=u:=by funext j;grind
    rw[e]at this;exact this
   .exact(gT.mem u).mpr #[0,by
     have e:(λj=>u j-0*v j)=u:=by funext j;grind
     rw[e];exact h2 u hu]
   .rw[gJ.mem u]
    constructor
    .rintro ⟨c,hc⟩
     obtain⟨t,ht,hp⟩:=(h3 _).mp hc;refine#[λj=>t j+c*v j,(gT.mem _).mpr #[c,?_],?_]
     .have e:(λj=>t j+c*v j-c*v j)=t:=by funext j;grind
      rw[e];exact ht
     .have e:(λj=>u j-(t j+c*v j))=λj=>u j-c*v j-t j:=by funext j;grind
      rw[e];exact hp
    .rintro ⟨t,ht,hp⟩
     obtain⟨c,hc⟩:=(gT.mem t).mp ht;refine#[c,(h3 _).mpr #[_,hc,?_]];have e:(λj=>u j-c*v j-(t j-c*v j))=λj=>u j-t j:=by funext j;grind
     rw[e];exact hp
   .by_cases c:Mem T v
    .have cJ:Mem J v:=(h3 v).mpr #[v,c,by rw[sub_self];exact Yg]
     rw[gJ.same cJ,gT.same c];exact e
    .have cJ:¬Mem J v:=λhc=>by
      obtain⟨t,ht,hp⟩:=(h3 v).mp hc;have hq:Mem Q λj=>v j-t j:=by
       have:=XX 1 hvQ<|h1 t ht;have e:(λj=>v j-1*t j)=λj=>v j-t j:=by funext j;grind
       rw[e]at this;exact this
      have:=YC 1 (h2 _<|(h _).mpr #[hp,hq]) ht;have e:(λj=>v j-t j+1*t j)=v:=by funext j;grind
      rw[e]at this;exact c this
     rw[gJ.len cJ,gT.len c];lia
 have hv:∀v∈Q.map (·.2),Mem Q v/\Supp n v:=λv hv=>by obtain⟨a,ha,rfl⟩:=aC.mp hv;exact#[YZ hQ.rf ha,hQ.sp a ha]
 have:=gen (Q.map (·.2)) P M hv hP hM (λu hu=>((h u).mp hu).2) (λu hu=>hu) (λu=>by
  constructor
  .intro hu
   exact#[λ_=>0,Yg,by
     have e:(λj=>u j-0)=u:=by funext j;grind
     rw[e];exact hu]
  .rintro ⟨t,ht,hp⟩
   have:=YC 1 hp ((h t).mp ht).1;have e:(λj=>u j-t j+1*t j)=u:=by funext j;grind
   rw[e]at this;exact this) rfl
 have eT:WK inv n M (Q.map (·.2))=Q:=Zat f (vC f hM hQ) hQ λu=>by
  constructor
  .exact QS f hM hQ (λu hu=>((h u).mp hu).2) λu hu=>hu
  .exact W0 f hM hQ
 rw[eT]at this;exact this
noncomputable def sl:List Nat->(Nat->F)->F
 |[],_=>0
 |k::L,g=>g k+sl L g
def XF{L:List Nat}{g g':Nat->F}(h:∀k∈L,g k=g' k):sl L g=sl L g':=by
 induction L with|nil=>rfl|cons k L ih=>show g k+sl L g=g' k+sl L g';rw[h k<|ai ..,ih λj hj=>h j<|af _ hj]
theorem jf(L:List Nat)(g g':Nat->F)(c:F):sl L (λj=>g j-c*g' j)=sl L g-c*sl L g':=by
 induction L with|nil=>show(0:F)=0-c*0;grind|cons k L ih=>show(g k-c*g' k)+sl L _=(g k+sl L g)-c*(g' k+sl L g');rw[ih];grind
theorem VJ{L:List Nat}{g:Nat->F}(h:∀k∈L,g k=0):sl L g=0:=by
 induction L with|nil=>rfl|cons k L ih=>show g k+sl L g=0;rw[h k<|ai ..,ih λj hj=>h j<|af _ hj];grind
theorem wb{L:List Nat}{g:Nat->F}{k:Nat}(hn:L.Nodup)(hk:k∈L)(h:∀j∈L,j≠k->g j=0):sl L g=g k:=by
 induction L with
 |nil=>cases hk
 |cons m L ih=>
  rw[cQ]at hn;show g m+sl L g=_;rcases ay.mp hk with e|e
  .subst e
   rw[VJ λj hj=>h j (af _ hj) λz=>hn.1<|z▸hj];grind
  .rw[ih hn.2 e λj hj=>h j<|af _ hj,h m (ai ..) λz=>hn.1<|z▸e];grind
theorem ZcN(p:Nat->Bool)(L:List Nat)(g:Nat->F):sl L g=sl (L.filter p) g+sl (L.filter λk=>!p k) g:=by
 induction L with
 |nil=>show(0:F)=0+0;grind
 |cons k L ih=>
  rw[fA,fA];show g k+sl L g=_;cases p k with|true=>simp only[if_true,fK,b8,if_false];show _=g k+sl _ g+_;rw[ih];grind|false=>simp only[b8,if_false,mH,if_true];show _=_+(g k+sl _ g);rw[ih];grind
noncomputable def dot(n:Nat)(u w:Vec F):F:=sl (aE n) λj=>u j*w j
theorem Gz(n:Nat)(a u v:Vec F)(c:F):dot n a (λj=>u j-c*v j)=dot n a u-c*dot n a v:=by
 unfold dot;rw[<-jf];exact XF λk _=>by grind
theorem VF(n:Nat)(u w:Vec F):dot n u w=dot n w u:=XF λk _=>by grind
noncomputable def ZW(P:Pt F)(j:Nat):Bool:=(P.map (·.1)).contains j
noncomputable def free(n:Nat)(P:Pt F):List Nat:=(aE n).filter λj=>!ZW P j
noncomputable def av:Pt F->Nat->Vec F
 |[],f,j=>if j=f then 1 else 0
 |a::P,f,j=>if j=a.1 then-a.2 f else av P f j
def Yr :ZW P j=al↔∃a∈P,a.1=j:=by
 unfold ZW;rw[eK,aC]
def Wm{P:Pt F}{f j:Nat}(h:ZW P j=am):av P f j=if j=f then 1 else 0:=by
 induction P with
 |nil=>rfl
 |cons a P ih=>
  have h1:¬∃b∈a::P,b.1=j:=λz=>by rw[Yr.mpr z]at h;cases h
  show(if j=a.1 then-a.2 f else av P f j)=_
  rw[T8 λz=>h1 #[a,ai ..,z.symm]]
  exact ih (by
   cases q:ZW P j with
   |false=>rfl
   |true=>obtain⟨b,hb,e⟩:=Yr.mp q;exact T7 #[b,af _ hb,e] h1)
theorem vg{P:Pt F}(hP:P.Pairwise λa b=>a.1<b.1){a:Nat×Vec F}(ha:a∈P)(f:Nat):av P f a.1 = - a.2 f:=by
 induction P with
 |nil=>cases ha
 |cons b P ih=>
  rw[aR]at hP;show(if a.1=b.1 then-b.2 f else av P f a.1)=_
  rcases ay.mp ha with e|e
  .subst e;rw[T9 rfl]
  .rw[T8 (by have:=hP.1 a e;lia)];exact ih hP.2 e
def Yh :j∈free n P↔j<n/\ZW P j=am:=by
 unfold free;rw[cq,aN];simp
def QI{P:Pt F}:(free n P).Nodup:=e9 _ fX
theorem UO{P:Pt F}(hP:Pn n P){f:Nat}(hf:f<n):Supp n (av P f):=λj hj=>by
 rw[Wm (by
  cases q:ZW P j with
  |false=>rfl
  |true=>obtain⟨b,hb,e⟩:=Yr.mp q;have:=hP.lt b hb;lia),T8 (by lia)]
theorem JI{P:Pt F}(hP:Pn n P){a:Nat×Vec F}(ha:a∈P)(u:Vec F):dot n a.2 u=sl (free n P) (λj=>a.2 j*u j)+u a.1:=by
 unfold dot;rw[ZcN (ZW P)<|aE n];have e:sl ((aE n).filter<|ZW P) (λj=>a.2 j*u j)=a.2 a.1*u a.1:=by
  refine wb (e9 _ fX) (cq.mpr #[aN.mpr<|hP.lt a ha,Yr.mpr #[a,ha,rfl]]) λj hj ne=>?_
  obtain⟨b,hb,rfl⟩:=Yr.mp (cq.mp hj).2;rw[hP.rf.zer b hb a ha ne];grind
 rw[e,hP.rf.one a ha];show _=sl ((aE n).filter λj=>!ZW P j) _+_
 grind
theorem ZeN{P:Pt F}(hP:Pn n P){a:Nat×Vec F}(ha:a∈P){f:Nat}(hf:f∈free n P):dot n a.2 (av P f)=0:=by
 obtain⟨f1,f2⟩:=Yh.mp hf;rw[JI hP ha,vg hP.rf.inc ha,wb (L:=free n P) (k:=f) QI hf λj hj ne=>by
  rw[Wm (Yh.mp hj).2,T8 ne];grind]
 rw[Wm f2,T9 rfl];grind
noncomputable def perp(inv:F->F)(n:Nat)(P:Pt F):Pt F:=WK inv n []<|(free n P).map<|av P
def UE(f:Fld inv){P:Pt F}(hP:Pn n P):Pn n (perp inv n P):=(XE f _ Pn.nil λv hv=>by
 obtain⟨k,hk,rfl⟩:=aC.mp hv;exact UO hP (Yh.mp hk).1).1
theorem yy{P:Pt F}(hP:Pn n P){a:Nat×Vec F}(ha:a∈P):∀(L:List Nat)(u:Vec F),(∀k∈L,k∈free n P)->WZ [] (L.map<|av P) u->dot n a.2 u=0
 |[],u,_,h=>VJ λk _=>by rw[h k];show a.2 k*0=0;grind
 |k::L,u,hL,#[c,h]=>by
  have:=yy hP ha L _ (λj hj=>hL j<|af _ hj) h
  rw[Gz,ZeN hP ha<|hL k<|ai ..]at this
  grind
theorem J1{P:Pt F}{u:Vec F}:∀(L:List Nat)(w:Vec F),(∀j,w j=sl L λf=>u f*av P f j)->WZ [] (L.map<|av P) w
 |[],w,h=>h
 |k::L,w,h=>#[u k,J1 (u:=u) L _ λj=>by rw[h j];show u k*av P k j+sl L (λf=>u f*av P f j)-u k*av P k j=_;grind]
theorem jW(f:Fld inv){P:Pt F}(hP:Pn n P)(u:Vec F):Mem (perp inv n P) u↔Supp n u/\∀a∈P,dot n a.2 u=0:=by
 have ok:=XE f ((free n P).map<|av P) (Pn.nil (n:=n)) λv hv=>by
  obtain⟨k,hk,rfl⟩:=aC.mp hv;exact UO hP (Yh.mp hk).1
 constructor
 .intro h
  exact#[X8 ok.1 h,λa ha=>yy hP ha _ u (λk hk=>hk)<|(ok.2 u).mp h]
 .rintro ⟨hs,hd⟩
  refine(ok.2 u).mpr<|J1 (u:=u) _ u λj=>?_
  by_cases c:n<=j
  .rw[hs j c]
   exact(VJ λk hk=>by rw[UO hP (Yh.mp hk).1 j c];grind).symm
  .cases q:ZW P j with
   |false=>
    rw[wb (L:=free n P) (k:=j) QI (Yh.mpr #[by lia,q]) λk hk ne=>by
     rw[Wm q,T8<|Ne.symm ne];grind]
    rw[Wm q,T9 rfl];grind
   |true=>
    obtain⟨a,ha,rfl⟩:=Yr.mp q;have h1:=hd a ha;rw[JI hP ha]at h1;have e:sl (free n P) (λf=>u f*av P f a.1) = - sl (free n P) λj=>a.2 j*u j:=by
     have:=jf (free n P) (λ_=>(0:F)) (λj=>a.2 j*u j) 1
     rw[VJ (g:=λ_=>(0:F)) λ_ _=>rfl]at this
     have e2:sl (free n P) (λf=>u f*av P f a.1)=sl (free n P) λj=>0-1*(a.2 j*u j):=XF λk _=>by rw[vg hP.rf.inc ha];grind
     rw[e2,this];grind
    rw[e];grind
theorem YG(f:Fld inv){P:Pt F}(hP:Pn n P)(u:Vec F):Mem (perp inv n P) u↔Supp n u/\∀v,Mem P v->dot n v u=0:=by
 rw[jW f hP]
 constructor
 .rintro ⟨hs,hd⟩
  refine#[hs,λv hv=>?_]
  have e:dot n v u=dot n u (pr P v):=by rw[VF];exact XF λk _=>by rw[<-hv k]
  rw[e];have gen:∀Q:Pt F,(∀a∈Q,dot n a.2 u=0)->dot n u (pr Q v)=0:=by
   intro Q
   induction Q with
   |nil=>intro _;exact VJ λk _=>by show u k*0=0;grind
   |cons a Q ih=>
    intro h;have e2:dot n u (pr (a::Q) v)=dot n u (λj=>pr Q v j-(- v a.1)*a.2 j):=XF λk _=>by show u k*(v a.1*a.2 k+pr Q v k)=_;grind
    rw[e2,Gz,ih λb hb=>h b<|af _ hb,VF,h a<|ai ..];grind
  exact gen P hd
 .rintro ⟨hs,hd⟩
  exact#[hs,λa ha=>hd _<|YZ hP.rf ha]
theorem WA(f:Fld inv){P:Pt F}(hP:Pn n P):(perp inv n P).length+P.length=n:=by
 have gen:∀(L:List Nat)(A:Pt F)(D:List Nat),Pn n A->(∀k∈L,k∈free n P)->L.Nodup->(∀k∈L,k∉D)->(∀u,Mem A u->∀k∈free n P,k∉D->u k=0)->(WK inv n A<|L.map<|av P).length=A.length+L.length:=by
  intro L
  induction L with
  |nil=>intro A D _ _ _ _ _;rfl
  |cons k L ih=>
   intro A D hA hL hn hD hz;rw[cQ]at hn;have hk:=hL k<|ai ..;have g:=XO f hA<|UO hP (Yh.mp hk).1;have nm:¬Mem A (av P k):=λh=>by
    have:=hz _ h k hk<|hD k<|ai ..;rw[Wm (Yh.mp hk).2,T9 rfl]at this;exact f.one0 this
   have:=ih (more inv n A<|av P k) (k::D) g.pn (λj hj=>hL j<|af _ hj) hn.2 (λj hj=>by
    rw[ay]
    rintro (z|z)
    .exact hn.1<|z▸hj
    .exact hD j (af _ hj) z) λu hu j hj hjD=>by
     obtain⟨c,hc⟩:=(g.mem u).mp hu;rw[ay]at hjD;have h1:=hz _ hc j hj λz=>hjD<|.inr z
     rw[Wm (Yh.mp hj).2,T8 λz=>hjD<|.inl z]at h1
     grind
   show(WK inv n (more inv n A<|av P k)<|L.map<|av P).length=_;rw[this,g.len nm,aF];lia
 have h1:=gen (free n P) [] [] Pn.nil (λ_ h=>h) (e9 _ fX) (λ_ _ h=>by cases h) λu hu k _ _=>hu k
 have h2:=xp (e9 _ g8) hP.rf.heads λx=>by
  rw[cq,aN,Yr,aC]
  constructor
  .rintro ⟨_,a,ha,e⟩;exact#[a,ha,e]
  .rintro ⟨a,ha,e⟩;exact#[by rw[<-e];exact hP.lt a ha,a,ha,e]
 have h3:((aE n).filter<|ZW P).length+(free n P).length=n:=by
  have gen:∀L:List Nat,(L.filter<|ZW P).length+(L.filter λj=>!ZW P j).length=L.length:=by
   intro L
   induction L with
   |nil=>rfl
   |cons k L ih=>
    rw[fA,fA];cases ZW P k<;>simp<;>lia
  have:=gen<|aE n;rw[a7]at this;exact this
 rw[h2,aq]at h3;have h4:(perp inv n P).length=(free n P).length:=by
  have e:(perp inv n P).length=0+(free n P).length:=h1;lia
 lia
theorem VM(f:Fld inv){P:Pt F}(hP:Pn n P):perp inv n (perp inv n P)=P:=by
 have h1:=UE f hP;have h2:=UE f h1;have s1:=WA f hP;have s2:=WA f h1;have sub:∀v,Mem P v->Mem (perp inv n<|perp inv n P) v:=λv hv=>(YG f h1 v).mpr #[X8 hP hv,λw hw=>by
  rw[VF];exact((YG f hP w).mp hw).2 v hv]
 refine(Zat f hP h2 λv=>#[sub v,(z5 f.one0 hP.rf h2.rf sub).2 (by lia) v]).symm
noncomputable def meet(inv:F->F)(n:Nat)(P Q:Pt F):Pt F:=perp inv n<|join inv n (perp inv n P)<|perp inv n Q
theorem qN(f:Fld inv){P Q:Pt F}(hP:Pn n P)(hQ:Pn n Q)(u:Vec F):Mem (meet inv n P Q) u↔Mem P u/\Mem Q u:=by
 have hA:=UE f hP;have hB:=UE f hQ;unfold meet;rw[YG f<|vC f hA hB]
 constructor
 .rintro ⟨hs,h⟩
  refine#[?_,?_]
  .have:Mem (perp inv n<|perp inv n P) u:=(YG f hA u).mpr #[hs,λv hv=>h v<|JB f hA hB hv]
   rw[VM f hP]at this;exact this
  .have:Mem (perp inv n<|perp inv n Q) u:=(YG f hB u).mpr #[hs,λv hv=>h v<|W0 f hA hB hv]
   rw[VM f hQ]at this;exact this
 .rintro ⟨h1,h2⟩
  refine#[X8 hP h1,λv hv=>?_]
  obtain⟨q,hq,hp⟩:=(Wr f hA hB v).mp hv;have e1:=((YG f hP _).mp hp).2 u h1;have e2:=((YG f hQ _).mp hq).2 u h2;have e3:dot n u v=dot n u (λj=>(v j-q j)-(-1)*q j):=XF λk _=>by grind
  rw[VF,e3,Gz,e1,e2];grind
end
end La
namespace Rw
open La
open Ev (ltI Xj ZH)
section
variable{p:Nat}[NeZero p]
noncomputable def ph(p:Nat)[NeZero p](a:Int):Fin p:=Fin.ofNat p (a%p).toNat
theorem ppos:(0:Int)<p:=by have:=NeZero.ne p;lia
theorem YV(a:Int):((ph p a).val:Int)=a%p:=by
 have h:=ppos (p:=p);have h0:=eV a (by lia:(p:Int)≠0)
 have h1:=dM a h;show((((a%p).toNat)%p:Nat):Int)=a%p;rw[Nat.mod_eq_of_lt (by lia)]
 lia
theorem Vg{x y:Fin p}(h:(x.val:Int)=y.val):x=y:=Fin.ext (by lia)
def Zbn(a b:Int):ph p (a+b)=ph p a+ph p b:=Vg (by
 rw[YV,Fin.val_add];show(a+b)%p=(((ph p a).val+(ph p b).val:Nat):Int)%p;rw[Int.natCast_add,YV,YV,<-Int.add_emod])
def jP(a b:Int):ph p (a*b)=ph p a*ph p b:=Vg (by
 rw[YV,Fin.val_mul];show(a*b)%p=(((ph p a).val*(ph p b).val:Nat):Int)%p;rw[mi,YV,YV,<-Int.mul_emod])
def wd(a:Int):ph p (a%p)=ph p a:=Vg (by rw[YV,YV,Int.emod_emod])
def XZ:ph p 0=0:=Vg (by rw[YV];simp)
theorem Yt(a:Int):ph p (-a) = - ph p a:=by
 have h:ph p (-a+a)=ph p (-a)+ph p a:=Zbn _ _;rw[show -a+a=0 by lia,XZ]at h
 grind
def Qd{a b:Int}(ha:0<=a/\a<p)(hb:0<=b/\b<p)(h:ph p a=ph p b):a=b:=by
 have:=congrArg (λx:Fin p=>(x.val:Int)) h
 simp only[YV]at this;rw[cW ha.1 ha.2,cW hb.1 hb.2]at this;exact this
theorem Zf9{a:Int}(ha:0<=a/\a<p):ph p a=0↔a=0:=by
 constructor
 .intro h;exact Qd ha #[by lia,ppos] (by rw[h,XZ])
 .rintro rfl;exact XZ
end
abbrev Row:=List Int
def Zf(p n:Nat)(r:Row):Prop:=r.length=n/\∀a∈r,0<=a/\a<(p:Int)
noncomputable def gt(r:Row)(j:Nat):Int:=r.getD j 0
def YL{p n:Nat}(h0:(0:Int)<p){r:Row}(h:Zf p n r)(j:Nat):0<=gt r j/\gt r j<p:=by
 unfold gt;rw[aA];cases q:r[j]? with|none=>exact#[Int.le_refl _,h0]|some a=>exact h.2 a<|dr q
def Zbh(h:r.length<=j):gt r j=0:=by unfold gt;rw[aA,bn h];rfl
def xj(hl:r.length=s.length)(h:∀j,gt r j=gt s j):r=s:=by
 apply fw hl;intro j h1 h2;have:=h j;unfold gt at this;rw[aA,aA,ag h1,ag h2]at this;exact this
noncomputable def hdI:Row->Option Nat
 |[]=>ae
 |a::r=>if a≠0 then aa 0 else(hdI r).map (· + 1)
theorem Z9:∀{r:Row}{k:Nat},hdI r=aa k->gt r k≠0/\k<r.length/\∀j,j<k->gt r j=0
 |[],k,h=>by cases h
 |a::r,k,h=>by
  unfold hdI at h;by_cases c:a≠0
  .rw[T9 c]at h;cases h;exact#[c,by simp,λj hj=>by lia]
  .rw[T8 c]at h
   cases q:hdI r with
   |none=>rw[q]at h;cases h
   |some m=>
    rw[q]at h;have e:m+1=k:=ak h;subst e;obtain⟨h1,h2,h3⟩:=Z9 q;refine#[h1,by simp;lia,λj hj=>?_]
    cases j with|zero=>exact oj.mp c|succ j=>exact h3 j (by lia)
theorem XG:∀{r:Row},hdI r=ae->∀j,gt r j=0
 |[],_,j=>Zbh<|cL _
 |a::r,h,j=>by
  unfold hdI at h;by_cases c:a≠0
  .rw[T9 c]at h;cases h
  .rw[T8 c]at h
   have h':=Option.map_eq_none_iff.mp h;cases j with|zero=>exact oj.mp c|succ j=>exact XG h' j
def Zfu(h1:gt r k≠0)(h2:∀j,j<k->gt r j=0):hdI r=aa k:=by
 cases q:hdI r with
 |none=>exact T7 (XG q k) h1
 |some m=>
  obtain⟨a,_,c⟩:=Z9 q;have:¬k<m:=λz=>h1<|c k z
  have:¬m<k:=λz=>a<|h2 m z
  rw[show m=k by lia]
section
variable{p n:Nat}[NeZero p]
noncomputable def toV(p:Nat)[NeZero p](r:Row):Vec (Fin p):=λj=>ph p<|gt r j
def Yc{r s:Row}(hr:Zf p n r)(hs:Zf p n s)(h:toV p r=toV p s):r=s:=
 xj (by rw[hr.1,hs.1]) λj=>Qd (YL ppos hr j) (YL ppos hs j)<|congrFun h j
def YO(hr:Zf p n r):Supp n (toV p r):=λj hj=>by unfold toV;rw[Zbh (by rw[hr.1];exact hj),XZ]
def Z3{r:Row}(hr:Zf p n r){j:Nat}:toV p r j=0↔gt r j=0:=Zf9<|YL ppos hr j
def G9(hr:Zf p n r):hdV n (toV p r)=hdI r:=by
 cases q:hdI r with
 |none=>
  cases q2:hdV n (toV p r)with|none=>rfl|some k=>exact T7 ((Z3 hr).mpr<|XG q k) (UU q2).2.1
 |some k=>
  obtain⟨a,b,c⟩:=Z9 q;exact wC (by rw[<-hr.1];exact b) (λz=>a<|(Z3 hr).mp z) λj hj=>(Z3 hr).mpr<|c j hj
noncomputable def Zj(p:Nat)(r o:Row)(k:Int):Row:=on (λa b=>(a+k*b)%p) r o
noncomputable def X9(p:Nat)(r:Row)(k:Int):Row:=r.map λa=>k*a%p
theorem Ze3(hl:r.length=o.length)(h0:f 0 0=0)(j:Nat):gt (on f r o) j=f (gt r j) (gt o j):=by
 unfold gt;simp only[aA];rw[List.getElem?_zipWith];by_cases c:j<r.length
 .rw[ag c,ag (by lia)];rfl
 .rw[bn (by lia),bn (by lia)];exact h0.symm
theorem Ze(hr:Zf p n r)(ho:Zf p n o):Zf p n (Zj p r o k):=by
 refine#[by unfold Zj;rw[iS,hr.1,ho.1];simp,λa ha=>?_]
 unfold Zj at ha;rw[<-fb]at ha;obtain⟨⟨x,y⟩,_,rfl⟩:=aC.mp ha;exact#[eV _ (by have:=ppos (p:=p);lia),dM _ ppos]
def YB(hr:Zf p n r)(ho:Zf p n o)(j:Nat):gt (Zj p r o k) j=(gt r j+k*gt o j)%p:=by
 unfold Zj;rw[Ze3 (by rw[hr.1,ho.1]) (by simp)]
def Zm(hr:Zf p n r)(ho:Zf p n o):toV p (Zj p r o k)=λj=>toV p r j+ph p k*toV p o j:=by
 funext j
 unfold toV;rw[YB hr ho,wd,Zbn,jP]
def Zaj(j:Nat):gt (X9 p r k) j=k*gt r j%p:=by
 unfold X9 gt;simp only[aA,aH];cases r[j]?<;>simp
theorem JR{r:Row}{k:Int}(hr:Zf p n r):Zf p n (X9 p r k):=by
 refine#[by unfold X9;rw[aq,hr.1],λa ha=>?_]
 obtain⟨x,_,rfl⟩:=aC.mp ha;exact#[eV _ (by have:=ppos (p:=p);lia),dM _ ppos]
def uF :toV p (X9 p r k)=λj=>ph p k*toV p r j:=by
 funext j
 unfold toV;rw[Zaj,wd,jP]
noncomputable def toP(p:Nat)[NeZero p](P:List Row):Pt (Fin p):=P.map λr=>((hdI r).getD 0,toV p r)
structure pZ(p n:Nat)[NeZero p](P:List Row):Prop where
 row:∀r∈P,Zf p n r
 pn:Pn n (toP p P)
theorem pZ.nil:pZ p n []:=#[λ_ h=>(by cases h),Pn.nil]
def ZY(h:r∈P):((hdI r).getD 0,toV p r)∈toP p P:=aC.mpr #[r,h,rfl]
def pZ.head(one0:(1:Fin p)≠0)(h:pZ p n P)(hr:r∈P):∃k,hdI r=aa k/\k<n/\toV p r k=1:=by
 have h1:=h.pn.rf.one _<|ZY hr;cases q:hdI r with
 |none=>
  rw[q]at h1;have:toV p r 0=1:=h1;have z:=(Z3<|h.row r hr).mpr<|XG q 0;rw[z]at this;exact T7 this.symm one0
 |some k=>
  rw[q]at h1;have h2:=h.pn.lt _<|ZY hr;rw[q]at h2;exact#[k,rfl,h2,h1]
def G4(hP:∀r∈P,Zf p n r)(hQ:∀r∈Q,Zf p n r)(h:toP p P=toP p Q):P=Q:=by
 induction P generalizing Q with
 |nil=>cases Q with|nil=>rfl|cons b Q=>cases h
 |cons a P ih=>cases Q with
  |nil=>cases h
  |cons b Q=>
   have h':=h;injection h' with e1 e2
   have e3:=congrArg mN e1;rw[Yc (hP a<|ai ..) (hQ b<|ai ..) e3,ih (λr hr=>hP r<|af _ hr) (λr hr=>hQ r<|af _ hr) e2]
def Zdd(P:List Row):(toP p P).map (·.2)=P.map (toV p):=by unfold toP;rw[bC];rfl
def Xq(P:List Row):(toP p P).length=P.length:=by unfold toP;rw[aq]
noncomputable def clr(p:Nat)(r o:Row)(h:Nat):Row:=Zj p r o<|-(gt r h)
noncomputable def Zl(p:Nat)(P:List Row)(r:Row):Row:=P.foldl (λs o=>clr p s o<|(hdI o).getD 0) r
theorem Vn(hr:Zf p n r)(ho:Zf p n o):toV p (clr p r o h)=λj=>toV p r j-toV p r h*toV p o j:=by
 unfold clr;rw[Zm hr ho]
 funext j
 rw[Yt];show toV p r j+(- toV p r h)*toV p o j=_
 grind
theorem UB:∀{P:List Row}{r:Row},(∀o∈P,Zf p n o)->Rf (toP p P)->Zf p n r->Zf p n (Zl p P r)/\toV p (Zl p P r)=rest (toP p P) (toV p r)
 |[],r,_,_,hr=>#[hr,by funext j;show toV p r j=toV p r j-0;grind]
 |o::P,r,hP,hf,hr=>by
  have ho:=hP o<|ai ..;have hc:Zf p n (clr p r o<|(hdI o).getD 0):=Ze hr ho;obtain⟨a,b⟩:=UB (λo h=>hP o<|af _ h) hf.tail hc
  refine#[a,?_];show toV p (Zl p P<|clr p r o<|(hdI o).getD 0)=_;rw[b,Vn hr ho];have z:∀j,pr (toP p P) (toV p o) j=0:=λj=>Y0 λc hc=>by
   have:toV p o c.1=0:=by
    have h1:c∈toP p (o::P):=af _ hc;have h2:((hdI o).getD 0,toV p o)∈toP p (o::P):=ai ..;have h3:=(aR.mp hf.inc).1 c hc;exact hf.zer c h1 _ h2 (by simp only at h3 ⊢;lia)
   rw[this];grind
  funext j
  unfold rest;rw[V5,z];show toV p r j-toV p r ((hdI o).getD 0)*toV p o j-(pr (toP p P) (toV p r) j-_*0)=toV p r j-(toV p r ((hdI o).getD 0)*toV p o j+pr (toP p P) (toV p r) j)
  grind
def qZ(hP:pZ p n P)(hr:Zf p n r):hdI (Zl p P r)=ae↔Mem (toP p P) (toV p r):=by
 obtain⟨a,b⟩:=UB hP.row hP.pn.rf hr;rw[<-QG,<-b]
 constructor
 .intro h j;exact(Z3 a).mpr<|XG h j
 .intro h
  cases q:hdI (Zl p P r)with|none=>rfl|some k=>exact T7 ((Z3 a).mp<|h k) (Z9 q).1
end
noncomputable def UY(p:Nat)(a:Int):Int:=if a=1 then 1 else if p=3 then 2 else if a=2 then 3 else if a=3 then 2 else 4
noncomputable def Uz(p:Nat)[NeZero p](x:Fin p):Fin p:=ph p<|UY p x.val
class Base(p:Nat):Prop where
 b:p=2\/p=3\/p=5
instance(p:Nat)[h:Base p]:NeZero p:=⟨by rcases h.b with e|e|e<;>lia⟩
section
variable{p n:Nat}[Base p]
def fld2:∀a:Fin 2,a≠0->Uz 2 a*a=1:=by decide
def fld3:∀a:Fin 3,a≠0->Uz 3 a*a=1:=by decide
def fld5:∀a:Fin 5,a≠0->Uz 5 a*a=1:=by decide
def one2:(1:Fin 2)≠0:=by decide
def one3:(1:Fin 3)≠0:=by decide
def one5:(1:Fin 5)≠0:=by decide
def fld:Fld (Uz p):=by
 rcases(inferInstance:Base p).b with e|e|e<;>subst e
 .exact#[fld2,one2]
 .exact#[fld3,one3]
 .exact#[fld5,one5]
def Zcl{a:Int}(h:0<=a/\a<(p:Int)):((ph p a).val:Int)=a:=by rw[YV,cW h.1 h.2]
noncomputable def lead(p:Nat)(s:Row)(h:Nat):Row:=X9 p s<|UY p<|gt s h
noncomputable def Xu(p:Nat)(P:List Row)(r:Row):List Row:=match hdI (Zl p P r)with
 |none=>P
 |some h=>(ZH<|P.map (λo=>clr p o (lead p (Zl p P r) h) h)++[lead p (Zl p P r) h]).reverse
noncomputable def z6(h:Nat)(x:Row):List Row->List Row
 |[]=>[x]
 |y::P=>if h<(hdI y).getD 0 then x::y::P else y::z6 h x P
theorem V4(h:Nat)(x:Row):∀P:List Row,(z6 h x P).Perm (x::P)
 |[]=>bE _
 |y::P=>by
  unfold z6;split
  .exact bE _
  .exact((V4 h x P).cons y).trans<|gZ x y P
theorem yK{h:Nat}{x:Row}(hx:hdI x=aa h):∀P:List Row,toP p (z6 h x P)=ins (h,toV p x) (toP p P)
 |[]=>by show[((hdI x).getD 0,toV p x)]=_;rw[hx];rfl
 |y::P=>by
  unfold z6;show toP p (if h<(hdI y).getD 0 then _ else _)=(if h<(hdI y).getD 0 then _ else _)
  split
  .show((hdI x).getD 0,toV p x)::_=_;rw[hx];rfl
  .show((hdI y).getD 0,toV p y)::toP p (z6 h x P)=_;rw[yK hx P];rfl
theorem UR:∀{a b:Row}{h:Nat},a.length=b.length->(∀j,j<h->gt a j=gt b j)->gt b h<gt a h->h<a.length->ltI b a=al
 |[],_,_,_,_,_,hl=>by simp at hl
 |x::a,[],_,e,_,_,_=>by simp at e
 |x::a,y::b,0,_,_,hlt,_=>by
  have:y<x:=hlt;unfold ltI;rw[T8 (by lia)]
  exact T5 this
 |x::a,y::b,h+1,e,hj,hlt,hl=>by
  have:x=y:=hj 0 (by lia)
  unfold ltI;rw[T9 this.symm];exact UR (by simpa using e) (λj h'=>hj (j+1)<|by lia) hlt (by simpa using hl)
theorem ZaX{a b:Row}{h k:Nat}(ha:Zf p n a)(hb:Zf p n b)(h1:hdI a=aa h)(h2:hdI b=aa k)(hk:h<k):ltI b a=al:=by
 obtain⟨a1,a2,a3⟩:=Z9 h1;obtain⟨b1,b2,b3⟩:=Z9 h2;refine UR (by rw[ha.1,hb.1]) (λj hj=>by rw[a3 j hj,b3 j<|by lia]) ?_ a2
 rw[b3 h hk];have:=(YL ppos ha h).1;lia
def pZ.falls{P:List Row}(hP:pZ p n P):P.Pairwise λa b=>ltI b a=al:=by
 have inc:P.Pairwise λa b=>(hdI a).getD 0<(hdI b).getD 0:=by
  have:=hP.pn.rf.inc;unfold toP at this;rw[bD]at this;exact this
 refine dg (λ{a b} ha hb hab=>?_) inc
 obtain⟨h,e1,_⟩:=hP.head fld.one0 ha;obtain⟨k,e2,_⟩:=hP.head fld.one0 hb;rw[e1,e2]at hab;exact ZaX (hP.row a ha) (hP.row b hb) e1 e2 hab
def Uh{P:List Row}(h:P.Pairwise λa b=>ltI b a=al):P.Nodup:=List.Pairwise.imp (λ{a b} hab e=>by
 rw[e]at hab;have:=Sd.Y2 hab;rw[hab]at this;cases this) h
def Zcg{P Q:List Row}(hp:Q.Perm P)(h:Q.Pairwise λa b=>ltI b a=al):(ZH P).reverse=Q:=by
 have hn:P.Nodup:=(hp.nodup_iff).mp<|Uh h;have e:ZH P=Q.reverse:=Sd.Wg ((Sd.Xc P).trans<|hp.symm.trans (dF Q).symm) (Sd.XY hn)<|eL.mpr h;rw[e,List.reverse_reverse]
def W3{P:List Row}{r:Row}(hP:pZ p n P)(hr:Zf p n r):pZ p n (Xu p P r)/\toP p (Xu p P r)=more (Uz p) n (toP p P) (toV p r):=by
 obtain⟨s1,s2⟩:=UB hP.row hP.pn.rf hr;have eh:=G9 s1;rw[s2]at eh;have g:=XO fld hP.pn<|YO hr;unfold Xu;cases q:hdI (Zl p P r)with
 |none=>
  rw[q]at eh;exact#[hP,by unfold more;rw[eh]]
 |some h=>
  rw[q]at eh;have em:more (Uz p) n (toP p P) (toV p r)=wid (toP p P) h (toV p<|lead p (Zl p P r) h):=by
   unfold more;rw[eh];show wid _ h _=_
   congr 1
   unfold lead;rw[uF,s2]
   funext j
   congr 1
   unfold Uz;rw[<-s2];show ph p (UY p<|(ph p<|gt (Zl p P r) h).val)=_;rw[Zcl<|YL ppos s1 h]
  have hl:Zf p n (lead p (Zl p P r) h):=JR s1;rw[em]at g;have mem:∀x∈wid (toP p P) h (toV p<|lead p (Zl p P r) h),hdV n x.2=aa x.1:=λx hx=>wC (g.pn.lt x hx) (by rw[g.pn.rf.one x hx];exact fld.one0)<|g.pn.rf.low x hx
  have hx:hdI (lead p (Zl p P r) h)=aa h:=by
   rw[<-G9 hl];exact mem (h,toV p<|lead p (Zl p P r) h)<|(Ya _ _).mem_iff.mpr<|ai ..
  have e1:toP p (P.map λo=>clr p o (lead p (Zl p P r) h) h)=(toP p P).map (off h<|toV p<|lead p (Zl p P r) h):=by
   unfold toP;rw[bC,bC];refine bW λo ho=>?_
   have ho':=hP.row o ho;have hc:Zf p n (clr p o (lead p (Zl p P r) h) h):=Ze ho' hl;have ev:toV p (clr p o (lead p (Zl p P r) h) h)=(off h (toV p<|lead p (Zl p P r) h) ((hdI o).getD 0,toV p o)).2:=Vn ho' hl;show((hdI<|clr p o (lead p (Zl p P r) h) h).getD 0,toV p<|clr p o (lead p (Zl p P r) h) h)=off h _ ((hdI o).getD 0,toV p o);have:=mem (off h (toV p<|lead p (Zl p P r) h) ((hdI o).getD 0,toV p o))<|(Ya _ _).mem_iff.mpr<|af _<|aC.mpr #[_,ZY ho,rfl];rw[<-ev,G9 hc]at this;rw[this,ev];rfl
  have e2:toP p (z6 h (lead p (Zl p P r) h)<|P.map λo=>clr p o (lead p (Zl p P r) h) h)=wid (toP p P) h (toV p<|lead p (Zl p P r) h):=by
   rw[yK hx,e1];rfl
  have hQ:pZ p n (z6 h (lead p (Zl p P r) h)<|P.map λo=>clr p o (lead p (Zl p P r) h) h):=by
   refine#[λx hx=>?_,by rw[e2];exact g.pn]
   rcases ay.mp ((V4 _ _ _).mem_iff.mp hx)with e|e
   .rw[e];exact hl
   .obtain⟨o,ho,rfl⟩:=aC.mp e
    exact Ze (hP.row o ho) hl
  have e3:=Zcg ((V4 h (lead p (Zl p P r) h)<|P.map λo=>clr p o (lead p (Zl p P r) h) h).trans (ko _ _).symm) hQ.falls
  show pZ p n (ZH _).reverse/\toP p (ZH _).reverse=_;rw[e3];exact#[hQ,by rw[e2,em]]
noncomputable def Zz(p:Nat)(P:List Row)(rs:List Row):List Row:=rs.foldl (Xu p) P
theorem VC:∀{rs:List Row}{P:List Row},pZ p n P->(∀r∈rs,Zf p n r)->pZ p n (Zz p P rs)/\toP p (Zz p P rs)=WK (Uz p) n (toP p P) (rs.map<|toV p)
 |[],P,hP,_=>#[hP,rfl]
 |r::rs,P,hP,hr=>by
  obtain⟨a,b⟩:=W3 hP<|hr r<|ai ..;obtain⟨c,d⟩:=VC (rs:=rs) a λx hx=>hr x<|af _ hx
  refine#[c,?_];show toP p (Zz p (Xu p P r) rs)=_;rw[d,b];rfl
def YR{P Q:List Row}(hP:pZ p n P)(hQ:pZ p n Q):pZ p n (Zz p P Q)/\toP p (Zz p P Q)=join (Uz p) n (toP p P) (toP p Q):=by
 obtain⟨a,b⟩:=VC hP hQ.row;exact#[a,by rw[b];unfold join;rw[Zdd]]
noncomputable def Zw(P:List Row):List Nat:=P.map λr=>(hdI r).getD 0
noncomputable def X6(n:Nat)(P:List Row):List Nat:=(aE n).filter λj=>!(Zw P).contains j
def Y4(P:List Row):(toP p P).map (·.1)=Zw P:=by unfold toP Zw;rw[bC];rfl
def Qy(P:List Row):free n (toP p P)=X6 n P:=by unfold free X6 ZW;rw[Y4]
noncomputable def avF(p:Nat)(P:List Row)(f:Nat)(s:Row):Row:=P.foldl (λs r=>s.set ((hdI r).getD 0)<|(-(gt r f))%p) s
noncomputable def avI(p n:Nat)(P:List Row)(f:Nat):Row:=avF p P f<|(az n 0).set f 1
def ZbE{s:Row}{i j:Nat}{x:Int}(hi:i<s.length):gt (s.set i x) j=if j=i then x else gt s j:=by
 unfold gt;simp only[aA];rw[kG];by_cases c:i=j
 .rw[T9 c,T9 hi,T9 c.symm];rfl
 .rw[T8 c,T8<|Ne.symm c]
theorem uo:∀{P:List Row}{f:Nat}{s:Row},Zf p n s->Zf p n (avF p P f s)
 |[],_,_,h=>h
 |r::P,f,s,h=>by
  refine uo (P:=P) #[by rw[bH];exact h.1,λa ha=>?_]
  rcases ky ha with z|z
  .exact h.2 a z
  .rw[z];exact#[eV _ (by have:=ppos (p:=p);lia),dM _ ppos]
theorem vA:∀{P:List Row}{f:Nat}{s:Row}(j:Nat),(∀r∈P,(hdI r).getD 0<n)->(Zw P).Pairwise (· < ·)->s.length=n->toV p (avF p P f s) j=if ZW (toP p P) j=al then av (toP p P) f j else toV p s j
 |[],_,_,j,_,_,_=>rfl
 |r::P,f,s,j,hb,hi,hl=>by
  have hi':=aR.mp hi;show toV p (avF p P f<|s.set ((hdI r).getD 0)<|(-(gt r f))%p) j=_;rw[vA j (λx hx=>hb x<|af _ hx) hi'.2 (by rw[bH];exact hl)]
  have e:av (toP p (r::P)) f j=if j=(hdI r).getD 0 then-toV p r f else av (toP p P) f j:=rfl
  have e0:ZW (toP p (r::P)) j=(aj (j=(hdI r).getD 0)||ZW (toP p P) j):=by
   unfold ZW;show(((hdI r).getD 0)::(toP p P).map (·.1)).contains j=_
   rw[fE]
   congr 1
  cases q:ZW (toP p P) j with
  |true=>
   rw[T9 rfl,T9 (by rw[e0,q];simp),e,T8]
   intro z;have:j∈Zw P:=by rw[<-Y4 (p:=p)];unfold ZW at q;exact eK.mp q
   have h5:(hdI r).getD 0<j:=hi'.1 j this;lia
  |false=>
   rw[T8 (by simp)]
   unfold toV;rw[ZbE (by rw[hl];exact hb r<|ai ..)]
   by_cases c:j=(hdI r).getD 0
   .rw[T9 c,T9 (by rw[e0];simp[c]),e,T9 c,wd,Yt];rfl
   .rw[T8 c,T8 (by rw[e0,q];simp[c])]
theorem jO{P:List Row}{f:Nat}(hP:pZ p n P)(hf:f∈X6 n P):Zf p n (avI p n P f)/\toV p (avI p n P f)=av (toP p P) f:=by
 rw[<-Qy (p:=p)]at hf;obtain⟨f1,f2⟩:=Yh.mp hf;have hone:(1:Int)<p:=by rcases(inferInstance:Base p).b with e|e|e<;>subst e<;>decide
 have hs:Zf p n ((az n (0:Int)).set f 1):=by
  refine#[by simp,λa ha=>?_]
  rcases ky ha with z|z
  .rw[(gF.mp z).2];exact#[by lia,ppos]
  .rw[z];exact#[by lia,hone]
 refine#[uo hs,?_]
 funext j
 unfold avI;rw[vA (n:=n) j (λr hr=>hP.pn.lt _<|ZY hr) (by rw[<-Y4 (p:=p)];exact hP.pn.rf.heads) hs.1]
 cases q:ZW (toP p P) j with
 |true=>rw[T9 rfl]
 |false=>
  rw[T8 (by simp),Wm q]
  unfold toV;rw[ZbE (by simpa using f1)]
  have one:ph p 1=1:=by rcases(inferInstance:Base p).b with e|e|e<;>subst e<;>rfl
  by_cases c:j=f
  .rw[T9 c,T9 c,one]
  .rw[T8 c,T8 c]
   have:gt (az n (0:Int)) j=0:=by
    unfold gt;rw[aA,bT];split<;>rfl
   rw[this,XZ]
noncomputable def Ye(p n:Nat)(P:List Row):List Row:=Zz p []<|(X6 n P).map<|avI p n P
def Yw{P:List Row}(hP:pZ p n P):pZ p n (Ye p n P)/\toP p (Ye p n P)=perp (Uz p) n (toP p P):=by
 obtain⟨a,b⟩:=VC (rs:=(X6 n P).map<|avI p n P) (pZ.nil (p:=p) (n:=n)) λr hr=>by
  obtain⟨f,hf,rfl⟩:=aC.mp hr;exact(jO hP hf).1
 refine#[a,?_];unfold Ye;rw[b];unfold perp;rw[Qy,bC]
 congr 1
 exact bW λf hf=>(jO hP hf).2
noncomputable def WL(p n:Nat)(P Q:List Row):List Row:=Ye p n<|Zz p (Ye p n P)<|Ye p n Q
def yc{P Q:List Row}(hP:pZ p n P)(hQ:pZ p n Q):pZ p n (WL p n P Q)/\toP p (WL p n P Q)=meet (Uz p) n (toP p P) (toP p Q):=by
 obtain⟨a1,a2⟩:=Yw hP;obtain⟨b1,b2⟩:=Yw hQ;obtain⟨c1,c2⟩:=YR a1 b1;obtain⟨d1,d2⟩:=Yw c1;exact#[d1,by unfold WL;rw[d2,c2,a2,b2];rfl]
noncomputable def Wb(p:Nat)(rs:List Row)(o:Row):List Row:=rs.flatMap λr=>(aE p).map λ(k:Nat)=>Zj p r o (k:Int)
noncomputable def Z0(p n:Nat)(P:List Row):List Row:=P.foldl (Wb p) [az n 0]
def xk(P:List Row)(o:Row):Z0 p n (P++[o])=Wb p (Z0 p n P) o:=by unfold Z0;rw[kP];rfl
def pZ.init(h:pZ p n (P++[o])):pZ p n P:=by
 have mem:∀{x},x∈toP p P->x∈toP p (P++[o]):=λ{x} hx=>by unfold toP at hx ⊢;rw[bP];exact bG _ hx
 refine#[λr hr=>h.row r<|bG _ hr,#[#[?_,λa ha=>h.pn.rf.low a<|mem ha,λa ha=>h.pn.rf.one a<|mem ha,λa ha b hb=>h.pn.rf.zer a (mem ha) b<|mem hb],λa ha=>h.pn.lt a<|mem ha,λa ha=>h.pn.sp a<|mem ha]]
 have:=h.pn.rf.inc;unfold toP at this ⊢;rw[bP,cz]at this;exact this.1
theorem jK(P Q:Pt (Fin p))(v:Vec (Fin p))(j:Nat):pr (P++Q) v j=pr P v j+pr Q v j:=by
 induction P with|nil=>show _=0+_;grind|cons a P ih=>show v a.1*a.2 j+pr (P++Q) v j=v a.1*a.2 j+pr P v j+pr Q v j;rw[ih];grind
theorem vL:∀{P:List Row},pZ p n P->(∀r,r∈Z0 p n P↔Zf p n r/\Mem (toP p P) (toV p r))/\(Z0 p n P).Pairwise λa b=>ltI a b=al:=by
 have hz:Zf p n (az n (0:Int)):=#[by simp,λa ha=>by rw[(gF.mp ha).2];exact#[by lia,ppos]]
 have gz:∀j,gt (az n (0:Int)) j=0:=λj=>by
  unfold gt;rw[aA,bT];split<;>rfl
 have key:∀(m:Nat)(P:List Row),P.length=m->pZ p n P->(∀r,r∈Z0 p n P↔Zf p n r/\Mem (toP p P) (toV p r))/\(Z0 p n P).Pairwise λa b=>ltI a b=al:=by
  intro m
  induction m with
  |zero=>
   intro P hl hP;have:P=[]:=bU.mp hl;subst this;refine#[λr=>?_,d5 ..]
   show r∈[az n (0:Int)]↔_;rw[aQ]
   constructor
   .rintro rfl
    exact#[hz,λj=>by show ph p (gt _ j)=0;rw[gz,XZ]]
   .rintro ⟨h1,h2⟩
    exact xj (by rw[h1.1,hz.1]) λj=>by rw[gz];exact(Z3 h1).mp<|h2 j
  |succ m ih=>
   intro P hl hP;obtain⟨Q,o,rfl⟩:∃Q o,P=Q++[o]:=#[P.dropLast,P.getLast (by intro z;rw[z]at hl;cases hl),(fJ _).symm]
   have hQ:=hP.init;obtain⟨ih1,ih2⟩:=ih Q (by simpa using hl) hQ
   have hoM:o∈Q++[o]:=bm _<|aQ.mpr rfl;have ho:=hP.row o hoM;obtain⟨k,hk1,hk2,hk3⟩:=hP.head fld.one0 hoM;have eP:toP p (Q++[o])=toP p Q++[(k,toV p o)]:=by unfold toP;rw[bP];show _++[((hdI o).getD 0,toV p o)]=_;rw[hk1];rfl
   have mo:(k,toV p o)∈toP p (Q++[o]):=by rw[eP];exact bm _<|aQ.mpr rfl
   have mq:∀{a},a∈toP p Q->a∈toP p (Q++[o]):=λ{a} ha=>by rw[eP];exact bG _ ha
   have hlt:∀a∈toP p Q,a.1<k:=λa ha=>by
    have:=hP.pn.rf.inc;rw[eP,cz]at this;exact this.2.2 a ha _<|aQ.mpr rfl
   have oz:∀a∈toP p Q,toV p o a.1=0:=λa ha=>hP.pn.rf.zer a (mq ha) _ mo (by have:=hlt a ha;simp only;lia)
   have qz:∀a∈toP p Q,a.2 k=0:=λa ha=>hP.pn.rf.zer _ mo a (mq ha) (by have:=hlt a ha;simp only;lia)
   have po:∀j,pr (toP p Q) (toV p o) j=0:=λj=>Y0 λa ha=>by rw[oz a ha];grind
   have memP:∀u:Vec (Fin p),Mem (toP p<|Q++[o]) u↔Mem (toP p Q) λj=>u j-u k*toV p o j:=λu=>by
    rw[eP]
    constructor
    .intro h j
     have h1:=h j;rw[jK]at h1;rw[V5,po];show u j-u k*toV p o j=_;have e:pr [(k,toV p o)] u j=u k*toV p o j+0:=rfl;rw[e]at h1
     grind
    .intro h j
     have h1:u j-u k*toV p o j=_:=h j;rw[V5,po]at h1;rw[jK];have e:pr [(k,toV p o)] u j=u k*toV p o j+0:=rfl;rw[e]
     grind
   have atk:∀r,r∈Z0 p n Q->gt r k=0:=λr hr=>by
    obtain⟨h1,h2⟩:=(ih1 r).mp hr;exact(Z3 h1).mp (by rw[h2 k];exact Y0 λa ha=>by rw[qz a ha];grind)
   have low:∀j,j<k->gt o j=0:=(Z9 hk1).2.2;have one:gt o k=1:=Qd (YL ppos ho k) #[by lia,by rcases(inferInstance:Base p).b with e|e|e<;>subst e<;>decide] (by
    have:ph p (gt o k)=1:=hk3;rw[this];rcases(inferInstance:Base p).b with e|e|e<;>subst e<;>rfl)
   rw[xk];refine#[λr=>?_,?_]
   .unfold Wb
    rw[cG]
    constructor
    .rintro ⟨s,hs,hr⟩
     obtain⟨c,hc,rfl⟩:=aC.mp hr;obtain⟨h1,h2⟩:=(ih1 s).mp hs;refine#[Ze h1 ho,?_];rw[Zm h1 ho];refine YC _ ?_<|YZ hP.pn.rf mo;rw[memP];have z:toV p s k=0:=(Z3 h1).mpr<|atk s hs;have e:(λj=>toV p s j-toV p s k*toV p o j)=toV p s:=by funext j;rw[z];grind
     rw[e];exact h2
    .rintro ⟨h1,h2⟩
     have hb:=YL ppos h1 k;refine#[Zj p r o<|-(gt r k),(ih1 _).mpr #[Ze h1 ho,?_],aC.mpr #[(gt r k).toNat,aN.mpr (by lia),?_]]
     .rw[Zm h1 ho,Yt]
      have:=(memP _).mp h2;have e:(λj=>toV p r j + -ph p (gt r k)*toV p o j)=λj=>toV p r j-toV p r k*toV p o j:=by funext j;show _ + -(toV p r k)*_=_;grind
      rw[e];exact this
     .refine Yc (Ze (Ze h1 ho) ho) h1 ?_
      rw[Zm (Ze h1 ho) ho,Zm h1 ho]
      funext j
      rw[show(((gt r k).toNat:Nat):Int)=gt r k by lia,Yt]
      grind
   .unfold Wb
    rw[mr];refine#[λs hs=>?_,?_]
    .have h1:=((ih1 s).mp hs).1
     rw[bD];refine dg (λ{a b} ha hb hab=>?_) g8
     have hb':=aN.mp hb;refine UR (h:=k) (by rw[(Ze h1 ho).1,(Ze h1 ho).1]) (λj hj=>by rw[YB h1 ho,YB h1 ho,low j hj];simp) ?_ (by rw[(Ze h1 ho).1];exact hk2)
     rw[YB h1 ho,YB h1 ho,atk s hs,one];rw[cW (by lia) (by lia),cW (by lia) (by lia)]
     lia
    .refine dg (λ{s t} hs ht hst=>?_) ih2
     have h1:=(ih1 s).mp hs;have h2:=(ih1 t).mp ht;intro x hx y hy;obtain⟨a,_,rfl⟩:=aC.mp hx;obtain⟨b,_,rfl⟩:=aC.mp hy;have hd:=XX 1 h2.2 h1.2
     have:∃d,(toV p t d-1*toV p s d≠0)/\∀j,j<d->toV p t j-1*toV p s j=0:=by
      cases q:hdV n (λj=>toV p t j-1*toV p s j)with
      |none=>
       exfalso
       have e:toV p t=toV p s:=by
        funext j
        have:=yH (n:=n) (v:=λj=>toV p t j-1*toV p s j) (λj hj=>by show toV p t j-1*toV p s j=0;rw[YO h2.1 j hj,YO h1.1 j hj];grind) q j
        grind
       have e2:=Yc h2.1 h1.1 e;rw[e2]at hst;have:=Sd.Y2 hst;rw[hst]at this;cases this
      |some d=>exact#[d,(UU q).2]
     obtain⟨d,d1,d2⟩:=this;obtain⟨c,hc,rfl⟩:=yj hQ.pn.rf hd d1 d2;have hck:=hlt c hc;have heq:∀j,j<c.1->gt t j=gt s j:=λj hj=>Qd (YL ppos h2.1 j) (YL ppos h1.1 j) (by
      have:=d2 j hj;show toV p t j=toV p s j
      grind)
     have hne:gt t c.1≠gt s c.1:=λz=>d1 (by show ph p (gt t c.1)-1*ph p (gt s c.1)=0;rw[z];grind)
     have hcn:=hQ.pn.lt c hc;have hst':gt s c.1<gt t c.1:=by
      by_cases z:gt s c.1<gt t c.1
      .exact z
      .exfalso
       have:=UR (a:=s) (b:=t) (h:=c.1) (by rw[h1.1.1,h2.1.1]) (λj hj=>(heq j hj).symm) (by lia) (by rw[h1.1.1];exact hcn)
       rw[Sd.Y2 hst]at this;cases this
     have vs:∀j,j<=c.1->gt (Zj p s o a) j=gt s j:=λj hj=>by
      rw[YB h1.1 ho,low j (by lia)]
      have:=YL ppos h1.1 j;rw[show gt s j+(a:Int)*0=gt s j by lia,cW this.1 this.2]
     have vt:∀j,j<=c.1->gt (Zj p t o b) j=gt t j:=λj hj=>by
      rw[YB h2.1 ho,low j (by lia)]
      have:=YL ppos h2.1 j;rw[show gt t j+(b:Int)*0=gt t j by lia,cW this.1 this.2]
     refine UR (h:=c.1) (by rw[(Ze h1.1 ho).1,(Ze h2.1 ho).1]) (λj hj=>by rw[vs j (by lia),vt j (by lia),heq j hj]) (by rw[vs _<|aM _,vt _<|aM _];exact hst') (by rw[(Ze h2.1 ho).1];exact hcn)
 exact λ{P} hP=>key P.length P rfl hP
end
section
variable{p n:Nat}[Base p]
abbrev Mm(p:Nat)[NeZero p](P:List Row)(u:Vec (Fin p)):Prop:=Mem (toP p P) u
def eqP(hA:pZ p n A)(hB:pZ p n B)(h:∀u,Mm p A u↔Mm p B u):A=B:=G4 hA.row hB.row<|Zat fld hA.pn hB.pn h
def vQ{P Q:List Row}(hP:pZ p n P)(hQ:pZ p n Q)(u:Vec (Fin p)):Mm p (Zz p P Q) u↔∃q,Mm p Q q/\Mm p P λj=>u j-q j:=by
 unfold Mm;rw[(YR hP hQ).2];exact Wr fld hP.pn hQ.pn u
def UM{P Q:List Row}(hP:pZ p n P)(hQ:pZ p n Q){u:Vec (Fin p)}(h:Mm p P u):Mm p (Zz p P Q) u:=by
 unfold Mm;rw[(YR hP hQ).2];exact JB fld hP.pn hQ.pn h
def Wf{P Q:List Row}(hP:pZ p n P)(hQ:pZ p n Q){u:Vec (Fin p)}(h:Mm p Q u):Mm p (Zz p P Q) u:=by
 unfold Mm;rw[(YR hP hQ).2];exact W0 fld hP.pn hQ.pn h
def QR{P Q R:List Row}(hP:pZ p n P)(hQ:pZ p n Q)(h1:∀u,Mm p P u->Mm p R u)(h2:∀u,Mm p Q u->Mm p R u){u:Vec (Fin p)}(h:Mm p (Zz p P Q) u):Mm p R u:=by
 unfold Mm at h;rw[(YR hP hQ).2]at h;exact QS fld hP.pn hQ.pn h1 h2 h
def vP{P Q:List Row}(hP:pZ p n P)(hQ:pZ p n Q)(u:Vec (Fin p)):Mm p (WL p n P Q) u↔Mm p P u/\Mm p Q u:=by
 unfold Mm;rw[(yc hP hQ).2];exact qN fld hP.pn hQ.pn u
def pJ{P Q:List Row}(hP:pZ p n P)(hQ:pZ p n Q):pZ p n (Zz p P Q):=(YR hP hQ).1
def pM{P Q:List Row}(hP:pZ p n P)(hQ:pZ p n Q):pZ p n (WL p n P Q):=(yc hP hQ).1
def ZdM{P Q:List Row}(hP:pZ p n P)(hQ:pZ p n Q):(Zz p P Q).length+(WL p n P Q).length=P.length+Q.length:=by
 have:=qv fld hP.pn hQ.pn (pM hP hQ).pn<|vP hP hQ;rw[<-(YR hP hQ).2]at this
 simpa only[Xq]using this
def ux{P Q:List Row}(hP:pZ p n P)(hQ:pZ p n Q):Zz p P Q=Zz p Q P:=eqP (pJ hP hQ) (pJ hQ hP) λu=>
 #[QR hP hQ (λu=>Wf hQ hP) λu=>UM hQ hP,QR hQ hP (λu=>Wf hP hQ) λu=>UM hP hQ]
def yE{P Q:List Row}(hP:pZ p n P)(hQ:pZ p n Q)(h:∀u,Mm p P u->Mm p Q u):Zz p P Q=Q:=eqP (pJ hP hQ) hQ λu=>
 #[QR hP hQ h λ_ h=>h,Wf hP hQ]
def ZbN{P:List Row}(u:Vec (Fin p))(h:Mm p ([]:List Row) u):Mm p P u:=by
 have e:u=λ_=>0:=funext λj=>h j
 rw[e];exact Yg
def qe{P:List Row}(hP:pZ p n P):Zz p [] P=P:=yE pZ.nil hP ZbN
noncomputable def ZQ(p:Nat)(P:List Row)(r:Row):Bool:=(hdI<|Zl p P r).isNone
def Zs(hP:pZ p n P)(hr:Zf p n r):ZQ p P r=al↔Mm p P (toV p r):=by
 unfold Mm;rw[<-qZ hP hr];unfold ZQ;cases hdI (Zl p P r)<;>simp
theorem Qq(hP:pZ p n P)(hQ:pZ p n Q):P.all (ZQ p Q)=al↔∀u,Mm p P u->Mm p Q u:=by
 rw[aX]
 constructor
 .intro h u hu
  have gen:∀R:Pt (Fin p),(∀a∈R,Mm p Q a.2)->Mm p Q (pr R u):=by
   intro R
   induction R with
   |nil=>intro _;exact Yg
   |cons a R ih=>
    intro hR;have:=YC (u a.1) (ih λb hb=>hR b<|af _ hb)<|hR a<|ai ..
    have e:(λj=>pr R u j+u a.1*a.2 j)=pr (a::R) u:=by funext j;show _=u a.1*a.2 j+pr R u j;grind
    rw[e]at this;exact this
  have:=gen (toP p P) λa ha=>by
   obtain⟨r,hr,rfl⟩:=aC.mp ha;exact(Zs hQ<|hP.row r hr).mp<|h r hr
  have e:=funext λj=>(hu j).symm
  rw[e]at this;exact this
 .intro h r hr
  exact(Zs hQ<|hP.row r hr).mpr<|h _<|YZ hP.pn.rf<|ZY hr
theorem wZ{F:Type}[iR F]{x:Nat×Vec F}:∀{P:Pt F},(∀a∈P,a.1<x.1)->ins x P=P++[x]
 |[],_=>rfl
 |y::P,h=>by
  unfold ins;rw[T8 (by have:=h y<|ai ..;lia),wZ λa ha=>h a<|af _ ha];rfl
theorem uM{P:List Row}{l:Row}{j:Nat}(hP:pZ p n P)(hl:Zf p n l)(hj:j<n)(h1:gt l j=1)(h0:∀i,i<j->gt l i=0)(hh:∀r∈P,(hdI r).getD 0<j):pZ p n (P.map (λo=>clr p o l j)++[l])/\∀r∈P.map (λo=>clr p o l j)++[l],(hdI r).getD 0<j+1:=by
 have one:ph p 1=1:=by rcases(inferInstance:Base p).b with e|e|e<;>subst e<;>rfl
 have hlt:∀a∈toP p P,a.1<j:=λa ha=>by
  unfold toP at ha;obtain⟨r,hr,rfl⟩:=aC.mp ha;exact hh r hr
 have L:Lead (toP p P) j (toV p l):=#[by unfold toV;rw[h1,one],λi hi=>(Z3 hl).mpr<|h0 i hi,λa ha=>(Z3 hl).mpr<|h0 _<|hlt a ha]
 have rf:=ZbC fld.one0 hP.pn.rf L;have ew:wid (toP p P) j (toV p l)=(toP p P).map (off j<|toV p l)++[(j,toV p l)]:=wZ λa ha=>by
  obtain⟨b,hb,rfl⟩:=aC.mp ha;exact hlt b hb
 have hx:hdI l=aa j:=Zfu (by rw[h1];decide) h0
 have hmem:∀o∈P,off j (toV p l) ((hdI o).getD 0,toV p o)∈wid (toP p P) j (toV p l):=λo ho=>by
  rw[ew];exact bG _<|aC.mpr #[_,ZY ho,rfl]
 have eh:∀o∈P,hdI (clr p o l j)=aa ((hdI o).getD 0):=λo ho=>by
  have ho':=hP.row o ho;have hc:Zf p n (clr p o l j):=Ze ho' hl;have ev:toV p (clr p o l j)=(off j (toV p l) ((hdI o).getD 0,toV p o)).2:=Vn ho' hl;rw[<-G9 hc,ev];exact wC (hP.pn.lt _<|ZY ho) (λz=>fld.one0<|(rf.one _<|hmem o ho).symm.trans z)<|rf.low _<|hmem o ho
 have eP:toP p (P.map (λo=>clr p o l j)++[l])=wid (toP p P) j (toV p l):=by
  rw[ew];unfold toP;rw[bP,bC,bC]
  congr 1
  .refine bW λo ho=>?_
   show((hdI<|clr p o l j).getD 0,toV p<|clr p o l j)=off j _ ((hdI o).getD 0,toV p o);rw[eh o ho,Vn (hP.row o ho) hl];rfl
  .show[((hdI l).getD 0,toV p l)]=_
   rw[hx];rfl
 have hrow:∀r∈P.map (λo=>clr p o l j)++[l],Zf p n r:=λr hr=>by
  rcases bM.mp hr with z|z
  .obtain⟨o,ho,rfl⟩:=aC.mp z
   exact Ze (hP.row o ho) hl
  .rw[aQ.mp z];exact hl
 refine#[#[hrow,#[by rw[eP];exact rf,λa ha=>?_,λa ha=>?_]],λr hr=>?_]
 .unfold toP at ha
  obtain⟨r,hr,rfl⟩:=aC.mp ha;rcases bM.mp hr with z|z
  .obtain⟨o,ho,rfl⟩:=aC.mp z
   show(hdI _).getD 0<n;rw[eh o ho];exact hP.pn.lt _<|ZY ho
  .rw[aQ.mp z];rw[hx];exact hj
 .unfold toP at ha
  obtain⟨r,hr,rfl⟩:=aC.mp ha;exact YO<|hrow r hr
 .rcases bM.mp hr with z|z
  .obtain⟨o,ho,rfl⟩:=aC.mp z
   rw[eh o ho];have:=hh o ho;show(hdI o).getD 0<j+1;lia
  .rw[aQ.mp z,hx];show j<j+1;lia
end
end Rw
namespace Pv
open Ev
open Rw
def Zc{B β:Type}{a:B}{s:DS}{f:B->DS->PR β}:(PR.ok a s).bind f=f a s:=rfl
def Qx(hf:F[f]?=aa fn)(hne:f≠tk)(hl:vs.length=fn.ps):Zo F tk (d+1) f vs s=(rvs (Zo F tk d) (muts fn.body) fn.body (ZR fn.ns vs) [] s).bind λg s=>match g with
  |.ret v=>.ok v s
  |.nx _ _=>.ok .non s
  |_=>.no:=by
 rw[Zo,T8 hne,hf];show(if vs.length=fn.ps then _ else _)=_
 rw[T9 hl]
 all_goals rfl
def jc(s:DS)(h:0<m):0<=(Wj s m).1/\(Wj s m).1<m:=by
 unfold Wj;split
 .exact#[eV _ (by lia),dM _ h]
 .exact#[eV _ (by lia),dM _ h]
def QL(s:DS)(h0:0<m)(h1:m<1073741824):∃v s',Zo F tk (d+1) tk [.drw,.int m] s=.ok (.int v) s'/\0<=v/\v<m:=by
 refine#[(Wj s m).1,(Wj s m).2,?_,jc s h0];rw[Zo,T9 rfl];show(if 0<m/\m<1073741824 then _ else _)=_
 rw[T9 #[h0,h1]]
theorem Qn{B:Type}{f:V->DS->PR (List V)}{s:DS}{e:B->V}{g:B->V}:∀{l:List B},(∀x∈l,f (e x) s=.ok [g x] s)->mapP f (l.map e) s=.ok (l.map g) s
 |[],_=>rfl
 |x::l,h=>by
  rw[bi,mapP,h x<|ai ..];show(match mapP f (l.map e) s with|.ok zs s=>PR.ok ([g x]++zs) s|_=>.no)=_
  rw[Qn λy hy=>h y<|af _ hy];rfl
theorem Um{B:Type}{f:V->DS->PR (List V)}{s:DS}{e:B->V}{g:B->V}{q:B->Bool}:∀{l:List B},(∀x∈l,f (e x) s=.ok (if q x=al then[g x]else[]) s)->mapP f (l.map e) s=.ok ((l.filter q).map g) s
 |[],_=>rfl
 |x::l,h=>by
  rw[bi,mapP,h x<|ai ..];show(match mapP f (l.map e) s with|.ok zs s=>PR.ok ((if q x=al then[g x]else[])++zs) s|_=>.no)=_
  rw[Um λy hy=>h y<|af _ hy,fA]
  cases q x<;>rfl
theorem Js{B:Type}{f:V->DS->PR (List V)}{s:DS}{e:B->V}{g:B->List V}:∀{l:List B},(∀x∈l,f (e x) s=.ok (g x) s)->mapP f (l.map e) s=.ok (l.flatMap g) s
 |[],_=>rfl
 |x::l,h=>by
  rw[bi,mapP,h x<|ai ..];show(match mapP f (l.map e) s with|.ok zs s=>PR.ok (g x++zs) s|_=>.no)=_
  rw[Js λy hy=>h y<|af _ hy];rfl
theorem VS{Q:V->Prop}(h:∀x s,∃y s',f x s=.ok [y] s'/\Q y):∀(l:List V)(s:DS),∃ys s',mapP f l s=.ok ys s'/\ys.length=l.length/\∀y∈ys,Q y
 |[],s=>#[[],s,rfl,rfl,λ_ h=>by cases h]
 |x::l,s=>by
  obtain⟨y,s1,e1,q1⟩:=h x s;obtain⟨ys,s2,e2,l2,q2⟩:=VS h l s1;refine#[y::ys,s2,?_,by rw[aF,aF,l2],λz hz=>?_]
  .rw[mapP,e1]
   show(match mapP f l s1 with|.ok zs s=>PR.ok ([y]++zs) s|_=>.no)=_
   rw[e2];rfl
  .rcases ay.mp hz with rfl|hz
   .exact q1
   .exact q2 z hz
theorem Jr{Z B:Type}{body:V->Env->List Nat->DS->PR FlV}{s:DS}{os:List Nat}{O:Z->Option V->Env}{step:Z->B->Z}{e:B->V}(I:Z->Prop):∀{l:List B}{st:Z}{o:Option V},I st->(∀x∈l,∀st o,I st->I (step st x)/\∃o',body (e x) (O st o) os s=.ok (.nx (O (step st x) o') os) s)->∃o',I (l.foldl step st)/\Wo body (l.map e) (O st o) os s=.ok (.nx (O (l.foldl step st) o') os) s
 |[],st,o,hI,_=>#[o,hI,rfl]
 |x::l,st,o,hI,h=>by
  obtain⟨h1,o1,e1⟩:=h x (ai ..) st o hI;obtain⟨o2,h2,e2⟩:=Jr I h1 λy hy=>h y<|af _ hy
  refine#[o2,h2,?_];rw[bi,Wo,e1];exact e2
noncomputable def X7:Option Nat->V
 |none=>.non
 |some k=>.int k
noncomputable def spV(p n:Nat):V:=.tup [.int p,.int n]
def ZP{a:Int}(h:-4294967296<a)(h':a<4294967296):fits a=al:=by
 refine T5 ?_;have h1:a.natAbs<2^32:=by lia
 exact bg h1<|dy (by decide) (by decide)
def WV{B:Type}{xs:List B}{k:Nat}{x:B}(h:xs[k]?=aa x):at' xs (k:Int)=aa x:=by
 have hk:=(a9.mp h).1;unfold at' ixN;rw[T9 (by lia),T9 (by lia)]
 rw[show(k:Int).toNat=k by lia];exact h
def WN{r:Row}{k:Nat}(hk:k<r.length):at' (r.map V.int) (k:Int)=aa (.int<|gt r k):=by
 refine WV ?_;rw[aH,ag hk];unfold gt;rw[aA,ag hk];rfl
theorem YH{B:Type}{g:B->Bool}:∀l:List B,Yv (l.map λx=>.bl<|g x)=aa (l.map g)
 |[]=>rfl
 |x::l=>by rw[bi,Yv,YH l];rfl
theorem VG{B:Type}{f:V->V->Option Bool}{e:B->V}{d:B->B->Bool}(hd:∀a b,d a b=al↔a=b)(h:∀a b,f (e a) (e b)=aa (d a b)):∀a b:List B,∃c,YE f (a.map e) (b.map e)=aa c/\(c=al↔a=b)
 |[],[]=>#[al,rfl,by simp]
 |[],_::_=>#[am,rfl,by simp]
 |_::_,[]=>#[am,rfl,by simp]
 |x::a,y::b=>by
  obtain⟨c,e1,e2⟩:=VG hd h a b;refine#[d x y&&c,?_,?_]
  .rw[bi,bi,YE,h,e1]
  .rw[aG,hd,e2];simp
def wW(k:Nat)(a b:Row):eqV (k+2) (Zd a) (Zd b)=aa (aj<|a=b):=by
 show YE (eqV<|k+1) (a.map .int) (b.map .int)=_;obtain⟨c,e1,e2⟩:=VG (f:=eqV<|k+1) (e:=V.int) (λa b=>by simp) (λa b=>rfl) a b
 rw[e1,show c=aj (a=b) by rw[bN,e2];simp]
def U6(k:Nat)(a b:List Row):eqV (k+3) (Za a) (Za b)=aa (aj<|a=b):=by
 show YE (eqV<|k+2) (a.map Zd) (b.map Zd)=_;obtain⟨c,e1,e2⟩:=VG (λa b=>by simp) (λa b=>wW k a b) a b
 rw[e1,show c=aj (a=b) by rw[bN,e2];simp]
theorem zX:∀(r o:Row),((r.map V.int).zip<|o.map V.int).map (λq=>V.tup [q.1,q.2])=(r.zip o).map λq=>V.tup [.int q.1,.int q.2]
 |[],_=>rfl
 |_::_,[]=>rfl
 |a::r,b::o=>by rw[bi,bi,b9,bi,b9,bi,zX r o]
theorem Jn:∀r:Row,intsV (r.map V.int)=aa r
 |[]=>rfl
 |a::r=>by show(intsV<|r.map V.int).map (a :: ·)=_;rw[Jn r];rfl
theorem Y5:∀P:List Row,Z1 (P.map Zd)=aa P
 |[]=>rfl
 |r::P=>by
  show(match intsV (r.map V.int),Z1 (P.map Zd)with|some a,aa b=>aa (a::b)|_,_=>ae)=_
  rw[Jn,Y5 P]
theorem XT:∀r:Row,Xe (r.map V.int)=al
 |[]=>rfl
 |a::r=>XT r
def Zc8(n:Nat):ZU 0 n=(aE n).map λ(k:Nat)=>V.int (k:Int):=by
 refine bW λk _=>?_
 simp
def ZX{B:Type}{a:B}{s:DS}:po (aa a) s=.ok a s:=rfl
section
variable{C:ZJ}{cap:List Nat}{nl:Nat}{t:List Nat}{it:W}{elt tst:E}{O:Env}{s:DS}{B:Type}
def ZK{l:List B}{e g:B->V}(hw:pvw C it O s=.ok (l.map e) s)(hl:l.length<=lim)(h:∀x∈l,∃Z,Zp t (e x) (Z8 cap nl O)=aa Z/\pv C elt Z s=.ok (g x) s)(ho:own nl t=al:=by rfl):pv C (.comp1 cap nl t it [] elt) O s=.ok (.lst<|l.map g) s:=by
 rw[pv,T9 ho,hw,Zc,Qn λx hx=>by
  obtain⟨Z,e1,e2⟩:=h x hx;rw[e1,ZX,Zc,pvt,Zc];rw[e2];rfl]
 rw[Zc,T9 (by rw[aq];exact hl)];rfl
def Wl{l:List B}{e g:B->V}{q:B->Bool}(hw:pvw C it O s=.ok (l.map e) s)(hl:l.length<=lim)(h:∀x∈l,∃Z v,Zp t (e x) (Z8 cap nl O)=aa Z/\pv C tst Z s=.ok v s/\Zu v=aa (q x)/\(q x=al->pv C elt Z s=.ok (g x) s))(ho:own nl t=al:=by rfl):pv C (.comp1 cap nl t it [tst] elt) O s=.ok (.lst<|(l.filter q).map g) s:=by
 rw[pv,T9 ho,hw,Zc,Um (q:=q) λx hx=>by
  obtain⟨Z,v,e1,e2,e3,e4⟩:=h x hx;rw[e1,ZX,Zc,pvt,e2,Zc,e3,ZX,Zc];cases c:q x with
  |true=>
   rw[T9 rfl,pvt,Zc,T9 rfl,T9 rfl,e4 c];rfl
  |false=>rw[T8 (by simp),Zc,T8 (by simp),T8 (by simp)]]
 rw[Zc,T9 (by rw[aq];exact cf (h8 ..) hl)];rfl
def UV{β:Type}{u:List Nat}{jt:W}{l:List B}{e:B->V}{m:B->List β}{e2:β->V}{g:B->β->V}(hw:pvw C it O s=.ok (l.map e) s)(hl:(l.flatMap λx=>(m x).map<|g x).length<=lim)
  (h:∀x∈l,∃Z,Zp t (e x) (Z8 cap nl O)=aa Z/\pvw C jt Z s=.ok ((m x).map e2) s/\∀y∈m x,∃σ',Zp u (e2 y) Z=aa σ'/\pv C elt σ' s=.ok (g x y) s)(ho:own2 nl t u=al:=by rfl):pv C (.comp2 cap nl t it [] u jt [] elt) O s=.ok (.lst<|l.flatMap λx=>(m x).map<|g x) s:=by
 rw[pv,T9 ho,hw,Zc,Js λx hx=>by
  obtain⟨Z,e1,e3,e4⟩:=h x hx;rw[e1,ZX,Zc,pvt,Zc,T9 rfl,e3,Zc];exact Qn λy hy=>by
   obtain⟨σ',f1,f2⟩:=e4 y hy;rw[f1,ZX,Zc,pvt,Zc];rw[f2];rfl]
 rw[Zc,T9 hl];rfl
def qu{Q:V->Prop}(hw:pvw C it O s=.ok (ZU 0 k) s)(hl:k<=lim)(h:∀(x:V)(s:DS),∃Z y s',Zp t x (Z8 cap nl O)=aa Z/\pv C elt Z s=.ok y s'/\Q y)(ho:own nl t=al:=by rfl) :
  ∃ys s',pv C (.comp1 cap nl t it [] elt) O s=.ok (.lst ys) s'/\ys.length=k/\∀y∈ys,Q y:=by
 obtain⟨ys,s',e1,e2,e3⟩:=VS (f:=λx s=>(po (Zp t x<|Z8 cap nl O) s).bind λZ s=>(pvt C [] Z s).bind λb s=>if b then(pv C elt Z s).bind λy s=>.ok [y] s else .ok [] s) (λx s=>by
  obtain⟨Z,y,s',f1,f2,f3⟩:=h x s;refine#[y,s',?_,f3];rw[f1,ZX,Zc,pvt,Zc];rw[f2];rfl) (ZU 0 k) s
 have hk:(ZU 0 k).length=k:=by unfold ZU;simp
 refine#[ys,s',?_,by rw[e2,hk],e3]
 rw[pv,T9 ho,hw,Zc,e1,Zc,T9 (by rw[e2,hk];exact hl)];rfl
end
def Ze4{xs:List V}{k:Nat}(h:k<=xs.length):XM xs ae (aa (k:Int))=xs.take k:=by
 show(xs.drop 0).take ((if(k:Int)<0 then((k:Int)+xs.length).toNat else p5 (k:Int).toNat xs.length)-0)=_
 rw[T8 (by lia),show p5 (k:Int).toNat xs.length-0=k by lia];rfl
def yM{xs:List V}{i:Int}{k:Nat}(hi:i=k)(h:k<=xs.length):XM xs (aa i) ae=xs.drop k:=by
 subst hi;show(xs.drop<|if(k:Int)<0 then((k:Int)+xs.length).toNat else p5 (k:Int).toNat xs.length).take (xs.length-(if(k:Int)<0 then((k:Int)+xs.length).toNat else p5 (k:Int).toNat xs.length))=_
 rw[T8 (by lia),show p5 (k:Int).toNat xs.length=k by lia]
 exact cy (by rw[br];lia)
def ZaZ{xs:List V}:XM xs (aa 1) ae=xs.tail:=by
 cases xs with|nil=>rfl|cons x xs=>exact yM rfl (by simp)
noncomputable def Zn(k:Nat):V:=.int k
def UC(n:Nat):ZU 0 n=(aE n).map Zn:=by rw[Zc8];rfl
def Wq(h0:0<=i)(h1:i<1000000):Xb i=al:=by
 unfold Xb;have e:(2:Int)^62=4611686018427387904:=by decide
 rw[e];exact T5 #[by lia,by lia]
def Zq(hf:F[f]?=aa fn)(hne:f≠tk)(hl:vs.length=fn.ps)(h:rvs (Zo F tk d) (muts fn.body) fn.body (ZR fn.ns vs) [] s=.ok (.ret v) s'):Zo F tk (d+1) f vs s=.ok v s':=by
 rw[Qx hf hne hl,h];rfl
def UI(hf:F[f]?=aa fn)(hne:f≠tk)(hl:vs.length=fn.ps)(h:rvs (Zo F tk d) (muts fn.body) fn.body (ZR fn.ns vs) [] s=.ok (.nx O os) s'):Zo F tk (d+1) f vs s=.ok .non s':=by
 rw[Qx hf hne hl,h];rfl
def Zi(h:rv C ms m O os s=.ok (.nx ρ' os') s'):rvs C ms (m::l) O os s=rvs C ms l ρ' os' s':=by rw[rvs,h];rfl
def Zt(h:rv C ms m O os s=.ok (.ret v) s'):rvs C ms (m::l) O os s=.ok (.ret v) s':=by rw[rvs,h];rfl
def ZM(h:pv C e O s=.ok v s'):rv C ms (.ret e) O os s=.ok (.ret v) s':=by rw[rv,h];rfl
def X5(h:pv C (.call f as) O s=.ok v s'):rv C ms (.ex<|.call f as) O os s=.ok (.nx O os) s':=by
 have:rv C ms (.ex<|.call f as) O os s=(pv C (.call f as) O s).bind λ_ s=>.ok (.nx O os) s:=by
  rw[rv]
  all_goals(intro _ _ z;cases z)
 rw[this,h];rfl
def xb{b:Bool}{t:E}{x y:List Sm}(h:Xz C t O s=.ok b s'):rv C ms (.ite t x y) O os s=if b=al then rvs C ms x O os s' else rvs C ms y O os s':=by rw[rv,h];rfl
def GB{v:V}{b:Bool}{t:E}(h:pv C t O s=.ok v s')(hb:Zu v=aa b):Xz C t O s=.ok b s':=by unfold Xz;rw[h,Zc,hb];rfl
def Zk{f:Nat}{as:List E}{vs:List V}{v:V}{s1:DS}(h:pvs C as O s=.ok vs s1)(hc:C f vs s1=.ok v s'):pv C (.call f as) O s=.ok v s':=by rw[pv,h];exact hc
def Zh:pvs C [] O s=.ok [] s:=by rw[pvs]
def Zb{e:E}{es:List E}{v:V}{vs:List V}{s1:DS}(h:pv C e O s=.ok v s1)(h2:pvs C es O s1=.ok vs s'):pvs C (e::es) O s=.ok (v::vs) s':=by rw[pvs,h,Zc,h2];rfl
def Zg{i:Nat}{v:V}(h:O[i]?=aa (aa v)):pv C (.v i) O s=.ok v s:=by rw[pv,h];rfl
def Yp{i:Nat}{e:E}{v:V}(h:pv C e O s=.ok v s')(hm:(ms.contains i&&fresh e)=am):rv C ms (.asg [i] e) O [] s=.ok (.nx (O.set i<|aa v) []) s':=by
 rw[rv];show(pv C e O s).bind _=_;rw[h,Zc,T8 (by rw[hm];simp)];rfl
def Gm{Z B:Type}{t:List Nat}{it:W}{b:List Sm}{L:List B}{e:B->V}{step:Z->B->Z}{O:Z->Option V->Env}{st:Z}{o:Option V}(I:Z->Prop)(hw:pvw C it (hide os<|O st o) s=.ok (L.map e) s)(hI:I st)(ht:(t.any os.contains)=am)
  (h:∀x∈L,∀st o,I st->I (step st x)/\(os.isEmpty||(e x).flat)=al/\∃ρ1 o',Zp t (e x) (O st o)=aa ρ1/\rvs C ms b ρ1 os s=.ok (.nx (O (step st x) o') os) s) :
  ∃o',I (L.foldl step st)/\rv C ms (.forr t it b) (O st o) os s=.ok (.nx (O (L.foldl step st) o') os) s:=by
 obtain⟨o',h1,h2⟩:=Jr (body:=λx O os s=>if(t.any os.contains)=al then .no else(po (Zp t x O) s).bind λO s=>rvs C ms b O os s) (s:=s) (os:=os) (O:=O) (step:=step) (e:=e) I (l:=L) (st:=st) (o:=o) hI (λx hx st o hI=>by
  obtain⟨a,f,ρ1,o',b1,b2⟩:=h x hx st o hI;refine#[a,o',?_];rw[T8 (by rw[ht];simp),b1,ZX,Zc,b2])
 refine#[o',h1,?_];rw[rv,hw,Zc];exact h2
def YA{e:E}{n:Nat}(h:pv C e O s=.ok (.int n) s')(hn:n<1000000):pvw C (.rng1 e) O s=.ok ((aE n).map Zn) s':=by
 rw[pvw,h,Zc];show(if Xb (n:Int)=al then PR.ok (ZU 0 (n:Int).toNat) s' else .no)=_
 rw[T9 (Wq (by lia) (by lia)),fO,UC]
def Vh{Z B:Type}{t:List Nat}{it:W}{b:List Sm}{L:List B}{e:B->V}{step:Z->B->Z}{O:Z->Option V->Env}{st:Z}{o:Option V}(I:List B->Z->Prop)(hw:pvw C it (hide os<|O st o) s=.ok (L.map e) s)(hI:I L st)(ht:(t.any os.contains)=am)
  (h:∀x l st o,I (x::l) st->I l (step st x)/\(os.isEmpty||(e x).flat)=al/\∃ρ1 o',Zp t (e x) (O st o)=aa ρ1/\rvs C ms b ρ1 os s=.ok (.nx (O (step st x) o') os) s) :
  ∃o',I [] (L.foldl step st)/\rv C ms (.forr t it b) (O st o) os s=.ok (.nx (O (L.foldl step st) o') os) s:=by
 rw[rv,hw,Zc];clear hw
 induction L generalizing st o with
 |nil=>exact#[o,hI,rfl]
 |cons x L ih=>
  obtain⟨a,f,ρ1,o',b1,b2⟩:=h x L st o hI;obtain⟨o2,c1,c2⟩:=ih (st:=step st x) (o:=o') a;refine#[o2,c1,?_];rw[bi,Wo,T8 (by rw[ht];simp),b1,ZX,Zc,b2,Zc]
  exact c2
def pvF:(∀a,fresh (.lst a)=al)/\(∀a b,fresh (.bin .mul (.lst a) b)=al)/\(∀b,Zu (.bl b)=aa b)/\(∀i,Zu (.int i)=aa (aj<|i≠0))/\(∀xs,Zu (.tup xs)=aa (!xs.isEmpty))/\(∀xs,Zu (.lst xs)=aa (!xs.isEmpty))/\(Zu .non=aa am)/\(∀xs i,ixV (.tup xs) (.int i)=at' xs i)/\(∀xs i,ixV (.lst xs) (.int i)=at' xs i)/\(∀xs,YN (.tup xs)=aa xs)/\(∀xs,YN (.lst xs)=aa xs)/\(∀x,Wi .len [x]=(YN x).map λxs=>.int xs.length)/\(∀x,Wi .tuple [x]=(YN x).map .tup)/\(∀x,Wi .list [x]=(YN x).map .lst)/\(∀xs,Wi .all [.lst xs]=(Yv xs).map λbs=>.bl<|bs.all id)/\(∀a b,Wi .max2 [.int a,.int b]=aa (.int (if b>a then b else a)))/\(∀a b,Wi .min2 [.int a,.int b]=aa (.int (if b<a then b else a)))/\(∀a,Wi .toInt [.int a]=aa (.int a))/\(∀a,Wi .toInt [.bl a]=aa (.int<|b2i a))/\(∀xs,Wi .sortedR [.lst xs]=(Z1 xs).bind λrs=>if Yq rs=al then aa (.lst<|(ZH rs).reverse.map Zd)else ae)/\(∀a b s,Xi .add (.int a) (.int b) s=.ok (.int<|a+b) s)/\(∀a b s,Xi .sub (.int a) (.int b) s=.ok (.int<|a-b) s)/\(∀a b s,Xi .mul (.int a) (.int b) s=if(fits a&&fits b)=al then .ok (.int<|a*b) s else .no)/\(∀a b s,Xi .mod (.int a) (.int b) s=if 0<b then .ok (.int<|a%b) s else .no)/\(∀a b s,Xi .add (.tup a) (.tup b) s=if a.length+b.length<=lim then .ok (.tup<|a++b) s else .no)/\(∀a b s,Xi .mul (.tup a) (.int b) s=if 0<=b/\b<1000/\a.length<=1000 then .ok (.tup (az b.toNat a).flatten) s else .no)/\(∀a b s,Xi .mul (.lst a) (.int b) s=if 0<=b/\b<1000/\a.length<=1000 then .ok (.lst (az b.toNat a).flatten) s else .no)/\(∀a b s,Xi .add (.lst a) (.lst b) s=if a.length+b.length<=lim then .ok (.lst<|a++b) s else .no)/\(∀x y,YU .eq x y=(eqV Zr x y).map .bl)/\(∀x y,YU .ne x y=(eqV Zr x y).map λb=>.bl !b)/\(∀a b,YU .lt (.int a) (.int b)=aa (.bl<|aj<|a<b))/\(∀a b,YU .gt (.int a) (.int b)=aa (.bl<|aj<|b<a))/\(∀a b,YU .le (.int a) (.int b)=aa (.bl<|aj<|a<=b))/\(∀a b,YU .ge (.int a) (.int b)=aa (.bl<|aj<|b<=a))/\(∀x,YU .is x .non=aa (.bl<|Ue x))/\(∀x,YU .isn x .non=aa (.bl !(Ue x)))/\(∀a b,YU .is (.bl a) (.bl b)=aa (.bl<|aj<|a=b))/\(∀a b,YU .isn (.bl a) (.bl b)=aa (.bl !(aj<|a=b)))/\(∀x y,YU .inn x y=(Vr x y).map .bl)/\(∀x y,YU .nin x y=(Vr x y).map λb=>.bl !b)/\(Ue .non=al)/\(∀b,Ue (.bl b)=am)/\(∀b,Ue (.int b)=am)/\(∀b,Ue (.tup b)=am)/\(∀b,Ue (.lst b)=am)/\(ofD .non=aa .non)/\(∀b,ofD (.bl b)=aa (.bl b))/\(∀b,ofD (.int b)=aa (.int b))/\(∀O,Y7 [] [] O=aa O)/\(∀i t x xs O,Y7 (i::t) (x::xs) O=Y7 t xs (O.set i<|aa x))/\(∀i x O,Zp [i] x O=aa (O.set i<|aa x))/\(∀i j t xs O,Zp (i::j::t) (.tup xs) O=Y7 (i::j::t) xs O)/\(∀i j t xs O,Zp (i::j::t) (.lst xs) O=Y7 (i::j::t) xs O)/\(∀k a b,eqV (k+1) (.int a) (.int b)=aa (aj<|a=b))/\(∀k a b,eqV (k+1) (.bl a) (.bl b)=aa (aj<|a=b))/\(∀k a b,eqV (k+1) (.tup a) (.tup b)=YE (eqV k) a b)/\(∀k a b,eqV (k+1) (.lst a) (.lst b)=if a.length=b.length then YE (eqV k) a b else aa am):=
 #[λ_=>rfl,λ_ _=>rfl,λ_=>rfl,λ_=>rfl,λ_=>rfl,λ_=>rfl,rfl,λ_ _=>rfl,λ_ _=>rfl,λ_=>rfl,λ_=>rfl,λ_=>rfl,λ_=>rfl,λ_=>rfl,λ_=>rfl,λ_ _=>rfl,λ_ _=>rfl,λ_=>rfl,λ_=>rfl,λ_=>rfl,λ_ _ _=>rfl,λ_ _ _=>rfl,λ_ _ _=>rfl,λ_ _ _=>rfl,λ_ _ _=>rfl,λ_ _ _=>rfl,λ_ _ _=>rfl,λ_ _ _=>rfl,λ_ _=>rfl,λ_ _=>rfl,λ_ _=>rfl,λ_ _=>rfl,λ_ _=>rfl,λ_ _=>rfl,λ_=>rfl,λ_=>rfl,λ_ _=>rfl,λ_ _=>rfl,λ_ _=>rfl,λ_ _=>rfl,rfl,λ_=>rfl,λ_=>rfl,λ_=>rfl,λ_=>rfl,rfl,λ_=>rfl,λ_=>rfl,λ_=>rfl,λ_ _ _ _ _=>rfl,λ_ _ _=>rfl,λ_ _ _ _ _=>rfl,λ_ _ _ _ _=>rfl,λ_ _ _=>rfl,λ_ _ _=>rfl,λ_ _ _=>rfl,λ_ _ _=>rfl]
def pvE:=aW (aW (aW (aW (aW (aW pvF @Zc)<|aW @ZX @Xz.eq_1)<|aW (aW @ZR.eq_1 @hide.eq_1)<|aW @Z8.eq_1 @Option.join.eq_1.{0})<|aW (aW (aW @lim.eq_1 @rvs.eq_1)<|aW @rvs.eq_2 @rv.eq_1)<|aW (aW @rv.eq_2 @rv.eq_3)<|aW @rv.eq_4 @rv.eq_5)<|aW (aW (aW (aW @rv.eq_6 @rv.eq_7)<|aW @rv.eq_8 @rv.eq_9)<|aW (aW @rv.eq_10 @rv.eq_11)<|aW @rv.eq_12 @rv.eq_13)<|aW (aW (aW @rv.eq_14 @rv.eq_15)<|aW @rv.eq_16 @rv.eq_17)<|aW (aW @rv.eq_18 @pvA.eq_1)<|aW @pvA.eq_2<|aW @pvs.eq_1 @pvs.eq_2)<|aW (aW (aW (aW (aW @pvo.eq_1 @pvo.eq_2)<|aW @pvt.eq_1 @pvt.eq_2)<|aW (aW @pvw.eq_1 @pvw.eq_2)<|aW @pvw.eq_3 @pvw.eq_4)<|aW (aW (aW @pvw.eq_5 @pvw.eq_6)<|aW @pvw.eq_7 @pv.eq_1)<|aW (aW @pv.eq_2 @pv.eq_3)<|aW @pv.eq_4<|aW @pv.eq_5 @pv.eq_6)<|aW (aW (aW (aW @pv.eq_7 @pv.eq_8)<|aW @pv.eq_9 @pv.eq_10)<|aW (aW @pv.eq_11 @pv.eq_12)<|aW @pv.eq_13 @pv.eq_14)<|aW (aW (aW @pv.eq_15 @pv.eq_16)<|aW @pv.eq_17 @pv.eq_18)<|aW (aW @pv.eq_19 @pv.eq_20)<|aW @pv.eq_21<|aW @pv.eq_22 @pv.eq_23
end Pv
namespace K54
open Ev Pv Rw La
noncomputable abbrev CV(d:Nat):ZJ:=Zo fns 2 d
theorem Je(C:ZJ)(s:DS)(v:V):∀(r:Row)(k:Nat)(a b:Option V),∃a' b',Wo (λx O os s=>if(([1,2]:List Nat).any os.contains)=al then .no else(po (Zp [1,2] x O) s).bind λO s=>rvs C [] [.ite (.cmp .ne (.v 2)<|.c<|.int 0) [.ret<|.v 1] []] O os s)
   (((ZU k r.length).zip<|r.map V.int).map λp=>V.tup [p.1,p.2]) [aa v,a,b] [] s=match hdI r with
    |some m=>.ok (.ret<|.int (k+m:Nat)) s
    |none=>.ok (.nx [aa v,a',b'] []) s
 |[],k,a,b=>#[a,b,rfl]
 |x::r,k,a,b=>by
  have er:ZU k (x::r).length=.int k::ZU (k+1:Nat) r.length:=by
   unfold ZU;rw[aF,lN,bi,bC];refine List.cons_eq_cons.mpr #[by simp,?_]
   .refine bW λj _=>?_
    show V.int ((k:Int)+((j+1:Nat):Int))=V.int (((k+1:Nat):Int)+(j:Int))
    congr 1
    lia
  obtain⟨a',b',ih⟩:=Je C s v r (k+1) (aa<|.int k)<|aa<|.int x;refine#[a',b',?_];rw[er,bi,b9,bi,Wo];by_cases c:x=0
  .subst c
   have e0:hdI (0::r)=(hdI r).map (· + 1):=by rw[hdI,T8 (by simp)]
   have e1:(if(([1,2]:List Nat).any ([]:List Nat).contains)=al then(.no:PR FlV)else(po (Zp [1,2] (V.tup [.int k,.int 0]) [aa v,a,b]) s).bind λO s=>rvs C [] [.ite (.cmp .ne (.v 2)<|.c<|.int 0) [.ret<|.v 1] []] O [] s)=.ok (.nx [aa v,aa<|.int k,aa<|.int 0] []) s:=by
    simp[pvE,Zr]
   rw[e1,Zc,e0];show Wo _ _ [aa v,aa<|.int k,aa<|.int 0] [] s=_;rw[ih];cases hdI r with|none=>rfl|some m=>show PR.ok (FlV.ret<|.int ((k+1+m:Nat):Int)) s=PR.ok (FlV.ret<|.int ((k+(m+1):Nat):Int)) s;congr 3;lia
  .have e0:hdI (x::r)=aa 0:=by rw[hdI,T9 c]
   have e1:(if(([1,2]:List Nat).any ([]:List Nat).contains)=al then(.no:PR FlV)else(po (Zp [1,2] (V.tup [.int k,.int x]) [aa v,a,b]) s).bind λO s=>rvs C [] [.ite (.cmp .ne (.v 2)<|.c<|.int 0) [.ret<|.v 1] []] O [] s)=.ok (.ret<|.int k) s:=by
    simp[pvE,Zr,c]
   rw[e1,Zc,e0];rfl
def XR(d:Nat)(r:Row)(s:DS):CV (d+1) 6 [Zd r] s=.ok (X7<|hdI r) s:=by
 rw[CV,Qx rfl (by decide) rfl]
 obtain⟨a,b,e⟩:=Je (Zo fns 2 d) s (Zd r) r 0 ae ae;show((rv _ [] (.forr [1,2] (.enum<|.v 0) _) [aa<|Zd r,ae,ae] [] s).bind _).bind _=_;have e2:rv (Zo fns 2 d) [] (.forr [1,2] (.enum<|.v 0) [.ite (.cmp .ne (.v 2)<|.c<|.int 0) [.ret<|.v 1] []]) [aa<|Zd r,ae,ae] [] s=match hdI r with
    |some m=>.ok (.ret<|.int (m:Nat)) s
    |none=>.ok (.nx [aa<|Zd r,a,b] []) s:=by
  rw[rv];have ew:pvw (Zo fns 2 d) (.enum<|.v 0) (hide [] [aa<|Zd r,ae,ae]) s=.ok (((ZU 0 r.length).zip<|r.map V.int).map λp=>V.tup [p.1,p.2]) s:=by
   simp[pvE,Zd]
  rw[ew,Zc];simp only[g7,Int.natCast_zero]at e;exact e
 rw[e2];cases hdI r with|none=>rfl|some m=>rfl
section
variable{p n:Nat}[Base p]
def Vt:(p:Int)<=5/\(2:Int)<=p:=by rcases(inferInstance:Base p).b with e|e|e<;>subst e<;>decide
theorem WT(d:Nat){r o:Row}{k:Int}(s:DS)(hn:n<=6)(hr:Zf p n r)(ho:Zf p n o)(hk:-1000<k/\k<1000):CV (d+1) 4 [.int p,Zd r,Zd o,.int k] s=.ok (Zd<|Zj p r o k) s:=by
 rw[CV,Qx rfl (by decide) rfl]
 have hp:=Vt (p:=p);have hc:=ZK (C:=Zo fns 2 d) (cap:=[3,0]) (nl:=2) (t:=[0,1]) (it:=.zip (.v 1)<|.v 2) (elt:=.bin .mod (.bin .add (.v 0)<|.bin .mul (.v 2)<|.v 1)<|.v 3) (O:=[aa<|.int p,aa<|Zd r,aa<|Zd o,aa<|.int k]) (s:=s) (l:=r.zip o) (e:=λq=>V.tup [.int q.1,.int q.2]) (g:=λq=>V.int<|(q.1+k*q.2)%p)
  (by simp[pvE,Zd,zX]) (by rw[gv,hr.1,ho.1];unfold lim;lia) (λq hq=>by
   have h2:=ho.2 q.2 (fI hq).2;refine#[_,rfl,?_];have f1:=ZP (a:=k) (by lia) (by lia)
   have f2:=ZP (a:=q.2) (by lia) (by lia)
   have hp0:0<p:=by lia
   simp[pvE,f1,f2,hp0])
 have e:(r.zip o).map (λq=>V.int<|(q.1+k*q.2)%p)=(Zj p r o k).map V.int:=by
  unfold Zj;rw[<-fb,bC];rfl
 simp[Ve,pvE,hc,e];rfl
theorem vM(d:Nat){r o:Row}{h:Nat}(s:DS)(hn:n<=6)(hr:Zf p n r)(ho:Zf p n o)(hh:h<n):CV (d+2) 5 [.int p,Zd r,Zd o,.int h] s=.ok (Zd<|clr p r o h) s:=by
 rw[CV,Qx rfl (by decide) rfl]
 have hg:=YL ppos hr h;have hp:=Vt (p:=p);have e:=WT d (k:=-(gt r h)) s hn hr ho #[by lia,by lia]
 have e2:=WN (by rw[hr.1];exact hh)
 simp only[CV]at e;simp[Ju,pvE,Zd,e2];simp only[Zd]at e;rw[e];simp[pvE,clr]
theorem Zgu(d:Nat){r:Row}{k:Int}(s:DS)(hn:n<=6)(hr:Zf p n r)(hk:-1000<k/\k<1000):CV (d+1) 8 [.int p,Zd r,.int k] s=.ok (Zd<|X9 p r k) s:=by
 rw[CV,Qx (fn:=GY) rfl (by decide) rfl]
 have hp:=Vt (p:=p);have hc:=ZK (C:=Zo fns 2 d) (cap:=[2,0]) (nl:=1) (t:=[0]) (it:=.of<|.v 1) (elt:=.bin .mod (.bin .mul (.v 1)<|.v 0)<|.v 2) (O:=[aa<|.int p,aa<|Zd r,aa<|.int k]) (s:=s) (l:=r) (e:=V.int) (g:=λq=>V.int<|k*q%p)
  (by simp[pvE,Zd]) (by rw[hr.1];unfold lim;lia) (λq hq=>by
   have h2:=hr.2 q hq;refine#[_,rfl,?_];have f1:=ZP (a:=k) (by lia) (by lia)
   have f2:=ZP (a:=q) (by lia) (by lia)
   have hp0:0<p:=by lia
   simp[pvE,f1,f2,hp0])
 simp[GY,pvE,hc];simp[Zd,X9]
def GT(C:ZJ)(m:Nat){q a k:Int}(s:DS)(hq:0<q)(f1:fits a=al)(f2:fits k=al):XC (Xz C<|.cmp .ne (.bin .mod (.bin .mul (.v 2)<|.v 1)<|.v 0)<|.c<|.int 1) (rvs C [] [.aug 2 .add<|.c<|.int 1]) (m+1) [aa<|.int q,aa<|.int a,aa<|.int k] [] s =
  if k*a%q=1 then .ok (.nx [aa<|.int q,aa<|.int a,aa<|.int k] []) s else XC (Xz C<|.cmp .ne (.bin .mod (.bin .mul (.v 2)<|.v 1)<|.v 0)<|.c<|.int 1) (rvs C [] [.aug 2 .add<|.c<|.int 1]) m [aa<|.int q,aa<|.int a,aa<|.int<|k+1] [] s:=by
 rw[XC];by_cases c:k*a%q=1<;>simp[pvE,f1,f2,hq,Zr,c,ZgB]
theorem Zc3(d:Nat){a:Int}(s:DS)(ha:0<a/\a<p):CV (d+1) 9 [.int p,.int a] s=.ok (.int<|UY p a) s:=by
 rw[CV,Qx (fn:=Jx) rfl (by decide) rfl]
 generalize Zo fns 2 d=C;have fs:∀k:Int,0<=k->k<=5->fits k=al:=λk h0 h1=>ZP (by lia) (by lia)
 have hp:=Vt (p:=p);have fa:=fs a (by lia) (by lia)
 have key:XC (Xz C<|.cmp .ne (.bin .mod (.bin .mul (.v 2)<|.v 1)<|.v 0)<|.c<|.int 1) (rvs C [] [.aug 2 .add<|.c<|.int 1]) (996+1+1+1+1) [aa<|.int p,aa<|.int a,aa<|.int 1] [] s=.ok (.nx [aa<|.int p,aa<|.int a,aa<|.int<|UY p a] []) s:=by
  rw[GT C _ s (by lia) fa (fs 1 (by lia) (by lia)),GT C _ s (by lia) fa (fs (1+1) (by lia) (by lia)),GT C _ s (by lia) fa (fs (1+1+1) (by lia) (by lia)),GT C _ s (by lia) fa<|fs (1+1+1+1) (by lia) (by lia)]
  rcases(inferInstance:Base p).b with e|e|e<;>subst e
  .have:a=1:=by lia
   subst this;rfl
  .have:a=1\/a=2:=by lia
   rcases this with e|e<;>subst e<;>rfl
  .have:a=1\/a=2\/a=3\/a=4:=by lia
   rcases this with e|e|e|e<;>subst e<;>rfl
 have e:rv C [] (.whl (.cmp .ne (.bin .mod (.bin .mul (.v 2)<|.v 1)<|.v 0)<|.c<|.int 1) [.aug 2 .add<|.c<|.int 1]) [aa<|.int p,aa<|.int a,aa<|.int 1] [] s=.ok (.nx [aa<|.int p,aa<|.int a,aa<|.int<|UY p a] []) s:=by
  rw[rv];exact key
 show((rvs C [] (.asg [2] (.c<|.int 1) :: .whl _ _ :: .ret (.v 2)::[]) [aa<|.int p,aa<|.int a,ae] [] s).bind _)=_;have e1:rv C [] (.asg [2]<|.c<|.int 1) [aa<|.int p,aa<|.int a,ae] [] s=.ok (.nx [aa<|.int p,aa<|.int a,aa<|.int 1] []) s:=by simp[pvE]
 rw[rvs,e1,Zc];show((rvs C [] (.whl _ _ :: .ret (.v 2)::[]) [aa<|.int p,aa<|.int a,aa<|.int 1] [] s).bind _)=_;rw[rvs,e,Zc];simp[pvE]
end
section
variable{p n:Nat}[Base p]
def Z6(C:ZJ)(ms:List Nat){i j:Nat}{O:Env}{os:List Nat}{s:DS}{e:E}(h:pvA C e O os s=.ok (spV p n) s)(ho:os.contains i=am/\os.contains j=am):rv C ms (.asg [i,j] e) O os s=.ok (.nx ((O.set i<|aa<|.int p).set j<|aa<|.int n) os) s:=by
 rw[rv,h,Zc,T8 (by simpa using ho)]
 .rfl
 .simp
def JZ(d:Nat){P:List Row}{r:Row}(s:DS)(hn:n<=6)(hP:pZ p n P)(hr:Zf p n r):CV (d+3) 7 [spV p n,Za P,Zd r] s=.ok (Zd<|Zl p P r) s:=by
 refine Zq rfl (by decide) rfl ?_
 show rvs (CV<|d+2) [] (.asg [3,4] (.v 0) :: .asg [5] (.v 2) :: .forr [6] (.of<|.v 1) [.asg [5]<|.call 5 [(.v 3),(.v 5),(.v 6),(.call 6 [(.v 6)])]] :: .ret (.v 5)::[]) [aa<|spV p n,aa<|Za P,aa<|Zd r,ae,ae,ae,ae] [] s=_;rw[Zi<|Z6 (p:=p) (n:=n) _ _ (by simp[pvE]) (by simp)]
 rw[Zi (ρ':=[aa<|spV p n,aa<|Za P,aa<|Zd r,aa<|.int p,aa<|.int n,aa<|Zd r,ae]) (os':=[]) (s':=s) (by simp[pvE])]
 obtain⟨o',hI,e⟩:=Gm (C:=CV<|d+2) (ms:=[]) (t:=[6]) (it:=.of<|.v 1) (b:=[.asg [5]<|.call 5 [(.v 3),(.v 5),(.v 6),(.call 6 [(.v 6)])]]) (L:=P) (e:=Zd) (step:=λst o=>clr p st o<|(hdI o).getD 0) (O:=λst o=>[aa<|spV p n,aa<|Za P,aa<|Zd r,aa<|.int p,aa<|.int n,aa<|Zd st,o]) (os:=[]) (s:=s) (Zf p n) (by simp[pvE,Za]) hr rfl (λx hx st o hst=>by
  have hx':=hP.row x hx;obtain⟨k,hk,hkn,_⟩:=hP.head fld.one0 hx;refine#[Ze hst hx',rfl,_,aa<|Zd x,rfl,?_];have e1:=XR (d+1) x s;have e2:=vM d s hn hst hx' hkn;rw[hk]at e1;simp only[X7]at e1;have e3:=e1;simp[pvE,e3,e2,hk])
 rw[Zi e];exact Zt<|ZM (by simp[pvE,Zl])
theorem dsum{P:List Row}(hP:pZ p n P):P.length<=n:=by
 have:=WA fld hP.pn;rw[Xq]at this;lia
theorem ZcR(d:Nat){P:List Row}{r:Row}(s:DS)(hn:n<=6)(hP:pZ p n P)(hr:Zf p n r):CV (d+4) 10 [spV p n,Za P,Zd r] s=.ok (Za<|Xu p P r) s:=by
 refine Zq (fn:=Ws) rfl (by decide) rfl ?_
 show rvs (CV<|d+3) [] Ws.body [aa<|spV p n,aa<|Za P,aa<|Zd r,ae,ae,ae,ae,ae,ae] [] s=_
 dsimp only[Ws]
 obtain⟨l1,l2⟩:=UB hP.row hP.pn.rf hr;have hw:=(W3 hP hr).1;rw[Zi<|Z6 (p:=p) (n:=n) _ _ (by simp[pvE]) (by simp)]
 have e1:=JZ d s hn hP hr;rw[Zi (ρ':=[aa<|spV p n,aa<|Za P,aa<|Zd r,aa<|.int p,aa<|.int n,aa<|Zd<|Zl p P r,ae,ae,ae]) (os':=[]) (s':=s) (by simp[pvE,e1])]
 have e2:=XR (d+2) (Zl p P r) s;rw[Zi (ρ':=[aa<|spV p n,aa<|Za P,aa<|Zd r,aa<|.int p,aa<|.int n,aa<|Zd<|Zl p P r,aa<|X7<|hdI<|Zl p P r,ae,ae]) (os':=[]) (s':=s) (by simp[pvE,e2])]
 cases q:hdI (Zl p P r)with
 |none=>
  refine Zt ?_;have:Xu p P r=P:=by unfold Xu;rw[q]
  simp[pvE,X7,this]
 |some h=>
  obtain⟨h1,h2,h3⟩:=Z9 q;rw[l1.1]at h2;have hg:=YL ppos l1 h;have hp:=Vt (p:=p);have hwid:Xu p P r=(ZH<|P.map (λo=>clr p o (lead p (Zl p P r) h) h)++[lead p (Zl p P r) h]).reverse:=by unfold Xu;rw[q]
  rw[Zi (ρ':=[aa<|spV p n,aa<|Za P,aa<|Zd r,aa<|.int p,aa<|.int n,aa<|Zd<|Zl p P r,aa<|.int h,ae,ae]) (os':=[]) (s':=s) (by simp[pvE,X7])]
  have e3:=Zc3 (p:=p) (d+2) (a:=gt (Zl p P r) h) s #[by lia,hg.2]
  have hi:-1000<UY p (gt (Zl p P r) h)/\UY p (gt (Zl p P r) h)<1000:=by
   unfold UY
   repeat' split
   all_goals lia
  have e4:=Zgu (p:=p) (d+2) s hn l1 hi;have e5:=WN (r:=Zl p P r) (k:=h) (by rw[l1.1];exact h2)
  have hl:Zf p n (lead p (Zl p P r) h):=JR l1;rw[Zi (ρ':=[aa<|spV p n,aa<|Za P,aa<|Zd r,aa<|.int p,aa<|.int n,aa<|Zd<|Zl p P r,aa<|.int h,aa<|Zd<|lead p (Zl p P r) h,ae]) (os':=[]) (s':=s) (by
   have e6:pv (CV<|d+3) (.call 8 [(.v 3),(.v 5),(.call 9 [(.v 3),(.ix (.v 5)<|.v 6)])]) [aa<|spV p n,aa<|Za P,aa<|Zd r,aa<|.int p,aa<|.int n,aa<|Zd<|Zl p P r,aa<|.int h,ae,ae] s=.ok (Zd<|lead p (Zl p P r) h) s:=by
    refine Zk (vs:=[.int p,Zd<|Zl p P r,.int<|UY p<|gt (Zl p P r) h]) (s1:=s) ?_ e4;have e7:pv (CV<|d+3) (.call 9 [(.v 3),(.ix (.v 5)<|.v 6)]) [aa<|spV p n,aa<|Za P,aa<|Zd r,aa<|.int p,aa<|.int n,aa<|Zd<|Zl p P r,aa<|.int h,ae,ae] s=.ok (.int<|UY p<|gt (Zl p P r) h) s:=by
     refine Zk (vs:=[.int p,.int<|gt (Zl p P r) h]) (s1:=s) ?_ e3;simp[pvE,Zd,e5]
    exact Zb (Zg rfl)<|Zb (Zg rfl)<|Zb e7 Zh
   rw[rv];show(pv _ _ _ _).bind _=_;rw[e6];rfl)]
  have hc:=ZK (C:=CV<|d+3) (cap:=[3,7,6]) (nl:=1) (t:=[0]) (it:=.of<|.v 1) (elt:=.call 5 [(.v 1),(.v 0),(.v 2),(.v 3)]) (O:=[aa<|spV p n,aa<|Za P,aa<|Zd r,aa<|.int p,aa<|.int n,aa<|Zd<|Zl p P r,aa<|.int h,aa<|Zd<|lead p (Zl p P r) h,ae]) (s:=s) (l:=P) (e:=Zd) (g:=λo=>Zd<|clr p o (lead p (Zl p P r) h) h)
   (by simp[pvE,Za]) (by have:=dsum hP;unfold lim;lia) (λo ho=>#[_,rfl,by
    have:=vM (p:=p) (d+1) (h:=h) s hn (hP.row o ho) hl h2;simp[pvE,this]])
  rw[Zi (ρ':=[aa<|spV p n,aa<|Za P,aa<|Zd r,aa<|.int p,aa<|.int n,aa<|Zd<|Zl p P r,aa<|.int h,aa<|Zd<|lead p (Zl p P r) h,aa<|.lst<|P.map λo=>Zd<|clr p o (lead p (Zl p P r) h) h]) (os':=[]) (s':=s) (by simp[pvE,hc])]
  refine Zt<|ZM ?_;have ea:(P.map λo=>Zd<|clr p o (lead p (Zl p P r) h) h)++[Zd<|lead p (Zl p P r) h]=((P.map λo=>clr p o (lead p (Zl p P r) h) h)++[lead p (Zl p P r) h]).map Zd:=by rw[bP,bC];rfl
  have hs:Yq ((P.map λo=>clr p o (lead p (Zl p P r) h) h)++[lead p (Zl p P r) h])=al:=by
   have hlen:((P.map λo=>clr p o (lead p (Zl p P r) h) h)++[lead p (Zl p P r) h]).length=P.length+1:=by simp
   have hnd:((P.map λo=>clr p o (lead p (Zl p P r) h) h)++[lead p (Zl p P r) h]).Nodup:=by
    have h5:=Uh hw.falls;rw[hwid]at h5;exact((Sd.Xc _).nodup_iff).mp<|((dF _).nodup_iff).mp h5
   have hd:=dsum hP;unfold Yq;rw[T5 (by rw[hlen];lia),T5 hnd]
   rw[aG];refine#[rfl,aX.mpr λx hx=>?_]
   have:x.length=n:=by
    rcases bM.mp hx with z|z
    .obtain⟨o,ho,rfl⟩:=aC.mp z
     exact(Ze (hP.row o ho) hl).1
    .rw[aQ.mp z];exact hl.1
   cases x with|nil=>simp at this;lia|cons _ _=>rfl
  have hlen2:P.length+1<=16777216:=by have:=dsum hP;lia
  simp[pvE,hlen2];rw[ea,Y5];simp[pvE,hs,hwid,Za,fY]
def Xh(d:Nat){P R:List Row}{v:V}(s:DS)(hn:n<=6)(hP:pZ p n P)(hR:∀r∈R,Zf p n r)(hv:YN v=aa (R.map Zd)):CV (d+5) 11 [spV p n,Za P,v] s=.ok (Za<|Zz p P R) s:=by
 refine Zq (fn:=Yj) rfl (by decide) rfl ?_
 show rvs (CV<|d+4) [] Yj.body [aa<|spV p n,aa<|Za P,aa v,ae,ae] [] s=_
 dsimp only[Yj]
 rw[Zi (ρ':=[aa<|spV p n,aa<|Za P,aa v,aa<|Za P,ae]) (os':=[]) (s':=s) (by simp[pvE])]
 obtain⟨o',hI,e⟩:=Gm (C:=CV<|d+4) (ms:=[]) (t:=[4]) (it:=.of<|.v 2) (b:=[.asg [3]<|.call 10 [(.v 0),(.v 3),(.v 4)]]) (L:=R) (e:=Zd) (step:=Xu p) (O:=λst o=>[aa<|spV p n,aa<|Za P,aa v,aa<|Za st,o]) (st:=P) (o:=ae) (os:=[]) (s:=s) (pZ p n) (by show pvw (CV<|d+4) (.of<|.v 2) [aa<|spV p n,aa<|Za P,aa v,aa<|Za P,ae] s=_;rw[pvw,pv];show po (YN v) s=_;rw[hv];rfl) hP rfl (λx hx st o hst=>by
  have hx':=hR x hx;refine#[(W3 hst hx').1,rfl,_,aa<|Zd x,rfl,?_];have e2:=ZcR d s hn hst hx';simp[pvE,e2])
 rw[Zi e];exact Zt<|ZM (by simp[pvE,Zz])
end
end K54
namespace Rw
open La
open Ev (ltI Xj ZH)
section
variable{p n:Nat}[Base p]
def pP{P:List Row}(hP:pZ p n P):pZ p n (Ye p n P):=(Yw hP).1
def Vd{P:List Row}(hP:pZ p n P):Ye p n (Ye p n P)=P:=by
 refine G4 (pP<|pP hP).row hP.row ?_;rw[(Yw<|pP hP).2,(Yw hP).2,VM fld hP.pn]
def XH{P:List Row}(hP:pZ p n P):(Ye p n P).length+P.length=n:=by
 have:=WA (inv:=Uz p) fld hP.pn;rw[<-(Yw hP).2,Xq,Xq]at this;exact this
def xg{P Q:List Row}(hP:pZ p n P)(hQ:pZ p n Q):WL p n (Ye p n P) (Ye p n Q)=Ye p n (Zz p P Q):=by
 unfold WL;rw[Vd hP,Vd hQ]
theorem JL:∀l:List Row,(ZH l).length=l.length
 |[]=>rfl
 |x::r=>by
  show(Xj x<|ZH r).length=_;have:∀l:List Row,(Xj x l).length=l.length+1:=λl=>by
   induction l with
   |nil=>rfl
   |cons y l ih=>
    unfold Xj;split
    .rfl
    .rw[aF,ih];rfl
  rw[this,JL r];rfl
def Gw(P:List Row)(r:Row):P.length<=(Xu p P r).length:=by
 unfold Xu;split
 .exact aM _
 .rw[List.length_reverse,JL,ba,aq];simp
theorem zG:∀(rs P:List Row),P.length<=(Zz p P rs).length
 |[],P=>aM _
 |r::rs,P=>cf (Gw P r)<|zG rs<|Xu p P r
def ZbI{P Q:List Row}(hP:pZ p n P)(hQ:pZ p n Q)(h:P.all (ZQ p Q)=al):P.length<=Q.length:=by
 have e:=yE hP hQ<|(Qq hP hQ).mp h;have:=zG (p:=p) Q P;rw[e]at this;exact this
noncomputable def Xl(p:Nat)(rs:List Row):List Row:=rs.flatMap λr=>(aE p).map λ(k:Nat)=>r++[(k:Int)]
noncomputable def ZT(p n h:Nat):List Row:=(aE<|n-(h+1)).foldl (λrs _=>Xl p rs) [az h 0++[1]]
noncomputable def Yb(P:List Row):Nat:=match P.getLast? with
 |some r=>(hdI r).getD 0+1
 |none=>0
noncomputable def W7(n f:Nat):List Nat:=((aE<|n-f).map (f + ·)).reverse
noncomputable def Q8(p n:Nat)(P:List Row)(st:List Row)(h:Nat):List Row:=if(P.all λr=>aj<|gt r h=0)=al then st++ZT p n h else st
noncomputable def zd(p n:Nat)(P:List Row):List Row:=(W7 n<|Yb P).foldl (Q8 p n P) []
noncomputable def zk(p n:Nat)(Ps:List (List Row)):List (List Row):=Ps.flatMap λP=>(zd p n P).map λr=>P++[r]
noncomputable def ZV(p n:Nat):Nat->List (List Row)
 |0=>[[]]
 |k+1=>zk p n<|ZV p n k
def ZcQ(p h m:Nat)(r:Row):Prop:=∃t:Row,r=az h 0++1::t/\t.length=m/\∀a∈t,0<=a/\a<(p:Int)
theorem ZbU{h m:Nat}{rs:List Row}(H:∀r∈rs,ZcQ p h m r):∀r∈Xl p rs,ZcQ p h (m+1) r:=λr hr=>by
 obtain⟨q,hq,hr⟩:=cG.mp hr;obtain⟨k,hk,rfl⟩:=aC.mp hr;obtain⟨t,rfl,ht,hb⟩:=H q hq;have hk':=aN.mp hk;refine#[t++[(k:Int)],by simp,by simp[ht],λa ha=>?_]
 rcases bM.mp ha with z|z
 .exact hb a z
 .rw[aQ.mp z];exact#[by lia,by lia]
def yF(rs:List Row):(Xl p rs).length=rs.length*p:=by
 unfold Xl;rw[d9];simp only[aq,a7];rw[gx,dG]
theorem z8{h:Nat}:∀(L:List Nat){m:Nat}{rs:List Row},(∀r∈rs,ZcQ p h m r)->(∀r∈L.foldl (λrs _=>Xl p rs) rs,ZcQ p h (m+L.length) r)/\(L.foldl (λrs _=>Xl p rs) rs).length=rs.length*p^L.length
 |[],m,rs,H=>#[H,by simp]
 |_::L,m,rs,H=>by
  obtain⟨a,b⟩:=z8 L<|ZbU H;refine#[λr hr=>?_,?_]
  .have:=a r hr
   rw[show m+1+L.length=m+(L.length+1) by lia]at this
   exact this
  .rw[gp,b,yF,aF,fZ,k9,fD p]
theorem Jf{h:Nat}(hh:h<n):(∀r∈ZT p n h,Zf p n r/\gt r h=1/\∀i,i<h->gt r i=0)/\(ZT p n h).length=p^(n-(h+1)):=by
 have hone:(1:Int)<p:=by rcases(inferInstance:Base p).b with e|e|e<;>subst e<;>decide
 obtain⟨a,b⟩:=z8 (p:=p) (aE<|n-(h+1)) λr hr=>#[[],by rw[aQ.mp hr],rfl,λa ha=>by cases ha]
 refine#[λr hr=>?_,by unfold ZT;rw[b];simp]
 obtain⟨t,rfl,ht,hb⟩:=a r hr;rw[a7]at ht;refine#[#[by simp[ht];lia,λx hx=>?_],?_,λi hi=>?_]
 .rcases bM.mp hx with z|z
  .rw[(gF.mp z).2];exact#[by lia,by lia]
  .rcases ay.mp z with rfl|z
   .exact#[by lia,hone]
   .exact hb x z
 .unfold gt;rw[aA,bh (by simp)];simp
 .unfold gt;rw[aA,bJ (by simpa using hi),bT];simp[hi]
theorem zS{P:List Row}{r:Row}:∀(L:List Nat)(st:List Row),r∈L.foldl (Q8 p n P) st->r∈st\/∃h∈L,(∀q∈P,gt q h=0)/\r∈ZT p n h
 |[],st,hr=>.inl hr
 |h::L,st,hr=>by
  rcases zS L (Q8 p n P st h) hr with z|⟨k,hk,z⟩
  .unfold Q8 at z
   split at z
   .rename_i c
    rcases bM.mp z with z|z
    .exact .inl z
    .exact .inr #[h,ai ..,λq hq=>T6<|aX.mp c q hq,z]
   .exact .inl z
  .exact .inr #[k,af _ hk,z]
theorem WR{f h:Nat}:h∈W7 n f↔f<=h/\h<n:=by
 unfold W7;rw[dv,aC]
 constructor
 .rintro ⟨k,hk,rfl⟩
  have:=aN.mp hk;lia
 .rintro ⟨a,b⟩
  exact#[h-f,aN.mpr (by lia),by lia]
def uG{P:List Row}{r:Row}(hr:r∈zd p n P):∃h,Yb P<=h/\h<n/\(∀q∈P,gt q h=0)/\r∈ZT p n h:=by
 rcases zS _ _ hr with z|⟨h,hh,a,b⟩
 .cases z
 .obtain⟨x,y⟩:=WR.mp hh
  exact#[h,x,y,a,b]
theorem ZaB{P:List Row}(hP:pZ p n P){r:Row}(hr:r∈P):(hdI r).getD 0<Yb P:=by
 have hi:=hP.pn.rf.inc;unfold toP at hi;rw[bD]at hi;unfold Yb;cases e:P.getLast? with
 |none=>rw[kz]at e;rw[e]at hr;cases hr
 |some q=>
  obtain⟨P',rfl⟩:=eO.mp e;show _<(hdI q).getD 0+1;rcases bM.mp hr with z|z
  .have:=(cz.mp hi).2.2 r z q (aQ.mpr rfl)
   simp only at this;lia
  .rw[aQ.mp z];lia
def qO{o l:Row}{j:Nat}(ho:Zf p n o)(hl:Zf p n l)(h:gt o j=0):clr p o l j=o:=by
 refine xj ?_ λk=>?_
 .exact(Ze ho hl).1.trans ho.1.symm
 .unfold clr
  rw[YB ho hl,h];have:=YL ppos ho k;simp only[Int.neg_zero,Int.zero_mul,Int.add_zero];exact cW this.1 this.2
def ZcH{P:List Row}{r:Row}(hP:pZ p n P)(hr:r∈zd p n P):pZ p n (P++[r]):=by
 obtain⟨h,h1,h2,h3,h4⟩:=uG hr;obtain⟨hrow,hone,hzero⟩:=(Jf h2).1 r h4;have:=uM hP hrow h2 hone hzero λq hq=>bg (ZaB hP hq) h1
 have e:P.map (λo=>clr p o r h)=P:=by
  conv=>rhs;rw[<-List.map_id P]
  exact bW λo ho=>qO (hP.row o ho) hrow<|h3 o ho
 rw[e]at this;exact this.1
theorem Xg:∀(k:Nat),∀P∈ZV p n k,pZ p n P/\P.length=k
 |0,P,hP=>by rw[aQ.mp hP];exact#[pZ.nil,rfl]
 |k+1,P,hP=>by
  obtain⟨Q,hQ,hP⟩:=cG.mp hP;obtain⟨r,hr,rfl⟩:=aC.mp hP;obtain⟨a,b⟩:=Xg k Q hQ;exact#[ZcH a hr,by simp[b]]
end
end Rw
namespace Rw
open Ev (ltP ZG Yi)
noncomputable def Zf5(p n:Nat):Bool:=(aE<|n+1).all λk=>aj<|(ZV p n k).length<=1395
noncomputable def zz:List (Nat×Nat):=[(2,1),(2,2),(2,3),(2,4),(3,1),(3,2),(3,3),(5,1),(5,2)]
noncomputable def yQ:List (Nat×Nat):=[(2,5),(2,6),(3,4),(5,3)]
def ZbD:((zz++yQ).all λs=>Zf5 s.1 s.2)=al:=by decide +kernel
open La
section
variable{p n:Nat}[Base p]
def ZcT(hW:pZ p n W)(hr:Zf p n r)(h:∀i,gt r i=0):ZQ p W r=al:=by
 rw[Zs hW hr];have e:toV p r=λ_=>0:=by funext k;exact(Z3 hr).mpr<|h k
 rw[e];exact Yg
def GF(hW:pZ p n W)(hr:r∈W):ZQ p W r=al:=by
 rw[Zs hW<|hW.row r hr];exact YZ hW.pn.rf<|ZY hr
structure Spans(p n:Nat)[NeZero p](R P:List Row):Prop where
 part:pZ p n P
 holds:∀r∈R,ZQ p P r=al
 least:∀W,pZ p n W->(∀r∈R,ZQ p W r=al)->∀r∈P,ZQ p W r=al
end
noncomputable def rise(hs:List Nat):Bool:=(hs.zip hs.tail).all λq=>aj<|q.1<q.2
theorem U7:∀{hs:List Nat},rise hs=al↔hs.Pairwise (· < ·)
 |[]=>by simp[rise]
 |[a]=>by simp[rise]
 |a::b::l=>by
  have ih:=U7 (hs:=b::l);unfold rise at ih ⊢;rw[p0,b9,iw,aG,T0];rw[p0]at ih
  constructor
  .intro#[h1,h2]
   have h3:=ih.mp h2;refine aR.mpr #[λx hx=>?_,h3]
   rcases ay.mp hx with rfl|hx
   .exact h1
   .exact dR h1<|(aR.mp h3).1 x hx
  .intro h
   obtain⟨h1,h2⟩:=aR.mp h;exact#[h1 b<|ai ..,ih.mpr h2]
noncomputable def VT(R:List Row)(i k:Nat):Bool:=aj (gt (R.getD i []) k=1)&&(R.take i++R.drop (i+1)).all λr=>aj<|gt r k=0
noncomputable def Ug(R:List Row):Bool:=(R.all λr=>(hdI r).isSome)&&(rise (Zw R)&&(aE R.length).all λi=>VT R i<|(Zw R).getD i 0)
section
variable{p n:Nat}[Base p]
def GI{R:List Row}{i:Nat}(hi:i<R.length):R.getD i []=R[i]:=by rw[aA,ag hi];rfl
def UT(hi:i<R.length):(Zw R).getD i 0=(hdI R[i]).getD 0:=by
 unfold Zw;rw[aA,aH,ag hi];rfl
def ZeT{R:List Row}{i j:Nat}(hj:j<R.length)(h:j≠i):R[j]∈R.take i++R.drop (i+1):=by
 by_cases c:j<i
 .refine bG _ ?_
  have hl:j<(R.take i).length:=by rw[bq];omega
  rw[<-eZ];exact aV hl
 .refine bm _ ?_
  have hl:j-(i+1)<(R.drop<|i+1).length:=by rw[br];omega
  have e:(R.drop<|i+1)[j-(i+1)]=R[j]:=by rw[dZ];congr 1;omega
  rw[<-e];exact aV hl
def JG{R:List Row}{i:Nat}{r:Row}(h:r∈R.take i++R.drop (i+1)):∃j,∃(hj:j<R.length),j≠i/\R[j]=r:=by
 rcases bM.mp h with z|z
 .obtain⟨j,hj,e⟩:=bw z
  rw[bq]at hj;exact#[j,by omega,by omega,by rw[<-e,eZ]]
 .obtain⟨j,hj,e⟩:=bw z
  rw[br]at hj;exact#[i+1+j,by omega,by omega,by rw[<-e,dZ]]
def YW:ph p 1=1:=by
 rcases(inferInstance:Base p).b with e|e|e<;>subst e<;>rfl
def UL(hr:Zf p n r):toV p r k=1↔gt r k=1:=by
 have hb:=(inferInstance:Base p).b
 constructor
 .intro h
  refine Qd (YL ppos hr k) #[by omega,by omega] ?_
  rw[YW];exact h
 .intro h
  unfold toV;rw[h,YW]
def VQ{R:List Row}(hR:∀r∈R,Zf p n r):Ug R=al↔pZ p n R:=by
 unfold Ug;simp only[aG,aX,aN]
 constructor
 .intro#[h1,h2,h3]
  have hd:∀i (hi:i<R.length),∃k,hdI R[i]=aa k/\gt R[i] k=1/\∀j (hj:j<R.length),j≠i->gt R[j] k=0:=λi hi=>by
   obtain⟨k,hk⟩:=de.mp<|h1 _<|aV hi;have a:=h3 i hi;unfold VT at a;rw[UT hi,GI hi,hk,aG,T0,aX]at a;exact#[k,hk,a.1,λj hj ne=>T6<|a.2 _<|ZeT hj ne]
  have inc:=U7.mp h2;have memP:∀a∈toP p R,∃i,∃(hi:i<R.length),a=((hdI R[i]).getD 0,toV p R[i]):=λa ha=>by
   obtain⟨r,hr,rfl⟩:=aC.mp ha;obtain⟨i,hi,rfl⟩:=bw hr;exact#[i,hi,rfl]
  refine#[hR,#[#[?_,λa ha j hj=>?_,λa ha=>?_,λa ha b hb ne=>?_],λa ha=>?_,λa ha=>?_]]
  .rw[<-Y4 (p:=p)]at inc
   exact bD.mp inc
  .obtain⟨i,hi,rfl⟩:=memP a ha
   obtain⟨k,hk,_,_⟩:=hd i hi;rw[hk]at hj;exact(Z3<|hR _<|aV hi).mpr<|(Z9 hk).2.2 j hj
  .obtain⟨i,hi,rfl⟩:=memP a ha
   obtain⟨k,hk,h,_⟩:=hd i hi;rw[hk];exact(UL<|hR _<|aV hi).mpr h
  .obtain⟨i,hi,rfl⟩:=memP a ha
   obtain⟨j,hj,rfl⟩:=memP b hb;obtain⟨k,hk,_,h⟩:=hd i hi;rw[hk];refine(Z3<|hR _<|aV hj).mpr<|h j hj λe=>?_
   subst e;exact ne rfl
  .obtain⟨i,hi,rfl⟩:=memP a ha
   obtain⟨k,hk,_,_⟩:=hd i hi;rw[hk,<-(hR _<|aV hi).1];exact(Z9 hk).2.1
  .obtain⟨i,hi,rfl⟩:=memP a ha
   exact YO<|hR _<|aV hi
 .intro hP
  have hk:∀r∈R,∃k,hdI r=aa k/\k<n/\toV p r k=1:=λr hr=>hP.head fld.one0 hr
  refine#[λr hr=>?_,U7.mpr ?_,λi hi=>?_]
  .obtain⟨k,e,_⟩:=hk r hr
   rw[e];rfl
  .rw[<-Y4 (p:=p)];exact hP.pn.rf.heads
  .obtain⟨k,e,_,h1⟩:=hk _ (aV hi)
   unfold VT;rw[UT hi,GI hi,e,aG,T0,aX];refine#[(UL<|hR _<|aV hi).mp h1,λr hr=>?_]
   obtain⟨j,hj,ne,rfl⟩:=JG hr;refine T5 ?_;obtain⟨k2,e2,_,_⟩:=hk _<|aV hj;have hh:((hdI R[i]).getD 0,toV p R[i]).1≠((hdI R[j]).getD 0,toV p R[j]).1:=by
    have inc:(Zw R).Pairwise (· < ·):=by rw[<-Y4 (p:=p)];exact hP.pn.rf.heads
    have pw:=bo.mp inc;have li:(Zw R).length=R.length:=by unfold Zw;rw[aq]
    have gi:∀m (hm:m<R.length),(Zw R)[m]'(by omega)=(hdI R[m]).getD 0:=λm hm=>by unfold Zw;rw[iu]
    intro z;have z:=z;rcases Nat.lt_or_gt_of_ne ne with c|c
    .have:=pw j i (by omega) (by omega) c
     rw[gi j hj,gi i hi]at this;omega
    .have:=pw i j (by omega) (by omega) c
     rw[gi j hj,gi i hi]at this;omega
   have:=hP.pn.rf.zer _ (ZY<|aV hi) _ (ZY<|aV hj) hh;rw[e]at this;exact(Z3<|hR _<|aV hj).mp this
end
end Rw
namespace Ab
open Ev Pv
mutual
noncomputable def okV:V->Bool
 |.tup xs=>Ud xs
 |.lst xs=>Ud xs
 |.drw=>am
 |.scr _=>am
 |.dct (aa _)=>am
 |.dow _=>am
 |_=>al
noncomputable def Ud:List V->Bool
 |[]=>al
 |x::xs=>okV x&&Ud xs
end
end Ab
namespace K54
open Ev Pv Rw La
open Ab (okV Ud)
theorem xY:∀{xs:List V},Ud xs=al->∀x∈xs,okV x=al
 |[],_,x,h=>by cases h
 |y::xs,h,x,m=>by
  obtain⟨h1,h2⟩:=(aG _ _).mp h;rcases ay.mp m with rfl|m
  .exact h1
  .exact xY h2 x m
noncomputable def isW(x:V)(lo hi:Int):Bool:=match x with
 |.int i=>aj (lo<=i)&&aj (i<=hi)
 |_=>am
def Zfr{x:V}{lo hi:Int}(h:∀i,x≠.int i):isW x lo hi=am:=by
 cases x with|int i=>exact T7 rfl<|h i|_=>rfl
def ZeX{x:V}(hx:okV x=al):(∃i,x=.int i)\/(∃b,x=.bl b)\/Yz x [.int]=aa am/\∀i,x≠.int i:=by
 cases x with
 |int i=>exact .inl #[i,rfl]
 |bl b=>exact .inr<|.inl #[b,rfl]
 |drw=>cases hx
 |scr _=>cases hx
 |dow _=>cases hx
 |dct o=>cases o with|none=>exact .inr<|.inr #[rfl,nofun]|some _=>cases hx
 |_=>exact .inr<|.inr #[rfl,nofun]
def qL{x:V}(hx:okV x=al):(∃xs,x=.tup xs)\/Yz x [.tuple]=aa am/\∀xs,x≠.tup xs:=by
 cases x with
 |tup xs=>exact .inl #[xs,rfl]
 |drw=>cases hx
 |scr _=>cases hx
 |dow _=>cases hx
 |dct o=>cases o with|none=>exact .inr #[rfl,nofun]|some _=>cases hx
 |_=>exact .inr #[rfl,nofun]
def yZ(d:Nat){x:V}{lo hi:Int}(s:DS)(hx:okV x=al):CV (d+1) 12 [x,.int lo,.int hi] s=.ok (.bl<|isW x lo hi) s:=by
 refine Zq rfl (by decide) rfl ?_
 rcases ZeX hx with⟨i,rfl⟩|⟨b,rfl⟩|⟨ha,no⟩
 .by_cases h:lo<=i
  .simp[Xa,pvE,isW,Yz,X3,h]
  .simp[Xa,pvE,isW,Yz,X3,h]
 .simp[Xa,pvE,isW,Yz,X3]
 .rw[Zfr no]
  simp[Xa,pvE,ha]
noncomputable def Yk(p n:Nat)(x:V):Bool:=match x with
 |.tup xs=>aj (xs.length=n)&&xs.all λv=>isW v 0<|(p:Int)-1
 |_=>am
def Zfg{p n:Nat}{x:V}(h:∀xs,x≠.tup xs):Yk p n x=am:=by
 cases x with|tup xs=>exact T7 rfl<|h xs|_=>rfl
theorem uq{p:Nat}:∀{xs:List V},(xs.all λv=>isW v 0<|(p:Int)-1)=al->∃r:Row,xs=r.map .int/\∀a∈r,0<=a/\a<(p:Int)
 |[],_=>#[[],rfl,λ_ h=>by cases h]
 |x::xs,h=>by
  rw[iw,aG]at h;obtain⟨r,rfl,hr⟩:=uq h.2;cases x with
  |int i=>
   have:=h.1;simp only[isW,aG,T0]at this;refine#[i::r,rfl,λa ha=>?_]
   rcases ay.mp ha with rfl|ha
   .lia
   .exact hr a ha
  |_=>cases h.1
def GK{p n:Nat}{x:V}(h:Yk p n x=al):∃r:Row,x=Zd r/\Zf p n r:=by
 cases x with
 |tup xs=>
  unfold Yk at h;rw[aG,T0]at h;obtain⟨r,rfl,hr⟩:=uq h.2;exact#[r,rfl,by simpa using h.1,hr]
 |_=>cases h
def ZdL{p n:Nat}{r:Row}(hr:Zf p n r):Yk p n (Zd r)=al:=by
 unfold Yk Zd;rw[aG,T0,aq];refine#[hr.1,aX.mpr λv hv=>?_]
 obtain⟨a,ha,rfl⟩:=aC.mp hv;have:=hr.2 a ha;simp only[isW,aG,T0];lia
theorem wP:∀r:Row,Ud (r.map .int)=al
 |[]=>rfl
 |a::r=>wP r
def ZaS(r:Row):okV (Zd r)=al:=wP r
section
variable{p n:Nat}[Base p]
theorem v6(d:Nat){x:V}(s:DS)(hn:n<=6)(hx:okV x=al):CV (d+2) 13 [spV p n,x] s=.ok (.bl<|Yk p n x) s:=by
 refine Zq rfl (by decide) rfl ?_
 dsimp only[yA]
 rw[Zi<|Z6 (p:=p) (n:=n) _ _ (by simp[pvE]) (by simp)]
 rcases qL hx with⟨xs,rfl⟩|⟨ha,no⟩
 ·
  by_cases hl:xs.length=n
  .rw[Zi (ρ':=[aa<|spV p n,aa<|.tup xs,aa<|.int p,aa<|.int n]) (os':=[]) (s':=s) (by simp[pvE,Yz,X3,Zr,hl])]
   refine Zt<|ZM ?_;have hc:=ZK (C:=CV<|d+1) (cap:=[2]) (nl:=1) (t:=[0]) (it:=.of<|.v 1) (elt:=.call 12 [(.v 0),(.c<|.int 0),(.bin .sub (.v 1)<|.c<|.int 1)]) (O:=[aa<|spV p n,aa<|.tup xs,aa<|.int p,aa<|.int n]) (s:=s) (l:=xs) (e:=id) (g:=λv=>V.bl<|isW v 0<|(p:Int)-1)
    (by simp[pvE]) (by unfold lim;lia) (λv hv=>#[_,rfl,by
     have e:=yZ d (lo:=0) (hi:=(p:Int)-1) s<|xY hx v hv;simp[pvE,e]])
   have ht:=YH (g:=λv:V=>isW v 0<|(p:Int)-1) xs
   simp[pvE,hc,ht,Yk,hl]
  .refine Zt ?_
   simp[pvE,Yz,X3,Zr,Yk,hl];lia
 .rw[Zfg no]
  exact Zt (by simp[pvE,ha])
def Zei(d:Nat){r:Row}(s:DS)(hn:n<=6)(hr:Zf p n r):CV (d+2) 13 [spV p n,Zd r] s=.ok (.bl al) s:=by
 have e:=v6 (p:=p) d s hn<|ZaS r;rw[ZdL hr]at e;exact e
def Qc(d:Nat){r:Row}(s:DS)(hn:n<=6)(hr:Zf p n r):CV (d+3) 14 [spV p n,Zd r] s=.ok .non s:=by
 have e:=Zei d s hn hr;refine UI (fn:=WP) (O:=[aa<|spV p n,aa<|Zd r]) (os:=[]) rfl (by decide) rfl ?_
 show rvs (CV<|d+2) [] _ [aa<|spV p n,aa<|Zd r] [] s=_;simp[WP,pvE,e]
theorem uS(d:Nat){hs:List Nat}(s:DS)(hl:hs.length<=1000):CV (d+1) 16 [.lst<|hs.map Zn] s=.ok (.bl<|rise hs) s:=by
 refine Zq rfl (by decide) rfl ?_
 have ez:∀(a b:List Nat),((a.map Zn).zip<|b.map Zn).map (λq=>V.tup [q.1,q.2])=(a.zip b).map λq=>V.tup [Zn q.1,Zn q.2]:=by
  intro a
  induction a with
  |nil=>intro b;rfl
  |cons x a ih=>intro b;cases b with|nil=>rfl|cons y b=>simp only[bi,b9];rw[ih]
 have hc:=ZK (C:=CV d) (cap:=[]) (nl:=2) (t:=[0,1]) (it:=.zip (.v 0)<|.sl (.v 0) (aa<|.c<|.int 1) ae) (elt:=.cmp .lt (.v 0)<|.v 1) (O:=[aa<|.lst<|hs.map Zn]) (s:=s) (l:=hs.zip hs.tail) (g:=λq=>V.bl<|aj<|q.1<q.2)
  (by
   have e1:XM (hs.map Zn) (aa 1) ae=hs.tail.map Zn:=by rw[ZaZ,re]
   simp[pvE,slV,e1];rw[<-re,ez]) (by rw[gv];unfold lim;lia) (λq hq=>#[_,rfl,by simp[pvE,Zn]])
 have ht:=YH (g:=λq:Nat×Nat=>aj<|q.1<q.2)<|hs.zip hs.tail
 simp[Uj,pvE,hc,ht,rise]
theorem x4(d:Nat){R:List Row}{k:Nat}(s:DS)(hl:R.length<=1000)(hk:∀r∈R,k<r.length):CV (d+1) 17 [Za R,.int k] s=.ok (.bl<|R.all λr=>aj<|gt r k=0) s:=by
 refine Zq rfl (by decide) rfl ?_
 have hc:=ZK (C:=CV d) (cap:=[1]) (nl:=1) (t:=[0]) (it:=.of<|.v 0) (elt:=.cmp .eq (.ix (.v 0)<|.v 1)<|.c<|.int 0) (O:=[aa<|Za R,aa<|.int k]) (s:=s) (l:=R) (e:=Zd) (g:=λr=>V.bl<|aj<|gt r k=0)
  (by simp[pvE,Za]) (by unfold lim;lia) (λr hr=>#[_,rfl,by
   have:=WN<|hk r hr;simp[pvE,Zd,this,Zr]])
 have ht:=YH (g:=λr:Row=>aj<|gt r k=0) R
 simp[XN,pvE,hc,ht]
theorem G0(d:Nat){R:List Row}{i k:Nat}(s:DS)(hR:∀r∈R,Zf p n r)(hl:R.length<=1000)(hi:i<R.length)(hk:k<n):CV (d+2) 18 [Za R,Zn i,Zn k] s=.ok (.bl<|VT R i k) s:=by
 refine Zq rfl (by decide) rfl ?_
 show rvs (CV<|d+1) [] Wd.body [aa<|Za R,aa<|.int i,aa<|.int k] [] s=_;have hrow:=hR _<|aV hi;have e1:at' (R.map Zd) (i:Int)=aa (Zd R[i]):=WV (by rw[aH,ag hi];rfl)
 have e2:=WN (by rw[hrow.1];exact hk)
 have e3:=x4 d (R:=R.take i++R.drop (i+1)) s (by rw[ba,bq,br];lia) (λr hr=>by
  obtain⟨j,hj,ne,rfl⟩:=JG hr;rw[(hR _<|aV hj).1];exact hk)
 have c1:XM (R.map Zd) ae (aa (i:Int))=(R.take i).map Zd:=by rw[Ze4 (by rw[aq];lia),List.map_take]
 have c2:XM (R.map Zd) (aa<|(i:Int)+1) ae=(R.drop<|i+1).map Zd:=by rw[yM (k:=i+1) (by lia) (by rw[aq];lia),List.map_drop]
 have g0:pv (CV<|d+1) (.ix (.ix (.v 0)<|.v 1)<|.v 2) [aa<|Za R,aa<|.int i,aa<|.int k] s=.ok (.int<|gt R[i] k) s:=by
  rw[pv,pv,Zg rfl,Zc,Zg rfl,Zc];show((po (at' (R.map Zd) (i:Int)) s).bind _)=_;rw[e1,ZX,Zc,Zg rfl,Zc];show po (at' (R[i].map V.int) (k:Int)) s=_;rw[e2];rfl
 have g1:pv (CV<|d+1) (.cmp .eq (.ix (.ix (.v 0)<|.v 1)<|.v 2)<|.c<|.int 1) [aa<|Za R,aa<|.int i,aa<|.int k] s=.ok (.bl<|aj<|gt R[i] k=1) s:=by
  rw[pv,g0,Zc];simp[pvE,ofD,Zr]
 have g2:pv (CV<|d+1) (.bin .add (.sl (.v 0) ae<|aa<|.v 1)<|.sl (.v 0) (aa<|.bin .add (.v 1)<|.c<|.int 1) ae) [aa<|Za R,aa<|.int i,aa<|.int k] s=.ok (Za<|R.take i++R.drop (i+1)) s:=by
  have c3:(R.take i).length+(R.drop<|i+1).length<=16777216:=by rw[bq,br];lia
  rw[bq,br]at c3;simp[pvE,Za,slV,c1,c2,c3]
 have g3:=Zk (Zb g2<|Zb (Zg (i:=2) rfl) Zh) e3;refine Zt<|ZM ?_;rw[pv,g1,Zc];unfold VT;rw[GI hi];cases aj (gt R[i] k=1)with|true=>exact g3|false=>rfl
theorem wY:∀R:List Row,Xx .non (R.map λr=>X7<|hdI r)=aa (!(R.all λr=>(hdI r).isSome))
 |[]=>rfl
 |r::R=>by
  show(match eqV Zr (X7<|hdI r) .non,Xx .non (R.map λr=>X7<|hdI r)with|some a,aa b=>aa (a||b)|_,_=>ae)=_
  rw[wY R,iw];cases hdI r with|none=>simp[X7,eqV,Zr]|some k=>simp[X7,eqV,Zr]
def yu{R:List Row}(h:(R.all λr=>(hdI r).isSome)=al):R.map (λr=>X7<|hdI r)=(Zw R).map Zn:=by
 unfold Zw;rw[bC];refine bW λr hr=>?_
 obtain⟨k,hk⟩:=de.mp<|aX.mp h r hr;show X7 (hdI r)=Zn ((hdI r).getD 0);rw[hk];rfl
theorem Za6(d:Nat){R:List Row}(s:DS)(hn:n<=6)(hR:∀r∈R,Zf p n r)(hl:R.length<=1000):rvs (CV<|d+2) [] (VW.body.drop 1) [aa<|spV p n,aa<|Za R,ae] [] s=.ok (.ret<|.bl<|Ug R) s:=by
 show rvs _ _ (.asg [2] (.comp1 [] 1 [0] (.of<|.v 1) []<|.call 6 [(.v 0)]) ::
  .ite (.or (.cmp .inn (.c .non)<|.v 2)<|.not<|.call 16 [(.v 2)]) [.ret<|.c<|.bl am] [] ::
  .ret (.blt .all [(.comp1 [1] 2 [0,1] (.enum<|.v 2) []<|.call 18 [(.v 2),(.v 0),(.v 1)])])::[]) _ _ _=_
 have hc2:=ZK (C:=CV<|d+2) (cap:=[]) (nl:=1) (t:=[0]) (it:=.of<|.v 1) (elt:=.call 6 [(.v 0)]) (O:=[aa<|spV p n,aa<|Za R,ae]) (s:=s) (l:=R) (e:=Zd) (g:=λr=>X7<|hdI r)
  (by simp[pvE,Za]) (by unfold lim;lia) (λx hx=>#[_,rfl,by
   have e:=XR (d+1) x s;simp[pvE,e]])
 rw[Zi (ρ':=[aa<|spV p n,aa<|Za R,aa<|.lst<|R.map λr=>X7<|hdI r]) (os':=[]) (s':=s) (by simp[pvE,hc2])]
 have hin:=wY R;unfold Ug;cases hh:R.all λr=>(hdI r).isSome with
 |false=>
  rw[hh]at hin;exact Zt (by simp[pvE,Vr,hin])
 |true=>
  rw[hh]at hin;rw[yu hh]at hin ⊢;have hln:(Zw R).length=R.length:=by unfold Zw;rw[aq]
  have e3:=uS (d+1) (hs:=Zw R) s (by lia)
  cases hr:rise (Zw R)with
  |false=>
   rw[hr]at e3;exact Zt (by simp[pvE,Vr,hin,e3])
  |true=>
  rw[hr]at e3;rw[Zi (ρ':=[aa<|spV p n,aa<|Za R,aa<|.lst<|(Zw R).map Zn]) (os':=[]) (s':=s) (by simp[pvE,Vr,hin,e3])]
  refine Zt<|ZM ?_;have ew:((ZU 0 (Zw R).length).zip<|(Zw R).map Zn).map (λq=>V.tup [q.1,q.2])=(aE R.length).map λi=>V.tup [Zn i,Zn<|(Zw R).getD i 0]:=by
   apply fw
   .simp[ZU,hln]
   .intro i h1 h2
    have h3:i<R.length:=by simpa using h2
    have h4:i<(Zw R).length:=by lia
    simp[ZU,Zn,h4]
  have hc3:=ZK (cap:=[1]) (nl:=2) (t:=[0,1]) (elt:=.call 18 [(.v 2),(.v 0),(.v 1)]) (l:=aE R.length)
   (by
    have:pvw (CV<|d+2) (.enum<|.v 2) [aa<|spV p n,aa<|Za R,aa<|.lst<|(Zw R).map Zn] s=.ok (((ZU 0 ((Zw R).map Zn).length).zip<|(Zw R).map Zn).map λq=>V.tup [q.1,q.2]) s:=by simp[pvE]
    rw[this,aq,ew]) (by rw[a7];unfold lim;lia) (λi hi=>#[_,rfl,by
    have hi':=aN.mp hi;have hk:(Zw R).getD i 0<n:=by
     rw[UT hi'];obtain⟨k,hk⟩:=de.mp<|aX.mp hh _<|aV hi';rw[hk,<-(hR _<|aV hi').1];exact(Z9 hk).2.1
    exact Zk (Zb (Zg rfl)<|Zb (Zg rfl)<|Zb (Zg rfl) Zh)<|G0 d s hR hl hi' hk])
  have ht3:=YH (g:=λi:Nat=>VT R i<|(Zw R).getD i 0)<|aE R.length
  rw[pv,Zb hc3 Zh,Zc];show po ((Yv _).map λbs=>V.bl<|bs.all id) s=_
  rw[ht3];show PR.ok (V.bl<|(mG _ _).all id) s=_;rw[iU];rfl
noncomputable def isP(p n:Nat)(x:V):Bool:=match x with
 |.tup xs=>xs.all (Yk p n)&&match Z1 xs with
  |some R=>Ug R
  |none=>am
 |_=>am
theorem VO:∀{xs:List V},xs.all (Yk p n)=al->∃R:List Row,xs=R.map Zd/\∀r∈R,Zf p n r
 |[],_=>#[[],rfl,λ_ h=>by cases h]
 |x::xs,h=>by
  rw[iw,aG]at h;obtain⟨R,rfl,hR⟩:=VO h.2;obtain⟨r,rfl,hr⟩:=GK h.1;refine#[r::R,rfl,λa ha=>?_]
  rcases ay.mp ha with rfl|ha
  .exact hr
  .exact hR a ha
def Zde{x:V}:isP p n x=al↔∃P,x=Za P/\pZ p n P:=by
 constructor
 .intro h
  cases x with
  |tup xs=>
   unfold isP at h;rw[aG]at h;obtain⟨R,rfl,hR⟩:=VO h.1;have h2:=h.2;rw[Y5]at h2;exact#[R,rfl,(VQ hR).mp h2]
  |_=>cases h
 .rintro ⟨P,rfl,hP⟩
  show(_&&_)=al;rw[aG,Y5];refine#[aX.mpr λv hv=>?_,(VQ hP.row).mpr hP]
  obtain⟨r,hr,rfl⟩:=aC.mp hv;exact ZdL<|hP.row r hr
def Zfk{x:V}(h:∀xs,x≠.tup xs):isP p n x=am:=by
 cases x with|tup xs=>exact T7 rfl<|h xs|_=>rfl
theorem ZaJ(d:Nat){x:V}(s:DS)(hn:n<=6)(hx:okV x=al)(hl:∀xs,x=.tup xs->xs.length<=1000):CV (d+3) 19 [spV p n,x] s=.ok (.bl<|isP p n x) s:=by
 refine Zq rfl (by decide) rfl ?_
 show rvs (CV<|d+2) [] (.ite (.or (.not<|.isi (.v 1) [.tuple])<|.not<|.blt .all [(.comp1 [0] 1 [0] (.of<|.v 1) []<|.call 13 [(.v 1),(.v 0)])]) [.ret<|.c<|.bl am] []::VW.body.drop 1) [aa<|spV p n,aa x,ae] [] s=_;rcases qL hx with⟨xs,rfl⟩|⟨ha,no⟩
 ·
  have hl:=hl xs rfl;have hc1:=ZK (C:=CV<|d+2) (cap:=[0]) (nl:=1) (t:=[0]) (it:=.of<|.v 1) (elt:=.call 13 [(.v 1),(.v 0)]) (O:=[aa<|spV p n,aa<|.tup xs,ae]) (s:=s) (l:=xs) (e:=id) (g:=λv=>V.bl<|Yk p n v)
   (by simp[pvE]) (by unfold lim;lia) (λv hv=>#[_,rfl,by
    have e:=v6 (p:=p) d s hn<|xY hx v hv;simp[pvE,e]])
  have ht:=YH (g:=λv:V=>Yk p n v) xs
  have hpt:Yz (.tup xs) [.tuple]=aa al:=rfl;cases ha:xs.all (Yk p n)with
  |false=>
   have hf:(xs.map λv=>Yk p n v).all id=am:=by rw[iU];exact ha
   refine Zt ?_;simp[pvE,hpt,hc1,ht,isP,ha,hf]
  |true=>
   have hf:(xs.map λv=>Yk p n v).all id=al:=by rw[iU];exact ha
   rw[Zi (ρ':=[aa<|spV p n,aa<|.tup xs,ae]) (os':=[]) (s':=s) (by simp[pvE,hpt,hc1,ht,hf])]
   obtain⟨R,rfl,hR⟩:=VO ha;have e:=Za6 d s hn hR (by simpa using hl)
   have eb:isP p n (.tup<|R.map Zd)=Ug R:=by
    show((R.map Zd).all (Yk p n)&&match Z1 (R.map Zd)with|some R=>Ug R|none=>am)=_
    rw[ha,Y5];rfl
   rw[eb];exact e
 .rw[Zfk no]
  exact Zt (by simp[pvE,ha])
theorem uf:∀P:List Row,Ud (P.map Zd)=al
 |[]=>rfl
 |r::P=>by
  show(okV (Zd r)&&Ud (P.map Zd))=al;rw[ZaS,uf P];rfl
def Zdf(P:List Row):okV (Za P)=al:=uf P
def wu{P:List Row}(hP:pZ p n P):∀xs,Za P=.tup xs->xs.length<=n:=λxs e=>by
 cases e;rw[aq];exact dsum hP
theorem Zci(d:Nat){P:List Row}(s:DS)(hn:n<=6)(hP:pZ p n P):CV (d+3) 19 [spV p n,Za P] s=.ok (.bl al) s:=by
 have e:=ZaJ (p:=p) d s hn (Zdf P) λxs z=>by have:=wu hP xs z;lia
 rw[Zde.mpr #[P,rfl,hP]]at e;exact e
def Y3(d:Nat){P:List Row}(s:DS)(hn:n<=6)(hP:pZ p n P):CV (d+4) 20 [spV p n,Za P] s=.ok .non s:=by
 have e:=Zci (p:=p) d s hn hP;refine UI (O:=[aa<|spV p n,aa<|Za P]) (os:=[]) rfl (by decide) rfl ?_
 simp[Uo,pvE,e]
def X2(d:Nat){P Q:List Row}(s:DS)(hn:n<=6)(hP:pZ p n P)(hQ:pZ p n Q):CV (d+5) 28 [spV p n,Za P,Za Q] s=.ok .non s:=by
 have e1:=Y3 d s hn hP;have e2:=Y3 d s hn hQ;refine UI (O:=[aa<|spV p n,aa<|Za P,aa<|Za Q]) (os:=[]) rfl (by decide) rfl ?_
 simp[Vo,pvE,e1,e2]
def uv{P:List Row}(hP:pZ p n P):P.map (λr=>X7<|hdI r)=(Zw P).map Zn:=yu (aX.mpr λr hr=>by
 obtain⟨k,hk,_⟩:=hP.head fld.one0 hr;rw[hk];rfl)
end
end K54
namespace Rw
open La
open Ev (ltP ZG Yi)
section
variable{p n:Nat}[Base p]
noncomputable def Z7(p:Nat)(P Q:List Row):Bool:=aj<|(Zz p P Q).length=P.length+Q.length
theorem Ua{P Q:List Row}(hP:pZ p n P)(hQ:pZ p n Q):Z7 p P Q=al↔WL p n P Q=[]:=by
 have:=ZdM hP hQ;unfold Z7;rw[T0,<-bU];lia
def zV{P Q:List Row}(hP:pZ p n P)(hQ:pZ p n Q)(h:Z7 p P Q=al){r:Row}(hr:Zf p n r)(h1:ZQ p P r=al)(h2:ZQ p Q r=al)(j:Nat):gt r j=0:=by
 have h3:=(vP hP hQ<|toV p r).mpr #[(Zs hP hr).mp h1,(Zs hQ hr).mp h2];rw[(Ua hP hQ).mp h]at h3;exact(Z3 hr).mp<|wT.mp h3 j
theorem Jy{P Q:List Row}(hP:pZ p n P)(hQ:pZ p n Q)(h:Z7 p P Q=al)(hl:P.length+Q.length=n):Z7 p (Ye p n P) (Ye p n Q)=al:=by
 have e:=xg hP hQ;rw[Ua (pP hP)<|pP hQ];have h1:=XH<|pJ hP hQ;have h2:(Zz p P Q).length=P.length+Q.length:=T6 h;have h3:(Ye p n<|Zz p P Q).length=0:=by lia
 have h4:=bU.mp h3
 first|rw[e];exact h4|rw[<-e];exact h4
variable{k:Nat}
theorem Wa{B:Type}[BEq B][LawfulBEq B]:∀{L A:List B},L.Nodup->(∀x∈L,x∈A)->L.length<=A.length
 |[],_,_,_=>cL _
 |x::L,A,h,hs=>by
  rw[cQ]at h;have h1:=Wa (L:=L) (A:=A.erase x) h.2 λy hy=>(mK (show y≠x from λe=>h.1<|by rw[<-e];exact hy)).mpr<|hs y<|af _ hy
  have h2:=hs x<|ai ..;have h3:=k6 h2;have h4:=lW h2;rw[aF];lia
def Zc7{L:List (List Row)}(h:L.Pairwise λa b=>ltP a b=al)(hn:L.Nodup):ZG ltP L=L:=Sd.YY Sd.Z4 (Sd.Z2 _) (Sd.Yu Sd.Z4 hn) h
end
noncomputable def Uq(p:Nat)(L:List Row)(o:Row):List Row:=(aE p).flatMap λ(k:Nat)=>L.map λr=>Zj p r o (k:Int)
noncomputable def um(p n:Nat)(P:List Row):List Row:=P.foldl (Uq p) [az n 0]
def uK(L:List Row)(o:Row):(Uq p L o).length=L.length*p:=by
 unfold Uq;rw[d9,show((aE p).map λ(k:Nat)=>(L.map λr=>Zj p r o (k:Int)).length)=az p L.length from fw (by simp) λi h1 h2=>by simp,dG,fD]
def Zal(P:List Row):(um p n P).length=p^P.length:=by
 unfold um
 suffices ∀(P L:List Row),(P.foldl (Uq p) L).length=L.length*p^P.length by rw[this];simp
 intro P
 induction P with|nil=>intro L;simp|cons o P ih=>intro L;rw[gp,ih,uK,aF,fZ,k9,fD p]
section
variable{p n:Nat}[Base p]
theorem Y8:Zf p n (az n 0):=#[cg,λa ha=>by
 have:=(inferInstance:Base p).b;rw[lc ha];lia]
def Ge(j:Nat):gt (az n 0) j=0:=by
 unfold gt;rw[aA,bT];split<;>rfl
def qh(hL:∀r∈L,Zf p n r)(ho:Zf p n o):∀r∈Uq p L o,Zf p n r:=λr hr=>by
 obtain⟨k,_,h⟩:=cG.mp hr;obtain⟨q,hq,rfl⟩:=aC.mp h;exact Ze (hL q hq) ho
def Xs(hW:pZ p n W)(hr:Zf p n r)(ho:Zf p n o)(h1:ZQ p W r=al)(h2:ZQ p W o=al):ZQ p W (Zj p r o k)=al:=by
 rw[Zs hW<|Ze hr ho];rw[Zm hr ho];exact YC (ph p k) ((Zs hW hr).mp h1)<|(Zs hW ho).mp h2
theorem wV(hW:pZ p n W):∀{P L:List Row},(∀r∈P,r∈W)->(∀r∈L,Zf p n r/\ZQ p W r=al)->∀r∈P.foldl (Uq p) L,Zf p n r/\ZQ p W r=al
 |[],_,_,h=>h
 |o::P,L,hP,h=>by
  have ho:=hP o<|ai ..;refine wV hW (P:=P) (λr hr=>hP r<|af _ hr) λr hr=>?_
  obtain⟨k,_,h3⟩:=cG.mp hr;obtain⟨q,hq,rfl⟩:=aC.mp h3;exact#[Ze (h q hq).1<|hW.row o ho,Xs hW (h q hq).1 (hW.row o ho) (h q hq).2<|GF hW ho]
theorem ui:∀{P L:List Row}{a r:Row},(∀o∈P,Zf p n o)->a∈L->Zf p n a->Zf p n r->hdI (Zl p P<|Zj p r a<|-1)=ae->r∈P.foldl (Uq p) L
 |[],L,a,r,_,ha,h1,h2,h=>by
  have e:r=a:=Yc h2 h1 (by
   funext j
   have z:=(Z3<|Ze h2 h1).mpr<|XG h j;rw[Zm h2 h1,Yt,YW]at z
   grind)
  rw[e];exact ha
 |o::P,L,a,r,hP,ha,h1,h2,h=>by
  have ho:=hP o<|ai ..
  let x:=Zj p r a<|-1
  have hx:Zf p n x:=Ze h2 h1;have hk:=YL ppos hx<|(hdI o).getD 0;have e:clr p x o ((hdI o).getD 0)=Zj p r (Zj p a o<|gt x<|(hdI o).getD 0) (-1):=Yc (Ze hx ho) (Ze h2<|Ze h1 ho) (by
   rw[Vn hx ho,Zm h2<|Ze h1 ho,Zm h1 ho]
   funext j
   show toV p (Zj p r a<|-1) j-toV p x ((hdI o).getD 0)*toV p o j=toV p r j+ph p (-1)*(toV p a j+toV p x ((hdI o).getD 0)*toV p o j);rw[Zm h2 h1,Yt,YW]
   grind)
  refine ui (P:=P) (λq hq=>hP q<|af _ hq) (cG.mpr #[(gt x<|(hdI o).getD 0).toNat,aN.mpr (by lia),aC.mpr #[a,ha,by rw[mY hk.1]]]) (Ze h1 ho) h2 ?_
  rw[<-e];exact h
theorem y4(hP:pZ p n P):r∈um p n P↔Zf p n r/\ZQ p P r=al:=by
 constructor
 .exact wV hP (λ_ h=>h) (λq hq=>by rw[aQ.mp hq];exact#[Y8,ZcT hP Y8 Ge]) r
 .intro#[h1,h2]
  refine ui hP.row (aQ.mpr rfl) Y8 h1 ?_;have e:Zj p r (az n 0) (-1)=r:=Yc (Ze h1 Y8) h1 (by
   rw[Zm h1 Y8]
   funext j
   rw[(Z3 Y8).mpr<|Ge j]
   grind)
  rw[e];exact kx.mp h2
theorem zf:∀{P L:List Row},(∀o∈P,Zf p n o/\gt o ((hdI o).getD 0)=1)->(P.Pairwise λo q=>gt o ((hdI q).getD 0)=0)->(∀r∈L,Zf p n r/\∀o∈P,gt r ((hdI o).getD 0)=0)->L.Nodup->(P.foldl (Uq p) L).Nodup
 |[],_,_,_,_,h=>h
 |o::P,L,hP,hz,hL,h=>by
  obtain⟨ho,h1⟩:=hP o<|ai ..;obtain⟨z1,z2⟩:=aR.mp hz;have hp:=(inferInstance:Base p).b;refine zf (P:=P) (λq hq=>hP q<|af _ hq) z2 (λr hr=>#[qh (λr hr=>(hL r hr).1) ho r hr,λq hq=>?_]) ?_
  .obtain⟨k,_,h3⟩:=cG.mp hr
   obtain⟨s,hs,rfl⟩:=aC.mp h3;rw[YB (hL s hs).1 ho,(hL s hs).2 q<|af _ hq,z1 q hq];simp
  .have at_:∀(k:Nat) r,k<p->r∈L->gt (Zj p r o (k:Int)) ((hdI o).getD 0)=k:=λk r hk hr=>by
    rw[YB (hL r hr).1 ho,(hL r hr).2 o<|ai ..,h1,Int.zero_add,Int.mul_one,cW (by lia) (by lia)]
   refine mr.mpr #[λk hk=>?_,?_]
   .refine bD.mpr (h.imp_of_mem λ{a b} ha hb ne e=>ne<|Yc (hL a ha).1 (hL b hb).1 ?_)
    have q:=congrArg (toV p) e;rw[Zm (hL a ha).1 ho,Zm (hL b hb).1 ho]at q
    funext j
    have:=congrFun q j
    grind
   .refine fX.imp_of_mem λ{a b} ha hb ne x hx y hy e=>ne ?_
    obtain⟨r,hr,rfl⟩:=aC.mp hx;obtain⟨q,hq,rfl⟩:=aC.mp hy;have:=at_ a r (aN.mp ha) hr;rw[e,at_ b q (aN.mp hb) hq]at this;lia
def ZcS(hP:pZ p n P):(um p n P).Nodup:=by
 have rf:=hP.pn.rf;refine zf (λo ho=>#[hP.row o ho,(UL<|hP.row o ho).mp<|rf.one _<|ZY ho]) ?_ (λr hr=>?_)<|cQ.mpr #[by simp,List.nodup_nil]
 .exact(bD.mp rf.inc).imp_of_mem λ{a b} ha hb lt=>(Z3<|hP.row a ha).mp<|rf.zer _ (ZY hb) _ (ZY ha)<|fW lt
 .rw[aQ.mp hr]
  exact#[Y8,λo _=>Ge _]
end
open Pv (ZfV)
section
variable{p n:Nat}[Base p]
def jM{P:List Row}{r:Row}(hP:pZ p n P)(hr:Zf p n r)(h:ZQ p P r=al):Xu p P r=P:=by
 obtain⟨h1,h2⟩:=W3 hP hr;exact G4 h1.row hP.row<|h2.trans<|(XO (fld (p:=p)) hP.pn<|YO hr).same<|(Zs hP hr).mp h
def wN{P:List Row}{r:Row}(hP:pZ p n P)(hr:Zf p n r)(h:ZQ p P r=am):(Xu p P r).length=P.length+1:=by
 obtain⟨h1,h2⟩:=W3 hP hr;have:=(XO (fld (p:=p)) hP.pn<|YO hr).len λq=>by rw[(Zs hP hr).mpr q]at h;cases h
 rw[<-h2,Xq,Xq]at this;exact this
theorem uR{u r:Row}{k:Int}(hu:Zf p n u)(hr:Zf p n r):Zj p (Zj p u r<|-k) r k=u:=by
 refine Yc (Ze (Ze hu hr) hr) hu ?_;rw[Zm (Ze hu hr) hr,Zm hu hr,Yt]
 funext j;grind
end
noncomputable def Zds(n j:Nat):Row:=(aE n).map λi=>if i=j then 1 else 0
noncomputable def units(n:Nat):List Row:=(aE n).map<|Zds n
def Zcx:∀n,n<=6->Ug (units n)=al:=by
 intro n h
 match n,h with
 |0,_|1,_|2,_|3,_|4,_|5,_|6,_=>decide +kernel
def qE(n:Nat):(units n).length=n:=by unfold units;rw[aq,a7]
section
variable{p n:Nat}[Base p]
def Jz:∀r∈units n,Zf p n r:=λr hr=>by
 obtain⟨j,_,rfl⟩:=aC.mp hr;have h2:1<p:=by rcases(inferInstance:Base p).b with e|e|e<;>omega
 unfold Zds;refine#[by rw[aq,a7],λa ha=>?_]
 obtain⟨i,_,rfl⟩:=aC.mp ha;split<;>omega
def wn(hn:n<=6):pZ p n (units n):=(VQ Jz).mp<|Zcx n hn
end
end Rw
namespace K54
open Ev Pv Rw La
def ZdK(h:Nat):(az h [V.int 0]).flatten=(az h (0:Int)).map V.int:=by
 induction h with|zero=>rfl|succ h ih=>rw[bv,cw,ih,bv];rfl
section
variable{p n:Nat}[Base p]
def ix0{C:ZJ}{i:Nat}{O:Env}{s:DS}(h:O[i]?=aa (aa<|spV p n)):pv C (.ix (.v i)<|.c<|.int 0) O s=.ok (.int p) s:=by
 rw[pv,Zg h,Zc,pv,show ofD (V.int 0)=aa (V.int 0)from rfl];rfl
def ix1{C:ZJ}{i:Nat}{O:Env}{s:DS}(h:O[i]?=aa (aa<|spV p n)):pv C (.ix (.v i)<|.c<|.int 1) O s=.ok (.int n) s:=by
 rw[pv,Zg h,Zc,pv,show ofD (V.int 1)=aa (V.int 1)from rfl];rfl
def qQ{C:ZJ}{i j:Nat}{O:Env}{s:DS}{r:Row}{k:Nat}(h:O[i]?=aa (aa<|Zd r))(hj:O[j]?=aa (aa<|Zn k))(hk:k<r.length):pv C (.ix (.v i)<|.v j) O s=.ok (.int<|gt r k) s:=by
 rw[pv,Zg h,Zc,Zg hj,Zc];show po (at' (r.map V.int) (k:Int)) s=_;rw[WN hk];rfl
theorem Vp(d:Nat){r o:Row}{k:Int}(s:DS)(hn:n<=6)(hr:Zf p n r)(ho:Zf p n o)(hk:-1000<k/\k<1000):CV (d+1) 33 [spV p n,Zd r,.int k,Zd o] s=.ok (Zd<|Zj p r o k) s:=by
 have hp:=Vt (p:=p);refine Zq rfl (by decide) rfl ?_
 show rvs (CV d) [] (.ret (.blt .tuple [(.comp1 [1,2,3,0] 1 [0] (.rng1<|.ix (.v 0)<|.c<|.int 1) []<|.bin .mod (.bin .add (.ix (.v 1)<|.v 0)<|.bin .mul (.v 2)<|.ix (.v 3)<|.v 0)<|.ix (.v 4)<|.c<|.int 0)])::[]) [aa<|spV p n,aa<|Zd r,aa<|.int k,aa<|Zd o] [] s=_;have hc:=ZK (C:=CV d) (cap:=[1,2,3,0]) (nl:=1) (t:=[0]) (it:=.rng1<|.ix (.v 0)<|.c<|.int 1) (elt:=.bin .mod (.bin .add (.ix (.v 1)<|.v 0)<|.bin .mul (.v 2)<|.ix (.v 3)<|.v 0)<|.ix (.v 4)<|.c<|.int 0) (O:=[aa<|spV p n,aa<|Zd r,aa<|.int k,aa<|Zd o]) (s:=s) (l:=aE n) (e:=Zn) (g:=λj=>V.int<|(gt r j+k*gt o j)%p)
  (YA (ix1 rfl)<|by lia) (by rw[a7];unfold lim;lia) (λj hj=>by
   have hj:=aN.mp hj;have h2:=YL (by lia) ho j
   refine#[[aa<|Zn j,aa<|Zd r,aa<|.int k,aa<|Zd o,aa<|spV p n],rfl,?_];have e1:=qQ (C:=CV d) (i:=1) (j:=0) (O:=[aa<|Zn j,aa<|Zd r,aa<|.int k,aa<|Zd o,aa<|spV p n]) (s:=s) rfl rfl (by rw[hr.1];exact hj)
   have e2:=qQ (C:=CV d) (i:=3) (j:=0) (O:=[aa<|Zn j,aa<|Zd r,aa<|.int k,aa<|Zd o,aa<|spV p n]) (s:=s) rfl rfl (by rw[ho.1];exact hj)
   have e3:pv (CV d) (.bin .mul (.v 2)<|.ix (.v 3)<|.v 0) [aa<|Zn j,aa<|Zd r,aa<|.int k,aa<|Zd o,aa<|spV p n] s=.ok (.int<|k*gt o j) s:=by
    rw[pv,Zg rfl,Zc,e2,Zc];show(if(fits k&&fits (gt o j))=al then PR.ok (V.int<|k*gt o j) s else .no)=_
    rw[T9 (by rw[ZP (by lia) (by lia),ZP (by lia) (by lia)];rfl)]
   rw[pv,pv,e1,Zc,e3,Zc];show PR.bind (PR.ok (V.int<|gt r j+k*gt o j) s) _=_;rw[Zc,ix0 rfl,Zc];show(if(0:Int)<p then PR.ok (V.int<|(gt r j+k*gt o j)%p) s else .no)=_
   rw[T9 (by lia)])
 have e:((aE n).map λj=>V.int<|(gt r j+k*gt o j)%p)=(Zj p r o k).map V.int:=by
  have hl:=(Ze (k:=k) hr ho).1;refine bV λi=>?_
  rw[aH,aH];by_cases hi:i<n
  .rw[bO hi,ag (by rw[hl];exact hi)]
   have g:=YB (k:=k) hr ho i;unfold gt at g;rw[aA,ag<|by rw[hl];exact hi]at g
   simp only[o9,oG]at g ⊢;rw[g];rfl
  .rw[bn (by rw[a7];lia),bn (by rw[hl];lia)];rfl
 refine Zt<|ZM ?_;rw[pv,Zb hc Zh,e];rfl
end
open Ab (okV Ud)
section
variable{C:ZJ}{O:Env}{s s1 s2:DS}{a b:E}{x y:V}{xs ys:List V}
def YF{i:Int}:pv C (.c<|.int i) O s=.ok (.int i) s:=by rw[pv];rfl
theorem pick{i:E}{v:Int}(h1:pv C a O s=.ok (.lst xs) s1)(h2:pv C i O s1=.ok (.int v) s2)(h0:0<=v)(hv:v<xs.length):∃x,x∈xs/\pv C (.ix a i) O s=.ok x s2:=by
 obtain⟨k,rfl⟩:∃k:Nat,v=k:=#[v.toNat,by lia]
 have hk:k<xs.length:=by lia
 refine#[xs[k],aV hk,?_];rw[pv,h1,Zc,h2,Zc];show po (at' xs (k:Int)) s2=_;rw[WV<|ag hk];rfl
def Zcc(h:pv C a O s=.ok x s):pv C (.tup [a]) O s=.ok (.tup [x]) s:=by
 rw[pv,Zb h Zh];rfl
end
section
variable{C:ZJ}{O:Env}{s:DS}{a b:E}
def Zbm{c:Bool}(h1:pv C a O s=.ok (.bl am) s)(h2:pv C b O s=.ok (.bl c) s):pv C (.or a b) O s=.ok (.bl c) s:=by rw[pv,h1];exact h2
def Zet{c c':Bool}(h1:pv C a O s=.ok (.bl c) s)(h2:pv C b O s=.ok (.bl c') s):pv C (.and a b) O s=.ok (.bl<|c&&c') s:=by
 rw[pv,h1];cases c
 .rfl
 .exact h2
def Zep{c:Bool}(h1:pv C a O s=.ok (.bl c) s):pv C (.not a) O s=.ok (.bl !c) s:=by rw[pv,h1];rfl
def v4{P Q:List Row}(h1:pv C a O s=.ok (Za P) s)(h2:pv C b O s=.ok (Za Q) s):pv C (.cmp .eq a b) O s=.ok (.bl<|aj<|P=Q) s:=by
 rw[pv,h1,Zc,h2,Zc];show po ((eqV Zr (Za P)<|Za Q).map V.bl) s=_;rw[Zr,U6];rfl
def wJ{c c':Bool}(h1:pv C a O s=.ok (.bl c) s)(h2:pv C b O s=.ok (.bl c') s)(h:c=c'):pv C (.cmp .ne a b) O s=.ok (.bl am) s:=by
 subst h;rw[pv,h1,Zc,h2,Zc];cases c<;>rfl
def yh(h1:pv C a O s=.ok (.bl al) s):pv C (.cmp .isn a<|.c<|.bl al) O s=.ok (.bl am) s:=by
 rw[pv,h1,Zc,pv];rfl
def Ui{f:Nat}{x y:E}{v w r:V}(h1:pv C x O s=.ok v s)(h2:pv C y O s=.ok w s)(h:C f [v,w] s=.ok r s):pv C (.call f [x,y]) O s=.ok r s:=Zk (Zb h1<|Zb h2 Zh) h
def YS{f:Nat}{x y z:E}{v w u r:V}(h1:pv C x O s=.ok v s)(h2:pv C y O s=.ok w s)(h3:pv C z O s=.ok u s)(h:C f [v,w,u] s=.ok r s):pv C (.call f [x,y,z]) O s=.ok r s:=Zk (Zb h1<|Zb h2<|Zb h3 Zh) h
def guard{ms:List Nat}{t:E}{x l:List Sm}(h:pv C t O s=.ok (.bl am) s):rvs C ms (.ite t x []::l) O [] s=rvs C ms l O [] s:=by
 rw[Zi<|(xb<|GB h rfl).trans (by rw[T8 (by simp),rvs])]
def Yn{P:List Row}(h1:pv C a O s=.ok (Za P) s):pv C (.blt .len [a]) O s=.ok (.int P.length) s:=by
 rw[pv,Zb h1 Zh,Zc];show po (aa<|V.int (P.map Zd).length) s=_;rw[aq];rfl
def Vc{x y:Int}(h1:pv C a O s=.ok (.int x) s)(h2:pv C b O s=.ok (.int y) s):pv C (.bin .add a b) O s=.ok (.int<|x+y) s:=by
 rw[pv,h1,Zc,h2,Zc];rfl
def ne_int{x y:Int}(h1:pv C a O s=.ok (.int x) s)(h2:pv C b O s=.ok (.int y) s)(h:x=y):pv C (.cmp .ne a b) O s=.ok (.bl am) s:=by
 rw[pv,h1,Zc,h2,Zc];show PR.ok (V.bl !decide (x=y)) s=_;rw[T5 h];rfl
end
section
variable{p n:Nat}[Base p]
def v3(d:Nat){R:List Row}{v:V}(s:DS)(hn:n<=6)(hR:∀r∈R,Zf p n r)(hv:YN v=aa (R.map Zd))(ht:Yz v [.tuple,.list]=aa al):CV (d+6) 15 [spV p n,v] s=.ok (Za<|Zz p [] R) s:=by
 refine Zq (fn:=WB) rfl (by decide) rfl ?_
 show rvs (CV<|d+5) [] WB.body [aa<|spV p n,aa v,ae] [] s=_
 dsimp only[WB]
 rw[Zi (ρ':=[aa<|spV p n,aa v,ae]) (os':=[]) (s':=s) (by simp[pvE,ht])]
 obtain⟨o',hI,e⟩:=Gm (C:=CV<|d+5) (ms:=[]) (t:=[2]) (it:=.of<|.v 1) (b:=[.ex<|.call 14 [(.v 0),(.v 2)]]) (L:=R) (e:=Zd) (step:=λ(st:Unit) _=>st) (O:=λ_ o=>[aa<|spV p n,aa v,o]) (st:=()) (o:=ae) (os:=[]) (s:=s) (λ_=>True) (by show pvw (CV<|d+5) (.of<|.v 1) [aa<|spV p n,aa v,ae] s=_;rw[pvw,pv];show po (YN v) s=_;rw[hv];rfl) da rfl (λx hx st o hst=>by
  refine#[da,rfl,_,aa<|Zd x,rfl,?_];have e2:=Qc (d+2) s hn<|hR x hx;show rvs (CV<|d+5) [] _ [aa<|spV p n,aa v,aa<|Zd x] [] s=_;rw[Zi<|X5 (v:=.non) (s':=s)<|Zk (vs:=[spV p n,Zd x]) (s1:=s) (Zb (Zg rfl)<|Zb (Zg rfl) Zh) e2,rvs])
 rw[Zi e];refine Zt<|ZM<|Zk (vs:=[spV p n,Za [],v]) (s1:=s) (Zb (Zg rfl)<|Zb (by simp[pvE,Za])<|Zb (Zg rfl) Zh)<|Xh d s hn pZ.nil hR hv
def joined(d:Nat){P Q:List Row}(s:DS)(hn:n<=6)(hP:pZ p n P)(hQ:pZ p n Q):CV (d+6) 39 [spV p n,Za P,Za Q] s=.ok (Za<|Zz p P Q) s:=by
 refine Zq (fn:=Vm) rfl (by decide) rfl ?_
 show rvs (CV<|d+5) [] Vm.body [aa<|spV p n,aa<|Za P,aa<|Za Q] [] s=_
 dsimp only[Vm]
 have ha:pvs (CV<|d+5) [(.v 0),(.v 1),(.v 2)] [aa<|spV p n,aa<|Za P,aa<|Za Q] s=.ok [spV p n,Za P,Za Q] s:=Zb (Zg rfl)<|Zb (Zg rfl)<|Zb (Zg rfl) Zh;rw[Zi<|X5<|Zk ha<|X2 d s hn hP hQ];exact Zt<|ZM<|Zk ha<|Xh d s hn hP hQ.row rfl
def yR{r:Row}{k:Nat}{x:Int}:(r.map V.int).set k (.int x)=(r.set k x).map V.int:=by rw[List.map_set]
theorem yL(d:Nat){P:List Row}{f:Nat}(s:DS)(hn:n<=6)(hP:pZ p n P)(hf:f<n):CV (d+2) 37 [spV p n,Za P,.int f] s=.ok (Zd<|avI p n P f) s:=by
 refine Zq (fn:=YJ) rfl (by decide) rfl ?_
 show rvs (CV<|d+1) [5,5] YJ.body [aa<|spV p n,aa<|Za P,aa<|.int f,ae,ae,ae,ae] [] s=_
 dsimp only[YJ]
 rw[Zi<|Z6 (p:=p) (n:=n) _ _ (by simp[pvE]) (by simp)]
 have er:(az n [V.int 0]).flatten=(az n (0:Int)).map V.int:=by
  rw[fH];clear hf hP hn
  induction n with|zero=>rfl|succ k ih=>rw[bv,cw,ih];rfl
 have hp:=Vt (p:=p);have e1:rv (CV<|d+1) [5,5] (.asg [5]<|.bin .mul (.lst [(.c<|.int 0)])<|.v 4) [aa<|spV p n,aa<|Za P,aa<|.int f,aa<|.int p,aa<|.int n,ae,ae] [] s=.ok (.nx [aa<|spV p n,aa<|Za P,aa<|.int f,aa<|.int p,aa<|.int n,aa<|.lst<|(az n (0:Int)).map V.int,ae] [5]) s:=by
  have h1:n<1000:=by lia
  have hfl:=XT<|az n (0:Int);rw[fH]at hfl er;have h2:(n:Int)<1000:=by lia
  simp[pvE,h2,er,hfl]
 rw[show(([aa<|spV p n,aa<|Za P,aa<|.int f,ae,ae,ae,ae]:Env).set 3<|aa<|.int p).set 4 (aa<|.int n)=[aa<|spV p n,aa<|Za P,aa<|.int f,aa<|.int p,aa<|.int n,ae,ae]from rfl,Zi e1]
 have ix:∀(r:Row)(k:Nat),k<r.length->ixN (r.map V.int).length (k:Int)=aa k:=λr k h=>by
  unfold ixN;rw[T9 (by lia),T9 (by rw[aq];lia)];rfl
 have e2:rv (CV<|d+1) [5,5] (.put (.v 5) (.v 2)<|.c<|.int 1) [aa<|spV p n,aa<|Za P,aa<|.int f,aa<|.int p,aa<|.int n,aa<|.lst<|(az n (0:Int)).map V.int,ae] [5] s=.ok (.nx [aa<|spV p n,aa<|Za P,aa<|.int f,aa<|.int p,aa<|.int n,aa<|.lst<|((az n (0:Int)).set f 1).map V.int,ae] [5]) s:=by
  have h1:=ix (az n 0) f (by simpa using hf)
  rw[rv];simp only[pvE,VB,V.flat];simp only[fE,BEq.rfl,Bool.true_or,if_true,List.getElem?_cons_succ,List.getElem?_cons_zero,Option.bind,id,pvE];rw[h1,ZX,Zc,yR];rfl
 rw[Zi e2];obtain⟨o',hI,e⟩:=Gm (C:=CV<|d+1) (ms:=[5,5]) (t:=[6]) (it:=.of<|.v 1) (b:=[.put (.v 5) (.call 6 [(.v 6)])<|.bin .mod (.neg<|.ix (.v 6)<|.v 2)<|.v 3]) (L:=P) (e:=Zd) (step:=λ(s:Row) r=>s.set ((hdI r).getD 0)<|(-(gt r f))%p) (O:=λst o=>[aa<|spV p n,aa<|Za P,aa<|.int f,aa<|.int p,aa<|.int n,aa<|.lst<|st.map V.int,o]) (st:=(az n (0:Int)).set f 1) (o:=ae) (os:=[5]) (s:=s) (λst=>st.length=n) (by simp[pvE,Za]) (by simp) (by simp) (λx hx st o hst=>by
  have hx':=hP.row x hx;obtain⟨k,hk,hkn,_⟩:=hP.head fld.one0 hx;refine#[by rw[bH];exact hst,by simp[Zd,V.flat,XT],_,aa<|Zd x,rfl,?_]
  show rvs (CV<|d+1) [5,5] _ [aa<|spV p n,aa<|Za P,aa<|.int f,aa<|.int p,aa<|.int n,aa<|.lst<|st.map V.int,aa<|Zd x] [5] s=_;have e3:=XR d x s;rw[hk]at e3;have e3':CV (d+1) 6 [Zd x] s=.ok (.int k) s:=e3;have e4:=WN (r:=x) (k:=f) (by rw[hx'.1];exact hf)
  have ev:pv (CV<|d+1) (.bin .mod (.neg<|.ix (.v 6)<|.v 2)<|.v 3) [aa<|spV p n,aa<|Za P,aa<|.int f,aa<|.int p,aa<|.int n,aa<|.lst<|st.map V.int,aa<|Zd x] s=.ok (.int<|(-(gt x f))%p) s:=by
   have hp0:0<p:=by lia
   simp[pvE,Zd,e4,hp0]
  have ek:pv (CV<|d+1) (.call 6 [(.v 6)]) [aa<|spV p n,aa<|Za P,aa<|.int f,aa<|.int p,aa<|.int n,aa<|.lst<|st.map V.int,aa<|Zd x] s=.ok (.int k) s:=Zk (Zb (Zg rfl) Zh) e3';have h1:=ix st k (by rw[hst];exact hkn)
  rw[hk];rw[Zi (ρ':=[aa<|spV p n,aa<|Za P,aa<|.int f,aa<|.int p,aa<|.int n,aa<|.lst<|(st.set k<|(-(gt x f))%p).map V.int,aa<|Zd x]) (os':=[5]) (s':=s) (by
   rw[rv,T9 (by simp),ev,Zc,T9 (by rfl)]
   show(po (aa<|st.map V.int) s).bind _=_;rw[ZX,Zc,ek,Zc];show(po (ixN (st.map V.int).length (k:Int)) s).bind _=_;rw[h1,ZX,Zc,yR];rfl),rvs]
  rfl)
 rw[Zi e];refine Zt<|ZM ?_;simp[pvE,Zd,avI,avF]
theorem jG(j:Nat):∀hs:List Nat,Xx (Zn j) (hs.map Zn)=aa (hs.contains j)
 |[]=>rfl
 |h::hs=>by
  show(match eqV Zr (Zn h) (Zn j),Xx (Zn j) (hs.map Zn)with|some a,aa b=>aa (a||b)|_,_=>ae)=_
  rw[jG j hs,fE];show aa (aj ((h:Int)=(j:Int))||hs.contains j)=_
  congr 2
  rw[bN];simp;lia
theorem Vl(d:Nat){P:List Row}(s:DS)(hn:n<=6)(hP:pZ p n P):CV (d+7) 38 [spV p n,Za P] s=.ok (Za<|Ye p n P) s:=by
 refine Zq (fn:=Wt) rfl (by decide) rfl ?_
 show rvs (CV<|d+6) [] Wt.body [aa<|spV p n,aa<|Za P,ae,ae,ae,ae] [] s=_
 dsimp only[Wt]
 have hd:=dsum hP;rw[Zi<|X5<|Zk (Zb (Zg rfl)<|Zb (Zg rfl) Zh)<|Y3 (d+2) s hn hP];rw[Zi<|Z6 (p:=p) (n:=n) _ _ (by simp[pvE]) (by simp)]
 have hc2:=ZK (C:=CV<|d+6) (cap:=[]) (nl:=1) (t:=[0]) (it:=.of<|.v 1) (elt:=.call 6 [(.v 0)]) (O:=[aa<|spV p n,aa<|Za P,aa<|.int p,aa<|.int n,ae,ae]) (s:=s) (l:=P) (e:=Zd) (g:=λr=>X7<|hdI r)
  (by simp[pvE,Za]) (by unfold lim;lia) (λx hx=>#[_,rfl,by
   have e:=XR (d+5) x s;simp[pvE,e]])
 rw[uv hP]at hc2;rw[Zi (ρ':=[aa<|spV p n,aa<|Za P,aa<|.int p,aa<|.int n,aa<|.lst<|(Zw P).map Zn,ae]) (os':=[]) (s':=s) (by simp[pvE,hc2])]
 have hc3:=Wl (C:=CV<|d+6) (cap:=[4]) (nl:=1) (t:=[0]) (it:=.rng1<|.v 3) (tst:=.cmp .nin (.v 0)<|.v 1) (elt:=.v 0) (O:=[aa<|spV p n,aa<|Za P,aa<|.int p,aa<|.int n,aa<|.lst<|(Zw P).map Zn,ae]) (s:=s) (l:=aE n) (e:=Zn) (g:=Zn) (q:=λj=>!(Zw P).contains j)
  (YA (Zg rfl)<|by lia) (by rw[a7];unfold lim;lia) (λj hj=>#[_,.bl<|!(Zw P).contains j,rfl,by
   have:=jG j<|Zw P;simp[pvE,Vr,this],rfl,λ_=>by simp[pvE]])
 rw[Zi (ρ':=[aa<|spV p n,aa<|Za P,aa<|.int p,aa<|.int n,aa<|.lst<|(Zw P).map Zn,aa<|.lst<|(X6 n P).map Zn]) (os':=[]) (s':=s) (by
  refine(Yp hc3 rfl).trans ?_;rfl)]
 have hc4:=ZK (C:=CV<|d+6) (cap:=[0,1]) (nl:=1) (t:=[0]) (it:=.of<|.v 5) (elt:=.call 37 [(.v 1),(.v 2),(.v 0)]) (O:=[aa<|spV p n,aa<|Za P,aa<|.int p,aa<|.int n,aa<|.lst<|(Zw P).map Zn,aa<|.lst<|(X6 n P).map Zn]) (s:=s) (l:=X6 n P) (e:=Zn) (g:=λf=>Zd<|avI p n P f)
  (by simp[pvE]) (by
   have:(X6 n P).length<=n:=by unfold X6;exact cf (h8 ..) (by rw[a7];exact aM _)
   unfold lim;lia) (λf hf=>#[_,rfl,by
   have hf':f<n:=by rw[<-Qy (p:=p)]at hf;exact(Yh.mp hf).1
   have e:=yL (d+4) s hn hP hf';exact Zk (Zb (Zg rfl)<|Zb (Zg rfl)<|Zb (Zg rfl) Zh) e])
 have e5:=v3 (p:=p) (n:=n) d (R:=(X6 n P).map<|avI p n P) (v:=.lst<|(X6 n P).map λf=>Zd<|avI p n P f) s hn (λr hr=>by obtain⟨f,hf,rfl⟩:=aC.mp hr;exact(jO hP hf).1) (by rw[bC];rfl) rfl
 exact Zt<|ZM<|Zk (Zb (Zg rfl)<|Zb hc4 Zh) e5
def met(d:Nat){P Q:List Row}(s:DS)(hn:n<=6)(hP:pZ p n P)(hQ:pZ p n Q):CV (d+8) 40 [spV p n,Za P,Za Q] s=.ok (Za<|WL p n P Q) s:=by
 refine Zq (fn:=vj) rfl (by decide) rfl ?_
 show rvs (CV<|d+7) [] vj.body [aa<|spV p n,aa<|Za P,aa<|Za Q] [] s=_
 dsimp only[vj]
 rw[Zi<|X5<|Zk (Zb (Zg rfl)<|Zb (Zg rfl)<|Zb (Zg rfl) Zh)<|X2 (d+2) s hn hP hQ];have a1:=(Yw hP).1;have a2:=(Yw hQ).1;have a3:=(YR a1 a2).1;exact Zt<|ZM<|Zk (Zb (Zg rfl)<|Zb (Zk (Zb (Zg rfl)<|Zb (Zk (Zb (Zg rfl)<|Zb (Zg rfl) Zh)<|Vl d s hn hP)<|Zb (Zk (Zb (Zg rfl)<|Zb (Zg rfl) Zh)<|Vl d s hn hQ) Zh)<|joined (d+1) s hn a1 a2) Zh)<|Vl d s hn a3
def w4(d:Nat){P:List Row}{r:Row}(s:DS)(hn:n<=6)(hP:pZ p n P)(hr:Zf p n r):CV (d+4) 31 [spV p n,Za P,Zd r] s=.ok (.bl<|ZQ p P r) s:=by
 refine Zq rfl (by decide) rfl ?_
 show rvs (CV<|d+3) [] (.ret (.cmp .is (.call 6 [(.call 7 [(.v 0),(.v 1),(.v 2)])])<|.c .non)::[]) [aa<|spV p n,aa<|Za P,aa<|Zd r] [] s=_;have e1:pv (CV<|d+3) (.call 6 [(.call 7 [(.v 0),(.v 1),(.v 2)])]) [aa<|spV p n,aa<|Za P,aa<|Zd r] s=.ok (X7<|hdI<|Zl p P r) s:=
  Zk (Zb (Zk (Zb (Zg rfl)<|Zb (Zg rfl)<|Zb (Zg rfl) Zh)<|JZ d s hn hP hr) Zh) (XR (d+2) _ s)
 refine Zt<|ZM ?_;rw[pv,e1,Zc];unfold ZQ;cases hdI (Zl p P r)<;>simp[pvE,X7]
def holds(d:Nat){P:List Row}{r:Row}(s:DS)(hn:n<=6)(hP:pZ p n P)(hr:Zf p n r):CV (d+5) 34 [spV p n,Za P,Zd r] s=.ok (.bl<|ZQ p P r) s:=by
 refine Zq (fn:=UK) rfl (by decide) rfl ?_
 show rvs (CV<|d+4) [] UK.body [aa<|spV p n,aa<|Za P,aa<|Zd r] [] s=_
 dsimp only[UK]
 rw[Zi<|X5<|Zk (Zb (Zg rfl)<|Zb (Zg rfl) Zh)<|Y3 d s hn hP];rw[Zi<|X5<|Zk (Zb (Zg rfl)<|Zb (Zg rfl) Zh)<|Qc (d+1) s hn hr];exact Zt<|ZM<|Zk (Zb (Zg rfl)<|Zb (Zg rfl)<|Zb (Zg rfl) Zh)<|w4 d s hn hP hr
def Zay(rs:List Row)(o:Row):(Wb p rs o).length=rs.length*p:=by
 unfold Wb;rw[d9];simp only[aq,a7];rw[gx,dG]
theorem Zb4(d:Nat){P:List Row}(s:DS)(hn:n<=6)(hP:pZ p n P):CV (d+5) 30 [spV p n,Za P] s=.ok (.lst<|(Z0 p n P).map Zd) s:=by
 refine Zq (fn:=Wu) rfl (by decide) rfl ?_
 show rvs (CV<|d+4) [] Wu.body [aa<|spV p n,aa<|Za P,ae,ae,ae,ae] [] s=_
 dsimp only[Wu]
 have hd:=dsum hP;have hp:=Vt (p:=p);rw[Zi<|X5<|Zk (Zb (Zg rfl)<|Zb (Zg rfl) Zh)<|Y3 d s hn hP];rw[Zi<|Z6 (p:=p) (n:=n) _ _ (by simp[pvE]) (by simp)]
 have er:(az n [V.int 0]).flatten=(az n (0:Int)).map V.int:=by
  rw[fH];clear hd hP hn
  induction n with|zero=>rfl|succ k ih=>rw[bv,cw,ih];rfl
 rw[Zi (ρ':=[aa<|spV p n,aa<|Za P,aa<|.int p,aa<|.int n,aa<|.lst<|[az n (0:Int)].map Zd,ae]) (os':=[]) (s':=s) (by
  have h1:(n:Int)<1000:=by lia
  rw[fH]at er;simp[pvE,h1,er,Zd])]
 have hz:Zf p n (az n (0:Int)):=#[by simp,λa ha=>by rw[(gF.mp ha).2];exact#[by lia,ppos]]
 obtain⟨o',hI,e⟩:=Vh (C:=CV<|d+4) (ms:=[]) (t:=[5]) (it:=.of<|.v 1) (b:=[.asg [4]<|.comp2 [2,5] 2 [0] (.of<|.v 4) [] [1] (.rng1<|.v 2) []<|.call 4 [(.v 2),(.v 0),(.v 3),(.v 1)]]) (L:=P) (e:=Zd) (step:=Wb p) (O:=λst o=>[aa<|spV p n,aa<|Za P,aa<|.int p,aa<|.int n,aa<|.lst<|st.map Zd,o]) (st:=[az n (0:Int)]) (o:=ae) (os:=[]) (s:=s) (λl st=>(∀r∈l,Zf p n r)/\(∀r∈st,Zf p n r)/\st.length*5^l.length<=15625) (by simp[pvE,Za]) #[hP.row,λr hr=>by rw[aQ.mp hr];exact hz,by
   have h1:P.length<=6:=by lia
   have:5^P.length<=5^6:=dy (by lia) h1
   simp only[db];lia] rfl (λx l st o hst=>by
  obtain⟨h1,h2,h3⟩:=hst;have hx:=h1 x<|ai ..;have hsl:(Wb p st x).length=st.length*p:=Zay st x;have hb:st.length*p*5^l.length<=15625:=by
   have:st.length*p<=st.length*5:=mZ _ (by lia)
   have h4:st.length*p*5^l.length<=st.length*5*5^l.length:=mP _ this;rw[aF,fZ]at h3;have h5:st.length*5*5^l.length=st.length*(5^l.length*5):=by rw[k9,fD 5]
   lia
  have hlim:st.length*p<=15625:=cf (lC _<|oY<|by lia) hb
  refine#[#[λr hr=>h1 r<|af _ hr,λr hr=>?_,by rw[hsl];exact hb],rfl,_,aa<|Zd x,rfl,?_]
  .unfold Wb at hr
   obtain⟨q,hq,hr⟩:=cG.mp hr;obtain⟨k,_,rfl⟩:=aC.mp hr;exact Ze (h2 q hq) hx
  .show rvs (CV<|d+4) [] _ [aa<|spV p n,aa<|Za P,aa<|.int p,aa<|.int n,aa<|.lst<|st.map Zd,aa<|Zd x] [] s=_
   have hc:=UV (C:=CV<|d+4) (cap:=[2,5]) (nl:=2) (t:=[0]) (u:=[1]) (it:=.of<|.v 4) (jt:=.rng1<|.v 2) (elt:=.call 4 [(.v 2),(.v 0),(.v 3),(.v 1)]) (O:=[aa<|spV p n,aa<|Za P,aa<|.int p,aa<|.int n,aa<|.lst<|st.map Zd,aa<|Zd x]) (s:=s) (l:=st) (e:=Zd) (m:=λ_=>aE p) (e2:=Zn) (g:=λr k=>Zd<|Zj p r x (k:Int))
    (by simp[pvE]) (by rw[d9];simp only[aq,a7];rw[gx,dG];unfold lim;lia) (λr hr=>#[_,rfl,by
     exact YA (n:=p) (Zg rfl) (by lia),λk hk=>#[_,rfl,by
     have hk':=aN.mp hk;have:=WT (p:=p) (d+3) (k:=(k:Int)) s hn (h2 r hr) hx #[by lia,by lia]
     exact Zk (Zb (Zg rfl)<|Zb (Zg rfl)<|Zb (Zg rfl)<|Zb (Zg rfl) Zh) this]])
   have ef:(st.flatMap λr=>(aE p).map λ(k:Nat)=>Zd<|Zj p r x (k:Int))=(Wb p st x).map Zd:=by
    unfold Wb;rw[lD];exact congrArg (λf=>st.flatMap f)<|funext λr=>by rw[bC];rfl
   rw[ef]at hc;rw[Zi<|Yp hc rfl,rvs];rfl)
 rw[Zi e];exact Zt<|ZM<|Zg rfl
end
end K54
namespace Lv
open Ev Pv
noncomputable def V8:Fn:=#[2,2,[.ite (.cmp .lt (.v 1)<|.blt .len [(.v 0)]) [.ret<|.ix (.v 0)<|.v 1] [],.ret<|.c<|.int 0]]
noncomputable def Vv(c:Nat):Fn:=#[2,3,[.asg [2]<|.call c [(.v 0),(.v 1)],.ite (.cmp .ge (.v 2)<|.bin .pow (.c<|.int 10)<|.c<|.int 18) [.ret<|.lst [(.bin .sub (.v 2)<|.bin .pow (.c<|.int 10)<|.c<|.int 18),(.c<|.bl al)]] [],.ret<|.lst [(.bin .mod (.v 2)<|.c<|.int 2147483647),(.c<|.bl am)]]]
noncomputable def QU(nn:Nat)(M:Int)(st:Nat)(B:List Sm)(r:E):Fn:=#[1,nn,[.forr [1] (.rng1<|.blt .max2 [(.c<|.int 1),(.blt .min2 [(.blt .len [(.v 0)]),(.c<|.int M)])]) [.cel 2 st [(.v 0),(.v 1)] B],.ret r]]
noncomputable abbrev Zge(nn:Nat)(M:Int)(st:Nat)(B:List Sm):Fn:=QU nn M st B<|.c<|.bl al
def ZcJ(ht:ca≠tk)(hC:F[ca]?=aa V8)(d:Nat)(k0:0<=k):∃c,Zo F tk (d+1) ca [.scr ns,.int k] s=.ok (.int c) s:=by
 by_cases c:k<ns.length
 .have hk:k.toNat<ns.length:=by lia
  refine#[ns[k.toNat],?_];simp[Zo,ht,hC,V8,rvs,rv,pvs,Pv.pv.eq_1,Pv.pv.eq_2,pv,Xz,PR.bind,po,ZR,YU,int2,Wi,blt1,YN,Zu,ixV,at',ixN,k0,c,hk,ofD]
 .refine#[0,?_]
  simp[Zo,ht,hC,V8,rvs,rv,pvs,pv,Xz,PR.bind,po,ZR,YU,int2,Wi,blt1,YN,Zu,ixV,at',ixN,k0,c,ofD]
def Zai(ht:ca≠tk)(hts:st≠tk)(hC:F[ca]?=aa V8)(hS:F[st]?=aa (Vv ca))(d:Nat)(k0:0<=k):∃v d0,Zo F tk (d+2) st [.scr ns,.int k] s=.ok v s/\Qg v=aa d0/\okS d0.1 d0.2=al:=by
 obtain⟨c,e⟩:=ZcJ ht hC (s:=s) (ns:=ns) d k0;rw[show d+2=(d+1)+1 from rfl,Zo,T8 hts,hS]
 generalize Zo F tk (d+1)=C at e ⊢;by_cases h:10^18<=c
 .have h':(1000000000000000000:Int)<=c:=by simpa using h
  have o:okS (c-1000000000000000000) al=al:=by simp[okS];lia
  refine#[.lst [.int<|c-1000000000000000000,.bl al],(c-1000000000000000000,al),?_,by simp[Qg,o],o]
  simp[Vv,rvs,rv,pvA,pvs,pv,Xz,PR.bind,po,ZR,YU,int2,Zu,ofD,Xi,Pv.Q4,e,h',muts,wD,lim]
 .have h':¬(1000000000000000000:Int)<=c:=by simpa using h
  have o:okS (c%2147483647) am=al:=by simp[okS];lia
  refine#[.lst [.int<|c%2147483647,.bl am],(c%2147483647,am),?_,by simp[Qg,o],o]
  simp[Vv,rvs,rv,pvA,pvs,pv,Xz,PR.bind,po,ZR,YU,int2,Zu,ofD,Xi,Pv.Q4,e,h',muts,wD,lim]
theorem zL(P:Env->Prop):∀(xs:List V),(∀x∈xs,∀O s,P O->∃ρ' s',P ρ'/\body x O [] s=.ok (.nx ρ' []) s')->∀O s,P O->∃ρ' s',P ρ'/\Wo body xs O [] s=.ok (.nx ρ' []) s'
 |[],_,O,s,h=>#[O,s,h,rfl]
 |x::xs,hb,O,s,h=>by
  obtain⟨ρ1,s1,h1,e1⟩:=hb x (ai ..) O s h;obtain⟨ρ2,s2,h2,e2⟩:=zL P xs (λy hy=>hb y<|af _ hy) ρ1 s1 h1
  refine#[ρ2,s2,h2,?_];rw[Wo,e1];exact e2
def hide_nil :hide [] O=O:=by
 unfold hide;apply bV
 intro i;rw[iA];cases O[i]?<;>rfl
def j9(h0:O[0]?=aa (aa<|.scr ns))(h1:O[1]?=aa (aa<|.int k))(hl:O.length=nn+3):(VD 2 O).set 2 (aa .drw)=aa (.scr ns)::aa (.int k)::aa .drw::az nn ae:=by
 match O,h0,h1,hl with
 |a::b::l,h0,h1,hl=>
  cases h0;cases h1;have:l.length=nn+1:=by simpa using hl
  unfold VD;simp[Uk,V.flat,this,bv]
def ZcI{r:E}(d:Nat)(ht:ca≠tk)(hts:st≠tk)(htl:L≠tk)(hC:F[ca]?=aa V8)(hS:F[st]?=aa (Vv ca))(hL:F[L]?=aa (QU (nn+3) M st B r))(hM:M<2^62)(hr:∀O s,pv (Zo F tk<|d+2) r O s=.ok (.bl al) s)
  (hv:∀(o:Option V)(k:Nat)(s:DS),∃O os s',rvs (Zo F tk<|d+2) (muts B) B (o::aa (.int k)::aa .drw::az nn ae) [] s=.ok (.nx O os) s'/\O[0]?=aa o/\O.length=nn+3)(ns:List Int)(s:DS) :
  ∃S,Zo F tk (d+3) L [.scr ns] s=.ok (.bl al) S:=by
 rw[show d+3=(d+2)+1 from rfl,Zo,T8 htl,hL]
 have hst:=λk (k0:0<=k) s=>Zai ht hts hC hS (s:=s) (ns:=ns) (k:=k) d k0
 generalize Zo F tk (d+2)=C at hv hst hr ⊢;have hR:=hr;clear hr;have hr:∃m,pvw C (.rng1<|.blt .max2 [(.c<|.int 1),(.blt .min2 [(.blt .len [(.v 0)]),(.c<|.int M)])]) (ZR (nn+3) [.scr ns]) s=.ok (ZU 0 m) s:=by
  have e:pv C (.blt .max2 [(.c<|.int 1),(.blt .min2 [(.blt .len [(.v 0)]),(.c<|.int M)])]) (ZR (nn+3) [.scr ns]) s=.ok (.int<|if(if M<(ns.length:Int)then M else(ns.length:Int))>1 then(if M<(ns.length:Int)then M else(ns.length:Int))else 1) s:=by
   simp[pv,pvs,PR.bind,po,ZR,ofD,Wi,blt1,blt2,YN]
  rw[pvw,e];refine#[_,(T9 ?_ :)];unfold Xb;refine T5 ?_;split<;>split<;>lia
 obtain⟨m,hr⟩:=hr;have hm:muts (QU (nn+3) M st B r).body=muts B:=by simp[QU,muts,wD]
 simp only[hm];show ∃S,(if 1=1 then _ else _)=_
 rw[T9 rfl];unfold QU;simp only;rw[rvs,rv,hide_nil,hr]
 let body:V->Env->List Nat->DS->PR FlV:=λx O os s=>if([1].any os.contains)=al then .no else(po (Zp [1] x O) s).bind λO s=>rvs C (muts B) [.cel 2 st [(.v 0),(.v 1)] B] O os s
 have hb:∀x∈ZU 0 m,∀O s,(O[0]?=aa (aa<|.scr ns)/\O.length=nn+3)->∃ρ' s',(ρ'[0]?=aa (aa<|.scr ns)/\ρ'.length=nn+3)/\body x O [] s=.ok (.nx ρ' []) s':=by
  intro x hx O s #[h0,hl];unfold ZU at hx;obtain⟨k,_,rfl⟩:=aC.mp hx;rw[Int.zero_add];obtain⟨v,d0,e1,e2,e3⟩:=hst (k:Int) (by lia) s
  obtain⟨ρ2,os2,s2,e4,h2,l2⟩:=hv (aa<|.scr ns) k d0;have q0:(O.set 1<|aa<|.int (k:Int))[0]?=aa (aa<|.scr ns):=by rw[bj (by decide)];exact h0
  have q1:(O.set 1<|aa<|.int (k:Int))[1]?=aa (aa<|.int (k:Int)):=bZ (by lia)
  have ql:(O.set 1<|aa<|V.int (k:Int)).length=nn+3:=by rw[bH];exact hl
  have a:pvs C [(.v 0),(.v 1)] (O.set 1<|aa<|.int (k:Int)) s=.ok [.scr ns,.int (k:Int)] s:=by
   simp only[pvs,pv,q0,q1,PR.bind,po,Option.join];rfl
  refine#[ρ2.map Uk,s,#[by rw[aH,h2];rfl,by rw[aq];exact l2],?_]
  show(rvs C (muts B) [.cel 2 st [(.v 0),(.v 1)] B] (O.set 1<|aa<|.int (k:Int)) [] s)=_;rw[rvs,rv,T9 (by rfl),a]
  show PR.bind (PR.bind (C st [.scr ns,.int (k:Int)] s) _) _=_;rw[e1];show PR.bind (PR.bind (po (Qg v) s) _) _=_;rw[e2];simp only[po,PR.bind,j9 q0 q1 ql,e4,rvs]
 obtain⟨O,s',h,e⟩:=zL (body:=body) (λO=>O[0]?=aa (aa<|.scr ns)/\O.length=nn+3) (ZU 0 m) hb (ZR (nn+3) [.scr ns]) s #[rfl,by simp[ZR]]
 refine#[s',?_];show PR.bind (PR.bind (Wo body (ZU 0 m) _ _ s) _) _=_;rw[e];show PR.bind (rvs C (muts B) [.ret r] O [] s') _=_;rw[rvs,rv,hR];rfl
def law_of(d:Nat)(ht:ca≠tk)(hts:st≠tk)(htl:L≠tk)(hC:F[ca]?=aa V8)(hS:F[st]?=aa (Vv ca))(hL:F[L]?=aa (Zge (nn+3) M st B))(hM:M<2^62)
  (hv:∀(o:Option V)(k:Nat)(s:DS),∃O os s',rvs (Zo F tk<|d+2) (muts B) B (o::aa (.int k)::aa .drw::az nn ae) [] s=.ok (.nx O os) s'/\O[0]?=aa o/\O.length=nn+3)(ns:List Int)(s:DS) :
  ∃S,Zo F tk (d+3) L [.scr ns] s=.ok (.bl al) S:=ZcI d ht hts htl hC hS hL hM (λ_ _=>by rw[pv];rfl) hv ns s
end Lv
namespace Rw
open La
section
variable{p n:Nat}[Base p]
def GK{u:Vec (Fin p)}(hs:Supp n u):∃r,Zf p n r/\toV p r=u:=by
 refine#[(aE n).map λj=>((u j).val:Int),#[by simp,λa ha=>?_],funext λj=>?_]
 .obtain⟨j,_,rfl⟩:=aC.mp ha
  have:=(u j).isLt;omega
 .unfold toV gt
  by_cases h:j<n
  .have:=(u j).isLt
   rw[aA,aH,bO h];exact Vg (by rw[YV];exact cW (by simp) (by simp[this]))
  .rw[aA,bn (by simpa using h),hs j (by omega)]
   exact XZ
theorem JA{P:Pt (Fin p)}:∀vs,WZ P vs λ_=>0
 |[]=>Yg
 |v::vs=>#[0,by rw[show(λj=>0-0*v j)=λ_=>0 by funext j;grind];exact JA vs]
theorem vJ{P:Pt (Fin p)}{v:Vec (Fin p)}:∀{vs},v∈vs->WZ P vs v
 |w::vs,h=>by
  rcases ay.mp h with rfl|h
  .exact#[1,by rw[show(λj=>v j-1*v j)=λ_=>0 by funext j;grind];exact JA vs]
  .exact#[0,by rw[show(λj=>v j-0*w j)=v by funext j;grind];exact vJ h]
theorem QV{R:Pt (Fin p)}:∀{vs u},(∀v∈vs,Mem R v)->WZ [] vs u->Mem R u
 |[],u,_,h=>by rw[show u=λ_=>0 from funext<|wT.mp h];exact Yg
 |v::vs,u,hv,#[c,h]=>by
  have:=YC c (QV (λw hw=>hv w<|af _ hw) h)<|hv v<|ai ..
  rw[show(λj=>u j-c*v j+c*v j)=u by funext j;grind]at this
  exact this
end
open Ev (ltI ZH)
section
variable{p n:Nat}[Base p]
def Y6{R:List Row}(hR:∀r∈R,Zf p n r):Spans p n R (Zz p [] R):=by
 obtain⟨hM,e⟩:=VC (P:=[]) pZ.nil hR;have hm:=(XE fld (R.map<|toV p) Pn.nil λv hv=>by
  obtain⟨r,h,rfl⟩:=aC.mp hv;exact YO<|hR r h).2
 have h:∀u,Mm p (Zz p [] R) u↔WZ [] (R.map<|toV p) u:=λu=>by
  unfold Mm;rw[e];exact hm u
 refine#[hM,λr hr=>(Zs hM<|hR r hr).mpr<|(h _).mpr<|vJ<|fe hr,λW hW hw r hr=>?_]
 have hr':=hM.row r hr;have:=(h _).mp<|(Zs hM hr').mp<|GF hM hr;refine(Zs hW hr').mpr<|QV (λv hv=>?_) this
 obtain⟨x,hx,rfl⟩:=aC.mp hv;exact(Zs hW<|hR x hx).mp<|hw x hx
def Yf{P:List Row}(hP:pZ p n P)(r:Row):r∈Z0 p n P↔Zf p n r/\ZQ p P r=al:=by
 rw[(vL hP).1 r];refine and_congr_right λh=>?_
 exact(Zs hP h).symm
def wE{P:List Row}(hP:pZ p n P):(Z0 p n P).Nodup:=(vL hP).2.imp λ{a b} h e=>by
 subst e;have:=Sd.Y2 h;rw[h]at this;cases this
def yv{P:List Row}(hP:pZ p n P):(Z0 p n P).length=p^P.length:=by
 rw[<-Zal (p:=p) (n:=n) P];refine pj (Wa (wE hP) λx hx=>?_)<|Wa (ZcS hP) λx hx=>?_
 .exact(y4 hP).mpr<|(Yf hP x).mp hx
 .exact(Yf hP x).mpr<|(y4 hP).mp hx
end
section
variable{p n:Nat}[Base p]
theorem VP{P:List Row}(hP:pZ p n P):P.length<=n:=by have:=XH hP;lia
def wv(b:List Row)(m:Nat):(aE<|m+1).foldl (λrs _=>Xl p rs) b=Xl p ((aE m).foldl (λrs _=>Xl p rs) b):=by rw[mh,kP];rfl
theorem JH{b:Row}:∀(m:Nat)(t:Row),t.length=m->(∀a∈t,0<=a/\a<(p:Int))->b++t∈(aE m).foldl (λrs _=>Xl p rs) [b]
 |0,t,h,_=>by rw[bU.mp h,cF];exact aQ.mpr rfl
 |m+1,t,h,hb=>by
  obtain⟨t',a,rfl⟩:∃t' a,t=t'++[a]:=#[t.dropLast,t.getLast (λz=>by rw[z]at h;cases h),(fJ _).symm]
  rw[ba,db]at h;have ih:=JH (b:=b) m t' (by lia) λx hx=>hb x<|bG _ hx
  have ha:=hb a (by simp)
  rw[wv];refine cG.mpr #[_,ih,aC.mpr #[a.toNat,aN.mpr (by lia),?_]]
  rw[mY ha.1,bp]
theorem wo{h:Nat}{r:Row}(hr:Zf p n r)(hh:h<n)(h1:gt r h=1)(h0:∀i,i<h->gt r i=0):r∈ZT p n h:=by
 have hl:=hr.1;have e:r=(az h 0++[1])++r.drop (h+1):=by
  refine fw (by simp;lia) λi a b=>?_
  have g:gt r i=r[i]:=by unfold gt;rw[aA,ag a];rfl
  rcases kO i h with c|c|c
  .rw[<-g,h0 i c,gl (by simp;lia),gl (by simpa using c)];simp
  .subst c
   rw[<-g,h1,gl (by simp),kA (by simp)];simp
  .rw[kA (by simp;lia),dZ]
   congr 1
   simp;lia
 rw[e];exact JH (n-(h+1)) _ (by rw[br];lia) λa ha=>hr.2 a<|b5 ha
theorem uh{P:List Row}{r:Row}{h:Nat}(hz:(P.all λq=>aj<|gt q h=0)=al)(hr:r∈ZT p n h):∀(L:List Nat)(st:List Row),(r∈st\/h∈L)->r∈L.foldl (Q8 p n P) st
 |[],st,H=>by rcases H with H|H;exact H;cases H
 |k::L,st,H=>by
  refine uh hz hr L _ ?_;rcases H with H|H
  .left
   unfold Q8;split
   .exact bG _ H
   .exact H
  .rcases ay.mp H with rfl|H
   .left
    unfold Q8;rw[T9 hz];exact bm _ hr
   .exact .inr H
theorem vS:∀(k:Nat)(P:List Row),pZ p n P->P.length=k->P∈ZV p n k
 |0,P,_,h=>by rw[bU.mp h];exact aQ.mpr rfl
 |k+1,P,hP,h=>by
  obtain⟨Q,r,rfl⟩:∃Q r,P=Q++[r]:=#[P.dropLast,P.getLast (λz=>by rw[z]at h;cases h),(fJ _).symm]
  rw[ba,db]at h;have hQ:=hP.init;have hm:r∈Q++[r]:=by simp
  obtain⟨j,j1,j2,j3⟩:=hP.head fld.one0 hm;have hr:=hP.row r hm;obtain⟨g1,g2,g3⟩:=Z9 j1;refine cG.mpr #[Q,vS k Q hQ (by lia),aC.mpr #[r,?_,rfl]]
  have inc:=hP.pn.rf.inc;unfold toP at inc;rw[bD,cz]at inc;have lt:∀q∈Q,(hdI q).getD 0<j:=λq hq=>by
   have:=inc.2.2 q hq r (by simp)
   rw[j1]at this;exact this
  refine uh (h:=j) (aX.mpr λq hq=>T5 ?_) (wo hr j2 ((UL hr).mp j3) g3) _ _<|.inr<|WR.mpr #[?_,j2]
  .have hq':q∈Q++[r]:=bG _ hq
   have:=hP.pn.rf.zer _ (ZY hm) _<|ZY hq';rw[j1]at this;exact(Z3<|hP.row q hq').mp<|this (by have:=lt q hq;show j≠(hdI q).getD 0;lia)
  .unfold Yb
   cases e:Q.getLast? with
   |none=>exact cL _
   |some q=>
    obtain⟨Q',rfl⟩:=eO.mp e;exact lt q (by simp)
noncomputable def ext(p:Nat)(P:List Row):List Row->List Row
 |[]=>[]
 |u::us=>if ZQ p P u=al then ext p P us else u::ext p (Xu p P u) us
theorem GJ:∀{us P:List Row},pZ p n P->(∀u∈us,Zf p n u)->Zz p P (ext p P us)=Zz p P us/\(Zz p P us).length=P.length+(ext p P us).length/\∀e∈ext p P us,Zf p n e
 |[],P,_,_=>#[rfl,rfl,λ_ h=>by cases h]
 |u::us,P,hP,hu=>by
  have h1:=hu u<|ai ..;have h2:∀x∈us,Zf p n x:=λx hx=>hu x<|af _ hx
  have e:ext p P (u::us)=if ZQ p P u=al then ext p P us else u::ext p (Xu p P u) us:=rfl
  have w:Zz p P (u::us)=Zz p (Xu p P u) us:=rfl;rw[e,w];by_cases c:ZQ p P u=al
  .rw[T9 c,jM hP h1 c]
   exact GJ hP h2
  .rw[T8 c]
   have c':ZQ p P u=am:=by simpa using c
   obtain⟨a,b,d⟩:=GJ (W3 hP h1).1 h2;refine#[a,by rw[b,wN hP h1 c',aF];lia,λe he=>?_]
   rcases ay.mp he with rfl|he
   .exact h1
   .exact d e he
theorem ZcD:∀{us P:List Row},pZ p n P->(∀u∈us,Zf p n u)->(Zz p P us).length<=P.length+us.length:=λ{us P} hP hu=>by
 rw[(GJ hP hu).2.1];have:∀(us P:List Row),(ext p P us).length<=us.length:=λus=>by
  induction us with
  |nil=>intro P;exact aM _
  |cons u us ih=>
   intro P;unfold ext;split
   .have:=ih P;rw[aF];lia
   .have:=ih<|Xu p P u;rw[aF,aF];lia
 have:=this us P;lia
def vz{R:List Row}{W:List Row}(hR:∀r∈R,Zf p n r)(hW:pZ p n W)(h:∀r∈R,ZQ p W r=al):∀u,Mm p (Zz p [] R) u->Mm p W u:=
 (Qq (Y6 hR).part hW).mp (aX.mpr<|(Y6 hR).least W hW h)
def Zbx{P Q:List Row}(hP:pZ p n P)(hQ:pZ p n Q)(h:∀u,Mm p P u->Mm p Q u):P.length<=Q.length:=ZbI hP hQ<|(Qq hP hQ).mpr h
theorem ZeA{P Q:List Row}(hP:pZ p n P)(hQ:pZ p n Q)(h:∀u,Mm p P u->Mm p Q u)(hl:Q.length<=P.length):P=Q:=by
 have:=z5 fld.one0 hP.pn.rf hQ.pn.rf h;rw[Xq,Xq]at this;exact eqP hP hQ λu=>#[h u,this.2 (by lia) u]
theorem yC(hn:n<=6){W:List Row}{r:Row}(hW:pZ p n W)(hl:W.length=n)(hr:Zf p n r):ZQ p W r=al:=by
 cases c:ZQ p W r with
 |true=>rfl
 |false=>
  have:=wN hW hr c;have:=VP (W3 hW hr).1;lia
noncomputable def tups(R:List Row):Nat->List (List Row)
 |0=>[[]]
 |m+1=>R.flatMap λr=>(tups R m).map (r :: ·)
theorem yw(R:List Row):∀m,(tups R m).length=R.length^m
 |0=>rfl
 |m+1=>by
  unfold tups;rw[d9];simp only[aq];rw[gx,dG,yw R m,fZ,fD]
theorem YK{R:List Row}:∀{m:Nat}{t:List Row},t∈tups R m↔t.length=m/\∀r∈t,r∈R
 |0,t=>by
  unfold tups;rw[aQ];exact#[λh=>by subst h;exact#[rfl,λ_ h=>by cases h],λh=>bU.mp h.1]
 |m+1,t=>by
  unfold tups;rw[cG]
  constructor
  .rintro ⟨r,hr,h⟩
   obtain⟨u,hu,rfl⟩:=aC.mp h;obtain⟨a,b⟩:=YK.mp hu;refine#[by rw[aF,a],λx hx=>?_]
   rcases ay.mp hx with rfl|hx
   .exact hr
   .exact b x hx
  .rintro ⟨a,b⟩
   cases t with|nil=>cases a|cons r u=>exact#[r,b r<|ai ..,aC.mpr #[u,YK.mpr #[by simpa using a,λx hx=>b x<|af _ hx],rfl]]
theorem uc{R:List Row}(h:R.Nodup):∀m,(tups R m).Nodup
 |0=>by simp[tups]
 |m+1=>by
  unfold tups;unfold List.Nodup at h ⊢;rw[List.flatMap_def,List.pairwise_flatten];refine#[λl hl=>?_,?_]
  .obtain⟨r,_,rfl⟩:=aC.mp hl
   rw[bD];exact(uc h m).imp λ{a b} ne e=>ne (rg e).2
  .rw[bD]
   refine h.imp λ{a b} ne x hx y hy e=>?_
   obtain⟨u,_,rfl⟩:=aC.mp hx;obtain⟨v,_,rfl⟩:=aC.mp hy;exact ne (rg e).1
noncomputable def WD(p:Nat)(E t:List Row):List Row:=on (λe r=>Zj p e r 1) E t
def Va{E t:List Row}(hE:∀e∈E,Zf p n e)(ht:∀r∈t,Zf p n r):∀x∈WD p E t,Zf p n x:=λx hx=>by
 unfold WD at hx;rw[<-fb]at hx;obtain⟨⟨e,r⟩,h,rfl⟩:=aC.mp hx;exact Ze (hE e (fI h).1)<|ht r (fI h).2
theorem QB{E t:List Row}{i:Nat}(h1:i<E.length)(h2:i<t.length):Zj p E[i] t[i] 1∈WD p E t:=by
 unfold WD;refine iD.mpr #[i,by rw[iS];lia,?_]
 rw[List.getElem_zipWith]
def ZaA{a b:Row}(ha:Zf p n a)(hb:Zf p n b):Zj p (Zj p a b 1) b (-1)=a:=by
 have:=uR (k:=-1) ha hb;rw[show(-(-1):Int)=1 from rfl]at this;exact this
variable{P:List Row}
theorem V1(hn:n<=6){E t:List Row}(hP:pZ p n P)(hE:∀e∈E,Zf p n e)(hf:(Zz p P E).length=n)(hl:P.length+E.length=n)(ht:t∈tups (Z0 p n P) E.length) :
  pZ p n (Zz p []<|WD p E t)/\(Zz p []<|WD p E t).length=E.length/\(Zz p P<|Zz p []<|WD p E t).length=n:=by
 obtain⟨t1,t2⟩:=YK.mp ht;have t3:∀r∈t,Zf p n r/\ZQ p P r=al:=λr hr=>(Yf hP r).mp<|t2 r hr
 have hr:=Va hE λr h=>(t3 r h).1
 have S:=Y6 hr;have hJ:=pJ hP S.part;have h1:(Zz p P E).length<=(Zz p P<|Zz p []<|WD p E t).length:=by
  refine Zbx (VC hP hE).1 hJ ?_;rw[<-show Zz p [] (P++E)=Zz p P E by unfold Zz;rw[kP];exact congrArg (λz=>E.foldl (Xu p) z)<|qe hP]
  refine vz (λr h=>by rcases bM.mp h with h|h;exact hP.row r h;exact hE r h) hJ λr h=>?_
  rcases bM.mp h with h|h
  .exact(Zs hJ<|hP.row r h).mpr<|UM hP S.part<|(Zs hP<|hP.row r h).mp<|GF hP h
  .obtain⟨i,hi,rfl⟩:=bw h
   have hti:i<t.length:=by lia
   have hg:=QB (p:=p) hi hti;have hx:=hr _ hg;have b:=t3 _<|aV hti;have ha:=hE _ h;rw[<-ZaA ha b.1];refine Xs hJ hx b.1 ((Zs hJ hx).mpr<|Wf hP S.part<|(Zs S.part hx).mp<|S.holds _ hg)<|(Zs hJ b.1).mpr<|UM hP S.part<|(Zs hP b.1).mp b.2
 have h2:=VP hJ;have h3:(WD p E t).length=E.length:=by unfold WD;rw[iS];lia
 have h4:=ZcD (P:=[]) pZ.nil hr;rw[h3,mj]at h4;have h5:=ZdM hP S.part;exact#[S.part,by lia,by lia]
theorem V2{a b:Row}(ha:Zf p n a)(hb:Zf p n b)(h:∀j,gt (Zj p a b<|-1) j=0):a=b:=by
 refine Yc ha hb<|funext λj=>?_
 have:=(Z3<|Ze (k:=-1) ha hb).mpr<|h j;rw[Zm ha hb,Yt]at this;have e:ph p 1=1:=YW;rw[e]at this;have this:toV p a j + -1*toV p b j=0:=this
 grind
theorem Za5(hn:n<=6){E t u:List Row}(hP:pZ p n P)(hE:∀e∈E,Zf p n e)(hf:(Zz p P E).length=n)(hl:P.length+E.length=n)(ht:t∈tups (Z0 p n P) E.length)(hu:u∈tups (Z0 p n P) E.length)(e:Zz p [] (WD p E t)=Zz p [] (WD p E u)):t=u:=by
 obtain⟨g1,g2,g3⟩:=V1 hn hP hE hf hl ht;obtain⟨t1,t2⟩:=YK.mp ht;obtain⟨u1,u2⟩:=YK.mp hu;have t3:∀r∈t,Zf p n r/\ZQ p P r=al:=λr hr=>(Yf hP r).mp<|t2 r hr
 have u3:∀r∈u,Zf p n r/\ZQ p P r=al:=λr hr=>(Yf hP r).mp<|u2 r hr
 have m:Z7 p P (Zz p []<|WD p E t)=al:=T5 (by lia)
 refine fw (by lia) λi h1 h2=>?_
 have a:=t3 _<|aV h1;have b:=u3 _<|aV h2;have hi:i<E.length:=by lia
 have he:=hE _<|aV hi;have x1:=(Y6<|Va hE λr h=>(t3 r h).1).holds _<|QB (p:=p) hi h1
 have x2:=(Y6<|Va hE λr h=>(u3 r h).1).holds _<|QB (p:=p) hi h2
 rw[<-e]at x2;refine V2 a.1 b.1<|zV hP g1 m (Ze a.1 b.1) (Xs hP a.1 b.1 a.2 b.2) ?_;have:=Xs (k:=-1) g1 (Ze he a.1) (Ze he b.1) x1 x2;have q:Zj p (Zj p E[i] t[i] 1) (Zj p E[i] u[i] 1) (-1)=Zj p t[i] u[i] (-1):=by
  refine Yc (Ze (Ze he a.1)<|Ze he b.1) (Ze a.1 b.1) ?_;rw[Zm (Ze he a.1)<|Ze he b.1,Zm he a.1,Zm he b.1,Zm a.1 b.1,Yt,show ph p 1=1 from YW]
  funext j;grind
 rw[q]at this;exact this
theorem zw(hn:n<=6){Q:List Row}(hP:pZ p n P)(hQ:pZ p n Q)(hJ:(Zz p P Q).length=n):∀(E:List Row),(∀e∈E,Zf p n e)->∃t,t∈tups (Z0 p n P) E.length/\∀x∈WD p E t,ZQ p Q x=al
 |[],_=>#[[],aQ.mpr rfl,λ_ h=>by cases h]
 |e::E,hE=>by
  have he:=hE e<|ai ..;obtain⟨t,ht,hx⟩:=zw hn hP hQ hJ E λx h=>hE x<|af _ h
  have:=(Zs (pJ hP hQ) he).mp<|yC hn (pJ hP hQ) hJ he;obtain⟨q,hq,hp⟩:=(vQ hP hQ _).mp this;obtain⟨b,hb,rfl⟩:=GK<|X8 hQ.pn hq;have hr:Zf p n (Zj p b e<|-1):=Ze hb he;have hpm:ZQ p P (Zj p b e<|-1)=al:=(Zs hP hr).mpr (by
   show Mem _ _;rw[Zm hb he,Yt,show ph p 1=1 from YW]
   have:=XX 1 (Yg (P:=toP p P)) hp;have e:(λj=>(0:Fin p)-1*(toV p e j-toV p b j))=λj=>toV p b j + -1*toV p e j:=by funext j;grind
   rw[e]at this;exact this)
  refine#[Zj p b e (-1)::t,?_,λx h=>?_]
  .obtain⟨a,c⟩:=YK.mp ht
   refine YK.mpr #[by rw[aF,a];rfl,λx h=>?_]
   rcases ay.mp h with rfl|h
   .exact(Yf hP _).mpr #[hr,hpm]
   .exact c x h
  .rcases ay.mp h with rfl|h
   .have:Zj p e (Zj p b e<|-1) 1=b:=by
     refine Yc (Ze he hr) hb ?_;rw[Zm he hr,Zm hb he,Yt,show ph p 1=1 from YW]
     funext j;grind
    show ZQ p Q (Zj p e (Zj p b e<|-1) 1)=al;rw[this];exact(Zs hQ hb).mpr hq
   .exact hx x h
theorem xq(hn:n<=6)(hP:pZ p n P)(nd:(ZV p n<|n-P.length).Nodup):((ZV p n<|n-P.length).filter<|Z7 p P).length=p^(P.length*(n-P.length)):=by
 have hl:=VP hP;obtain⟨x1,x2,x3⟩:=GJ hP<|Jz (p:=p) (n:=n);have hfull:(Zz p P<|units n).length=n:=by
  have hu:=wn (p:=p) (n:=n) hn;have:=Zbx hu (pJ hP hu) λu h=>Wf hP hu h
  rw[qE]at this;have:=VP<|pJ hP hu;lia
 generalize hE:ext p P (units n)=E at x1 x2 x3;have f:(Zz p P E).length=n:=by rw[x1];exact hfull
 have l:P.length+E.length=n:=by lia
 have le:n-P.length=E.length:=by lia
 rw[le]at nd ⊢;have nt:=uc (wE hP) E.length;have c:(tups (Z0 p n P) E.length).length=p^(P.length*E.length):=by rw[yw,yv hP,<-Nat.pow_mul]
 rw[<-c];refine pj ?_ ?_
 .rw[<-aq (f:=λt=>Zz p []<|WD p E t) (as:=tups (Z0 p n P) E.length)]
  refine Wa (e9 _ nd) λQ hQ=>?_
  obtain⟨h1,h2⟩:=cq.mp hQ;obtain⟨q1,q2⟩:=Xg _ Q h1;have h2:(Zz p P Q).length=P.length+Q.length:=T6 h2;obtain⟨t,ht,hx⟩:=zw hn hP q1 (by lia) E x3
  obtain⟨g1,g2,_⟩:=V1 hn hP x3 f l ht;refine aC.mpr #[t,ht,ZeA g1 q1 (vz (Va x3 λr h=>((Yf hP r).mp<|(YK.mp ht).2 r h).1) q1 hx) (by lia)]
 .rw[<-aq (f:=λt=>Zz p []<|WD p E t) (as:=tups (Z0 p n P) E.length)]
  refine Wa ?_ λQ hQ=>?_
  .unfold List.Nodup
   rw[bD];exact dg (λ{t u} ht hu ne e=>ne<|Za5 hn hP x3 f l ht hu e) nt
  .obtain⟨t,ht,rfl⟩:=aC.mp hQ
   obtain⟨g1,g2,g3⟩:=V1 hn hP x3 f l ht;exact cq.mpr #[vS _ _ g1 g2,T5 (by lia)]
theorem jg{Q:List Row}{r:Row}(hn:n<=6)(hP:pZ p n P)(hQ:pZ p n Q)(hJ:(Zz p P Q).length=n)(hr:Zf p n r):∃a,Zf p n a/\ZQ p P a=al/\ZQ p Q (Zj p r a<|-1)=al:=by
 have:=(Zs (pJ hP hQ) hr).mp<|yC hn (pJ hP hQ) hJ hr;rw[ux hP hQ]at this;obtain⟨q,hq,hp⟩:=(vQ hQ hP _).mp this;obtain⟨a,ha,rfl⟩:=GK<|X8 hP.pn hq;refine#[a,ha,(Zs hP ha).mpr hq,(Zs hQ<|Ze hr ha).mpr ?_];show Mem _ _;rw[Zm hr ha,Yt,show ph p 1=1 from YW,show(λj=>toV p r j + -1*toV p a j)=λj=>toV p r j-toV p a j by funext j;grind]
 exact hp
theorem qU{Q:List Row}{a b c d:Row}(hP:pZ p n P)(hQ:pZ p n Q)(hm:Z7 p P Q=al)(ha:Zf p n a)(hb:Zf p n b)(hc:Zf p n c)(hd:Zf p n d)(ma:ZQ p P a=al)(mb:ZQ p Q b=al)(mc:ZQ p P c=al)(md:ZQ p Q d=al)(e:Zj p a b 1=Zj p c d 1):a=c/\b=d:=by
 have q:Zj p a c (-1)=Zj p d b (-1):=by
  refine Yc (Ze ha hc) (Ze hd hb) ?_;have:=congrArg (toV p) e;rw[Zm ha hb,Zm hc hd,show ph p 1=1 from YW]at this
  rw[Zm ha hc,Zm hd hb,Yt,show ph p 1=1 from YW]
  funext j
  have:=congrFun this j;have this:toV p a j+1*toV p b j=toV p c j+1*toV p d j:=this;show toV p a j + -1*toV p c j=toV p d j + -1*toV p b j
  grind
 have z:=zV hP hQ hm (Ze (k:=-1) ha hc) (Xs hP ha hc ma mc) (by rw[q];exact Xs hQ hd hb md mb)
 refine#[V2 ha hc z,?_];rw[q]at z;exact(V2 hd hb z).symm
theorem jC{a b c d:Row}(ha:Zf p n a)(hb:Zf p n b)(hc:Zf p n c)(hd:Zf p n d):Zj p (Zj p a b 1) (Zj p c d 1) 1=Zj p (Zj p a c 1) (Zj p b d 1) 1:=by
 refine Yc (Ze (Ze ha hb)<|Ze hc hd) (Ze (Ze ha hc)<|Ze hb hd) ?_;rw[Zm (Ze ha hb)<|Ze hc hd,Zm (Ze ha hc)<|Ze hb hd,Zm ha hb,Zm hc hd,Zm ha hc,Zm hb hd]
 funext j;grind
theorem XS{r a:Row}(hr:Zf p n r)(ha:Zf p n a):Zj p a (Zj p r a<|-1) 1=r:=by
 refine Yc (Ze ha<|Ze hr ha) hr ?_;rw[Zm ha<|Ze hr ha,Zm hr ha,Yt,show ph p 1=1 from YW]
 funext j;grind
theorem zM{Q:List Row}(hP:pZ p n P)(hQ:pZ p n Q)(hl:P.length+Q.length=n):Z7 p (Ye p n P) (Ye p n Q)=Z7 p P Q:=by
 cases c:Z7 p P Q with
 |true=>exact Jy hP hQ c hl
 |false=>
  cases c':Z7 p (Ye p n P) (Ye p n Q)with
  |false=>rfl
  |true=>
   have h1:=XH hP;have h2:=XH hQ;have:=Jy (pP hP) (pP hQ) c' (by lia)
   rw[Vd hP,Vd hQ,c]at this;cases this
end
open Ev (ltP ZG WU)
noncomputable def QD{B:Type}(lt:B->B->Bool):Nat->List B->List B->List B
 |0,a,b=>a++b
 |_+1,[],b=>b
 |_+1,a,[]=>a
 |f+1,x::a,y::b=>if lt x y then x::QD lt f a (y::b)else y::QD lt f (x::a) b
theorem Wn{B:Type}(lt:B->B->Bool):∀(f:Nat)(a b:List B),(QD lt f a b).Perm (a++b)
 |0,a,b=>bE _
 |_+1,[],b=>bE _
 |_+1,x::a,[]=>by show(x::a).Perm _;simp
 |f+1,x::a,y::b=>by
  unfold QD;split
  .exact(Wn lt f a (y::b)).cons x
  .exact((Wn lt f (x::a) b).cons y).trans ly.symm
noncomputable def JO{B:Type}(lt:B->B->Bool):Nat->List B->List B
 |0,l=>l
 |f+1,l=>if l.length<=1 then l else QD lt l.length (JO lt f<|l.take<|l.length / 2) (JO lt f<|l.drop<|l.length / 2)
theorem WW{B:Type}(lt:B->B->Bool):∀(f:Nat)(l:List B),(JO lt f l).Perm l
 |0,l=>bE _
 |f+1,l=>by
  unfold JO;split
  .exact bE _
  .refine(Wn ..).trans<|((WW lt f _).append<|WW lt f _).trans<|gw<|cC ..
noncomputable def ZfS(n:Nat):List (List Nat):=(aE n).foldl (λl k=>l++l.map λr=>r++[k]) [[]]
noncomputable def ZgE(p:Nat)(aa:List Nat)(h k:Nat):List Int:=if k=h then[1]else if k>h/\k∉aa then(aE p).map λ(j:Nat)=>(j:Int)else[0]
noncomputable def grow{B:Type}(L:List (List B))(M:List B):List (List B):=L.flatMap λx=>M.map λy=>x++[y]
noncomputable def ZeY(p n:Nat)(aa:List Nat)(h:Nat):List Row:=(aE n).foldl (λl k=>grow l<|ZgE p aa h k) [[]]
noncomputable def Zez(p n:Nat)(aa:List Nat):List (List Row):=aa.foldl (λl h=>grow l<|ZeY p n aa h) [[]]
noncomputable def ZgM(p n k:Nat):List (List Row):=((ZfS n).filter λr=>aj<|r.length=k).flatMap<|Zez p n
noncomputable def Zdn{B:Type}(lt:B->B->Bool):List B->Bool
 |[]=>al
 |[_]=>al
 |x::y::l=>lt x y&&Zdn lt (y::l)
theorem GM{B:Type}{lt:B->B->Bool}(O:Sd.StrictB lt):∀{l:List B},Zdn lt l=al->l.Pairwise λa b=>lt a b=al
 |[],_=>.nil
 |[x],_=>d5 ..
 |x::y::l,h=>by
  obtain⟨h1,h2⟩:=(aG _ _).mp h;have ih:=GM O h2;refine aR.mpr #[λz hz=>?_,ih]
  rcases ay.mp hz with rfl|hz
  .exact h1
  .exact O.tr h1<|(aR.mp ih).1 z hz
noncomputable def Zg6(q:Nat×Nat):Bool:=(aE<|q.2+1).all λk=>aj (JO ltP 12 (ZgM q.1 q.2 k)=ZV q.1 q.2 k)&&Zdn ltP (ZV q.1 q.2 k)
def ZcL:∀q∈zz++yQ,Zg6 q=al:=by decide +kernel
def xM{B:Type}{lt:B->B->Bool}(O:Sd.StrictB lt){l:List B}(h:l.Pairwise λa b=>lt a b=al):l.Nodup:=h.imp λ{a b} h e=>by
 subst e;have:=O.asy h;rw[h]at this;cases this
def vY{p n k:Nat}(h:(p,n)∈zz++yQ)(hk:k<=n):(ZV p n k).Pairwise λa b=>ltP a b=al:=
 GM Sd.Z4 ((aG _ _).mp<|aX.mp (ZcL _ h) k<|aN.mpr<|by lia).2
open Ev (vU)
noncomputable def ltZ(a b:Int):Bool:=aj<|a<b
def QW:Sd.StrictB ltZ where
 tr h k:=by unfold ltZ at *;simp at *;lia
 asy h:=by unfold ltZ at *;simp at *;lia
 tot h k:=by unfold ltZ at *;simp at *;lia
noncomputable def ZgK(q:Nat×Nat):Bool:=(aE<|q.2+1).all λk=>Zdn ltZ<|JO ltZ 12<|(ZV q.1 q.2 k).map vU
def xC:∀q∈zz++yQ,ZgK q=al:=by decide +kernel
def vX{p n k:Nat}(h:(p,n)∈zz++yQ)(hk:k<=n):(ZV p n k).length<=1395:=
 T6 (aX.mp (aX.mp ZbD _ h) k<|aN.mpr (by lia))
def ZaO{Ps:List (List Row)}{k:Nat}(h1:Ps.length<=1395)(h2:Ps.Nodup)(h3:∀P∈Ps,P.length=k)(h0:k=0->Ps.length<=1):Ev.Yi Ps=al:=by
 unfold Ev.Yi;rw[aG,aG,gu,T0,T0,T0,aX];refine#[#[by lia,h2],?_]
 cases k with
 |zero=>exact .inl<|h0 rfl
 |succ k=>
  refine .inr λP hP=>?_
  have:=h3 P hP;cases P with|nil=>cases this|cons _ _=>rfl
def Zcy{p n k:Nat}[Base p](hq:(p,n)∈zz++yQ)(hk:k<=n){L:List (List Row)}(hL:L.Sublist (ZV p n k)):Ev.XB L=al/\ZG ltP L=L/\L.length<=1395:=by
 have h:=aX.mp (xC (p,n) hq) k<|aN.mpr (by show k<n+1;lia)
 have hl:=cf hL.length_le<|vX hq hk;have inc:=(vY hq hk).sublist hL;have nd:=xM Sd.Z4 inc;have hh:(L.map vU).Nodup:=((WW ltZ 12 _).nodup_iff.mp<|xM QW<|GM QW h).sublist<|hL.map _;refine#[?_,Zc7 inc nd,hl];unfold Ev.XB;rw[ZaO hl nd (λP h=>(Xg k P<|hL.subset h).2) (λe=>by subst e;exact hL.length_le),rh,aG,T0,T0]
 exact#[by lia,hh]
end Rw
namespace K54
open Ev Pv Rw La
open Ab (okV Ud)
noncomputable def JJ:List (Nat×Nat):=[(2,1),(2,2),(2,3),(2,4),(3,1),(3,2),(3,3),(5,1),(5,2),(2,3),(2,4),(3,3)]
noncomputable def ZdD:List (Nat×Nat):=[(2,5),(2,6),(3,4),(5,3)]
noncomputable def WQ:List (Nat×Nat):=JJ++ZdD
def Zdb:∀q∈WQ,(q.1=2\/q.1=3\/q.1=5)/\1<=q.2/\q.2<=6/\q.1^q.2<=1000:=by decide
def qA(d:Nat){m:Int}(s:DS):∃q s',CV (d+2) 3 [.drw,.int m] s=.ok (spV q.1 q.2) s'/\q∈WQ:=by
 let L:=if m>27 then WQ else JJ
 have hL:12<=L.length/\L.length<=16/\∀q∈L,q∈WQ:=by
  by_cases c:m>27
  .simp only[L,T9 c];exact#[by decide,by decide,λq hq=>hq]
  .simp only[L,T8 c];exact#[by decide,by decide,λq hq=>bG _ hq]
 obtain⟨v,s',f1,f2,f3⟩:=QL (F:=fns) (tk:=2) (d:=d) (m:=L.length) s (by lia) (by lia)
 obtain⟨k,rfl⟩:∃k:Nat,v=k:=#[v.toNat,by lia]
 have hk:k<L.length:=by lia
 refine#[L[k],s',Zq rfl (by decide) rfl ?_,hL.2.2 _<|aV hk]
 show rvs (CV<|d+1) [] X1.body [aa .drw,aa<|.int m,ae] [] s=_
 dsimp only[X1]
 rw[Zi (ρ':=[aa .drw,aa<|.int m,aa<|.lst<|JJ.map λq=>spV q.1 q.2]) (os':=[]) (s':=s) (by simp[pvE,JJ,spV])]
 have e0:pv (CV<|d+1) (.cmp .gt (.v 1)<|.c<|.int 27) [aa .drw,aa<|.int m,aa<|.lst<|JJ.map λq=>spV q.1 q.2] s=.ok (.bl<|aj<|27<m) s:=by
  rw[pv,Zg rfl,Zc,YF,Zc];rfl
 rw[Zi (ρ':=[aa .drw,aa<|.int m,aa<|.lst<|L.map λq=>spV q.1 q.2]) (os':=[]) (s':=s) (by
  rw[xb<|GB e0 rfl];by_cases c:m>27
  .simp only[L,T9 c]
   rw[T5 c,T9 rfl];rw[Zi (ρ':=[aa .drw,aa<|.int m,aa<|.lst<|WQ.map λq=>spV q.1 q.2]) (os':=[]) (s':=s) (by simp[pvE,WQ,JJ,ZdD,spV]),rvs]
  .simp only[L,T8 c]
   rw[T4 c,T8 (by decide),rvs])]
 refine Zt<|ZM ?_;have e1:pv (CV<|d+1) (.blt .len [(.v 2)]) [aa .drw,aa<|.int m,aa<|.lst<|L.map λq=>spV q.1 q.2] s=.ok (.int L.length) s:=by
  rw[pv,Zb (Zg rfl) Zh,Zc];show po (aa<|V.int (L.map λq=>spV q.1 q.2).length) s=_
  rw[aq];rfl
 rw[pv,Zg rfl,Zc,Zk (Zb (Zg rfl)<|Zb e1 Zh) f1,Zc];show po (at' (L.map λq=>spV q.1 q.2) (k:Int)) s'=_
 rw[WV (by rw[aH,ag hk];rfl)];rfl
def QH{C:ZJ}{cap:List Nat}{nl:Nat}{t:List Nat}{it:W}{elt:E}{O:Env}{s s0:DS}{k:Nat}{Q:V->Prop}(hw:pvw C it O s=.ok (ZU 0 k) s0)(hl:k<=lim)(h:∀(x:V)(s:DS),∃Z y s',Zp t x (Z8 cap nl O)=aa Z/\pv C elt Z s=.ok y s'/\Q y)(ho:own nl t=al:=by rfl) :
  ∃ys s',pv C (.comp1 cap nl t it [] elt) O s=.ok (.lst ys) s'/\ys.length=k/\∀y∈ys,Q y:=by
 obtain⟨ys,s',e1,e2,e3⟩:=VS (Q:=Q) (f:=λx s=>(po (Zp t x<|Z8 cap nl O) s).bind λZ s=>(pvt C [] Z s).bind λb s=>if b then(pv C elt Z s).bind λy s=>.ok [y] s else .ok [] s) (λx s=>by
  obtain⟨Z,y,s',f1,f2,f3⟩:=h x s;refine#[y,s',?_,f3];rw[f1,ZX,Zc,pvt,Zc];show(pv C elt Z s).bind _=_;rw[f2];rfl) (ZU 0 k) s0
 have hk:(ZU 0 k).length=k:=by unfold ZU;simp
 refine#[ys,s',?_,by rw[e2,hk],e3]
 rw[pv,T9 ho,hw,Zc,e1,Zc,T9 (by rw[e2,hk];exact hl)];rfl
theorem Jd{p n:Nat}:∀{ys:List V},(∀y∈ys,∃r:Row,y=Zd r/\Zf p n r)->∃R:List Row,ys=R.map Zd/\∀r∈R,Zf p n r
 |[],_=>#[[],rfl,λ_ h=>by cases h]
 |y::ys,h=>by
  obtain⟨R,rfl,hR⟩:=Jd λz hz=>h z<|af _ hz
  obtain⟨r,rfl,hr⟩:=h y<|ai ..;refine#[r::R,rfl,λx hx=>?_]
  rcases ay.mp hx with rfl|hx
  .exact hr
  .exact hR x hx
theorem zh{p:Nat}:∀{ys:List V},(∀y∈ys,∃a:Int,y=.int a/\0<=a/\a<(p:Int))->∃r:Row,ys=r.map V.int/\∀a∈r,0<=a/\a<(p:Int)
 |[],_=>#[[],rfl,λ_ h=>by cases h]
 |y::ys,h=>by
  obtain⟨r,rfl,hr⟩:=zh λz hz=>h z<|af _ hz
  obtain⟨a,rfl,h3⟩:=h y<|ai ..;refine#[a::r,rfl,λx hx=>?_]
  rcases ay.mp hx with rfl|hx
  .exact h3
  .exact hr x hx
section
variable{p n:Nat}[Base p]
theorem J2(d:Nat)(s:DS)(hn:n<=6):∃r s',CV (d+2) 27 [.drw,spV p n] s=.ok (Zd r) s'/\Zf p n r:=by
 have hp:=Vt (p:=p);obtain⟨v,s1,f1,f2,f3⟩:=QL (F:=fns) (tk:=2) (d:=d) (m:=(n:Int)+1) s (by lia) (by lia)
 obtain⟨w,s2,g1,g2,g3⟩:=QL (F:=fns) (tk:=2) (d:=d) (m:=3) s1 (by lia) (by lia)
 obtain⟨k,hk,e0⟩:∃k:Nat,k<=n/\pv (CV<|d+1) (.bin .mul (.call 2 [(.v 0),(.bin .add (.ix (.v 1)<|.c<|.int 1)<|.c<|.int 1)])<|.blt .toInt [(.cmp .eq (.call 2 [(.v 0),(.c<|.int 3)])<|.c<|.int 0)]) [aa .drw,aa<|spV p n,ae] s=.ok (Zn k) s2:=by
  have h1:pv (CV<|d+1) (.bin .add (.ix (.v 1)<|.c<|.int 1)<|.c<|.int 1) [aa .drw,aa<|spV p n,ae] s=.ok (.int<|(n:Int)+1) s:=Vc (ix1 rfl) YF;have h2:pv (CV<|d+1) (.call 2 [(.v 0),(.bin .add (.ix (.v 1)<|.c<|.int 1)<|.c<|.int 1)]) [aa .drw,aa<|spV p n,ae] s=.ok (.int v) s1:=Zk (Zb (Zg rfl)<|Zb h1 Zh) f1;have h3:pv (CV<|d+1) (.call 2 [(.v 0),(.c<|.int 3)]) [aa .drw,aa<|spV p n,ae] s1=.ok (.int w) s2:=Zk (Zb (Zg rfl)<|Zb YF Zh) g1;have h4:pv (CV<|d+1) (.blt .toInt [(.cmp .eq (.call 2 [(.v 0),(.c<|.int 3)])<|.c<|.int 0)]) [aa .drw,aa<|spV p n,ae] s1=.ok (.int<|b2i<|aj<|w=0) s2:=by
   have:pv (CV<|d+1) (.cmp .eq (.call 2 [(.v 0),(.c<|.int 3)])<|.c<|.int 0) [aa .drw,aa<|spV p n,ae] s1=.ok (.bl<|aj<|w=0) s2:=by
    rw[pv,h3,Zc,YF,Zc];rfl
   rw[pv,Zb this Zh];rfl
  by_cases c:w=0
  .refine#[v.toNat,by lia,?_]
   rw[pv,h2,Zc,h4,Zc,T5 c];show(if(fits v&&fits 1)=al then PR.ok (V.int<|v*1) s2 else .no)=_
   rw[T9 (by rw[ZP (by lia) (by lia)];rfl)]
   unfold Zn;rw[show v*1=((v.toNat:Nat):Int) by lia]
  .refine#[0,by lia,?_]
   rw[pv,h2,Zc,h4,Zc,T4 c];show(if(fits v&&fits 0)=al then PR.ok (V.int<|v*0) s2 else .no)=_
   rw[T9 (by rw[ZP (by lia) (by lia)];rfl),Int.mul_zero];rfl
 obtain⟨ys,s3,e1,e2,e3⟩:=qu (C:=CV<|d+1) (cap:=[0,1]) (nl:=1) (t:=[0]) (it:=.rng1<|.bin .sub (.ix (.v 1)<|.c<|.int 1)<|.v 2) (elt:=.call 2 [(.v 1),(.ix (.v 2)<|.c<|.int 0)]) (O:=[aa .drw,aa<|spV p n,aa<|Zn k]) (s:=s2) (k:=n-k) (Q:=λy=>∃a:Int,y=.int a/\0<=a/\a<(p:Int))
  (by
   rw[UC];refine YA ?_ (by lia)
   rw[pv,ix1 rfl,Zc,Zg rfl,Zc];show PR.ok (V.int<|(n:Int)-(k:Int)) s2=_;rw[show(n:Int)-(k:Int)=((n-k:Nat):Int) by lia]) (by unfold lim;lia) (λx s=>by
   obtain⟨v,s',f1,f2,f3⟩:=QL (F:=fns) (tk:=2) (d:=d) (m:=p) s (by lia) (by lia)
   exact#[[aa x,aa .drw,aa<|spV p n],.int v,s',rfl,Zk (Zb (Zg rfl)<|Zb (ix0 rfl) Zh) f1,v,rfl,f2,f3])
 obtain⟨r,rfl,hr⟩:=zh e3;rw[aq]at e2;refine#[az k 0++r,s3,Zq rfl (by decide) rfl ?_,by rw[ba,cg,e2];lia,λa ha=>?_]
 .show rvs (CV<|d+1) [] W6.body [aa .drw,aa<|spV p n,ae] [] s=_
  dsimp only[W6]
  rw[Zi<|Yp e0 rfl];show rvs _ _ _ [aa .drw,aa<|spV p n,aa<|Zn k] [] s2=_;refine Zt<|ZM ?_;have g:pv (CV<|d+1) (.tup [(.c<|.int 0)]) [aa .drw,aa<|spV p n,aa<|Zn k] s2=.ok (.tup [.int 0]) s2:=Zcc YF;have g2:pv (CV<|d+1) (.bin .mul (.tup [(.c<|.int 0)])<|.v 2) [aa .drw,aa<|spV p n,aa<|Zn k] s2=.ok (.tup<|(az k (0:Int)).map V.int) s2:=by
   rw[pv,g,Zc,Zg rfl,Zc];show(if(0:Int)<=k/\(k:Int)<1000/\1<=1000 then PR.ok (V.tup (az (k:Int).toNat [V.int 0]).flatten) s2 else .no)=_
   rw[T9 #[by lia,by lia,by lia],fO,ZdK]
  have g3:pv (CV<|d+1) (.blt .tuple [(.comp1 [0,1] 1 [0] (.rng1<|.bin .sub (.ix (.v 1)<|.c<|.int 1)<|.v 2) []<|.call 2 [(.v 1),(.ix (.v 2)<|.c<|.int 0)])]) [aa .drw,aa<|spV p n,aa<|Zn k] s2=.ok (.tup<|r.map V.int) s3:=by
   rw[pv,Zb e1 Zh];rfl
  rw[pv,g2,Zc,g3,Zc];show(if((az k (0:Int)).map V.int).length+(r.map V.int).length<=lim then PR.ok (V.tup<|(az k (0:Int)).map V.int++r.map V.int) s3 else .no)=_
  rw[T9 (by rw[aq,aq,cg];unfold lim;lia),<-bP];rfl
 .rcases bM.mp ha with ha|ha
  .rw[lc ha];lia
  .exact hr a ha
def wy(d:Nat){i lo hi:Int}(s:DS)(h1:lo<=i)(h2:i<=hi):CV (d+2) 21 [.int i,.int lo,.int hi] s=.ok .non s:=by
 have e:=yZ d (x:=.int i) (lo:=lo) (hi:=hi) s rfl;refine UI (O:=[aa<|.int i,aa<|.int lo,aa<|.int hi]) (os:=[]) rfl (by decide) rfl ?_
 simp[Vf,pvE,e,isW,h1,h2]
end
def xO:∀q∈WQ,q∈zz++yQ:=by decide
def Zau{x:Int}{j:Nat}(h0:0<=x)(h1:x<=((5^j:Nat):Int))(hj:j<=41):fits x=al:=by
 unfold fits;refine T5 ?_;have h2:5^j<=5^41:=dy (by lia) hj
 have h3:x.natAbs<=5^41:=by
  generalize 5^41=u at h2 ⊢;generalize 5^j=v at h1 h2;lia
 exact nC h3 (by decide +kernel)
def ZfH{p:Int}(hp:0<=p/\p<=5):fits p=al:=ZP (by lia) (by lia)
section
variable{p n:Nat}[Base p]
theorem zO(d:Nat){P:List Row}{h:Nat}(s:DS)(hP:∀r∈P,Zf p n r)(hl:P.length<=1000)(hh:h<n):CV (d+1) 17 [Za P,Zn h] s=.ok (.bl<|P.all λr=>aj<|gt r h=0) s:=by
 refine Zq rfl (by decide) rfl ?_
 have hc:=ZK (C:=CV d) (cap:=[1]) (nl:=1) (t:=[0]) (it:=.of<|.v 0) (elt:=.cmp .eq (.ix (.v 0)<|.v 1)<|.c<|.int 0) (O:=[aa<|Za P,aa<|Zn h]) (s:=s) (l:=P) (e:=Zd) (g:=λr=>V.bl<|aj<|gt r h=0)
  (by simp[pvE,Za]) (by unfold lim;lia) (λr hr=>#[_,rfl,by
   have:=WN (by rw[(hP r hr).1];exact hh)
   simp[pvE,Zd,Zn,this,Zr]])
 have ht:=YH (g:=λr:Row=>aj<|gt r h=0) P
 simp[XN,pvE,hc,ht,iU,Function.comp]
theorem Zam{C:ZJ}{O:Env}{s:DS}{a b:E}{i j:Nat}(h1:pv C a O s=.ok (.int i) s)(h2:pv C b O s=.ok (.int j) s)(hi:i<1000000)(hj:j<1000000):pvw C (.rng2 a b) O s=.ok ((aE<|j-i).map λk=>Zn<|i+k) s:=by
 rw[pvw,h1,Zc,h2,Zc];show(if(Xb (i:Int)&&Xb (j:Int))=al then PR.ok (ZU i ((j:Int)-i).toNat) s else .no)=_
 rw[Wq (by lia) (by lia),Wq (by lia) (by lia),T9<|show(al&&al)=al from rfl,show((j:Int)-i).toNat=j-i by lia]
 rfl
theorem ya(d:Nat){h:Nat}(s:DS)(hn:n<=6)(hh:h<n):CV (d+1) 22 [spV p n,Zn h] s=.ok (.lst<|(ZT p n h).map Zd) s:=by
 refine Zq rfl (by decide) rfl ?_
 show rvs (CV d) [] (.asg [2,3] (.v 0) :: .asg [4] (.lst [(.bin .add (.bin .mul (.tup [(.c<|.int 0)])<|.v 1)<|.tup [(.c<|.int 1)])]) :: .forr [5] (.rng2 (.bin .add (.v 1)<|.c<|.int 1)<|.v 3) [.asg [4]<|.comp2 [2] 2 [0] (.of<|.v 4) [] [1] (.rng1<|.v 2) []<|.bin .add (.v 0)<|.tup [(.v 1)]] :: .ret (.v 4)::[]) [aa<|spV p n,aa<|Zn h,ae,ae,ae,ae] [] s=_;have hp:=Vt (p:=p);rw[Zi<|Z6 (p:=p) (n:=n) _ _ (by simp[pvE]) (by simp)]
 have er:=ZdK h;rw[Zi (ρ':=[aa<|spV p n,aa<|Zn h,aa<|.int p,aa<|.int n,aa<|.lst<|[az h (0:Int)++[1]].map Zd,ae]) (os':=[]) (s':=s) (by
  have h1:(h:Int)<1000:=by lia
  have h2:h+1<=lim:=by unfold lim;lia
  have h3:(az h<|V.int 0).length+1<=16777216:=by rw[cg];lia
  rw[fH]at er;have h4:h<=16777215:=by lia
  simp[pvE,Zn,h1,er,Zd,h4])]
 obtain⟨o',hI,e⟩:=Vh (t:=[5]) (it:=.rng2 (.bin .add (.v 1)<|.c<|.int 1)<|.v 3) (b:=[.asg [4]<|.comp2 [2] 2 [0] (.of<|.v 4) [] [1] (.rng1<|.v 2) []<|.bin .add (.v 0)<|.tup [(.v 1)]]) (L:=aE<|n-(h+1)) (O:=λst o=>[aa<|spV p n,aa<|Zn h,aa<|.int p,aa<|.int n,aa<|.lst<|st.map Zd,o]) (st:=[az h (0:Int)++[1]]) (os:=[]) (λl st=>st.length*5^l.length<=15625/\∀r∈st,r.length+l.length<=1000)
  (Zam (by simp[pvE,Zn]) (by simp[pvE]) (by lia)<|by lia) #[by
   have:5^(n-(h+1))<=5^6:=dy (by lia) (by lia)
   simp only[db,a7];lia,λr hr=>by rw[aQ.mp hr];simp;lia] rfl (λx l st o hst=>by
  obtain⟨h3,h4⟩:=hst;have hsl:(Xl p st).length=st.length*p:=yF st;have hb:st.length*p*5^l.length<=15625:=by
   have:st.length*p<=st.length*5:=mZ _ (by lia)
   have h4:st.length*p*5^l.length<=st.length*5*5^l.length:=mP _ this;rw[aF,fZ]at h3;have h5:st.length*5*5^l.length=st.length*(5^l.length*5):=by rw[k9,fD 5]
   lia
  have hlim:=cf (lC _<|oY<|by lia) hb
  refine#[#[by rw[hsl];exact hb,λr hr=>?_],rfl,_,aa<|Zn<|h+1+x,rfl,?_]
  .unfold Xl at hr
   obtain⟨q,hq,hr⟩:=cG.mp hr;obtain⟨k,_,rfl⟩:=aC.mp hr;have:=h4 q hq;rw[aF]at this;rw[ba,db];lia
  .show rvs (CV d) [] _ [aa<|spV p n,aa<|Zn h,aa<|.int p,aa<|.int n,aa<|.lst<|st.map Zd,aa<|Zn<|h+1+x] [] s=_
   have hc:=UV (C:=CV d) (cap:=[2]) (nl:=2) (t:=[0]) (u:=[1]) (it:=.of<|.v 4) (jt:=.rng1<|.v 2) (elt:=.bin .add (.v 0)<|.tup [(.v 1)]) (O:=[aa<|spV p n,aa<|Zn h,aa<|.int p,aa<|.int n,aa<|.lst<|st.map Zd,aa<|Zn<|h+1+x]) (s:=s) (l:=st) (e:=Zd) (m:=λ_=>aE p) (g:=λr k=>Zd<|r++[(k:Int)])
    (by simp[pvE]) (by rw[d9];simp only[aq,a7];rw[gx,dG];unfold lim;lia) (λr hr=>#[_,rfl,by
     exact YA (Zg rfl) (by lia),λk hk=>#[_,rfl,by
     have hr':=h4 r hr;have h6:r.length+1<=16777216:=by lia
     simp[pvE,Zd,Zn,h6]]])
   have ef:(st.flatMap λr=>(aE p).map λ(k:Nat)=>Zd<|r++[(k:Int)])=(Xl p st).map Zd:=by
    unfold Xl;rw[lD];exact congrArg (λf=>st.flatMap f)<|funext λr=>by rw[bC];rfl
   rw[ef]at hc;rw[Zi<|Yp hc rfl,rvs];rfl)
 rw[Zi e];exact Zt<|ZM<|Zg rfl
end
section
variable{p n:Nat}[Base p]
theorem Zaz{C:ZJ}{O:Env}{s:DS}{a b:E}{i j:Nat}(h1:pv C a O s=.ok (.int i) s)(h2:pv C b O s=.ok (.int j) s)(hi:i<1000000)(hj:j<1000000):pvw C (.rrng a b) O s=.ok ((W7 j i).map Zn) s:=by
 rw[pvw,h1,Zc,h2,Zc];show(if(Xb (i:Int)&&Xb (j:Int))=al then PR.ok (ZU i ((j:Int)-i).toNat).reverse s else .no)=_
 rw[Wq (by lia) (by lia),Wq (by lia) (by lia),T9<|show(al&&al)=al from rfl,show((j:Int)-i).toNat=j-i by lia]
 unfold W7 ZU;rw[fY,bC];rfl
theorem ZbY{r:Row}{P:List Row}:at' ((P++[r]).map Zd) (-1)=aa (Zd r):=by
 have e:ixN ((P++[r]).map Zd).length (-1)=aa P.length:=by
  rw[aq,ba,db];unfold ixN;rw[T8 (by lia),T9 (by lia),show(-1+((P.length+1:Nat):Int)).toNat=P.length by lia]
 unfold at';rw[e];show((P++[r]).map Zd)[P.length]?=_;rw[aH,bh<|aM _,Nat.sub_self];rfl
def ZaR(d:Nat){P:List Row}{v:V}{a2 a3 a4:Option V}(s:DS)(hP:pZ p n P):pv (CV<|d+1) (.ite (.v 1) (.bin .add (.call 6 [(.ix (.v 1)<|.neg<|.c<|.int 1)])<|.c<|.int 1)<|.c<|.int 0) [aa v,aa<|Za P,a2,a3,a4] s=.ok (Zn<|Yb P) s:=by
 unfold Yb;cases e:P.getLast? with
 |none=>
  rw[kz]at e;subst e;simp[pvE,Za,Zn]
 |some r=>
  obtain⟨P',rfl⟩:=eO.mp e;obtain⟨k,h1,h2,h3⟩:=hP.head fld.one0 (r:=r) (by simp)
  have e1:=XR d r s;rw[h1]at e1;have e2:pv (CV<|d+1) (.ix (.v 1)<|.neg<|.c<|.int 1) [aa v,aa<|Za<|P'++[r],a2,a3,a4] s=.ok (Zd r) s:=by
   have:=ZbY (r:=r) (P:=P');simp only[bP,bi,nN]at this;simp[pvE,Za,this]
  have e3:pv (CV<|d+1) (.call 6 [(.ix (.v 1)<|.neg<|.c<|.int 1)]) [aa v,aa<|Za<|P'++[r],a2,a3,a4] s=.ok (.int k) s:=Zk (Zb e2 Zh) e1;have e4:pv (CV<|d+1) (.v 1) [aa v,aa<|Za<|P'++[r],a2,a3,a4] s=.ok (Za<|P'++[r]) s:=Zg rfl;rw[pv,e4,Zc];show(po (aa<|!((P'++[r]).map Zd).isEmpty) s).bind _=_;have:((P'++[r]).map Zd).isEmpty=am:=by cases P'<;>rfl
  rw[this,ZX,Zc];show pv (CV<|d+1) (.bin .add _ _) _ s=_;rw[pv,e3,Zc,pv];simp[h1,pvE,Zn]
theorem Ur:∀L:List Row,Xe (L.map Zd)=al
 |[]=>rfl
 |r::L=>by
  show(V.flat (Zd r)&&Xe (L.map Zd))=al;rw[Ur L,rc];exact XT r
theorem yS(d:Nat){P:List Row}(s:DS)(hn:n<=6)(hP:pZ p n P):CV (d+2) 23 [.lst<|(aE n).map λh=>.lst<|(ZT p n h).map Zd,Za P] s=.ok (.lst<|(zd p n P).map Zd) s:=by
 refine Zq rfl (by decide) rfl ?_
 have hd:=dsum hP;have hp:=Vt (p:=p)
 let v:V:=.lst<|(aE n).map λh=>.lst<|(ZT p n h).map Zd
 show rvs (CV<|d+1) [3] (.asg [2] (.ite (.v 1) (.bin .add (.call 6 [(.ix (.v 1)<|.neg<|.c<|.int 1)])<|.c<|.int 1)<|.c<|.int 0) :: .asg [3] (.lst []) :: .forr [4] (.rrng (.v 2)<|.blt .len [(.v 0)]) [.ite (.call 17 [(.v 1),(.v 4)]) [.ex<|.mt .extend (.v 3) [(.ix (.v 0)<|.v 4)]] []] :: .ret (.v 3)::[]) [aa v,aa<|Za P,ae,ae,ae] [] s=_;rw[Zi<|Yp (ZaR d s hP) rfl];rw[Zi (ρ':=[aa v,aa<|Za P,aa<|Zn<|Yb P,aa<|.lst<|([]:List Row).map Zd,ae]) (by
  rw[rv];simp[pvE];rfl)]
 have hf:Yb P<=n:=by
  unfold Yb;cases e:P.getLast? with
  |none=>exact cL _
  |some r=>
   obtain⟨P',rfl⟩:=eO.mp e;have:=hP.pn.lt _ (ZY (show r∈P'++[r] by simp))
   exact this
 obtain⟨o',hI,e⟩:=Vh (t:=[4]) (it:=.rrng (.v 2)<|.blt .len [(.v 0)]) (b:=[.ite (.call 17 [(.v 1),(.v 4)]) [.ex<|.mt .extend (.v 3) [(.ix (.v 0)<|.v 4)]] []]) (L:=W7 n<|Yb P) (step:=Q8 p n P) (O:=λst o=>[aa v,aa<|Za P,aa<|Zn<|Yb P,aa<|.lst<|st.map Zd,o]) (λl st=>(∀h∈l,h<n)/\st.length+15625*l.length<=100000)
  (by
   have e1:pv (CV<|d+1) (.blt .len [(.v 0)]) (hide [3] [aa v,aa<|Za P,aa<|Zn<|Yb P,aa<|.lst<|([]:List Row).map Zd,ae]) s=.ok (.int n) s:=by
    simp[pvE,v]
   exact Zaz (by simp[pvE,Zn]) e1 (by lia)<|by lia) #[λh hh=>(WR.mp hh).2,by
   unfold W7;simp;lia] rfl (λx l st o hst=>by
  obtain⟨h1,h2⟩:=hst;have hx:=h1 x<|ai ..;have hl:(ZT p n x).length<=15625:=by
   rw[(Jf hx).2];have a1:p^(n-(x+1))<=5^(n-(x+1)):=m3 (by lia) _
   have a2:5^(n-(x+1))<=5^6:=dy (by lia) (by lia)
   lia
  have e2:=zO d s hP.row (by lia) hx
  rw[aF]at h2;refine#[#[λh hh=>h1 h<|af _ hh,?_],rfl,_,aa<|Zn x,rfl,?_]
  .unfold Q8
   split
   .rw[ba];lia
   .lia
  .show rvs (CV<|d+1) [3] _ [aa v,aa<|Za P,aa<|Zn<|Yb P,aa<|.lst<|st.map Zd,aa<|Zn x] [3] s=_
   have e3:Xz (CV<|d+1) (.call 17 [(.v 1),(.v 4)]) [aa v,aa<|Za P,aa<|Zn<|Yb P,aa<|.lst<|st.map Zd,aa<|Zn x] s=.ok (P.all λr=>aj<|gt r x=0) s:=GB (Zk (Zb (Zg rfl)<|Zb (Zg rfl) Zh) e2) rfl
   unfold Q8;by_cases c:(P.all λr=>aj<|gt r x=0)=al
   .rw[T9 c]
    have e4:at' ((aE n).map λh=>V.lst<|(ZT p n h).map Zd) (x:Int)=aa (.lst<|(ZT p n x).map Zd):=WV (by rw[aH,bO hx];rfl)
    have e5:rv (CV<|d+1) [3] (.ex<|.mt .extend (.v 3) [(.ix (.v 0)<|.v 4)]) [aa v,aa<|Za P,aa<|Zn<|Yb P,aa<|.lst<|st.map Zd,aa<|Zn x] [3] s=.ok (.nx [aa v,aa<|Za P,aa<|Zn<|Yb P,aa<|.lst<|(st++ZT p n x).map Zd,aa<|Zn x] [3]) s:=by
     have e6:pv (CV<|d+1) (.ix (.v 0)<|.v 4) (hide [3] [aa v,aa<|Za P,aa<|Zn<|Yb P,aa<|.lst<|st.map Zd,aa<|Zn x]) s=.ok (.lst<|(ZT p n x).map Zd) s:=by
      simp[pvE,v,Zn,e4]
     rw[rv,T9 (by rfl)]
     show(PR.ok (st.map Zd) s).bind _=_;rw[Zc,e6,Zc];show(if Xe ((ZT p n x).map Zd)=al/\(st.map Zd).length+((ZT p n x).map Zd).length<=lim then _ else _)=_
     rw[T9 #[Ur _,by rw[aq,aq];unfold lim;lia],bP]
     rfl
    rw[Zi ((xb e3).trans (by rw[T9 c,Zi e5,rvs])),rvs]
   .rw[T8 c]
    rw[Zi ((xb e3).trans (by rw[T8 c,rvs])),rvs])
 rw[Zi e];exact Zt<|ZM<|Zg rfl
theorem Jw(d:Nat){k:Nat}(s:DS)(hn:n<=6)(hk:k<=n)(hl:∀j,j<=n->(ZV p n j).length<=1395):CV (d+3) 24 [spV p n,Zn k] s=.ok (.lst<|(ZV p n k).map Za) s:=by
 refine Zq rfl (by decide) rfl ?_
 show rvs (CV<|d+2) [] (.asg [2,3] (.v 0) :: .ex (.call 21 [(.v 1),(.c<|.int 0),(.v 3)]) :: .asg [4] (.comp1 [0] 1 [0] (.rng1<|.v 3) []<|.call 22 [(.v 1),(.v 0)]) :: .asg [5] (.lst [(.tup [])]) :: .forr [6] (.rng1<|.v 1) [.asg [5]<|.comp2 [4] 2 [0] (.of<|.v 5) [] [1] (.of<|.call 23 [(.v 2),(.v 0)]) []<|.bin .add (.v 0)<|.tup [(.v 1)]] :: .ret (.v 5)::[]) [aa<|spV p n,aa<|Zn k,ae,ae,ae,ae,ae] [] s=_;rw[Zi<|Z6 (p:=p) (n:=n) _ _ (by simp[pvE]) (by simp)]
 show rvs (CV<|d+2) [] _ [aa<|spV p n,aa<|Zn k,aa<|.int p,aa<|.int n,ae,ae,ae] [] s=_;rw[Zi<|X5<|Zk (Zb (Zg rfl)<|Zb (by rw[pv];rfl)<|Zb (Zg rfl) Zh)<|wy d s (by lia) (by lia)]
 have hc:=ZK (cap:=[0]) (nl:=1) (t:=[0]) (it:=.rng1<|.v 3) (elt:=.call 22 [(.v 1),(.v 0)]) (O:=[aa<|spV p n,aa<|Zn k,aa<|.int p,aa<|.int n,ae,ae,ae])
  (YA (Zg rfl)<|by lia) (by rw[a7];unfold lim;lia) (λh hh=>#[_,rfl,Zk (Zb (Zg rfl)<|Zb (Zg rfl) Zh)<|ya (d+1) s hn<|aN.mp hh])
 rw[Zi<|Yp hc rfl]
 let v:V:=.lst<|(aE n).map λh=>.lst<|(ZT p n h).map Zd
 show rvs (CV<|d+2) [] _ [aa<|spV p n,aa<|Zn k,aa<|.int p,aa<|.int n,aa v,ae,ae] [] s=_;rw[Zi (ρ':=[aa<|spV p n,aa<|Zn k,aa<|.int p,aa<|.int n,aa v,aa<|.lst<|(ZV p n 0).map Za,ae]) (os':=[]) (s':=s) (by simp[pvE,ZV,Za])]
 obtain⟨o',hI,e⟩:=Vh (t:=[6]) (it:=.rng1<|.v 1) (b:=[.asg [5]<|.comp2 [4] 2 [0] (.of<|.v 5) [] [1] (.of<|.call 23 [(.v 2),(.v 0)]) []<|.bin .add (.v 0)<|.tup [(.v 1)]]) (step:=λPs _=>zk p n Ps) (O:=λst o=>[aa<|spV p n,aa<|Zn k,aa<|.int p,aa<|.int n,aa v,aa<|.lst<|st.map Za,o]) (os:=[]) (λl st=>∃j,j+l.length=k/\st=ZV p n j)
  (YA (Zg rfl)<|by lia) #[0,by simp,rfl] rfl (λx l st o hst=>by
  obtain⟨j,hj,rfl⟩:=hst;rw[aF]at hj;refine#[#[j+1,by lia,rfl],rfl,_,aa<|Zn x,rfl,?_]
  show rvs (CV<|d+2) [] _ [aa<|spV p n,aa<|Zn k,aa<|.int p,aa<|.int n,aa v,aa<|.lst<|(ZV p n j).map Za,aa<|Zn x] [] s=_;have ef:((ZV p n j).flatMap λP=>(zd p n P).map λr=>Za<|P++[r])=(ZV p n<|j+1).map Za:=by
   show _=(zk p n<|ZV p n j).map Za;unfold zk;rw[lD];exact congrArg (λf=>(ZV p n j).flatMap f)<|funext λP=>by rw[bC];rfl
  have hc:=UV (cap:=[4]) (nl:=2) (t:=[0]) (u:=[1]) (it:=.of<|.v 5) (jt:=.of<|.call 23 [(.v 2),(.v 0)]) (elt:=.bin .add (.v 0)<|.tup [(.v 1)]) (O:=[aa<|spV p n,aa<|Zn k,aa<|.int p,aa<|.int n,aa v,aa<|.lst<|(ZV p n j).map Za,aa<|Zn x]) (l:=ZV p n j) (e:=Za)
   (by simp[pvE]) (by rw[ef,aq];have:=hl (j+1) (by lia);unfold lim;lia) (λP hP=>by
    obtain⟨h1,h2⟩:=Xg j P hP;refine#[_,rfl,?_,λr hr=>#[_,rfl,?_]]
    .rw[pvw,Zk (Zb (Zg rfl)<|Zb (Zg rfl) Zh)<|yS d s hn h1]
     rfl
    .have h3:P.length+1<=16777216:=by lia
     simp[pvE,Za,h3])
  rw[ef]at hc;rw[Zi<|Yp hc rfl,rvs];rfl)
 have ek:(aE k).foldl (λPs _=>zk p n Ps) (ZV p n 0)=ZV p n k:=by
  obtain⟨j,h1,h2⟩:=hI;rw[h2];rw[mj]at h1;rw[show j=k by lia]
 rw[ek]at e;rw[Zi e];exact Zt<|ZM<|Zg rfl
end
theorem zN(P:List Row):∀L:List (List Row),Xx (Za P) (L.map Za)=aa (L.contains P)
 |[]=>rfl
 |x::L=>by
  show(match eqV Zr (Za x) (Za P),Xx (Za P) (L.map Za)with|some a,aa b=>aa (a||b)|_,_=>ae)=_
  rw[show eqV Zr (Za x) (Za P)=aa (aj<|x=P)from U6 3 x P,zN P L,fE]
  have e:(aj<|x=P)=(P == x):=by
   by_cases h:x=P
   .subst h;rw[T5 rfl,beq_self_eq_true]
   .rw[T4 h,beq_false_of_ne λz=>h z.symm]
  rw[e]
theorem zx:∀Ps:List (List Row),Yy (Ps.map Za)=aa Ps
 |[]=>rfl
 |P::Ps=>by
  show(match xo (Za P),Yy (Ps.map Za)with
   |some a,aa b=>aa (a::b)
   |_,_=>ae)=_
  rw[zx Ps,show xo (Za P)=aa P from Y5 P]
def uB(k:Nat)(a b:List (List Row)):eqV (k+4) (.lst<|a.map Za) (.lst<|b.map Za)=aa (aj<|a=b):=by
 show(if(a.map Za).length=(b.map Za).length then YE (eqV<|k+3) (a.map Za) (b.map Za)else aa am)=_
 obtain⟨c,e1,e2⟩:=VG (f:=eqV<|k+3) (e:=Za) (d:=λa b=>aj<|a=b) (λa b=>by simp) (λa b=>U6 k a b) a b
 split
 .rw[e1,show c=aj (a=b) by rw[bN,e2];simp]
 .rename_i h
  have:¬a=b:=λz=>h (by rw[z])
  simp[this]
section
variable{C:ZJ}{a b:E}{O:Env}{s:DS}
def wR{xs:List V}(h1:pv C a O s=.ok (.lst xs) s):pv C (.blt .len [a]) O s=.ok (.int xs.length) s:=by
 rw[pv,Zb h1 Zh];rfl
def qB{A B:List (List Row)}(h1:pv C a O s=.ok (.lst<|A.map Za) s)(h2:pv C b O s=.ok (.lst<|B.map Za) s)(h:A=B):pv C (.cmp .ne a b) O s=.ok (.bl am) s:=by
 rw[pv,h1,Zc,h2,Zc];show po ((eqV Zr (.lst<|A.map Za)<|.lst<|B.map Za).map λb=>V.bl !b) s=_
 rw[show eqV Zr (.lst<|A.map Za) (.lst<|B.map Za)=aa (aj<|A=B)from uB 2 A B,T5 h];rfl
def jN{L:List (List Row)}(h1:pv C a O s=.ok (.lst<|L.map Za) s)(h:XB L=al):pv C (.blt .sortedU [a]) O s=.ok (.lst<|(ZG ltP L).map Za) s:=by
 rw[pv,Zb h1 Zh,Zc];show po ((Yy<|L.map Za).bind λps=>if XB ps=al then aa (V.lst<|(ZG ltP ps).map Za)else ae) s=_
 rw[zx];show po (if XB L=al then aa (V.lst<|(ZG ltP L).map Za)else ae) s=_
 rw[T9 h];rfl
def sub_int{x y:Int}(h1:pv C a O s=.ok (.int x) s)(h2:pv C b O s=.ok (.int y) s):pv C (.bin .sub a b) O s=.ok (.int<|x-y) s:=by rw[pv,h1,Zc,h2,Zc];rfl
def mul_int{x y:Int}(h1:pv C a O s=.ok (.int x) s)(h2:pv C b O s=.ok (.int y) s)(f1:fits x=al)(f2:fits y=al):pv C (.bin .mul a b) O s=.ok (.int<|x*y) s:=by
 rw[pv,h1,Zc,h2,Zc];show(if(fits x&&fits y)=al then PR.ok (V.int<|x*y) s else .no)=_
 rw[f1,f2];rfl
def ZaI{P:List Row}{L:List (List Row)}(h1:pv C a O s=.ok (Za P) s)(h2:pv C b O s=.ok (.lst<|L.map Za) s):pv C (.cmp .inn a b) O s=.ok (.bl<|L.contains P) s:=by
 rw[pv,h1,Zc,h2,Zc];show po ((Xx (Za P)<|L.map Za).map V.bl) s=_;rw[zN];rfl
def GN{x y:Int}(h1:pv C a O s=.ok (.int x) s)(h2:pv C b O s=.ok (.int y) s):pv C (.cmp .eq a b) O s=.ok (.bl<|aj<|x=y) s:=by
 rw[pv,h1,Zc,h2,Zc];rfl
def Zec{r:Row}(h1:pv C a O s=.ok (Zd r) s)(h2:pv C b O s=.ok (Zd r) s):pv C (.cmp .ne a b) O s=.ok (.bl am) s:=by
 rw[pv,h1,Zc,h2,Zc];show po ((eqV Zr (Zd r)<|Zd r).map λb=>V.bl !b) s=_
 rw[show eqV Zr (Zd r) (Zd r)=aa (aj<|r=r)from wW 4 r r,T5 rfl];rfl
def ixl{xs:List V}{v:V}{k:Nat}(h1:pv C a O s=.ok (.lst xs) s)(h2:pv C b O s=.ok (.int k) s)(hk:xs[k]?=aa v):pv C (.ix a b) O s=.ok v s:=by
 rw[pv,h1,Zc,h2,Zc];show po (at' xs (k:Int)) s=_;rw[WV hk];rfl
def ixt{xs:List V}{v:V}{k:Nat}(h1:pv C a O s=.ok (.tup xs) s)(h2:pv C b O s=.ok (.int k) s)(hk:xs[k]?=aa v):pv C (.ix a b) O s=.ok v s:=by
 rw[pv,h1,Zc,h2,Zc];show po (at' xs (k:Int)) s=_;rw[WV hk];rfl
def ZeZ{ms:List Nat}{t:E}{x l:List Sm}{s':DS}(h:pv C t O s=.ok (.bl am) s'):rvs C ms (.ite t x []::l) O [] s=rvs C ms l O [] s':=by
 rw[Zi (ρ':=O) (os':=[]) (s':=s') (by rw[xb<|GB h rfl,T8 (by simp),rvs])]
def ZbW{B:Type}{ms os t:List Nat}{it:W}{b:List Sm}{L:List B}{e:B->V}{s0:DS}(I:List B->Env->Prop)(hw:pvw C it (hide os O) s0=.ok (L.map e) s)(hI:I L O)(ht:(t.any os.contains)=am)
  (h:∀x l O,I (x::l) O->∃ρ1 ρ',Zp t (e x) O=aa ρ1/\rvs C ms b ρ1 os s=.ok (.nx ρ' os) s/\I l ρ') :
  ∃ρ',I [] ρ'/\rv C ms (.forr t it b) O os s0=.ok (.nx ρ' os) s:=by
 rw[rv,hw,Zc];clear hw
 induction L generalizing O with
 |nil=>exact#[O,hI,rfl]
 |cons x L ih=>
  obtain⟨ρ1,ρ',b1,b2,b3⟩:=h x L O hI;obtain⟨ρ2,c1,c2⟩:=ih b3;refine#[ρ2,c1,?_];rw[bi,Wo,T8 (by rw[ht];simp),b1,ZX,Zc,b2,Zc]
  exact c2
end
noncomputable def XV(p n:Nat)(P Q:List Row)(r:Row):Row:=((Z0 p n P).filter λa=>ZQ p Q<|Zj p r a<|-1).headD []
noncomputable def Ys(p n:Nat)(P Q:List Row)(r:Row):List Row:=[XV p n P Q r,Zj p r (XV p n P Q r)<|-1]
section
variable{p n:Nat}[Base p]
def Go{P Q:List Row}{r:Row}(hn:n<=6)(hP:pZ p n P)(hQ:pZ p n Q)(hJ:(Zz p P Q).length=n)(hr:Zf p n r):Zf p n (XV p n P Q r)/\ZQ p P (XV p n P Q r)=al/\ZQ p Q (Zj p r (XV p n P Q r)<|-1)=al/\((Z0 p n P).filter λa=>ZQ p Q<|Zj p r a<|-1)[0]?=aa (XV p n P Q r):=by
 obtain⟨a,h1,h2,h3⟩:=jg hn hP hQ hJ hr;have hm:a∈(Z0 p n P).filter λa=>ZQ p Q (Zj p r a<|-1):=cq.mpr #[(Yf hP a).mpr #[h1,h2],h3]
 unfold XV;cases e:(Z0 p n P).filter λa=>ZQ p Q (Zj p r a<|-1)with
 |nil=>rw[e]at hm;cases hm
 |cons x l=>
  have hx:x∈(Z0 p n P).filter λa=>ZQ p Q (Zj p r a<|-1):=by rw[e];exact ai ..
  obtain⟨g1,g2⟩:=cq.mp hx;obtain⟨g3,g4⟩:=(Yf hP x).mp g1;exact#[g3,g4,g2,rfl]
theorem GR(d:Nat){P Q:List Row}(s:DS)(hn:n<=6)(hP:pZ p n P)(hQ:pZ p n Q):CV (d+6) 25 [spV p n,Za P,Za Q] s=.ok (.bl<|Z7 p P Q) s:=by
 refine Zq rfl (by decide) rfl ?_
 show rvs (CV<|d+5) [] Uc.body [aa<|spV p n,aa<|Za P,aa<|Za Q] [] s=_
 dsimp only[Uc]
 have e1:pv (CV<|d+5) (.call 11 [(.v 0),(.v 1),(.v 2)]) [aa<|spV p n,aa<|Za P,aa<|Za Q] s=.ok (Za<|Zz p P Q) s:=YS (Zg rfl) (Zg rfl) (Zg rfl)<|Xh d s hn hP hQ.row rfl;refine Zt<|ZM ?_;rw[GN (Yn e1)<|Vc (Yn<|Zg rfl)<|Yn<|Zg rfl];unfold Z7;rw[show aj (((Zz p P Q).length:Int)=(P.length:Int)+(Q.length:Int))=aj ((Zz p P Q).length=P.length+Q.length)from decide_eq_decide.mpr (by lia)]
def miss(d:Nat){P Q:List Row}(s:DS)(hn:n<=6)(hP:pZ p n P)(hQ:pZ p n Q):CV (d+7) 36 [spV p n,Za P,Za Q] s=.ok (.bl<|Z7 p P Q) s:=by
 refine Zq rfl (by decide) rfl ?_
 show rvs (CV<|d+6) [] wf.body [aa<|spV p n,aa<|Za P,aa<|Za Q] [] s=_
 dsimp only[wf]
 rw[Zi<|X5<|YS (Zg rfl) (Zg rfl) (Zg rfl)<|X2 (d+1) s hn hP hQ];exact Zt<|ZM<|YS (Zg rfl) (Zg rfl) (Zg rfl)<|GR d s hn hP hQ
theorem W8(d:Nat){P Q:List Row}(s:DS)(hn:n<=6)(hP:pZ p n P)(hQ:pZ p n Q):CV (d+7) 29 [spV p n,Za P,Za Q] s=.ok (.bl<|aj (P.length+Q.length=n)&&Z7 p P Q) s:=by
 refine Zq rfl (by decide) rfl ?_
 show rvs (CV<|d+6) [] XI.body [aa<|spV p n,aa<|Za P,aa<|Za Q,ae,ae] [] s=_
 dsimp only[XI]
 rw[Zi<|X5<|YS (Zg rfl) (Zg rfl) (Zg rfl)<|X2 (d+1) s hn hP hQ];rw[Zi<|Z6 (p:=p) (n:=n) _ _ (by show pv _ _ _ _=_;exact Zg rfl) #[rfl,rfl]]
 show rvs _ _ _ [aa<|spV p n,aa<|Za P,aa<|Za Q,aa<|.int p,aa<|.int n] [] s=_;have e:=GN (C:=CV<|d+6) (O:=[aa<|spV p n,aa<|Za P,aa<|Za Q,aa<|.int p,aa<|.int n]) (a:=.bin .add (.blt .len [(.v 1)])<|.blt .len [(.v 2)]) (b:=.v 4) (s:=s) (Vc (Yn<|Zg rfl)<|Yn<|Zg rfl)<|Zg rfl;rw[show aj ((P.length:Int)+(Q.length:Int)=n)=aj (P.length+Q.length=n)from decide_eq_decide.mpr<|by lia]at e
 exact Zt<|ZM<|Zet e<|YS (Zg rfl) (Zg rfl) (Zg rfl)<|GR d s hn hP hQ
theorem xu(d:Nat){P:List Row}(s:DS)(hn:n<=6)(hP:pZ p n P)(hl:∀j,j<=n->(ZV p n j).length<=1395):CV (d+7) 26 [spV p n,Za P] s=.ok (.lst<|((ZV p n<|n-P.length).filter<|Z7 p P).map Za) s:=by
 have lP:=VP hP;refine Zq rfl (by decide) rfl ?_
 show rvs (CV<|d+6) [] XQ.body [aa<|spV p n,aa<|Za P,ae,ae] [] s=_
 dsimp only[XQ]
 rw[Zi<|X5<|Ui (Zg rfl) (Zg rfl)<|Y3 (d+2) s hn hP];rw[Zi<|Z6 (p:=p) (n:=n) _ _ (by show pv _ _ _ _=_;exact Zg rfl) #[rfl,rfl]]
 show rvs _ _ _ [aa<|spV p n,aa<|Za P,aa<|.int p,aa<|.int n] [] s=_;have e1:pv (CV<|d+6) (.bin .sub (.v 3)<|.blt .len [(.v 1)]) [aa<|spV p n,aa<|Za P,aa<|.int p,aa<|.int n] s=.ok (Zn<|n-P.length) s:=by
  rw[sub_int (Zg rfl)<|Yn<|Zg rfl,show(n:Int)-(P.length:Int)=((n-P.length:Nat):Int) by lia];rfl
 have hc:=Wl (C:=CV<|d+6) (cap:=[0,1]) (nl:=1) (t:=[0]) (it:=.of<|.call 24 [(.v 0),(.bin .sub (.v 3)<|.blt .len [(.v 1)])]) (tst:=.call 25 [(.v 1),(.v 2),(.v 0)]) (elt:=.v 0) (O:=[aa<|spV p n,aa<|Za P,aa<|.int p,aa<|.int n]) (s:=s) (l:=ZV p n<|n-P.length) (e:=Za) (g:=Za) (q:=Z7 p P)
  (by rw[pvw,Ui (Zg rfl) e1<|Jw (d+3) s hn (by lia) hl];rfl) (by have:=hl (n-P.length) (by lia);unfold lim;lia) (λQ hQ=>#[[aa<|Za Q,aa<|spV p n,aa<|Za P],.bl<|Z7 p P Q,rfl,YS (Zg rfl) (Zg rfl) (Zg rfl)<|GR d s hn hP (Xg _ Q hQ).1,rfl,λ_=>Zg rfl])
 exact Zt<|ZM hc
theorem ZeQ(d:Nat){P Q:List Row}{r:Row}(s:DS)(hn:n<=6)(hp:p^n<=1000)(hP:pZ p n P)(hQ:pZ p n Q)(hl:P.length+Q.length=n)(hm:Z7 p P Q=al)(hr:Zf p n r):CV (d+8) 32 [spV p n,Za P,Za Q,Zd r] s=.ok (Za<|Ys p n P Q r) s:=by
 have hJ:(Zz p P Q).length=n:=by have:(Zz p P Q).length=P.length+Q.length:=T6 hm;lia
 obtain⟨o1,o2,o3,o4⟩:=Go hn hP hQ hJ hr;have hE:(Z0 p n P).length<=1000:=by
  rw[yv hP];have p2:=Vt (p:=p);exact cf (dy (by lia)<|by lia) hp
 refine Zq rfl (by decide) rfl ?_
 show rvs (CV<|d+7) [] QK.body [aa<|spV p n,aa<|Za P,aa<|Za Q,aa<|Zd r,ae,ae,ae] [] s=_
 dsimp only[QK]
 have e0:=W8 d s hn hP hQ;rw[hm,T5 hl]at e0;rw[guard<|Zep (c:=al)<|YS (Zg rfl) (Zg rfl) (Zg rfl) e0];rw[Zi<|X5<|Ui (Zg rfl) (Zg rfl)<|Qc (d+4) s hn hr];rw[Zi<|Z6 (p:=p) (n:=n) _ _ (by show pv _ _ _ _=_;exact Zg rfl) #[rfl,rfl]]
 show rvs _ _ _ [aa<|spV p n,aa<|Za P,aa<|Za Q,aa<|Zd r,aa<|.int p,aa<|.int n,ae] [] s=_;have hc:=ZK (C:=CV<|d+7) (cap:=[4,3]) (nl:=1) (t:=[0]) (it:=.of<|.call 30 [(.v 0),(.v 1)]) (elt:=.tup [(.v 0),(.call 4 [(.v 1),(.v 2),(.v 0),(.neg<|.c<|.int 1)])]) (O:=[aa<|spV p n,aa<|Za P,aa<|Za Q,aa<|Zd r,aa<|.int p,aa<|.int n,ae]) (s:=s) (l:=Z0 p n P) (e:=Zd) (g:=λa=>Za [a,Zj p r a<|-1])
  (by rw[pvw,Ui (Zg rfl) (Zg rfl)<|Zb4 (d+2) s hn hP];rfl) (by unfold lim;lia) (λa ha=>#[[aa<|Zd a,aa<|.int p,aa<|Zd r],rfl,by
   have e1:pv (CV<|d+7) (.call 4 [(.v 1),(.v 2),(.v 0),(.neg<|.c<|.int 1)]) [aa<|Zd a,aa<|.int p,aa<|Zd r] s=.ok (Zd<|Zj p r a<|-1) s:=Zk (Zb (Zg rfl)<|Zb (Zg rfl)<|Zb (Zg rfl)<|Zb (by rw[pv,YF];rfl) Zh)<|WT (d+6) (n:=n) s hn hr ((Yf hP a).mp ha).1 (by lia)
   rw[pv,Zb (Zg rfl)<|Zb e1 Zh];rfl])
 rw[Zi<|Yp hc rfl];show rvs _ _ _ [aa<|spV p n,aa<|Za P,aa<|Za Q,aa<|Zd r,aa<|.int p,aa<|.int n,aa<|.lst<|(Z0 p n P).map λa=>Za [a,Zj p r a<|-1]] [] s=_
 have hf:=Wl (C:=CV<|d+7) (cap:=[0,2]) (nl:=2) (t:=[0,1]) (it:=.of<|.v 6) (tst:=.call 31 [(.v 2),(.v 3),(.v 1)]) (elt:=.tup [(.v 0),(.v 1)]) (O:=[aa<|spV p n,aa<|Za P,aa<|Za Q,aa<|Zd r,aa<|.int p,aa<|.int n,aa<|.lst<|(Z0 p n P).map λa=>Za [a,Zj p r a<|-1]]) (s:=s) (l:=Z0 p n P) (e:=λa=>Za [a,Zj p r a<|-1]) (g:=λa=>Za [a,Zj p r a<|-1]) (q:=λa=>ZQ p Q<|Zj p r a<|-1)
  (by rw[pvw,Zg rfl];rfl) (by unfold lim;lia) (λa ha=>#[[aa<|Zd a,aa<|Zd<|Zj p r a<|-1,aa<|spV p n,aa<|Za Q],_,rfl,YS (Zg rfl) (Zg rfl) (Zg rfl)<|w4 (d+3) s hn hQ<|Ze hr ((Yf hP a).mp ha).1,rfl,λ_=>by rw[pv,Zb (Zg rfl)<|Zb (Zg rfl) Zh];rfl])
 exact Zt<|ZM<|ixl (k:=0) hf YF (by rw[aH,o4];rfl)
theorem GZ(d:Nat){P Q:List Row}(s:DS)(hn:n<=6)(hp:p^n<=1000)(hP:pZ p n P)(hQ:pZ p n Q)(hl:P.length+Q.length=n)(hm:Z7 p P Q=al):∃s',CV (d+9) 35 [.drw,spV p n,Za P,Za Q] s=.ok (.bl al) s':=by
 have hJ:(Zz p P Q).length=n:=by have:(Zz p P Q).length=P.length+Q.length:=T6 hm;lia
 obtain⟨x,s1,e1,hx⟩:=J2 (p:=p) (n:=n) (d+6) s hn;obtain⟨y,s2,e2,hy⟩:=J2 (p:=p) (n:=n) (d+6) s1 hn;have hz:Zf p n (Zj p x y 1):=Ze hx hy;obtain⟨x1,x2,x3,_⟩:=Go hn hP hQ hJ hx;obtain⟨y1,y2,y3,_⟩:=Go hn hP hQ hJ hy;obtain⟨z1,z2,z3,_⟩:=Go hn hP hQ hJ hz;refine#[s2,Zq rfl (by decide) rfl ?_]
 show rvs (CV<|d+8) [] Yl.body [aa .drw,aa<|spV p n,aa<|Za P,aa<|Za Q,ae,ae,ae] [] s=_
 dsimp only[Yl]
 rw[Zi (ρ':=[aa .drw,aa<|spV p n,aa<|Za P,aa<|Za Q,aa<|Zd x,aa<|Zd y,ae]) (os':=[]) (s':=s2) (by
  rw[rv];show(pvs _ _ _ _).bind _=_;rw[Zb (Zk (Zb (Zg rfl)<|Zb (Zg rfl) Zh) e1)<|Zb (Zk (Zb (Zg rfl)<|Zb (Zg rfl) Zh) e2) Zh,Zc];rfl)]
 have e3:pv (CV<|d+8) (.call 33 [(.v 1),(.v 4),(.c<|.int 1),(.v 5)]) [aa .drw,aa<|spV p n,aa<|Za P,aa<|Za Q,aa<|Zd x,aa<|Zd y,ae] s2=.ok (Zd<|Zj p x y 1) s2:=Zk (Zb (Zg rfl)<|Zb (Zg rfl)<|Zb YF<|Zb (Zg rfl) Zh)<|Vp (d+7) s2 hn hx hy (by lia)
 have hc:=ZK (C:=CV<|d+8) (cap:=[1,2,3]) (nl:=1) (t:=[0]) (it:=.of<|.tup [(.v 4),(.v 5),(.call 33 [(.v 1),(.v 4),(.c<|.int 1),(.v 5)])]) (elt:=.call 32 [(.v 1),(.v 2),(.v 3),(.v 0)]) (O:=[aa .drw,aa<|spV p n,aa<|Za P,aa<|Za Q,aa<|Zd x,aa<|Zd y,ae]) (s:=s2) (l:=[x,y,Zj p x y 1]) (e:=Zd) (g:=λr=>Za<|Ys p n P Q r)
  (by rw[pvw,pv,Zb (Zg rfl)<|Zb (Zg rfl)<|Zb e3 Zh];rfl) (by show 3<=_;unfold lim;lia) (λr hr=>#[[aa<|Zd r,aa<|spV p n,aa<|Za P,aa<|Za Q],rfl,Zk (Zb (Zg rfl)<|Zb (Zg rfl)<|Zb (Zg rfl)<|Zb (Zg rfl) Zh) (ZeQ d s2 hn hp hP hQ hl hm (by
   rcases ay.mp hr with rfl|hr
   .exact hx
   .rcases ay.mp hr with rfl|hr
    .exact hy
    .rw[aQ.mp hr];exact hz))])
 rw[Zi<|Yp hc rfl];show rvs _ _ _ [aa .drw,aa<|spV p n,aa<|Za P,aa<|Za Q,aa<|Zd x,aa<|Zd y,aa<|.lst [Za<|Ys p n P Q x,Za<|Ys p n P Q y,Za<|Ys p n P Q<|Zj p x y 1]] [] s2=_;have t0:∀{Z:Env}{i k:Nat},Z[i]?=aa (aa<|.lst [Za<|Ys p n P Q x,Za<|Ys p n P Q y,Za<|Ys p n P Q<|Zj p x y 1])->∀{v:V},[Za<|Ys p n P Q x,Za<|Ys p n P Q y,Za<|Ys p n P Q<|Zj p x y 1][k]?=aa v->pv (CV<|d+8) (.ix (.v i)<|.c<|.int k) Z s2=.ok v s2:=λh _ hk=>ixl (Zg h) YF hk
 have a0:pv (CV<|d+8) (.ix (.ix (.v 6)<|.c<|.int 0)<|.c<|.int 0) [aa .drw,aa<|spV p n,aa<|Za P,aa<|Za Q,aa<|Zd x,aa<|Zd y,aa<|.lst [Za<|Ys p n P Q x,Za<|Ys p n P Q y,Za<|Ys p n P Q<|Zj p x y 1]] s2=.ok (Zd<|XV p n P Q x) s2:=ixt (k:=0) (t0 (k:=0) rfl rfl) YF rfl;have b0:pv (CV<|d+8) (.ix (.ix (.v 6)<|.c<|.int 0)<|.c<|.int 1) [aa .drw,aa<|spV p n,aa<|Za P,aa<|Za Q,aa<|Zd x,aa<|Zd y,aa<|.lst [Za<|Ys p n P Q x,Za<|Ys p n P Q y,Za<|Ys p n P Q<|Zj p x y 1]] s2=.ok (Zd<|Zj p x (XV p n P Q x)<|-1) s2:=ixt (k:=1) (t0 (k:=0) rfl rfl) YF rfl
 have hb:Zf p n (Zj p x (XV p n P Q x)<|-1):=Ze hx x1;have hb':Zf p n (Zj p y (XV p n P Q y)<|-1):=Ze hy y1;have g1:=Vp (d+7) (k:=1) s2 hn x1 hb (by lia)
 rw[XS hx x1]at g1;rw[guard<|Zec (Zk (Zb (Zg rfl)<|Zb a0<|Zb YF<|Zb b0 Zh) g1)<|Zg rfl];have h1:=holds (d+3) s2 hn hP x1;have h2:=holds (d+3) s2 hn hQ hb;rw[x2]at h1;rw[x3]at h2;rw[guard<|Zbm (yh<|YS (Zg rfl) (Zg rfl) a0 h1)<|yh<|YS (Zg rfl) (Zg rfl) b0 h2];have hc2:=ZK (C:=CV<|d+8) (cap:=[1,6]) (nl:=1) (t:=[0]) (it:=.rng1<|.c<|.int 2) (elt:=.call 33 [(.v 1),(.ix (.ix (.v 2)<|.c<|.int 0)<|.v 0),(.c<|.int 1),(.ix (.ix (.v 2)<|.c<|.int 1)<|.v 0)]) (O:=[aa .drw,aa<|spV p n,aa<|Za P,aa<|Za Q,aa<|Zd x,aa<|Zd y,aa<|.lst [Za<|Ys p n P Q x,Za<|Ys p n P Q y,Za<|Ys p n P Q<|Zj p x y 1]]) (s:=s2) (l:=aE 2) (e:=Zn) (g:=λi=>Zd (if i=0 then Zj p (XV p n P Q x) (XV p n P Q y) 1 else Zj p (Zj p x (XV p n P Q x)<|-1) (Zj p y (XV p n P Q y)<|-1) 1))
  (YA (n:=2) YF<|by lia) (by unfold lim;decide) (λi hi=>#[[aa<|Zn i,aa<|spV p n,aa<|.lst [Za<|Ys p n P Q x,Za<|Ys p n P Q y,Za<|Ys p n P Q<|Zj p x y 1]],rfl,by
   have hi:=aN.mp hi;by_cases c:i=0
   .subst c
    rw[T9 rfl];exact Zk (Zb (Zg rfl)<|Zb (ixt (k:=0) (t0 (k:=0) rfl rfl) (Zg rfl) rfl)<|Zb YF<|Zb (ixt (k:=0) (t0 (k:=1) rfl rfl) (Zg rfl) rfl) Zh)<|Vp (d+7) s2 hn x1 y1 (by lia)
   .have c:i=1:=by lia
    subst c;rw[T8 (by lia)]
    exact Zk (Zb (Zg rfl)<|Zb (ixt (k:=1) (t0 (k:=0) rfl rfl) (Zg rfl) rfl)<|Zb YF<|Zb (ixt (k:=1) (t0 (k:=1) rfl rfl) (Zg rfl) rfl) Zh)<|Vp (d+7) s2 hn hb hb' (by lia)])
 have ht:pv (CV<|d+8) (.blt .tuple [(.comp1 [1,6] 1 [0] (.rng1<|.c<|.int 2) []<|.call 33 [(.v 1),(.ix (.ix (.v 2)<|.c<|.int 0)<|.v 0),(.c<|.int 1),(.ix (.ix (.v 2)<|.c<|.int 1)<|.v 0)])]) [aa .drw,aa<|spV p n,aa<|Za P,aa<|Za Q,aa<|Zd x,aa<|Zd y,aa<|.lst [Za<|Ys p n P Q x,Za<|Ys p n P Q y,Za<|Ys p n P Q<|Zj p x y 1]] s2=.ok (Za [Zj p (XV p n P Q x) (XV p n P Q y) 1,Zj p (Zj p x (XV p n P Q x)<|-1) (Zj p y (XV p n P Q y)<|-1) 1]) s2:=by
  rw[pv,Zb hc2 Zh];rfl
 obtain⟨q1,q2⟩:=qU hP hQ hm z1 (Ze hz z1) (Ze x1 y1) (Ze hb hb') z2 z3 (Xs hP x1 y1 x2 y2) (Xs hQ hb hb' x3 y3) (by
  rw[XS hz z1,<-jC x1 hb y1 hb',XS hx x1,XS hy y1])
 have hE:=v4 (t0 (Z:=[aa .drw,aa<|spV p n,aa<|Za P,aa<|Za Q,aa<|Zd x,aa<|Zd y,aa<|.lst [Za<|Ys p n P Q x,Za<|Ys p n P Q y,Za<|Ys p n P Q<|Zj p x y 1]]) (i:=6) (k:=2) rfl rfl) ht;rw[T5<|by unfold Ys;rw[q2,q1]]at hE
 exact Zt<|ZM hE
end
def Zeu{C:ZJ}{O:Env}{s s1 s2:DS}{f:Nat}{x y:E}{v w r:V}(h1:pv C x O s=.ok v s)(h2:pv C y O s=.ok w s1)(h:C f [v,w] s1=.ok r s2):pv C (.call f [x,y]) O s=.ok r s2:=Zk (Zb h1<|Zb h2 Zh) h
noncomputable def vp:List Sm:=[.ite (.or (.cmp .ne (.call 36 [(.v 3),(.v 4),(.v 9)])<|.cmp .eq (.call 40 [(.v 3),(.v 4),(.v 9)])<|.tup [])<|.cmp .ne (.cmp .inn (.v 9)<|.v 5)<|.call 36 [(.v 3),(.v 4),(.v 9)]) [.ret<|.c<|.bl am] [],
  .ite (.cmp .ne (.call 29 [(.v 3),(.v 4),(.v 9)])<|.cmp .eq (.blt .len [(.call 39 [(.v 3),(.v 4),(.v 9)])])<|.ix (.v 3)<|.c<|.int 1) [.ret<|.c<|.bl am] [],
  .ite (.cmp .ne (.call 29 [(.v 3),(.call 38 [(.v 3),(.v 4)]),(.call 38 [(.v 3),(.v 9)])])<|.call 29 [(.v 3),(.v 4),(.v 9)]) [.ret<|.c<|.bl am] []]
noncomputable def Qe:List Sm:=[.asg [3]<|.call 3 [(.v 2),(.ix (.lst [(.c<|.int 27),(.c<|.int 125)])<|.blt .toInt [(.cmp .eq (.v 1)<|.c<|.int 0)])],
  .asg [4] (.call 15 [(.v 3),(.comp1 [2,3] 1 [0] (.rng1<|.call 2 [(.v 2),(.bin .add (.ix (.v 3)<|.c<|.int 1)<|.c<|.int 1)]) []<|.call 27 [(.v 1),(.v 2)])]),
  .asg [5] (.call 26 [(.v 3),(.v 4)]),
  .asg [6] (.c<|.int 1),
  .forr [7] (.rng1<|.bin .mul (.blt .len [(.v 4)])<|.bin .sub (.ix (.v 3)<|.c<|.int 1)<|.blt .len [(.v 4)]) [.asg [6]<|.bin .mul (.v 6)<|.ix (.v 3)<|.c<|.int 0],
  .ite (.or (.cmp .ne (.blt .len [(.v 5)])<|.v 6)<|.cmp .ne (.blt .sortedU [(.v 5)])<|.v 5) [.ret<|.c<|.bl am] [],
  .asg [8] (.call 24 [(.v 3),(.bin .sub (.ix (.v 3)<|.c<|.int 1)<|.blt .len [(.v 4)])]),
  .forr [9] (.of<|.comp1 [8,2] 1 [0] (.rng1<|.c<|.int 4) []<|.ix (.v 1)<|.call 2 [(.v 2),(.blt .len [(.v 1)])]) vp,
  .ite (.not<|.call 35 [(.v 2),(.v 3),(.v 4),(.ix (.v 5)<|.call 2 [(.v 2),(.v 6)])]) [.ret<|.c<|.bl am] []]
noncomputable abbrev kE(o:Option V)(k p n:Nat)(P:List Row)(x5 x6 x7 x8 x9:Option V):Env:=[o,aa<|.int k,aa .drw,aa<|spV p n,aa<|Za P,x5,x6,x7,x8,x9]
section
variable{p n:Nat}[Base p]
theorem qb(d:Nat){o:Option V}{k:Nat}(s:DS)(hn:n<=6):∃(R:List Row)(s':DS),pv (CV<|d+3) (.comp1 [2,3] 1 [0] (.rng1<|.call 2 [(.v 2),(.bin .add (.ix (.v 3)<|.c<|.int 1)<|.c<|.int 1)]) []<|.call 27 [(.v 1),(.v 2)]) [o,aa<|.int k,aa .drw,aa<|spV p n,ae,ae,ae,ae,ae,ae] s=.ok (.lst<|R.map Zd) s'/\∀r∈R,Zf p n r:=by
 obtain⟨v,s1,f1,f2,f3⟩:=QL (F:=fns) (tk:=2) (d:=d+2) (m:=(n:Int)+1) s (by lia) (by lia)
 obtain⟨j,rfl⟩:∃j:Nat,v=j:=#[v.toNat,by lia]
 obtain⟨ys,s2,e1,e2,e3⟩:=QH (C:=CV<|d+3) (cap:=[2,3]) (nl:=1) (t:=[0]) (it:=.rng1<|.call 2 [(.v 2),(.bin .add (.ix (.v 3)<|.c<|.int 1)<|.c<|.int 1)]) (elt:=.call 27 [(.v 1),(.v 2)]) (O:=[o,aa<|.int k,aa .drw,aa<|spV p n,ae,ae,ae,ae,ae,ae]) (s:=s) (s0:=s1) (k:=j) (Q:=λy=>∃r:Row,y=Zd r/\Zf p n r)
  (by
   rw[UC];exact YA (Zk (Zb (Zg rfl)<|Zb (Vc (ix1 rfl) YF) Zh) f1)<|by lia) (by unfold lim;lia) (λx s=>by
   obtain⟨r,s',g1,g2⟩:=J2 (p:=p) (n:=n) (d+1) s hn;exact#[[aa x,aa .drw,aa<|spV p n],Zd r,s',rfl,Zk (Zb (Zg rfl)<|Zb (Zg rfl) Zh) g1,r,rfl,g2])
 obtain⟨R,rfl,hR⟩:=Jd e3;exact#[R,s2,e1,hR]
theorem jy(d:Nat){o x5:Option V}{k:Nat}{P:List Row}(s:DS)(hP:P.length<=n)(hn:n<=6):∃b,rv (CV<|d+10) [] (.forr [7] (.rng1<|.bin .mul (.blt .len [(.v 4)])<|.bin .sub (.ix (.v 3)<|.c<|.int 1)<|.blt .len [(.v 4)]) [.asg [6]<|.bin .mul (.v 6)<|.ix (.v 3)<|.c<|.int 0]) (kE o k p n P x5 (aa<|.int 1) ae ae ae) [] s=.ok (.nx (kE o k p n P x5 (aa<|.int ((p^(P.length*(n-P.length)):Nat):Int)) b ae ae) []) s:=by
 have hp:=Vt (p:=p);have hm:P.length*(n-P.length)<=36:=kc (show P.length<=6 by lia) (show n-P.length<=6 by lia)
 have ew:pv (CV<|d+10) (.bin .mul (.blt .len [(.v 4)])<|.bin .sub (.ix (.v 3)<|.c<|.int 1)<|.blt .len [(.v 4)]) (kE o k p n P x5 (aa<|.int 1) ae ae ae) s=.ok (.int ((P.length*(n-P.length):Nat):Int)) s:=by
  have e:=sub_int (C:=CV<|d+10) (a:=.ix (.v 3)<|.c<|.int 1) (b:=.blt .len [(.v 4)]) (O:=kE o k p n P x5 (aa<|.int 1) ae ae ae) (s:=s) (ix1 rfl)<|Yn<|Zg rfl;rw[show(n:Int)-(P.length:Int)=((n-P.length:Nat):Int) by lia]at e
  rw[mul_int (Yn<|Zg rfl) e (ZP (by lia)<|by lia) (ZP (by lia) (by lia)),mi]
 obtain⟨b,hI,e⟩:=Vh (C:=CV<|d+10) (ms:=[]) (os:=[]) (t:=[7]) (it:=.rng1<|.bin .mul (.blt .len [(.v 4)])<|.bin .sub (.ix (.v 3)<|.c<|.int 1)<|.blt .len [(.v 4)]) (b:=[.asg [6]<|.bin .mul (.v 6)<|.ix (.v 3)<|.c<|.int 0]) (L:=aE<|P.length*(n-P.length)) (e:=Zn) (step:=λ(i:Nat) _=>i+1) (O:=λi x=>kE o k p n P x5 (aa<|.int ((p^i:Nat):Int)) x ae ae) (st:=0) (o:=ae) (s:=s)
  (λl i=>i+l.length=P.length*(n-P.length)) (YA ew<|by lia) (by simp) rfl (λx l i a hi=>by
   rw[aF]at hi;have h1:((p^i:Nat):Int)<=((5^i:Nat):Int):=by
    have:p^i<=5^i:=m3 (by lia) i
    lia
   refine#[by show i+1+l.length=_;lia,rfl,kE o k p n P x5 (aa<|.int ((p^i:Nat):Int)) (aa<|Zn x) ae ae,aa<|Zn x,rfl,?_]
   rw[Zi (Yp (mul_int (Zg rfl) (ix0 rfl) (Zau (by lia) h1<|by lia)<|ZfH<|by lia) rfl),rvs]
   show PR.ok (FlV.nx (kE o k p n P x5 (aa<|.int<|((p^i:Nat):Int)*p) (aa<|Zn x) ae ae) []) s=_;rw[<-mi,<-fZ])
 simp only[mj,nY]at hI;rw[hI]at e;exact#[b,e]
theorem jU(d:Nat){o x6 x7 x8:Option V}{k:Nat}{P Q:List Row}{L:List (List Row)}(s:DS)(hn:n<=6)(hP:pZ p n P)(hQ:pZ p n Q)(hl:P.length+Q.length=n)(hL:L.contains Q=Z7 p P Q) :
  rvs (CV<|d+10) [] vp (kE o k p n P (aa<|.lst<|L.map Za) x6 x7 x8<|aa<|Za Q) [] s=.ok (.nx (kE o k p n P (aa<|.lst<|L.map Za) x6 x7 x8<|aa<|Za Q) []) s:=by
 have hJ:=pJ hP hQ;have e1:=miss (d+3) s hn hP hQ;have e2:=met (d+2) s hn hP hQ;have e3:=W8 (d+3) s hn hP hQ;have e4:=joined (d+4) s hn hP hQ;have p1:=XH hP;have p2:=XH hQ;have e5:=W8 (d+3) s hn (pP hP)<|pP hQ;rw[zM hP hQ hl,T5<|show(Ye p n P).length+(Ye p n Q).length=n by lia]at e5
 rw[T5 hl]at e3;have t0:pv (CV<|d+10) (.tup []) (kE o k p n P (aa<|.lst<|L.map Za) x6 x7 x8<|aa<|Za Q) s=.ok (Za []) s:=by rw[pv,Zh];rfl
 unfold vp;rw[guard (Zbm (wJ (YS (Zg rfl) (Zg rfl) (Zg rfl) e1) (v4 (YS (Zg rfl) (Zg rfl) (Zg rfl) e2) t0) (by
  rw[bN,Ua hP hQ,T0]))<|wJ (ZaI (Zg rfl)<|Zg rfl) (YS (Zg rfl) (Zg rfl) (Zg rfl) e1) hL)]
 rw[guard (wJ (YS (Zg rfl) (Zg rfl) (Zg rfl) e3) (GN (Yn<|YS (Zg rfl) (Zg rfl) (Zg rfl) e4)<|ix1 rfl) (by
  rw[rh];unfold Z7;exact decide_eq_decide.mpr (by lia)))]
 rw[guard<|wJ (YS (Zg rfl) (Ui (Zg rfl) (Zg rfl)<|Vl (d+3) s hn hP) (Ui (Zg rfl) (Zg rfl)<|Vl (d+3) s hn hQ) e5) (YS (Zg rfl) (Zg rfl) (Zg rfl) e3) rfl,rvs]
theorem Qu{A:List (List Row)}:∀{ys:List V},(∀y∈ys,∃Q,y=Za Q/\Q∈A)->∃R:List (List Row),ys=R.map Za/\∀r∈R,r∈A
 |[],_=>#[[],rfl,λ_ h=>by cases h]
 |y::ys,h=>by
  obtain⟨R,rfl,hR⟩:=Qu λz hz=>h z<|af _ hz
  obtain⟨r,rfl,hr⟩:=h y<|ai ..;refine#[r::R,rfl,λx hx=>?_]
  rcases ay.mp hx with rfl|hx
  .exact hr
  .exact hR x hx
theorem jz(d:Nat)(o:Option V)(k:Nat){P:List Row}(s:DS)(hn:n<=6)(hp:p^n<=1000)(hq:(p,n)∈zz++yQ)(hP:pZ p n P):∃O os s',rvs (CV<|d+10) [] (Qe.drop 2) (kE o k p n P ae ae ae ae ae) [] s=.ok (.nx O os) s'/\O[0]?=aa o/\O.length=10:=by
 have lP:=VP hP;have hl:∀j,j<=n->(ZV p n j).length<=1395:=λj hj=>vX hq hj
 have hk:n-P.length<=n:=by lia
 have inc:=vY hq hk;have nd:=xM Sd.Z4 inc;obtain⟨u1,u2,u3⟩:=Zcy hq hk (L:=(ZV p n<|n-P.length).filter<|Z7 p P) (List.filter_sublist);have bl:=xq hn hP nd;have pos:0<p^(P.length*(n-P.length)):=oY (by have:=Vt (p:=p);lia)
 unfold Qe;show ∃O os s',rvs _ _ (_::_) _ _ _=PR.ok (FlV.nx O os) s'/\_;rw[Zi<|Yp (Ui (Zg rfl) (Zg rfl)<|xu (d+3) s hn hP hl) rfl];rw[Zi<|Yp YF rfl];generalize hL:(ZV p n<|n-P.length).filter (Z7 p P)=L at u1 u2 u3 bl;show ∃O os s',rvs _ _ _ (kE o k p n P (aa<|.lst<|L.map Za) (aa<|.int 1) ae ae ae) [] s=PR.ok (FlV.nx O os) s'/\_;obtain⟨b,e1⟩:=jy (p:=p) (n:=n) d (o:=o) (x5:=aa<|.lst<|L.map Za) (k:=k) s lP hn;rw[Zi e1];rw[guard<|Zbm (ne_int (wR<|Zg rfl) (Zg rfl)<|by rw[aq,bl])<|qB (jN (Zg rfl) u1) (Zg rfl) u2]
 have e2:pv (CV<|d+10) (.bin .sub (.ix (.v 3)<|.c<|.int 1)<|.blt .len [(.v 4)]) (kE o k p n P (aa<|.lst<|L.map Za) (aa<|.int ((p^(P.length*(n-P.length)):Nat):Int)) b ae ae) s=.ok (Zn<|n-P.length) s:=by
  rw[sub_int (ix1 rfl)<|Yn<|Zg rfl,show(n:Int)-(P.length:Int)=((n-P.length:Nat):Int) by lia];rfl
 rw[Zi<|Yp (Ui (Zg rfl) e2<|Jw (d+7) s hn hk hl) rfl];show ∃O os s',rvs _ _ _ (kE o k p n P (aa<|.lst<|L.map Za) (aa<|.int ((p^(P.length*(n-P.length)):Nat):Int)) b (aa<|.lst<|(ZV p n<|n-P.length).map Za) ae) [] s=PR.ok (FlV.nx O os) s'/\_;have hpos:0<(ZV p n<|n-P.length).length:=by
  have:=h8 (Z7 p P)<|ZV p n<|n-P.length;rw[hL]at this;lia
 have hA:=hl _ hk;obtain⟨ys,s1,e3,_,e4⟩:=QH (C:=CV<|d+10) (cap:=[8,2]) (nl:=1) (t:=[0]) (it:=.rng1<|.c<|.int 4) (elt:=.ix (.v 1)<|.call 2 [(.v 2),(.blt .len [(.v 1)])]) (O:=kE o k p n P (aa<|.lst<|L.map Za) (aa<|.int ((p^(P.length*(n-P.length)):Nat):Int)) b (aa<|.lst<|(ZV p n<|n-P.length).map Za) ae) (s:=s) (s0:=s) (k:=4) (Q:=λy=>∃Q,y=Za Q/\Q∈ZV p n (n-P.length))
  (by
   rw[UC];exact YA YF<|by lia) (by unfold lim;lia) (λx s=>by
   have el:pv (CV<|d+10) (.blt .len [(.v 1)]) [aa x,aa<|.lst<|(ZV p n<|n-P.length).map Za,aa .drw] s=.ok (.int (ZV p n<|n-P.length).length) s:=by
    have:=wR (C:=CV<|d+10) (a:=.v 1) (O:=[aa x,aa<|.lst<|(ZV p n<|n-P.length).map Za,aa .drw]) (s:=s) (xs:=(ZV p n<|n-P.length).map Za)<|Zg rfl;rw[aq]at this;exact this
   obtain⟨v,s',f1,f2,f3⟩:=QL (F:=fns) (tk:=2) (d:=d+9) (m:=(ZV p n<|n-P.length).length) s (by lia) (by lia)
   obtain⟨y,hy,e⟩:=pick (a:=.v 1) (i:=.call 2 [(.v 2),(.blt .len [(.v 1)])]) (O:=[aa x,aa<|.lst<|(ZV p n<|n-P.length).map Za,aa .drw]) (Zg rfl) (Zk (Zb (Zg rfl)<|Zb el Zh) f1) f2 (by rw[aq];lia)
   obtain⟨Q,hQ,rfl⟩:=aC.mp hy;exact#[_,_,_,rfl,e,Q,rfl,hQ])
 obtain⟨R,rfl,hR⟩:=Qu e4;obtain⟨ρ',hI,e5⟩:=ZbW (C:=CV<|d+10) (ms:=[]) (os:=[]) (t:=[9]) (it:=.of<|.comp1 [8,2] 1 [0] (.rng1<|.c<|.int 4) []<|.ix (.v 1)<|.call 2 [(.v 2),(.blt .len [(.v 1)])]) (b:=vp) (L:=R) (e:=Za) (O:=kE o k p n P (aa<|.lst<|L.map Za) (aa<|.int ((p^(P.length*(n-P.length)):Nat):Int)) b (aa<|.lst<|(ZV p n<|n-P.length).map Za) ae) (s0:=s) (s:=s1)
  (λl O=>(∀Q∈l,Q∈ZV p n (n-P.length))/\∃x9,O=kE o k p n P (aa<|.lst<|L.map Za) (aa<|.int ((p^(P.length*(n-P.length)):Nat):Int)) b (aa<|.lst<|(ZV p n<|n-P.length).map Za) x9) (by
   rw[Lv.hide_nil,pvw,e3];rfl) #[hR,ae,rfl] rfl (λQ l O hI=>by
   obtain⟨h1,x9,rfl⟩:=hI;have hQ:=h1 Q<|ai ..;obtain⟨q1,q2⟩:=Xg _ Q hQ;refine#[_,_,rfl,jU d s1 hn hP q1 (by lia) ?_,λQ' h=>h1 Q'<|af _ h,_,rfl]
   rw[bN,eK,<-hL,cq];exact#[λh=>h.2,λh=>#[hQ,h]])
 obtain⟨_,x9,rfl⟩:=hI;rw[Zi e5];obtain⟨v,s2,w1,w2,w3⟩:=QL (F:=fns) (tk:=2) (d:=d+9) (m:=((p^(P.length*(n-P.length)):Nat):Int)) s1 (by lia) (by lia)
 obtain⟨y,hy,e6⟩:=pick (C:=CV<|d+10) (a:=.v 5) (i:=.call 2 [(.v 2),(.v 6)]) (O:=kE o k p n P (aa<|.lst<|L.map Za) (aa<|.int ((p^(P.length*(n-P.length)):Nat):Int)) b (aa<|.lst<|(ZV p n<|n-P.length).map Za) x9) (s:=s1) (Zg rfl) (Zk (Zb (Zg rfl)<|Zb (Zg rfl) Zh) w1) w2 (by rw[aq,bl];lia)
 obtain⟨Q,hQ,rfl⟩:=aC.mp hy;rw[<-hL]at hQ;obtain⟨q1,q2⟩:=cq.mp hQ;obtain⟨q3,q4⟩:=Xg _ Q q1;obtain⟨s3,e7⟩:=GZ (d+1) s2 hn hp hP q3 (by lia) q2
 rw[ZeZ (by
  rw[pv,Zk (Zb (Zg rfl)<|Zb (Zg rfl)<|Zb (Zg rfl)<|Zb e6 Zh) e7];rfl)]
 exact#[_,_,s3,by rw[rvs],rfl,rfl]
end
def jX(d:Nat)(o:Option V)(k:Nat)(s:DS):∃O os s',rvs (CV<|d+10) (muts Qe) Qe (o::aa (.int k)::aa .drw::az 7 ae) [] s=.ok (.nx O os) s'/\O[0]?=aa o/\O.length=7+3:=by
 show ∃O os s',rvs (CV<|d+10) [] Qe [o,aa<|.int k,aa .drw,ae,ae,ae,ae,ae,ae,ae] [] s=.ok (.nx O os) s'/\O[0]?=aa o/\O.length=10;have e0:∃m,pv (CV<|d+10) (.ix (.lst [(.c<|.int 27),(.c<|.int 125)])<|.blt .toInt [(.cmp .eq (.v 1)<|.c<|.int 0)]) [o,aa<|.int k,aa .drw,ae,ae,ae,ae,ae,ae,ae] s=.ok (.int m) s:=by
  by_cases c:(k:Int)=0
  .have c':k=0:=by lia
   exact#[125,by simp[pvE,c',Zr,b2i,at',ixN]]
  .have c':k≠0:=by lia
   exact#[27,by simp[pvE,c',Zr,b2i,at',ixN]]
 obtain⟨m,e0⟩:=e0;obtain⟨⟨p,n⟩,s1,e1,hq⟩:=qA (d+8) (m:=m) s;obtain⟨hb,h1,hn,hp⟩:=Zdb _ hq
 haveI:Base p:=⟨hb⟩
 have hn:n<=6:=hn;obtain⟨R,s2,e2,hR⟩:=qb (p:=p) (n:=n) (d+7) (o:=o) (k:=k) s1 hn;obtain⟨O,os,s3,e4,r⟩:=jz (p:=p) (n:=n) d o k s2 hn hp (xO _ hq) (Y6 hR).part;refine#[O,os,s3,?_,r];show rvs _ _ (_::_::Qe.drop 2) _ _ _=_;rw[Zi<|Yp (Zk (Zb (Zg rfl)<|Zb e0 Zh) e1) rfl];show rvs _ _ _ [o,aa<|.int k,aa .drw,aa<|spV p n,ae,ae,ae,ae,ae,ae] [] s1=_;rw[Zi<|Yp (Zeu (Zg rfl) e2<|v3 (d+4) s2 hn hR rfl rfl) rfl];exact e4
def law_ok(ns:List Int)(s:DS):∃S,CV 65 41 [.scr ns] s=.ok (.bl al) S:=
 Lv.law_of (B:=Qe) 62 (ca:=0) (st:=1) (nn:=7) (M:=5) (by decide) (by decide) (by decide) rfl rfl rfl (by decide) (λo k s=>jX 54 o k s) ns s
end K54
namespace K54
open PySem PySem.Spec PyProof.Rows L2 Sd Gn
open Sd (yo ua jR jj ZdW ZaC Zas vF ub jd Zbd wM JY jL jB Za8 xx Zad xU wK v5 vW uj JX vh ZaK)
def Zgz(s:fU):bI:=match s with|.FunctionDef x _ _ _ _ _ _ _ _ _=>x|_=>""
def top(i:Nat):fU:=PySem.Challenge.pw_fewspaces_k54_whole_misses.main.body.getD i<|.Pass #[0,0,0,0]
noncomputable abbrev R(i m k:Nat):FR:=#[Zgz<|top i,top i,((ZB<|top i).names.map (·.1)).take m,k]
noncomputable abbrev r0:=R 47 2 2
noncomputable abbrev r1:=R 48 3 2
noncomputable abbrev r2:=R 49 4 2
noncomputable abbrev r3:=R 50 3 2
noncomputable abbrev r4:=R 11 4 4
noncomputable abbrev r5:=R 13 4 4
noncomputable abbrev r6:=R 9 3 1
noncomputable abbrev r7:=R 25 7 3
noncomputable abbrev r8:=R 10 3 3
noncomputable abbrev r9:=R 12 3 2
noncomputable abbrev r10:=R 24 9 3
noncomputable abbrev r11:=R 23 5 3
noncomputable abbrev r12:=R 7 3 3
noncomputable abbrev r13:=R 16 4 2
noncomputable abbrev r14:=R 19 2 2
noncomputable abbrev r15:=R 22 3 2
noncomputable abbrev r16:=R 8 1 1
noncomputable abbrev r17:=R 14 2 2
noncomputable abbrev r18:=R 18 3 3
noncomputable abbrev r19:=R 17 3 2
noncomputable abbrev r20:=R 20 2 2
noncomputable abbrev r21:=R 30 3 3
noncomputable abbrev r22:=R 32 6 2
noncomputable abbrev r23:=R 33 5 2
noncomputable abbrev r24:=R 31 7 2
noncomputable abbrev r25:=R 36 3 3
noncomputable abbrev r26:=R 38 4 2
noncomputable abbrev r27:=R 52 3 2
noncomputable abbrev r28:=R 21 3 3
noncomputable abbrev r29:=R 37 5 3
noncomputable abbrev r30:=R 28 6 2
noncomputable abbrev r31:=R 27 3 3
noncomputable abbrev r32:=R 39 7 4
noncomputable abbrev r33:=R 51 4 4
noncomputable abbrev r34:=R 26 3 3
noncomputable abbrev r35:=R 57 7 4
noncomputable abbrev r36:=R 35 3 3
noncomputable abbrev r37:=R 42 7 3
noncomputable abbrev r38:=R 41 6 2
noncomputable abbrev r39:=R 44 3 3
noncomputable abbrev r40:=R 45 3 3
abbrev r41:FR:=#["law",top 58,["_law_script","_law_k","_law_state_here","_law_space_here","_law_one","_law_some","_law_many","_law_turn","_law_every","_law_other"],1]
noncomputable abbrev fs:List FR:=[r0,r1,r2,r3,r4,r5,r6,r7,r8,r9,r10,r11,r12,r13,r14,r15,r16,r17,r18,r19,r20,r21,r22,r23,r24,r25,r26,r27,r28,r29,r30,r31,r32,r33,r34,r35,r36,r37,r38,r39,r40,r41]
abbrev zs:List bI:=["all","bool","enumerate","int","isinstance","len","list","max","min","range","reversed","set","sorted","tuple","zip"]
abbrev gs:List (bI×Gv):=[]
noncomputable abbrev jE{X xw C e}(i:Ev.E):=Sd.CE X xw C e i
noncomputable abbrev jF{X xw C e}(i:Ev.E):=Sd.CF X xw C e i
noncomputable abbrev jT{X xw C e}(i:Ev.E):=Sd.CT X xw C e i
noncomputable abbrev jS{X xw a C b e}(i:Ev.Sm):=Sd.CS X xw a C b e i
def okl:OkL fs zs gs fns tk sn 0 fs fns:=by
 repeat'(first|exact da|refine#[#[rfl,rfl,by decide +kernel,?_],?_]|intro P w K mg base f fd d T h hn cdv A outer s H E hr hu)
 all_goals
 (repeat'(first
 |(with_reducible show aL _ _=_);(first|exact ua|exact yo|exact vF|exact Zas|exact jR|exact jj|exact ub|exact ZdW|exact ZaC)
 |(with_reducible show Cx.mg _ _=_);(exact Top.no (by assumption) (by kernel_rfl!))
 |(with_reducible show _=_);first|exact Zd8 _|kernel_rfl!
 |(with_reducible show Gl _ _);show _=_;kernel_rfl!
 |show Sd.CSs _ _ _ _ _ _ [.cel _ _ _ _];refine Zgi (by assumption) (by assumption) (by assumption) ?_ ?_ (by assumption) (by kernel_rfl!) rfl rfl (by kernel_rfl!) (by first|exact ua|exact yo|exact vF|exact Zas|exact jR|exact jj|exact ub|exact ZdW|exact ZaC) rfl (by kernel_rfl!) (by first|exact Or.inl (by kernel_rfl!)|exact oF (by kernel_rfl!)|exact oF (Or.inl (by kernel_rfl!))|exact oF (oF (by kernel_rfl!))) (by first|exact .inl rfl|exact .inr<|by kernel_rfl!) (by kernel_rfl!) (by kernel_rfl!) (by kernel_rfl!)
 |show Sd.CSs _ _ _ _ _ _ _;first|apply ZeG|apply Zb0
 |show Sd.CA _ _ _ _ _;first|apply Zd6|apply Zb3
 |show jF (.blt .sortedU _);apply xh
 |show jF (.lst _);apply ZeH
 |show jF (.bin _ _ _);apply Zd2
 |show jF (.comp1 _ _ _ _ _ _);refine j8 rfl (by first|assumption|exact T6<|by kernel_rfl!) (wt<|by kernel_rfl!) ?_ (λ_ _ _ _=>#[?_,?_,?_]) (hs:=by intro _;kernel_rfl!)
 |show Sd.CE _ _ _ (.BoolOp _ [_] _) _;apply Ze9
 |show jE (.dix _ am);apply Zb8
 |show jE (.dix _ al);apply Zdl
 |show jE (.v _);apply Zhd
 |show jE (.c _);first|apply Zfm|apply ZfO|apply Ze1
 |show jE (.call _ _);refine ZgH (by assumption) (by assumption) (by assumption) ?_ (by kernel_rfl!) rfl (by kernel_rfl!) (by first|exact ua|exact yo|exact vF|exact Zas|exact jR|exact jj|exact ub|exact ZdW|exact ZaC) rfl
 |show jE (.ix _ _);apply Zgs
 |show jE (.blt .len _);apply UH wK
 |show jE (.blt .tuple _);apply vB JX
 |show jE (.blt .all _);apply UH (vh rfl)
 |show jE (.blt .toInt _);apply vB uj
 |show jE (.blt .max2 _);apply UH (v5 rfl)
 |show jE (.blt .min2 _);apply UH (vW rfl)
 |show jE (.blt _ _);apply xD
 |show jE (.bin _ _ _);first|apply ZfD|apply Zfq|apply Zeg|apply Zfv|apply Zcp|apply Zej
 |show jE (.tup _);apply Zd5
 |show jE (.neg _);apply ZfE
 |show jE (.not _);apply Zel
 |show jE (.cmp .eq _ _);apply Xv (jd (by assumption))
 |show jE (.cmp .ne _ _);apply Xv (Zbd (by assumption))
 |show jE (.cmp .lt _ _);apply Xv (wM (by assumption))
 |show jE (.cmp .le _ _);apply Xv (JY (by assumption))
 |show jE (.cmp .gt _ _);apply Xv (jL (by assumption))
 |show jE (.cmp .ge _ _);apply Xv (jB (by assumption))
 |show jE (.cmp .is _ _);apply Xv (Za8 (by assumption))
 |show jE (.cmp .isn _ _);apply Xv (xx (by assumption))
 |show jE (.cmp .inn _ _);apply Xv (Zad (by assumption))
 |show jE (.cmp .nin _ _);apply Xv (xU (by assumption))
 |show jE (.chain _ _ _ _ _);first|apply yU (JY<|by assumption) (JY (by assumption))|apply yU (JY<|by assumption) (wM (by assumption))
 |show jE (.ite _ _ _);apply Zev
 |show jE (.sl _ _ _);apply ZfR
 |show jE (.isi _ _);first|apply Gi (T:="int") (t:=.int)|apply Gi (T:="bool") (t:=.bool)|apply Gi (T:="tuple") (t:=.tuple)|apply Gi (T:="list") (t:=.list)|apply ZbZ (T:="tuple") (U:="list") (t:=.tuple) (u:=.list)
 |(first|show jE (.callF _ _)|show jE (.lst _)|show jE (.comp1 _ _ _ _ _ _)|show jE (.comp2 _ _ _ _ _ _ _ _ _)|show jE (.blt .list _)|show jE (.blt .sorted _)|show jE (.blt .listD _)|show jE (.blt .sortedD _)|show jE (.blt .sortedS _)|show jE (.blt .sortedT _)|show jE (.blt .sortedU _));refine CF.ce ?_
 |show jE _;apply Zd9
 |show Sd.CO _ _ _ _ _;first|apply Zc9|apply ZcZ
 |show jS (.ret _);first|apply Zfp|apply Zcs
 |show jS (.dset _ _);apply ZbO
 |show jS (.par _ _);apply Zfo
 |show jS (.put _ _ _);apply ZeS
 |show jS (.asg _<|.comp1 _ _ _ _ _ _);refine ju rfl (by assumption) (wt<|by kernel_rfl!) ?_ (λ_ _ _ _=>#[?_,?_,?_]) (hsw:=by kernel_rfl!) (hy:=by kernel_rfl!) (hx:=by first|exact Or.inl (by kernel_rfl!)|exact oF (by kernel_rfl!)|exact oF (Or.inl (by kernel_rfl!))|exact oF (oF (by kernel_rfl!))) (hf:=by first|exact .inl rfl|exact .inr<|by kernel_rfl!) (hs:=by intro _;kernel_rfl!)
 |show jS (.asg _<|.comp2 _ _ _ _ _ _ _ _ _);refine u7 rfl (by assumption) (wt<|by kernel_rfl!) ?_ (λ_ _ _ _=>#[?_,?_,?_,?_,?_,?_]) (hsw:=by kernel_rfl!) (hy:=by kernel_rfl!) (hx:=by first|exact Or.inl (by kernel_rfl!)|exact oF (by kernel_rfl!)|exact oF (Or.inl (by kernel_rfl!))|exact oF (oF (by kernel_rfl!))) (hf:=by first|exact .inl rfl|exact .inr<|by kernel_rfl!) (hs:=by intro _;kernel_rfl!) (hs2:=by intro _ _;kernel_rfl!)
 |show jS (.asg [_] _);first|refine ZbJ ?_ ?_ (hf:=by kernel_rfl!) (hs:=by kernel_rfl!) (hw:=by kernel_rfl!) (h1:=by kernel_rfl!)|apply Zb2
 |show jS (.asg _ _);apply Zer
 |show jS (.ex<|.mt .extend _ _);apply uX
 |show jS (.ex _);apply Zdg
 |show jS (.ite _ _ _);apply ZfW
 |show jS (.forr _ _ _);apply Zfy pi
 |show jS (.whl _ _);apply Zbg pi
 |show jS (.aug _ _ _);apply ZfJ ZaK
 |show jS _;apply ZaV
 |show jT (.not _);apply ZeU
 |show jT (.cmp .eq _ _);apply XA (jd (by assumption))
 |show jT (.cmp .ne _ _);apply XA (Zbd (by assumption))
 |show jT (.cmp .lt _ _);apply XA (wM (by assumption))
 |show jT (.cmp .le _ _);apply XA (JY (by assumption))
 |show jT (.cmp .gt _ _);apply XA (jL (by assumption))
 |show jT (.cmp .ge _ _);apply XA (jB (by assumption))
 |show jT (.cmp .is _ _);apply XA (Za8 (by assumption))
 |show jT (.cmp .isn _ _);apply XA (xx (by assumption))
 |show jT (.cmp .inn _ _);apply XA (Zad (by assumption))
 |show jT (.cmp .nin _ _);apply XA (xU (by assumption))
 |show jT (.or _ _);refine CWh.ct<|Zdz ?_ ?_
 |show jT _;apply Ze6
 |show Sd.CWh _ _ _ _ _;first|apply Zdz|apply ZfI
 |show Sd.CTs _ _ _ _ _;first|apply ZbT|apply Zcb
 |show Sd.CW _ _ _ _ _ _;first|apply Zb1|apply ZcE|apply ZcW|apply Zfd|apply Zca|apply ZgI
 |show Sd.CG _ _ _;first|apply Zb5|apply Zeb
 |show Sd.CGs _ _ _;first|apply Zdh|apply jm
 |(first|exact Or.inl (by kernel_rfl!)|exact oF (by kernel_rfl!)|exact oF (Or.inl (by kernel_rfl!))|exact oF (oF (by kernel_rfl!)))
 |assumption
 |exact T6 (by kernel_rfl!)
 |decide
 |(intro _;kernel_rfl!)
 |(intro _ _;kernel_rfl!)
 |(intro m h;cases h)))
end K54
namespace PySem.W.Fast
def tw8761477030096785870:=0
def tw5077778214572702438:=0
def tw7123404028668269133:=0
def tw15909000332349421931:=0
def tw2695936293365757823:=0
def tw12313976615601823206:=0
def tw5387953430538320327:=0
def tw2699264519573118922:=0
def tw14779986773951540299:=0
def tw3638401039954488327:=0
def tw8553535619794838689:=0
def tw11002899926733261537:=0
def tw1616523863972514637:=0
def tw18121259592560064318:=0
def tw6540065096370678490:=0
def tw7141056180427142772:=0
def tw9284412930330022632:=0
def tw8464121254972795130:=0
def tw6752745328473551843:=0
def tw3018828100477496803:=0
def tw10254594544641945479:=0
def tw333073506929493086:=0
def tw4433550471270315094:=0
def tw1910845849142894373:=0
def tw10242908469476820921:=0
def tw13548778092094215950:=0
def tw8733194891219256929:=0
def tw16064631789802187637:=0
def tw12408269692798832663:=0
def tw17643429317925525362:=0
def tw12096116842989924018:=0
def tw7311877033629373056:=0
def tw15281670018456852744:=0
def tw16976955049981239436:=0
def tw13465296741403882165:=0
def tw14439131812983125627:=0
def tw16926237646388529261:=0
def tw13805743946031295789:=0
def tw5443085194619117143:=0
def tw1666648479693973241:=0
def tw11363508567105066170:=0
def tw7089336782903485893:=0
def tw7348769917709225738:=0
def tw9809705925748957031:=0
def tw11282145901448003475:=0
def tw15485395594147191961:=0
def tw16812723186053701870:=0
def tw4594460245822759897:=0
def tw5647146950004576055:=0
def tw3950172132563282634:=0
def tw7709205878231625234:=0
def tw1476260583900472938:=0
def tw73642867010080014:=0
def tw465128119736172750:=0
def tw2958018262310784932:=0
def tw10354050761072752555:=0
def tw7490161131298690052:=0
def tw3436265991800834650:=0
def tw1423773367493263323:=0
def tw10699845631852557571:=0
def tw12182031027768654055:=0
def tw10407720140302622204:=0
def tw16263797465937716599:=0
def tw9636212987611023973:=0
def tw2737361012689971825:=0
def tw1310115621589897723:=0
def tw1265374212761792231:=0
def tw18229622246775646219:=0
def tw4540204505981146113:=0
def tw10200042949055476819:=0
def tw9584219543264109185:=0
def tw9192674556007113436:=0
def tw6562816526595875502:=0
def tw4827268109969327842:=0
def tw10426814979142139098:=0
def tw17276229843025359117:=0
def tw59764708486283734:=0
def tw9957626772616604078:=0
def tw3084503177020654427:=0
def tw6203628786365175693:=0
def tw17577007253631335912:=0
def tw5926095235354479580:=0
def tw12845994249245993669:=0
def tw5834470801679615078:=0
def tw10937202553637930162:=0
def tw7277324831779911104:=0
def tw15317174605601136726:=0
def tw3901708897095283621:=0
def tw15414296897171032401:=0
def tw15227530539744334434:=0
def tw6398459757812091603:=0
def tw11776391031352350056:=0
def tw7013480620204803956:=0
def tw17724733209653632936:=0
def tw18336792581878901190:=0
def tw16368191436526032591:=0
def tw7677929372031143692:=0
def tw2686400415719890045:=0
def tw14944014637008777785:=0
def tw12189976696761702363:=0
def tw2561780398311537833:=0
def tw16774455052804405262:=0
def tw10926384008956461194:=0
def tw14024554587885470526:=0
def tw11873220157296662441:=0
def tw18167540467844848321:=0
def tw17683439200948058283:=0
def tw10209894981317079430:=0
def tw5198791244617145639:=0
def tw2003150372209423706:=0
def tw10861941106306624185:=0
def tw17697022729328569091:=0
def tw13284833921225170369:=0
def tw8180434555503546119:=0
def tw2686806899977497779:=0
def tw17773619789272801681:=0
def tw18204714359672782178:=0
def tw613895319513556130:=0
def tw10071476812555727999:=0
def tw14553616861642168595:=0
def tw16759409284129172242:=0
def tw18221348861117429378:=0
def tw14740860440184222078:=0
def tw4731895165755446422:=0
def tw16301518588122429392:=0
def tw7535185012105206634:=0
def tw17059326646638332970:=0
def tw11403255348992899789:=0
def tw8813550934806547981:=0
def tw7907860630050793061:=0
def tw7841017242327705090:=0
def tw1523663977390246792:=0
def tw14456131472861794785:=0
def tw4918875964752003839:=0
def tw13731096270876883599:=0
def tw15304546979529113883:=0
def tw11853275635084783051:=0
def tw14665761657886615734:=0
def tw2355336558763978429:=0
def tw6429979411718859306:=0
def tw5616832362838954103:=0
def tw1025165138170684711:=0
def tw9423069482836353691:=0
def tw10934467456937847217:=0
def tw13413363937081152044:=0
def tw10660186904956353974:=0
def tw9907263735427555330:=0
def tw12698779096263445574:=0
def tw5333980508825147762:=0
def tw4595614026348254109:=0
def tw16262931297081687106:=0
def tw713128991288545081:=0
def tw18348115660823584541:=0
def tw16516609267422230988:=0
def tw10241013205269738929:=0
def tw2073680373309253227:=0
def tw17701197387890836385:=0
def tw8913646178341586454:=0
def tw4618687263501730099:=0
def tw11220800883142964071:=0
def tw13879266428215080776:=0
def tw12167441626517179305:=0
def tw13982328924238426984:=0
def tw10255220173886757111:=0
def tw16603605404662507944:=0
def tw6632424930351381440:=0
def tw20004220483757368:=0
def tw2212490100903560720:=0
def tw9767562179276259413:=0
def tw14685338706035518298:=0
def tw7237412484473693031:=0
def tw15238784431436523603:=0
def tw15844100021217875399:=0
def tw17804824775505971341:=0
def tw552672668261286002:=0
def tw6911974700240169425:=0
def tw17710243711245700629:=0
def tw12575913937713761878:=0
def tw14713425166952833580:=0
def tw12874772777691420011:=0
def tw16322757312180487465:=0
def tw7641232474564561971:=0
def tw14931970533423258746:=0
def tw10180708616399130932:=0
def tw9490225762120895270:=0
def tw747722752920620324:=0
def tw12653049903473781861:=0
def tw14664606672369136886:=0
def tw10643604274293361312:=0
def tw17131935333685413401:=0
def tw15486739190021085330:=0
def tw3364460557833990154:=0
def tw831720165739840025:=0
def tw6965723574670857931:=0
def tw15076656654355824449:=0
def tw4727855725145029854:=0
def tw13337443682699458115:=0
def tw8687863245563073929:=0
def tw18265623582912219071:=0
def tw12836669902635661808:=0
def tw14114892644956222093:=0
def tw10209521996902132100:=0
def tw187649303523117837:=0
def tw2432458853704815771:=0
def tw6084190174781631405:=0
def tw12876697947292193928:=0
def tw12844004920987204901:=0
def tw3160151390519097846:=0
def tw12793573854462646760:=0
def tw14555243148412262511:=0
def tw5317019575203496700:=0
def tw14518500434106708972:=0
def tw15942509682009516548:=0
def tw9177017307433444957:=0
def tw5748547373536871439:=0
def tw11623366342466570318:=0
def tw13444692243218521749:=0
def tw13133325144271166998:=0
def tw13735438954992768845:=0
def tw2374441931209974791:=0
def tw2110594848599430933:=0
def tw11845039682097005627:=0
def tw8355918434095246846:=0
def tw8563910634834192596:=0
def tw7159659229507836259:=0
def tw9512386378574991781:=0
def tw12271914814282938918:=0
def tw7417881086512445298:=0
def tw10272910037957066982:=0
def tw11304777281512148636:=0
def tw3473597993896564288:=0
def tw11294964520595241618:=0
def tw8210089439010937952:=0
def tw2950466083344442008:=0
def tw8934442439829142258:=0
def tw16563064509508981579:=0
def tw13825928311510712140:=0
def tw5532141479696455323:=0
def tw1925497725850564957:=0
def tw10318563580843783154:=0
def tw15216080642030160486:=0
def tw6145887480396937950:=0
def tw8438479096233611890:=0
def tw4193409992379237859:=0
def tw17996981342260284309:=0
def tw7241890876795185821:=0
def tw5597061776935281498:=0
def tw509772008734714627:=0
def tw6726202393089193880:=0
def tw530850318351837300:=0
def tw16101693480423455048:=0
def tw541991825388711376:=0
def tw14971358854659030397:=0
def tw629391859035870695:=0
def tw11647927332962060139:=0
def tw7334846322030222718:=0
def tw15383125749470881908:=0
def tw15302690191403451074:=0
def tw7013795304805250594:=0
def tw871875008826893819:=0
def tw11128422259982149907:=0
def tw13483313847041267013:=0
def tw18194678582983572855:=0
def tw9603177507687272260:=0
def tw3460594489434026070:=0
def tw2935754767492920240:=0
def tw12030772572731308256:=0
def tw4292081339147463302:=0
def tw895443328476555597:=0
def tw8328779647191479719:=0
def tw10772090190048572357:=0
def tw11032673907043621383:=0
def tw3845736430149606110:=0
def tw14665020773342538996:=0
def tw235478162381549309:=0
def tw12598849655742593961:=0
def tw9919780178230346354:=0
def tw14646305720103449063:=0
def tw5602301268110942689:=0
def tw15035147435007316776:=0
def tw14739463850204746099:=0
def tw16668518377526522840:=0
def tw8691666824862330803:=0
def tw13376715875054666715:=0
def tw7103161252790673311:=0
def tw10318373553813989700:=0
def tw4196575440118179783:=0
def tw16027733476626641283:=0
def tw8362263752459803080:=0
def tw17169360103108117413:=0
def tw3342553014146247482:=0
def tw15876357544036065810:=0
def tw13257134895193006720:=0
def tw11439881452407281647:=0
def tw15277580139711483370:=0
def tw7262750469430320419:=0
def tw5096403924246784963:=0
def tw13563301734178327015:=0
def tw13774548959734473146:=0
def tw4912002759847831268:=0
def tw12935561589682275259:=0
def tw8309858503445868921:=0
def tw15325046686836531161:=0
def tw12212851684113648864:=0
def tw12707331823101345638:=0
def tw876301697906506831:=0
def tw10197521315896757024:=0
def tw13375486106848785793:=0
def tw2439799153027649540:=0
def tw2355647637669281165:=0
def tw4187579114011710118:=0
def tw12169425240078496291:=0
def tw14846381317648010619:=0
def tw4477021955114684762:=0
def tw13541224057301386189:=0
def tw7084553838792122121:=0
def tw5726152517530377947:=0
def tw4850146562122939853:=0
def tw15113944315766045930:=0
def tw2586076817342654867:=0
def tw11201115253208197894:=0
def tw15072093379122024713:=0
def tw18272390100075427491:=0
def tw14198725130549190127:=0
def tw16375737361740740149:=0
def tw542830353179419309:=0
def tw11429126829311810672:=0
def tw8266820343400579820:=0
def tw6015166843178011052:=0
def tw3247230135267791299:=0
def tw58855645293545416:=0
def tw2464138461451742877:=0
def tw15428286958556065036:=0
def tw15132513162229470183:=0
end PySem.W.Fast
open PySem PySem.W PyProof.Rows Gn
set_option maxRecDepth 100000 in
set_option maxHeartbeats 0 in
theorem PySem.Challenge.cw_fewspaces_k54_whole_misses_holds : PySem.Challenge.rw_fewspaces_k54_whole_misses.Holds := by
  w_on; o_law; k_head; (case hw => w_witness2)
  k_fill
  refine Gn.walk (l := PySem.Challenge.rw_fewspaces_k54_whole_misses) (F := K54.fns) (tk := K54.tk) (L := 41) (fun ns s => K54.law_ok ns s) rfl rfl (fun w h Y => PySem.W.kIn_of Y) ?F
  case F =>
    intro w mg fa h KX G hmg;refine' Gn.ZeW (fs := K54.fs) (zs := K54.zs) (gs := K54.gs) (sn := K54.sn) KX G hmg rfl K54.okl rfl (by decide) ?A ?Z ?Y
    case A => repeat' (first|exact FnsAt.nil|refine' FnsAt.cons ?h1 ?h2 ?h3 ?h4 ?h5 ?_; (case h1 => k_is); (case h2 => k_is); (case h3 => k_is); (case h4 => k_is); (case h5 => first|exact bd1 fun _ _ _ _ _ _ _ => rfl|exact bd2 fun _ _ _ _ _ _ _ _ => rfl|exact bd3 fun _ _ _ _ _ _ _ _ _ => rfl|exact bd4 fun _ _ _ _ _ _ _ _ _ _ => rfl|exact bd5 fun _ _ _ _ _ _ _ _ _ _ _ => rfl|exact bd6 fun _ _ _ _ _ _ _ _ _ _ _ _ => rfl))
    case Z => repeat' (first|exact ZsAt.nil|refine' ZsAt.cons ?h1 ?_; (case h1 => k_is))
    case Y => repeat' (first|exact GsAt.nil|refine' GsAt.cons ?h1 ?_; (case h1 => k_is))
