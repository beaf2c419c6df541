import PyProof.Rows.All
import Wide.All
import OpenK.AllK
import Wide.FinOn
import Lean
import PyProof.EqAt
import PyProof.EqKinds
import PyProof.TupleCall
import PyProof.Dict
import PySem.Builtin.Tuple.Common
import PyProof.CodeObj
import PyProof.ListMulAny
import PyProof.NeKinds
import PyProof.ConsumeWalk
import PyProof.CompFree
import PyProof.Cells
import PyProof.ZipIter
import PyProof.Draws
import PyProof.EnumMake
import PyProof.SumWalk
import PyProof.Rows.SortRuns
import KE.KSortTup
import PyProof.Rows.SortRev
import PyProof.FactsAll.tuple
import KE.KRevIter
import PyProof.FactsAll.range_2
import PyProof.ListRange
import PyProof.TupleOfSeq
import PyProof.TupleOfGen
import PyProof.CallType
import PyProof.DictWalks
import PyProof.IsiH_list
import PyProof.RulesTry
import KE.KDictOf
import KE.KDictSum
import PyProof.Rows.SetFrom
import PyProof.FactsAll.set
import KE.KSortKey
import Wide.Seal
import PySem.Challenge.RW_fewspaces_k35_whole_counts
set_option Elab.async false
set_option linter.all false
set_option compiler.extract_closed false
set_option maxRecDepth 100000
set_option maxHeartbeats 0
local macro_rules
|`(#[$x,$y])=>`(⟨$x,$y⟩)
|`(#[$x,$y,$z,*])=>`(⟨$x,$y,$z,*⟩)
abbrev T9:=@if_pos
abbrev T8:=@if_neg
abbrev T7:=@absurd
abbrev T6:=@of_decide_eq_true
abbrev T5:=@decide_eq_true
abbrev T4:=@decide_eq_false
abbrev T0:=@decide_eq_true_eq
open Option renaming some->aa,none->ae,map_eq_some_iff->bT,bind_eq_some_iff->cR,isSome_iff_exists->c8,isSome_some->mW,isSome_map->nq,getD_none->nR
open PySem renaming wpAny_bind->ab,Value->al,Shared->aq,wpAny_pure->aw,starEach->aJ,Addr->aK,model->aT,wpAny->aW,Program->bt,sizeLine->bw,Str->bE,World->bJ,foldedSetIterable->bO,wpAny_newObj_type->bV,Heap->b5,wpAny_holding->b6,Around->b8,sizeLine_eq->cq,assignEach->cz,wpAny_call_entry->cA,eval->cC,wpAny_field->cD,wpAny_of_eq->cE,compareOp->cF,mainGlobals->cJ,wpAny_mono->cK,wpAny_callSpecial?_slot->cQ,FuncData->cX,SetTable->cY,cLine->c7,Builtin->dv,wpAny_setState_of->dM,bootBuiltins->dP,wpAny_standAt->dR,swapsWithSole->dS,swappedStores->dU,cellsFrom->dW,wpAny_rule->d4,wpAny_seqItems->d6,wpAny_setField_rec->d8,codeAny_builtin->eE,binaryOp->eF,NameKind->eG,assign->eI,backTo->eO,behindInMarks->eQ,mem_of_lookup->eS,Scope->eT,wpAny_askSetting->eX,codeAny->fe,wpAny_Call_Name_kw->fg,wpAny_truthy_bool->fz,wpAny_pyIter_list->fB,Obj->fC,call_meets->fF,intKind->fJ,rawInt->fP,Stmt->fR,wpAny_passesOwn->fY,wpAny_specialOf->fZ,wpAny_pyIter_tuple->ga,sliceBounds->gl,wpAny_pyIter_rangeiter->gx,codeAny_mono->gy,wpAny_setField->gE,sysModules->gR,swapsWith->gS,wpAny_forIn_list->gX,holding->g6,wpAny_updateSeq_pair->g9,codeAny_of_tree->im,wpAny_loadPart'->ir,Pos->iA,wpAny_typeOf->iB,DictEntry->iH,isSubtype_type->iY,wpAny_binaryOp_repeat_ref->i5,wpAny_assign_Name->kc,pyIter->ko,attributeBase->kq,wpAny_onRaise->kx,wpAny_attempt->ky,plainId_quiet->kD,wpAny_eqBool_int->kK,noFill_tuple_add->kL,wpAny_isInstance->kR,standAt->k8,wpAny_load->k9,wpAny_pyNext_list_item->lc,wpAny_pyNext_range_end->lg,IsPart->lj,typeIs_int->lq,Keyword->lu,IsPair->lx,richCompare_meets_room->lC,letOwnedTupleGo->lJ,pushCells_keeps->lO,wpAny_pyNext_list_end->lT,exec_Assign_Name_used->lV,builtinLookup_eq_fast->lW,wpAny_loadName_local->l0,pyNext->l4,keywordEach->l8,firstArgMember->md,ZipApart->me,hashByValue->mq,getItem->mw,callerA->my,wpAny_loadName_cell->mz,wpAny_setEntries_of->mE,assignInOrder->mG,seq_tuple_add->mH,wpAny_newList->mK,builtinsNs->mQ,tupleKind_room_in1->mX,intKind_is->mY,rule->m7,BindsTo->nc,concat_meets->ng,wpAny_sequenceKey->nh,seqIndex_neg->ni,valueAt->np,wpAny_pyIter_enum->ny,setAddHashed->nH,wpAny_storeSet_of->nI,wpAny_pyIter_slot->nK,tupleKind->nO,Sem->nP,reduceHash->nS,seqSlot_of->nU,pushCells->n3,seqItems?->on,seqIndex_of->oo,IsZip->oq,wpAny_letGo->ot,unsupported->ou,wpAny_Name->oN,Operator->oO,bindArgs->oR,backToKw->oS,call->oU,Meets->oV,compTurn->oX,setsByText->pe,again->pH,bindL->pI,bindC->pJ,Tok->pL,Result->pN,atKey->pQ,ret->pS
open List renaming getElem?_eq_getElem->af,mem_cons_self->ao,length_map->ap,mem_cons_of_mem->ax,size_toArray->ay,range->aA,mem_cons->aC,getD_eq_getElem?_getD->aD,length_cons->aE,getElem?_map->aH,mem_range->aN,all_eq_true->aO,replicate->aP,getElem_mem->aR,length_append->aX,pairwise_cons->aY,mem_singleton->aZ,mem_map->a8,getElem?_eq_some_iff->a9,length_range->be,getElem?_append_right->bg,pairwise_iff_getElem->bh,getElem?_set_ne->bm,length_take->bo,append_assoc->bq,length_drop->br,getElem_of_mem->bv,map_cons->bz,mem_append_right->bB,getElem?_eq_none->bC,replicate_succ->bF,lookup_cons->bG,getElem?_append_left->bH,mem_append->bK,map_map->bL,map_append->bP,getElem?_set_self->bR,mem_of_mem_drop->bU,length_set->bX,ext_getElem?->bY,getElem?_range->b7,drop_eq_getElem_cons->b9,append_nil->cf,not_mem_nil->cg,take_of_length_le->ck,zip_cons_cons->cn,take_append_drop->cr,toArray->cx,map_congr_left->cy,length_singleton->cL,flatten_cons->cO,getElem?_replicate->cP,getElem?_take->cU,pairwise_map->c0,length_replicate->c6,mem_append_left->c9,mem_of_getElem?->da,pairwise_append->db,mem_of_mem_take->dg,mem_reverse->dq,nodup_cons->dA,filterMap_cons->dO,drop_length->dZ,mem_flatMap->d3,contains_iff_mem->ee,getLast?_eq_some_iff->eA,mem_filter->eB,find?_cons->eC,getElem_take->eK,getElem_drop->eL,reverse_perm->eM,getElem?_inj->eN,length_eq_zero_iff->eW,pairwise_singleton->eZ,range_succ->fu,pairwise_reverse->fv,getElem?_mapIdx->fG,extract_eq_take_drop->fM,mem_of_find?_eq_some->fN,mem_map_of_mem->fQ,length_zip->f6,length_nil->f9,zip_nil_right->gf,find?_eq_none->gg,findIdx?_eq_some_iff_getElem->gu,reverse_cons->gB,nodup_append->gF,zip_nil_left->gJ,getElem?_reverse->gQ,take_length->gU,map_reverse->gW,filter_cons->gY,getElem_map->gZ,all_cons->g7,isEmpty_toArray->g8,drop_append_of_le_length->hJ,take_append_of_le_length->hU,foldl_cons->hW,nil_append->ic,forIn_cons->ig,reverse_append->iu,all_map->iC,take->iI,drop_zero->iP,contains_cons->iQ,drop_drop->iS,getElem?_drop->iT,drop_left->iU,take_left->iV,getElem?_zip_eq_some->i6,getLast?_eq_none_iff->i7,exists_mem_of_ne_nil->i8,take_sublist->ke,contains->kw,find?_range_eq_some->kG,map_tail->kH,sublist_append_left->kI,any_eq_true->kO,zipIdx_cons->kQ,nodup_range->kS,ext_getElem->kU,perm_middle->kX,sublist_nil->k5,map_flatMap->k7,map_nil->lv,range_succ_eq_map->lw,drop_of_length_le->lB,pairwise_lt_range->lE,getElem_cons_succ->lG,sum_replicate_nat->lH,of_mem_zip->lK,find?_some->lS,mem_iff_getElem->mh,map->mi,length_flatMap->mF,any_cons->mI,mem_filterMap->mR,filterMap_map->mT,find?_toArray->mZ,getElem?_set->nr,drop_sublist->nz,foldl_append->nN,drop_append->n5,countP_cons->n6,zipIdx_nil->oy,map_const'->oI,forIn_nil->oY,take_take->o0,perm_cons->o5,tail_cons->pf,map_take->pE,map_drop->pF,drop->pK,zip->pR
open Decidable renaming decide->ag
open Option.some renaming inj->ai
open Bool renaming true->aj,false->ak,and_eq_true->aB,false_ne_true->aI,eq_iff_iff->bW,false_eq_true->cG,or_eq_true->fq,not_true->fX,not_eq_true'->km,false_or->kr,and_false->oT,not_false->o9,and_true->pC,true_and->pG
open PySem.W renaming Frag->am,katRev->bc,kia_one->cV,fnOf->dQ,kat_len->eD,keepIn->gz,nsIn->gM,kat_nil->iq,codeIn->iL,katRev->kC,cellsFrom_some->lh,instObj->lI,OpenLaw->lL,lookIn->l5,kitOne->l7,KdlSrc->ml,mg_of->mL,kitx_list->m8,kitx_dict->m9,plainGet->nQ,kat_cons->og,kat_kind->oh,kat_yes->oz,kat_one->oA,KatTups->oB,kat_len->oM,findIn->oQ,KatLex->o6,kat_no->o7,kat_lt->o8,WalkO->pz
open PySem.Heap renaming get?_push_of_some->au,lt_size->aF,get?_push_size->aL,size_push->cT,get?_update_self->d9,SameBut->fb,get?_push_ne->gI,ExtBut->kh,size_update->kT,get?_update_other->ln,get?_update_ne->mD
open Array renaming length_toList->az,getElem?_eq_getElem->aQ,getElem?_toList->aV,perm_iff_toList_perm->bp,toList_append->cw,getD_eq_getD_getElem?->dr,toList_push->dJ,size_push->dN,toList_setIfInBounds->fH,size_extract->gd,size_append->gG,toList_extract->hG,forIn_toList->i4,size_setIfInBounds->kz,getElem?_eq_none->ly,mem_toList_iff->l6,toList_reverse->mf,size_reverse->m4,toList_inj->n8,toList_map->n9,replicate->oE,size_map->pc
open PyProof.Rows renaming wpS_bind->aG,wpS_pure->aS,arrOf->a7,pendingOf->ba,SortSt->bN,Keyed->bQ,callWith_type1->bS,wpS_forRange->cu,slot_tuple_getitem->dB,wpS_mono->eJ,wpS_modify->fj,seqObj->fw,elem'->fL,SortKind->fV,failedOf->fW,wpS_get->gH,callWith_builtin1->gT,setPending->gV,assignInOrder_cons->iJ,envOfC->iK,list_sort_rev->iW,AllBare->i9,subscriptTail_builtinR->lm,wpS->lZ,entry_tuple_getitem->mB,listUpdate_at->mJ,args_tuple_getitem->mU,assignInOrder_nil->m5,seqEpoch_at->ow,IntsAre->oJ,minRun'->oK,boot_range->oP,size_push'->o4,IsTup->pO,Call_->pP
open Nat renaming le_refl->aM,lt_of_lt_of_le->bj,lt_irrefl->bu,ne_of_lt->bx,le_trans->cM,zero_le->cZ,lt_succ_of_lt->dy,lt_trans->dE,pow_le_pow_right->dG,lt_of_succ_lt->dL,le_of_not_lt->eV,le_add_right->eY,lt_of_le_of_ne->gc,le_succ->gp,le_of_lt->gv,ne_of_gt->gw,mul_comm->gC,zero_add->gK,pow_le_pow_left->iz,pow_succ->iF,add_assoc->kA,lt_succ_self->kP,le_mul_of_pos_right->k6,add_zero->lz,mod_lt->lD,min_eq_left->lR,mul_le_mul->l9,mul_assoc->mM,lt_of_le_of_lt->m3,add_comm->nj,le_of_eq->nk,min_self->nu,sub_self->nA,succ_add->nE,lt_trichotomy->nJ
open And renaming intro->aU
open PySem.Value renaming none->bi,ref->cc,bool->cS,int->kJ,type->mP,isStrOf->pk
open PySem.NameKind renaming free->bD,cell->cB
open List.Perm renaming refl->bI,of_eq->f7,swap->iX,nil_eq->oa
open PySem.SetTable renaming bits->bM,insertAt->bZ,sizeAbove->cH,runEnd->cI,leap->du,Probe->e9,grown->fI,turns->gL,fresh->iZ,fill->kF,advance->kY,below->mm,layClean->nG,relaid->oF,fits->pB
open PySem.Builtin.Range renaming rangeFitsLong->cp,rangeSize->gh
open Pure renaming pure->cW
open PySem.Heap.SameBut renaming update->dz
open PySem.AutoSeq1 renaming wpAny_loadPart'->dC,sub_tuple_tuple->dD,wpAny_loadPart'->fU,idx_int->kM
open PySem.Around renaming under_plainId->dF
open Sum renaming inl->dH,inr->mv
open PySem.F renaming slot_tuple_iterator_next->d5,args_tuple_add_2->fS,entry_tuple_add->gj,plainAttrs_list->gn,slot_tuple_add->gA,slot_int_rmul->h8,args_tuple_iterator_next_1->io,slot_zip_next->ip,entry_tuple_iterator_next->iD,args_tuple_mul_2->iN,entry_tuple_mul->kf,slot_tuple_mul->kN,plain_list_iadd->kW,plain_reversed_new->mj,args_int_rmul_2->nt,args_zip_next_1->nv,args_tuple_lt_2->nC,entry_int_rmul->nV,entry_zip_next->n4,entry_tuple_lt->oj,fills_int_mul->ox,slot_tuple_lt->oC,plain_set_new->oD,slot_set_iter->oG
open PySem.Obj renaming data_mapFields->d7,mapSeq->eR,isFreed_of_fields->gP,cls_mapFields->ki,putSet->pb,mapFields->pD
open PySem.Builtin.Slice renaming slicePlaces->eg,sliceAdjust->fK
open PySem.Builtin.SmallTypes renaming nextOf->eo
open LawfulBEq renaming eq_of_beq->eU
open True renaming intro->fc
open Int renaming emod_lt_of_pos->fk,emod_nonneg->f8,toNat_natCast->gD,natCast_pow->hZ,emod_eq_of_lt->kn,natCast_mul->oH,mul_le_mul->oW,pow_nonneg->pi
open PySem.SetTable.layClean renaming free->fm
open List.Pairwise renaming nil->fA,imp_of_mem->kB,filter->mr
open PySem.Builtin.Tuple renaming tupleItemsOf->fD,tupleHashOf->fO,tupleHashOf->gN,tupleCompareSizes->gO,tupleTooMany->iM
open PySem.SeqAt renaming EqAt->fE
open PySem.Builtin.List renaming listTooLong->fT,listLengthHint->iE
open PyProof.Rows.F renaming plain_set_update_loop->gq,entry_set_update_loop->kZ
open PySem.SeqAt.EqAt renaming same->hV,of_refs->iO,int_str->mN,str_int->mO,int_int->mV
open Lean.Grind renaming CommRing->iw
open PyProof.Rows.IsTup renaming new->iG
open Break renaming runK->iR
open PySem.SeqAt.RcAt renaming tuples->kg,lists_lengths->ku,lists->nY
open PySem.SetTable.below renaming go->kj
open PySem.SetTable.probe renaming go->kl
open ForIn renaming forIn->lN
open ForInStep renaming yield->lQ
open Prod renaming fst->mn,snd->nF
open PySem.Builtin.Int renaming intBits->mC
open PySem.P renaming truthy_int->mS
open PySem.Str renaming ofString->nB
open PySem.pickOrder renaming go->nD
open PySem.hashByValue renaming eq_12->nL
open Classical renaming not_not->nM
open PySem.IntMulOk renaming of_bits->nT
open Or renaming inr->nZ
open PyProof.Rows.SortSt renaming mk'->oZ
open Min renaming min->pj
open PySem.Code renaming compLoop->pA
namespace L2
open PySem PySem.Spec PyProof.Rows
abbrev Key:=Sum Int bE
noncomputable def U5:Key->al->Bool
 |.inl k,v=>al.isInt k v
 |.inr x,v=>pk x v
noncomputable def ZeB(w:bJ):Key->Int
 |.inl k=>hashInt k
 |.inr x=>hashStr w x
def ZN:∀{k:Key}{v:al},U5 k v=aj->(∃i t,k=dH i/\v=kJ i t)\/(∃x t,k=mv x/\v=al.str x t)
 |.inl i,v,h=>by
  obtain⟨t,e⟩:=al.isInt_shape h;exact .inl #[i,t,rfl,e]
 |.inr x,v,h=>by
  obtain⟨t,e⟩:=al.isStrOf_shape h;exact .inr #[x,t,rfl,e]
def wa(i:Int)(t:pL):U5 (.inl i) (.int i t)=aj:=by simp[U5,al.isInt]
def xQ(x:bE)(t:pL):U5 (.inr x) (.str x t)=aj:=by simp[U5,pk]
def Zch(a b:Int):ag ((dH a:Key)=dH b)=(a == b):=by
 by_cases e:a=b
 .subst e;simp
 .have h:¬(dH a:Key)=dH b:=λq=>e (dH.inj q)
  rw[T4 h];exact(beq_eq_false_iff_ne.mpr e).symm
def Zb9(a b:bE):ag ((mv a:Key)=mv b)=ag (a=b):=by
 by_cases e:a=b
 .subst e;simp
 .have h:¬(mv a:Key)=mv b:=λq=>e (mv.inj q)
  rw[T4 h,T4 e]
def ZcL(a:Int)(b:bE):ag ((dH a:Key)=mv b)=ak:=T4 (λq=>nomatch q)
def ZbQ(a:bE)(b:Int):ag ((mv a:Key)=dH b)=ak:=T4 (λq=>nomatch q)
noncomputable def Yh(prog:bt)(w:bJ):PySem.KeyKind prog w Key where
 is:=U5
 hash:=ZeB w
 inj:=λv a b ha hb=>by
  rcases ZN ha with⟨i,t,rfl,rfl⟩|⟨x,t,rfl,rfl⟩
  .rcases ZN hb with⟨j,u,rfl,e⟩|⟨y,u,rfl,e⟩
   .injection e with e1 _;rw[e1]
   .exact nomatch e
  .rcases ZN hb with⟨j,u,rfl,e⟩|⟨y,u,rfl,e⟩
   .exact nomatch e
   .injection e with e1 _;rw[e1]
 byValue:=λk v h=>by
  rcases ZN h with⟨i,t,rfl,rfl⟩|⟨x,t,rfl,rfl⟩<;>rfl
 pyHash:=λhv h=>by
  rcases ZN hv with⟨i,t,rfl,rfl⟩|⟨x,t,rfl,rfl⟩
  .exact wpAny_pyHash_int h
  .exact wpAny_pyHash_str h
 eqBool:=λhu hv h=>by
  rcases ZN hu with⟨i,t,rfl,rfl⟩|⟨x,t,rfl,rfl⟩
  .rcases ZN hv with⟨j,u,rfl,rfl⟩|⟨y,u,rfl,rfl⟩
   .rw[Zch]at h;exact kK h
   .rw[ZcL]at h;exact mN i t y u _ _ _ _ h
  .rcases ZN hv with⟨j,u,rfl,rfl⟩|⟨y,u,rfl,rfl⟩
   .rw[ZbQ]at h;exact mO x t j u _ _ _ _ h
   .rw[Zb9]at h;exact wpAny_eqBool_str h
 «strs»:=λk x t v h=>by
  rcases ZN h with⟨i,u,rfl,e⟩|⟨y,u,rfl,e⟩
  .exact nomatch e
  .injection e with e1 _
   subst e1;cases v<;>rfl
def JR(prog:bt)(w:bJ)(i:Int)(t:pL):(Yh prog w).is (.inl i) (.int i t)=aj:=wa i t
def JF(prog:bt)(w:bJ)(x:bE)(t:pL):(Yh prog w).is (.inr x) (.str x t)=aj:=xQ x t
inductive V where
 |non|bl (b:Bool)|int (i:Int)|str (x:bE)|byt (b:Array UInt8)|flt (b:UInt64)|ref (a:aK)|ty (n:String)
 deriving DecidableEq
def Zu:V->al->Prop
 |.non,u=>u=bi
 |.bl b,u=>u=cS b
 |.int i,u=>∃t,u=kJ i t
 |.str x,u=>∃t,u=al.str x t
 |.byt b,u=>∃t,u=al.bytes b t
 |.flt b,u=>∃t,u=al.float b t
 |.ref a,u=>u=cc a
 |.ty n,u=>u=mP n
abbrev Vals:List V->List al->Prop:=Paired Zu
theorem Vals.length{xs:List V}{us:List al}(r:Vals xs us):xs.length=us.length:=Paired.length r
theorem Vals.get:∀{xs:List V}{us:List al}{i:Nat}{x:V},Vals xs us->xs[i]?=aa x->∃u,us[i]?=aa u/\Zu x u
 |_,_,_,_,.nil,e=>by simp at e
 |_,_,0,_,.cons r _,e=>by simp at e;subst e;exact#[_,rfl,r]
 |_,_,i+1,x,.cons _ t,e=>by
  obtain⟨u,h1,h2⟩:=Vals.get t (by simpa using e)
  exact#[u,by simpa using h1,h2]
theorem Vals.set(r:Zu x u):∀{xs:List V}{us:List al}(i:Nat),Vals xs us->Vals (xs.set i x) (us.set i u)
 |_,_,_,.nil=>.nil
 |_,_,0,.cons _ t=>.cons r t
 |_,_,i+1,.cons q t=>.cons q<|Vals.set r i t
theorem Vals.append:∀{xs ys:List V}{us ws:List al},Vals xs us->Vals ys ws->Vals (xs++ys) (us++ws)
 |_,_,_,_,.nil,s=>s
 |_,_,_,_,.cons r t,s=>.cons r<|Vals.append t s
theorem Vals.take:∀{xs:List V}{us:List al}(n:Nat),Vals xs us->Vals (xs.take n) (us.take n)
 |_,_,0,_=>.nil
 |_,_,_+1,.nil=>.nil
 |_,_,n+1,.cons r t=>.cons r<|Vals.take n t
theorem Vals.drop:∀{xs:List V}{us:List al}(n:Nat),Vals xs us->Vals (xs.drop n) (us.drop n)
 |_,_,0,r=>r
 |_,_,_+1,.nil=>.nil
 |_,_,n+1,.cons _ t=>Vals.drop n t
def GG:Option V->Option al->Prop
 |some v,aa u=>Zu v u
 |none,ae=>True
 |_,_=>False
def KV{κ:Type}:List (κ×V)->List (κ×al)->Prop:=Paired λ(p:κ×V) (q:κ×al)=>p.1=q.1/\Zu p.2 q.2
noncomputable def kV:Key->V
 |.inl i=>.int i
 |.inr x=>.str x
inductive HO where
 |lst (xs:List V)
 |tup (xs:List V)
 |dK (kvs:List (Key×V))|dT (kvs:List (List Key×V))
 |set (S:Int->Bool) (n:Nat)
 |ins (C dx:aK) (fs:List (bE×V))
 |own (x:aK)
 |xd (fs:List (bE×V))
 |met (f x:aK)
 |rng (lo hi:Int)
 |frz (o:fC) (u:HO)
 |tbl (ps:Array al)
 |ext (φ:b5->Prop)
abbrev Hp:=aK->Option HO
noncomputable def upd(H:Hp)(a:aK)(o:HO):Hp:=λb=>if b=a then aa o else H b
def ZI :upd H a o a=aa o:=by unfold upd;rw[T9 rfl]
def Zq(h:b≠a):upd H a o b=H b:=by unfold upd;rw[T8 h]
def Yg{H:Hp}{a b:aK}{o:HO}(h:H a=aa o)(h':H b=ae):a≠b:=by
 intro e;subst e;rw[h]at h';cases h'
section
variable(P:bt)(w:bJ)
def YH(H:Hp)(h:b5)(a:aK):HO->Prop
 |.lst xs=>xs.length<=bw/\∃(its:List al)(n:Nat),Vals xs its/\h.get? a=aa {cls:=.type "list",data:=.seq its.toArray n}
 |.tup xs=>xs.length<=bw/\∃its:List al,Vals xs its/\pO h a its.toArray
 |.dK kvs=>kvs.length<=bw/\(a == gR)=ak/\∃vs,KV kvs vs/\h.DictOf (Yh P w) a vs
 |.dT kvs=>kvs.length<=bw/\(a == gR)=ak/\∃xs:List (List Key×aK×al),
   Paired (λ(p:List Key×V) (q:List Key×aK×al)=>p.1=q.1/\H q.2.1=aa (.tup<|p.1.map kV)/\Zu p.2 q.2.2) kvs xs/\
   ∃o es ep,h.get? a=aa o/\o.ExactDict/\o.data=.dict es ep/\es.toList=xs.map (entryOfKey<|nO<|Yh P w)/\(xs.map (·.1)).Nodup
 |.set S n=>h.SetOf (fJ P w) a S n
 |.ins C dx fs=>H dx=aa (.own a)/\fs.length<=1000/\dx≠a/\h.get? a=aa (lI C dx)/\
   ∃mA,h.Ns1 dx mA/\(∀f,GG (fs.lookup f)<|mA f)/\PySem.Within mA (fs.map (·.1))
 |.own _=>∃o,h.get? a=aa o
 |.xd fs=>∃mA,h.Ns1 a mA/\∀f,GG (fs.lookup f)<|mA f
 |.rng lo hi=>∃t u v,h.get? a=aa {cls:=.type "range",data:=.fields [.int lo t,.int hi u,.int 1 v].toArray}
 |.frz o u=>h.get? a=aa o/\YH H h a u
 |.tbl ps=>h.get? a=aa {cls:=.none,data:=.fields ps}
 |.met f x=>h.get? a=aa (PySem.W.methodObj (.ref f)<|.ref x)
 |.ext φ=>φ h/\(∃o,h.get? a=aa o)/\∀h1 h2:b5,φ h1->(∀o,h1.get? a=aa o->h2.get? a=aa o)->φ h2
def HOk(H:Hp)(h:b5):Prop:=∀a o,H a=aa o->YH P w H h a o
end
theorem YH.lt(x:YH P w H h a o):a<h.objs.size:=by
 cases o with|lst xs=>obtain⟨_,_,_,_,e⟩:=x;exact aF e|tup xs=>obtain⟨_,_,_,p⟩:=x;exact p.lt|dK kvs=>obtain⟨_,_,_,_,o,_,_,e,_⟩:=x;exact aF e|dT kvs=>obtain⟨_,_,_,_,o,_,_,e,_⟩:=x;exact aF e|set S n=>obtain⟨o,_,_,_,e,_⟩:=x;exact aF e|ins C dx fs=>obtain⟨_,_,_,e,_⟩:=x;exact aF e|own y=>obtain⟨_,e⟩:=x;exact aF e|xd fs=>obtain⟨_,⟨_,_,_,e,_⟩,_⟩:=x;exact aF e|rng lo hi=>obtain⟨_,_,_,e⟩:=x;exact aF e|frz ob u=>obtain⟨e,_⟩:=x;exact aF e|tbl ps=>exact aF (x)|met f y=>exact aF (x)|ext φ=>obtain⟨_,⟨_,e⟩,_⟩:=x;exact aF e
theorem Paired.mapP{B β:Type}{F G:B->β->Prop}:∀{l₁:List B}{l₂:List β},Paired F l₁ l₂->(∀a b,F a b->G a b)->Paired G l₁ l₂
 |_,_,.nil,_=>.nil
 |_,_,.cons r t,f=>.cons (f _ _ r)<|Paired.mapP t f
def YH.stay(x:YH P w H h a o)(k:∀b u,(b=a\/H b=aa (.own a))->h.get? b=aa u->h'.get? b=aa u)
  (ho:∀b,H b=aa (.own a)->H' b=aa (.own a))(ht:∀b xs,H b=aa (.tup xs)->H' b=aa (.tup xs)):YH P w H' h' a o:=by
 induction o with
 |lst xs=>obtain⟨z,its,n,r,e⟩:=x;exact#[z,its,n,r,k _ _ (.inl rfl) e]
 |tup xs=>obtain⟨z,its,r,ob,e,c⟩:=x;exact#[z,its,r,ob,k _ _ (.inl rfl) e,c]
 |dK kvs=>obtain⟨z,y,vs,r,ob,es,ep,e,c⟩:=x;exact#[z,y,vs,r,ob,es,ep,k _ _ (.inl rfl) e,c]
 |dT kvs=>
  obtain⟨z,y,xs,r,ob,es,ep,e,c⟩:=x;exact#[z,y,xs,Paired.mapP r λp q z=>#[z.1,ht _ _ z.2.1,z.2.2],ob,es,ep,k _ _ (.inl rfl) e,c]
 |set S n=>obtain⟨ob,es,ep,t,e,c⟩:=x;exact#[ob,es,ep,t,k _ _ (.inl rfl) e,c]
 |ins C dx fs=>
  obtain⟨d,z,ne,e,mA,⟨od,es,ep,e2,c⟩,r⟩:=x;exact#[ho _ d,z,ne,k _ _ (.inl rfl) e,mA,#[od,es,ep,k _ _ (.inr d) e2,c],r]
 |own y=>obtain⟨ob,e⟩:=x;exact#[ob,k _ _ (.inl rfl) e]
 |xd fs=>obtain⟨mA,⟨od,es,ep,e,c⟩,r⟩:=x;exact#[mA,#[od,es,ep,k _ _ (.inl rfl) e,c],r]
 |rng lo hi=>obtain⟨t,u,v,e⟩:=x;exact#[t,u,v,k _ _ (.inl rfl) e]
 |frz ob u ih=>obtain⟨e,q⟩:=x;exact#[k _ _ (.inl rfl) e,ih q]
 |tbl ps=>
  have e:=x;exact k a _ (.inl rfl) e
 |met f y=>
  have e:=x;exact k a _ (.inl rfl) e
 |ext φ=>obtain⟨p,⟨o,e⟩,st⟩:=x;exact#[st _ _ p λo q=>k _ _ (.inl rfl) q,#[o,k _ _ (.inl rfl) e],st]
theorem HOk.lt(x:HOk P w H h)(e:H a=aa o):a<h.objs.size:=(x a o e).lt
def HOk.fresh(x:HOk P w H h)(e:h.objs.size<=a):H a=ae:=by
 cases q:H a with|none=>rfl|some u=>exact T7 (bj (x.lt q) e)<|bu _
def HOk.kept(x:HOk P w H h)(k:∀b u,h.get? b=aa u->h'.get? b=aa u):HOk P w H h':=λa o e=>
 (x a o e).stay (λb u _ q=>k b u q) (λ_ q=>q) λ_ _ q=>q
def HOk.laid(x:HOk P w H h)(k:∀b u,h.get? b=aa u->h'.get? b=aa u)(hp:h.objs.size<=a)(new:YH P w (upd H a o) h' a o):HOk P w (upd H a o) h':=λb u e=>by
 have hn:=x.fresh hp;by_cases hb:b=a
 .subst hb;rw[ZI]at e;cases e;exact new
 .rw[Zq hb]at e
  exact(x b u e).stay (λc v _ q=>k c v q) (λc q=>by rw[Zq<|Yg q hn];exact q) λc xs q=>by rw[Zq<|Yg q hn];exact q
def Rd(H:Hp)(a:aK)(u:HO):Prop:=H a=aa u\/∃o,H a=aa (.frz o u)
def Rd.ok(r:Rd H a u)(x:HOk P w H h):YH P w H h a u:=by
 rcases r with r|⟨o,r⟩
 .exact x a u r
 .obtain⟨_,q⟩:=x a _ r
  exact q
def Mut:Option HO->Prop
 |some (.lst _)=>True
 |some (.dK _)=>True
 |some (.dT _)=>True
 |some (.set _ _)=>True
 |some (.ins _ _ _)=>True
 |some (.ext _)=>True
 |_=>False
def HOk.write(ok:HOk P w H h)(mu:Mut (H x))(he:e=x\/H e=aa (.own x))(k:∀b u,b≠e->h.get? b=aa u->h'.get? b=aa u)(heo:∃u,h'.get? e=aa u)
  (new:YH P w (upd H x o') h' x o'):HOk P w (upd H x o') h':=λb u q=>by
 have nown:∀c y,H c=aa (.own y)->c≠x:=λc y r z=>by subst z;rw[r]at mu;exact mu
 have ntup:∀c xs,H c=aa (.tup xs)->c≠x:=λc xs r z=>by subst z;rw[r]at mu;exact mu
 by_cases hb:b=x
 .subst hb;rw[ZI]at q;cases q;exact new
 .rw[Zq hb]at q
  by_cases hbe:b=e
  .have q':H b=aa (.own x):=by
    rcases he with z|z
    .exact T7 (hbe.trans z) hb
    .rw[hbe];exact z
   rw[q]at q';cases q';obtain⟨v,hv⟩:=heo;exact#[v,by rw[hbe];exact hv]
  .refine(ok b u q).stay (λc v hc r=>k c v ?_ r) (λc r=>by rw[Zq<|nown c b r];exact r) λc xs r=>by rw[Zq<|ntup c xs r];exact r
   rcases hc with rfl|hc
   .exact hbe
   .rintro rfl
    rcases he with z|z
    .exact nown c b hc z
    .rw[hc]at z;cases z;exact hb rfl
structure Un(fs ex:List aK)(H H':Hp)(h h':b5):Prop where
 keep:∀b o,h.get? b=aa o->H b=ae->b∉fs->b∉ex->h'.get? b=aa o
 slot:∀b o,h.get? b=aa o->H b=ae->b∈fs->b∉ex->∃sl,h'.get? b=aa {o with slots:=sl}
 free:∀b o,h.get? b=aa o->H b=ae->b∉ex->H' b=ae
 there:∀b o,h.get? b=aa o->b∉ex->∃o',h'.get? b=aa o'
 tups:∀b xs,H b=aa (.tup xs)->H' b=aa (.tup xs)
 frzs:∀b o u,H b=aa (.frz o u)->H' b=aa (.frz o u)
 tbls:∀b ps,H b=aa (.tbl ps)->∃more,H' b=aa (.tbl<|ps++more)
def Un.any(u:Un fs ex H H1 h h1)(q:h.get? b=aa ob)(n:H b=ae)(hx:b∉ex):∃sl,h1.get? b=aa {ob with slots:=sl}:=by
 by_cases hb:b∈fs
 .exact u.slot b ob q n hb hx
 .exact#[ob.slots,u.keep b ob q n hb hx]
def Un.kept(k:∀b u,h.get? b=aa u->h'.get? b=aa u):Un fs ex H H h h':=
 #[λb ob q _ _ _=>k b ob q,λb ob q _ _ _=>#[ob.slots,k b ob q],λ_ _ _ n _=>n,λb ob q _=>#[ob,k b ob q],λ_ _ q=>q,λ_ _ _ q=>q,λ_ ps q=>#[#[],by rw[q];simp]]
def Un.refl:Un fs ex H H h h:=Un.kept λ_ _ q=>q
def Un.laid(k:∀b u,h.get? b=aa u->h'.get? b=aa u)(hp:h.objs.size<=a)(hn:H a=ae):Un fs ex H (upd H a o) h h' where
 keep:=λb u q _ _ _=>k b u q
 slot:=λb u q _ _ _=>#[u.slots,k b u q]
 free:=λb u q n _=>by rw[Zq<|bx<|bj (aF q) hp];exact n
 there:=λb u q _=>#[u,k b u q]
 tups:=λb xs q=>by rw[Zq<|Yg q hn];exact q
 frzs:=λb u xs q=>by rw[Zq<|Yg q hn];exact q
 tbls:=λb ps q=>#[#[],by rw[Zq<|Yg q hn,q];simp]
def Un.write(mu:Mut (H x))(he:e=x\/H e=aa (.own x))(k:∀b u,b≠e->h.get? b=aa u->h'.get? b=aa u)(heo:∃u,h'.get? e=aa u):Un fs ex H (upd H x o) h h':=by
 have hx:∀b,H b=ae->b≠x:=λb n z=>by subst z;rw[n]at mu;exact mu
 have hb:∀b,H b=ae->b≠e:=λb n z=>by
  subst z;rcases he with r|r
  .exact hx b n r
  .rw[n]at r;cases r
 have hm:∀b u,H b=aa u->¬Mut (aa u)->b≠x:=λb u q nm z=>by subst z;rw[q]at mu;exact nm mu
 refine#[λb u q n _ _=>k b u (hb b n) q,λb u q n _ _=>#[u.slots,k b u (hb b n) q],λb u q n _=>by rw[Zq<|hx b n];exact n,λb u q _=>?_,
  λb xs q=>by rw[Zq<|hm b _ q λz=>z];exact q,λb u xs q=>by rw[Zq<|hm b _ q λz=>z];exact q,λb ps q=>#[#[],by rw[Zq<|hm b _ q λz=>z,q];simp]]
 by_cases hbe:b=e
 .subst hbe;exact heo
 .exact#[u,k b u hbe q]
noncomputable def trk(h:b5)(H:Hp):List aK:=(aA h.objs.size).filter λa=>(H a).isSome
noncomputable def Q4(h:b5)(H:Hp):b5:=PySem.W.hideAll h<|trk h H
def xY(h:b5)(H:Hp):(Q4 h H).objs.size=h.objs.size:=PySem.W.hideAll_size _ _
def vh(e:h.get? b=aa o)(n:H b=ae):(Q4 h H).get? b=aa o:=
 PySem.W.hideAll_get _ e λhm=>by
  have q:=(eB.mp hm).2;rw[n]at q;simp at q
def qR(e:(Q4 h H).get? b=aa o):h.get? b=aa o/\H b=ae:=by
 have e':=PySem.W.of_hideAll (trk h H) e;refine#[e',?_];cases q:H b with
 |none=>rfl
 |some x=>
  have hm:b∈trk h H:=eB.mpr #[aN.mpr<|aF e',by simp[q]]
  have z:(Q4 h H).get? b=ae:=PySem.W.hideAll_none (trk h H) hm;rw[z]at e;cases e
structure Mod(K:am)(mg:bE->Option al)(base:b5):Prop where
 kin:K.In base
 glob:base.Ns cJ mg
 blt:∃mb,base.Ns mQ mb/\∀x:bE,x≠"__name__"->mb x=dP x
 nolimit:base.NoLimit
structure Cx where
 prog:bt
 w:bJ
 K:am
 mg:bE->Option al
 base:b5
 A:b8
 N:List bE
 s₀:aq
 H₀:Hp
 env:Env
 outer:List Env
 stack:List Env
 ex:List aK
 fn:bE->Bool
 calm:Bool
 pn:List (aK×fC)
 xe:al->aq->Prop
noncomputable def frs(l:List Env):List aK:=l.filterMap (·.frame)
noncomputable abbrev Cx.fs(X:Cx):List aK:=frs X.outer
def Vis(sc:eT)(x:bE):Prop:=sc.names.lookup x=aa .local\/sc.names.lookup x=aa .cell\/sc.names.lookup x=aa .free
def Loc(sc:eT)(x:bE):Prop:=sc.names.lookup x=aa .local\/sc.names.lookup x=aa .cell
def Look(env:Env)(h:b5)(m:bE->Option al)(x:bE)(u:al):Prop:=
 (env.kindOf x=aa .local/\m x=aa u)\/((env.kindOf x=aa .cell\/env.kindOf x=aa .free)/\∃c,env.cells.lookup x=aa c/\h.IsCell c (aa u))
structure Cx.Ok(X:Cx):Prop where
 mod:Mod X.K X.mg X.base
 kind:X.env.scope.kind=.function
 glob:X.env.globals=cJ
 blt:X.env.builtins=mQ
 above:X.s₀.heap.objs.size<=X.env.locals
 inj:∀x y c,X.env.cells.lookup x=aa c->X.env.cells.lookup y=aa c->x=y
 has:∀x,(X.env.kindOf x=aa .cell\/X.env.kindOf x=aa .free)->∃c,X.env.cells.lookup x=aa c
 cab:∀x c,X.fn x=aj->X.env.cells.lookup x=aa c->X.s₀.heap.objs.size<=c
 hd:X.calm=aj->X.A.handled=ae
 frames:X.A.frames=aa X.stack
 stk:X.stack=X.outer\/(X.stack=X.env::X.outer/\X.env.frame=aa X.env.locals)
 exf:∀b∈X.ex,b≠X.env.locals/\∀x c,X.env.cells.lookup x=aa c->c≠b
 bs:∀b o,X.base.get? b=aa o->X.s₀.heap.get? b=aa o/\X.H₀ b=ae
 bsz:X.base.objs.size<=X.s₀.heap.objs.size
 noex:∀b o,X.base.get? b=aa o->b∉X.ex
 exfs:∀b∈X.ex,b∉X.fs
 funs:X.s₀.heap.FunFrames X.base X.outer
 frf:∀b∈X.fs,X.H₀ b=ae
structure Inv(X:Cx)(pq:List (aK×fC))(U:List (Option V))(H:Hp)(s:aq):Prop where
 ok:X.Ok
 os:s.os=X.s₀.os
 bare:i9 s.gens
 base:Un X.fs X.ex X.H₀ H X.s₀.heap s.heap
 loc:∃m,s.heap.Ns X.env.locals m/\∀(i:Nat)(x:bE)(v:V),X.N[i]?=aa x->U[i]?=aa (aa v)->Vis X.env.scope x->∃u,Zu v u/\Look X.env s.heap m x u
 cell:∀x c,X.env.cells.lookup x=aa c->∃v,s.heap.IsCell c v
 free:H X.env.locals=ae
 freeC:∀x c,X.env.cells.lookup x=aa c->H c=ae
 pin:∀p∈X.pn++pq,s.heap.get? p.1=aa p.2/\H p.1=ae/\p.1≠X.env.locals/\p.1∉X.fs/\∀v,p.2.data≠.cell v
 hok:HOk X.prog X.w H s.heap
 len:U.length=X.N.length
section
variable{X:Cx}{pq:List (aK×fC)}{U:List (Option V)}{H H':Hp}{s:aq}{h':b5}
def Cx.Ok.nofr(ok:X.Ok)(e:X.base.get? b=aa o):b∉X.fs:=λhb=>by
 have:=(ok.funs.mem hb).1;rw[e]at this;cases this
theorem Inv.bs(I:Inv X pq U H s):∀b o,X.base.get? b=aa o->s.heap.get? b=aa o/\H b=ae:=λb o e=>
 #[I.base.keep b o (I.ok.bs b o e).1 (I.ok.bs b o e).2 (I.ok.nofr e)<|I.ok.noex b o e,I.base.free b o (I.ok.bs b o e).1 (I.ok.bs b o e).2<|I.ok.noex b o e]
def Inv.bk(I:Inv X pq U H s):∀b o,X.base.get? b=aa o->s.heap.get? b=aa o:=λb o e=>(I.bs b o e).1
theorem Inv.mod(I:Inv X pq U H s):Mod X.K X.mg X.base:=I.ok.mod
def Inv.kIn(I:Inv X pq U H s):X.K.In s.heap:=I.ok.mod.kin.keeps I.bk
theorem Inv.lt(I:Inv X pq U H s):X.env.locals<s.heap.objs.size:=let #[_,hn,_]:=I.loc;hn.lt
def Inv.sz(I:Inv X pq U H s):X.s₀.heap.objs.size<=s.heap.objs.size:=cM I.ok.above<|gv I.lt
def Inv.nofs(I:Inv X pq U H s)(h:s.heap.objs.size<=a):a∉X.fs:=λhb=>by
 obtain⟨_,o,ho,_⟩:=I.ok.funs.mem hb;exact T7 (bj (aF ho)<|cM I.sz h)<|bu _
def Inv.cne(I:Inv X pq U H s):∀x c,X.env.cells.lookup x=aa c->c≠X.env.locals:=λx c e z=>by
 obtain⟨v,o,ho,hd⟩:=I.cell x c e;obtain⟨m,⟨o',es,ep,ho',hd',_⟩,_⟩:=I.loc;rw[z,ho']at ho;cases ho;rw[hd']at hd;cases hd
theorem Inv.funs(I:Inv X pq U H s):s.heap.FunFrames X.base X.outer:=by
 have all:∀(l:List Env),(∀b∈frs l,b∈X.fs)->X.s₀.heap.FunFrames X.base l->s.heap.FunFrames X.base l:=by
  intro l
  induction l with
  |nil=>intro _ _;trivial
  |cons env r ih=>
   intro hs hl;obtain⟨hk,⟨L,o,hf,hn,ho,hd⟩,hr⟩:=hl;have hL:=hs L (by unfold frs;rw[dO,hf];exact ao)
   obtain⟨sl,e⟩:=I.base.slot L o ho (I.ok.frf L hL) hL λz=>I.ok.exfs L z hL
   exact#[hk,#[L,_,hf,hn,e,hd],ih (λb hb=>hs b<|by unfold frs;rw[dO,hf];exact ax _ hb) hr]
 exact all X.outer (λ_ hb=>hb) I.ok.funs
theorem Inv.stack(I:Inv X pq U H s):s.heap.FunFrames X.base X.stack:=by
 rcases I.ok.stk with e|⟨e,hf⟩
 .rw[e];exact I.funs
 .rw[e]
  obtain⟨m,hn,_⟩:=I.loc;refine .cons (by rw[I.ok.kind];decide) hf hn ?_ I.funs
  exact b5.get?_none_of_le<|cM I.ok.bsz I.ok.above
def Inv.stkSub(I:Inv X pq U H s):∀b∈frs X.stack,b∈X.env.locals::X.fs:=λb hb=>by
 rcases I.ok.stk with e|⟨e,hf⟩
 .rw[e]at hb;exact ax _ hb
 .rw[e]at hb
  unfold frs at hb;rw[dO,hf]at hb;exact hb
def Inv.stkFree(I:Inv X pq U H s):∀b∈frs X.stack,H b=ae:=λb hb=>by
 rcases aC.mp (I.stkSub b hb)with e|hb
 .rw[e];exact I.free
 .obtain⟨_,o,ho,_⟩:=I.ok.funs.mem hb
  exact I.base.free b o ho (I.ok.frf b hb) λz=>I.ok.exfs b z hb
def Inv.step{g':Array GenState}{t':Nat}{d':Drawn}{ch:List aK}(I:Inv X pq U H s)
  (hch:∀b∈ch,(b∈X.ex\/X.s₀.heap.objs.size<=b)/\b≠X.env.locals/\(∀x c,X.env.cells.lookup x=aa c->c≠b)/\∀p∈X.pn++pq,p.1≠b)
  (keep:∀b o,b≠X.env.locals->b∉X.fs->b∉ch->s.heap.get? b=aa o->H b=ae->h'.get? b=aa o)
  (slot:∀b o,b≠X.env.locals->b∈X.fs->b∉ch->s.heap.get? b=aa o->H b=ae->∃sl,h'.get? b=aa {o with slots:=sl})(free:∀b o,b∉ch->s.heap.get? b=aa o->H b=ae->H' b=ae)
  (there:∀b o,b∉ch->s.heap.get? b=aa o->∃o',h'.get? b=aa o')
  (tups:∀b xs,H b=aa (.tup xs)->H' b=aa (.tup xs))(frzs:∀b o u,H b=aa (.frz o u)->H' b=aa (.frz o u))(tbls:∀b ps,H b=aa (.tbl ps)->∃more,H' b=aa (.tbl<|ps++more))
  (ns:∀m,s.heap.Ns X.env.locals m->h'.Ns X.env.locals m)(hok:HOk X.prog X.w H' h')(hg:i9 g') :
  Inv X pq U H' {s with heap:=h',gens:=g',drawn:=d',toks:=t' }:=by
 have neL:∀b o,X.s₀.heap.get? b=aa o->b≠X.env.locals:=λb o e=>bx<|bj (aF e) I.ok.above
 have neC:∀b o,X.s₀.heap.get? b=aa o->b∉X.ex->b∉ch:=λb o e hx hb=>by
  rcases(hch b hb).1 with z|z
  .exact hx z
  .exact T7 (bj (aF e) z)<|bu _
 have cellK:∀x c,X.env.cells.lookup x=aa c->∀v,s.heap.IsCell c v->h'.IsCell c v:=by
  rintro x c e v ⟨o,ho,hd⟩;have nch:=λz=>(hch c z).2.2.1 x c e rfl
  by_cases hc:c∈X.fs
  .obtain⟨sl,q⟩:=slot c o (I.cne x c e) hc nch ho (I.freeC x c e)
   exact#[_,q,hd]
  .exact#[o,keep c o (I.cne x c e) hc nch ho<|I.freeC x c e,hd]
 refine#[I.ok,I.os,hg,#[λb o e n hb hx=>?_,λb o e n hb hx=>?_,λb o e n hx=>?_,λb o e hx=>?_,λb xs e=>tups b xs<|I.base.tups b xs e,λb o xs e=>frzs b o xs<|I.base.frzs b o xs e,λb ps e=>?_],?_,λx c e=>?_,?_,λx c e=>?_,λp hp=>?_,hok,I.len]
 .exact keep b o (neL b o e) hb (neC b o e hx) (I.base.keep b o e n hb hx)<|I.base.free b o e n hx
 .obtain⟨sl,e1⟩:=I.base.slot b o e n hb hx
  obtain⟨sl',e2⟩:=slot b _ (neL b o e) hb (neC b o e hx) e1<|I.base.free b o e n hx;exact#[sl',e2]
 .obtain⟨o',e1⟩:=I.base.there b o e hx
  exact free b o' (neC b o e hx) e1<|I.base.free b o e n hx
 .obtain⟨o',e1⟩:=I.base.there b o e hx
  exact there b o' (neC b o e hx) e1
 .obtain⟨m1,e1⟩:=I.base.tbls b ps e
  obtain⟨m2,e2⟩:=tbls b _ e1;exact#[m1++m2,by rw[e2,Array.append_assoc]]
 .obtain⟨m,hn,hl⟩:=I.loc
  refine#[m,ns m hn,λi x v e1 e2 e3=>?_]
  obtain⟨u,r,l⟩:=hl i x v e1 e2 e3;refine#[u,r,?_];rcases l with l|⟨k,c,e,z⟩
  .exact .inl l
  .exact .inr #[k,c,e,cellK x c e _ z]
 .obtain⟨v,z⟩:=I.cell x c e
  exact#[v,cellK x c e v z]
 .obtain⟨m,⟨o,_,_,ho,_⟩,_⟩:=I.loc
  exact free _ o (λz=>(hch _ z).2.1 rfl) ho I.free
 .obtain⟨v,o,ho,hd⟩:=I.cell x c e
  exact free c o (λz=>(hch c z).2.2.1 x c e rfl) ho<|I.freeC x c e
 .obtain⟨e,n,ne,nf,d⟩:=I.pin p hp
  have nch:=λz=>(hch p.1 z).2.2.2 p hp rfl
  exact#[keep p.1 p.2 ne nf nch e n,free p.1 p.2 nch e n,ne,nf,d]
def Inv.un{t':Nat}(I:Inv X pq U H s)(u:Un X.fs [] H H' s.heap h')(hok:HOk X.prog X.w H' h'):Inv X pq U H' {s with heap:=h',toks:=t' }:=by
 obtain⟨m,⟨o,es,ep,ho,r⟩,_⟩:=id I.loc;obtain⟨sl,hL⟩:=u.any ho I.free (by simp)
 exact I.step (g':=s.gens) (d':=s.drawn) (ch:=[]) (λ_ z=>nomatch z) (λb o _ hb _ e n=>u.keep b o e n hb<|by simp) (λb o _ hb _ e n=>u.slot b o e n hb<|by simp) (λb o _ e n=>u.free b o e n<|by simp) (λb o _ e=>u.there b o e<|by simp) u.tups u.frzs u.tbls (λm' hm=>by
  obtain⟨o',es',ep',ho',r'⟩:=hm;rw[ho]at ho';cases ho';exact#[_,es',ep',hL,r']) hok I.bare
def Inv.call{g':Array GenState}{t':Nat}{d':Drawn}{ch:List aK}(I:Inv X pq U H s)(u:Un (frs X.stack) ch H H' s.heap h')(hok:HOk X.prog X.w H' h')(hg:i9 g')
  (hch:∀b∈ch,(b∈X.ex\/X.s₀.heap.objs.size<=b)/\b≠X.env.locals/\(∀x c,X.env.cells.lookup x=aa c->c≠b)/\∀p∈X.pn++pq,p.1≠b) :
  Inv X pq U H' {s with heap:=h',gens:=g',drawn:=d',toks:=t' }:=by
 obtain⟨m,⟨o,es,ep,ho,r⟩,_⟩:=id I.loc;obtain⟨sl,hL⟩:=u.any ho I.free λz=>(hch _ z).2.1 rfl
 exact I.step hch (λb o hL hb hc e n=>u.keep b o e n (λz=>(aC.mp<|I.stkSub b z).elim hL hb) hc) (λb o _ _ hc e n=>u.any e n hc) (λb o hc e n=>u.free b o e n hc) (λb o hc e=>u.there b o e hc) u.tups u.frzs u.tbls (λm' hm=>by
  obtain⟨o',es',ep',ho',r'⟩:=hm;rw[ho]at ho';cases ho';exact#[_,es',ep',hL,r']) hok hg
def Inv.turned{t':Nat}{it:aK}(I:Inv X pq U H s)(k:∀b o,b≠it->s.heap.get? b=aa o->h'.get? b=aa o)(hn:H it=ae)(hL:it≠X.env.locals)
  (h1:it∈X.ex\/X.s₀.heap.objs.size<=it)(h2:∀x c,X.env.cells.lookup x=aa c->c≠it)(h3:∀p∈X.pn++pq,p.1≠it):Inv X pq U H {s with heap:=h',toks:=t' }:=by
 have nit:∀b u,H b=aa u->b≠it:=λb u e z=>by rw[z,hn]at e;cases e
 refine I.step (g':=s.gens) (d':=s.drawn) (ch:=[it]) (λb hb=>?_) (λb o _ _ hc e _=>k b o (λz=>hc<|by simp[z]) e) (λb o _ _ hc e _=>#[o.slots,k b o (λz=>hc<|by simp[z]) e]) (λ_ _ _ _ n=>n)
  (λb o hc e=>#[o,k b o (λz=>hc<|by simp[z]) e]) (λ_ _ e=>e) (λ_ _ _ e=>e) (λb ps e=>#[#[],by rw[e];simp]) (λm hm=>?_) (λb u e=>?_) I.bare
 .have e:b=it:=by simpa using hb
  subst e;exact#[h1,hL,h2,h3]
 .obtain⟨o,es,ep,ho,r⟩:=hm
  exact#[o,es,ep,k _ o (Ne.symm hL) ho,r]
 .refine(I.hok b u e).stay (λc v hc q=>k c v ?_ q) (λ_ q=>q) λ_ _ q=>q
  rcases hc with z|z
  .rw[z];exact nit b u e
  .exact nit c _ z
def Inv.tok(I:Inv X pq U H s)(t:Nat):Inv X pq U H {s with toks:=t}:=I.un (h':=s.heap) (t':=t) Un.refl I.hok
theorem Inv.kept(I:Inv X pq U H s)(k:∀b u,s.heap.get? b=aa u->h'.get? b=aa u):Inv X pq U H {s with heap:=h',toks:=t' }:=I.un (Un.kept k)<|I.hok.kept k
theorem Inv.laid(I:Inv X pq U H s)(k:∀b u,s.heap.get? b=aa u->h'.get? b=aa u)(hp:s.heap.objs.size<=a)(new:YH X.prog X.w (upd H a o) h' a o) :
  Inv X pq U (upd H a o) {s with heap:=h',toks:=t' }:=I.un (Un.laid k hp<|I.hok.fresh hp)<|I.hok.laid k hp new
theorem Inv.write(I:Inv X pq U H s)(mu:Mut (H x))(he:e=x\/H e=aa (.own x))(k:∀b u,b≠e->s.heap.get? b=aa u->h'.get? b=aa u)(heo:∃u,h'.get? e=aa u)
  (new:YH X.prog X.w (upd H x o) h' x o):Inv X pq U (upd H x o) {s with heap:=h',toks:=t' }:=I.un (Un.write mu he k heo)<|I.hok.write mu he k heo new
def Inv.pins_of(I:Inv X pq U H s)(h:∀p∈pins',s.heap.get? p.1=aa p.2/\H p.1=ae/\p.1≠X.env.locals/\p.1∉X.fs/\∀v,p.2.data≠.cell v):Inv X pins' U H s:=
 #[I.ok,I.os,I.bare,I.base,I.loc,I.cell,I.free,I.freeC,λp hp=>(bK.mp hp).elim (λz=>I.pin p<|c9 _ z)<|h p,I.hok,I.len]
def Gp{N:List bE}(hN:N.Nodup){i j:Nat}{x:bE}(a:N[i]?=aa x)(b:N[j]?=aa x):i=j:=by
 obtain⟨h1,e1⟩:=a9.mp a;obtain⟨h2,e2⟩:=a9.mp b;exact(List.getElem_inj hN).mp<|e1.trans e2.symm
def Wz{M:Model}{A:b8}{E:al->aq->Prop}{i:Nat}{x:bE}{v:V}{u:al}{Q:Unit->aq->Prop}(I:Inv X pq U H s)(hN:X.N.Nodup)(hi:X.N[i]?=aa x)(hx:Loc X.env.scope x)(r:Zu v u)
  (h:∀s',Inv X pq (U.set i<|aa v) H s'->(∃a,fb a s.heap s'.heap/\(a=X.env.locals\/X.env.cells.lookup x=aa a))->Q () s')(hf:X.fn x=aj\/X.env.scope.names.lookup x=aa .local:=by first|exact .inl rfl|exact .inr rfl|assumption):aW M A (storeName X.env x u) Q E s:=by
 obtain⟨m,hn,hl⟩:=id I.loc;have hcls:(X.env.scope.kind == .class||(X.env.scope.kind == .module&&X.env.locals != X.env.globals))=ak:=by rw[I.ok.kind];rfl
 have hiσ:i<U.length:=by rw[I.len];exact(a9.mp hi).1
 have cne:=I.cne;have tracked:∀{a:aK}{h':b5},(∃o,s.heap.get? a=aa o/\H a=ae)->fb a s.heap h'->HOk X.prog X.w H h':=λ{a h'} ha hs b ob e=>by
  obtain⟨_,_,hfree⟩:=ha;refine(I.hok b ob e).stay (λc w' hc q=>(hs.2 c ?_).trans q) (λ_ q=>q) λ_ _ q=>q
  rintro rfl
  rcases hc with rfl|hc
  .rw[hfree]at e;cases e
  .rw[hfree]at hc;cases hc
 rcases hx with hk|hk
 .refine wpAny_storeName_local hk hn (λh' hn' hs=>?_) hcls
  obtain⟨oL,_,_,hoL,_⟩:=id hn;refine h _ #[I.ok,I.os,I.bare,#[λb o e n hb hx=>?_,λb o e n hb hx=>?_,I.base.free,λb o e hx=>?_,I.base.tups,I.base.frzs,I.base.tbls],#[_,hn',λj y v' e1 e2 e3=>?_],λy c e=>?_,I.free,I.freeC,λp hp=>?_,tracked #[oL,hoL,I.free] hs,by simpa using I.len] #[_,hs,.inl rfl]
  .exact(hs.2 b<|bx<|bj (aF e) I.ok.above).trans<|I.base.keep b o e n hb hx
  .obtain⟨sl,e1⟩:=I.base.slot b o e n hb hx
   exact#[sl,(hs.2 b<|bx<|bj (aF e) I.ok.above).trans e1]
  .obtain⟨o',e1⟩:=I.base.there b o e hx
   exact#[o',(hs.2 b<|bx<|bj (aF e) I.ok.above).trans e1]
  .by_cases hj:j=i
   .subst hj
    rw[hi]at e1;cases e1;rw[bR hiσ]at e2;cases e2;exact#[u,r,.inl #[hk,by simp]]
   .rw[bm<|Ne.symm hj]at e2
    obtain⟨u',r',q⟩:=hl j y v' e1 e2 e3;refine#[u',r',?_];rcases q with⟨k,e⟩|⟨k,c,e,z⟩
    .refine .inl #[k,?_]
     have:y≠x:=λe=>hj<|Gp hN e1<|e▸hi
     simp[this,e]
    .exact .inr #[k,c,e,z.sameBut hs<|cne y c e]
  .obtain⟨w',z⟩:=I.cell y c e
   exact#[w',z.sameBut hs<|cne y c e]
  .obtain⟨e,n,ne,nf,d⟩:=I.pin p hp
   exact#[(hs.2 p.1 ne).trans e,n,ne,nf,d]
 .have hfn:X.fn x=aj:=by
   rcases hf with z|z
   .exact z
   .rw[z]at hk;cases hk
  obtain⟨c,hc⟩:=I.ok.has x<|.inl hk;obtain⟨w',z⟩:=I.cell x c hc;refine wpAny_storeName_cell I.ok.kind hk hc z λh' hc' hs=>?_
  obtain⟨oc,hoc,hocd⟩:=id z;refine h {s with heap:=h' } #[I.ok,I.os,I.bare,#[λb o e n hb hx=>?_,λb o e n hb hx=>?_,I.base.free,λb o e hx=>?_,I.base.tups,I.base.frzs,I.base.tbls],#[m,hn.sameBut hs<|Ne.symm<|cne x c hc,λj y v' e1 e2 e3=>?_],λy c' e=>?_,I.free,I.freeC,λp hp=>?_,tracked #[oc,hoc,I.freeC x c hc] hs,by simpa using I.len] #[c,hs,.inr hc]
  .exact(hs.2 b<|bx<|bj (aF e)<|I.ok.cab x c hfn hc).trans<|I.base.keep b o e n hb hx
  .obtain⟨sl,e1⟩:=I.base.slot b o e n hb hx
   exact#[sl,(hs.2 b<|bx<|bj (aF e)<|I.ok.cab x c hfn hc).trans e1]
  .obtain⟨o',e1⟩:=I.base.there b o e hx
   exact#[o',(hs.2 b<|bx<|bj (aF e)<|I.ok.cab x c hfn hc).trans e1]
  .by_cases hj:j=i
   .subst hj
    rw[hi]at e1;cases e1;rw[bR hiσ]at e2;cases e2;exact#[u,r,.inr #[.inl hk,c,hc,hc']]
   .rw[bm<|Ne.symm hj]at e2
    obtain⟨u',r',q⟩:=hl j y v' e1 e2 e3;refine#[u',r',?_];rcases q with q|⟨k,c',e,z'⟩
    .exact .inl q
    .refine .inr #[k,c',e,z'.sameBut hs ?_]
     rintro rfl
     exact hj<|Gp hN e1<|I.ok.inj _ _ _ e hc▸hi
  .by_cases hcc:c'=c
   .subst hcc;exact#[_,hc']
   .obtain⟨w2,z2⟩:=I.cell y c' e
    exact#[w2,z2.sameBut hs hcc]
  .obtain⟨e,n,ne,nf,d⟩:=I.pin p hp
   refine#[(hs.2 p.1 ?_).trans e,n,ne,nf,d];intro q;rw[q,hoc]at e;have q':=ai e;exact d w' (by rw[<-q'];exact hocd)
def Wa{E:al->aq->Prop}{Q:Unit->aq->Prop}(I:Inv X pq U H s)(hN:X.N.Nodup)(hi:X.N[i]?=aa x)(hx:Loc X.env.scope x)(r:Zu v u)
  (h:∀s',Inv X pq (U.set i<|aa v) H s'->Q () s')(hf:X.fn x=aj\/X.env.scope.names.lookup x=aa .local:=by first|exact .inl rfl|exact .inr rfl|assumption):aW M A (storeName X.env x u) Q E s:=
 Wz I hN hi hx r (λs' I' _=>h s' I') hf
def Inv.call'(I:Inv X pq U H s)(ho:s'.os=s.os)(u:Un (frs X.stack) ch H H' s.heap s'.heap)(hok:HOk X.prog X.w H' s'.heap)(hg:i9 s'.gens)
  (hch:∀b∈ch,(b∈X.ex\/X.s₀.heap.objs.size<=b)/\b≠X.env.locals/\(∀x c,X.env.cells.lookup x=aa c->c≠b)/\∀p∈X.pn++pq,p.1≠b):Inv X pq U H' s':=by
 obtain⟨h',g',d',t',o'⟩:=s';have e:=ho;subst e;exact I.call (g':=g') (t':=t') (d':=d') u hok hg hch
end
abbrev XK:=al->Option aK->Hp->Prop
abbrev St:=List<|Option V
abbrev VK:=V->Hp->Prop
abbrev TE:=St->Hp->VK->Prop
abbrev TT:=St->Hp->(Bool->Hp->Prop)->Prop
abbrev TA:=St->Hp->(List V->Hp->Prop)->Prop
structure Ends where
 nx:St->Hp->Prop
 rt:VK
 bk:St->Hp->Prop:=λ_ _=>False
 ct:St->Hp->Prop:=λ_ _=>False
abbrev TS:=Ends->St->Hp->Prop
def EP(X:Cx)(pq:List (aK×fC))(U:St)(Q:VK)(u:al)(s':aq):Prop:=∃v H',Inv X pq U H' s'/\Zu v u/\Q v H'
def TP(X:Cx)(pq:List (aK×fC))(U:St)(Q:Bool->Hp->Prop)(b:Bool)(s':aq):Prop:=∃H',Inv X pq U H' s'/\Q b H'
def AP(X:Cx)(pq:List (aK×fC))(U:St)(Q:List V->Hp->Prop)(us:List al)(s':aq):Prop:=∃vs H',Inv X pq U H' s'/\Vals vs us/\Q vs H'
def SP(X:Cx)(pq:List (aK×fC))(D:Ends)(f:Flow)(s':aq):Prop:=
 match f with
 |.next=>∃σ' H',Inv X pq σ' H' s'/\D.nx σ' H'
 |.brk=>∃σ' H',Inv X pq σ' H' s'/\D.bk σ' H'
 |.cont=>∃σ' H',Inv X pq σ' H' s'/\D.ct σ' H'
 |.ret u=>∃v σ' H',Inv X pq σ' H' s'/\Zu v u/\D.rt v H'
def PE(X:Cx)(e:Expr)(t:TE):Prop:=
 ∀(pq:List (aK×fC))(s:aq)(U:St)(H:Hp)(Q:VK),Inv X pq U H s->t U H Q->aW (aT X.prog X.w) X.A (cC e X.env) (EP X pq U Q) X.xe s
def PT(X:Cx)(e:Expr)(t:TT):Prop:=
 ∀(pq:List (aK×fC))(s:aq)(U:St)(H:Hp)(Q:Bool->Hp->Prop),Inv X pq U H s->t U H Q->aW (aT X.prog X.w) X.A (isTrue e X.env<|cC e X.env) (TP X pq U Q) X.xe s
def PW(X:Cx)(e:Expr)(t:TT):Prop:=
 ∀(whole:nP al)(pq:List (aK×fC))(s:aq)(U:St)(H:Hp)(Q:Bool->Hp->Prop),Inv X pq U H s->t U H Q->aW (aT X.prog X.w) X.A (isTrue e X.env whole) (TP X pq U Q) X.xe s
def PW.pt(h:PW X e t):PT X e t:=h _
def PA(X:Cx)(es:List Expr)(t:TA):Prop:=
 ∀(pos:iA)(pq:List (aK×fC))(s:aq)(U:St)(H:Hp)(Q:List V->Hp->Prop),Inv X pq U H s->t U H Q->aW (aT X.prog X.w) X.A (spliced<|eO pos<|aJ es X.env) (AP X pq U Q) X.xe s
def PS(X:Cx)(st:fR)(t:TS):Prop:=
 ∀(pq:List (aK×fC))(s:aq)(U:St)(H:Hp)(D:Ends),Inv X pq U H s->t D U H->aW (aT X.prog X.w) X.A (exec st X.env) (SP X pq D) X.xe s
def PSs(X:Cx)(st:List fR)(t:TS):Prop:=
 ∀(pq:List (aK×fC))(s:aq)(U:St)(H:Hp)(D:Ends),Inv X pq U H s->t D U H->aW (aT X.prog X.w) X.A (execs st X.env) (SP X pq D) X.xe s
def thn{B:Type}{t:nP B}{Q Q':B->aq->Prop}{M:Model}{A:b8}{E:al->aq->Prop}{s:aq}(h:aW M A t Q E s)(hQ:∀a s,Q a s->Q' a s):aW M A t Q' E s:=cK h hQ λ_ _ x=>x
def Zeb(i:Nat):TE:=λU H Q=>∃v,U[i]?=aa (aa v)/\Q v H
def tC(v:V):TE:=λ_ H Q=>Q v H
def QA(hN:X.N[i]?=aa x)(hv:Vis X.env.scope x)(hd:(x == ("__debug__" : bE))=ak:=by decide)(hcd:(x == ("__classdict__" : bE))=ak:=by decide):PE X (.Name x pos) (Zeb i):=by
 intro pq s U H Q I h;obtain⟨v,e,h⟩:=h;obtain⟨m,hn,hl⟩:=I.loc;obtain⟨u,r,l⟩:=hl i x v hN e hv;have fin:EP X pq U Q u s:=#[v,H,I,r,h];rcases l with⟨hk,hm⟩|⟨hk,c,hc,hcell⟩
 .exact oN (l0 I.ok.kind hk hn hm fin) hd
 .rcases hk with hk|hk
  .exact oN (mz I.ok.kind hk hc hcell fin) hd
  .exact oN (wpAny_loadName_free I.ok.kind hk hc hcell fin hcd) hd
def Qp{i j pos}:PE X (.Constant (.int i) j pos) (tC<|.int i):=λ_ _ _ H _ I h=>wpAny_Constant_int #[.int i,H,I.tok _,#[_,rfl],h]
def Zc7{b j pos}:PE X (.Constant (.bool b) j pos) (tC<|.bl b):=λ_ _ _ H _ I h=>Constant_bool #[.bl b,H,I,rfl,h]
def ZbZ{j pos}:PE X (.Constant .none j pos) (tC .non):=λ_ _ _ H _ I h=>Constant_none #[.non,H,I,rfl,h]
def Gl(X:Cx)(x:bE):Prop:=X.env.kindOf x=aa .globalImplicit
def yK{E:al->aq->Prop}{Q:al->aq->Prop}(I:Inv X pq U H s)(hg:Gl X x)(hm:X.mg x=aa u)(h:Q u s)
  (hd:(x == ("__debug__" : bE))=ak:=by decide):aW (aT X.prog X.w) X.A (cC (.Name x pos) X.env) Q E s:=
 Calls.Name_function_global I.ok.kind hg (Calls.loadGlobal_global (by rw[I.ok.glob];exact I.mod.glob.keeps I.bk) hm h) hd
def Yx{E:al->aq->Prop}{Q:al->aq->Prop}(I:Inv X pq U H s)(hg:Gl X x)(hm:X.mg x=ae)(hv:dP x=aa u)(h:Q u s)
  (hn:x≠"__name__":=by decide)(hd:(x == ("__debug__" : bE))=ak:=by decide):aW (aT X.prog X.w) X.A (cC (.Name x pos) X.env) Q E s:=by
 obtain⟨mb,h1,h2⟩:=I.mod.blt;exact Calls.Name_function_global I.ok.kind hg (Calls.loadGlobal_builtin (by rw[I.ok.glob];exact I.mod.glob.keeps I.bk) hm (by rw[I.ok.blt];exact h1.keeps I.bk) ((h2 x hn).trans hv) h) hd
def zH(hg:Gl X x)(hm:X.mg x=aa u)(r:Zu v u)(hd:(x == ("__debug__" : bE))=ak:=by decide):PE X (.Name x pos) (tC v):=
 λ_ _ _ H _ I h=>yK I hg hm #[v,H,I,r,h] hd
def qQ(hg:Gl X x)(hm:X.mg x=ae)(hv:dP x=aa u)(r:Zu v u)(hn:x≠"__name__":=by decide)(hd:(x == ("__debug__" : bE))=ak:=by decide):PE X (.Name x pos) (tC v):=
 λ_ _ _ H _ I h=>Yx I hg hm hv #[v,H,I,r,h] hn hd
def tOr(t u:TT):TT:=λU H Q=>t U H λc H1=>if c=aj then Q aj H1 else u U H1 Q
def Zen(t:TT):TT:=λU H Q=>t U H λc H1=>Q (!c) H1
def ZbE(ha:PT X a tA):PW X (.BoolOp .Or [a] pos) tA:=by
 intro wh pq s U H Q I h;refine isTrue_or<|thn (ha pq s U H Q I h) λc s1 e=>?_
 cases c with|false=>exact isTrue_or_nil e|true=>exact e
def Zd4(ha:PT X a tA)(hb:PW X (.BoolOp .Or (b::rest) pos) tB'):PW X (.BoolOp .Or (a::b::rest) pos) (tOr tA tB'):=by
 intro wh pq s U H Q I h;refine isTrue_or<|thn (ha pq s U H _ I h) λc s1 #[H1,I1,q1]=>?_
 cases c with|true=>exact#[H1,I1,q1]|false=>exact hb wh pq s1 U H1 Q I1 q1
def ZbS(ha:PT X a tA):PT X (.UnaryOp .Not a pos) (Zen tA):=by
 intro pq s U H Q I h;exact isTrue_not<|ha pq s U H (λc H1=>Q (!c) H1) I h
def ZdV(ta tb:TE):TE:=λU H Q=>ta U H λx H1=>∃c,x=.bl c/\if c=aj then tb U H1 Q else Q (.bl ak) H1
def ZcN{op}{t:TE}(h:PE X a t):PE X (.BoolOp op [a] pos) t:=λpq s U H Q I hw=>BoolOp_one<|h pq s U H Q I hw
def ZcY(ha:PE X a ta)(hb:PE X (.BoolOp .And (b::rest) pos) tb):PE X (.BoolOp .And (a::b::rest) pos) (ZdV ta tb):=by
 intro pq s U H Q I h;refine BoolOp_and<|thn (ha pq s U H _ I h) λv s1 #[x,H1,I1,r1,q1]=>?_
 obtain⟨c,rfl,q1⟩:=q1;cases r1;refine fz ?_;cases c with|true=>exact hb pq s1 U H1 Q I1 q1|false=>exact#[.bl ak,H1,I1,rfl,q1]
def tIf(t:TT)(ta tb:TE):TE:=λU H Q=>t U H λc H1=>if c=aj then ta U H1 Q else tb U H1 Q
def qv{c:Expr}(hc:PT X c tA)(ha:PE X a ta)(hb:PE X b tb):PE X (.IfExp c a b pos) (tIf tA ta tb):=by
 intro pq s U H Q I h;refine wpAny_IfExp<|thn (hc pq s U H _ I h) λd s1 #[H1,I1,q1]=>?_
 cases d with|true=>exact ha pq s1 U H1 Q I1 q1|false=>exact hb pq s1 U H1 Q I1 q1
def SqL(K:am)(H:Hp)(a:aK)(xs:List V):Prop:=
 Rd H a (.lst xs)\/
  ∃(o:fC)(its:Array al)(n:Nat),K.lookup a=aa o/\o.cls=.type "list"/\o.dict=ae/\o.data=.seq its n/\its.size<=bw/\Vals xs its.toList
def SqT(K:am)(H:Hp)(a:aK)(xs:List V):Prop:=
 Rd H a (.tup xs)\/
  ∃(o:fC)(its:Array al)(n:Nat),K.lookup a=aa o/\o.cls=.type "tuple"/\o.data=.seq its n/\its.size<=bw/\Vals xs its.toList
noncomputable def ZeK:al->Option V
 |.none=>aa .non
 |.bool b=>aa<|.bl b
 |.int i _=>aa<|.int i
 |.str x _=>aa<|.str x
 |.bytes b _=>aa<|.byt b
 |.float b _=>aa<|.flt b
 |.ref a=>aa<|.ref a
 |.type n=>aa<|.ty n
 |_=>ae
def Zu.abs(r:Zu x u):ZeK u=aa x:=by
 cases x with|non=>cases r;rfl|bl _=>cases r;rfl|int _=>obtain⟨t,rfl⟩:=r;rfl|str _=>obtain⟨t,rfl⟩:=r;rfl|byt _=>obtain⟨t,rfl⟩:=r;rfl|flt _=>obtain⟨t,rfl⟩:=r;rfl|ref _=>cases r;rfl|ty _=>cases r;rfl
def Zu.inj{x y:V}{u:al}(r:Zu x u)(q:Zu y u):x=y:=ai<|r.abs.symm.trans q.abs
theorem Vals.inj:∀{xs ys:List V}{us:List al},Vals xs us->Vals ys us->xs=ys
 |_,_,_,.nil,.nil=>rfl
 |_,_,_,.cons r t,.cons r' t'=>by rw[r.inj r',Vals.inj t t']
def SqL.of{K:am}(h:H a=aa (.lst xs)):SqL K H a xs:=.inl<|.inl h
def SqT.of{K:am}(h:H a=aa (.tup xs)):SqT K H a xs:=.inl<|.inl h
def Inv.list(I:Inv X pq U H s)(h:SqL X.K H a xs):∃its:List al,Vals xs its/\PlainL s.heap a its.toArray/\xs.length<=bw:=by
 rcases h with h|⟨o,its,n,hk,hc,hd,hs,hz,r⟩
 .obtain⟨z,its,n,r,e⟩:=h.ok I.hok
  exact#[its,r,#[_,n,e,rfl,rfl,rfl],z]
 .refine#[its.toList,r,#[o,n,I.kIn a o hk,hc,hd,by simpa using hs],?_]
  have e:=r.length;simp only[az]at e;lia
def Inv.tuple(I:Inv X pq U H s)(h:SqT X.K H a xs):∃its:List al,Vals xs its/\pO s.heap a its.toArray/\xs.length<=bw:=by
 rcases h with h|⟨o,its,n,hk,hc,hs,hz,r⟩
 .obtain⟨z,its,r,p⟩:=h.ok I.hok
  exact#[its,r,p,z]
 .refine#[its.toList,r,#[o,I.kIn a o hk,hc,n,by simpa using hs],?_]
  have e:=r.length;simp only[az]at e;lia
def Inv.list_inj(I:Inv X pq U H s)(h:SqL X.K H a xs)(h':SqL X.K H a ys):xs=ys:=by
 obtain⟨its,r,⟨o,n,e,_,_,d⟩,_⟩:=I.list h;obtain⟨its',r',⟨o',n',e',_,_,d'⟩,_⟩:=I.list h';rw[e]at e';cases e';rw[d]at d';injection d' with d1 _
 have:its=its':=by simpa using congrArg Array.toList d1
 subst this;exact r.inj r'
def Inv.tuple_inj(I:Inv X pq U H s)(h:SqT X.K H a xs)(h':SqT X.K H a ys):xs=ys:=by
 obtain⟨its,r,⟨o,e,_,n,d⟩,_⟩:=I.tuple h;obtain⟨its',r',⟨o',e',_,n',d'⟩,_⟩:=I.tuple h';rw[e]at e';cases e';rw[d]at d';injection d' with d1 _
 have:its=its':=by simpa using congrArg Array.toList d1
 subst this;exact r.inj r'
noncomputable abbrev Cx.wish(X:Cx)(E:al->aq->Prop):Cx:={X with xe:=E}
noncomputable abbrev Cx.nox(X:Cx):Cx:=X.wish λ_ _=>False
theorem Cx.Ok.wish{X:Cx}(ok:X.Ok)(E:al->aq->Prop):(X.wish E).Ok:=
 #[ok.mod,ok.kind,ok.glob,ok.blt,ok.above,ok.inj,ok.has,ok.cab,ok.hd,ok.frames,ok.stk,ok.exf,ok.bs,ok.bsz,ok.noex,ok.exfs,ok.funs,ok.frf]
def Cx.Ok.unwish{X:Cx}{E:al->aq->Prop}(ok:(X.wish E).Ok):X.Ok:=
 #[ok.mod,ok.kind,ok.glob,ok.blt,ok.above,ok.inj,ok.has,ok.cab,ok.hd,ok.frames,ok.stk,ok.exf,ok.bs,ok.bsz,ok.noex,ok.exfs,ok.funs,ok.frf]
section
variable{X:Cx}{pq:List (aK×fC)}{U:St}{H:Hp}{s:aq}{E:al->aq->Prop}
theorem Inv.wish(I:Inv X pq U H s)(E:al->aq->Prop):Inv (X.wish E) pq U H s:=#[I.ok.wish E,I.os,I.bare,I.base,I.loc,I.cell,I.free,I.freeC,I.pin,I.hok,I.len]
theorem Inv.unwish(I:Inv (X.wish E) pq U H s):Inv X pq U H s:=#[I.ok.unwish,I.os,I.bare,I.base,I.loc,I.cell,I.free,I.freeC,I.pin,I.hok,I.len]
theorem SP.unwish{D:Ends}{f:Flow}{s':aq}(h:SP (X.wish E) pq D f s'):SP X pq D f s':=by
 cases f with|next=>obtain⟨σ',H',I,q⟩:=h;exact#[σ',H',I.unwish,q]|brk=>obtain⟨σ',H',I,q⟩:=h;exact#[σ',H',I.unwish,q]|cont=>obtain⟨σ',H',I,q⟩:=h;exact#[σ',H',I.unwish,q]|ret u=>obtain⟨v,σ',H',I,r,q⟩:=h;exact#[v,σ',H',I.unwish,r,q]
theorem PSs.nox{st:List fR}{t:TS}(h:PSs X.nox st t):PSs X st t:=λpq s U H D I hw=>
 cK (h pq s U H D (I.wish _) hw) (λ_ _ q=>q.unwish) λ_ _ z=>False.elim z
end
section
variable{X:Cx}{st:fR}{rest:List fR}{t u:TS}{e:Expr}{te:TE}{pos:iA}
def ZdG:TS:=λD U H=>D.nx U H
def Zeh(t u:TS):TS:=λD U H=>t {D with nx:=u D} U H
def qS:PSs X [] ZdG:=λ_ _ U H _ I h=>wpAny_execs_nil #[U,H,I,h]
def JU(h1:PS X st t)(h2:PSs X rest u):PSs X (st::rest) (Zeh t u):=by
 intro pq s U H D I h;refine wpAny_execs_cons<|thn (h1 pq s U H {D with nx:=u D} I h) λf s1 q=>?_
 cases f with
 |next=>
  obtain⟨σ',H',I',q⟩:=q;exact h2 pq s1 σ' H' D I' q
 |ret v=>exact q
 |brk=>exact q
 |cont=>exact q
def Inv.quiet(I:Inv X pq U H s):interactive X.env=ak:=by simp[interactive,I.ok.kind]
def Zdm(te:TE):TS:=λD U H=>te U H λ_ H1=>D.nx U H1
def QZ(he:PE X e te)(hs:gS e ae pos.line X.env=cW ak:=by rfl):PS X (.Expr e pos) (Zdm te):=by
 intro pq s U H D I h;exact wpAny_Expr_any (thn (he pq s U H _ I h)<|by rintro v s1 ⟨x,H1,I1,r1,q1⟩;exact #[U,H1,I1,q1]) I.quiet hs
def Zew(te:TE):TS:=λD U H=>te U H D.rt
def vX(he:PE X e te):PS X (.Return (aa e) pos) (Zew te):=by
 intro pq s U H D I h;exact wpAny_Return_some<|thn (he pq s U H _ I h)<|by rintro v s1 ⟨x,H1,I1,r1,q1⟩;exact #[x,U,H1,I1,r1,q1]
def Zeo(c:TT)(t u:TS):TS:=λD U H=>c U H λb H1=>if b=aj then t D U H1 else u D U H1
def Zdy{c:Expr}{a b:List fR}{tc:TT}(hc:PT X c tc)(ha:PSs X a t)(hb:PSs X b u):PS X (.If c a b pos) (Zeo tc t u):=by
 intro pq s U H D I h;refine wpAny_If<|thn (hc pq s U H _ I h) λd s1 #[H1,I1,q1]=>?_
 cases d with|true=>exact ha pq s1 U H1 D I1 q1|false=>exact hb pq s1 U H1 D I1 q1
end
abbrev TG:=V->St->Hp->(St->Hp->Prop)->Prop
abbrev TGs:=List V->St->Hp->(St->Hp->Prop)->Prop
def PG(X:Cx)(target:Expr)(t:TG):Prop:=
 ∀(pq:List (aK×fC))(s:aq)(U:St)(H:Hp)(v:V)(u:al)(Q:St->Hp->Prop),Inv X pq U H s->Zu v u->t v U H Q->
  aW (aT X.prog X.w) X.A (assign target X.env u) (λ_ s'=>∃σ' H',Inv X pq σ' H' s'/\Q σ' H') X.xe s
def PGs(X:Cx)(ts:List Expr)(t:TGs):Prop:=
 ∀(pq:List (aK×fC))(s:aq)(U:St)(H:Hp)(vs:List V)(us:List al)(Q:St->Hp->Prop),Inv X pq U H s->Vals vs us->t vs U H Q->
  aW (aT X.prog X.w) X.A (mG ((cz ts X.env).map (·.2)) us) (λ_ s'=>∃σ' H',Inv X pq σ' H' s'/\Q σ' H') X.xe s
abbrev TSet:=V->V->V->Hp->(Hp->Prop)->Prop
def PSet(X:Cx)(t:TSet):Prop:=
 ∀(pq:List (aK×fC))(s:aq)(U:St)(H:Hp)(o i v:V)(ov iv u:al)(Q:Hp->Prop),Inv X pq U H s->Zu o ov->Zu i iv->Zu v u->t o i v H Q->
  aW (aT X.prog X.w) X.A (setItem ov iv u) (λ_ s'=>∃H',Inv X pq U H' s'/\Q H') X.xe s
abbrev TIp:=V->V->Hp->VK->Prop
def PIp(X:Cx)(op:oO)(t:TIp):Prop:=
 ∀(pq:List (aK×fC))(s:aq)(U:St)(H:Hp)(x y:V)(v u:al)(Q:VK),Inv X pq U H s->Zu x v->Zu y u->t x y H Q->
  aW (aT X.prog X.w) X.A (inplaceOp op v u) (EP X pq U Q) X.xe s
section
variable{X:Cx}{pos:iA}
def Zdq(i:Nat):TG:=λv U H Q=>Q (U.set i<|aa v) H
def Qr(hN:X.N.Nodup)(hi:X.N[i]?=aa x)(hx:Loc X.env.scope x)(hf:X.fn x=aj\/X.env.scope.names.lookup x=aa .local:=by first|exact .inl rfl|exact .inr rfl|assumption):PG X (.Name x pos) (Zdq i):=by
 intro pq s U H v u Q I r h;exact kc<|Wa I hN hi hx r (λs' I'=>#[_,H,I',h]) hf
def Zeg:TGs:=λvs U H Q=>vs=[]/\Q U H
def ZdE(t:TG)(u:TGs):TGs:=λvs U H Q=>∃v r,vs=v::r/\t v U H λσ' H'=>u r σ' H' Q
def ZaA:PGs X [] Zeg:=by
 intro pq s U H vs us Q I r h;obtain⟨e,h⟩:=h;subst e;cases r;exact m5 #[U,H,I,h]
def uJ{e:Expr}{es:List Expr}{t:TG}{u:TGs}(h1:PG X e t)(h2:PGs X es u)
  (hs:(cz (e::es) X.env).map (·.2)=assign e X.env::(cz es X.env).map (·.2):=by rfl):PGs X (e::es) (ZdE t u):=by
 intro pq s U H vs us Q I r h;obtain⟨v,vr,e1,h⟩:=h;subst e1;cases r with
 |cons r rr=>
  rw[hs];refine iJ<|thn (h1 pq s U H _ _ _ I r h) λ_ s1 #[σ1,H1,I1,q1]=>?_
  exact h2 pq s1 σ1 H1 _ _ Q I1 rr q1
def Zec(K:am)(n:Nat)(t:TGs):TG:=λv U H Q=>∃a xs,v=.ref a/\SqT K H a xs/\xs.length=n/\t xs U H Q
def ZcI(hc:X.calm=aj)(h:PGs X es t)
  (hn:(cz es X.env).length=n:=by rfl)(hst:(cz es X.env).findIdx? (·.1)=ae:=by rfl):PG X (.Tuple es k pos) (Zec X.K n t):=by
 intro pq s U H v u Q I r hw;obtain⟨a,xs,e1,hq,hl,hw⟩:=hw;subst e1;cases r;obtain⟨its,rv,ht,hz⟩:=I.tuple hq;refine assign_Tuple_tuple (I.ok.hd hc) ht (by simp[hn,<-hl,rv.length]) hst λh' hx=>?_
 have I1:=I.kept (t':=s.toks) λb o e=>hx b o (bx<|aF e) e
 exact h pq _ U H xs _ Q I1 (by simpa using rv) hw
def Zd9(to ti:TE)(t:TSet):TG:=λv U H Q=>to U H λo H1=>ti U H1 λi H2=>t o i v H2 λH3=>Q U H3
def ZbG{o i:Expr}{to ti:TE}{t:TSet}(ho:PE X o to)(hi:PE X i ti)(hs:PSet X t)
  (ha:∀v,assign (.Subscript o i pos) X.env v=(do
   let ov <-g6 [v] (cC o X.env)
   let iv <-g6 [v,ov] (cC i X.env)
   k8 pos
   g6 [v,ov,iv] (setItem ov iv v)
   release [v,ov,iv] []):=by intro _;rfl):PG X (.Subscript o i pos) (Zd9 to ti t):=by
 intro pq s U H v u Q I r h;rw[ha];refine ab<|b6<|thn (ho pq s U H _ I h) λov s1 #[x,H1,I1,r1,q1]=>?_
 refine ab<|b6<|thn (hi pq s1 U H1 _ I1 q1) λiv s2 #[y,H2,I2,r2,q2]=>?_
 refine ab<|dR<|ab<|b6<|thn (hs pq s2 U H2 x y v ov iv u _ I2 r1 r2 r q2) λ_ s3 #[H3,I3,q3]=>?_
 exact wpAny_release #[U,H3,I3,q3]
def Zel(te:TE)(g:TG):TS:=λD U H=>te U H λx H1=>g x U H1 D.nx
def VY{tg e:Expr}{te:TE}{g:TG}(he:PE X e te)(hg:PG X tg g)(hs:dS [tg] e pos.line X.env=cW ak:=by rfl)(hw:dU [tg] e X.env=cW ae:=by rfl)
  (h1:(cz [tg] X.env).map (·.2)=[assign tg X.env]:=by rfl):PS X (.Assign [tg] e pos) (Zel te g):=by
 intro pq s U H D I h;refine wpAny_Assign_stores (thn (he pq s U H _ I h) λv s1 #[x,H1,I1,r1,q1]=>?_) hs hw
 rw[h1];exact thn (hg pq s1 U H1 x v _ I1 r1 q1) λ_ s2 q=>q
def ZeE(i j:Nat)(ta:TA):TS:=λD U H=>ta U H λvs H1=>∃v w,vs=[v,w]/\D.nx ((U.set i<|aa v).set j<|aa w) H1
def ZcP{i j:Nat}{x y:bE}{a b:Expr}{ta:TA}{px py pt:iA}{kt k2 pt2}(hc:X.calm=aj)(hN:X.N.Nodup)(hi:X.N[i]?=aa x)(hj:X.N[j]?=aa y)(hij:i≠j)
  (hx:X.env.scope.names.lookup x=aa .local)(hy:X.env.scope.names.lookup y=aa .local)(ha:PA X [a,b] ta)
  (hw:dU [.Tuple [.Name x px,.Name y py] kt pt] (.Tuple [a,b] k2 pt2) X.env=cW (aa [x,y]))
  (hs:dS [.Tuple [.Name x px,.Name y py] kt pt] (.Tuple [a,b] k2 pt2) pos.line X.env=cW ak:=by rfl) :
  PS X (.Assign [.Tuple [.Name x px,.Name y py] kt pt] (.Tuple [a,b] k2 pt2) pos) (ZeE i j ta):=by
 intro pq s U H D I h;rw[exec_Assign_arm];refine ab<|dR ?_;rw[hs];refine ab<|aw ?_;rw[T8 (by decide)]
 refine ab<|Tuple_<|thn (ha _ pq s U H _ I h) λus s1 #[vs,H1,I1,r1,q1]=>?_
 obtain⟨v,w,e1,q1⟩:=q1;subst e1;obtain⟨u1,u2,rfl,rv,rw'⟩:∃u1 u2,us=[u1,u2]/\Zu v u1/\Zu w u2:=by
  cases r1 with
  |cons p q=>
   cases q with
   |cons p' q'=>
    cases q';exact#[_,_,rfl,p,p']
 refine bV ?_ (by show 2<=bw;decide)
 have I2:Inv X pq U H1 {s1 with heap:=s1.heap.push {cls:=.type "tuple",data:=.seq [u1,u2].toArray}}:=I1.kept (t':=s1.toks) λb o e=>au _ e
 rw[hw];refine ab<|aw ?_;show aW (aT X.prog X.w) X.A (do m7 "assign.swapped-stores";let items <-unpackItems (.ref s1.heap.objs.size) 2 ae;mG [λv=>bindName X.env y v,λv=>bindName X.env x v] items.reverse;cW Flow.next) _ _ _
 refine ab<|d4<|ab<|unpackItems_tuple (items:=[u1,u2].toArray) (I.ok.hd hc) (iG s1.heap _) λh' hx'=>?_
 have I3:=I2.kept (h':=h') (t':=s1.toks) λb o e=>hx' b o (bx<|aF e) e
 refine ab<|iJ<|wpAny_bindName<|Wa I3 hN hj (.inl hy) rw' (λs2 I4=>?_)<|.inr hy
 refine iJ<|wpAny_bindName<|Wa I4 hN hi (.inl hx) rv (λs3 I5=>m5<|aw ?_)<|.inr hx
 rw[List.set_comm _ _<|Ne.symm hij]at I5;exact#[_,H1,I5,q1]
def Zej(i:Nat)(te:TE)(ti:TIp):TS:=λD U H=>∃x,U[i]?=aa (aa x)/\te U H λy H1=>ti x y H1 λz H2=>D.nx (U.set i<|aa z) H2
def ZbU{i:Nat}{x:bE}{e:Expr}{te:TE}{op:oO}{ti:TIp}{pos':iA}(hN:X.N.Nodup)(hi:X.N[i]?=aa x)(hx:Loc X.env.scope x)(he:PE X e te)(ho:PIp X op ti)(hf:X.fn x=aj\/X.env.scope.names.lookup x=aa .local:=by first|exact .inl rfl|exact .inr rfl|assumption) :
  PS X (.AugAssign (.Name x pos') op e pos) (Zej i te ti):=by
 intro pq s U H D I h;obtain⟨v,e1,h⟩:=h;obtain⟨m,hn,hl⟩:=I.loc;have vis:Vis X.env.scope x:=by rcases hx with k|k;exact .inl k;exact .inr<|.inl k
 obtain⟨u,r,l⟩:=hl i x v hi e1 vis;refine wpAny_AugAssign_Name ?_;have go:aW (aT X.prog X.w) X.A (cC e X.env) (λw s₂=>aW (aT X.prog X.w) X.A (inplaceOp op u w) (λr s₃=>aW (aT X.prog X.w) X.A (storeName X.env x r) (λ_=>SP X pq D .next) X.xe s₃) X.xe s₂) X.xe s:=by
  refine thn (he pq s U H _ I h) λw s1 #[y,H1,I1,r1,q1]=>?_
  refine thn (ho pq s1 U H1 v y u w _ I1 r r1 q1) λz s2 #[zv,H2,I2,r2,q2]=>?_
  exact Wa I2 hN hi hx r2 (λs3 I3=>#[_,H2,I3,q2]) hf
 rcases l with⟨hk,hm⟩|⟨hk,c,hc,hcell⟩
 .exact l0 I.ok.kind hk hn hm go
 .rcases hk with hk|hk
  .exact mz I.ok.kind hk hc hcell go
  .rcases hx with k|k
   .have:X.env.scope.names.lookup x=aa .free:=hk
    rw[k]at this;cases this
   .have:X.env.scope.names.lookup x=aa .free:=hk
    rw[k]at this;cases this
end
structure It where
 go:Nat->Hp->Prop
 yld:Nat->Hp->V->Hp->Prop
 stop:Nat->Hp->Prop
def X8(X:Cx)(pq:List (aK×fC))(H:Hp)(b:aK):Prop:=
 H b=ae/\b≠X.env.locals/\b∉X.fs/\(b∈X.ex\/X.s₀.heap.objs.size<=b)/\(∀x c,X.env.cells.lookup x=aa c->c≠b)/\∀p∈X.pn++pq,p.1≠b
def Inv.fpOk(I:Inv X pq U H s)(hb:s.heap.objs.size<=b)(hn:H' b=ae):X8 X pq H' b:=by
 refine#[hn,gw<|bj I.lt hb,I.nofs hb,.inr<|cM I.sz hb,λx c e z=>?_,λp hp z=>?_]
 .obtain⟨v,q⟩:=I.cell x c e
  exact T7 (bj q.lt<|by rw[z];exact hb)<|bu _
 .exact T7 (bj (aF (I.pin p hp).1)<|by rw[z];exact hb)<|bu _
structure Turn(P:bt)(w:bJ)(K:am)(tg:Expr)(J:It)(fp:List aK)(it:aK)(tn:Nat->b5->Prop):Prop where
 mem:it∈fp
 obj:∀i h,tn i h->∀b∈fp,∃o,h.get? b=aa o/\∀v,o.data≠.cell v
 keep:∀i h h',tn i h->(∀b∈fp,∀o,h.get? b=aa o->h'.get? b=aa o)->tn i h'
 item:∀(X:Cx),X.prog=P->X.w=w->X.K=K->X.calm=aj->∀(i:Nat)(pq:List (aK×fC))(s:aq)(U:St)(H:Hp)(E:al->aq->Prop),Inv X pq U H s->(∀b∈fp,X8 X pq H b)->tn i s.heap->J.go i H->
  aW (aT P w) X.A (l4<|.ref it) (λr s1=>∃u,r=aa u/\
   aW (aT P w) X.A (lJ tg (.ref it) u) (λ_ s2=>∃x H',Inv X pq U H' s2/\Zu x u/\J.yld i H x H'/\tn (i+1) s2.heap/\∀b∈fp,H' b=ae) E s1) E s
 done:∀(X:Cx),X.prog=P->X.w=w->X.K=K->X.calm=aj->∀(i:Nat)(pq:List (aK×fC))(s:aq)(U:St)(H:Hp)(E:al->aq->Prop),Inv X pq U H s->(∀b∈fp,X8 X pq H b)->tn i s.heap->J.stop i H->
  aW (aT P w) X.A (l4<|.ref it) (λr s1=>r=ae/\Inv X pq U H s1) E s
 self:∀(A:b8)(i:Nat)(s:aq)(Q:al->aq->Prop)(E:al->aq->Prop),tn i s.heap->Q (.ref it) s->aW (aT P w) A (ko<|.ref it) Q E s
abbrev TI:=St->Hp->(It->Hp->Prop)->Prop
def PIE(X:Cx)(pq:List (aK×fC))(U:St)(tg:Expr)(R:It->Hp->Prop)(itv:al)(s2:aq):Prop:=
 ∃(it:aK)(fp:List aK)(tn:Nat->b5->Prop)(J:It)(H':Hp),itv=.ref it/\Inv X pq U H' s2/\Turn X.prog X.w X.K tg J fp it tn/\tn 0 s2.heap/\(∀b∈fp,X8 X pq H' b)/\R J H'
def PI(X:Cx)(tg iter:Expr)(wi:TI):Prop:=
 ∀(pq:List (aK×fC))(s:aq)(U:St)(H:Hp)(R:It->Hp->Prop),Inv X pq U H s->wi U H R->
  aW (aT X.prog X.w) X.A (cC iter X.env) (λv s1=>aW (aT X.prog X.w) X.A (ko v) (PIE X pq U tg R) X.xe s1) X.xe s
def yV{E:al->aq->Prop}{Q:Unit->aq->Prop}(ho:s.heap.get? it=aa o)(hc:o.cls=.type n)(hd:o.data=.fields vs)
  (hn:["enumerate","zip","dict_itemiterator","dict_reverseitemiterator","odict_iterator","itertools.zip_longest","itertools.pairwise"].contains n=ak)(hQ:Q () s):aW M A (lJ tg (.ref it) u) Q E s:=by
 cases tg<;>first
  |exact aw hQ
  |(cases u<;>first
    |exact aw hQ
    |(refine ab (k9 ho ?_)
      rw[hc,hd];show aW M A (if(["enumerate","zip","dict_itemiterator","dict_reverseitemiterator","odict_iterator","itertools.zip_longest","itertools.pairwise"].contains n&&vs[0]? == aa (fP _))=aj then _ else _) Q E s
      rw[T8 (by intro h;rw[hn,Bool.false_and]at h;cases h)]
      exact aw hQ))
noncomputable def Itl(K:am)(a:aK):It:=
 #[λi H=>∃xs x,SqL K H a xs/\xs[i]?=aa x,λi H x H'=>H'=H/\∀xs,SqL K H a xs->xs[i]?=aa x,λi H=>∃xs,SqL K H a xs/\xs.length<=i]
noncomputable def Itt(K:am)(a:aK):It:=
 #[λi H=>∃xs x,SqT K H a xs/\xs[i]?=aa x,λi H x H'=>H'=H/\∀xs,SqT K H a xs->xs[i]?=aa x,λi H=>∃xs,SqT K H a xs/\xs.length<=i]
noncomputable def Itr(lo:Int)(n:Nat):It:=#[λi _=>i<n,λi H x H'=>H'=H/\x=.int (lo+i),λi _=>n<=i]
def xZ{P:bt}{w:bJ}{K:am}{tg:Expr}(a it:aK):Turn P w K tg (Itl K a) [it] it (λi h=>h.IsListIter it a i) where
 mem:=by simp
 obj:=λi h st b hb=>by
  have e:b=it:=by simpa using hb
  subst e;obtain⟨o,e,c,d⟩:=st;exact#[o,e,λv z=>by rw[d]at z;cases z]
 keep:=λi h h' st k=>st.at λo e=>k it (by simp) o e
 item:=by
  intro X hP hw hK hc i pq s U H E I hf st hg;subst hP hw hK;obtain⟨xs,x,hq,hx⟩:=hg;obtain⟨its,rv,p,hz⟩:=I.list hq;obtain⟨u,hu,ru⟩:=rv.get hx;obtain⟨f0,f1,f2,f3,f4,f5⟩:=hf it (by simp)
  refine lc st p.isList (by simpa using hu) λh' st' sb=>?_
  have I1:=I.turned (t':=s.toks) (λb o hb e=>(sb.2 b hb).trans e) f0 f1 f3 f4 f5
  obtain⟨o,e,c,d⟩:=id st';exact#[u,rfl,yV e c d (by decide) #[x,H,I1,ru,#[rfl,λys hy=>by rw[I.list_inj hy hq];exact hx],st',λb hb=>(hf b hb).1]]
 done:=by
  intro X hP hw hK hc i pq s U H E I hf st hg;subst hP hw hK;obtain⟨xs,hq,hx⟩:=hg;obtain⟨its,rv,p,hz⟩:=I.list hq;obtain⟨f0,f1,f2,f3,f4,f5⟩:=hf it (by simp)
  have hl:=rv.length;exact lT (I.ok.hd hc) st p.isList (by simp;lia) λh' eb=>#[rfl,I.turned (t':=s.toks) (λb o hb e=>eb b o hb e) f0 f1 f3 f4 f5]
 self:=λ_ _ _ _ _ st h=>wpAny_pyIter_listiter st h
def zu{P:bt}{w:bJ}{K:am}{tg:Expr}(a it:aK):Turn P w K tg (Itt K a) [it] it (λi h=>h.IsTupleIter it a i) where
 mem:=by simp
 obj:=λi h st b hb=>by
  have e:b=it:=by simpa using hb
  subst e;obtain⟨o,e,c,d⟩:=st;exact#[o,e,λv z=>by rw[d]at z;cases z]
 keep:=λi h h' st k=>st.at λo e=>k it (by simp) o e
 item:=by
  intro X hP hw hK hc i pq s U H E I hf st hg;subst hP hw hK;obtain⟨xs,x,hq,hx⟩:=hg;obtain⟨its,rv,p,hz⟩:=I.tuple hq;obtain⟨u,hu,ru⟩:=rv.get hx;obtain⟨f0,f1,f2,f3,f4,f5⟩:=hf it (by simp)
  refine wpAny_pyNext_tuple_item st (p) (by simpa using hu) λh' st' sb=>?_
  have I1:=I.turned (t':=s.toks) (λb o hb e=>(sb.2 b hb).trans e) f0 f1 f3 f4 f5
  obtain⟨o,e,c,d⟩:=id st';exact#[u,rfl,yV e c d (by decide) #[x,H,I1,ru,#[rfl,λys hy=>by rw[I.tuple_inj hy hq];exact hx],st',λb hb=>(hf b hb).1]]
 done:=by
  intro X hP hw hK hc i pq s U H E I hf st hg;subst hP hw hK;obtain⟨xs,hq,hx⟩:=hg;obtain⟨its,rv,p,hz⟩:=I.tuple hq;obtain⟨f0,f1,f2,f3,f4,f5⟩:=hf it (by simp)
  have hl:=rv.length;exact wpAny_pyNext_tuple_end (I.ok.hd hc) st (p) (by simp;lia) λh' eb=>#[rfl,I.turned (t':=s.toks) (λb o hb e=>eb b o hb e) f0 f1 f3 f4 f5]
 self:=λ_ _ _ _ _ st h=>wpAny_pyIter_tupleiter st h
def GE{P:bt}{w:bJ}{K:am}{tg:Expr}(it:aK)(lo:Int)(n:Nat):Turn P w K tg (Itr lo n) [it] it (λi h=>IsRangeIter h it (lo+(i:Nat)*1) ((n:Int)-(i:Nat)) 1) where
 mem:=by simp
 obj:=λi h st b hb=>by
  have e:b=it:=by simpa using hb
  subst e;exact#[_,st,λv z=>by
   have z':=z;cases z']
 keep:=λi h h' st k=>k it (by simp) _ st
 item:=by
  intro X hP hw hK hc i pq s U H E I hf st hg;subst hP hw hK;obtain⟨f0,f1,f2,f3,f4,f5⟩:=hf it (by simp)
  have W:=Walks.range (prog:=X.prog) (w:=X.w) (I.ok.hd hc) it lo 1 n;refine W.item i s _ _ hg st λv h' tk hv st' kk=>?_
  obtain⟨t,rfl⟩:=hv;have I1:Inv X pq U H {s with heap:=h',toks:=tk}:=I.turned (λb o hb e=>kk b o (by simpa using hb) e) f0 f1 f3 f4 f5
  refine#[_,rfl,yV st' rfl rfl (by decide) #[.int<|lo+i,H,I1,#[t,?_],#[rfl,rfl],st',λb hb=>(hf b hb).1]]
  rw[Int.mul_one]
 done:=by
  intro X hP hw hK hc i pq s U H E I hf st hg;subst hP hw hK;obtain⟨f0,f1,f2,f3,f4,f5⟩:=hf it (by simp)
  exact lg (I.ok.hd hc) st (by have:n<=i:=hg;lia) λh' eb=>#[rfl,I.turned (t':=s.toks) (λb o hb e=>eb b o hb e) f0 f1 f3 f4 f5]
 self:=λ_ _ _ _ _ st h=>gx st h
section
variable{X:Cx}{tg:Expr}
theorem JC{pq:List (aK×fC)}{U:St}{H:Hp}{s:aq}{R:It->Hp->Prop}{E:al->aq->Prop}{lo hi:Int}{t u v:pL}{tk:Nat}(I:Inv X pq U H s)(h1:-(2^62)<=lo)(h2:lo<2^62)(h3:-(2^62)<=hi)(h4:hi<2^62)
  (q:R (Itr lo (hi-lo).toNat) H):aW (aT X.prog X.w) X.A (ko<|.ref s.heap.objs.size) (PIE X pq U tg R) E {s with heap:=s.heap.push {cls:=.type "range",data:=.fields [.int lo t,.int hi u,.int 1 v].toArray},toks:=tk}:=by
 refine wpAny_pyIter_range (IsRange.new ..) (small_one h1 h2 h3 h4) ?_;have I1:Inv X pq U H {s with heap:=s.heap.push {cls:=.type "range",data:=.fields [.int lo t,.int hi u,.int 1 v].toArray},toks:=tk}:=I.kept λb o e=>au _ e
 refine#[(s.heap.push {cls:=.type "range",data:=.fields [.int lo t,.int hi u,.int 1 v].toArray}).objs.size,[(s.heap.push {cls:=.type "range",data:=.fields [.int lo t,.int hi u,.int 1 v].toArray}).objs.size],_,_,H,rfl,
  I1.kept (t':=tk) λb o e=>au _ e,GE _ lo (hi-lo).toNat,?_,λb hb=>?_,q]
 .have e1:lo+((0:Nat):Int)*1=lo:=by simp
  have e2:(((hi-lo).toNat:Nat):Int)-((0:Nat):Int)=gh lo hi 1:=by rw[rangeSize_one];split<;>lia
  rw[e1,e2];exact aL _ rfl
 .have e:b=(s.heap.push {cls:=.type "range",data:=.fields [.int lo t,.int hi u,.int 1 v].toArray}).objs.size:=by simpa using hb
  subst e;exact I1.fpOk (aM _)<|I1.hok.fresh<|aM _
def ZdB(ta:TA):TI:=λU H R=>ta U H λvs H1=>∃j:Int,vs=[.int j]/\-(2^62)<=j/\j<2^62/\R (Itr 0 j.toNat) H1
def ZdU(ta:TA):TI:=λU H R=>ta U H λvs H1=>∃i j:Int,vs=[.int i,.int j]/\(-(2^62)<=i/\i<2^62/\-(2^62)<=j/\j<2^62)/\R (Itr i (j-i).toNat) H1
theorem wb{a:Expr}{ta:TA}{p pos:iA}(hg:Gl X "range")(hm:X.mg "range" = ae)(ha:PA X [a] ta)(hs:aJ [a] X.env=[(ak,cC a X.env)]:=by rfl):PI X tg (.Call (.Name "range" p) [a] [] pos) (ZdB ta):=by
 intro pq s U H R I h;refine pP<|Yx I hg hm oP<|bS (thn (ha pos pq s U H _ I h) λus s1 #[vs,H1,I1,r1,q1]=>?_) hs rfl
 obtain⟨j,e,q1,q2,q⟩:=q1;subst e;cases r1 with
 |cons r rr=>
  cases rr;obtain⟨t,rfl⟩:=r;exact call_range_1<|JC I1 (by lia) (by lia) q1 q2 (by simpa using q)
def wd{a b:Expr}{ta:TA}{p pos:iA}(hg:Gl X "range")(hm:X.mg "range" = ae)(ha:PA X [a,b] ta)(hs:aJ [a,b] X.env=[(ak,cC a X.env),(ak,cC b X.env)]:=by rfl)(hs2:aJ [b] X.env=[(ak,cC b X.env)]:=by rfl) :
  PI X tg (.Call (.Name "range" p) [a,b] [] pos) (ZdU ta):=by
 intro pq s U H R I h;refine pP<|Yx I hg hm oP<|bS (thn (ha pos pq s U H _ I h) λus s1 #[vs,H1,I1,r1,q1]=>?_) (by rw[hs,hs2]) (by rw[hs2];rfl)
 obtain⟨i,j,e,⟨q1,q2,q3,q4⟩,q⟩:=q1;subst e;cases r1 with
 |cons r rr=>
  cases rr with
  |cons r' rr=>
   cases rr;obtain⟨t,rfl⟩:=r;obtain⟨t',rfl⟩:=r';exact call_range_2<|JC I1 q1 q2 q3 q4 q
def Zes(wi:TI)(g:TG)(tb:TS):TS:=λD U H=>wi U H λJ H1=>∃W:Nat->Nat->St->Hp->Prop,(∃m,W 0 m U H1)/\∀i m U H,W i m U H->
 (J.stop i H/\D.nx U H)\/(J.go i H/\∃N:St->Hp->Prop,(∀σ' H',N σ' H'->∃m',m'<m/\W (i+1) m' σ' H')/\∀x H',J.yld i H x H'->g x U H' λσ2 H2=>tb {D with nx:=N,ct:=N,bk:=D.nx} σ2 H2)
noncomputable def VU(fp:List aK)(h:b5):List (aK×fC):=fp.filterMap λb=>(h.get? b).map λo=>(b,o)
def YV(hb:b∈fp)(e:h.get? b=aa o):(b,o)∈VU fp h:=mR.mpr #[b,hb,by rw[e];rfl]
def xH(hp:p∈VU fp h):p.1∈fp/\h.get? p.1=aa p.2:=by
 obtain⟨b,hb,e⟩:=mR.mp hp;cases q:h.get? b with
 |none=>rw[q]at e;cases e
 |some o=>
  rw[q]at e;have e':=ai e;subst e';exact#[hb,q]
def Inv.pinned(I:Inv X pq U H s)(hf:∀b∈fp,X8 X pq H b)(ho:∀b∈fp,∃o,s.heap.get? b=aa o/\∀v,o.data≠.cell v):Inv X (pq++VU fp s.heap) U H s:=
 I.pins_of λp hp=>(bK.mp hp).elim (λz=>I.pin p<|bB _ z) λz=>by
  obtain⟨hb,e⟩:=xH z;obtain⟨f0,f1,f2,_⟩:=hf p.1 hb;obtain⟨o,e',d⟩:=ho p.1 hb;rw[e]at e';cases e';exact#[e,f0,f1,f2,d]
def Inv.unpinned(I:Inv X (pq++pl) U H s):Inv X pq U H s:=I.pins_of λp hp=>I.pin p<|bB _<|c9 _ hp
def ZcE{iter:Expr}{body:List fR}{wi:TI}{g:TG}{tb:TS}{pos:iA}(hp:PassesOwn (aT X.prog X.w) X.A X.env X.xe)(hc:X.calm=aj)(hi:PI X tg iter wi)(hg:PG X tg g)(hb:PSs X body tb)
  (hs:∀x,bO iter X.env x=cW x:=by intro _;rfl):PS X (.For tg iter body [] pos) (Zes wi g tb):=by
 intro pq s U H D I h;refine wpAny_For (thn (hi pq s U H _ I h) λv s1 h1=>thn h1 λitv s2 h2=>?_) hs
 obtain⟨it,fp,tn,J,H2,e,I2,T,st2,f2,W,⟨m0,w0⟩,turn⟩:=h2;subst e;have stat:∀{H':Hp},(∀b∈fp,H' b=ae)->∀b∈fp,X8 X pq H' b:=λhn b hb=>#[hn b hb,(f2 b hb).2]
 refine codeAny_forLoop_any (λn s'=>∃i σ' H',Inv X pq σ' H' s'/\tn i s'.heap/\(∀b∈fp,H' b=ae)/\W i n σ' H') ?_ m0 #[0,U,H2,I2,st2,λb hb=>(f2 b hb).1,w0]
 rintro n s3 ⟨i,σ3,H3,I3,st3,fr3,w3⟩
 rcases turn i n σ3 H3 w3 with⟨stop,qn⟩|⟨go,N,hN,step⟩
 .refine fY hp (thn (T.done X rfl rfl rfl hc i pq s3 σ3 H3 X.xe I3 (stat fr3) st3 stop) λr s4 #[hr,I4]=>?_)
  subst hr;exact wpAny_execs_nil #[σ3,H3,I4,qn]
 .refine fY hp (thn (T.item X rfl rfl rfl hc i pq s3 σ3 H3 X.xe I3 (stat fr3) st3 go) λr s4 #[u,hr,h4]=>?_)
  subst hr;refine fY hp<|thn h4 λ_ s5 #[x,H5,I5,r5,y5,st5,fr5]=>?_
  have I5':=I5.pinned (stat fr5)<|T.obj _ _ st5;refine fY hp<|thn (hg _ s5 σ3 H5 x u _ I5' r5<|step x H5 y5) λ_ s6 #[σ6,H6,I6,q6]=>?_
  refine fY hp<|thn (hb _ s6 σ6 H6 _ I6 q6) λf s7 q7=>?_
  have pH:∀{σ7:St}{H7:Hp},Inv X (pq++VU fp s5.heap) σ7 H7 s7->N σ7 H7->∃m,m<n/\∃i σ' H',Inv X pq σ' H' s7/\tn i s7.heap/\(∀b∈fp,H' b=ae)/\W i m σ' H':=λ{σ7 H7} I7 n7=>by
   obtain⟨m',hm,w7⟩:=hN σ7 H7 n7;refine#[m',hm,i+1,σ7,H7,I7.unpinned,T.keep _ _ _ st5 λb hb o e=>(I7.pin (b,o)<|bB _<|bB _<|YV hb e).1,λb hb=>?_,w7]
   obtain⟨o,e,d⟩:=T.obj _ _ st5 b hb;exact(I7.pin (b,o)<|bB _<|bB _<|YV hb e).2.1
  cases f with|next=>obtain⟨σ7,H7,I7,n7⟩:=q7;exact pH I7 n7|cont=>obtain⟨σ7,H7,I7,n7⟩:=q7;exact pH I7 n7|brk=>obtain⟨σ7,H7,I7,q7⟩:=q7;exact#[σ7,H7,I7.unpinned,q7]|ret v=>obtain⟨x7,σ7,H7,I7,r7,q7⟩:=q7;exact#[x7,σ7,H7,I7.unpinned,r7,q7]
end
abbrev R2:=V->V->Hp->VK->Prop
def OpR(X:Cx)(f:al->al->nP al)(r:R2):Prop:=
 ∀(pq:List (aK×fC))(s:aq)(U:St)(H:Hp)(x y:V)(v u:al)(Q:VK),Inv X pq U H s->Zu x v->Zu y u->r x y H Q->
  aW (aT X.prog X.w) X.A (f v u) (EP X pq U Q) X.xe s
def UnR(X:Cx)(f:al->nP al)(r:V->Hp->VK->Prop):Prop:=
 ∀(pq:List (aK×fC))(s:aq)(U:St)(H:Hp)(x:V)(v:al)(Q:VK),Inv X pq U H s->Zu x v->r x H Q->
  aW (aT X.prog X.w) X.A (f v) (EP X pq U Q) X.xe s
def ZM(X:Cx)(f:al)(r:List V->Hp->VK->Prop):Prop:=
 ∀(pq:List (aK×fC))(s:aq)(U:St)(H:Hp)(xs:List V)(us:List al)(Q:VK),Inv X pq U H s->Vals xs us->r xs H Q->
  aW (aT X.prog X.w) X.A (call f us) (EP X pq U Q) X.xe s
def Zek(X:Cx)(r:V->Hp->(Bool->Hp->Prop)->Prop):Prop:=
 ∀(pq:List (aK×fC))(s:aq)(U:St)(H:Hp)(x:V)(v:al)(Q:Bool->Hp->Prop),Inv X pq U H s->Zu x v->r x H Q->
  aW (aT X.prog X.w) X.A (truthy v) (TP X pq U Q) X.xe s
def tOp(r:R2)(ta tb:TE):TE:=λU H Q=>ta U H λx H1=>tb U H1 λy H2=>r x y H2 Q
def tUn(r:V->Hp->VK->Prop)(ta:TE):TE:=λU H Q=>ta U H λx H1=>r x H1 Q
def rI(C:Int->Int->Prop)(g:Int->Int->V):R2:=λx y H Q=>∃i j,x=.int i/\y=.int j/\C i j/\Q (g i j) H
def rI0(g:Int->Int->V):R2:=λx y H Q=>∃i j,x=.int i/\y=.int j/\Q (g i j) H
def rU(g:Int->V):V->Hp->VK->Prop:=λx H Q=>∃i,x=.int i/\Q (g i) H
def ZcZ(ha:PE X a ta)(hb:PE X b tb){pq:List (aK×fC)}{s:aq}{U:St}{H:Hp}{R:V->V->Hp->Prop}(I:Inv X pq U H s)
  (h:ta U H λx H1=>tb U H1 λy H2=>R x y H2){Q:al->aq->Prop}{f:al->al->nP al}
  (hf:∀v u s2 x y H2,Inv X pq U H2 s2->Zu x v->Zu y u->R x y H2->aW (aT X.prog X.w) X.A (f v u) Q X.xe s2) :
  aW (aT X.prog X.w) X.A (cC a X.env) (λv s₁=>aW (aT X.prog X.w) X.A (cC b X.env) (λu s₂=>aW (aT X.prog X.w) X.A (f v u) Q X.xe s₂) X.xe s₁) X.xe s:=by
 refine thn (ha pq s U H _ I h) λv s1 #[x,H1,I1,r1,q1]=>?_
 refine thn (hb pq s1 U H1 _ I1 q1) λu s2 #[y,H2,I2,r2,q2]=>?_
 exact hf v u s2 x y H2 I2 r1 r2 q2
def Qd(ho:OpR X (eF op) r)(ha:PE X a ta)(hb:PE X b tb):PE X (.BinOp a op b pos) (tOp r ta tb):=by
 intro pq s U H Q I h;exact wpAny_BinOp<|ZcZ ha hb I h λv u s2 x y H2 I2 rx ry q=>ho pq s2 U H2 x y v u Q I2 rx ry q
def Zdl{op:UnaryOp}{r:V->Hp->VK->Prop}(ho:UnR X (unaryOp op) r)(ha:PE X a ta):PE X (.UnaryOp op a pos) (tUn r ta):=by
 intro pq s U H Q I h;exact UnaryOp_<|thn (ha pq s U H _ I h)<|by rintro v s1 ⟨x,H1,I1,r1,q1⟩;exact ho pq s1 U H1 x v Q I1 r1 q1
def opI{f:al->al->nP al}{C:Int->Int->Prop}{g:Int->Int->Int}
  (m7:∀(i j:Int)(t u:pL)(s:aq)(Q:al->aq->Prop)(E:al->aq->Prop),C i j->Q (.int (g i j) s.toks) {s with toks:=s.toks+1}->aW (aT X.prog X.w) X.A (f (.int i t)<|.int j u) Q E s) :
  OpR X f (rI C λi j=>.int<|g i j):=by
 intro pq s U H x y v u Q I rx ry h;obtain⟨i,j,rfl,rfl,hc,q⟩:=h;obtain⟨t,rfl⟩:=rx;obtain⟨t',rfl⟩:=ry;exact m7 i j t t' s _ _ hc #[.int<|g i j,H,I.tok _,#[_,rfl],q]
def ZdF{f:al->al->nP al}{g:Int->Int->Int}
  (m7:∀(i j:Int)(t u:pL)(s:aq)(Q:al->aq->Prop)(E:al->aq->Prop),Q (.int (g i j) s.toks) {s with toks:=s.toks+1}->aW (aT X.prog X.w) X.A (f (.int i t)<|.int j u) Q E s) :
  OpR X f (rI0 λi j=>.int<|g i j):=by
 intro pq s U H x y v u Q I rx ry h;obtain⟨i,j,rfl,rfl,q⟩:=h;obtain⟨t,rfl⟩:=rx;obtain⟨t',rfl⟩:=ry;exact m7 i j t t' s _ _ #[.int<|g i j,H,I.tok _,#[_,rfl],q]
def jk{f:al->al->nP al}{g:Int->Int->Bool}
  (m7:∀(i j:Int)(t u:pL)(s:aq)(Q:al->aq->Prop)(E:al->aq->Prop),Q (.bool<|g i j) s->aW (aT X.prog X.w) X.A (f (.int i t)<|.int j u) Q E s) :
  OpR X f (rI0 λi j=>.bl<|g i j):=by
 intro pq s U H x y v u Q I rx ry h;obtain⟨i,j,rfl,rfl,q⟩:=h;obtain⟨t,rfl⟩:=rx;obtain⟨t',rfl⟩:=ry;exact m7 i j t t' s _ _ #[.bl<|g i j,H,I,rfl,q]
def CPow(i j:Int):Prop:=0<=j/\j<=1000000/\i.natAbs<2^64
def ZbA:OpR X (eF .Add) (rI0 λi j=>.int<|i+j):=ZdF λ_ _ _ _ _ _ _ q=>add_int q
def ZbR:OpR X (eF .Sub) (rI0 λi j=>.int<|i-j):=ZdF λ_ _ _ _ _ _ _ q=>sub_int q
def Zbp:OpR X (eF .Mod) (rI (λ_ j=>0<j) λi j=>.int<|i%j):=opI λi j _ _ _ _ _ hc q=>by
 have h1:=hc;exact mod_int' (by lia) (by rw[Int.fmod_eq_emod_of_nonneg i (by lia)];exact q)
def ZcW:OpR X (eF .Pow) (rI CPow λi j=>.int<|i^j.toNat):=opI λ_ _ _ _ _ _ _ hc q=>pow_int_small hc.1 hc.2.1 hc.2.2 q
def unI{f:al->nP al}{g:Int->Int}
  (m7:∀(i:Int)(t:pL)(s:aq)(Q:al->aq->Prop)(E:al->aq->Prop),Q (.int (g i) s.toks) {s with toks:=s.toks+1}->aW (aT X.prog X.w) X.A (f<|.int i t) Q E s) :
  UnR X f (rU λi=>.int<|g i):=by
 intro pq s U H x v Q I rx h;obtain⟨i,rfl,q⟩:=h;obtain⟨t,rfl⟩:=rx;exact m7 i t s _ _ #[.int<|g i,H,I.tok _,#[_,rfl],q]
def ZcB:UnR X (unaryOp .USub) (rU λi=>.int<|-i):=unI λ_ _ _ _ _ q=>neg_int q
noncomputable def scal:V->V->Bool
 |.non,.non=>aj|.non,.int _=>aj|.int _,.non=>aj|.non,.bl _=>aj|.bl _,.non=>aj|.non,.str _=>aj|.str _,.non=>aj
 |.int _,.int _=>aj|.bl _,.bl _=>aj|.str _,.str _=>aj|.byt _,.byt _=>aj
 |.int _,.str _=>aj|.str _,.int _=>aj|.bl _,.str _=>aj|.str _,.bl _=>aj
 |_,_=>ak
def rEq:R2:=λx y H Q=>scal x y=aj/\Q (.bl<|ag<|x=y) H
def rNe:R2:=λx y H Q=>scal x y=aj/\Q (.bl<|!decide (x=y)) H
def yc :ag (V.int i=V.int j)=(i == j):=by
 rw[bW];simp
def qh :ag (V.bl i=V.bl j)=(i == j):=by
 rw[bW];simp
def ym :ag (V.str i=V.str j)=(i == j):=by
 rw[bW];simp
def yR :ag (V.byt i=V.byt j)=(i.toList == j.toList):=by
 rw[bW];cases i;cases j;simp
section
variable{X:Cx}{a b c:Expr}{ta tb tc:TE}{pos:iA}
def Zx(I:Inv X pq U H s)(q:Q (.bl k) H)(e:k=k'):EP X pq U Q (.bool k') s:=by
 subst e;exact#[.bl k,H,I,rfl,q]
def Zdd:OpR X (cF .Eq) rEq:=by
 intro pq s U H x y v u Q I rx ry h;obtain⟨hs,q⟩:=h;cases x with
 |non=>
  cases rx;cases y with|non=>cases ry;exact PySem.EqNone.eq_none_none<|Zx I q (by simp)|bl j=>cases ry;exact PySem.EqNone.eq_none_bool<|Zx I q (by simp)|int j=>obtain⟨t',rfl⟩:=ry;exact PySem.EqNone.eq_none_int<|Zx I q (by simp)|str j=>obtain⟨t',rfl⟩:=ry;exact PySem.EqNone.eq_none_str<|Zx I q (by simp)|_=>exact T7 (hs) aI
 |bl i=>
  cases rx;cases y with|non=>cases ry;exact PySem.EqNone.eq_bool_none<|Zx I q (by simp)|bl j=>cases ry;exact eq_bool<|Zx I q qh|str j=>obtain⟨t',rfl⟩:=ry;exact PySem.EqMixed.eq_bool_str<|Zx I q (by simp)|_=>exact T7 (hs) aI
 |int i=>
  obtain⟨t,rfl⟩:=rx;cases y with|non=>cases ry;exact PySem.EqNone.eq_int_none<|Zx I q (by simp)|int j=>obtain⟨t',rfl⟩:=ry;exact eq_int<|Zx I q yc|str j=>obtain⟨t',rfl⟩:=ry;exact PySem.EqMixed.eq_int_str<|Zx I q (by simp)|_=>exact T7 (hs) aI
 |str i=>
  obtain⟨t,rfl⟩:=rx;cases y with|non=>cases ry;exact PySem.EqNone.eq_str_none<|Zx I q (by simp)|bl j=>cases ry;exact PySem.EqMixed.eq_str_bool<|Zx I q (by simp)|int j=>obtain⟨t',rfl⟩:=ry;exact PySem.EqMixed.eq_str_int<|Zx I q (by simp)|str j=>obtain⟨t',rfl⟩:=ry;exact eq_str<|Zx I q ym|_=>exact T7 (hs) aI
 |byt i=>
  obtain⟨t,rfl⟩:=rx;cases y with|byt j=>obtain⟨t',rfl⟩:=ry;exact PySem.W.eq_bytes<|Zx I q yR|_=>exact T7 (hs) aI
 |_=>cases y<;>exact T7 (hs) aI
def Zd7:OpR X (cF .NotEq) rNe:=by
 intro pq s U H x y v u Q I rx ry h;obtain⟨hs,q⟩:=h;cases x with
 |non=>
  cases rx;cases y with|non=>cases ry;exact PySem.EqNone.ne_none_none<|Zx I q (by simp)|bl j=>cases ry;exact PySem.EqNone.ne_none_bool<|Zx I q (by simp)|int j=>obtain⟨t',rfl⟩:=ry;exact PySem.EqNone.ne_none_int<|Zx I q (by simp)|str j=>obtain⟨t',rfl⟩:=ry;exact PySem.EqNone.ne_none_str<|Zx I q (by simp)|_=>exact T7 (hs) aI
 |bl i=>
  cases rx;cases y with|non=>cases ry;exact PySem.EqNone.ne_bool_none<|Zx I q (by simp)|bl j=>cases ry;exact ne_bool<|Zx I q<|congrArg not qh|str j=>obtain⟨t',rfl⟩:=ry;exact PySem.EqMixed.ne_bool_str<|Zx I q (by simp)|_=>exact T7 (hs) aI
 |int i=>
  obtain⟨t,rfl⟩:=rx;cases y with|non=>cases ry;exact PySem.EqNone.ne_int_none<|Zx I q (by simp)|int j=>obtain⟨t',rfl⟩:=ry;exact ne_int<|Zx I q<|congrArg not yc|str j=>obtain⟨t',rfl⟩:=ry;exact PySem.EqMixed.ne_int_str<|Zx I q (by simp)|_=>exact T7 (hs) aI
 |str i=>
  obtain⟨t,rfl⟩:=rx;cases y with|non=>cases ry;exact PySem.EqNone.ne_str_none<|Zx I q (by simp)|bl j=>cases ry;exact PySem.EqMixed.ne_str_bool<|Zx I q (by simp)|int j=>obtain⟨t',rfl⟩:=ry;exact PySem.EqMixed.ne_str_int<|Zx I q (by simp)|str j=>obtain⟨t',rfl⟩:=ry;exact ne_str<|Zx I q<|congrArg not ym|_=>exact T7 (hs) aI
 |byt i=>
  obtain⟨t,rfl⟩:=rx;cases y with|byt j=>obtain⟨t',rfl⟩:=ry;exact PySem.W.ne_bytes<|Zx I q<|congrArg not yR|_=>exact T7 (hs) aI
 |_=>cases y<;>exact T7 (hs) aI
def Zd2:OpR X (cF .Lt) (rI0 λi j=>.bl<|ag<|i<j):=jk λ_ _ _ _ _ _ _ q=>lt_int q
def ZdP:OpR X (cF .LtE) (rI0 λi j=>.bl<|ag<|i<=j):=jk λ_ _ _ _ _ _ _ q=>le_int q
def ZdA:OpR X (cF .Gt) (rI0 λi j=>.bl<|ag<|j<i):=jk λ_ _ _ _ _ _ _ q=>gt_int q
def ZdW:OpR X (cF .GtE) (rI0 λi j=>.bl<|ag<|j<=i):=jk λ_ _ _ _ _ _ _ q=>ge_int q
def OpR.or(h:OpR X f r)(h':OpR X f r'):OpR X f (λx y H Q=>r x y H Q\/r' x y H Q):=by
 intro pq s U H x y v u Q I rx ry q;rcases q with q|q
 .exact h pq s U H x y v u Q I rx ry q
 .exact h' pq s U H x y v u Q I rx ry q
def Zbf(b:Expr)(h:op≠.In:=by decide)(h2:op≠.NotIn:=by decide):eQ op b=ak:=by
 have e1:(op == CmpOp.In)=ak:=by cases op<;>first|rfl|exact T7 rfl h
 have e2:(op == CmpOp.NotIn)=ak:=by cases op<;>first|rfl|exact T7 rfl h2
 cases b<;>simp[eQ,e1,e2]
def yB(ho:OpR X (cF op) r)(ha:PE X a ta)(hb:PE X b tb)(hm:eQ op b=ak):PE X (.Compare a [op] [b] pos) (tOp r ta tb):=by
 intro pq s U H Q I h;exact wpAny_Compare1 (ZcZ ha hb I h λv u s2 x y H2 I2 rx ry q=>ho pq s2 U H2 x y v u Q I2 rx ry q) hm
def Zdf(t:TE):TT:=λU H Q=>t U H λx H'=>∃k,x=.bl k/\Q k H'
def jK(ho:OpR X (cF op) r)(ha:PE X a ta)(hb:PE X b tb)(hm:eQ op b=ak):PT X (.Compare a [op] [b] pos) (Zdf<|tOp r ta tb):=by
 intro pq s U H Q I h;refine wpAny_isTrue_Compare1 (thn (ha pq s U H _ I h) λv s1 #[x,H1,I1,r1,q1]=>thn (hb pq s1 U H1 _ I1 q1) λu s2 #[y,H2,I2,r2,q2]=>
  thn (ho pq s2 U H2 x y v u _ I2 r1 r2 q2) λc s3 #[z,H3,I3,r3,k,e,q3]=>?_) hm
 subst e;cases r3;exact fz #[H3,I3,q3]
def Zbx(r r':R2)(ta tb tc:TE):TE:=λU H Q=>ta U H λx H1=>tb U H1 λy H2=>r x y H2 λz H3=>∃k,z=.bl k/\
 (if k=aj then tc U H3 λw' H4=>r' y w' H4 Q else Q (.bl ak) H3)
def ud(ho:OpR X (cF op) r)(ho':OpR X (cF op') r')(ha:PE X a ta)(hb:PE X b tb)(hc:PE X c tc)
  (hm:lastMarks [op,op'] [b,c]=ak:=by with_unfolding_all rfl):PE X (.Compare a [op,op'] [b,c] pos) (Zbx r r' ta tb tc):=by
 intro pq s U H Q I h;refine Compare_chain (thn (ha pq s U H _ I h) λv s1 #[x,H1,I1,r1,q1]=>chain_link (thn (hb pq s1 U H1 _ I1 q1) λu s2 #[y,H2,I2,r2,q2]=>
  thn (ho pq s2 U H2 x y v u _ I2 r1 r2 q2) λd s3 #[z,H3,I3,r3,k,e,q3]=>?_)) hm
 subst e;cases r3;refine fz ?_;cases k with|false=>exact ite_ff #[.bl ak,H3,I3,rfl,q3]|true=>exact ite_tt<|chain_last<|thn (hc pq s3 U H3 _ I3 q3)<|by rintro w' s4 ⟨z',H4,I4,r4,q4⟩;exact ho' pq s4 U H4 y z' u w' Q I4 r2 r4 q4
def jU(K:am)(x:V)(H:Hp)(k:Bool):Prop:=
 match x with
 |.non=>k=ak
 |.bl b=>k=b
 |.int i=>k=(i != 0)
 |.str y=>y.length<=bw/\k=((y.length:Int) != 0)
 |.byt y=>y.size<=bw/\k=((y.size:Int) != 0)
 |.ref p=>(∃xs,SqL K H p xs/\k = !xs.isEmpty)\/(∃xs,SqT K H p xs/\k = !xs.isEmpty)\/∃kvs,H p=aa (.dK kvs)/\k = !kvs.isEmpty
 |_=>False
def GN{κ:Type}{kvs:List (κ×V)}{vs:List (κ×al)}(r:KV kvs vs):(!vs.isEmpty) = !kvs.isEmpty:=by
 cases r<;>rfl
def Um{xs:List V}{its:List al}(r:Vals xs its):(!its.toArray.isEmpty) = !xs.isEmpty:=by
 cases r<;>simp
def Uq:(bw:Nat)<2^63:=by rw[cq];decide
theorem ve:Zek X (λx H Q=>∃k,jU X.K x H k/\Q k H):=by
 intro pq s U H x v Q I rx h;obtain⟨k,e,q⟩:=h;have hl:=Uq;have hs:=cq;cases x with
 |non=>
  cases rx;have e':=e;subst e';exact truthy_none #[H,I,q]
 |bl b=>
  cases rx;have e':k=b:=e;subst e';exact fz #[H,I,q]
 |int i=>
  obtain⟨t,rfl⟩:=rx;have e':=e;subst e';exact mS #[H,I,q]
 |str y=>
  obtain⟨t,rfl⟩:=rx;obtain⟨hy,e'⟩:=e;subst e';exact PySem.P.truthy_str (by lia) #[H,I.tok _,q]
 |byt y=>
  obtain⟨t,rfl⟩:=rx;obtain⟨hy,e'⟩:=e;subst e';exact PySem.W.truthy_bytes (by lia) #[H,I.tok _,q]
 |ref p=>
  cases rx;have e':=e;rcases e' with⟨xs,hx,e'⟩|⟨xs,hx,e'⟩|⟨kvs,hx,e'⟩
  .subst e'
   obtain⟨its,r,pl,hz⟩:=I.list hx;have hlen:=r.length;exact wpAny_truthy_list pl.isList (by simp only[ay];lia) #[H,I.tok _,by rw[Um r];exact q]
  .subst e'
   obtain⟨its,r,pl,hz⟩:=I.tuple hx;have hlen:=r.length;exact truthy_tuple pl (by simp only[ay];lia) #[H,I.tok _,by rw[Um r];exact q]
  .subst e'
   obtain⟨hz,hS,vs,r,m⟩:=I.hok p _ hx;have hlen:=Paired.length r;exact wpAny_truthy_dict hS m (by lia) #[H,I.tok _,by rw[GN r];exact q]
 |_=>exact(e).elim
def uV(ha:PE X a ta)(he:∀whole,isTrue a X.env whole=(do let v <-whole;k8 a.pos;g6 [v] (truthy v))) :
  PT X a (λU H Q=>ta U H λx H'=>∃k,jU X.K x H' k/\Q k H'):=by
 intro pq s U H Q I h;exact isTrue_plain (thn (ha pq s U H _ I h)<|by rintro v s1 ⟨x,H1,I1,r1,q1⟩;exact ve pq s1 U H1 x v Q I1 r1 q1)<|he _
def Uh(r:Vals [x] us):∃u,us=[u]/\Zu x u:=by
 cases r with|cons r1 r2=>cases r2;exact#[_,rfl,r1]
def ua(r:Vals [x,y] us):∃u w',us=[u,w']/\Zu x u/\Zu y w':=by
 cases r with
 |cons r1 r2=>
  cases r2 with|cons r3 r4=>cases r4;exact#[_,_,rfl,r1,r3]
def xT(hc:X.calm=aj):ZM X (.builtin "max") (λxs H Q=>∃i j,xs=[.int i,.int j]/\Q (.int (if j>i then j else i)) H):=by
 intro pq s U H xs us Q I r h;obtain⟨i,j,rfl,q⟩:=h;obtain⟨u,w',rfl,⟨t,rfl⟩,⟨t',rfl⟩⟩:=ua r;refine max_two_ints (I.ok.hd hc) λh' tk k=>#[_,H,I.kept k,?_,q]
 by_cases hj:j>i
 .rw[T9 hj,T9 hj];exact#[_,rfl]
 .rw[T8 hj,T8 hj];exact#[_,rfl]
def xI(hc:X.calm=aj):ZM X (.builtin "min") (λxs H Q=>∃i j,xs=[.int i,.int j]/\Q (.int (if j<i then j else i)) H):=by
 intro pq s U H xs us Q I r h;obtain⟨i,j,rfl,q⟩:=h;obtain⟨u,w',rfl,⟨t,rfl⟩,⟨t',rfl⟩⟩:=ua r;refine min_two_ints (I.ok.hd hc) λh' tk k=>#[_,H,I.kept k,?_,q]
 by_cases hj:j<i
 .rw[T9 hj,T9 hj];exact#[_,rfl]
 .rw[T8 hj,T8 hj];exact#[_,rfl]
def wf:ZM X (.type "int") (λxs H Q=>(∃i,xs=[.int i]/\Q (.int i) H)\/∃k,xs=[.bl k]/\Q (.int (if k then 1 else 0)) H):=by
 intro pq s U H xs us Q I r h;rcases h with⟨i,rfl,q⟩|⟨k,rfl,q⟩
 .obtain⟨u,rfl,t,rfl⟩:=Uh r
  exact call_int_int #[.int i,H,I,#[_,rfl],q]
 .obtain⟨u,rfl,r1⟩:=Uh r
  cases r1;exact call_int_bool #[.int (if k then 1 else 0),H,I.tok _,#[_,rfl],q]
end
structure ObjM(h:b5)(x dx C:aK)(mA:bE->Option al):Prop where
 obj:h.get? x=aa (lI C dx)
 ns:h.Ns1 dx mA
 ne:dx≠x
def xD{h:b5}{dx:aK}{mA:bE->Option al}(n:h.Ns1 dx mA):∃od,h.get? dx=aa od/\∀name,l5 name od=aa (mA name):=by
 obtain⟨o,es,ep,ho,hd,hk,_,hm⟩:=n;refine#[o,ho,λname=>?_]
 have e:=hm name;unfold nsFind findBy at e;rw[<-Array.find?_toList]at e;unfold l5;rw[hd]
 dsimp only
 split
 .rename_i y q
  rw[q]at e;exact congrArg aa e
 .rename_i q
  rw[q]at e;have a:es.toList.any (·.refKey)=ak:=by
   rw[List.any_eq_false];intro y hy;obtain⟨z,t,hkey⟩:=hk y<|l6.mp hy;simp[iH.refKey,hkey]
  have a':¬es.toList.any (·.refKey)=aj:=by rw[a];exact aI
  rw[T8 a'];exact congrArg aa e
def ObjM.look(I:ObjM h x dx C mA):∃od,PySem.W.InstAt h x (lI C dx) C (aa od)/\∀name,l5 name od=aa (mA name):=
 let #[od,ho,hl]:=xD I.ns
 #[od,#[I.obj,rfl,rfl,ho],hl]
section
variable{P:bt}{w:bJ}{H H':Hp}{h h':b5}{a C dx:aK}{fs fs':List (bE×V)}
def ZaG(hok:HOk P w H h)(e:H a=aa (.ins C dx fs)):∃mA,ObjM h a dx C mA/\(∀f,GG (fs.lookup f)<|mA f)/\PySem.Within mA (fs.map (·.1))/\fs.length<=1000/\H dx=aa (.own a):=by
 obtain⟨d,z,ne,ob,mA,n,r,q⟩:=(hok a _ e)
 exact#[mA,#[ob,n,ne],r,q,z,d]
end
structure Cls(K:am)(C:aK):Prop where
 pg:nQ K C bE.empty=aj
 hd:PySem.W.hasDictIn K C=aj
 po:PySem.W.plainOver K C=aj
 sa:oQ K (.ref C) "__setattr__" = aa (aa<|.builtin "object.__setattr__")
def Cls.get{K:am}{C:aK}(c:Cls K C)(f:bE):nQ K C f=aj:=c.pg
section
variable{X:Cx}{pq:List (aK×fC)}{U:St}{H:Hp}{s:aq}{A:b8}{E:al->aq->Prop}{Q:al->aq->Prop}{c:al}{b:Bool}
inductive TyOf(K:am)(H:Hp):V->al->Prop where
 |non:TyOf K H .non (.type "NoneType")
 |bl (x:Bool):TyOf K H (.bl x) (.type "bool")
 |int (i:Int):TyOf K H (.int i) (.type "int")
 |str (x:bE):TyOf K H (.str x) (.type "str")
 |flt (x:UInt64):TyOf K H (.flt x) (.type "float")
 |lst {a:aK} {xs:List V} (e:H a=aa (.lst xs)):TyOf K H (.ref a) (.type "list")
 |frz {a:aK} {o:fC} {xs:List V} (e:H a=aa (.frz o<|.lst xs)):TyOf K H (.ref a) (.type "list")
 |tup {a:aK} {xs:List V} (e:H a=aa (.tup xs)):TyOf K H (.ref a) (.type "tuple")
 |dK {a:aK} {kvs:List (Key×V)} (e:H a=aa (.dK kvs)):TyOf K H (.ref a) (.type "dict")
 |dT {a:aK} {kvs:List (List Key×V)} (e:H a=aa (.dT kvs)):TyOf K H (.ref a) (.type "dict")
 |ins {a C dx:aK} {fs:List (bE×V)} (e:H a=aa (.ins C dx fs)) (cl:Cls K C) (ha:oQ K (.ref C) "__class__" = aa (aa<|.builtin "object.__class__"))
   (hn:PySem.W.specialIn K (.builtin "object.__class__") "__get__" = aa (aa<|.builtin "getset_descriptor.__get__")) (htk:PySem.W.takesIn K (.builtin "object.__class__")=aa aj)
   (hm:PySem.W.mroIn K C (.type "object")=aa aj):TyOf K H (.ref a) (.ref C)
def xJ(I:Inv X pq U H s)(rx:Zu x u)(ty:TyOf X.K H x t)(e:l7 X.K t c=aa b)(h:∀tk,Q (.bool b) {s with toks:=tk}) :
  aW (aT X.prog X.w) A (call (.builtin "isinstance") [u,c]) Q E s:=by
 cases ty with
 |non=>cases(show u=bi from rx);exact cV PySem.W.kitx_none I.kIn fc e (λz=>nomatch z) h
 |bl y=>cases(rx);exact cV PySem.W.kitx_bool I.kIn fc e (λz=>nomatch z) h
 |int i=>obtain⟨t,q⟩:=(rx);cases q;exact cV PySem.W.kitx_int I.kIn fc e (λz=>nomatch z) h
 |str y=>obtain⟨t,q⟩:=(rx);cases q;exact cV PySem.W.kitx_str I.kIn fc e (λz=>nomatch z) h
 |flt y=>obtain⟨t,q⟩:=(rx);cases q;exact cV PySem.W.kitx_float I.kIn fc e (λz=>nomatch z) h
 |@lst a xs ea=>
  cases(rx)
  obtain⟨_,_,n,_,h1⟩:=(I.hok a _ ea)
  exact cV m8 I.kIn #[_,h1,rfl] e (λz=>nomatch z) h
 |@frz a ob xs ea=>
  cases(rx)
  obtain⟨_,_,_,n,_,h1⟩:=(I.hok a _ ea)
  exact cV m8 I.kIn #[_,h1,rfl] e (λz=>nomatch z) h
 |@tup a xs ea=>
  cases(rx)
  obtain⟨_,_,_,p⟩:=(I.hok a _ ea)
  obtain⟨o,h1,h2,_⟩:=p;exact cV PySem.W.kitx_tuple I.kIn #[o,h1,h2] e (λz=>nomatch z) h
 |@dK a kvs ea=>
  cases(show u=cc a from rx)
  obtain⟨_,_,vs,_,p⟩:=(I.hok a _ ea)
  obtain⟨o,es,ep,h1,h2,_⟩:=p;exact cV m9 I.kIn #[o,h1,h2.1] e (λz=>nomatch z) h
 |@dT a kvs ea=>
  cases(show u=cc a from rx)
  obtain⟨_,_,xs,_,o,es,ep,h1,h2,_⟩:=(I.hok a _ ea)
  exact cV m9 I.kIn #[o,h1,h2.1] e (λz=>nomatch z) h
 |@ins a C dx fs ea cl ha hn htk hm=>
  cases(show u=cc a from rx)
  obtain⟨mA,O,_⟩:=ZaG I.hok ea;obtain⟨od,J,_⟩:=O.look;exact cV (PySem.W.kitx_own (cl.get _) cl.hd ha hn htk hm) I.kIn J e (λz=>nomatch z) h
end
structure Room(k:Nat)(A:b8):Prop where
 hd:A.handled=ae
 dp:A.depth+3*k+5<recursionLimit
 un:A.units+16*k+200<c7
theorem Room.deeper(r:Room (k+1) A)(env:Env):Room k (A.deeper env):=
 #[r.hd,by have:=r.dp;show A.depth+1+3*k+5<_;lia,by have:=r.un;show A.units+3+16*k+200<_;lia]
theorem Room.depth(r:Room k A):A.depth<recursionLimit:=by have:=r.dp;lia
def Zet:TA:=λ_ H Q=>Q [] H
def ZdY(ta:TE)(tr:TA):TA:=λU H Q=>ta U H λx H1=>tr U H1 λxs H2=>Q (x::xs) H2
section
variable{X:Cx}{e:Expr}{es:List Expr}{te:TE}{t:TA}{pos:iA}
def Vv:PA X [] Zet:=λ_ _ _ _ H Q I h=>Calls.spliced_nil #[[],H,I,.nil,h]
def Xv(ha:PE X e te)(hr:PA X es t)(hs:aJ (e::es) X.env=(ak,cC e X.env)::aJ es X.env:=by rfl):PA X (e::es) (ZdY te t):=by
 intro pos pq s U H Q I h;rw[hs];refine Calls.spliced_cons<|thn (ha pq s U H _ I h) λu s1 #[x,H1,I1,r1,q1]=>?_
 exact thn (hr pos pq s1 U H1 _ I1 q1)<|by rintro us s2 ⟨xs,H2,I2,r2,q2⟩;exact #[x::xs,H2,I2,.cons r1 r2,q2]
def Zei(t:TA):TE:=λU H Q=>t U H λxs H1=>xs.length<=bw/\∀p,H1 p=ae->Q (.ref p) (upd H1 p<|.tup xs)
def Zef(t:TA):TE:=λU H Q=>t U H λxs H1=>xs.length<=bw/\∀p,H1 p=ae->Q (.ref p) (upd H1 p<|.lst xs)
def Zcw{x1}(h:PA X es t):PE X (.Tuple es x1 pos) (Zei t):=by
 intro pq s U H Q I hq;refine wpAny_Tuple_spliced<|thn (h pos pq s U H _ I hq) λus s1 #[xs,H1,I1,r,z,q]=>#[by rw[<-r.length];exact z,?_]
 have hf:=I1.hok.fresh<|aM _;refine#[.ref s1.heap.objs.size,upd H1 s1.heap.objs.size<|.tup xs,I1.laid (t':=s1.toks) (λb u e=>au _ e) (aM _) ?_,rfl,q _ hf]
 exact#[z,us,r,#[_,aL _ rfl,rfl,_,rfl]]
def Zbg(h:PA X es t):PE X (.List es pos) (Zef t):=by
 intro pq s U H Q I hq;refine wpAny_List_spliced<|thn (h pos pq s U H _ I hq) λus s1 #[xs,H1,I1,r,z,q]=>#[by rw[<-r.length];exact z,?_]
 have hf:=I1.hok.fresh<|aM _;refine#[.ref s1.heap.objs.size,upd H1 s1.heap.objs.size<|.lst xs,I1.laid (t':=s1.toks) (λb u e=>au _ e) (aM _) ?_,rfl,q _ hf]
 exact#[z,us,0,r,aL _ rfl]
end
abbrev Sp:=List V->Hp->VK->XK->Prop
abbrev CXT:=List Env->Hp->aq->XK->al->aq->Prop
structure Env0(P:bt)(w:bJ)(K:am)(mg:bE->Option al)(base:b5)(A:b8)(outer:List Env)(s:aq)(H:Hp):Prop where
 frames:A.frames=aa outer
 mod:Mod K mg base
 bs:∀b o,base.get? b=aa o->s.heap.get? b=aa o/\H b=ae
 bsz:base.objs.size<=s.heap.objs.size
 funs:s.heap.FunFrames base outer
 frf:∀b∈frs outer,H b=ae
 hok:HOk P w H s.heap
 bare:i9 s.gens
def CE(outer:List Env)(P:bt)(w:bJ)(H:Hp)(s:aq)(Q:VK)(u:al)(s':aq):Prop:=
 ∃v H',s'.os=s.os/\i9 s'.gens/\Un (frs outer) [] H H' s.heap s'.heap/\HOk P w H' s'.heap/\Zu v u/\Q v H'
def CR(CX:CXT)(outer:List Env)(P:bt)(w:bJ)(H:Hp)(s:aq)(Q:VK)(E:XK)(r:pN)(s':aq):Prop:=
 match r with
 |.ok (.ret u)=>CE outer P w H s Q u s'
 |.ok _=>False
 |.error e=>CX outer H s E e s'
structure FnOk(P:bt)(w:bJ)(K:am)(mg:bE->Option al)(base:b5)(CX:CXT)(k:Nat)(f:aK)(fd:cX)(ps:List bE)(sp:Sp):Prop where
 len:∀vs H Q E,sp vs H Q E->vs.length=ps.length
 run:∀(A:b8)(outer:List Env)(s:aq)(H:Hp)(args:Args)(us:List al)(vs:List V)(Q:VK)(E:XK),Room k A->Env0 P w K mg base A outer s H->nc s fd args (ps.zip us)->Vals vs us->sp vs H Q E->
  fe (aT P w) A (.call (.ref f) args) (CR CX outer P w H s Q E) s
section
variable{X:Cx}{pq:List (aK×fC)}{U:St}{H:Hp}{s s':aq}
def Inv.env0(I:Inv X pq U H s):Env0 X.prog X.w X.K X.mg X.base X.A X.stack s H:=
 #[I.ok.frames,I.ok.mod,I.bs,cM I.ok.bsz I.sz,I.stack,I.stkFree,I.hok,I.bare]
def Inv.after(I:Inv X pq U H s)(h:CE X.stack X.prog X.w H s Q u s'):EP X pq U Q u s':=by
 obtain⟨v,H',os,bare,un,hok,r,q⟩:=h;obtain⟨hh,g,d,t,os'⟩:=s';obtain rfl:os'=s.os:=os;exact#[v,H',I.call (h':=hh) (g':=g) (d':=d) (t':=t) un hok bare (λb z=>T7 z (by simp)),r,q]
end
def Zbb(sp:Sp)(dvs:List V)(E:XK)(t:TA):TE:=λU H Q=>t U H λvs H1=>sp (vs++dvs) H1 Q E
def Vw(K:am)(fd:cX)(ps:List bE)(ds:List al):Prop:=
 ∀(s:aq)(us:List al),K.In s.heap->(us++ds).length=ps.length->nc s fd #[us,[]] (ps.zip<|us++ds)
def Vw.all{K:am}{fd:cX}{ps:List bE}(h:∀us:List al,us.length=ps.length->oR fd #[us,[]]=cW (ps.zip us)):Vw K fd ps []:=λs us _ hl=>by
 rw[cf]at hl ⊢;exact .of_eq<|h us hl
def zz(CX:CXT)(X:Cx)(E:XK):Prop:=∀(pq:List (aK×fC))(U:St)(H:Hp)(s:aq)(e:al)(s':aq),Inv X pq U H s->CX X.stack H s E e s'->X.xe e s'
section
variable{X:Cx}{CX:CXT}{k:Nat}{f C:aK}{fd:cX}{ps:List bE}{sp:Sp}{dvs:List V}{ds:List al}{E:XK}{x m:bE}{p pos apos:iA}{e o:Expr}{es:List Expr}{ta:TE}{t:TA}
def ZbM(F:FnOk X.prog X.w X.K X.mg X.base CX k f fd ps sp)(hr:Room k X.A)(hb:Vw X.K fd ps ds)(hd:Vals dvs ds)(hx:zz CX X E)
  (I:Inv X pq U H s)(r:Vals vs us)(h:sp (vs++dvs) H Q E):aW (aT X.prog X.w) X.A (call (.ref f) us) (EP X pq U Q) X.xe s:=by
 have r2:=r.append hd;have hl:(us++ds).length=ps.length:=by rw[<-r2.length];exact F.len _ _ _ _ h
 refine wpAny_call<|gy (F.run X.A X.stack s H #[us,[]] (us++ds) (vs++dvs) Q E hr I.env0 (hb s us I.kIn hl) r2 h) λr s' hq=>?_
 cases r with
 |error e=>exact hx pq U H s e s' I hq
 |ok fl=>
  cases fl with|ret u=>exact I.after hq|next=>exact False.elim hq|brk=>exact False.elim hq|cont=>exact False.elim hq
def zX(F:FnOk X.prog X.w X.K X.mg X.base CX k f fd ps sp)(hr:Room k X.A)(hg:Gl X x)(hm:X.mg x=aa (.ref f))(hk:gz X.K (.ref f)=aj)(hb:Vw X.K fd ps ds)(hd:Vals dvs ds)(hx:zz CX X E)
  (ha:PA X (e::es) t)(hdb:(x == ("__debug__" : bE))=ak:=by decide)(he:aJ (e::es) X.env=(ak,cC e X.env)::aJ es X.env:=by rfl)(hpl:(eO pos<|aJ es X.env).any (·.1)=ak:=by rfl) :
  PE X (.Call (.Name x p) (e::es) [] pos) (Zbb sp dvs E t):=by
 intro pq s U H Q I h;refine fg<|yK I hg hm ?_ hdb;refine PySem.W.callWith_K I.ok.mod.kin hk (thn (ha pos pq s U H _ I h) λus s1 #[vs,H1,I1,r,q]=>#[I1.kIn,?_]) he hpl
 exact ZbM F hr hb hd hx I1 r q
end
structure FnScope(N P:List bE)(sc:eT):Prop where
 kind:sc.kind=.function
 co:sc.isCoroutine=ak
 gen:sc.isGenerator=ak
 nd:N.Nodup
 pre:N.take P.length=P
 par:∀x∈P,sc.names.lookup x=aa .local\/sc.names.lookup x=aa .cell
 nofree:∀y∈sc.names,y.2≠.free
theorem UR{kindOf:bE->Option eG}{x:bE}:∀{binds:List (bE×al)}{m:bE->Option al},(∀v,(x,v)∉binds)->pI kindOf binds m x=m x
 |[],_,_=>rfl
 |(n,v)::r,m,h=>by
  unfold pI;rw[UR λw hw=>h w<|ax _ hw]
  split
  .have:x≠n:=by rintro rfl;exact h v ao
   simp[this]
  .rfl
theorem U7{kindOf:bE->Option eG}{x:bE}:∀{binds:List (bE×al)}{m:bE->Option al},(∀v,(x,v)∉binds)->pJ kindOf binds m x=m x
 |[],_,_=>rfl
 |(n,v)::r,m,h=>by
  unfold pJ;rw[U7 λw hw=>h w<|ax _ hw]
  split
  .rfl
  .have:x≠n:=by rintro rfl;exact h v ao
   simp[this]
theorem U9{kindOf:bE->Option eG}{x:bE}{v:al}:∀{P:List bE}{vs:List al}{i:Nat}{m:bE->Option al},P.Nodup->P[i]?=aa x->vs[i]?=aa v->kindOf x=aa .local->
  pI kindOf (P.zip vs) m x=aa v
 |[],_,_,_,_,h,_,_=>by simp at h
 |_::_,[],_,_,_,_,h,_=>by simp at h
 |p::P,w::vs,0,m,nd,h1,h2,hk=>by
  simp at h1 h2;subst h1;subst h2;show pI kindOf ((p,w)::P.zip vs) m p=_;unfold pI;rw[UR λv hv=>(dA.mp nd).1 (lK hv).1,T9 hk]
  simp
 |p::P,w::vs,i+1,m,nd,h1,h2,hk=>by
  unfold pI;exact U9 (dA.mp nd).2 (by simpa using h1) (by simpa using h2) hk
theorem Qk{kindOf:bE->Option eG}{x:bE}{v:al}:∀{P:List bE}{vs:List al}{i:Nat}{m:bE->Option al},P.Nodup->P[i]?=aa x->vs[i]?=aa v->kindOf x≠aa .local->
  pJ kindOf (P.zip vs) m x=aa v
 |[],_,_,_,_,h,_,_=>by simp at h
 |_::_,[],_,_,_,_,h,_=>by simp at h
 |p::P,w::vs,0,m,nd,h1,h2,hk=>by
  simp at h1 h2;subst h1;subst h2;show pJ kindOf ((p,w)::P.zip vs) m p=_;unfold pJ;rw[U7 λv hv=>(dA.mp nd).1 (lK hv).1,T8 hk]
  simp
 |p::P,w::vs,i+1,m,nd,h1,h2,hk=>by
  unfold pJ;exact Qk (dA.mp nd).2 (by simpa using h1) (by simpa using h2) hk
noncomputable def start(N:List bE)(vs:List V):St:=vs.map aa++aP (N.length-vs.length) ae
noncomputable def Jw(CX:CXT)(P:bt)(w:bJ)(K:am)(mg:bE->Option al)(base:b5)(N:List bE)(qual:bE)(scope:eT)(f:aK)(cd:al)(A:b8)(outer:List Env)(s:aq)(H:Hp)(E:XK):Cx where
 prog:=P
 w:=w
 K:=K
 mg:=mg
 base:=base
 A:=A.deeper<|iK qual scope s.heap.objs.size f cd
 N:=N
 s₀:=s
 H₀:=H
 env:=iK qual scope s.heap.objs.size f cd
 outer:=outer
 stack:=iK qual scope s.heap.objs.size f cd::outer
 ex:=[]
 calm:=aj
 fn:=λ_=>aj
 pn:=[]
 xe:=λe s'=>aW (aT P w) (A.deeper<|iK qual scope s.heap.objs.size f cd) (leaving (iK qual scope s.heap.objs.size f cd) e) (λ_ s''=>CX outer H s E e s'') (λe' s''=>CX outer H s E e' s'') s'
def Jq{sc:eT}{n:Nat}{x:bE}(h:sc.names.lookup x=aa .cell):∃c,(dW n sc.names []).lookup x=aa c:=by
 have q:=lh sc.names n []<|.inl h;exact c8.mp q
def xP{CX:CXT}{P:bt}{w:bJ}{K:am}{mg:bE->Option al}{base:b5}{N ps:List bE}{qual:bE}{scope:eT}{f:aK}{cd:al}{A:b8}{outer:List Env}{s s1:aq}{H:Hp}{E:XK}{us:List al}{vs:List V}
  (S:FnScope N ps scope)(hd:A.handled=ae)(e0:Env0 P w K mg base A outer s H)(hl:vs.length=ps.length)(r:Vals vs us)
  (x:InCallC s s.heap.objs.size (pI (iK qual scope s.heap.objs.size f cd).kindOf (ps.zip us) λ_=>ae) (dW (s.heap.objs.size+1) scope.names []) (pJ (iK qual scope s.heap.objs.size f cd).kindOf (ps.zip us) λ_=>ae) s1) :
  Inv (Jw CX P w K mg base N qual scope f cd A outer s H E) [] (start N vs) H s1:=by
 have hpl:ps.length<=N.length:=by have:=congrArg List.length S.pre;rw[bo]at this;lia
 obtain⟨h1,tk,rfl,hk⟩:=x.done;have noA:∀b:aK,b∉(Jw CX P w K mg base N qual scope f cd A outer s H E).ex:=λb z=>T7 (show b∈([]:List aK)from z) (by simp)
 refine#[#[e0.mod,S.kind,rfl,rfl,aM _,λy z c h1 h2=>?_,λy hy=>?_,λy c _ h=>?_,λ_=>hd,b8.frames_deeper e0.frames,.inr #[rfl,rfl],λb z=>T7 z<|noA b,e0.bs,e0.bsz,λb _ _=>noA b,λb z=>T7 z<|noA b,e0.funs,e0.frf],
  rfl,e0.bare,Un.kept hk,#[_,x.toInCall.ns,λi y v h1 h2 h3=>?_],λy c h=>#[_,x.cell y c h],e0.hok.fresh<|aM _,λy c h=>?_,λp hp=>T7 (show p∈([]:List (aK×fC))from hp) (by simp),e0.hok.kept hk,?_]
 .exact name_of_addr x.apart (eS h1)<|eS h2
 .have hy:=hy
  rcases hy with hy|hy
  .exact Jq hy
  .exact T7 rfl<|S.nofree _<|eS hy
 .exact gv<|x.above y c<|eS h
 .have hi:i<vs.length:=by
   unfold start at h2;by_cases hi:i<vs.length
   .exact hi
   .rw[bg<|by simpa using hi]at h2
    rw[cP]at h2;split at h2<;>cases h2
  have ha:vs[i]?=aa v:=by
   unfold start at h2;rw[bH (by simpa using hi),aH]at h2
   cases e:vs[i]? with|none=>rw[e]at h2;cases h2|some a=>rw[e]at h2;cases h2;rfl
  obtain⟨u,hu,rv⟩:=r.get ha;have hp:ps[i]?=aa y:=by
   rw[<-S.pre,List.getElem?_take_of_lt (by lia)];exact h1
  have ndP:ps.Nodup:=by rw[<-S.pre];exact S.nd.sublist<|ke _ _
  refine#[u,rv,?_];rcases S.par y (da hp)with k|k
  .exact .inl #[k,U9 ndP hp hu k]
  .obtain⟨c,e⟩:=Jq k
   refine .inr #[.inl k,c,e,?_];have q:=x.cell y c e;rw[Qk ndP hp hu<|by show scope.names.lookup y≠_;rw[k];decide]at q
   exact q
 .exact e0.hok.fresh<|gv<|x.above y c<|eS h
 .unfold start
  show _=N.length;rw[aX,ap,c6];lia
def Zc4{CX:CXT}{P:bt}{w:bJ}{K:am}{mg:bE->Option al}{base:b5}{k:Nat}{f:aK}{name qual:bE}{params:Arguments}{body:List fR}{scope:eT}{dV kV doc pm cdv ct oc:al}{an od:Option aK}
  {osl:Array (Option al)}{N ps:List bE}{sp:Sp}(lk:K.lookup f=aa #[oc,od,.func<|dQ name qual params body scope dV kV doc pm an cdv ct,osl])(hcd:iL K cdv qual=aj)(S:FnScope N ps scope)
  (len:∀vs H Q E,sp vs H Q E->vs.length=ps.length)
  (hbody:∀(A:b8)(outer:List Env)(s:aq)(H:Hp)(vs:List V)(Q:VK)(E:XK),Room k (A.deeper<|iK qual scope s.heap.objs.size f cdv)->sp vs H Q E->
   ∃t,PSs (Jw CX P w K mg base N qual scope f cdv A outer s H E) body t/\t {nx:=λ_ H'=>Q .non H',rt:=Q} (start N vs) H) :
  FnOk P w K mg base CX (k+1) f (dQ name qual params body scope dV kV doc pm an cdv ct) ps sp:=by
 refine#[len,λA outer s H args us vs Q E hr e0 hb r hsp=>?_]
 have hl:=len _ _ _ _ hsp;have KX:=e0.mod.kin.keeps λb o e=>(e0.bs b o e).1
 have lim:=e0.mod.nolimit.keeps λb o e=>(e0.bs b o e).1
 have hkind:∀y∈ps.zip us,scope.names.lookup y.1=aa .local\/(scope.names.lookup y.1=aa .cell/\((dW (s.heap.objs.size+1) scope.names []).lookup y.1).isSome=aj):=by
  rintro ⟨n,v⟩ hy;rcases S.par n (lK hy).1 with q|q
  .exact .inl q
  .exact .inr #[q,lh _ _ _<|.inl q]
 refine codeAny_call_function hr.depth (KX _ _ lk) rfl S.co S.gen rfl (PySem.W.codeRec_of KX hcd)<|hb _ _ _ _ ?_;refine wpAny_newFunctionEnv_cells S.kind hkind λenv he s1 x=>?_
 subst he;refine#[lim.keeps x.toInCall.keep,codeAny_func ?_];obtain⟨t,ht,hq⟩:=hbody A outer s H vs Q E (hr.deeper _) hsp;have I:Inv (Jw CX P w K mg base N qual scope f cdv A outer s H E) [] (start N vs) H s1:=xP S hr.hd e0 hl r x;refine cK (ht [] s1 (start N vs) H _ I hq) (λfl s' hs=>?_) λe s' hs=>hs
 have fin:∀{σ':St}{H':Hp}{v:V}{u:al},Inv (Jw CX P w K mg base N qual scope f cdv A outer s H E) [] σ' H' s'->Zu v u->Q v H'->CE outer P w H s Q u s':=
  λ{σ' H' v u} J rv q=>#[v,H',J.os,J.bare,J.base,J.hok,rv,q]
 cases fl with
 |ret u=>
  obtain⟨v,σ',H',J,rv,q⟩:=hs;exact fin J rv q
 |next=>
  obtain⟨σ',H',J,q⟩:=hs;exact fin (v:=V.non) J rfl q
 |brk=>
  obtain⟨_,_,_,q⟩:=hs;exact False.elim q
 |cont=>
  obtain⟨_,_,_,q⟩:=hs;exact False.elim q
section
variable{X:Cx}{x:bE}{p pos:iA}{e:Expr}{es:List Expr}{t:TA}{id T:String}{r:List V->Hp->VK->Prop}
def tCB(r:List V->Hp->VK->Prop)(t:TA):TE:=λU H Q=>t U H λvs H1=>r vs H1 Q
def VQ(hc:ZM X (.builtin id) r)(hg:Gl X x)(hm:X.mg x=ae)(hv:dP x=aa (.builtin id))(ha:PA X (e::es) t)(hn:x≠"__name__":=by decide)(hdb:(x == ("__debug__" : bE))=ak:=by decide)
  (he:aJ (e::es) X.env=(ak,cC e X.env)::aJ es X.env:=by rfl)(hpl:(eO pos<|aJ es X.env).any (·.1)=ak:=by rfl):PE X (.Call (.Name x p) (e::es) [] pos) (tCB r t):=by
 intro pq s U H Q I h;refine fg<|Yx I hg hm hv ?_ hn hdb;exact gT (thn (ha pos pq s U H _ I h)<|by rintro us s1 ⟨vs,H1,I1,r1,q1⟩;exact hc pq s1 U H1 vs us Q I1 r1 q1) he hpl
def xW(hc:ZM X (.type T) r)(hg:Gl X x)(hm:X.mg x=ae)(hv:dP x=aa (.type T))(ha:PA X (e::es) t)(hn:x≠"__name__":=by decide)(hdb:(x == ("__debug__" : bE))=ak:=by decide)
  (he:aJ (e::es) X.env=(ak,cC e X.env)::aJ es X.env:=by rfl)(hpl:(eO pos<|aJ es X.env).any (·.1)=ak:=by rfl):PE X (.Call (.Name x p) (e::es) [] pos) (tCB r t):=by
 intro pq s U H Q I h;refine fg<|Yx I hg hm hv ?_ hn hdb;exact bS (thn (ha pos pq s U H _ I h)<|by rintro us s1 ⟨vs,H1,I1,r1,q1⟩;exact hc pq s1 U H1 vs us Q I1 r1 q1) he hpl
end
end L2
namespace HT
open PySem PyProof.Rows
section
variable{prog:bt}{w:bJ}{A:b8}{E:al->aq->Prop}{s:aq}
def Zap{Q:al->aq->Prop}(ht:pO s.heap t vs.toArray)(hb:pO s.heap b ws.toArray)(hv:vs≠[])
  (h1:ws=[]->Q (.ref t) s)(h2:ws≠[]->Q (.ref s.heap.objs.size) {s with heap:=s.heap.push {cls:=.type "tuple",data:=.seq (vs++ws).toArray}})
  (hsz:vs.length+ws.length<=bw):aW (aT prog w) A (eF .Add (.ref t)<|.ref b) Q E s:=by
 obtain⟨⟨cls,dd,data,sl⟩,ho,hc,n,hd⟩:=id ht;obtain⟨⟨cls2,dd2,data2,sl2⟩,ho2,hc2,n2,hd2⟩:=id hb;simp only at hc hd hc2 hd2;subst hc hd hc2 hd2;have e:vs.toArray++ws.toArray=(vs++ws).toArray:=by simp
 by_cases hw:ws=[]
 .exact ng #[_,ho,rfl] #[_,ho2,rfl] kL mH gA gj (fS _ _)
   (tuple_addW1 t b vs.toArray ws.toArray n n2 dd dd2 sl sl2 (by simpa using hv)<|by simp[hw]) #[ho,ho2,h1 hw]
 .refine ng #[_,ho,rfl] #[_,ho2,rfl] kL mH gA gj (fS _ _)
   (tuple_addW2 t b vs.toArray ws.toArray n n2 dd dd2 sl sl2 (by simpa using hv) (by simpa using hw)<|by rw[ay,ay];exact hsz) #[ho,ho2,?_]
  rw[e];exact h2 hw
noncomputable def sIx(n d:Nat):Option Int->Nat
 |none=>d
 |some v=>if v<0 then(v+(n:Int)).toNat else pj v.toNat n
theorem ZcS(n d:Nat)(hd:d<=n)(o:Option Int):sIx n d o<=n:=by
 cases o with
 |none=>exact hd
 |some v=>
  show(if v<0 then(v+(n:Int)).toNat else pj v.toNat n)<=n
  by_cases hv:v<0
  .rw[T9 hv];lia
  .rw[T8 hv];exact Nat.min_le_right _ _
theorem zU(v:Int)(n d:Nat):(if v<0 then max (v+(n:Int)) 0 else pj v (n:Int))=((sIx n d (aa v):Nat):Int):=by
 show(if v<0 then max (v+(n:Int)) 0 else pj v (n:Int))=(((if v<0 then(v+(n:Int)).toNat else pj v.toNat n):Nat):Int)
 by_cases hv:v<0
 .simp only[T9 hv];lia
 .simp only[T8 hv];lia
theorem zk(lo hi:Option Int)(n:Nat):fK lo hi 1 (n:Int)=(((sIx n 0 lo:Nat):Int),((sIx n n hi:Nat):Int)):=by
 have h1:¬((1:Int)<0):=by lia
 unfold fK;simp only[h1,if_false];refine Prod.ext ?_ ?_
 .cases lo with|none=>rfl|some v=>exact zU v n 0
 .cases hi with|none=>rfl|some v=>exact zU v n n
theorem GW(i j:Nat):eg (i:Int) (j:Int) 1=j-i:=by
 unfold eg;have h1:(1:Int)>0:=by lia
 simp only[h1,if_true,Int.ediv_one];split<;>lia
def Ur{Q:Option Int->aq->Prop}(p:lj v o)(h:Q o s):aW (aT prog w) A (dv.Slice.slicePartIndex v) Q E s:=by
 cases p with|none=>exact slicePart_none h|int i t=>exact slicePart_int h
def YT{sl:aK}{vl vu:al}{lo hi:Option Int}{n:Nat}{Q:Int×Int×Nat->aq->Prop}(hs:s.heap.IsSliceOf sl vl vu .none)(pl:lj vl lo)(pu:lj vu hi)
  (h:Q (((sIx n 0 lo:Nat):Int),1,sIx n n hi-sIx n 0 lo) s):aW (aT prog w) A (dv.Slice.sliceApplied (.ref sl)<|cW (n:Int)) Q E s:=by
 obtain⟨os,hos,hcs,hds⟩:=id hs;refine ab<|ab<|cD hos hds rfl<|ab<|cD hos hds rfl<|ab<|cD hos hds rfl<|aw ?_;refine ab<|slicePart_none ?_;show aW _ _ (if((1:Int) == 0)=aj then _ else _) _ _ s
 rw[T8 (by decide)]
 refine ab<|Ur pl<|ab<|Ur pu<|ab<|aw ?_;show aW _ _ (match fK lo hi 1 (n:Int)with|(lo,hi)=>cW (lo,(1:Int),eg lo hi 1)) _ _ s
 rw[zk lo hi n];show aW _ _ (cW (((sIx n 0 lo:Nat):Int),(1:Int),eg ((sIx n 0 lo:Nat):Int) ((sIx n n hi:Nat):Int) 1)) _ _ s;rw[GW];exact aw h
theorem vC(xs:Array al)(i k:Nat):((aA k).filterMap λ(m:Nat)=>xs[((i:Int)+(m:Int)*1).toNat]?).toArray=((xs.toList.drop i).take k).toArray:=by
 have e:(λ(m:Nat)=>xs[((i:Int)+(m:Int)*1).toNat]?)=λm=>xs[i+m]?:=by
  funext m
  have:((i:Int)+(m:Int)*1).toNat=i+m:=by lia
  rw[this]
 rw[e];have:=pick_run xs i k;rw[mT]at this;have e2:((λx=>xs[x]?)∘λx=>i+x)=λm=>xs[i+m]?:=rfl
 rw[e2]at this;rw[this]
theorem X4{t sl:aK}{items:Array al}{vl vu:al}{lo hi:Option Int}{Q:al->aq->Prop}(ht:pO s.heap t items)(hs:s.heap.IsSliceOf sl vl vu .none)(pl:lj vl lo)(pu:lj vu hi)
  (hw:¬(sIx items.size 0 lo=0/\sIx items.size items.size hi=items.size))
  (h:Q (.ref s.heap.objs.size) {s with heap:=s.heap.push {cls:=.type "tuple",data:=.seq ((items.toList.drop<|sIx items.size 0 lo).take<|sIx items.size items.size hi-sIx items.size 0 lo).toArray}})
  (hsz:items.size<=bw):aW (aT prog w) A (mw (.ref t)<|.ref sl) Q E s:=by
 have htake:sizeOk (.seq ((items.toList.drop<|sIx items.size 0 lo).take<|sIx items.size items.size hi-sIx items.size 0 lo).toArray):=by
  show((items.toList.drop<|sIx items.size 0 lo).take<|sIx items.size items.size hi-sIx items.size 0 lo).toArray.size<=bw;rw[ay,bo,br,az];lia
 have hj:sIx items.size items.size hi<=items.size:=ZcS _ _ (aM _) hi;obtain⟨os,hos,hcs,hds⟩:=id hs;have hTs:s.TypeIs (.ref sl) "slice":=#[os,hos,hcs];unfold mw
 try with_reducible refine b6 ?_
 first|refine ab<|aw ?_|skip
 refine ab<|nh ht.typeIs (by decide) ?_
 refine ab (cQ ht.typeIs dB
  (cA dB ht.typeIs mB ?_<|mU _ _))
 show aW _ _ (fD (.ref t) >>= _) _ _ s;refine ab<|tupleItemsOf_ ht ?_;refine ab<|iB hTs ?_;rw[T9 (by decide)]
 refine ab<|YT hs pl pu ?_;have hno:¬((((sIx items.size 0 lo:Nat):Int) == 0&&(1:Int) == 1&&(sIx items.size items.size hi-sIx items.size 0 lo) == items.size)=aj):=by
  intro q;rw[aB,aB]at q;have q1:=eU q.1.1;have q2:=eU q.2;exact hw #[by lia,by lia]
 show aW _ _ (if(((sIx items.size 0 lo:Nat):Int) == 0&&(1:Int) == 1&&(sIx items.size items.size hi-sIx items.size 0 lo) == items.size)=aj then _ else _) _ _ s
 rw[T8 hno,vC]
 first
  |exact ab<|bV (aw #[_,rfl,aw h]) htake
  |exact ab<|bV (ab<|aw<|aw #[_,rfl,aw h]) htake
  |exact ab<|ab<|bV (aw<|aw #[_,rfl,aw h]) htake
  |exact ab<|ab (m:=dv.Tuple.tupleExact _)<|bV (aw #[_,rfl,aw h]) htake
end
end HT
namespace L2
open PySem PySem.Spec PyProof.Rows
abbrev TO:=St->Hp->(Option Int->Hp->Prop)->Prop
def PO(X:Cx)(e:Option Expr)(t:TO):Prop:=
 ∀(pq:List (aK×fC))(s:aq)(U:St)(H:Hp)(Q:Option Int->Hp->Prop),Inv X pq U H s->t U H Q->
  aW (aT X.prog X.w) X.A (evalPart e X.env) (λu s'=>∃o H',Inv X pq U H' s'/\lj u o/\Q o H') X.xe s
def jI:TO:=λ_ H Q=>Q ae H
def Zds(t:TE):TO:=λU H Q=>t U H λx H1=>∃i,x=.int i/\Q (aa i) H1
section
variable{X:Cx}{e:Expr}{te:TE}{lo hi:Option Expr}{tl th:TO}{pos p2:iA}
def Zaq:PO X ae jI:=by
 intro pq s U H Q I h;rw[evalPart_none];exact aw #[ae,H,I,.none,h]
def ZS(h:PE X e te):PO X (aa e) (Zds te):=by
 intro pq s U H Q I hw;rw[evalPart_some];refine thn (h pq s U H _ I hw) λu s1 #[x,H1,I1,r1,q1]=>?_
 obtain⟨i,rfl,q⟩:=q1;obtain⟨t,rfl⟩:=r1;exact#[aa i,H1,I1,.int i t,q]
def SlR(X:Cx)(r:V->Option Int->Option Int->Hp->VK->Prop):Prop:=
 ∀(pq:List (aK×fC))(s:aq)(U:St)(H:Hp)(x:V)(v vl vu:al)(lo hi:Option Int)(sl:aK)(Q:VK),Inv X pq U H s->Zu x v->s.heap.IsSliceOf sl vl vu .none->lj vl lo->lj vu hi->r x lo hi H Q->
  ∃T id,typeLookup (.type T) "__getitem__" = cW (aa<|.builtin id)/\s.TypeIs v T/\aW (aT X.prog X.w) X.A (mw v<|.ref sl) (EP X pq U Q) X.xe s
def SlR.or{r r':V->Option Int->Option Int->Hp->VK->Prop}(h:SlR X r)(h':SlR X r'):SlR X (λx lo hi H Q=>r x lo hi H Q\/r' x lo hi H Q):=by
 intro pq s U H x v vl vu lo hi sl Q I rx hs pl pu q;rcases q with q|q
 .exact h pq s U H x v vl vu lo hi sl Q I rx hs pl pu q
 .exact h' pq s U H x v vl vu lo hi sl Q I rx hs pl pu q
def tSl(r:V->Option Int->Option Int->Hp->VK->Prop)(te:TE)(tl th:TO):TE:=λU H Q=>te U H λx H1=>tl U H1 λl H2=>th U H2 λu H3=>r x l u H3 Q
def vF{r:V->Option Int->Option Int->Hp->VK->Prop}(hr:SlR X r)(he:PE X e te)(hl:PO X lo tl)(hu:PO X hi th):PE X (.Subscript e (.Slice lo hi ae p2) pos) (tSl r te tl th):=by
 intro pq s U H Q I h;refine Subscript_<|thn (he pq s U H _ I h) λv s1 #[x,H1,I1,r1,q1]=>?_
 refine wpAny_Slice<|thn (hl pq s1 U H1 _ I1 q1) λvl s2 #[l,H2,I2,pl,q2]=>thn (hu pq s2 U H2 _ I2 q2) λvu s3 #[u,H3,I3,pu,q3]=>?_
 rw[evalPart_none];refine aw ?_;have I4:Inv X pq U H3 {s3 with heap:=s3.heap.push {cls:=.type "slice",data:=.fields [vl,vu,.none].toArray}}:=I3.kept (t':=s3.toks) λb ob q=>au _ q
 obtain⟨T,id,hT,ht,hg⟩:=hr pq {s3 with heap:=s3.heap.push {cls:=.type "slice",data:=.fields [vl,vu,.none].toArray}} U H3 x v vl vu l u s3.heap.objs.size Q I4 r1 (b5.IsSliceOf.new ..) pl pu q3
 exact tail_any ht hT hg (by with_unfolding_all rfl)
noncomputable def Yu(xs:List V)(lo hi:Option Int):List V:=(xs.drop<|HT.sIx xs.length 0 lo).take<|HT.sIx xs.length xs.length hi-HT.sIx xs.length 0 lo
theorem WX(xs:List V)(lo hi:Option Int):(Yu xs lo hi).length<=xs.length:=by
 unfold Yu;rw[bo,br];lia
def Zex(K:am):V->Option Int->Option Int->Hp->VK->Prop:=λx lo hi H Q=>∃a xs,x=.ref a/\SqT K H a xs/\
 ¬(HT.sIx xs.length 0 lo=0/\HT.sIx xs.length xs.length hi=xs.length)/\∀p,H p=ae->Q (.ref p) (upd H p<|.tup<|Yu xs lo hi)
def ZbN:SlR X (Zex X.K):=by
 intro pq s U H x v vl vu lo hi sl Q I rx hs pl pu h;obtain⟨a,xs,rfl,hx,hw,q⟩:=h;cases rx;obtain⟨its,r,ht,hz⟩:=I.tuple hx;have hlen:its.toArray.size=xs.length:=by rw[ay];exact r.length.symm
 refine#["tuple",_,dB.lookup,ht.typeIs,?_];refine HT.X4 ht hs pl pu (by rw[hlen];exact hw) ?_ (by rw[hlen];exact hz)
 rw[hlen];refine#[.ref s.heap.objs.size,_,I.laid (t':=s.toks) (λb ob q=>au _ q) (aM _) ?_,rfl,q _<|I.hok.fresh<|aM _]
 exact#[cM (WX xs lo hi) hz,_,(r.drop<|HT.sIx xs.length 0 lo).take<|HT.sIx xs.length xs.length hi-HT.sIx xs.length 0 lo,iG _ _]
def Za7(K:am):R2:=λx y H Q=>∃a b xs ys,x=.ref a/\y=.ref b/\SqT K H a xs/\SqT K H b ys/\xs≠[]/\xs.length+ys.length<=bw/\
 (ys=[]->Q (.ref a) H)/\(ys≠[]->∀p,H p=ae->Q (.ref p) (upd H p<|.tup<|xs++ys))
def Vals.nil_iff(r:Vals xs us):us=[]↔xs=[]:=by
 cases r with|nil=>simp|cons _ _=>simp
def jg:OpR X (eF .Add) (Za7 X.K):=by
 intro pq s U H x y v u Q I rx ry h;obtain⟨a,b,xs,ys,rfl,rfl,ha,hb,hx,hz,q1,q2⟩:=h;cases rx;cases ry;obtain⟨its,r1,p1,_⟩:=I.tuple ha;obtain⟨its2,r2,p2,_⟩:=I.tuple hb;refine HT.Zap p1 p2 (λz=>hx<|r1.nil_iff.mp z) (λz=>#[.ref a,H,I,rfl,q1<|r2.nil_iff.mp z]) (λz=>?_) (by rw[<-r1.length,<-r2.length];exact hz)
 refine#[.ref s.heap.objs.size,_,I.laid (t':=s.toks) (λb ob q=>au _ q) (aM _) ?_,rfl,q2 (λw=>z<|r2.nil_iff.mpr w) _<|I.hok.fresh<|aM _]
 exact#[by rw[aX];exact hz,_,r1.append r2,iG _ _]
end
noncomputable def ixN(n:Nat)(i:Int):Option Nat:=if 0<=i then(if i<n then aa i.toNat else ae)else if -(n:Int)<=i then aa (i+n).toNat else ae
noncomputable def atI{B:Type}(xs:List B)(i:Int):Option B:=(ixN xs.length i).bind λj=>xs[j]?
def yi(h:ixN n i=aa j):seqIndex? i n=aa j/\j<n/\-(n:Int)<=i/\i<n:=by
 unfold ixN at h;by_cases h0:0<=i
 .rw[T9 h0]at h
  by_cases h1:i<n
  .rw[T9 h1]at h
   have e:=ai h;exact#[by rw[oo h0 h1,e],by lia,by lia,h1]
  .rw[T8 h1]at h;cases h
 .rw[T8 h0]at h
  by_cases h1:-(n:Int)<=i
  .rw[T9 h1]at h
   have e:=ai h;exact#[by rw[ni (by lia) h1,e],by lia,h1,by lia]
  .rw[T8 h1]at h;cases h
def zZ{B:Type}{xs:List B}{i:Int}{v:B}(h:atI xs i=aa v):∃j,seqIndex? i xs.length=aa j/\xs[j]?=aa v/\j<xs.length/\-(xs.length:Int)<=i/\i<xs.length:=by
 unfold atI at h;cases e:ixN xs.length i with
 |none=>rw[e]at h;cases h
 |some j=>
  rw[e]at h;obtain⟨h1,h2,h3,h4⟩:=yi e;exact#[j,h1,h,h2,h3,h4]
def zP(b:Expr):Prop:=∀o i,subscripted b ak o i=operate [o,i] (mw o i)
def IxR(X:Cx)(r:R2):Prop:=
 ∀(value slice:Expr)(pq:List (aK×fC))(s:aq)(U:St)(H:Hp)(x y:V)(v u:al)(Q:VK),Inv X pq U H s->Zu x v->Zu y u->r x y H Q->
  subscripted slice ak v u=operate [v,u] (mw v u)->aW (aT X.prog X.w) X.A (subscriptTail value slice v u) (EP X pq U Q) X.xe s
def MtR(X:Cx)(id:String)(r:V->List V->Hp->VK->Prop):Prop:=
 ∀(pq:List (aK×fC))(s:aq)(U:St)(H:Hp)(x:V)(xs:List V)(v:al)(us:List al)(Q:VK),Inv X pq U H s->Zu x v->Vals xs us->r x xs H Q->
  aW (aT X.prog X.w) X.A (call (.builtin id) (v::us)) (EP X pq U Q) X.xe s
section
variable{X:Cx}{a b:Expr}{ta tb:TE}{pos:iA}
def IxR.or(h:IxR X r)(h':IxR X r'):IxR X (λx y H Q=>r x y H Q\/r' x y H Q):=by
 intro value slice pq s U H x y v u Q I rx ry q hs;rcases q with q|q
 .exact h value slice pq s U H x y v u Q I rx ry q hs
 .exact h' value slice pq s U H x y v u Q I rx ry q hs
def wK(hr:IxR X r)(ha:PE X a ta)(hb:PE X b tb)(hs:zP b):PE X (.Subscript a b pos) (tOp r ta tb):=by
 intro pq s U H Q I h;exact Subscript_<|ZcZ ha hb I h λv u s2 x y H2 I2 rx ry q=>hr a b pq s2 U H2 x y v u Q I2 rx ry q<|hs _ _
def ZeC(K:am):R2:=λx y H Q=>∃p xs i v,x=.ref p/\y=.int i/\SqL K H p xs/\atI xs i=aa v/\Q v H
def Zeu(K:am):R2:=λx y H Q=>∃p xs i v,x=.ref p/\y=.int i/\SqT K H p xs/\atI xs i=aa v/\Q v H
theorem Q2:IxR X (ZeC X.K):=by
 intro value slice pq s U H x y v u Q I rx ry h hs;obtain⟨p,xs,i,z,rfl,rfl,hq,he,q⟩:=h;cases rx;obtain⟨t,rfl⟩:=ry;obtain⟨its,r,pl,hz⟩:=I.list hq;obtain⟨j,h1,h2,h3,h4,h5⟩:=zZ he;obtain⟨w,ew,rw'⟩:=r.get h2;have hl:=r.length;have hn:=Uq;have fin:EP X pq U Q w s:=#[z,H,I,rw',q];by_cases h0:0<=i
 .have hj:i.toNat=j:=by
   rw[oo h0 h5]at h1;exact ai h1
  exact item_listR pl.isList h0 (by lia) (by rw[hj];simpa using ew) fin hs
 .have hj:(i+(its.toArray.size:Int)).toNat=j:=by
   rw[ni (by lia) h4]at h1
   rw[ay,<-hl];exact ai h1
  exact lm pl.isList.typeIs slot_list_getitem.lookup
   (wpAny_getItem_list_neg pl.isList (by lia) (by rw[ay]<;>lia) (by lia) (by rw[hj];simpa using ew) #[rfl,fin]) hs
theorem Zbk:IxR X (Zeu X.K):=by
 intro value slice pq s U H x y v u Q I rx ry h hs;obtain⟨p,xs,i,z,rfl,rfl,hq,he,q⟩:=h;cases rx;obtain⟨t,rfl⟩:=ry;obtain⟨its,r,pl,hz⟩:=I.tuple hq;obtain⟨j,h1,h2,h3,h4,h5⟩:=zZ he;obtain⟨w,ew,rw'⟩:=r.get h2;have hl:=r.length;have hn:=Uq;have fin:EP X pq U Q w s:=#[z,H,I,rw',q];exact lm pl.typeIs slot_tuple_getitem.lookup
  (getItem_tuple pl (by lia) (by lia) (by rw[ay,<-hl];exact h1) (by simpa using ew) #[rfl,fin]) hs
def zq(its:List al)(n j:Nat)(u:al):eR (·.setIfInBounds j u) {cls:=.type "list",data:=.seq its.toArray n}={cls:=.type "list",data:=.seq (its.set j u).toArray n}:=by
 simp[eR]
theorem Inv.lst{pq:List (aK×fC)}{U:St}{H:Hp}{s:aq}{p:aK}{xs:List V}(I:Inv X pq U H s)(h:H p=aa (.lst xs)) :
  ∃(its:List al)(n:Nat),Vals xs its/\s.heap.get? p=aa {cls:=.type "list",data:=.seq its.toArray n}/\xs.length<=bw:=by
 obtain⟨z,its,n,r,e⟩:=I.hok p _ h;exact#[its,n,r,e,z]
def Inv.lstUpd{pq:List (aK×fC)}{U:St}{H:Hp}{s:aq}{p:aK}{xs ys:List V}{its its':List al}{n n':Nat}{f:fC->fC}(I:Inv X pq U H s)(h:H p=aa (.lst xs))
  (ho:s.heap.get? p=aa {cls:=.type "list",data:=.seq its.toArray n})(hf:f {cls:=.type "list",data:=.seq its.toArray n}={cls:=.type "list",data:=.seq its'.toArray n' })(r:Vals ys its')(hz:ys.length<=bw)(t:Nat) :
  Inv X pq U (upd H p<|.lst ys) {s with heap:=s.heap.update p f,toks:=t}:=by
 have e:(s.heap.update p f).get? p=aa {cls:=.type "list",data:=.seq its'.toArray n' }:=by
  rw[d9 f ho (by rw[hf]<;>rfl),hf]
 refine I.write (by rw[h];trivial) (.inl rfl) (λb u hb q=>(ln _ _<|Ne.symm hb).trans q) #[_,e] ?_
 exact#[hz,its',n',r,e]
def Zc2:V->V->V->Hp->(Hp->Prop)->Prop:=λo i v H Q=>∃p xs k j,o=.ref p/\i=.int k/\H p=aa (.lst xs)/\ixN xs.length k=aa j/\Q (upd H p<|.lst<|xs.set j v)
theorem qo:PSet X Zc2:=by
 intro pq s U H o i v ov iv u Q I ro ri rv h;obtain⟨p,xs,k,j,rfl,rfl,hp,hj,q⟩:=h;cases ro;obtain⟨t,rfl⟩:=ri;obtain⟨its,n,r,ho,hz⟩:=I.lst hp;obtain⟨h1,h2,h3,h4⟩:=yi hj;have hl:=r.length;have hn:=Uq;have I':=
  I.lstUpd hp ho (zq its n j u) (r.set rv j) (by rw[bX];exact hz) s.toks
 by_cases h0:0<=k
 .have hk:k.toNat=j:=by
   rw[oo h0 h4]at h1;exact ai h1
  exact PySem.W.ki_setAt ho h0 (by lia) (by rw[ay,<-hl];exact h4) (by rw[hk];exact#[_,I',q])
 .have hk:(k+(its.toArray.size:Int)).toNat=j:=by
   rw[ni (by lia) h3]at h1
   rw[ay,<-hl];exact ai h1
  exact PySem.W.ki_setBack ho (by lia) (by rw[ay,<-hl];exact h3) (by lia) (by rw[hk];exact#[_,I',q])
theorem QO(lo hi:Option Int)(n:Nat):(gl lo hi ae n).1=((HT.sIx n 0 lo:Nat):Int)/\(gl lo hi ae n).2.1=((HT.sIx n n hi:Nat):Int)/\(gl lo hi ae n).2.2=1:=by
 refine#[?_,?_,rfl]
 .cases lo with
  |none=>simp[gl,HT.sIx]
  |some i=>
   simp only[gl,HT.sIx,nR,show(1:Int)>0 by decide,if_true]
   by_cases h:i<0
   .simp only[h,if_true]<;>lia
   .simp only[h,if_false]<;>lia
 .cases hi with
  |none=>simp[gl,HT.sIx]
  |some i=>
   simp only[gl,HT.sIx,nR,show(1:Int)>0 by decide,if_true]
   by_cases h:i<0
   .simp only[h,if_true]<;>lia
   .simp only[h,if_false]<;>lia
def Uw(its:List al)(lo hi:Option Int):slicePick its.toArray lo hi ae=((its.drop<|HT.sIx its.length 0 lo).take<|HT.sIx its.length its.length hi-HT.sIx its.length 0 lo).toArray:=by
 obtain⟨h1,h2,h3⟩:=QO lo hi its.toArray.size;unfold slicePick;rw[h1,h2,h3];simp only[sliceRange_one,pick_run,ay]<;>rfl
def Zea(K:am):V->Option Int->Option Int->Hp->VK->Prop:=λx lo hi H Q=>∃a xs,x=.ref a/\SqL K H a xs/\∀p,H p=ae->Q (.ref p) (upd H p<|.lst<|Yu xs lo hi)
theorem jQ:SlR X (Zea X.K):=by
 intro pq s U H x v vl vu lo hi sl Q I rx hs pl pu h;obtain⟨a,xs,rfl,hx,q⟩:=h;cases rx;obtain⟨its,r,ht,hz⟩:=I.list hx;have hlen:=r.length;refine#["list",_,slot_list_getitem.lookup,ht.isList.typeIs,?_];refine wpAny_getItem_list_slice ht.isList hs pl pu .none (by simp) ?_ (by rw[ay]<;>lia)
 rw[Uw,<-hlen];refine#[.ref s.heap.objs.size,_,I.laid (t':=s.toks) (λb ob q=>au _ q) (aM _) ?_,rfl,q _<|I.hok.fresh<|aM _]
 exact#[cM (WX xs lo hi) hz,_,0,(r.drop<|HT.sIx xs.length 0 lo).take<|HT.sIx xs.length xs.length hi-HT.sIx xs.length 0 lo,aL _ rfl]
noncomputable def z5:V->Bool
 |.non=>aj
 |.bl _=>aj
 |.int _=>aj
 |.str _=>aj
 |_=>ak
noncomputable def eqV:V->V->Bool
 |.non,.non=>aj
 |.bl a,.bl b=>a == b
 |.bl a,.int b=>(if a then 1 else 0) == b
 |.int a,.bl b=>a == (if b then 1 else 0)
 |.int a,.int b=>a == b
 |.str a,.str b=>a == b
 |_,_=>ak
def Zcx{A:b8}{s:aq}{y x:V}{u v:al}(ry:Zu y u)(rx:Zu x v)(fy:z5 y=aj)(fx:z5 x=aj):fE A s u v (eqV y x):=by
 cases y with
 |non=>
  cases ry;cases x with|non=>cases rx;exact hV _|bl b=>cases rx;exact fE.none_bool b|int b=>obtain⟨t,rfl⟩:=rx;exact fE.none_int b t|str b=>obtain⟨t,rfl⟩:=rx;exact fE.none_str b t|_=>exact T7 (fx) aI
 |bl a=>
  cases ry;cases x with|non=>cases rx;exact fE.bool_none a|bl b=>cases rx;exact fE.bool_bool a b|int b=>obtain⟨t,rfl⟩:=rx;exact fE.bool_int a b t|str b=>obtain⟨t,rfl⟩:=rx;exact fE.bool_str a b t|_=>exact T7 (fx) aI
 |int a=>
  obtain⟨t',rfl⟩:=ry;cases x with|non=>cases rx;exact fE.int_none a t'|bl b=>cases rx;exact fE.int_bool a t' b|int b=>obtain⟨t,rfl⟩:=rx;exact mV a t' b t|str b=>obtain⟨t,rfl⟩:=rx;exact mN a t' b t|_=>exact T7 (fx) aI
 |str a=>
  obtain⟨t',rfl⟩:=ry;cases x with|non=>cases rx;exact fE.str_none a t'|bl b=>cases rx;exact fE.str_bool a t' b|int b=>obtain⟨t,rfl⟩:=rx;exact mO a t' b t|str b=>obtain⟨t,rfl⟩:=rx;exact fE.str_str a t' b t|_=>exact T7 (fx) aI
 |_=>exact T7 (fy) aI
theorem Q8:ZM X (.builtin "len") (λxs H Q=>∃p ys,xs=[.ref p]/\(SqL X.K H p ys\/SqT X.K H p ys)/\Q (.int ys.length) H):=by
 intro pq s U H xs us Q I r h;obtain⟨p,ys,rfl,hq,q⟩:=h;obtain⟨u,rfl,rx⟩:=Uh r;cases rx;have hn:=Uq;rcases hq with hq|hq
 .obtain⟨its,r',pl,hz⟩:=I.list hq
  have hlen:=r'.length;exact Calls.call_len_list pl.isList (by simp only[ay]<;>lia) #[.int ys.length,H,I.tok _,#[s.toks+1,by rw[ay,hlen]],q]
 .obtain⟨its,r',pl,hz⟩:=I.tuple hq
  have hlen:=r'.length;exact len_tuple pl (by simp only[ay]<;>lia) #[.int ys.length,H,I.tok _,#[s.toks+1,by rw[ay,hlen]],q]
theorem Uv:ZM X (.type "tuple") (λxs H Q=>∃p ys,xs=[.ref p]/\((SqL X.K H p ys/\∀l,H l=ae->Q (.ref l) (upd H l<|.tup ys))\/(SqT X.K H p ys/\Q (.ref p) H))):=by
 intro pq s U H xs us Q I r h;obtain⟨p,ys,rfl,h⟩:=h;obtain⟨u,rfl,rx⟩:=Uh r;cases rx;rcases h with⟨hq,q⟩|⟨hq,q⟩
 .obtain⟨its,r',pl,hz⟩:=I.list hq
  have hlen:=r'.length;refine call_tuple_list pl.isList (λh' kp=>?_) (by simp only[ay]<;>lia)
  have I1:=I.kept (t':=s.toks) kp
  have I2:=
   I1.laid (t':=s.toks) (λb o e=>au _ e) (aM _) (show YH X.prog X.w _ _ _ (.tup ys)from#[hz,its,r',iG _ _])
  exact#[.ref h'.objs.size,_,I2,rfl,q _<|I1.hok.fresh<|aM _]
 .obtain⟨its,r',pl,hz⟩:=I.tuple hq
  exact call_tuple_same pl #[.ref p,H,I,rfl,q]
def tyV(K:am)(T:String)(x:V)(H:Hp):Prop:=match x with
 |.str _=>T = "str"
 |.int _=>T = "int"
 |.ref p=>(T = "list"/\∃xs,SqL K H p xs)\/(T = "tuple"/\∃o,K.lookup p=aa o/\o.cls=.type "tuple"/\o.dict=ae)\/
   (T = "dict"/\((∃kvs,H p=aa (.dK kvs))\/∃kvs,H p=aa (.dT kvs)))\/(T = "set"/\∃S n,H p=aa (.set S n))
 |_=>False
def Zbv(I:Inv X pq U H s)(r:Zu x v)(ty:tyV X.K T x H) :
  s.TypeIs v T/\∀a,v=.ref a->∃ob,s.heap.get? a=aa ob/\ob.dict=ae:=by
 cases x with
 |str z=>
  obtain⟨t,rfl⟩:=r;cases(ty)
  exact#[typeIs_str s z t,λ_ e=>nomatch e]
 |int i=>
  obtain⟨t,rfl⟩:=r;cases(ty)
  exact#[lq s i t,λ_ e=>nomatch e]
 |ref p=>
  cases r;rcases ty with⟨rfl,xs,hq⟩|⟨rfl,o,hk,hc,hd⟩|⟨rfl,hk⟩|⟨rfl,S,n,hk⟩
  .obtain⟨its,_,pl,_⟩:=I.list hq
   refine#[pl.isList.typeIs,λa e=>?_]
   cases e;obtain⟨o,n,e,c,hd,_⟩:=pl;exact#[o,e,hd]
  .refine#[#[o,I.kIn p o hk,hc],λa e=>?_]
   cases e;exact#[o,I.kIn _ o hk,hd]
  .have z:∃o,s.heap.get? p=aa o/\o.ExactDict:=by
    rcases hk with⟨kvs,hk⟩|⟨kvs,hk⟩
    .obtain⟨_,_,_,_,o,_,_,e,ex,_⟩:=I.hok p _ hk
     exact#[o,e,ex]
    .obtain⟨_,_,_,_,o,_,_,e,ex,_⟩:=I.hok p _ hk
     exact#[o,e,ex]
   obtain⟨o,e,ex⟩:=z;refine#[#[o,e,ex.1],λa e2=>?_]
   cases e2;exact#[o,e,ex.2.1]
  .obtain⟨o,_,_,_,e,ex,_⟩:=I.hok p _ hk
   refine#[#[o,e,ex.1],λa e2=>?_]
   cases e2;exact#[o,e,ex.2.1]
 |_=>exact False.elim ty
def tBM(K:am)(T:String)(r:V->List V->Hp->VK->Prop)(to:TE)(t:TA):TE:=λU H Q=>to U H λx H1=>tyV K T x H1/\t U H1 λxs H2=>r x xs H2 Q
variable{o e:Expr}{es:List Expr}{to:TE}{t:TA}{name:bE}{apos cpos:iA}{T id:String}{r:V->List V->Hp->VK->Prop}
def wv(pa:PlainAttrs T)(slot:Slot T name id)(hty:typeOf (.builtin id)=cW (.type "method_descriptor"))(hm:MtR X id r)(ho:PE X o to)(ha:PA X (e::es) t)
  (hbase:kq o name X.env (cC o X.env)=cC o X.env:=by rfl)
  (hfew:((eO cpos<|aJ (e::es) X.env).all (λx=>!x.1)&&(oS cpos<|l8 [] X.env).all (λx=>x.1.isSome)
   && ag ((e::es).length+([]:List lu).length+(if([]:List lu).isEmpty then 0 else 1)<30))=aj:=by rfl)
  (hline:(apos.endLine == cpos.line)=aj:=by rfl)(hs:aJ (e::es) X.env=(ak,cC e X.env)::aJ es X.env:=by rfl)(hplain:(eO cpos<|aJ es X.env).any (·.1)=ak:=by rfl) :
  PE X (.Call (.Attribute o name apos) (e::es) [] cpos) (tBM X.K T r to t):=by
 intro pq s U H Q I h;refine wpAny_Call_method_late hbase hfew hline rfl<|thn (ho pq s U H _ I h) λv s1 #[x,H1,I1,r1,ty,q1]=>?_
 obtain⟨h1,h2⟩:=Zbv I1 r1 ty;refine#[T,id,pa,slot,hty,h1,h2,?_];have hA:=ha cpos pq s1 U H1 _ I1 q1;rw[hs]at hA ⊢;refine Calls.callWith_builtin (by show(ak||(eO cpos<|aJ es X.env).any (·.1))=ak;rw[hplain]<;>rfl)<|Calls.evalArgs_plain ?_
 exact thn hA<|by rintro us s2 ⟨vs,H2,I2,r2,q2⟩;exact hm pq s2 U H2 x vs v us Q I2 r1 r2 q2
end
def MtM(X:Cx)(id:String)(r:V->List V->Hp->VK->Prop):Prop:=
 ∀(pq:List (aK×fC))(s:aq)(U:St)(H:Hp)(x:V)(xs:List V)(v:al)(us:List al)(Q:VK),Inv X pq U H s->Zu x v->Vals xs us->r x xs H Q->
  aW (aT X.prog X.w) X.A (call (.builtin id) (v::us)) (EP X pq U Q) X.xe s
def Vals.one:∀{x:V}{us:List al},Vals [x] us->∃u,us=[u]/\Zu x u
 |_,_,.cons r .nil=>#[_,rfl,r]
theorem Vals.rep(h:Vals xs us):∀k:Nat,Vals (aP k xs).flatten (aP k us).flatten
 |0=>.nil
 |k+1=>by
  rw[bF,bF,cO,cO];exact Vals.append h<|Vals.rep h k
theorem WB(its:List al):∀(k:Nat)(acc:List al),
  List.foldl (λx1 x2=>x1++x2) acc.toArray (aP k its.toArray)=(acc++(aP k its).flatten).toArray
 |0,acc=>by simp
 |k+1,acc=>by
  have e:acc.toArray++its.toArray=(acc++its).toArray:=by simp
  have e2:(acc++its)++(aP k its).flatten=acc++(aP (k+1) its).flatten:=by
   rw[bF,cO,bq]
  rw[<-e2,<-WB its k (acc++its),<-e,bF,hW]
section
variable{X:Cx}{pq:List (aK×fC)}{U:St}{H:Hp}{s:aq}{l b:aK}{xs ys zs:List V}
def Inv.lset{its its':List al}{n:Nat}{f:Array al->Array al}{t':Nat}(I:Inv X pq U H s)(hH:H l=aa (.lst xs))
  (e:s.heap.get? l=aa {cls:=.type "list",data:=.seq its.toArray n})(hf:f its.toArray=its'.toArray)(hv:Vals ys its')(hz:ys.length<=bw) :
  Inv X pq U (upd H l<|.lst ys) {s with heap:=s.heap.update l<|eR f,toks:=t' }:=by
 have q:=PySem.IsL.update e f;rw[hf]at q;refine I.write (by rw[hH];exact trivial) (.inl rfl) (λb' u hb hu=>(ln s.heap (eR f)<|Ne.symm hb).trans hu) #[_,q] ?_
 exact#[hz,its',_,hv,q]
def Inv.lnew(I:Inv X pq U H s)(hv:Vals ys its)(hz:ys.length<=bw) :
  Inv X pq U (upd H s.heap.objs.size<|.lst ys) {s with heap:=s.heap.push {cls:=.type "list",data:=.seq its.toArray},toks:=t' }:=
 I.laid (λ_ _ q=>au _ q) (aM _) #[hz,its,0,hv,aL _ rfl]
theorem Inv.fresh(I:Inv X pq U H s):H s.heap.objs.size=ae:=I.hok.fresh<|aM _
def Inv.lstM(I:Inv X pq U H s)(hH:H l=aa (.lst xs)):xs.length<=bw/\∃(its:List al)(n:Nat),Vals xs its/\xs.length=its.length/\s.heap.get? l=aa {cls:=.type "list",data:=.seq its.toArray n}:=by
 obtain⟨z,its,n,r,e⟩:=I.hok l _ hH;exact#[z,its,n,r,r.length,e]
theorem vk(h:n<=bw):fT n=ak:=by
 exact T4 (by lia)
end
section
variable{X:Cx}
def qG:V->List V->Hp->VK->Prop:=λx vs H Q=>∃l xs y,x=.ref l/\vs=[y]/\H l=aa (.lst xs)/\xs.length<bw/\Q .non (upd H l<|.lst<|xs++[y])
theorem U0:MtM X "list.append" qG:=by
 intro pq s U H x vs v us Q I rx rv h;obtain⟨l,xs,y,rfl,rfl,hH,hz,q⟩:=h;cases rx;obtain⟨u,rfl,ru⟩:=rv.one;obtain⟨z,its,n,r,hl,e⟩:=I.lstM hH;refine fF F.slot_list_append #[_,e,rfl] F.entry_list_append (F.args_list_append_2 _ _) (PySem.list_append l its.toArray n u<|by rw[ay];lia) #[e,?_]
 refine#[.non,_,I.lset (its':=its++[u]) hH e (by simp) (r.append<|.cons ru .nil) ?_,rfl,q]
 rw[aX,cL];lia
def Zat:V->List V->Hp->VK->Prop:=λx vs H Q=>∃l b xs zs,x=.ref l/\vs=[.ref b]/\H l=aa (.lst xs)/\H b=aa (.lst zs)/\xs.length+zs.length<=bw/\Q .non (upd H l<|.lst<|xs++zs)
theorem wn:MtM X "list.extend" Zat:=by
 intro pq s U H x vs v us Q I rx rv h;obtain⟨l,b,xs,zs,rfl,rfl,hH,hB,hz,q⟩:=h;cases rx;obtain⟨u,rfl,ru⟩:=rv.one;cases ru;obtain⟨z,its,n,r,hl,e⟩:=I.lstM hH;obtain⟨z2,its2,n2,r2,hl2,e2⟩:=I.lstM hB;have hsz:its.toArray.size+its2.toArray.size<=bw:=by rw[ay,ay];lia
 have hlong:¬(!its.toArray.isEmpty&&fT (its.toArray.size+its2.toArray.size))=aj:=by
  rw[vk hsz,oT];exact aI
 refine fF F.slot_list_extend #[_,e,rfl] F.entry_list_extend (F.args_list_extend_2 _ _)
  (AutoSeq1.list_extend_list_list_0 l its.toArray n b its2.toArray n2 hlong (by rw[ay];lia)<|by lia) #[e,e2,?_]
 refine#[.non,_,I.lset (its':=its++its2) hH e (by simp) (r.append r2) ?_,rfl,q]
 rw[aX];lia
def Zd5:R2:=λx y H Q=>∃l b xs zs,x=.ref l/\y=.ref b/\H l=aa (.lst xs)/\H b=aa (.lst zs)/\xs.length+zs.length<=bw/\∀p,H p=ae->Q (.ref p) (upd H p<|.lst<|xs++zs)
theorem ZbC:OpR X (eF .Add) Zd5:=by
 intro pq s U H x y v u Q I rx ry h;obtain⟨l,b,xs,zs,rfl,rfl,hH,hB,hz,q⟩:=h;cases rx;cases ry;obtain⟨z,its,n,r,hl,e⟩:=I.lstM hH;obtain⟨z2,its2,n2,r2,hl2,e2⟩:=I.lstM hB;refine PySem.P.add_list e e2 ?_ (by rw[ay,ay];lia)
 have ea:its.toArray++its2.toArray=(its++its2).toArray:=by simp
 rw[ea];exact#[.ref _,_,I.lnew (t':=s.toks) (r.append r2) (by rw[aX];lia),rfl,q _ I.fresh]
def Q3{B:Type}(xs:List B)(k:Nat):(aP k xs).flatten.length=k*xs.length:=by
 induction k with|zero=>simp|succ k ih=>rw[bF,cO,aX,ih,Nat.succ_mul,nj]
end
end L2
namespace Att
open PySem PySem.W PySem.Calls PyProof.Rows
def Vb :∀(ns:List Int)(vs:List al),WellAll P h vs (ns.map WData.int)->oJ vs ns:=by
 intro ns
 induction ns with
 |nil=>
  intro vs w;rw[lv]at w;cases w;exact .nil
 |cons n ns ih=>
  intro vs w;rw[bz]at w;cases w with
  |cons a b=>
   cases a;exact .cons _ _<|ih _ b
def xB{l:OpenLaw}{n:Nat}(hn:l.most=aa n){P:Params}{h:b5}{args:List WData}{vals:List al}
  (hpre:l.row.toRowW.claim.pre args=aj)(hwl:WellAll P h vals args) :
  ∃a vs ns,vals=[cc a]/\args=[WData.list<|ns.map WData.int]/\h.get? a=aa {cls:=.type "list",data:=.seq vs.toArray}/\oJ vs ns/\ns.length<=n:=by
 have hsh:=(pre_splitW hpre).1;have hc:l.pre.holds [] {args:=args}=aj:=(pre_splitW hpre).2;obtain⟨d,r,rfl,h1,h2⟩:=hasAllW_cons hsh;obtain rfl:=hasAllW_nil h2;obtain⟨xs,rfl,h3⟩:=hasW_list h1;obtain⟨ns,rfl⟩:=items_int h3;have hlen:ns.length<=n:=by
  have h4:(WTm.not<|.lt (.lit<|.int (n:Int))<|.len<|.arg 0).holds [] {args:=[.list<|ns.map .int]}=aj:=by
   have h4:=(holds_andW hc).1;rw[hn]at h4;exact h4
  have h5:=condW_of h4<|w_not<|w_lt w_lit<|w_len_list<|w_arg rfl;rw[ap]at h5;refine eV λq=>?_
  have q':(n:Int)<((ns.length:Nat):Int):=by lia
  first
   |(rw[T5 q']at h5;exact T7 h5 (by decide))
   |(simp at h5;lia)
 cases hwl with
 |cons w1 w2=>
  cases w2;cases w1 with|list ho hall=>exact#[_,_,ns,rfl,rfl,ho,Vb ns _ hall,hlen]
def xU(l:OpenLaw)(args:List WData):l.row.toRowW.claim.post args (.bool aj) args=aj:=
 postW_of
  (by first|rfl|decide|simp[WShape.has,WShape.arms,WShape.armsAll])
  (w_eq_bool (w_res rfl) w_lit) rfl
def Jt{l:OpenLaw}{n:Nat}{q:bt}{loose:List bE}{XP:(bE->Option al)->b5->Prop}{YP:bJ->b5->Prop}{d:DefRec}
  (hn:l.most=aa n)(hdf:d.params.defaults=[])
  (call:∀(w:bJ)(s₀ s₁:aq)(mg mb:bE->Option al)(fa:aK)(o:fC)(pm cd doc:al)(a:aK)(vs:List al)(ns:List Int),
   Ground q loose [] XP w s₀ mg mb s₁.heap->YP w s₁.heap->
   s₁.heap.get? fa=aa o->o.data=.func (docDef d.name d.params d.body d.scope pm cd doc)->s₁.heap.CodeRec cd d.name->mg d.name=aa (.ref fa)->
   s₁.heap.get? a=aa {cls:=.type "list",data:=.seq vs.toArray}->oJ vs ns->ns.length<=n->s₁.gens = #[]->
   fe (aT l.prog w) my (.call (.ref fa) #[[.ref a],[]]) (λr s'=>r=.ok (.ret<|.bool aj)/\OldK s₁.heap s'.heap/\s'.os=s₁.os/\i9 s'.gens) s₁) :
  WalkO q loose XP YP l.row.toRowW d [] (λf vs=>oU f vs):=by
 intro w s₀ s₁ mg mb G Y fa o pm cd doc dV kV ho hd hcd hD hmg hg args vals as hpre hlay hrd hwl hlo;obtain rfl:dV=.none:=Dflts.none hD hdf;obtain rfl:kV=.none:=Dflts.noKw hD;obtain⟨a,vs,ns,rfl,rfl,hobj,hints,hlen⟩:=xB hn hpre hwl;refine enter_call<|gy (call w s₀ s₁ mg mb fa o pm cd doc a vs ns G Y ho (fd_plain hd) hcd hmg hobj hints hlen hg) λr s' hq=>?_
 obtain⟨rfl,h2,h3,h4⟩:=hq;exact#[.inl #[.bool aj,.bool aj,[],rfl,λ_=>rfl,.bool aj,xU l _,λ_=>#[fA,λ_ hm=>(nomatch hm)]],h2,h3,h4]
end Att
namespace L2
open PySem PySem.Spec PyProof.Rows
theorem Qh:∀{vs:List al}{ns:List Int},oJ vs ns->Vals (ns.map V.int) vs
 |_,_,.nil=>.nil
 |_,_,.cons n t h=>.cons #[t,rfl]<|Qh h
def Only(H:Hp):Prop:=∀b,H b=ae\/∃o xs,H b=aa (.frz o<|.lst xs)
def wE{P:bt}{w:bJ}{K:am}{mg mb:bE->Option al}{CX:CXT}{k:Nat}{fa a:aK}{fd:cX}{x:bE}{sp:Sp}{s₁:aq}{vs:List al}{ns:List Int}
  (KX:K.In s₁.heap)(hns:s₁.heap.Ns cJ mg)(hb:s₁.heap.Ns mQ mb)(hbb:∀x:bE,x≠"__name__"->mb x=dP x)(hlim:s₁.heap.NoLimit)(hg:s₁.gens = #[])
  (ha:s₁.heap.get? a=aa {cls:=.type "list",data:=.seq vs.toArray})(hi:oJ vs ns)(hl:ns.length<=bw)(hr:Room k my)
  (F:∀base:b5,K.In base->base.Ns cJ mg->FnOk P w K mg base CX k fa fd [x] sp)(hbind:∀(s:aq)(u:al),nc s fd #[[u],[]] [(x,u)])
  (hsp:∀H:Hp,Only H->SqL K H a (ns.map V.int)->sp [.ref a] H (λv _=>v=.bl aj) λ_ _ _=>False)
  (hCX:∀H e s',CX [] H s₁ (λ_ _ _=>False) e s'->False) :
  fe (aT P w) my (.call (.ref fa) #[[.ref a],[]]) (λr s'=>r=.ok (.ret<|.bool aj)/\OldK s₁.heap s'.heap/\s'.os=s₁.os/\i9 s'.gens) s₁:=by
 have rv:=Qh hi;have lenV:=hi.length;have core:∀H:Hp,Only H->SqL K H a (ns.map V.int)->HOk P w H s₁.heap->(∀b,H b≠ae->b=a)->(H a≠ae->K.lookup a=ae)->
   fe (aT P w) my (.call (.ref fa) #[[.ref a],[]]) (λr s'=>r=.ok (.ret<|.bool aj)/\OldK s₁.heap s'.heap/\s'.os=s₁.os/\i9 s'.gens) s₁:=by
  intro H hO hS hok hA hK;have base_of:∀{b:aK}{o:fC},s₁.heap.get? b=aa o->H b=ae->(Q4 s₁.heap H).get? b=aa o:=λe n=>vh e n
  have noA:∀{b:aK}{o:fC}{es:Array iH}{ep:Nat},s₁.heap.get? b=aa o->o.data=.dict es ep->H b=ae:=λ{b o es ep} e d=>by
   cases q:H b with
   |none=>rfl
   |some u=>
    have e':b=a:=hA b (by rw[q];simp)
    subst e';rw[ha]at e;cases e;have d':Data.seq vs.toArray _=Data.dict es ep:=d;cases d'
  have nsK:∀{b:aK}{m:bE->Option al},s₁.heap.Ns b m->(Q4 s₁.heap H).Ns b m:=λ{b m} #[o,es,ep,e,d,r]=>#[o,es,ep,base_of e<|noA e d,d,r]
  have hKb:K.In (Q4 s₁.heap H):=λb o e=>base_of (KX b o e) (by
   cases q:H b with
   |none=>rfl
   |some u=>
    have e':b=a:=hA b (by rw[q];simp)
    subst e';rw[hK<|by rw[q];simp]at e;cases e)
  have hM:Mod K mg (Q4 s₁.heap H):=#[hKb,nsK hns,#[mb,nsK hb,hbb],let #[mc,h1,h2]:=hlim;#[mc,nsK h1,h2]];have e0:Env0 P w K mg (Q4 s₁.heap H) my [] s₁ H:=#[rfl,hM,λb o e=>qR e,nk<|xY _ _,trivial,λb hb=>T7 (show b∈([]:List aK)from hb) (by simp),hok,.of_eq hg]
  refine gy ((F _ hKb<|nsK hns).run my [] s₁ H #[[.ref a],[]] [.ref a] [.ref a] _ _ hr e0 (hbind s₁<|.ref a) (.cons rfl .nil)<|hsp H hO hS) λr s' h=>?_
  cases r with
  |error e=>exact(hCX H e s' h).elim
  |ok fl=>
   cases fl with
   |next=>exact False.elim h
   |brk=>exact False.elim h
   |cont=>exact False.elim h
   |ret u=>
    obtain⟨v,H',os,bare,un,hok',r',q⟩:=h;have q':v=.bl aj:=q;subst q';obtain rfl:u=cS aj:=r';refine#[rfl,OldK.of_keep λb o e=>?_,os,bare]
    cases q:H b with
    |none=>exact un.keep b o e q (by intro z;exact T7 (show b∈([]:List aK)from z)<|by simp) (by simp)
    |some u=>
     rcases hO b with z|⟨ob,xs,z⟩
     .rw[q]at z;cases z
     .have z2:=un.frzs b ob _ z
      obtain⟨e1,_⟩:=hok b _ z;obtain⟨e2,_⟩:=hok' b _ z2;rw[e]at e1;cases e1;exact e2
 cases hk:K.lookup a with
 |some o=>
  have e:=KX a o hk;rw[ha]at e;cases e;refine core (λ_=>ae) (λ_=>.inl rfl) (.inr #[_,vs.toArray,_,hk,rfl,rfl,rfl,by rw[ay,lenV];exact hl,by simpa using rv]) (λb u z=>by have z':(ae:Option HO)=aa u:=z;cases z') (λb z=>T7 rfl z) λz=>T7 rfl z
 |none=>
  refine core (λb=>if b=a then aa (.frz {cls:=.type "list",data:=.seq vs.toArray}<|.lst<|ns.map V.int)else ae) (λb=>?_) (.inl<|.inr #[{cls:=.type "list",data:=.seq vs.toArray},T9 rfl]) (λb u z=>?_) (λb z=>?_) λ_=>hk
  .by_cases hb:b=a
   .exact .inr #[_,_,T9 hb]
   .exact .inl<|T8 hb
  .by_cases hb:b=a
   .have z':=(T9 hb).symm.trans z
    cases z';subst hb;exact#[ha,by rw[ap];exact hl,vs,_,rv,ha]
   .have z':=(T8 hb).symm.trans z
    cases z'
  .by_cases hb:b=a
   .exact hb
   .exact T7 (T8 hb) z
def jp{l:lL}{n k:Nat}{q:bt}{loose:List bE}{XP:(bE->Option al)->b5->Prop}{YP:bJ->b5->Prop}{d:DefRec}{K:Params->am}{CX:bJ->CXT}{sp:bJ->Sp}{x:bE}
  (hn:l.most=aa n)(hn2:n<=bw)(hdf:d.params.defaults=[])(hr:Room k my)
  (hY:∀(w:bJ)(h:b5),YP w h->(K w.params).In h)
  (F:∀(w:bJ)(mg:bE->Option al)(fa:aK)(h:b5),(K w.params).In h->h.Ns cJ mg->mg d.name=aa (.ref fa)->
   ∃fd:cX,(∀(s:aq)(u:al),nc s fd #[[u],[]] [(x,u)])/\
    ∀base:b5,(K w.params).In base->base.Ns cJ mg->FnOk l.prog w (K w.params) mg base (CX w) k fa fd [x] (sp w))
  (hsp:∀(w:bJ)(H:Hp)(a:aK)(ns:List Int),ns.length<=n->Only H->SqL (K w.params) H a (ns.map V.int)->sp w [.ref a] H (λv _=>v=.bl aj) λ_ _ _=>False)
  (hCX:∀(w:bJ)(H:Hp)(s:aq)(e:al)(s':aq),CX w [] H s (λ_ _ _=>False) e s'->False) :
  pz q loose XP YP l.row.toRowW d [] (λf vs=>oU f vs):=by
 refine Att.Jt hn hdf λw s₀ s₁ mg mb fa o pm cd doc a vs ns G Y ho hd hcd hmg hobj hints hlen hg=>?_
 have KX:=hY w _ Y;obtain⟨fd,hb,hF⟩:=F w mg fa _ KX G.T.g hmg;exact wE KX G.T.g G.T.b G.T.builtins G.T.nolimit hg hobj hints (cM hlen hn2) hr hF hb (λH hO hS=>hsp w H a ns hlen hO hS) λH e s'=>hCX w H s₁ e s'
noncomputable def YK(s:fR):Arguments:=match s with
 |.FunctionDef _ a _ _ _ _ _ _ _ _=>a
 |_=>{posonlyargs:=[],args:=[],vararg:=ae,kwonlyargs:=[],kw_defaults:=[],kwarg:=ae,defaults:=[]}
noncomputable def Ya(s:fR):List fR:=match s with
 |.FunctionDef _ _ b _ _ _ _ _ _ _=>b
 |_=>[]
noncomputable def Zv(s:fR):eT:=match s with
 |.FunctionDef _ _ _ _ _ _ sc _ _ _=>sc
 |_=>{kind:=.function,names:=[],isGenerator:=ak,isCoroutine:=ak}
noncomputable abbrev CX0:CXT:=λ_ _ _ _ _ _=>False
noncomputable abbrev E0:XK:=λ_ _ _=>False
def ZaL{X:Cx}:zz CX0 X E0:=λ_ _ _ _ _ _ _ h=>h.elim
structure Fun(K:am)(x qual:bE)(st:fR)(f:aK)(fd:cX):Prop where
 ex:∃(oc:al)(od:Option aK)(kV doc pm:al)(an:Option aK)(cdv ct:al)(osl:Array (Option al)),
  fd=dQ x qual (YK st) (Ya st) (Zv st) .none kV doc pm an cdv ct/\K.lookup f=aa #[oc,od,.func fd,osl]/\iL K cdv qual=aj
 kp:gz K (.ref f)=aj
section
variable{P:bt}{w:bJ}{K:am}{mg:bE->Option al}{base:b5}
def Fun.ok{x qual:bE}{st:fR}{f:aK}{fd:cX}{N ps:List bE}{k:Nat}{sp:Sp}(F:Fun K x qual st f fd)(S:FnScope N ps (Zv st))(len:∀vs H Q E,sp vs H Q E->vs.length=ps.length)
  (hbody:∀(cdv:al)(A:b8)(outer:List Env)(s:aq)(H:Hp)(vs:List V)(Q:VK)(E:XK),Room k (A.deeper<|iK qual (Zv st) s.heap.objs.size f cdv)->sp vs H Q E->
   ∃t,PSs (Jw CX0 P w K mg base N qual (Zv st) f cdv A outer s H E).nox (Ya st) t/\t {nx:=λ_ H'=>Q .non H',rt:=Q} (start N vs) H):FnOk P w K mg base CX0 (k+1) f fd ps sp:=by
 obtain⟨oc,od,kV,doc,pm,an,cdv,ct,osl,rfl,lk,hcd⟩:=F.ex;refine Zc4 lk hcd S len λA outer s H vs Q E hr hsp=>?_
 obtain⟨t,h,q⟩:=hbody cdv A outer s H vs Q E hr hsp;exact#[t,h.nox,q]
def Fun.binds{x qual:bE}{st:fR}{f:aK}{fd:cX}{ps:List bE}(F:Fun K x qual st f fd)
  (h:∀(kV doc pm:al)(an:Option aK)(cdv ct:al)(us:List al),us.length=ps.length->oR (dQ x qual (YK st) (Ya st) (Zv st) .none kV doc pm an cdv ct) #[us,[]]=cW (ps.zip us)):Vw K fd ps []:=by
 obtain⟨oc,od,kV,doc,pm,an,cdv,ct,osl,rfl,lk,hcd⟩:=F.ex;exact .all<|h kV doc pm an cdv ct
def ZcO{x qual:bE}{st:fR}{f:aK}{oc:al}{od an:Option aK}{osl:Array (Option al)}{kV doc pm cdv ct:al}(l:K.lookup f=aa #[oc,od,.func<|dQ x qual (YK st) (Ya st) (Zv st) .none kV doc pm an cdv ct,osl])
  (c:iL K cdv qual=aj)(k:gz K (.ref f)=aj):Fun K x qual st f (dQ x qual (YK st) (Ya st) (Zv st) .none kV doc pm an cdv ct):=#[#[oc,od,kV,doc,pm,an,cdv,ct,osl,rfl,l,c],k]
end
section
variable{κ:Type}[DecidableEq κ]
noncomputable def VI(kvs:List (κ×V))(k:κ):Option V:=(kvs.find? λkv=>ag<|kv.1=k).map (·.2)
def Ud{p:κ×V}{r:List (κ×V)}{k:κ}(e:p.1=k):VI (p::r) k=aa p.2:=by simp[VI,eC,e]
def Vt{p:κ×V}{r:List (κ×V)}{k:κ}(e:¬p.1=k):VI (p::r) k=VI r k:=by simp[VI,eC,e]
theorem Jy(k:κ):∀kvs:List (κ×V),(kvs.any λkv=>ag<|kv.1=k)=(VI kvs k).isSome
 |[]=>rfl
 |p::r=>by
  rw[mI];by_cases e:p.1=k
  .simp only[Ud e,T5 e,Bool.true_or,mW]
  .rw[Vt e,T4 e,kr];exact Jy k r
def GG.isSome_eq(r:GG o u):o.isSome=u.isSome:=by
 cases o with
 |none=>cases u with|none=>rfl|some _=>exact(r).elim
 |some _=>cases u with|none=>exact(r).elim|some _=>rfl
def KV.val{kvs:List (κ×V)}{vs:List (κ×al)}(r:KV kvs vs)(k:κ):GG (VI kvs k) (np vs k):=by
 unfold KV at r
 induction r with
 |nil=>exact fc
 |@cons p q ps qs h t ih=>
  obtain⟨h1,h2⟩:=h;by_cases e:p.1=k
  .have e':=h1.symm.trans e
   have b:np (q::qs) k=aa q.2:=by simp[np,eC,e']
   rw[Ud e,b];exact h2
  .have e':¬q.1=k:=λz=>e (h1.trans z)
   have b:np (q::qs) k=np qs k:=by simp[np,eC,e']
   rw[Vt e,b];exact ih
end
def wZ(r:Zu (kV k) u):(Yh P w).is k u=aj:=by
 cases k with|inl i=>obtain⟨t,e⟩:=(r);subst e;exact JR P w i t|inr x=>obtain⟨t,e⟩:=(r);subst e;exact JF P w x t
theorem UW :∀{ks:List Key}{us:List al},Vals (ks.map kV) us->ItemsAre (Yh P w) ks us
 |[],_,r=>by rw[lv]at r;cases r;exact .nil
 |k::ks,_,r=>by
  rw[bz]at r;cases r with|cons h t=>exact .cons (wZ h)<|UW t
abbrev KT(H:Hp):List (List Key×V)->List (List Key×aK×al)->Prop:=Paired λp q=>p.1=q.1/\H q.2.1=aa (.tup<|p.1.map kV)/\Zu p.2 q.2.2
def KT.val{H:Hp}{kvs:List (List Key×V)}{xs:List (List Key×aK×al)}(r:KT H kvs xs)(k:List Key):GG (VI kvs k) ((pQ xs k).map (·.2)):=by
 induction r with
 |nil=>exact fc
 |@cons p q ps qs h t ih=>
  obtain⟨h1,_,h2⟩:=h;by_cases e:p.1=k
  .have e':=h1.symm.trans e
   have b:pQ (q::qs) k=aa q.2:=by simp[pQ,eC,e']
   rw[Ud e,b];exact h2
  .have e':¬q.1=k:=λz=>e (h1.trans z)
   have b:pQ (q::qs) k=pQ qs k:=by simp[pQ,eC,e']
   rw[Vt e,b];exact ih
def ZaX(ok:HOk P w H h)(e:Rd H a u):YH P w H h a u:=e.ok ok
def ZaK(ok:HOk P w H h)(e:Rd H a (.dK kvs)):kvs.length<=bw/\(a == gR)=ak/\∃vs,KV kvs vs/\h.DictOf (Yh P w) a vs:=
 ZaX ok e
def zg(ok:HOk P w H h)(e:H a=aa (.tup<|ks.map kV)):(nO<|Yh P w).is h ks a:=by
 obtain⟨_,its,r,o,h1,h2,n,h3⟩:=(ok a _ e)
 exact#[o,its.toArray,n,h1,h2,h3,by simpa using UW r]
def Zbc(ok:HOk P w H h)(e:Rd H a (.dT kvs)):kvs.length<=bw/\(a == gR)=ak/\
  ∃xs,KT H kvs xs/\h.DictOfH (nO<|Yh P w) a xs:=by
 obtain⟨z,y,xs,r,o,es,ep,h1,h2,h3,h4,h5⟩:=(ZaX ok e)
 refine#[z,y,xs,r,o,es,ep,h1,h2,h3,h4,λx hx=>?_,h5]
 have all:∀{l:List (List Key×V)}{m:List (List Key×aK×al)},KT H l m->∀x∈m,(nO<|Yh P w).is h x.1 x.2.1:=by
  intro l m q
  induction q with
  |nil=>intro x hx;exact nomatch hx
  |@cons p q ps qs hq t ih=>
   intro x hx;rcases aC.mp hx with e|hx
   .subst e
    exact zg ok (by rw[<-hq.1];exact hq.2.1)
   .exact ih x hx
 exact all r x hx
def DGet(H:Hp)(a:aK)(y:V)(r:Option V):Prop:=
 (∃kvs k,Rd H a (.dK kvs)/\y=kV k/\r=VI kvs k)\/∃kvs k b,Rd H a (.dT kvs)/\y=.ref b/\H b=aa (.tup<|k.map kV)/\r=VI kvs k
def Zey{Q:al->aq->Prop}(hu:A.units+1<c7)(I:Inv X pq U H s)(g:DGet H a y o)(ry:Zu y u)(h:∀s',Inv X pq U H s'->Q (.bool o.isSome) s') :
  aW (aT X.prog X.w) A (cF .In u<|.ref a) Q E s:=by
 rcases g with⟨kvs,k,e,ey,l⟩|⟨kvs,k,b,e,ey,eb,l⟩
 .subst ey
  obtain⟨z,hd,vs,rel,dd⟩:=ZaK I.hok e;refine wpAny_in_of (wZ ry) hd dd.mapOf ?_;rw[<-(rel.val k).isSome_eq,<-l];exact h _<|I.tok _
 .subst ey
  cases(ry)
  obtain⟨z,hd,xs,rel,dd⟩:=Zbc I.hok e;refine wpAny_in_heap (mX hu) (zg I.hok eb) hd dd ?_;have q:=(rel.val k).isSome_eq;rw[nq]at q;rw[<-q,<-l];exact h _<|I.tok _
def jr{Q:al->aq->Prop}(hu:A.units+1<c7)(I:Inv X pq U H s)(g:DGet H a y o)(ry:Zu y u)(h:∀s',Inv X pq U H s'->Q (.bool<|!o.isSome) s') :
  aW (aT X.prog X.w) A (cF .NotIn u<|.ref a) Q E s:=by
 rcases g with⟨kvs,k,e,ey,l⟩|⟨kvs,k,b,e,ey,eb,l⟩
 .subst ey
  obtain⟨z,hd,vs,rel,dd⟩:=ZaK I.hok e;refine wpAny_notIn_of (wZ ry) hd dd.mapOf ?_;rw[<-(rel.val k).isSome_eq,<-l];exact h _<|I.tok _
 .subst ey
  cases(ry)
  obtain⟨z,hd,xs,rel,dd⟩:=Zbc I.hok e;refine wpAny_notIn_heap (mX hu) (zg I.hok eb) hd dd ?_;have q:=(rel.val k).isSome_eq;rw[nq]at q;rw[<-q,<-l];exact h _<|I.tok _
end L2
namespace Pv
open PySem (Str)
inductive V where
 |non|bl (b:Bool)|int (i:Int)|str (x:bE)|tup (xs:List V)|lst (xs:List V)|drw|dct (ks:Option (List<|List Int))|scr (ns:List Int)
 |dow (ks:List (List Int))
 deriving Inhabited
end Pv
namespace Ev
open PySem (Str)
def nos{B:Type}{P:Prop}{b:B}(h:ae=aa b):P:=by cases h
noncomputable def lim:Nat:=16777216
inductive Bop where|add|sub|mul|fdiv|mod|pow
 deriving DecidableEq
inductive Cop where|eq|ne|lt|le|gt|ge|is|isn|inn|nin
 deriving DecidableEq
inductive Ty where|int|bool|str|tuple|list|dict|cls (c:Nat)
 deriving DecidableEq
inductive Bf where|len|max2|min2|toInt|tuple|list|all|any|sum|sorted|sortedR|dictP|listD|sortedD|sortedS|sortedT|sortedU|index|rangeT|rangeL
 deriving DecidableEq
inductive Mf where|append|extend|index
 deriving DecidableEq
mutual
inductive E where
 |c (d:Pv.V)|v (i:Nat)
 |tup (es:List E)|lst (es:List E)|dnew
 |bin (op:Bop) (a b:E)|neg (a:E)|not (a:E)|and (a b:E)|or (a b:E)|ite (t a b:E)
 |cmp (op:Cop) (a b:E)|chain (o p:Cop) (a b d:E)
 |ix (a i:E)|sl (a:E) (lo hi:Option E)|rev (a:E)
 |call (f:Nat) (as:List E)|blt (f:Bf) (as:List E)|mt (m:Mf) (o:E) (as:List E)
 |isi (a:E) (ts:List Ty)
 |inT (a:E) (tab:List (Int×Int))|getT (tab:List (Int×Int)) (a:E)
 |dput1 (k v:E)
 |comp1 (cap:List Nat) (nl:Nat) (t:List Nat) (it:W) (ifs:List E) (elt:E)
 |comp2 (cap:List Nat) (nl:Nat) (t:List Nat) (it:W) (ifs:List E) (u:List Nat) (jt:W) (jfs:List E) (elt:E)
 |fi (e:E)
 |refu (w:Bool) (e:E)
 |dix (a:E) (k:Bool)
 |callF (f:Nat) (as:List E)
inductive W where
 |of (e:E)|rng1 (a:E)|rng2 (a b:E)|zip (a b:E)|enum (a:E)|rrng (a b:E)|rtup (a:E)|dk (e:E)
end
inductive Sm where
 |asg (t:List Nat) (e:E)|par (t:List Nat) (es:List E)|aug (i:Nat) (op:Bop) (e:E)|put (o i e:E)|dput (o i e:E)
 |ret (e:E)|ex (e:E)|ite (t:E) (a b:List Sm)|forr (t:List Nat) (it:W) (b:List Sm)|whl (t:E) (b:List Sm)
 |raise (c:Nat) (as:List E)|pas|brk|cnt
 |mov (i j:Nat)
 |dset (i:Nat) (e:E)|cel (i f:Nat) (as:List E) (b:List Sm)
 |retO (i:Nat)
 |dnw (i:Nat) (k:E)|forF (t:List Nat) (e:E) (b:List Sm)
 |lnw (i:Nat) (es:List E)|cat (i:Nat) (es:List E)|app (i:Nat) (e:E)
noncomputable def b2i(b:Bool):Int:=if b then 1 else 0
noncomputable def Zi:Nat:=6
noncomputable def ixN(n:Nat)(i:Int):Option Nat:=if 0<=i then(if i<n then aa i.toNat else ae)else if -(n:Int)<=i then aa (i+n).toNat else ae
noncomputable def at'{B:Type}(xs:List B)(i:Int):Option B:=(ixN xs.length i).bind λj=>xs[j]?
noncomputable def sIx(n d:Nat):Option Int->Nat
 |none=>d
 |some i=>if i<0 then(i+n).toNat else pj i.toNat n
noncomputable def fits(i:Int):Bool:=ag<|i.natAbs<2^8000
noncomputable def big:Int:=2^8000
def wx(h:b<1073741824):b<big:=Int.lt_trans h (by decide +kernel)
noncomputable def ltI:List Int->List Int->Bool
 |[],[]=>ak
 |[],_::_=>aj
 |_::_,[]=>ak
 |a::x,b::y=>if a=b then ltI x y else ag (a<b)
noncomputable def Y0(x:List Int):List (List Int)->List (List Int)
 |[]=>[x]
 |y::r=>if ltI x y then x::y::r else y::Y0 x r
noncomputable def ZK:List (List Int)->List (List Int)
 |[]=>[]
 |x::r=>Y0 x<|ZK r
noncomputable def XX{B:Type}(lt:B->B->Bool)(x:B):List B->List B
 |[]=>[x]
 |y::r=>if lt x y then x::y::r else y::XX lt x r
noncomputable def Zr{B:Type}(lt:B->B->Bool):List B->List B
 |[]=>[]
 |x::r=>XX lt x<|Zr lt r
noncomputable def ltP:List (List Int)->List (List Int)->Bool
 |[],[]=>ak
 |[],_::_=>aj
 |_::_,[]=>ak
 |a::x,b::y=>if a=b then ltP x y else ltI a b
noncomputable def ZdD(is:List Int):Bool:=ag (is.length<=1000)&&is.all λi=>ag<|-1099511627776<=i/\i<=1099511627776
noncomputable def Z9(rs:List (List Int)):Bool:=ag (rs.length<=100000)&&decide rs.Nodup&&rs.all λr=>!r.isEmpty
noncomputable def ZF(ps:List (List<|List Int)):Bool:=ag (ps.length<=100000)&&decide ps.Nodup&&(ag (ps.length<=1)||ps.all λP=>!P.isEmpty)
noncomputable def Zce(ks:List (List Int)):Bool:=ag (ks.length<=lim)&&decide ks.Nodup
noncomputable def small(i:Int):Bool:=ag<|-(2^62)<=i/\i<2^62
noncomputable def few(i:Int):Bool:=ag<|0<=i/\i<=1000
noncomputable def qc:Nat:=1000
noncomputable def ZcA:List bE:=["row","part","number","heads","not beside","not in","turn","lot","many","note"]
noncomputable def spcs:List (Nat×Nat):=[(2,1),(2,2),(2,3),(2,4),(3,1),(3,2),(3,3),(5,1),(5,2),(2,5),(2,6),(3,4),(5,3)]
noncomputable def ZaY(rs:List (List Int)):Bool:=Z9 rs&&(ag (rs.length<=300)&&spcs.any λq=>rs.all λr=>ag (r.length=q.2)&&r.all λa=>ag<|0<=a/\a<(q.1:Int))
noncomputable def yh(P:List (List Int)):Int:=nS<|gN<|P.map λr=>nS<|gN<|r.map PySem.hashInt
noncomputable def YO(ps:List (List<|List Int)):Bool:=ZF ps&&(ag (ps.length<=1399)&&ag (ps.map yh).Nodup)
structure Fn where
 ps:Nat
 ns:Nat
 body:List Sm
end Ev
namespace Pv
open Ev
open PySem (Str)
noncomputable abbrev DS:=Int×Bool
inductive PR(B:Type) where
 |ok (a:B) (s:DS)|ex (c:Nat) (s:DS)|no
noncomputable def PR.bind{B β:Type}(r:PR B)(f:B->DS->PR β):PR β:=match r with
 |.ok a s=>f a s
 |.ex c s=>.ex c s
 |.no=>.no
noncomputable def PR.nox{B:Type}(r:PR B):PR B:=match r with
 |.ex _ _=>.no
 |r=>r
noncomputable def po{B:Type}(o:Option B)(s:DS):PR B:=match o with
 |some a=>.ok a s
 |none=>.no
abbrev Env:=List<|Option V
mutual
noncomputable def V.flat:V->Bool
 |.tup xs=>ZU xs
 |.lst _=>ak
 |.drw=>ak
 |.dct _=>ak
 |.dow _=>ak
 |_=>aj
noncomputable def ZU:List V->Bool
 |[]=>aj
 |x::xs=>x.flat&&ZU xs
end
mutual
noncomputable def ofD:V->Option V
 |.non=>aa .non
 |.bl b=>aa<|.bl b
 |.int i=>aa<|.int i
 |.str x=>aa<|.str x
 |.tup xs=>(Zdt xs).map .tup
 |_=>ae
noncomputable def Zdt:List V->Option (List V)
 |[]=>aa []
 |x::xs=>match ofD x,Zdt xs with
  |some a,aa b=>aa (a::b)
  |_,_=>ae
end
noncomputable def Zm:V->Option Bool
 |.non=>aa ak
 |.bl b=>aa b
 |.int i=>aa<|ag<|i≠0
 |.tup xs=>aa<|!xs.isEmpty
 |.lst xs=>aa<|!xs.isEmpty
 |_=>ae
noncomputable def Ye(f:V->V->Option Bool):List V->List V->Option Bool
 |[],[]=>aa aj
 |x::xs,y::ys=>match f x y,Ye f xs ys with
  |some a,aa b=>aa<|a&&b
  |_,_=>ae
 |_,_=>aa ak
noncomputable def eqV:Nat->V->V->Option Bool
 |0,_,_=>ae
 |k+1,x,y=>match x with
  |.non=>match y with
   |.non=>aa aj
   |.bl _|.int _|.str _=>aa ak
   |_=>ae
  |.bl a=>match y with
   |.bl b=>aa<|ag<|a=b
   |.int b=>aa<|ag<|b2i a=b
   |.non|.str _=>aa ak
   |_=>ae
  |.int a=>match y with
   |.int b=>aa<|ag<|a=b
   |.bl b=>aa<|ag<|a=b2i b
   |.non|.str _=>aa ak
   |_=>ae
  |.str a=>match y with
   |.str b=>aa<|ag<|a=b
   |.non|.bl _|.int _=>aa ak
   |_=>ae
  |.tup xs=>match y with
   |.tup ys=>Ye (eqV k) xs ys
   |_=>ae
  |.lst xs=>match y with
   |.lst ys=>if xs.length=ys.length then Ye (eqV k) xs ys else aa ak
   |_=>ae
  |_=>ae
noncomputable def YR(x:V):List V->Option Bool
 |[]=>aa ak
 |y::ys=>match eqV Zi y x,YR x ys with
  |some a,aa b=>aa (a||b)
  |_,_=>ae
noncomputable def xK(x:V)(xs:List V):Option Nat:=if YR x xs=aa aj then xs.findIdx? λy=>eqV Zi y x == aa aj else ae
noncomputable def Wo:V->Ty->Option Bool
 |.non,_=>aa ak
 |.bl _,t=>aa<|ag<|t=.bool\/t=.int
 |.int _,t=>aa<|ag<|t=.int
 |.str _,t=>aa<|ag<|t=.str
 |.tup _,t=>aa<|ag<|t=.tuple
 |.lst _,t=>aa<|ag<|t=.list
 |.dct ae,t=>aa<|ag<|t=.dict
 |_,_=>ae
noncomputable def YE(x:V):List Ty->Option Bool
 |[]=>aa ak
 |t::ts=>match Wo x t with
  |some aj=>aa aj
  |some ak=>YE x ts
  |none=>ae
noncomputable def Yu(xs:List V)(lo hi:Option Int):List V:=(xs.drop<|sIx xs.length 0 lo).take<|sIx xs.length xs.length hi-sIx xs.length 0 lo
noncomputable def Ve(op:Bop)(a b:Int)(s:DS):PR V:=match op with
 |.add=>.ok (.int<|a+b) s
 |.sub=>.ok (.int<|a-b) s
 |.mul=>if(fits a&&fits b)=aj then .ok (.int<|a*b) s else .no
 |.fdiv=>if 0<b/\b<Ev.big then .ok (.int<|a / b) s else .no
 |.mod=>if 0<b then .ok (.int<|a%b) s else .no
 |.pow=>if 0<=b/\b<=1000/\a.natAbs<2^64 then .ok (.int<|a^b.toNat) s else .no
noncomputable def Yy(op:Bop)(x y:V)(s:DS):PR V:=match x with
 |.int a=>match y with
  |.int b=>Ve op a b s
  |_=>.no
 |.tup a=>match y with
  |.tup b=>match op with
   |.add=>if a.length+b.length<=lim then .ok (.tup<|a++b) s else .no
   |_=>.no
  |.int b=>match op with
   |.mul=>if 0<=b/\b<1000/\a.length<=1000 then .ok (.tup (aP b.toNat a).flatten) s else .no
   |_=>.no
  |_=>.no
 |.lst a=>match y with
  |.lst b=>match op with
   |.add=>if a.length+b.length<=lim then .ok (.lst<|a++b) s else .no
   |_=>.no
  |.int b=>match op with
   |.mul=>if 0<=b/\b<1000/\a.length<=1000 then .ok (.lst (aP b.toNat a).flatten) s else .no
   |_=>.no
  |_=>.no
 |_=>.no
noncomputable def Zdo(op:Bop)(x y:V)(s:DS):PR V:=match x,y with
 |.int _,.int _=>Yy op x y s
 |_,_=>.no
noncomputable def intsV:List V->Option (List Int)
 |[]=>aa []
 |.int i::r=>(intsV r).map (i :: ·)
 |_::_=>ae
noncomputable def W2(x y:V):Option Bool:=match y with
 |.tup ys=>YR x ys
 |.lst ys=>YR x ys
 |.dct (aa ks)=>match x with
  |.tup k=>(intsV k).map λk=>ks.contains k
  |_=>ae
 |.dow ks=>match x with
  |.tup k=>(intsV k).map λk=>ks.contains k
  |_=>ae
 |_=>ae
noncomputable def W5:V->Bool
 |.non=>aj
 |_=>ak
noncomputable def Zh(r:List Int):V:=.tup<|r.map .int
noncomputable def ZL:List V->Option (List<|List Int)
 |[]=>aa []
 |.tup x::r=>match intsV x,ZL r with
  |some a,aa b=>aa (a::b)
  |_,_=>ae
 |_::_=>ae
noncomputable def int2(x y:V):Option (Int×Int):=match x with
 |.int a=>match y with
  |.int b=>aa (a,b)
  |_=>ae
 |_=>ae
noncomputable def isV(x y:V):Option Bool:=match y with
 |.non=>aa<|W5 x
 |.bl b=>match x with
  |.bl a=>aa<|ag<|a=b
  |_=>ae
 |_=>ae
noncomputable def Yk(op:Cop)(x y:V):Option V:=match op with
 |.eq=>(eqV Zi x y).map .bl
 |.ne=>(eqV Zi x y).map λb=>.bl !b
 |.lt=>match x with
  |.tup a=>match y with
   |.tup b=>(ZL a).bind λP=>(ZL b).map λQ=>.bl<|ltP P Q
   |_=>ae
  |x=>(int2 x y).map λz=>.bl<|ag<|z.1<z.2
 |.gt=>(int2 x y).map λz=>.bl<|ag<|z.2<z.1
 |.le=>(int2 x y).map λz=>.bl<|ag<|z.1<=z.2
 |.ge=>(int2 x y).map λz=>.bl<|ag<|z.2<=z.1
 |.is=>(isV x y).map .bl
 |.isn=>(isV x y).map λb=>.bl !b
 |.inn=>(W2 x y).map .bl
 |.nin=>(W2 x y).map λb=>.bl !b
noncomputable def ixV(x y:V):Option V:=match x,y with
 |.tup xs,.int i=>at' xs i
 |.lst xs,.int i=>at' xs i
 |.scr xs,.int i=>(at' xs i).map .int
 |_,_=>ae
noncomputable def slV(x:V)(lo hi:Option Int):Option V:=match x with
 |.tup xs=>aa<|.tup<|Yu xs lo hi
 |.lst xs=>aa<|.lst<|Yu xs lo hi
 |_=>ae
noncomputable def Zer:V->Option V
 |.tup xs=>aa<|.tup xs.reverse
 |_=>ae
noncomputable def Vr:V->Option Bool
 |.non=>aa ak
 |.bl b=>aa b
 |.int i=>aa<|ag<|i≠0
 |_=>ae
noncomputable def Z0:List V->Option (List Bool)
 |[]=>aa []
 |x::xs=>match Vr x,Z0 xs with
  |some b,aa bs=>aa (b::bs)
  |_,_=>ae
noncomputable def Zb(P:List (List Int)):V:=.tup<|P.map Zh
noncomputable def GL:V->Option (List<|List Int)
 |.tup ks=>ZL ks
 |_=>ae
noncomputable def ZX:List V->Option (List<|List<|List Int)
 |[]=>aa []
 |x::r=>match GL x,ZX r with
  |some a,aa b=>aa (a::b)
  |_,_=>ae
noncomputable def ju:List V->Bool
 |.tup (.int _::_)::_=>aj
 |_=>ak
noncomputable def YF:V->Option (List V)
 |.tup xs=>aa xs
 |.lst xs=>aa xs
 |.scr ns=>aa<|ns.map .int
 |_=>ae
noncomputable def ZdK:V->Option (List V)
 |.dct (aa ks)=>aa<|ks.map Zh
 |_=>ae
noncomputable def ZR(lo:Int)(n:Nat):List V:=(aA n).map λ(k:Nat)=>.int<|lo+(k:Int)
noncomputable def ZdX:V->Option (List Int)
 |.tup [.tup k,.bl b]=>if b=aj then intsV k else ae
 |_=>ae
noncomputable def wX:List V->Option (List<|List Int)
 |[]=>aa []
 |v::r=>(ZdX v).bind λa=>(wX r).map (a :: ·)
noncomputable def uX:List V->Option (List Nat)
 |[]=>aa []
 |.int i::r=>if 0<=i/\i<6 then(uX r).map (i.toNat :: ·)else ae
 |_=>ae
noncomputable def blt1(f:Bf)(x:V):Option V:=match f with
 |.len=>(YF x).map λxs=>.int xs.length
 |.toInt=>match x with
  |.int a=>aa<|.int a
  |.bl b=>aa<|.int<|b2i b
  |_=>ae
 |.tuple=>(YF x).map .tup
 |.list=>(YF x).map .lst
 |.all=>match x with
  |.lst xs=>(Z0 xs).map λbs=>.bl<|bs.all id
  |_=>ae
 |.any=>(YF x).bind λxs=>(Z0 xs).map λbs=>.bl<|bs.any id
 |.sum=>match x with
  |.lst xs=>(intsV xs).bind λis=>if ZdD is=aj then aa (.int is.sum)else ae
  |_=>ae
 |.sorted=>match x with
  |.lst xs=>if ju xs=aj then(ZL xs).bind λrs=>if Z9 rs=aj then aa (.lst<|(ZK rs).map Zh)else ae else(ZX xs).bind λps=>if ZF ps=aj then aa (.lst<|(Zr ltP ps).map Zb)else ae
  |_=>ae
 |.sortedR=>match x with
  |.lst xs=>(ZL xs).bind λrs=>if Z9 rs=aj then aa (.lst<|(ZK rs).reverse.map Zh)else ae
  |_=>ae
 |.rangeT=>match x with
  |.int i=>if few i then aa (.tup<|ZR 0 i.toNat)else ae
  |_=>ae
 |.rangeL=>match x with
  |.int i=>if few i then aa (.lst<|ZR 0 i.toNat)else ae
  |_=>ae
 |.listD=>match x with
  |.dow ks=>aa<|.lst<|ks.map Zh
  |_=>ae
 |.sortedD=>match x with
  |.dow ks=>if Z9 ks=aj then aa (.lst<|(ZK ks).map Zh)else ae
  |_=>ae
 |.sortedS=>match x with
  |.lst xs=>(uX xs).map λks=>.lst (((aA 6).filter ks.contains).map λk:Nat=>.int k)
  |_=>ae
 |.sortedU=>match x with
  |.lst xs=>(ZX xs).bind λps=>if YO ps=aj then aa (.lst<|(Zr ltP ps).map Zb)else ae
  |_=>ae
 |.sortedT=>match x with
  |.lst xs=>(ZL xs).bind λrs=>if ZaY rs=aj then aa (.lst<|(ZK rs).map Zh)else ae
  |_=>ae
 |.dictP=>match x with
  |.lst xs=>(wX xs).bind λks=>if Zce ks=aj then aa (.dct<|aa ks)else ae
  |_=>ae
 |_=>ae
noncomputable def blt2(f:Bf)(x y:V):Option V:=match x,y with
 |.lst xs,y=>match f with
  |.index=>(xK y xs).map λj:Nat=>.int j
  |_=>ae
 |.int a,.int b=>match f with
  |.max2=>aa<|.int (if b>a then b else a)
  |.min2=>aa<|.int (if b<a then b else a)
  |_=>ae
 |_,_=>ae
noncomputable def Xb(f:Bf)(as:List V):Option V:=match as with
 |[x]=>blt1 f x
 |[x,y]=>blt2 f x y
 |_=>ae
noncomputable def YA:List Nat->List V->Env->Option Env
 |[],[],O=>aa O
 |i::t,x::xs,O=>YA t xs<|O.set i<|aa x
 |_,_,_=>ae
noncomputable def uE:V->Option (List V)
 |.tup xs=>aa xs
 |.lst xs=>aa xs
 |_=>ae
noncomputable def Zl(t:List Nat)(x:V)(O:Env):Option Env:=match t with
 |[i]=>aa<|O.set i<|aa x
 |t=>match uE x with
  |some xs=>YA t xs O
  |none=>ae
abbrev ZE:=Nat->List V->DS->PR V
noncomputable def ZY(cap:List Nat)(nl:Nat)(O:Env):Env:=aP nl ae++cap.map λi=>(O[i]?).join
noncomputable def mapP(f:V->DS->PR (List V)):List V->DS->PR (List V)
 |[],s=>.ok [] s
 |x::xs,s=>match f x s with
  |.ok ys s=>match mapP f xs s with
   |.ok zs s=>.ok (ys++zs) s
   |_=>.no
  |_=>.no
noncomputable def Zem(w:Bool)(c:Nat):V:=if w then .str (ZcA.getD c "")else .int c
noncomputable def own(nl:Nat)(t:List Nat):Bool:=t.all λi=>ag<|i<nl
noncomputable def own2(nl:Nat)(t u:List Nat):Bool:=own nl t&&u.all λi=>ag (i<nl) && !t.contains i
mutual
noncomputable def pv(C:ZE):E->Env->DS->PR V
 |.c d,_,s=>po (ofD d) s
 |.v i,O,s=>po (O[i]?).join s
 |.tup es,O,s=>(pvs C es O s).bind λxs s=>if xs.length<=lim then .ok (.tup xs) s else .no
 |.lst es,O,s=>(pvs C es O s).bind λxs s=>if xs.length<=lim then .ok (.lst xs) s else .no
 |.dnew,_,s=>.ok (.dct ae) s
 |.dput1 k v,O,s=>(pv C k O s).bind λx s=>(pv C v O s).bind λy s=>match x,y with
  |.int _,.int _=>.ok (.dct ae) s
  |_,_=>.no
 |.bin op a b,O,s=>(pv C a O s).bind λx s=>(pv C b O s).bind λy s=>Yy op x y s
 |.neg a,O,s=>(pv C a O s).bind λx s=>match x with
  |.int i=>.ok (.int<|-i) s
  |_=>.no
 |.not a,O,s=>(pv C a O s).bind λx s=>(po (Zm x) s).bind λb s=>.ok (.bl !b) s
 |.and a b,O,s=>(pv C a O s).bind λx s=>match x with
  |.bl c=>if c then pv C b O s else .ok (.bl ak) s
  |_=>.no
 |.or a b,O,s=>(pv C a O s).bind λx s=>match x with
  |.bl c=>if c then .ok (.bl aj) s else pv C b O s
  |_=>.no
 |.ite t a b,O,s=>(pv C t O s).bind λx s=>(po (Zm x) s).bind λc s=>if c then pv C a O s else pv C b O s
 |.cmp op a b,O,s=>(pv C a O s).bind λx s=>(pv C b O s).bind λy s=>po (Yk op x y) s
 |.chain o p a b d,O,s=>(pv C a O s).bind λx s=>(pv C b O s).bind λy s=>(po (Yk o x y) s).bind λz s=>match z with
  |.bl c=>if c then(pv C d O s).bind λw s=>po (Yk p y w) s else .ok (.bl ak) s
  |_=>.no
 |.ix a i,O,s=>(pv C a O s).bind λx s=>(pv C i O s).bind λy s=>po (ixV x y) s
 |.sl a lo hi,O,s=>(pv C a O s).bind λx s=>(pvo C lo O s).bind λl s=>(pvo C hi O s).bind λh s=>po (slV x l h) s
 |.rev a,O,s=>(pv C a O s).bind λx s=>po (Zer x) s
 |.call f as,O,s=>(pvs C as O s).bind λxs s=>C f xs s
 |.blt f as,O,s=>(pvs C as O s).bind λxs s=>po (Xb f xs) s
 |.mt _ _ _,_,_=>.no
 |.isi a ts,O,s=>(pv C a O s).bind λx s=>(po (YE x ts) s).bind λb s=>.ok (.bl b) s
 |.inT a tab,O,s=>(pv C a O s).bind λx s=>match x with
  |.int i=>.ok (.bl ((tab.map (·.1)).contains i)) s
  |_=>.no
 |.getT tab a,O,s=>(pv C a O s).bind λx s=>match x with
  |.int i=>(po (tab.lookup i) s).bind λj s=>.ok (.int j) s
  |_=>.no
 |.comp1 cap nl t it ifs elt,O,s=>if own nl t=aj then(pvw C it O s).bind λw s=>
   ((mapP (λx s=>(po (Zl t x<|ZY cap nl O) s).bind λU s=>(pvt C ifs U s).bind λb s=>if b then(pv C elt U s).bind λy s=>.ok [y] s else .ok [] s) w s).bind
    λys s=>if ys.length<=lim then .ok (.lst ys) s else .no).nox
  else .no
 |.comp2 cap nl t it ifs u jt jfs elt,O,s=>if own2 nl t u=aj then(pvw C it O s).bind λw s=>
   ((mapP (λx s=>(po (Zl t x<|ZY cap nl O) s).bind λU s=>(pvt C ifs U s).bind λb s=>if b then
    (pvw C jt U s).bind λw2 s=>mapP (λx s=>(po (Zl u x U) s).bind λU s=>(pvt C jfs U s).bind λb s=>if b then(pv C elt U s).bind λy s=>.ok [y] s else .ok [] s) w2 s
    else .ok [] s) w s).bind
    λys s=>if ys.length<=lim then .ok (.lst ys) s else .no).nox
  else .no
 |.fi a,O,s=>(pv C a O s).bind λx s=>match x with
  |.int i=>if small i=aj then .ok (.int i) s else .no
  |_=>.no
 |.refu w e,O,s=>match pv C e O s with
  |.ok _ s=>.ok .non s
  |.ex c s=>if 1<=c/\c<=10 then .ok (Zem w<|c-1) s else .no
  |.no=>.no
 |.dix a k,O,s=>(pv C a O s).bind λx s=>match x with
  |.drw=>.ok (if k then .bl s.2 else .int s.1) s
  |_=>.no
 |.callF f as,O,s=>(pvs C as O s).bind λxs s=>C f xs s
noncomputable def pvs(C:ZE):List E->Env->DS->PR (List V)
 |[],_,s=>.ok [] s
 |e::es,O,s=>(pv C e O s).bind λx s=>(pvs C es O s).bind λxs s=>.ok (x::xs) s
noncomputable def pvo(C:ZE):Option E->Env->DS->PR (Option Int)
 |none,_,s=>.ok ae s
 |some e,O,s=>(pv C e O s).bind λx s=>match x with
  |.int i=>.ok (aa i) s
  |_=>.no
noncomputable def pvt(C:ZE):List E->Env->DS->PR Bool
 |[],_,s=>.ok aj s
 |e::es,O,s=>(pv C e O s).bind λx s=>(po (Zm x) s).bind λb s=>if b then pvt C es O s else .ok ak s
noncomputable def pvw(C:ZE):W->Env->DS->PR (List V)
 |.rng1 a,O,s=>(pv C a O s).bind λx s=>match x with
  |.int i=>if small i then .ok (ZR 0 i.toNat) s else .no
  |_=>.no
 |.rng2 a b,O,s=>(pv C a O s).bind λx s=>(pv C b O s).bind λy s=>match x,y with
  |.int i,.int j=>if(small i&&small j)=aj then .ok (ZR i (j-i).toNat) s else .no
  |_,_=>.no
 |.rrng a b,O,s=>(pv C a O s).bind λx s=>(pv C b O s).bind λy s=>match x,y with
  |.int i,.int j=>if(small i&&small j)=aj then .ok (ZR i (j-i).toNat).reverse s else .no
  |_,_=>.no
 |.rtup a,O,s=>(pv C a O s).bind λx s=>match x with
  |.tup xs=>.ok xs.reverse s
  |_=>.no
 |.zip a b,O,s=>(pv C a O s).bind λx s=>(pv C b O s).bind λy s=>match YF x,YF y with
  |some v,aa w=>.ok ((v.zip w).map λp=>.tup [p.1,p.2]) s
  |_,_=>.no
 |.enum a,O,s=>(pv C a O s).bind λx s=>match YF x with
  |some w=>.ok (((ZR 0 w.length).zip w).map λp=>.tup [p.1,p.2]) s
  |none=>.no
 |.of e,O,s=>(pv C e O s).bind λx s=>po (YF x) s
 |.dk e,O,s=>(pv C e O s).bind λx s=>po (ZdK x) s
end
inductive FlV where|nx (O:Env) (os:List Nat)|ret (v:V)|brk (O:Env) (os:List Nat)|cnt (O:Env) (os:List Nat)
noncomputable def hide(os:List Nat)(O:Env):Env:=O.mapIdx λi o=>if os.contains i then ae else o
noncomputable def fresh:E->Bool
 |.lst _=>aj
 |.comp1 .. => aj
 |.comp2 .. => aj
 |.bin .mul (.lst _) _=>aj
 |.blt .list _=>aj
 |.blt .sorted _=>aj
 |.blt .rangeL _=>aj
 |.blt .listD _=>aj
 |.blt .sortedD _=>aj
 |.blt .sortedS _=>aj
 |.blt .sortedT _=>aj
 |.blt .sortedU _=>aj
 |.callF _ _=>aj
 |_=>ak
noncomputable def yC:V->Bool
 |.lst xs=>ZU xs
 |_=>ak
noncomputable def pvA(C:ZE)(e:E)(O:Env)(os:List Nat)(s:DS):PR V:=match os with
 |[]=>pv C e O s
 |os=>match pv C e (hide os O) s with
  |.ok v s=>.ok v s
  |.ex c s=>.ex c s
  |.no=>(pv C e O s).bind λv s=>if(v.flat||fresh e&&yC v)=aj then .ok v s else .no
noncomputable def ZeF(C:ZE)(es:List E)(O:Env)(os:List Nat)(s:DS):PR (List V):=match os with
 |[]=>pvs C es O s
 |os=>match pvs C es (hide os O) s with
  |.ok v s=>.ok v s
  |.ex c s=>.ex c s
  |.no=>(pvs C es O s).bind λv s=>if ZU v then .ok v s else .no
noncomputable def XC(C:ZE)(e:E)(O:Env)(s:DS):PR Bool:=(pv C e O s).bind λx s=>po (Zm x) s
noncomputable def XR(body:V->Env->List Nat->DS->PR FlV):List V->Env->List Nat->DS->PR FlV
 |[],O,os,s=>.ok (.nx O os) s
 |x::xs,O,os,s=>(body x O os s).bind λf s=>match f with
  |.nx O os=>XR body xs O os s
  |.cnt O os=>XR body xs O os s
  |.brk O os=>.ok (.nx O os) s
  |.ret v=>.ok (.ret v) s
noncomputable def GZ(test:Env->DS->PR Bool)(body:Env->List Nat->DS->PR FlV):Nat->Env->List Nat->DS->PR FlV
 |0,_,_,_=>.no
 |n+1,O,os,s=>(test O s).bind λb s=>if b then(body O os s).bind λf s=>match f with
  |.nx O os=>GZ test body n O os s
  |.cnt O os=>GZ test body n O os s
  |.brk O os=>.ok (.nx O os) s
  |.ret v=>.ok (.ret v) s
  else .ok (.nx O os) s
noncomputable def okS(x:Int)(b:Bool):Bool:=ag (0<=x)&&(b||decide (x<2147483647))
noncomputable def VT:V->Option DS
 |.lst [.int a,.bl b]=>if okS a b=aj then aa (a,b)else ae
 |_=>ae
noncomputable def WZ(o:Option V):Option V:=o.filter V.flat
noncomputable def X3(i:Nat)(O:Env):Env:=(O.take i).map WZ++aP (O.length-i) ae
noncomputable def ZdJ:Option (Option V)->Option (List<|List Int)
 |some (aa<|.dow ks)=>aa ks
 |_=>ae
noncomputable def ZdC(ks:List (List Int))(k:List Int):List (List Int):=if ks.contains k then ks else ks++[k]
noncomputable def Zde:V->Option (List Int)
 |.tup k=>intsV k
 |_=>ae
noncomputable def isT:V->Bool
 |.bl aj=>aj
 |_=>ak
noncomputable def XM:Option (Option V)->Option (List V)
 |some (aa<|.lst xs)=>aa xs
 |_=>ae
mutual
noncomputable def rv(C:ZE)(ms:List Nat):Sm->Env->List Nat->DS->PR FlV
 |.asg [i] e,O,os,s=>(pvA C e O os s).bind λv s=>if(ms.contains i&&fresh e)=aj then match v with
   |.lst xs=>if ZU xs=aj/\i<O.length then .ok (.nx (O.set i<|aa v) (i::os.filter (· != i))) s else .no
   |_=>.no
  else .ok (.nx (O.set i<|aa v) (os.filter (· != i))) s
 |.asg t e,O,os,s=>(pvA C e O os s).bind λv s=>if(t.any os.contains)=aj then .no else(po (Zl t v O) s).bind λO s=>.ok (.nx O os) s
 |.par t es,O,os,s=>(ZeF C es O os s).bind λvs s=>if(t.any os.contains)=aj then .no else(po (YA t vs O) s).bind λO s=>.ok (.nx O os) s
 |.aug i op e,O,os,s=>if os.contains i then .no else(po (O[i]?).join s).bind λx s=>(pv C e O s).bind λy s=>(Zdo op x y s).bind λz s=>.ok (.nx (O.set i<|aa z) os) s
 |.put (.v i) k e,O,os,s=>if os.contains i then(pv C e O s).bind λv s=>if v.flat then(po (XM O[i]?) s).bind λxs s=>(pv C k O s).bind λy s=>match y with
   |.int n=>(po (ixN xs.length n) s).bind λj s=>.ok (.nx (O.set i<|aa<|.lst<|xs.set j v) os) s
   |_=>.no
  else .no else .no
 |.put _ _ _,_,_,_=>.no
 |.dput (.v i) k e,O,os,s=>if os.contains i then(pv C e O s).bind λv s=>if isT v=aj then(po (ZdJ O[i]?) s).bind λks s=>(pv C k O s).bind λy s=>(po (Zde y) s).bind λr s=>if ks.length<lim then .ok (.nx (O.set i<|aa<|.dow<|ZdC ks r) os) s else .no
  else .no else .no
 |.dput _ _ _,_,_,_=>.no
 |.ret e,O,os,s=>(pv C e O s).bind λv s=>.ok (.ret v) s
 |.ex (.mt .append (.v i) [e]),O,os,s=>if os.contains i then(po (XM O[i]?) s).bind λxs s=>(pv C e O s).bind λv s=>if v.flat=aj/\xs.length<lim then .ok (.nx (O.set i<|aa<|.lst<|xs++[v]) os) s else .no else .no
 |.ex (.mt .extend (.v i) [e]),O,os,s=>if os.contains i then(po (XM O[i]?) s).bind λxs s=>(pv C e (hide os O) s).bind λv s=>match v with
   |.lst ys=>if ZU ys=aj/\xs.length+ys.length<=lim then .ok (.nx (O.set i<|aa<|.lst<|xs++ys) os) s else .no
   |_=>.no
  else .no
 |.ex e,O,os,s=>(pv C e O s).bind λ_ s=>.ok (.nx O os) s
 |.ite t a b,O,os,s=>(XC C t O s).bind λc s=>if c then rvs C ms a O os s else rvs C ms b O os s
 |.forr t it b,O,os,s=>(pvw C it (hide os O) s).bind λw s=>XR (λx O os s=>if(t.any os.contains)=aj then .no else(po (Zl t x O) s).bind λO s=>rvs C ms b O os s) w O os s
 |.whl t b,O,os,s=>GZ (XC C t) (rvs C ms b) qc O os s
 |.raise c as,O,os,s=>(pvs C as O s).bind λ_ s=>.ex c s
 |.pas,O,os,s=>.ok (.nx O os) s
 |.brk,O,os,s=>.ok (.brk O os) s
 |.cnt,O,os,s=>.ok (.cnt O os) s
 |.mov i j,O,os,s=>if(os.contains j&&(!os.contains i&&ag (i≠j)))=aj then(po (XM O[j]?) s).bind λxs s=>.ok (.nx ((O.set i<|aa<|.lst xs).set j ae) (os.filter (· != j))) s else .no
 |.dset i e,O,os,s=>(pv C e O s).bind λv s=>match v with
  |.int x=>if okS x s.2=aj then match(O[i]?).join with
   |some .drw=>.ok (.nx O os) (x,s.2)
   |_=>.no
   else .no
  |_=>.no
 |.cel i f as b,O,os,s=>if os.isEmpty=aj then(pvs C as O s).bind λxs s=>(C f xs s).bind λv s=>(po (VT v) s).bind λd s=>match rvs C ms b ((X3 i O).set i<|aa .drw) [] d with
  |.ok (.nx O _) _=>.ok (.nx (O.map WZ) []) s
  |.ok (.cnt O _) _=>.ok (.cnt (O.map WZ) []) s
  |.ok (.brk O _) _=>.ok (.brk (O.map WZ) []) s
  |.ok (.ret v) _=>if v.flat=aj then .ok (.ret v) s else .no
  |_=>.no
  else .no
 |.retO i,O,os,s=>if os.contains i then(po (XM O[i]?) s).bind λxs s=>.ok (.ret<|.lst xs) s else .no
 |.dnw i k,O,os,s=>(pv C k O s).bind λy s=>(po (Zde y) s).bind λr s=>if i<O.length then .ok (.nx (O.set i<|aa<|.dow [r]) (i::os.filter (· != i))) s else .no
 |.lnw i es,O,os,s=>(pvs C es (hide os O) s).bind λxs s=>if xs.length<=lim/\i<O.length then .ok (.nx (O.set i<|aa<|.lst xs) (i::os.filter (· != i))) s else .no
 |.cat i es,O,os,s=>if os.contains i then(po (XM O[i]?) s).bind λxs s=>(pvs C es (hide os O) s).bind λys s=>if ys.length<=lim/\xs.length+ys.length<=lim/\i<O.length then .ok (.nx (O.set i<|aa<|.lst<|xs++ys) (i::os.filter (· != i))) s else .no else .no
 |.app i e,O,os,s=>if os.contains i then(po (XM O[i]?) s).bind λxs s=>(pv C e (hide os O) s).bind λv s=>if xs.length<lim then .ok (.nx (O.set i<|aa<|.lst<|xs++[v]) os) s else .no else .no
 |.forF t e b,O,os,s=>(pvA C e O os s).bind λv s=>match v with
  |.lst w=>XR (λx O os s=>if(t.any os.contains)=aj then .no else(po (Zl t x O) s).bind λO s=>rvs C ms b O os s) w O os s
  |_=>.no
noncomputable def rvs(C:ZE)(ms:List Nat):List Sm->Env->List Nat->DS->PR FlV
 |[],O,os,s=>.ok (.nx O os) s
 |m::ss,O,os,s=>(rv C ms m O os s).bind λf s=>match f with
  |.nx O os=>rvs C ms ss O os s
  |f=>.ok f s
end
mutual
noncomputable def yY:Sm->List Nat
 |.put (.v i) _ _=>[i]
 |.ex (.mt .append (.v i) _)=>[i]
 |.ex (.mt .extend (.v i) _)=>[i]
 |.ite _ a b=>muts a++muts b
 |.forr _ _ b=>muts b
 |.whl _ b=>muts b
 |.cel _ _ _ b=>muts b
 |.retO i=>[i]
 |.dput (.v i) _ _=>[i]
 |.forF _ _ b=>muts b
 |_=>[]
noncomputable def muts:List Sm->List Nat
 |[]=>[]
 |m::ss=>yY m++muts ss
end
noncomputable def ZH(n:Nat)(xs:List V):Env:=xs.map aa++aP (n-xs.length) ae
noncomputable def Xm(s:DS)(m:Int):Int×DS:=
 if s.2 then(s.1%m,(s.1 / m,aj))else
  let x:=(s.1*48271+29)%2147483647
  let y:=(x*x+39373*x+7)%2147483629
  let z:=(y*y+16807*y)%2147483587
  (z / 8%m,(x,ak))
noncomputable def Za3(vs:List V)(s:DS):PR V:=match vs with
 |[.drw,.int m]=>if 0<m/\m<1073741824 then .ok (.int (Xm s m).1) (Xm s m).2 else .no
 |_=>.no
noncomputable def Zj(F:List Fn)(tk:Nat):Nat->ZE
 |0,_,_,_=>.no
 |d+1,f,xs,s=>if f=tk then Za3 xs s else match F[f]? with
  |some fn=>if xs.length=fn.ps then(rvs (Zj F tk d) (muts fn.body) fn.body (ZH fn.ns xs) [] s).bind λf s=>match f with
    |.ret v=>.ok v s
    |.nx _ _=>.ok .non s
    |_=>.no
   else .no
  |none=>.no
end Pv
namespace Sd
open PySem PySem.Spec PyProof.Rows L2
open Ev (E Sm Fn Bop Cop Ty Bf Mf)
noncomputable abbrev D:=Pv.V
noncomputable abbrev Zo:=Pv.DS
noncomputable abbrev Lc:=Pv.Env
noncomputable abbrev R:=Pv.PR
noncomputable abbrev Calls:=Pv.ZE
structure Mx where
 K:am
 n0:Option aK
 X:aK->Prop
 xz:∀a,n0=aa a->X a
def Scr(K:am)(H:Hp)(a:aK)(ns:List Int):Prop:=
 (∃o,H a=aa (.frz o<|.lst<|ns.map V.int))\/
  ∃(o:fC)(its:Array al)(n:Nat),K.lookup a=aa o/\o.cls=.type "list"/\o.dict=ae/\o.data=.seq its n/\its.size<=bw/\Vals (ns.map V.int) its.toList
def Scr.sq{K:am}{H:Hp}{a:aK}{ns:List Int}(h:Scr K H a ns):SqL K H a (ns.map V.int):=by
 rcases h with⟨o,h⟩|h
 .exact .inl<|.inr #[o,h]
 .exact .inr h
def Dct(H:Hp)(a:aK):Option (List<|List Int)->Prop
 |none=>∃vs,H a=aa (.dK vs)
 |some ks=>∃o vs,H a=aa (.frz o<|.dT vs)/\vs.map (·.1)=ks.map (·.map dH)
mutual
def Rep(O:Mx)(H:Hp):D->V->Prop
 |.non,v=>v=.non
 |.bl b,v=>v=.bl b
 |.int i,v=>v=.int i
 |.str x,v=>v=.str x
 |.tup ds,v=>∃a xs,v=.ref a/\H a=aa (.tup xs)/\Reps O H ds xs
 |.lst ds,v=>∃a xs,v=.ref a/\H a=aa (.lst xs)/\¬O.X a/\Reps O H ds xs
 |.drw,v=>∃a,v=.ref a/\O.n0=aa a
 |.dct o,v=>∃a,v=.ref a/\Dct H a o
 |.scr ns,v=>∃a,v=.ref a/\Scr O.K H a ns
 |.dow ks,v=>∃a vs,v=.ref a/\H a=aa (.dT vs)/\¬O.X a/\vs.map (·.1)=ks.map (·.map dH)
def Reps(O:Mx)(H:Hp):List D->List V->Prop
 |[],xs=>xs=[]
 |d::ds,xs=>∃v vs,xs=v::vs/\Rep O H d v/\Reps O H ds vs
end
structure Fut(O:Mx)(H:Hp)(ρ':Mx)(H':Hp):Prop where
 eq:ρ'=O
 keep:∀a o,H a=aa o->H' a=aa o\/(O.n0=aa a/\∃xs,o=.lst xs)\/((∃ps,o=.tbl ps)/\∃ps,H' a=aa (.tbl ps))
def Fut.refl(O:Mx)(H:Hp):Fut O H O H:=#[rfl,λ_ _ h=>.inl h]
def Fut.trans{O ρ1 ρ2:Mx}{H H1 H2:Hp}(a:Fut O H ρ1 H1)(b:Fut ρ1 H1 ρ2 H2):Fut O H ρ2 H2:=by
 obtain⟨rfl,f⟩:=a;obtain⟨rfl,g⟩:=b;refine#[rfl,λa o h=>(f a o h).elim (λh=>g a o h) λz=>z.elim (λz=>.inr<|.inl z) λ#[e,ps,h]=>?_]
 rcases g a _ h with q|⟨_,xs,q⟩|⟨_,q⟩
 .exact .inr<|.inr #[e,ps,q]
 .cases q
 .exact .inr<|.inr #[e,q]
def Fut.there(f:Fut O H ρ' H')(n:O.n0≠.some a)(h:H a≠ae):H' a≠ae:=by
 obtain⟨o,e⟩:=Option.ne_none_iff_exists'.mp h;rcases f.keep a o e with q|q|⟨_,_,q⟩
 .rw[q];intro z;cases z
 .exact T7 q.1 n
 .rw[q];intro z;cases z
def Fut.new(f:Fut O H ρ' H')(h:H' a=ae)(xd:∀a,O.X a->H' a≠ae):H a=ae:=by
 cases q:H a with
 |none=>rfl
 |some o=>
  rcases f.keep a o q with e|e|⟨_,_,e⟩
  .rw[h]at e;cases e
  .exact T7 h<|xd a<|O.xz a e.1
  .rw[h]at e;cases e
structure Lat(O:Mx)(H:Hp)(ρ':Mx)(H':Hp):Prop where
 K:ρ'.K=O.K
 n0:ρ'.n0=O.n0
 keep':∀a o,H a=aa o->(∀xs,o=.lst xs->¬O.X a)->(∀ps,o≠.tbl ps)->(∀vs,o=.dT vs->¬O.X a)->H' a=aa o
 X:∀a,H a≠ae->ρ'.X a->O.X a
def Lat.keep(f:Lat O H ρ' H')(a:aK)(o:HO)(h:H a=aa o)(x:∀xs,o=.lst xs->¬O.X a)(n:∀ps,o≠.tbl ps:=by intro _ z;cases z)(m:∀vs,o=.dT vs->¬O.X a:=by intro _ z;cases z):H' a=aa o:=f.keep' a o h x n m
mutual
theorem Rep.lat(f:Lat O H ρ' H'):∀{d:D}{v:V},Rep O H d v->Rep ρ' H' d v
 |.non,_,h|.bl _,_,h|.int _,_,h|.str _,_,h=>by exact h
 |.tup ds,v,h=>by
  obtain⟨a,xs,e,t,r⟩:=h;exact#[a,xs,e,f.keep a _ t (λ_ z=>by cases z),r.lat f]
 |.lst ds,v,h=>by
  obtain⟨a,xs,e,t,x,r⟩:=h;exact#[a,xs,e,f.keep a _ t λ_ _=>x,λz=>x (f.X a (by rw[t];intro z;cases z) z),r.lat f]
 |.drw,v,h=>by unfold Rep at h ⊢;rw[f.n0];exact h
 |.dct o,v,h=>by
  obtain⟨a,e,t⟩:=h;refine#[a,e,?_];cases o with|none=>obtain⟨vs,t⟩:=t;exact#[vs,f.keep a _ t λ_ z=>by cases z]|some ks=>obtain⟨o,vs,t,q⟩:=t;exact#[o,vs,f.keep a _ t (λ_ z=>by cases z),q]
 |.scr ns,v,h=>by
  unfold Rep at h ⊢;obtain⟨a,e,t⟩:=h;rw[f.K];refine#[a,e,?_];rcases t with⟨o,t⟩|t
  .exact .inl #[o,f.keep a _ t λ_ z=>by cases z]
  .exact .inr t
 |.dow ks,v,h=>by
  unfold Rep at h ⊢;obtain⟨a,vs,e,t,x,q⟩:=h;exact#[a,vs,e,f.keep a _ t (λ_ z=>by cases z) (by intro _ z;cases z) λ_ _=>x,λz=>x (f.X a (by rw[t];intro z;cases z) z),q]
theorem Reps.lat(f:Lat O H ρ' H'):∀{ds:List D}{xs:List V},Reps O H ds xs->Reps ρ' H' ds xs
 |[],_,h=>by exact h
 |d::ds,xs,h=>by
  obtain⟨v,vs,e,r,rs⟩:=h;exact#[v,vs,e,r.lat f,rs.lat f]
end
noncomputable def Zed:bE:="law.<locals>.<lambda>"
def Tb(H:Hp):Prop:=∀(P:aK)(ps:Array al),H P=aa (.tbl ps)->TriplesOk ps.toList/\∀(pos:iA)(cv:al),codeAmong pos ps.toList=aa cv->
 ∃(c:aK)(oc:fC)(vs:Array al)(t:pL),cv=.ref c/\H c=aa (.frz oc<|.own c)/\oc.data=.fields vs/\vs[1]?=aa (.str Zed t)
theorem Tb.upd(h:Tb H)(hp:∀ob u,H p≠aa (.frz ob u))(ho:∀ps,o≠.tbl ps):Tb (upd H p o):=λP ps e=>by
 by_cases z:P=p
 .subst z;rw[ZI]at e;cases e;exact T7 rfl<|ho ps
 .rw[Zq z]at e
  obtain⟨a,b⟩:=h P ps e;refine#[a,λpos cv q=>?_]
  obtain⟨c,oc,vs,t,e1,e2,e3⟩:=b pos cv q;exact#[c,oc,vs,t,e1,by rw[Zq λz=>hp oc (.own c) (by rw[<-z];exact e2)];exact e2,e3]
structure St3(K:am)(O:Mx)(S:Zo)(H:Hp):Prop where
 hk:O.K=K
 xd:∀a,O.X a->H a≠ae
 dw:∀a,O.n0=aa a->H a=aa (.lst [.int S.1,.bl S.2])/\Pv.okS S.1 S.2=aj
 tb:Tb H
def Fut.lat(f:Fut O H ρ' H'):Lat O H ρ' H':=by
 obtain⟨rfl,f⟩:=f;exact#[rfl,rfl,λa o h x n _=>(f a o h).elim id λz=>z.elim (λz=>T7 (ρ'.xz a z.1) (let #[xs,e]:=z.2;x xs e))<|by rintro ⟨⟨ps,e⟩,_⟩;exact T7 e<|n ps,λ_ _ h=>h]
def Rep.mono(f:Fut O H ρ' H')(h:Rep O H d v):Rep ρ' H' d v:=h.lat f.lat
def Reps.mono(f:Fut O H ρ' H')(h:Reps O H d v):Reps ρ' H' d v:=h.lat f.lat
section
variable{O:Mx}{H:Hp}{v:V}
def Reps.nil:Reps O H [] []:=by rfl
def Reps.cons{d:D}{v:V}{ds:List D}{vs:List V}(r:Rep O H d v)(rs:Reps O H ds vs):Reps O H (d::ds) (v::vs):=by
 exact#[v,vs,rfl,r,rs]
theorem Reps.length:∀{ds:List D}{xs:List V},Reps O H ds xs->xs.length=ds.length
 |[],_,h=>by rw[h];rfl
 |d::ds,xs,h=>by
  obtain⟨v,vs,rfl,_,rs⟩:=h;rw[aE,aE,Reps.length rs]
theorem Reps.append:∀{ds es:List D}{xs ys:List V},Reps O H ds xs->Reps O H es ys->Reps O H (ds++es) (xs++ys)
 |[],_,_,_,h,r=>by rw[h];exact r
 |d::ds,_,_,_,h,r=>by
  obtain⟨v,vs,rfl,a,rs⟩:=h;exact Reps.cons a<|Reps.append rs r
theorem Reps.take:∀{ds:List D}{xs:List V}(k:Nat),Reps O H ds xs->Reps O H (ds.take k) (xs.take k)
 |_,_,0,_=>Reps.nil
 |[],_,k+1,h=>by rw[h];exact Reps.nil
 |d::ds,_,k+1,h=>by
  obtain⟨v,vs,rfl,a,rs⟩:=h;exact Reps.cons a<|Reps.take k rs
theorem Reps.drop:∀{ds:List D}{xs:List V}(k:Nat),Reps O H ds xs->Reps O H (ds.drop k) (xs.drop k)
 |_,_,0,h=>h
 |[],_,k+1,h=>by rw[h];exact Reps.nil
 |d::ds,_,k+1,h=>by
  obtain⟨v,vs,rfl,a,rs⟩:=h;exact Reps.drop k rs
theorem Reps.get:∀{ds:List D}{xs:List V}{i:Nat}{d:D},Reps O H ds xs->ds[i]?=aa d->∃v,xs[i]?=aa v/\Rep O H d v
 |[],_,_,_,_,e=>by simp at e
 |d::ds,_,0,_,h,e=>by
  obtain⟨v,vs,rfl,a,rs⟩:=h;simp at e;subst e;exact#[v,rfl,a]
 |d::ds,_,i+1,_,h,e=>by
  obtain⟨v,vs,rfl,a,rs⟩:=h;obtain⟨u,q,r⟩:=Reps.get rs (by simpa using e)
  exact#[u,by simpa using q,r]
theorem Reps.reverse:∀{ds:List D}{xs:List V},Reps O H ds xs->Reps O H ds.reverse xs.reverse
 |[],_,h=>by rw[h];exact Reps.nil
 |d::ds,_,h=>by
  obtain⟨v,vs,rfl,a,rs⟩:=h;rw[gB,gB];exact Reps.append (Reps.reverse rs)<|Reps.cons a Reps.nil
theorem Reps.rep(h:Reps O H ds xs):∀k:Nat,Reps O H (aP k ds).flatten (aP k xs).flatten
 |0=>Reps.nil
 |k+1=>by
  rw[bF,bF,cO,cO];exact Reps.append h<|Reps.rep h k
theorem Reps.ints:∀ns:List Int,Reps O H (ns.map Pv.V.int) (ns.map V.int)
 |[]=>Reps.nil
 |n::ns=>Reps.cons (by rfl)<|Reps.ints ns
def Rep.int'{i:Int}(h:Rep O H (.int i) v):v=.int i:=by exact h
def Rep.bl'{b:Bool}(h:Rep O H (.bl b) v):v=.bl b:=by exact h
def Rep.non'(h:Rep O H .non v):v=.non:=by exact h
def Rep.str'{x:bE}(h:Rep O H (.str x) v):v=.str x:=by exact h
def Rep.tup'{ds:List D}(h:Rep O H (.tup ds) v):∃a xs,v=.ref a/\H a=aa (.tup xs)/\Reps O H ds xs:=by exact h
def Rep.lst'{ds:List D}(h:Rep O H (.lst ds) v):∃a xs,v=.ref a/\H a=aa (.lst xs)/\¬O.X a/\Reps O H ds xs:=by exact h
def Rep.drw'(h:Rep O H .drw v):∃a,v=.ref a/\O.n0=aa a:=by exact h
def Rep.dct'(h:Rep O H (.dct o) v):∃a,v=.ref a/\Dct H a o:=by exact h
def Rep.scr'(h:Rep O H (.scr ns) v):∃a,v=.ref a/\Scr O.K H a ns:=by exact h
def Rep.dow'{ks:List (List Int)}(h:Rep O H (.dow ks) v):∃a vs,v=.ref a/\H a=aa (.dT vs)/\¬O.X a/\vs.map (·.1)=ks.map (·.map dH):=by unfold Rep at h;exact h
def ZB(i:Int):Rep O H (.int i) (.int i):=by rfl
def Yd(b:Bool):Rep O H (.bl b) (.bl b):=by rfl
def yn:Rep O H .non .non:=by rfl
def Y2(h:H a=aa (.tup xs))(r:Reps O H ds xs):Rep O H (.tup ds) (.ref a):=by exact#[a,xs,rfl,h,r]
def Wx(h:H a=aa (.lst xs))(x:¬O.X a)(r:Reps O H ds xs):Rep O H (.lst ds) (.ref a):=by exact#[a,xs,rfl,h,x,r]
def Rep.seq(h:Rep O H x v)(e:Pv.YF x=aa ds):∃p xs,v=.ref p/\(SqL O.K H p xs\/SqT O.K H p xs)/\Reps O H ds xs:=by
 cases x with|tup es=>cases e;obtain⟨p,xs,rfl,h,r⟩:=h.tup';exact#[p,xs,rfl,.inr<|SqT.of h,r]|lst es=>cases e;obtain⟨p,xs,rfl,h,_,r⟩:=h.lst';exact#[p,xs,rfl,.inl<|SqL.of h,r]|scr ns=>cases e;obtain⟨p,e,q⟩:=h.scr';exact#[p,_,e,.inl q.sq,Reps.ints ns]|_=>cases e
end
structure LocR(O:Mx)(H:Hp)(l:Lc)(U:L2.St):Prop where
 len:l.length=U.length
 val:∀(i:Nat)(d:D),l[i]?=aa (aa d)->∃v,U[i]?=aa (aa v)/\Rep O H d v
theorem LocR.mono(f:Fut O H ρ' H')(r:LocR O H l U):LocR ρ' H' l U:=
 #[r.len,λi d e=>let #[v,q,h]:=r.val i d e;#[v,q,h.mono f]]
theorem LocR.set(r:LocR O H l U)(i:Nat)(h:Rep O H d v):LocR O H (l.set i<|aa d) (U.set i<|aa v):=
 #[by rw[bX,bX];exact r.len,λj e q=>by
  rw[nr]at q ⊢;split at q
  .rename_i hij
   subst hij;split at q
   .rename_i hl
    cases q;rw[T9 rfl,T9 (by rw[<-r.len];exact hl)]
    exact#[v,rfl,h]
   .cases q
  .rename_i hij
   rw[T8 hij];exact r.val j e q]
def End{B β:Type}(K:am)(xw:Nat->Hp->Prop)(rep:Mx->Hp->B->β->Prop)(O:Mx)(H:Hp)(Q:β->Hp->Prop):R B->Prop
 |.ok d S=>∀ρ' H' v,Fut O H ρ' H'->St3 K ρ' S H'->rep ρ' H' d v->Q v H'
 |.ex c S=>∀ρ' H',Fut O H ρ' H'->St3 K ρ' S H'->xw c H'
 |.no=>False
section
variable{K:am}{xw:Nat->Hp->Prop}{O ρ':Mx}{H H':Hp}{B β α' β':Type}{rep:Mx->Hp->B->β->Prop}{rep':Mx->Hp->α'->β'->Prop}
def End.mono{Q:β->Hp->Prop}(f:Fut O H ρ' H')(h:End K xw rep O H Q r):End K xw rep ρ' H' Q r:=by
 cases r with|ok d S=>exact λρ2 H2 v g st r=>h ρ2 H2 v (f.trans g) st r|ex c S=>exact λρ2 H2 g st=>h ρ2 H2 (f.trans g) st|no=>exact h
theorem End.bind{Q:β'->Hp->Prop}{Q1:β->Hp->Prop}(h:End K xw rep' O H Q (r.bind f))
  (k:∀d S ρ1 H1 v,Fut O H ρ1 H1->St3 K ρ1 S H1->rep ρ1 H1 d v->End K xw rep' ρ1 H1 Q (f d S)->Q1 v H1):End K xw rep O H Q1 r:=by
 cases r with|ok d S=>exact λρ1 H1 v g st r=>k d S ρ1 H1 v g st r<|End.mono g h|ex c S=>exact h|no=>exact h
theorem End.ok{Q:β->Hp->Prop}(h:End K xw rep O H Q (.ok a S))(st:St3 K O S H)(r:rep O H a v):Q v H:=h O H v (Fut.refl O H) st r
def End.ob{Q:β'->Hp->Prop}(h:End K xw rep' O H Q ((Pv.po o S).bind f)):∃a,o=aa a/\End K xw rep' O H Q (f a S):=by
 cases o with|none=>exact h.elim|some a=>exact#[a,rfl,h]
theorem End.po{Q:β->Hp->Prop}(h:End K xw rep O H Q (Pv.po o S)):∃a,o=aa a/\End K xw rep O H Q (.ok a S):=by
 cases o with|none=>exact h.elim|some a=>exact#[a,rfl,h]
theorem End.map{Q:β->Hp->Prop}(h:End K xw rep O H Q (Pv.po (o.map f) S)):∃a,o=aa a/\End K xw rep O H Q (.ok (f a) S):=by
 cases o with|none=>exact h.elim|some a=>exact#[a,rfl,h]
def End.ite{c:Prop}[Decidable c]{Q:β->Hp->Prop}(h:End K xw rep O H Q (if c then a else b)):(c/\End K xw rep O H Q a)\/(¬c/\End K xw rep O H Q b):=by
 split at h
 .exact .inl #[‹_›,h]
 .exact .inr #[‹_›,h]
def End.guard{c:Prop}[Decidable c]{Q:β->Hp->Prop}(h:End K xw rep O H Q (if c then a else .no)):c/\End K xw rep O H Q a:=by
 rcases h.ite with h|⟨_,h⟩
 .exact h
 .exact h.elim
end
abbrev nx:Nat->Hp->Prop:=λ_ _=>False
theorem End.nox{B β:Type}{K:am}{xw:Nat->Hp->Prop}{O:Mx}{H:Hp}{rep:Mx->Hp->B->β->Prop}{Q:β->Hp->Prop}{r:R B}(h:End K xw rep O H Q r.nox):End K nx rep O H Q r:=by
 cases r with|ok d S=>exact h|ex c S=>exact h.elim|no=>exact h
def Vd(_:Mx)(_:Hp)(a b:Bool):Prop:=a=b
def ZeA(_:Mx)(_:Hp)(a b:Option Int):Prop:=a=b
section
variable(X:Cx)(xw:Nat->Hp->Prop)
def tE(f:Lc->Zo->R D):TE:=λU H Q=>∃O l S,St3 X.K O S H/\LocR O H l U/\End X.K xw Rep O H Q (f l S)
def tA(f:Lc->Zo->R (List D)):TA:=λU H Q=>∃O l S,St3 X.K O S H/\LocR O H l U/\End X.K xw Reps O H Q (f l S)
def tB3(f:Lc->Zo->R Bool):TT:=λU H Q=>∃O l S,St3 X.K O S H/\LocR O H l U/\End X.K xw Vd O H Q (f l S)
def tO(f:Lc->Zo->R (Option Int)):TO:=λU H Q=>∃O l S,St3 X.K O S H/\LocR O H l U/\End X.K xw ZeA O H Q (f l S)
variable(C:Calls)
structure CE(e:Expr)(i:E):Prop where
 h:PE X e (tE X xw<|Pv.pv C i)
structure CT(e:Expr)(i:E):Prop where
 h:PT X e (tB3 X xw<|Pv.XC C i)
structure CA(es:List Expr)(is:List E):Prop where
 h:PA X es (tA X xw<|Pv.pvs C is)
structure CO(e:Option Expr)(i:Option E):Prop where
 h:PO X e (tO X xw<|Pv.pvo C i)
end
def PE.imp(h:PE X e t)(k:∀U H Q,t' U H Q->t U H Q):PE X e t':=λpq s U H Q I q=>h pq s U H Q I<|k U H Q q
def PT.imp(h:PT X e t)(k:∀U H Q,t' U H Q->t U H Q):PT X e t':=λpq s U H Q I q=>h pq s U H Q I<|k U H Q q
def PA.imp(h:PA X e t)(k:∀U H Q,t' U H Q->t U H Q):PA X e t':=λpos pq s U H Q I q=>h pos pq s U H Q I<|k U H Q q
def PO.imp(h:PO X e t)(k:∀U H Q,t' U H Q->t U H Q):PO X e t':=λpq s U H Q I q=>h pq s U H Q I<|k U H Q q
section
variable{K:am}{O ρ':Mx}{S:Zo}{H H':Hp}{a p:aK}
def ZP(hp:H p=ae):Fut O H O (upd H p o):=#[rfl,λb u h=>.inl (by rw[Zq<|Yg h hp];exact h)]
def St3.fresh(st:St3 K O S H)(hp:H p=ae)(ho:∀ps,o≠.tbl ps:=by intro _ z;cases z):St3 K O S (upd H p o):=
 have n:∀b,H b≠ae->b≠p:=λb h z=>h (by rw[z];exact hp)
 #[st.hk,λb h=>by rw[Zq<|n b<|st.xd b h];exact st.xd b h,λb h=>by
  have:=st.dw b h;rw[Zq<|n b (by rw[this.1];intro z;cases z)];exact this,st.tb.upd (λob u z=>by rw[hp]at z;cases z) ho]
def St3.nx(st:St3 K O S H)(hp:H p=ae):¬O.X p:=λz=>st.xd p z hp
end
def XU:Ev.lim=bw:=by rw[cq];rfl
section
variable{K:am}{xw:Nat->Hp->Prop}{O:Mx}{H:Hp}{S:Zo}{Q:VK}
def End.newT(h:End K xw Rep O H Q (.ok (.tup ds) S))(st:St3 K O S H)(r:Reps O H ds xs):∀p,H p=ae->Q (.ref p) (upd H p<|.tup xs):=λp hp=>
 h O _ _ (ZP hp) (st.fresh hp) (Y2 ZI<|r.mono<|ZP hp)
def End.newL(h:End K xw Rep O H Q (.ok (.lst ds) S))(st:St3 K O S H)(r:Reps O H ds xs):∀p,H p=ae->Q (.ref p) (upd H p<|.lst xs):=λp hp=>
 h O _ _ (ZP hp) (st.fresh hp) (Wx ZI (st.nx hp)<|r.mono<|ZP hp)
end
section
variable{X:Cx}{xw:Nat->Hp->Prop}{C:Calls}{e a b c:Expr}{i j k:E}{pos:iA}
def Zcc{n:Int}{q}:CE X xw C (.Constant (.int n) q pos) (.c<|.int n):=.mk <| PE.imp Qp<|by rintro U H Q ⟨O,l,S,st,lr,h⟩;exact End.ok h st<|ZB n
def ZdR{n:Bool}{q}:CE X xw C (.Constant (.bool n) q pos) (.c<|.bl n):=.mk <| PE.imp Zc7<|by rintro U H Q ⟨O,l,S,st,lr,h⟩;exact End.ok h st<|Yd n
def Zbq{q}:CE X xw C (.Constant .none q pos) (.c .non):=.mk <| PE.imp ZbZ<|by rintro U H Q ⟨O,l,S,st,lr,h⟩;exact End.ok h st yn
def Zee(n:Nat){x:bE}(hN:X.N[n]?=aa x)(hv:Vis X.env.scope x)(hd:(x == ("__debug__" : bE))=ak)
  (hcd:(x == ("__classdict__" : bE))=ak):CE X xw C (.Name x pos) (.v n):=.mk <| PE.imp (QA hN hv hd hcd)<|by
 rintro U H Q ⟨O,l,S,st,lr,h⟩;rw[Pv.pv]at h;cases q:l[n]? with
 |none=>rw[q]at h;exact h.elim
 |some o=>
  cases o with
  |none=>rw[q]at h;exact h.elim
  |some d=>
   rw[q]at h;obtain⟨v,q2,r⟩:=lr.val n d q;exact#[v,q2,End.ok h st r]
def ZbH:CA X xw C [] []:=.mk <| PA.imp Vv<|by
 rintro U H Q ⟨O,l,S,st,lr,h⟩;rw[Pv.pvs]at h;exact End.ok h st Reps.nil
def jG{es:List Expr}{is:List E}(ha:CE X xw C e i)(hr:CA X xw C es is)(hs:aJ (e::es) X.env=(ak,cC e X.env)::aJ es X.env):CA X xw C (e::es) (i::is):=.mk <|
 PA.imp (Xv ha.h hr.h hs)<|by
  rintro U H Q ⟨O,l,S,st,lr,h⟩;rw[Pv.pvs]at h;exact#[O,l,S,st,lr,h.bind λx S1 ρ1 H1 v f1 st1 r1 h1=>#[ρ1,l,S1,st1,lr.mono f1,h1.bind λxs S2 ρ2 H2 vs f2 st2 r2 h2=>h2.ok st2<|Reps.cons (r1.mono f2) r2]]
def ZcH{es:List Expr}{is:List E}{q}(h:CA X xw C es is):CE X xw C (.Tuple es q pos) (.tup is):=.mk <| PE.imp (Zcw h.h)<|by
 rintro U H Q ⟨O,l,S,st,lr,h⟩;rw[Pv.pv]at h;refine#[O,l,S,st,lr,h.bind λxs S1 ρ1 H1 vs f1 st1 r1 h1=>?_]
 obtain⟨hl,h1⟩:=h1.guard;exact#[by rw[r1.length,<-XU];exact hl,h1.newT st1 r1]
def Xc{r:R2}{g:D->D->Zo->R D}(hg:∀{O H S x y v u Q},St3 X.K O S H->Rep O H x v->Rep O H y u->End X.K xw Rep O H Q (g x y S)->r v u H Q) :
  ∀U H Q,tE X xw (λl S=>(Pv.pv C i l S).bind λx S=>(Pv.pv C j l S).bind λy S=>g x y S) U H Q->tOp r (tE X xw<|Pv.pv C i) (tE X xw<|Pv.pv C j) U H Q:=λU H Q #[O,l,S,st,lr,h]=>
 #[O,l,S,st,lr,h.bind λx S1 ρ1 H1 v f1 st1 r1 h1=>#[ρ1,l,S1,st1,lr.mono f1,h1.bind λy S2 ρ2 H2 u f2 st2 r2 h2=>hg st2 (r1.mono f2) r2 h2]]
end
def wW(K:am):R2:=λx y H Q=>∃a b ys,x=.ref a/\y=.ref b/\SqT K H a []/\SqT K H b ys/\Q (.ref b) H
def wL:OpR X (eF .Add) (wW X.K):=by
 intro pq s U H x y v u Q I rx ry h;obtain⟨a,b,ys,rfl,rfl,ha,hb,q⟩:=h;cases rx;cases ry;obtain⟨its,r1,p1,_⟩:=I.tuple ha;obtain⟨its2,r2,p2,_⟩:=I.tuple hb;have e0:=r1.nil_iff.mpr rfl;obtain⟨⟨cls,dd,data,sl⟩,ho,hc,n,hd⟩:=id p1;obtain⟨⟨cls2,dd2,data2,sl2⟩,ho2,hc2,n2,hd2⟩:=id p2;simp only at hc hd hc2 hd2;subst hc hd hc2 hd2;exact ng #[_,ho,rfl] #[_,ho2,rfl] kL mH gA gj (fS _ _)
   (tuple_addW0 a b its.toArray its2.toArray n n2 dd dd2 sl sl2<|by rw[e0];rfl) #[ho,ho2,#[.ref b,H,I,rfl,q]]
def Zd8(K:am):V->Option Int->Option Int->Hp->VK->Prop:=λx lo hi H Q=>∃a xs,x=.ref a/\SqT K H a xs/\
 (HT.sIx xs.length 0 lo=0/\HT.sIx xs.length xs.length hi=xs.length)/\Q (.ref a) H
def XD{prog:bt}{w:bJ}{A:b8}{E:al->aq->Prop}{s:aq}{t sl:aK}{items:Array al}{vl vu:al}{lo hi:Option Int}{Q:al->aq->Prop}(ht:pO s.heap t items)(hs:s.heap.IsSliceOf sl vl vu .none)(pl:lj vl lo)(pu:lj vu hi)
  (hw:HT.sIx items.size 0 lo=0/\HT.sIx items.size items.size hi=items.size)(h:Q (.ref t) s):aW (aT prog w) A (mw (.ref t)<|.ref sl) Q E s:=by
 obtain⟨os,hos,hcs,hds⟩:=id hs;have hTs:s.TypeIs (.ref sl) "slice":=#[os,hos,hcs];unfold mw
 try with_reducible refine b6 ?_
 first|refine ab<|aw ?_|skip
 refine ab<|nh ht.typeIs (by decide) ?_
 refine ab (cQ ht.typeIs dB
  (cA dB ht.typeIs mB ?_<|mU _ _))
 show aW _ _ (fD (.ref t) >>= _) _ _ s;refine ab<|tupleItemsOf_ ht ?_;refine ab<|iB hTs ?_;rw[T9 (by decide)]
 refine ab<|HT.YT hs pl pu ?_;have hyes:((((HT.sIx items.size 0 lo:Nat):Int) == 0&&(1:Int) == 1&&(HT.sIx items.size items.size hi-HT.sIx items.size 0 lo) == items.size)=aj):=by
  rw[hw.1,hw.2];simp
 show aW _ _ (if(((HT.sIx items.size 0 lo:Nat):Int) == 0&&(1:Int) == 1&&(HT.sIx items.size items.size hi-HT.sIx items.size 0 lo) == items.size)=aj then _ else _) _ _ s
 rw[T9 hyes];refine ab<|ab<|iB ht.typeIs<|aw ?_;rw[T9 (by decide)]
 exact ab<|d4<|aw #[_,rfl,aw h]
def v3:SlR X (Zd8 X.K):=by
 intro pq s U H x v vl vu lo hi sl Q I rx hs pl pu h;obtain⟨a,xs,rfl,hx,hw,q⟩:=h;cases rx;obtain⟨its,r,ht,hz⟩:=I.tuple hx;have hlen:its.toArray.size=xs.length:=by rw[ay];exact r.length.symm
 refine#["tuple",_,dB.lookup,ht.typeIs,?_];exact XD ht hs pl pu (by rw[hlen];exact hw) #[.ref a,H,I,rfl,q]
def Vq(h:Ev.fits i=aj):mC i<=2^20:=by
 have h1:=T6 h;unfold mC;split
 .exact cZ _
 .rename_i hz
  have hne:i.natAbs≠0:=by intro z;exact hz (by simp[Int.natAbs_eq_zero.mp z])
  have:=(Nat.log2_lt hne).mpr h1;have e:(2:Nat)^20=1048576:=by decide
  omega
def ux:OpR X (eF .FloorDiv) (rI (λ_ j=>0<j/\j<Ev.big) λi j=>.int<|i / j):=opI λi j _ _ _ _ _ hc q=>by
 have h1:=hc.1;have h2:=hc.2;have hne:j.natAbs≠0:=by omega
 have h3:j.natAbs<2^8000:=by
  have e:(j.natAbs:Int)=j:=Int.natAbs_of_nonneg (by omega)
  have h4:(j.natAbs:Int)<((2^8000:Nat):Int):=by rw[e,hZ];exact h2
  exact Int.ofNat_lt.mp h4
 have h5:=(Nat.log2_lt hne).mpr h3;exact floordiv_int (by omega) (by rw[Int.fdiv_eq_ediv_of_nonneg i (by omega)];exact q)<|.inl<|PyProof.noPylong_of_log2 (by omega)
def qE:OpR X (eF .Mult) (rI (λi j=>Ev.fits i=aj/\Ev.fits j=aj) λi j=>.int<|i*j):=opI λ_ _ _ _ _ _ _ hc q=>mul_int q<|nT (Vq hc.1)<|Vq hc.2
def u9:OpR X (inplaceOp .Mult) (rI (λi j=>Ev.fits i=aj/\Ev.fits j=aj) λi j=>.int<|i*j):=opI λ_ _ _ _ _ _ _ hc q=>imul_int q<|nT (Vq hc.1)<|Vq hc.2
def Uz:fillsNumberSlot (.type "tuple") "mul" = cW ak:=
 PySem.fillsNumberSlot_seq kN.lookup (by decide +kernel) F.slot_tuple_rmul.lookup (by decide +kernel)
def QY:seqRepeat? (.type "tuple")=cW (aa<|.builtin "tuple.__mul__"):=by
 unfold seqRepeat?
 rw[nU (name:="__mul__") kN.lookup (by decide +kernel),nU (name:="__rmul__") F.slot_tuple_rmul.lookup (by decide +kernel)]
 rfl
def VM(a:Int)(t:pL)(l:aK)(items:Array al)(n:Nat)(dd:Option aK)(sl:Array (Option al)) :
  oV (dv.«int.__rmul__» #[[.int a t,.ref l],[]]) (λ_ R s=>s.heap.get? l=aa {cls:=.type "tuple",dict:=dd,data:=.seq items n,slots:=sl}/\R (.ok<|.ret al.notImplemented) s):=
 .of_wp λprog w A R s h=>by obtain⟨hp,g,d,tk,os⟩:=s;obtain⟨hl,h⟩:=h;wp_walk;exact#[_,rfl,h]
def Q7(l:aK)(items:Array al)(n:Nat)(dd:Option aK)(sl:Array (Option al))(x:Int)(u:pL)(h0:¬(x < -(2^63)||x>=2^63)=aj)(hc:(items.isEmpty||x == 1)=aj) :
  oV (dv.«tuple.__mul__» #[[.ref l,.int x u],[]]) (λ_ R s=>s.heap.get? l=aa {cls:=.type "tuple",dict:=dd,data:=.seq items n,slots:=sl}/\R (.ok<|.ret<|cc l) {s with heap:=s.heap,toks:=s.toks}):=
 .of_wp λprog w A R s h=>by obtain⟨hp,g,d,tk,os⟩:=s;obtain⟨hl,h⟩:=h;have f1:=kM;have f2:=dD;wp_walk;rw[T8 h0];wp_walk using dC hl;exact#[_,rfl,h]
def Q0(l:aK)(items:Array al)(n:Nat)(dd:Option aK)(sl:Array (Option al))(x:Int)(u:pL)(h0:¬(x < -(2^63)||x>=2^63)=aj)(hc:¬(items.isEmpty||x == 1)=aj)(h1:(x<=0||items.isEmpty)=aj) :
  oV (dv.«tuple.__mul__» #[[.ref l,.int x u],[]]) (λ_ R s=>s.heap.get? l=aa {cls:=.type "tuple",dict:=dd,data:=.seq items n,slots:=sl}/\R (.ok<|.ret<|cc s.heap.objs.size) {s with heap:=s.heap.push {cls:=.type "tuple",data:=.seq #[]},toks:=s.toks}):=
 .of_wp λprog w A R s h=>by obtain⟨hp,g,d,tk,os⟩:=s;obtain⟨hl,h⟩:=h;have f1:=kM;have f2:=dD;wp_walk;rw[T8 h0];wp_walk using dC hl;exact#[_,rfl,h]
def Gs(l:aK)(items:Array al)(n:Nat)(dd:Option aK)(sl:Array (Option al))(x:Int)(u:pL)(h0:¬(x < -(2^63)||x>=2^63)=aj)(hc:¬(items.isEmpty||x == 1)=aj)(h1:¬(x<=0||items.isEmpty)=aj)
  (h2:¬(items.size*x>(2^63-1) / 8))(h3:¬iM (items.size*x)=aj)(hsz:((aP x.toNat items).foldl (·++·) #[]).size<=bw) :
  oV (dv.«tuple.__mul__» #[[.ref l,.int x u],[]]) (λ_ R s=>s.heap.get? l=aa {cls:=.type "tuple",dict:=dd,data:=.seq items n,slots:=sl}/\R (.ok<|.ret<|cc s.heap.objs.size) {s with heap:=s.heap.push {cls:=.type "tuple",data:=.seq ((aP x.toNat items).foldl (·++·) #[])},toks:=s.toks}):=
 .of_wp λprog w A R s h=>by obtain⟨hp,g,d,tk,os⟩:=s;obtain⟨hl,h⟩:=h;have f1:=kM;have f2:=dD;wp_walk;rw[T8 h0];wp_walk using dC hl;rw[T8 h2];wp_walk using dC hl;exact#[_,rfl,h]
def ZaQ(K:am):R2:=λx y H Q=>∃a k xs,x=.ref a/\y=.int k/\SqT K H a xs/\(0<=k/\k<1000/\xs.length<=1000)/\
 ((xs=[]\/k=1)->Q (.ref a) H)/\(¬(xs=[]\/k=1)->∀p,H p=ae->Q (.ref p) (upd H p<|.tup (aP k.toNat xs).flatten))
def jC :OpR X (eF .Mult) (ZaQ X.K):=by
 intro pq s U H x y v u Q I rx ry h;obtain⟨a,k,xs,rfl,rfl,hx,⟨k0,k1,hz⟩,q1,q2⟩:=h;cases rx;obtain⟨t,rfl⟩:=ry;obtain⟨its,r,pt,_⟩:=I.tuple hx;have hl:=r.length;obtain⟨⟨cls,dd,data,sl⟩,ho,hc,n,hd⟩:=id pt;simp only at hc hd;subst hc hd;have h0:¬(ag (k < -(2^63))||decide (k>=2^63))=aj:=by
  rw[T4 (by lia),T4 (by lia)];exact aI
 refine i5 (by decide) #[_,ho,rfl] (λs'=>lq s' k t) Uz ox h8 QY F.slot_int_index.lookup
  (fF h8 (lq s k t) nV (nt _ _) (VM k t a its.toArray n dd sl) #[ho,rfl,#[_,ho,rfl],?_])
 have hnil:=r.nil_iff;by_cases c:xs=[]\/k=1
 .have c':(its.toArray.isEmpty||k == 1)=aj:=by
   rcases c with c|c
   .rw[hnil.mpr c];rfl
   .rw[c];simp
  exact fF kN #[_,ho,rfl] kf (iN _ _) (Q7 a its.toArray n dd sl k t h0 c') #[ho,#[.ref a,H,I,rfl,q1 c]]
 .have ne:=λz=>c (.inl<|hnil.mp z)
  have k1:k≠1:=λz=>c<|.inr z
  have c':¬(its.toArray.isEmpty||k == 1)=aj:=by
   rw[beq_eq_false_iff_ne.mpr k1,Bool.or_false,g8];cases its with|nil=>exact T7 rfl ne|cons _ _=>exact aI
  have fin:∀arr:List al,arr=(aP k.toNat its).flatten->EP X pq U Q (cc s.heap.objs.size) {s with heap:=s.heap.push {cls:=.type "tuple",data:=.seq arr.toArray}}:=λarr e=>by
   subst e;refine#[.ref s.heap.objs.size,_,I.laid (t':=s.toks) (λb ob q=>au _ q) (aM _) ?_,rfl,q2 c _<|I.hok.fresh<|aM _]
   refine#[?_,_,r.rep k.toNat,iG _ _];rw[Q3,cq];have:k.toNat*xs.length<=1000*1000:=l9 (by lia) hz
   lia
  by_cases z:k=0
  .have h1:(ag (k<=0)||its.toArray.isEmpty)=aj:=by rw[z];rfl
   refine fF kN #[_,ho,rfl] kf (iN _ _) (Q0 a its.toArray n dd sl k t h0 c' h1) #[ho,?_];exact fin [] (by rw[z];rfl)
  .have h1:¬(ag (k<=0)||its.toArray.isEmpty)=aj:=by
    rw[T4 (by lia),kr,g8]
    cases its with|nil=>exact T7 rfl ne|cons _ _=>exact aI
   have hm:(its.toArray.size:Int)*k<=1000*1000:=by
    rw[ay,<-hl];exact oW (by lia) (by lia) k0 (by lia)
   have joined:(aP k.toNat its.toArray).foldl (·++·) #[]=(aP k.toNat its).flatten.toArray:=by
    have:=WB its k.toNat [];rw[ic]at this;exact this
   have hsz:((aP k.toNat its.toArray).foldl (·++·) #[]).size<=bw:=by
    rw[joined,ay,Q3,cq,<-hl];have:k.toNat*xs.length<=1000*1000:=l9 (by lia) hz
    lia
   refine fF kN #[_,ho,rfl] kf (iN _ _) (Gs a its.toArray n dd sl k t h0 c' h1 (by lia) (by
    unfold iM;rw[T4 (by rw[cq];lia)]
    exact aI) hsz) #[ho,?_]
   rw[joined];exact fin _ rfl
def ZaV:R2:=λx y H Q=>∃a k xs,x=.ref a/\y=.int k/\H a=aa (.lst xs)/\(0<=k/\k<1000/\xs.length<=1000)/\∀p,H p=ae->Q (.ref p) (upd H p<|.lst (aP k.toNat xs).flatten)
def jh :OpR X (eF .Mult) ZaV:=by
 intro pq s U H x y v u Q I rx ry h;obtain⟨a,k,xs,rfl,rfl,hx,⟨k0,k1,hz⟩,q2⟩:=h;cases rx;obtain⟨t,rfl⟩:=ry;obtain⟨its,r,pl,_⟩:=I.list<|SqL.of hx;have hl:=r.length;obtain⟨⟨cls,dd,data,sl⟩,n,ho,hc,hd2,hd⟩:=id pl;simp only at hc hd hd2;subst hc hd;have hm:k.toNat*its.length<=1000*1000:=l9 (by lia) (by lia)
 have hm2:its.length*k.toNat<=1000*1000:=by rw[gC];exact hm
 refine i5 (by decide) #[_,ho,rfl] (λs'=>lq s' k t) noFill_list_mul ox h8 repeat_list F.slot_int_index.lookup
  (fF h8 (lq s k t) nV (nt _ _) (lm_int_rmul_list_any k t a its.toArray n dd sl) #[ho,rfl,#[_,ho,rfl],
   fF F.slot_list_mul #[_,ho,rfl] F.entry_list_mul (F.args_list_mul_2 _ _) (lm_list_mul_any a its.toArray n dd sl k t (by simp[dv.List.listFitsIndex];lia) (by rw[ay];lia)<|by rw[ay];simp[fT,bw];lia) #[ho,?_]])
 have joined:(aP (if its.toArray.isEmpty=aj then 0 else k.toNat) its.toArray).foldl (λx1 x2=>x1++x2) #[]=(aP k.toNat its).flatten.toArray:=by
  have h0:=WB its k.toNat [];rw[ic]at h0;by_cases z:its=[]
  .subst z
   have e:∀m:Nat,(aP m ([]:List al)).flatten=[]:=λm=>by induction m with|zero=>rfl|succ m ih=>rw[bF,cO,ih];rfl
   rw[e];rfl
  .rw[T8 (by rw[g8];cases its with|nil=>exact T7 rfl z|cons _ _=>exact aI)]
   exact h0
 rw[joined];refine#[.ref s.heap.objs.size,_,I.laid (t':=s.toks) (λb ob q=>au _ q) (aM _) ?_,rfl,q2 _<|I.hok.fresh<|aM _]
 refine#[?_,_,0,r.rep k.toNat,aL _ rfl];rw[Q3,cq];rw[hl];lia
section
variable{X:Cx}{xw:Nat->Hp->Prop}{C:Calls}{e a b c:Expr}{i j k:E}{pos:iA}
variable{O:Mx}{H:Hp}{S:Zo}{x y:D}{v u:V}{Q:VK}{K:am}
def ZaM(K:am):R2:=λx y H Q=>rI0 (λi j=>.int<|i+j) x y H Q\/(Za7 K x y H Q\/(wW K x y H Q\/Zd5 x y H Q))
def Zaz:OpR X (eF .Add) (ZaM X.K):=ZbA.or<|jg.or<|wL.or ZbC
def ZbL(st:St3 K O S H)(rx:Rep O H x v)(ry:Rep O H y u)(h:End K xw Rep O H Q (Pv.Yy .add x y S)):ZaM K v u H Q:=by
 cases x with
 |int i=>cases y with|int j=>exact .inl #[i,j,rx.int',ry.int',End.ok h st<|ZB _]|_=>exact False.elim h
 |tup ds=>cases y with
  |tup es=>
   obtain⟨hl,h⟩:=End.guard h;obtain⟨p,xs,rfl,hp,r1⟩:=rx.tup';obtain⟨q,ys,rfl,hq,r2⟩:=ry.tup';have l1:=r1.length;have l2:=r2.length;by_cases z:xs=[]
   .subst z
    have e1:=eW.mp l1.symm;subst e1;exact .inr<|.inr<|.inl #[p,q,ys,rfl,rfl,SqT.of hp,SqT.of hq,End.ok h st<|Y2 hq r2]
   .refine .inr (.inl #[p,q,xs,ys,rfl,rfl,SqT.of hp,SqT.of hq,z,by rw[l1,l2,<-XU];exact hl,λz2=>?_,λ_=>h.newT st<|r1.append r2])
    subst z2;have e2:=eW.mp l2.symm;subst e2;refine End.ok h st ?_;rw[cf];exact Y2 hp r1
  |_=>exact False.elim h
 |lst ds=>cases y with
  |lst es=>
   obtain⟨hl,h⟩:=End.guard h;obtain⟨p,xs,rfl,hp,_,r1⟩:=rx.lst';obtain⟨q,ys,rfl,hq,_,r2⟩:=ry.lst';exact .inr<|.inr<|.inr #[p,q,xs,ys,rfl,rfl,hp,hq,by rw[r1.length,r2.length,<-XU];exact hl,h.newL st<|r1.append r2]
  |_=>exact False.elim h
 |_=>cases y<;>exact False.elim h
def Zbs(st:St3 K O S H)(rx:Rep O H x v)(ry:Rep O H y u)(h:End K xw Rep O H Q (Pv.Yy .sub x y S)):rI0 (λi j=>.int<|i-j) v u H Q:=by
 cases x with
 |int i=>cases y with|int j=>exact#[i,j,rx.int',ry.int',End.ok h st<|ZB _]|_=>exact False.elim h
 |_=>cases y<;>exact False.elim h
def Za6(K:am):R2:=λx y H Q=>rI (λi j=>Ev.fits i=aj/\Ev.fits j=aj) (λi j=>.int<|i*j) x y H Q\/(ZaQ K x y H Q\/ZaV x y H Q)
def ZaF:OpR X (eF .Mult) (Za6 X.K):=qE.or<|jC.or jh
def Zcf(st:St3 K O S H)(rx:Rep O H x v)(ry:Rep O H y u)(h:End K xw Rep O H Q (Pv.Yy .mul x y S)):Za6 K v u H Q:=by
 cases x with
 |int i=>cases y with
  |int j=>
   obtain⟨hc,h⟩:=End.guard h;exact .inl #[i,j,rx.int',ry.int',(aB _ _).mp hc,End.ok h st<|ZB _]
  |_=>exact False.elim h
 |tup ds=>cases y with
  |int k=>
   obtain⟨⟨h0,h1,h2⟩,h⟩:=End.guard h;obtain⟨p,xs,rfl,hp,r1⟩:=rx.tup';have l1:=r1.length;refine .inr <| .inl #[p,k,xs,rfl,ry.int',SqT.of hp,#[h0,h1,by rw[l1];exact h2],λz=>?_,λ_=>h.newT st<|r1.rep k.toNat]
   refine End.ok h st<|Y2 hp ?_;rcases z with z|z
   .subst z
    have e1:=eW.mp l1.symm;subst e1;have:∀m:Nat,(aP m ([]:List D)).flatten=[]:=λm=>by induction m with|zero=>rfl|succ m ih=>rw[bF,cO,ih];rfl
    rw[this];exact Reps.nil
   .subst z
    show Reps O H (aP 1 ds).flatten xs;rw[bF,List.replicate_zero,cO,List.flatten_nil,cf];exact r1
  |_=>exact False.elim h
 |lst ds=>cases y with
  |int k=>
   obtain⟨⟨h0,h1,h2⟩,h⟩:=End.guard h;obtain⟨p,xs,rfl,hp,_,r1⟩:=rx.lst';exact .inr<|.inr #[p,k,xs,rfl,ry.int',hp,#[h0,h1,by rw[r1.length];exact h2],h.newL st<|r1.rep k.toNat]
  |_=>exact False.elim h
 |_=>cases y<;>exact False.elim h
def ZaJ(st:St3 K O S H)(rx:Rep O H x v)(ry:Rep O H y u)(h:End K xw Rep O H Q (Pv.Yy .fdiv x y S)):rI (λ_ j=>0<j/\j<Ev.big) (λi j=>.int<|i / j) v u H Q:=by
 cases x with
 |int i=>cases y with
  |int j=>
   obtain⟨hc,h⟩:=End.guard h;exact#[i,j,rx.int',ry.int',hc,End.ok h st<|ZB _]
  |_=>exact False.elim h
 |_=>cases y<;>exact False.elim h
def Zcv(st:St3 K O S H)(rx:Rep O H x v)(ry:Rep O H y u)(h:End K xw Rep O H Q (Pv.Yy .mod x y S)):rI (λ_ j=>0<j) (λi j=>.int<|i%j) v u H Q:=by
 cases x with
 |int i=>cases y with
  |int j=>
   obtain⟨hc,h⟩:=End.guard h;exact#[i,j,rx.int',ry.int',hc,End.ok h st<|ZB _]
  |_=>exact False.elim h
 |_=>cases y<;>exact False.elim h
theorem ZcG(st:St3 K O S H)(rx:Rep O H x v)(ry:Rep O H y u)(h:End K xw Rep O H Q (Pv.Yy .pow x y S)):rI CPow (λi j=>.int<|i^j.toNat) v u H Q:=by
 cases x with
 |int i=>cases y with
  |int j=>
   obtain⟨hc,h⟩:=End.guard h;exact#[i,j,rx.int',ry.int',#[hc.1,by lia,hc.2.2],End.ok h st<|ZB _]
  |_=>exact False.elim h
 |_=>cases y<;>exact False.elim h
def Zcm(ha:CE X xw C a i)(hb:CE X xw C b j):CE X xw C (.BinOp a .Add b pos) (.bin .add i j):=.mk <| PE.imp (Qd Zaz ha.h hb.h) (Xc λst rx ry h=>ZbL st rx ry h)
def Zcb(ha:CE X xw C a i)(hb:CE X xw C b j):CE X xw C (.BinOp a .Sub b pos) (.bin .sub i j):=.mk <| PE.imp (Qd ZbR ha.h hb.h) (Xc λst rx ry h=>Zbs st rx ry h)
def Zb2(ha:CE X xw C a i)(hb:CE X xw C b j):CE X xw C (.BinOp a .Mult b pos) (.bin .mul i j):=.mk <| PE.imp (Qd ZaF ha.h hb.h) (Xc λst rx ry h=>Zcf st rx ry h)
def qB(ha:CE X xw C a i)(hb:CE X xw C b j):CE X xw C (.BinOp a .FloorDiv b pos) (.bin .fdiv i j):=.mk <| PE.imp (Qd ux ha.h hb.h) (Xc λst rx ry h=>ZaJ st rx ry h)
def Zbu(ha:CE X xw C a i)(hb:CE X xw C b j):CE X xw C (.BinOp a .Mod b pos) (.bin .mod i j):=.mk <| PE.imp (Qd Zbp ha.h hb.h) (Xc λst rx ry h=>Zcv st rx ry h)
def ZcD(ha:CE X xw C a i)(hb:CE X xw C b j):CE X xw C (.BinOp a .Pow b pos) (.bin .pow i j):=.mk <| PE.imp (Qd ZcW ha.h hb.h) (Xc λst rx ry h=>ZcG st rx ry h)
def ZcF(ha:CE X xw C a i):CE X xw C (.UnaryOp .USub a pos) (.neg i):=.mk <| PE.imp (Zdl ZcB ha.h)<|by
 rintro U H Q ⟨O,l,S,st,lr,h⟩;refine#[O,l,S,st,lr,End.bind (h) λx S1 ρ1 H1 v f1 st1 r1 h1=>?_]
 cases x with|int n=>exact#[n,r1.int',End.ok h1 st1<|ZB _]|_=>exact False.elim h1
def Gh(st:St3 K O S H)(rx:Rep O H x v)(h:Pv.Zm x=aa n):jU K v H n:=by
 cases x with
 |non=>rw[rx.non'];exact(ai h).symm
 |bl b=>rw[rx.bl'];exact(ai h).symm
 |int i=>
  rw[rx.int'];have h':=ai h;rw[<-h'];by_cases z:i=0
  .subst z;rfl
  .rw[T5 z];exact(bne_iff_ne.mpr z).symm
 |tup ds=>
  obtain⟨p,xs,rfl,hp,r⟩:=rx.tup';have h':=ai h;refine .inr<|.inl #[xs,SqT.of hp,?_];rw[<-h'];have:=r.length;cases ds<;>cases xs<;>first|rfl|(simp at this)
 |lst ds=>
  obtain⟨p,xs,rfl,hp,_,r⟩:=rx.lst';refine .inl #[xs,SqL.of hp,?_];rw[<-ai h];have:=r.length;cases ds<;>cases xs<;>first|rfl|(simp at this)
 |_=>cases h
def Zcg(ha:CE X xw C a i)(he:∀whole,isTrue a X.env whole=(do let v <-whole;k8 a.pos;g6 [v] (truthy v))):CT X xw C a i:=.mk <|
 PT.imp (uV ha.h he)<|by
  rintro U H Q ⟨O,l,S,st,lr,h⟩;refine#[O,l,S,st,lr,End.bind (show End X.K xw Vd O H Q ((Pv.pv C i l S).bind λx S=>Pv.po (Pv.Zm x) S)from h) λx S1 ρ1 H1 v f1 st1 r1 h1=>?_]
  cases q:Pv.Zm x with|none=>rw[q]at h1;exact False.elim h1|some n=>rw[q]at h1;exact#[n,Gh st1 r1 q,End.ok h1 st1 rfl]
def Zbh(ha:CT X xw C a i):CT X xw C (.UnaryOp .Not a pos) (.not i):=.mk <| PT.imp (ZbS ha.h)<|by
 rintro U H Q ⟨O,l,S,st,lr,h⟩;refine#[O,l,S,st,lr,?_];have h':End X.K xw Vd O H Q (((Pv.pv C i l S).bind λx S=>(Pv.po (Pv.Zm x) S).bind λb S=>.ok (.bl !b) S).bind λx S=>Pv.po (Pv.Zm x) S):=h
 show End X.K xw Vd O H (λc H1=>Q (!c) H1) ((Pv.pv C i l S).bind λx S=>Pv.po (Pv.Zm x) S)
 cases q:Pv.pv C i l S with
 |no=>rw[q]at h';exact h'
 |ex c S1=>rw[q]at h';exact h'
 |ok x S1=>
  rw[q]at h';show End X.K xw Vd O H _ (Pv.po (Pv.Zm x) S1);have h2:End X.K xw Vd O H Q (((Pv.po (Pv.Zm x) S1).bind λb S=>.ok (.bl !b) S).bind λx S=>Pv.po (Pv.Zm x) S):=h'
  cases t:Pv.Zm x with
  |none=>rw[t]at h2;exact h2
  |some n=>
   rw[t]at h2;intro ρ1 H1 w f1 st1 e;exact h2 ρ1 H1 (!w) f1 st1 (by rw[<-(e)];rfl)
def ZbX(ha:CE X xw C a i):CE X xw C (.UnaryOp .Not a pos) (.not i):=.mk <| by
 intro pq s U H Q I hq;obtain⟨O,l,S,st,lr,h⟩:=hq;have h':=h
 refine UnaryOp_<|thn (ha.h pq s U H (λv H1=>∃k,jU X.K v H1 k/\Q (.bl !k) H1) I #[O,l,S,st,lr,End.bind h' λx S1 ρ1 H1 v f1 st1 r1 h1=>?_]) λv s1 #[x,H1,I1,r1,q1]=>?_
 .cases q:Pv.Zm x with|none=>rw[q]at h1;exact False.elim h1|some n=>rw[q]at h1;exact#[n,Gh st1 r1 q,End.ok h1 st1<|Yd _]
 .obtain⟨k,tk,q2⟩:=q1
  refine not_of<|thn (ve pq s1 U H1 x v (λk' H'=>Q (.bl !k') H') I1 r1 #[k,tk,q2]) λk' s2 #[H2,I2,q3]=>?_
  exact#[.bl<|!k',H2,I2,rfl,q3]
def ZbV{rest:List Expr}(ha:CE X xw C a i)(hb:CE X xw C (.BoolOp .And (b::rest) pos) j):CE X xw C (.BoolOp .And (a::b::rest) pos) (.and i j):=.mk <| PE.imp (ZcY ha.h hb.h)<|by
 rintro U H Q ⟨O,l,S,st,lr,h⟩;refine#[O,l,S,st,lr,End.bind (h) λx S1 ρ1 H1 v f1 st1 r1 h1=>?_]
 cases x with
 |bl c=>
  refine#[c,r1.bl',?_];cases c with|true=>exact#[ρ1,l,S1,st1,lr.mono f1,h1]|false=>exact End.ok h1 st1<|Yd _
 |_=>exact False.elim h1
def Zb6{op}(ha:CE X xw C a i):CE X xw C (.BoolOp op [a] pos) i:=.mk <| ZcN ha.h
def Zbl(hc:CT X xw C c k)(ha:CE X xw C a i)(hb:CE X xw C b j):CE X xw C (.IfExp c a b pos) (.ite k i j):=.mk <| PE.imp (qv hc.h ha.h hb.h)<|by
 rintro U H Q ⟨O,l,S,st,lr,h⟩;have h':End X.K xw Rep O H Q ((Pv.pv C k l S).bind λx S=>(Pv.po (Pv.Zm x) S).bind λc S=>if c then Pv.pv C i l S else Pv.pv C j l S):=h
 refine#[O,l,S,st,lr,?_];show End X.K xw Vd O H _ ((Pv.pv C k l S).bind λx S=>Pv.po (Pv.Zm x) S)
 cases q:Pv.pv C k l S with
 |no=>rw[q]at h';exact h'
 |ex c S1=>rw[q]at h';exact h'
 |ok x S1=>
  rw[q]at h';have h2:End X.K xw Rep O H Q ((Pv.po (Pv.Zm x) S1).bind λc S=>if c then Pv.pv C i l S else Pv.pv C j l S):=h'
  show End X.K xw Vd O H _ (Pv.po (Pv.Zm x) S1);cases t:Pv.Zm x with
  |none=>rw[t]at h2;exact h2
  |some n=>
   rw[t]at h2;have h3:End X.K xw Rep O H Q (if n then Pv.pv C i l S1 else Pv.pv C j l S1):=h2
   intro ρ1 H1 w f1 st1 e;have e':n=w:=e;subst e';cases n with|true=>exact#[ρ1,l,S1,st1,lr.mono f1,h3.mono f1]|false=>exact#[ρ1,l,S1,st1,lr.mono f1,h3.mono f1]
structure CWh(X:Cx)(xw:Nat->Hp->Prop)(C:Calls)(e:Expr)(i:E):Prop where
 h:PW X e (tB3 X xw<|Pv.XC C i)
def CWh.ct(h:CWh X xw C e i):CT X xw C e i:=.mk <| PW.pt h.h
def PW.imp(h:PW X e t)(k:∀U H Q,t' U H Q->t U H Q):PW X e t':=λwh pq s U H Q I q=>h wh pq s U H Q I<|k U H Q q
def Zbr(ha:CT X xw C a i):CWh X xw C (.BoolOp .Or [a] pos) i:=.mk <| ZbE ha.h
def Zba{rest:List Expr}(ha:CT X xw C a i)(hb:CWh X xw C (.BoolOp .Or (b::rest) pos) j):CWh X xw C (.BoolOp .Or (a::b::rest) pos) (.or i j):=.mk <| PW.imp (Zd4 ha.h hb.h)<|by
 rintro U H Q ⟨O,l,S,st,lr,h⟩;have h':End X.K xw Vd O H Q (((Pv.pv C i l S).bind λx S=>match x with|.bl c=>if c then .ok (.bl aj) S else Pv.pv C j l S|_=>.no).bind λx S=>Pv.po (Pv.Zm x) S):=h
 refine#[O,l,S,st,lr,?_];show End X.K xw Vd O H _ ((Pv.pv C i l S).bind λx S=>Pv.po (Pv.Zm x) S)
 cases q:Pv.pv C i l S with
 |no=>rw[q]at h';exact h'
 |ex c S1=>rw[q]at h';exact h'
 |ok x S1=>
  rw[q]at h';cases x with
  |bl n=>
   intro ρ1 H1 w f1 st1 e;have e':n=w:=e;subst e';cases n with|false=>exact#[ρ1,l,S1,st1,lr.mono f1,End.mono f1 (h')]|true=>exact(h') ρ1 H1 aj f1 st1 rfl
  |_=>exact False.elim h'
end
theorem VH{f:D->D->Option Bool}(hf:∀x y v b,Rep O H x v->Rep O H y v->f x y=aa b->b=aj):∀{ds es:List D}{xs:List V}{b:Bool},Reps O H ds xs->Reps O H es xs->Pv.Ye f ds es=aa b->b=aj
 |[],[],_,b,_,_,h=>(ai h).symm
 |d::ds,e::es,_,b,r1,r2,h=>by
  obtain⟨v,vs,rfl,a1,b1⟩:=r1;obtain⟨v',vs',e',a2,b2⟩:=r2;cases e';unfold Pv.Ye at h;cases q1:f d e with
  |none=>rw[q1]at h;cases h
  |some p=>
   cases q2:Pv.Ye f ds es with
   |none=>rw[q1,q2]at h;cases h
   |some q=>
    rw[q1,q2]at h;have h':=ai h;rw[<-h',hf d e v p a1 a2 q1,VH hf b1 b2 q2];rfl
 |[],_::_,_,b,r1,r2,h=>by
  have l1:=r1.length;have l2:=r2.length;rw[l1]at l2;simp at l2
 |_::_,[],_,b,r1,r2,h=>by
  have l1:=r1.length;have l2:=r2.length;rw[l1]at l2;simp at l2
def Rep.sc{x y:D}{v:V}(r1:Rep O H x v)(r2:Rep O H y v)(h:∀a,v≠.ref a):x=y:=by
 cases x<;>cases y<;>unfold Rep at r1 r2<;>subst_vars<;>first
  |rfl
  |(cases r2;rfl)
  |(cases r1;rfl)
  |(obtain⟨a,z,_⟩:=r1;exact T7 z<|h a)
  |(obtain⟨a,z,_⟩:=r2;exact T7 z<|h a)
  |(obtain⟨a,_,z,_⟩:=r1;exact T7 z<|h a)
  |(obtain⟨a,_,z,_⟩:=r2;exact T7 z<|h a)
  |cases r1
  |cases r2
def uz{k:Nat}{x:D}{v:V}{b:Bool}(r:Rep O H x v)(hv:∀a,v≠.ref a)(h:Pv.eqV (k+1) x x=aa b):b=aj:=by
 cases x<;>first
  |exact(ai h).symm
  |(rw[<-ai h];exact T5 rfl)
  |exact Ev.nos h
  |(obtain⟨a,_,z,_⟩:=r.tup';exact T7 z<|hv a)
  |(obtain⟨a,_,z,_⟩:=r.lst';exact T7 z<|hv a)
theorem Rep.ref{x:D}{p:aK}(r:Rep O H x (.ref p)){y:D}{k:Nat}{b:Bool}(h:Pv.eqV (k+1) x y=aa b\/Pv.eqV (k+1) y x=aa b):(∃ds es,x=.tup ds/\y=.tup es)\/∃ds es,x=.lst ds/\y=.lst es:=by
 cases x with
 |tup ds=>cases y<;>first|exact .inl #[_,_,rfl,rfl]|(rcases h with h|h<;>exact Ev.nos h)
 |lst ds=>cases y<;>first|exact .inr #[_,_,rfl,rfl]|(rcases h with h|h<;>exact Ev.nos h)
 |non=>cases r.non'
 |bl _=>cases r.bl'
 |int _=>cases r.int'
 |str _=>cases r.str'
 |_=>cases y<;>rcases h with h|h<;>exact Ev.nos h
theorem Wh:∀(k:Nat)(x y:D)(v:V)(b:Bool),Rep O H x v->Rep O H y v->Pv.eqV k x y=aa b->b=aj
 |0,_,_,_,_,_,_,h=>by cases h
 |k+1,x,y,v,b,r1,r2,h=>by
  by_cases hv:∃a,v=.ref a
  .obtain⟨p,rfl⟩:=hv
   rcases r1.ref (.inl h)with⟨ds,es,rfl,rfl⟩|⟨ds,es,rfl,rfl⟩
   .obtain⟨_,_,z,e1,q1⟩:=r1.tup'
    cases z;obtain⟨_,_,z,e2,q2⟩:=r2.tup';cases z;rw[e1]at e2;cases e2;exact VH (λx y v b=>Wh k x y v b) q1 q2 h
   .obtain⟨_,_,z,e1,_,q1⟩:=r1.lst'
    cases z;obtain⟨_,_,z,e2,_,q2⟩:=r2.lst';cases z;rw[e1]at e2;cases e2;have h:(if ds.length=es.length then Pv.Ye (Pv.eqV k) ds es else aa ak)=aa b:=h
    rw[T9<|by rw[<-q1.length,q2.length]]at h
    exact VH (λx y v b=>Wh k x y v b) q1 q2 h
  .have hv:=λa z=>hv #[a,z]
   cases r1.sc r2 hv;exact uz r1 hv h
noncomputable def eAt(f:D->D->Option Bool)(ds es:List D)(j:Nat):Bool:=match ds[j]?,es[j]? with
 |some x,aa y=>(f x y).getD ak
 |_,_=>ak
theorem YI{f:D->D->Option Bool}:∀{ds es:List D}{b:Bool},Pv.Ye f ds es=aa b->
  ((aA<|pj ds.length es.length).all (eAt f ds es)&&ds.length == es.length)=b/\∀j x y,ds[j]?=aa x->es[j]?=aa y->f x y=aa (eAt f ds es j)
 |[],[],b,h=>#[ai h,λj x y e=>by simp at e]
 |[],_::es,b,h=>#[by rw[<-ai h];simp,λj x y e=>by simp at e]
 |_::ds,[],b,h=>#[by rw[<-ai h];simp,λj x y _ e=>by simp at e]
 |d::ds,e::es,b,h=>by
  unfold Pv.Ye at h;cases q1:f d e with
  |none=>rw[q1]at h;cases h
  |some p=>
   cases q2:Pv.Ye f ds es with
   |none=>rw[q1,q2]at h;cases h
   |some q=>
    rw[q1,q2]at h;obtain⟨ih,ih2⟩:=YI q2;have h':=ai h;have e0:eAt f (d::ds) (e::es) 0=p:=by simp[eAt,q1]
    have es':∀j,eAt f (d::ds) (e::es) (j+1)=eAt f ds es j:=λj=>by simp[eAt]
    refine#[?_,λj x y hx hy=>?_]
    .rw[<-h',<-ih,aE,aE,Nat.succ_min_succ,lw,g7,e0,iC]
     have:((aA<|pj ds.length es.length).all<|eAt f (d::ds) (e::es)∘Nat.succ)=(aA<|pj ds.length es.length).all (eAt f ds es):=by
      exact congrArg (λg=>(aA<|pj ds.length es.length).all g)<|funext λj=>es' j
     rw[this,Bool.and_assoc]
     congr 2
     simp
    .cases j with
     |zero=>
      simp at hx hy;subst hx hy;rw[e0];exact q1
     |succ j=>
      rw[es' j];exact ih2 j x y (by simpa using hx) (by simpa using hy)
def in1_units{A:b8}{k:Nat}(h:A.units+(k+1)<c7):A.in1.units+k<c7:=by
 have e:A.in1.units<=A.units+1:=by
  first|exact aM _|(simp[b8.in1,b8.units]<;>lia)
 lia
theorem QL(I:Inv X pq U H s):∀(k:Nat)(A:b8)(x y:D)(v u:V)(vv uu:al)(b:Bool),A.units+k<c7->Rep O H x v->Rep O H y u->Zu v vv->Zu u uu->Pv.eqV k x y=aa b->fE A s vv uu b
 |0,_,_,_,_,_,_,_,_,_,_,_,_,_,h=>by cases h
 |k+1,A,x,y,v,u,vv,uu,b,hu,r1,r2,e1,e2,h=>by
  have flat:z5 v=aj->z5 u=aj->eqV v u=b->fE A s vv uu b:=λf1 f2 e=>by rw[<-e];exact Zcx e1 e2 f1 f2
  have bb:∀{a c:Bool},(a == c)=ag (a=c):=λ{a c}=>by cases a<;>cases c<;>rfl
  have ii:∀{a c:Int},(a == c)=ag (a=c):=λ{a c}=>by rw[bW];simp
  have ss:∀{a c:bE},(a == c)=ag (a=c):=λ{a c}=>by rw[bW];simp
  have item:∀{ds es:List D}{xs ys:List V}(j:Nat)(its its2:List al)(j1:j<its.toArray.size)(j2:j<its2.toArray.size),its.toArray.size=ds.length->its2.toArray.size=es.length->Vals xs its->Vals ys its2->Reps O H ds xs->Reps O H es ys->(∀j x y,ds[j]?=aa x->es[j]?=aa y->Pv.eqV k x y=aa (eAt (Pv.eqV k) ds es j))->fE A.in1 s its.toArray[j] its2.toArray[j] (eAt (Pv.eqV k) ds es j):=λ{ds es xs ys} j its its2 j1 j2 n1 n2 v1 v2 q1 q2 ea=>by
   have d1:ds[j]?=aa ds[j]:=af (by lia)
   have d2:es[j]?=aa es[j]:=af (by lia)
   obtain⟨w1,g1,z1⟩:=q1.get d1;obtain⟨w2,g2,z2⟩:=q2.get d2;obtain⟨m1,k1,y1⟩:=v1.get g1;obtain⟨m2,k2,y2⟩:=v2.get g2;have o1:its.toArray[j]=m1:=by simpa using(a9.mp k1).2
   have o2:its2.toArray[j]=m2:=by simpa using(a9.mp k2).2
   rw[o1,o2];exact QL I k A.in1 ds[j] es[j] w1 w2 m1 m2 _ (in1_units hu) z1 z2 y1 y2<|ea j _ _ d1 d2
  cases x with
  |non=>
   cases r1.non';cases y with|non=>cases r2.non';exact flat rfl rfl<|ai h|bl _=>cases r2.bl';exact flat rfl rfl<|ai h|int _=>cases r2.int';exact flat rfl rfl<|ai h|str _=>cases r2.str';exact flat rfl rfl<|ai h|_=>exact Ev.nos h
  |bl i=>
   cases r1.bl';cases y with|non=>cases r2.non';exact flat rfl rfl<|ai h|bl _=>cases r2.bl';exact flat rfl rfl<|bb.trans<|ai h|int _=>cases r2.int';exact flat rfl rfl<|ii.trans<|ai h|str _=>cases r2.str';exact flat rfl rfl<|ai h|_=>exact Ev.nos h
  |int i=>
   cases r1.int';cases y with|non=>cases r2.non';exact flat rfl rfl<|ai h|bl _=>cases r2.bl';exact flat rfl rfl<|ii.trans<|ai h|int _=>cases r2.int';exact flat rfl rfl<|ii.trans<|ai h|str _=>cases r2.str';exact flat rfl rfl<|ai h|_=>exact Ev.nos h
  |str i=>
   cases r1.str';cases y with|non=>cases r2.non';exact flat rfl rfl<|ai h|bl _=>cases r2.bl';exact flat rfl rfl<|ai h|int _=>cases r2.int';exact flat rfl rfl<|ai h|str _=>cases r2.str';exact flat rfl rfl<|ss.trans<|ai h|_=>exact Ev.nos h
  |tup ds=>
   obtain⟨p,xs,rfl,hp,q1⟩:=r1.tup';cases e1;cases y with
   |tup es=>
    obtain⟨p',ys,rfl,hp',q2⟩:=r2.tup';cases e2;by_cases hpp:p=p'
    .subst hpp
     rw[Wh (k+1) (.tup ds) (.tup es) (.ref p) b r1 r2 h];exact hV _
    .obtain⟨its,v1,t1,_⟩:=I.tuple (SqT.of hp)
     obtain⟨its2,v2,t2,_⟩:=I.tuple<|SqT.of hp';have h':=h;obtain⟨ev,ea⟩:=YI h';have n1:its.toArray.size=ds.length:=by rw[ay,<-v1.length,q1.length]
     have n2:its2.toArray.size=es.length:=by rw[ay,<-v2.length,q2.length]
     refine iO hpp ?_;rw[<-ev,<-n1,<-n2];exact kg t1 t2 (by lia) λj j1 j2=>item j its its2 j1 j2 n1 n2 v1 v2 q1 q2 ea
   |_=>exact Ev.nos h
  |lst ds=>
   obtain⟨p,xs,rfl,u1,_,q1⟩:=r1.lst';cases e1;cases y with
   |lst es=>
    obtain⟨p',ys,rfl,u2,_,q2⟩:=r2.lst';cases e2;by_cases hpp:p=p'
    .subst hpp
     rw[Wh (k+1) (.lst ds) (.lst es) (.ref p) b r1 r2 h];exact hV _
    .obtain⟨its,v1,p1,_⟩:=I.list (SqL.of u1)
     obtain⟨its2,v2,p2,_⟩:=I.list<|SqL.of u2;have n1:its.toArray.size=ds.length:=by rw[ay,<-v1.length,q1.length]
     have n2:its2.toArray.size=es.length:=by rw[ay,<-v2.length,q2.length]
     refine iO hpp ?_;have h2:(if ds.length=es.length then Pv.Ye (Pv.eqV k) ds es else aa ak)=aa b:=h
     by_cases hl:ds.length=es.length
     .rw[T9 hl]at h2
      obtain⟨ev,ea⟩:=YI h2;have ev':(aA ds.length).all (eAt (Pv.eqV k) ds es)=b:=by
       rw[<-ev,<-hl,nu];simp
      rw[<-ev',<-n1];exact nY p1.isList p2.isList (by lia) (by lia) λj j1 j2=>item j its its2 j1 j2 n1 n2 v1 v2 q1 q2 ea
     .rw[T8 hl]at h2
      rw[<-ai h2];exact ku p1.isList p2.isList (bne_iff_ne.mpr<|by lia) (by lia)
   |_=>exact Ev.nos h
  |_=>exact Ev.nos h
def Wm(I:Inv X pq U H s){k:Nat}{A:b8}{ds es:List D}{xs ys:List V}{its its2:List al}{b:Bool}(hu:A.units+(k+1)<c7)
  (q1:Reps O H ds xs)(q2:Reps O H es ys)(v1:Vals xs its)(v2:Vals ys its2)(h:Pv.Ye (Pv.eqV k) ds es=aa b) :
  ∀j (h1:j<its.toArray.size) (h2:j<its2.toArray.size),fE A.in1 s its.toArray[j] its2.toArray[j] (eAt (Pv.eqV k) ds es j):=λj j1 j2=>by
 obtain⟨_,ea⟩:=YI h;have n1:its.toArray.size=ds.length:=by rw[ay,<-v1.length,q1.length]
 have n2:its2.toArray.size=es.length:=by rw[ay,<-v2.length,q2.length]
 have d1:ds[j]?=aa ds[j]:=af (by lia)
 have d2:es[j]?=aa es[j]:=af (by lia)
 obtain⟨w1,g1,z1⟩:=q1.get d1;obtain⟨w2,g2,z2⟩:=q2.get d2;obtain⟨m1,k1,y1⟩:=v1.get g1;obtain⟨m2,k2,y2⟩:=v2.get g2;have o1:its.toArray[j]=m1:=by
  have:=a9.mp k1
  simpa using this.2
 have o2:its2.toArray[j]=m2:=by
  have:=a9.mp k2
  simpa using this.2
 rw[o1,o2];exact QL I k A.in1 ds[j] es[j] w1 w2 m1 m2 _ (in1_units hu) z1 z2 y1 y2<|ea j _ _ d1 d2
def jP(K:am)(xw:Nat->Hp->Prop)(op:Cop):R2:=λv u H Q=>∃O S x y,St3 K O S H/\Rep O H x v/\Rep O H y u/\End K xw Rep O H Q (Pv.po (Pv.Yk op x y) S)
def ZcJ :∀U H Q,tE X xw (Pv.pv C<|.cmp op i j) U H Q->tOp (jP X.K xw op) (tE X xw<|Pv.pv C i) (tE X xw<|Pv.pv C j) U H Q:=λU H Q h=>
 Xc (λ{O H S x y v u Q} st rx ry h=>#[O,S,x,y,st,rx,ry,h]) U H Q h
def dI{a c:Int}:(a == c)=ag (a=c):=by rw[bW];simp
def yT{H:Hp}{O:Mx}{k:Nat}{x y:D}{v u:V}{b:Bool}(rx:Rep O H x v)(ry:Rep O H y u)(hb:Pv.eqV (k+1) x y=aa b):(scal v u=aj/\ag (v=u)=b)\/(∃i j,v=.bl i/\u=.int j/\ag (Ev.b2i i=j)=b)\/(∃i j,v=.int i/\u=.bl j/\ag (i=Ev.b2i j)=b)\/(∃ds es,x=.tup ds/\y=.tup es/\Pv.Ye (Pv.eqV k) ds es=aa b)\/∃ds es,x=.lst ds/\y=.lst es/\(if ds.length=es.length then Pv.Ye (Pv.eqV k) ds es else aa ak)=aa b:=by
 cases x with
 |non=>cases rx.non';cases y with|non=>cases ry.non';exact .inl #[rfl,ai hb▸by simp]|bl _=>cases ry.bl';exact .inl #[rfl,ai hb]|int _=>cases ry.int';exact .inl #[rfl,ai hb]|str _=>cases ry.str';exact .inl #[rfl,ai hb]|_=>exact Ev.nos hb
 |bl i=>cases rx.bl';cases y with|non=>cases ry.non';exact .inl #[rfl,ai hb]|bl j=>cases ry.bl';exact .inl #[rfl,ai hb▸by simp]|int j=>cases ry.int';exact .inr<|.inl #[i,j,rfl,rfl,ai hb]|str _=>cases ry.str';exact .inl #[rfl,ai hb]|_=>exact Ev.nos hb
 |int i=>cases rx.int';cases y with|non=>cases ry.non';exact .inl #[rfl,ai hb]|bl j=>cases ry.bl';exact .inr<|.inr<|.inl #[i,j,rfl,rfl,ai hb]|int _=>cases ry.int';exact .inl #[rfl,ai hb▸by simp]|str _=>cases ry.str';exact .inl #[rfl,ai hb]|_=>exact Ev.nos hb
 |str i=>cases rx.str';cases y with|non=>cases ry.non';exact .inl #[rfl,ai hb]|bl _=>cases ry.bl';exact .inl #[rfl,ai hb]|int _=>cases ry.int';exact .inl #[rfl,ai hb]|str _=>cases ry.str';exact .inl #[rfl,ai hb▸by simp]|_=>exact Ev.nos hb
 |tup ds=>cases y with|tup es=>exact .inr<|.inr<|.inr<|.inl #[ds,es,rfl,rfl,hb]|_=>exact Ev.nos hb
 |lst ds=>cases y with|lst es=>exact .inr<|.inr<|.inr<|.inr #[ds,es,rfl,rfl,hb]|_=>exact Ev.nos hb
 |_=>exact Ev.nos hb
def Zb0(hu:X.A.units+6<c7):OpR X (cF .Eq) (jP X.K xw .eq):=by
 intro pq s U H v u vv uu Q I e1 e2 h;obtain⟨O,S,x,y,st,rx,ry,h⟩:=h;obtain⟨b,hb,h1⟩:=End.map h;have q:=End.ok h1 st<|Yd b;rcases yT rx ry hb with⟨hs,e⟩|⟨i,j,rfl,rfl,e⟩|⟨i,j,rfl,rfl,e⟩|⟨ds,es,rfl,rfl,hb'⟩|⟨ds,es,rfl,rfl,h2⟩
 .exact Zdd pq s U H v u vv uu Q I e1 e2 #[hs,by rw[e];exact q]
 .cases e1
  obtain⟨t,rfl⟩:=e2;refine EqBoolInt.eq_bool_int #[.bl b,H,I,?_,q];show cS ((if i then 1 else 0) == j)=cS b
  rw[dI];exact congrArg cS e
 .cases e2
  obtain⟨t,rfl⟩:=e1;refine EqBoolInt.eq_int_bool #[.bl b,H,I,?_,q];show cS (i == (if j then 1 else 0))=cS b
  rw[dI];exact congrArg cS e
 ·
  obtain⟨p,xs,rfl,hp,q1⟩:=rx.tup';cases e1;obtain⟨p',ys,rfl,hp',q2⟩:=ry.tup';cases e2;obtain⟨its,v1,t1,_⟩:=I.tuple<|SqT.of hp;obtain⟨its2,v2,t2,_⟩:=I.tuple<|SqT.of hp';obtain⟨ev,_⟩:=YI hb';have n1:its.toArray.size=ds.length:=by rw[ay,<-v1.length,q1.length]
  have n2:its2.toArray.size=es.length:=by rw[ay,<-v2.length,q2.length]
  refine kg t1 t2 (by lia) (Wm I hu q1 q2 v1 v2 hb') X.prog X.w X.xe _ ?_
  rw[n1,n2,ev];exact#[.bl b,H,I,rfl,q]
 ·
  obtain⟨p,xs,rfl,u1,_,q1⟩:=rx.lst';cases e1;obtain⟨p',ys,rfl,u2,_,q2⟩:=ry.lst';cases e2;obtain⟨its,v1,p1,_⟩:=I.list<|SqL.of u1;obtain⟨its2,v2,p2,_⟩:=I.list<|SqL.of u2;have n1:its.toArray.size=ds.length:=by rw[ay,<-v1.length,q1.length]
  have n2:its2.toArray.size=es.length:=by rw[ay,<-v2.length,q2.length]
  by_cases hl:ds.length=es.length
  .rw[T9 hl]at h2
   obtain⟨ev,_⟩:=YI h2;have ev':(aA ds.length).all (eAt (Pv.eqV 5) ds es)=b:=by
    rw[<-ev,<-hl,nu];simp
   refine nY p1.isList p2.isList (by lia) (by lia) (Wm I hu q1 q2 v1 v2 h2) X.prog X.w X.xe _ ?_
   rw[n1,ev'];exact#[.bl b,H,I,rfl,q]
  .rw[T8 hl]at h2
   refine ku p1.isList p2.isList (bne_iff_ne.mpr<|by lia) (by lia) X.prog X.w X.xe _ ?_
   exact#[.bl b,H,I,congrArg cS<|ai h2,q]
def ZbO(hu:X.A.units+6<c7):OpR X (cF .NotEq) (jP X.K xw .ne):=by
 intro pq s U H v u vv uu Q I e1 e2 h;obtain⟨O,S,x,y,st,rx,ry,h⟩:=h;obtain⟨b,hb,h1⟩:=End.map h;have q:=End.ok h1 st<|Yd _;rcases yT rx ry hb with⟨hs,e⟩|⟨i,j,rfl,rfl,e⟩|⟨i,j,rfl,rfl,e⟩|⟨ds,es,rfl,rfl,hb'⟩|⟨ds,es,rfl,rfl,h2⟩
 .exact Zd7 pq s U H v u vv uu Q I e1 e2 #[hs,by rw[e];exact q]
 .cases e1
  obtain⟨t,rfl⟩:=e2;refine EqBoolInt.ne_bool_int #[.bl !b,H,I,?_,q];show cS (!((if i then 1 else 0) == j))=cS !b
  rw[dI];exact congrArg (λz=>cS !z) e
 .cases e2
  obtain⟨t,rfl⟩:=e1;refine EqBoolInt.ne_int_bool #[.bl !b,H,I,?_,q];show cS (!(i == (if j then 1 else 0)))=cS !b
  rw[dI];exact congrArg (λz=>cS !z) e
 ·
  obtain⟨p,xs,rfl,hp,q1⟩:=rx.tup';cases e1;obtain⟨p',ys,rfl,hp',q2⟩:=ry.tup';cases e2;obtain⟨its,v1,t1,_⟩:=I.tuple<|SqT.of hp;obtain⟨its2,v2,t2,_⟩:=I.tuple<|SqT.of hp';obtain⟨ev,_⟩:=YI hb';have n1:its.toArray.size=ds.length:=by rw[ay,<-v1.length,q1.length]
  have n2:its2.toArray.size=es.length:=by rw[ay,<-v2.length,q2.length]
  refine SeqAt.RcNeAt.tuples t1 t2 (by lia) (Wm I hu q1 q2 v1 v2 hb') X.prog X.w X.xe _ ?_
  rw[n1,n2,ev];exact#[.bl !b,H,I,rfl,q]
 ·
  obtain⟨p,xs,rfl,u1,_,q1⟩:=rx.lst';cases e1;obtain⟨p',ys,rfl,u2,_,q2⟩:=ry.lst';cases e2;obtain⟨its,v1,p1,_⟩:=I.list<|SqL.of u1;obtain⟨its2,v2,p2,_⟩:=I.list<|SqL.of u2;have n1:its.toArray.size=ds.length:=by rw[ay,<-v1.length,q1.length]
  have n2:its2.toArray.size=es.length:=by rw[ay,<-v2.length,q2.length]
  by_cases hl:ds.length=es.length
  .rw[T9 hl]at h2
   obtain⟨ev,_⟩:=YI h2;have ev':(aA ds.length).all (eAt (Pv.eqV 5) ds es)=b:=by
    rw[<-ev,<-hl,nu];simp
   refine SeqAt.RcNeAt.lists p1.isList p2.isList (by lia) (by lia) (Wm I hu q1 q2 v1 v2 h2) X.prog X.w X.xe _ ?_
   rw[n1,ev'];exact#[.bl !b,H,I,rfl,q]
  .rw[T8 hl]at h2
   refine SeqAt.RcNeAt.lists_lengths p1.isList p2.isList (bne_iff_ne.mpr<|by lia) (by lia) X.prog X.w X.xe _ ?_
   exact#[.bl !b,H,I,congrArg (λz=>cS !z)<|ai h2,q]
theorem Qz(hf:∀x x' y v b b',Rep O H x v->Rep O H x' v->f x y=aa b->f x' y=aa b'->b=b') :
  ∀{ds ds' es:List D}{xs:List V}{b b':Bool},Reps O H ds xs->Reps O H ds' xs->Pv.Ye f ds es=aa b->Pv.Ye f ds' es=aa b'->b=b'
 |[],[],[],_,b,b',_,_,h,h'=>(ai h).symm.trans<|ai h'
 |[],[],_::_,_,b,b',_,_,h,h'=>(ai h).symm.trans<|ai h'
 |_::_,_::_,[],_,b,b',_,_,h,h'=>(ai h).symm.trans<|ai h'
 |d::ds,d'::ds',e::es,_,b,b',r1,r2,h,h'=>by
  obtain⟨v,vs,rfl,a1,b1⟩:=r1;obtain⟨v',vs',e',a2,b2⟩:=r2;cases e';unfold Pv.Ye at h h';cases q1:f d e with
  |none=>rw[q1]at h;cases h
  |some p=>
   cases q2:Pv.Ye f ds es with
   |none=>rw[q1,q2]at h;cases h
   |some q=>
    cases q3:f d' e with
    |none=>rw[q3]at h';cases h'
    |some p'=>
     cases q4:Pv.Ye f ds' es with
     |none=>rw[q3,q4]at h';cases h'
     |some q'=>
      rw[q1,q2]at h;rw[q3,q4]at h';have z1:=ai h;have z2:=ai h';rw[<-z1,<-z2,hf d d' e v p p' a1 a2 q1 q3,Qz hf b1 b2 q2 q4]
 |[],_::_,_,_,b,b',r1,r2,_,_=>by
  have l1:=r1.length;have l2:=r2.length;rw[l1]at l2;simp at l2
 |_::_,[],_,_,b,b',r1,r2,_,_=>by
  have l1:=r1.length;have l2:=r2.length;rw[l1]at l2;simp at l2
theorem Vl:∀(k:Nat)(x x' y:D)(v:V)(b b':Bool),Rep O H x v->Rep O H x' v->Pv.eqV k x y=aa b->Pv.eqV k x' y=aa b'->b=b'
 |0,_,_,_,_,_,_,_,_,h,_=>by cases h
 |k+1,x,x',y,v,b,b',r1,r2,h,h'=>by
  by_cases hv:∃a,v=.ref a
  .obtain⟨p,rfl⟩:=hv
   rcases r1.ref (.inl h)with⟨ds,es,rfl,rfl⟩|⟨ds,es,rfl,rfl⟩<;>rcases r2.ref (.inl h')with⟨ds',es',rfl,z⟩|⟨ds',es',rfl,z⟩<;>cases z
   .obtain⟨_,_,z,e1,q1⟩:=r1.tup'
    cases z;obtain⟨_,_,z,e2,q2⟩:=r2.tup';cases z;rw[e1]at e2;cases e2;exact Qz (λx x' y v b b'=>Vl k x x' y v b b') q1 q2 h h'
   .obtain⟨_,_,z,e1,_,q1⟩:=r1.lst'
    cases z;obtain⟨_,_,z,e2,_,q2⟩:=r2.lst';cases z;rw[e1]at e2;cases e2;have l:ds'.length=ds.length:=by rw[<-q1.length,q2.length]
    have h:(if ds.length=es.length then Pv.Ye (Pv.eqV k) ds es else aa ak)=aa b:=h
    have h':(if ds'.length=es.length then Pv.Ye (Pv.eqV k) ds' es else aa ak)=aa b':=h'
    rw[l]at h';by_cases c:ds.length=es.length
    .rw[T9 c]at h h'
     exact Qz (λx x' y v b b'=>Vl k x x' y v b b') q1 q2 h h'
    .rw[T8 c]at h h'
     exact ai<|h.symm.trans h'
  .cases r1.sc r2 λa z=>hv #[a,z]
   exact ai<|h.symm.trans h'
theorem Vi :∀{ds:List D}{b:Bool},Pv.YR x ds=aa b->∀d∈ds,∃c,Pv.eqV Ev.Zi d x=aa c
 |[],_,_,d,hd=>by cases hd
 |y::ys,b,h,d,hd=>by
  unfold Pv.YR at h;cases q1:Pv.eqV Ev.Zi y x with
  |none=>rw[q1]at h;cases h
  |some p=>
   cases q2:Pv.YR x ys with
   |none=>rw[q1,q2]at h;cases h
   |some q=>
    rcases aC.mp hd with rfl|hd
    .exact#[p,q1]
    .exact Vi q2 d hd
theorem yj :∀{ds:List D}{b:Bool},Pv.YR x ds=aa b->(ds.any λd=>(Pv.eqV Ev.Zi d x).getD ak)=b
 |[],_,h=>ai h
 |y::ys,b,h=>by
  unfold Pv.YR at h;cases q1:Pv.eqV Ev.Zi y x with
  |none=>rw[q1]at h;cases h
  |some p=>
   cases q2:Pv.YR x ys with
   |none=>rw[q1,q2]at h;cases h
   |some q=>
    rw[q1,q2]at h;rw[mI,yj q2,q1,<-ai h];rfl
open Classical in
def Wi(I:Inv X pq U H s)(hu:A.units+6<c7)(rx:Rep O H x v)(ex:Zu v vv)
  (q:Reps O H ds xs)(vs:Vals xs its)(h:Pv.YR x ds=aa b):∃e:al->Bool,(∀u,u∈its.toArray->fE A s u vv (e u))/\its.toArray.any e=b:=by
 refine#[λu=>ag (∃d∈ds,∃w,Rep O H d w/\Zu w u/\Pv.eqV Ev.Zi d x=aa aj),λu hu'=>?_,?_]
 .have hu2:u∈its:=by simpa using hu'
  obtain⟨j,hj,e⟩:=bv hu2;have hl:j<ds.length:=by rw[<-q.length,vs.length];exact hj
  obtain⟨w,g,r⟩:=q.get<|af hl;obtain⟨u',g',r'⟩:=vs.get g;have eu:u'=u:=by
   rw[af hj]at g';exact(ai g').symm.trans e
  subst eu;obtain⟨c,hc⟩:=Vi h ds[j]<|aR hl;have ec:ag (∃d∈ds,∃w,Rep O H d w/\Zu w u'/\Pv.eqV Ev.Zi d x=aa aj)=c:=by
   cases c with
   |true=>exact T5 #[ds[j],aR hl,w,r,r',hc]
   |false=>
    refine T4 ?_
    rintro ⟨d,hd,w',a1,a2,a3⟩
    cases a2.inj r';exact T7 (Vl 6 d ds[j] x w aj ak a1 r a3 hc) (by decide)
  dsimp only
  rw[ec];exact QL I 6 A ds[j] x w v u' vv c hu r rx r' ex hc
 .rw[<-yj h,List.any_toArray,bW,kO,kO]
  constructor
  .rintro ⟨u,hu1,h1⟩
   obtain⟨d,hd,w,a1,a2,a3⟩:=T6 h1;exact#[d,hd,by rw[a3];rfl]
  .rintro ⟨d,hd,h1⟩
   obtain⟨j,hj,e⟩:=bv hd;subst e;obtain⟨w,g,r⟩:=q.get<|af hj;obtain⟨u,g',r'⟩:=vs.get g;refine#[u,da g',T5 #[ds[j],hd,w,r,r',?_]];obtain⟨c,hc⟩:=Vi h ds[j] hd;rw[hc]at h1 ⊢;exact congrArg aa h1
section
variable{X:Cx}{xw:Nat->Hp->Prop}{C:Calls}{e a b c:Expr}{i j k:E}{pos p p':iA}
def Zbm(hu:X.A.units+7<c7):OpR X (cF .In) (λv u H Q=>∃O S x ds b,St3 X.K O S H/\Rep O H x v/\(Rep O H (.tup ds) u\/Rep O H (.lst ds) u)/\Pv.YR x ds=aa b/\Q (.bl b) H):=by
 intro pq s U H v u vv uu Q I e1 e2 h;obtain⟨O,S,x,ds,b,st,rx,ry,hb,q⟩:=h;rcases ry with ry|ry
 .obtain⟨p,xs,rfl,hp,q1⟩:=ry.tup'
  cases e2;obtain⟨its,v1,t1,_⟩:=I.tuple<|SqT.of hp;obtain⟨f,h1,h2⟩:=Wi I (in1_units hu) rx e1 q1 v1 hb;exact SeqAt.in_tupleAt f t1 h1 (by rw[h2];exact#[.bl b,H,I,rfl,q])
 .obtain⟨p,xs,rfl,hx,_,q1⟩:=ry.lst'
  cases e2;obtain⟨its,v1,t1,_⟩:=I.list<|SqL.of hx;obtain⟨f,h1,h2⟩:=Wi I (in1_units hu) rx e1 q1 v1 hb;exact SeqAt.in_listAt f t1.isList h1 (by rw[h2];exact#[.bl b,H,I,rfl,q])
def jX(hu:X.A.units+7<c7):OpR X (cF .NotIn) (λv u H Q=>∃O S x ds b,St3 X.K O S H/\Rep O H x v/\(Rep O H (.tup ds) u\/Rep O H (.lst ds) u)/\Pv.YR x ds=aa b/\Q (.bl !b) H):=by
 intro pq s U H v u vv uu Q I e1 e2 h;obtain⟨O,S,x,ds,b,st,rx,ry,hb,q⟩:=h;rcases ry with ry|ry
 .obtain⟨p,xs,rfl,hp,q1⟩:=ry.tup'
  cases e2;obtain⟨its,v1,t1,_⟩:=I.tuple<|SqT.of hp;obtain⟨f,h1,h2⟩:=Wi I (in1_units hu) rx e1 q1 v1 hb;exact SeqAt.notIn_tupleAt f t1 h1 (by rw[h2];exact#[.bl !b,H,I,rfl,q])
 .obtain⟨p,xs,rfl,hx,_,q1⟩:=ry.lst'
  cases e2;obtain⟨its,v1,t1,_⟩:=I.list<|SqL.of hx;obtain⟨f,h1,h2⟩:=Wi I (in1_units hu) rx e1 q1 v1 hb;exact SeqAt.notIn_listAt f t1.isList h1 (by rw[h2];exact#[.bl !b,H,I,rfl,q])
variable{O:Mx}{H:Hp}{S:Zo}{x y:D}{v u:V}{Q:VK}{K:am}
def Zae(h:Pv.int2 x y=aa z):x=.int z.1/\y=.int z.2:=by
 cases x<;>first|exact Ev.nos h|(cases y<;>first|exact Ev.nos h|(cases h;exact#[rfl,rfl]))
def Qx{f:Int×Int->Bool}(st:St3 K O S H)(rx:Rep O H x v)(ry:Rep O H y u)(h:End K xw Rep O H Q (Pv.po ((Pv.int2 x y).map λz=>.bl<|f z) S)):rI0 (λi j=>.bl<|f (i,j)) v u H Q:=by
 obtain⟨z,hz,h⟩:=End.map h;obtain⟨rfl,rfl⟩:=Zae hz;exact#[_,_,rx.int',ry.int',End.ok h st<|Yd _]
def Zdv(st:St3 K O S H)(rx:Rep O H x v)(ry:Rep O H y u)(h:End K xw Rep O H Q (Pv.po (Pv.Yk .lt x y) S)):rI0 (λi j=>.bl<|ag<|i<j) v u H Q\/∃a b A B,x=.tup a/\y=.tup b/\Pv.ZL a=aa A/\Pv.ZL b=aa B/\Q (.bl<|Ev.ltP A B) H:=by
 cases x with
 |tup a=>cases y with
  |tup b=>
   obtain⟨z,hz,h⟩:=End.po h;obtain⟨A,hA,hz⟩:=cR.mp hz;obtain⟨B,hB,rfl⟩:=bT.mp hz;exact .inr #[a,b,A,B,rfl,rfl,hA,hB,End.ok h st<|Yd _]
  |_=>exact False.elim h
 |_=>exact .inl<|Qx (f:=λz=>ag<|z.1<z.2) st rx ry h
end
section
variable{X:Cx}{xw:Nat->Hp->Prop}{C:Calls}{e a b c:Expr}{i j k:E}{pos p p':iA}
def Yj{B β γ:Type}(r:R B)(f:B->Zo->R β)(g:β->Zo->R γ):(r.bind f).bind g=r.bind λa S=>(f a S).bind g:=by cases r<;>rfl
def zB{B:Type}{o:Option B}{f:B->Bool}{z:D}(h:o.map (λa=>Pv.V.bl<|f a)=aa z):∃b,z=.bl b:=by
 obtain⟨a,_,rfl⟩:=bT.mp h;exact#[_,rfl]
def wy{o:Cop}{x y:D}{S S':Zo}{z:D}(h:Pv.po (Pv.Yk o x y) S=.ok z S'):∃b,z=.bl b:=by
 have h:Pv.Yk o x y=aa z:=by
  cases q:Pv.Yk o x y<;>rw[q]at h<;>cases h;rfl
 cases o with
 |lt=>
  cases x with
  |tup a=>
   cases y with|tup b=>obtain⟨A,_,h⟩:=cR.mp h;exact zB h|_=>exact Ev.nos h
  |int i=>exact zB h
  |_=>exact Ev.nos h
 |_=>exact zB h
def Y7(X:Cx)(xw:Nat->Hp->Prop)(op:CmpOp)(o:Cop):Prop:=OpR X (cF op)<|jP X.K xw o
def OpR.imp(h:OpR X f r)(k:∀v u H Q,r' v u H Q->r v u H Q):OpR X f r':=λpq s U H x y v u Q I e1 e2 q=>h pq s U H x y v u Q I e1 e2<|k x y H Q q
theorem uM(hu:X.A.units+7<c7):Y7 X xw .Eq .eq:=Zb0 (by lia)
theorem wS(hu:X.A.units+7<c7):Y7 X xw .NotEq .ne:=ZbO (by lia)
def UI(hu:X.A.units+7<c7):Y7 X xw .LtE .le:=OpR.imp ZdP<|by rintro v u H Q ⟨O,S,x,y,st,rx,ry,h⟩;exact Qx st rx ry h
def v9(hu:X.A.units+7<c7):Y7 X xw .Gt .gt:=OpR.imp ZdA<|by rintro v u H Q ⟨O,S,x,y,st,rx,ry,h⟩;exact Qx (f:=λz=>ag<|z.2<z.1) st rx ry h
def ug(hu:X.A.units+7<c7):Y7 X xw .GtE .ge:=OpR.imp ZdW<|by rintro v u H Q ⟨O,S,x,y,st,rx,ry,h⟩;exact Qx st rx ry h
def Jm{O:Mx}{H:Hp}{x y:D}{u:V}{b:Bool}(ry:Rep O H y u)(h:Pv.W2 x y=aa b) :
  (∃ds,(Rep O H (.tup ds) u\/Rep O H (.lst ds) u)/\Pv.YR x ds=aa b)\/
  (∃(l:List (List Int))(k:List D)(ks:List Int),(∃(p:aK)(vs:List (List Key×V)),u=.ref p/\Rd H p (.dT vs)/\vs.map (·.1)=l.map (·.map dH))/\x=.tup k/\Pv.intsV k=aa ks/\l.contains ks=b):=by
 cases y with
 |tup ys=>exact .inl #[ys,.inl ry,h]
 |lst ys=>exact .inl #[ys,.inr ry,h]
 |dct o=>
  cases o with
  |none=>exact Ev.nos h
  |some l=>
   cases x with
   |tup k=>
    obtain⟨ks,e,z⟩:=bT.mp h;obtain⟨p,e1,o,vs,e2,e3⟩:=ry.dct';exact .inr #[l,k,ks,#[p,vs,e1,.inr #[o,e2],e3],rfl,e,z]
   |_=>exact Ev.nos h
 |dow l=>
  cases x with
  |tup k=>
   obtain⟨ks,e,z⟩:=bT.mp h;obtain⟨p,vs,e1,e2,_,e3⟩:=ry.dow';exact .inr #[l,k,ks,#[p,vs,e1,.inl e2,e3],rfl,e,z]
  |_=>exact Ev.nos h
 |_=>exact Ev.nos h
def Xh{op:CmpOp}{o:Cop}(hc:Y7 X xw op o)(ha:CE X xw C a i)(hb:CE X xw C b j)(hm:eQ op b=ak):CE X xw C (.Compare a [op] [b] pos) (.cmp o i j):=.mk <|
 PE.imp (yB hc ha.h hb.h hm) (ZcJ)
def Xk{op:CmpOp}{o:Cop}(hc:Y7 X xw op o)(ha:CE X xw C a i)(hb:CE X xw C b j)(hm:eQ op b=ak):CT X xw C (.Compare a [op] [b] pos) (.cmp o i j):=.mk <|
 PT.imp (jK hc ha.h hb.h hm)<|by
  rintro U H Q ⟨O,l,S,st,lr,h⟩;have h':End X.K xw Vd O H Q (((Pv.pv C i l S).bind λx S=>(Pv.pv C j l S).bind λy S=>Pv.po (Pv.Yk o x y) S).bind λx S=>Pv.po (Pv.Zm x) S):=h
  simp only[Yj]at h';refine#[O,l,S,st,lr,h'.bind λx S1 ρ1 H1 v f1 st1 r1 h1=>#[ρ1,l,S1,st1,lr.mono f1,h1.bind λy S2 ρ2 H2 u f2 st2 r2 h2=>#[ρ2,S2,x,y,st2,r1.mono f2,r2,?_]]]
  have h3:∀{r:R D},(∀z S',r=.ok z S'->∃b,z=.bl b)->End X.K xw Vd ρ2 H2 Q (r.bind λx S=>Pv.po (Pv.Zm x) S)->End X.K xw Rep ρ2 H2 (λx H'=>∃k,x=V.bl k/\Q k H') r:=λ{r} hr h=>by
   cases r with
   |no=>exact h
   |ex _ _=>exact h
   |ok z S3=>
    obtain⟨b,rfl⟩:=hr z S3 rfl;exact λρ3 H3 w f3 st3 r3=>#[b,r3.bl',h ρ3 H3 b f3 st3 rfl]
  exact h3 (λz S' e=>wy e) h2
def Gy{op op':CmpOp}{o o':Cop}{d:Expr}{k:E}(hc:Y7 X xw op o)(hc':Y7 X xw op' o')(ha:CE X xw C a i)(hb:CE X xw C b j)(hd:CE X xw C d k)
  (hm:lastMarks [op,op'] [b,d]=ak):CE X xw C (.Compare a [op,op'] [b,d] pos) (.chain o o' i j k):=.mk <|
 PE.imp (ud hc hc' ha.h hb.h hd.h hm)<|by
  rintro U H Q ⟨O,l,S,st,lr,h⟩;refine#[O,l,S,st,lr,End.bind (show End X.K xw Rep O H Q ((Pv.pv C i l S).bind _)from h) λx S1 ρ1 H1 v f1 st1 r1 h1=>#[ρ1,l,S1,st1,lr.mono f1,h1.bind λy S2 ρ2 H2 u f2 st2 r2 h2=>#[ρ2,S2,x,y,st2,r1.mono f2,r2,h2.bind λz S3 ρ3 H3 w f3 st3 r3 h3=>?_]]]
  cases z with
  |bl n=>
   refine#[n,r3.bl',?_];cases n with|true=>exact#[ρ3,l,S3,st3,((lr.mono f1).mono f2).mono f3,End.bind (show End X.K xw Rep ρ3 H3 Q ((Pv.pv C k l S3).bind _)from h3) λt S4 ρ4 H4 t' f4 st4 r4 h4=>#[ρ4,S4,y,t,st4,(r2.mono f3).mono f4,r4,h4]]|false=>exact End.ok h3 st3<|Yd _
  |_=>exact False.elim h3
end
section
variable{X:Cx}{xw:Nat->Hp->Prop}{C:Calls}{e a b c:Expr}{i j k:E}{pos p p' p2:iA}
variable{O:Mx}{H:Hp}{S:Zo}{x y:D}{v u:V}{Q:VK}{K:am}
def UP{d:D}{ks:List D}{k:List Int}(h:Pv.intsV (d::ks)=aa k):∃n r,d=.int n/\Pv.intsV ks=aa r/\k=n::r:=by
 cases d<;>first|exact Ev.nos h|(obtain⟨r,e,z⟩:=bT.mp h;exact#[_,r,rfl,e,z.symm])
theorem WC:∀{ks:List D}{k:List Int}{xs:List V},Pv.intsV ks=aa k->Reps O H ks xs->xs=(k.map (dH:Int->Key)).map kV
 |[],k,xs,h,r=>by cases h;rw[r];rfl
 |d::ks,k,xs,h,r=>by
  obtain⟨v,vs,rfl,a1,b1⟩:=r;obtain⟨n,r,rfl,e,rfl⟩:=UP h;rw[a1.int',WC e b1];rfl
theorem zK:∀{k k':List Int},k.map (dH:Int->Key)=k'.map dH->k=k'
 |[],[],_=>rfl
 |[],_::_,h=>by simp at h
 |_::_,[],h=>by simp at h
 |a::k,b::k',h=>by
  rw[bz,bz]at h;injection h with h1 h2
  rw[dH.inj h1,zK h2]
def Qi{k:List Int}{l:List (List Int)}{vs:List (List Key×V)}(h:vs.map (·.1)=l.map (·.map (dH:Int->Key))):(VI vs<|k.map dH).isSome=l.contains k:=by
 rw[<-Jy,show(vs.any λkv=>ag<|kv.1=k.map dH)=(vs.map (·.1)).any λy=>ag (y=k.map dH) by rw[List.any_map];rfl,h,List.any_map,List.contains_eq_any_beq]
 congr 1
 funext y
 show ag (y.map dH=k.map dH)=(k == y);by_cases z:y=k
 .subst z;simp
 .rw[T4 λw=>z<|zK w,beq_eq_false_iff_ne.mpr<|Ne.symm z]
theorem ZcC(hu:X.A.units+7<c7):OpR X (cF .In) (λv u H Q=>∃a y o,u=.ref a/\v=y/\DGet H a y o/\Q (.bl o.isSome) H):=by
 intro pq s U H v u vv uu Q I e1 e2 h;obtain⟨a,y,o,rfl,rfl,g,q⟩:=h;cases e2;exact Zey (by lia) I g e1 λs' I'=>#[.bl o.isSome,H,I',rfl,q]
theorem jD(hu:X.A.units+7<c7):OpR X (cF .NotIn) (λv u H Q=>∃a y o,u=.ref a/\v=y/\DGet H a y o/\Q (.bl !o.isSome) H):=by
 intro pq s U H v u vv uu Q I e1 e2 h;obtain⟨a,y,o,rfl,rfl,g,q⟩:=h;cases e2;exact jr (by lia) I g e1 λs' I'=>#[.bl !o.isSome,H,I',rfl,q]
def qb(hu:X.A.units+7<c7):Y7 X xw .In .inn:=OpR.imp ((Zbm hu).or<|ZcC hu)<|by
 rintro v u H Q ⟨O,S,x,y,st,rx,ry,h⟩;obtain⟨b,hb,h⟩:=End.map h;have q:=End.ok h st<|Yd _;rcases Jm ry hb with⟨ds,hy,hb⟩|⟨l,k,ks,hy,rfl,hk,e⟩
 .exact .inl #[O,S,x,ds,b,st,rx,hy,hb,q]
 .obtain⟨p,vs,rfl,hx,r⟩:=hy
  obtain⟨a,xs,rfl,ha,r2⟩:=rx.tup';refine .inr #[p,.ref a,_,rfl,rfl,.inr #[vs,_,a,hx,rfl,by rw[ha,WC hk r2],rfl],?_]
  rw[Qi r,e];exact q
def zw(hu:X.A.units+7<c7):Y7 X xw .NotIn .nin:=OpR.imp ((jX hu).or<|jD hu)<|by
 rintro v u H Q ⟨O,S,x,y,st,rx,ry,h⟩;obtain⟨b,hb,h⟩:=End.map h;have q:=End.ok h st<|Yd _;rcases Jm ry hb with⟨ds,hy,hb⟩|⟨l,k,ks,hy,rfl,hk,e⟩
 .exact .inl #[O,S,x,ds,b,st,rx,hy,hb,q]
 .obtain⟨p,vs,rfl,hx,r⟩:=hy
  obtain⟨a,xs,rfl,ha,r2⟩:=rx.tup';refine .inr #[p,.ref a,_,rfl,rfl,.inr #[vs,_,a,hx,rfl,by rw[ha,WC hk r2],rfl],?_]
  rw[Qi r,e];exact q
def Zcz(r:Reps O H ds xs)(q:Ev.at' ds n=aa d):∃w,atI xs n=aa w/\Rep O H d w:=by
 obtain⟨m,q2,q⟩:=cR.mp q;obtain⟨w,g,rw'⟩:=r.get q;refine#[w,?_,rw'];unfold atI;rw[r.length,show ixN ds.length n=aa m from q2]
 exact g
def ZdO(ha:CE X xw C a i)(hb:CE X xw C b j)(hs:zP b):CE X xw C (.Subscript a b pos) (.ix i j):=.mk <| PE.imp (wK (Q2.or Zbk) ha.h hb.h hs) (Xc λ{O H S x y v u Q} st rx ry h=>by
 obtain⟨d,hd,g0⟩:=End.po h;have k:∃ds n,Pv.YF x=aa ds/\y=.int n/\Ev.at' ds n=aa d:=by
  cases y with
  |int n=>
   cases x with
   |tup ds=>exact#[ds,n,rfl,rfl,hd]
   |lst ds=>exact#[ds,n,rfl,rfl,hd]
   |scr ns=>
    obtain⟨z,e,rfl⟩:=bT.mp hd;obtain⟨m,q2,q⟩:=cR.mp e;refine#[_,n,rfl,rfl,?_];unfold Ev.at';rw[ap,q2];show(ns.map Pv.V.int)[m]?=_;rw[aH,q];rfl
   |_=>exact Ev.nos hd
  |_=>cases x<;>exact Ev.nos hd
 obtain⟨ds,n,e,rfl,hn⟩:=k;obtain⟨p,xs,rfl,hp,r⟩:=rx.seq e;obtain⟨w,g,rw'⟩:=Zcz r hn;rw[st.hk]at hp;have q:=End.ok g0 st rw';rcases hp with hp|hp
 .exact .inl #[p,xs,n,w,rfl,ry.int',hp,g,q]
 .exact .inr #[p,xs,n,w,rfl,ry.int',hp,g,q])
def qL:CO X xw C ae ae:=.mk <| PO.imp Zaq<|by rintro U H Q ⟨O,l,S,st,lr,h⟩;exact End.ok h st rfl
def Zam(h:CE X xw C e i):CO X xw C (aa e) (aa i):=.mk <| PO.imp (ZS h.h)<|by
 rintro U H Q ⟨O,l,S,st,lr,h⟩;refine#[O,l,S,st,lr,End.bind (h) λx S1 ρ1 H1 v f1 st1 r1 h1=>?_]
 cases x with|int n=>exact#[n,r1.int',End.ok h1 st1 rfl]|_=>exact False.elim h1
def Qv(n d:Nat)(o:Option Int):Ev.sIx n d o=HT.sIx n d o:=by
 cases o with
 |none=>rfl
 |some i=>first|rfl|(rfl)
def z7(r:Reps O H ds xs)(lo hi:Option Int):Reps O H (Pv.Yu ds lo hi) (Yu xs lo hi):=by
 unfold Pv.Yu Yu;rw[Qv,Qv,r.length];exact(r.drop _).take _
def Zdi{lo hi:Option Expr}{il ih:Option E}(ha:CE X xw C a i)(hl:CO X xw C lo il)(hh:CO X xw C hi ih):CE X xw C (.Subscript a (.Slice lo hi ae p2) pos) (.sl i il ih):=.mk <|
 PE.imp (vF (ZbN.or<|v3.or jQ) ha.h hl.h hh.h)<|by
  rintro U H Q ⟨O,l,S,st,lr,h⟩;refine#[O,l,S,st,lr,End.bind (h) λx S1 ρ1 H1 v f1 st1 r1 h1=>#[ρ1,l,S1,st1,lr.mono f1,h1.bind λy S2 ρ2 H2 u f2 st2 r2 h2=>#[ρ2,l,S2,st2,(lr.mono f1).mono f2,h2.bind λz S3 ρ3 H3 w f3 st3 r3 h3=>?_]]]
  have e1:y=u:=r2;have e2:z=w:=r3;subst e1 e2;have r0:=(r1.mono f2).mono f3;cases x with
  |tup ds=>
   obtain⟨p,xs,rfl,hp,r⟩:=r0.tup';have h':=h3;by_cases hw:HT.sIx xs.length 0 y=0/\HT.sIx xs.length xs.length z=xs.length
   .refine .inr (.inl #[p,xs,rfl,SqT.of hp,hw,End.ok h' st3 ?_])
    have ew:Pv.Yu ds y z=ds:=by
     unfold Pv.Yu;rw[Qv,Qv,<-r.length,hw.1,hw.2,iP,Nat.sub_zero,r.length,gU]
    rw[ew];exact Y2 hp r
   .exact .inl #[p,xs,rfl,SqT.of hp,hw,h'.newT st3<|z7 r y z]
  |lst ds=>
   obtain⟨p,xs,rfl,hp,_,r⟩:=r0.lst';exact .inr<|.inr #[p,xs,rfl,SqL.of hp,End.newL (h3) st3<|z7 r y z]
  |_=>exact False.elim h3
def QG(K:am)(xw:Nat->Hp->Prop)(f:Bf):List V->Hp->VK->Prop:=λvs H Q=>∃O S ds,St3 K O S H/\Reps O H ds vs/\End K xw Rep O H Q (Pv.po (Pv.Xb f ds) S)
def ZM.imp{r r':List V->Hp->VK->Prop}(h:ZM X f r)(k:∀vs H Q,r' vs H Q->r vs H Q):ZM X f r':=λpq s U H xs us Q I e q=>h pq s U H xs us Q I e<|k xs H Q q
def vd :∀U H Q,tE X xw (Pv.pv C<|.blt f is) U H Q->tCB (QG X.K xw f) (tA X xw<|Pv.pvs C is) U H Q:=λU H Q #[O,l,S,st,lr,h]=>
 #[O,l,S,st,lr,End.bind (h) λxs S1 ρ1 H1 vs f1 st1 r1 h1=>#[ρ1,S1,xs,st1,r1,h1]]
def vc(r:Reps O H [d] vs):∃v,vs=[v]/\Rep O H d v:=by
 obtain⟨v,ws,rfl,a1,b1⟩:=r;exact#[v,by rw[b1],a1]
def yN{d e:D}{vs:List V}(r:Reps O H [d,e] vs):∃v w,vs=[v,w]/\Rep O H d v/\Rep O H e w:=by
 obtain⟨v,ws,rfl,a1,b1⟩:=r;obtain⟨w,rfl,b2⟩:=vc b1;exact#[v,w,rfl,a1,b2]
def JT{rep:Mx->Hp->D->V->Prop}{f:Bf}{ds:List D}{vs:List V}(h:End K xw rep O H Q (Pv.po (Pv.Xb f ds) S))(r:Reps O H ds vs)(h1:f≠.max2:=by decide)(h2:f≠.min2:=by decide)(h3:f≠.index:=by decide):∃d v z,vs=[v]/\Rep O H d v/\Pv.blt1 f d=aa z/\End K xw rep O H Q (.ok z S):=by
 obtain⟨z,hz,g⟩:=End.po h
 match ds,hz with
 |[d],hz=>obtain⟨v,rfl,rv⟩:=vc r;exact#[d,v,z,rfl,rv,hz,g]
 |[x,y],hz=>
  have hz:Pv.blt2 f x y=aa z:=hz;cases x<;>first|exact Ev.nos hz|(cases y<;>first|exact Ev.nos hz|(cases f<;>first|exact Ev.nos hz|contradiction))
def ZaP{f:Bf}{ds:List D}{vs:List V}(h:End K xw Rep O H Q (Pv.po (Pv.Xb f ds) S))(r:Reps O H ds vs)(h1:∀d,Pv.blt1 f d=ae)(h3:f≠.index:=by decide):∃m n z,vs=[.int m,.int n]/\Pv.blt2 f (.int m) (.int n)=aa z/\End K xw Rep O H Q (.ok z S):=by
 obtain⟨z,hz,g⟩:=End.po h
 match ds,hz with
 |[d],hz=>exact Ev.nos<|(h1 d).symm.trans hz
 |[x,y],hz=>
  have hz:Pv.blt2 f x y=aa z:=hz;cases x<;>first|exact Ev.nos hz|(cases y<;>first|exact Ev.nos hz|(obtain⟨v,w,rfl,r1,r2⟩:=yN r;exact#[_,_,z,by rw[r1.int',r2.int'],hz,g])|(cases f<;>first|exact Ev.nos hz|contradiction))
def yH:ZM X (.builtin "len") (QG X.K xw .len):=ZM.imp Q8<|by
 rintro vs H Q ⟨O,S,ds,st,r,h⟩;obtain⟨d,v,z,rfl,rv,hz,h⟩:=JT h r;obtain⟨xs,hx,rfl⟩:=bT.mp hz;obtain⟨p,ys,rfl,hq,r2⟩:=rv.seq hx;refine#[p,ys,rfl,by rw[<-st.hk];exact hq,?_]
 rw[r2.length];exact End.ok h st<|ZB _
def yd(hc:X.calm=aj):ZM X (.builtin "max") (QG X.K xw .max2):=ZM.imp (xT hc)<|by
 rintro vs H Q ⟨O,S,ds,st,r,h⟩;obtain⟨m,n,z,rfl,hz,h⟩:=ZaP h r λ_=>rfl
 cases hz;exact#[m,n,rfl,End.ok h st<|ZB _]
def yU(hc:X.calm=aj):ZM X (.builtin "min") (QG X.K xw .min2):=ZM.imp (xI hc)<|by
 rintro vs H Q ⟨O,S,ds,st,r,h⟩;obtain⟨m,n,z,rfl,hz,h⟩:=ZaP h r λ_=>rfl
 cases hz;exact#[m,n,rfl,End.ok h st<|ZB _]
def yx:ZM X (.type "int") (QG X.K xw .toInt):=ZM.imp wf<|by
 rintro vs H Q ⟨O,S,ds,st,r,h⟩;obtain⟨d,v,z,rfl,r1,hz,h⟩:=JT h r;cases d with|int m=>cases hz;exact .inl #[m,by rw[r1.int'],End.ok h st<|ZB _]|bl m=>cases hz;exact .inr #[m,by rw[r1.bl'],End.ok h st<|ZB _]|_=>exact Ev.nos hz
def UO:ZM X (.type "tuple") (QG X.K xw .tuple):=ZM.imp Uv<|by
 rintro vs H Q ⟨O,S,ds,st,r,h⟩;obtain⟨d,v,z,rfl,r1,hz,h⟩:=JT h r;cases d with|tup ds=>cases hz;obtain⟨p,xs,rfl,hp,r2⟩:=r1.tup';exact#[p,xs,rfl,.inr #[SqT.of hp,End.ok h st r1]]|lst ds=>cases hz;obtain⟨p,xs,rfl,hp,_,r2⟩:=r1.lst';exact#[p,xs,rfl,.inl #[SqL.of hp,h.newT st r2]]|scr ns=>cases hz;obtain⟨p,rfl,hp⟩:=r1.scr';rw[st.hk]at hp;exact#[p,_,rfl,.inl #[hp.sq,h.newT st<|Reps.ints ns]]|_=>exact Ev.nos hz
def Vp{f:Bf}{id:String}{x:bE}{es:List Expr}{is:List E}(hc:ZM X (.builtin id) (QG X.K xw f))(hm:X.mg x=ae)(ha:CA X xw C (e::es) is)(hg:Gl X x)(hv:dP x=aa (.builtin id))(hn:x≠"__name__")(hdb:(x == ("__debug__" : bE))=ak)
  (he:aJ (e::es) X.env=(ak,cC e X.env)::aJ es X.env)(hpl:(eO pos<|aJ es X.env).any (·.1)=ak):CE X xw C (.Call (.Name x p) (e::es) [] pos) (.blt f is):=.mk <|
 PE.imp (VQ hc hg hm hv ha.h hn hdb he hpl) vd
def yk{f:Bf}{id:String}{x:bE}{es:List Expr}{is:List E}(hc:ZM X (.type id) (QG X.K xw f))(hm:X.mg x=ae)(ha:CA X xw C (e::es) is)(hg:Gl X x)(hv:dP x=aa (.type id))(hn:x≠"__name__")(hdb:(x == ("__debug__" : bE))=ak)
  (he:aJ (e::es) X.env=(ak,cC e X.env)::aJ es X.env)(hpl:(eO pos<|aJ es X.env).any (·.1)=ak):CE X xw C (.Call (.Name x p) (e::es) [] pos) (.blt f is):=.mk <|
 PE.imp (xW hc hg hm hv ha.h hn hdb he hpl) vd
end
section
variable{X:Cx}{xw:Nat->Hp->Prop}{C:Calls}{e a b c:Expr}{i j k:E}{pos p p' p2:iA}
theorem Uf:∀{ds:List D}{bs:List Bool},Pv.Z0 ds=aa bs->bs.length=ds.length/\∀j d,ds[j]?=aa d->Pv.Vr d=aa (bs.getD j ak)
 |[],bs,h=>by cases h;exact#[rfl,λj d e=>by simp at e]
 |d::ds,bs,h=>by
  unfold Pv.Z0 at h;cases q1:Pv.Vr d with
  |none=>rw[q1]at h;cases h
  |some b=>
   cases q2:Pv.Z0 ds with
   |none=>rw[q1,q2]at h;cases h
   |some cs=>
    rw[q1,q2]at h;cases h;obtain⟨l,ih⟩:=Uf q2;refine#[by rw[aE,aE,l],λj d' e=>?_]
    cases j with|zero=>simp at e;subst e;simpa using q1|succ j=>simpa using ih j d' (by simpa using e)
def wg(bs:List Bool):(aA bs.length).all (λj=>bs.getD j ak)=bs.all id:=by
 rw[bW,aO,aO]
 constructor
 .intro h b hb
  obtain⟨j,hj,e⟩:=bv hb;have:=h j<|aN.mpr hj
  simpa[af hj,e]using this
 .intro h j hj
  have hj':=aN.mp hj
  simpa[af hj']using h bs[j]<|aR hj'
def Ja(r:Rep O H d v)(e:Zu v u)(h:Pv.Vr d=aa n)(s:aq)(Q:Bool->aq->Prop)(E:al->aq->Prop)(q:Q n s) :
  aW (aT prog w) A (truthy u) Q E s:=by
 cases d with
 |non=>cases r.non';cases e;cases h;exact truthy_none q
 |bl b=>cases r.bl';cases e;cases h;exact fz q
 |int m=>
  cases r.int';obtain⟨t,rfl⟩:=e;have h':=ai h;refine mS ?_;have:(m != 0)=n:=by
   rw[<-h'];by_cases z:m=0
   .subst z;rfl
   .rw[T5 z];exact bne_iff_ne.mpr z
  rw[this];exact q
 |_=>cases h
def xS(hc:X.calm=aj):ZM X (.builtin "all") (λvs H Q=>∃O ds v bs,vs=[v]/\Rep O H (.lst ds) v/\Pv.Z0 ds=aa bs/\Q (.bl<|bs.all id) H):=by
 intro pq s U H vs us Q I r h;obtain⟨O,ds,v,bs,rfl,rs,hb,q⟩:=h;obtain⟨p,xs,rfl,hx,_,rx⟩:=rs.lst';obtain⟨u,rfl,ru⟩:=Uh r;cases ru;obtain⟨its,rv,pl,hz⟩:=I.list<|SqL.of hx;obtain⟨lb,tb⟩:=Uf hb;have hlt:p<s.heap.objs.size:=by obtain⟨_,e,_⟩:=pl.isList;exact aF e
 have hlen:its.toArray.size=bs.length:=by rw[ay,<-rv.length,rx.length,lb]
 refine call_all_walk<|fB pl.isList #[s.heap.objs.size,[s.heap.objs.size,p],[s.heap.objs.size],its.toArray.size,(λi v=>its.toArray[i]?=aa v),(λi h=>h.IsListIter s.heap.objs.size p i/\h.IsList p its.toArray),λj=>bs.getD j ak,rfl,Walks.list (A:=X.A.in1) (I.ok.hd hc) s.heap.objs.size p (bx hlt) its.toArray,#[#[_,aL _ rfl,rfl,rfl],pl.isList.push _],?_,?_]
 .intro j v s' Q' E' hv hQ'
  have hj:its[j]?=aa v:=by simpa using hv
  have jl:j<ds.length:=by
   have:=(a9.mp hj).1;rw[<-rv.length,rx.length]at this;exact this
  obtain⟨w',g,r'⟩:=rx.get<|af jl;obtain⟨u',g',ru'⟩:=rv.get g;rw[hj]at g';cases g';exact Ja r' ru' (tb j _<|af jl) s' Q' E' hQ'
 .intro h' tk hk
  rw[hlen,wg];have kp:=λb o e=>hk b o (λhm=>by
   have:b=s.heap.objs.size:=by simpa using hm
   exact T7 (this▸aF e)<|bu _)<|au _ e
  exact#[.bl<|bs.all id,H,I.kept (t':=tk) kp,rfl,q]
def yF(hc:X.calm=aj):ZM X (.builtin "all") (QG X.K xw .all):=ZM.imp (xS hc)<|by
 rintro vs H Q ⟨O,S,ds,st,r,h⟩;obtain⟨d,v,z,rfl,r1,hz,h⟩:=JT h r;cases d with|lst ds=>obtain⟨bs,hb,rfl⟩:=bT.mp hz;exact#[O,ds,v,bs,rfl,r1,hb,End.ok h st<|Yd _]|_=>exact Ev.nos hz
noncomputable def Qn:Ty->String
 |.int=>"int" | .bool=>"bool" | .str=>"str" | .tuple=>"tuple" | .list=>"list" | .dict=>"dict" | .cls _=>""
def Zb5{K:am}{O:Mx}{H:Hp}{x:D}{v:V}{t:Ty}{n:Bool}(rx:Rep O H x v)(ht:∀m,t≠.cls m)(h:Pv.Wo x t=aa n) :
  ∃tv,TyOf K H v tv/\l7 K tv (.type<|Qn t)=aa n:=by
 cases x with
 |non=>rw[rx.non'];refine#[_,.non,?_];cases h;cases t<;>first|rfl|exact T7 rfl<|ht _
 |bl b=>rw[rx.bl'];refine#[_,.bl b,?_];cases h;cases t<;>first|rfl|exact T7 rfl<|ht _
 |int b=>rw[rx.int'];refine#[_,.int b,?_];cases h;cases t<;>first|rfl|exact T7 rfl<|ht _
 |str b=>rw[rx.str'];refine#[_,.str b,?_];cases h;cases t<;>first|rfl|exact T7 rfl<|ht _
 |tup ds=>
  obtain⟨p,xs,rfl,hp,_⟩:=rx.tup';refine#[_,.tup hp,?_];cases h;cases t<;>first|rfl|exact T7 rfl<|ht _
 |lst ds=>
  obtain⟨p,xs,rfl,hp,_⟩:=rx.lst';refine#[_,.lst hp,?_];cases h;cases t<;>first|rfl|exact T7 rfl<|ht _
 |dct o=>
  cases o with
  |some _=>exact Ev.nos h
  |none=>
   obtain⟨p,rfl,_,e⟩:=rx.dct';refine#[_,.dK e,?_];cases h;cases t<;>first|rfl|exact T7 rfl<|ht _
 |_=>exact Ev.nos h
def vT(T:String):ZM X (.builtin "isinstance") (λvs H Q=>∃v tv n,vs=[v,.ty T]/\TyOf X.K H v tv/\l7 X.K tv (.type T)=aa n/\Q (.bl n) H):=by
 intro pq s U H vs us Q I r h;obtain⟨v,tv,n,rfl,ty,e,q⟩:=h;obtain⟨u,w',rfl,r1,r2⟩:=ua r;cases r2;exact xJ I r1 ty e λtk=>#[.bl n,H,I.tok tk,rfl,q]
def zr{T:bE}{t:Ty}(ht:∀m,t≠.cls m)(hm:X.mg "isinstance" = ae)(hmT:X.mg T=ae)(ha:CE X xw C a i)(hg:Gl X "isinstance")(hgT:Gl X T)(hvT:dP T=aa (.type<|Qn t))(hnT:T≠"__name__")(hdT:(T == ("__debug__" : bE))=ak)
  (hs1:aJ [a,.Name T p2] X.env=(ak,cC a X.env)::aJ [.Name T p2] X.env)(hs2:aJ [.Name T p2] X.env=(ak,cC (.Name T p2) X.env)::aJ [] X.env)(hpl:(eO pos<|aJ [.Name T p2] X.env).any (·.1)=ak) :
  CE X xw C (.Call (.Name "isinstance" p) [a,.Name T p2] [] pos) (.isi i [t]):=.mk <|
 PE.imp (VQ (vT<|Qn t) hg hm (by rfl) (Xv ha.h (Xv (qQ (v:=.ty<|Qn t) hgT hmT hvT rfl hnT hdT) Vv hs2) hs1) (by decide) (by decide) hs1 hpl)<|by
  rintro U H Q ⟨O,l,S,st,lr,h⟩;refine#[O,l,S,st,lr,End.bind (show End X.K xw Rep O H Q ((Pv.pv C i l S).bind _)from h) λx S1 ρ1 H1 v f1 st1 r1 h1=>?_]
  obtain⟨n,hn,h2⟩:=End.ob h1;have hn':Pv.Wo x t=aa n:=by
   unfold Pv.YE at hn;cases q:Pv.Wo x t with|none=>rw[q]at hn;cases hn|some m=>rw[q]at hn;cases m<;>exact hn
  obtain⟨tv,ty,e⟩:=Zb5 r1 ht hn';exact#[v,tv,n,rfl,ty,e,End.ok h2 st1<|Yd _]
def Zaj(P:bt)(w:bJ)(K:am)(a:aK)(tab:List (Int×Int)):Prop:=(a == gR)=ak/\∃f:Int->Option al,(∀h:b5,K.In h->h.MapOf (fJ P w) a f)/\∀k,(tab.lookup k=ae->f k=ae)/\∀j,tab.lookup k=aa j->∃t,f k=aa (.int j t)
theorem Y8(i:Int):∀tab:List (Int×Int),(tab.map (·.1)).contains i=(tab.lookup i).isSome
 |[]=>rfl
 |(k,v)::r=>by
  rw[bz,iQ,Y8 i r,bG];cases h:(i == k)<;>simp
def uA{tb:aK}{tab:List (Int×Int)}(T:Zaj X.prog X.w X.K tb tab):OpR X (cF .In) (λv u H Q=>∃n,v=.int n/\u=.ref tb/\Q (.bl ((tab.map (·.1)).contains n)) H):=by
 intro pq s U H v u vv uu Q I e1 e2 h;obtain⟨n,rfl,rfl,q⟩:=h;obtain⟨t,rfl⟩:=e1;cases e2;obtain⟨h1,f,hf,hk⟩:=T;refine wpAny_in_of (knd:=fJ X.prog X.w) (k:=n) (mY _ _ _ _) h1 (hf s.heap I.kIn) ?_;refine#[.bl _,H,I.tok _,?_,q];show cS (f n).isSome=cS _;rw[Y8];cases e:tab.lookup n with|none=>rw[(hk n).1 e];rfl|some j=>obtain⟨t',z⟩:=(hk n).2 j e;rw[z];rfl
def Zb3{tb:aK}{tab:List (Int×Int)}{x:bE}(T:Zaj X.prog X.w X.K tb tab)(hm:X.mg x=aa (.ref tb))(ha:CE X xw C a i)(hg:Gl X x:=by rfl)(hd:(x == ("__debug__" : bE))=ak:=by decide)(hmk:eQ .In (.Name x p)=ak:=by first|rfl|(with_unfolding_all rfl)) :
  CE X xw C (.Compare a [.In] [.Name x p] pos) (.inT i tab):=.mk <| PE.imp (yB (uA T) ha.h (zH (v:=.ref tb) hg hm rfl hd) hmk)<|by
 rintro U H Q ⟨O,l,S,st,lr,h⟩;refine#[O,l,S,st,lr,End.bind (show End X.K xw Rep O H Q ((Pv.pv C i l S).bind _)from h) λx S1 ρ1 H1 v f1 st1 r1 h1=>?_]
 cases x with|int n=>exact#[n,r1.int',rfl,End.ok h1 st1<|Yd _]|_=>exact False.elim h1
def XB(fr:Bool)(H0:Hp)(O:Mx)(H:Hp)(d:D)(v:V):Prop:=Rep O H d v/\(fr=aj->∀ds,d=.lst ds->∃a,v=.ref a/\H0 a=ae)
theorem End.fr{K:am}{xw:Nat->Hp->Prop}{O:Mx}{H H0:Hp}{Q:VK}{r:R D}{fr:Bool}(h:End K xw Rep O H Q r):End K xw (XB fr H0) O H Q r:=by
 cases r with|ok d S=>exact λρ' H' v f st r=>h ρ' H' v f st r.1|_=>exact h
def spF(K:am)(C:Calls)(fr:Bool)(n:Nat):Sp:=λvs H Q _=>∃O ds S,St3 K O S H/\Reps O H ds vs/\End K (λ_ _=>False) (XB fr H) O H Q (C n ds S)
def jM{n kk:Nat}{fr:Bool}{f:aK}{fd:cX}{ps:List bE}{x:bE}{es:List Expr}{is:List E}(F:FnOk X.prog X.w X.K X.mg X.base CX0 kk f fd ps (spF X.K C fr n))(hr:Room kk X.A)(hm:X.mg x=aa (.ref f))(hk:gz X.K (.ref f)=aj)(hb:Vw X.K fd ps [])
  (ha:CA X (λ_ _=>False) C (e::es) is)(hg:Gl X x:=by rfl)(hdb:(x == ("__debug__" : bE))=ak:=by decide)(he:aJ (e::es) X.env=(ak,cC e X.env)::aJ es X.env:=by rfl)(hpl:(eO pos<|aJ es X.env).any (·.1)=ak:=by rfl) :
  CE X (λ_ _=>False) C (.Call (.Name x p) (e::es) [] pos) (.call n is):=.mk <|
 PE.imp (zX F hr hg hm hk hb .nil ZaL ha.h hdb he hpl) λU H Q #[O,l,S,st,lr,h]=>
  #[O,l,S,st,lr,End.bind (show End X.K (λ_ _=>False) Rep O H Q ((Pv.pvs C is l S).bind _)from h) λxs S1 ρ1 H1 vs f1 st1 r1 h1=>by
   rw[cf];exact#[ρ1,xs,S1,st1,r1,h1.fr]]
end
abbrev Own:=Nat->Option aK
noncomputable def Mx.ex(O:Mx)(W:Own):Mx:=#[O.K,O.n0,λa=>O.X a\/∃i,W i=aa a,λa h=>.inl<|O.xz a h]
mutual
theorem Rep.flat(hk:ρ'.K=O.K)(k:∀a o,H a=aa o->(∀xs,o≠.lst xs)->(∀vs,o≠.dT vs)->H' a=aa o):∀{d:D}{v:V},d.flat=aj->Rep O H d v->Rep ρ' H' d v
 |.non,_,_,h|.bl _,_,_,h|.int _,_,_,h|.str _,_,_,h=>by exact h
 |.tup ds,v,f,h=>by
  obtain⟨a,xs,e,t,r⟩:=h;exact#[a,xs,e,k a _ t (λ_ z=>by cases z) (λ_ z=>by cases z),r.flat hk k (by exact f)]
 |.scr ns,v,_,h=>by
  unfold Rep at h ⊢;obtain⟨a,e,t⟩:=h;rw[hk];refine#[a,e,?_];rcases t with⟨o,t⟩|t
  .exact .inl #[o,k a _ t (λ_ z=>by cases z) λ_ z=>by cases z]
  .exact .inr t
 |.lst _,_,f,_|.drw,_,f,_|.dct _,_,f,_|.dow _,_,f,_=>by cases f
theorem Reps.flat(hk:ρ'.K=O.K)(k:∀a o,H a=aa o->(∀xs,o≠.lst xs)->(∀vs,o≠.dT vs)->H' a=aa o):∀{ds:List D}{xs:List V},Pv.ZU ds=aj->Reps O H ds xs->Reps ρ' H' ds xs
 |[],_,_,h=>by exact h
 |d::ds,xs,f,h=>by
  obtain⟨v,vs,e,r,rs⟩:=h;have f:=(aB _ _).mp f;exact#[v,vs,e,r.flat hk k f.1,rs.flat hk k f.2]
end
def Xa(O:Mx)(H:Hp)(a:aK):D->Prop
 |.lst xs=>∃us,H a=aa (.lst us)/\Reps O H xs us
 |.dow ks=>∃vs,H a=aa (.dT vs)/\vs.map (·.1)=ks.map (·.map dH)
 |_=>False
def Xa.ob{O:Mx}{H:Hp}{a:aK}{d:D}(h:Xa O H a d):(∃us,H a=aa (.lst us))\/∃vs,H a=aa (.dT vs):=by
 cases d with|lst xs=>obtain⟨us,e,_⟩:=h;exact .inl #[us,e]|dow ks=>obtain⟨vs,e,_⟩:=h;exact .inr #[vs,e]|_=>exact h.elim
def Xa.ne{O:Mx}{H:Hp}{a:aK}{d:D}(h:Xa O H a d):H a≠ae:=by
 rcases h.ob with⟨_,z⟩|⟨_,z⟩<;>(rw[z];intro q;cases q)
def Xa.rep{O:Mx}{H:Hp}{a:aK}{d:D}(h:Xa O H a d)(x:¬O.X a):Rep O H d (.ref a):=by
 cases d with|lst xs=>obtain⟨us,e,r⟩:=h;exact Wx e x r|dow ks=>obtain⟨vs,e,q⟩:=h;unfold Rep;exact#[a,vs,rfl,e,x,q]|_=>exact h.elim
theorem Xa.lat{O ρ':Mx}{H H':Hp}{a:aK}{d:D}(h:Xa O H a d)(f:Lat O H ρ' H')(e:H' a=H a):Xa ρ' H' a d:=by
 cases d with|lst xs=>obtain⟨us,q,r⟩:=h;exact#[us,e.trans q,r.lat f]|dow ks=>obtain⟨vs,q,r⟩:=h;exact#[vs,e.trans q,r]|_=>exact h
def Lat.own{O:Mx}{H:Hp}{b:aK}{o':HO}(x:O.X b)(hb:(∃us,H b=aa (.lst us))\/∃vs,H b=aa (.dT vs)):Lat O H O (upd H b o'):=#[rfl,rfl,λc u z nx _ nd=>by
 rw[Zq (λq=>by
  rw[q]at z;rcases hb with⟨_,e⟩|⟨_,e⟩<;>(rw[e]at z;cases z)
  .exact nx _ rfl<|q▸x
  .exact nd _ rfl<|q▸x)]
 exact z,λ_ _ z=>z]
structure Eu(O:Mx)(H0:Hp)(W:Own)(l:Lc)(os:List Nat)(U:L2.St)(H:Hp):Prop where
 fut:Fut O H0 O H
 xd:∀a,O.X a->H0 a≠ae
 len:l.length=U.length
 osW:∀i,os.contains i=(W i).isSome
 inj:∀i j a,W i=aa a->W j=aa a->i=j
 new:∀i a,W i=aa a->H0 a=ae
 own:∀i a,W i=aa a->∃d,l[i]?=aa (aa d)/\U[i]?=aa (aa<|.ref a)/\Xa (O.ex W) H a d
 val:∀(i:Nat)(d:D),l[i]?=aa (aa d)->W i=ae->∃v,U[i]?=aa (aa v)/\Rep (O.ex W) H d v
section
variable{K:am}{O:Mx}{H0 H H':Hp}{W W':Own}{l:Lc}{os:List Nat}{U:L2.St}{S:Zo}
def Lat.unex:Lat (O.ex W) H O H:=#[rfl,rfl,λ_ _ h _ _ _=>h,λ_ _ x=>.inl x]
theorem Fut.ex(f:Fut O H O H'):Fut (O.ex W) H (O.ex W) H':=#[rfl,f.keep]
def St3.unex(st:St3 K (O.ex W) S H):St3 K O S H:=#[st.hk,λa x=>st.xd a<|.inl x,st.dw,st.tb]
def Eu.nx(h:Eu O H0 W l os U H)(e:W i=aa a):¬O.X a:=λz=>h.xd a z<|h.new i a e
theorem Eu.st(h:Eu O H0 W l os U H)(st:St3 K O S H):St3 K (O.ex W) S H:=
 #[st.hk,λa x=>x.elim (st.xd a) λ#[i,e]=>(let #[_,_,_,z]:=h.own i a e;z.ne),st.dw,st.tb]
def ZaO(f:Fut O H O H')(x:¬O.X a)(h:H a=aa o)(n:∀ps,o≠.tbl ps:=by intro _ z;cases z):H' a=aa o:=(f.keep a o h).elim id λz=>z.elim (λz=>T7 (O.xz a z.1) x)<|by rintro ⟨⟨ps,e⟩,_⟩;exact T7 e<|n ps
def Eu.all(h:Eu O H0 W l os U H):LocR O H l U:=#[h.len,λi v e=>by
 cases q:W i with
 |none=>obtain⟨d,a,b⟩:=h.val i v e q;exact#[d,a,b.lat Lat.unex]
 |some n=>
  obtain⟨d,a,c,r⟩:=h.own i n q;rw[a]at e;cases e;exact#[_,c,(r.lat Lat.unex rfl).rep<|h.nx q]]
def uT(e:(Pv.hide os l)[i]?=aa (aa v)):l[i]?=aa (aa v)/\os.contains i=ak:=by
 unfold Pv.hide at e;rw[fG]at e;cases q:l[i]? with
 |none=>rw[q]at e;cases e
 |some o=>
  rw[q]at e;have e':(if os.contains i=aj then ae else o)=aa v:=ai e
  by_cases c:os.contains i=aj
  .rw[T9 c]at e';cases e'
  .rw[T8 c]at e';exact#[by rw[e'],by simpa using c]
def hide_nil:Pv.hide [] l=l:=by
 unfold Pv.hide;refine bY λi=>?_
 rw[fG];cases l[i]?<;>rfl
def Eu.nW(h:Eu O H0 W l os U H){i:Nat}(b:os.contains i=ak):W i=ae:=by
 rw[h.osW]at b;cases q:W i with|none=>rfl|some _=>rw[q]at b;cases b
def Eu.hid(h:Eu O H0 W l os U H):LocR (O.ex W) H (Pv.hide os l) U:=#[by unfold Pv.hide;rw[List.length_mapIdx];exact h.len,λi v e=>by
 obtain⟨a,b⟩:=uT e;exact h.val i v a<|h.nW b]
theorem Eu.mono(h:Eu O H0 W l os U H)(f:Fut O H O H'):Eu O H0 W l os U H':=
 #[h.fut.trans f,h.xd,h.len,h.osW,h.inj,h.new,λi a q=>by
  obtain⟨d,p,c,r⟩:=h.own i a q;exact#[d,p,c,r.lat f.ex.lat (by rcases r.ob with⟨_,e⟩|⟨_,e⟩<;>rw[ZaO f (h.nx q) e,e])],λi v a b=>by
  obtain⟨d,c,r⟩:=h.val i v a b;exact#[d,c,r.mono f.ex]]
def Qw{B:Type}{l:List (Option B)}{i j:Nat}{o:Option B}{v:B}(e:(l.set i o)[j]?=aa (aa v)):(i=j/\o=aa v/\i<l.length)\/(i≠j/\l[j]?=aa (aa v)):=by
 rw[nr]at e;by_cases c:i=j
 .rw[T9 c]at e
  by_cases z:i<l.length
  .rw[T9 z]at e;exact .inl #[c,ai e,z]
  .rw[T8 z]at e;cases e
 .rw[T8 c]at e;exact .inr #[c,e]
theorem Eu.set{i:Nat}{o:Option D}{v:V}(h:Eu O H0 W l os U H)(hi:os.contains i=ak)(r:∀d,o=aa d->Rep (O.ex W) H d v):Eu O H0 W (l.set i o) os (U.set i<|aa v) H:=by
 have hw:=h.nW hi;refine#[h.fut,h.xd,by rw[bX,bX];exact h.len,h.osW,h.inj,h.new,λj n q=>?_,λj w e q=>?_]
 .obtain⟨d,a,c,e⟩:=h.own j n q
  have ij:i≠j:=λz=>by rw[z,q]at hw;cases hw
  exact#[d,by rw[bm ij];exact a,by rw[bm ij];exact c,e]
 .rcases Qw e with⟨rfl,z,hl⟩|⟨c,z⟩
  .exact#[v,bR (by rw[<-h.len];exact hl),r w z]
  .rw[bm c];exact h.val j w z q
noncomputable def V1:List Nat->List V->L2.St->L2.St
 |i::t,x::xs,U=>V1 t xs<|U.set i<|aa x
 |_,_,U=>U
theorem Eu.fill:∀{t:List Nat}{vs:List D}{us:List V}{l l':Lc}{U:L2.St},Eu O H0 W l os U H->(t.any os.contains)=ak->Reps (O.ex W) H vs us->Pv.YA t vs l=aa l'->us.length=t.length/\Eu O H0 W l' os (V1 t us U) H
 |[],[],_,l,l',U,h,_,r,e=>by rw[r];cases e;exact#[rfl,h]
 |[],_::_,_,_,_,_,_,_,_,e=>by cases e
 |_::_,[],_,_,_,_,_,_,_,e=>by cases e
 |i::t,v::vs,_,l,l',U,h,ht,r,e=>by
  obtain⟨d,ds,rfl,a,b⟩:=r;rw[mI,Bool.or_eq_false_iff]at ht;obtain⟨z,q⟩:=Eu.fill (h.set ht.1 λ_ z=>by cases z;exact a) ht.2 b e
  exact#[by rw[aE,aE,z],q]
def tGU(K:am)(t:List Nat):TG:=λv U H Q=>match t with
 |[i]=>Q (U.set i<|aa v) H
 |t=>∃a xs,v=.ref a/\(SqT K H a xs\/H a=aa (.lst xs))/\xs.length=t.length/\Q (V1 t xs U) H
def Eu.assign{Q:L2.St->Hp->Prop}(h:Eu O H0 W l os U H)(ht:(t.any os.contains)=ak)(r:Rep (O.ex W) H d v)(e:Pv.Zl t d l=aa l')(q:∀σ',Eu O H0 W l' os σ' H->Q σ' H):tGU K t v U H Q:=by
 have gen:∀t:List Nat,(t.any os.contains)=ak->(match Pv.uE d with
   |some xs=>Pv.YA t xs l
   |none=>ae)=aa l'->∃a xs,v=.ref a/\(SqT K H a xs\/H a=aa (.lst xs))/\xs.length=t.length/\Q (V1 t xs U) H:=by
  intro t ht e;cases d with|tup vs=>obtain⟨p,ds,rfl,hp,rs⟩:=r.tup';obtain⟨z,y⟩:=h.fill ht rs e;exact#[p,ds,rfl,.inl<|SqT.of hp,z,q _ y]|lst vs=>obtain⟨p,ds,rfl,hp,_,rs⟩:=r.lst';obtain⟨z,y⟩:=h.fill ht rs e;exact#[p,ds,rfl,.inr hp,z,q _ y]|_=>cases e
 match t,ht,e with
 |[i],ht,e=>cases e;exact q _<|h.set (by simpa using ht) λ_ z=>by cases z;exact r
 |[],ht,e=>exact gen [] ht e
 |i::j::t,ht,e=>exact gen (i::j::t) ht e
noncomputable def noW(W:Own)(i:Nat):Own:=λj=>if j=i then ae else W j
def Xt{i j:Nat}{a:aK}(z:noW W i j=aa a):j≠i/\W j=aa a:=by
 unfold noW at z;by_cases c:j=i
 .rw[T9 c]at z;cases z
 .rw[T8 c]at z;exact#[c,z]
theorem Lat.noW{i:Nat}:Lat (O.ex W) H (O.ex<|noW W i) H:=#[rfl,rfl,λ_ _ h _ _ _=>h,λ_ _ x=>x.elim .inl λ#[j,e]=>.inr #[j,(Xt e).2]]
def Uc{i:Nat}(h:∀i,os.contains i=(W i).isSome)(j:Nat):(os.filter (· != i)).contains j=(noW W i j).isSome:=by
 unfold noW;by_cases c:j=i
 .simp[c]
 .simp only[c,if_false]
  rw[<-h j,bW,ee,ee,eB];simp[c]
def Eu.drop{i:Nat}{o:Option D}{v:V}(h:Eu O H0 W l os U H)(r:∀d,o=aa d->Rep (O.ex<|noW W i) H d v):Eu O H0 (noW W i) (l.set i o) (os.filter (· != i)) (U.set i<|aa v) H:=by
 refine#[h.fut,h.xd,by rw[bX,bX];exact h.len,Uc h.osW,λa b n x y=>h.inj a b n (Xt x).2 (Xt y).2,λj n z=>h.new j n (Xt z).2,λj n z=>?_,λj w e z=>?_]
 .obtain⟨d,a,c,e⟩:=h.own j n (Xt z).2
  have ij:i≠j:=Ne.symm (Xt z).1;exact#[d,by rw[bm ij];exact a,by rw[bm ij];exact c,e.lat Lat.noW rfl]
 .rcases Qw e with⟨rfl,e,hl⟩|⟨c,e⟩
  .exact#[v,bR (by rw[<-h.len];exact hl),r w e]
  .rw[bm c]
   unfold Sd.noW at z;rw[T8<|Ne.symm c]at z;obtain⟨d',a,b⟩:=h.val j w e z;exact#[d',a,b.lat Lat.noW]
noncomputable def QB(W:Own)(i:Nat)(a:aK):Own:=λj=>if j=i then aa a else W j
def Eu.takeO{i:Nat}{a:aK}{d:D}(h:Eu O H0 W l os U H)(hd:∀a,O.X a->H a≠ae)(f:Fut O H O H')(hn:H a=ae)(hx:¬(O.ex W).X a)(r:Xa (O.ex<|QB W i a) H' a d)(hi:i<l.length) :
  Eu O H0 (QB W i a) (l.set i<|aa d) (i::os.filter (· != i)) (U.set i<|aa<|.ref a) H':=by
 have h1:=h.mono f;have get:∀{j m},QB W i a j=aa m->(j=i/\a=m)\/(j≠i/\W j=aa m):=λ{j m} z=>by
  unfold QB at z;by_cases c:j=i
  .rw[T9 c]at z;exact .inl #[c,ai z]
  .rw[T8 c]at z;exact .inr #[c,z]
 have na:H0 a=ae:=h.fut.new hn hd;have lt:Lat (O.ex W) H (O.ex<|QB W i a) H':=#[rfl,rfl,f.ex.lat.keep',λb hb x=>by
  rcases x with x|⟨j,x⟩
  .exact .inl x
  .rcases get x with⟨_,z⟩|⟨_,z⟩
   .exact T7 hn<|z▸hb
   .exact .inr #[j,z]]
 refine#[h1.fut,h.xd,by rw[bX,bX];exact h.len,λj=>?_,λp q m x y=>?_,λj m z=>?_,λj m z=>?_,λj w q z=>?_]
 .have:=Uc (i:=i) h.osW j
  unfold QB;by_cases c:j=i
  .simp[c]
  .unfold noW at this
   rw[T8 c]at this ⊢;rw[iQ,this,beq_eq_false_iff_ne.mpr c,kr]
 .rcases get x with⟨x1,x2⟩|⟨x1,x2⟩<;>rcases get y with⟨y1,y2⟩|⟨y1,y2⟩
  .rw[x1,y1]
  .exact T7 (.inr #[q,x2▸y2]) hx
  .exact T7 (.inr #[p,y2▸x2]) hx
  .exact h.inj p q m x2 y2
 .rcases get z with⟨_,z⟩|⟨_,z⟩
  .exact z▸na
  .exact h.new j m z
 .rcases get z with⟨z1,z2⟩|⟨z1,z2⟩
  .subst z1 z2
   exact#[d,bR hi,bR (by rw[<-h.len];exact hi),r]
  .obtain⟨d',p,c,q⟩:=h.own j m z2
   exact#[d',by rw[bm<|Ne.symm z1];exact p,by rw[bm<|Ne.symm z1];exact c,q.lat lt (by rcases q.ob with⟨_,e⟩|⟨_,e⟩<;>rw[ZaO f (h.nx z2) e,e])]
 .unfold QB at z
  by_cases c:j=i
  .rw[T9 c]at z;cases z
  .rw[T8 c]at z
   rw[bm<|Ne.symm c]at q ⊢;obtain⟨d,p,b⟩:=h.val j w q z;exact#[d,p,b.lat lt]
def Eu.take(h:Eu O H0 W l os U H)(hd:∀a,O.X a->H a≠ae)(f:Fut O H O H')(hn:H a=ae)(hf:Pv.ZU xs=aj)(r:Rep (O.ex W) H' (.lst xs) (.ref a))(hi:i<l.length) :
  Eu O H0 (QB W i a) (l.set i<|aa<|.lst xs) (i::os.filter (· != i)) (U.set i<|aa<|.ref a) H':=by
 obtain⟨_,us,en,hs,hx,rs⟩:=r.lst';cases en;exact h.takeO (d:=.lst xs) hd f hn hx #[us,hs,rs.flat (O:=O.ex W) (ρ':=O.ex<|QB W i a) rfl (λ_ _ z _ _=>z) hf] hi
def Eu.mutO{i:Nat}{a:aK}{d':D}{o':HO}(h:Eu O H0 W l os U H)(hw:W i=aa a)(r:Xa (O.ex W) (upd H a o') a d'):Eu O H0 W (l.set i<|aa d') os U (upd H a o'):=by
 obtain⟨d,p,c,e⟩:=h.own i a hw;have hi:i<l.length:=(a9.mp p).1;have lt:Lat (O.ex W) H (O.ex W) (upd H a o'):=Lat.own (show(O.ex W).X a from nZ #[i,hw]) e.ob
 refine#[#[rfl,λb o z=>?_],h.xd,by rw[bX];exact h.len,h.osW,h.inj,h.new,λj m z=>?_,λj w q z=>?_]
 .rw[Zq λq=>by rw[q,h.new i a hw]at z;cases z]
  exact h.fut.keep b o z
 .by_cases k:i=j
  .subst k
   rw[hw]at z;cases z;exact#[d',bR hi,c,r]
  .obtain⟨d2,a',c',e'⟩:=h.own j m z
   exact#[d2,by rw[bm k];exact a',c',e'.lat lt<|Zq λq:m=a=>k<|h.inj i j a hw<|q▸z]
 .have k:i≠j:=λk=>by rw[<-k,hw]at z;cases z
  rw[bm k]at q;obtain⟨d,a',b'⟩:=h.val j w q z;exact#[d,a',b'.lat lt]
def Eu.mut(h:Eu O H0 W l os U H)(hw:W i=aa a)(r:Reps (O.ex W) H ys us):Eu O H0 W (l.set i<|aa<|.lst ys) os U (upd H a<|.lst us):=by
 obtain⟨d,p,c,e⟩:=h.own i a hw;exact h.mutO hw (d':=.lst ys) #[us,ZI,r.lat<|Lat.own (show(O.ex W).X a from nZ #[i,hw]) e.ob]
def St3.mut{K:am}{i:Nat}{a:aK}{o':HO}(st:St3 K O S H)(h:Eu O H0 W l os U H)(hw:W i=aa a)(ht:∀ps,o'≠.tbl ps:=by intro _ z;cases z):St3 K O S (upd H a o'):=by
 obtain⟨d,p,c,e⟩:=h.own i a hw;have ne:∀b,O.X b->b≠a:=λb x z=>h.nx hw<|z▸x
 exact#[st.hk,λb x=>by rw[Zq<|ne b x];exact st.xd b x,λb x=>by rw[Zq<|ne b<|O.xz b x];exact st.dw b x,st.tb.upd (λo u z=>by rcases e.ob with⟨_,e⟩|⟨_,e⟩<;>(rw[e]at z;cases z)) ht]
structure Base(O:Mx)(H0 H1:Hp):Prop where
 fut:Fut O H0 O H1
 dom:∀a,H1 a=ae->H0 a=ae
def Eu.rebase(b:Base O H0 H1)(x:∀a,O.X a->H0 a≠ae)(h:Eu O H1 W l os U H):Eu O H0 W l os U H:=#[b.fut.trans h.fut,x,h.len,h.osW,h.inj,λi a e=>b.dom a<|h.new i a e,h.own,h.val]
open Classical in
noncomputable def UE(H:Hp)(W:Own):Hp:=λa=>if ∃i,W i=aa a then ae else H a
def Eu.off(h:Eu O H0 W l os U H)(hd:∀a,O.X a->H a≠ae):Base O H0 (UE H W)/\Eu O (UE H W) W l os U H:=by
 have nw:∀a,H0 a≠ae->UE H W a=H a:=λa z=>T8 λ#[i,e]=>z<|h.new i a e
 refine#[#[#[rfl,λa o e=>?_],λa e=>?_],#[rfl,λa o e=>.inl ?_],λa x=>?_,h.len,h.osW,h.inj,λi a e=>T9 #[i,e],h.own,h.val]
 .rw[nw a (by rw[e];intro z;cases z)];exact h.fut.keep a o e
 .cases q:H0 a with
  |none=>rfl
  |some o=>
   rw[nw a<|by rw[q];intro z;cases z]at e
   rw[h.fut.new e hd]at q;cases q
 .unfold UE at e
  split at e
  .cases e
  .exact e
 .rw[nw a<|h.xd a x];exact hd a x
def Eu.walk(h:Eu O H0 W l os U H)(h':Eu O (UE H W) W' l' os' σ' H'):Lat (O.ex W) H (O.ex W') H':=by
 refine#[rfl,rfl,λa o e x n nd=>?_,λa e x=>?_]
 .have nw:¬∃i,W i=aa a:=by
   rintro ⟨i,w⟩;obtain⟨_,_,_,z⟩:=h.own i a w;rcases z.ob with⟨us,z⟩|⟨us,z⟩<;>rw[e]at z
   .exact x us (ai z)<|.inr #[i,w]
   .exact nd us (ai z)<|.inr #[i,w]
  rcases h'.fut.keep a o (by unfold UE;rw[T8 nw];exact e)with z|⟨z,xs,q⟩|⟨⟨ps,q⟩,_⟩
  .exact z
  .exact T7 (.inl<|O.xz a z)<|x xs q
  .exact T7 q<|n ps
 .rcases x with x|⟨i,x⟩
  .exact .inl x
  .have:=h'.new i a x
   unfold UE at this;split at this
   .exact .inr ‹_›
   .exact T7 this e
end
section
variable(X:Cx)(xw:Nat->Hp->Prop)(C:Calls)
def tF(f:Lc->Zo->R D):TE:=λU H Q=>∃O l S,St3 X.K O S H/\LocR O H l U/\End X.K xw (XB aj H) O H Q (f l S)
structure CF(e:Expr)(i:E):Prop where
 h:PE X e (tF X xw<|Pv.pv C i)
end
def CF.ce{X:Cx}{xw:Nat->Hp->Prop}{C:Calls}{e:Expr}{i:E}(h:CF X xw C e i):CE X xw C e i:=.mk <| PE.imp h.h<|by rintro U H Q ⟨O,l,S,st,lr,h⟩;exact #[O,l,S,st,lr,h.fr]
def End.newF{K:am}{xw:Nat->Hp->Prop}{O:Mx}{H0 H:Hp}{Q:VK}{S S0:Zo}{ds:List D}{xs:List V}(h:End K xw (XB aj H0) O H Q (.ok (.lst ds) S))(f:Fut O H0 O H)(s0:St3 K O S0 H0)(st:St3 K O S H)(r:Reps O H ds xs):∀p,H p=ae->Q (.ref p) (upd H p<|.lst xs):=λp hp=>
 h O _ _ (ZP hp) (st.fresh hp) #[Wx ZI (st.nx hp)<|r.mono<|ZP hp,λ_ _ _=>#[p,rfl,f.new hp st.xd]]
def wR(K:am)(xw:Nat->Hp->Prop)(f:Bf):List V->Hp->VK->Prop:=λvs H Q=>∃O S ds,St3 K O S H/\Reps O H ds vs/\∃H0 S0,Fut O H0 O H/\St3 K O S0 H0/\End K xw (XB aj H0) O H Q (Pv.po (Pv.Xb f ds) S)
def jm{xw:Nat->Hp->Prop}:∀U H Q,tF X xw (Pv.pv C<|.blt f is) U H Q->tCB (wR X.K xw f) (tA X xw<|Pv.pvs C is) U H Q:=λU H Q #[O,l,S,st,lr,h]=>
 #[O,l,S,st,lr,End.bind (h) λxs S1 ρ1 H1 vs f1 st1 r1 h1=>by cases f1.eq;exact#[O,S1,xs,st1,r1,H,S,f1,st,h1]]
def jc{X:Cx}{xw:Nat->Hp->Prop}{C:Calls}{e:Expr}{pos p:iA}{f:Bf}{id:String}{x:bE}{es:List Expr}{is:List E}(hc:ZM X (.builtin id) (wR X.K xw f))(hm:X.mg x=ae)(ha:CA X xw C (e::es) is)(hg:Gl X x)(hv:dP x=aa (.builtin id))(hn:x≠"__name__")(hdb:(x == ("__debug__" : bE))=ak)
  (he:aJ (e::es) X.env=(ak,cC e X.env)::aJ es X.env)(hpl:(eO pos<|aJ es X.env).any (·.1)=ak):CF X xw C (.Call (.Name x p) (e::es) [] pos) (.blt f is):=.mk <|
 PE.imp (VQ hc hg hm hv ha.h hn hdb he hpl) jm
def Zs(fr:Bool)(K:am)(xw:Nat->Hp->Prop)(O:Mx)(H0:Hp)(D:Ends):R Pv.FlV->Prop
 |.ok (.nx l os) S=>∀H' σ' W',St3 K O S H'->Eu O H0 W' l os σ' H'->D.nx σ' H'
 |.ok (.brk l os) S=>∀H' σ' W',St3 K O S H'->Eu O H0 W' l os σ' H'->D.bk σ' H'
 |.ok (.cnt l os) S=>∀H' σ' W',St3 K O S H'->Eu O H0 W' l os σ' H'->D.ct σ' H'
 |.ok (.ret d) S=>∀H' v,Fut O H0 O H'->St3 K O S H'->XB fr H0 O H' d v->D.rt v H'
 |.ex c S=>∀H',Fut O H0 O H'->St3 K O S H'->xw c H'
 |.no=>False
section
variable{fr:Bool}{K:am}{xw:Nat->Hp->Prop}{O:Mx}{H0 H:Hp}{B β:Type}{rep:Mx->Hp->B->β->Prop}{D:Ends}{W:Own}{l:Lc}{os:List Nat}{U:L2.St}{S:Zo}
theorem Zs.bind{Q1:β->Hp->Prop}(he:Eu O H0 W l os U H)(h:Zs fr K xw O H0 D (r.bind f))
  (k:∀d S H1 v,Fut O H O H1->St3 K O S H1->rep O H1 d v->Zs fr K xw O H0 D (f d S)->Q1 v H1):End K xw rep O H Q1 r:=by
 cases r with|ok d S=>exact λρ1 H1 v g st r=>by cases g.eq;exact k d S H1 v g st r h|ex c S=>exact λρ1 H1 g st=>by cases g.eq;exact h H1 (he.fut.trans g) st|no=>exact h
def Zs.bindW{Q1:β->Hp->Prop}(he:Eu O H0 W l os U H)(h:Zs fr K xw O H0 D (r.bind f))
  (k:∀d S H1 v,Fut O H O H1->St3 K O S H1->rep (O.ex W) H1 d v->Zs fr K xw O H0 D (f d S)->Q1 v H1):End K xw rep (O.ex W) H Q1 r:=by
 cases r with|ok d S=>exact λρ1 H1 v g st r=>by cases g.eq;exact k d S H1 v #[rfl,g.keep] st.unex r h|ex c S=>exact λρ1 H1 g st=>by cases g.eq;exact h H1 (he.fut.trans #[rfl,g.keep]) st.unex|no=>exact h
def Zs.ob(h:Zs fr K xw O H0 D ((Pv.po o S).bind f)):∃a,o=aa a/\Zs fr K xw O H0 D (f a S):=by
 cases o with|none=>exact h.elim|some a=>exact#[a,rfl,h]
def Zs.guard{c:Prop}[Decidable c](h:Zs fr K xw O H0 D (if c then a else .no)):c/\Zs fr K xw O H0 D a:=by
 split at h
 .exact#[‹_›,h]
 .exact h.elim
def Zs.guardN{c:Prop}[Decidable c](h:Zs fr K xw O H0 D (if c then .no else a)):¬c/\Zs fr K xw O H0 D a:=by
 split at h
 .exact h.elim
 .exact#[‹_›,h]
theorem Zs.rebase(b:Base O H0 H1)(x:∀a,O.X a->H0 a≠ae)(h:Zs fr K xw O H0 D r):Zs fr K xw O H1 D r:=by
 cases r with
 |ok f S=>
  cases f with|nx l os=>exact λH' σ' W' st e=>h H' σ' W' st<|e.rebase b x|brk l os=>exact λH' σ' W' st e=>h H' σ' W' st<|e.rebase b x|cnt l os=>exact λH' σ' W' st e=>h H' σ' W' st<|e.rebase b x|ret d=>exact λH' v f st r=>h H' v (b.fut.trans f) st #[r.1,λz ds y=>let #[a,e,q]:=r.2 z ds y;#[a,e,b.dom a q]]
 |ex c S=>exact λH' f st=>h H' (b.fut.trans f) st
 |no=>exact h
end
section
variable(X:Cx)(xw:Nat->Hp->Prop)(fr:Bool)
def tS3(f:Lc->List Nat->Zo->R Pv.FlV):TS:=λD U H=>∃O H0 W l os S,St3 X.K O S H/\Eu O H0 W l os U H/\Zs fr X.K xw O H0 D (f l os S)
variable(C:Calls)(ms:List Nat)
structure CS(st:fR)(s:Sm):Prop where
 h:PS X st (tS3 X xw fr<|Pv.rv C ms s)
structure CSs(st:List fR)(s:List Sm):Prop where
 h:PSs X st (tS3 X xw fr<|Pv.rvs C ms s)
structure CG(tg:Expr)(t:List Nat):Prop where
 h:PG X tg (tGU X.K t)
def ZeJ(t:List Nat):TGs:=λvs U H Q=>vs.length=t.length/\Q (V1 t vs U) H
structure CGs(tgs:List Expr)(t:List Nat):Prop where
 h:PGs X tgs (ZeJ t)
end
def PS.imp(h:PS X e t)(k:∀D U H,t' D U H->t D U H):PS X e t':=λpq s U H D I q=>h pq s U H D I<|k D U H q
def PSs.imp(h:PSs X e t)(k:∀D U H,t' D U H->t D U H):PSs X e t':=λpq s U H D I q=>h pq s U H D I<|k D U H q
def PG.imp(h:PG X e t)(k:∀v U H Q,t' v U H Q->t v U H Q):PG X e t':=λpq s U H v u Q I r q=>h pq s U H v u Q I r<|k v U H Q q
def PGs.imp(h:PGs X e t)(k:∀v U H Q,t' v U H Q->t v U H Q):PGs X e t':=λpq s U H v u Q I r q=>h pq s U H v u Q I r<|k v U H Q q
section
variable{X:Cx}{xw:Nat->Hp->Prop}{fr:Bool}{C:Calls}{ns:List Nat}{e a b c:Expr}{i j k:E}{pos p p' p2:iA}{s0:fR}{ss:List fR}{m0:Sm}{ms ms':List Sm}
def Zby{es:List Expr}{is:List E}(h:CA X xw C es is):CF X xw C (.List es pos) (.lst is):=.mk <| PE.imp (Zbg h.h)<|by
 rintro U H Q ⟨O,l,S,st,lr,h⟩;rw[Pv.pv]at h;refine#[O,l,S,st,lr,h.bind λxs S1 ρ1 H1 vs f1 st1 r1 h1=>?_]
 obtain⟨hl,h1⟩:=h1.guard;cases f1.eq;exact#[by rw[r1.length,<-XU];exact hl,h1.newF f1 st st1 r1]
def Zb7:CSs X xw fr C ns [] []:=.mk <| PSs.imp qS<|by rintro D U H ⟨O,H0,W,l,os,S,st,he,h⟩;exact h H U W st he
def ZaB(h1:CS X xw fr C ns s0 m0)(h2:CSs X xw fr C ns ss ms):CSs X xw fr C ns (s0::ss) (m0::ms):=.mk <| PSs.imp (JU h1.h h2.h)<|by
 rintro D U H ⟨O,H0,W,l,os,S,st,he,h⟩;refine#[O,H0,W,l,os,S,st,he,?_];rw[Pv.rvs]at h;cases q:Pv.rv C ns m0 l os S with
 |no=>rw[q]at h;exact h
 |ex c S1=>rw[q]at h;exact h
 |ok fl S1=>
  rw[q]at h;cases fl with|nx l1 os1=>exact λH1 σ1 W1 st1 he1=>#[O,H0,W1,l1,os1,S1,st1,he1,h]|_=>exact h
def ZbY(he:CE X xw C e i):CS X xw ak C ns (.Return (aa e) pos) (.ret i):=.mk <| PS.imp (vX he.h)<|by
 rintro D U H ⟨O,H0,W,l,os,S,st,en,h⟩;rw[Pv.rv]at h;exact#[O,l,S,st,en.all,Zs.bind en h λx S1 H1 v f1 st1 r1 h1=>h1 H1 v (en.fut.trans f1) st1 #[r1,λz=>by cases z]]
def J9{K:am}{O:Mx}{H0 H:Hp}{W:Own}{l:Lc}{os:List Nat}{U:L2.St}{S:Zo}{a:aK}(en:Eu O H0 W l os U H)(st:St3 K O S H)(h:H a=ae):H0 a=ae:=en.fut.new h st.xd
def Zas(he:CF X xw C e i):CS X xw fr C ns (.Return (aa e) pos) (.ret i):=.mk <| PS.imp (vX he.h)<|by
 rintro D U H ⟨O,H0,W,l,os,S,st,en,h⟩;rw[Pv.rv]at h;exact#[O,l,S,st,en.all,Zs.bind en h λx S1 H1 v f1 st1 r1 h1=>h1 H1 v (en.fut.trans f1) st1 #[r1.1,λ_ ds y=>let #[a,e,q]:=r1.2 rfl ds y;#[a,e,J9 en st q]]]
def qZ{n:Nat}{is:List E}(he:CE X xw C e (.call n is))(hs:gS e ae pos.line X.env=cW ak):CS X xw fr C ns (.Expr e pos) (.ex<|.call n is):=.mk <| PS.imp (QZ he.h hs) λD U H #[O,H0,W,l,os,S,st,en,h]=>
 #[O,l,S,st,en.all,Zs.bind en (show Zs fr X.K xw O H0 D ((Pv.pv C (.call n is) l S).bind λ_ s=>.ok (.nx l os) s)from h) λx S1 H1 v f1 st1 r1 h1=>h1 H1 U W st1<|en.mono f1]
def Zdx{sa sb:List fR}(hc:CT X xw C c k)(ha:CSs X xw fr C ns sa ms)(hb:CSs X xw fr C ns sb ms'):CS X xw fr C ns (.If c sa sb pos) (.ite k ms ms'):=.mk <| PS.imp (Zdy hc.h ha.h hb.h)<|by
 rintro D U H ⟨O,H0,W,l,os,S,st,en,h⟩;rw[Pv.rv]at h;refine#[O,l,S,st,en.all,Zs.bind en h λx S1 H1 v f1 st1 r1 h1=>?_]
 have e1:x=v:=r1;subst e1;cases x with|true=>exact#[O,H0,W,l,os,S1,st1,en.mono f1,h1]|false=>exact#[O,H0,W,l,os,S1,st1,en.mono f1,h1]
def jY{n:Nat}{x:bE}(hN:X.N.Nodup)(hi:X.N[n]?=aa x)(hx:L2.Loc X.env.scope x)(hf:X.fn x=aj\/X.env.scope.names.lookup x=aa .local):CG X (.Name x pos) [n]:=.mk <|
 PG.imp (Qr hN hi hx hf) λv U H Q q=>q
def qN:CGs X [] []:=.mk <| PGs.imp ZaA<|by
 rintro vs U H Q ⟨h,q⟩;cases vs with|nil=>exact#[rfl,q]|cons _ _=>cases h
def qt{tgs:List Expr}{n:Nat}{t:List Nat}{x:bE}(hN:X.N.Nodup)(h2:CGs X tgs t)(hi:X.N[n]?=aa x)(hx:L2.Loc X.env.scope x)(hf:X.fn x=aj\/X.env.scope.names.lookup x=aa .local)
  (hs:(cz (.Name x pos::tgs) X.env).map (·.2)=eI (.Name x pos) X.env::(cz tgs X.env).map (·.2)):CGs X (.Name x pos::tgs) (n::t):=.mk <|
 PGs.imp (uJ (Qr hN hi hx hf) h2.h hs)<|by
  rintro vs U H Q ⟨h,q⟩;cases vs with|nil=>cases h|cons v vs=>exact#[v,vs,rfl,Nat.succ.inj h,q]
theorem UH{E:al->aq->Prop}(hne:t≠it):∀(n i:Nat)(s:aq)(Q:List al->aq->Prop),s.heap.IsListIter it t i->s.heap.IsList t items->i+n<=items.size->
  (∀h',b5.IsListIter h' it t (i+n)->fb it s.heap h'->Q ((items.toList.drop i).take n) {s with heap:=h' })->aW (aT prog w) A (draw (.ref it) n) Q E s
 |0,i,s,Q,hit,_,_,hQ=>by
  exact aw (by simpa using hQ s.heap hit<|fb.refl ..)
 |n+1,i,s,Q,hit,ht,hle,hQ=>by
  have hlt:i<items.size:=by lia
  refine ab<|lc hit ht (x:=items[i]) (by simp[hlt]) λh₁ hit₁ hs₁=>?_
  refine ab<|b6<|UH hne n (i+1) _ _ hit₁ (ht.extBut hs₁.extBut hne) (by lia) λh₂ hit₂ hs₂=>aw ?_
  have hd:items.toList.drop i=items[i]::items.toList.drop (i+1):=by simp[b9,hlt]
  have:=hQ h₂ (by rw[show i+(n+1)=i+1+n by lia];exact hit₂)<|hs₁.trans hs₂
  rw[hd,List.take_succ_cons]at this;exact this
theorem Jk{E:al->aq->Prop}{x1}{Q:Unit->aq->Prop}(hh:A.handled=ae)(ht:s.heap.IsList t items)
  (hn:(cz elts env).length=items.size)(hstar:(cz elts env).findIdx? (·.1)=ae)
  (h:∀h',kh s.heap.objs.size s.heap h'->aW (aT prog w) A (mG ((cz elts env).map (·.2)) items.toList) Q E {s with heap:=h' }) :
  aW (aT prog w) A (eI (.Tuple elts x1 pos) env<|.ref t) Q E s:=by
 rw[assign_Tuple];refine ab<|dR ?_;have hlt:t≠s.heap.objs.size:=by obtain⟨o,ho,_⟩:=ht;exact bx<|aF ho
 unfold unpack;rw[hn,hstar];refine ab<|b6 ?_;refine ab ?_;refine ab<|fZ ht.typeIs slot_list_iter.lookup ?_;refine aw ?_;simp only[cG,if_false];refine ab<|b6<|fB ht ?_;refine ab<|b6<|UH hlt items.size 0 _ _ #[_,aL _ rfl,rfl,rfl] (ht.push _) (by lia) λh₁ hit₁ hs₁=>?_
 have hall:iI items.size (pK 0 items.toList)=items.toList:=by
  rw[iP];exact ck (by simp)
 rw[hall];rw[T8 (by simp)]
 have ht₁:=(ht.push _).extBut hs₁.extBut hlt;refine ab<|b6<|lT hh hit₁ ht₁ (by simp) λh₂ he₂=>?_
 simp only[Option.isSome_none,cG,if_false];exact aw<|h h₂ λb o hb e=>he₂ b o hb<|hs₁.extBut b o hb<|au _ e
def gTL(K:am)(n:Nat)(t:TGs):TG:=λv U H Q=>∃a xs,v=.ref a/\(SqT K H a xs\/H a=aa (.lst xs))/\xs.length=n/\t xs U H Q
def Zdw{X:Cx}{pos:iA}{es:List Expr}{k:Nat}{t:TGs}{n:Nat}(hc:X.calm=aj)(h:PGs X es t)
  (hn:(cz es X.env).length=n:=by rfl)(hst:(cz es X.env).findIdx? (·.1)=ae:=by rfl):PG X (.Tuple es k pos) (gTL X.K n t):=by
 intro pq s U H v u Q I r hw;obtain⟨a,xs,e1,hq|hq,hl,hw⟩:=hw
 .exact ZcI hc h hn hst pq s U H v u Q I r #[a,xs,e1,hq,hl,hw]
 .subst e1
  cases r;obtain⟨its,rv,pl,hz⟩:=I.list<|SqL.of hq;refine Jk (I.ok.hd hc) pl.isList (by simp[hn,<-hl,rv.length]) hst λh' hx=>?_
  have I1:=I.kept (t':=s.toks) λb o e=>hx b o (bx<|aF e) e
  exact h pq _ U H xs _ Q I1 (by simpa using rv) hw
def Zcj{tgs:List Expr}{q2:Nat}{n m:Nat}{r:List Nat}(hc:X.calm=aj)(h:CGs X tgs (n::m::r))(hn:(cz tgs X.env).length=(n::m::r).length)(hst:(cz tgs X.env).findIdx? (·.1)=ae):CG X (.Tuple tgs q2 pos) (n::m::r):=.mk <|
 PG.imp (Zdw hc h.h hn hst)<|by rintro v U H Q ⟨a,xs,e,hp,hl,q⟩;exact #[a,xs,e,hp,hl,hl,q]
def Zs.evA{D:Ends}{K:am}{O:Mx}{H0 H:Hp}{W:Own}{l:Lc}{os:List Nat}{U:L2.St}{S:Zo}{f:Pv.V->Zo->R Pv.FlV}{Q1:VK}(z:Bool)(hz:Pv.fresh i=aj->z=aj)(st:St3 K O S H)(en:Eu O H0 W l os U H)(h:Zs fr K xw O H0 D ((Pv.pvA C i l os S).bind f))
  (k:∀d S1 H1 v,Fut O H O H1->St3 K O S1 H1->XB z H (O.ex W) H1 d v->Zs fr K xw O H0 D (f d S1)->Q1 v H1):∃ρ' l' S,St3 K ρ' S H/\LocR ρ' H l' U/\End K xw (XB z H) ρ' H Q1 (Pv.pv C i l' S):=by
 have hid:Zs fr K xw O H0 D ((Pv.pv C i (Pv.hide os l) S).bind f)->∃ρ' l' S,St3 K ρ' S H/\LocR ρ' H l' U/\End K xw (XB z H) ρ' H Q1 (Pv.pv C i l' S):=λh=>#[O.ex W,Pv.hide os l,S,en.st st,en.hid,Zs.bindW en h k]
 cases os with
 |nil=>exact hid (by rw[hide_nil];exact h)
 |cons o os=>
  have h:Zs fr K xw O H0 D (Pv.PR.bind (match Pv.pv C i (Pv.hide (o::os) l) S with
   |.ok v s=>.ok v s
   |.ex c s=>.ex c s
   |.no=>(Pv.pv C i l S).bind λv s=>if(v.flat||Pv.fresh i&&Pv.yC v)=aj then .ok v s else .no) f):=h
  cases q:Pv.pv C i (Pv.hide (o::os) l) S with
  |ok v s=>rw[q]at h;exact hid (by rw[q];exact h)
  |ex c s=>rw[q]at h;exact hid (by rw[q];exact h)
  |no=>
   rw[q]at h;have h:Zs fr K xw O H0 D (((Pv.pv C i l S).bind λv s=>if(v.flat||Pv.fresh i&&Pv.yC v)=aj then Pv.PR.ok v s else .no).bind f):=h
   rw[Yj]at h;refine#[O,l,S,st,en.all,Zs.bind en h λd S1 H1 v f1 st1 r1 h1=>?_]
   by_cases c:(d.flat||Pv.fresh i&&Pv.yC d)=aj
   case neg=>rw[T8 c]at h1;exact h1.elim
   rw[T9 c]at h1;refine k d S1 H1 v f1 st1 #[?_,r1.2] h1;rcases(fq _ _).mp c with c|c
   .exact Rep.flat (O:=O) (ρ':=O.ex W) rfl (λ_ _ z _ _=>z) c r1.1
   .obtain⟨c1,c2⟩:=(aB _ _).mp c
    cases d with
    |lst xs=>
     obtain⟨a,rfl,ha⟩:=r1.2 (hz c1) xs rfl;obtain⟨_,us,e,hs,hx,rs⟩:=r1.1.lst';cases e;exact Wx hs (λx=>x.elim hx λ#[i,w]=>let #[_,_,_,z]:=en.own i a w;T7 ha z.ne)<|rs.flat (O:=O) (ρ':=O.ex W) rfl (λ_ _ z _ _=>z) c2
    |_=>cases c2
def End.unfr{K:am}{O:Mx}{H H0:Hp}{Q:VK}{r:R D}(h:End K xw (XB ak H0) O H Q r):End K xw Rep O H Q r:=by
 cases r with|ok d S=>exact λρ' H' v f st r=>h ρ' H' v f st #[r,λz=>by cases z]|_=>exact h
def qP{n:Nat}{tg:Expr}(he:CE X xw C e i)(hg:CG X tg [n])(hf:Pv.fresh i=ak)(hs:dS [tg] e pos.line X.env=cW ak)(hw:dU [tg] e X.env=cW ae)
  (h1:(cz [tg] X.env).map (·.2)=[eI tg X.env]):CS X xw fr C ns (.Assign [tg] e pos) (.asg [n] i):=.mk <| PS.imp (VY he.h hg.h hs hw h1)<|by
 rintro D U H ⟨O,H0,W,l,os,S,st,en,h⟩;rw[Pv.rv]at h;obtain⟨ρ',l',S',a,b,c⟩:=Zs.evA (Q1:=λx H1=>tGU X.K [n] x U H1 D.nx) ak (λz=>by rw[hf]at z;cases z) st en h λd S1 H1 v f1 st1 r1 h1=>by
  rw[hf,oT,T8 aI]at h1;exact h1 H1 _ _ st1<|(en.mono f1).drop (o:=aa d) λ_ z=>by cases z;exact r1.1.lat Lat.noW
 exact#[ρ',l',S',a,b,c.unfr]
def ZbT{D:Ends}{O:Mx}{H0 H:Hp}{W:Own}{l:Lc}{os:List Nat}{U:L2.St}{S:Zo}{n:Nat}(st:St3 X.K O S H)(en:Eu O H0 W l os U H)(h:Zs fr X.K xw O H0 D (Pv.rv C ns (.asg [n] i) l os S)):tF X xw (Pv.pv C i) U H λx H1=>D.nx (U.set n<|aa x) H1:=by
 rw[Pv.rv]at h;refine Zs.evA aj (λ_=>rfl) st en h λd S1 H1 v f1 st1 r1 h1=>?_
 by_cases c:(ns.contains n&&Pv.fresh i)=aj
 .rw[T9 c]at h1
  cases d with
  |lst xs=>
   obtain⟨⟨hf,hl⟩,h1⟩:=Zs.guard h1;obtain⟨a,rfl,ha⟩:=r1.2 rfl xs rfl;exact h1 H1 _ _ st1<|en.take st.xd f1 ha hf r1.1 hl
  |_=>exact h1.elim
 .rw[T8 c]at h1
  exact h1 H1 _ _ st1<|(en.mono f1).drop (o:=aa d) λ_ z=>by cases z;exact r1.1.lat Lat.noW
def jR{n:Nat}{tg:Expr}(he:CF X xw C e i)(hg:CG X tg [n])(hs:dS [tg] e pos.line X.env=cW ak)(hw:dU [tg] e X.env=cW ae)
  (h1:(cz [tg] X.env).map (·.2)=[eI tg X.env]):CS X xw fr C ns (.Assign [tg] e pos) (.asg [n] i):=.mk <| PS.imp (VY he.h hg.h hs hw h1)<|by rintro D U H ⟨O,H0,W,l,os,S,st,en,h⟩;exact ZbT st en h
def Zcp{n m:Nat}{t:List Nat}{tg:Expr}(he:CE X xw C e i)(hg:CG X tg (n::m::t))(hf:Pv.fresh i=ak)(hs:dS [tg] e pos.line X.env=cW ak)(hw:dU [tg] e X.env=cW ae)
  (h1:(cz [tg] X.env).map (·.2)=[eI tg X.env]):CS X xw fr C ns (.Assign [tg] e pos) (.asg (n::m::t) i):=.mk <| PS.imp (VY he.h hg.h hs hw h1)<|by
 rintro D U H ⟨O,H0,W,l,os,S,st,en,h⟩;rw[Pv.rv]at h
 .obtain⟨ρ',l',S',a,b,c⟩:=Zs.evA (Q1:=λx H1=>tGU X.K (n::m::t) x U H1 D.nx) ak (λz=>by rw[hf]at z;cases z) st en h λd S1 H1 v f1 st1 r1 h1=>by
   obtain⟨ht,h1⟩:=h1.guardN;obtain⟨l',hl,h1⟩:=Zs.ob h1;exact(en.mono f1).assign (by simpa using ht) r1.1 hl λσ' e'=>h1 H1 σ' W st1 e'
  exact#[ρ',l',S',a,b,c.unfr]
 .intro _ z;cases z
end
theorem Eu.at{O:Mx}{H0 H:Hp}{W:Own}{l:Lc}{os:List Nat}{U:L2.St}{i:Nat}{xs:List D}(h:Eu O H0 W l os U H)(hi:os.contains i=aj)(hx:Pv.XM l[i]?=aa xs):∃a,W i=aa a/\U[i]?=aa (aa<|.ref a)/\∃us,H a=aa (.lst us)/\Reps (O.ex W) H xs us:=by
 rw[h.osW]at hi;obtain⟨a,w⟩:=c8.mp hi;obtain⟨d,p,c,r⟩:=h.own i a w;rw[p]at hx;cases d with|lst ys=>cases hx;exact#[a,w,c,r]|_=>cases hx
section
variable{X:Cx}{xw:Nat->Hp->Prop}{fr:Bool}{C:Calls}{ns:List Nat}{e a b c:Expr}{i j k:E}{pos p p' p2:iA}{s0:fR}{ms ms':List Sm}{n:Nat}{x:bE}
def xj{apos cpos:iA}(he:CE X xw C e i)(hN:X.N[n]?=aa x)(hv:Vis X.env.scope x)(hd:(x == ("__debug__" : bE))=ak)
  (hcd:(x == ("__classdict__" : bE))=ak)
  (hbase:kq (.Name x p) "append" X.env (cC (.Name x p) X.env)=cC (.Name x p) X.env)
  (hfew:((eO cpos<|aJ [e] X.env).all (λx=>!x.1)&&(oS cpos<|l8 [] X.env).all (λx=>x.1.isSome)
   && ag (([e]:List Expr).length+([]:List lu).length+(if([]:List lu).isEmpty then 0 else 1)<30))=aj)
  (hline:(apos.endLine == cpos.line)=aj)(hs:aJ [e] X.env=(ak,cC e X.env)::aJ [] X.env)(hplain:(eO cpos<|aJ [] X.env).any (·.1)=ak)
  (hw:gS (.Call (.Attribute (.Name x p) "append" apos) [e] [] cpos) ae pos.line X.env=cW ak) :
  CS X xw fr C ns (.Expr (.Call (.Attribute (.Name x p) "append" apos) [e] [] cpos) pos) (.ex<|.mt .append (.v n) [i]):=.mk <|
 PS.imp (QZ (wv gn PySem.F.slot_list_append PySem.F.type_list_append U0 (QA hN hv hd hcd) (Xv he.h Vv hs) hbase hfew hline hs hplain) hw)<|by
 rintro D U H ⟨O,H0,W,l,os,S,st,en,h⟩;rw[Pv.rv]at h;obtain⟨c,h⟩:=h.guard;obtain⟨xs,hx,h⟩:=Zs.ob h;obtain⟨a,ha,q,us,e1,_⟩:=en.at c hx;refine#[.ref a,q,.inl #[rfl,us,SqL.of e1],O,l,S,st,en.all,Zs.bind en h λy S1 H1 v f1 st1 r1 h1=>?_]
 obtain⟨⟨hf,hl⟩,h1⟩:=h1.guard;have en1:=en.mono f1;obtain⟨a',ha',_,us,e2,r'⟩:=en1.at c hx;rw[ha]at ha';cases ha';exact#[a,us,v,rfl,rfl,e2,by rw[r'.length,<-XU];exact hl,h1 _ _ W (st1.mut en1 ha)<|en1.mut ha<|r'.append<|Reps.cons (Rep.flat (O:=O) (ρ':=O.ex W) rfl (λ_ _ z _ _=>z) hf r1) Reps.nil]
def wp{apos cpos:iA}(he:CE X xw C e i)(hN:X.N[n]?=aa x)(hv:Vis X.env.scope x)(hd:(x == ("__debug__" : bE))=ak)
  (hcd:(x == ("__classdict__" : bE))=ak)
  (hbase:kq (.Name x p) "extend" X.env (cC (.Name x p) X.env)=cC (.Name x p) X.env)
  (hfew:((eO cpos<|aJ [e] X.env).all (λx=>!x.1)&&(oS cpos<|l8 [] X.env).all (λx=>x.1.isSome)
   && ag (([e]:List Expr).length+([]:List lu).length+(if([]:List lu).isEmpty then 0 else 1)<30))=aj)
  (hline:(apos.endLine == cpos.line)=aj)(hs:aJ [e] X.env=(ak,cC e X.env)::aJ [] X.env)(hplain:(eO cpos<|aJ [] X.env).any (·.1)=ak)
  (hw:gS (.Call (.Attribute (.Name x p) "extend" apos) [e] [] cpos) ae pos.line X.env=cW ak) :
  CS X xw fr C ns (.Expr (.Call (.Attribute (.Name x p) "extend" apos) [e] [] cpos) pos) (.ex<|.mt .extend (.v n) [i]):=.mk <|
 PS.imp (QZ (wv gn PySem.F.slot_list_extend PySem.F.type_list_extend wn (QA hN hv hd hcd) (Xv he.h Vv hs) hbase hfew hline hs hplain) hw)<|by
 rintro D U H ⟨O,H0,W,l,os,S,st,en,h⟩;rw[Pv.rv]at h;obtain⟨c,h⟩:=h.guard;obtain⟨xs,hx,h⟩:=Zs.ob h;obtain⟨a,ha,q,us,e1,_⟩:=en.at c hx;refine#[.ref a,q,.inl #[rfl,us,SqL.of e1],O.ex W,Pv.hide os l,S,en.st st,en.hid,Zs.bindW en h λy S1 H1 v f1 st1 r1 h1=>?_]
 cases y with
 |lst ys=>
  obtain⟨⟨hf,hl⟩,h1⟩:=Zs.guard h1;have en1:=en.mono f1;obtain⟨a',ha',_,us,e2,r'⟩:=en1.at c hx;rw[ha]at ha';cases ha';obtain⟨b,ws,rfl,e3,_,r3⟩:=r1.lst';exact#[a,b,us,ws,rfl,rfl,e2,e3,by rw[r'.length,r3.length,<-XU];exact hl,h1 _ _ W (st1.mut en1 ha)<|en1.mut ha<|r'.append r3]
 |_=>exact h1.elim
def Zbi{m:Nat}{y:bE}{px py pt:iA}{kt k2 pt2}(hc:X.calm=aj)(hN:X.N.Nodup)(ha:CA X xw C [a,b] [i,j])(hnm:n≠m)(hi:X.N[n]?=aa x)(hj:X.N[m]?=aa y)
  (hx:X.env.scope.names.lookup x=aa .local)(hy:X.env.scope.names.lookup y=aa .local)
  (hw:dU [.Tuple [.Name x px,.Name y py] kt pt] (.Tuple [a,b] k2 pt2) X.env=cW (aa [x,y]))
  (hs:dS [.Tuple [.Name x px,.Name y py] kt pt] (.Tuple [a,b] k2 pt2) pos.line X.env=cW ak) :
  CS X xw fr C ns (.Assign [.Tuple [.Name x px,.Name y py] kt pt] (.Tuple [a,b] k2 pt2) pos) (.par [n,m] [i,j]):=.mk <|
 PS.imp (ZcP hc hN hi hj hnm hx hy ha.h hw hs)<|by
 rintro D U H ⟨O,H0,W,l,os,S,st,en,h⟩;rw[Pv.rv]at h;have fin:∀{vs:List Pv.V}{us:List V}{S1:Zo}{H1:Hp},Fut O H O H1->St3 X.K O S1 H1->Reps (O.ex W) H1 vs us->Zs fr X.K xw O H0 D (if([n,m].any os.contains)=aj then .no else(Pv.po (Pv.YA [n,m] vs l) S1).bind λO s=>.ok (.nx O os) s)->∃v w,us=[v,w]/\D.nx ((U.set n<|aa v).set m<|aa w) H1:=λ{vs us S1 H1} f1 st1 r1 h1=>by
  obtain⟨ht,h1⟩:=h1.guardN;obtain⟨l',hl,h1⟩:=Zs.ob h1;obtain⟨hz,e'⟩:=(en.mono f1).fill (by simpa using ht) r1 hl
  match us,hz,e' with
  |[v,w],_,e'=>exact#[v,w,rfl,h1 H1 _ W st1 e']
 cases os with
 |nil=>exact#[O.ex W,Pv.hide [] l,S,en.st st,en.hid,Zs.bindW en (by rw[hide_nil];exact h) λvs S1 H1 us f1 st1 r1 h1=>fin f1 st1 r1 h1]
 |cons o os=>
  have h:Zs fr X.K xw O H0 D (Pv.PR.bind (match Pv.pvs C [i,j] (Pv.hide (o::os) l) S with
   |.ok v s=>.ok v s
   |.ex c s=>.ex c s
   |.no=>(Pv.pvs C [i,j] l S).bind λv s=>if Pv.ZU v then .ok v s else .no) _):=h
  cases q:Pv.pvs C [i,j] (Pv.hide (o::os) l) S with
  |ok v s=>rw[q]at h;exact#[O.ex W,_,S,en.st st,en.hid,Zs.bindW en (by rw[q];exact h) λvs S1 H1 us f1 st1 r1 h1=>fin f1 st1 r1 h1]
  |ex c s=>rw[q]at h;exact#[O.ex W,_,S,en.st st,en.hid,Zs.bindW en (by rw[q];exact h) λvs S1 H1 us f1 st1 r1 h1=>fin f1 st1 r1 h1]
  |no=>
   rw[q]at h;have h:Zs fr X.K xw O H0 D (((Pv.pvs C [i,j] l S).bind λv s=>if Pv.ZU v=aj then Pv.PR.ok v s else .no).bind _):=h
   rw[Yj]at h;refine#[O,l,S,st,en.all,Zs.bind en h λvs S1 H1 us f1 st1 r1 h1=>?_]
   by_cases c:Pv.ZU vs=aj
   case neg=>rw[T8 c]at h1;exact h1.elim
   rw[T9 c]at h1;exact fin f1 st1 (Reps.flat (O:=O) (ρ':=O.ex W) rfl (λ_ _ z _ _=>z) c r1) h1
def qj{n:Nat}:CS X (λ_ _=>False) fr C ns s0 (.raise n []):=.mk <| λpq s U H D I #[O,H0,W,l,os,S,st,en,h]=>
 False.elim ((show Zs fr X.K (λ_ _=>False) O H0 D (.ex n S)from h) H en.fut st)
structure AugOk(X:Cx)(op:oO)(o:Bop):Prop where
 h:∃t:TIp,PIp X op t/\∀(xw:Nat->Hp->Prop) O S H n m Q,St3 X.K O S H->End X.K xw Rep O H Q (Pv.Yy o (.int n) (.int m) S)->t (.int n) (.int m) H Q
def wz:AugOk X .Mult .mul:=#[_,u9,λxw O S H n m Q st h=>by
 obtain⟨hc,h⟩:=End.guard h;exact#[n,m,rfl,rfl,(aB _ _).mp hc,End.ok h st<|ZB _]]
def ub{o:Bop}{a b:Int}{S S':Zo}{z:D}(h:Pv.Ve o a b S=.ok z S'):∃y,z=.int y:=by
 unfold Pv.Ve at h;cases o<;>simp only at h<;>first
  |(cases h;exact#[_,rfl])
  |(split at h<;>cases h;exact#[_,rfl])
def Zb1{op:oO}{o:Bop}(ho:AugOk X op o)(hN:X.N.Nodup)(he:CE X xw C e i)(hi:X.N[n]?=aa x)(hx:L2.Loc X.env.scope x)(hf:X.fn x=aj\/X.env.scope.names.lookup x=aa .local) :
  CS X xw fr C ns (.AugAssign (.Name x p) op e pos) (.aug n o i):=.mk <| by
 obtain⟨t,ht,hq⟩:=ho.h;refine PS.imp (ZbU hN hi hx he.h ht hf) λD U H #[O,H0,W,l,os,S,st,en,h]=>?_
 rw[Pv.rv]at h;obtain⟨c,h⟩:=h.guardN;obtain⟨d,hd,h1⟩:=Zs.ob h;obtain⟨v,hv,rv⟩:=en.all.val n d (by cases q:l[n]?<;>rw[q]at hd<;>cases hd;rfl)
 refine#[v,hv,O,l,S,st,en.all,Zs.bind en h1 λy S1 H1 u f1 st1 r1 h2=>?_]
 cases d with
 |int m=>cases y with
  |int m'=>
   rw[rv.int',r1.int'];have h2:Zs fr X.K xw O H0 D ((Pv.Ve o m m' S1).bind λz S=>.ok (.nx (l.set n<|aa z) os) S):=h2
   refine hq xw O S1 H1 m m' _ st1 (show End X.K xw Rep O H1 _ (Pv.Ve o m m' S1)from ?_)
   have en1:=en.mono f1;cases q:Pv.Ve o m m' S1 with
   |no=>rw[q]at h2;exact h2
   |ex c S2=>rw[q]at h2;exact λρ1 H2 g s2=>by cases g.eq;exact h2 H2 (en1.fut.trans g) s2
   |ok z S2=>
    rw[q]at h2;obtain⟨y,rfl⟩:=ub q;exact λρ1 H2 w g s2 r2=>by
     cases g.eq;cases r2.int';exact h2 H2 _ W s2<|(en1.mono g).set (o:=aa<|.int y) (by simpa using c) λ_ z=>by cases z;exact ZB _
  |_=>exact False.elim h2
 |_=>exact False.elim h2
end
structure WRel(K:am)(O:Mx)(H:Hp)(w:List D)(J:It):Prop where
 go:∀(i:Nat) ρ' S' H',Lat O H ρ' H'->St3 K ρ' S' H'->i<w.length->J.go i H'/\∀x H'',J.yld i H' x H''->Fut ρ' H' ρ' H''/\St3 K ρ' S' H''/\∀d,w[i]?=aa d->Rep ρ' H'' d x
 stop:∀ρ' S' H',Lat O H ρ' H'->St3 K ρ' S' H'->J.stop w.length H'
section
variable(X:Cx)(xw:Nat->Hp->Prop)
def tW3(f:Lc->Zo->R (List D)):TI:=λU H Q=>∃O l S,St3 X.K O S H/\LocR O H l U/\End X.K xw (WRel X.K) O H Q (f l S)
structure CW(C:Calls)(tg it:Expr)(w:Ev.W):Prop where
 h:PI X tg it (tW3 X xw<|Pv.pvw C w)
end
def PI.imp(h:PI X tg it t)(k:∀U H Q,t' U H Q->t U H Q):PI X tg it t':=λpq s U H R I q=>h pq s U H R I<|k U H R q
section
variable{X:Cx}{xw:Nat->Hp->Prop}{C:Calls}{e a b c tg it:Expr}{i j k:E}{pos p p' p2:iA}
def ZeD(K:am)(tl:TE):TI:=λU H R=>tl U H λx H1=>∃a,x=.ref a/\(((∃xs,SqL K H1 a xs)/\R (Itl K a) H1)\/((∃xs,SqT K H1 a xs)/\R (Itt K a) H1))
def Zbo(hl:PE X l tl):PI X tg l (ZeD X.K tl):=by
 intro pq s U H R I h;refine thn (hl pq s U H _ I h) λv s1 #[x,H1,I1,r1,a,e,q]=>?_
 subst e;cases r1;rcases q with⟨⟨xs,hq⟩,q⟩|⟨⟨xs,hq⟩,q⟩
 .obtain⟨its,rv,p,hz⟩:=I1.list hq
  refine fB p.isList ?_;refine#[s1.heap.objs.size,[s1.heap.objs.size],_,_,H1,rfl,I1.kept (t':=s1.toks) λb o e=>au _ e,xZ a _,#[_,aL _ rfl,rfl,rfl],λb hb=>?_,q]
  have e:b=s1.heap.objs.size:=by simpa using hb
  subst e;exact I1.fpOk (aM _)<|I1.hok.fresh<|aM _
 .obtain⟨its,rv,p,hz⟩:=I1.tuple hq
  refine ga (p) ?_
  refine#[s1.heap.objs.size,[s1.heap.objs.size],_,_,H1,rfl,I1.kept (t':=s1.toks) λb o e=>au _ e,zu a _,#[_,aL _ rfl,rfl,rfl],λb hb=>?_,q]
  have e:b=s1.heap.objs.size:=by simpa using hb
  subst e;exact I1.fpOk (aM _)<|I1.hok.fresh<|aM _
def WT{K:am}{O:Mx}{H:Hp}{ds:List D}{xs:List V}{J:It}(r:Reps O H ds xs)(hg:∀ρ' H',Lat O H ρ' H'->(∀i x,xs[i]?=aa x->J.go i H'/\∀y H'',J.yld i H' y H''->H''=H'/\y=x)/\∀n,n=xs.length->J.stop n H'):WRel K O H ds J where
 go:=λi ρ' S' H' f st hi=>by
  obtain⟨v,g,r'⟩:=(r.lat f).get<|af hi;obtain⟨a,b⟩:=(hg ρ' H' f).1 i v g;refine#[a,λx H'' y=>?_]
  obtain⟨rfl,rfl⟩:=b x H'' y;exact#[Fut.refl _ _,st,λd hd=>by rw[af hi]at hd;cases hd;exact r']
 stop:=λρ' S' H' f st=>(hg ρ' H' f).2 _ r.length.symm
def u7{K K':am}{O:Mx}{H:Hp}{ds:List D}{a:aK}{xs:List V}(hp:H a=aa (.tup xs))(r:Reps O H ds xs):WRel K O H ds (Itt K' a):=WT r λρ' H' f=>by
 have h:=SqT.of (K:=K')<|f.keep a _ hp λ_ z=>by cases z
 exact#[λi x g=>#[#[xs,x,h,g],λy H'' z=>#[z.1,by have:=z.2 xs h;rw[g]at this;exact(ai this).symm]],λn e=>#[xs,h,by omega]]
def yZ{K K':am}{O:Mx}{H:Hp}{ds:List D}{a:aK}{xs:List V}(hp:∀ρ' H',Lat O H ρ' H'->SqL K' H' a xs)(r:Reps O H ds xs):WRel K O H ds (Itl K' a):=WT r λρ' H' f=>by
 have h:=hp ρ' H' f;exact#[λi x g=>#[#[xs,x,h,g],λy H'' z=>#[z.1,by have:=z.2 xs h;rw[g]at this;exact(ai this).symm]],λn e=>#[xs,h,by omega]]
def Qc(lo:Int)(n:Nat):(Pv.ZR lo n).length=n:=by unfold Pv.ZR;rw[ap,be]
theorem UJ(lo:Int):∀(l:List Nat),Reps O H (l.map λ(k:Nat)=>Pv.V.int<|lo+(k:Int)) (l.map λ(k:Nat)=>V.int<|lo+(k:Int))
 |[]=>Reps.nil
 |_::l=>Reps.cons (ZB _)<|UJ lo l
def Jh{K:am}{O:Mx}{H:Hp}{lo:Int}{n:Nat}:WRel K O H (Pv.ZR lo n) (Itr lo n):=WT (UJ lo<|aA n) λρ' H' f=>by
 refine#[λi x g=>?_,λm e=>?_]
 .have hi:i<n:=by have:=(a9.mp g).1;simpa using this
  rw[aH,b7 hi]at g;exact#[hi,λy H'' z=>#[z.1,z.2.trans<|ai g]]
 .rw[ap,be]at e;show n<=m;omega
def Zd3(he:CE X xw C e i):CW X xw C tg e (.of i):=.mk <| PI.imp (Zbo he.h)<|by
 rintro U H Q ⟨O,l,S,st,lr,h⟩;rw[Pv.pvw]at h;refine#[O,l,S,st,lr,h.bind λx S1 ρ1 H1 v f1 st1 r1 h1=>?_]
 obtain⟨ds,hd,h1⟩:=End.po h1;have q:∀{J},WRel X.K ρ1 H1 ds J->Q J H1:=λw=>End.ok h1 st1 w
 cases x with
 |tup ds=>cases hd;obtain⟨a,xs,rfl,hp,r⟩:=r1.tup';exact#[a,rfl,.inr #[#[xs,SqT.of hp],q<|u7 hp r]]
 |lst ds=>cases hd;obtain⟨a,xs,rfl,hp,hx,r⟩:=r1.lst';exact#[a,rfl,.inl #[#[xs,SqL.of hp],q<|yZ (λρ' H' f=>SqL.of<|f.keep a _ hp λ_ _=>hx) r]]
 |scr ns=>
  cases hd;obtain⟨a,rfl,hp⟩:=r1.scr';rw[st1.hk]at hp;refine#[a,rfl,.inl #[#[_,hp.sq],q<|yZ (λρ' H' f=>?_)<|Reps.ints ns]]
  rcases hp with⟨o,hp⟩|hp
  .exact .inl<|.inr #[o,f.keep a _ hp λ_ z=>by cases z]
  .exact .inr hp
 |_=>exact Ev.nos hd
def Zbe{B β:Type}{rep:Mx->Hp->B->β->Prop}{O:Mx}{l:Lc}{S:Zo}{U:L2.St}{H:Hp}{Q:β->Hp->Prop}{Q1:List V->Hp->Prop}{g:D->Zo->R B}(st:St3 X.K O S H)(lr:LocR O H l U)(h:End X.K xw rep O H Q ((Pv.pv C i l S).bind g))
  (k:∀x S1 ρ1 H1 v,St3 X.K ρ1 S1 H1->Rep ρ1 H1 x v->End X.K xw rep ρ1 H1 Q (g x S1)->Q1 [v] H1):tA X xw (Pv.pvs C [i]) U H Q1:=by
 refine#[O,l,S,st,lr,?_];show End X.K xw Reps O H _ ((Pv.pv C i l S).bind λx S=>.ok [x] S)
 cases q:Pv.pv C i l S with
 |no=>rw[q]at h;exact h
 |ex c S1=>rw[q]at h;exact h
 |ok x S1=>
  rw[q]at h;intro ρ1 H1 vs f1 st1 r1;obtain⟨v,rfl,r⟩:=vc r1;exact k x S1 ρ1 H1 v st1 r<|End.mono f1 h
def uC{B β:Type}{rep:Mx->Hp->B->β->Prop}{O:Mx}{l:Lc}{S:Zo}{U:L2.St}{H:Hp}{Q:β->Hp->Prop}{Q1:List V->Hp->Prop}{g:D->D->Zo->R B}(st:St3 X.K O S H)(lr:LocR O H l U)(h:End X.K xw rep O H Q ((Pv.pv C i l S).bind λx S=>(Pv.pv C j l S).bind λy S=>g x y S))
  (k:∀x y S1 ρ1 H1 v u,St3 X.K ρ1 S1 H1->Rep ρ1 H1 x v->Rep ρ1 H1 y u->End X.K xw rep ρ1 H1 Q (g x y S1)->Q1 [v,u] H1):tA X xw (Pv.pvs C [i,j]) U H Q1:=by
 refine#[O,l,S,st,lr,?_];show End X.K xw Reps O H _ ((Pv.pv C i l S).bind λx S=>((Pv.pv C j l S).bind λy S=>.ok [y] S).bind λxs S=>.ok (x::xs) S)
 cases q:Pv.pv C i l S with
 |no=>rw[q]at h;exact h
 |ex c S1=>rw[q]at h;exact h
 |ok x S1=>
  rw[q]at h;have h:End X.K xw rep O H Q ((Pv.pv C j l S1).bind λy S=>g x y S):=h
  show End X.K xw Reps O H _ (((Pv.pv C j l S1).bind λy S=>.ok [y] S).bind λxs S=>.ok (x::xs) S)
  cases q2:Pv.pv C j l S1 with
  |no=>rw[q2]at h;exact h
  |ex c S2=>rw[q2]at h;exact h
  |ok y S2=>
   rw[q2]at h;intro ρ1 H1 vs f1 st1 r1;obtain⟨v,u,rfl,rv,ru⟩:=yN r1;exact k x y S2 ρ1 H1 v u st1 rv ru<|End.mono f1 h
def Z3(h:Ev.small n=aj):-(2^62)<=n/\n<2^62:=T6 h
def j4(hm:X.mg "range" = ae)(ha:CA X xw C [a] [i])(hg:Gl X "range")(hs:aJ [a] X.env=[(ak,cC a X.env)]):CW X xw C tg (.Call (.Name "range" p) [a] [] pos) (.rng1 i):=.mk <|
 PI.imp (wb hg hm ha.h hs) λU H Q #[O,l,S,st,lr,h]=>Zbe st lr h λx S1 ρ1 H1 v st1 r h1=>by
  cases x with
  |int n=>
   obtain⟨hs,h2⟩:=End.guard h1;exact#[n,by rw[r.int'],(Z3 hs).1,(Z3 hs).2,End.ok (rep:=WRel X.K) h2 st1 Jh]
  |_=>exact False.elim h1
def Zax(hm:X.mg "range" = ae)(ha:CA X xw C [a,b] [i,j])(hg:Gl X "range")(hs:aJ [a,b] X.env=[(ak,cC a X.env),(ak,cC b X.env)])(hs2:aJ [b] X.env=[(ak,cC b X.env)]) :
  CW X xw C tg (.Call (.Name "range" p) [a,b] [] pos) (.rng2 i j):=.mk <|
 PI.imp (wd hg hm ha.h hs hs2) λU H Q #[O,l,S,st,lr,h]=>uC st lr h λx y S1 ρ1 H1 v u st1 rv ru h1=>by
  cases x with
  |int n=>cases y with
   |int m=>
    obtain⟨hs,h3⟩:=End.guard h1;obtain⟨s1,s2⟩:=(aB _ _).mp hs;exact#[n,m,by rw[rv.int',ru.int'],#[(Z3 s1).1,(Z3 s1).2,(Z3 s2).1,(Z3 s2).2],End.ok (rep:=WRel X.K) h3 st1 Jh]
   |_=>exact False.elim h1
  |_=>exact False.elim h1
def jd{D:Ends}{U:L2.St}{O:Mx}{H0 H1:Hp}{W:Own}{l:Lc}{os:List Nat}{S1:Zo}{J:It}{wk:List Pv.V}{fr:Bool}{ns:List Nat}{ms:List Sm}{t:List Nat}(st1:St3 X.K O S1 H1)(en:Eu O H0 W l os U H1)(r1:WRel X.K (O.ex W) H1 wk J)
  (h1:Zs fr X.K xw O H0 D (Pv.XR (λx O os s=>if(t.any<|kw os)=aj then(.no:Pv.PR Pv.FlV)else(Pv.po (Pv.Zl t x O) s).bind λO s=>Pv.rvs C ns ms O os s) wk l os S1)):∃W:Nat->Nat->L2.St->Hp->Prop,(∃m,W 0 m U H1)/\∀i m U H,W i m U H->
   (J.stop i H/\D.nx U H)\/(J.go i H/\∃N:L2.St->Hp->Prop,(∀σ' H',N σ' H'->∃m',m'<m/\W (i+1) m' σ' H')/\∀x H',J.yld i H x H'->tGU X.K t x U H' λσ2 H2=>tS3 X xw fr (Pv.rvs C ns ms) {D with nx:=N,ct:=N,bk:=D.nx} σ2 H2):=by
 obtain⟨bs,en1⟩:=en.off st1.xd;have h1:=h1.rebase bs en.xd;generalize hB:(λx O os s=>if(t.any<|kw os)=aj then(.no:Pv.PR Pv.FlV)else(Pv.po (Pv.Zl t x O) s).bind λO s=>Pv.rvs C ns ms O os s)=B at h1
 let I:Nat->L2.St->Hp->Prop:=λn σ' H'=>∃W' l' os' S',St3 X.K O S' H'/\Eu O (UE H1 W) W' l' os' σ' H'/\Zs fr X.K xw O (UE H1 W) D (Pv.XR B (wk.drop n) l' os' S')
 refine#[λn m σ' H'=>m=wk.length-n/\n<=wk.length/\I n σ' H',#[wk.length,rfl,cZ _,W,l,os,S1,st1,en1,h1],?_]
 rintro n m σ' H' ⟨rfl,hn,W',l',os',S',st',en',e'⟩
 have lat:=en.walk en';by_cases hlt:n<wk.length
 .right
  rw[b9 hlt,Pv.XR]at e';obtain⟨go,yl⟩:=r1.go n _ S' H' lat (en'.st st') hlt;refine#[go,I<|n+1,λσ2 H2 q=>#[wk.length-(n+1),by omega,rfl,hlt,q],λx H3 y=>?_]
  obtain⟨f3,st3,rp⟩:=yl x H3 y;have rx:=rp _<|af hlt;have f3:Fut O H' O H3:=#[rfl,f3.keep];have hBn:B wk[n] l' os' S'=if(t.any<|kw os')=aj then(.no:Pv.PR Pv.FlV)else(Pv.po (Pv.Zl t wk[n] l') S').bind λO s=>Pv.rvs C ns ms O os' s:=by rw[<-hB]
  rw[hBn]at e';by_cases c:(t.any<|kw os')=aj
  .rw[T9 c]at e';exact e'.elim
  rw[T8 c]at e';cases ha:Pv.Zl t wk[n] l' with
  |none=>rw[ha]at e';exact e'.elim
  |some l2=>
   rw[ha]at e';refine(en'.mono f3).assign (by simpa using c) rx ha λσ2 e2=>#[O,_,W',l2,os',S',st3.unex,e2,?_]
   have e':Zs fr X.K xw O (UE H1 W) D ((Pv.rvs C ns ms l2 os' S').bind _):=e';cases q:Pv.rvs C ns ms l2 os' S' with
   |no=>rw[q]at e';exact e'
   |ex c S2=>rw[q]at e';exact e'
   |ok fl S2=>
    rw[q]at e';cases fl with|nx l3 os3=>exact λH4 σ4 W4 st4 lr4=>#[W4,l3,os3,S2,st4,lr4,e']|cnt l3 os3=>exact λH4 σ4 W4 st4 lr4=>#[W4,l3,os3,S2,st4,lr4,e']|brk l3 os3=>exact e'|ret d=>exact e'
 .left
  have en2:n=wk.length:=by omega
  subst en2;rw[dZ]at e';exact#[r1.stop _ S' H' lat<|en'.st st',e' H' σ' W' st' en']
def Zc0{body:List fR}{fr:Bool}{ns:List Nat}{ms:List Sm}{w:Ev.W}{t:List Nat}(hp:PassesOwn (aT X.prog X.w) X.A X.env X.xe)(hc:X.calm=aj)(hw:CW X xw C tg it w)(hg:CG X tg t)(hb:CSs X xw fr C ns body ms)
  (hs:∀x,bO it X.env x=cW x):CS X xw fr C ns (.For tg it body [] pos) (.forr t w ms):=.mk <| PS.imp (ZcE hp hc hw.h hg.h hb.h hs)<|by
 rintro D U H ⟨O,H0,W,l,os,S,st,en,h⟩;rw[Pv.rv]at h;refine#[O.ex W,Pv.hide os l,S,en.st st,en.hid,Zs.bindW en h λwk S1 H1 J f1 st1 r1 h1=>jd st1 (en.mono f1) r1 h1]
end
end Sd
namespace Sd
open PySem PySem.Spec PyProof.Rows L2
noncomputable def y8(env:Env):List (bE×eG)->List (bE×aK)->List (bE×aK)
 |[],acc=>acc
 |x::r,acc=>y8 env r (if(x.2 == bD)=aj then(x.1,(env.cells.lookup x.1).getD 0)::acc else acc)
theorem Vz{env:Env}{f:bE×eG->List (bE×aK)->nP (ForInStep<|List<|bE×aK)}:∀(names:List (bE×eG))(acc:List (bE×aK)),
  (∀x∈names,∀c,f x c=cW (.yield (if(x.2 == bD)=aj then(x.1,(env.cells.lookup x.1).getD 0)::c else c)))->lN names acc f=cW (y8 env names acc)
 |[],acc,_=>rfl
 |x::r,acc,h=>by
  rw[ig,h x ao,pure_bind];exact Vz r _ λy hy=>h y<|ax _ hy
theorem Gd :∀(names:List (bE×eG))(acc:List (bE×aK)),(y8 env names acc).lookup x=aa c->acc.lookup x=aa c\/(∃y∈names,y.1=x/\y.2=.free/\c=(env.cells.lookup x).getD 0)
 |[],acc,h=>.inl h
 |y::r,acc,h=>by
  rcases Gd r _ h with h|⟨z,hz,e⟩
  .by_cases hf:(y.2 == bD)=aj
   .rw[T9 hf,bG]at h
    cases q:(x == y.1)with
    |true=>
     rw[q]at h;have e:=eU q;exact .inr #[y,ao,e.symm,eU hf,by rw[e];exact(ai h).symm]
    |false=>rw[q]at h;exact .inl h
   .rw[T8 hf]at h;exact .inl h
  .exact .inr #[z,ax _ hz,e]
theorem Gi :∀(names:List (bE×eG))(acc:List (bE×aK)),(acc.lookup x).isSome=aj->((y8 env names acc).lookup x).isSome=aj
 |[],acc,h=>h
 |y::r,acc,h=>by
  refine Gi r _ ?_;split
  .rw[bG]
   cases(x == y.1)with|true=>rfl|false=>exact h
  .exact h
theorem JW :∀(names:List (bE×eG))(acc:List (bE×aK)),(x,bD)∈names->((y8 env names acc).lookup x).isSome=aj
 |[],acc,h=>by cases h
 |y::r,acc,h=>by
  rcases aC.mp h with h|h
  .subst h
   refine Gi r _ ?_;rw[T9 (by rfl),bG,beq_self_eq_true]
   rfl
  .exact JW r _ h
def zf{scope:eT}{env:Env}(h:∀y∈scope.names,y.2=.free->∃c,env.cells.lookup y.1=aa c) :
  ∃cl,closureFor scope env=cW cl/\(∀x c,cl.lookup x=aa c->env.cells.lookup x=aa c)/\∀x,(x,bD)∈scope.names->∃c,cl.lookup x=aa c:=by
 refine#[y8 env scope.names [],?_,λx c e=>?_,λx hx=>c8.mp<|JW _ _ hx]
 .simp only[closureFor]
  rw[Vz (env:=env) scope.names [] (λx hx c=>by
   obtain⟨n,kind⟩:=x;by_cases hk:(kind == bD)=aj
   .obtain⟨a,ha⟩:=h (n,kind) hx (eU hk)
    have ha':=ha;simp only[hk,if_true,cellOf,ha',pure_bind,Option.getD_some]
   .simp only[hk,if_false]
    rfl),pure_bind]
 .rcases Gd _ _ e with e|⟨y,hy,e1,e2,e3⟩
  .cases e
  .obtain⟨a,ha⟩:=h y hy e2
   rw[e1]at ha;rw[e3,ha];rfl
theorem WL{x:bE}{c:aK}{lo:Nat}:∀(names:List (bE×eG))(h:b5)(acc:List (bE×aK)),lo<=h.objs.size->(dW h.objs.size names acc).lookup x=aa c->
  ((x,cB)∉names/\acc.lookup x=aa c)\/((x,cB)∈names/\lo<=c/\(n3 h names).IsCell c ae)
 |[],h,acc,_,e=>.inl #[by simp,e]
 |(name,kind)::r,h,acc,hlo,e=>by
  unfold dW at e;unfold n3;split at e
  .rename_i hk
   rw[T9 hk];have hk:=eU hk;subst hk;rw[<-cT h {cls:=.type "cell",data:=.cell ae}]at e;rcases WL r (h.push {cls:=.type "cell",data:=.cell ae}) ((name,h.objs.size)::acc) (cM hlo<|by rw[cT];exact gp _) e with⟨e1,e2⟩|⟨e1,e2⟩
   .rw[bG]at e2
    cases hb:x == name with
    |true=>
     rw[hb]at e2;cases e2;have:=eU hb;subst this;exact .inr #[ao,hlo,_,lO _ _ _ _<|aL _ rfl,rfl]
    |false=>
     rw[hb]at e2;refine .inl #[λhm=>?_,e2]
     rcases aC.mp hm with q|q
     .cases q
      rw[beq_self_eq_true]at hb;cases hb
     .exact e1 q
   .exact .inr #[ax _ e1,e2]
  .rename_i hk
   rw[T8 hk];rcases WL r _ _ hlo e with⟨e1,e2⟩|⟨e1,e2⟩
   .refine .inl #[λhm=>?_,e2]
    rcases aC.mp hm with q|q
    .cases q
     exact hk rfl
    .exact e1 q
   .exact .inr #[ax _ e1,e2]
theorem WD:∀(names:List (bE×eG))(n:Nat)(acc:List (bE×aK)),(∀x c,acc.lookup x=aa c->c<n)->(∀x y c,acc.lookup x=aa c->acc.lookup y=aa c->x=y)->
  ∀x y c,(dW n names acc).lookup x=aa c->(dW n names acc).lookup y=aa c->x=y
 |[],n,acc,_,h=>h
 |(name,kind)::r,n,acc,hl,h=>by
  unfold dW;split
  .refine WD r (n+1) _ (λx c e=>?_) λx y c e1 e2=>?_
   .rw[bG]at e
    split at e
    .cases e;exact kP _
    .exact dy<|hl x c e
   .rw[bG]at e1 e2
    cases p:x == name<;>cases q:y == name<;>rw[p]at e1<;>rw[q]at e2
    .exact h x y c e1 e2
    .cases e2;exact T7 (hl x _ e1)<|bu _
    .cases e1;exact T7 (hl y _ e2)<|bu _
    .rw[eU p,eU q]
  .exact WD r n acc hl h
theorem WQ{x:bE}:∀(names:List (bE×eG))(n:Nat)(acc:List (bE×aK)),(∃c,acc.lookup x=aa c)\/(x,cB)∈names->∃c,(dW n names acc).lookup x=aa c
 |[],n,acc,h=>h.elim (λh=>h) λh=>by cases h
 |(name,kind)::r,n,acc,h=>by
  unfold dW;split
  .refine WQ r _ _ ?_
   cases hb:x == name with
   |true=>exact .inl #[n,by rw[bG,hb]]
   |false=>
    rcases h with⟨c,e⟩|h
    .exact .inl #[c,by rw[bG,hb];exact e]
    .rcases aC.mp h with q|q
     .cases q
      rw[beq_self_eq_true]at hb;cases hb
     .exact .inr q
  .rename_i hk
   refine WQ r _ _<|h.imp (λh=>h) λh=>?_
   rcases aC.mp h with q|q
   .cases q
    exact T7 rfl hk
   .exact q
def zA{M:Model}{A:b8}{E:al->aq->Prop}{s:aq}{scope:eT}{g:aK}{cl:List (bE×aK)}{q:bE}{env:Env}{Q:Env->aq->Prop}
  (h:Q (newEnv scope s.heap.objs.size g (dW (s.heap.objs.size+1) scope.names cl) q ae .none (aa env) mQ) {s with heap:=n3 (s.heap.push {cls:=.type "dict",data:=.dict #[]}) scope.names}) :
  aW M A (newFunctionEnv scope g cl [] q ae .none<|aa env) Q E s:=by
 simp only[newFunctionEnv,mW,if_true];refine ab<|wpAny_alloc ?_;refine ab<|wpAny_layCells _ (λname kind cells=>by cases hkc:kind == cB<;>simp[hkc]) _ _ _ _ ?_
 rw[show({s with heap:=s.heap.push {cls:=.type "dict",data:=.dict #[]}}:aq).heap.objs.size=s.heap.objs.size+1 from cT ..]
 exact aw h
noncomputable def cxC(X:Cx)(N:List bE)(scope:eT)(cl:List (bE×aK))(s:aq)(H:Hp)(fp:List aK):Cx:=
 {X with N:=N,s₀:=s,H₀:=H,env:=compEnvC scope cl s.heap.objs.size X.env,outer:=X.stack,ex:=fp,fn:=λx=>scope.names.any λy=>y.2 == .cell&&y.1 == x,pn:=[],xe:=λ_ _=>False}
def PTs(X:Cx)(ifs:List Expr)(t:TT):Prop:=
 ∀(pq:List (aK×fC))(s:aq)(U:L2.St)(H:Hp)(Q:Bool->Hp->Prop),Inv X pq U H s->t U H Q->
  aW (aT X.prog X.w) X.A (lN ifs aj λc r=>if r=aj then do let ok <-isTrue c X.env (cC c X.env);cW (lQ ok)else cW (lQ r)) (TP X pq U Q) X.xe s
def qU :PTs X [] (λU H Q=>Q aj H):=λpq s U H Q I h=>wpAny_tests_nil #[H,I,h]
def ZaC(h:PT X c t):PTs X [c] t:=λpq s U H Q I hq=>wpAny_tests_one<|h pq s U H Q I hq
structure CompScope(sc:eT)(N0:List bE)(scope:eT)(N:List bE)(cap:List Nat)(nl:Nat):Prop where
 kind:scope.kind=.function
 cell:∀y∈scope.names,y.2=.cell->(y.1,bD)∉scope.names
 names:∀y∈scope.names,y.2=.local->scope.names.lookup y.1=aa .local
 free:∀y∈scope.names,y.2=.free->sc.names.lookup y.1=aa .cell\/sc.names.lookup y.1=aa .free
 apart:∀y∈scope.names,y.2=.free->scope.names.lookup y.1≠aa .local
 len:N.length=nl+cap.length
 cap:∀p∈cap.zipIdx,N[nl+p.2]?=N0[p.1]?/\(N0[p.1]?).map (λx=>ag<|(x,bD)∈scope.names)=aa aj
def CompScope.capt{sc:eT}{N0:List bE}{scope:eT}{N:List bE}{cap:List Nat}{nl:Nat}(h:CompScope sc N0 scope N cap nl)(i j:Nat)(e:cap[i]?=aa j):∃x,N[nl+i]?=aa x/\N0[j]?=aa x/\(x,bD)∈scope.names:=by
 have hm:(j,i)∈cap.zipIdx:=by
  rw[List.mem_zipIdx_iff_getElem?];exact e
 obtain⟨h1,h2⟩:=h.cap (j,i) hm;cases q:N0[j]? with
 |none=>rw[q]at h2;cases h2
 |some x=>
  rw[q]at h1 h2
  exact#[x,h1,rfl,T6<|ai h2]
noncomputable def Yr(cap:List Nat)(nl:Nat)(U:L2.St):L2.St:=aP nl ae++cap.map λi=>(U[i]?).join
section
variable{X:Cx}{pq:List (aK×fC)}{U:L2.St}{H:Hp}{s:aq}
theorem Wp{env:Env}{x:bE}:∀{names:List (bE×eG)},(names.map λ(n,k)=>if(k == bD&&env.scope.kind == .function&&env.kindOf n == aa .cell)then(n,cB)else(n,k)).lookup x=aa .cell\/
  (names.map λ(n,k)=>if(k == bD&&env.scope.kind == .function&&env.kindOf n == aa .cell)then(n,cB)else(n,k)).lookup x=aa .free->(x,bD)∈names\/(x,cB)∈names
 |[],h=>by rcases h with h|h<;>cases h
 |(n,k)::r,h=>by
  have ih:=@Wp env x r;rw[bz]at h;by_cases e:x=n
  .subst e
   by_cases c:(k == bD&&env.scope.kind == .function&&env.kindOf x == aa .cell)=aj
   .have:=(aB _ _).mp c
    rw[eU ((aB _ _).mp this.1).1];exact .inl ao
   .simp only[T8 c,bG,beq_self_eq_true,Option.some.injEq]at h
    rcases h with h|h
    .rw[h];exact .inr ao
    .rw[h];exact .inl ao
  .have hb:(x == n)=ak:=beq_eq_false_iff_ne.mpr e
   refine(ih ?_).imp (ax _)<|ax _;by_cases c:(k == bD&&env.scope.kind == .function&&env.kindOf n == aa .cell)=aj
   .simpa only[T9 c,bG,hb]using h
   .simpa only[T8 c,bG,hb]using h
theorem uL{N:List bE}{scope:eT}{cl:List (bE×aK)}{fp:List aK}{cap:List Nat}{nl:Nat}{h1:b5}{tk:Nat}(I:Inv X pq U H s)(CS:CompScope X.env.scope X.N scope N cap nl)(hN:X.N.Nodup)
  (c1:∀x c,cl.lookup x=aa c->((x,cB)∉scope.names/\X.env.cells.lookup x=aa c)\/((x,cB)∈scope.names/\s.heap.objs.size<=c/\h1.IsCell c ae))(c2:∀x,(x,bD)∈scope.names\/(x,cB)∈scope.names->∃c,cl.lookup x=aa c)
  (c3:∀x y c,cl.lookup x=aa c->cl.lookup y=aa c->x=y)(hf:∀b∈fp,X8 X pq H b)(hb:∀b∈fp,∃o,s.heap.get? b=aa o)(hns:∃m,h1.Ns s.heap.objs.size m)(hk:∀b o,s.heap.get? b=aa o->h1.get? b=aa o) :
  Inv (cxC X N scope cl s H fp) [] (Yr cap nl U) H {s with heap:=h1,toks:=tk}:=by
 have bne:∀b∈fp,b≠s.heap.objs.size:=λb hb' e=>by
  obtain⟨o,ho⟩:=hb b hb';exact T7 (aF ho) (by rw[e];exact bu _)
 refine#[#[I.ok.mod,CS.kind,I.ok.glob,I.ok.blt,aM _,c3,λx hx=>c2 x<|Wp (env:=X.env) hx,λx c h e=>?_,I.ok.hd,I.ok.frames,.inl rfl,
  λb hb'=>#[bne b hb',λx c e=>(c1 x c e).elim (λq=>(hf b hb').2.2.2.2.1 x c q.2) λq z=>?_],I.bs,cM I.ok.bsz I.sz,λb o e hb'=>?_,λb hb' hm=>?_,I.stack,I.stkFree],
  rfl,I.bare,Un.kept hk,?_,λx c e=>?_,I.hok.fresh<|aM _,λx c e=>(c1 x c e).elim (λq=>I.freeC x c q.2) λq=>I.hok.fresh q.2.1,λp hp=>T7 hp (by simp[cxC]),I.hok.kept hk,?_]
 .rcases c1 x c e with q|q
  .obtain⟨y,hy,e⟩:=kO.mp h
   obtain⟨e1,e2⟩:=(aB _ _).mp e;obtain⟨y,k⟩:=y;have a1:k=.cell:=eU e1;have a2:y=x:=eU e2;subst a1 a2;exact T7 hy q.1
  .exact q.2.1
 .obtain⟨o,ho⟩:=hb b hb'
  have:=aF ho;rw[<-z]at this;exact T7 q.2.1<|Nat.not_le.mpr this
 .rcases(hf b hb').2.2.2.1 with z|z
  .exact I.ok.noex b o e z
  .exact T7 (aF e)<|Nat.not_lt.mpr<|cM I.ok.bsz z
 .rcases aC.mp (I.stkSub b hm)with e|e
  .exact(hf b hb').2.1 e
  .exact(hf b hb').2.2.1 e
 .obtain⟨m1,hm1⟩:=hns
  refine#[m1,hm1,λi x v e1 e2 e3=>?_]
  obtain⟨m,hm,hl⟩:=I.loc;have hi:nl<=i:=by
   by_cases hi:nl<=i
   .exact hi
   .have z:(Yr cap nl U)[i]?=aa ae:=by
     unfold Yr;rw[bH (by simp;lia),cP,T9 (by lia)]
    rw[z]at e2;cases e2
  have e2':(cap.map λi=>(U[i]?).join)[i-nl]?=aa (aa v):=by
   have:(Yr cap nl U)[i]?=aa (aa v):=e2;unfold Yr at this
   rwa [bg (by simp;exact hi),c6]at this
  rw[aH]at e2';cases hj:cap[i-nl]? with
  |none=>rw[hj]at e2';cases e2'
  |some j=>
   rw[hj]at e2';have hv:U[j]?=aa (aa v):=by
    have:(U[j]?).join=aa v:=ai e2';cases q:U[j]? with
    |none=>rw[q]at this;cases this
    |some o=>rw[q]at this;cases o with|none=>cases this|some w=>cases this;rfl
   obtain⟨x',n1,n2,fr⟩:=CS.capt _ _ hj;have ex:x'=x:=by
    have:N[nl+(i-nl)]?=aa x:=by rw[show nl+(i-nl)=i by lia];exact e1
    rw[n1]at this;exact ai this
   subst ex;have kd:=CS.free _ fr rfl;have vis:Vis X.env.scope x':=by
    rcases kd with z|z
    .exact .inr<|.inl z
    .exact .inr<|.inr z
   obtain⟨u,r,lk⟩:=hl j x' v n2 hv vis;refine#[u,r,?_];rcases lk with⟨k,_⟩|⟨k,c,ec,hc⟩
   .have k':X.env.scope.names.lookup x'=aa .local:=k
    rcases kd with z|z<;>(rw[z]at k';cases k')
   .obtain⟨c',ec'⟩:=c2 x' (.inl fr)
    have ecc:c'=c:=by
     have:=(c1 x' c' ec').elim (λq=>q.2) λq=>T7 fr<|CS.cell _ q.1 rfl
     rw[ec]at this;exact(ai this).symm
    subst ecc;have vis2:Vis (relabel scope X.env) x':=e3;refine .inr #[?_,c',ec',?_]
    .rcases vis2 with z|z|z
     .have z':(scope.names.map λ(n,k)=>if(k == bD&&X.env.scope.kind == .function&&X.env.kindOf n == aa .cell)then(n,cB)else(n,k)).lookup x'=aa .local:=z
      exfalso
      have:∀(names:List (bE×eG)),(∀y∈names,y.2=eG.local->y.1≠x')->(names.map λ(n,k)=>if(k == bD&&X.env.scope.kind == .function&&X.env.kindOf n == aa .cell)then(n,cB)else(n,k)).lookup x'≠aa .local:=by
       intro names
       induction names with
       |nil=>intro _ h;cases h
       |cons y r ih=>
        obtain⟨n,k⟩:=y;intro hy h;rw[bz]at h;by_cases e:x'=n
        .subst e
         by_cases c:(k == bD&&X.env.scope.kind == .function&&X.env.kindOf x' == aa .cell)=aj
         .simp only[T9 c,bG,beq_self_eq_true]at h;cases h
         .simp only[T8 c,bG,beq_self_eq_true]at h
          exact hy (x',k) ao (ai h) rfl
        .have hb:(x' == n)=ak:=beq_eq_false_iff_ne.mpr e
         refine ih (λy hy'=>hy y<|ax _ hy') ?_
         by_cases c:(k == bD&&X.env.scope.kind == .function&&X.env.kindOf n == aa .cell)=aj
         .simp only[T9 c,bG,hb]at h;exact h
         .simp only[T8 c,bG,hb]at h;exact h
      refine this scope.names (λy hy hl e=>?_) z'
      have l1:=CS.names y hy hl;rw[e]at l1;exact CS.apart (x',.free) fr rfl l1
     .exact .inl z
     .exact .inr z
    .obtain⟨o,ho,hd⟩:=hc
     exact#[o,hk c' o ho,hd]
 .rcases c1 x c e with q|q
  .obtain⟨v,o,ho,hd⟩:=I.cell x c q.2
   exact#[v,o,hk c o ho,hd]
  .exact#[ae,q.2.2]
 .unfold Yr
  show _=N.length;rw[aX,c6,ap,CS.len]
end
abbrev TEm:=L2.St->Hp->(L2.St->Hp->Prop)->Prop
def Jg(X:Cx)(act:nP Fin->nP Fin)(te:TEm):Prop:=
 ∀(pq:List (aK×fC))(s:aq)(U:L2.St)(H:Hp)(Q:L2.St->Hp->Prop)(k:nP Fin)(QF:Fin->aq->Prop)(EE:al->aq->Prop),Inv X pq U H s->te U H Q->(∀s' σ' H',Inv X pq σ' H' s'->Q σ' H'->aW (aT X.prog X.w) X.A k QF EE s')->
  aW (aT X.prog X.w) X.A (act k) QF EE s
noncomputable def Ui(ipos:iA)(tg:Expr)(ifs:List Expr)(act:nP Fin->nP Fin)(it:al)(env:Env)(c:Code):nP Fin:=do
 k8 ipos
 match <-l4 it with
 |none=>cW<|.done .next
 |some v=>
  lJ tg it v
  assign tg env v
  let mut ok:=aj
  for c in ifs do
   if ok then ok <-isTrue c env (cC c env)
  if ok then act (pH c)else pH c
def zT(J:It)(g:TG)(tt:TT)(te:TEm)(W:Nat->Nat->L2.St->Hp->Prop)(Q:L2.St->Hp->Prop):Prop:=∀i m σ' H',W i m σ' H'->
  (J.stop i H'/\Q σ' H')\/(J.go i H'/\∀x H'',J.yld i H' x H''->g x σ' H'' λσ2 H2=>tt σ2 H2 λok H3=>if ok=aj then te σ2 H3 λσ3 H4=>∃m',m'<m/\W (i+1) m' σ3 H4 else ∃m',m'<m/\W (i+1) m' σ2 H3)
def Qe{tn:Nat->b5->Prop}{Rr:pN->aq->Prop}{Q:L2.St->Hp->Prop}{W:Nat->Nat->L2.St->Hp->Prop}
  (hc:Y.calm=aj)(hx:∀a b,Y.xe a b->False)(hT:oX e depth (.ref it) acc Y.env=Ui ipos tg ifs act (.ref it) Y.env (.compLoop e depth (.ref it) acc Y.env))(hquiet:(pA e depth (.ref it) acc Y.env).isFrame=ak)
  (hq:(pA e depth (.ref it) acc Y.env).quiet=aj)(T:Turn Y.prog Y.w Y.K tg J fp it tn)(hg:PG Y tg g)(ht:PTs Y ifs tt)(he:Jg Y act te)(stat:∀{H':Hp},(∀b∈fp,H' b=ae)->∀b∈fp,X8 Y pq H' b)
  (turn:zT J g tt te W Q)(fin:∀U H s,Inv Y pq U H s->Q U H->Rr (.ok .next) s)
  (I0:Inv Y pq U H s)(st0:tn 0 s.heap)(fr0:∀b∈fp,H b=ae)(w0:W 0 m U H)(hden:(aT Y.prog Y.w).den (.compLoop e depth (.ref it) acc Y.env)=(oX e depth (.ref it) acc Y.env).onRaise (λx=>do noteFrame x Y.env;theTreesLotGoes x))
  (hund:Y.A.under (.compLoop e depth (.ref it) acc Y.env)=Y.A):fe (aT Y.prog Y.w) Y.A (.compLoop e depth (.ref it) acc Y.env) Rr s:=by
 refine codeAny_loop hq (λn s'=>∃i σ' H',Inv Y pq σ' H' s'/\tn i s'.heap/\(∀b∈fp,H' b=ae)/\W i n σ' H') (λn s5 hI=>?_) m #[0,U,H,I0,st0,fr0,w0]
 rw[hund,hden,hT];refine wpAny_noted ?_;obtain⟨i,σ5,H5,I5,st5,fr5,w5⟩:=hI;refine ab<|dR<|ab ?_;rcases turn i n σ5 H5 w5 with⟨stop,qn⟩|⟨go,step⟩
 .refine cK (T.done Y rfl rfl rfl hc i pq s5 σ5 H5 (λ_ _=>False) I5 (stat fr5) st5 stop) (λr s6 #[hr,I6]=>?_) λ_ _ h'=>h'.elim
  subst hr;exact aw<|fin σ5 H5 s6 I6 qn
 .refine cK (T.item Y rfl rfl rfl hc i pq s5 σ5 H5 (λ_ _=>False) I5 (stat fr5) st5 go) (λr s6 #[u,hr,h6]=>?_) λ_ _ h'=>h'.elim
  subst hr;refine ab<|cK h6 (λ_ s7 #[x,H7,I7,r7,y7,st7,fr7]=>?_) λ_ _ h'=>h'.elim
  have I7':=I7.pinned (stat fr7)<|T.obj _ _ st7;have back:∀{σ8:L2.St}{H8:Hp}{s8:aq}{m':Nat},Inv Y (pq++VU fp s7.heap) σ8 H8 s8->m'<n->W (i+1) m' σ8 H8->∃m,m<n/\∃i σ' H',Inv Y pq σ' H' s8/\tn i s8.heap/\(∀b∈fp,H' b=ae)/\W i m σ' H':=λ{σ8 H8 s8 m'} I8 hm w8=>by
   refine#[m',hm,i+1,σ8,H8,I8.unpinned,T.keep _ _ _ st7 λb hb' o e=>(I8.pin (b,o)<|bB _<|bB _<|YV hb' e).1,λb hb'=>?_,w8]
   obtain⟨o,e,d⟩:=T.obj _ _ st7 b hb';exact(I8.pin (b,o)<|bB _<|bB _<|YV hb' e).2.1
  refine ab<|cK (hg _ s7 σ5 H7 x u _ I7' r7<|step x H7 y7) (λ_ s8 #[σ8,H8,I8,q8]=>?_) λ_ _ h'=>(hx _ _ h').elim
  refine ab<|cK (ht _ s8 σ8 H8 _ I8 q8) (λok s9 #[H9,I9,q9]=>?_) λ_ _ h'=>(hx _ _ h').elim
  cases ok with
  |false=>
   rw[T8 aI]at q9;obtain⟨m',hm,w9⟩:=q9;exact aw #[rfl,back I9 hm w9]
  |true=>
   rw[T9 rfl]at q9;exact he _ s9 σ8 H9 _ _ _ _ I9 q9<|by rintro s10 σ10 H10 I10 ⟨m',hm,w10⟩;exact aw #[rfl,back I10 hm w10]
def Ub{Y:Cx}{elt:Expr}{te:TE}{D:aK}(hx:∀a b,Y.xe a b->False)(he:PE Y elt te):Jg Y (λk=>(do let _ <-call (.builtin "list.append") [.ref D,<-cC elt Y.env]:nP Unit) >>= λ_=>k) (λU H Q=>te U H λy H4=>∃ys,H4 D=aa (.lst ys)/\ys.length<bw/\Q U (upd H4 D<|.lst<|ys++[y])):=by
 intro pq s U H Q k QF EE I h hk;refine ab ?_;refine ab<|cK (he pq s U H _ I h) (λxv s10 #[y,H10,I10,r10,ys,hDy,hz,q]=>?_) λ_ _ h'=>(hx _ _ h').elim
 refine ab<|cK (U0 pq s10 U H10 (.ref D) [y] (.ref D) [xv] (λv H'=>v=.non/\H'=upd H10 D (.lst<|ys++[y])) I10 rfl (.cons r10 .nil) #[D,ys,y,rfl,rfl,hDy,hz,rfl,rfl]) (λ_ s11 #[v11,H11,I11,_,_,eH]=>?_) λ_ _ h'=>(hx _ _ h').elim
 subst eH;exact aw<|hk _ _ _ I11 q
def G8(wi:TI)(g:TG)(tt:TT)(te:aK->TEm)(cap:List Nat)(nl:Nat):TE:=λU H Q=>wi U H λJ H1=>∀D,H1 D=ae->∃W:Nat->Nat->L2.St->Hp->Prop,(∃m,W 0 m (Yr cap nl U)<|upd H1 D<|.lst [])/\zT J g tt (te D) W λ_ H'=>Q (.ref D) H'
def vD(wi:TI)(g:TG)(tt:TT)(te:TE)(cap:List Nat)(nl:Nat):TE:=λU H Q=>wi U H λJ H1=>∀D,H1 D=ae->∃W:Nat->Nat->L2.St->Hp->Prop,(∃m,W 0 m (Yr cap nl U)<|upd H1 D<|.lst [])/\∀i m σ' H',W i m σ' H'->
  (J.stop i H'/\Q (.ref D) H')\/(J.go i H'/\∀x H'',J.yld i H' x H''->g x σ' H'' λσ2 H2=>tt σ2 H2 λok H3=>if ok=aj then te σ2 H3 λy H4=>∃ys,H4 D=aa (.lst ys)/\ys.length<bw/\∃m',m'<m/\W (i+1) m' σ2 (upd H4 D<|.lst<|ys++[y])else ∃m',m'<m/\W (i+1) m' σ2 H3)
structure Gone(X:Cx)(pq:List (aK×fC))(H:Hp)(s:aq)(C:aK):Prop where
 free:H C=ae
 ns:∃m,s.heap.Ns C m
 loc:C≠X.env.locals
 big:X.s₀.heap.objs.size<=C
 cel:∀x c,X.env.cells.lookup x=aa c->c≠C
 pin:∀p∈X.pn++pq,p.1≠C
def WP{tg iter elt:Expr}{ifs:List Expr}{scope:eT}{pos fpos:iA}{N:List bE}{cap:List Nat}{nl:Nat}{wi:TI}{g:TG}{tt:TT}{te:aK->TEm}{act:al->Env->nP Fin->nP Fin}{rest:List Comprehension}{pq:List (aK×fC)}{s:aq}{U:L2.St}{H:Hp}{Q:VK}{use:Option (al->nP Unit)}{QQ:al->aq->Prop}(hc:X.calm=aj)(hN:X.N.Nodup)(CS:CompScope X.env.scope X.N scope N cap nl)(hi:PI X tg iter wi)
  (hT:∀it acc env,oX (.ListComp elt (#[tg,iter,ifs,0]::rest) scope pos) 0 it acc env=Ui iter.pos tg ifs (act acc env) it env (.compLoop (.ListComp elt (#[tg,iter,ifs,0]::rest) scope pos) 0 it acc env))
  (hb:∀cl s H fp,PG (cxC X N scope cl s H fp) tg g/\PTs (cxC X N scope cl s H fp) ifs tt/\∀D,Jg (cxC X N scope cl s H fp) (act (.ref D) (cxC X N scope cl s H fp).env)<|te D)
  (hs:∀x,bO iter X.env x=cW x)(I:Inv X pq U H s)(h:G8 wi g tt te cap nl U H Q)
  (fin:∀D C H5 s6,Inv X pq U H5 s6->Gone X pq H5 s6 C->Q (.ref D) H5->compPost (aT X.prog X.w) X.A X.xe use QQ (.ref D) C (.ok .next) s6) :
  aW (aT X.prog X.w) X.A (comprehension (.ListComp elt (#[tg,iter,ifs,0]::rest) scope pos) scope X.env fpos (newList []) ak (cC iter X.env) use) QQ X.xe s:=by
 obtain⟨cl,hcl,c1,c2⟩:=zf (scope:=scope) (env:=X.env) λy hy hf=>I.ok.has y.1<|CS.free y hy hf
 refine wpAny_comprehension_free (use:=use) rfl hs hcl CS.kind CS.names ?_;refine thn (hi pq s U H _ I h) λv s1 h1=>thn h1 λitv s2 h2=>?_
 obtain⟨it,fp,tn,J,H2,rfl,I2,T,st2,f2,q2⟩:=h2;obtain⟨W,⟨m0,w0⟩,turn⟩:=q2 s2.heap.objs.size<|I2.hok.fresh<|aM _;refine bV<|zA ?_
 dsimp only
 have I3:Inv X pq U (upd H2 s2.heap.objs.size<|.lst []) {s2 with heap:=s2.heap.push {cls:=.type "list",dict:=ae,data:=.seq ([]:List al).toArray},toks:=s2.toks}:=
  I2.laid (λb u e=>au _ e) (aM _) #[cZ _,[],0,.nil,aL _ rfl]
 generalize hD:s2.heap.objs.size=D at I3 w0 turn ⊢;generalize hs3:({s2 with heap:=s2.heap.push {cls:=.type "list",dict:=ae,data:=.seq ([]:List al).toArray},toks:=s2.toks}:aq)=s3 at I3
 have hh3:s2.heap.push {cls:=.type "list",dict:=ae,data:=.seq ([]:List al).toArray}=s3.heap:=by rw[<-hs3]
 rw[hh3];have old:∀b o,s2.heap.get? b=aa o->s3.heap.get? b=aa o:=λb o e=>by rw[<-hh3];exact au _ e
 have neD:∀b∈fp,b≠D:=λb hb' e=>by
  obtain⟨o,ho,_⟩:=T.obj _ _ st2 b hb';exact T7 (aF ho) (by rw[e,<-hD];exact bu _)
 have f3:∀b∈fp,X8 X pq (upd H2 D<|.lst []) b:=λb hb'=>#[by rw[Zq<|neD b hb'];exact(f2 b hb').1,(f2 b hb').2]
 generalize hh4:n3 (s3.heap.push {cls:=.type "dict",data:=.dict #[]}) scope.names=h₁;have keep4:∀b o,s3.heap.get? b=aa o->h₁.get? b=aa o:=λb o e=>by rw[<-hh4];exact lO _ _ b o<|au _ e
 have hns₁:∃m,h₁.Ns s3.heap.objs.size m:=#[_,by rw[<-hh4];exact(b5.Ns.new s3.heap<|.type "dict").keeps<|lO _ _]
 have lt3:∀x c,cl.lookup x=aa c->c<s3.heap.objs.size+1:=λx c e=>by
  obtain⟨v,q⟩:=I3.cell x c<|c1 x c e;exact dy q.lt
 have c3:=WD scope.names _ cl lt3 λx y c h1 h2=>I.ok.inj x y c (c1 x c h1)<|c1 y c h2
 have c2':∀x,(x,bD)∈scope.names\/(x,cB)∈scope.names->∃c,(dW (s3.heap.objs.size+1) scope.names cl).lookup x=aa c:=λx hx=>WQ _ _ _<|hx.imp (c2 x) λh=>h
 have c1':∀x c,(dW (s3.heap.objs.size+1) scope.names cl).lookup x=aa c->((x,cB)∉scope.names/\X.env.cells.lookup x=aa c)\/((x,cB)∈scope.names/\s3.heap.objs.size<=c/\h₁.IsCell c ae):=λx c e=>by
  rw[<-cT s3.heap {cls:=.type "dict",data:=.dict #[]}]at e;refine(WL (lo:=s3.heap.objs.size) _ _ _ (by rw[cT];exact gp _) e).imp (λq=>#[q.1,c1 x c q.2]) λq=>?_
  rw[hh4]at q;exact q
 generalize dW (s3.heap.objs.size+1) scope.names cl=cl at c1' c2' c3;have I4:=uL (tk:=s2.toks) I3 CS hN c1' c2' c3 f3 (λb hb'=>let #[o,ho,_]:=T.obj _ _ st2 b hb';#[o,old b o ho]) hns₁ keep4
 have e4:({s3 with heap:=h₁,toks:=s2.toks}:aq)={s2 with heap:=h₁,toks:=s2.toks}:=by rw[<-hs3]
 rw[e4]at I4;obtain⟨hg,ht,he⟩:=hb cl s3 (upd H2 D<|.lst []) fp;generalize hY:cxC X N scope cl s3 (upd H2 D<|.lst []) fp=Y at I4 hg ht he;have yP:Y.prog=X.prog:=by rw[<-hY];rfl
 have stat:∀{H':Hp},(∀b∈fp,H' b=ae)->∀b∈fp,X8 Y [] H' b:=λhn b hb'=>by
  subst hY;refine#[hn b hb',λe=>?_,λhm=>?_,.inl hb',λx c e=>(c1' x c e).elim (λq=>(f3 b hb').2.2.2.2.1 x c q.2) λq z=>?_,λp hp=>T7 hp (by simp[cxC])]
  .obtain⟨o,ho,_⟩:=T.obj _ _ st2 b hb'
   have:=aF<|old b o ho;rw[e]at this;exact T7 this<|bu _
  .rcases aC.mp (I3.stkSub b hm)with e|e
   .exact(f3 b hb').2.1 e
   .exact(f3 b hb').2.2.1 e
  .obtain⟨o,ho,_⟩:=T.obj _ _ st2 b hb'
   have:=aF<|old b o ho;rw[<-z]at this;exact T7 q.2.1<|Nat.not_le.mpr this
 subst hY
 let Y:=cxC X N scope cl s3 (upd H2 D<|.lst []) fp
 have st4:tn 0 h₁:=T.keep _ _ _ st2 λb hb' o e=>keep4 b o<|old b o e
 have fr4:∀b∈fp,upd H2 D (HO.lst []) b=ae:=λb hb'=>(f3 b hb').1
 have loop:fe (aT X.prog X.w) X.A (.compLoop (.ListComp elt (#[tg,iter,ifs,0]::rest) scope pos) 0 (.ref it) (.ref D)<|compEnvC scope cl s3.heap.objs.size X.env)
   (compPost (aT X.prog X.w) X.A X.xe use QQ (.ref D) s3.heap.objs.size) {s2 with heap:=h₁,toks:=s2.toks}:=by
  refine Qe (Y:=cxC X N scope cl s3 (upd H2 D<|.lst []) fp) (pq:=[]) (W:=W) (Q:=λ_ H'=>Q (.ref D) H') hc (λ_ _ z=>z) (hT _ _ _) rfl rfl T hg ht (he D) stat turn (λσ5 H5 s6 I6 qn=>?_) I4 st4 fr4 w0 rfl rfl
  obtain⟨m6,hn6,_⟩:=I6.loc;have u:=I6.base;have IX:Inv X pq U H5 s6:=Inv.call' (s':=s6) (ch:=fp) I3 I6.os #[u.keep,u.slot,u.free,u.there,u.tups,u.frzs,u.tbls] I6.hok I6.bare λb hb'=>#[(f3 b hb').2.2.2.1,(f3 b hb').2.1,(f3 b hb').2.2.2.2.1,λp hp e=>(f3 b hb').2.2.2.2.2 p hp e]
  refine fin D s3.heap.objs.size H5 s6 IX #[I6.free,#[m6,hn6],Ne.symm<|bx I3.lt,I3.sz,λx c e z=>?_,λp hp z=>?_] qn
  .obtain⟨v,q⟩:=I3.cell x c e
   exact T7 q.lt (by rw[z];exact bu _)
  .exact T7 (aF (I3.pin p hp).1) (by rw[z];exact bu _)
 subst hs3;exact codeAny_compStart_list loop<|T.self _ 0 _ _ _ st4 loop
def Gone.inv(G:Gone X pq H s C)(I:Inv X pq U H s)(hsb:fb C s.heap h'):Inv X pq U H {s with heap:=h' }:=
 I.turned (t':=s.toks) (λb o hb e=>(hsb.2 b hb).trans e) G.free G.loc (.inr G.big) G.cel G.pin
def Zcn(te:TE)(D:aK):TEm:=λU H Q=>te U H λy H4=>∃ys,H4 D=aa (.lst ys)/\ys.length<bw/\Q U (upd H4 D<|.lst<|ys++[y])
def Zay(hc:X.calm=aj)(hN:X.N.Nodup)(CS:CompScope X.env.scope X.N scope N cap nl)(hi:PI X tg iter wi)
  (hb:∀cl s H fp,PG (cxC X N scope cl s H fp) tg g/\PTs (cxC X N scope cl s H fp) ifs tt/\PE (cxC X N scope cl s H fp) elt te)
  (hs:∀x,bO iter X.env x=cW x:=by intro _;rfl):PE X (.ListComp elt [#[tg,iter,ifs,0]] scope pos) (vD wi g tt te cap nl):=by
 intro pq s U H Q I h;rw[eval_ListComp];refine WP (act:=λacc env k=>(do let _ <-call (.builtin "list.append") [acc,<-cC elt env]:nP Unit) >>= λ_=>k) hc hN CS hi (λ_ _ _=>rfl) (λcl s H fp=>#[(hb cl s H fp).1,(hb cl s H fp).2.1,λD=>Ub (λ_ _ z=>z) (hb cl s H fp).2.2]) hs I h λD C H5 s6 I6 G q=>?_
 obtain⟨m6,hn6⟩:=G.ns;exact#[m6,hn6,λh' hsb=>#[.ref D,H5,G.inv I6 hsb,rfl,q]]
def w4(hc:X.calm=aj)(hN:X.N.Nodup)(CS:CompScope X.env.scope X.N scope N cap nl)(hi:PI X tg iter wi)
  (hb:∀cl s H fp,PG (cxC X N scope cl s H fp) tg g/\PTs (cxC X N scope cl s H fp) ifs tt/\PE (cxC X N scope cl s H fp) elt te)
  (hsw:gS (.ListComp elt [#[tg,iter,ifs,0]] scope pos) (aa<|.Name y py) spos.line X.env=cW aj)
  (hy:X.N[i]?=aa y)(hx:L2.Loc X.env.scope y)(hf:X.fn y=aj\/X.env.scope.names.lookup y=aa .local)
  (hs:∀x,bO iter X.env x=cW x:=by intro _;rfl):PS X (.Assign [.Name y py] (.ListComp elt [#[tg,iter,ifs,0]] scope pos) spos) (λD U H=>vD wi g tt te cap nl U H λv H1=>D.nx (U.set i<|aa v) H1):=by
 intro pq s U H D I h;rw[lV _ _ _ _ hsw];refine ab<|dR<|ab ?_;refine ab<|cK (WP (Q:=λv H1=>D.nx (U.set i<|aa v) H1) (act:=λacc env k=>(do let _ <-call (.builtin "list.append") [acc,<-cC elt env]:nP Unit) >>= λ_=>k) hc hN CS hi (λ_ _ _=>rfl) (λcl s H fp=>#[(hb cl s H fp).1,(hb cl s H fp).2.1,λD=>Ub (λ_ _ z=>z) (hb cl s H fp).2.2]) hs I h λA C H5 s6 I6 G q=>?_) (λ_ s' hq=>aw<|aw hq) λ_ _ e=>e
 refine kc<|Wz (v:=V.ref A) I6 hN hy hx rfl (λs7 I7 #[a,hsb,ha]=>?_) hf
 have hCa:C≠a:=by
  rcases ha with e|e
  .rw[e];exact G.loc
  .exact Ne.symm<|G.cel y a e
 obtain⟨m6,hn6⟩:=G.ns;have G7:Gone X pq H5 s7 C:=#[G.free,#[m6,hn6.sameBut hsb hCa],G.loc,G.big,G.cel,G.pin];exact#[m6,hn6.sameBut hsb hCa,λh' hs'=>#[U.set i<|aa<|.ref A,H5,G7.inv I7 hs',q]]
def zx(wi:TI)(g:TG)(tt:TT)(te:TEm):TEm:=λU H Q=>wi U H λJ H1=>∃W:Nat->Nat->L2.St->Hp->Prop,(∃m,W 0 m U H1)/\zT J g tt te W Q
def zt(hc:Y.calm=aj)(hx:∀a b,Y.xe a b->False)(hi:PI Y t2 i2 wi)(hg:PG Y t2 g)(ht:PTs Y f2 tt)(he:Jg Y act te)
  (hs:∀x,bO i2 Y.env x=cW x)
  (hstart:∀(it:al)(R:pN->aq->Prop)(s:aq),fe (aT Y.prog Y.w) Y.A (.compLoop (.ListComp elt gens scope pos) 1 it acc Y.env) R s->aW (aT Y.prog Y.w) Y.A (ko it) (λit' s'=>fe (aT Y.prog Y.w) Y.A (.compLoop (.ListComp elt gens scope pos) 1 it' acc Y.env) R s') (notedBy (aT Y.prog Y.w) Y.A Y.env λx s'=>R (.error x) s') s->fe (aT Y.prog Y.w) Y.A (.compStart (.ListComp elt gens scope pos) 1 it acc Y.env) R s)
  (hT:∀it,oX (.ListComp elt gens scope pos) 1 it acc Y.env=Ui i2.pos t2 f2 act it Y.env (.compLoop (.ListComp elt gens scope pos) 1 it acc Y.env)) :
  Jg Y (λk=>do let x <-cC i2 Y.env;k8 i2.pos;let x <-bO i2 Y.env x;let _ <-runOwn (.compStart (.ListComp elt gens scope pos) 1 (<-g6 [x] (ko x)) acc Y.env) Y.env;k) (zx wi g tt te):=by
 intro pq s U H Q k QF EE I h hk;refine ab<|cK (hi pq s U H _ I h) (λv s1 h1=>ab<|dR<|ab<|cE (hs v)<|ab<|b6<|cK h1 (λitv s2 h2=>?_) λ_ _ z=>(hx _ _ z).elim) λ_ _ z=>(hx _ _ z).elim
 obtain⟨it,fp,tn,J,H2,rfl,I2,T,st2,f2',W,⟨m0,w0⟩,turn⟩:=h2;have stat:∀{H':Hp},(∀b∈fp,H' b=ae)->∀b∈fp,X8 Y pq H' b:=λhn b hb=>#[hn b hb,(f2' b hb).2]
 have loop:fe (aT Y.prog Y.w) Y.A (.compLoop (.ListComp elt gens scope pos) 1 (.ref it) acc Y.env) (λr s'=>match r with|.ok f=>aW (aT Y.prog Y.w) Y.A k QF EE s'|.error x=>cameBackBy (aT Y.prog Y.w) Y.A Y.env EE x s') s2:=
  Qe hc hx (hT _) rfl rfl T hg ht he stat turn (λσ5 H5 s6 I6 qn=>hk s6 σ5 H5 I6 qn) I2 st2 (λb hb=>(f2' b hb).1) w0 rfl rfl
 exact ab<|wpAny_runOwn<|hstart _ _ _ loop<|T.self _ 0 _ _ _ st2 loop
def ZcX{R:pN->aq->Prop}
  (h0:fe (aT prog w) A (.compLoop (.ListComp elt [#[t1,i1,f1,0],#[t2,i2,f2,0]] scope pos) 1 it acc env) R s)
  (h:aW (aT prog w) A (ko it) (λit' s'=>fe (aT prog w) A (.compLoop (.ListComp elt [#[t1,i1,f1,0],#[t2,i2,f2,0]] scope pos) 1 it' acc env) R s') (notedBy (aT prog w) A env λx s'=>R (.error x) s') s) :
  fe (aT prog w) A (.compStart (.ListComp elt [#[t1,i1,f1,0],#[t2,i2,f2,0]] scope pos) 1 it acc env) R s:=by
 refine im ?_;show aW _ _ ((compStart (.ListComp elt [#[t1,i1,f1,0],#[t2,i2,f2,0]] scope pos) 1 it acc env).onRaise λx=>do noteFrame x env;k8 theWindowsPlace) _ _ s
 refine wpAny_notedAt ?_;refine ab<|eX<|wpAny_ite ?_;split
 .first|exact ab<|aw<|aw<|aU rfl h0|exact aw<|aU rfl h0
 .first|exact ab<|d4<|ab<|dR<|ab<|cK h (λit' s' h'=>aw<|aU rfl h') λ_ _ x=>x|(refine ab<|d4 ?_;exact ab<|dR<|ab<|cK h (λit' s' h'=>aw<|aU rfl h') λ_ _ x=>x)
def xO(hc:X.calm=aj)(hN:X.N.Nodup)(CS:CompScope X.env.scope X.N scope N cap nl)(hi:PI X t1 i1 wi)
  (hb:∀cl s H fp,PG (cxC X N scope cl s H fp) t1 g1/\PTs (cxC X N scope cl s H fp) f1 tt1/\PI (cxC X N scope cl s H fp) t2 i2 wj/\PG (cxC X N scope cl s H fp) t2 g2/\PTs (cxC X N scope cl s H fp) f2 tt2/\PE (cxC X N scope cl s H fp) elt te)
  (hsw:gS (.ListComp elt [#[t1,i1,f1,0],#[t2,i2,f2,0]] scope pos) (aa<|.Name y py) spos.line X.env=cW aj)
  (hy:X.N[i]?=aa y)(hx:L2.Loc X.env.scope y)(hf:X.fn y=aj\/X.env.scope.names.lookup y=aa .local)
  (hs:∀x,bO i1 X.env x=cW x:=by intro _;rfl)(hs2:∀env x,bO i2 env x=cW x:=by intro _ _;rfl) :
  PS X (.Assign [.Name y py] (.ListComp elt [#[t1,i1,f1,0],#[t2,i2,f2,0]] scope pos) spos) (λD U H=>G8 wi g1 tt1 (λD=>zx wj g2 tt2<|Zcn te D) cap nl U H λv H1=>D.nx (U.set i<|aa v) H1):=by
 intro pq s U H D I h;rw[lV _ _ _ _ hsw];refine ab<|dR<|ab ?_;refine ab<|cK (WP (act:=λacc env k=>do let x <-cC i2 env;k8 i2.pos;let x <-bO i2 env x;let _ <-runOwn (.compStart (.ListComp elt [#[t1,i1,f1,0],#[t2,i2,f2,0]] scope pos) 1 (<-g6 [x] (ko x)) acc env) env;k) hc hN CS hi (λ_ _ _=>rfl) (λcl s H fp=>?_) hs I h λA C H5 s6 I6 G q=>?_) (λ_ s' hq=>aw<|aw hq) λ_ _ e=>e
 .obtain⟨a1,a2,a3,a4,a5,a6⟩:=hb cl s H fp
  exact#[a1,a2,λD=>zt hc (λ_ _ z=>z) a3 a4 a5 (Ub (λ_ _ z=>z) a6) (λx=>hs2 _ x) (λit R s k1 k2=>ZcX k1 k2) λit=>rfl]
 refine kc<|Wz (v:=V.ref A) I6 hN hy hx rfl (λs7 I7 #[a,hsb,ha]=>?_) hf
 have hCa:C≠a:=by
  rcases ha with e|e
  .rw[e];exact G.loc
  .exact Ne.symm<|G.cel y a e
 obtain⟨m6,hn6⟩:=G.ns;have G7:Gone X pq H5 s7 C:=#[G.free,#[m6,hn6.sameBut hsb hCa],G.loc,G.big,G.cel,G.pin];exact#[m6,hn6.sameBut hsb hCa,λh' hs'=>#[U.set i<|aa<|.ref A,H5,G7.inv I7 hs',q]]
open Ev (E Sm Fn Bop Cop Ty Bf Mf)
section
variable{X:Cx}{xw:Nat->Hp->Prop}{C:Calls}{e a b c tg it:Expr}{i j k:E}{pos p p' p2:iA}
structure CTs(X:Cx)(xw:Nat->Hp->Prop)(C:Calls)(ifs:List Expr)(is:List E):Prop where
 h:PTs X ifs (tB3 X xw<|Pv.pvt C is)
def PTs.imp{X:Cx}{e:List Expr}{t t':TT}(h:PTs X e t)(k:∀U H Q,t' U H Q->t U H Q):PTs X e t':=λpq s U H Q I q=>h pq s U H Q I<|k U H Q q
def qW:CTs X xw C [] []:=.mk <| PTs.imp qU<|by rintro U H Q ⟨O,l,S,st,lr,h⟩;exact End.ok (h) st rfl
def Zaa(U:Lc)(S:Zo):Pv.pvt C [i] U S=Pv.XC C i U S:=by
 show((Pv.pv C i U S).bind λx S=>(Pv.po (Pv.Zm x) S).bind λb S=>if b then Pv.pvt C [] U S else .ok ak S)=(Pv.pv C i U S).bind λx S=>Pv.po (Pv.Zm x) S
 congr 1
 funext x S
 cases Pv.Zm x with|none=>rfl|some b=>cases b<;>rfl
def Zav(h:CT X xw C c i):CTs X xw C [c] [i]:=.mk <| PTs.imp (ZaC h.h)<|by rintro U H Q ⟨O,l,S,st,lr,h⟩;exact #[O,l,S,st,lr,by rw[<-Zaa];exact h]
def LocR.caught(lr:LocR O H l U)(cap:List Nat)(nl:Nat):LocR O H (Pv.ZY cap nl l) (Yr cap nl U):=by
 refine#[by unfold Pv.ZY Yr;simp,λn d e=>?_]
 unfold Pv.ZY at e;by_cases hn:n<nl
 .rw[bH (by simp;exact hn),cP,T9 hn]at e
  cases e
 .rw[bg (by simp;omega),c6,aH]at e
  unfold Yr;rw[bg (by simp;omega),c6,aH]
  cases q:cap[n-nl]? with
  |none=>rw[q]at e;cases e
  |some m=>
   rw[q]at e;have e':(l[m]?).join=aa d:=ai e;have:l[m]?=aa (aa d):=by
    cases z:l[m]? with
    |none=>rw[z]at e';cases e'
    |some o=>rw[z]at e';cases o with|none=>cases e'|some w=>cases e';rfl
   obtain⟨v,hv,r⟩:=lr.val m d this;exact#[v,by show aa ((U[m]?).join)=_;rw[hv];rfl,r]
noncomputable def Mx.at(O:Mx)(A:aK):Mx:=#[O.K,O.n0,λa=>O.X a\/a=A,λa h=>.inl<|O.xz a h]
def Y4(O:Mx)(A:aK)(H H':Hp):Prop:=∀a o,a≠A->H a=aa o->H' a=aa o\/(O.n0=aa a/\∃xs,o=.lst xs)\/((∃ps,o=.tbl ps)/\∃ps,H' a=aa (.tbl ps))
def Y4.trans(f:Y4 O A H H1)(g:Y4 O A H1 H2):Y4 O A H H2:=λa o n h=>(f a o n h).elim (g a o n) λz=>z.elim (λz=>.inr<|.inl z)<|by
 rintro ⟨e,ps,h⟩;rcases g a _ n h with q|⟨_,xs,q⟩|⟨_,q⟩
 .exact .inr<|.inr #[e,ps,q]
 .cases q
 .exact .inr<|.inr #[e,q]
def Y4.of(f:Fut (O.at A) H ρ' H1):Y4 O A H H1:=λa o _ h=>f.keep a o h
structure CI(K:am)(O:Mx)(A:aK)(acc:List D)(l:Lc)(U:L2.St)(H:Hp)(S:Zo):Prop where
 st:St3 K (O.at A) S H
 lr:LocR (O.at A) H l U
 ac:∃us,H A=aa (.lst us)/\Reps (O.at A) H acc us
section
variable{K:am}{O:Mx}{A:aK}{acc:List D}{l l':Lc}{U:L2.St}{H H':Hp}{S S':Zo}
def Y4.lat(f:Y4 O A H H')(ha:H A=aa (.lst us)):Lat (O.at A) H (O.at A) H':=#[rfl,rfl,λa o h x n _=>by
 by_cases c:a=A
 .subst c;rw[ha]at h;cases h;exact T7 (.inr rfl)<|x us rfl
 .rcases f a o c h with z|⟨z,xs,e⟩|⟨⟨ps,e⟩,_⟩
  .exact z
  .exact T7 (.inl<|O.xz a z)<|x xs e
  .exact T7 e<|n ps,λ_ _ x=>x]
theorem CI.mono(h:CI K O A acc l U H S)(na:O.n0≠aa A)(f:Fut (O.at A) H ρ' H')(st:St3 K (O.at A) S' H'):CI K O A acc l U H' S':=by
 obtain⟨us,e,r⟩:=h.ac;cases f.eq;exact#[st,h.lr.mono f,us,(f.keep A _ e).elim id λz=>z.elim (λz=>T7 z.1 na)<|by rintro ⟨⟨_,z⟩,_⟩;exact (by cases z),r.mono f]
def Zcy{Q:L2.St->Hp->Prop}(lr:LocR O H l U)(r:Rep O H d v)(e:Pv.Zl t d l=aa l')(q:∀σ',LocR O H l' σ'->Q σ' H):tGU K t v U H Q:=by
 have fill:∀{t:List Nat}{vs:List D}{us:List V}{l l':Lc}{U:L2.St},LocR O H l U->Reps O H vs us->Pv.YA t vs l=aa l'->us.length=t.length/\LocR O H l' (V1 t us U):=λ{t}=>by
  induction t with
  |nil=>intro vs us l l' U h r e;cases vs with|nil=>rw[r];cases e;exact#[rfl,h]|cons _ _=>cases e
  |cons i t ih=>intro vs us l l' U h r e;cases vs with
   |nil=>cases e
   |cons v vs=>
    obtain⟨d,ds,rfl,a,b⟩:=r;obtain⟨z,q⟩:=ih (h.set i a) b e;exact#[by rw[aE,aE,z],q]
 have gen:∀t:List Nat,(match Pv.uE d with
   |some xs=>Pv.YA t xs l
   |none=>ae)=aa l'->∃a xs,v=.ref a/\(SqT K H a xs\/H a=aa (.lst xs))/\xs.length=t.length/\Q (V1 t xs U) H:=by
  intro t e;cases d with|tup vs=>obtain⟨p,ds,rfl,hp,rs⟩:=r.tup';obtain⟨z,y⟩:=fill lr rs e;exact#[p,ds,rfl,.inl<|SqT.of hp,z,q _ y]|lst vs=>obtain⟨p,ds,rfl,hp,_,rs⟩:=r.lst';obtain⟨z,y⟩:=fill lr rs e;exact#[p,ds,rfl,.inr hp,z,q _ y]|_=>cases e
 match t,e with
 |[i],e=>cases e;exact q _<|lr.set i r
 |[],e=>exact gen [] e
 |i::j::t,e=>exact gen (i::j::t) e
theorem Qa:∀{t:List Nat}{vs:List D}{l l':Lc},Pv.YA t vs l=aa l'->l'.length=l.length/\∀j,j∉t->l'[j]?=l[j]?
 |[],[],l,l',h=>by cases h;exact#[rfl,λ_ _=>rfl]
 |[],_::_,_,_,h=>by cases h
 |_::_,[],_,_,h=>by cases h
 |i::t,v::vs,l,l',h=>by
  obtain⟨a,b⟩:=Qa (t:=t) h;exact#[by rw[a,bX],λj hj=>by rw[b j λz=>hj<|ax _ z,bm λz=>hj (by rw[z];exact ao ..)]]
def WW(e:Pv.Zl t v l=aa l'):l'.length=l.length/\∀j,j∉t->l'[j]?=l[j]?:=by
 have gen:∀t:List Nat,(match Pv.uE v with
   |some xs=>Pv.YA t xs l
   |none=>ae)=aa l'->l'.length=l.length/\∀j,j∉t->l'[j]?=l[j]?:=λt e=>by
  cases q:Pv.uE v with|none=>rw[q]at e;cases e|some xs=>rw[q]at e;exact Qa e
 match t,e with
 |[i],e=>cases e;exact#[bX ..,λj hj=>bm λz=>hj (by rw[z];exact ao ..)]
 |[],e=>exact gen [] e
 |i::j::t,e=>exact gen (i::j::t) e
def LocR.back(e:Pv.Zl t v l=aa l')(hn:∀i∈t,∀d,l[i]?≠aa (aa d))(lr:LocR O H l' U):LocR O H l U:=by
 obtain⟨a,b⟩:=WW e;exact#[by rw[<-a];exact lr.len,λi d q=>lr.val i d (by rw[b i λz=>hn i z d q];exact q)]
end
noncomputable def Za1(C:Calls)(t:List Nat)(is:List E)(G:Lc->Zo->R (List D))(l:Lc)(x:D)(S:Zo):R (List D):=(Pv.po (Pv.Zl t x l) S).bind λl S=>(Pv.pvt C is l S).bind λb S=>if b then G l S else .ok [] S
def Vn{B β:Type}{r:R B}{f:B->Zo->R β}{b:β}{S:Zo}(h:r.bind f=.ok b S):∃a S1,r=.ok a S1/\f a S1=.ok b S:=by
 cases r with|ok a S1=>exact#[a,S1,rfl,h]|ex _ _=>cases h|no=>cases h
def xq(h:Pv.mapP f (x::w) S=.ok rs S2):∃y S1 zs,f x S=.ok y S1/\Pv.mapP f w S1=.ok zs S2/\rs=y++zs:=by
 rw[Pv.mapP]at h;split at h
 .split at h
  .cases h;exact#[_,_,_,‹_›,‹_›,rfl]
  .cases h
 .cases h
def Zdn(K:am)(O:Mx)(A:aK)(P:Lc->Prop)(te:TEm)(G:Lc->Zo->R (List D)):Prop:=∀acc l U H S ys S2 QQ,P l->CI K O A acc l U H S->G l S=.ok ys S2->(acc++ys).length<=Ev.lim->(∀σ3 H3,Y4 O A H H3->CI K O A (acc++ys) l σ3 H3 S2->QQ σ3 H3)->te U H QQ
def Uu{O ρw:Mx}{A:aK}{Hw:Hp}{w:List D}{J:It}(r:WRel X.K ρw Hw w J)(na:O.n0≠aa A){t:List Nat}{is:List E}{te:TEm}{G:Lc->Zo->R (List D)}{P:Lc->Prop}(em:Zdn X.K O A P te G){l:Lc}(hn:∀i∈t,∀d,l[i]?≠aa (aa d))(hP:∀x l2,Pv.Zl t x l=aa l2->P l2){acc ys:List D}{U:L2.St}{H:Hp}{S S2:Zo}{QQ:L2.St->Hp->Prop}
  (hl:∀H',Y4 O A H H'->Lat ρw Hw (O.at A) H')(c:CI X.K O A acc l U H S)(h:Pv.mapP (Za1 C t is G l) w S=.ok ys S2)(hz:(acc++ys).length<=Ev.lim)(k:∀σ3 H3,Y4 O A H H3->CI X.K O A (acc++ys) l σ3 H3 S2->QQ σ3 H3) :
  ∃W:Nat->Nat->L2.St->Hp->Prop,(∃m,W 0 m U H)/\zT J (tGU X.K t) (tB3 X nx<|Pv.pvt C is) te W QQ:=by
 refine#[λn m σ' H'=>m=w.length-n/\n<=w.length/\Y4 O A H H'/\∃ac rs S',ac++rs=acc++ys/\Pv.mapP (Za1 C t is G l) (w.drop n) S'=.ok rs S2/\CI X.K O A ac l σ' H' S',#[w.length,rfl,cZ _,λ_ _ _ h=>.inl h,acc,ys,S,rfl,h,c],?_]
 rintro n m σ' H' ⟨rfl,hn',ff,ac,rs,S',ea,e',c'⟩
 have lat:=hl H' ff;by_cases hlt:n<w.length
 .right
  rw[b9 hlt]at e';obtain⟨y1,S1,r1,q1,q2,rfl⟩:=xq e';obtain⟨go,yl⟩:=r.go n _ S' H' lat c'.st hlt;refine#[go,λx H3 y=>?_]
  obtain⟨f3,st3,rp⟩:=yl x H3 y;have rx:=rp _<|af hlt;obtain⟨l2,Sa,ha,q1⟩:=Vn q1;obtain⟨b,Sb,hb,q1⟩:=Vn q1;have hal:Pv.Zl t w[n] l=aa l2/\Sa=S':=by
   cases z:Pv.Zl t w[n] l<;>rw[z]at ha<;>cases ha;exact#[rfl,rfl]
  obtain⟨hal,rfl⟩:=hal;have ff3:=ff.trans<|Y4.of f3;have c3:=c'.mono na f3 st3;refine Zcy c3.lr rx hal λσ2 lr2=>#[O.at A,l2,Sa,st3,lr2,?_]
  rw[hb];intro ρ4 H4 b' f4 st4 eb;have eb:=eb;subst eb;cases f4.eq;have ff4:=ff3.trans<|Y4.of f4;have c4:=c3.mono na f4 st4;cases b with
  |false=>
   rw[T8 aI]at q1 ⊢;cases q1;exact#[w.length-(n+1),by omega,rfl,hlt,ff4,ac,r1,_,ea,q2,c4.st,(lr2.mono f4).back hal hn,c4.ac]
  |true=>
   rw[T9 rfl]at q1 ⊢;refine em ac l2 σ2 H4 Sb y1 S1 _ (hP _ _ hal) #[c4.st,lr2.mono f4,c4.ac] q1 ?_ λσ3 H5 f5 c5=>#[w.length-(n+1),by omega,rfl,hlt,ff4.trans f5,ac++y1,r1,S1,by rw[bq];exact ea,q2,c5.st,c5.lr.back hal hn,c5.ac]
   rw[<-ea]at hz;simp only[aX]at hz ⊢;omega
 .left
  have en:n=w.length:=by omega
  subst en;rw[dZ]at e';cases e';rw[cf]at ea;subst ea;exact#[r.stop _ _ H' lat c'.st,k σ' H' ff c']
def wu{O:Mx}{A:aK}(na:O.n0≠aa A)(ie:E):Zdn X.K O A (λ_=>True) (Zcn (tE X nx<|Pv.pv C ie) A) (λl S=>(Pv.pv C ie l S).bind λy S=>.ok [y] S):=λacc l U H S ys S2 QQ _ c h hz k=>by
 obtain⟨y,S1,hy,h⟩:=Vn h;cases h;refine#[O.at A,l,S,c.st,c.lr,?_];rw[hy];intro ρ4 H4 v f4 st4 r4;cases f4.eq;have c4:=c.mono na f4 st4;obtain⟨us,e,r⟩:=c4.ac;rw[aX]at hz;have hz:acc.length+1<=Ev.lim:=hz;have fa:Y4 O A H4 (upd H4 A<|.lst<|us++[v]):=λa o n h=>.inl (by rw[Zq n];exact h)
 have lt:=fa.lat e;refine#[us,e,by rw[r.length,<-XU];omega,k U _ ((Y4.of f4).trans fa) #[#[st4.hk,λb x=>?_,λb x=>?_,st4.tb.upd (λo u z=>by rw[e]at z;cases z) λ_ z=>by cases z],#[c4.lr.len,λi d q=>let #[u,a,b]:=c4.lr.val i d q;#[u,a,b.lat lt]],_,ZI,(r.lat lt).append<|Reps.cons (r4.lat lt) Reps.nil]]
 .by_cases z:b=A
  .rw[z,ZI];intro q;cases q
  .rw[Zq z];exact st4.xd b x
 .rw[Zq λz=>na (by rw[<-z];exact x)];exact st4.dw b x
def zI(st:St3 X.K O S H)(lr:LocR O H l U)(hA:H A=ae):O.n0≠aa A/\CI X.K O A [] l U (upd H A<|.lst []) S/\∀H',Y4 O A (upd H A<|.lst []) H'->Fut O H O H'/\Lat O H (O.at A) H':=by
 have ne:∀a,H a≠ae->a≠A:=λa h z=>h<|z▸hA
 have f:∀H',Y4 O A (upd H A<|.lst []) H'->Fut O H O H'/\Lat O H (O.at A) H':=λH' g=>by
  have f:Fut O H O H':=#[rfl,λa o h=>g a o (ne a<|by rw[h];intro z;cases z) (by rw[Zq<|ne a (by rw[h];intro z;cases z)];exact h)]
  exact#[f,rfl,rfl,f.lat.keep',λa h x=>x.elim id λz=>T7 z<|ne a h]
 have s:=st.fresh (o:=.lst []) hA;obtain⟨f1,lt⟩:=f _ λ_ _ _ h=>.inl h
 refine#[λz=>st.xd A (O.xz A z) hA,#[#[s.hk,λb x=>x.elim (s.xd b) λz=>(by rw[z,ZI];intro q;cases q),s.dw,s.tb],#[lr.len,λi d q=>let #[u,a,b]:=lr.val i d q;#[u,a,b.lat lt]],[],ZI,Reps.nil],f]
def WI{l:Lc}{cap:List Nat}{nl i:Nat}(h:i<nl)(v:D):(Pv.ZY cap nl l)[i]?≠aa (aa v):=by
 unfold Pv.ZY;rw[bH (by simpa using h),cP,T9 h]
 intro z;cases z
def Gj(f0:Fut O H0 O H)(hA:H A=ae)(st:St3 X.K O S H)(f:Fut O H O H')(c:CI X.K O A ys l U H' S')(h:End X.K nx (XB aj H0) O H Q (.ok (.lst ys) S')):Q (.ref A) H':=by
 obtain⟨us,e,r⟩:=c.ac;have lt:Lat (O.at A) H' O H':=#[rfl,rfl,λ_ _ h _ _ _=>h,λ_ _ x=>.inl x]
 refine h O H' _ f #[c.st.hk,λb x=>c.st.xd b<|.inl x,c.st.dw,c.st.tb] #[Wx e (st.nx hA)<|r.lat lt,λ_ _ _=>#[A,rfl,f0.new hA st.xd]]
def Jz{K:am}{rep:Mx->Hp->D->V->Prop}{O:Mx}{H:Hp}{Q:VK}{r:R (List D)}(h:End K xw rep O H Q (r.bind λys s=>if ys.length<=Ev.lim then Pv.PR.ok (.lst ys) s else .no).nox):∃ys S,r=.ok ys S/\ys.length<=Ev.lim/\End K nx rep O H Q (.ok (.lst ys) S):=by
 cases r with
 |no=>exact h.elim
 |ex c S=>exact h.elim
 |ok ys S=>
  have h:=End.nox h
  obtain⟨hl,h⟩:=End.guard h;exact#[ys,S,rfl,hl,h]
def JP{is:List E}{ie:E}{cap:List Nat}{nl:Nat}{w:Ev.W}{t:List Nat}{U:L2.St}{H:Hp}{Q:VK}(hyp:tF X xw (Pv.pv C<|.comp1 cap nl t w is ie) U H Q):vD (tW3 X xw<|Pv.pvw C w) (tGU X.K t) (tB3 X nx<|Pv.pvt C is) (tE X nx<|Pv.pv C ie) cap nl U H Q:=by
 obtain⟨O,l,S,st,lr,h⟩:=hyp;rw[Pv.pv]at h;obtain⟨ho,h⟩:=End.guard h;refine#[O,l,S,st,lr,h.bind λwk S1 ρ1 H1 J f1 st1 r1 h1=>λA hA=>?_]
 cases f1.eq;obtain⟨ys,S2,hm,hl,h1⟩:=Jz h1;obtain⟨na,ci,ft⟩:=zI st1 ((lr.mono f1).caught cap nl) hA;exact Uu r1 na (wu na ie) (λi hi d=>WI (T6<|aO.mp ho i hi) d) (λ_ _ _=>fc) (λH' f=>(ft H' f).2) ci hm hl λσ3 H3 f3 c3=>Gj f1 hA st1 (ft H3 f3).1 c3 h1
def xt{is js:List E}{ie:E}{cap:List Nat}{nl:Nat}{w w2:Ev.W}{t u:List Nat}{U:L2.St}{H:Hp}{Q:VK}(hyp:tF X xw (Pv.pv C<|.comp2 cap nl t w is u w2 js ie) U H Q) :
  G8 (tW3 X xw<|Pv.pvw C w) (tGU X.K t) (tB3 X nx<|Pv.pvt C is) (λD=>zx (tW3 X nx<|Pv.pvw C w2) (tGU X.K u) (tB3 X nx<|Pv.pvt C js)<|Zcn (tE X nx<|Pv.pv C ie) D) cap nl U H Q:=by
 obtain⟨O,l,S,st,lr,h⟩:=hyp;rw[Pv.pv]at h;obtain⟨ho,h⟩:=End.guard h;obtain⟨ho,hu⟩:=(aB _ _).mp ho;refine#[O,l,S,st,lr,h.bind λwk S1 ρ1 H1 J f1 st1 r1 h1=>λA hA=>?_]
 cases f1.eq;obtain⟨ys,S2,hm,hl,h1⟩:=Jz h1;obtain⟨na,ci,ft⟩:=zI st1 ((lr.mono f1).caught cap nl) hA;have hu:∀i∈u,i<nl/\i∉t:=λi hi=>by
  have:=(aB _ _).mp<|aO.mp hu i hi;exact#[T6 this.1,by simpa using this.2]
 refine Uu (P:=λl=>∀i∈u,∀d,l[i]?≠aa (aa d)) r1 na (λacc l U H S ys S2 QQ pl c h hz k=>?_) (λi hi d=>WI (T6<|aO.mp ho i hi) d) (λx l2 e i hi d=>?_) (λH' f=>(ft H' f).2) ci hm hl λσ3 H3 f3 c3=>Gj f1 hA st1 (ft H3 f3).1 c3 h1
 .obtain⟨wk2,S5,hw,h⟩:=Vn h
  refine#[O.at A,l,S,c.st,c.lr,?_];rw[hw];intro ρ5 H5 J5 f5 st5 r5;cases f5.eq;have c5:=c.mono na f5 st5;obtain⟨us,e,_⟩:=c5.ac;exact Uu r5 na (wu na ie) pl (λ_ _ _=>fc) (λH' f=>f.lat e) c5 h hz λσ3 H3 f3 c3=>k σ3 H3 ((Y4.of f5).trans f3) c3
 .rw[(WW e).2 i (hu i hi).2]
  exact WI (hu i hi).1 d
def u4{elt:Expr}{ifs:List Expr}{is:List E}{ie:E}{scope:eT}{N:List bE}{cap:List Nat}{nl:Nat}{w:Ev.W}{t:List Nat}(hc:X.calm=aj)(hN:X.N.Nodup)(CSc:CompScope X.env.scope X.N scope N cap nl)(hi:CW X xw C tg it w)
  (hb:∀cl s H fp,CG (cxC X N scope cl s H fp) tg t/\CTs (cxC X N scope cl s H fp) nx C ifs is/\CE (cxC X N scope cl s H fp) nx C elt ie)
  (hs:∀x,bO it X.env x=cW x):CF X xw C (.ListComp elt [#[tg,it,ifs,0]] scope pos) (.comp1 cap nl t w is ie):=.mk <|
 PE.imp (Zay (g:=tGU X.K t) (tt:=tB3 X nx<|Pv.pvt C is) (te:=tE X nx<|Pv.pv C ie) hc hN CSc hi.h (λcl s H fp=>have#[a,b,c]:=hb cl s H fp;#[a.h,b.h,c.h]) hs) λU H Q hyp=>JP hyp
def wY{fr:Bool}{ns:List Nat}{elt:Expr}{ifs:List Expr}{is:List E}{ie:E}{scope:eT}{N:List bE}{cap:List Nat}{nl:Nat}{w:Ev.W}{t:List Nat}{n:Nat}{y:bE}{spos py:iA}(hc:X.calm=aj)(hN:X.N.Nodup)(CSc:CompScope X.env.scope X.N scope N cap nl)(hi:CW X xw C tg it w)
  (hb:∀cl s H fp,CG (cxC X N scope cl s H fp) tg t/\CTs (cxC X N scope cl s H fp) nx C ifs is/\CE (cxC X N scope cl s H fp) nx C elt ie)
  (hsw:gS (.ListComp elt [#[tg,it,ifs,0]] scope pos) (aa<|.Name y py) spos.line X.env=cW aj)
  (hy:X.N[n]?=aa y)(hx:L2.Loc X.env.scope y)(hf:X.fn y=aj\/X.env.scope.names.lookup y=aa .local)
  (hs:∀x,bO it X.env x=cW x):CS X xw fr C ns (.Assign [.Name y py] (.ListComp elt [#[tg,it,ifs,0]] scope pos) spos) (.asg [n]<|.comp1 cap nl t w is ie):=.mk <|
 PS.imp (w4 (g:=tGU X.K t) (tt:=tB3 X nx<|Pv.pvt C is) (te:=tE X nx<|Pv.pv C ie) hc hN CSc hi.h (λcl s H fp=>have#[a,b,c]:=hb cl s H fp;#[a.h,b.h,c.h]) hsw hy hx hf hs)<|by rintro D U H ⟨O,H0,W,l,os,S,st,en,h⟩;exact JP<|ZbT st en h
def xG{fr:Bool}{ns:List Nat}{elt t1 i1 t2 i2:Expr}{f1' f2':List Expr}{is js:List E}{ie:E}{scope:eT}{N:List bE}{cap:List Nat}{nl:Nat}{w w2:Ev.W}{t u:List Nat}{n:Nat}{y:bE}{spos py:iA}(hc:X.calm=aj)(hN:X.N.Nodup)(CSc:CompScope X.env.scope X.N scope N cap nl)(hi:CW X xw C t1 i1 w)
  (hb:∀cl s H fp,CG (cxC X N scope cl s H fp) t1 t/\CTs (cxC X N scope cl s H fp) nx C f1' is/\CW (cxC X N scope cl s H fp) nx C t2 i2 w2/\CG (cxC X N scope cl s H fp) t2 u/\CTs (cxC X N scope cl s H fp) nx C f2' js/\CE (cxC X N scope cl s H fp) nx C elt ie)
  (hsw:gS (.ListComp elt [#[t1,i1,f1',0],#[t2,i2,f2',0]] scope pos) (aa<|.Name y py) spos.line X.env=cW aj)
  (hy:X.N[n]?=aa y)(hx:L2.Loc X.env.scope y)(hf:X.fn y=aj\/X.env.scope.names.lookup y=aa .local)
  (hs:∀x,bO i1 X.env x=cW x)(hs2:∀env x,bO i2 env x=cW x) :
  CS X xw fr C ns (.Assign [.Name y py] (.ListComp elt [#[t1,i1,f1',0],#[t2,i2,f2',0]] scope pos) spos) (.asg [n]<|.comp2 cap nl t w is u w2 js ie):=.mk <|
 PS.imp (xO (wj:=tW3 X nx<|Pv.pvw C w2) (g1:=tGU X.K t) (tt1:=tB3 X nx<|Pv.pvt C is) (g2:=tGU X.K u) (tt2:=tB3 X nx<|Pv.pvt C js) (te:=tE X nx<|Pv.pv C ie) hc hN CSc hi.h (λcl s H fp=>have#[a,b,c,d,e,f]:=hb cl s H fp;#[a.h,b.h,c.h,d.h,e.h,f.h]) hsw hy hx hf hs hs2)<|by rintro D U H ⟨O,H0,W,l,os,S,st,en,h⟩;exact xt<|ZbT st en h
end
theorem LocR.start(r:Reps O H ds vs)(N:List bE)(n:Nat)(hn:n=N.length):LocR O H (Pv.ZH n ds) (L2.start N vs):=by
 subst hn;have hl:=r.length;refine#[by unfold Pv.ZH L2.start;simp[hl],λi d e=>?_]
 unfold Pv.ZH at e;by_cases hi:i<ds.length
 .rw[bH (by simpa using hi),aH]at e
  cases q:ds[i]? with
  |none=>rw[q]at e;cases e
  |some d'=>
   rw[q]at e;cases e;obtain⟨v,hv,r'⟩:=r.get q;refine#[v,?_,r'];unfold L2.start;rw[bH (by simp;lia),aH,hv]
   rfl
 .rw[bg (by simp;lia),cP]at e
  split at e<;>cases e
theorem Eu.start{K:am}{O:Mx}{H:Hp}{S:Zo}{ds:List D}{vs:List V}(st:St3 K O S H)(r:Reps O H ds vs)(N:List bE)(n:Nat)(hn:n=N.length):Eu O H (λ_=>ae) (Pv.ZH n ds) [] (L2.start N vs) H:=by
 have lr:=LocR.start r N n hn;refine#[Fut.refl _ _,st.xd,lr.len,λ_=>rfl,λ_ _ _ h=>?_,λ_ _ h=>?_,λ_ _ h=>?_,λi d e _=>?_]
 .cases h
 .cases h
 .cases h
 .obtain⟨v,a,b⟩:=lr.val i d e
  exact#[v,a,Rep.lat (O:=O) (ρ':=O.ex λ_=>ae) #[rfl,rfl,λ_ _ h _ _ _=>h,λ_ _ x=>Or.elim x id λ#[_,z]=>by cases z] b]
section
variable{P:bt}{w:bJ}{K:am}{mg:bE->Option al}{base:b5}
noncomputable def Ju(C:Calls)(fn:Fn)(ds:List D)(S:Zo):R D:=if ds.length=fn.ps then(Pv.rvs C (Pv.muts fn.body) fn.body (Pv.ZH fn.ns ds) [] S).bind λf S=>match f with
  |.ret x=>.ok x S
  |.nx _ _=>.ok .non S
  |_=>.no
 else .no
def wI{C:Calls}{fn:Fn}{fr:Bool}{xw:Nat->Hp->Prop}{O:Mx}{H:Hp}{ds:List D}{S:Zo}{Q:VK}{E:L2.Ends}(hE:∀v H',Q v H'->E.rt v H')(hN:∀U H',Q .non H'->E.nx U H')(h:End K xw (XB fr H) O H Q (Ju C fn ds S)):Zs fr K xw O H E (Pv.rvs C (Pv.muts fn.body) fn.body (Pv.ZH fn.ns ds) [] S):=by
 obtain⟨_,h⟩:=End.guard h;cases q:Pv.rvs C (Pv.muts fn.body) fn.body (Pv.ZH fn.ns ds) [] S with
 |no=>rw[q]at h;exact h
 |ex c S2=>rw[q]at h;exact λH' f st=>h O H' f st
 |ok fl S2=>
  rw[q]at h;cases fl with|ret x=>exact λH' v f st r=>hE v H'<|h O H' v f st r|nx l os=>exact λH' σ' W' st en=>hN σ' H'<|h O H' .non en.fut st #[yn,λ_ _ z=>by cases z]|brk l os=>exact False.elim h|cnt l os=>exact False.elim h
def v8{C C':Calls}{n:Nat}{fn:Fn}{fr:Bool}{x qual:bE}{st:fR}{f:aK}{fd:cX}{N ps:List bE}{k:Nat}(hF:∀O S H ds vs,St3 K O S H->Reps O H ds vs->C' n ds S=.no\/C' n ds S=Ju C fn ds S)(hns:fn.ns=N.length)(hps:fn.ps=ps.length)(Fu:Fun K x qual st f fd)(S:FnScope N ps (Zv st))
  (hb:∀(cdv:al)(A:b8)(outer:List Env)(s:aq)(H:Hp)(E:XK),Room k (A.deeper<|iK qual (Zv st) s.heap.objs.size f cdv)->
   CSs (Jw CX0 P w K mg base N qual (Zv st) f cdv A outer s H E).nox (λ_ _=>False) fr C (Pv.muts fn.body) (Ya st) fn.body) :
  FnOk P w K mg base CX0 (k+1) f fd ps (spF K C' fr n):=by
 have eq:∀{O S H ds vs Q},St3 K O S H->Reps O H ds vs->End K (λ_ _=>False) (XB fr H) O H Q (C' n ds S)->End K (λ_ _=>False) (XB fr H) O H Q (Ju C fn ds S):=λ{O S H ds vs Q} st r h=>by
  rcases hF O S H ds vs st r with e|e
  .rw[e]at h;exact h.elim
  .rw[e]at h;exact h
 refine Fu.ok S (λvs H Q E #[O,ds,S,st,r,h]=>?_) λcdv A outer s H vs Q E hr #[O,ds,S',st,r,h]=>#[_,(hb cdv A outer s H E hr).h,O,H,λ_=>ae,Pv.ZH fn.ns ds,[],S',st,Eu.start st r N fn.ns hns,wI (λ_ _ q=>q) (λ_ _ q=>q)<|eq st r h]
 have h:=eq st r h;unfold Ju at h;obtain⟨hl,_⟩:=End.guard h;rw[r.length,hl,hps]
def yy{F:List Fn}{tk n k:Nat}{fr:Bool}{f:aK}{fd:cX}{ps:List bE}:FnOk P w K mg base CX0 k f fd ps (spF K (Pv.Zj F tk 0) fr n):=
 #[λvs H Q E #[O,ds,S,st,r,h]=>False.elim h,by rintro A outer s H args us vs Q E hr e0 hb r ⟨O,ds,S,st,r',h⟩;exact False.elim h]
end
def Gq{a b c}:aJ (.Constant a b c::es) env=(ak,cC (.Constant a b c) env)::aJ es env:=rfl
def zY{a b}:aJ (.Name a b::es) env=(ak,cC (.Name a b) env)::aJ es env:=rfl
def uj{a b c}:aJ (.Tuple a b c::es) env=(ak,cC (.Tuple a b c) env)::aJ es env:=rfl
def vi{a b c d}:aJ (.BinOp a b c d::es) env=(ak,cC (.BinOp a b c d) env)::aJ es env:=rfl
def u6{a b c d}:aJ (.Compare a b c d::es) env=(ak,cC (.Compare a b c d) env)::aJ es env:=rfl
def v4{a b c}:aJ (.Subscript a b c::es) env=(ak,cC (.Subscript a b c) env)::aJ es env:=rfl
def yg{a b c d}:aJ (.Call a b c d::es) env=(ak,cC (.Call a b c d) env)::aJ es env:=rfl
def yv{a b c d}:aJ (.ListComp a b c d::es) env=(ak,cC (.ListComp a b c d) env)::aJ es env:=rfl
def YQ:List iH->List (Int×Int)->Prop
 |[],[]=>True
 |e::r,(k,j)::q=>(∃t,e.key=.int k t)/\e.hash=hashInt k/\(∃u,e.val=.int j u)/\YQ r q
 |_,_=>False
theorem YQ.mem :∀{es:List iH}{tab:List (Int×Int)},YQ es tab->∀e∈es,∃k,(fJ P w).is k e.key=aj/\e.hash=(fJ P w).hash k
 |[],_,_,e,h=>by cases h
 |e::r,[],h,_,_=>h.elim
 |e::r,(k,j)::q,h,x,hx=>by
  obtain⟨⟨t,h1⟩,h2,_,h4⟩:=h;rcases aC.mp hx with rfl|hx
  .exact#[k,by rw[h1];exact mY P w k t,h2]
  .exact YQ.mem h4 x hx
theorem YQ.find(k:Int):∀{es:List iH}{tab:List (Int×Int)},YQ es tab->(tab.lookup k=ae->(es.find? λe=>(fJ P w).is k e.key)=ae)/\∀j,tab.lookup k=aa j->∃e t,(es.find? λe=>(fJ P w).is k e.key)=aa e/\e.val=.int j t
 |[],[],_=>#[λ_=>rfl,λj h=>by cases h]
 |[],_::_,h=>h.elim
 |e::r,[],h=>h.elim
 |e::r,(k',j')::q,h=>by
  obtain⟨⟨t,h1⟩,h2,⟨u,h3⟩,h4⟩:=h;obtain⟨i1,i2⟩:=YQ.find k h4;rw[bG,eC];have hd:(fJ P w).is k e.key=ag (k=k'):=KeyKind.is_eq_decide (by rw[h1];exact mY P w k' t) k
  rw[hd];by_cases z:k=k'
  .subst z
   rw[beq_self_eq_true,T5 rfl];exact#[λz=>(by cases z),λj z=>(by cases z;exact#[e,u,rfl,h3])]
  .rw[beq_eq_false_iff_ne.mpr z,T4 z]
   exact#[i1,i2]
def j7{P:bt}{w:bJ}{K:am}{a:aK}{es:Array iH}{n:Nat}{tab:List (Int×Int)}(hl:K.lookup a=aa #[.type "dict",ae,.dict es n,#[]])(ht:YQ es.toList tab)(ha:(a == gR)=ak):Zaj P w K a tab:=by
 refine#[ha,λk=>findBy (fJ P w).is es k,λh X=>#[_,es,n,X _ _ hl,#[rfl,rfl,rfl],rfl,λe he=>ht.mem e<|l6.mpr he,λ_=>rfl],λk=>?_]
 obtain⟨l⟩:=es;obtain⟨i1,i2⟩:=YQ.find k ht;refine#[λz=>?_,λj z=>?_]
 .show((l.toArray.find? λe=>(fJ P w).is k e.key).map (·.val))=ae
  rw[mZ,i1 z];rfl
 .obtain⟨e,t,q1,q2⟩:=i2 j z
  refine#[t,?_];show((l.toArray.find? λe=>(fJ P w).is k e.key).map (·.val))=_
  rw[mZ,q1];exact congrArg aa q2
def hu7(hr:Room k A):A.units+7<c7:=m3 (by lia) hr.un
def wH{K:am}{C:Calls}{n:Nat}{H:Hp}{a:aK}{ns:List Int}(hO:Only H)(hS:SqL K H a (ns.map V.int))(h:∀s,∃S',C n [.scr ns] s=.ok (.bl aj) S'):spF K C ak n [.ref a] H (λv _=>v=.bl aj) λ_ _ _=>False:=by
 obtain⟨S',e⟩:=h (0,ak);have sc:Scr K H a ns:=by
  rcases hS with(hS|hS)|hS
  .rcases hO a with z|⟨o,xs,z⟩
   .rw[z]at hS;cases hS
   .rw[z]at hS;cases hS
  .exact .inl hS
  .exact .inr hS
 refine#[#[K,ae,λ_=>False,λ_ h=>by cases h],[.scr ns],(0,ak),#[rfl,λ_ h=>h.elim,λ_ h=>(by cases h),λP ps e=>by rcases hO P with z|⟨_,_,z⟩<;>(rw[z]at e;cases e)],Reps.cons (by unfold Rep;exact#[a,rfl,sc]) Reps.nil,?_]
 rw[e];exact λρ' H' v _ _ r=>r.1.bl'
end Sd
namespace Sd
open PySem PySem.Spec PyProof.Rows L2
def Src(b:Bool)(h:b5)(it l:aK)(k:Nat):Prop:=match b with
 |true=>h.IsListIter it l k
 |false=>h.IsTupleIter it l k
def Yw(b:Bool)(h:b5)(l:aK)(xs:Array al):Prop:=match b with
 |true=>h.IsList l xs
 |false=>h.IsTuple l xs
def Src.ext(x:Src b h it l k)(e:kh c h h')(n:it≠c):Src b h' it l k:=by
 cases b
 .exact b5.IsTupleIter.extBut x e n
 .exact b5.IsListIter.extBut x e n
def Src.keep(x:Src b h it l k)(e:∀o,h.get? it=aa o->h'.get? it=aa o):Src b h' it l k:=by
 cases b
 .obtain⟨o,ho,r⟩:=x;exact#[o,e o ho,r]
 .obtain⟨o,ho,r⟩:=x;exact#[o,e o ho,r]
def Src.obj(x:Src b h it l k):∃o,h.get? it=aa o/\∀v,o.data≠.cell v:=by
 cases b
 .obtain⟨o,ho,_,d⟩:=x;exact#[o,ho,λv z=>by rw[d]at z;cases z]
 .obtain⟨o,ho,_,d⟩:=x;exact#[o,ho,λv z=>by rw[d]at z;cases z]
def Yw.keep(x:Yw b h l xs)(e:∀o,h.get? l=aa o->h'.get? l=aa o):Yw b h' l xs:=by
 cases b
 .obtain⟨o,ho,r⟩:=x;exact#[o,e o ho,r]
 .obtain⟨o,ho,r⟩:=x;exact#[o,e o ho,r]
def uO{Q:al->aq->Prop}(hit:s.heap.IsTupleIter it t i)(ht:s.heap.IsTuple t items)(hx:items[i]?=aa x)
  (hQ:∀h',h'.IsTupleIter it t (i+1)->fb it s.heap h'->Q x {s with heap:=h' }):aW (aT prog w) A (eo<|.ref it) Q E s:=by
 obtain⟨o,ho,hc,hd⟩:=id hit;obtain⟨ol,hol,_,nl,hdl⟩:=ht;refine ab<|cQ hit.typeIs d5<|cA d5 hit.typeIs iD ?_<|io _;show aW _ _ (field (.ref it) 0 >>= _) _ _ s;refine ab<|cD ho hd rfl ?_;show aW _ _ (if(cc t == bi)=aj then _ else _) _ _ s
 rw[T8 (by exact aI)];refine ab<|cD ho hd rfl ?_
 refine ab<|d6 hol hdl ?_;simp only[gD,hx];refine ab<|gE ho hd (by simp)<|aw #[x,rfl,aw<|hQ _ #[_,d9 _ ho<|gP<|d7 hd _,(ki ..).trans hc,?_]<|dz ..]
 rw[d7 hd];simp[fP]
def QI{Q:al->aq->Prop}(hh:A.handled=ae)(hit:s.heap.IsTupleIter it t i)(ht:s.heap.IsTuple t items)(hx:items[i]?=ae)
  (hE:∀h' e,kh it s.heap h'->(∃o,h'.get? e=aa o/\o.cls=.type "StopIteration")->E (.ref e) {s with heap:=h' }):aW (aT prog w) A (eo<|.ref it) Q E s:=by
 obtain⟨o,ho,hc,hd⟩:=id hit;obtain⟨ol,hol,_,nl,hdl⟩:=ht;refine ab<|cQ hit.typeIs d5<|cA d5 hit.typeIs iD ?_<|io _;show aW _ _ (field (.ref it) 0 >>= _) _ _ s;refine ab<|cD ho hd rfl ?_;show aW _ _ (if(cc t == bi)=aj then _ else _) _ _ s
 rw[T8 (by exact aI)];refine ab<|cD ho hd rfl ?_
 refine ab<|d6 hol hdl ?_;simp only[gD,hx];refine ab<|d4<|ab<|gE ho hd (by simp) ?_;show aW _ _ (newExc (.type "StopIteration") [] >>= _) _ _ _
 refine ab ?_;simp only[newExc,newTuple];refine ab<|bV ?_ (by size_fits)
 refine ab (cE (by first|rfl|(simp only[md];rfl))<|bV ?_ (by size_fits))
 simp only[raiseNew];refine ab<|wpAny_handled ?_;first|rw[hh]|rw[hh]
 exact ab<|aw<|wpAny_throw<|hE _ _ (((dz ..).extBut.push _).push _) #[_,aL _ rfl,rfl]
def We{Q:al->aq->Prop}(hit:Src b s.heap it l k)(hl:Yw b s.heap l xs)(hx:xs[k]?=aa x)
  (hQ:∀h',Src b h' it l (k+1)->fb it s.heap h'->Q x {s with heap:=h' }):aW (aT prog w) A (eo<|.ref it) Q E s:=by
 cases b
 .exact uO hit hl hx hQ
 .exact wpAny_nextOf_list_item hit hl hx hQ
def QE{Q:al->aq->Prop}(hh:A.handled=ae)(hit:Src b s.heap it l k)(hl:Yw b s.heap l xs)(hx:xs[k]?=ae)
  (hE:∀h' e,kh it s.heap h'->(∃o,h'.get? e=aa o/\o.cls=.type "StopIteration")->E (.ref e) {s with heap:=h' }):aW (aT prog w) A (eo<|.ref it) Q E s:=by
 cases b
 .exact QI hh hit hl hx hE
 .exact wpAny_nextOf_list_end hh hit hl hx hE
noncomputable def YC(b:Bool)(l:aK):fC:={cls:=.type (if b then "list_iterator" else "tuple_iterator"),data:=.fields [.ref l,.int 0 0].toArray}
def J1{Q:al->aq->Prop}(hl:Yw b s.heap l xs)(h:Q (.ref s.heap.objs.size) {s with heap:=s.heap.push (YC b l)}):aW (aT prog w) A (ko<|.ref l) Q E s:=by
 cases b
 .exact ga hl h
 .exact fB hl h
structure ZipSt(b1 b2:Bool)(z TI TO i1 i2 l1 l2:aK)(k:Nat)(f0:al)(h:b5):Prop where
 zp:oq h z TI TO f0
 ti:lx h TI (.ref i1) (.ref i2)
 to:∃a b,lx h TO a b
 s1:Src b1 h i1 l1 k
 s2:Src b2 h i2 l2 k
def vG{b1 b2:Bool}{z TI TO i1 i2 l1 l2:aK}{k:Nat}{xs ys:Array al}{x y:al}{Q:al->aq->Prop}(D:me z TI TO i1 i2 l1 l2)(Z:ZipSt b1 b2 z TI TO i1 i2 l1 l2 k .none s.heap)(hl1:Yw b1 s.heap l1 xs)(hl2:Yw b2 s.heap l2 ys)(hx:xs[k]?=aa x)(hy:ys[k]?=aa y)
  (hQ:∀h',ZipSt b1 b2 z TI TO i1 i2 l1 l2 (k+1) (fP s.heap.objs.size) h'->lx h' s.heap.objs.size x y->(∀c o,c∉[z,TO,i1,i2]->s.heap.get? c=aa o->h'.get? c=aa o)->Q (.ref s.heap.objs.size) {s with heap:=h' }) :
  aW (aT prog w) A (dv.«zip.__next__» #[[.ref z],[]]) (λfin s'=>∃v,fin=.done (.ret v)/\Q v s') E s:=by
 obtain⟨hz,hTI,⟨a,b,hTO⟩,h1,h2⟩:=Z;show aW _ _ (field (.ref z) 2 >>= _) _ _ _;refine ab<|cD hz rfl (x:=.bool ak) rfl ?_;refine ab<|cD hz rfl (x:=.ref TI) rfl<|ab<|d6 hTI rfl ?_;refine ab ?_;refine ab<|cD hz rfl (x:=.none) rfl<|aw ?_;simp only[if_true];refine ab<|d4<|ab<|cD hz rfl (x:=.ref TO) rfl<|ab<|d8 hz (by simp) λh₁ hz₁ hs₁=>?_
 replace hz₁:oq h₁ z TI TO .ellipsis:=by exact hz₁
 refine ab ?_;simp only[kQ,oy,ig,oY];refine ab<|ab<|kx ?_;refine ab<|We (h1.ext hs₁.extBut D.i1z) (hl1.keep λo e=>hs₁.extBut _ o D.l1z e) hx λh₂ h1₂ hs₂=>aw ?_
 have hTO₂:lx h₂ TO a b:=by exact hs₂.extBut _ _ D.TOi1<|hs₁.extBut _ _ D.TOz hTO
 refine ab<|d6 hTO₂ rfl<|ab<|g9 hTO₂ λh₃ hTO₃ hs₃=>?_
 replace hTO₃:lx h₃ TO x b:=by exact hTO₃
 refine ab<|ot<|aw<|ab<|ab<|kx ?_;have to3:∀c o,c≠z->c≠TO->c≠i1->s.heap.get? c=aa o->h₃.get? c=aa o:=λc o c1 c2 c3 e=>hs₃.extBut _ _ c2<|hs₂.extBut _ _ c3<|hs₁.extBut _ _ c1 e
 refine ab<|We (h2.keep λo e=>to3 _ o D.i2z D.TOi2.symm D.i12.symm e) (hl2.keep λo e=>to3 _ o D.l2z D.l2TO D.l2i1 e) hy λh₄ h2₄ hs₄=>aw ?_
 have hTO₄:lx h₄ TO x b:=by exact hs₄.extBut _ _ D.TOi2 hTO₃
 refine ab<|d6 hTO₄ rfl<|ab<|g9 hTO₄ λh₅ hTO₅ hs₅=>?_
 replace hTO₅:lx h₅ TO x y:=by exact hTO₅
 refine ab<|ot<|aw<|aw<|ab<|d6 hTO₅ rfl<|ab<|wpAny_newTuple ?_;have hsz:h₅.objs.size=s.heap.objs.size:=by rw[hs₅.1,hs₄.1,hs₃.1,hs₂.1,hs₁.1]
 have to5:=λc o c1 c2 c3 c4 e=>hs₅.extBut _ _ c2<|hs₄.extBut _ _ c4<|to3 c o c1 c2 c3 e
 have hz₅:oq h₅ z TI TO .ellipsis:=by exact hs₅.extBut _ _ D.TOz.symm<|hs₄.extBut _ _ D.i2z.symm<|hs₃.extBut _ _ D.TOz.symm<|hs₂.extBut _ _ D.i1z.symm hz₁
 have h1₅:Src b1 h₅ i1 l1 (k+1):=((h1₂.ext hs₃.extBut D.TOi1.symm).ext hs₄.extBut D.i12).ext hs₅.extBut D.TOi1.symm;have h2₅:Src b2 h₅ i2 l2 (k+1):=h2₄.ext hs₅.extBut D.TOi2.symm;have zl:z<h₅.objs.size:=aF hz₅;refine ab ?_;have hz₆:oq (h₅.push {cls:=.type "tuple",data:=.seq [x,y].toArray}) z TI TO .ellipsis:=by exact au _ hz₅
 refine ab<|d8 hz₆ (by simp) λh₇ hz₇ hs₇=>?_
 replace hz₇:oq h₇ z TI TO (fP h₅.objs.size):=by exact hz₇
 refine d8 hz₇ (by simp) λh₈ hz₈ hs₈=>aw #[_,rfl,?_]
 replace hz₈:oq h₈ z TI TO (fP h₅.objs.size):=by exact hz₈
 have up:∀c o,c≠z->h₅.get? c=aa o->h₈.get? c=aa o:=λc o c1 e=>by exact hs₈.extBut _ _ c1<|hs₇.extBut _ _ c1<|au _ e
 have hT₈:lx h₈ h₅.objs.size x y:=by exact hs₈.extBut _ _ (gw zl)<|hs₇.extBut _ _ (gw zl)<|aL _ rfl
 show Q (.ref h₅.objs.size) _;rw[hsz]at hz₈ hT₈ ⊢;refine hQ h₈ #[hz₈,up _ _ D.TIz<|to5 _ _ D.TIz D.TITO D.TIi1 D.TIi2 hTI,#[x,y,up _ _ D.TOz hTO₅],h1₅.keep λo e=>up _ o D.i1z e,h2₅.keep λo e=>up _ o D.i2z e] hT₈ λc o hc e=>?_
 simp only[aC,cg,or_false,not_or]at hc;exact up c o hc.1<|to5 c o hc.1 hc.2.1 hc.2.2.1 hc.2.2.2 e
def UA{b1 b2:Bool}{z TI TO i1 i2 l1 l2:aK}{k:Nat}{xs ys:Array al}{Q:Fin->aq->Prop}(hh:A.handled=ae)(D:me z TI TO i1 i2 l1 l2)(Z:ZipSt b1 b2 z TI TO i1 i2 l1 l2 k .none s.heap)(hl1:Yw b1 s.heap l1 xs)(hl2:Yw b2 s.heap l2 ys)(hend:xs[k]?=ae\/ys[k]?=ae)
  (hE:∀h' e,(∀c o,c∉[z,TO,i1,i2]->s.heap.get? c=aa o->h'.get? c=aa o)->(∃o,h'.get? e=aa o/\o.cls=.type "StopIteration")->E (.ref e) {s with heap:=h' }) :
  aW (aT prog w) A (dv.«zip.__next__» #[[.ref z],[]]) Q E s:=by
 obtain⟨hz,hTI,⟨a,b,hTO⟩,h1,h2⟩:=Z;have hk:∀{c:aK},c∉[z,TO,i1,i2]->c≠z/\c≠TO/\c≠i1/\c≠i2:=λhc=>by
  simp only[aC,cg,or_false,not_or]at hc;exact hc
 show aW _ _ (field (.ref z) 2 >>= _) _ _ _;refine ab<|cD hz rfl rfl ?_;refine ab<|cD hz rfl (x:=.ref TI) rfl<|ab<|d6 hTI rfl ?_;refine ab ?_;refine ab<|cD hz rfl (x:=.none) rfl<|aw ?_;simp only[if_true];refine ab<|d4<|ab<|cD hz rfl (x:=.ref TO) rfl<|ab<|d8 hz (by simp) λh₁ hz₁ hs₁=>?_
 replace hz₁:oq h₁ z TI TO .ellipsis:=by exact hz₁
 refine ab ?_;simp only[kQ,oy,ig,oY];refine ab<|ab<|kx ?_;have l1₁:=hl1.keep λo e=>hs₁.extBut _ o D.l1z e
 cases hx:xs[k]? with
 |none=>
  refine ab<|QE hh (h1.ext hs₁.extBut D.i1z) l1₁ hx λh₂ e hs₂ he=>?_
  obtain⟨oe,hoe,hce⟩:=he;have hz₂:oq h₂ z TI TO .ellipsis:=by exact hs₂ _ _ D.i1z.symm hz₁
  have hez:e≠z:=λx=>by subst x;rw[hz₂]at hoe;cases hoe;simp at hce
  exact d8 hz₂ (by simp) λh₃ _ hs₃=>hE h₃ e (λc o hc x=>hs₃.extBut _ _ (hk hc).1<|hs₂ _ _ (hk hc).2.2.1<|hs₁.extBut _ _ (hk hc).1 x) #[oe,hs₃.extBut _ _ hez hoe,hce]
 |some x=>
  have hy:ys[k]?=ae:=by rcases hend with q|q;rw[hx]at q;cases q;exact q
  refine ab<|We (h1.ext hs₁.extBut D.i1z) l1₁ hx λh₂ h1₂ hs₂=>aw ?_
  have hTO₂:lx h₂ TO a b:=by exact hs₂.extBut _ _ D.TOi1<|hs₁.extBut _ _ D.TOz hTO
  refine ab<|d6 hTO₂ rfl<|ab<|g9 hTO₂ λh₃ hTO₃ hs₃=>?_
  refine ab<|ot<|aw<|ab<|ab<|kx ?_;have to3:∀c o,c≠z->c≠TO->c≠i1->s.heap.get? c=aa o->h₃.get? c=aa o:=λc o c1 c2 c3 e=>hs₃.extBut _ _ c2<|hs₂.extBut _ _ c3<|hs₁.extBut _ _ c1 e
  refine ab<|QE hh (h2.keep λo e=>to3 _ o D.i2z D.TOi2.symm D.i12.symm e) (hl2.keep λo e=>to3 _ o D.l2z D.l2TO D.l2i1 e) hy λh₄ e hs₄ he=>?_
  obtain⟨oe,hoe,hce⟩:=he;have hz₄:oq h₄ z TI TO .ellipsis:=by exact hs₄ _ _ D.i2z.symm<|hs₃.extBut _ _ D.TOz.symm<|hs₂.extBut _ _ D.i1z.symm hz₁
  have hez:e≠z:=λx=>by subst x;rw[hz₄]at hoe;cases hoe;simp at hce
  exact d8 hz₄ (by simp) λh₅ _ hs₅=>hE h₅ e (λc o hc x=>hs₅.extBut _ _ (hk hc).1<|hs₄ _ _ (hk hc).2.2.2<|to3 c o (hk hc).1 (hk hc).2.1 (hk hc).2.2.1 x) #[oe,hs₅.extBut _ _ hez hoe,hce]
def zD{b1 b2:Bool}{z TI TO i1 i2 l1 l2:aK}{k:Nat}{xs ys:Array al}{x y:al}{Q:Option al->aq->Prop}(D:me z TI TO i1 i2 l1 l2)(Z:ZipSt b1 b2 z TI TO i1 i2 l1 l2 k .none s.heap)(hl1:Yw b1 s.heap l1 xs)(hl2:Yw b2 s.heap l2 ys)(hx:xs[k]?=aa x)(hy:ys[k]?=aa y)
  (hQ:∀h',ZipSt b1 b2 z TI TO i1 i2 l1 l2 (k+1) (fP s.heap.objs.size) h'->lx h' s.heap.objs.size x y->(∀c o,c∉[z,TO,i1,i2]->s.heap.get? c=aa o->h'.get? c=aa o)->Q (aa<|.ref s.heap.objs.size) {s with heap:=h' }) :
  aW (aT prog w) A (l4<|.ref z) Q E s:=by
 have hT:s.TypeIs (.ref z) "zip":=#[_,Z.zp,rfl];exact ab<|ky<|cQ hT ip<|cA ip hT n4 (vG D Z hl1 hl2 hx hy λh' a1 a2 a3=>aw<|hQ h' a1 a2 a3)<|nv _
def V3{b1 b2:Bool}{z TI TO i1 i2 l1 l2:aK}{k:Nat}{xs ys:Array al}{Q:Option al->aq->Prop}(hh:A.handled=ae)(D:me z TI TO i1 i2 l1 l2)(Z:ZipSt b1 b2 z TI TO i1 i2 l1 l2 k .none s.heap)(hl1:Yw b1 s.heap l1 xs)(hl2:Yw b2 s.heap l2 ys)(hend:xs[k]?=ae\/ys[k]?=ae)
  (hQ:∀h',(∀c o,c∉[z,TO,i1,i2]->s.heap.get? c=aa o->h'.get? c=aa o)->Q ae {s with heap:=h' }):aW (aT prog w) A (l4<|.ref z) Q E s:=by
 have hT:s.TypeIs (.ref z) "zip":=#[_,Z.zp,rfl];refine ab<|ky<|cQ hT ip<|cA ip hT n4 (UA hh D Z hl1 hl2 hend λh' e hk he=>?_)<|nv _
 obtain⟨o,ho,hc⟩:=he;exact ab<|kR #[o,ho,hc] isSubtype_stop<|aw<|hQ _ hk
noncomputable def zH1(h:b5)(b1:Bool)(l1:aK):b5:=h.push<|YC b1 l1
noncomputable def zH2(h:b5)(b1 b2:Bool)(l1 l2:aK):b5:=(zH1 h b1 l1).push<|YC b2 l2
noncomputable def zH3(h:b5)(b1 b2:Bool)(l1 l2:aK):b5:=(zH2 h b1 b2 l1 l2).push {cls:=.type "tuple",data:=.seq [.ref h.objs.size,.ref (zH1 h b1 l1).objs.size].toArray}
noncomputable def zH4(h:b5)(b1 b2:Bool)(l1 l2:aK):b5:=(zH3 h b1 b2 l1 l2).push {cls:=.type "tuple",data:=.seq [.none,.none].toArray}
noncomputable def zH5(h:b5)(b1 b2:Bool)(l1 l2:aK):b5:=(zH4 h b1 b2 l1 l2).push {cls:=.type "zip",data:=.fields [.none,.bool ak,.bool ak,.ref (zH2 h b1 b2 l1 l2).objs.size,.ref (zH3 h b1 b2 l1 l2).objs.size].toArray}
def qC(b1 b2:Bool)(l1 l2:aK)(xs ys:Array al) :
  oV (dv.«zip.__new__» #[[.type "zip",.ref l1,.ref l2],[]]) (λ_ R s=>Yw b1 s.heap l1 xs/\Yw b2 s.heap l2 ys/\R (.ok<|.ret<|.ref (zH4 s.heap b1 b2 l1 l2).objs.size) {s with heap:=zH5 s.heap b1 b2 l1 l2}):=
 .of_wp λprog w A R s h=>by
  obtain⟨hp,g,d,tk,os⟩:=s;obtain⟨hl1,hl2,h⟩:=h;have hsub:=sub_zip;have hL1:=hl1;have hL2:Yw b2 (aq.heap #[hp.push<|YC b1 l1,g,d,tk,os]) l2 ys:=hl2.keep λo e=>au _ e
  wp_walk using J1 hL1,J1 hL2
  exact#[_,rfl,h]
def vQ{Q:al->aq->Prop}(hl1:Yw b1 s.heap l1 xs)(hl2:Yw b2 s.heap l2 ys)
  (h:∀h' n,n=s.heap.objs.size->ZipSt b1 b2 (n+4) (n+2) (n+3) n (n+1) l1 l2 0 .none h'->(∀c o,s.heap.get? c=aa o->h'.get? c=aa o)->Q (.ref<|n+4) {s with heap:=h' }) :
  aW (aT prog w) A (call (.type "zip") [.ref l1,.ref l2]) Q E s:=by
 refine callType_new F.called_zip (by decide) (F.typeCall_zip_2 _ _) (F.newCall_zip_2 _ _) (λobj=>F.args_object_init_3 obj _ _) F.entry_zip_new (qC b1 b2 l1 l2 xs ys) #[hl1,hl2,?_]
 have z1:(zH1 s.heap b1 l1).objs.size=s.heap.objs.size+1:=cT ..;have z2:(zH2 s.heap b1 b2 l1 l2).objs.size=s.heap.objs.size+2:=by unfold zH2;rw[cT,z1]
 have z3:(zH3 s.heap b1 b2 l1 l2).objs.size=s.heap.objs.size+3:=by unfold zH3;rw[cT,z2]
 have z4:(zH4 s.heap b1 b2 l1 l2).objs.size=s.heap.objs.size+4:=by unfold zH4;rw[cT,z3]
 have g5:(zH5 s.heap b1 b2 l1 l2).get? (zH4 s.heap b1 b2 l1 l2).objs.size=aa {cls:=.type "zip",data:=.fields [.none,.bool ak,.bool ak,.ref (zH2 s.heap b1 b2 l1 l2).objs.size,.ref (zH3 s.heap b1 b2 l1 l2).objs.size].toArray}:=aL _ rfl;have k4:∀c o,(zH4 s.heap b1 b2 l1 l2).get? c=aa o->(zH5 s.heap b1 b2 l1 l2).get? c=aa o:=λc o e=>au _ e
 have k3:=λc o e=>k4 c o<|au _ e
 have k2:=λc o e=>k3 c o<|au _ e
 have k1:=λc o e=>k2 c o<|au _ e
 have g4:=k4 _ _<|aL (zH3 s.heap b1 b2 l1 l2) rfl;have g3:=k3 _ _<|aL (zH2 s.heap b1 b2 l1 l2) rfl;have g2:=k2 _ _<|aL (zH1 s.heap b1 l1) rfl;have g1:=k1 _ _<|aL s.heap rfl;rw[z2,z3,z4]at g5;rw[z1,z2]at g3;rw[z3]at g4;rw[z1]at g2;rw[z4];have src:∀b l it,(zH5 s.heap b1 b2 l1 l2).get? it=aa (YC b l)->Src b (zH5 s.heap b1 b2 l1 l2) it l 0:=λb l it e=>by
  cases b
  .exact#[_,e,rfl,rfl]
  .exact#[_,e,rfl,rfl]
 exact#[#[_,g5,rfl],h _ _ rfl #[g5,g3,#[_,_,g4],src b1 l1 _ g1,src b2 l2 _ g2] λc o e=>k1 c o<|au _ e]
open Ev (E Sm Fn Bop Cop Ty Bf Mf)
def Xr{X:Cx}{pq:List (aK×fC)}{U:L2.St}{H:Hp}{s:aq}{h':b5}{t':Nat}{ch:List aK}(I:Inv X pq U H s)(k:∀b o,b∉ch->s.heap.get? b=aa o->h'.get? b=aa o)(hf:∀b∈ch,X8 X pq H b):Inv X pq U H {s with heap:=h',toks:=t' }:=by
 have nit:∀b u,H b=aa u->b∉ch:=λb u e z=>by have:=(hf b z).1;rw[e]at this;cases this
 refine I.step (g':=s.gens) (d':=s.drawn) (λb hb=>?_) (λb o _ _ hc e _=>k b o hc e) (λb o _ _ hc e _=>#[o.slots,k b o hc e]) (λ_ _ _ _ n=>n) (λb o hc e=>#[o,k b o hc e]) (λ_ _ e=>e) (λ_ _ _ e=>e) (λb ps e=>#[#[],by rw[e];simp]) (λm hm=>?_) (λb u e=>?_) I.bare
 .exact#[(hf b hb).2.2.2.1,(hf b hb).2.1,(hf b hb).2.2.2.2.1,(hf b hb).2.2.2.2.2]
 .obtain⟨o,es,ep,ho,r⟩:=hm
  exact#[o,es,ep,k _ o (λz=>(hf _ z).2.1 rfl) ho,r]
 .refine(I.hok b u e).stay (λc v hc q=>k c v ?_ q) (λ_ q=>q) λ_ _ q=>q
  rcases hc with z|z
  .rw[z];exact nit b u e
  .exact nit c _ z
def Qg{h:b5}{o o':fC}{b:aK}(e:(h.push o').get? b=aa o)(n:b≠h.objs.size):h.get? b=aa o:=by
 unfold b5.get? b5.push at *;simp only[Array.getElem?_push]at e;rw[T8 n]at e;exact e
def Xo{a b:Nat}(h:a<b\/b<a):(a:aK)≠b:=λe=>by
 have e':=e;omega
def Sq(b:Bool)(K:am)(H:Hp)(l:aK)(xs:List V):Prop:=match b with
 |true=>SqL K H l xs
 |false=>SqT K H l xs
def YZ(I:Inv X pq U H s)(h:Sq b X.K H l xs):∃its:List al,Vals xs its/\Yw b s.heap l its.toArray:=by
 cases b
 .obtain⟨its,r,p,_⟩:=I.tuple h;exact#[its,r,p]
 .obtain⟨its,r,p,_⟩:=I.list h;exact#[its,r,p.isList]
def GH(I:Inv X pq U H s)(h:Sq b X.K H l xs)(h':Sq b X.K H l ys):xs=ys:=by
 cases b
 .exact I.tuple_inj h h'
 .exact I.list_inj h h'
def QK(x:Yw b h l xs):l<h.objs.size:=by
 cases b
 .obtain⟨o,ho,_⟩:=x;exact aF ho
 .obtain⟨o,ho,_⟩:=x;exact aF ho
noncomputable def Itz(K:am)(b1 b2:Bool)(l1 l2:aK):It:=
 #[λi H=>∃xs ys x y,Sq b1 K H l1 xs/\Sq b2 K H l2 ys/\xs[i]?=aa x/\ys[i]?=aa y,
  λi H v H'=>∃T x y,(∀xs,Sq b1 K H l1 xs->xs[i]?=aa x)/\(∀ys,Sq b2 K H l2 ys->ys[i]?=aa y)/\H T=ae/\H'=upd H T (.tup [x,y])/\v=.ref T,
  λi H=>∃xs ys,Sq b1 K H l1 xs/\Sq b2 K H l2 ys/\(xs.length<=i\/ys.length<=i)]
def vU{P:bt}{w:bJ}{K:am}{elts:List Expr}{kk:Nat}{tp:iA}{b1 b2:Bool}{z TI TO i1 i2 l1 l2:aK}(D:me z TI TO i1 i2 l1 l2) :
  Turn P w K (.Tuple elts kk tp) (Itz K b1 b2 l1 l2) [z,TI,TO,i1,i2] z (λi h=>ZipSt b1 b2 z TI TO i1 i2 l1 l2 i .none h) where
 mem:=by simp
 obj:=λi h st b hb=>by
  simp only[aC,cg,or_false]at hb;obtain⟨a,c,hTO⟩:=st.to;rcases hb with e|e|e|e|e<;>subst e
  .exact#[_,st.zp,λv q=>by cases q]
  .exact#[_,st.ti,λv q=>by cases q]
  .exact#[_,hTO,λv q=>by cases q]
  .exact st.s1.obj
  .exact st.s2.obj
 keep:=λi h h' st k=>by
  obtain⟨a,c,hTO⟩:=st.to;exact#[k z (by simp) _ st.zp,k TI (by simp) _ st.ti,#[a,c,k TO (by simp) _ hTO],st.s1.keep λo e=>k i1 (by simp) o e,st.s2.keep λo e=>k i2 (by simp) o e]
 item:=by
  intro X hP hw hK hc i pq s U H E I hf st hg;subst hP hw hK;obtain⟨xs,ys,x,y,hq1,hq2,hx,hy⟩:=hg;obtain⟨its,rv,o1⟩:=YZ I hq1;obtain⟨its2,rv2,o2⟩:=YZ I hq2;obtain⟨u,hu,ru⟩:=rv.get hx;obtain⟨u2,hu2,ru2⟩:=rv2.get hy;refine zD D st o1 o2 (x:=u) (y:=u2) (by simpa using hu) (by simpa using hu2) λh' Z' hT hk=>?_
  have hfree:=I.hok.fresh<|aM _;have ltz:∀b∈[z,TI,TO,i1,i2],b≠s.heap.objs.size:=λb hb e=>by
   simp only[aC,cg,or_false]at hb;obtain⟨a,c,hTO⟩:=st.to;rcases hb with q|q|q|q|q<;>subst q
   .exact T7 (aF st.zp) (by rw[e];exact bu _)
   .exact T7 (aF st.ti) (by rw[e];exact bu _)
   .exact T7 (aF hTO) (by rw[e];exact bu _)
   .obtain⟨o,ho,_⟩:=st.s1.obj;exact T7 (aF ho) (by rw[e];exact bu _)
   .obtain⟨o,ho,_⟩:=st.s2.obj;exact T7 (aF ho) (by rw[e];exact bu _)
  have IA:Inv X pq U (upd H s.heap.objs.size<|.tup [x,y]) {s with heap:=s.heap.push {cls:=.type "tuple",data:=.seq [u,u2].toArray},toks:=s.toks}:=
   I.laid (λb o e=>au _ e) (aM _) #[by show 2<=bw;decide,[u,u2],.cons ru<|.cons ru2 .nil,iG _ _]
  have hf2:∀b∈[z,TI,TO,i1,i2],X8 X pq (upd H s.heap.objs.size<|.tup [x,y]) b:=λb hb=>#[by rw[Zq<|ltz b hb];exact(hf b hb).1,(hf b hb).2]
  have IB:Inv X pq U (upd H s.heap.objs.size<|.tup [x,y]) {s with heap:=h',toks:=s.toks}:=by
   refine Xr (s:={s with heap:=s.heap.push {cls:=.type "tuple",data:=.seq [u,u2].toArray},toks:=s.toks}) (ch:=[z,TO,i1,i2]) IA (λb o hb e=>?_) λb hb=>hf2 b (by simp only[aC,cg,or_false]at hb ⊢;rcases hb with q|q|q|q<;>simp[q])
   by_cases hbs:b=s.heap.objs.size
   .subst hbs
    have e':=e;rw[aL _ rfl]at e';cases e';exact hT
   .refine hk b o hb ?_
    have e':=e;have hlt:=aF e';rw[cT]at hlt;exact Qg e' hbs
  refine#[.ref s.heap.objs.size,rfl,wpAny_letOwnedTupleGo_zip Z'.zp λh2 hz2 hs2=>?_]
  have IC:Inv X pq U (upd H s.heap.objs.size<|.tup [x,y]) {s with heap:=h2,toks:=s.toks}:=Xr (s:={s with heap:=h',toks:=s.toks}) (ch:=[z]) IB (λb o hb e=>(hs2.2 b<|by simpa using hb).trans e) λb hb=>hf2 b (by simp only[aZ]at hb;simp[hb])
  obtain⟨a,c,hTO⟩:=Z'.to;refine#[.ref s.heap.objs.size,_,IC,rfl,#[_,x,y,λzs hz=>by rw[GH I hz hq1];exact hx,λzs hz=>by rw[GH I hz hq2];exact hy,hfree,rfl,rfl],?_,λb hb=>(hf2 b hb).1]
  exact#[hz2,hs2.extBut _ _ D.TIz Z'.ti,#[a,c,hs2.extBut _ _ D.TOz hTO],Z'.s1.ext hs2.extBut D.i1z,Z'.s2.ext hs2.extBut D.i2z]
 done:=by
  intro X hP hw hK hc i pq s U H E I hf st hg;subst hP hw hK;obtain⟨xs,ys,hq1,hq2,hend⟩:=hg;obtain⟨its,rv,o1⟩:=YZ I hq1;obtain⟨its2,rv2,o2⟩:=YZ I hq2;have e1:=rv.length;have e2:=rv2.length;refine V3 (I.ok.hd hc) D st o1 o2 (by rcases hend with q|q;exact .inl (by simp;omega);exact .inr<|by simp;omega) λh' hk=>#[rfl,Xr (t':=s.toks) (ch:=[z,TO,i1,i2]) I (λb o hb e=>hk b o hb e) λb hb=>hf b (by simp only[aC,cg,or_false]at hb ⊢;rcases hb with q|q|q|q<;>simp[q])]
 self:=λ_ _ _ _ _ st h=>wpAny_pyIter_zip st.zp h
def ZeI(K:am)(ta:TA):TI:=λU H R=>ta U H λvs H1=>∃b1 b2 l1 l2,vs=[.ref l1,.ref l2]/\(∃xs,Sq b1 K H1 l1 xs)/\(∃ys,Sq b2 K H1 l2 ys)/\R (Itz K b1 b2 l1 l2) H1
def Zb4{a b:Expr}{ta:TA}{p pos:iA}(hg:Gl X "zip")(hm:X.mg "zip" = ae)(ha:PA X [a,b] ta)(hs:aJ [a,b] X.env=[(ak,cC a X.env),(ak,cC b X.env)]:=by rfl)(hs2:aJ [b] X.env=[(ak,cC b X.env)]:=by rfl) :
  PI X (.Tuple elts kk tp) (.Call (.Name "zip" p) [a,b] [] pos) (ZeI X.K ta):=by
 intro pq s U H R I h;refine pP<|Yx I hg hm (by rfl)<|bS (thn (ha pos pq s U H _ I h) λus s1 #[vs,H1,I1,r1,q1]=>?_) (by rw[hs,hs2]) (by rw[hs2];rfl)
 obtain⟨b1,b2,l1,l2,e,⟨xs,hq1⟩,⟨ys,hq2⟩,q⟩:=q1;subst e;cases r1 with
 |cons r rr=>
  cases rr with
  |cons r' rr=>
   cases rr;cases r;cases r';obtain⟨its,rv,o1⟩:=YZ I1 hq1;obtain⟨its2,rv2,o2⟩:=YZ I1 hq2;have lt1:=QK o1;have lt2:=QK o2;refine vQ o1 o2 λh' n hn Z hk=>?_
   have I2:=I1.kept (t':=s1.toks) hk
   have q1:(l1:Nat)<n:=by rw[hn];exact lt1
   have q2:(l2:Nat)<n:=by rw[hn];exact lt2
   have D:me (n+4) (n+2) (n+3) n (n+1) l1 l2:=by constructor<;>first|exact Xo (by omega)|exact Xo<|.inl<|bj q1<|eY n _|exact Xo<|.inl<|bj q2<|eY n _|exact Xo<|.inl q1|exact Xo<|.inl q2
   refine wpAny_pyIter_zip Z.zp #[n+4,[n+4,n+2,n+3,n,n+1],_,_,H1,rfl,I2,vU D,Z,λb hb=>?_,q]
   have hbn:s1.heap.objs.size<=b:=by
    rw[<-hn];simp only[aC,cg,or_false]at hb;rcases hb with e|e|e|e|e<;>rw[e]
    .exact eY n 4
    .exact eY n 2
    .exact eY n 3
    .exact aM n
    .exact eY n 1
   exact I1.fpOk hbn<|I1.hok.fresh hbn
def Side(K:am)(O:Mx)(H:Hp)(wk:List D)(b:Bool)(l:aK):Prop:=∀ρ' H',Lat O H ρ' H'->∃vs,Sq b K H' l vs/\Reps ρ' H' wk vs
def Qs{K:am}{O:Mx}{H:Hp}{x:D}{v:V}{wk:List D}(hk:O.K=K)(r:Rep O H x v)(h:Pv.YF x=aa wk):∃b l,v=.ref l/\(∃xs,Sq b K H l xs)/\Side K O H wk b l:=by
 cases x with
 |tup ds=>
  obtain⟨a,xs,rfl,hp,rs⟩:=r.tup';cases h;exact#[ak,a,rfl,#[xs,SqT.of hp],λρ' H' f=>#[xs,SqT.of (f.keep a _ hp λ_ z=>by cases z),rs.lat f]]
 |lst ds=>
  obtain⟨a,xs,rfl,hp,hx,rs⟩:=r.lst';cases h;exact#[aj,a,rfl,#[xs,SqL.of hp],λρ' H' f=>#[xs,SqL.of<|f.keep a _ hp λ_ _=>hx,rs.lat f]]
 |scr ns=>
  obtain⟨a,rfl,hp⟩:=r.scr';cases h;rw[hk]at hp;refine#[aj,a,rfl,#[_,hp.sq],λρ' H' f=>#[_,?_,Reps.ints ns]]
  rcases hp with⟨o,hp⟩|hp
  .exact .inl<|.inr #[o,f.keep a _ hp λ_ z=>by cases z]
  .exact .inr hp
 |_=>exact Ev.nos h
def vH{K:am}{O:Mx}{H:Hp}{v w:List D}{b1 b2:Bool}{l1 l2:aK}(h1:Side K O H v b1 l1)(h2:Side K O H w b2 l2):WRel K O H ((v.zip w).map λp=>.tup [p.1,p.2]) (Itz K b1 b2 l1 l2) where
 go:=λi ρ' S' H' f st hi=>by
  obtain⟨xs,q1,r1⟩:=h1 ρ' H' f;obtain⟨ys,q2,r2⟩:=h2 ρ' H' f;have hi':i<pj v.length w.length:=by simpa using hi
  obtain⟨x,g1,rx⟩:=r1.get (af (show i<v.length by omega))
  obtain⟨y,g2,ry⟩:=r2.get (af (show i<w.length by omega))
  refine#[#[xs,ys,x,y,q1,q2,g1,g2],λu H'' #[T,x',y',e1,e2,hT,eH,eu]=>?_]
  subst eH eu;have ex:=(e1 xs q1).symm.trans g1;have ey:=(e2 ys q2).symm.trans g2;cases ex;cases ey;refine#[ZP hT,st.fresh hT,λd hd=>?_]
  have hz:(v.zip w)[i]?=aa (v[i],w[i]):=i6.mpr #[af (by omega),af (by omega)]
  rw[aH,hz]at hd;cases hd;exact Y2 ZI<|Reps.cons (rx.mono<|ZP hT)<|Reps.cons (ry.mono<|ZP hT) Reps.nil
 stop:=λρ' S' H' f st=>by
  obtain⟨xs,q1,r1⟩:=h1 ρ' H' f;obtain⟨ys,q2,r2⟩:=h2 ρ' H' f;refine#[xs,ys,q1,q2,?_];show xs.length<=((v.zip w).map λp=>Pv.V.tup [p.1,p.2]).length\/_
  rw[r1.length,r2.length,ap,f6];omega
section
variable{X:Cx}{xw:Nat->Hp->Prop}{C:Calls}{a b:Expr}{i j:E}{pos p tp:iA}{elts:List Expr}{kk:Nat}
def ZbP(hm:X.mg "zip" = ae)(ha:CA X xw C [a,b] [i,j])(hg:Gl X "zip")(hs:aJ [a,b] X.env=[(ak,cC a X.env),(ak,cC b X.env)])(hs2:aJ [b] X.env=[(ak,cC b X.env)]) :
  CW X xw C (.Tuple elts kk tp) (.Call (.Name "zip" p) [a,b] [] pos) (.zip i j):=.mk <|
 PI.imp (Zb4 hg hm ha.h hs hs2) λU H Q #[O,l,S,st,lr,h]=>uC st lr h λx y S1 ρ1 H1 v u st1 rv ru h1=>by
  cases e1:Pv.YF x with
  |none=>rw[e1]at h1;exact False.elim h1
  |some v1=>
   cases e2:Pv.YF y with
   |none=>rw[e1,e2]at h1;exact False.elim h1
   |some v2=>
    rw[e1,e2]at h1;obtain⟨b1,l1,rfl,s1,d1⟩:=Qs st1.hk rv e1;obtain⟨b2,l2,rfl,s2,d2⟩:=Qs st1.hk ru e2;exact#[b1,b2,l1,l2,rfl,s1,s2,End.ok (rep:=WRel X.K) h1 st1<|vH d1 d2]
end
def UT(hh:A.handled=ae)(b:Bool)(it l:aK)(hne:l≠it)(xs:Array al) :
  Draws prog w A it [it,l] xs.size (λi v=>xs[i]?=aa v) (λi h=>Src b h it l i/\Yw b h l xs) where
 live:=λ_ _ st=>let #[o,ho,_]:=st.1.obj;#[o,ho]
 frame:=λ_ _ _ st hk=>#[st.1.keep λo e=>hk it (by simp) o e,st.2.keep λo e=>hk l (by simp) o e]
 item:=λi s Q E hi st hQ=>We st.1 st.2 (aQ hi) λh' hit' hs'=>hQ _ h' s.toks (aQ hi) #[hit',st.2.keep λo e=>hs'.extBut _ o hne e] hs'
 done:=λs Q E st hE=>QE hh st.1 st.2 (ly<|aM _) hE
noncomputable def Ite(K:am)(b:Bool)(l:aK):It:=
 #[λi H=>∃xs x,Sq b K H l xs/\xs[i]?=aa x,
  λi H v H'=>∃T x,(∀xs,Sq b K H l xs->xs[i]?=aa x)/\H T=ae/\H'=upd H T (.tup [.int i,x])/\v=.ref T,
  λi H=>∃xs,Sq b K H l xs/\xs.length=i]
def x4{P:bt}{w:bJ}{K:am}{elts:List Expr}{kk:Nat}{tp:iA}{b:Bool}{e it l:aK}(hei:e≠it)(hle:l≠e)(hli:l≠it) :
  Turn P w K (.Tuple elts kk tp) (Ite K b l) [e,it] e (λi h=>(∃old,IsEnum h e it i old)/\Src b h it l i) where
 mem:=by simp
 obj:=λi h st c hc=>by
  simp only[aC,cg,or_false]at hc;obtain⟨⟨old,he⟩,hs⟩:=st;rcases hc with q|q<;>subst q
  .exact#[_,he,λv q=>by cases q]
  .exact hs.obj
 keep:=λi h h' st k=>by
  obtain⟨⟨old,he⟩,hs⟩:=st;exact#[#[old,k e (by simp) _ he],hs.keep λo q=>k it (by simp) o q]
 item:=by
  intro X hP hw hK hc i pq s U H E I hf st hg;subst hP hw hK;obtain⟨xs,x,hq,hx⟩:=hg;obtain⟨its,rv,o1⟩:=YZ I hq;obtain⟨⟨old,he⟩,hs⟩:=st;obtain⟨u,hu,ru⟩:=rv.get hx;have hlt:i<its.toArray.size:=by
   have:=(a9.mp hu).1
   simpa using this
  have hh:X.A.in1.handled=ae:=I.ok.hd hc;refine wpAny_pyNext_enum_itemD (UT hh b it l hli its.toArray) he #[hs,o1] hlt hei (by simp only[aC,cg,or_false,not_or];exact#[hei,Ne.symm hle]) λx' h' tk hP ho hst hT hsz hk=>?_
  have ex:x'=u:=by
   have:its.toArray[i]?=aa u:=by simpa using hu
   rw[this]at hP;exact(ai hP).symm
  subst ex;have hfree:=I.hok.fresh<|aM _;have ltz:∀c∈[e,it],c≠s.heap.objs.size:=λc hc q=>by
   simp only[aC,cg,or_false]at hc;rcases hc with z|z<;>subst z
   .exact T7 (aF he) (by rw[q];exact bu _)
   .obtain⟨o,ho,_⟩:=hs.obj;exact T7 (aF ho) (by rw[q];exact bu _)
  have IA:Inv X pq U (upd H s.heap.objs.size<|.tup [.int i,x]) {s with heap:=s.heap.push {cls:=.type "tuple",data:=.seq [.int i tk,x'].toArray},toks:=tk+1}:=
   I.laid (λc o q=>au _ q) (aM _) #[by show 2<=bw;decide,[.int i tk,x'],.cons #[tk,rfl]<|.cons ru .nil,iG _ _]
  have hf2:∀c∈[e,it],X8 X pq (upd H s.heap.objs.size<|.tup [.int i,x]) c:=λc hc=>#[by rw[Zq<|ltz c hc];exact(hf c hc).1,(hf c hc).2]
  have IB:Inv X pq U (upd H s.heap.objs.size<|.tup [.int i,x]) {s with heap:=h',toks:=tk+1}:=by
   refine Xr (s:={s with heap:=s.heap.push {cls:=.type "tuple",data:=.seq [.int i tk,x'].toArray},toks:=tk+1}) (ch:=[e,it]) IA (λc o hc q=>?_) hf2
   by_cases hcs:c=s.heap.objs.size
   .subst hcs
    have q':=q;rw[aL _ rfl]at q';cases q';exact hT
   .simp only[aC,cg,or_false,not_or]at hc
    exact hk c o hc.1 hc.2<|Qg q hcs
  refine#[.ref s.heap.objs.size,rfl,wpAny_letOwnedTupleGo_enum ho λh2 he2 hs2=>?_]
  have IC:Inv X pq U (upd H s.heap.objs.size<|.tup [.int i,x]) {s with heap:=h2,toks:=tk+1}:=Xr (s:={s with heap:=h',toks:=tk+1}) (ch:=[e]) IB (λc o hc q=>(hs2.2 c<|by simpa using hc).trans q) λc hc=>hf2 c (by simp only[aZ]at hc;simp[hc])
  refine#[.ref s.heap.objs.size,_,IC,rfl,#[_,x,λzs hz=>by rw[GH I hz hq];exact hx,hfree,rfl,rfl],#[#[x',by simpa using he2],hst.1.ext hs2.extBut<|Ne.symm hei],λc hc=>(hf2 c hc).1]
 done:=by
  intro X hP hw hK hc i pq s U H E I hf st hg;subst hP hw hK;obtain⟨xs,hq,hend⟩:=hg;obtain⟨its,rv,o1⟩:=YZ I hq;obtain⟨⟨old,he⟩,hs⟩:=st;have e1:=rv.length;have hh:X.A.in1.handled=ae:=I.ok.hd hc;have en:i=its.toArray.size:=by simp;lia
  subst en;exact wpAny_pyNext_enum_endD (UT hh b it l hli its.toArray) he #[hs,o1] λh' hx=>#[rfl,Xr (t':=s.toks) (ch:=[e,it]) I (λc o hc q=>hx c o (λz=>hc<|by simp[z]) q) hf]
 self:=λ_ _ _ _ _ st h=>by
  obtain⟨⟨old,he⟩,_⟩:=st;exact ny he h
section
variable{prog:bt}{w:bJ}{A:b8}{E:al->aq->Prop}{s:aq}
def wT(l:aK)(items:Array al)(n:Nat)(dct:Option aK)(sl:Array (Option al)) :
  oV (dv.«enumerate.__new__» #[[.type "enumerate",.ref l],[]]) (λ_ R s=>s.heap.get? l=aa {cls:=.type "tuple",dict:=dct,data:=.seq items n,slots:=sl}/\
   R (.ok<|.ret<|.ref (s.heap.push<|YC ak l).objs.size) {s with heap:=(s.heap.push<|YC ak l).push {cls:=.type "enumerate",data:=.fields [.none,.bool ak,.ref s.heap.objs.size,fP 0,.none,.none].toArray}}):=
 .of_wp λprog w A R s h=>by
  obtain⟨hp,g,d,tk,os⟩:=s;obtain⟨hl,h⟩:=h;have hsub:=sub_enumerate;have hL:b5.IsTuple (aq.heap #[hp,g,d,tk,os]) l items:=#[_,hl,rfl,n,rfl]
  wp_walk using fU hl;refine wpAny_stack_any λst=>aw ?_;split
  .rename_i c _ _ _ _ _;cases(c == mP "enumerate")<;>(wp_walk using fU hl,ga hL;exact#[_,rfl,h])
  .wp_walk using fU hl,ga hL;exact#[_,rfl,h]
def wt{Q:al->aq->Prop}(hL:Yw b s.heap l xs)
  (h:∀h' n,n=s.heap.objs.size->IsEnum h' (n+1) n 0 .none->Src b h' n l 0->(∀c o,s.heap.get? c=aa o->h'.get? c=aa o)->Q (.ref<|n+1) {s with heap:=h' }):aW (aT prog w) A (call (.type "enumerate") [.ref l]) Q E s:=by
 cases b with
 |true=>exact call_enumerate_list hL λh' a1 a2 _ a4=>h h' _ rfl a1 a2 a4
 |false=>
  obtain⟨⟨c,dct,dt,sl⟩,hl,hc,n,hd⟩:=hL;simp only at hc hd;subst hc hd;refine callType_new F.called_enumerate (by decide) (F.typeCall_enumerate_1 _) (F.newCall_enumerate_1 _) (λobj=>F.args_object_init_2 obj _) F.entry_enumerate_new (wT l xs n dct sl) #[hl,?_]
  have hz:(s.heap.push<|YC ak l).objs.size=s.heap.objs.size+1:=cT ..;have g2:=aL (s.heap.push<|YC ak l) (o:={cls:=.type "enumerate",data:=.fields [.none,.bool ak,.ref s.heap.objs.size,fP 0,.none,.none].toArray}) rfl;have g1:((s.heap.push<|YC ak l).push {cls:=.type "enumerate",data:=.fields [.none,.bool ak,.ref s.heap.objs.size,fP 0,.none,.none].toArray}).get? s.heap.objs.size=aa (YC ak l):=au _<|aL _ rfl;rw[hz]at g2 ⊢;exact#[#[_,g2,rfl],h _ _ rfl g2 #[_,g1,rfl,rfl] λc o q=>au _<|au _ q]
end
def ZdI(K:am)(ta:TA):TI:=λU H R=>ta U H λvs H1=>∃b l,vs=[.ref l]/\(∃xs,Sq b K H1 l xs)/\R (Ite K b l) H1
def qF{a:Expr}{ta:TA}{p pos:iA}(hg:Gl X "enumerate")(hm:X.mg "enumerate" = ae)(ha:PA X [a] ta)(hs:aJ [a] X.env=[(ak,cC a X.env)]:=by rfl):PI X (.Tuple elts kk tp) (.Call (.Name "enumerate" p) [a] [] pos) (ZdI X.K ta):=by
 intro pq s U H R I h;refine pP<|Yx I hg hm (by rfl)<|bS (thn (ha pos pq s U H _ I h) λus s1 #[vs,H1,I1,r1,q1]=>?_) hs rfl
 obtain⟨b,l,e,⟨xs,hq⟩,q⟩:=q1;subst e;cases r1 with
 |cons r rr=>
  cases rr;cases r;obtain⟨its,rv,o1⟩:=YZ I1 hq;have lt1:=QK o1;refine wt o1 λh' n hn he hs' hk=>?_
  have I2:=I1.kept (t':=s1.toks) hk
  have q1:(l:Nat)<n:=by rw[hn];exact lt1
  refine ny he #[n+1,[n+1,n],_,_,H1,rfl,I2,x4 (Xo<|.inr<|kP n) (Xo<|.inl<|dy q1)<|Xo<|.inl q1,#[#[_,he],hs'],λc hc=>?_,q]
  have hbn:s1.heap.objs.size<=c:=by
   rw[<-hn];simp only[aC,cg,or_false]at hc;rcases hc with e|e<;>rw[e]
   .exact gp n
   .exact aM n
  exact I1.fpOk hbn<|I1.hok.fresh hbn
def uc{lo:Int}{n i:Nat}(h:i<n):(Pv.ZR lo n)[i]?=aa (.int<|lo+i):=by
 unfold Pv.ZR;rw[aH,b7 h];rfl
def x5{K:am}{O:Mx}{H:Hp}{w:List D}{b:Bool}{l:aK}(h1:Side K O H w b l):WRel K O H (((Pv.ZR 0 w.length).zip w).map λp=>.tup [p.1,p.2]) (Ite K b l) where
 go:=λi ρ' S' H' f st hi=>by
  obtain⟨xs,q1,r1⟩:=h1 ρ' H' f;have hi':i<w.length:=by
   rw[ap,f6,Qc]at hi;lia
  obtain⟨x,g1,rx⟩:=r1.get<|af hi';refine#[#[xs,x,q1,g1],λu H'' #[T,x',e1,hT,eH,eu]=>?_]
  subst eH eu;have ex:=(e1 xs q1).symm.trans g1;cases ex;refine#[ZP hT,st.fresh hT,λd hd=>?_]
  have hz:((Pv.ZR 0 w.length).zip w)[i]?=aa (.int<|0+i,w[i]):=i6.mpr #[uc hi',af hi'];rw[aH,hz]at hd;cases hd;refine Y2 ZI<|Reps.cons ?_<|Reps.cons (rx.mono<|ZP hT) Reps.nil;rw[show((0:Int)+i)=i by lia]
  exact ZB _
 stop:=λρ' S' H' f st=>by
  obtain⟨xs,q1,r1⟩:=h1 ρ' H' f;refine#[xs,q1,?_];show xs.length=(((Pv.ZR 0 w.length).zip w).map λp=>Pv.V.tup [p.1,p.2]).length
  rw[ap,f6,Qc,r1.length];lia
section
variable{X:Cx}{xw:Nat->Hp->Prop}{C:Calls}{a b:Expr}{i j:E}{pos p tp:iA}{elts:List Expr}{kk:Nat}
def j6(hm:X.mg "enumerate" = ae)(ha:CA X xw C [a] [i])(hg:Gl X "enumerate")(hs:aJ [a] X.env=[(ak,cC a X.env)]) :
  CW X xw C (.Tuple elts kk tp) (.Call (.Name "enumerate" p) [a] [] pos) (.enum i):=.mk <|
 PI.imp (qF hg hm ha.h hs) λU H Q #[O,l,S,st,lr,h]=>Zbe st lr h λx S1 ρ1 H1 v st1 r h1=>by
  cases e1:Pv.YF x with
  |none=>rw[e1]at h1;exact False.elim h1
  |some wk=>
   rw[e1]at h1;obtain⟨b1,l1,rfl,s1,d1⟩:=Qs st1.hk r e1;exact#[b1,l1,rfl,s1,End.ok (rep:=WRel X.K) h1 st1<|x5 d1]
end
section
variable{X:Cx}{xw:Nat->Hp->Prop}{C:Calls}{p:iA}
def jx{n:Int}{t:pL}{x:bE}(hm:X.mg x=aa (.int n t))(hg:Gl X x:=by rfl)(hd:(x == ("__debug__" : bE))=ak:=by decide):CE X xw C (.Name x p) (.c<|.int n):=.mk <|
 PE.imp (zH (v:=.int n) hg hm #[t,rfl] hd)<|by rintro U H Q ⟨O,l,S,st,lr,h⟩;exact End.ok h st<|ZB n
end
end Sd
namespace Tq
open PySem PyProof.Rows
noncomputable def Z8:Bool->bQ->Array bQ->Nat->Nat->Nat->StateT bN nP (Option Nat):=sortPriv% PySem.Builtin.gallop
def zE(lf:Bool)(k:bQ)(ar:Array bQ)(bs n hn:Nat):Z8 lf k ar bs n hn=(do
 let bd (i:Nat):StateT bN nP (Option Bool):=do
  let x <-fL ar (bs+i)
  if lf then lt' x k else return (<-lt' k x).map (!·)
 let mut la:=0
 let mut of:=1
 let mut lo:=0
 let mut hi:=0
 let aa rt <-bd hn|return ae
 if rt then
  let mx:=n-hn
  for _ in [0:n] do
   if of>=mx then break
   let aa mo <-bd (hn+of)|return ae
   if !mo then break
   la:=of
   of:=2*of+1
  lo:=hn+la+1
  hi:=hn+pj of mx
 else
  let mx:=hn+1
  for _ in [0:n] do
   if of>=mx then break
   let aa fo <-bd (hn-of)|return ae
   if fo then break
   la:=of
   of:=2*of+1
  lo:=hn+1-pj of mx
  hi:=hn-la
 for _ in [0:n] do
  if lo>=hi then break
  let m:=lo+(hi-lo) / 2
  let aa mo <-bd m|return ae
  if mo then lo:=m+1 else hi:=m
 return aa hi):=rfl
noncomputable abbrev BT:=Option (Option Nat)×Nat×Nat
def vf{F:Nat->BT->StateT bN nP (ForInStep BT)}{n:Nat}{τ:bN}{B:Nat->Bool}{Q:BT->bN->Prop}
  (hF:∀i lo hi (Q:ForInStep BT->bN->Prop),hi<=n->(lo>=hi->Q (.done (ae,lo,hi)) τ)->(lo<hi->Q (.yield (ae,if B (lo+(hi-lo) / 2)=aj then(lo+(hi-lo) / 2+1,hi)else(lo,lo+(hi-lo) / 2))) τ)->lZ (aT prog w) A E s (F i (ae,lo,hi)) Q τ)
  (mono:∀i j,i<=j->j<n->B j=aj->B i=aj)(hq:∀r,r<=n->(∀i,i<n->(B i=aj↔i<r))->Q (ae,r,r) τ){lo hi:Nat}(h1:lo<=hi)(h2:hi<=n)(h3:∀i,i<lo->B i=aj)(h4:∀i,hi<=i->i<n->B i=ak) :
  lZ (aT prog w) A E s (lN [0:n] ((ae,lo,hi):BT) F) Q τ:=by
 have fin:∀lo,lo<=n->(∀i,i<lo->B i=aj)->(∀i,lo<=i->i<n->B i=ak)->Q (ae,lo,lo) τ:=λlo a2 a4 a5=>hq _ a2 λi hi=>by
  refine#[λhB=>?_,a4 i]
  by_cases c:i<lo
  .exact c
  .rw[a5 i (by omega) hi]at hB;cases hB
 refine cu
  (I:=λi c st'=>st'=τ/\c.1=ae/\c.2.1<=c.2.2/\c.2.2<=n/\c.2.2-c.2.1+i<=n/\(∀i,i<c.2.1->B i=aj)/\∀i,c.2.2<=i->i<n->B i=ak) ?_ ?_ #[rfl,rfl,h1,h2,by dsimp only;omega,h3,h4]
 .rintro i ⟨r,lo,hi⟩ st' hi0 hin ⟨rfl,rfl,a1,a2,a3,a4,a5⟩
  dsimp only at a1 a2 a3 a4 a5 ⊢
  refine hF i lo hi _ a2 (λc=>?_) λc=>?_
  .have e:lo=hi:=by omega
   subst e;exact fin lo a2 a4 a5
  .cases hm:B (lo+(hi-lo) / 2)with
   |true=>
    simp only[if_true];exact#[trivial,trivial,by omega,a2,by omega,λj hj=>mono j _ (by omega) (by omega) hm,a5]
   |false=>
    simp only[cG,if_false];refine#[trivial,trivial,by omega,by omega,by omega,a4,λj hj hn=>?_]
    cases hj2:B j with|false=>rfl|true=>rw[mono _ j hj hn hj2]at hm;cases hm
 .rintro ⟨r,lo,hi⟩ st' ⟨rfl,rfl,a1,a2,a3,a4,a5⟩
  dsimp only at a1 a2 a3 a4 a5 ⊢
  have e:lo=hi:=by omega
  subst e;exact fin lo a2 a4 a5
def ZbJ{lf:Bool}{k:bQ}{ar:Array bQ}{bs n hn:Nat}{τ:bN}{B:Nat->Bool}{Q:Option Nat->bN->Prop}(hh:hn<n)
  (hb:∀i,i<n->∀Q:Option Bool->bN->Prop,Q (aa<|B i) τ->lZ (aT prog w) A E s (do
   let x <-fL ar (bs+i)
   if lf then lt' x k else return (<-lt' k x).map (!·)) Q τ)
  (mono:∀i j,i<=j->j<n->B j=aj->B i=aj)(hq:∀r,r<=n->(∀i,i<n->(B i=aj↔i<r))->Q (aa r) τ):lZ (aT prog w) A E s (Z8 lf k ar bs n hn) Q τ:=by
 have no:∀{i j},i<=j->j<n->B i=ak->B j=ak:=λ{i j} h hj hi=>by
  cases q:B j with|false=>rfl|true=>rw[mono i j h hj q]at hi;cases hi
 rw[zE]
 dsimp only
 refine aG<|hb hn hh _ ?_
 dsimp only
 cases h0:B hn with
 |true=>
  rw[T9 rfl];refine aG (eJ (cu
   (I:=λi (c:BT) st'=>st'=τ/\c.1=ae/\c.2.1<c.2.2/\i<c.2.2/\hn+c.2.1<n/\B (hn+c.2.1)=aj)
   (Q:=λ(c:BT) st'=>st'=τ/\c.1=ae/\c.2.1<c.2.2/\hn+c.2.1<n/\B (hn+c.2.1)=aj/\(n<=hn+c.2.2\/B (hn+c.2.2)=ak)) ?_ ?_ #[rfl,rfl,by decide,by decide,hh,h0]) ?_)
  .rintro i ⟨r,la,f⟩ st' _ hin ⟨rfl,rfl,a1,a2,a3,a4⟩
   dsimp only at a1 a2 a3 a4 ⊢
   by_cases c:f>=n-hn
   .rw[T9 c]
    exact aS #[rfl,rfl,a1,a3,a4,.inl (by dsimp only;omega)]
   .rw[T8 c]
    refine aG<|hb _ (by omega) _ ?_
    dsimp only
    cases hm:B (hn+f)with|true=>exact aS #[rfl,rfl,by dsimp only;omega,by dsimp only;omega,by dsimp only;omega,hm]|false=>exact aS #[rfl,rfl,a1,a3,a4,.inr hm]
  .rintro ⟨r,la,f⟩ st' ⟨rfl,rfl,a1,a2,a3,a4⟩
   dsimp only at a1 a2 a3 a4 ⊢
   exact#[rfl,rfl,a1,a3,a4,.inl (by omega)]
  .rintro ⟨r,la,f⟩ st' ⟨rfl,rfl,a1,a3,a4,a5⟩
   dsimp only at a1 a3 a4 a5 ⊢
   refine aG (vf (n:=n) (B:=B) (λi lo hi Q h1 h2 h3=>by
    by_cases c:lo>=hi
    .simp only[T9 c];exact aS<|h2 c
    .simp only[T8 c]
     refine aG<|hb _ (by omega) _ ?_
     have h3:=h3 (by omega)
     cases hm:B (lo+(hi-lo) / 2)<;>(rw[hm]at h3;exact aS h3)) mono (λr hr hB=>aS<|hq r hr hB) (by omega) (by omega) (λi hi=>mono i _ (by omega) a3 a4) λi h1 h2=>?_)
   rcases a5 with a5|a5
   .omega
   .exact no (by omega) h2 a5
 |false=>
  rw[T8 (by simp)]
  refine aG (eJ (cu
   (I:=λi (c:BT) st'=>st'=τ/\c.1=ae/\c.2.1<c.2.2/\i<c.2.2/\c.2.1<=hn/\B (hn-c.2.1)=ak)
   (Q:=λ(c:BT) st'=>st'=τ/\c.1=ae/\c.2.1<c.2.2/\c.2.1<=hn/\B (hn-c.2.1)=ak/\(hn<c.2.2\/B (hn-c.2.2)=aj)) ?_ ?_ #[rfl,rfl,by decide,by decide,cZ _,h0]) ?_)
  .rintro i ⟨r,la,f⟩ st' _ hin ⟨rfl,rfl,a1,a2,a3,a4⟩
   dsimp only at a1 a2 a3 a4 ⊢
   by_cases c:f>=hn+1
   .rw[T9 c]
    exact aS #[rfl,rfl,a1,a3,a4,.inl (by dsimp only;omega)]
   .rw[T8 c]
    refine aG<|hb _ (by omega) _ ?_
    dsimp only
    cases hm:B (hn-f)with|true=>exact aS #[rfl,rfl,a1,a3,a4,.inr hm]|false=>exact aS #[rfl,rfl,by dsimp only;omega,by dsimp only;omega,by dsimp only;omega,hm]
  .rintro ⟨r,la,f⟩ st' ⟨rfl,rfl,a1,a2,a3,a4⟩
   dsimp only at a1 a2 a3 a4 ⊢
   exact#[rfl,rfl,a1,a3,a4,.inl (by omega)]
  .rintro ⟨r,la,f⟩ st' ⟨rfl,rfl,a1,a3,a4,a5⟩
   dsimp only at a1 a3 a4 a5 ⊢
   refine aG (vf (n:=n) (B:=B) (λi lo hi Q h1 h2 h3=>by
    by_cases c:lo>=hi
    .simp only[T9 c];exact aS<|h2 c
    .simp only[T8 c]
     refine aG<|hb _ (by omega) _ ?_
     have h3:=h3 (by omega)
     cases hm:B (lo+(hi-lo) / 2)<;>(rw[hm]at h3;exact aS h3)) mono (λr hr hB=>aS<|hq r hr hB) (by omega) (by omega) (λi hi=>?_) λi h1 h2=>no h1 h2 a4)
   rcases a5 with a5|a5
   .omega
   .exact mono i _ (by omega) (by omega) a5
abbrev Srt(R:B->B->Prop)(l:List B):Prop:=l.Pairwise R
abbrev lr(rk:B->Nat):B->B->Prop:=λx y=>rk x<rk y
abbrev gr(rk:B->Nat):B->B->Prop:=λx y=>rk y<rk x
structure ML(R:B->B->Prop)(T o ra rb:List B):Prop where
 perm:(o++ra++rb).Perm T
 so:Srt R o
 sa:Srt R ra
 sb:Srt R rb
 lt:∀x∈o,∀y,y∈ra\/y∈rb->R x y
def ML.as{T o xs ra rb:List B}(h:ML R T o (xs++ra) rb)(hx:∀x∈xs,∀y∈rb,R x y):ML R T (o++xs) ra rb:=by
 obtain⟨s1,s2,s3⟩:=db.mp h.sa;refine#[by simpa[bq]using h.perm,db.mpr #[h.so,s1,λx hx y hy=>h.lt x hx y<|.inl<|c9 _ hy],s2,h.sb,λx hx2 y hy=>?_]
 rcases bK.mp hx2 with z|z
 .exact h.lt x z y<|hy.imp (bB _) id
 .rcases hy with hy|hy
  .exact s3 x z y hy
  .exact hx x z y hy
def ML.swap{T o ra rb:List B}(h:ML R T o ra rb):ML R T o rb ra:=by
 refine#[List.Perm.trans ?_ h.perm,h.so,h.sb,h.sa,λx hx y hy=>h.lt x hx y hy.symm]
 rw[bq,bq];exact List.perm_append_comm.append_left _
def ML.bs(h:ML R T o ra (xs++rb))(hx:∀x∈xs,∀y∈ra,R x y):ML R T (o++xs) ra rb:=(h.swap.as hx).swap
def ML.fin{T o ra:List B}(h:ML R T o ra []):(o++ra).Perm T/\Srt R (o++ra):=by
 have h':=ML.as (ra:=[]) (by simpa using h) λx _ y hy=>by cases hy
 exact#[by simpa using h'.perm,h'.so]
def ML.ne(h:ML R T o ra rb)(hT:(T.map rk).Nodup)(hx:x∈ra)(hy:y∈rb):rk x≠rk y:=by
 have n:=((h.perm.map rk).nodup_iff).mpr hT;rw[bP,gF]at n;exact n.2.2 _ (fQ<|bB _ hx) _<|fQ hy
structure Od(prog:bt)(w:bJ)(A:b8)(E:al->aq->Prop)(s:aq)(κ:fV)(In:bQ->Prop)(rk:bQ->Nat):Prop where
 ask:∀{x y:bQ}{τ:bN}{Q:Option Bool->bN->Prop},In x->In y->kindOf τ=κ->Q (aa<|ag<|rk x<rk y) τ->lZ (aT prog w) A E s (lt' x y) Q τ
def Sg(τ st':bN):Prop:=kindOf st'=kindOf τ/\a7 st'=a7 τ/\ba st'=ba τ/\fW st'=fW τ
section
variable{In:bQ->Prop}
def Zz{Q:bQ->bN->Prop}(h:ar[i]?=aa x)(hq:Q x τ):lZ (aT prog w) A E s (fL ar i) Q τ:=by
 rw[elem'_eq,h];exact aS hq
def Xu{Q:Unit->bN->Prop}(hq:Q () τ):lZ (aT prog w) A E s (liftM (m7 t):StateT bN nP Unit) Q τ:=wpS_lift<|d4 #[rfl,hq]
theorem yt(O:Od prog w A E s κ In rk){Q:Option Nat->bN->Prop}(hk:kindOf τ=κ)(ik:In k)(hh:h0<n)(hn:i+n<=ar.size)(ia:∀x∈ar.toList,In x)
  (so:Srt (lr rk) ((ar.toList.drop i).take n))(ne:∀x∈(ar.toList.drop i).take n,rk x≠rk k)
  (hq:∀r,r<=n->(∀x∈((ar.toList.drop i).take n).take r,rk x<rk k)->(∀x∈((ar.toList.drop i).take n).drop r,rk k<rk x)->Q (aa r) τ):lZ (aT prog w) A E s (Z8 lf k ar i n h0) Q τ:=by
 generalize hl:(ar.toList.drop i).take n=l at so ne hq;have ll:l.length=n:=by rw[<-hl,bo,br,az];lia
 have at_:∀j (hj:j<n),ar[i+j]?=aa (l[j]'(by lia)):=λj hj=>by
  have:ar.toList[i+j]?=aa (l[j]'(by lia)):=by
   subst hl;rw[eK,eL];exact af _
  simpa using this
 have mem:∀j (hj:j<n),In (l[j]'(by lia)):=λj hj=>ia _ (by
  have h2:∀x∈l,x∈ar.toList:=λx hx=>by rw[<-hl]at hx;exact bU<|dg hx
  exact h2 _<|aR _)
 have hB:∀j (hj:j<n),((l[j]?).any λx=>ag<|rk x<rk k)=ag (rk (l[j]'(by lia))<rk k):=λj hj=>by
  rw[af (by lia)];rfl
 refine ZbJ (B:=λj=>(l[j]?).any λx=>ag<|rk x<rk k) hh (λj hj Q hQ=>?_) (λa b hab hb h=>?_) λr hr hr2=>hq r hr (λx hx=>?_) λx hx=>?_
 .rw[hB j hj]at hQ
  refine aG<|Zz (at_ j hj) ?_;cases lf with
  |true=>exact O.ask (mem j hj) ik hk hQ
  |false=>
   refine aG<|O.ask ik (mem j hj) hk<|aS ?_;have e:(!decide (rk k<rk (l[j]'(by lia))))=ag (rk (l[j]'(by lia))<rk k):=by
    have:=ne _<|aR (n:=j) (by lia)
    by_cases c:rk k<rk (l[j]'(by lia))
    .rw[T5 c,T4 (by lia)];rfl
    .rw[T4 c,T5 (by lia)];rfl
   show Q (aa<|!decide (rk k<rk (l[j]'(by lia)))) τ
   rw[e];exact hQ
 .rw[hB b hb]at h
  rw[hB a (by lia)]
  rcases Nat.lt_or_eq_of_le hab with c|c
  .have:=bh.mp so a b (by lia) (by lia) c
   have h:=T6 h;exact T5 (by lia)
  .subst c;exact h
 .obtain⟨j,hj,rfl⟩:=bv hx
  rw[bo]at hj;have:=(hr2 j<|by lia).mpr (by lia)
  rw[hB j<|by lia]at this
  rw[eK];exact T6 this
 .obtain⟨j,hj,rfl⟩:=bv hx
  rw[br]at hj;rw[eL];have h1:=hr2 (r+j) (by lia)
  rw[hB _<|by lia]at h1
  have h2:=ne _<|aR (n:=r+j) (by lia)
  have h3:¬rk (l[r+j]'(by lia))<rk k:=λz=>T7 (h1.mp<|T5 z) (by lia)
  lia
end
noncomputable abbrev KA:=Array bQ
noncomputable abbrev SM:=StateT bN nP
noncomputable def V5:KA->KA->SM KA:=sortPriv% PySem.Builtin.mergeLo
noncomputable def UL:Nat->SM Unit:=sortPriv% PySem.Builtin.setMinGallop
def uR(g:Nat):UL g=modify λs=>oZ (kindOf s) (a7 s) (ba s) g (fW s):=rfl
noncomputable abbrev dn(a b o:KA)(i j:Nat):KA:=o++a.extract i a.size++b.extract j b.size
noncomputable abbrev ls(a b o:KA)(i j:Nat):KA:=o++b.extract j b.size++a.extract i a.size
noncomputable abbrev T2:=Option KA×KA×Nat×Nat×Nat×Nat
noncomputable abbrev T3:=Option KA×KA×Nat×Nat×Nat×Nat×Nat
noncomputable abbrev T1:=Option KA×KA×Nat×Nat×Nat
noncomputable def F1(a b:KA)(g:Nat)(c:T2):SM (ForInStep T2):=do
 let o:=c.2.1
 let i:=c.2.2.1
 let j:=c.2.2.2.1
 let ca:=c.2.2.2.2.1
 let cb:=c.2.2.2.2.2
 let aa t <-lt' (<-fL b j) (<-fL a i)|return .done (aa<|dn a b o i j,o,i,j,ca,cb)
 if t then
  let o:=o.push<|<-fL b j
  let j:=j+1
  if j == b.size then return .done (aa<|dn a b o i j,o,i,j,0,cb+1)
  if cb+1>=g then return .done (ae,o,i,j,0,cb+1)
  return .yield (ae,o,i,j,0,cb+1)
 else
  let o:=o.push<|<-fL a i
  let i:=i+1
  if i+1 == a.size then return .done (aa<|ls a b o i j,o,i,j,ca+1,0)
  if ca+1>=g then return .done (ae,o,i,j,ca+1,0)
  return .yield (ae,o,i,j,ca+1,0)
noncomputable def G3(a b:KA)(g ca cb i:Nat)(o:KA)(j:Nat):SM (ForInStep T3):=do
 let o:=o.push<|<-fL a i
 let i:=i+1
 if i+1 == a.size then return .done (aa<|ls a b o i j,o,i,j,g,ca,cb)
 if ca<7&&cb<7 then return .done (ae,o,i,j,g,ca,cb)
 return .yield (ae,o,i,j,g,ca,cb)
noncomputable def G2(a b:KA)(g ca cb j:Nat)(o:KA)(i:Nat):SM (ForInStep T3):=do
 let o:=o.push<|<-fL b j
 let j:=j+1
 if j == b.size then return .done (aa<|dn a b o i j,o,i,j,g,ca,cb)
 let aa k <-Z8 aj (<-fL a i) b j (b.size-j) 0|return .done (aa<|dn a b o i j,o,i,j,g,ca,cb)
 if k>0 then
  let o:=o++b.extract j (j+k)
  let j:=j+k
  if j == b.size then return .done (aa<|dn a b o i j,o,i,j,g,ca,k)
  else G3 a b g ca k i o j
 else G3 a b g ca k i o j
noncomputable def G1(a b:KA)(o:KA)(i j ca cb g:Nat):SM (ForInStep T3):=do
 UL g
 let aa k <-Z8 ak (<-fL b j) a i (a.size-i) 0|return .done (aa<|dn a b o i j,o,i,j,g,ca,cb)
 if k>0 then
  let o:=o++a.extract i (i+k)
  let i:=i+k
  if i+1 == a.size then return .done (aa<|ls a b o i j,o,i,j,g,k,cb)
  else if i == a.size then return .done (aa<|dn a b o i j,o,i,j,g,k,cb)
  else G2 a b g k cb j o i
 else G2 a b g k cb j o i
noncomputable def F2(a b:KA)(c:T3):SM (ForInStep T3):=
 if c.2.2.2.2.1>1 then G1 a b c.2.1 c.2.2.1 c.2.2.2.1 c.2.2.2.2.2.1 c.2.2.2.2.2.2 (c.2.2.2.2.1-1)
 else G1 a b c.2.1 c.2.2.1 c.2.2.2.1 c.2.2.2.2.2.1 c.2.2.2.2.2.2 c.2.2.2.2.1
noncomputable def F0(a b:KA)(c:T1):SM (ForInStep T1):=do
 let d <-lN [0:a.size+b.size] ((ae,c.2.1,c.2.2.1,c.2.2.2.1,0,0):T2) λ_ d=>F1 a b c.2.2.2.2 d
 iR d.1 (λ_=>do
  m7 "list.sort.gallop"
  let e <-lN [0:a.size+b.size] ((ae,d.2.1,d.2.2.1,d.2.2.2.1,c.2.2.2.2+1,d.2.2.2.2.1,d.2.2.2.2.2):T3) λ_ d=>F2 a b d
  iR e.1 (λ_=>do
   UL (e.2.2.2.2.1+1)
   cW (.yield (ae,e.2.1,e.2.2.1,e.2.2.2.1,e.2.2.2.2.1+1))) λr=>cW<|.done (aa r,e.2.1,e.2.2.1,e.2.2.2.1,e.2.2.2.2.1)) λr=>cW<|.done (aa r,d.2.1,d.2.2.1,d.2.2.2.1,c.2.2.2.2)
def JD(a b:KA):V5 a b=(do
 m7 "list.sort.merge-lo"
 let y <-fL b 0
 if 1 == b.size then return dn a b #[y] 0 1
 if 0+1 == a.size then return ls a b #[y] 0 1
 let τ <-get
 let c <-lN [0:a.size+b.size] ((ae,#[y],0,1,gallopOf τ):T1) λ_ c=>F0 a b c
 iR c.1 (λ_=>ou "internal:list.sort.merge-bound") λr=>cW r):=rfl
def Xs(a:KA)(i:Nat):(a.extract i a.size).toList=a.toList.drop i:=by
 rw[hG,fM,<-az];exact ck (by rw[br];exact aM _)
def yp(a:KA)(i k:Nat):(a.extract i<|i+k).toList=(a.toList.drop i).take k:=by
 rw[hG,fM,Nat.add_sub_cancel_left]
def ZV{a:KA}{i:Nat}(h:i<a.size):a.toList.drop i=a[i]::a.toList.drop (i+1):=by
 rw[b9 (by simpa using h)];rfl
def td{B:Type}(l:List B)(n r:Nat):(l.drop n).take r++l.drop (n+r)=l.drop n:=by rw[<-iS,cr]
def ZD{a:KA}{i:Nat}(h:i<a.size):a[i]?=aa a[i]:=aQ h
section
variable{prog:bt}{w:bJ}{A:b8}{E:al->aq->Prop}{s:aq}{κ:fV}{In:bQ->Prop}{rk:bQ->Nat}
def Zw{B:Type}{c:Prop}[Decidable c]{x y:SM B}{Q:B->bN->Prop}{τ:bN}(h1:c->lZ (aT prog w) A E s x Q τ)(h2:¬c->lZ (aT prog w) A E s y Q τ):lZ (aT prog w) A E s (if c then x else y) Q τ:=by
 by_cases h:c
 .rw[T9 h];exact h1 h
 .rw[T8 h];exact h2 h
theorem yO(O:Od prog w A E s κ In rk){Q:Option Nat->bN->Prop}(hk:kindOf τ=κ)(ik:In k)(hi:i<ar.size)(ia:∀x∈ar.toList,In x)(so:Srt (lr rk) (ar.toList.drop i))(ne:∀x∈ar.toList.drop i,rk x≠rk k)
  (hq:∀r,i+r<=ar.size->(∀x∈(ar.toList.drop i).take r,rk x<rk k)->(∀x∈ar.toList.drop (i+r),rk k<rk x)->Q (aa r) τ):lZ (aT prog w) A E s (Z8 lf k ar i (ar.size-i) 0) Q τ:=by
 have e:(ar.toList.drop i).take (ar.size-i)=ar.toList.drop i:=ck (by rw[br,az];exact aM _)
 refine yt O hk ik (Nat.sub_pos_of_lt hi) (nk<|Nat.add_sub_cancel'<|gv hi) ia (e.symm▸so) (e.symm▸ne) λr h1 h2 h3=>?_
 rw[e]at h2 h3;rw[iS]at h3;exact hq r (by lia) h2 h3
structure Mg(κ:fV)(In:bQ->Prop)(rk:bQ->Nat)(a b:KA)(T:List bQ):Prop where
 nd:(T.map rk).Nodup
 ia:∀x∈a.toList,In x
 ib:∀x∈b.toList,In x
 last:∀y∈b.toList,∀x∈a.toList.drop (a.size-1),rk y<rk x
def Res(rk:bQ->Nat)(T:List bQ)(r:KA):Prop:=r.toList.Perm T/\Srt (lr rk) r.toList
abbrev Lo(rk:bQ->Nat)(a b:KA)(T:List bQ)(o:KA)(i j:Nat):Prop:=ML (lr rk) T o.toList (a.toList.drop i)<|b.toList.drop j
structure Iv(rk:bQ->Nat)(a b:KA)(T:List bQ)(o:KA)(i j:Nat):Prop where
 m:Lo rk a b T o i j
 hi:i+1<a.size
 hj:j<b.size
 z:o.size=i+j
variable{a b:KA}{T:List bQ}
def QU(h:Lo rk a b T o i j)(hj:(j == b.size)=aj):Res rk T (dn a b o i j):=by
 have hj:=beq_iff_eq.mp hj;unfold Lo at h;rw[hj,<-az,dZ]at h;have:=h.fin;unfold Res dn;rw[cw,cw,Xs,Xs,hj,<-az,dZ,cf];exact this
def Zab(h:Lo rk a b T o i j)(hi:(i == a.size)=aj):Res rk T (dn a b o i j):=by
 have hi:=beq_iff_eq.mp hi;unfold Lo at h;rw[hi,<-az,dZ]at h;have:=h.swap.fin;unfold Res dn;rw[cw,cw,Xs,Xs,hi,<-az,dZ,cf];exact this
theorem QD(G:Mg κ In rk a b T)(h:Lo rk a b T o i j)(hi:(i+1 == a.size)=aj):Res rk T (ls a b o i j):=by
 have hi:=beq_iff_eq.mp hi;have e:a.size-1=i:=by lia
 have:=(ML.bs (by rw[cf];exact h) λy hy x hx=>G.last y (bU hy) x<|by rw[e];exact hx).fin
 unfold Res ls;rw[cw,cw,Xs,Xs];exact this
def wV(h:Lo rk a b T o i j)(hj:j<b.size)(hy:∀x∈a.toList.drop i,rk b[j]<rk x):Lo rk a b T (o.push b[j]) i (j+1):=by
 unfold Lo at h ⊢;rw[ZV hj]at h;rw[dJ];exact ML.bs h λx hx y hy'=>by rw[aZ.mp hx];exact hy y hy'
def Zbd(h:Lo rk a b T o i j)(hi:i<a.size)(hx:∀y∈b.toList.drop j,rk a[i]<rk y):Lo rk a b T (o.push a[i]) (i+1) j:=by
 unfold Lo at h ⊢;rw[ZV hi]at h;rw[dJ];exact ML.as h λx hx' y hy'=>by rw[aZ.mp hx'];exact hx y hy'
def yQ(h:Srt (lr rk) (x::l))(hx:rk y<rk x):∀z∈x::l,rk y<rk z:=λz hz=>by
 rcases aC.mp hz with rfl|hz
 .exact hx
 .exact dE hx<|(aY.mp h).1 z hz
def VA(h:m<n)(q:¬(m+1 == n)=aj):m+1<n:=gc h λz=>q<|beq_iff_eq.mpr z
theorem Zdu(O:Od prog w A E s κ In rk)(G:Mg κ In rk a b T){g ca cb:Nat}{r0:Option KA}{τ:bN}{Q:ForInStep T2->bN->Prop}(hk:kindOf τ=κ)(I:Iv rk a b T o i j)
  (hd:∀r c,Res rk T r->Q (.done (aa r,c)) τ)(hb:∀o' i' j' ca cb,Iv rk a b T o' i' j'->o'.size=o.size+1->Q (.done (ae,o',i',j',ca,cb)) τ/\Q (.yield (ae,o',i',j',ca,cb)) τ):lZ (aT prog w) A E s (F1 a b g (r0,o,i,j,ca,cb)) Q τ:=by
 have hi:=dL I.hi;have ha:a[i]∈a.toList.drop i:=by rw[ZV hi];exact ao ..
 have hb':b[j]'I.hj∈b.toList.drop j:=by rw[ZV I.hj];exact ao ..
 have sa:=I.m.sa;have sb:=I.m.sb;rw[ZV hi]at sa;rw[ZV I.hj]at sb;refine aG<|Zz (ZD I.hj)<|aG<|Zz (ZD hi)<|aG<|O.ask (G.ib _<|bU hb') (G.ia _<|bU ha) hk ?_;by_cases c:rk (b[j]'I.hj)<rk a[i]
 .rw[T5 c]
  refine aG<|Zz (ZD I.hj) ?_;have m:=wV I.m I.hj (by rw[ZV hi];exact yQ sa c)
  have z:(o.push<|b[j]'I.hj).size=o.size+1:=dN ..;refine Zw (λq=>aS<|hd _ _<|QU m q) λq=>?_
  have h:=hb _ _ _ 0 (cb+1) #[m,I.hi,VA I.hj q,by rw[z,I.z];lia] z
  exact Zw (λ_=>aS h.1) λ_=>aS h.2
 .rw[T4 c]
  refine aG<|Zz (ZD hi) ?_;have c':=gc (eV c)<|I.m.ne G.nd ha hb';have m:=Zbd I.m hi (by rw[ZV I.hj];exact yQ sb c')
  have z:(o.push a[i]).size=o.size+1:=dN ..;refine Zw (λq=>aS<|hd _ _<|QD G m q) λq=>?_
  have h:=hb _ _ _ (ca+1) 0 #[m,VA I.hi q,I.hj,by rw[z,I.z];lia] z
  exact Zw (λ_=>aS h.1) λ_=>aS h.2
theorem Sg.trans(h:Sg s1 s2)(k:Sg s2 s3):Sg s1 s3:=#[k.1.trans h.1,k.2.1.trans h.2.1,k.2.2.1.trans h.2.2.1,k.2.2.2.trans h.2.2.2]
def Vo{Q:Unit->bN->Prop}(h:∀st',Sg τ st'->Q () st'):lZ (aT prog w) A E s (UL g) Q τ:=by
 rw[uR];exact fj<|h _ #[rfl,rfl,rfl,rfl]
section
variable(O:Od prog w A E s κ In rk)(G:Mg κ In rk a b T)
include O G
theorem Za8{g ca cb:Nat}{τ:bN}(m:Lo rk a b T o i j)(hi:i+1<a.size)(hj:j<b.size)(z:o.size=i+j)(hx:∀y∈b.toList.drop j,rk a[i]<rk y)
  (hd:∀r c,Res rk T r->Q (.done (aa r,c)) τ)(hb:∀o' i' j' g ca cb,Iv rk a b T o' i' j'->o'.size=o.size+1->Q (.done (ae,o',i',j',g,ca,cb)) τ/\Q (.yield (ae,o',i',j',g,ca,cb)) τ):lZ (aT prog w) A E s (G3 a b g ca cb i o j) Q τ:=by
 have hi':=dL hi;refine aG<|Zz (ZD hi') ?_;have m:=Zbd m hi' hx;have z':(o.push a[i]).size=o.size+1:=dN ..;refine Zw (λq=>aS<|hd _ _<|QD G m q) λq=>?_
 have h:=hb _ _ _ g ca cb #[m,VA hi q,hj,by rw[z',z];lia] z'
 exact Zw (λ_=>aS h.1) λ_=>aS h.2
theorem Za2{g ca cb:Nat}{τ:bN}(hk:kindOf τ=κ)(m:Lo rk a b T o i j)(hi:i+1<a.size)(hj:j<b.size)(z:o.size=i+j)(hy:∀x∈a.toList.drop i,rk b[j]<rk x)
  (hd:∀r c,Res rk T r->Q (.done (aa r,c)) τ)(hb:∀o' i' j' g ca cb,Iv rk a b T o' i' j'->o.size<o'.size->Q (.done (ae,o',i',j',g,ca,cb)) τ/\Q (.yield (ae,o',i',j',g,ca,cb)) τ):lZ (aT prog w) A E s (G2 a b g ca cb j o i) Q τ:=by
 have hi':=dL hi;refine aG<|Zz (ZD hj) ?_;have m:=wV m hj hy;have z':(o.push b[j]).size=o.size+1:=dN ..;refine Zw (λq=>aS<|hd _ _<|QU m q) λq=>?_
 have hj:=VA hj q;have ha:a[i]∈a.toList.drop i:=by rw[ZV hi'];exact ao ..
 refine aG<|Zz (ZD hi')<|aG<|yO O hk (G.ia _<|bU ha) hj G.ib m.sb (λy hy=>(m.ne G.nd ha hy).symm) λr hr h1 h2=>?_
 refine Zw (λ_=>?_) λc=>?_
 .have m2:Lo rk a b T (o.push b[j]++b.extract (j+1) (j+1+r)) i (j+1+r):=by
   unfold Lo;rw[cw,yp];refine ML.bs ?_ λy hy x hx=>?_
   .rw[td];exact m
   .have sa:=m.sa
    rw[ZV hi']at sa hx;exact yQ sa (h1 y hy) x hx
  have z2:(o.push b[j]++b.extract (j+1) (j+1+r)).size=o.size+1+r:=by rw[gG,z',gd];lia
  refine Zw (λq=>aS<|hd _ _<|QU m2 q) λq=>?_
  have hj2:=gc hr λz=>q<|beq_iff_eq.mpr z
  exact Za8 O G m2 hi hj2 (by rw[z2,z];lia) h2 hd λo' i' j' g ca cb I e=>hb o' i' j' g ca cb I (by lia)
 .have e:r=0:=by lia
  subst e;exact Za8 O G m hi hj (by rw[z',z];lia) h2 hd λo' i' j' g ca cb I e=>hb o' i' j' g ca cb I (by lia)
theorem ZaU{g ca cb:Nat}{τ:bN}(hk:kindOf τ=κ)(I:Iv rk a b T o i j)
  (hd:∀r c st',Sg τ st'->Res rk T r->Q (.done (aa r,c)) st')(hb:∀o' i' j' g ca cb st',Sg τ st'->Iv rk a b T o' i' j'->o.size<o'.size->Q (.done (ae,o',i',j',g,ca,cb)) st'/\Q (.yield (ae,o',i',j',g,ca,cb)) st'):lZ (aT prog w) A E s (G1 a b o i j ca cb g) Q τ:=by
 obtain⟨m,hi,hj,z⟩:=I;have hi':=dL hi;have hb':b[j]∈b.toList.drop j:=by rw[ZV hj];exact ao ..
 refine aG<|Vo λst' sg=>aG<|Zz (ZD hj)<|aG<|yO O (sg.1.trans hk) (G.ib _<|bU hb') hi' G.ia m.sa (λx hx=>m.ne G.nd hx hb') λr hr h1 h2=>?_
 refine Zw (λ_=>?_) λc=>?_
 .have m2:Lo rk a b T (o++a.extract i (i+r)) (i+r) j:=by
   unfold Lo;rw[cw,yp];refine ML.as ?_ λx hx y hy=>?_
   .rw[td];exact m
   .have sb:=m.sb
    rw[ZV hj]at sb hy;exact yQ sb (h1 x hx) y hy
  have z2:(o++a.extract i (i+r)).size=o.size+r:=by rw[gG,gd];lia
  refine Zw (λq=>aS<|hd _ _ st' sg<|QD G m2 q) λq=>Zw (λq=>aS<|hd _ _ st' sg<|Zab m2 q) λq2=>?_
  have q2:i+r≠a.size:=λz=>q2<|beq_iff_eq.mpr z
  exact Za2 O G (sg.1.trans hk) m2 (VA (by lia) q) hj (by rw[z2,z];lia) h2 (λr c=>hd r c st' sg) λo' i' j' g ca cb I e=>hb o' i' j' g ca cb st' sg I (by lia)
 .have e:r=0:=by lia
  subst e;exact Za2 O G (sg.1.trans hk) m hi hj z h2 (λr c=>hd r c st' sg) λo' i' j' g ca cb I e=>hb o' i' j' g ca cb st' sg I (by lia)
theorem Zdr{g ca cb:Nat}{r0:Option KA}{τ:bN}(hk:kindOf τ=κ)(I:Iv rk a b T o i j)
  (hd:∀r c st',Sg τ st'->Res rk T r->Q (.done (aa r,c)) st')(hb:∀o' i' j' g ca cb st',Sg τ st'->Iv rk a b T o' i' j'->o.size<o'.size->Q (.done (ae,o',i',j',g,ca,cb)) st'/\Q (.yield (ae,o',i',j',g,ca,cb)) st'):lZ (aT prog w) A E s (F2 a b (r0,o,i,j,g,ca,cb)) Q τ:=by
 exact Zw (λ_=>ZaU O G hk I hd hb) λ_=>ZaU O G hk I hd hb
theorem ZdL{Q:ForInStep T1->bN->Prop}(hk:kindOf τ=κ)(I:Iv rk a b T o i j)
  (hd:∀r c st',Sg τ st'->Res rk T r->Q (.done (aa r,c)) st')(hy:∀o' i' j' g st',Sg τ st'->Iv rk a b T o' i' j'->o.size<o'.size->Q (.yield (ae,o',i',j',g)) st'):lZ (aT prog w) A E s (F0 a b (r0,o,i,j,g)) Q τ:=by
 refine aG (eJ (cu
  (I:=λx (c:T2) st'=>st'=τ/\c.1=ae/\Iv rk a b T c.2.1 c.2.2.1 c.2.2.2.1/\o.size+x<=c.2.1.size)
  (Q:=λ(c:T2) st'=>st'=τ/\((∃r,c.1=aa r/\Res rk T r)\/c.1=ae/\Iv rk a b T c.2.1 c.2.2.1 c.2.2.2.1/\o.size<c.2.1.size)) ?_ ?_ #[rfl,rfl,I,aM _]) ?_)
 .rintro x ⟨r,o',i',j',ca,cb⟩ st' _ _ ⟨rfl,rfl,I',hz⟩
  exact Zdu O G hk I' (λr c h=>#[rfl,.inl #[r,rfl,h]]) λo2 i2 j2 ca cb I2 e=>#[#[rfl,.inr #[rfl,I2,by dsimp only at hz ⊢;lia]],rfl,rfl,I2,by dsimp only at hz ⊢;lia]
 .rintro ⟨r,o',i',j',ca,cb⟩ st' ⟨rfl,rfl,I',hz⟩
  have:=I'.hi;have:=I'.hj;have:=I'.z;lia
 .rintro ⟨r,o',i',j',ca,cb⟩ st' ⟨rfl,⟨r',rfl,h⟩|⟨rfl,I',hz⟩⟩
  .exact aS<|hd _ _ _ #[rfl,rfl,rfl,rfl] h
  .dsimp only at I' hz
   refine aG (Xu (aG (eJ (cu
    (I:=λx (c:T3) st''=>Sg st' st''/\c.1=ae/\Iv rk a b T c.2.1 c.2.2.1 c.2.2.2.1/\o'.size+x<=c.2.1.size)
    (Q:=λ(c:T3) st''=>Sg st' st''/\((∃r,c.1=aa r/\Res rk T r)\/c.1=ae/\Iv rk a b T c.2.1 c.2.2.1 c.2.2.2.1/\o'.size<c.2.1.size)) ?_ ?_ #[#[rfl,rfl,rfl,rfl],rfl,I',aM _]) ?_)))
   .rintro x ⟨r,o2,i2,j2,g,ca,cb⟩ st2 _ _ ⟨sg,rfl,I2,hz2⟩
    dsimp only at I2 hz2
    exact Zdr O G (sg.1.trans hk) I2 (λr c st3 s3 h=>#[sg.trans s3,.inl #[r,rfl,h]]) λo3 i3 j3 g ca cb st3 s3 I3 e=>#[#[sg.trans s3,.inr #[rfl,I3,by dsimp only;lia]],sg.trans s3,rfl,I3,by dsimp only;lia]
   .rintro ⟨r,o2,i2,j2,g,ca,cb⟩ st2 ⟨sg,rfl,I2,hz2⟩
    have:=I2.hi;have:=I2.hj;have:=I2.z;lia
   .rintro ⟨r,o2,i2,j2,g,ca,cb⟩ st2 ⟨sg,⟨r',rfl,h⟩|⟨rfl,I2,hz2⟩⟩
    .exact aS<|hd _ _ _ sg h
    .exact aG<|Vo λst3 s3=>aS<|hy _ _ _ _ _ (sg.trans s3) I2<|dE hz hz2
theorem GI{τ:bN}{Q:KA->bN->Prop}(hk:kindOf τ=κ)(ha:0<a.size)(hb:0<b.size)(sa:Srt (lr rk) a.toList)(sb:Srt (lr rk) b.toList)(hT:(a.toList++b.toList).Perm T)(h0:∀x∈a.toList,rk b[0]<rk x)
  (hq:∀r st',Sg τ st'->Res rk T r->Q r st'):lZ (aT prog w) A E s (V5 a b) Q τ:=by
 rw[JD];refine aG<|Xu<|aG<|Zz (ZD hb) ?_;have m0:Lo rk a b T #[] 0 0:=#[by simpa using hT,.nil,by simpa using sa,by simpa using sb,λx hx=>by cases hx]
 have m:=wV m0 hb (by simpa using h0)
 have sg0:Sg τ τ:=#[rfl,rfl,rfl,rfl];refine Zw (λq=>aS<|hq _ _ sg0<|QU m q) λq1=>Zw (λq=>aS<|hq _ _ sg0<|QD G m q) λq2=>aG (gH (aG (eJ (cu
  (I:=λx (c:T1) st''=>Sg τ st''/\c.1=ae/\Iv rk a b T c.2.1 c.2.2.1 c.2.2.2.1/\x<=c.2.1.size)
  (Q:=λ(c:T1) st''=>Sg τ st''/\∃r,c.1=aa r/\Res rk T r) ?_ ?_ #[sg0,rfl,#[m,VA ha q2,VA hb q1,rfl],cZ _]) ?_)))
 .rintro x ⟨r,o,i,j,g⟩ st2 _ _ ⟨sg,rfl,I,hz⟩
  dsimp only at I hz
  exact ZdL O G (sg.1.trans hk) I (λr c st3 s3 h=>#[sg.trans s3,r,rfl,h]) λo3 i3 j3 g st3 s3 I3 e=>#[sg.trans s3,rfl,I3,by dsimp only;lia]
 .rintro ⟨r,o,i,j,g⟩ st2 ⟨sg,rfl,I,hz⟩
  have:=I.hi;have:=I.hj;have:=I.z;lia
 .rintro ⟨r,o,i,j,g⟩ st2 ⟨sg,r',rfl,h⟩
  exact aS<|hq _ _ sg h
end
end
noncomputable def VR:KA->KA->SM KA:=sortPriv% PySem.Builtin.mergeHi
noncomputable abbrev dh(a b o:KA)(i j:Nat):KA:=a.extract 0 i++b.extract 0 j++o.reverse
noncomputable abbrev fh(a b o:KA)(i j:Nat):KA:=b.extract 0 j++a.extract 0 i++o.reverse
noncomputable abbrev U1:=Option KA×Nat×Nat×KA×Nat
noncomputable abbrev U2:=Option KA×Nat×Nat×KA×Nat×Nat
noncomputable abbrev U3:=Option KA×Nat×Nat×KA×Nat×Nat×Nat
noncomputable def H1(a b:KA)(g:Nat)(c:U2):SM (ForInStep U2):=do
 let i:=c.2.1
 let j:=c.2.2.1
 let o:=c.2.2.2.1
 let ca:=c.2.2.2.2.1
 let cb:=c.2.2.2.2.2
 let aa t <-lt' (<-fL b (j-1)) (<-fL a (i-1))|return .done (aa<|dh a b o i j,i,j,o,ca,cb)
 if t then
  let i:=i-1
  let o:=o.push<|<-fL a i
  if i == 0 then return .done (aa<|dh a b o i j,i,j,o,ca+1,0)
  if ca+1>=g then return .done (ae,i,j,o,ca+1,0)
  return .yield (ae,i,j,o,ca+1,0)
 else
  let j:=j-1
  let o:=o.push<|<-fL b j
  if j == 1 then return .done (aa<|fh a b o i j,i,j,o,0,cb+1)
  if cb+1>=g then return .done (ae,i,j,o,0,cb+1)
  return .yield (ae,i,j,o,0,cb+1)
noncomputable def K3(a b:KA)(g ca cb i:Nat)(o:KA)(j:Nat):SM (ForInStep U3):=do
 let i:=i-1
 let o:=o.push<|<-fL a i
 if i == 0 then return .done (aa<|dh a b o i j,i,j,o,g,ca,cb)
 if ca<7&&cb<7 then return .done (ae,i,j,o,g,ca,cb)
 return .yield (ae,i,j,o,g,ca,cb)
noncomputable def K2(a b:KA)(g ca cb j:Nat)(o:KA)(i:Nat):SM (ForInStep U3):=do
 let j:=j-1
 let o:=o.push<|<-fL b j
 if j == 1 then return .done (aa<|fh a b o i j,i,j,o,g,ca,cb)
 let aa t <-Z8 aj (<-fL a (i-1)) b 0 j (j-1)|return .done (aa<|dh a b o i j,i,j,o,g,ca,cb)
 if j-t>0 then
  let o:=o++(b.extract t j).reverse
  if t == 1 then return .done (aa<|fh a b o i t,i,t,o,g,ca,j-t)
  else if t == 0 then return .done (aa<|dh a b o i t,i,t,o,g,ca,j-t)
  else K3 a b g ca (j-t) i o t
 else K3 a b g ca (j-t) i o j
noncomputable def K1(a b:KA)(o:KA)(i j ca cb g:Nat):SM (ForInStep U3):=do
 UL g
 let aa t <-Z8 ak (<-fL b (j-1)) a 0 i (i-1)|return .done (aa<|dh a b o i j,i,j,o,g,ca,cb)
 if i-t>0 then
  let o:=o++(a.extract t i).reverse
  if t == 0 then return .done (aa<|dh a b o t j,t,j,o,g,i-t,cb)
  else K2 a b g (i-t) cb j o t
 else K2 a b g (i-t) cb j o i
noncomputable def H2(a b:KA)(c:U3):SM (ForInStep U3):=
 if c.2.2.2.2.1>1 then K1 a b c.2.2.2.1 c.2.1 c.2.2.1 c.2.2.2.2.2.1 c.2.2.2.2.2.2 (c.2.2.2.2.1-1)
 else K1 a b c.2.2.2.1 c.2.1 c.2.2.1 c.2.2.2.2.2.1 c.2.2.2.2.2.2 c.2.2.2.2.1
noncomputable def TT(n:Nat)(f1:Nat->U2->SM (ForInStep U2))(f2:U3->SM (ForInStep U3))(c:U1):SM (ForInStep U1):=do
 let d <-lN [0:n] ((ae,c.2.1,c.2.2.1,c.2.2.2.1,0,0):U2) λ_ d=>f1 c.2.2.2.2 d
 iR d.1 (λ_=>do
  m7 "list.sort.gallop"
  let e <-lN [0:n] ((ae,d.2.1,d.2.2.1,d.2.2.2.1,c.2.2.2.2+1,d.2.2.2.2.1,d.2.2.2.2.2):U3) λ_ d=>f2 d
  iR e.1 (λ_=>do
   UL (e.2.2.2.2.1+1)
   cW (.yield (ae,e.2.1,e.2.2.1,e.2.2.2.1,e.2.2.2.2.1+1))) λr=>cW<|.done (aa r,e.2.1,e.2.2.1,e.2.2.2.1,e.2.2.2.2.1)) λr=>cW<|.done (aa r,d.2.1,d.2.2.1,d.2.2.2.1,c.2.2.2.2)
def JL(a b:KA):VR a b=(do
 m7 "list.sort.merge-hi"
 let x <-fL a (a.size-1)
 if a.size-1 == 0 then return dh a b #[x] (a.size-1) b.size
 if b.size == 1 then return fh a b #[x] (a.size-1) b.size
 let τ <-get
 let c <-lN [0:a.size+b.size] ((ae,a.size-1,b.size,#[x],gallopOf τ):U1) λ_ c=>TT (a.size+b.size) (H1 a b) (H2 a b) c
 iR c.1 (λ_=>ou "internal:list.sort.merge-bound") λr=>cW r):=rfl
def uo{a:KA}{t i:Nat}:(a.extract t i).toList=(a.toList.take i).drop t:=by
 rw[hG,fM,List.drop_take]
noncomputable abbrev rv(a:KA)(i:Nat):List bQ:=(a.toList.take i).reverse
def Wg{a:KA}{i:Nat}(h:0<i)(h2:i<=a.size):rv a i=a[i-1]::rv a (i-1):=by
 obtain⟨k,rfl⟩:∃k,i=k+1:=#[i-1,by lia]
 show(a.toList.take<|k+1).reverse=_;rw[List.take_succ_eq_append_getElem (by rw[az];exact h2),iu];rfl
def uP{a:KA}{t i:Nat}(h:t<=i):rv a i=((a.toList.take i).drop t).reverse++rv a t:=by
 rw[<-iu];have:=cr t<|a.toList.take i;rw[o0,lR h]at this;rw[this]
section
variable{prog:bt}{w:bJ}{A:b8}{E:al->aq->Prop}{s:aq}{κ:fV}{In:bQ->Prop}{rk:bQ->Nat}{a b:KA}{T:List bQ}
abbrev Hi(rk:bQ->Nat)(a b:KA)(T:List bQ)(o:KA)(i j:Nat):Prop:=ML (gr rk) T o.toList (rv a i)<|rv b j
structure Ih(rk:bQ->Nat)(a b:KA)(T:List bQ)(o:KA)(i j:Nat):Prop where
 m:Hi rk a b T o i j
 i0:0<i
 i1:i<=a.size
 j0:1<j
 j1:j<=b.size
 z:o.size+i+j=a.size+b.size
def QJ{l:List bQ}{r:KA}(h:l.Perm T/\Srt (gr rk) l)(e:r.toList=l.reverse):Res rk T r:=by
 unfold Res;rw[e];exact#[(eM l).trans h.1,fv.mpr h.2]
def Zal(h:Hi rk a b T o i j)(hi:(i == 0)=aj):Res rk T (dh a b o i j):=by
 cases beq_iff_eq.mp hi;refine QJ (ML.fin h.swap) ?_;simp
def Zep(h:Hi rk a b T o i j)(hj:(j == 0)=aj):Res rk T (dh a b o i j):=by
 cases beq_iff_eq.mp hj;refine QJ (ML.fin h) ?_;simp
def QN(fs:∀x∈a.toList,∀y∈b.toList.take 1,rk y<rk x)(h:Hi rk a b T o i j)(hj:(j == 1)=aj):Res rk T (fh a b o i j):=by
 cases beq_iff_eq.mp hj;have:=(ML.as (by rw[cf];exact h) λx hx y hy=>fs x (dg<|dq.mp hx) y<|dq.mp hy).swap.fin
 refine QJ this ?_;simp
def uN(h:Hi rk a b T o i j)(i0:0<i)(i1:i<=a.size)(hx:∀y∈rv b j,rk y<rk a[i-1]):Hi rk a b T (o.push a[i-1]) (i-1) j:=by
 unfold Hi at h ⊢;rw[Wg i0 i1]at h;rw[dJ];exact ML.as h λx hx' y hy'=>by rw[aZ.mp hx'];exact hx y hy'
def ZaZ(h:Hi rk a b T o i j)(j0:0<j)(j1:j<=b.size)(hx:∀y∈rv a i,rk y<rk b[j-1]):Hi rk a b T (o.push b[j-1]) i (j-1):=by
 unfold Hi at h ⊢;rw[Wg j0 j1]at h;rw[dJ];exact ML.bs h λx hx' y hy'=>by rw[aZ.mp hx'];exact hx y hy'
def ya{l:List bQ}{x y:bQ}(h:Srt (gr rk) (x::l))(hx:rk x<rk y):∀z∈x::l,rk z<rk y:=λz hz=>by
 rcases aC.mp hz with rfl|hz
 .exact hx
 .exact dE ((aY.mp h).1 z hz) hx
theorem zV(O:Od prog w A E s κ In rk){lf:Bool}{k:bQ}{ar:KA}{n:Nat}{τ:bN}{Q:Option Nat->bN->Prop}(hk:kindOf τ=κ)(ik:In k)(hn:0<n)(h1:n<=ar.size)(ia:∀x∈ar.toList,In x)(so:Srt (gr rk) (rv ar n))(ne:∀x∈rv ar n,rk x≠rk k)
  (hq:∀r,r<=n->(∀x∈rv ar r,rk x<rk k)->(∀x∈((ar.toList.take n).drop r).reverse,rk k<rk x)->Q (aa r) τ):lZ (aT prog w) A E s (Z8 lf k ar 0 n<|n-1) Q τ:=by
 refine yt O hk ik (Nat.sub_lt hn Nat.one_pos) (by lia) ia (fv.mp so) (λx hx=>ne x<|dq.mpr hx) λr h2 h3 h4=>hq r h2 (λx hx=>h3 x ?_) λx hx=>h4 x<|dq.mp hx
 have hx:=dq.mp hx;rw[o0,lR h2];exact hx
def Vs{a:KA}{i:Nat}(i0:0<i)(i1:i<=a.size):a[i-1]∈rv a i:=by rw[Wg i0 i1];exact ao ..
def Ji{a:KA}{i:Nat}{x:bQ}(h:x∈rv a i):x∈a.toList:=dg<|dq.mp h
section
variable(O:Od prog w A E s κ In rk)(G:Mg κ In rk a b T)(fs:∀x∈a.toList,∀y∈b.toList.take 1,rk y<rk x)
include O G fs
theorem Zc6{g ca cb:Nat}{r0:Option KA}{τ:bN}{Q:ForInStep U2->bN->Prop}(hk:kindOf τ=κ)(I:Ih rk a b T o i j)
  (hd:∀r c,Res rk T r->Q (.done (aa r,c)) τ)(hb:∀o' i' j' ca cb,Ih rk a b T o' i' j'->o'.size=o.size+1->Q (.done (ae,i',j',o',ca,cb)) τ/\Q (.yield (ae,i',j',o',ca,cb)) τ):lZ (aT prog w) A E s (H1 a b g (r0,i,j,o,ca,cb)) Q τ:=by
 obtain⟨m,i0,i1,j0,j1,z⟩:=I;have j0':=dL j0;have hja:j-1<b.size:=by lia
 have hia:i-1<a.size:=by lia
 have ha:=Vs i0 i1;have hb':=Vs j0' j1;have sa:=m.sa;have sb:=m.sb;rw[Wg i0 i1]at sa;rw[Wg j0' j1]at sb;refine aG<|Zz (ZD hja)<|aG<|Zz (ZD hia)<|aG<|O.ask (G.ib _<|Ji hb') (G.ia _<|Ji ha) hk ?_;by_cases c:rk b[j-1]<rk a[i-1]
 .rw[T5 c]
  refine aG<|Zz (ZD hia) ?_;have m:=uN m i0 i1 (by rw[Wg j0' j1];exact ya sb c)
  have z':(o.push a[i-1]).size=o.size+1:=dN ..;refine Zw (λq=>aS<|hd _ _<|Zal m q) λq=>?_
  have q:i-1≠0:=λz=>q<|beq_iff_eq.mpr z
  have h:=hb _ _ _ (ca+1) 0 #[m,by lia,by lia,j0,j1,by lia] z'
  exact Zw (λ_=>aS h.1) λ_=>aS h.2
 .rw[T4 c]
  refine aG<|Zz (ZD hja) ?_;have c':=gc (eV c)<|m.ne G.nd ha hb';have m:=ZaZ m j0' j1 (by rw[Wg i0 i1];exact ya sa c')
  have z':(o.push b[j-1]).size=o.size+1:=dN ..;refine Zw (λq=>aS<|hd _ _<|QN fs m q) λq=>?_
  have q:j-1≠1:=λz=>q<|beq_iff_eq.mpr z
  have h:=hb _ _ _ 0 (cb+1) #[m,i0,i1,by lia,by lia,by lia] z'
  exact Zw (λ_=>aS h.1) λ_=>aS h.2
theorem ZaN{g ca cb:Nat}{τ:bN}(I:Ih rk a b T o i j)(hx:∀y∈rv b j,rk y<rk (a[i-1]'(by have:=I.i0;have:=I.i1;lia)))
  (hd:∀r c,Res rk T r->Q (.done (aa r,c)) τ)(hb:∀o' i' j' g ca cb,Ih rk a b T o' i' j'->o'.size=o.size+1->Q (.done (ae,i',j',o',g,ca,cb)) τ/\Q (.yield (ae,i',j',o',g,ca,cb)) τ):lZ (aT prog w) A E s (K3 a b g ca cb i o j) Q τ:=by
 obtain⟨m,i0,i1,j0,j1,z⟩:=I;refine aG<|Zz (ZD<|by lia) ?_
 have m:=uN m i0 i1 hx;have z':(o.push a[i-1]).size=o.size+1:=dN ..;refine Zw (λq=>aS<|hd _ _<|Zal m q) λq=>?_
 have q:i-1≠0:=λz=>q<|beq_iff_eq.mpr z
 have h:=hb _ _ _ g ca cb #[m,by lia,by lia,j0,j1,by lia] z'
 exact Zw (λ_=>aS h.1) λ_=>aS h.2
theorem Za4{g ca cb:Nat}{τ:bN}(hk:kindOf τ=κ)(I:Ih rk a b T o i j)(hy:∀y∈rv a i,rk y<rk (b[j-1]'(by have:=I.j0;have:=I.j1;lia)))
  (hd:∀r c,Res rk T r->Q (.done (aa r,c)) τ)(hb:∀o' i' j' g ca cb,Ih rk a b T o' i' j'->o.size<o'.size->Q (.done (ae,i',j',o',g,ca,cb)) τ/\Q (.yield (ae,i',j',o',g,ca,cb)) τ):lZ (aT prog w) A E s (K2 a b g ca cb j o i) Q τ:=by
 obtain⟨m,i0,i1,j0,j1,z⟩:=I;refine aG<|Zz (ZD<|by lia) ?_
 have m:=ZaZ m (dL j0) j1 hy;have z':(o.push b[j-1]).size=o.size+1:=dN ..;refine Zw (λq=>aS<|hd _ _<|QN fs m q) λq=>?_
 have q:j-1≠1:=λz=>q<|beq_iff_eq.mpr z
 have ha:=Vs i0 i1;refine aG<|Zz (ZD<|by lia)<|aG<|zV O hk (G.ia _<|Ji ha) (by lia) (by lia) G.ib m.sb (λy hy=>(m.ne G.nd ha hy).symm) λr hr h1 h2=>?_
 refine Zw (λc=>?_) λc=>?_
 .have m2:Hi rk a b T (o.push b[j-1]++(b.extract r<|j-1).reverse) i r:=by
   unfold Hi;rw[cw,mf,uo];refine ML.bs ?_ λy hy x hx=>?_
   .rw[<-uP hr];exact m
   .have sa:=m.sa
    rw[Wg i0 i1]at sa hx;exact ya sa (h2 y hy) x hx
  have z2:(o.push b[j-1]++(b.extract r<|j-1).reverse).size=o.size+1+(j-1-r):=by rw[gG,z',m4,gd];lia
  refine Zw (λq=>aS<|hd _ _<|QN fs m2 q) λq1=>Zw (λq=>aS<|hd _ _<|Zep m2 q) λq2=>?_
  have q1:r≠1:=λz=>q1<|beq_iff_eq.mpr z
  have q2:r≠0:=λz=>q2<|beq_iff_eq.mpr z
  exact ZaN O G fs #[m2,i0,i1,by lia,by lia,by lia] h1 hd λo' i' j' g ca cb I e=>hb o' i' j' g ca cb I (by lia)
 .have e:r=j-1:=by lia
  subst e;exact ZaN O G fs #[m,i0,i1,by lia,by lia,by lia] h1 hd λo' i' j' g ca cb I e=>hb o' i' j' g ca cb I (by lia)
theorem Za9{g ca cb:Nat}{τ:bN}(hk:kindOf τ=κ)(I:Ih rk a b T o i j)
  (hd:∀r c st',Sg τ st'->Res rk T r->Q (.done (aa r,c)) st')(hb:∀o' i' j' g ca cb st',Sg τ st'->Ih rk a b T o' i' j'->o.size<o'.size->Q (.done (ae,i',j',o',g,ca,cb)) st'/\Q (.yield (ae,i',j',o',g,ca,cb)) st'):lZ (aT prog w) A E s (K1 a b o i j ca cb g) Q τ:=by
 obtain⟨m,i0,i1,j0,j1,z⟩:=I;have j0':=dL j0;have hb':=Vs j0' j1;refine aG<|Vo λst' sg=>aG<|Zz (ZD<|by lia)<|aG<|zV O (sg.1.trans hk) (G.ib _<|Ji hb') i0 i1 G.ia m.sa (λx hx=>m.ne G.nd hx hb') λr hr h1 h2=>?_
 refine Zw (λc=>?_) λc=>?_
 .have m2:Hi rk a b T (o++(a.extract r i).reverse) r j:=by
   unfold Hi;rw[cw,mf,uo];refine ML.as ?_ λx hx y hy=>?_
   .rw[<-uP hr];exact m
   .have sb:=m.sb
    rw[Wg j0' j1]at sb hy;exact ya sb (h2 x hx) y hy
  have z2:(o++(a.extract r i).reverse).size=o.size+(i-r):=by rw[gG,m4,gd];lia
  refine Zw (λq=>aS<|hd _ _ st' sg<|Zal m2 q) λq=>?_
  have q:r≠0:=λz=>q<|beq_iff_eq.mpr z
  exact Za4 O G fs (sg.1.trans hk) #[m2,by lia,by lia,j0,j1,by lia] h1 (λr c=>hd r c st' sg) λo' i' j' g ca cb I e=>hb o' i' j' g ca cb st' sg I (by lia)
 .have e:r=i:=by lia
  subst e;exact Za4 O G fs (sg.1.trans hk) #[m,i0,i1,j0,j1,z] h1 (λr c=>hd r c st' sg) λo' i' j' g ca cb I e=>hb o' i' j' g ca cb st' sg I (by lia)
theorem ZdS{g ca cb:Nat}{r0:Option KA}{τ:bN}(hk:kindOf τ=κ)(I:Ih rk a b T o i j)
  (hd:∀r c st',Sg τ st'->Res rk T r->Q (.done (aa r,c)) st')(hb:∀o' i' j' g ca cb st',Sg τ st'->Ih rk a b T o' i' j'->o.size<o'.size->Q (.done (ae,i',j',o',g,ca,cb)) st'/\Q (.yield (ae,i',j',o',g,ca,cb)) st'):lZ (aT prog w) A E s (H2 a b (r0,i,j,o,g,ca,cb)) Q τ:=by
 exact Zw (λ_=>Za9 O G fs hk I hd hb) λ_=>Za9 O G fs hk I hd hb
theorem Zdh{g:Nat}{r0:Option KA}{τ:bN}{Q:ForInStep U1->bN->Prop}(hk:kindOf τ=κ)(I:Ih rk a b T o i j)
  (hd:∀r c st',Sg τ st'->Res rk T r->Q (.done (aa r,c)) st')(hy:∀o' i' j' g st',Sg τ st'->Ih rk a b T o' i' j'->o.size<o'.size->Q (.yield (ae,i',j',o',g)) st'):lZ (aT prog w) A E s (TT (a.size+b.size) (H1 a b) (H2 a b) (r0,i,j,o,g)) Q τ:=by
 refine aG (eJ (cu
  (I:=λx (c:U2) st'=>st'=τ/\c.1=ae/\Ih rk a b T c.2.2.2.1 c.2.1 c.2.2.1/\o.size+x<=c.2.2.2.1.size)
  (Q:=λ(c:U2) st'=>st'=τ/\((∃r,c.1=aa r/\Res rk T r)\/c.1=ae/\Ih rk a b T c.2.2.2.1 c.2.1 c.2.2.1/\o.size<c.2.2.2.1.size)) ?_ ?_ #[rfl,rfl,I,aM _]) ?_)
 .rintro x ⟨r,i',j',o',ca,cb⟩ st' _ _ ⟨rfl,rfl,I',hz⟩
  exact Zc6 O G fs hk I' (λr c h=>#[rfl,.inl #[r,rfl,h]]) λo2 i2 j2 ca cb I2 e=>#[#[rfl,.inr #[rfl,I2,by dsimp only at hz ⊢;lia]],rfl,rfl,I2,by dsimp only at hz ⊢;lia]
 .rintro ⟨r,i',j',o',ca,cb⟩ st' ⟨rfl,rfl,I',hz⟩
  have:=I'.i0;have:=I'.j0;have:=I'.z;lia
 .rintro ⟨r,i',j',o',ca,cb⟩ st' ⟨rfl,⟨r',rfl,h⟩|⟨rfl,I',hz⟩⟩
  .exact aS<|hd _ _ _ #[rfl,rfl,rfl,rfl] h
  .dsimp only at I' hz
   refine aG (Xu (aG (eJ (cu
    (I:=λx (c:U3) st''=>Sg st' st''/\c.1=ae/\Ih rk a b T c.2.2.2.1 c.2.1 c.2.2.1/\o'.size+x<=c.2.2.2.1.size)
    (Q:=λ(c:U3) st''=>Sg st' st''/\((∃r,c.1=aa r/\Res rk T r)\/c.1=ae/\Ih rk a b T c.2.2.2.1 c.2.1 c.2.2.1/\o'.size<c.2.2.2.1.size)) ?_ ?_ #[#[rfl,rfl,rfl,rfl],rfl,I',aM _]) ?_)))
   .rintro x ⟨r,i2,j2,o2,g,ca,cb⟩ st2 _ _ ⟨sg,rfl,I2,hz2⟩
    dsimp only at I2 hz2
    exact ZdS O G fs (sg.1.trans hk) I2 (λr c st3 s3 h=>#[sg.trans s3,.inl #[r,rfl,h]]) λo3 i3 j3 g ca cb st3 s3 I3 e=>#[#[sg.trans s3,.inr #[rfl,I3,by dsimp only;lia]],sg.trans s3,rfl,I3,by dsimp only;lia]
   .rintro ⟨r,i2,j2,o2,g,ca,cb⟩ st2 ⟨sg,rfl,I2,hz2⟩
    have:=I2.i0;have:=I2.j0;have:=I2.z;lia
   .rintro ⟨r,i2,j2,o2,g,ca,cb⟩ st2 ⟨sg,⟨r',rfl,h⟩|⟨rfl,I2,hz2⟩⟩
    .exact aS<|hd _ _ _ sg h
    .exact aG<|Vo λst3 s3=>aS<|hy _ _ _ _ _ (sg.trans s3) I2<|dE hz hz2
theorem GU{τ:bN}{Q:KA->bN->Prop}(hk:kindOf τ=κ)(ha:0<a.size)(hb:0<b.size)(sa:Srt (lr rk) a.toList)(sb:Srt (lr rk) b.toList)(hT:(a.toList++b.toList).Perm T)
  (hq:∀r st',Sg τ st'->Res rk T r->Q r st'):lZ (aT prog w) A E s (VR a b) Q τ:=by
 rw[JL];refine aG<|Xu<|aG<|Zz (ZD<|by lia) ?_
 have ea:rv a a.size=a.toList.reverse:=by show(a.toList.take a.size).reverse=_;rw[<-az,gU]
 have eb:rv b b.size=b.toList.reverse:=by show(b.toList.take b.size).reverse=_;rw[<-az,gU]
 have m0:Hi rk a b T #[] a.size b.size:=by
  unfold Hi;rw[ea,eb];exact#[by simpa using((eM _).append<|eM _).trans hT,.nil,fv.mpr sa,fv.mpr sb,λx hx=>by cases hx]
 have m:=uN m0 ha (aM _) λy hy=>G.last y (Ji hy) _ (by rw[ZV (by lia)];exact ao ..)
 have sg0:Sg τ τ:=#[rfl,rfl,rfl,rfl];refine Zw (λq=>aS<|hq _ _ sg0<|Zal m q) λq1=>Zw (λq=>aS<|hq _ _ sg0<|QN fs m q) λq2=>?_
 have q1:a.size-1≠0:=λz=>q1<|beq_iff_eq.mpr z
 have q2:b.size≠1:=λz=>q2<|beq_iff_eq.mpr z
 refine aG (gH (aG (eJ (cu
  (I:=λx (c:U1) st''=>Sg τ st''/\c.1=ae/\Ih rk a b T c.2.2.2.1 c.2.1 c.2.2.1/\x<=c.2.2.2.1.size)
  (Q:=λ(c:U1) st''=>Sg τ st''/\∃r,c.1=aa r/\Res rk T r) ?_ ?_ #[sg0,rfl,#[m,by dsimp only;lia,by dsimp only;lia,by dsimp only;lia,aM _,by show 1+(a.size-1)+b.size=_;lia],cZ _]) ?_)))
 .rintro x ⟨r,i,j,o,g⟩ st2 _ _ ⟨sg,rfl,I,hz⟩
  dsimp only at I hz
  exact Zdh O G fs (sg.1.trans hk) I (λr c st3 s3 h=>#[sg.trans s3,r,rfl,h]) λo3 i3 j3 g st3 s3 I3 e=>#[sg.trans s3,rfl,I3,by dsimp only;lia]
 .rintro ⟨r,i,j,o,g⟩ st2 ⟨sg,rfl,I,hz⟩
  have:=I.i0;have:=I.j0;have:=I.z;lia
 .rintro ⟨r,i,j,o,g⟩ st2 ⟨sg,r',rfl,h⟩
  exact aS<|hq _ _ sg h
end
end
noncomputable def Kr(rk:bQ->Nat)(xs:Array bQ)(i:Nat):Nat:=match xs[i]? with
 |some p=>rk p
 |none=>0
def Wk(h:xs[i]?=ys[j]?):Kr rk xs i=Kr rk ys j:=by unfold Kr;rw[h]
structure Sb(κ:fV)(a₀:Array bQ)(P:Array (Nat×Nat×Nat))(lo:Nat)(L:List bQ)(τ:bN):Prop where
 kd:kindOf τ=κ
 pm:(a7 τ).Perm a₀
 fl:fW τ=ae
 pd:ba τ=P
 ah:(a7 τ).toList.take lo=L
def Up(rk:bQ->Nat)(xs:Array bQ)(lo m:Nat):Prop:=∀i j,lo<=i->i<j->j<lo+m->Kr rk xs i<Kr rk xs j
def Dn(rk:bQ->Nat)(xs:Array bQ)(lo m:Nat):Prop:=∀i j,lo<=i->i<j->j<lo+m->Kr rk xs j<Kr rk xs i
section
variable{κ:fV}{a₀:Array bQ}{P:Array (Nat×Nat×Nat)}{lo:Nat}{L:List bQ}{τ:bN}{In:bQ->Prop}{rk:bQ->Nat}
theorem Sb.size(h:Sb κ a₀ P lo L τ):(a7 τ).size=a₀.size:=h.pm.size_eq
def Sb.in(h:Sb κ a₀ P lo L τ)(ia:∀x∈a₀.toList,In x):∀x∈(a7 τ).toList,In x:=λx hx=>ia x<|(bp.mp h.pm).mem_iff.mp hx
def J2(hi:i<xs.size):Kr rk xs i=rk xs[i]:=by unfold Kr;rw[aQ hi]
theorem Sb.ne(h:Sb κ a₀ P lo L τ)(nd:(a₀.toList.map rk).Nodup)(hi:i<a₀.size)(hj:j<a₀.size)(e:Kr rk (a7 τ) i=Kr rk (a7 τ) j):i=j:=by
 have hs:=h.size;have n:=(((bp.mp h.pm).map rk).nodup_iff).mpr nd;have g:∀k,k<a₀.size->((a7 τ).toList.map rk)[k]?=aa (Kr rk (a7 τ) k):=λk hk=>by
  rw[aH,aV,aQ (by lia),J2 (by lia)];rfl
 exact(eN (by rw[ap,az];lia) n).mp (by rw[g i hi,g j hj,e])
def Sb.setA(h:Sb κ a₀ P lo L τ)(hp:xs.Perm (a7 τ))(hf:∀k,k<lo->xs[k]?=(a7 τ)[k]?):Sb κ a₀ P lo L (setArr τ xs):=
 #[h.kd,hp.trans h.pm,h.fl,h.pd,by
  rw[<-h.ah];refine bY λk=>?_
  rw[cU,cU];split
  .rw[aV,aV];exact hf k ‹_›
  .rfl]
variable{prog:bt}{w:bJ}{A:b8}{E:al->aq->Prop}{s:aq}
theorem Qj(O:Od prog w A E s κ In rk)(h:Sb κ a₀ P lo L τ)(ia:∀x∈a₀.toList,In x){Q:Option Bool->bN->Prop}(hi:i<a₀.size)(hj:j<a₀.size)(q:Q (aa<|ag<|Kr rk (a7 τ) i<Kr rk (a7 τ) j) τ):lZ (aT prog w) A E s (ltAt' i j) Q τ:=by
 have hs:=h.size;have m:∀k (hk:k<(a7 τ).size),In (a7 τ)[k]:=λk hk=>h.in ia _ (by simp)
 rw[ltAt'_eq];refine aG<|gH ?_;refine aG<|Zz (ZD<|by lia)<|aG<|Zz (ZD<|by lia) ?_
 rw[J2 (by lia),J2<|by lia]at q
 exact O.ask (m i _) (m j _) h.kd q
theorem Zcr(xs:Array bQ):Up rk xs lo 1:=λi j a b c=>by lia
theorem jV(h1:1<=m)(u:Up rk xs lo m)(c:Kr rk xs (lo+m-1)<Kr rk xs (lo+m)):Up rk xs lo (m+1):=λi j a b d=>by
 by_cases z:j=lo+m
 .subst z
  by_cases y:i=lo+m-1
  .rw[y];exact c
  .exact dE (u i (lo+m-1) a (by lia)<|by lia) c
 .exact u i j a b (by lia)
theorem qz(h1:1<=m)(u:Dn rk xs lo m)(c:Kr rk xs (lo+m)<Kr rk xs (lo+m-1)):Dn rk xs lo (m+1):=λi j a b d=>by
 by_cases z:j=lo+m
 .subst z
  by_cases y:i=lo+m-1
  .rw[y];exact c
  .exact dE c<|u i (lo+m-1) a (by lia) (by lia)
 .exact u i j a b (by lia)
theorem wC(O:Od prog w A E s κ In rk)(ia:∀x∈a₀.toList,In x)(nd:(a₀.toList.map rk).Nodup){Q:AscSt->bN->Prop}
  (hF:∀i m (Q:ForInStep AscSt->bN->Prop),1<=m->m<nrem->(Kr rk (a7 τ) (lo+m)<Kr rk (a7 τ) (lo+m-1)->Q (.done (ae,m)) τ)->(¬Kr rk (a7 τ) (lo+m)<Kr rk (a7 τ) (lo+m-1)->Q (.yield (ae,m+1)) τ)->lZ (aT prog w) A E s (F i (ae,m)) Q τ)
  (hn:lo+nrem<=a₀.size)(h1:1<=n0)(hl:n0<=nrem)(hB:Sb κ a₀ P lo L τ)(u:Up rk (a7 τ) lo n0)
  (q:∀m,n0<=m->m<=nrem->Up rk (a7 τ) lo m->(m<nrem->Kr rk (a7 τ) (lo+m)<Kr rk (a7 τ) (lo+m-1))->Q (ae,m) τ):lZ (aT prog w) A E s (lN [n0:nrem] ((ae,n0):AscSt) F) Q τ:=by
 refine cu (I:=λi c st'=>st'=τ/\c=(ae,i)/\Up rk (a7 τ) lo i) ?_ ?_ #[rfl,rfl,u]
 .rintro i c st' ha hb ⟨rfl,rfl,u⟩
  refine hF i i _ (by lia) hb (λc=>q i ha (by lia) u λ_=>c) λc=>#[rfl,rfl,jV (by lia) u ?_]
  have:Kr rk (a7 st') (lo+i-1)≠Kr rk (a7 st') (lo+i):=λe=>by
   have:=hB.ne nd (by lia) (by lia) e
   lia
  lia
 .rintro c st' ⟨rfl,rfl,u⟩
  have e:max n0 nrem=nrem:=by lia
  rw[e]at u ⊢;exact q nrem hl (aM _) u λz=>T7 z<|bu _
theorem uS(O:Od prog w A E s κ In rk)(ia:∀x∈a₀.toList,In x)(nd:(a₀.toList.map rk).Nodup){Q:Option Nat->bN->Prop}(hn:lo+nrem<=a₀.size)(h1:1<=nrem)(hB:Sb κ a₀ P lo L τ)
  (q:∀m st',Sb κ a₀ P lo L st'->1<=m->m<=nrem->Up rk (a7 st') lo m->Q (aa m) st'):lZ (aT prog w) A E s (countRun' lo nrem) Q τ:=by
 rw[countRun'_eq];refine aG<|wC O ia nd (λi m Q a b k1 k2=>?_) hn (aM _) h1 hB (Zcr _) λm m1 m2 u c=>?_
 .refine aG (Qj O hB ia (by lia) (by lia) ?_)
  dsimp only
  split
  .exact aS<|k1<|T6 ‹_›
  .exact aS<|k2 λz=>‹¬_› (T5 z)
 dsimp only
 by_cases e:m=nrem
 .rw[T9 (by simpa using e)]
  exact aS<|q m τ hB m1 m2 u
 rw[T8 (by simpa using e)]
 by_cases c1:m>1
 .rw[T9 c1]
  refine aG<|Qj O hB ia (by lia) (by lia) ?_
  dsimp only
  rw[T9<|T5<|u lo (lo+m-1) (aM _) (by lia) (by lia)]
  exact aS<|q m τ hB m1 m2 u
 rw[T8 c1];obtain rfl:m=1:=by lia
 refine aG<|Xu ?_;have nl:∀i j,i<a₀.size->j<a₀.size->i≠j->¬Kr rk (a7 τ) i<Kr rk (a7 τ) j->Kr rk (a7 τ) j<Kr rk (a7 τ) i:=λi j hi hj ne c=>by
  have:Kr rk (a7 τ) i≠Kr rk (a7 τ) j:=λe=>ne<|hB.ne nd hi hj e
  lia
 have d2:Dn rk (a7 τ) lo 2:=λi j a b d=>by
  obtain⟨rfl,rfl⟩:i=lo/\j=lo+1:=by lia
  exact c (by lia)
 refine aG<|eJ (cu (I:=λi c st'=>st'=τ/\c=(ae,i,0)/\Dn rk (a7 τ) lo i) (Q:=λc st'=>st'=τ/\∃i,c=(ae,i,0)/\2<=i/\i<=nrem/\Dn rk (a7 τ) lo i) ?_ ?_ #[rfl,rfl,d2]) ?_
 .rintro i c st' ha hb ⟨rfl,rfl,u⟩
  dsimp only
  refine aG<|Qj O hB ia (by lia) (by lia) ?_
  dsimp only
  split
  .rw[T8<|bu 0]
   exact aS #[rfl,rfl,qz (by lia) u<|T6 ‹_›]
  .refine aG (Qj O hB ia (by lia) (by lia) ?_)
   dsimp only
   rw[T9<|T5<|nl (lo+i) (lo+i-1) (by lia) (by lia) (by lia) λz=>‹¬_› (T5 z)]
   exact aS #[rfl,i,rfl,by lia,by lia,u]
 .rintro c st' ⟨rfl,rfl,u⟩
  have e:max (1+1) nrem=nrem:=by lia
  rw[e]at u ⊢;exact#[rfl,nrem,rfl,by lia,aM _,u]
 .rintro c st' ⟨rfl,i,rfl,h2,hi,u⟩
  dsimp only
  rw[T8<|bu 0];refine aG<|wpS_reverse ?_;have hs:=hB.size;have gm:=λk=>getElem?_mirror_all (xs:=a7 st') (i:=lo) (j:=lo+i) (by lia) k
  have hB2:=hB.setA (mirror_perm ..) λk hk=>by
   rw[gm k,T8 (by lia)]
  have u2:Up rk (mirror (a7 st') lo (lo+i)<|(lo+i-lo) / 2) lo i:=λa b h1 h2 h3=>by
   have e:∀k,lo<=k->k<lo+i->Kr rk (mirror (a7 st') lo (lo+i)<|(lo+i-lo) / 2) k=Kr rk (a7 st') (lo+(lo+i-1-k)):=λk ka kb=>Wk (by rw[gm k,T9 #[ka,kb]];congr 1;lia)
   rw[e a h1 (by lia),e b (by lia) h3]
   exact u _ _ (by lia) (by lia) (by lia)
  refine aG<|wC O ia nd (λi m Q a b k1 k2=>?_) hn (by lia) hi hB2 u2 λm m1 m2 u c=>?_
  .refine aG (Qj O hB2 ia (by dsimp only;lia) (by dsimp only;lia) ?_)
   dsimp only
   split
   .exact aS<|k1<|T6 ‹_›
   .exact aS<|k2 λz=>‹¬_› (T5 z)
  .exact aS<|q m _ hB2 (by lia) m2 u
theorem Zak(O:Od prog w A E s κ In rk)(ia:∀x∈a₀.toList,In x)(nd:(a₀.toList.map rk).Nodup){Q:Bool->bN->Prop}(hn:lo+n<=a₀.size)(h1:1<=ok)(hok:ok<=n)(hB:Sb κ a₀ P lo L τ)(u:Up rk (a7 τ) lo ok)
  (q:∀st',Sb κ a₀ P lo L st'->Up rk (a7 st') lo n->Q aj st'):lZ (aT prog w) A E s (binarySort' lo n ok) Q τ:=by
 rw[binarySort'_eq];refine aG<|eJ (cu (I:=λk c st'=>c=(ae,())/\Sb κ a₀ P lo L st'/\Up rk (a7 st') lo k) (Q:=λc st'=>c=(ae,())/\Sb κ a₀ P lo L st'/\Up rk (a7 st') lo n) ?_ ?_ #[rfl,hB,by rw[Nat.max_eq_left h1];exact u]) ?_
 .rintro k c st' ha hb ⟨rfl,B,u⟩
  have hs:=B.size;refine aG (eJ (cu (I:=λx c st2=>st2=st'/\∃l r,c=(ae,l,r)/\l<=r/\r<=k/\r-l<=k-x/\(∀i,i<l->Kr rk (a7 st') (lo+i)<Kr rk (a7 st') (lo+k))/\∀i,r<=i->i<k->Kr rk (a7 st') (lo+k)<Kr rk (a7 st') (lo+i))
   (Q:=λc st2=>st2=st'/\∃l r,c=(ae,l,r)/\l<=k/\(∀i,i<l->Kr rk (a7 st') (lo+i)<Kr rk (a7 st') (lo+k))/\∀i,l<=i->i<k->Kr rk (a7 st') (lo+k)<Kr rk (a7 st') (lo+i)) ?_ ?_ #[rfl,0,k,rfl,by lia,by lia,by lia,λi hi=>by lia,λi a b=>by lia]) ?_)
  .rintro x c st2 _ hx ⟨rfl,l,r,rfl,g1,g2,g3,g4,g5⟩
   dsimp only
   by_cases c:l>=r
   .rw[T9 c]
    exact aS #[rfl,l,r,rfl,by lia,g4,λi a b=>g5 i (by lia) b]
   .rw[T8 c]
    refine aG<|Qj O B ia (by lia) (by lia) ?_
    dsimp only
    split
    .have cm:=T6 ‹_›
     refine aS #[rfl,l,(l+r) / 2,rfl,by lia,by lia,by lia,g4,λi a b=>?_]
     by_cases y:i=(l+r) / 2
     .rw[y];exact cm
     .exact dE cm<|u _ _ (by lia) (by lia) (by lia)
    .have cm:Kr rk (a7 st2) (lo+(l+r) / 2)<Kr rk (a7 st2) (lo+k):=by
      have z:¬Kr rk (a7 st2) (lo+k)<Kr rk (a7 st2) (lo+(l+r) / 2):=λz=>‹¬_› (T5 z)
      have:Kr rk (a7 st2) (lo+k)≠Kr rk (a7 st2) (lo+(l+r) / 2):=λe=>by
       have:=B.ne nd (by lia) (by lia) e
       lia
      lia
     refine aS #[rfl,(l+r) / 2+1,r,rfl,by lia,by lia,by lia,λi a=>?_,g5]
     by_cases y:i=(l+r) / 2
     .rw[y];exact cm
     .exact dE (u _ _ (by lia) (by lia)<|by lia) cm
  .rintro c st2 ⟨rfl,l,r,rfl,g1,g2,g3,g4,g5⟩
   exact#[rfl,l,r,rfl,by lia,g4,λi a b=>g5 i (by lia) b]
  .rintro c st2 ⟨rfl,l,r,rfl,g2,g4,g5⟩
   dsimp only
   rw[moveDown'_eq];refine aG<|fj<|aS ?_;have gb:=λi=>getElem?_bubble (xs:=a7 st2) (src:=lo+k) (by lia) (lo+k-(lo+l)) (by lia) i
   have e1:lo+k-(lo+k-(lo+l))=lo+l:=by lia
   rw[e1]at gb;refine#[rfl,B.setA (bubble_perm ..) λi hi=>?_,λi j a b d=>?_]
   .rw[gb i,T8 (by lia),T8 (by lia)]
   .have e:∀i,Kr rk (bubble (a7 st2) (lo+k)<|lo+k-(lo+l)) i=if i=lo+l then Kr rk (a7 st2) (lo+k)else if lo+l<i/\i<=lo+k then Kr rk (a7 st2) (i-1)else Kr rk (a7 st2) i:=λi=>by
     have h:=gb i;split at h
     .rw[T9 ‹_›];exact Wk h
     .rw[T8 ‹_›]
      split at h
      .rw[T9 ‹_›];exact Wk h
      .rw[T8 ‹_›];exact Wk h
    rw[e i,e j];have low:∀x,lo<=x->x<lo+l->Kr rk (a7 st2) x<Kr rk (a7 st2) (lo+k):=λx a b=>by
     have:=g4 (x-lo) (by lia)
     rwa [show lo+(x-lo)=x by lia]at this
    have high:∀x,lo+l<=x->x<lo+k->Kr rk (a7 st2) (lo+k)<Kr rk (a7 st2) x:=λx a b=>by
     have:=g5 (x-lo) (by lia) (by lia)
     rwa [show lo+(x-lo)=x by lia]at this
    by_cases ci:i=lo+l
    .rw[T9 ci,T8 (by lia),T9 (by lia)]
     exact high _ (by lia) (by lia)
    .rw[T8 ci]
     by_cases cj:j=lo+l
     .rw[T9 cj,T8 (by lia)]
      exact low _ a (by lia)
     .rw[T8 cj]
      by_cases di:lo+l<i/\i<=lo+k
      .rw[T9 di,T9 (by lia)];exact u _ _ (by lia) (by lia) (by lia)
      .rw[T8 di]
       by_cases dj:lo+l<j/\j<=lo+k
       .rw[T9 dj]
        by_cases z:i=j-1
        .lia
        .exact u _ _ a (by lia) (by lia)
       .rw[T8 dj];exact u _ _ a b (by lia)
 .rintro c st' ⟨rfl,B,u⟩
  have e:max (max ok 1) n=n:=by lia
  rw[e]at u;exact#[rfl,B,u]
 .rintro c st' ⟨rfl,B,u⟩
  exact aS<|q st' B u
end
def J7(i:Nat):mergeAt' i=(do
 let t <-get
 let (aa (ia,ma,pw),aa (ib,mb,_)):=((ba t)[i]?,(ba t)[i+1]?)|unsupported "internal:list.sort.pending"
 set (gV t<|((ba t).setIfInBounds i (ia,ma+mb,pw)).eraseIdxIfInBounds<|i+1)
 let aa r <-Z8 ak (<-fL (a7 t) ib) (a7 t) ia ma 0|return ak
 let (ja,la):=(ia+r,ma-r)
 if la == 0 then return aj
 let aa lb <-Z8 aj (<-fL (a7 t) (ja+la-1)) (a7 t) ib mb (mb-1)|return ak
 if lb == 0 then return aj
 let u:=(a7 t).extract ja ib
 let v:=(a7 t).extract ib<|ib+lb
 let mg <-if la<=lb then V5 u v else VR u v
 modify λt=>setArr t<|mg.toList.zipIdx.foldl (λa (p,j)=>a.setIfInBounds (ja+j) p)<|a7 t
 return (fW<|<-get).isNone):=rfl
theorem Gg(b:Nat):∀(m:List bQ)(j:Nat)(a:Array bQ),b+j+m.length<=a.size->((m.zipIdx j).foldl (λa q=>a.setIfInBounds (b+q.2) q.1) a).toList=a.toList.take (b+j)++m++a.toList.drop (b+j+m.length)
 |[],j,a,h=>by simp
 |x::r,j,a,h=>by
  rw[aE]at h;rw[kQ,hW,Gg b r (j+1) _ (by rw[kz];lia)]
  dsimp only
  rw[fH,aE,<-kA b j 1,List.take_add_one,List.take_set_of_le<|aM _,bR (by simpa using(by lia:b+j<a.size)),List.drop_set_of_lt (by lia)]
  simp[kA,nj 1]
def Runs(rk:bQ->Nat):List (Nat×Nat)->Nat->Nat->List bQ->Prop
 |[],a,b,_=>a=b
 |(i,n)::r,a,b,l=>i=a/\1<=n/\Srt (lr rk) ((l.drop a).take n)/\Runs rk r (a+n) b l
section
theorem Runs.le:∀{r:List (Nat×Nat)}{a b:Nat}{l:List bQ},Runs rk r a b l->a+r.length<=b
 |[],a,b,l,h=>nk h
 |(i,n)::r,a,b,l,#[_,h1,_,h]=>by have:=h.le;rw[aE];lia
theorem Runs.app:∀{r q:List (Nat×Nat)}{a b:Nat}{l:List bQ},Runs rk (r++q) a b l↔∃c,Runs rk r a c l/\Runs rk q c b l
 |[],q,a,b,l=>#[λh=>#[a,rfl,h],λ#[c,h1,h2]=>by cases h1;exact h2]
 |(i,n)::r,q,a,b,l=>by
  constructor
  .rintro ⟨h1,h2,h3,h4⟩
   obtain⟨c,h5,h6⟩:=Runs.app.mp h4;exact#[c,#[h1,h2,h3,h5],h6]
  .rintro ⟨c,⟨h1,h2,h3,h4⟩,h5⟩
   exact#[h1,h2,h3,Runs.app.mpr #[c,h4,h5]]
theorem Runs.congr:∀{r:List (Nat×Nat)}{a b:Nat}{l l':List bQ},Runs rk r a b l->(∀k,a<=k->k<b->l'[k]?=l[k]?)->Runs rk r a b l'
 |[],a,b,l,l',h,_=>h
 |(i,n)::r,a,b,l,l',#[h1,h2,h3,h4],e=>by
  have:=h4.le;refine#[h1,h2,?_,h4.congr λk ha hb=>e k (by lia) hb]
  have:(l'.drop a).take n=(l.drop a).take n:=bY λk=>by
   rw[cU,cU,iT,iT];split
   .exact e _ (by lia) (by lia)
   .rfl
  rw[this];exact h3
def Q6(hx:Srt (lr rk) x)(hy:Srt (lr rk) y)(h:∀a∈x,∀b∈y,rk a<rk b):Srt (lr rk) (x++y):=db.mpr #[hx,hy,h]
structure Sc(κ:fV)(a₀:Array bQ)(τ:bN):Prop where
 kd:kindOf τ=κ
 pm:(a7 τ).Perm a₀
 fl:fW τ=ae
variable{In:bQ->Prop}
theorem zn(O:Od prog w A E s κ In rk)(ia:∀x∈a₀.toList,In x)(nd:(a₀.toList.map rk).Nodup){Q:Bool->bN->Prop}(h:Sc κ a₀ τ)(h1:(ba τ)[i]?=aa (a,na,pw))(h2:(ba τ)[i+1]?=aa (a+na,nb,qw))
  (hl:(a7 τ).toList=U++(X++(Y++Z)))(lU:U.length=a)(lX:X.length=na)(lY:Y.length=nb)(xa:1<=na)(yb:1<=nb)(sx:Srt (lr rk) X)(sy:Srt (lr rk) Y)
  (q:∀st' M,Sc κ a₀ st'->ba st'=((ba τ).setIfInBounds i (a,na+nb,pw)).eraseIdxIfInBounds (i+1)->(a7 st').toList=U++(M++Z)->M.length=na+nb->Srt (lr rk) M->Q aj st'):lZ (aT prog w) A E s (mergeAt' i) Q τ:=by
 have hp:=bp.mp h.pm;have ial:=λx hx=>ia x<|hp.mem_iff.mp hx
 have ndl:=((hp.map rk).nodup_iff).mpr nd;have hsz:(a7 τ).size=a+(na+(nb+Z.length)):=by rw[<-az,hl];simp[lU,lX,lY]
 have dX:((a7 τ).toList.drop a).take na=X:=by rw[hl,<-lU,iU,<-lX,iV]
 have dY:((a7 τ).toList.drop<|a+na).take nb=Y:=by rw[hl,<-bq,<-lU,<-lX,<-aX,iU,<-lY,iV]
 have ndXY:∀x∈X,∀y∈Y,rk x≠rk y:=λx hx y hy e=>by
  rw[hl,bP,gF,bP,gF]at ndl;exact ndl.2.1.2.2 _ (fQ hx) _ (by rw[bP];exact c9 _<|fQ hy) e
 have inX:∀x∈X,In x:=λx hx=>ial x (by rw[hl];simp[hx])
 have inY:∀y∈Y,In y:=λy hy=>ial y (by rw[hl];simp[hy])
 obtain⟨y0,Y',rfl⟩:∃y0 Y',Y=y0::Y':=by cases Y with|nil=>simp at lY;lia|cons y Y'=>exact#[y,Y',rfl]
 have e0:(a7 τ)[a+na]?=aa y0:=by
  rw[<-aV,hl,<-bq,bg (by simp;lia)]
  simp[lU,lX]
 rw[J7];refine aG<|gH ?_;rw[h1,h2]
 dsimp only
 refine aG<|fj ?_
 generalize hst:gV τ (((ba τ).setIfInBounds i (a,na+nb,pw)).eraseIdxIfInBounds<|i+1)=st1;have S1:Sc κ a₀ st1:=by rw[<-hst];exact#[h.kd,h.pm,h.fl]
 have P1:ba st1=((ba τ).setIfInBounds i (a,na+nb,pw)).eraseIdxIfInBounds (i+1):=by rw[<-hst]
 have A1:a7 st1=a7 τ:=by rw[<-hst]
 refine aG<|Zz e0<|aG<|yt O S1.kd (inY y0<|ao ..) xa (by lia) ial (by rw[dX];exact sx) (by rw[dX];exact λx hx=>ndXY x hx y0<|ao ..) λr hr r1 r2=>?_
 rw[dX]at r1 r2
 dsimp only
 have lowY:∀x∈X.take r,∀y∈y0::Y',rk x<rk y:=λx hx y hy=>by
  rcases aC.mp hy with rfl|hy
  .exact r1 x hx
  .exact dE (r1 x hx)<|(aY.mp sy).1 y hy
 by_cases c:na-r=0
 .rw[T9 (by simpa using c)]
  have:X.take r=X:=ck (by lia)
  rw[this]at lowY;exact aS<|q st1 (X++y0::Y') S1 P1 (by rw[A1,hl,bq]) (by rw[aX,lX,lY])<|Q6 sx sy lowY
 rw[T8 (by simpa using c)]
 have exl:(a7 τ)[a+r+(na-r)-1]?=X[na-1]?:=by
  rw[<-aV,hl,bg (by lia),bH (by lia)]
  congr 1;lia
 have xl:X[na-1]?=aa (X[na-1]'(by lia)):=af _
 generalize hx0:X[na-1]'(by lia)=x0 at xl
 have mx0:x0∈X:=da xl;have mx1:x0∈X.drop r:=da (i:=na-1-r) (by rw[iT];rw[<-xl];congr 1;lia)
 have maxX:∀x∈X,x=x0\/rk x<rk x0:=λx hx=>by
  obtain⟨k,hk,rfl⟩:=mh.mp hx;by_cases z:k=na-1
  .subst z;exact .inl hx0
  .right;rw[<-hx0];exact bh.mp sx k (na-1) hk (by lia) (by lia)
 refine aG<|Zz (exl.trans xl)<|aG<|yt O S1.kd (inX x0 mx0) (by lia) (by lia) ial (by rw[dY];exact sy) (by rw[dY];exact λy hy=>Ne.symm<|ndXY x0 mx0 y hy) λt ht t1 t2=>?_
 rw[dY]at t1 t2
 dsimp only
 have t0:t≠0:=λz=>by
  subst z;have a1:=r2 x0 mx1;have a2:=t2 y0<|ao ..;lia
 rw[T8 (by simpa using t0)]
 generalize hY:y0::Y'=Y at *;have eu:((a7 τ).extract (a+r)<|a+na).toList=X.drop r:=by
  have:a+na=(a+r)+(na-r):=by lia
  rw[this,yp,<-iS,hl,<-lU,iU,hJ (by lia)]
  rw[show na-r=(X.drop r).length by rw[br,lX],iV]
 have ev:((a7 τ).extract (a+na)<|a+na+t).toList=Y.take t:=by
  rw[yp,hl,<-bq,<-lU,<-lX,<-aX,iU,hU (by lia)]
 generalize hu:(a7 τ).extract (a+r) (a+na)=u at *;generalize hv:(a7 τ).extract (a+na) (a+na+t)=v at *;have ul:u.size=na-r:=by rw[<-az,eu,br,lX]
 have vl:v.size=t:=by rw[<-az,ev,bo,lY];lia
 have su:Srt (lr rk) u.toList:=by rw[eu];exact sx.sublist<|nz ..
 have sv:Srt (lr rk) v.toList:=by rw[ev];exact sy.sublist<|ke ..
 have v0:∀x∈u.toList,rk (v[0]'(by lia))<rk x:=λx hx=>by
  have:v.toList[0]?=aa y0:=by
   rw[ev,<-hY];obtain⟨t',rfl⟩:∃t',t=t'+1:=#[t-1,by lia]
   rfl
  have e:v[0]'(by lia)=y0:=by
   rw[aV,aQ<|by lia]at this
   exact ai this
  rw[e];exact r2 x (by rw[<-eu];exact hx)
 have G:Mg κ In rk u v (u.toList++v.toList):=by
  refine#[?_,λx hx=>inX x<|bU<|eu▸hx,λy hy=>inY y<|dg<|ev▸hy,λy hy x hx=>?_]
  .rw[bP,gF]
   have nx:∀{z:List bQ},Srt (lr rk) z->(z.map rk).Nodup:=λ{z} hz=>c0.mpr<|hz.imp λhab=>bx hab
   refine#[nx su,nx sv,λp hp p' hp' e=>?_]
   obtain⟨x,hx,rfl⟩:=a8.mp hp;obtain⟨y,hy,rfl⟩:=a8.mp hp';exact ndXY x (bU<|eu▸hx) y (dg<|ev▸hy) e
  .have hx:x=x0:=by
    rw[eu,ul,iS,show r+(na-r-1)=na-1 by lia,b9 (by lia),show na-1+1=X.length by lia,dZ,aZ]at hx
    rw[hx];exact hx0
   rw[hx];exact t1 y (by rw[<-ev];exact hy)
 have fin:∀r' st',Sg st1 st'->Res rk (u.toList++v.toList) r'->lZ (aT prog w) A E s (do
   modify λt=>setArr t<|r'.toList.zipIdx.foldl (λz (p,j)=>z.setIfInBounds (a+r+j) p)<|a7 t
   return (fW<|<-get).isNone) Q st':=λr' st' sg hr'=>by
  obtain⟨g1,g2,g3,g4⟩:=sg;obtain⟨k1,k2⟩:=hr';have rl:r'.toList.length=(na-r)+t:=by rw[k1.length_eq,aX,az,az,ul,vl]
  refine aG<|fj<|aG<|gH<|aS ?_;have fo:=Gg (a+r) r'.toList 0 (a7 τ) (by lia)
  have el:((r'.toList.zipIdx.foldl (λz (q:bQ×Nat)=>z.setIfInBounds (a+r+q.2) q.1)<|a7 τ).toList)=U++((X.take r++(r'.toList++Y.drop t))++Z):=by
   rw[fo,lz,hl,<-lU,List.take_append,n5,rl];have e1:U.length+r-U.length=r:=by lia
   have e2:U.length+r+(na-r+t)-U.length=na+t:=by lia
   rw[e1,e2,ck (by lia),lB (by lia),ic,hU (by lia),<-lX,n5,lB (by lia),ic,show X.length+t-X.length=t by lia,hJ (by lia)]
   simp[bq]
  have hX:X.take r++X.drop r=X:=cr ..;have hYt:Y.take t++Y.drop t=Y:=cr ..;have pM:(X.take r++(r'.toList++Y.drop t)).Perm (X++Y):=by
   rw[eu,ev]at k1;have:(X.take r++(r'.toList++Y.drop t)).Perm (X.take r++((X.drop r++Y.take t)++Y.drop t)):=(k1.append_right _).append_left _;refine this.trans<|f7 ?_;rw[bq<|X.drop r,hYt,<-bq,hX]
  rw[g4,S1.fl];refine q (setArr st'<|r'.toList.zipIdx.foldl (λz (q:bQ×Nat)=>z.setIfInBounds (a+r+q.2) q.1)<|a7 st') (X.take r++(r'.toList++Y.drop t)) #[g1.trans S1.kd,?_,g4.trans S1.fl] (g3.trans P1) (by rw[<-el,<-A1,<-g2]) (by rw[pM.length_eq,aX,lX,lY]) ?_
  .refine(bp.mpr ?_).trans h.pm
   rw[g2,A1,el,hl,<-bq X Y Z];exact(pM.append_right _).append_left _
  .have memR:∀z∈r'.toList,z∈X.drop r\/z∈Y.take t:=λz hz=>by
    have:=k1.mem_iff.mp hz;rw[eu,ev]at this;exact bK.mp this
   have sX:=db.mp<|hX.symm▸sx;have sY:=db.mp<|hYt.symm▸sy;refine Q6 sX.1 (Q6 k2 sY.2.1 λp hp y hy=>?_) λx hx z hz=>?_
   .rcases memR p hp with m|m
    .have:=t2 y hy
     rcases maxX p (bU m)with rfl|m
     .exact this
     .exact dE m this
    .exact sY.2.2 p m y hy
   .rcases bK.mp hz with m|m
    .rcases memR z m with m|m
     .exact sX.2.2 x hx z m
     .exact lowY x hx z<|dg m
    .exact lowY x hx z<|bU m
 by_cases cl:na-r<=t
 .rw[T9 cl]
  exact aG<|GI O G S1.kd (by lia) (by lia) su sv (bI _) v0 λr' st' sg hr'=>fin r' st' sg hr'
 .rw[T8 cl]
  have fs:∀x∈u.toList,∀y∈v.toList.take 1,rk y<rk x:=λx hx y hy=>by
   have e:=ZV (a:=v) (i:=0) (by lia)
   rw[iP]at e;rw[e]at hy;rw[aZ.mp hy];exact v0 x hx
  exact aG<|GU O G fs S1.kd (by lia) (by lia) su sv (bI _) λr' st' sg hr'=>fin r' st' sg hr'
end
section
variable{In:bQ->Prop}
noncomputable abbrev g2(q:Nat×Nat×Nat):Nat×Nat:=(q.1,q.2.1)
noncomputable def pl(τ:bN):List (Nat×Nat):=(ba τ).toList.map g2
def cut2{B:Type}{l:List B}{i:Nat}{x y:B}(h1:l[i]?=aa x)(h2:l[i+1]?=aa y):l=l.take i++(x::y::l.drop (i+2)):=by
 obtain⟨a,e1⟩:=a9.mp h1;obtain⟨b,e2⟩:=a9.mp h2
 conv=>lhs;rw[<-cr i l,b9 a,b9 b,e1,e2]
theorem X1(O:Od prog w A E s κ In rk)(ia:∀x∈a₀.toList,In x)(nd:(a₀.toList.map rk).Nodup){Q:Bool->bN->Prop}{i b:Nat}{R3:List (Nat×Nat)}(h:Sc κ a₀ τ)(hi:i+1<(ba τ).size)(hb:b<=a₀.size)(hr:Runs rk (pl τ++R3) 0 b (a7 τ).toList)
  (q:∀st',Sc κ a₀ st'->(ba st').size=(ba τ).size-1->Runs rk (pl st'++R3) 0 b (a7 st').toList->Q aj st'):lZ (aT prog w) A E s (mergeAt' i) Q τ:=by
 obtain⟨⟨a,na,pw⟩,h1⟩:∃x,(ba τ)[i]?=aa x:=#[_,aQ (by lia)]
 obtain⟨⟨b1,nb,qw⟩,h2⟩:∃x,(ba τ)[i+1]?=aa x:=#[_,aQ hi];have e:=cut2 (by rw[aV];exact h1) (by rw[aV];exact h2)
 generalize hA:(ba τ).toList.take i=RA at e;generalize hC:(ba τ).toList.drop (i+2)=RC at e;have lA:RA.length=i:=by rw[<-hA,bo,az];lia
 unfold pl at hr;rw[e,bP,bq]at hr;obtain⟨c,r1,r2⟩:=Runs.app.mp hr;obtain⟨z1,n1,s1,z2,n2,s2,r3⟩:=r2
 dsimp only[g2]at z1 n1 s1 z2 n2 s2 r3
 subst z1 z2;have hle:=r3.le;have hsz:(a7 τ).toList.length=a₀.size:=by rw[az];exact h.pm.size_eq
 generalize hl:(a7 τ).toList=l at *;have el:l=l.take a++((l.drop a).take na++((l.drop<|a+na).take nb++l.drop (a+na+nb))):=by
  rw[td,td,cr]
 have lU:(l.take a).length=a:=by rw[bo];lia
 refine zn O ia nd h h1 h2 (hl.trans el) lU (by rw[bo,br];lia) (by rw[bo,br];lia) n1 n2 s1 s2 λst' M S' hp' hl' lM sM=>?_
 have hpl:(ba st').toList=RA++((a,na+nb,pw)::RC):=by
  rw[hp',Array.toList_eraseIdxIfInBounds,fH,e,List.set_append_right _ _ (by lia),lA,nA]
  rw[List.eraseIdx_append_of_length_le (by lia),lA,show i+1-i=1 by lia]
  rfl
 refine q st' S' ?_ ?_
 .rw[<-az,hpl,<-az,e]
  simp
 .have at_:∀k,(k<a\/a+na+nb<=k)->(a7 st').toList[k]?=l[k]?:=λk hk=>by
   rw[hl']
   conv=>rhs;rw[el]
   rcases hk with hk|hk
   .rw[bH (by lia),bH (by lia)]
   .rw[bg (by lia),bg (by lia),bg (by lia),<-bq,bg (by simp;lia)]
    congr 1
    simp;lia
  unfold pl;rw[hpl,bP,bq];refine Runs.app.mpr #[a,r1.congr λk _ hk=>at_ k<|.inl hk,rfl,by dsimp only[g2];lia,?_,?_]
  .rw[hl',<-lM,List.drop_left' lU,iV];exact sM
  .rw[<-kA];exact r3.congr λk hk _=>at_ k<|.inr hk
theorem vn{lo n:Nat}{xs:Array bQ}(hn:lo+n<=xs.size)(u:Up rk xs lo n):Srt (lr rk) ((xs.toList.drop lo).take n):=by
 refine bh.mpr λi j hi hj hij=>?_
 rw[bo,br,az]at hi hj;have g:∀k (hk:k<((xs.toList.drop lo).take n).length),((xs.toList.drop lo).take n)[k]=xs[lo+k]'(by rw[bo,br,az]at hk;lia):=λk hk=>by
  rw[eK,eL,Array.getElem_toList]
 rw[g,g];have:=u (lo+i) (lo+j) (by lia) (by lia) (by lia)
 rw[J2 (by lia),J2<|by lia]at this
 exact this
def Qf{P:Array (Nat×Nat×Nat)}{k pw:Nat}:(P.modify k λq=>(q.1,q.2.1,pw)).toList.map g2=P.toList.map g2:=by
 refine bY λi=>?_
 rw[aH,aH,aV,aV,Array.getElem?_modify];split
 .cases P[i]?<;>rfl
 .rfl
theorem sort_ok(O:Od prog w A E s κ In rk)(ia:∀x∈a₀.toList,In x)(nd:(a₀.toList.map rk).Nodup){Q:Unit->bN->Prop}(hk:kindOf τ=κ)(ha:a7 τ=a₀)(hp:ba τ = #[])(hf:fW τ=ae)(h1:1<=a₀.size)
  (q:∀st',(a7 st').Perm a₀->fW st'=ae->Srt (lr rk) (a7 st').toList->Q () st'):lZ (aT prog w) A E s sortRuns' Q τ:=by
 rw[sortRuns'_eq];refine aG<|gH ?_;rw[ha]
 dsimp only
 have S0:Sc κ a₀ τ:=#[hk,by rw[ha],hf]
 refine aG (eJ (cu
  (I:=λx c st'=>∃lo,c=(ae,lo)/\x<=lo/\lo<=a₀.size/\Sc κ a₀ st'/\Runs rk (pl st') 0 lo (a7 st').toList)
  (Q:=λc st'=>c=(ae,a₀.size)/\Sc κ a₀ st'/\Runs rk (pl st') 0 a₀.size (a7 st').toList) ?_ ?_ #[0,rfl,aM _,cZ _,S0,by unfold pl;rw[hp];rfl]) ?_)
 .rintro x c st1 _ hx ⟨lo,rfl,g1,g2',S1,R1⟩
  dsimp only
  by_cases c:lo>=a₀.size
  .rw[T9 c]
   obtain rfl:lo=a₀.size:=by lia
   exact aS #[rfl,S1,R1]
  rw[T8 c];have B1:Sb κ a₀ (ba st1) lo ((a7 st1).toList.take lo) st1:=#[S1.kd,S1.pm,S1.fl,rfl,rfl];refine aG<|uS O ia nd (by lia) (by lia) B1 λm st2 B2 m1 m2 u2=>?_
  dsimp only
  have done:∀n st3,1<=n->lo+n<=a₀.size->Sc κ a₀ st3->Runs rk (pl st3++[(lo,n)]) 0 (lo+n) (a7 st3).toList->∃lo',((ae,lo+n):Option PUnit×Nat)=(ae,lo')/\x+1<=lo'/\lo'<=a₀.size/\Sc κ a₀ (gV st3<|(ba st3).push (lo,n,0))/\Runs rk (pl<|gV st3<|(ba st3).push (lo,n,0)) 0 lo' (a7 st3).toList:=λn st3 n1 n2 S3 R3=>
   #[lo+n,rfl,by lia,n2,#[S3.kd,S3.pm,S3.fl],by
    have:pl (gV st3<|(ba st3).push (lo,n,0))=pl st3++[(lo,n)]:=by
     show mi g2 ((ba st3).push (lo,n,0)).toList=_;rw[dJ,bP];rfl
    rw[this];exact R3]
  by_cases c2:m<oK a₀.size a₀.size 0
  .rw[T9 c2]
   refine aG<|Xu<|aG<|Zak (n:=pj (a₀.size-lo)<|oK a₀.size a₀.size 0) O ia nd (by lia) m1 (by lia) B2 u2 λst5 B u=>?_
   have n1:1<=pj (a₀.size-lo) (oK a₀.size a₀.size 0):=by lia
   have n2:lo+pj (a₀.size-lo) (oK a₀.size a₀.size 0)<=a₀.size:=by lia
   simp only[fX,cG,if_false];generalize pj (a₀.size-lo) (oK a₀.size a₀.size 0)=n at *;clear B2 u2;refine aG<|gH ?_;have S5:Sc κ a₀ st5:=#[B.kd,B.pm,B.fl];have hz:(a7 st5).size=a₀.size:=B.size;have R5:Runs rk (pl st5++[(lo,n)]) 0 (lo+n) (a7 st5).toList:=Runs.app.mpr #[lo,by
    unfold pl at R1 ⊢;rw[B.pd];refine R1.congr λk _ hk=>?_
    have e:(iI lo _)[k]?=(iI lo _)[k]?:=congrArg (λl=>l[k]?) B.ah
    rw[cU,cU,T9 hk,T9 hk]at e;exact e,rfl,n1,vn (by lia) u,rfl]
   cases hbk:(ba st5).back? with
   |none=>
    exact aG<|fj<|aS<|done n st5 n1 n2 S5 R5
   |some q5=>
    obtain⟨x1,x2,x3⟩:=q5
    dsimp only
    refine aG<|eJ (cu (I:=λ_ c st3=>c=(ae,())/\Sc κ a₀ st3/\Runs rk (pl st3++[(lo,n)]) 0 (lo+n) (a7 st3).toList) ?_ (λc st3 h=>h) #[rfl,S5,R5]) ?_
    .rintro x c st3 _ _ ⟨rfl,S3,R3⟩
     refine aG<|gH ?_;by_cases c:(ba st3).size>1
     .rw[T9 c,aQ<|show(ba st3).size-2<(ba st3).size by lia]
      dsimp only
      split
      .exact aS #[rfl,S3,R3]
      .refine aG (X1 O ia nd S3 (by lia) n2 R3 λst4 S4 _ R4=>?_)
       simp only[fX,cG,if_false];exact aS #[rfl,S4,R4]
     .rw[T8 c]
      exact aS #[rfl,S3,R3]
    .rintro c st3 ⟨rfl,S3,R3⟩
     dsimp only
     exact aG (fj (aG (fj (aS (done n (gV st3 _) n1 n2 #[S3.kd,S3.pm,S3.fl] (by
      show Runs rk (mi g2 (Array.modify _ _ _).toList++_) _ _ _;rw[Qf];exact R3))))))
  .rw[T8 c2]
   have n2:lo+m<=a₀.size:=by lia
   refine aG<|gH ?_;have S5:Sc κ a₀ st2:=#[B2.kd,B2.pm,B2.fl];have hz:(a7 st2).size=a₀.size:=B2.size;have R5:Runs rk (pl st2++[(lo,m)]) 0 (lo+m) (a7 st2).toList:=Runs.app.mpr #[lo,by
    unfold pl at R1 ⊢;rw[B2.pd];refine R1.congr λk _ hk=>?_
    have e:(iI lo _)[k]?=(iI lo _)[k]?:=congrArg (λl=>l[k]?) B2.ah
    rw[cU,cU,T9 hk,T9 hk]at e;exact e,rfl,m1,vn (by lia) u2,rfl]
   cases hbk:(ba st2).back? with
   |none=>
    exact aG<|fj<|aS<|done m st2 m1 n2 S5 R5
   |some q5=>
    obtain⟨x1,x2,x3⟩:=q5
    dsimp only
    refine aG<|eJ (cu (I:=λ_ c st3=>c=(ae,())/\Sc κ a₀ st3/\Runs rk (pl st3++[(lo,m)]) 0 (lo+m) (a7 st3).toList) ?_ (λc st3 h=>h) #[rfl,S5,R5]) ?_
    .rintro x c st3 _ _ ⟨rfl,S3,R3⟩
     refine aG<|gH ?_;by_cases c:(ba st3).size>1
     .rw[T9 c,aQ<|show(ba st3).size-2<(ba st3).size by lia]
      dsimp only
      split
      .exact aS #[rfl,S3,R3]
      .refine aG (X1 O ia nd S3 (by lia) n2 R3 λst4 S4 _ R4=>?_)
       simp only[fX,cG,if_false];exact aS #[rfl,S4,R4]
     .rw[T8 c]
      exact aS #[rfl,S3,R3]
    .rintro c st3 ⟨rfl,S3,R3⟩
     dsimp only
     exact aG (fj (aG (fj (aS (done m (gV st3 _) m1 n2 #[S3.kd,S3.pm,S3.fl] (by
      show Runs rk (mi g2 (Array.modify _ _ _).toList++_) _ _ _;rw[Qf];exact R3))))))
 .rintro c st1 ⟨lo,rfl,g1,g2',S1,R1⟩
  obtain rfl:lo=a₀.size:=by lia
  exact#[rfl,S1,R1]
 .rintro c st1 ⟨rfl,S1,R1⟩
  dsimp only
  have len1:=R1.le;refine aG (eJ (cu
   (I:=λx c st2=>c=(ae,())/\Sc κ a₀ st2/\Runs rk (pl st2) 0 a₀.size (a7 st2).toList/\(ba st2).size<=max 1 (a₀.size-x))
   (Q:=λc st2=>c=(ae,())/\Sc κ a₀ st2/\Runs rk (pl st2) 0 a₀.size (a7 st2).toList/\(ba st2).size<=1) ?_ ?_ #[rfl,S1,R1,by unfold pl at len1;rw[ap,az]at len1;lia]) ?_)
  .rintro x c st2 _ hx ⟨rfl,S2,R2,l2⟩
   refine aG<|gH ?_;by_cases c:(ba st2).size<=1
   .rw[T9 c]
    exact aS #[rfl,S2,R2,c]
   rw[T8 c];generalize hj:(if(Option.any (λx=>ag<|x<((ba st2)[(ba st2).size-2+1]?).elim 0 λx=>x.2.1)<|if(ba st2).size-2>0 then Option.map (λx=>x.2.1) (ba st2)[(ba st2).size-2-1]? else ae)=aj then(ba st2).size-2-1 else(ba st2).size-2)=j
   have hj1:j+1<(ba st2).size:=by
    have g:∀b:Bool,(if b=aj then(ba st2).size-2-1 else(ba st2).size-2)+1<(ba st2).size:=λb=>by cases b<;>simp<;>lia
    rw[<-hj];exact g _
   refine aG<|X1 (R3:=[]) O ia nd S2 hj1 (aM _) (by rw[cf];exact R2) λst3 S3 l3 R3=>?_
   rw[cf]at R3;simp only[fX,cG,if_false];exact aS #[rfl,S3,R3,by lia]
  .rintro c st2 ⟨rfl,S2,R2,l2⟩
   exact#[rfl,S2,R2,by lia]
  .rintro c st2 ⟨rfl,S2,R2,l2⟩
   dsimp only
   refine aS<|q st2 S2.pm S2.fl ?_;have hz:(a7 st2).toList.length=a₀.size:=by rw[az];exact S2.pm.size_eq
   unfold pl at R2
   match hP:(ba st2).toList,R2 with
   |[],R2=>exact T7 (show 0=a₀.size from R2) (by lia)
   |[(i,n,pw)],R2=>
    obtain⟨_,_,z,e⟩:=R2;have e:0+n=a₀.size:=e;rw[iP,ck<|by dsimp only[g2];lia]at z
    exact z
   |_::_::_,_=>rw[<-az,hP]at l2;simp at l2
end
end Tq
namespace Sq
open PySem PySem.W PyProof.Rows
structure Ord(n:Nat)(lt:Nat->Nat->Bool):Prop where
 tot:∀i j,i<n->j<n->i≠j->lt i j=ak->lt j i=aj
 asy:∀i j,i<n->j<n->lt i j=aj->lt j i=ak
 tr:∀i j k,i<n->j<n->k<n->lt i j=aj->lt j k=aj->lt i k=aj
noncomputable abbrev g(p:Array Nat)(i:Nat):Nat:=p.getD i 0
def Pm(n:Nat)(p:Array Nat):Prop:=p.Perm<|cx<|aA n
theorem Pm.size(h:Pm n p):p.size=n:=by have:=Array.Perm.size_eq h;simpa using this
def ue(h:i<p.size):p[i]?=aa (g p i):=by simp[g,h]
def Pm.lt(h:Pm n p)(hi:i<n):g p i<n:=by
 have hs:=h.size;have h1:g p i∈p.toList:=by
  have:p.toList[i]?=aa (g p i):=by rw[aV];exact ue (by lia)
  exact da this
 have h2:p.toList.Perm (aA n):=by simpa using bp.mp h
 exact aN.mp<|h2.mem_iff.mp h1
def Up(lt:Nat->Nat->Bool)(p:Array Nat)(m:Nat):Prop:=∀i j,i<j->j<m->lt (g p i) (g p j)=aj
theorem UF{B:Type}{p q:B->Bool}:∀{l:List B},(∀x∈l,p x=aj->q x=aj)->(∃x∈l,q x=aj/\p x=ak)->l.countP p<l.countP q
 |[],_,#[x,hx,_]=>by cases hx
 |y::l,h,#[x,hx,h1,h2]=>by
  have hm:=List.countP_mono_left λz hz=>h z<|ax _ hz
  rw[n6,n6];rcases aC.mp hx with rfl|hx
  .rw[h1,h2,T9 rfl,T8 aI];lia
  .have:=UF (λz hz=>h z<|ax _ hz) #[x,hx,h1,h2]
   have hy:=h y<|ao ..;cases e:p y with|false=>rw[T8 aI];lia|true=>rw[hy e,T9 rfl];lia
noncomputable def rank(n:Nat)(lt:Nat->Nat->Bool)(i:Nat):Nat:=(aA n).countP λj=>lt j i
def Vj{n:Nat}{lt:Nat->Nat->Bool}(O:Ord n lt){i j:Nat}(hi:i<n)(hj:j<n):ag (rank n lt i<rank n lt j)=lt i j:=by
 have irr:∀k,k<n->lt k k=ak:=λk hk=>by
  cases e:lt k k with|false=>rfl|true=>rw[<-e];exact O.asy k k hk hk e
 have up:=λ{a b} ha hb e=>
  UF (λx hx h=>O.tr x a b (aN.mp hx) ha hb h e) #[a,aN.mpr ha,e,irr a ha]
 cases e:lt i j with
 |true=>exact T5<|up hi hj e
 |false=>
  refine T4 λh=>?_
  by_cases z:i=j
  .subst z;exact bu _ h
  .exact Nat.lt_asymm h<|up hj hi<|O.tot i j hi hj z e
section
open Classical
noncomputable def idx(vs:List al)(v:al):Nat:=if h:∃i:Nat,vs[i]?=aa v then choose h else 0
def za(nd:vs.Nodup)(h:vs[i]?=aa v):idx vs v=i:=by
 have hx:∃i:Nat,vs[i]?=aa v:=#[i,h];unfold idx;rw[dif_pos hx];have e:=choose_spec hx;have hl:=(a9.mp e).1;exact(eN hl nd).mp<|e.trans h.symm
end
def ZbW{vs:List al}{κ:fV}{lt:Nat->Nat->Bool}(nd:vs.Nodup)(h1:1<=vs.length)(O:Ord vs.length lt)
  (ask:∀i j,i<vs.length->j<vs.length->∀(C:Bool->aq->Prop)(E:al->aq->Prop),C (lt i j) s->aW (aT prog w) A (keyLt' κ (vs.getD i bi)<|vs.getD j bi) C E s) :
  aW (aT prog w) A ((sortRuns').run<|oZ κ (vs.toArray.zip vs.toArray) #[] 7 ae) (λr s'=>s'=s/\∃p,Pm vs.length p/\Up lt p vs.length/\fW r.2=ae/\(a7 r.2).map (·.2)=cx (p.toList.map λi=>vs.getD i bi)) E s:=by
 have hz:(vs.toArray.zip vs.toArray).toList=vs.map λv=>(v,v):=by
  rw[ksk_zip];show pR vs vs=_;clear ask O h1 nd
  induction vs with|nil=>rfl|cons v l ih=>rw[cn,ih];rfl
 let rk:bQ->Nat:=λx=>rank vs.length lt<|idx vs x.1
 let In:bQ->Prop:=λx=>∃i:Nat,vs[i]?=aa x.1/\x=(x.1,x.1)
 have atI:∀{x:bQ},In x->idx vs x.1<vs.length/\vs.getD (idx vs x.1) bi=x.1:=λ{x} #[i,e,_]=>by
  rw[za nd e];exact#[(a9.mp e).1,by rw[aD,e];rfl]
 have od:Tq.Od prog w A E s κ In rk:=⟨λ{x y τ Q} ix iy hk q=>by
  obtain⟨a1,a2⟩:=atI ix;obtain⟨b1,b2⟩:=atI iy;rw[lt'_eq];refine aG<|gH ?_;rw[hk];have:=ask _ _ a1 b1 (λb s'=>s'=s/\b=lt (idx vs x.1) (idx vs y.1)) (λ_ _=>False) #[rfl,rfl]
  rw[a2,b2]at this;refine aG<|wpS_lift<|ky<|cK this (λb s' h=>?_) λ_ _ h=>h.elim
  obtain⟨rfl,rfl⟩:=h;refine#[rfl,aS ?_];rw[<-Vj O a1 b1];exact q⟩
 have ia:∀x∈(vs.toArray.zip vs.toArray).toList,In x:=λx hx=>by
  rw[hz]at hx;obtain⟨v,hv,rfl⟩:=a8.mp hx;obtain⟨i,hi,e⟩:=mh.mp hv;exact#[i,by rw[af hi,e],rfl]
 have rks:(vs.toArray.zip vs.toArray).toList.map rk=(aA vs.length).map (rank vs.length lt):=by
  rw[hz,bL];refine bY λi=>?_
  rw[aH,aH];by_cases h:i<vs.length
  .rw[b7 h,af h]
   exact congrArg (λk=>aa<|rank vs.length lt k)<|za nd<|af h
  .rw[bC (by lia),bC (by rw[be];lia)];rfl
 have ndr:((vs.toArray.zip vs.toArray).toList.map rk).Nodup:=by
  rw[rks];refine c0.mpr<|kB ?_ kS;intro a b ha hb ne e;have ha:=aN.mp ha;have hb:=aN.mp hb;have h1:=Vj O ha hb;have h2:=Vj O hb ha;rw[e,T4<|bu _]at h1 h2;exact T7 (O.tot a b ha hb ne h1.symm) (by rw[<-h2];simp)
 have sz:(vs.toArray.zip vs.toArray).size=vs.length:=by rw[<-az,hz,ap]
 refine Tq.sort_ok (Q:=λ_ st'=>∃p,Pm vs.length p/\Up lt p vs.length/\fW st'=ae/\(a7 st').map (·.2)=cx (p.toList.map λi=>vs.getD i bi)) od ia ndr rfl rfl rfl rfl (by lia) λst' pm fl so=>?_
 have pl:=bp.mp pm;have inS:=λx hx=>ia x<|pl.mem_iff.mp hx
 have pp:((a7 st').toList.map λx=>idx vs x.1).Perm (aA vs.length):=by
  refine(pl.map _).trans<|f7 ?_;rw[hz,bL];refine bY λi=>?_
  rw[aH];by_cases h:i<vs.length
  .rw[b7 h,af h]
   exact congrArg aa<|za nd<|af h
  .rw[bC (by lia),bC (by rw[be];lia)];rfl
 have sl:(a7 st').toList.length=vs.length:=by rw[pl.length_eq,hz,ap]
 refine#[cx<|(a7 st').toList.map λx=>idx vs x.1,bp.mpr pp,λi j hij hj=>?_,fl,?_]
 .have gk:∀k (hk:k<(a7 st').toList.length),g (cx<|(a7 st').toList.map λx=>idx vs x.1) k=idx vs ((a7 st').toList[k]).1:=λk hk=>by
   show((cx<|(a7 st').toList.map λx=>idx vs x.1).getD k 0)=_
   rw[dr,List.getElem?_toArray,aH,af hk];rfl
  rw[gk i (by lia),gk j (by lia)]
  have:=bh.mp so i j (by lia) (by lia) hij
  rw[<-Vj O (atI<|inS _<|aR _).1 (atI<|inS _<|aR _).1];exact T5 this
 .apply n8.mp
  rw[n9,bL];refine cy λx hx=>?_
  have hi:=inS x hx;show x.2=vs.getD (idx vs x.1) bi;rw[(atI hi).2];obtain⟨_,_,e⟩:=hi;rw[e]
open PySem.Calls
def Lat(h h':b5):Prop:=∀b o,h.get? b=aa o->h'.get? b=aa o
structure Asks(prog:bt)(w:bJ)(A:b8)(h:b5)(vs:List al)(κ:fV)(lt:Nat->Nat->Bool):Prop where
 kind:2<=vs.length->∀(s':aq)(E:al->aq->Prop)(Q:fV->aq->Prop),Lat h s'.heap->Q κ s'->aW (aT prog w) A (keyKind' vs.toArray) Q E s'
 nd:vs.Nodup
 cmp:∀i j,i<vs.length->j<vs.length->∀(s':aq)(C:Bool->aq->Prop)(E:al->aq->Prop),Lat h s'.heap->C (lt i j) s'->aW (aT prog w) A (keyLt' κ (vs.getD i bi)<|vs.getD j bi) C E s'
noncomputable def ltR(b:Bool)(n:Nat)(lt:Nat->Nat->Bool):Nat->Nat->Bool:=λi j=>if b=aj then lt (n-1-i) (n-1-j)else lt i j
def jf(O:Ord n lt):Ord n (ltR b n lt):=by
 cases b
 .exact O
 .exact#[λi j hi hj ne h=>O.tot _ _ (by lia) (by lia) (by lia) h,λi j hi hj h=>O.asy _ _ (by lia) (by lia) h,λi j k hi hj hk h1 h2=>O.tr _ _ _ (by lia) (by lia) (by lia) h1 h2]
def Ge(hi:i<vs.length):(kC b vs).getD i bi=vs.getD (if b=aj then vs.length-1-i else i) bi:=by
 cases b
 .rfl
 .show vs.reverse.getD i bi=vs.getD (vs.length-1-i) bi
  simp only[aD];rw[gQ hi]
def xA(vs:List al):(aA vs.length).map (λi=>vs.getD i bi)=vs:=by
 apply bY
 intro i;rw[aH];by_cases h:i<vs.length
 .rw[b7 h];simp[h]
 .simp[eV h]
def list_sort_rev{P:PySem.Fin->aq->Prop}(ho:s.heap.get? a=aa (fw "list" vs.toArray n))(h64:vs.length<=100000)
  (h00:∀b o,h0.get? b=aa o->b≠a/\s.heap.get? b=aa o)(O:Ord vs.length lt)(K:Asks prog w A h0 vs κ lt)
  (h:∀p,Pm vs.length p->Up (ltR b vs.length lt) p vs.length->P (.done<|.ret .none) {s with heap:=sortedHeap s.heap a vs (cx<|kC b<|p.toList.map λi=>(kC b vs).getD i bi)}) :
  aW (aT prog w) A (dv.«list.sort» #[[.ref a],[(nB "reverse",.bool b)]]) P E s:=by
 rw[iW];have ha:=aF ho;refine ab<|listItems_at ho rfl ?_;refine ab<|mJ ho rfl ?_;obtain⟨e1,ho1⟩:∃e1,(s.heap.update a<|eR λ_=>#[]).get? a=aa (fw "list" #[] e1):=#[_,get?_update_seq ho λ_=>#[]]
 refine ab<|ow ho1 rfl ?_;refine ab<|wpAny_newTuple ?_;refine ab<|mK ?_;refine b6 ?_;have ho6:(((s.heap.update a<|eR λ_=>#[]).push<|fw "tuple" vs.toArray 0).push<|fw "list" #[] 0).get? a=aa (fw "list" #[] e1):=by
  rw[gI _ _ _ (by rw[o4,kT];exact bx<|dy ha),gI _ _ _ (by rw[kT];exact bx ha)]
  exact ho1
 have lat:Lat h0 (((s.heap.update a<|eR λ_=>#[]).push<|fw "tuple" vs.toArray 0).push<|fw "list" #[] 0):=λb o e=>by
  obtain⟨nb,e⟩:=h00 b o e;exact au _<|au _ (by rw[mD _ _ _ _ nb];exact e)
 generalize hs':((s.heap.update a<|eR λ_=>#[]).push<|fw "tuple" vs.toArray 0).push (fw "list" #[] 0)=h1 at ho6 lat ⊢
 dsimp only
 have step:∀t:nP PySem.Fin,aW (aT prog w) A t P E {s with heap:=h1}->aW (aT prog w) A (if b=aj then(do let _ <-m7 "list.sort.reverse";t)else t) P E {s with heap:=h1}:=by
  intro t ht;split
  .exact ab<|d4 ht
  .exact ht
 refine step _ ?_;have hrl:=oM b vs;have fin:∀out:List al,out.length=vs.length->(∃p,Pm vs.length p/\Up (ltR b vs.length lt) p vs.length/\out=p.toList.map λi=>(kC b vs).getD i bi)->
   P (.done<|.ret .none) {s with heap:=h1.update a (eR λ_=>cx<|kC b out)}:=by
  rintro out _ ⟨p,h1',h2',rfl⟩
  subst hs';exact h p h1' h2'
 by_cases h2:vs.toArray.size<2
 .rw[T9 h2,T9 h2]
  refine ab<|aw ?_;rw[StateT.run_pure];refine ab<|aw ?_
  dsimp only
  have hz:((a7<|oZ general' (if b=aj then(vs.toArray.zip vs.toArray).reverse else vs.toArray.zip vs.toArray) #[] 7 ae).map (·.2))=cx (kC b vs):=by
   rw[kat_pairs b rfl];apply n8.mp;rw[n9,ksk_zip];exact List.map_snd_zip<|aM _
  rw[hz];refine ab<|ow ho6 rfl ?_;rw[kat_outs];refine ab<|mJ ho6 rfl ?_ (hsz2:=by rw[ay];(try rw[oM]);(try rw[oM]);rw[cq];lia)
  simp only[bne_self_eq_false,cG,if_false];refine aw<|fin (kC b vs) (oM b vs) #[cx<|aA vs.length,Array.Perm.refl _,λi j a1 a2=>by rw[ay]at h2;lia,?_]
  rw[<-hrl];exact(xA _).symm
 .rw[T8 h2,T8 h2]
  have l2:2<=vs.length:=by rw[ay]at h2;lia
  refine ab<|K.kind l2 _ _ _ lat ?_;rw[kat_pairs b rfl];have ndR:(kC b vs).Nodup:=by
   cases b
   .exact K.nd
   .exact(eM vs).nodup_iff.mpr K.nd
  refine ab (cK (ZbW ndR (by lia) (by rw[hrl];exact jf (b:=b) O) (by
    rw[hrl];intro i j hi hj C E hC;rw[Ge hi,Ge hj];cases b
    .exact K.cmp i j hi hj _ _ _ lat hC
    .exact K.cmp _ _ (by simp only[if_true];lia) (by simp only[if_true];lia) _ _ _ lat hC)) ?_ λ_ _ x=>x)
  rintro ⟨⟨⟩,st'⟩ s' ⟨rfl,p,e2,e3,hf,har⟩
  rw[hrl]at e2 e3
  dsimp only
  rw[har];have hl:(p.toList.map λi=>(kC b vs).getD i bi).length=vs.length:=by rw[ap,az,e2.size]
  refine ab<|ow ho6 rfl ?_;rw[kat_outs];refine ab<|mJ ho6 rfl ?_ (hsz2:=by rw[ay];(try rw[oM]);rw[hl,cq];lia)
  rw[hf];simp only[bne_self_eq_false,cG,if_false];exact aw<|fin _ hl #[p,e2,e3,rfl]
def UZ(a:aK):dv.«list.sort» #[[.ref a],[]]=dv.«list.sort» #[[.ref a],[(nB "reverse",.bool ak)]]:=by
 rw[PyProof.Rows.list_sort_plain,iW];rfl
def X7{Q:al->aq->Prop}(hl:s.heap.IsList l vs.toArray)(h64:vs.length<=100000)(O:Ord vs.length lt)(K:Asks prog w A.in1.in1 s.heap vs κ lt)
  (h:∀p,Pm vs.length p->Up (ltR ak vs.length lt) p vs.length->Q (.ref<|s.heap.objs.size+1) {s with heap:=sortedAll s.heap vs (cx<|kC ak<|p.toList.map λi=>(kC ak vs).getD i bi)}) :
  aW (aT prog w) A (call (.builtin "sorted") [.ref l]) Q E s:=by
 refine Calls.call_function_entry kind_sorted plain_sorted entry_sorted (args_sorted1 _) ?_;unfold dv.«sorted»;refine ab<|aw ?_;refine ab<|collect_list hl ?_ (by rw[cq];lia)
 refine ab<|mK ?_ (by rw[cq];lia)
 have hsz:((s.heap.push<|fw "list" #[] 0).update s.heap.objs.size (eR (·++vs.toArray))).objs.size=s.heap.objs.size+1:=by
  rw[kT,o4]
 have hoL:(((s.heap.push<|fw "list" #[] 0).update s.heap.objs.size (eR (·++vs.toArray))).push<|fw "list" vs.toArray 0).get? (s.heap.objs.size+1)=aa (fw "list" vs.toArray 0):=by
  rw[<-hsz];exact aL _ rfl
 rw[hsz];refine ab (b6 (cA slot_list_sort #[_,hoL,rfl] entry_list_sort (by
  rw[UZ];exact list_sort_rev hoL h64 (λb o e=>by
   have hlt:=aF e;refine#[bx<|dy hlt,?_];rw[gI _ _ _ (by rw[hsz];exact bx<|dy hlt),mD _ _ _ _<|bx hlt,gI _ _ _<|bx hlt]
   exact e) O K λp a1 a2=>#[_,rfl,aw #[_,rfl,h p a1 a2]])<|args_list_sort _))
end Sq
namespace Sd
open PySem PySem.Spec PyProof.Rows L2
open Ev (E Sm Fn Bop Cop Ty Bf Mf)
end Sd
namespace Sd
open Ev (ltI Y0 ZK)
theorem Vh:∀{x y:List Int},x≠y->ltI x y=ak->ltI y x=aj
 |[],[],h,_=>T7 rfl h
 |[],_::_,_,h=>by cases h
 |_::_,[],_,_=>rfl
 |a::x,b::y,h,e=>by
  unfold ltI at e ⊢;by_cases c:a=b
  .subst c
   rw[T9 rfl]at e ⊢;exact Vh (λz=>h<|by rw[z]) e
  .rw[T8 c]at e
   rw[T8<|Ne.symm c];have:=of_decide_eq_false e;exact T5 (by omega)
theorem Wc:∀{x y:List Int},ltI x y=aj->ltI y x=ak
 |[],[],h=>by cases h
 |[],_::_,_=>rfl
 |_::_,[],h=>by cases h
 |a::x,b::y,e=>by
  unfold ltI at e ⊢;by_cases c:a=b
  .subst c
   rw[T9 rfl]at e ⊢;exact Wc e
  .rw[T8 c]at e
   rw[T8<|Ne.symm c];have:=T6 e;exact T4 (by omega)
theorem QW:∀{x y z:List Int},ltI x y=aj->ltI y z=aj->ltI x z=aj
 |[],[],_,h,_=>by cases h
 |_::_,[],_,h,_=>by cases h
 |_,_::_,[],_,h=>by cases h
 |[],_::_,_::_,_,_=>rfl
 |a::x,b::y,c::z,e,f=>by
  unfold ltI at e f ⊢;by_cases h1:a=b
  .subst h1
   rw[T9 rfl]at e;by_cases h2:a=c
   .subst h2
    rw[T9 rfl]at f ⊢;exact QW e f
   .rw[T8 h2]at f ⊢;exact f
  .rw[T8 h1]at e
   have e':=T6 e;by_cases h2:b=c
   .subst h2
    rw[T8 h1];exact e
   .rw[T8 h2]at f
    have f':=T6 f;rw[T8 (by omega)]
    exact T5 (by omega)
theorem WN(x:List Int):∀l:List (List Int),(Y0 x l).Perm (x::l)
 |[]=>bI _
 |y::r=>by
  unfold Y0;split
  .exact bI _
  .exact((WN x r).cons y).trans<|iX x y r
theorem XY:∀l:List (List Int),(ZK l).Perm l
 |[]=>bI _
 |x::r=>(WN x<|ZK r).trans<|(XY r).cons x
theorem W0(x:List Int):∀{l:List (List Int)},(∀y∈l,x≠y)->l.Pairwise (λa b=>ltI a b=aj)->(Y0 x l).Pairwise (λa b=>ltI a b=aj)
 |[],_,_=>by exact eZ ..
 |y::r,hn,h=>by
  rw[aY]at h;unfold Y0;split
  .rename_i c
   rw[aY,aY];refine#[λz hz=>?_,h]
   rcases aC.mp hz with rfl|hz
   .exact c
   .exact QW c<|h.1 z hz
  .rename_i c
   rw[aY];refine#[λz hz=>?_,W0 x (λy hy=>hn y<|ax _ hy) h.2]
   rcases aC.mp ((WN x r).mem_iff.mp hz)with rfl|hz
   .exact Vh (hn y<|ao ..) (by simpa using c)
   .exact h.1 z hz
theorem X5:∀{l:List (List Int)},l.Nodup->(ZK l).Pairwise (λa b=>ltI a b=aj)
 |[],_=>fA
 |x::r,h=>by
  rw[dA]at h;exact W0 x (λy hy e=>h.1<|by rw[e];exact(XY r).mem_iff.mp hy)<|X5 h.2
theorem WV:∀{a b:List (List Int)},a.Perm b->a.Pairwise (λx y=>ltI x y=aj)->b.Pairwise (λx y=>ltI x y=aj)->a=b
 |[],b,p,_,_=>(oa p)
 |x::a,[],p,_,_=>by have:=p.length_eq;simp at this
 |x::a,y::b,p,ha,hb=>by
  rw[aY]at ha hb;have e:x=y:=by
   rcases aC.mp (p.mem_iff.mp<|ao ..)with h|h
   .exact h
   .rcases aC.mp (p.mem_iff.mpr (ao))with h2|h2
    .exact h2.symm
    .have z1:=hb.1 x h
     have z2:=ha.1 y h2;rw[Wc z1]at z2;cases z2
  subst e;rw[WV (o5 x |>.mp p) ha.2 hb.2]
open PySem PySem.Spec PyProof.Rows L2
open Ev (E Sm Fn Bop Cop Ty Bf Mf Z9 XX Zr ltP ZF)
noncomputable def UC(fin:Bool):List Int->List Int->Bool
 |[],_=>fin
 |_::_,[]=>fin
 |a::x,b::y=>if a=b then UC fin x y else ag (a<b)
theorem QX:∀(x y:List Int),UC (ag<|x.length<y.length) x y=ltI x y
 |[],[]=>rfl
 |[],_::_=>by unfold UC ltI;simp
 |_::_,[]=>by unfold UC ltI;simp
 |a::x,b::y=>by
  unfold UC ltI;have:ag ((a::x).length<(b::y).length)=ag (x.length<y.length):=by simp
  rw[this,QX x y]
theorem JY{C:Bool->aq->Prop}:∀{x y:List Int}{u v:List al}{i:Nat},Vals (x.map V.int) u->Vals (y.map V.int) v->C (UC fin x y) s->o6 prog w A b fin C (u.zip v) i s
 |[],_,_,_,_,.nil,_,h=>by rw[gJ];exact iq h
 |_::_,[],_,_,_,_,.nil,h=>by rw[gf];exact iq h
 |a::x,c::y,_,_,i,.cons ra ta,.cons rb tb,h=>by
  obtain⟨t,rfl⟩:=ra;obtain⟨t',rfl⟩:=rb;rw[cn];refine og<|kK ?_;unfold UC at h;by_cases e:a=c
  .rw[T9 e]at h
   rw[beq_iff_eq.mpr e];exact oz<|JY ta tb h
  .rw[T8 e]at h
   rw[beq_eq_false_iff_ne.mpr e];refine o7 ?_;cases q:(b&&i == 0)with|true=>exact oneLt_int h|false=>exact oA _ _<|lt_int h
inductive RowsAt(h:b5):List (List Int)->List al->Prop where
 |nil:RowsAt h [] []
 |cons {r:List Int} {rs:List (List Int)} {vs:List al} {a:aK} {o:fC} {us:List al} {m:Nat} (ho:h.get? a=aa o) (hc:o.cls=.type "tuple") (hd:o.data=.seq us.toArray m) (hv:Vals (r.map V.int) us) (t:RowsAt h rs vs):RowsAt h (r::rs) (.ref a::vs)
theorem VW:∀{ks:List D}{k:List Int},Pv.intsV ks=aa k->ks=k.map Pv.V.int
 |[],k,h=>by cases h;rfl
 |d::ks,k,h=>by
  obtain⟨n,r,rfl,e,rfl⟩:=UP h;rw[VW e];rfl
def xk(h:Pv.ZL (d::ds)=aa rs):∃a b,d=Pv.Zh a/\Pv.ZL ds=aa b/\rs=a::b:=by
 cases d with
 |tup x=>
  have h:(match Pv.intsV x,Pv.ZL ds with
   |some a,aa b=>aa (a::b)
   |_,_=>ae)=aa rs:=h
  cases q1:Pv.intsV x with
  |none=>rw[q1]at h;cases h
  |some a=>
   cases q2:Pv.ZL ds with
   |none=>rw[q1,q2]at h;cases h
   |some b=>
    rw[q1,q2]at h;exact#[a,b,congrArg Pv.V.tup<|VW q1,rfl,(ai h).symm]
 |_=>exact Ev.nos h
theorem Reps.intsV:∀{r:List Int}{xs:List V},Reps O H (r.map Pv.V.int) xs->xs=r.map V.int
 |[],xs,h=>by exact h
 |n::r,xs,h=>by
  have h':=h;obtain⟨v,vs,rfl,a,b⟩:=h';rw[a.int',Reps.intsV b];rfl
theorem Wy(I:Inv X pq U H s):∀{ds:List D}{rs:List (List Int)}{xs:List V}{its:List al},Pv.ZL ds=aa rs->Reps O H ds xs->Vals xs its->RowsAt s.heap rs its/\ds=rs.map Pv.Zh
 |[],rs,xs,its,h,r,v=>by
  subst r;cases v;cases h;exact#[.nil,rfl]
 |d::ds,rs,xs,its,h,r,v=>by
  obtain⟨x,xs',rfl,r1,r2⟩:=r;cases v with
  |cons v1 v2=>
   obtain⟨a,b,rfl,q2,rfl⟩:=xk h;obtain⟨t,e⟩:=Wy I q2 r2 v2;obtain⟨p,ys,rfl,hp,ry⟩:=r1.tup';have ey:=Reps.intsV ry;subst ey;cases v1;obtain⟨us,rv,⟨o,ho,hc,m,hd⟩,_⟩:=I.tuple<|SqT.of hp;exact#[.cons ho hc hd rv t,by rw[e];rfl]
theorem RowsAt.length{h:b5}:∀{rs:List (List Int)}{vs:List al},RowsAt h rs vs->rs.length=vs.length
 |_,_,.nil=>rfl
 |_,_,.cons _ _ _ _ t=>by rw[aE,aE,RowsAt.length t]
theorem RowsAt.at{h:b5}:∀{rs:List (List Int)}{vs:List al}(i:Nat),RowsAt h rs vs->i<vs.length->∃a o us m,vs.getD i bi=.ref a/\h.get? a=aa o/\o.data=.seq us.toArray m/\Vals ((rs.getD i []).map V.int) us
 |_,_,_,.nil,hi=>by simp at hi
 |_,_,0,.cons ho hc hd hv t,_=>#[_,_,_,_,rfl,ho,hd,hv]
 |_,_,i+1,.cons ho hc hd hv t,hi=>by
  obtain⟨a,o,us,m,e1,e2,e3,e4⟩:=RowsAt.at i t (by simpa using hi)
  exact#[a,o,us,m,by simpa using e1,e2,e3,by simpa using e4]
theorem RowsAt.tups(k:Sq.Lat h h'):∀{rs:List (List Int)}{vs:List al},RowsAt h rs vs->(∀r∈rs,r≠[])->∃fs,oB h' vs fs/\fs.length=vs.length/\∀v∈fs,∃n t,v=kJ n t
 |_,_,.nil,_=>#[[],.nil,rfl,λv hv=>by cases hv]
 |_,_,.cons (r:=r) ho hc hd hv t,hn=>by
  obtain⟨fs,t1,t2,t3⟩:=RowsAt.tups k t λr hr=>hn r<|ax _ hr
  have hr:=hn r<|ao ..;cases r with
  |nil=>exact T7 rfl hr
  |cons n r=>
   obtain⟨u,g,rel⟩:=hv.get (i:=0) rfl;refine#[u::fs,.cons (k _ _ ho) hc hd (by simpa using g) t1,by rw[aE,aE,t2],λv hv=>?_]
   rcases aC.mp hv with rfl|hv
   .obtain⟨tk,e⟩:=rel
    exact#[n,tk,e]
   .exact t3 v hv
theorem X6:∀{x y:List Int}{us:List al},Vals (x.map V.int) us->Vals (y.map V.int) us->x=y
 |[],[],_,_,_=>rfl
 |[],_::_,_,.nil,h=>by cases h
 |_::_,[],_,h,.nil=>by cases h
 |a::x,b::y,_,.cons r t,.cons r' t'=>by
  obtain⟨k,rfl⟩:=r;obtain⟨k',e⟩:=r';cases e;rw[X6 t t']
def J4{B:Type}{df:B}{rs:List B}{vs:List al}(hl:rs.length=vs.length)(nd:rs.Nodup)(h:∀i j,i<vs.length->j<vs.length->vs.getD i bi=vs.getD j bi->rs.getD i df=rs.getD j df):vs.Nodup:=by
 refine bh.mpr λi j hi hj hij e=>?_
 have:=h i j hi hj (by simp[hi,hj,e])
 simp only[aD,af (show i<rs.length by lia),af (show j<rs.length by lia)]at this
 exact bh.mp nd i j (by lia) (by lia) hij this
def xp{prog:bt}{w:bJ}{A:b8}{h:b5}{rs:List (List Int)}{vs:List al}(R:RowsAt h rs vs)(nd:rs.Nodup)(hn:∀r∈rs,r≠[]):Sq.Asks prog w A h vs (tuples' aj) (λi j=>ltI (rs.getD i [])<|rs.getD j []):=by
 refine#[λh2 s' E Q k q=>?_,J4 (df:=[]) R.length nd λi j hi hj e=>?_,λi j hi hj s' C E k q=>?_]
 .obtain⟨fs,t1,t2,t3⟩:=R.tups k hn
  exact oh (T:=.type "int") t1 (by lia) (λv hv=>by obtain⟨n,t,rfl⟩:=t3 v hv;exact PySem.W.Looks.of_pure rfl) rfl q
 .obtain⟨a,o,us,m,e1,e2,e3,e4⟩:=R.at i hi
  obtain⟨a',o',us',m',f1,f2,f3,f4⟩:=R.at j hj;rw[e1,f1]at e;cases e;rw[e2]at f2;cases f2;rw[e3]at f3;cases f3;exact X6 e4 f4
 .obtain⟨a,o,us,m,e1,e2,e3,e4⟩:=R.at i hi
  obtain⟨a',o',us',m',f1,f2,f3,f4⟩:=R.at j hj;rw[e1,f1];refine o8 (k _ _ e2) e3 (k _ _ f2) f3<|JY e4 f4 ?_;have l1:us.toArray.size=(rs.getD i []).length:=by rw[ay,<-e4.length,ap]
  have l2:us'.toArray.size=(rs.getD j []).length:=by rw[ay,<-f4.length,ap]
  rw[l1,l2,QX];exact q
def vM{rs:List (List Int)}{n:Nat}(hn:rs.Nodup)(hl:rs.length=n):Sq.Ord n (λi j=>ltI (rs.getD i [])<|rs.getD j []):=by
 have hd:∀i j,i<n->j<n->i≠j->rs.getD i []≠rs.getD j []:=λi j hi hj ne e=>by
  simp only[aD]at e;have hi':i<rs.length:=by lia
  have hj':j<rs.length:=by lia
  refine ne<|(eN hi' hn).mp ?_;rw[af hi',af hj']at e ⊢;exact congrArg aa e
 exact#[λi j hi hj ne e=>Vh (hd i j hi hj ne) e,λi j _ _ e=>Wc e,λi j k _ _ _ e f=>QW e f]
def VJ{B β:Type}(b:Bool)(f:B->β)(l:List B):bc b (l.map f)=(bc b l).map f:=by
 cases b
 .rfl
 .exact gW.symm
def W7{B:Type}(b:Bool)(l:List B):(bc b l).Perm l:=by
 cases b
 .exact bI _
 .exact eM l
def YJ{B:Type}{d:B}{b:Bool}{vs:List B}{i:Nat}(hi:i<vs.length):(bc b vs).getD i d=vs.getD (if b=aj then vs.length-1-i else i) d:=by
 cases b
 .rfl
 .show vs.reverse.getD i d=vs.getD (vs.length-1-i) d
  simp only[aD];rw[gQ hi]
def wJ{rs:List (List Int)}{b:Bool}{p:Array Nat}(hn:rs.Nodup)(h1:Sq.Pm rs.length p)(h2:Sq.Up (Sq.ltR b rs.length λi j=>ltI (rs.getD i [])<|rs.getD j []) p rs.length) :
  (p.toList.map λi=>(bc b rs).getD i [])=ZK rs:=by
 have hp:p.toList.Perm (aA rs.length):=by simpa using bp.mp h1
 have hl:p.toList.length=rs.length:=by rw[hp.length_eq,be]
 refine WV ?_ ?_<|X5 hn
 .refine((hp.map _).trans ?_).trans (XY rs).symm
  have e:(aA rs.length).map (λi=>(bc b rs).getD i [])=bc b rs:=by
   apply bY
   intro i;rw[aH];by_cases h:i<rs.length
   .have:i<(bc b rs).length:=by rw[eD];exact h
    rw[b7 h];simp[this]
   .have:(bc b rs).length<=i:=by rw[eD];lia
    simp[eV h,this]
  rw[e];exact W7 b rs
 .rw[c0,bh]
  intro i j hi hj hij;have g1:p.toList[i]=Sq.g p i:=by
   have:=Sq.ue (by simpa using hi)
   rw[<-aV,af hi]at this;exact ai this
  have g2:p.toList[j]=Sq.g p j:=by
   have:=Sq.ue (by simpa using hj)
   rw[<-aV,af hj]at this;exact ai this
  rw[g1,g2,YJ (h1.lt (by lia)),YJ<|h1.lt (by lia)]
  have:=h2 i j hij (by lia)
  cases b
  .exact this
  .exact this
def v5{F:List Nat}{xs:List V}{rs:List (List Int)}(h:Reps O H (rs.map Pv.Zh) xs)(hF:∀i∈F,i<rs.length):Reps O H ((F.map λi=>rs.getD i []).map Pv.Zh) (F.map λi=>xs.getD i V.non):=by
 induction F with
 |nil=>exact Reps.nil
 |cons i F ih=>
  refine Reps.cons ?_<|ih λj hj=>hF j<|ax _ hj
  have hi:=hF i<|ao ..;obtain⟨v,g,r⟩:=h.get (by rw[aH,af hi];rfl)
  show Rep O H (Pv.Zh<|rs.getD i []) (xs.getD i V.non);rw[aD,aD,g,af hi];exact r
def VC{F:List Nat}{xs:List V}{us:List al}(h:Vals xs us)(hF:∀i∈F,i<xs.length):Vals (F.map λi=>xs.getD i V.non) (F.map λi=>us.getD i bi):=by
 induction F with
 |nil=>exact .nil
 |cons i F ih=>
  refine .cons ?_<|ih λj hj=>hF j<|ax _ hj
  have hi:=hF i<|ao ..;obtain⟨u,g,r⟩:=h.get<|af hi;show Zu (xs.getD i V.non) (us.getD i bi);rw[aD,aD,g,af hi];exact r
def GC(h:Reps O H ds xs):Reps O H (bc b ds) (bc b xs):=by
 cases b
 .exact h
 .exact h.reverse
def Go :∀{xs:List V}{us:List al},Vals xs us->Vals (bc b xs) (bc b us):=by
 cases b
 .exact λh=>h
 .have snoc:∀{xs:List V}{us:List al}{x:V}{u:al},Vals xs us->Zu x u->Vals (xs++[x]) (us++[u]):=by
   intro xs us x u h r
   induction h with|nil=>exact .cons r .nil|cons a _ ih=>exact .cons a ih
  intro xs us h;show Vals xs.reverse us.reverse
  induction h with|nil=>exact .nil|cons r t ih=>rw[gB,gB];exact snoc ih r
def ZaW(b:Bool):List V->Hp->VK->Prop:=λvs H Q=>∃O ds rws v,vs=[v]/\Rep O H (.lst ds) v/\Pv.ZL ds=aa rws/\Z9 rws=aj/\∀ys,Reps O H ((if b then(ZK rws).reverse else ZK rws).map Pv.Zh) ys->∀p,H p=ae->Q (.ref p) (upd H p<|.lst ys)
def xr{pq:List (aK×fC)}{s:aq}{U:L2.St}{H:Hp}{vs:List V}{us:List al}{Q:VK}{b:Bool}(I:Inv X pq U H s)(r:Vals vs us)(h:ZaW b vs H Q) :
  ∃(l:aK)(its:List al)(rs:List (List Int)),us=[.ref l]/\s.heap.IsList l its.toArray/\its.length<=100000/\rs.length=its.length/\Sq.Ord its.length (λi j=>ltI (rs.getD i [])<|rs.getD j [])/\(∀A,Sq.Asks X.prog X.w A s.heap its (tuples' aj) λi j=>ltI (rs.getD i [])<|rs.getD j [])/\
   ∀p,Sq.Pm its.length p->Sq.Up (Sq.ltR b its.length λi j=>ltI (rs.getD i [])<|rs.getD j []) p its.length->
    EP X pq U Q (.ref<|s.heap.objs.size+1) {s with heap:=sortedAll s.heap its (cx<|bc b<|p.toList.map λi=>(bc b its).getD i bi)}:=by
 obtain⟨O,ds,rws,v,rfl,r1,hrw,hok,h3⟩:=h;obtain⟨l,xs,rfl,hx,_,rx⟩:=r1.lst';obtain⟨u,rfl,ru⟩:=Uh r;cases ru;obtain⟨its,rv,pl,hz⟩:=I.list<|SqL.of hx;obtain⟨RA,ed⟩:=Wy I hrw rx rv;obtain⟨hok1,hok3⟩:=(aB _ _).mp hok;obtain⟨hok1,hok2⟩:=(aB _ _).mp hok1;have h64:=T6 hok1;have hnd:=T6 hok2;have hne:∀r∈rws,r≠[]:=λr hr e=>by
  have:=aO.mp hok3 r hr;rw[e]at this;cases this
 have hlen:=RA.length;refine#[l,its,rws,rfl,pl.isList,by lia,hlen,vM hnd hlen,λA=>xp RA hnd hne,λp hp hu=>?_]
 rw[<-hlen]at hp hu;have out:=wJ hnd hp hu;have hmem:∀i∈p.toList,i<rws.length:=λi hi=>by
  have hp':p.toList.Perm (aA rws.length):=by simpa using bp.mp hp
  exact aN.mp<|hp'.mem_iff.mp hi
 subst ed;have xl:xs.length=rws.length:=by rw[rx.length,ap]
 have rx1:Reps O H ((bc b rws).map Pv.Zh) (bc b xs):=by rw[<-VJ];exact GC rx
 have rx2:=v5 rx1 (by rw[eD];exact hmem)
 rw[out]at rx2;have rx3:=GC (b:=b) rx2;have rv2:=Go (b:=b)<|VC (Go (b:=b) rv) (by rw[eD,xl];exact hmem)
 have eb:(if b=aj then(ZK rws).reverse else ZK rws)=bc b (ZK rws):=rfl
 rw[eb,<-VJ]at h3;obtain⟨ep,he⟩:=sortedAll_at s.heap its<|cx<|bc b<|p.toList.map λi=>(bc b its).getD i bi
 refine#[.ref<|s.heap.objs.size+1,_,I.laid (t':=s.toks) (λb ob q=>sortedAll_old q) (gp _) ?_,rfl,h3 _ rx3 _<|I.hok.fresh<|gp _]
 refine#[?_,_,ep,rv2,he];rw[eD,ap,az,hp.size,cq];lia
def J8:ZM X (.builtin "sorted") (ZaW ak):=by
 intro pq s U H vs us Q I r h;obtain⟨l,its,rs,rfl,h1,h2,h3,h4,h5,h6⟩:=xr I r h;exact Sq.X7 h1 h2 h4 (h5 _) λp a b=>h6 p a b
end Sd
namespace Sd
open PySem PySem.Spec PyProof.Rows L2
open Ev (ltI)
open PySem.SeqAt PySem.MeetsSeq PySem.MeetsSeq2 PySem.MeetsSeq3 PySem.SeqRoads2
open PySem.AutoSeq1 (wpAny_loadPart')
def GT(l b:aK)(u v:List al)(n n2:Nat)(dd dd2:Option aK)(sl sl2:Array (Option al))(x y:List Int)(hx:Vals (x.map V.int) u)(hy:Vals (y.map V.int) v) :
  oV (dv.«tuple.__lt__» #[[.ref l,.ref b],[]]) (λA R s=>s.heap.get? l=aa {cls:=.type "tuple",dict:=dd,data:=.seq u.toArray n,slots:=sl}/\s.heap.get? b=aa {cls:=.type "tuple",dict:=dd2,data:=.seq v.toArray n2,slots:=sl2}/\R (.ok<|.ret<|.bool<|ltI x y) s):=
 .of_wp λprog w A R s h=>by
  obtain⟨hp,g,d,tk,os⟩:=s;obtain⟨hl,hb,h⟩:=h;have f2:=dD;rw[<-QX]at h
  wp_walk using ir hl,ir hb,gX _ (λrest b s'=>b.1=ae/\s'=#[hp,g,d,tk,os]/\∃x' y' u' v',rest=pR u' v'/\Vals (mi V.int x') u'/\Vals (mi V.int y') v'/\R (.ok<|.ret<|.bool<|UC (ag<|x.length<y.length) x' y') #[hp,g,d,tk,os]) _
  case turn=>
   rintro ⟨a,c⟩ rest b s' ⟨hb',rfl,x',y',u',v',hz,hx',hy',hR⟩
   match x',y',u',v',hx',hy',hz,hR with
   |i::x',j::y',_::u',_::v',.cons ra ta,.cons rb tb,hz,hR=>
    obtain⟨t,rfl⟩:=ra;obtain⟨t',rfl⟩:=rb;rw[cn]at hz;injection hz with h1 h2
    cases h1;unfold UC at hR;refine ab<|kK ?_;by_cases e:i=j
    .rw[T9 e]at hR
     rw[beq_iff_eq.mpr e]
     wp_walk
     exact#[rfl,rfl,x',y',u',v',h2,ta,tb,hR]
    .rw[T8 e]at hR
     rw[beq_eq_false_iff_ne.mpr e];simp only[o9,if_true];refine ab<|d4<|ab<|PyProof.Rows.lt_int ?_
     wp_walk
     exact#[_,rfl,by simpa using hR]
   |[],_,_,_,.nil,_,hz,_=>rw[gJ]at hz;cases hz
   |_::_,[],_,_,_,.nil,hz,_=>rw[gf]at hz;cases hz
  case fin=>
   rintro ⟨b1,b2⟩ s' ⟨hb',rfl,x',y',u',v',hz,hx',hy',hR⟩
   simp only at hb';subst hb';have hf:UC (ag<|x.length<y.length) x' y'=ag (x.length<y.length):=by
    match x',y',u',v',hx',hy',hz with
    |[],_,_,_,_,_,_=>rfl
    |_::_,[],_,_,_,_,_=>rfl
    |_::_,_::_,_::_,_::_,.cons _ _,.cons _ _,hz=>rw[cn]at hz;cases hz
   rw[hf]at hR;have l1:u.length=x.length:=by rw[<-hx.length,ap]
   have l2:v.length=y.length:=by rw[<-hy.length,ap]
   wp_walk
   exact#[_,rfl,by simpa[gO,l1,l2]using hR]
  case h=>
   exact#[rfl,rfl,x,y,u,v,by simp,hx,hy,h]
def Zad{E:al->aq->Prop}{Q:al->aq->Prop}(ha:s.heap.get? a=aa o)(hc:o.cls=.type "tuple")(hd:o.data=.seq u.toArray m)(hx:Vals (x.map V.int) u)
  (hb:s.heap.get? b=aa o')(hc':o'.cls=.type "tuple")(hd':o'.data=.seq v.toArray m')(hy:Vals (y.map V.int) v)(hu:A.units<c7)(q:Q (.bool<|ltI x y) s):aW (aT prog w) A (cF .Lt (.ref a)<|.ref b) Q E s:=by
 obtain⟨cls,dd,data,sl⟩:=o;obtain⟨cls2,dd2,data2,sl2⟩:=o';simp only at hc hd hc' hd';subst hc hd hc' hd';exact lC (op:=.Lt) #[_,ha,rfl] #[_,hb,rfl] oC oj (nC _ _) (GT a b u v m m' dd dd2 sl sl2 x y hx hy) #[ha,hb,#[(λx=>nomatch x),q]] hu
end Sd
namespace Sd
open Ev (ltI ltP XX Zr)
structure StrictB{B:Type}(lt:B->B->Bool):Prop where
 tot:∀{x y},x≠y->lt x y=ak->lt y x=aj
 asy:∀{x y},lt x y=aj->lt y x=ak
 tr:∀{x y z},lt x y=aj->lt y z=aj->lt x z=aj
theorem zO:∀{x y:List (List Int)},x≠y->ltP x y=ak->ltP y x=aj
 |[],[],h,_=>T7 rfl h
 |[],_::_,_,h=>by cases h
 |_::_,[],_,_=>rfl
 |a::x,b::y,h,e=>by
  unfold ltP at e ⊢;by_cases c:a=b
  .subst c
   rw[T9 rfl]at e ⊢;exact zO (λz=>h<|by rw[z]) e
  .rw[T8 c]at e
   rw[T8<|Ne.symm c];exact Vh c e
theorem yu:∀{x y:List (List Int)},ltP x y=aj->ltP y x=ak
 |[],[],h=>by cases h
 |[],_::_,_=>rfl
 |_::_,[],h=>by cases h
 |a::x,b::y,e=>by
  unfold ltP at e ⊢;by_cases c:a=b
  .subst c
   rw[T9 rfl]at e ⊢;exact yu e
  .rw[T8 c]at e
   rw[T8<|Ne.symm c];exact Wc e
theorem wN:∀{x y z:List (List Int)},ltP x y=aj->ltP y z=aj->ltP x z=aj
 |[],[],_,h,_=>by cases h
 |_::_,[],_,h,_=>by cases h
 |_,_::_,[],_,h=>by cases h
 |[],_::_,_::_,_,_=>rfl
 |a::x,b::y,c::z,e,f=>by
  unfold ltP at e f ⊢;by_cases h1:a=b
  .subst h1
   rw[T9 rfl]at e;by_cases h2:a=c
   .subst h2
    rw[T9 rfl]at f ⊢;exact wN e f
   .rw[T8 h2]at f ⊢;exact f
  .rw[T8 h1]at e
   by_cases h2:b=c
   .subst h2
    rw[T8 h1];exact e
   .rw[T8 h2]at f
    have g:=QW e f;rw[T8 λz=>by subst z;rw[Wc e]at f;cases f]
    exact g
def Zy:StrictB ltP:=#[zO,yu,wN]
section
variable{B:Type}{lt:B->B->Bool}
theorem WJ(x:B):∀l:List B,(XX lt x l).Perm (x::l)
 |[]=>bI _
 |y::r=>by
  unfold XX;split
  .exact bI _
  .exact((WJ x r).cons y).trans<|iX x y r
theorem ZJ:∀l:List B,(Zr lt l).Perm l
 |[]=>bI _
 |x::r=>(WJ x<|Zr lt r).trans<|(ZJ r).cons x
theorem W6(O:StrictB lt)(x:B):∀{l:List B},(∀y∈l,x≠y)->l.Pairwise (λa b=>lt a b=aj)->(XX lt x l).Pairwise (λa b=>lt a b=aj)
 |[],_,_=>by exact eZ ..
 |y::r,hn,h=>by
  rw[aY]at h;unfold XX;split
  .rename_i c
   rw[aY,aY];refine#[λz hz=>?_,h]
   rcases aC.mp hz with rfl|hz
   .exact c
   .exact O.tr c<|h.1 z hz
  .rename_i c
   rw[aY];refine#[λz hz=>?_,W6 O x (λy hy=>hn y<|ax _ hy) h.2]
   rcases aC.mp ((WJ x r).mem_iff.mp hz)with rfl|hz
   .exact O.tot (hn y<|ao ..) (by simpa using c)
   .exact h.1 z hz
theorem ZZ(O:StrictB lt):∀{l:List B},l.Nodup->(Zr lt l).Pairwise (λa b=>lt a b=aj)
 |[],_=>fA
 |x::r,h=>by
  rw[dA]at h;exact W6 O x (λy hy e=>h.1<|by rw[e];exact(ZJ r).mem_iff.mp hy)<|ZZ O h.2
theorem Yb(O:StrictB lt):∀{a b:List B},a.Perm b->a.Pairwise (λx y=>lt x y=aj)->b.Pairwise (λx y=>lt x y=aj)->a=b
 |[],b,p,_,_=>(oa p)
 |x::a,[],p,_,_=>by have:=p.length_eq;simp at this
 |x::a,y::b,p,ha,hb=>by
  rw[aY]at ha hb;have e:x=y:=by
   rcases aC.mp (p.mem_iff.mp<|ao ..)with h|h
   .exact h
   .rcases aC.mp (p.mem_iff.mpr (ao))with h2|h2
    .exact h2.symm
    .have z1:=hb.1 x h
     have z2:=ha.1 y h2;rw[O.asy z1]at z2;cases z2
  subst e;rw[Yb O (o5 x |>.mp p) ha.2 hb.2]
end
open PySem PySem.Spec PyProof.Rows L2
theorem QH:∀{x:List Int}{u:List al}{j:Nat}(h:j<u.length),Vals (x.map V.int) u->∃t,u[j]=kJ (x.getD j 0) t
 |[],[],_,h,.nil=>by simp at h
 |_::_,_::_,0,_,.cons ra _=>by obtain⟨t,rfl⟩:=ra;exact#[t,rfl]
 |_::x,_::u,j+1,h,.cons _ ta=>by
  obtain⟨t,e⟩:=QH (by simpa using h) ta
  exact#[t,by simpa using e]
def Zdg:∀{x y:List Int},((aA<|pj x.length y.length).all (λj=>x.getD j 0 == y.getD j 0)&&x.length == y.length)=ag (x=y):=by
 intro x y;rw[bW,aB,aO,decide_eq_true_iff]
 constructor
 .rintro ⟨h1,h2⟩
  have h2:x.length=y.length:=by simpa using h2
  apply kU h2;intro i hi hj;have:=h1 i<|aN.mpr (by lia)
  simpa[hi,hj]using this
 .rintro rfl
  exact#[λj _=>by simp,by simp]
def Xi(h:b5)(r:List Int)(v:al):Prop:=∃a o us m,v=.ref a/\h.get? a=aa o/\o.cls=.type "tuple"/\o.data=.seq us.toArray m/\Vals (r.map V.int) us
def Xi.lat(k:Sq.Lat h h')(R:Xi h r v):Xi h' r v:=by
 obtain⟨a,o,us,m,e,ho,hc,hd,hv⟩:=R;exact#[a,o,us,m,e,k _ _ ho,hc,hd,hv]
def yL(hx:Xi s.heap x v)(hy:Xi s.heap y u)(hu:A.units<c7):fE A s v u (ag<|x=y):=by
 obtain⟨a,o,us,m,rfl,ho,hc,hd,hv⟩:=hx;obtain⟨b,o',us',m',rfl,ho',hc',hd',hv'⟩:=hy;have l1:us.toArray.size=x.length:=by rw[ay,<-hv.length,ap]
 have l2:us'.toArray.size=y.length:=by rw[ay,<-hv'.length,ap]
 by_cases e:a=b
 .subst e
  rw[ho]at ho';cases ho';rw[hd]at hd';injection hd' with h1 h2
  have h1:us=us':=by simpa using h1
  subst h1;rw[T5<|X6 hv hv'];exact hV _
 .refine iO e ?_
  have:=kg #[o,ho,hc,m,hd] #[o',ho',hc',m',hd'] hu (λj h1 h2=>by
   obtain⟨t,e1⟩:=QH (by simpa using h1) hv
   obtain⟨t',e2⟩:=QH (by simpa using h2) hv'
   rw[show us.toArray[j]=us[j]'(by simpa using h1) by simp,show us'.toArray[j]=us'[j]'(by simpa using h2) by simp,e1,e2]
   exact mV _ _ _ _)
  rw[l1,l2,Zdg]at this;exact this
def JE{E:al->aq->Prop}{Q:al->aq->Prop}(hx:Xi s.heap x v)(hy:Xi s.heap y u)(hu:A.units<c7)(q:Q (.bool<|ltI x y) s):aW (aT prog w) A (cF .Lt v u) Q E s:=by
 obtain⟨a,o,us,m,rfl,ho,hc,hd,hv⟩:=hx;obtain⟨b,o',us',m',rfl,ho',hc',hd',hv'⟩:=hy;exact Zad ho hc hd hv ho' hc' hd' hv' hu q
noncomputable def Uy(fin:Bool):List (List Int)->List (List Int)->Bool
 |[],_=>fin
 |_::_,[]=>fin
 |a::x,b::y=>if a=b then Uy fin x y else ltI a b
theorem Qu:∀(x y:List (List Int)),Uy (ag<|x.length<y.length) x y=ltP x y
 |[],[]=>rfl
 |[],_::_=>by unfold Uy ltP;simp
 |_::_,[]=>by unfold Uy ltP;simp
 |a::x,b::y=>by
  unfold Uy ltP;have:ag ((a::x).length<(b::y).length)=ag (x.length<y.length):=by simp
  rw[this,Qu x y]
inductive RowsIn(h:b5):List (List Int)->List al->Prop where
 |nil:RowsIn h [] []
 |cons {r:List Int} {rs:List (List Int)} {v:al} {vs:List al} (a:Xi h r v) (t:RowsIn h rs vs):RowsIn h (r::rs) (v::vs)
theorem RowsIn.lat(k:Sq.Lat h h'):∀{rs:List (List Int)}{vs:List al},RowsIn h rs vs->RowsIn h' rs vs
 |_,_,.nil=>.nil
 |_,_,.cons a t=>.cons (a.lat k)<|RowsIn.lat k t
theorem RowsIn.length :∀{rs:List (List Int)}{vs:List al},RowsIn h rs vs->rs.length=vs.length
 |_,_,.nil=>rfl
 |_,_,.cons _ t=>by rw[aE,aE,RowsIn.length t]
theorem JA{C:Bool->aq->Prop}(hu:A.units<c7):∀{x y:List (List Int)}{u v:List al}{i:Nat},RowsIn s.heap x u->RowsIn s.heap y v->C (Uy fin x y) s->o6 prog w A ak fin C (u.zip v) i s
 |[],_,_,_,_,.nil,_,h=>by rw[gJ];exact iq h
 |_::_,[],_,_,_,_,.nil,h=>by rw[gf];exact iq h
 |a::x,c::y,_,_,i,.cons ra ta,.cons rb tb,h=>by
  rw[cn];refine og<|yL ra rb hu prog w _ _ ?_;unfold Uy at h;by_cases e:a=c
  .rw[T9 e]at h
   rw[T5 e];exact oz<|JA hu ta tb h
  .rw[T8 e]at h
   rw[T4 e];refine o7 ?_;exact oA _ _<|JE ra rb hu h
open Ev (E Sm Fn Bop Cop Ty Bf Mf Y0 ZK Z9 ZF)
section
variable{B:Type}{lt:B->B->Bool}{df:B}
theorem Zc8(O:StrictB lt){rs:List B}{n:Nat}(hn:rs.Nodup)(hl:rs.length=n):Sq.Ord n (λi j=>lt (rs.getD i df)<|rs.getD j df):=by
 have hd:∀i j,i<n->j<n->i≠j->rs.getD i df≠rs.getD j df:=λi j hi hj ne e=>by
  simp only[aD]at e;have hi':i<rs.length:=by lia
  have hj':j<rs.length:=by lia
  refine ne<|(eN hi' hn).mp ?_;rw[af hi',af hj']at e ⊢;exact congrArg aa e
 exact#[λi j hi hj ne e=>O.tot (hd i j hi hj ne) e,λi j _ _ e=>O.asy e,λi j k _ _ _ e f=>O.tr e f]
theorem ZdN(O:StrictB lt)(hn:rs.Nodup)(h1:Sq.Pm rs.length p)(h2:Sq.Up (Sq.ltR b rs.length λi j=>lt (rs.getD i df)<|rs.getD j df) p rs.length) :
  (p.toList.map λi=>(bc b rs).getD i df)=Zr lt rs:=by
 have hp:p.toList.Perm (aA rs.length):=by simpa using bp.mp h1
 have hl:p.toList.length=rs.length:=by rw[hp.length_eq,be]
 refine Yb O ?_ ?_<|ZZ O hn
 .refine((hp.map _).trans ?_).trans (ZJ rs).symm
  have e:(aA rs.length).map (λi=>(bc b rs).getD i df)=bc b rs:=by
   apply bY
   intro i;rw[aH];by_cases h:i<rs.length
   .have:i<(bc b rs).length:=by rw[eD];exact h
    rw[b7 h];simp[this]
   .have:(bc b rs).length<=i:=by rw[eD];lia
    simp[eV h,this]
  rw[e];exact W7 b rs
 .rw[c0,bh]
  intro i j hi hj hij;have g1:p.toList[i]=Sq.g p i:=by
   have:=Sq.ue (by simpa using hi)
   rw[<-aV,af hi]at this;exact ai this
  have g2:p.toList[j]=Sq.g p j:=by
   have:=Sq.ue (by simpa using hj)
   rw[<-aV,af hj]at this;exact ai this
  rw[g1,g2,YJ (h1.lt (by lia)),YJ<|h1.lt (by lia)]
  have:=h2 i j hij (by lia)
  cases b
  .exact this
  .exact this
def UM{O:Mx}{H:Hp}{enc:B->D}{F:List Nat}{xs:List V}{rs:List B}(h:Reps O H (rs.map enc) xs)(hF:∀i∈F,i<rs.length):Reps O H ((F.map λi=>rs.getD i df).map enc) (F.map λi=>xs.getD i V.non):=by
 induction F with
 |nil=>exact Reps.nil
 |cons i F ih=>
  refine Reps.cons ?_<|ih λj hj=>hF j<|ax _ hj
  have hi:=hF i<|ao ..;obtain⟨v,g,r⟩:=h.get (by rw[aH,af hi];rfl)
  show Rep O H (enc<|rs.getD i df) (xs.getD i V.non);rw[aD,aD,g,af hi];exact r
end
section
variable{X:Cx}{pq:List (aK×fC)}{U:L2.St}{H:Hp}{s:aq}{O:Mx}
inductive PartsAt(h:b5):List (List (List Int))->List al->Prop where
 |nil:PartsAt h [] []
 |cons {P:List (List Int)} {ps:List (List<|List Int)} {vs:List al} {a:aK} {o:fC} {us:List al} {m:Nat} (ho:h.get? a=aa o) (hc:o.cls=.type "tuple") (hd:o.data=.seq us.toArray m) (hv:RowsIn h P us) (t:PartsAt h ps vs):PartsAt h (P::ps) (.ref a::vs)
theorem RowsAt.ins{h:b5}:∀{rs:List (List Int)}{vs:List al},RowsAt h rs vs->RowsIn h rs vs
 |_,_,.nil=>.nil
 |_,_,.cons ho hc hd hv t=>.cons #[_,_,_,_,rfl,ho,hc,hd,hv]<|RowsAt.ins t
def Ug(h:Pv.ZX (d::ds)=aa ps):∃ks a b,d=.tup ks/\Pv.ZL ks=aa a/\Pv.ZX ds=aa b/\ps=a::b:=by
 cases d with
 |tup ks=>
  have h:(match Pv.ZL ks,Pv.ZX ds with
   |some a,aa b=>aa (a::b)
   |_,_=>ae)=aa ps:=h
  cases q1:Pv.ZL ks with
  |none=>rw[q1]at h;cases h
  |some a=>
   cases q2:Pv.ZX ds with|none=>rw[q1,q2]at h;cases h|some b=>rw[q1,q2]at h;exact#[ks,a,b,rfl,q1,rfl,(ai h).symm]
 |_=>exact Ev.nos h
theorem VD(I:Inv X pq U H s):∀{ds:List D}{ps:List (List<|List Int)}{xs:List V}{its:List al},Pv.ZX ds=aa ps->Reps O H ds xs->Vals xs its->PartsAt s.heap ps its/\ds=ps.map Pv.Zb
 |[],ps,xs,its,h,r,v=>by
  subst r;cases v;cases h;exact#[.nil,rfl]
 |d::ds,ps,xs,its,h,r,v=>by
  obtain⟨x,xs',rfl,r1,r2⟩:=r;cases v with
  |cons v1 v2=>
   obtain⟨ks,a,b,rfl,q1,q2,rfl⟩:=Ug h;obtain⟨t,e⟩:=VD I q2 r2 v2;obtain⟨p,ys,rfl,hp,ry⟩:=r1.tup';cases v1;obtain⟨us,rv,⟨o,ho,hc,m,hd⟩,_⟩:=I.tuple<|SqT.of hp;obtain⟨ra,ek⟩:=Wy I q1 ry rv;exact#[.cons ho hc hd ra.ins t,by rw[e,ek];rfl]
theorem PartsAt.length :∀{ps:List (List<|List Int)}{vs:List al},PartsAt h ps vs->ps.length=vs.length
 |_,_,.nil=>rfl
 |_,_,.cons _ _ _ _ t=>by rw[aE,aE,PartsAt.length t]
theorem PartsAt.at :∀{ps:List (List<|List Int)}{vs:List al}(i:Nat),PartsAt h ps vs->i<vs.length->∃a o us m,vs.getD i bi=.ref a/\h.get? a=aa o/\o.data=.seq us.toArray m/\RowsIn h (ps.getD i []) us
 |_,_,_,.nil,hi=>by simp at hi
 |_,_,0,.cons ho hc hd hv t,_=>#[_,_,_,_,rfl,ho,hd,hv]
 |_,_,i+1,.cons ho hc hd hv t,hi=>by
  obtain⟨a,o,us,m,e1,e2,e3,e4⟩:=PartsAt.at i t (by simpa using hi)
  exact#[a,o,us,m,by simpa using e1,e2,e3,by simpa using e4]
theorem PartsAt.tups(k:Sq.Lat h h'):∀{ps:List (List<|List Int)}{vs:List al},PartsAt h ps vs->(∀P∈ps,P≠[])->∃fs,oB h' vs fs/\fs.length=vs.length/\∀v∈fs,∃r,Xi h' r v
 |_,_,.nil,_=>#[[],.nil,rfl,λv hv=>by cases hv]
 |_,_,.cons (P:=P) ho hc hd hv t,hn=>by
  obtain⟨fs,t1,t2,t3⟩:=PartsAt.tups k t λr hr=>hn r<|ax _ hr
  have hr:=hn P<|ao ..;cases hv with
  |nil=>exact T7 rfl hr
  |cons a tl=>
   rename_i r rs v vs
   refine#[v::fs,.cons (k _ _ ho) hc hd (by simp) t1,by rw[aE,aE,t2],λz hz=>?_]
   rcases aC.mp hz with rfl|hz
   .exact#[r,a.lat k]
   .exact t3 z hz
theorem V7 :∀{P P':List (List Int)}{us:List al},RowsIn h P us->RowsIn h P' us->P=P'
 |_,_,_,.nil,.nil=>rfl
 |_,_,_,.cons r t,.cons r' t'=>by
  obtain⟨a,o,us,m,rfl,ho,_,hd,hv⟩:=r;obtain⟨a',o',us',m',e,ho',_,hd',hv'⟩:=r';cases e;rw[ho]at ho';cases ho';rw[hd]at hd';cases hd';rw[X6 hv hv',V7 t t']
theorem VB(hu:A.units<c7)(R:PartsAt h ps vs)(nd:ps.Nodup)(hn:2<=vs.length->∀P∈ps,P≠[]):Sq.Asks prog w A h vs (tuples' ak) (λi j=>ltP (ps.getD i [])<|ps.getD j []):=by
 refine#[λh2 s' E Q k q=>?_,J4 (df:=[]) R.length nd λi j hi hj e=>?_,λi j hi hj s' C E k q=>?_]
 .obtain⟨fs,t1,t2,t3⟩:=R.tups k (hn h2)
  exact oh (T:=.type "tuple") t1 (by lia) (λv hv=>by
   obtain⟨r,a,o,us,m,rfl,ho,hc,_,_⟩:=t3 v hv;exact λA Q E s kk qq=>iB #[o,kk _ _ ho,hc] qq) rfl q
 .obtain⟨a,o,us,m,e1,e2,e3,e4⟩:=R.at i hi
  obtain⟨a',o',us',m',f1,f2,f3,f4⟩:=R.at j hj;rw[e1,f1]at e;cases e;rw[e2]at f2;cases f2;rw[e3]at f3;cases f3;exact V7 e4 f4
 .obtain⟨a,o,us,m,e1,e2,e3,e4⟩:=R.at i hi
  obtain⟨a',o',us',m',f1,f2,f3,f4⟩:=R.at j hj;rw[e1,f1];refine o8 (k _ _ e2) e3 (k _ _ f2) f3<|JA hu (e4.lat k) (f4.lat k) ?_;have l1:us.toArray.size=(ps.getD i []).length:=by rw[ay,<-e4.length]
  have l2:us'.toArray.size=(ps.getD j []).length:=by rw[ay,<-f4.length]
  rw[l1,l2,Qu];exact q
end
def zi(hu:X.A.units+2<c7)(I:Inv X pq U H s)(r:Vals [v] us)(r1:Rep O H (.lst ds) v)
  (hps:Pv.ZX ds=aa ps)(hok:ZF ps=aj)(h3:∀ys,Reps O H ((Zr ltP ps).map Pv.Zb) ys->∀p,H p=ae->Q (.ref p) (upd H p<|.lst ys)):aW (aT X.prog X.w) X.A (call (.builtin "sorted") us) (EP X pq U Q) X.xe s:=by
 obtain⟨l,xs,rfl,hx,_,rx⟩:=r1.lst';obtain⟨u,rfl,ru⟩:=Uh r;cases ru;obtain⟨its,rv,pl,hz⟩:=I.list<|SqL.of hx;obtain⟨RA,ed⟩:=VD I hps rx rv;have hlen:=RA.length;obtain⟨hok1,hok3⟩:=(aB _ _).mp hok;obtain⟨hok1,hok2⟩:=(aB _ _).mp hok1;have h64:=T6 hok1;have hnd:=T6 hok2;refine Sq.X7 pl.isList (by lia) (Zc8 Zy hnd hlen) (VB hu RA hnd λh2 P hP e=>?_) λp hp hu2=>?_
 .rcases(fq _ _).mp hok3 with h|h
  .have:=T6 h;lia
  .have:=aO.mp h P hP
   rw[e]at this;cases this
 rw[<-hlen]at hp hu2;have out:=ZdN Zy hnd hp hu2
 have hmem:∀i∈p.toList,i<ps.length:=λi hi=>by
  have hp':p.toList.Perm (aA ps.length):=by simpa using bp.mp hp
  exact aN.mp<|hp'.mem_iff.mp hi
 subst ed;have xl:xs.length=ps.length:=by rw[rx.length,ap]
 have rx2:=UM (df:=[]) rx hmem;have out':(p.toList.map λi=>ps.getD i [])=Zr ltP ps:=out
 rw[out']at rx2;have rv2:=VC rv (by rw[xl];exact hmem)
 obtain⟨ep,he⟩:=sortedAll_at s.heap its<|cx<|p.toList.map λi=>its.getD i bi
 refine#[.ref<|s.heap.objs.size+1,_,I.laid (t':=s.toks) (λb ob q=>sortedAll_old q) (gp _) ?_,rfl,h3 _ rx2 _<|I.hok.fresh<|gp _]
 refine#[?_,_,ep,rv2,he];rw[ap,az,hp.size,cq];lia
def Ue(hu:X.A.units+7<c7):ZM X (.builtin "sorted") (wR X.K xw .sorted):=by
 intro pq s U H vs us Q I r #[O,S,ds,st,rs,H0,S0,f0,s0,h];obtain⟨d,v,z,rfl,r1,hz,h⟩:=JT h rs;cases d with
 |lst ds=>
  have hz:(if Pv.ju ds=aj then(Pv.ZL ds).bind λrs=>if Z9 rs=aj then aa (.lst<|(ZK rs).map Pv.Zh)else ae else(Pv.ZX ds).bind λps=>if ZF ps=aj then aa (.lst<|(Zr ltP ps).map Pv.Zb)else ae)=aa z:=hz
  split at hz
  .obtain⟨rws,hr,hz⟩:=cR.mp hz
   split at hz
   .cases hz;exact J8 pq s U H [v] us Q I r #[O,ds,rws,v,rfl,r1,hr,‹_›,λys r=>h.newF f0 s0 st r]
   .cases hz
  .obtain⟨ps,hr,hz⟩:=cR.mp hz
   split at hz
   .cases hz;exact zi (by lia) I r r1 hr ‹_› λys r=>h.newF f0 s0 st r
   .cases hz
 |_=>exact Ev.nos hz
def Vc:isSubtype (.type "range_iterator") (.type "reversed")=cW ak:=by rw[iY];kernel_rfl
section
variable{prog:bt}{w:bJ}{A:b8}{E:al->aq->Prop}{s:aq}
noncomputable abbrev vw(lo:Int)(n:Nat):fC:={cls:=.type "range_iterator",data:=.fields [fP<|lo+n-1,fP n,fP<|-1].toArray}
theorem XE{r:aK}{lo hi:Int}{t u v:pL}{Q:al->aq->Prop}(hr:IsRange s.heap r lo hi 1 t u v)(h1:-(2^62)<=lo)(h2:lo<2^62)(h3:-(2^62)<=hi)(h4:hi<2^62)
  (h:Q (.ref s.heap.objs.size) {s with heap:=s.heap.push (vw lo (hi-lo).toNat)}):aW (aT prog w) A (call (.builtin "range.__reversed__") [.ref r]) Q E s:=by
 refine cA F.slot_range_reversed #[_,hr,rfl] F.entry_range_reversed ?_<|F.args_range_reversed_1 _;unfold dv.«range.__reversed__»;refine ab<|cE rfl ?_;refine ab<|ab<|cD hr rfl rfl ?_;refine ab<|cE rfl ?_;refine ab<|cD hr rfl rfl ?_;refine ab<|cE rfl ?_;refine ab<|cD hr rfl rfl ?_;refine ab<|cE rfl ?_;refine aw ?_
 have hn:gh lo hi 1=((hi-lo).toNat:Int):=by rw[rangeSize_one];split<;>lia
 have hs:(cp lo&&cp hi&&cp 1&&cp (-1)&&cp (lo-1)&&cp (gh lo hi 1))=aj:=by
  rw[hn];simp only[cp,aB,T0];lia
 simp only[hs,fX,cG,if_false,if_true];refine ab<|bV<|aw #[_,rfl,?_];rw[hn];have e:lo+(((hi-lo).toNat:Int)-1)*1=lo+((hi-lo).toNat:Int)-1:=by lia
 simp only[e];exact h
def XA{r:aK}{lo hi:Int}{t u v:pL}{Q₁:al->aq->Prop}(hr:IsRange s.heap r lo hi 1 t u v)(h1:-(2^62)<=lo)(h2:lo<2^62)(h3:-(2^62)<=hi)(h4:hi<2^62)
  (h:Q₁ (.ref s.heap.objs.size) {s with heap:=s.heap.push (vw lo (hi-lo).toNat)}) :
  fe (aT prog w) A (.call (.builtin "reversed.__new__") #[[.type "reversed",.ref r],[]]) (wants Q₁ E) s:=by
 refine im ?_;refine ab<|cE (F.newCall_reversed_1 _)<|aw #[kD mj _,eE F.entry_reversed_new ?_];rw[dF mj _];unfold dv.«reversed.__new__»;refine ab<|cE (newClass_reversed _) ?_
 try dsimp only
 refine ab (cE (by first|rfl|kernel_rfl) ?_)
 refine ab (cE (by first|rfl|kernel_rfl) ?_)
 try dsimp only
 refine ab<|fZ #[_,hr,rfl] F.slot_range_reversed.lookup ?_
 try dsimp only
 refine ab<|cE (F.slot_range_reversed.bind _) ?_
 try dsimp only
 first
 |rw[T8 (aI)]
 |(rw[T8<|show¬((al.builtin "range.__reversed__" == bi)=aj)from aI])
 refine ab<|d4 ?_;refine ab<|XE hr h1 h2 h3 h4 ?_
 first
 |exact aw h
 |exact ab<|aw<|aw h
def XF{r:aK}{lo hi:Int}{t u v:pL}{Q:al->aq->Prop}(hr:IsRange s.heap r lo hi 1 t u v)(h1:-(2^62)<=lo)(h2:lo<2^62)(h3:-(2^62)<=hi)(h4:hi<2^62)
  (h:Q (.ref s.heap.objs.size) {s with heap:=s.heap.push (vw lo (hi-lo).toNat)}):aW (aT prog w) A (call (.type "reversed") [.ref r]) Q E s:=by
 refine callType_other (Q₁:=λobj s₁=>obj=.ref s.heap.objs.size/\s₁={s with heap:=s.heap.push (vw lo (hi-lo).toNat)}) (by decide +kernel) F.create_reversed #[_,_,F.mro_reversed] F.made_reversed Vc (F.typeCall_reversed_1 _) (XA hr h1 h2 h3 h4 #[rfl,rfl]) ?_
 rintro obj s₁ ⟨rfl,rfl⟩
 exact#[#[_,aL _ rfl,rfl],h]
end
noncomputable def Itrv(lo:Int)(n:Nat):It:=#[λi _=>i<n,λi H x H'=>H'=H/\x=.int (lo+n-1-i),λi _=>n<=i]
def JG{P:bt}{w:bJ}{K:am}{tg:Expr}(it:aK)(lo:Int)(n:Nat):Turn P w K tg (Itrv lo n) [it] it (λi h=>IsRangeIter h it (lo+n-1+(i:Nat)*(-1)) ((n:Int)-(i:Nat))<|-1) where
 mem:=by simp
 obj:=λi h st b hb=>by
  have e:b=it:=by simpa using hb
  subst e;exact#[_,st,λv z=>by
   have z':=z;cases z']
 keep:=λi h h' st k=>k it (by simp) _ st
 item:=by
  intro X hP hw hK hc i pq s U H E I hf st hg;subst hP hw hK;obtain⟨f0,f1,f2,f3,f4,f5⟩:=hf it (by simp)
  have W:=Walks.range (prog:=X.prog) (w:=X.w) (I.ok.hd hc) it (lo+n-1) (-1) n;refine W.item i s _ _ hg st λv h' tk hv st' kk=>?_
  obtain⟨t,rfl⟩:=hv;have I1:Inv X pq U H {s with heap:=h',toks:=tk}:=I.turned (λb o hb e=>kk b o (by simpa using hb) e) f0 f1 f3 f4 f5
  refine#[_,rfl,yV st' rfl rfl (by decide) #[.int<|lo+n-1-i,H,I1,#[t,?_],#[rfl,rfl],st',λb hb=>(hf b hb).1]]
  have e:lo+n-1+(i:Int) * -1=lo+n-1-i:=by lia
  rw[e]
 done:=by
  intro X hP hw hK hc i pq s U H E I hf st hg;subst hP hw hK;obtain⟨f0,f1,f2,f3,f4,f5⟩:=hf it (by simp)
  exact lg (I.ok.hd hc) st (by have:n<=i:=hg;lia) λh' eb=>#[rfl,I.turned (t':=s.toks) (λb o hb e=>eb b o hb e) f0 f1 f3 f4 f5]
 self:=λ_ _ _ _ _ st h=>gx st h
section
variable{X:Cx}{xw:Nat->Hp->Prop}{C:Calls}{a b tg:Expr}{i j:E}{pos p p2 p3:iA}
def ZdT(ta:TA):TI:=λU H R=>ta U H λvs H1=>∃i j:Int,vs=[.int i,.int j]/\(-(2^62)<=i/\i<2^62/\-(2^62)<=j/\j<2^62)/\R (Itrv i (j-i).toNat) H1
theorem wo{ta:TA}(hgr:Gl X "reversed")(hmr:X.mg "reversed" = ae)(hg:Gl X "range")(hm:X.mg "range" = ae)(ha:PA X [a,b] ta)(hs:aJ [a,b] X.env=[(ak,cC a X.env),(ak,cC b X.env)])(hs2:aJ [b] X.env=[(ak,cC b X.env)]) :
  PI X tg (.Call (.Name "reversed" p) [.Call (.Name "range" p2) [a,b] [] p3] [] pos) (ZdT ta):=by
 intro pq s U H R I h;refine pP<|Yx I hgr hmr (rfl)<|bS (Calls.spliced_cons ?_) rfl rfl
 refine pP<|Yx I hg hm oP<|bS (thn (ha p3 pq s U H _ I h) λus s1 #[vs,H1,I1,r1,q1]=>?_) (by rw[hs,hs2]) (by rw[hs2];rfl)
 obtain⟨lo,hi,e,⟨q1,q2,q3,q4⟩,q⟩:=q1;subst e;cases r1 with
 |cons r rr=>
  cases rr with
  |cons r' rr=>
   cases rr;obtain⟨t,rfl⟩:=r;obtain⟨t',rfl⟩:=r';refine call_range_2<|Calls.spliced_nil ?_;refine XF (IsRange.new ..) q1 q2 q3 q4 ?_;have I2:Inv X pq U H1 {s1 with heap:=s1.heap.push {cls:=.type "range",data:=.fields [.int lo t,.int hi t',.int 1 s1.toks].toArray},toks:=s1.toks+1}:=I1.kept λb o e=>au _ e
   have I3:=I2.kept (t':=s1.toks+1) (h':=(s1.heap.push {cls:=.type "range",data:=.fields [.int lo t,.int hi t',.int 1 s1.toks].toArray}).push<|vw lo (hi-lo).toNat) λb o e=>au _ e
   refine gx (aL _ rfl) ?_;refine#[_,[(s1.heap.push {cls:=.type "range",data:=.fields [.int lo t,.int hi t',.int 1 s1.toks].toArray}).objs.size],_,_,H1,rfl,I3,JG _ lo (hi-lo).toNat,?_,λb hb=>?_,q]
   .rw[show lo+((hi-lo).toNat:Int)-1+((0:Nat):Int)*(-1)=lo+((hi-lo).toNat:Int)-1 by lia,show(((hi-lo).toNat:Nat):Int)-((0:Nat):Int)=((hi-lo).toNat:Int) by lia]
    exact aL _ rfl
   .have e:b=(s1.heap.push {cls:=.type "range",data:=.fields [.int lo t,.int hi t',.int 1 s1.toks].toArray}).objs.size:=by simpa using hb
    subst e;exact I2.fpOk (aM _)<|I2.hok.fresh<|aM _
theorem G9{lo:Int}{n i:Nat}(h:i<n):(Pv.ZR lo n).reverse[i]?=aa (.int<|lo+n-1-i):=by
 unfold Pv.ZR;rw[<-gW,aH,gQ (by simpa using h),be,b7 (by lia)]
 simp only[Option.map_some]
 congr 2
 lia
def xX{K:am}{O:Mx}{H:Hp}{lo:Int}{n:Nat}:WRel K O H (Pv.ZR lo n).reverse (Itrv lo n) where
 go:=λi ρ' S' H' f st hi=>by
  have hi':i<n:=by simpa[Pv.ZR]using hi
  refine#[hi',λx H'' #[e,hx]=>?_]
  subst e hx;refine#[Fut.refl _ _,st,λd hd=>?_]
  rw[G9 hi']at hd;cases hd;exact ZB _
 stop:=λρ' S' H' f st=>by show n<=((Pv.ZR lo n).reverse).length;simp[Pv.ZR]
def jA(hmr:X.mg "reversed" = ae)(hm:X.mg "range" = ae)(ha:CA X xw C [a,b] [i,j])(hgr:Gl X "reversed")(hg:Gl X "range")(hs:aJ [a,b] X.env=[(ak,cC a X.env),(ak,cC b X.env)])(hs2:aJ [b] X.env=[(ak,cC b X.env)]) :
  CW X xw C tg (.Call (.Name "reversed" p) [.Call (.Name "range" p2) [a,b] [] p3] [] pos) (.rrng i j):=.mk <|
 PI.imp (wo hgr hmr hg hm ha.h hs hs2) λU H Q #[O,l,S,st,lr,h]=>uC st lr h λx y S1 ρ1 H1 v u st1 rv ru h1=>by
  cases x with
  |int n=>cases y with
   |int m=>
    obtain⟨hs,h3⟩:=End.guard h1;obtain⟨s1,s2⟩:=(aB _ _).mp hs;exact#[n,m,by rw[rv.int',ru.int'],#[(Z3 s1).1,(Z3 s1).2,(Z3 s2).1,(Z3 s2).2],End.ok (rep:=WRel X.K) h3 st1 xX]
   |_=>exact False.elim h1
  |_=>exact False.elim h1
end
open PySem.SeqAt PySem.MeetsSeq PySem.MeetsSeq2 PySem.MeetsSeq3 PySem.SeqRoads2
open PySem.AutoSeq1 (wpAny_loadPart')
def zF(l b:aK)(u v:List al)(n n2:Nat)(dd dd2:Option aK)(sl sl2:Array (Option al))(x y:List (List Int)) :
  oV (dv.«tuple.__lt__» #[[.ref l,.ref b],[]]) (λA R s=>s.heap.get? l=aa {cls:=.type "tuple",dict:=dd,data:=.seq u.toArray n,slots:=sl}/\s.heap.get? b=aa {cls:=.type "tuple",dict:=dd2,data:=.seq v.toArray n2,slots:=sl2}/\A.units+1<c7/\RowsIn s.heap x u/\RowsIn s.heap y v/\R (.ok<|.ret<|.bool<|ltP x y) s):=
 .of_wp λprog w A R s h=>by
  obtain⟨hp,g,d,tk,os⟩:=s;obtain⟨hl,hb,hu,hx,hy,h⟩:=h;have f2:=dD;rw[<-Qu]at h
  wp_walk using ir hl,ir hb,gX _ (λrest b s'=>b.1=ae/\s'=#[hp,g,d,tk,os]/\∃x' y' u' v',rest=pR u' v'/\RowsIn hp x' u'/\RowsIn hp y' v'/\R (.ok<|.ret<|.bool<|Uy (ag<|x.length<y.length) x' y') #[hp,g,d,tk,os]) _
  case turn=>
   rintro ⟨a,c⟩ rest b s' ⟨hb',rfl,x',y',u',v',hz,hx',hy',hR⟩
   match x',y',u',v',hx',hy',hz,hR with
   |i::x',j::y',_::u',_::v',.cons ra ta,.cons rb tb,hz,hR=>
    rw[cn]at hz;injection hz with h1 h2
    cases h1;unfold Uy at hR;refine ab<|yL ra rb (by lia) prog w _ _ ?_
    by_cases e:i=j
    .rw[T9 e]at hR
     rw[T5 e]
     wp_walk
     exact#[rfl,rfl,x',y',u',v',h2,ta,tb,hR]
    .rw[T8 e]at hR
     rw[T4 e];simp only[o9,if_true];refine ab<|d4<|ab<|JE ra rb (by lia) ?_
     wp_walk
     exact#[_,rfl,by simpa using hR]
   |[],_,_,_,.nil,_,hz,_=>rw[gJ]at hz;cases hz
   |_::_,[],_,_,_,.nil,hz,_=>rw[gf]at hz;cases hz
  case fin=>
   rintro ⟨b1,b2⟩ s' ⟨hb',rfl,x',y',u',v',hz,hx',hy',hR⟩
   simp only at hb';subst hb';have hf:Uy (ag<|x.length<y.length) x' y'=ag (x.length<y.length):=by
    match x',y',u',v',hx',hy',hz with
    |[],_,_,_,_,_,_=>rfl
    |_::_,[],_,_,_,_,_=>rfl
    |_::_,_::_,_::_,_::_,.cons _ _,.cons _ _,hz=>rw[cn]at hz;cases hz
   rw[hf]at hR;have l1:u.length=x.length:=by rw[<-hx.length]
   have l2:v.length=y.length:=by rw[<-hy.length]
   wp_walk
   exact#[_,rfl,by simpa[gO,l1,l2]using hR]
  case h=>
   exact#[rfl,rfl,x,y,u,v,by simp,hx,hy,h]
def uW{E:al->aq->Prop}{Q:al->aq->Prop}(ha:s.heap.get? a=aa o)(hc:o.cls=.type "tuple")(hd:o.data=.seq u.toArray m)(hx:RowsIn s.heap x u)
  (hb:s.heap.get? b=aa o')(hc':o'.cls=.type "tuple")(hd':o'.data=.seq v.toArray m')(hy:RowsIn s.heap y v)(hu:A.units+3<c7)(q:Q (.bool<|ltP x y) s):aW (aT prog w) A (cF .Lt (.ref a)<|.ref b) Q E s:=by
 obtain⟨cls,dd,data,sl⟩:=o;obtain⟨cls2,dd2,data2,sl2⟩:=o';simp only at hc hd hc' hd';subst hc hd hc' hd';exact lC (op:=.Lt) #[_,ha,rfl] #[_,hb,rfl] oC oj (nC _ _) (zF a b u v m m' dd dd2 sl sl2 x y) #[ha,hb,by first|exact hu|(lia)|lia,hx,hy,#[(λx=>nomatch x),q]] (by lia)
def yI(hu:X.A.units+7<c7):Y7 X xw .Lt .lt:=by
 intro pq s U H v0 u0 v u Q I rv ru #[O,S,x,y,st,rx,ry,h];rcases Zdv st rx ry h with z|⟨a,b,A,B,rfl,rfl,hA,hB,q⟩
 .exact Zd2 pq s U H v0 u0 v u Q I rv ru z
 .obtain⟨p1,xs,rfl,hp1,r1⟩:=rx.tup'
  obtain⟨p2,ys,rfl,hp2,r2⟩:=ry.tup';cases rv;cases ru;obtain⟨us,w1,⟨o,ho,hc,m,hd⟩,_⟩:=I.tuple<|SqT.of hp1;obtain⟨us',w2,⟨o',ho',hc',m',hd'⟩,_⟩:=I.tuple<|SqT.of hp2;obtain⟨ra,_⟩:=Wy I hA r1 w1;obtain⟨rb,_⟩:=Wy I hB r2 w2;exact uW ho hc hd ra.ins ho' hc' hd' rb.ins (by lia) #[.bl<|ltP A B,H,I,rfl,q]
end Sd
namespace Sd
open PySem PySem.Spec PyProof.Rows L2
open Ev (E Sm Fn Bop Cop Ty Bf Mf)
section
variable{X:Cx}{xw:Nat->Hp->Prop}{fr:Bool}{C:Calls}{ns:List Nat}{e a:Expr}{i:E}{pos p p' p2:iA}{n:Nat}{x:bE}{q:Option bE}
def jw{q}(ha:CE X xw C a i):CE X xw C (.Subscript a (.Constant (.int 0) q p2) pos) (.dix i ak):=.mk <| PE.imp (wK Q2 ha.h Qp<|by intro _ _;with_unfolding_all rfl)<|by
 rintro U H Q ⟨O,l,S,st,lr,h⟩;rw[Pv.pv]at h;refine#[O,l,S,st,lr,h.bind λx S1 ρ1 H1 v f1 st1 r1 h1=>?_]
 cases x with|drw=>obtain⟨p,rfl,hn⟩:=r1.drw';exact#[p,_,0,_,rfl,rfl,SqL.of (st1.dw p hn).1,rfl,End.ok h1 st1<|ZB _]|_=>exact h1.elim
def jq{q}(ha:CE X xw C a i):CE X xw C (.Subscript a (.Constant (.int 1) q p2) pos) (.dix i aj):=.mk <| PE.imp (wK Q2 ha.h Qp<|by intro _ _;with_unfolding_all rfl)<|by
 rintro U H Q ⟨O,l,S,st,lr,h⟩;rw[Pv.pv]at h;refine#[O,l,S,st,lr,h.bind λx S1 ρ1 H1 v f1 st1 r1 h1=>?_]
 cases x with|drw=>obtain⟨p,rfl,hn⟩:=r1.drw';exact#[p,_,1,_,rfl,rfl,SqL.of (st1.dw p hn).1,rfl,End.ok h1 st1<|Yd _]|_=>exact h1.elim
def jO{q}(he:CE X xw C e i)(hN:X.N[n]?=aa x)(hv:Vis X.env.scope x)(hd:(x == ("__debug__" : bE))=ak)
  (hcd:(x == ("__classdict__" : bE))=ak)
  (ha:∀v,eI (.Subscript (.Name x p') (.Constant (.int 0) q p2) p) X.env v=(do
   let ov <-g6 [v] (cC (.Name x p') X.env)
   let iv <-g6 [v,ov] (cC (.Constant (.int 0) q p2) X.env)
   k8 p
   g6 [v,ov,iv] (setItem ov iv v)
   release [v,ov,iv] []))(hs:dS [.Subscript (.Name x p') (.Constant (.int 0) q p2) p] e pos.line X.env=cW ak)(hw:dU [.Subscript (.Name x p') (.Constant (.int 0) q p2) p] e X.env=cW ae)
  (h1:(cz [.Subscript (.Name x p') (.Constant (.int 0) q p2) p] X.env).map (·.2)=[eI (.Subscript (.Name x p') (.Constant (.int 0) q p2) p) X.env]):CS X xw fr C ns (.Assign [.Subscript (.Name x p') (.Constant (.int 0) q p2) p] e pos) (.dset n i):=.mk <|
 PS.imp (VY he.h (ZbG (QA hN hv hd hcd) Qp (qo (X:=X)) ha) hs hw h1)<|by
 rintro D U H ⟨O,H0,W,l,os,S,st,en,h⟩;rw[Pv.rv]at h;refine#[O,l,S,st,en.all,Zs.bind en h λy S1 H1 v f1 st1 r1 h1=>?_]
 cases y with
 |int y=>
  obtain⟨hk,h1⟩:=h1.guard;have hx:l[n]?=aa (aa .drw):=by
   cases z:l[n]? with
   |none=>rw[z]at h1;exact h1.elim
   |some o=>cases o with
    |none=>rw[z]at h1;exact h1.elim
    |some d=>cases d<;>rw[z]at h1<;>first|rfl|exact h1.elim
  rw[hx]at h1;obtain⟨u,hu,r⟩:=(en.mono f1).all.val n .drw hx;obtain⟨a,rfl,hn⟩:=r.drw';obtain⟨e1,_⟩:=st1.dw a hn;refine#[.ref a,hu,a,_,0,0,rfl,rfl,e1,rfl,?_];rw[r1.int'];have f2:Fut O H1 O (upd H1 a<|.lst [.int y,.bl S1.2]):=#[rfl,λb o z=>by
   by_cases c:b=a
   .subst c;rw[e1]at z;cases z;exact .inr<|.inl #[hn,_,rfl]
   .exact .inl (by rw[Zq c];exact z)]
  refine h1 _ U W #[st1.hk,λb x=>?_,λb x=>?_,st1.tb.upd (λo u z=>by rw[e1]at z;cases z) λ_ z=>by cases z]<|(en.mono f1).mono f2
  .by_cases c:b=a
   .rw[c];show upd _ _ _ _≠ae;rw[ZI];intro z;cases z
   .show upd _ _ _ _≠ae;rw[Zq c];exact st1.xd b x
  .rw[hn]at x
   cases x;exact#[ZI,hk]
 |_=>exact h1.elim
end
open Ev in
noncomputable def XZ:Fn:=#[2,4,
 [.ite (.dix (.v 0) aj) [.asg [2]<|.bin .mod (.dix (.v 0) ak)<|.v 1,
  .dset 0 (.bin .fdiv (.dix (.v 0) ak)<|.v 1),
  .ret (.v 2)] [],
  .dset 0 (.bin .mod (.bin .add (.bin .mul (.dix (.v 0) ak)<|.c<|.int 48271)<|.c<|.int 29)<|.c<|.int 2147483647),
  .asg [3] (.bin .mod (.bin .add (.bin .add (.bin .mul (.dix (.v 0) ak)<|.dix (.v 0) ak)<|.bin .mul (.c<|.int 39373)<|.dix (.v 0) ak)<|.c<|.int 7)<|.c<|.int 2147483629),
  .asg [3] (.bin .mod (.bin .add (.bin .mul (.v 3)<|.v 3)<|.bin .mul (.c<|.int 16807)<|.v 3)<|.c<|.int 2147483587),
  .ret (.bin .mod (.bin .fdiv (.v 3)<|.c<|.int 8)<|.v 1)]]
open Ev Pv in
def Xy(h0:0<=a)(h:a<4294967296):fits a=aj:=by
 refine T5 ?_;have h1:a.natAbs<2^32:=by lia
 exact bj h1<|dG (by decide) (by decide)
open Ev Pv in
def Xd(h:okS s.1 s.2=aj)(m0:0<m)(m1:m<1073741824):Ju C XZ [.drw,.int m] s=.ok (.int (Xm s m).1) (Xm s m).2:=by
 obtain⟨a,b⟩:=s;have hm:muts XZ.body=[]:=rfl;unfold Ju;rw[hm];have ha:=T6 ((aB _ _).mp h).1;have lt8:(8:Int)<big:=wx (by decide)
 cases b with
 |true=>
  have o2:okS (a / m) aj=aj:=by simp[okS];exact Int.ediv_nonneg ha (by lia)
  simp[XZ,Xm,rvs,rv,pvA,Pv.pv.eq_1,Pv.pv.eq_2,Pv.pv.eq_7,Pv.pv.eq_28,XC,PR.bind,po,Zm,ZH,ofD,Yy,Pv.Ve,m0,m1,wx m1,o2,hide]
 |false=>
  have hb:a<2147483647:=by simpa using((aB _ _).mp h).2
  have h1:=Xy ha (by lia)
  have x0:0<=(a*48271+29)%2147483647:=by lia
  have x1:(a*48271+29)%2147483647<2147483647:=by lia
  generalize hxx:(a*48271+29)%2147483647=x at x0 x1;have y0:0<=(x*x+39373*x+7)%2147483629:=by lia
  have y1:(x*x+39373*x+7)%2147483629<2147483629:=by lia
  generalize hyy:(x*x+39373*x+7)%2147483629=y at y0 y1;have f1:=Xy x0 (by lia)
  have f2:=Xy y0 (by lia)
  have f3:fits 48271=aj:=Xy (by lia) (by lia)
  have f4:fits 39373=aj:=Xy (by lia) (by lia)
  have f5:fits 16807=aj:=Xy (by lia) (by lia)
  have o2:okS x ak=aj:=by simp[okS,x0,x1]
  simp[XZ,Xm,rvs,rv,pvA,Pv.pv.eq_1,Pv.pv.eq_2,Pv.pv.eq_7,Pv.pv.eq_28,XC,PR.bind,po,Zm,ZH,ofD,Yy,Pv.Ve,m0,m1,lt8,h1,hxx,hyy,f1,f2,f3,f4,f5,o2,hide]
def Zaf{K:am}{F:List Fn}{tk d:Nat}:∀O S H ds vs,St3 K O S H->Reps O H ds vs->Pv.Zj F tk (d+1) tk ds S=.no\/Pv.Zj F tk (d+1) tk ds S=Ju (Pv.Zj F tk d) XZ ds S:=λO S H ds vs st r=>by
 rw[Pv.Zj,T9 rfl];unfold Pv.Za3;split
 .rename_i m
  obtain⟨v,u,rfl,r1,_⟩:=yN r;obtain⟨a,_,hn⟩:=r1.drw';split
  .rename_i hm
   exact .inr (Xd (st.dw a hn).2 hm.1 hm.2).symm
  .exact .inl rfl
 .exact .inl rfl
def qx{K:am}{F:List Fn}{tk n d:Nat}{fn:Fn}(hn:n≠tk)(hf:F[n]?=aa fn):∀O S H ds vs,St3 K O S H->Reps O H ds vs->Pv.Zj F tk (d+1) n ds S=.no\/Pv.Zj F tk (d+1) n ds S=Ju (Pv.Zj F tk d) fn ds S:=λO S H ds vs st r=>by
 rw[Pv.Zj,T8 hn,hf]
 all_goals exact .inr rfl
def jL(h:Pv.VT v=aa d):v=.lst [.int d.1,.bl d.2]/\Pv.okS d.1 d.2=aj:=by
 unfold Pv.VT at h;split at h
 .split at h
  .cases h;exact#[rfl,‹_›]
  .cases h
 .cases h
def Jx{l:Lc}{i:Nat}{d:D}(h:(l.map Pv.WZ)[i]?=aa (aa d)):l[i]?=aa (aa d)/\d.flat=aj:=by
 rw[aH]at h;cases q:l[i]? with
 |none=>rw[q]at h;cases h
 |some o=>
  rw[q]at h;have h:=ai h;obtain⟨a,b⟩:=Option.filter_eq_some_iff.mp h;exact#[by rw[a],b]
def vj{n:Nat}{l:Lc}{i:Nat}{d:D}(h:(Pv.X3 n l)[i]?=aa (aa d)):l[i]?=aa (aa d)/\d.flat=aj:=by
 unfold Pv.X3 at h;rw[List.getElem?_append]at h;split at h
 .obtain⟨a,b⟩:=Jx h
  rw[cU]at a;split at a
  .exact#[a,b]
  .cases a
 .rw[cP]at h
  split at h<;>cases h
def Js :(Pv.X3 n l).length=l.length:=by
 unfold Pv.X3;rw[aX,ap,bo,c6];omega
def tCl(X:Cx)(xw:Nat->Hp->Prop)(C:Calls)(fi:Nat)(is:List E):TE:=λU H Q=>tA X xw (Pv.pvs C is) U H λvs H1=>∃O ds S,St3 X.K O S H1/\Reps O H1 ds vs/\End X.K xw (XB aj H1) O H1 Q (C fi ds S)
def Zca{xw:Nat->Hp->Prop}{fi:Nat}{y:bE}{es:List Expr}{is:List E}{ss:List fR}{B:List Sm}(hc:PE X (.Call (.Name y p') (e::es) [] p) (tCl X xw C fi is))(hB:CSs X xw fr C ns ss B)(hN:X.N.Nodup)
  (hi:X.N[n]?=aa x:=by rfl)(hx:L2.Loc X.env.scope x:=by first|exact Or.inl rfl|exact nZ rfl)(hf:X.fn x=aj\/X.env.scope.names.lookup x=aa .local:=by first|exact .inl rfl|exact .inr rfl)
  (hs:dS [.Name x px] (.Call (.Name y p') (e::es) [] p) pos.line X.env=cW ak:=by rfl)(hw:dU [.Name x px] (.Call (.Name y p') (e::es) [] p) X.env=cW ae:=by rfl)
  (h1:(cz [.Name x px] X.env).map (·.2)=[eI (.Name x px) X.env]:=by rfl) :
  CSs X xw fr C ns (.Assign [.Name x px] (.Call (.Name y p') (e::es) [] p) pos::ss) [.cel n fi is B]:=.mk <|
 PSs.imp (JU (VY hc (Qr hN hi hx hf) hs hw h1) hB.h)<|by
 rintro D U H ⟨O,H0,W,l,os,S,st,en,h⟩;have h:Zs fr X.K xw O H0 D (Pv.rv C ns (.cel n fi is B) l os S):=by
  rw[Pv.rvs]at h;cases q:Pv.rv C ns (.cel n fi is B) l os S with|no=>rw[q]at h;exact h|ex c s=>rw[q]at h;exact h|ok g s=>rw[q]at h;cases g<;>exact h
 rw[Pv.rv]at h;obtain⟨ho,h⟩:=h.guard;refine#[O,l,S,st,en.all,Zs.bind en h λxs S1 H1 vs f1 st1 r1 h1=>?_]
 refine#[O,xs,S1,st1,r1,Zs.bind (en.mono f1) h1 λv S2 H2 u f2 st2 r2 h2=>?_]
 obtain⟨d,hd,h3⟩:=Zs.ob h2;obtain⟨rfl,hok⟩:=jL hd;obtain⟨a,rfl,na⟩:=r2.2 rfl _ rfl;obtain⟨_,us,z,ea,_,ru⟩:=r2.1.lst';cases z;obtain⟨u1,u2,rfl,q1,q2⟩:=yN ru;cases q1.int';cases q2.bl';have en2:=(en.mono f1).mono f2;have nX:∀q,O.X q->q≠a:=λq x z=>st1.xd q x<|z▸na
 let ρ':Mx:=#[O.K,aa a,λq=>O.X q\/q=a,λq h=>.inr (ai h).symm]
 have st':St3 X.K ρ' d H2:=#[st2.hk,λq x=>x.elim (st2.xd q) λz=>(by rw[z,ea];intro w;cases w),λq x=>(by cases x;exact#[ea,hok]),st2.tb]
 have en':Eu ρ' H2 (λ_=>ae) ((Pv.X3 n l).set n<|aa .drw) [] (U.set n<|aa<|.ref a) H2:=by
  refine#[Fut.refl _ _,st'.xd,by rw[bX,bX,Js];exact en.len,λ_=>rfl,λ_ _ _ z=>?_,λ_ _ z=>?_,λ_ _ z=>?_,λi w q _=>?_]
  .cases z
  .cases z
  .cases z
  .rcases Qw q with⟨rfl,z,hl⟩|⟨c,z⟩
   .cases z
    exact#[.ref a,bR (by rw[<-en.len,<-Js];exact hl),by exact#[a,rfl,rfl]]
   .obtain⟨z,hfl⟩:=vj z
    obtain⟨v,hv,r⟩:=en2.all.val i w z;exact#[v,by rw[bm c];exact hv,Rep.flat (O:=O) (ρ':=ρ'.ex λ_=>ae) rfl (λ_ _ z _ _=>z) hfl r]
 have n0:∀{b},b≠a->ρ'.n0≠aa b:=λc w=>T7 (ai w).symm c
 have keep:∀{H'},Fut ρ' H2 ρ' H'->∀b o,b≠a->H2 b=aa o->(∀ps,o≠.tbl ps)->H' b=aa o:=λ{H'} f b o c z n=>(f.keep b o z).elim id λw=>w.elim (λw=>T7 w.1<|n0 c) λ#[#[ps,e],_]=>T7 e<|n ps
 have back:∀{H':Hp}{s:Zo},Fut ρ' H2 ρ' H'->St3 X.K ρ' s H'->St3 X.K O S2 H'/\Fut O H0 O H':=λ{H' s} f w=>by
  refine#[#[st2.hk,λq x=>?_,λq x=>?_,w.tb],rfl,λb o z=>?_]
  .exact f.there (n0<|nX q x)<|st2.xd q x
  .obtain⟨e1,e2⟩:=st2.dw q x
   exact#[keep f q _ (nX q<|O.xz q x) e1 (by intro _ z;cases z),e2]
  .have ne:b≠a:=λc=>by rw[c,J9 (en.mono f1) st1 na]at z;cases z
   rcases en2.fut.keep b o z with y|y|⟨e,ps,y⟩
   .rcases f.keep b o y with q|q|q
    .exact .inl q
    .exact T7 q.1<|n0 ne
    .exact .inr<|.inr q
   .exact .inr<|.inl y
   .rcases f.keep b _ y with q|⟨_,xs,q⟩|⟨_,q⟩
    .exact .inr<|.inr #[e,ps,q]
    .cases q
    .exact .inr<|.inr #[e,q]
 have backE:∀{H':Hp}{s:Zo}{W':Own}{l':Lc}{os':List Nat}{σ':L2.St},Eu ρ' H2 W' l' os' σ' H'->St3 X.K ρ' s H'->St3 X.K O S2 H'/\Eu O H0 (λ_=>ae) (l'.map Pv.WZ) [] σ' H':=λ{H' s W' l' os' σ'} g w=>by
  obtain⟨a1,a2⟩:=back g.fut w;refine#[a1,a2,en.xd,by rw[ap];exact g.len,λ_=>rfl,λ_ _ _ z=>?_,λ_ _ z=>?_,λ_ _ z=>?_,λi w q _=>?_]
  .cases z
  .cases z
  .cases z
  .obtain⟨z,hfl⟩:=Jx q
   obtain⟨v,hv,r⟩:=g.all.val i w z;exact#[v,hv,Rep.flat (O:=ρ') (ρ':=O.ex λ_=>ae) rfl (λ_ _ z _ _=>z) hfl r]
 refine#[ρ',H2,λ_=>ae,_,[],d,st',en',?_]
 cases q:Pv.rvs C ns B ((Pv.X3 n l).set n<|aa .drw) [] d with
 |no=>rw[q]at h3;exact h3
 |ex c s=>rw[q]at h3;exact h3.elim
 |ok g s=>
  rw[q]at h3;cases g with
  |nx l' os'=>exact λH' σ' W' w g=>let #[a1,a2]:=backE g w;h3 H' σ' _ a1 a2
  |brk l' os'=>exact λH' σ' W' w g=>let #[a1,a2]:=backE g w;h3 H' σ' _ a1 a2
  |cnt l' os'=>exact λH' σ' W' w g=>let #[a1,a2]:=backE g w;h3 H' σ' _ a1 a2
  |ret v=>
   obtain⟨hfl,h3⟩:=Zs.guard h3;exact λH' v' f w r=>let #[a1,a2]:=back f w;h3 H' v' a2 a1 #[Rep.flat (O:=ρ') (ρ':=O) rfl (λ_ _ z _ _=>z) hfl r.1,λ_ ds z=>by rw[z]at hfl;cases hfl]
open Ev (ltI Y0 ZK Z9)
section
variable{prog:bt}{w:bJ}{A:b8}{E:al->aq->Prop}{s:aq}{d:aK}{ep:Nat}{od:fC}{es:Array iH}
def v6{T:String}{r:aK}{n:Nat}{P:Nat->al->Prop}{OK:b5->Prop}{R:List al->aq->Prop}(K:ml prog w T r d n P OK)(hh:A.handled=ae)(hok:OK s.heap)(hn:n<=bw)
  (h:∀h' tk acc,(∀b o,s.heap.get? b=aa o->h'.get? b=aa o)->s.heap.objs.size<=h'.objs.size->ItemsOf P acc n->R acc.toList {s with heap:=h',toks:=tk}):aW (aT prog w) A (collect<|.ref r) R E s:=by
 obtain⟨l1,l2⟩:=K.there _ hok
 let S:=s.heap.objs.size
 have hS:(s.heap.push {cls:=.type "list",data:=.seq #[]}).get? S=aa {cls:=.type "list",data:=.seq #[]}:=aL _ rfl;have fin:∀{h':b5}{tk c:Nat}{acc:Array al},(∀b o,b≠S->(s.heap.push {cls:=.type "list",data:=.seq #[]}).get? b=aa o->h'.get? b=aa o)->h'.get? S=aa {cls:=.type "list",dict:=ae,data:=.seq acc c,slots:=#[]}->ItemsOf P acc n->R acc.toList {s with heap:=h',toks:=tk}:=
  λk e i=>h _ _ _ (λb o z=>k b o (bx<|aF z)<|au _ z) (gv<|aF e) i
 unfold collect;refine ab<|wpAny_runValue<|eE entry_proto_collect' ?_;rw[dF PySem.F.plain_proto_collect _];refine ab (m:=newList [])<|bV<|aw #[kD kW _,eE entry_list_iadd' ?_];rw[dF kW _];show aW _ A.in1 (dv.List.listExtendWith (.ref S) (.ref r)<|.ref S) _ _ {s with heap:=s.heap.push {cls:=.type "list",data:=.seq #[]}}
 refine cK (PySem.W.kdl_extend (A:=A) (R:=λq s'=>∃h' tk acc c,q=.ok (.ret<|.ref S)/\s'={s with heap:=h',toks:=tk}/\h'.get? S=aa {cls:=.type "list",dict:=ae,data:=.seq acc c,slots:=#[]}/\R acc.toList s') K hh (K.keep _ _ hok λb _ o e=>au _ e) S (gw l1) (gw l2) _ 0 hS (λh' tk acc c k e i=>#[h',tk,acc,c,rfl,rfl,e,fin k e i]) hn) (λf s' x=>?_) λe s' x=>?_
 .cases f with
  |done f=>
   obtain⟨h',tk,acc,c,z,rfl,e,q⟩:=x;cases z;exact ab (m:=load S)<|k9 e<|aw q
  |again c'=>
   refine#[x.1,gy x.2 λy s2 z=>?_]
   obtain⟨h',tk,acc,c,rfl,rfl,e,q⟩:=z;exact ab (m:=load S)<|k9 e<|aw q
 .obtain⟨_,_,_,_,z,_⟩:=x
  cases z
end
section
variable{X:Cx}{xw:Nat->Hp->Prop}{fr:Bool}{C:Calls}{ns:List Nat}{e a b c tg:Expr}{i j k:E}{pos p p' p2 dp:iA}{n:Nat}{x:bE}
theorem JQ:∀ks:List (List Int),Pv.ZL (ks.map Pv.Zh)=aa ks
 |[]=>rfl
 |k::ks=>by
  have hi:∀k:List Int,Pv.intsV (k.map Pv.V.int)=aa k:=λk=>by
   induction k with|nil=>rfl|cons n k ih=>show(Pv.intsV<|k.map Pv.V.int).map (n :: ·)=_;rw[ih];rfl
  show(match Pv.intsV (k.map Pv.V.int),Pv.ZL (ks.map Pv.Zh)with|some a,aa b=>aa (a::b)|_,_=>ae)=_
  rw[hi,JQ ks]
end
end Sd
namespace Sd
open PySem PySem.Spec PyProof.Rows
def u5.store{h:b5}{a:aK}{o:fC}{es es':Array (Int×al)}{ep:Nat}{t t':cY}(ho:h.get? a=aa o)(hd:o.data=.set es ep t):(h.update a<|pb es' t').get? a=aa {o with data:=.set es' (ep+1) t' }:=by
 have:=d9 (pb es' t') ho (by rw[putSet_of es' t' hd];rfl)
 rwa [putSet_of es' t' hd]at this
noncomputable def XQ(w:bJ):Bool:=!w.params.followText "set-order"
section
variable{prog:bt}{w:bJ}{A:b8}{E:al->aq->Prop}{s:aq}
def jy(a:al){Q:al->aq->Prop}(h:Q (.ref s.heap.objs.size) {s with heap:=s.heap.push {cls:=.type "set",dict:=ae,data:=.set #[] 0 (.fresh 0 0<|XQ w)}}) :
  fe (aT prog w) A (.call (.builtin "set.__new__") #[[.type "set",a],[]]) (wants Q E) s:=by
 refine im ?_;show aW _ A.in1 (do checkBuiltinCall "set.__new__" #[[.type "set",a],[]];pH (.builtin "set.__new__" #[[.type "set",a],[]])) _ _ s;refine ab<|cE (F.newCall_set_1 a)<|aw #[kD oD _,eE F.entry_set_new ?_];rw[dF oD _];unfold dv.«set.__new__» dv.Frozenset.newClass;have hsub:=sub_set_self;obtain⟨hp,g,d,tk,os⟩:=s
 dsimp only
 wp_walk
 refine eX<|aw ?_;dsimp only;simp only[newObj];exact ab<|wpAny_alloc<|aw<|aw h
end
def Wl:Slot "set_iterator" "__next__" "set_iterator.__next__":=.of (owner:="set_iterator") (n:="__next__") (by rw[typeLookup_type,lW];kernel_rfl) (by decide +kernel) (by decide +kernel) (by decide +kernel) (by first|(left;decide +kernel)|(right;decide +kernel)) (by rw[iY];kernel_rfl)
def J6:Slot "set_iterator" "__iter__" "set_iterator.__iter__":=.of (owner:="set_iterator") (n:="__iter__") (by rw[typeLookup_type,lW];kernel_rfl) (by decide +kernel) (by decide +kernel) (by decide +kernel) (by first|(left;decide +kernel)|(right;decide +kernel)) (by rw[iY];kernel_rfl)
def y9:entryFor table "set_iterator.__next__" = aa dv.«set_iterator.__next__»:=entryFor_of_tree (by kernel_rfl)
def xx:entryFor table "set_iterator.__iter__" = aa dv.«dict_keyiterator.__iter__»:=entryFor_alias (id':="dict_keyiterator.__iter__") (by kernel_rfl) rfl (by decide +kernel) (by kernel_rfl)
def GV:entryFor table "set.__iter__" = aa dv.«frozenset.__iter__»:=entryFor_alias (id':="frozenset.__iter__") (by kernel_rfl) rfl (by decide +kernel) (by kernel_rfl)
def vy:Manifest.owners.lookup (String.ofList ['r','o','t','a','r','e','t','i','_','t','e','s'].reverse)=aa Manifest.sig_set_iterator:=by kernel_rfl
def qk(a:al):argsOk "set_iterator.__next__" #[[a],[]]:=by unfold argsOk;rw[signature?_of (id:="set_iterator.__next__") (n:=['_','_','t','x','e','n','_','_']) (o:=['r','o','t','a','r','e','t','i','_','t','e','s']) (by kernel_rfl) vy];kernel_rfl
def vE(a:al):argsOk "set_iterator.__iter__" #[[a],[]]:=by unfold argsOk;rw[signature?_of (id:="set_iterator.__iter__") (n:=['_','_','r','e','t','i','_','_']) (o:=['r','o','t','a','r','e','t','i','_','t','e','s']) (by kernel_rfl) vy];kernel_rfl
theorem yD{B:Type}{nx:Nat->Nat}:∀(n k:Nat)(l:List B)(out:Array B),l.length=n->(nD nx n k l out).toList.Perm (out.toList++l)
 |0,k,l,out,h=>by
  cases l with|nil=>simp[nD]|cons=>cases h
 |n+1,k,l,out,h=>by
  have hj:nx k%l.length<l.length:=lD _ (by omega)
  unfold nD;rw[af hj];refine(yD n (k+1) _ _<|by rw[List.length_eraseIdx_of_lt hj];omega).trans ?_
  rw[dJ,bq];refine List.Perm.append_left _ ?_;rw[List.eraseIdx_eq_take_drop_succ];have e:=cr (nx k%l.length) l;rw[b9 hj]at e;have p:(iI (nx k%l.length) l++l[nx k%l.length]::pK (nx k%l.length+1) l).Perm (l[nx k%l.length]::(iI (nx k%l.length) l++pK (nx k%l.length+1) l)):=kX;exact p.symm.trans (by rw[e])
noncomputable def XO(w:bJ)(a:aK)(ep:Nat)(es:Array (Int×al)):Array (Int×al):=if w.params.followText "set-order" = aj then pickOrder (w.params.setOrder a ep) es else es
def Gk{w:bJ}{a:aK}{ep:Nat}{es:Array (Int×al)}:(XO w a ep es).toList.Perm es.toList:=by
 unfold XO;split
 .unfold pickOrder
  simpa using yD es.size 0 es.toList #[] (by simp)
 .exact bI _
def Wv{w:bJ}{a:aK}{ep:Nat}{es:Array (Int×al)}:(XO w a ep es).size=es.size:=by
 rw[<-az,Gk.length_eq,az]
section
variable{prog:bt}{w:bJ}{A:b8}{E:al->aq->Prop}{s:aq}{a it:aK}{b i ep:Nat}{o:fC}{tg:Nat->Nat}
def qr{Q:Bool->aq->Prop}(hT:s.TypeIs (.ref a) "set")(h:Q ak s):aW (aT prog w) A (iE<|.ref a) Q E s:=by
 unfold iE;refine ab<|fZ hT F.slot_set_len.lookup ?_;generalize hid:("set.__len__" : String)=id0
 wp_delta
 rw[show splitId id0=aa ("set","__len__")from by subst hid;decide +kernel];subst hid
 refine ab<|kR (T:="set") (b:=aj) hT (by rw[iY];kernel_rfl) ?_;refine wpAny_ite_split (λz=>T7 z<|by decide) (λ_=>wpAny_ite_split (λ_=>ab<|iB hT<|aw h) λz=>T7 (by decide +kernel) z)
end
open L2
section
variable{prog:bt}{w:bJ}{A:b8}{E:al->aq->Prop}{s:aq}{d:aK}
def GQ{T:String}{n:Nat}{P:Nat->al->Prop}{OK:b5->Prop}{κ:fV}{lt:Nat->Nat->Bool}{vs:List al}{Q:al->aq->Prop}(src:ml prog w T d d n P OK)(hh:A.handled=ae)(hok:OK s.heap)(hv:∀acc,ItemsOf P acc n->acc.toList=vs)(hn:n<=100000)(hl:vs.length=n)
  (O:Sq.Ord vs.length lt)(K:Sq.Asks prog w A.in1.in1 s.heap vs κ lt)
  (h:∀p h' tk D n,Sq.Pm vs.length p->Sq.Up (Sq.ltR ak vs.length lt) p vs.length->(∀b o,s.heap.get? b=aa o->h'.get? b=aa o)->s.heap.objs.size<=D->h'.get? D=aa (fw "list" (cx<|bc ak<|p.toList.map λi=>(bc ak vs).getD i bi) n)->Q (.ref D) {s with heap:=h',toks:=tk}) :
  aW (aT prog w) A (call (.builtin "sorted") [.ref d]) Q E s:=by
 refine Calls.call_function_entry kind_sorted plain_sorted entry_sorted (args_sorted1 _) ?_;unfold dv.«sorted»;refine ab (m:=checkCount "sorted" 1 1 _)<|aw ?_;refine ab<|v6 (A:=A.in1) src hh hok (by rw[cq];omega) λh1 tk acc hk big hacc=>?_
 rw[hv acc hacc];refine ab<|mK ?_ (by rw[cq];omega)
 have hoL:(h1.push<|fw "list" vs.toArray 0).get? h1.objs.size=aa (fw "list" vs.toArray 0):=aL _ rfl;show aW _ _ _ _ _ {s with heap:=h1.push<|fw "list" vs.toArray 0,toks:=tk}
 refine ab (b6 (cA slot_list_sort #[_,hoL,rfl] entry_list_sort (by
  rw[Sq.UZ];exact Sq.list_sort_rev (h0:=s.heap) hoL (by omega) (λb o e=>by
   have hlt:b<h1.objs.size:=aF<|hk b o e;exact#[bx hlt,au _<|hk b o e]) O K λp a1 a2=>#[_,rfl,aw #[_,rfl,by
    obtain⟨n,hn⟩:=sortedHeap_at (out:=cx<|bc ak<|p.toList.map λi=>(bc ak vs).getD i bi) hoL
    exact h p _ tk _ n a1 a2 (λb o e=>by
     have hlt:b<h1.objs.size:=aF<|hk b o e;rw[sortedHeap_old (bx hlt) (by rw[o4];exact dy hlt)]
     exact au _<|hk b o e) big hn]])<|args_list_sort _))
end
open Ev (E Sm Fn Bop Cop Ty Bf Mf)
end Sd
namespace Sd
open PySem PySem.Spec PyProof.Rows
noncomputable def fxm(m x:Nat):Nat:=(x*5+1)%(m+1)
noncomputable def orb(m:Nat):Nat->Nat->Nat
 |0,x=>x
 |n+1,x=>orb m n<|fxm m x
noncomputable def YL:List Nat:=[7,31,127,511,2047,8191]
noncomputable def y3(m:Nat):Nat->Nat->Bool
 |0,x=>ag<|fxm m x=0
 |n+1,x=>match fxm m x with
  |0=>ak
  |y+1=>y3 m n<|y+1
def yM:YL.all (λm=>y3 m m 0)=aj:=by decide +kernel
theorem Xz(m:Nat):∀(a b x:Nat),orb m (a+b) x=orb m b (orb m a x)
 |0,b,x=>by rw[gK];rfl
 |a+1,b,x=>by rw[nE];exact Xz m a b<|fxm m x
theorem zm{m:Nat}:∀{n x:Nat},y3 m n x=aj->(∀j,0<j->j<=n->orb m j x≠0)/\orb m (n+1) x=0
 |0,x,h=>#[λj a b=>T7 a (by omega),T6 h]
 |n+1,x,h=>by
  unfold y3 at h;cases q:fxm m x with
  |zero=>rw[q]at h;cases h
  |succ y=>
   rw[q]at h;obtain⟨h1,h2⟩:=zm (n:=n) h;refine#[λj a b=>?_,?_]
   .obtain⟨i,rfl⟩:∃i,j=i+1:=#[j-1,by omega]
    show orb m i (fxm m x)≠0;rw[q];by_cases c:i=0
    .subst c;exact Nat.succ_ne_zero y
    .exact h1 i (by omega) (by omega)
   .show orb m (n+1) (fxm m x)=0
    rw[q];exact h2
theorem vb{B:Type}[BEq B][LawfulBEq B]:∀{L A:List B},L.Nodup->(∀x∈L,x∈A)->L.length<=A.length
 |[],_,_,_=>cZ _
 |x::L,A,h,hs=>by
  rw[dA]at h;have h1:=vb (L:=L) (A:=A.erase x) h.2 λy hy=>(List.mem_erase_of_ne (show y≠x from λe=>h.1<|by rw[<-e];exact hy)).mpr<|hs y<|ax _ hy
  have h2:=hs x<|ao ..;have h3:=List.length_erase_of_mem h2;have h4:=List.length_pos_of_mem h2;rw[aE];omega
theorem wD(m:Nat):∀(k x:Nat),x<=m->orb m k x<=m
 |0,_,h=>h
 |k+1,x,_=>wD m k _ (by have:fxm m x<m+1:=lD _ (by omega);omega)
def yo{m j:Nat}(hm:m∈YL)(hj:j<=m):∃k,k<m+1/\orb m k 0=j:=by
 obtain⟨h1,h2⟩:=zm<|aO.mp yM m hm
 let L:=(aA<|m+1).map λk=>orb m k 0
 have nd:L.Nodup:=by
  refine c0.mpr<|kB (λ{a b} ha hb (lt:a<b) e=>?_) lE
  have hb:=aN.mp hb;have z:orb m (a+(m+1-b)) 0=0:=by
   rw[Xz,e,<-Xz,show b+(m+1-b)=m+1 by omega,h2]
  exact h1 _ (by omega) (by omega) z
 have hl:L.length=m+1:=by simp[L]
 have hm:j∈L:=Classical.byContradiction λc=>by
  have:=vb (L:=j::L) (A:=aA<|m+1) (dA.mpr #[c,nd]) λx hx=>by
   rcases aC.mp hx with rfl|hx
   .exact aN.mpr (by omega)
   .obtain⟨k,_,rfl⟩:=a8.mp hx
    exact aN.mpr (by have:=wD m k 0<|cZ _;omega)
  rw[aE,hl,be]at this;omega
 obtain⟨k,hk,e⟩:=a8.mp hm;exact#[k,aN.mp hk,e]
def we{m i e:Nat}(hm:m∈YL)(hi:i<=m)(he:e<=m):∃k,k<=m/\orb m k i=e:=by
 obtain⟨_,h1⟩:=zm<|aO.mp yM m hm;obtain⟨a,a1,a2⟩:=yo hm hi;obtain⟨b,b1,b2⟩:=yo hm he;by_cases c:a<=b
 .refine#[b-a,by omega,?_]
  rw[<-a2,<-Xz,show a+(b-a)=b by omega,b2]
 .refine#[b+(m+1)-a,by omega,?_]
  rw[<-a2,<-Xz,show a+(b+(m+1)-a)=(m+1)+b by omega,Xz,h1,b2]
noncomputable def lp(m:Nat):Nat->Nat×Nat->Nat×Nat
 |0,q=>q
 |n+1,q=>lp m n<|du m q.1 q.2
theorem zQ(m:Nat):∀n i,lp m n (i,0)=(orb m n i,0)
 |0,_=>rfl
 |n+1,i=>by
  show lp m n (du m i 0)=_;rw[show du m i 0=(fxm m i,0)from rfl,zQ m n];rfl
theorem v7(m:Nat):∀(a b:Nat)(q:Nat×Nat),lp m (a+b) q=lp m b (lp m a q)
 |0,b,q=>by rw[gK];rfl
 |a+1,b,q=>by rw[nE];exact v7 m a b _
theorem vp(m:Nat):∀(n:Nat)(q:Nat×Nat),(lp m n q).2=q.2 / 32^n
 |0,q=>by rw[Nat.pow_zero,Nat.div_one];rfl
 |n+1,q=>by
  show(lp m n<|du m q.1 q.2).2=_;rw[vp m n,show(du m q.1 q.2).2=q.2 / 32 from rfl,Nat.div_div_eq_div_mul,iF,gC]
def Wr(m i p:Nat):(du m i p).1<=m:=by
 have:(du m i p).1<m+1:=lD _ (by omega)
 omega
theorem ZaT{m:Nat}:∀{n:Nat}{q:Nat×Nat},q.1<=m->(lp m n q).1<=m
 |0,_,h=>h
 |n+1,q,_=>ZaT (n:=n)<|Wr m q.1 q.2
def JM{m i p e:Nat}(hm:m∈YL)(hi:i<=m)(hp:p<2^64)(he:e<=m):∃n,n<=m+13/\(lp m n (i,p)).1=e:=by
 have h0:(lp m 13 (i,p)).2=0:=by
  rw[vp];exact Nat.div_eq_of_lt<|bj hp (by decide)
 have h1:(lp m 13 (i,p)).1<=m:=ZaT hi;obtain⟨k,k1,k2⟩:=we hm h1 he;refine#[13+k,by omega,?_]
 rw[v7,show lp m 13 (i,p)=((lp m 13 (i,p)).1,0)from Prod.ext rfl h0,zQ]
 exact k2
def zW(h:Int):bM h<2^64:=by
 unfold bM;have:=fk h (show(0:Int)<2^64 by decide)
 have:=f8 h (show(2:Int)^64≠0 by decide)
 omega
def Qo{m i:Nat}(h:i<=m):i<=cI m i/\cI m i<=m/\cI m i-i<=9:=by
 unfold cI;split<;>omega
noncomputable def cnt(xs:List Nat)(j:Nat):Nat:=xs.countP (· < j)
theorem Xn:∀{xs:List Nat}{j:Nat},xs.Pairwise (· < ·)->∀i (hi:i<xs.length),xs[i]<j↔i<cnt xs j
 |[],_,_,i,hi=>by simp at hi
 |x::xs,j,h,i,hi=>by
  obtain⟨h1,h2⟩:=aY.mp h;unfold cnt;by_cases c:x<j
  .rw[List.countP_cons_of_pos (by simpa using c)]
   cases i with
   |zero=>simp[c]
   |succ i=>
    have:=Xn (j:=j) h2 i (by simpa using hi)
    unfold cnt at this;simp only[lG];omega
  .rw[List.countP_cons_of_neg (by simpa using c)]
   have z:xs.countP (· < j)=0:=List.countP_eq_zero.mpr λy hy=>by
    have:=h1 y hy;simp;omega
   rw[z];cases i with
   |zero=>simp[c]
   |succ i=>
    have:=h1 _<|aR (l:=xs) (n:=i) (by simpa using hi)
    simp only[lG];omega
def QC(xs:List Nat)(j:Nat):cnt xs j<=xs.length:=List.countP_le_length
theorem V9{xs:Array Nat}{j:Nat}(hs:xs.toList.Pairwise (· < ·)):∀(f lo hi:Nat),hi-lo<=f->lo<=cnt xs.toList j->cnt xs.toList j<=hi->hi<=xs.size->kj xs j f lo hi=cnt xs.toList j
 |0,lo,hi,hf,h1,h2,_=>by
  show lo=_;omega
 |f+1,lo,hi,hf,h1,h2,h3=>by
  show(if lo<hi then(if xs.getD ((lo+hi) / 2) j<j then kj xs j f ((lo+hi) / 2+1) hi else kj xs j f lo ((lo+hi) / 2))else lo)=_
  by_cases c:lo<hi
  .rw[T9 c]
   have hm:(lo+hi) / 2<xs.size:=by omega
   have key:=Xn (j:=j) hs ((lo+hi) / 2) (by simpa using hm)
   have e:xs.getD ((lo+hi) / 2) j=xs.toList[(lo+hi) / 2]'(by simpa using hm):=by
    rw[dr,aQ hm];simp
   rw[e];by_cases d:xs.toList[(lo+hi) / 2]'(by simpa using hm)<j
   .rw[T9 d]
    exact V9 hs f _ hi (by omega) (by have:=key.mp d;omega) h2 h3
   .rw[T8 d]
    exact V9 hs f lo _ (by omega) h1 (by have:=mt key.mpr d;omega) (by omega)
  .rw[T8 c];omega
def V2{xs:Array Nat}{j:Nat}(hs:xs.toList.Pairwise (· < ·)):mm xs j=cnt xs.toList j:=
 V9 hs xs.size 0 xs.size (by omega) (cZ _) (by have:=QC xs.toList j;simpa using this) (aM _)
structure TOk(t:cY):Prop where
 mem:t.mask∈YL
 srt:t.place.toList.Pairwise (· < ·)
 le:∀j∈t.place.toList,j<=t.mask
 dm:t.dummies = #[]
def j8{t:cY}(T:TOk t)(j:Nat):t.slot j=if j∈t.place.toList then .live (cnt t.place.toList j)else .empty:=by
 unfold cY.slot
 dsimp only
 rw[V2 T.srt,T.dm];have hd:cY.has #[] j=ak:=rfl;rw[hd,T8 aI];by_cases c:j∈t.place.toList
 .rw[T9 c]
  obtain⟨i,hi,e⟩:=bv c;have:cnt t.place.toList j=i:=by
   have h1:=Xn (j:=j) T.srt i hi;have h2:¬i<cnt t.place.toList j:=λz=>by have:=h1.mpr z;omega
   rcases Nat.lt_or_ge (cnt t.place.toList j) i with z|z
   .have h3:=bh.mp T.srt (cnt t.place.toList j) i (by omega) hi z
    have h4:=(Xn (j:=j) T.srt (cnt t.place.toList j)<|by omega).mp (by omega)
    omega
   .omega
  rw[this];have e2:t.place[i]?=aa j:=by
   rw[<-aV,af hi,e]
  rw[T9 (by rw[e2];simp)]
 .rw[T8 c]
  refine T8 λz=>c ?_
  have z:t.place[cnt t.place.toList j]?=aa j:=by simpa using z
  rw[<-aV]at z;exact da z
noncomputable def adv(t:cY):Nat->e9->e9
 |0,p=>p
 |n+1,p=>adv t n<|t.advance p
theorem Jb(t:cY):∀(a b:Nat)(p:e9),adv t (a+b) p=adv t b (adv t a p)
 |0,b,p=>by rw[gK];rfl
 |a+1,b,p=>by rw[nE];exact Jb t a b _
theorem z8(t:cY):∀(c:Nat)(p:e9),c<=p.more->adv t c p={p with j:=p.j+c,more:=p.more-c}
 |0,p,_=>rfl
 |c+1,p,h=>by
  show adv t c (t.advance p)=_;have e:t.advance p={p with j:=p.j+1,more:=p.more-1}:=T9 (by omega)
  rw[e,z8 t c _ (by show c<=p.more-1;omega)]
  show({j:=p.j+1+c,more:=p.more-1-c,i:=p.i,perturb:=p.perturb,dummy:=p.dummy}:e9)=_;rw[show p.j+1+c=p.j+(c+1) by omega,show p.more-1-c=p.more-(c+1) by omega]
noncomputable def at_(m:Nat)(q:Nat×Nat)(d:Option Nat):e9:={j:=q.1,more:=cI m q.1-q.1,i:=q.1,perturb:=q.2,dummy:=d}
def uf(t:cY){q:Nat×Nat}{d:Option Nat}(hq:q.1<=t.mask):∃k,k<=10/\adv t k (at_ t.mask q d)=at_ t.mask (du t.mask q.1 q.2) d:=by
 have h9:=(Qo hq).2.2;refine#[(cI t.mask q.1-q.1)+1,by omega,?_]
 rw[Jb,z8 t (cI t.mask q.1-q.1) (at_ t.mask q d)<|aM _];show t.advance _=_;exact T8 (by show¬(cI t.mask q.1-q.1)-(cI t.mask q.1-q.1)>0;omega)
theorem UV(t:cY){d:Option Nat}:∀(n:Nat){q:Nat×Nat},q.1<=t.mask->∃k,k<=10*n/\adv t k (at_ t.mask q d)=at_ t.mask (lp t.mask n q) d
 |0,q,_=>#[0,by omega,rfl]
 |n+1,q,hq=>by
  obtain⟨a,a1,a2⟩:=uf t (d:=d) hq;obtain⟨b,b1,b2⟩:=UV t (d:=d) n<|Wr t.mask q.1 q.2;exact#[a+b,by omega,by rw[Jb,a2,b2];rfl]
theorem Za0{t:cY}(T:TOk t){ha:Nat->Int}{h:Int}(hh:∀i,i<t.place.size->ha i≠h):∀(f:Nat)(p:e9),p.j+p.more<=t.mask->p.i<=t.mask->(∃k,k<f/\(adv t k p).j∉t.place.toList)->∃j,kl t ha h f p=aa (.empty j p.dummy)/\j∉t.place.toList/\j<=t.mask
 |0,_,_,_,#[_,h,_]=>by omega
 |f+1,p,h1,h2,#[k,k1,k2]=>by
  rw[kl,j8 T];by_cases c:p.j∈t.place.toList
  .rw[T9 c]
   have hc:cnt t.place.toList p.j<t.place.size:=by
    obtain⟨i,hi,e⟩:=bv c;have:=Xn (j:=p.j) T.srt i hi;have h3:¬i<cnt t.place.toList p.j:=λz=>by have:=this.mpr z;omega
    have:i<t.place.size:=by simpa using hi
    omega
   have hne:(ha (cnt t.place.toList p.j) == h)=ak:=by simpa using hh _ hc
   show ∃j,(if(ha (cnt t.place.toList p.j) == h)=aj then _ else kl t ha h f (t.advance p))=_/\_
   rw[hne,T8 aI];have ed:(t.advance p).dummy=p.dummy:=by
    unfold kY;split<;>rfl
   have g:=Za0 T hh f (t.advance p) (by
    unfold kY;split
    .show p.j+1+(p.more-1)<=t.mask;omega
    .have:=Wr t.mask p.i p.perturb
     have:=Qo this;show(du t.mask p.i p.perturb).1+(cI t.mask (du t.mask p.i p.perturb).1-(du t.mask p.i p.perturb).1)<=t.mask;omega) (by
    unfold kY;split
    .exact h2
    .exact Wr t.mask p.i p.perturb) (by
    cases k with
    |zero=>exact T7 c k2
    |succ k=>exact#[k,by omega,k2])
   rw[ed]at g;exact g
  .rw[T8 c]
   exact#[p.j,rfl,c,by omega]
def zo{t:cY}(T:TOk t)(hl:t.place.size<=t.mask):∃e,e<=t.mask/\e∉t.place.toList:=by
 by_cases c:∃e,e<=t.mask/\e∉t.place.toList
 .exact c
 .have hs:∀e∈aA (t.mask+1),e∈t.place.toList:=λe he=>by
   have:=aN.mp he;by_cases z:e∈t.place.toList
   .exact z
   .exact T7 #[e,by omega,z] c
  have:=(kS (n:=t.mask+1)).length_le_of_subset hs;rw[be,az]at this;omega
def GX{t:cY}(T:TOk t)(hl:t.place.size<=t.mask){ha:Nat->Int}{h:Int}(hh:∀i,i<t.place.size->ha i≠h):∃j,t.probe ha h (t.probeStart h)=aa (.empty j ae)/\j∉t.place.toList/\j<=t.mask:=by
 obtain⟨e,e1,e2⟩:=zo T hl;have hi:bM h%(t.mask+1)<=t.mask:=by
  have:=lD (bM h) (show 0<t.mask+1 by omega)
  omega
 obtain⟨n,n1,n2⟩:=JM T.mem hi (zW h) e1;obtain⟨k,k1,k2⟩:=UV t (d:=ae) n (q:=(bM h%(t.mask+1),bM h)) hi;have r:=Qo hi;refine Za0 T hh _ (t.probeStart h) (by
  show bM h%(t.mask+1)+(cI t.mask (bM h%(t.mask+1))-bM h%(t.mask+1))<=t.mask;omega) hi #[k,by unfold gL;omega,?_]
 show(adv t k<|at_ t.mask (bM h%(t.mask+1),bM h) ae).j∉_;rw[k2];show(lp t.mask n (bM h%(t.mask+1),bM h)).1∉_;rw[n2];exact e2
def Gb{B:Type}(xs:Array B)(p:Nat)(x:B)(hp:p<=xs.size):(bZ xs p x).toList=xs.toList.take p++x::xs.toList.drop p:=by
 unfold bZ;simp;exact ck (by simp)
def zb{l:List Nat}{j:Nat}(h:l.Pairwise (· < ·))(hj:j∉l):(l.take (cnt l j)++j::l.drop (cnt l j)).Pairwise (· < ·):=by
 have ht:∀a∈l.take (cnt l j),a<j:=λa ha=>by
  obtain⟨i,hi,rfl⟩:=bv ha;rw[bo]at hi;rw[eK];exact(Xn h i<|by omega).mpr (by omega)
 have hd:∀a∈l.drop (cnt l j),j<a:=λa ha=>by
  obtain⟨i,hi,rfl⟩:=bv ha;rw[br]at hi;rw[eL];have:=mt (Xn (j:=j) h (cnt l j+i)<|by omega).mp (by omega)
  have ne:l[cnt l j+i]≠j:=λe=>hj<|e▸aR (by omega)
  omega
 refine db.mpr #[h.sublist<|ke ..,aY.mpr #[hd,h.sublist<|nz ..],λa ha b hb=>?_]
 rcases aC.mp hb with rfl|hb
 .exact ht a ha
 .have:=ht a ha;have:=hd b hb;omega
def Z4{B:Type}(l:List B)(p:Nat)(x:B):(l.take p++x::l.drop p).Perm (x::l):=by
 refine kX.trans<|List.Perm.cons x ?_;rw[cr]
def Zci{t:cY}(T:TOk t){j:Nat}(hj:j∉t.place.toList)(hl:j<=t.mask):TOk (t.put j).1/\(t.put j).1.place.size=t.place.size+1/\(t.put j).2=cnt t.place.toList j/\(t.put j).1.mask=t.mask/\(t.put j).1.plain=t.plain/\(t.put j).1.led=t.led:=by
 have hb:=V2 (j:=j) T.srt;have hc:cnt t.place.toList j<=t.place.size:=by have:=QC t.place.toList j;simpa using this
 have hp:(t.put j).1.place.toList=t.place.toList.take (cnt t.place.toList j)++j::t.place.toList.drop (cnt t.place.toList j):=by
  show(bZ t.place (mm t.place j) j).toList=_;rw[hb,Gb _ _ _ hc]
 refine#[#[T.mem,by rw[hp];exact zb T.srt hj,λa ha=>?_,?_],?_,hb,rfl,rfl,rfl]
 .rw[hp]at ha
  rcases aC.mp ((Z4 _ _ _).mem_iff.mp ha)with rfl|ha
  .exact hl
  .exact T.le a ha
 .show(if cY.has t.dummies j=aj then _ else t.dummies) = #[]
  rw[T.dm];rfl
 .rw[<-az,hp,(Z4 _ _ _).length_eq,aE,az]
theorem UX{m:Nat}{owner:Array (Option Nat)}:∀(f i p:Nat),i<=m->(∃n,n<f/\owner.getD (lp m n (i,p)).1 (aa 0)=ae)->∃j,j<=m/\fm m owner f i p=aa j/\owner.getD j (aa 0)=ae
 |0,_,_,_,#[_,h,_]=>by omega
 |f+1,i,p,hi,#[n,n1,n2]=>by
  have r:=Qo hi;rw[fm];cases q:(aA<|cI m i+1-i).find? λk=>(owner.getD (i+k)<|aa 0).isNone with
  |some k=>
   have h1:=aN.mp<|fN q;have h2:=lS q;exact#[i+k,by omega,rfl,Option.isNone_iff_eq_none.mp h2]
  |none=>
   cases n with
   |zero=>
    have:=gg.mp q 0<|aN.mpr (by omega)
    rw[lz]at this;have n2:owner.getD i (aa 0)=ae:=n2;rw[n2]at this;exact T7 rfl this
   |succ n=>
    exact UX f _ _ (Wr m i p) #[n,by omega,n2]
theorem JS{k:Nat}:∀{l:List (Option Nat)}{j:Nat},l[j]?=aa ae->((l.set j<|aa k).filterMap id).Perm (k::l.filterMap id)
 |[],j,h=>by simp at h
 |o::l,0,h=>by
  have h:o=ae:=by simpa using h
  subst h;exact bI _
 |o::l,j+1,h=>by
  have ih:=JS (k:=k) (l:=l) (j:=j) (by simpa using h)
  cases o with|none=>exact ih|some x=>exact(ih.cons x).trans<|iX ..
theorem GD:∀{l:List (Option Nat)},(∀o∈l,o≠ae)->(l.filterMap id).length=l.length
 |[],_=>rfl
 |o::l,h=>by
  cases o with
  |none=>exact T7 rfl<|h ae<|ao ..
  |some x=>
   show(l.filterMap id).length+1=l.length+1;rw[GD λo ho=>h o<|ax _ ho]
structure Own2(m:Nat)(owner:Array (Option Nat))(k:Nat):Prop where
 sz:owner.size=m+1
 pm:(owner.toList.filterMap id).Perm (aA k)
noncomputable def jW(m:Nat)(acc:Option (Array (Option Nat)×Nat))(h:Int):Option (Array (Option Nat)×Nat):=do
 let x <-acc
 match x with
 |(owner,k)=>do
  let j <-fm m owner (gL m) (bM h%(m+1)) (bM h)
  cW (owner.setIfInBounds j<|aa k,k+1)
def vO{m k:Nat}{owner:Array (Option Nat)}{h:Int}(hm:m∈YL)(O:Own2 m owner k)(hk:k<=m):∃o',jW m (aa (owner,k)) h=aa (o',k+1)/\Own2 m o' (k+1):=by
 have hi:bM h%(m+1)<=m:=by
  have:=lD (bM h) (show 0<m+1 by omega)
  omega
 obtain⟨e,e1,e2⟩:∃e,e<=m/\owner.getD e (aa 0)=ae:=by
  by_cases c:∃e,e<=m/\owner.getD e (aa 0)=ae
  .exact c
  .have:=GD (l:=owner.toList) λo ho z=>by
    subst z;obtain⟨i,hi,e⟩:=bv ho;have hi':i<owner.size:=by simpa using hi
    refine c #[i,by rw[O.sz]at hi';omega,?_]
    rw[dr,aQ hi'];have:owner[i]=ae:=by simpa using e
    rw[this];rfl
   rw[O.pm.length_eq,be,az,O.sz]at this;omega
 obtain⟨n,n1,n2⟩:=JM hm hi (zW h) e1;obtain⟨j,j1,j2,j3⟩:=UX (owner:=owner) (gL m) _ (bM h) hi #[n,by unfold gL;omega,by rw[n2];exact e2]
 refine#[owner.setIfInBounds j<|aa k,?_,by rw[kz];exact O.sz,?_]
 .unfold jW
  show(fm m owner (gL m) (bM h%(m+1))<|bM h).bind _=_;rw[j2];rfl
 .rw[fH]
  have hj:owner.toList[j]?=aa ae:=by
   have hj:j<owner.size:=by rw[O.sz];omega
   rw[aV,aQ hj];rw[dr,aQ hj]at j3;exact congrArg aa j3
  refine(JS hj).trans<|(O.pm.cons k).trans ?_;rw[fu];exact(List.perm_append_singleton k _).symm
theorem zG{m:Nat}(hm:m∈YL):∀(hs:List Int){k:Nat}{owner:Array (Option Nat)},Own2 m owner k->k+hs.length<=m->∃o',hs.foldl (jW m) (aa (owner,k))=aa (o',k+hs.length)/\Own2 m o' (k+hs.length)
 |[],_,owner,O,_=>#[owner,rfl,O]
 |h::hs,k,owner,O,hk=>by
  rw[aE]at hk;obtain⟨o1,e1,O1⟩:=vO (h:=h) hm O (by omega)
  obtain⟨o2,e2,O2⟩:=zG hm hs O1 (by omega)
  rw[hW,e1,aE,show k+(hs.length+1)=k+1+hs.length by omega]
  exact#[o2,e2,O2]
theorem Ut{B:Type}{g:Nat->Option B}:∀l:List Nat,(l.filterMap λj=>(g j).map λx=>(j,x)).map mn=l.filter λj=>(g j).isSome
 |[]=>rfl
 |j::l=>by
  rw[dO,gY];cases h:g j with
  |none=>exact Ut l
  |some x=>
   show j::_=_;rw[Ut l];rfl
theorem VN{B:Type}{g:Nat->Option B}:∀l:List Nat,(l.filterMap λj=>(g j).map λx=>(j,x)).map nF=l.filterMap g
 |[]=>rfl
 |j::l=>by
  rw[dO,dO];cases h:g j with
  |none=>exact VN l
  |some x=>
   show x::_=_;rw[VN l]
def GM(o:Array (Option Nat)):(aA o.size).filterMap (λj=>o.getD j ae)=o.toList.filterMap id:=by
 have e:o.toList=(aA o.size).map λj=>o.getD j ae:=by
  refine bY λi=>?_
  rw[aH];by_cases h:i<o.size
  .rw[b7 h,aV,aQ h]
   show aa o[i]=aa (o.getD i ae);rw[dr,aQ h];rfl
  .rw[bC (by rw[az];omega),bC (by rw[be];omega)];rfl
 rw[e,mT];rfl
def ZaD{t:cY}{hs:Array Int}{w:Nat}(hm:cH w-1∈YL)(hn:hs.size<=cH w-1):∃t' order,t.relaid hs w=aa (t',order)/\TOk t'/\t'.mask=cH w-1/\t'.place.size=hs.size/\t'.plain=t.plain/\t'.led=t.led/\order.toList.Perm (aA hs.size):=by
 generalize hM:cH w-1=m at hm hn;have O0:Own2 m (oE (m+1) ae) 0:=#[Array.size_replicate,by
  rw[Array.toList_replicate];have:∀n,(aP n (ae:Option Nat)).filterMap id=[]:=λn=>by
   induction n with|zero=>rfl|succ n ih=>rw[bF];exact ih
  rw[this];exact bI _]
 obtain⟨o,e1,O⟩:=zG hm hs.toList O0 (by rw[az];omega)
 rw[az,gK]at e1 O
 let live:=(aA<|m+1).filterMap λj=>(o.getD j ae).map λx=>(j,x)
 have e2:nG m hs=aa o:=by
  unfold nG;rw[<-Array.foldl_toList];show((hs.toList.foldl (jW m)<|aa (oE (m+1) ae,0)).map _)=_;rw[e1];rfl
 have e3:t.relaid hs w=aa ({mask:=m,place:=(live.map mn).toArray,dummies:=#[],finger:=t.finger,led:=t.led,moves:=t.movedTo m,plain:=t.plain},(live.map nF).toArray):=by
  unfold oF;rw[hM];unfold cY.laid;rw[e2];rfl
 have hf:live.map mn=(aA<|m+1).filter λj=>(o.getD j ae).isSome:=Ut _
 have hsn:live.map nF=o.toList.filterMap id:=by
  rw[<-GM,O.sz];exact VN _
 refine#[_,_,e3,#[hm,?_,λj hj=>?_,rfl],rfl,?_,rfl,rfl,?_]
 .show(live.map mn).Pairwise (· < ·)
  rw[hf];exact lE.filter _
 .have hj:j∈live.map mn:=hj
  rw[hf]at hj;have:=aN.mp (eB.mp hj).1;show j<=m;omega
 .show(live.map mn).toArray.size=hs.size
  rw[ay,ap,<-ap (f:=nF) (as:=live),hsn,O.pm.length_eq,be]
 .show(live.map nF).Perm _
  rw[hsn];exact O.pm
def wF{es:Array (Int×al)}{order:Array Nat}(h:order.toList.Perm (aA es.size)):(order.filterMap λx=>es[x]?).toList.Perm es.toList:=by
 rw[Array.toList_filterMap];refine(h.filterMap _).trans<|f7 ?_;exact filterMap_getElem?_range _
def Vf(h:b5)(a:aK)(led:Bool)(L:List (Int×al)):Prop:=∃o es ep t,h.get? a=aa o/\o.ExactSet/\o.data=.set es ep t/\TOk t/\t.place.size=es.size/\t.plain=aj/\t.led=led/\es.toList.Perm L/\es.size*5<t.mask*3
def Vf.keep{h h':b5}{a:aK}{led:Bool}{L:List (Int×al)}(S:Vf h a led L)(k:∀o,h.get? a=aa o->h'.get? a=aa o):Vf h' a led L:=
 let #[o,es,ep,t,ho,r]:=S;#[o,es,ep,t,k o ho,r]
def Jj{t:cY}{n:Nat}(T:TOk t)(h:t.place.size=n)(hl:n*5<t.mask*3):t.fits n=aj:=by
 unfold pB kF;rw[T.dm,h,aB];exact#[by simp,T5 (by show n+0<=t.mask;omega)]
def ZaH{t:cY}{n:Nat}(T:TOk t)(h:t.place.size=n)(hl:n<=t.mask):t.fits n=aj:=by
 unfold pB kF;rw[T.dm,h,aB];exact#[by simp,T5 hl]
def qH{t:cY}(T:TOk t):t.gaveWay=ak:=by
 have:YL.all (λm=>!(m%2 == 0))=aj:=by decide
 have:=aO.mp this _ T.mem;unfold cY.gaveWay
 simpa using this
noncomputable def ww(n m:Nat):Bool:=!(ag (m*3<=n*5)&&ag ((n-1)*5<m*3))||(ag (cH (fI n)-1∈YL)&&ag (n*5<(cH (fI n)-1)*3)&&ag (cH (fI n)<=16777216))
def uk:(aA 1401).all (λn=>YL.all λm=>ww n m)=aj:=by decide +kernel
def ZaE{n m:Nat}(hn:n<=1400)(hm:m∈YL)(h1:m*3<=n*5)(h2:(n-1)*5<m*3):cH (fI n)-1∈YL/\n*5<(cH (fI n)-1)*3/\cH (fI n)<=bw:=by
 have h:=aO.mp (aO.mp uk n<|aN.mpr<|by omega) m hm
 unfold ww at h;rw[T5 h1,T5 h2]at h;simp only[aB,T0,pC,fX,kr]at h;exact#[h.1.1,h.1.2,by rw[cq];exact h.2]
section
variable{prog:bt}{w:bJ}{A:b8}{E:al->aq->Prop}{s:aq}{a x:aK}{hx:Int}{led:Bool}{L:List (Int×al)}
def qi{Q:Bool->aq->Prop}(hS:Vf s.heap a led L)(hn:∀e∈L,e.1≠hx)(hl:L.length<1400)(hv:∀{A:b8}{E:al->aq->Prop}{Q:Bool->aq->Prop},Q aj s->aW (aT prog w) A (mq 8<|.ref x) Q E s)
  (h:∀h',fb a s.heap h'->Vf h' a led ((hx,.ref x)::L)->Q aj {s with heap:=h' }):aW (aT prog w) A (nH a (.ref x) hx) Q E s:=by
 obtain⟨o,es,ep,t,ho,hex,hd,T,hp,hpl,hld,pm,hr⟩:=hS;have hf:=Jj T hp hr;have hes:es.size=L.length:=by rw[<-az,pm.length_eq]
 have hg:=qH T;unfold nH setAddHashedIn;refine b6<|ab<|dM ho hd hf ?_
 dsimp only
 rw[show byScan (.ref x) es=ak from rfl,T8 aI]
 refine ab ?_;unfold setSearch setSearchFrom;refine ab<|dM ho hd hf ?_
 dsimp only
 rw[hg,T8 aI];obtain⟨j,ej,hj,hjm⟩:=GX T (by omega) (ha:=λi=>(Option.map (λx=>x.fst) es[i]?).getD 0) (h:=hx) λi hi=>by
  rw[hp]at hi;rw[aQ hi];exact hn _<|pm.mem_iff.mp<|Array.getElem_mem_toList hi
 generalize hq:cY.probe t _ _ _=r;have hr2:r=aa (.empty j ae):=hq.symm.trans ej;subst hr2;refine aw ?_;refine ab<|dM ho hd hf ?_
 dsimp only
 obtain⟨T1,p1,c1,m1,pl1,ld1⟩:=Zci T hj hjm;generalize ht1:t.put j=t1 at T1 p1 c1 m1 pl1 ld1;obtain⟨t1,p⟩:=t1
 dsimp only at T1 p1 c1 m1 pl1 ld1 ⊢
 rw[T9<|pl1.trans hpl];refine ab<|hv ?_;rw[T9 rfl];have pm1:(bZ es p (hx,cc x)).toList.Perm ((hx,cc x)::L):=by
  have hc:p<=es.size:=by rw[c1,<-hp];have:=QC t.place.toList j;simpa using this
  rw[Gb _ _ _ hc];exact(Z4 _ _ _).trans<|pm.cons _
 have sz1:(bZ es p (hx,cc x)).size=es.size+1:=by
  rw[<-az,pm1.length_eq,aE,hes]
 refine ab<|nI ho hd ?_ (by rw[sz1,hes,cq];omega)
 have g1:=u5.store (es':=bZ es p (hx,cc x)) (t':=t1) ho hd;have sb1:=dz s.heap a<|pb (bZ es p (hx,cc x)) t1;have hmem:=T.mem;cases q:t1.tooFull with
 |false=>
  rw[T8 (by simp)]
  have hlt:¬t1.fill*5>=t1.mask*3:=of_decide_eq_false q;have hfl:t1.fill=es.size+1:=by
   unfold kF;rw[T1.dm,p1,hp];rfl
  exact aw<|h _ sb1 #[_,_,_,t1,g1,hex,rfl,T1,by rw[p1,sz1,hp],pl1.trans hpl,ld1.trans hld,pm1,by rw[sz1];omega]
 |true=>
  rw[T9 (by simp)]
  have hge:t1.fill*5>=t1.mask*3:=T6 q;have hfl:t1.fill=es.size+1:=by
   unfold kF;rw[T1.dm,p1,hp];rfl
  obtain⟨g2,g3,g4⟩:=ZaE (n:=es.size+1) (m:=t.mask) (by omega) hmem (by omega) (by omega)
  obtain⟨t2,order,e2,T2,m2,p2,pl2,ld2,om⟩:=ZaD (t:=t1) (hs:=(bZ es p (hx,cc x)).map λx=>x.fst) g2 (by rw[pc,sz1];omega)
  rw[pc]at p2 om;have pm2:=wF om;have sz2:((order.filterMap λy=>(bZ es p (hx,cc x))[y]?)).size=es.size+1:=by
   rw[<-az,pm2.length_eq,az,sz1]
  refine ab ?_;unfold setRelay;refine ab<|dM g1 rfl (ZaH T1 (by rw[p1,sz1,hp])<|by rw[sz1,m1];omega) ?_
  dsimp only
  rw[T8 (by omega)]
  generalize hq2:oF t1 _ _=r2;have hr3:r2=aa (t2,order):=hq2.symm.trans e2;subst hr3;refine ab<|cE (a:=((order.filterMap λy=>(bZ es p (hx,cc x))[y]?),t2)) ?_ ?_
  .show(if((order.filterMap λy=>(bZ es p (hx,cc x))[y]?).size != (bZ es p (hx,cc x)).size)=aj then _ else _)=_
   rw[sz2,sz1,T8 (by simp)]
  .dsimp only
   refine nI g1 rfl ?_ (by rw[sz2,hes,cq];omega)
   have g5:=u5.store (es':=(order.filterMap λy=>(bZ es p (hx,cc x))[y]?)) (t':=t2) g1 rfl
   exact aw<|h _ (sb1.trans<|dz _ a _) #[_,_,_,t2,g5,hex,rfl,T2,by rw[p2,sz2,sz1],pl2.trans<|pl1.trans hpl,ld2.trans<|ld1.trans hld,pm2.trans pm1,by rw[sz2,m2];omega]
end
open L2
noncomputable def ZdM(r:List Int):Int:=reduceHash<|fO<|r.map hashInt
def xV(h:b5)(a:aK)(r:List Int):Prop:=∃o us m,h.get? a=aa o/\o.cls=.type "tuple"/\o.data=.seq us.toArray m/\Vals (r.map V.int) us
theorem Gc{prog:bt}{w:bJ}:∀{r:List Int}{us:List al},Vals (r.map V.int) us->ItemsAre (fJ prog w) r us
 |[],_,h=>by cases h;exact .nil
 |n::r,_,h=>by
  cases h with
  |cons x h=>
   obtain⟨t,rfl⟩:=x;exact .cons (mY _ _ _ _)<|Gc h
def xV.key{prog:bt}{w:bJ}{h:b5}{a:aK}{r:List Int}(R:xV h a r):IsTupleKey (fJ prog w) h r a:=
 let #[o,us,m,h1,h2,h3,h4]:=R;#[o,us.toArray,m,h1,h2,h3,by simpa using Gc h4]
theorem JK:∀{r:List Int}{us:List al},Vals (r.map V.int) us->∀v∈us,∃n t,v=.int n t
 |[],_,h,v,hv=>by cases h;cases hv
 |n::r,_,h,v,hv=>by
  cases h with
  |cons x h=>
   obtain⟨t,rfl⟩:=x;rcases aC.mp hv with rfl|hv
   .exact#[n,t,rfl]
   .exact JK h v hv
section
variable{prog:bt}{w:bJ}{A:b8}{E:al->aq->Prop}{s:aq}
def qO(led:Bool):TOk (.fresh 0 0 led)/\(iZ 0 0 led).place.size=0/\(iZ 0 0 led).plain=aj/\(iZ 0 0 led).led=led/\0*5<(iZ 0 0 led).mask*3:=
 #[#[by show 7∈YL;decide,by show List.Pairwise _ [];exact fA,(λj h=>T7 (show j∈([]:List Nat)from h) (cg)),rfl],rfl,rfl,rfl,by show 0<21;decide]
end
end Sd
namespace Sd
open PySem PySem.Spec PyProof.Rows
noncomputable def YM(t:cY)(i:Nat):Nat:=if i=0 then 0 else t.place.toList.getD (i-1) 0+1
noncomputable def Xp(w:bJ)(t:cY)(i:Nat):Nat:=if w.params.followText "set-order" = aj then 0 else YM t i
def qY{t:cY}(T:TOk t){i:Nat}(hi:i<=t.place.size):mm t.place (YM t i)=i:=by
 rw[V2 T.srt];have hl:t.place.toList.length=t.place.size:=az;have hc:=QC t.place.toList<|YM t i;have key:∀k (hk:k<t.place.toList.length),k<i↔k<cnt t.place.toList (YM t i):=λk hk=>by
  rw[<-Xn T.srt k hk];unfold YM;cases i with
  |zero=>simp
  |succ i=>
   rw[T8 (by omega),aD,af (show i+1-1<t.place.toList.length by omega)]
   show _↔t.place.toList[k]<t.place.toList[i]+1;rcases nJ k i with z|z|z
   .have:=bh.mp T.srt k i hk (by omega) z;omega
   .subst z;omega
   .have:=bh.mp T.srt i k (by omega) hk z;omega
 rcases nJ (cnt t.place.toList<|YM t i) i with z|z|z
 .have:=(key (cnt t.place.toList<|YM t i)<|by omega).mp z;omega
 .exact z
 .have:=(key i<|by omega).mpr z;omega
structure SetO(w:bJ)(o:fC)(es:Array (Int×al))(ep:Nat)(t:cY):Prop where
 ex:o.ExactSet
 dat:o.data=.set es ep t
 ok:TOk t
 sz:t.place.size=es.size
 pl:t.plain=aj
 ld:t.led=XQ w
 rm:es.size*5<t.mask*3
def SetO.fit{w:bJ}{o:fC}{es:Array (Int×al)}{ep:Nat}{t:cY}(S:SetO w o es ep t):t.fits es.size=aj:=Jj S.ok S.sz S.rm
section
variable{prog:bt}{w:bJ}{A:b8}{E:al->aq->Prop}{s:aq}{a it:aK}{i ep:Nat}{o:fC}{es:Array (Int×al)}{t:cY}
def JB{Q:Option (al×Nat)->aq->Prop}(S:SetO w o es ep t)(hi:i<=es.size)(ho:s.heap.get? a=aa o)(h:Q (((XO w a ep es)[i]?).map λe=>(e.2,Xp w t<|i+1)) s) :
  aW (aT prog w) A (setNext a (Xp w t i) i ep) Q E s:=by
 have hf:=S.fit;have hd:=S.dat;unfold setNext;refine ab<|dM ho hd hf ?_
 dsimp only
 unfold pe;refine ab<|ab<|eX<|aw ?_;unfold XO Xp at h;unfold Xp;show aW _ _ (if w.params.followText "set-order" = aj then _ else _) _ _ _
 by_cases c:w.params.followText "set-order" = aj
 .rw[T9 c]
  rw[T9 c,T9 c]at h;rw[T8 (by simp)]
  unfold setWalk;refine ab<|ab<|dM ho hd hf ?_
  dsimp only
  unfold pe;refine ab<|ab<|eX<|aw ?_;show aW _ _ (if w.params.followText "set-order" = aj then _ else _) _ _ _
  rw[T9 c];refine ab<|eX<|aw<|aw ?_;rw[T9 c];exact h
 .rw[T8 c]
  rw[T8 c,T8 c]at h;have hl:t.led=aj:=by rw[S.ld];unfold XQ;simp[c]
  have bl:=qY S.ok (i:=i) (by rw[S.sz];exact hi)
  split
  .rename_i z
   have z:(!t.plain&&ag (es.size>1))=aj:=z;rw[S.pl]at z;exact T7 z (by simp)
  .refine ab (cE (a:=()) ?_<|aw ?_)
   .show(if(!t.led && !es.isEmpty)=aj then _ else _)=_
    rw[hl];rfl
   .rw[bl]
    by_cases lt:i<es.size
    .have e2:t.place[i]?=aa (t.place[i]'(by rw[S.sz];exact lt)):=aQ _
     have e3:YM t (i+1)=t.place[i]'(by rw[S.sz];exact lt)+1:=by
      unfold YM;rw[T8 (by omega),aD,Nat.add_sub_cancel,aV,e2];rfl
     rw[aQ lt]at h;rw[aQ lt,e2];rw[e3]at h;exact h
    .have e1:es[i]?=ae:=ly (by omega)
     rw[e1]at h;rw[e1];exact h
def X2(w:bJ)(h:b5)(it a:aK)(t:cY)(n i ep:Nat):Prop:=∃o,h.get? it=aa o/\o.cls=.type "set_iterator"/\o.data=.fields [.int (Xp w t i) 0,.int i 0,.ref a,.int n 0,.int ep 0].toArray
def xR{Q:al->aq->Prop}(S:SetO w o es ep t)(ho:s.heap.get? a=aa o)
  (hQ:Q (.ref s.heap.objs.size) {s with heap:=s.heap.push {cls:=.type "set_iterator",data:=.fields [.int (Xp w t 0) 0,.int 0 0,.ref a,.int es.size 0,.int ep 0].toArray}}):aW (aT prog w) A (ko<|.ref a) Q E s:=by
 have hf:=S.fit;have hd:=S.dat;have hT:s.TypeIs (.ref a) "set":=#[_,ho,S.ex.1];refine nK hT oG<|cA oG hT GV ?_<|F.args_set_iter_1 _;unfold dv.«frozenset.__iter__» dv.Frozenset.slot0 slotArgs dv.Frozenset.addrOf dv.Frozenset.sizeOf;refine ab<|cE (a:=a) rfl<|ab<|ab<|mE ho hd hf<|aw ?_;unfold setDrawn pe;refine ab<|ab<|dM ho hd hf<|ab<|ab<|eX<|aw<|aw ?_
 dsimp only
 have nd:∀x:Bool,(!x&&(!t.plain&&ag (es.size>1)))=ak:=λx=>by rw[S.pl];simp
 split
 .rename_i z
  exact T7 ((nd _).symm.trans z) (by simp)
 .refine ab (aw<|ab<|wpAny_setEpoch_of ho hd hf ?_)
  refine ab<|bV<|aw #[_,rfl,"set_iterator",_,#[_,aL _ rfl,rfl],Wl.lookup,?_];have z0:Xp w t 0=0:=by unfold Xp YM;split<;>rfl
  rw[z0]at hQ
  simpa[fP]using hQ
def xM{n:Nat}{Q:al->aq->Prop}(hit:X2 w s.heap it a t n i ep)(h:Q (.ref it) s):aW (aT prog w) A (ko<|.ref it) Q E s:=by
 have hT:s.TypeIs (.ref it) "set_iterator":=let #[o,h1,h2,_]:=hit;#[o,h1,h2];refine nK hT J6<|cA J6 hT xx (show aW _ _ (pS<|.ref it) _ _ s from aw #[_,rfl,"set_iterator",_,hT,Wl.lookup,h])<|vE _
def Qm{Q:Option al->aq->Prop}(S:SetO w o es ep t)(hi:i<=es.size)(hit:X2 w s.heap it a t es.size i ep)(ho:s.heap.get? a=aa o)
  (h1:∀e,(XO w a ep es)[i]?=aa e->∀h',X2 w h' it a t es.size (i+1) ep->fb it s.heap h'->Q (aa e.2) {s with heap:=h' })
  (h2:i=es.size->A.handled=ae/\∀h',kh it s.heap h'->Q ae {s with heap:=h' }):aW (aT prog w) A (l4<|.ref it) Q E s:=by
 have hf:=S.fit;have hd:=S.dat;obtain⟨oi,hq,hc,hdi⟩:=id hit;have hT:s.TypeIs (.ref it) "set_iterator":=#[oi,hq,hc];unfold l4;refine ab<|ky<|cQ (name:=nB "__next__") hT Wl<|cA Wl hT y9 ?_<|qk _;unfold dv.«set_iterator.__next__» slotArgs;refine ab<|cE (a:=(cc it,[])) rfl<|ab<|wpAny_fieldsOf hq hdi ?_
 dsimp only
 refine ab<|mE ho hd hf ?_;rw[T8 (by simp)]
 simp only[gD];refine ab<|JB S hi ho ?_;cases q:(XO w a ep es)[i]? with
 |some e=>
  refine ab<|gE hq hdi (by simp) ?_
  have g1:=d9 (pD (·.setIfInBounds 0 (fP ((Xp w t (i+1):Nat):Int)))) hq<|gP<|d7 hdi _
  have d1:=d7 hdi (·.setIfInBounds 0 (fP ((Xp w t (i+1):Nat):Int)))
  refine ab<|gE g1 d1 (by simp) ?_
  have g2:=d9 (pD (·.setIfInBounds 1 (fP<|(i:Int)+1))) g1<|gP<|d7 d1 _
  refine aw #[_,rfl,aw<|h1 e q _ #[_,g2,?_,?_]<|(dz ..).trans<|dz ..]
  .exact(ki ..).trans<|(ki ..).trans hc
  .rw[d7 d1];simp[fP]
 |none=>
  have hn:i=es.size:=by
   have:=Array.getElem?_eq_none_iff.mp q;rw[Wv]at this;omega
  obtain⟨hh,hQ⟩:=h2 hn;refine ab<|gE hq hdi (by simp) (show aW _ _ (newExc (.type "StopIteration") [] >>= _) _ _ _ from ab ?_)
  simp only[newExc,newTuple];refine ab<|bV ?_ (by size_fits)
  refine ab (m:=md _ _) (cE (a:=bi) (by first|rfl|(simp only[md];rfl))<|bV ?_ (by size_fits))
  simp only[raiseNew];refine ab<|wpAny_handled ?_;rw[show A.in1.handled=ae from hh]
  refine ab<|aw<|wpAny_throw ?_;refine ab<|kR (T:="StopIteration") (b:=aj) #[_,aL _ rfl,rfl] isSubtype_stop ?_;exact aw<|hQ _<|((dz ..).extBut.push _).push _
def X2.at{n:Nat}{h h':b5}(hit:X2 w h it a t n i ep)(k:∀o,h.get? it=aa o->h'.get? it=aa o):X2 w h' it a t n i ep:=
 let #[o,h1,r]:=hit;#[o,k o h1,r]
def uq(S:SetO w o es ep t):ml prog w "set" a a es.size (λi v=>((XO w a ep es)[i]?).map (·.2)=aa v) (λh=>h.get? a=aa o) where
 type:=λ_ hm=>#[_,hm,S.ex.1]
 there:=λ_ hm=>#[aF hm,aF hm]
 keep:=λ_ _ hm hk=>hk a (.inl rfl) _ hm
 notList:=by decide
 notTuple:=by decide
 hint:=λ_ _ _ _ hm hq=>qr #[_,hm,S.ex.1] hq
 iter:=λA s hh hm=>by
  have hne:a≠s.heap.objs.size:=bx<|aF hm;refine#[{cls:=.type "set_iterator",data:=.fields [.int (Xp w t 0) 0,.int 0 0,.ref a,.int es.size 0,.int ep 0].toArray},λi h=>i<=es.size/\X2 w h s.heap.objs.size a t es.size i ep/\h.get? a=aa o,λE Q hq=>?_,?_,cZ _,#[_,aL _ rfl,rfl,rfl],au _ hm]
  .exact xR S hm hq
  .exact{
    sub:=λb hb=>by simp at hb;simp[hb]
    frame:=λ_ _ _ st hk=>#[st.1,st.2.1.at λo e=>hk _ (by simp) o e,hk a (by simp) _ st.2.2]
    item:=λi s' Q E hi st hQ=>Qm S st.1 st.2.1 st.2.2 (λe q h' hit' sb=>hQ _ h' s'.toks (by rw[q];rfl) #[hi,hit',sb.extBut _ _ hne st.2.2] λb o hb e=>sb.extBut b o (λz=>hb<|by simp[z]) e) λz=>T7 hi (by omega)
    done:=λs' Q E st hQ=>Qm S st.1 st.2.1 st.2.2 (λe q _ _ _=>T7 (Array.getElem?_eq_some_iff.mp q).1<|by rw[Wv];omega) λ_=>#[hh,λh' eb=>hQ h' s'.toks λb o hb e=>eb b o (λz=>hb<|by simp[z]) e]
    self:=λ_ _ _ _ st hQ=>xM st.2.1 hQ}
end
open L2
open Ev (ltI Y0 ZK)
def Ym{B:Type}{l:List B}{i:Nat}{d:B}(h:i<l.length):l.getD i d=l[i]:=by
 rw[aD,af h];rfl
open Ev (E Sm Fn Bop Cop Ty Bf Mf spcs ZaY Z9)
theorem U4:∀{x:List D}{a:List Int},Pv.intsV x=aa a->x=a.map Pv.V.int
 |[],a,h=>by cases h;rfl
 |v::x,a,h=>by
  cases v with
  |int i=>
   obtain⟨b,hb,rfl⟩:=bT.mp h;rw[U4 hb];rfl
  |_=>exact Ev.nos h
theorem UU:∀{ds:List D}{rs:List (List Int)},Pv.ZL ds=aa rs->ds=rs.map Pv.Zh
 |[],rs,h=>by cases h;rfl
 |v::ds,rs,h=>by
  cases v with
  |tup x=>
   have h:(match Pv.intsV x,Pv.ZL ds with|some a,aa b=>aa (a::b)|_,_=>ae)=aa rs:=h
   cases q1:Pv.intsV x with
   |none=>rw[q1]at h;cases h
   |some a=>
    cases q2:Pv.ZL ds with
    |none=>rw[q1,q2]at h;cases h
    |some b=>
     rw[q1,q2]at h;cases h;rw[U4 q1,UU q2];rfl
  |_=>exact Ev.nos h
end Sd
namespace Sd
open PySem PyProof.Rows L2 Ev
variable{X:Cx}{xw:Nat->Hp->Prop}{C:Calls}{ns:List Nat}{e:Expr}{i:E}{pos:iA}
end Sd
namespace Sd
open PySem PySem.Spec PyProof.Rows L2
structure Kd(prog:bt)(w:bJ)(B:Type) where
 hsh:B->Int
 ob:b5->aK->B->Prop
 at':∀{h a r},ob h a r->a<h.objs.size
 keep:∀{h h':b5}{a r},ob h a r->(∀b o,h.get? b=aa o->h'.get? b=aa o)->ob h' a r
 hash:∀{A:b8}{E:al->aq->Prop}{s:aq}{Q:Int->aq->Prop}{a r},A.units+2<c7->ob s.heap a r->(∀tk,Q (hsh r) {s with toks:=tk})->aW (aT prog w) A (pyHash<|.ref a) Q E s
 hbv:∀{A:b8}{E:al->aq->Prop}{s:aq}{Q:Bool->aq->Prop}{a r},ob s.heap a r->Q aj s->aW (aT prog w) A (mq 8<|.ref a) Q E s
section
variable{prog:bt}{w:bJ}{B:Type}{A:b8}{E:al->aq->Prop}{s:aq}
noncomputable def QV(f:B->Int)(df:B)(rs:List B)(vs:List al)(i:Nat):Int×al:=(f<|rs.getD i df,vs.getD i .none)
noncomputable def Yl(f:B->Int)(df:B)(rs:List B)(vs:List al)(i:Nat):List (Int×al):=((aA i).map<|QV f df rs vs).reverse
def zC(f:B->Int)(df:B)(rs:List B)(vs:List al)(i:Nat):Yl f df rs vs (i+1)=QV f df rs vs i::Yl f df rs vs i:=by
 unfold Yl;rw[fu,bP,iu];rfl
def wm{df:B}(K:Kd prog w B){R:pN->aq->Prop}{I:aK}{fp wr:List aK}{n:Nat}{P:Nat->al->Prop}{St:Nat->b5->Prop}{led:Bool}(W:Walks prog w A.in1 I fp wr n P St)(S:aK)(hSf:S∉fp)(hu:A.units+5<c7){h0:b5}{rs:List B}{vs:List al}(hn:rs.length=n)(hnd:(rs.map K.hsh).Nodup)(h3:n<=1399)(hv:∀i x,P i x->x=vs.getD i .none)(hr:∀i,i<n->∃q,vs.getD i .none=.ref q/\K.ob h0 q (rs.getD i df))(hfr:∀b∈S::wr,h0.get? b=ae) :
  ∀(k i:Nat)(s:aq),n-i=k->i<=n->St i s.heap->Vf s.heap S led (Yl K.hsh df rs vs i)->(∀b o,h0.get? b=aa o->s.heap.get? b=aa o)->
   (∀h' tk,(∀b o,b∉S::wr->s.heap.get? b=aa o->h'.get? b=aa o)->Vf h' S led (Yl K.hsh df rs vs n)->R (.ok<|.ret .none) {s with heap:=h',toks:=tk})->fe (aT prog w) A (.builtin "set.update.loop" #[[.ref S,.ref I],[]]) R s:=by
 have hSw:S∉wr:=λz=>hSf<|W.sub _ z
 intro k
 induction k with
 |zero=>
  intro i s hk hi st hS _ hR;obtain rfl:i=n:=by omega
  refine eE kZ ?_;rw[dF gq _];show aW _ A.in1 (l4 (.ref I) >>= _) _ _ s;exact ab<|W.done s _ _ st λh' tk kp=>aw<|hR h' tk (λb o z e=>kp b o (λy=>z<|ax _ y) e)<|hS.keep λo e=>kp S o hSw e
 |succ k ih=>
  intro i s hk hi st hS k0 hR;have lt:i<n:=by omega
  refine eE kZ ?_;rw[dF gq _];show aW _ A.in1 (l4 (.ref I) >>= _) _ _ s;refine ab<|W.item i s _ _ lt st λx h1 tk hP st1 kp=>?_
  obtain⟨q,eq,Rq⟩:=hr i lt;obtain rfl:x=.ref q:=(hv i x hP).trans eq;have nf:∀b o,h0.get? b=aa o->b∉S::wr:=λb o e z=>by rw[hfr b z]at e;cases e
  have k1:∀b o,h0.get? b=aa o->h1.get? b=aa o:=λb o e=>kp b o (λy=>nf b o e<|ax _ y)<|k0 b o e
  have R1:K.ob h1 q (rs.getD i df):=K.keep Rq k1;show aW _ A.in1 (g6 [cc q] (setAdd S<|.ref q) >>= _) _ _ _;refine ab<|b6 ?_;unfold setAdd;refine b6<|ab<|K.hash (by simp;omega) R1 λtk2=>?_
  have hne:∀e∈Yl K.hsh df rs vs i,e.1≠K.hsh (rs.getD i df):=λe he z=>by
   obtain⟨j,hj,rfl⟩:=a8.mp<|dq.mp he;have hj:=aN.mp hj;have:=bh.mp hnd j i (by rw[ap];omega) (by rw[ap];omega) hj
   rw[gZ,gZ]at this;refine this ?_;have z:K.hsh (rs.getD j df)=K.hsh (rs.getD i df):=z;rw[aD,aD,af (show j<rs.length by omega),af (show i<rs.length by omega)]at z
   exact z
  have hlen:(Yl K.hsh df rs vs i).length=i:=by unfold Yl;simp
  show aW _ _ (nH S (.ref q)<|K.hsh<|rs.getD i df) _ _ _;refine qi (s:={s with heap:=h1,toks:=tk2}) (hx:=K.hsh<|rs.getD i df) (hS.keep λo e=>kp S o hSw e) hne (by omega) (λhQ=>K.hbv R1 hQ) λh2 sb hS2=>?_
  have hS2:Vf h2 S led (Yl K.hsh df rs vs<|i+1):=by rw[zC];unfold QV;rw[eq];exact hS2
  have k2:∀b o,b∉S::wr->h1.get? b=aa o->h2.get? b=aa o:=λb o z e=>by rw[sb.2 b λy=>z (by rw[y];exact ao)];exact e
  refine aw #[kD gq _,ih (i+1) _ (by omega) lt (W.frame _ _ _ st1 λb z o e=>?_) hS2 (λb o e=>k2 b o (nf b o e)<|k1 b o e) λh3 tk3 kp3 hS3=>hR h3 tk3 (λb o z e=>kp3 b o z<|k2 b o z<|kp b o (λy=>z<|ax _ y) e) hS3]
  rw[sb.2 b λy=>hSf<|y▸z];exact e
set_option maxHeartbeats 3200000 in
def xh{df:B}(K:Kd prog w B){l:aK}{items:Array al}{rs:List B}{Q:al->aq->Prop}(hh:A.handled=ae)(hu:A.units+7<c7)(hl:s.heap.IsList l items)(hn:rs.length=items.size)(hnd:(rs.map K.hsh).Nodup)(h3:rs.length<=1399)(hr:∀i,i<rs.length->∃q,items.toList.getD i .none=.ref q/\K.ob s.heap q (rs.getD i df))
  (h:∀h' tk,Vf h' s.heap.objs.size (XQ w) (Yl K.hsh df rs items.toList rs.length)->(∀b o,s.heap.get? b=aa o->h'.get? b=aa o)->Q (.ref s.heap.objs.size) {s with heap:=h',toks:=tk}):aW (aT prog w) A (call (.type "set") [.ref l]) Q E s:=by
 obtain⟨c,tl,hmro⟩:=F.called_set.mro;have hmade:=F.called_set.made;have hsub:=F.called_set.sub;refine wpAny_call<|im ?_;show aW _ _ (callAny (.type "set") _) _ _ _;refine aw #[Code.quiet_builtin _ (by decide +kernel),eE F.entry_type_call ?_];rw[b8.under_plain (weight_type_call_type "set" [.ref l] []) rfl]
 have h1:=F.called_set.notType;have h2:=F.called_set.canCreate;have hct:=F.typeCall_set_1<|.ref l
 repeat(any_goals (first|assumption|wp_step))
 let so:fC:={cls:=.type "set",dict:=ae,data:=.set #[] 0 (.fresh 0 0<|XQ w)}
 refine gy (jy (.ref l) (E:=E) (Q:=λobj s1=>obj=.ref s.heap.objs.size/\s1={s with heap:=s.heap.push so}) #[rfl,rfl]) λr s1 hr1=>?_
 cases r with
 |error e=>exact hr1
 |ok fl=>
  cases fl with
  |ret obj=>
   obtain⟨rfl,rfl⟩:=hr1;have hS:(s.heap.push so).get? s.heap.objs.size=aa so:=aL _ rfl;have hT:aq.TypeIs {s with heap:=s.heap.push so} (.ref s.heap.objs.size) "set":=#[_,hS,rfl]
   have hli:=F.called_set.init.lookup;have hbi:=F.called_set.init.bind<|.ref s.heap.objs.size
   repeat(any_goals (first|assumption|wp_step))
   refine gy (codeAny_call_builtin (R:=wants (λr s2=>r=.none/\∃h' tk,s2={s with heap:=h',toks:=tk}/\Vf h' s.heap.objs.size (XQ w) (Yl K.hsh df rs items.toList rs.length)/\∀b o,s.heap.get? b=aa o->h'.get? b=aa o) E) F.called_set.init.plain F.entry_set_init<|check_set_init_1 hT ?_) λr2 s2 hr2=>?_
   .obtain⟨⟨ocls,odict,odata,oslots⟩,hol,hcl,nl,hdl⟩:=hl
    simp only at hcl hdl;subst hcl hdl;have hol':(s.heap.push so).get? l=aa {cls:=.type "list",dict:=odict,data:=.seq items nl,slots:=oslots}:=au _ hol;have hsls:=F.sub_list_set;have hslf:=F.sub_list_frozenset;have hne:(mP "list" == mP "dict")=ak:=by decide
    have hl1:(s.heap.push so).IsList l items:=#[_,hol',rfl,nl,rfl];unfold dv.«set.__init__» noKeywords dv.Frozenset.updateFrom;generalize hPI:ko=PI
    wp_walk
    subst hPI;refine fB hl1<|ab<|wpAny_runValue ?_;have hlS:l<s.heap.objs.size:=aF hol;have sz:(s.heap.push so).objs.size=s.heap.objs.size+1:=cT ..;have hh3:A.in1.in1.in1.handled=ae:=by simp[hh]
    obtain⟨f1,f2,f3,f4,f5⟩:=qO<|XQ w;have out:∀b,b<s.heap.objs.size->b∉s.heap.objs.size::[(s.heap.push so).objs.size]:=λb hb z=>by
     rw[sz]at z;rcases aC.mp z with z|z
     .omega
     .have:=aZ.mp z;omega
    refine wm (df:=df) K (led:=XQ w) (h0:=s.heap) (rs:=rs) (vs:=items.toList) (Walks.list hh3 _ l (by rw[sz];exact bx<|dy hlS) items) s.heap.objs.size (by rw[sz];intro z;rcases aC.mp z with z|z;exact T7 z<|bx<|kP _;exact T7 (aZ.mp z)<|gw hlS) (by simp;omega) hn hnd (by omega) (λi x e=>by
     rw[aD,aV,e];rfl) (λi hi=>by
     obtain⟨q,e,R⟩:=hr i (by omega)
     exact#[q,e,R]) (λb hb=>by
     cases z:s.heap.get? b with
     |none=>rfl
     |some o=>exact T7 hb<|out b<|aF z) (items.size-0) 0 _ (by omega) (cZ _) #[#[_,aL _ rfl,rfl,rfl],hl1.push _] #[so,#[],0,_,au _ hS,#[rfl,rfl,rfl],rfl,f1,f2,f3,f4,bI _,f5] (λb o e=>au _<|au _ e) λh' tk kp hS'=>?_
    show aW _ _ _ _ _ _;refine aw ?_;show aW _ _ (pS bi) _ _ _;refine aw #[rfl,h',tk,rfl,by rw[hn];exact hS',λb o e=>kp b o (out b<|aF e)<|au _<|au _ e]
   .cases r2 with
    |error e=>exact hr2
    |ok fl2=>
     cases fl2 with
     |ret r=>
      obtain⟨rfl,h',tk,rfl,hS',hk'⟩:=hr2
      repeat(any_goals (first|assumption|wp_step))
      exact h _ _ hS' hk'
     |_=>exact hr2.elim
  |_=>exact hr1.elim
end
noncomputable def Yi(P:List (List Int)):Int:=reduceHash<|fO<|P.map ZdM
def UG(h:b5)(a:aK)(P:List (List Int)):Prop:=∃o us m,h.get? a=aa o/\o.cls=.type "tuple"/\o.data=.seq us.toArray m/\RowsIn h P us
def Xi.obj{h:b5}{r:List Int}{v:al}(R:Xi h r v):∃a,v=.ref a/\xV h a r:=
 let #[a,o,us,m,e,ho,hc,hd,hv]:=R;#[a,e,o,us,m,ho,hc,hd,hv]
theorem RowsIn.all{h:b5}:∀{P:List (List Int)}{us:List al},RowsIn h P us->∀v∈us,∃a r,v=.ref a/\xV h a r
 |_,_,.nil,v,hv=>by cases hv
 |_,_,.cons R t,v,hv=>by
  rcases aC.mp hv with rfl|hv
  .obtain⟨a,e,R⟩:=R.obj
   exact#[a,_,e,R]
  .exact RowsIn.all t v hv
section
variable{prog:bt}{w:bJ}{E:al->aq->Prop}
def uw{f:Nat}{A:b8}{s:aq}{a:aK}{r:List Int}{Q:Bool->aq->Prop}(R:xV s.heap a r)(hQ:Q aj s):aW (aT prog w) A (mq (f+1)<|.ref a) Q E s:=by
 obtain⟨o,us,m,ho,hc,hd,hv⟩:=R;have hi:=JK hv;rw[nL];refine ab<|fZ #[o,ho,hc] F.slot_tuple_hash.lookup ?_;refine ab (m:=on<|.ref a) ?_;unfold on
 refine ab<|k9 ho ?_;rw[hd];refine aw ?_;refine ab ?_;show aW _ _ (lN us.toArray (ae,()) _) _ _ s;rw[<-i4];refine gX _ (λl b s'=>b=(ae,())/\s'=s/\∀v∈l,∃n t,v=kJ n t) _ (λx rest b s' h=>?_) (λb s' h=>?_) _ _ #[rfl,rfl,hi]
 .obtain⟨rfl,rfl,h⟩:=h
  obtain⟨n,t,rfl⟩:=h x<|ao ..;refine ab<|cE (hashByValue_scannable f rfl) ?_;rw[show plainKind (kJ n t)=aj from rfl,T8 (by simp)]
  exact aw #[rfl,rfl,λv hv=>h v<|ax _ hv]
 .obtain⟨rfl,rfl,_⟩:=h
  exact aw hQ
def vS{A:b8}{s:aq}{a:aK}{P:List (List Int)}{Q:Bool->aq->Prop}(R:UG s.heap a P)(hQ:Q aj s):aW (aT prog w) A (mq 8<|.ref a) Q E s:=by
 obtain⟨o,us,m,ho,hc,hd,hv⟩:=R;have hi:=hv.all;rw[nL];refine ab<|fZ #[o,ho,hc] F.slot_tuple_hash.lookup ?_;refine ab (m:=on<|.ref a) ?_;unfold on
 refine ab<|k9 ho ?_;rw[hd];refine aw ?_;refine ab ?_;show aW _ _ (lN us.toArray (ae,()) _) _ _ s;rw[<-i4];refine gX _ (λl b s'=>b=(ae,())/\s'=s/\∀v∈l,∃a r,v=cc a/\xV s.heap a r) _ (λx rest b s' h=>?_) (λb s' h=>?_) _ _ #[rfl,rfl,hi]
 .obtain⟨rfl,rfl,h⟩:=h
  obtain⟨q,r,rfl,Rq⟩:=h x<|ao ..;refine ab<|uw (f:=6) Rq ?_;rw[T8 (by simp)]
  exact aw #[rfl,rfl,λv hv=>h v<|ax _ hv]
 .obtain⟨rfl,rfl,_⟩:=h
  exact aw hQ
theorem VL:∀(P:List (List Int))(vs:List al)(A:b8)(s:aq)(b:Array Int)(Q:Array Int->aq->Prop),RowsIn s.heap P vs->A.units<c7->
  (∀tk b',b'.toList=b.toList++P.map ZdM->Q b' {s with toks:=tk})->
  aW (aT prog w) A (lN vs b λx r=>do let h <-pyHash x;cW PUnit.unit;cW (lQ<|r.push h)) Q E s
 |[],_,A,s,b,Q,x,_,h=>by cases x;exact aw<|h s.toks b (by simp)
 |r::P,_,A,s,b,Q,x,hu,h=>by
  cases x with
  |cons x1 x2=>
   obtain⟨a,rfl,R⟩:=x1.obj;rw[ig];refine ab<|ab<|wpAny_pyHash_tuple (knd:=fJ prog w) hu R.key ?_;refine ab<|aw<|aw ?_;exact VL P _ A _ _ Q x2 hu λtk' b' hb=>h tk' b' (by rw[hb,dJ,bq];rfl)
def xb{A:b8}{s:aq}{a:aK}{P:List (List Int)}{Q:Int->aq->Prop}(hu:A.units+2<c7)(R:UG s.heap a P)(h:∀tk,Q (Yi P) {s with toks:=tk}):aW (aT prog w) A (pyHash<|.ref a) Q E s:=by
 obtain⟨o,us,m,ho,hc,hd,hv⟩:=R;refine PySem.W.pyHash_slot (T:="tuple") #[_,ho,hc] F.slot_tuple_hash F.entry_tuple_hash (F.args_tuple_hash_1 _) (by rfl) (.inr<|by omega) ?_
 show aW _ _ (fD (.ref a) >>= _) _ _ s;refine ab<|wpAny_tupleItemsOf ho hd ?_;refine ab ?_;rw[<-i4];refine VL P us A.in1 s #[] _ hv (by simp only[b8.in1_units];omega) λtk b hb=>?_
 show aW _ _ (retInt<|fO b.toList) _ _ _;rw[hb];exact ab<|wpAny_mkInt<|aw #[_,_,rfl,h _]
noncomputable def uH(prog:bt)(w:bJ):Kd prog w (List<|List Int) where
 hsh:=Yi
 ob:=UG
 at':=λ#[o,us,m,ho,_]=>aF ho
 keep:=λ#[o,us,m,ho,hc,hd,hv] k=>#[o,us,m,k _ _ ho,hc,hd,hv.lat k]
 hash:=xb
 hbv:=vS
end
open Ev (ltP XX Zr)
noncomputable def ixK{B:Type}[BEq B](df:B)(rs:List B)(r:B):Nat:=((aA rs.length).find? λi=>rs.getD i df == r).getD 0
def wP{B:Type}[BEq B][LawfulBEq B]{df:B}{rs:List B}(hnd:rs.Nodup){i:Nat}(hi:i<rs.length):ixK df rs (rs.getD i df)=i:=by
 unfold ixK;cases q:(aA rs.length).find? λk=>rs.getD k df == rs.getD i df with
 |none=>exact T7 (gg.mp q i<|aN.mpr hi) (by simp)
 |some j=>
  have h1:=aN.mp<|fN q;have h2:rs.getD j df=rs.getD i df:=by simpa using lS q
  rw[Ym h1,Ym hi]at h2;show j=i;refine(eN h1 hnd).mp ?_;rw[af h1,af hi,h2]
def Qt{B:Type}[BEq B][LawfulBEq B]{df:B}{rs:List B}(hnd:rs.Nodup){r:B}(hr:r∈rs):ixK df rs r<rs.length/\rs.getD (ixK df rs r) df=r:=by
 obtain⟨i,hi,rfl⟩:=bv hr;have:=wP (df:=df) hnd hi;rw[Ym hi]at this;rw[this];exact#[hi,Ym hi]
noncomputable def Vx{B:Type}(f:B->Int)(df:B)(rs:List B)(e:Int×al):B:=(rs.find? λr=>f r == e.1).getD df
def Ul{B:Type}{f:B->Int}{df:B}{rs:List B}{vs:List al}(hh:(rs.map f).Nodup){i:Nat}(hi:i<rs.length):Vx f df rs (QV f df rs vs i)=rs.getD i df:=by
 unfold Vx QV;cases q:rs.find? λr=>f r == f (rs.getD i df)with
 |none=>exact T7 (gg.mp q (rs.getD i df)<|by rw[Ym hi];exact aR hi) (by simp)
 |some r=>
  have h1:=fN q;have h2:f r=f (rs.getD i df):=by simpa using lS q
  obtain⟨j,hj,rfl⟩:=bv h1;show rs[j]=rs.getD i df;rw[Ym hi]at h2 ⊢;have:j=i:=by
   refine(eN (l:=rs.map f) (by rw[ap];exact hj) hh).mp ?_
   rw[aH,aH,af hj,af hi];exact congrArg aa h2
  subst this;rfl
def wq{B:Type}(df:B)(rs:List B):(aA rs.length).map (λi=>rs.getD i df)=rs:=by
 refine bY λi=>?_
 rw[aH];by_cases h:i<rs.length
 .rw[b7 h,af h]
  exact congrArg aa<|Ym h
 .rw[bC (by rw[be];omega),bC (by omega)];rfl
theorem Us{h:b5}{g:Int×al->List (List Int)}:∀{l:List (Int×al)},(∀e∈l,∃q,e.2=.ref q/\UG h q (g e))->PartsAt h (l.map g) (l.map (·.2))
 |[],_=>.nil
 |e::l,H=>by
  obtain⟨q,e1,o,us,m,h1,h2,h3,h4⟩:=H e<|ao ..;rw[bz,bz,e1];exact .cons h1 h2 h3 h4<|Us λx hx=>H x<|ax _ hx
section
variable{prog:bt}{w:bJ}{A:b8}{E:al->aq->Prop}{s:aq}{d:aK}
def JZ{rs:List (List<|List Int)}{vs:List al}{Q:al->aq->Prop}(hh:A.handled=ae)(hS:Vf s.heap d (XQ w) (Yl Yi [] rs vs rs.length))(hnd:rs.Nodup)(hhd:(rs.map Yi).Nodup)(hu:A.units+2<c7)(hne:2<=rs.length->∀r∈rs,r≠[])(h3:rs.length<=1399)(hr:∀i,i<rs.length->∃q,vs.getD i .none=.ref q/\UG s.heap q (rs.getD i []))
  (h:∀h' tk D n,(∀b o,s.heap.get? b=aa o->h'.get? b=aa o)->s.heap.objs.size<=D->h'.get? D=aa (fw "list" ((Zr ltP rs).map λr=>vs.getD (ixK [] rs r) bi).toArray n)->Q (.ref D) {s with heap:=h',toks:=tk}) :
  aW (aT prog w) A (call (.builtin "sorted") [.ref d]) Q E s:=by
 obtain⟨o,es,ep,t,ho,hex,hd,T,hp,hpl,hld,pm,hrm⟩:=hS;have SO:SetO w o es ep t:=#[hex,hd,T,hp,hpl,hld,hrm];have pm':(XO w d ep es).toList.Perm (Yl Yi [] rs vs rs.length):=Gk.trans pm;have hent:∀e∈Yl Yi [] rs vs rs.length,∃i,i<rs.length/\e=QV Yi [] rs vs i:=λe he=>by
  obtain⟨i,hi,rfl⟩:=a8.mp<|dq.mp he;exact#[i,aN.mp hi,rfl]
 generalize hl:(XO w d ep es).toList=l at pm';have hle:∀e∈l,∃i,i<rs.length/\e=QV Yi [] rs vs i:=λe he=>hent e<|pm'.mem_iff.mp he
 let rs':=l.map<|Vx Yi [] rs
 have hP:rs'.Perm rs:=by
  refine(pm'.map<|Vx Yi [] rs).trans ?_;unfold Yl;rw[gW,bL];refine(eM _).trans<|f7 ?_;rw[show(aA rs.length).map (Vx Yi [] rs∘QV Yi [] rs vs)=(aA rs.length).map λi=>rs.getD i []from cy λi hi=>Ul hhd<|aN.mp hi]
  exact wq [] rs
 have nd':rs'.Nodup:=hP.nodup_iff.mpr hnd;have RA:PartsAt s.heap rs' (l.map (·.2)):=Us λe he=>by
  obtain⟨i,hi,rfl⟩:=hle e he;rw[Ul hhd hi];exact hr i hi
 have hvs:l.map (·.2)=rs'.map λr=>vs.getD (ixK [] rs r) bi:=by
  show _=(l.map<|Vx Yi [] rs).map _;rw[bL];refine cy λe he=>?_
  obtain⟨i,hi,rfl⟩:=hle e he;show vs.getD i .none=vs.getD (ixK [] rs<|Vx Yi [] rs<|QV Yi [] rs vs i) .none;rw[Ul hhd hi,wP hnd hi]
 have hlen:l.length=rs.length:=by rw[<-hP.length_eq];show _=(l.map _).length;rw[ap]
 have hsz:es.size=rs.length:=by
  rw[<-hlen,<-hl,az,Wv]
 have hl2:rs'.length=(l.map (·.2)).length:=by show(l.map _).length=_;rw[ap,ap]
 refine GQ (vs:=l.map (·.2)) (uq SO) hh ho (λacc ha=>?_) (by omega) (by rw[ap,hlen,hsz]) (Zc8 (df:=[]) Zy nd' hl2) (VB (by simp;omega) RA nd' λh2 r hr'=>hne (by rw[ap,hlen]at h2;exact h2) r<|hP.mem_iff.mp hr') λp h' tk D n g1 g2 kp hD hL=>?_
 .refine bY λi=>?_
  rw[<-hl];by_cases hi:i<es.size
  .have hla:i<acc.size:=by rw[ha.1];exact hi
   have:=ha.2 i acc[i]<|aQ hla;rw[aH,aV,aV,this,aQ hla]
  .rw[bC (by rw[az,ha.1];omega),bC (by rw[ap,az,Wv];omega)]
 .rw[<-hl2]at g1 g2
  have out:(p.toList.map λi=>rs'.getD i [])=Zr ltP rs':=ZdN (b:=ak) Zy nd' g1 g2
  have es':Zr ltP rs'=Zr ltP rs:=Yb Zy ((ZJ _).trans<|hP.trans (ZJ _).symm) (ZZ Zy nd')<|ZZ Zy hnd;have hq:p.toList.Perm (aA rs'.length):=by simpa using bp.mp g1
  have e:(p.toList.map λi=>(l.map (·.2)).getD i bi)=(Zr ltP rs).map λr=>vs.getD (ixK [] rs r) bi:=by
   rw[<-es',<-out,bL];refine cy λi hi=>?_
   have hi:=aN.mp<|hq.mem_iff.mp hi;rw[hvs];show(rs'.map _).getD i .none=vs.getD (ixK [] rs<|rs'.getD i []) .none;rw[Ym (show i<(rs'.map _).length by rw[ap];exact hi),gZ,Ym hi]
  refine h h' tk D n kp hD ?_;rw[hL];show aa (fw "list" (cx (p.toList.map λi=>(l.map (·.2)).getD i bi)) n)=_
  rw[e]
end
open Ev (E Sm Fn Bop Cop Ty Bf Mf YO ZF)
def V8{ps:List (List<|List Int)}(h:YO ps=aj):ps.Nodup/\(ps.map Yi).Nodup/\(2<=ps.length->∀P∈ps,P≠[])/\ps.length<=1399:=by
 unfold YO at h;rw[aB,aB,T0,T0]at h;obtain⟨h1,h2,h3⟩:=h;unfold ZF at h1;rw[aB,aB,T0,T0,fq,T0,aO]at h1;refine#[h1.1.2,h3,λh4 P hP e=>?_,h2]
 rcases h1.2 with h|h
 .omega
 .have:=h P hP
  rw[e]at this;cases this
theorem U8:∀ps:List (List<|List Int),Pv.ZX (ps.map Pv.Zb)=aa ps
 |[]=>rfl
 |P::ps=>by
  show(match Pv.ZL (P.map Pv.Zh),Pv.ZX (ps.map Pv.Zb)with|some a,aa b=>aa (a::b)|_,_=>ae)=_
  rw[JQ P,U8 ps]
theorem Uj:∀{ds:List D}{ps:List (List<|List Int)},Pv.ZX ds=aa ps->ds=ps.map Pv.Zb
 |[],ps,h=>by cases h;rfl
 |d::ds,ps,h=>by
  obtain⟨ks,a,b,rfl,q1,q2,rfl⟩:=Ug h;rw[UU q1,Uj q2];rfl
theorem XS{h:b5}:∀{rs:List (List<|List Int)}{us:List al},PartsAt h rs us->∀i,i<rs.length->∃q,us.getD i .none=.ref q/\UG h q (rs.getD i [])
 |_,_,.nil,i,hi=>by cases hi
 |_,_,.cons (a:=a) h1 h2 h3 h4 R,0,_=>#[a,rfl,_,_,_,h1,h2,h3,h4]
 |_,_,.cons h1 h2 h3 h4 R,i+1,hi=>XS R i (by simpa using hi)
def Zdj(te:TE):TE:=λU H Q=>te U H λv H1=>∃(O:Mx)(a:aK)(xs:List V)(rs:List (List<|List Int)),v=.ref a/\H1 a=aa (.lst xs)/\Reps O H1 (rs.map Pv.Zb) xs/\YO rs=aj/\∀D,H1 D=ae->Q (.ref D) (upd H1 D<|.lst<|(Zr ltP rs).map λr=>xs.getD (ixK [] rs r) V.non)
def GK{X:Cx}{e:Expr}{te:TE}{p p2 p3 pos:iA}(hc:X.calm=aj)(hu:X.A.units+7<c7)(he:PE X e te)(hm1:X.mg "sorted" = ae)(hm2:X.mg "set" = ae)(hg1:Gl X "sorted")(hg2:Gl X "set")
  (hs1:aJ [e] X.env=(ak,cC e X.env)::aJ [] X.env)(hs2:aJ [.Call (.Name "set" p2) [e] [] p3] X.env=(ak,cC (.Call (.Name "set" p2) [e] [] p3) X.env)::aJ [] X.env) :
  PE X (.Call (.Name "sorted" p) [.Call (.Name "set" p2) [e] [] p3] [] pos) (Zdj te):=by
 intro pq s U H Q I h;refine fg<|Yx I hg1 hm1 (by rfl) ?_ (by decide) (by decide)
 refine gT ?_ hs2 rfl;rw[hs2];show aW _ _ (spliced ((ak,cC (.Call (.Name "set" p2) [e] [] p3) X.env)::eO pos (aJ [] X.env))) _ _ s;refine Calls.spliced_cons ?_;refine fg<|Yx I hg2 hm2 (by rfl) ?_ (by decide) (by decide)
 refine bS ?_ hs1 rfl;rw[hs1];show aW _ _ (spliced ((ak,cC e X.env)::eO p3 (aJ [] X.env))) _ _ s;refine Calls.spliced_cons<|thn (he pq s U H _ I h) λu s1 #[x,H1,I1,r1,O,a,xs,rs,ex,ha,rx,hok,q1]=>Calls.spliced_nil ?_
 subst ex;cases(show u=cc a from r1)
 obtain⟨nd,hnd,hne,h3⟩:=V8 hok;obtain⟨hz,us,n,rel,ho⟩:=I1.hok a _ ha;obtain⟨RA,_⟩:=VD I1 (U8 rs) rx rel;have hlx:xs.length=rs.length:=by rw[rx.length,ap]
 have hlen:us.length=rs.length:=by rw[<-rel.length,hlx]
 have hh:=I1.ok.hd hc;refine xh (uH X.prog X.w) (df:=[]) (rs:=rs) (items:=us.toArray) hh hu #[_,ho,rfl,n,rfl] (by simp[hlen]) hnd h3 (λi hi=>XS RA i hi) λh2 tk2 hS k2=>?_
 refine Calls.spliced_nil ?_;have hS:Vf h2 s1.heap.objs.size (XQ X.w) (Yl Yi [] rs us rs.length):=hS;refine JZ (s:={s1 with heap:=h2,toks:=tk2}) hh hS nd hnd (by omega) hne h3 (λi hi=>by
  obtain⟨q,e,R⟩:=XS RA i hi;exact#[q,e,(uH X.prog X.w).keep R k2]) λh3' tk3 D m k3 hD hL=>?_
 have le:s1.heap.objs.size<=D:=by
  obtain⟨o,_,_,_,hg,_⟩:=hS;exact cM (gv<|aF hg) hD
 have hix:∀i∈(Zr ltP rs).map (ixK [] rs),i<xs.length:=λi hi=>by
  obtain⟨r,hr,rfl⟩:=a8.mp hi;rw[hlx];exact(Qt nd<|(ZJ rs).mem_iff.mp hr).1
 have rv:=VC (F:=(Zr ltP rs).map<|ixK [] rs) rel hix;rw[bL,bL]at rv;refine#[.ref D,_,I1.laid (a:=D) (o:=.lst<|(Zr ltP rs).map λr=>xs.getD (ixK [] rs r) V.non) (h':=h3') (t':=tk3) (λb o e=>k3 b o<|k2 b o e) le #[?_,_,m,rv,hL],rfl,q1 D<|I1.hok.fresh le]
 rw[ap,(ZJ rs).length_eq,cq];omega
def zd{X:Cx}{xw:Nat->Hp->Prop}{C:Calls}{e:Expr}{i:E}{p p2 p3 pos:iA}(hc:X.calm=aj)(hu:X.A.units+7<c7)(he:CE X xw C e i)(hm1:X.mg "sorted" = ae)(hm2:X.mg "set" = ae)(hg1:Gl X "sorted")(hg2:Gl X "set")
  (hs1:aJ [e] X.env=(ak,cC e X.env)::aJ [] X.env)(hs2:aJ [.Call (.Name "set" p2) [e] [] p3] X.env=(ak,cC (.Call (.Name "set" p2) [e] [] p3) X.env)::aJ [] X.env) :
  CF X xw C (.Call (.Name "sorted" p) [.Call (.Name "set" p2) [e] [] p3] [] pos) (.blt .sortedU [i]):=.mk <| PE.imp (GK hc hu he.h hm1 hm2 hg1 hg2 hs1 hs2)<|by
 rintro U H Q ⟨O,l,S,st,lr,h⟩;rw[Pv.pv,Pv.pvs,Yj]at h;refine#[O,l,S,st,lr,h.bind λx S1 ρ1 H1 v f1 st1 r1 h1=>?_]
 cases f1.eq;rw[Pv.pvs]at h1;obtain⟨z,hz,h2⟩:=End.po h1;clear h1;cases x with
 |lst ds=>
  obtain⟨rs,e1,hz⟩:=cR.mp hz;split at hz
  case isFalse=>cases hz
  rename_i hok
  cases hz;obtain⟨a,xs,rfl,ha,_,rx⟩:=r1.lst';have hds:ds=rs.map Pv.Zb:=Uj e1;subst hds;obtain⟨nd,_,_,_⟩:=V8 hok;refine#[O,a,xs,rs,rfl,ha,rx,hok,?_];have hix:∀i∈(Zr ltP rs).map (ixK [] rs),i<rs.length:=λi hi=>by
   obtain⟨r,hr,rfl⟩:=a8.mp hi;exact(Qt nd<|(ZJ rs).mem_iff.mp hr).1
  have rm:=UM (enc:=Pv.Zb) (df:=[]) (F:=(Zr ltP rs).map<|ixK [] rs) rx hix;have e2:((Zr ltP rs).map<|ixK [] rs).map (λi=>rs.getD i [])=Zr ltP rs:=by
   rw[bL];exact(cy λr hr=>(Qt nd<|(ZJ rs).mem_iff.mp hr).2).trans<|List.map_id' _
  rw[e2,bL]at rm;exact End.newF (show End X.K xw (XB aj H) O H1 Q (.ok (.lst<|(Zr ltP rs).map Pv.Zb) S1)from h2) f1 st st1 rm
 |_=>exact Ev.nos hz
section
variable{X:Cx}{pq:List (aK×fC)}{U:L2.St}{H:Hp}{s:aq}{O:Mx}{S:Zo}
open Classical in
def xm(I:Inv X pq U H s){A:b8}{x:D}{ds:List D}{xs:List V}{its:List al}{b:Bool}{v:V}{vv:al}(hu:A.units+6<c7)(rx:Rep O H x v)(ex:Zu v vv)
  (q:Reps O H ds xs)(vs:Vals xs its)(h:Pv.YR x ds=aa b):∃e:al->Bool,(∀u,u∈its.toArray->fE A s u vv (e u))/\∀m (hm:m<its.length) (hd:m<ds.length),e its[m]=(Pv.eqV Ev.Zi ds[m] x == aa aj):=by
 have key:∀m (hm:m<its.length) (hd:m<ds.length),∃c,Pv.eqV Ev.Zi ds[m] x=aa c/\ag (∃d∈ds,∃w,Rep O H d w/\Zu w its[m]/\Pv.eqV Ev.Zi d x=aa aj)=c/\fE A s its[m] vv c:=λm hm hl=>by
  obtain⟨w,g,r⟩:=q.get<|af hl;obtain⟨u',g',r'⟩:=vs.get g;have eu:u'=its[m]:=by
   rw[af hm]at g';exact(ai g').symm
  subst eu;obtain⟨c,hc⟩:=Vi h ds[m]<|aR hl;refine#[c,hc,?_,QL I 6 A ds[m] x w v its[m] vv c hu r rx r' ex hc];cases c with
  |true=>exact T5 #[ds[m],aR hl,w,r,r',hc]
  |false=>
   refine T4 ?_
   rintro ⟨d,hd,w',a1,a2,a3⟩
   cases a2.inj r';exact T7 (Vl 6 d ds[m] x w aj ak a1 r a3 hc) (by decide)
 refine#[λu=>ag (∃d∈ds,∃w,Rep O H d w/\Zu w u/\Pv.eqV Ev.Zi d x=aa aj),λu hu'=>?_,λm hm hd=>?_]
 .obtain⟨j,hj,rfl⟩:=bv (show u∈its by simpa using hu')
  have hl:j<ds.length:=by rw[<-q.length,vs.length];exact hj
  obtain⟨c,_,e1,e2⟩:=key j hj hl
  dsimp only
  rw[e1];exact e2
 .obtain⟨c,e0,e1,_⟩:=key m hm hd
  dsimp only
  rw[e1,e0];cases c<;>rfl
end
section
variable{X:Cx}
def ZeG(K:am):V->List V->Hp->VK->Prop:=λx vs H Q=>∃(O:Mx)(l:aK)(xs:List V)(y:V)(ds:List D)(d:D)(j:Nat),x=.ref l/\vs=[y]/\H l=aa (.lst xs)/\Reps O H ds xs/\Rep O H d y/\Pv.xK d ds=aa j/\Q (.int j) H
def Zbw(hu:X.A.units+7<c7):MtM X "list.index" (ZeG X.K):=by
 intro pq s U H x vs v us Q I rx rv h;obtain⟨O,l,xs,y,ds,d,j,rfl,rfl,hH,rs,rd,hj,q⟩:=h;cases rx;obtain⟨u,rfl,ru⟩:=rv.one;obtain⟨z,its,n,r,hl,e⟩:=I.lstM hH;unfold Pv.xK at hj;split at hj
 case isFalse=>cases hj
 rename_i hin
 obtain⟨hjl,h1,h2⟩:=gu.mp hj;have hlen:its.length=ds.length:=by rw[<-r.length,rs.length]
 obtain⟨f,f1,f2⟩:=xm I (A:=X.A.in1) (by simp;omega) rd ru rs r hin
 have hsz:its.toArray.size=its.length:=by simp
 refine fF F.slot_list_index #[_,e,rfl] F.entry_list_index (F.args_list_index_2 _ _) (PySem.SeqAt.list_indexAt l its.toArray n ae #[] u f j (by rw[hsz];omega) (by
  have:bw=16777216:=rfl;rw[r.length]at z;omega) (by
   have:=f2 j (by omega) hjl
   simpa[h1]using this) λm hm hmj=>by
   have:=f2 m (by omega) (by omega)
   have h3:=h2 m hmj
   simpa[h3]using this) #[e,f1,#[.int j,H,I.tok _,#[_,rfl],q]]
end
section
variable{X:Cx}{xw:Nat->Hp->Prop}{C:Calls}{a b:Expr}{i:Ev.E}{n:Nat}{apos cpos:iA}
def vx(hu:X.A.units+7<c7)(ha:CE X xw C a i)(hb:CE X xw C b (.v n))
  (hbase:kq a "index" X.env (cC a X.env)=cC a X.env)
  (hfew:((eO cpos<|aJ [b] X.env).all (λx=>!x.1)&&(oS cpos<|l8 [] X.env).all (λx=>x.1.isSome)
   && ag (([b]:List Expr).length+([]:List lu).length+(if([]:List lu).isEmpty then 0 else 1)<30))=aj)
  (hline:(apos.endLine == cpos.line)=aj)(hs:aJ [b] X.env=(ak,cC b X.env)::aJ [] X.env)(hplain:(eO cpos<|aJ [] X.env).any (·.1)=ak) :
  CE X xw C (.Call (.Attribute a "index" apos) [b] [] cpos) (.blt .index [i,.v n]):=.mk <|
 PE.imp (wv gn PySem.F.slot_list_index PySem.F.type_list_index (Zbw hu) ha.h (Xv hb.h Vv hs) hbase hfew hline hs hplain)<|by
 rintro U H Q ⟨O,l,S,st,lr,h⟩;have e:Pv.pv C (.blt .index [i,.v n]) l S=(Pv.pv C i l S).bind λx S=>(Pv.po (l[n]?).join S).bind λy S=>Pv.po (Pv.blt2 .index x y) S:=by
  rw[Pv.pv,Pv.pvs,Yj]
  congr 1
  funext x S
  rw[Pv.pvs,Pv.pv];cases(l[n]?).join<;>simp[Pv.pvs,Pv.po,Pv.PR.bind,Pv.Xb]
 rw[e]at h;refine#[O,l,S,st,lr,h.bind λx S1 ρ1 H1 v f1 st1 r1 h1=>?_]
 cases q:(l[n]?).join with
 |none=>rw[q]at h1;exact h1.elim
 |some y=>
  rw[q]at h1;have h1:End X.K xw Rep ρ1 H1 Q (Pv.po (Pv.blt2 .index x y) S1):=h1;obtain⟨z,hz,h2⟩:=End.po h1;cases x with
  |lst ds=>
   obtain⟨j,hj,rfl⟩:=bT.mp hz;obtain⟨p,xs,rfl,hp,_,_⟩:=r1.lst';refine#[.inl #[rfl,xs,SqL.of hp],ρ1,l,S1,st1,lr.mono f1,?_];rw[Pv.pv,q];intro ρ2 H2 w f2 st2 r2;obtain⟨p',xs',e,hp',_,rs⟩:=(r1.mono f2).lst';cases e;exact#[ρ2,p,xs',w,ds,y,j,rfl,rfl,hp',rs,r2,hj,h2 ρ2 H2 _ f2 st2<|ZB _]
  |int m=>cases y<;>exact Ev.nos hz
  |_=>exact Ev.nos hz
end
end Sd
namespace Gn
open PySem PySem.Spec PyProof.Rows L2
open Ev (E Sm Fn Bop Cop Ty Bf Mf)
open Sd (Calls spF CompScope cxC hu7 yy wH)
structure FR where
 x:bE
 st:fR
 N:List bE
 k:Nat
noncomputable def FR.ps(r:FR):List bE:=r.N.take r.k
noncomputable def scB(N:List bE)(k:Nat)(sc:eT):Bool:=
 (match sc.kind with|.function=>aj|_=>ak)&&(!sc.isCoroutine&&(!sc.isGenerator&&(decide N.Nodup&&((N.take k).all (λx=>ag (sc.names.lookup x=aa .local)||decide (sc.names.lookup x=aa .cell))&&sc.names.all λy=>ag<|y.2≠.free))))
def Zbt(h:scB N k sc=aj):FnScope N (N.take k) sc:=by
 unfold scB at h;simp only[aB,km,T0,aO,fq]at h;obtain⟨h1,h2,h3,h4,h5,h6⟩:=h;refine#[?_,h2,h3,h4,?_,h5,h6]
 .cases e:sc.kind<;>rw[e]at h1<;>first|rfl|cases h1
 .rw[bo]
  by_cases hk:k<=N.length
  .rw[lR hk]
  .rw[Nat.min_eq_right (by omega),gU,ck (by omega)]
inductive Gv where
 |int (n:Int)|tab (t:List (Int×Int))
 deriving DecidableEq
def Zdk(K:am)(mg:bE->Option al)(x:bE):Gv->Prop
 |.int n=>∃t:pL,mg x=aa (.int n t)
 |.tab t=>∃tb:aK,(∀P w,Sd.Zaj P w K tb t)/\mg x=aa (.ref tb)
structure Top(K:am)(mg:bE->Option al)(fs:List FR)(zs:List bE)(gs:List (bE×Gv))(f:Nat->aK)(fd:Nat->cX):Prop where
 d:∀i r,fs[i]?=aa r->Fun K r.x r.x r.st (f i) (fd i)
 b:∀i r,fs[i]?=aa r->Vw K (fd i) r.ps []
 m:∀i r,fs[i]?=aa r->mg r.x=aa (.ref<|f i)
 z:∀x∈zs,mg x=ae
 g:∀y∈gs,Zdk K mg y.1 y.2
def All(P:bt)(w:bJ)(K:am)(mg:bE->Option al)(base:b5)(fs:List FR)(F:List Fn)(tk:Nat)(sn:List Nat)(f:Nat->aK)(fd:Nat->cX)(d:Nat):Prop:=
 ∀i r,fs[i]?=aa r->FnOk P w K mg base CX0 d (f i) (fd i) r.ps (spF K (Pv.Zj F tk d) (sn.contains i) i)
def Bd(fs:List FR)(zs:List bE)(gs:List (bE×Gv))(F:List Fn)(tk:Nat)(sn:List Nat)(i:Nat)(r:FR)(fn:Fn):Prop:=
 ∀(P:bt)(w:bJ)(K:am)(mg:bE->Option al)(base:b5)(f:Nat->aK)(fd:Nat->cX)(d:Nat),Top K mg fs zs gs f fd->All P w K mg base fs F tk sn f fd d->r.N.Nodup->
  ∀(cdv:al)(A:b8)(outer:List Env)(s:aq)(H:Hp)(E:XK),Room d (A.deeper<|iK r.x (Zv r.st) s.heap.objs.size (f i) cdv)->(A.deeper<|iK r.x (Zv r.st) s.heap.objs.size (f i) cdv).units+7<c7->
   Sd.CSs (Jw CX0 P w K mg base r.N r.x (Zv r.st) (f i) cdv A outer s H E).nox (λ_ _=>False) (sn.contains i) (Pv.Zj F tk d) (Pv.muts fn.body) (Ya r.st) fn.body
def OkL(fs:List FR)(zs:List bE)(gs:List (bE×Gv))(F:List Fn)(tk:Nat)(sn:List Nat):Nat->List FR->List Fn->Prop
 |_,[],[]=>True
 |i,r::rs,fn::fns=>(fn.ns=r.N.length/\fn.ps=r.ps.length/\scB r.N r.k (Zv r.st)=aj/\Bd fs zs gs F tk sn i r fn)/\OkL fs zs gs F tk sn (i+1) rs fns
 |_,_,_=>False
theorem OkL.get{fs:List FR}{zs:List bE}{gs:List (bE×Gv)}{F:List Fn}{tk:Nat}{sn:List Nat}:∀{rs:List FR}{fns:List Fn}{i0:Nat},OkL fs zs gs F tk sn i0 rs fns->∀i r,rs[i]?=aa r->∃fn,fns[i]?=aa fn/\fn.ns=r.N.length/\fn.ps=r.ps.length/\scB r.N r.k (Zv r.st)=aj/\Bd fs zs gs F tk sn (i0+i) r fn
 |[],_,_,_,i,r,e=>by simp at e
 |_::_,[],_,h,_,_,_=>h.elim
 |r::rs,fn::fns,i0,h,0,r',e=>by
  simp at e;subst e;exact#[fn,rfl,h.1.1,h.1.2.1,h.1.2.2.1,h.1.2.2.2]
 |r::rs,fn::fns,i0,h,i+1,r',e=>by
  obtain⟨g,a,b,c,d,q⟩:=OkL.get h.2 i r' (by simpa using e)
  exact#[g,by simpa using a,b,c,d,by rw[kA,nj 1 i]at q;exact q]
theorem vJ{P:bt}{w:bJ}{K:am}{mg:bE->Option al}{base:b5}{fs:List FR}{zs:List bE}{gs:List (bE×Gv)}{F:List Fn}{tk:Nat}{sn:List Nat}{f:Nat->aK}{fd:Nat->cX}(O:OkL fs zs gs F tk sn 0 fs F)(hT:F[tk]?=aa Sd.XZ)(T:Top K mg fs zs gs f fd):∀d,All P w K mg base fs F tk sn f fd d
 |0=>λi r h=>yy
 |d+1=>λi r h=>by
  obtain⟨fn,a,b,c,e,q⟩:=O.get i r h;rw[gK]at q;have S:=Zbt e;have hb:=λcdv A outer s H E hr=>(q P w K mg base f fd d T (vJ O hT T d) S.nd cdv A outer s H E hr<|hu7 hr)
  by_cases ht:i=tk
  .subst ht
   rw[hT]at a;cases a;exact Sd.v8 Sd.Zaf b c (T.d i r h) S hb
  .exact Sd.v8 (Sd.qx ht a) b c (T.d i r h) S hb
def JN(r:FR):Prop:=∀(kV doc pm:al)(an:Option aK)(cdv ct:al)(us:List al),us.length=r.ps.length->oR (dQ r.x r.x (YK r.st) (Ya r.st) (Zv r.st) .none kV doc pm an cdv ct) #[us,[]]=cW (r.ps.zip us)
section
variable{x:bE}{st:fR}
noncomputable abbrev bA(x:bE)(st:fR)(kV doc pm:al)(an:Option aK)(cdv ct:al)(us:List al):=oR (dQ x x (YK st) (Ya st) (Zv st) .none kV doc pm an cdv ct) #[us,[]]
def bd1(h:∀kV doc pm an cdv ct a0,bA x st kV doc pm an cdv ct [a0]=cW ((N.take n).zip [a0]))(hl:(N.take n).length=1:=by rfl):JN #[x,st,N,n]:=λkV doc pm an cdv ct us e=>match us,e.trans hl with|[a0],_=>h kV doc pm an cdv ct a0
def bd2(h:∀kV doc pm an cdv ct a0 a1,bA x st kV doc pm an cdv ct [a0,a1]=cW ((N.take n).zip [a0,a1]))(hl:(N.take n).length=2:=by rfl):JN #[x,st,N,n]:=λkV doc pm an cdv ct us e=>match us,e.trans hl with|[a0,a1],_=>h kV doc pm an cdv ct a0 a1
def bd3(h:∀kV doc pm an cdv ct a0 a1 a2,bA x st kV doc pm an cdv ct [a0,a1,a2]=cW ((N.take n).zip [a0,a1,a2]))(hl:(N.take n).length=3:=by rfl):JN #[x,st,N,n]:=λkV doc pm an cdv ct us e=>match us,e.trans hl with|[a0,a1,a2],_=>h kV doc pm an cdv ct a0 a1 a2
end
inductive FnsAt(K:am):List FR->List aK->List cX->Prop
 |nil:FnsAt K [] [] []
 |cons {x:bE} {st:fR} {N:List bE} {n:Nat} {a:aK} {rs:List FR} {as:List aK} {fds:List cX} {oc kV dc pm cd ct:al} {od an:Option aK} {sl:Array (Option al)}
   (h1:gM K cJ x=aa (aa<|.ref a)) (h2:K.lookup a=aa #[oc,od,.func<|dQ x x (YK st) (Ya st) (Zv st) .none kV dc pm an cd ct,sl])
   (h3:iL K cd x=aj) (h4:gz K (.ref a)=aj) (h5:JN #[x,st,N,n]) (t:FnsAt K rs as fds) :
   FnsAt K (#[x,st,N,n]::rs) (a::as) (dQ x x (YK st) (Ya st) (Zv st) .none kV dc pm an cd ct::fds)
inductive ZsAt(K:am):List bE->Prop
 |nil:ZsAt K []
 |cons {x:bE} {zs:List bE} (h:gM K cJ x=aa ae) (t:ZsAt K zs):ZsAt K (x::zs)
inductive GsAt(K:am):List (bE×Gv)->Prop
 |nil:GsAt K []
 |cons {x:bE} {n:Int} {u:pL} {gs:List (bE×Gv)} (h:gM K cJ x=aa (aa<|.int n u)) (t:GsAt K gs):GsAt K ((x,.int n)::gs)
 |tab {x:bE} {a:aK} {es:Array iH} {n:Nat} {tb:List (Int×Int)} {gs:List (bE×Gv)} (h:gM K cJ x=aa (aa<|.ref a)) (h2:K.lookup a=aa #[.type "dict",ae,.dict es n,#[]]) (h3:Sd.YQ es.toList tb) (h4:(a == gR)=ak) (t:GsAt K gs):GsAt K ((x,.tab tb)::gs)
theorem GsAt.get{K:am}{h:b5}{mg:bE->Option al}(X:K.In h)(G:h.Ns cJ mg):∀{gs:List (bE×Gv)},GsAt K gs->∀y∈gs,Zdk K mg y.1 y.2
 |_,.nil,x,h=>by simp at h
 |_,.cons h t,x,m=>by
  rcases aC.mp m with rfl|m
  .exact#[_,mL X G h]
  .exact t.get X G x m
 |_,.tab h h2 h3 h4 t,x,m=>by
  rcases aC.mp m with rfl|m
  .exact#[_,λP w=>Sd.j7 h2 h3 h4,mL X G h]
  .exact t.get X G x m
theorem FnsAt.get{K:am}{fd0:cX}:∀{fs:List FR}{as:List aK}{fds:List cX},FnsAt K fs as fds->∀i r,fs[i]?=aa r->
  gM K cJ r.x=aa (aa<|.ref<|as.getD i 0)/\Fun K r.x r.x r.st (as.getD i 0) (fds.getD i fd0)/\JN r
 |_,_,_,.nil,i,r,e=>by simp at e
 |_,_,_,.cons h1 h2 h3 h4 h5 t,0,r,e=>by
  simp at e;subst e;exact#[h1,ZcO h2 h3 h4,h5]
 |_,_,_,.cons h1 h2 h3 h4 h5 t,i+1,r,e=>by
  obtain⟨a,b,c⟩:=t.get i r (by simpa using e)
  exact#[by simpa using a,by simpa using b,c]
theorem ZsAt.get{K:am}:∀{zs:List bE},ZsAt K zs->∀x∈zs,gM K cJ x=aa ae
 |_,.nil,x,h=>by simp at h
 |_,.cons h t,x,m=>by
  rcases aC.mp m with rfl|m
  .exact h
  .exact t.get x m
def Zck{l:lL}{w:bJ}{K:am}{h:b5}{mg:bE->Option al}{fa:aK}{fs:List FR}{zs:List bE}{gs:List (bE×Gv)}{F:List Fn}{tk L:Nat}{sn:List Nat}{st:fR}{N:List bE}{as:List aK}{fds:List cX}
  (X:K.In h)(G:h.Ns cJ mg)(hfa:mg "law" = aa (.ref fa))(hL:fs[L]?=aa #["law",st,"_law_script" :: N,1])(O:OkL fs zs gs F tk sn 0 fs F)(hT:F[tk]?=aa Sd.XZ)(hLs:sn.contains L=ak)(A:FnsAt K fs as fds)(Z:ZsAt K zs)(Y:GsAt K gs) :
  ∃fd:cX,(∀(s:aq)(v:al),nc s fd #[[v],[]] [("_law_script",v)])/\∀base:b5,K.In base->base.Ns cJ mg->FnOk l.prog w K mg base CX0 65 fa fd ["_law_script"] (spF K (Pv.Zj F tk 65) ak L):=by
 cases fds with
 |nil=>cases A;simp at hL
 |cons fd0 fds'=>
 have T:Top K mg fs zs gs (λi=>as.getD i 0) (λi=>(fd0::fds').getD i fd0):=
  #[λi r e=>(A.get i r e).2.1,λi r e=>by
   obtain⟨_,F,B⟩:=A.get (fd0:=fd0) i r e;exact F.binds B,λi r e=>mL X G (A.get (fd0:=fd0) i r e).1,λx hx=>PySem.W.mg_none_of X G<|Z.get x hx,λy hy=>Y.get X G y hy]
 have e:=hfa.symm.trans<|T.m L _ hL;obtain⟨_,Fu,B⟩:=A.get (fd0:=fd0) L _ hL;cases e;refine#[(fd0::fds').getD L fd0,λs v=>?_,λbase _ _=>?_]
 .obtain⟨oc,od,kV,doc,pm,an,cdv,ct,osl,e,lk,hcd⟩:=Fu.ex
  rw[e];exact .of_eq<|B kV doc pm an cdv ct [v] rfl
 .have:=vJ (P:=l.prog) (w:=w) (base:=base) O hT T 65 L _ hL
  rw[hLs]at this;exact this
def walk{l:lL}{q:bt}{loose:List bE}{XP:(bE->Option al)->b5->Prop}{YP:bJ->b5->Prop}{d:DefRec}{K:Params->am}{F:List Fn}{tk L:Nat}(hok:∀(ns:List Int) s,∃S,Pv.Zj F tk 65 L [.scr ns] s=.ok (.bl aj) S)(hn:l.most=aa 63)(hdf:d.params.defaults=[])
  (hY:∀(w:bJ)(h:b5),YP w h->(K w.params).In h)
  (hF:∀(w:bJ)(mg:bE->Option al)(fa:aK)(h:b5),(K w.params).In h->h.Ns cJ mg->mg d.name=aa (.ref fa)->
   ∃fd:cX,(∀(s:aq)(u:al),nc s fd #[[u],[]] [("_law_script",u)])/\∀base:b5,(K w.params).In base->base.Ns cJ mg->FnOk l.prog w (K w.params) mg base CX0 65 fa fd ["_law_script"] (spF (K w.params) (Pv.Zj F tk 65) ak L)) :
  pz q loose XP YP l.row.toRowW d [] (λf vs=>oU f vs):=
 L2.jp (n:=63) (k:=65) (x:="_law_script") (CX:=λ_=>CX0) (sp:=λw=>spF (K w.params) (Pv.Zj F tk 65) ak L) hn (by decide) hdf #[rfl,by decide,by decide] hY hF (λw H a ns hl hO hS=>wH hO hS<|hok ns) λ_ _ _ _ _ z=>z
def Top.no{K:am}{mg:bE->Option al}{x:bE}(T:Top K mg fs zs gs f fd)(h:zs.contains x=aj):mg x=ae:=T.z x (by simpa using h)
def Zd0{n:Nat}{x:bE}(T:Top X.K X.mg fs zs gs f fd)(h:All X.prog X.w X.K X.mg X.base fs F tk sn f fd d)(hr:Room d X.A)(ha:Sd.CA X (λ_ _=>False) (Pv.Zj F tk d) (e::es) is)(hx:(fs[n]?).map FR.x=aa x)(hg:Gl X x)(hdb:(x == ("__debug__" : bE))=ak)
  (he:aJ (e::es) X.env=(ak,cC e X.env)::aJ es X.env)(hpl:(eO pos<|aJ es X.env).any (·.1)=ak):Sd.CE X (λ_ _=>False) (Pv.Zj F tk d) (.Call (.Name x p) (e::es) [] pos) (.call n is):=by
 cases e0:fs[n]? with
 |none=>rw[e0]at hx;cases hx
 |some r=>
  rw[e0]at hx;obtain rfl:r.x=x:=ai hx;exact Sd.jM (h n r e0) hr (T.m n r e0) (T.d n r e0).kp (T.b n r e0) ha hg hdb he hpl
def Zdc{x y:bE}{n k:Nat}{px p':iA}{ss:List fR}{B:List Sm}{fr:Bool}{ns:List Nat}(T:Top X.K X.mg fs zs gs f fd)(h:All X.prog X.w X.K X.mg X.base fs F tk sn f fd d)(hr:Room d X.A)(ha:Sd.CA X (λ_ _=>False) (Pv.Zj F tk d) (e::es) is)(hB:Sd.CSs X (λ_ _=>False) fr (Pv.Zj F tk d) ns ss B)(hN:X.N.Nodup)(hx:(fs[k]?).map FR.x=aa y)(hk:sn.contains k=aj)
  (hg:Gl X y)(hdb:(y == ("__debug__" : bE))=ak)(he:aJ (e::es) X.env=(ak,cC e X.env)::aJ es X.env)(hpl:(eO p<|aJ es X.env).any (·.1)=ak)(hi:X.N[n]?=aa x)(hl:L2.Loc X.env.scope x)(hf:X.fn x=aj\/X.env.scope.names.lookup x=aa .local)
  (hs:dS [.Name x px] (.Call (.Name y p') (e::es) [] p) pos.line X.env=cW ak)(hw:dU [.Name x px] (.Call (.Name y p') (e::es) [] p) X.env=cW ae)(h1:(cz [.Name x px] X.env).map (·.2)=[eI (.Name x px) X.env]) :
  Sd.CSs X (λ_ _=>False) fr (Pv.Zj F tk d) ns (.Assign [.Name x px] (.Call (.Name y p') (e::es) [] p) pos::ss) [.cel n k is B]:=by
 cases e0:fs[k]? with
 |none=>rw[e0]at hx;cases hx
 |some r=>
  rw[e0]at hx;obtain rfl:r.x=y:=ai hx;have q:=h k r e0;rw[hk]at q;refine Sd.Zca (Sd.PE.imp (zX q hr hg (T.m k r e0) (T.d k r e0).kp (T.b k r e0) .nil ZaL ha.h hdb he hpl) λU H Q z=>?_) hB hN hi hl hf hs hw h1
  unfold Zbb;simp only[cf];exact z
def Zd6{n:Int}{x:bE}(T:Top X.K X.mg fs zs gs f fd)(h:gs.contains (x,.int n)=aj)(hg:Gl X x)(hd:(x == ("__debug__" : bE))=ak):Sd.CE X xw C (.Name x p) (.c<|.int n):=by
 obtain⟨t,e⟩:=T.g (x,.int n) (by simpa using h)
 exact Sd.jx e hg hd
def Zdb{tb:List (Int×Int)}{x:bE}(T:Top X.K X.mg fs zs gs f fd)(ha:Sd.CE X xw C a i)(h:gs.contains (x,.tab tb)=aj)(hg:Gl X x)(hd:(x == ("__debug__" : bE))=ak)(hmk:eQ .In (.Name x p)=ak):Sd.CE X xw C (.Compare a [.In] [.Name x p] pos) (.inT i tb):=by
 obtain⟨t,k,e⟩:=T.g (x,.tab tb) (by simpa using h)
 exact Sd.Zb3 (k _ _) e ha hg hd hmk
noncomputable def csB(sc:eT)(N0:List bE)(scope:eT)(N:List bE)(cap:List Nat)(nl:Nat):Bool:=
 ((N.take nl).all (λx=>ag (scope.names.lookup x=aa .local)||decide (scope.names.lookup x=aa .cell))&&(ag (N.length=nl+cap.length)&&(cap.zipIdx.all (λp=>ag (N[nl+p.2]?=N0[p.1]?)&&ag ((N0[p.1]?).map (λx=>ag<|(x,bD)∈scope.names)=aa aj)) &&
  ((match scope.kind with|.function=>aj|_=>ak)&&scope.names.all λy=>(!decide (y.2=.cell) || !decide ((y.1,bD)∈scope.names))&&((!decide (y.2=.local)||decide (scope.names.lookup y.1=aa .local))&&(!decide (y.2=.free)||((ag (sc.names.lookup y.1=aa .cell)||decide (sc.names.lookup y.1=aa .free))&&ag (scope.names.lookup y.1≠aa .local))))))))
def Je{sc:eT}{N0:List bE}{scope:eT}{N:List bE}{cap:List Nat}{nl:Nat}(h:csB sc N0 scope N cap nl=aj):CompScope sc N0 scope N cap nl:=by
 unfold csB at h;simp only[aB,fq,km,T0,decide_eq_false_iff_not,aO]at h;obtain⟨_,h1,h2,h3,h4⟩:=h;refine#[?_,λy hy z=>(h4 y hy).1.resolve_left λq=>q z,λy hy z=>?_,λy hy z=>?_,λy hy z=>?_,h1,h2]
 .cases e:scope.kind<;>rw[e]at h3<;>first|rfl|cases h3
 .rcases(h4 y hy).2.1 with q|q
  .exact T7 z q
  .exact q
 .rcases(h4 y hy).2.2 with q|q
  .exact T7 z q
  .exact q.1
 .rcases(h4 y hy).2.2 with q|q
  .exact T7 z q
  .exact q.2
noncomputable def cN(scope:eT)(nl:Nat)(cap:List Nat)(N0:List bE):List bE:=((scope.names.drop 1).take nl).map (·.1)++cap.map λi=>N0.getD i ""
def ze{sc:eT}{N0:List bE}{scope:eT}{cap:List Nat}{nl:Nat}(h:csB sc N0 scope (cN scope nl cap N0) cap nl=aj):CompScope sc N0 scope (cN scope nl cap N0) cap nl:=Je h
end Gn
namespace K35
open Ev
noncomputable def VZ:Fn:=#[2,2,
 [.ite (.cmp .lt (.v 1)<|.blt .len [(.v 0)]) [.ret<|.ix (.v 0)<|.v 1] [],
  .ret (.c<|.int 0)]]
noncomputable def QT:Fn:=#[2,3,
 [.asg [2]<|.call 0 [(.v 0),(.v 1)],
  .ite (.cmp .ge (.v 2)<|.bin .pow (.c<|.int 10)<|.c<|.int 18) [.ret<|.lst [(.bin .sub (.v 2)<|.bin .pow (.c<|.int 10)<|.c<|.int 18),(.c<|.bl aj)]] [],
  .ret (.lst [(.bin .mod (.v 2)<|.c<|.int 2147483647),(.c<|.bl ak)])]]
noncomputable def JV:Fn:=#[2,4,
 [.ite (.dix (.v 0) aj) [.asg [2]<|.bin .mod (.dix (.v 0) ak)<|.v 1,
  .dset 0 (.bin .fdiv (.dix (.v 0) ak)<|.v 1),
  .ret (.v 2)] [],
  .dset 0 (.bin .mod (.bin .add (.bin .mul (.dix (.v 0) ak)<|.c<|.int 48271)<|.c<|.int 29)<|.c<|.int 2147483647),
  .asg [3] (.bin .mod (.bin .add (.bin .add (.bin .mul (.dix (.v 0) ak)<|.dix (.v 0) ak)<|.bin .mul (.c<|.int 39373)<|.dix (.v 0) ak)<|.c<|.int 7)<|.c<|.int 2147483629),
  .asg [3] (.bin .mod (.bin .add (.bin .mul (.v 3)<|.v 3)<|.bin .mul (.c<|.int 16807)<|.v 3)<|.c<|.int 2147483587),
  .ret (.bin .mod (.bin .fdiv (.v 3)<|.c<|.int 8)<|.v 1)]]
noncomputable def Y5:Fn:=#[2,3,
 [.asg [2]<|.lst [(.tup [(.c<|.int 2),(.c<|.int 1)]),(.tup [(.c<|.int 2),(.c<|.int 2)]),(.tup [(.c<|.int 2),(.c<|.int 3)]),(.tup [(.c<|.int 2),(.c<|.int 4)]),(.tup [(.c<|.int 3),(.c<|.int 1)]),(.tup [(.c<|.int 3),(.c<|.int 2)]),(.tup [(.c<|.int 3),(.c<|.int 3)]),(.tup [(.c<|.int 5),(.c<|.int 1)]),(.tup [(.c<|.int 5),(.c<|.int 2)]),(.tup [(.c<|.int 2),(.c<|.int 3)]),(.tup [(.c<|.int 2),(.c<|.int 4)]),(.tup [(.c<|.int 3),(.c<|.int 3)])],
  .ite (.cmp .gt (.v 1)<|.c<|.int 27) [.asg [2]<|.bin .add (.v 2)<|.lst [(.tup [(.c<|.int 2),(.c<|.int 5)]),(.tup [(.c<|.int 2),(.c<|.int 6)]),(.tup [(.c<|.int 3),(.c<|.int 4)]),(.tup [(.c<|.int 5),(.c<|.int 3)])]] [],
  .ret (.ix (.v 2)<|.call 2 [(.v 0),(.blt .len [(.v 2)])])]]
noncomputable def YD:Fn:=#[3,3,
 [.ret<|.and (.isi (.v 0) [.int])<|.and (.not<|.isi (.v 0) [.bool])<|.chain .le .le (.v 1) (.v 0)<|.v 2]]
noncomputable def Wu:Fn:=#[3,3,
 [.ite (.not<|.call 4 [(.v 0),(.v 1),(.v 2)]) [.raise 2 []] []]]
noncomputable def UB:Fn:=#[2,6,
 [.asg [2,3]<|.v 0,
  .asg [4] (.lst [(.bin .add (.bin .mul (.tup [(.c<|.int 0)])<|.v 1)<|.tup [(.c<|.int 1)])]),
  .forr [5] (.rng2 (.bin .add (.v 1)<|.c<|.int 1)<|.v 3) [.asg [4]<|.comp2 [2] 2 [0] (.of<|.v 4) [] [1] (.rng1<|.v 2) []<|.bin .add (.v 0)<|.tup [(.v 1)]],
  .ret (.v 4)]]
noncomputable def Y3:Fn:=#[2,2,
 [.ret<|.blt .all [(.comp1 [1] 1 [0] (.of<|.v 0) []<|.cmp .eq (.ix (.v 0)<|.v 1)<|.c<|.int 0)]]]
noncomputable def xN:Fn:=#[1,3,
 [.forr [1,2] (.enum<|.v 0) [.ite (.cmp .ne (.v 2)<|.c<|.int 0) [.ret<|.v 1] []],
  .ret (.c .non)]]
noncomputable def Ux:Fn:=#[2,5,
 [.asg [2]<|.ite (.v 1) (.bin .add (.call 8 [(.ix (.v 1)<|.neg<|.c<|.int 1)])<|.c<|.int 1)<|.c<|.int 0,
  .asg [3] (.lst []),
  .forr [4] (.rrng (.v 2)<|.blt .len [(.v 0)]) [.ite (.call 7 [(.v 1),(.v 4)]) [.ex<|.mt .extend (.v 3) [(.ix (.v 0)<|.v 4)]] []],
  .ret (.v 3)]]
noncomputable def J0:Fn:=#[2,7,
 [.asg [2,3]<|.v 0,
  .ex (.call 5 [(.v 1),(.c<|.int 0),(.v 3)]),
  .asg [4] (.comp1 [0] 1 [0] (.rng1<|.v 3) []<|.call 6 [(.v 1),(.v 0)]),
  .asg [5] (.lst [(.tup [])]),
  .forr [6] (.rng1<|.v 1) [.asg [5]<|.comp2 [4] 2 [0] (.of<|.v 5) [] [1] (.of<|.call 9 [(.v 2),(.v 0)]) []<|.bin .add (.v 0)<|.tup [(.v 1)]],
  .ret (.v 5)]]
noncomputable def Yv:Fn:=#[2,4,
 [.asg [2]<|.lst [(.tup [])],
  .forr [3] (.rng1<|.v 0) [.asg [2]<|.bin .add (.v 2)<|.comp1 [3] 1 [0] (.of<|.v 2) []<|.bin .add (.v 0)<|.tup [(.v 1)]],
  .ret (.comp1 [1] 1 [0] (.of<|.v 2) [(.cmp .eq (.blt .len [(.v 0)])<|.v 1)]<|.v 0)]]
noncomputable def Xe:Fn:=#[1,1,
 [.ret<|.blt .all [(.comp1 [] 2 [0,1] (.zip (.v 0)<|.sl (.v 0) (aa<|.c<|.int 1) ae) []<|.cmp .lt (.v 0)<|.v 1)]]]
noncomputable def Yc:Fn:=#[2,2,
 [.ite (.not<|.isi (.v 0) [.tuple]) [.ret<|.c<|.bl ak] [],
  .ret (.and (.blt .all [(.comp1 [1] 1 [0] (.of<|.v 0) []<|.call 4 [(.v 0),(.c<|.int 0),(.v 1)])])<|.call 12 [(.v 0)])]]
noncomputable def Y6:Fn:=#[2,7,
 [.asg [2,3]<|.v 0,
  .ite (.not<|.call 13 [(.v 1),(.bin .sub (.v 3)<|.c<|.int 1)]) [.raise 3 []] [],
  .asg [4] (.lst [(.tup [])]),
  .forr [5] (.of<|.v 1) [.asg [6]<|.call 6 [(.v 0),(.v 5)],
  .asg [4] (.comp2 [5,6] 2 [0] (.of<|.v 4) [(.call 7 [(.v 0),(.v 2)])] [1] (.of<|.v 3) []<|.bin .add (.v 0)<|.tup [(.v 1)])],
  .ret (.v 4)]]
noncomputable def Xq:Fn:=#[1,1,
 [.ret<|.and (.call 4 [(.v 0),(.c<|.int 2),(.c<|.int 5)])<|.inT (.v 0) [(2,6),(3,4),(5,3)]]]
noncomputable def Yn:Fn:=#[2,5,
 [.asg [2]<|.lst [(.c<|.int 1)],
  .asg [3] (.c<|.int 1),
  .forr [4] (.rng2 (.c<|.int 1)<|.blt .len [(.v 1)]) [.aug 3 .mul<|.v 0,
  .ex (.mt .append (.v 2) [(.bin .add (.ix (.v 1)<|.bin .sub (.v 4)<|.c<|.int 1)<|.bin .mul (.v 3)<|.ix (.v 1)<|.v 4)])],
  .ex (.mt .append (.v 2) [(.c<|.int 1)]),
  .ret (.v 2)]]
noncomputable def zL:Fn:=#[3,5,
 [.ite (.not<|.call 15 [(.v 0)]) [.raise 2 []] [],
  .ex (.call 5 [(.v 1),(.c<|.int 0),(.c<|.int 40)]),
  .ex (.call 5 [(.v 2),(.c<|.int 0),(.v 1)]),
  .asg [3] (.lst [(.c<|.int 1)]),
  .forr [4] (.rng1<|.v 1) [.asg [3]<|.call 16 [(.v 0),(.v 3)]],
  .ret (.ix (.v 3)<|.v 2)]]
noncomputable def Xf:Fn:=#[3,3,
 [.ret<|.and (.cmp .eq (.ix (.ix (.v 0)<|.v 1)<|.v 2)<|.c<|.int 1)<|.call 7 [(.bin .add (.sl (.v 0) ae<|aa<|.v 1)<|.sl (.v 0) (aa<|.bin .add (.v 1)<|.c<|.int 1) ae),(.v 2)]]]
noncomputable def Gr:Fn:=#[2,4,
 [.asg [2,3]<|.v 0,
  .ite (.or (.not<|.isi (.v 1) [.tuple])<|.cmp .ne (.blt .len [(.v 1)])<|.v 3) [.ret<|.c<|.bl ak] [],
  .ret (.blt .all [(.comp1 [2] 1 [0] (.of<|.v 1) []<|.call 4 [(.v 0),(.c<|.int 0),(.bin .sub (.v 1)<|.c<|.int 1)])])]]
noncomputable def WG:Fn:=#[2,3,
 [.ite (.or (.not<|.isi (.v 1) [.tuple])<|.not<|.blt .all [(.comp1 [0] 1 [0] (.of<|.v 1) []<|.call 19 [(.v 1),(.v 0)])]) [.ret<|.c<|.bl ak] [],
  .asg [2] (.comp1 [] 1 [0] (.of<|.v 1) []<|.call 8 [(.v 0)]),
  .ite (.or (.cmp .inn (.c .non)<|.v 2)<|.not<|.call 12 [(.v 2)]) [.ret<|.c<|.bl ak] [],
  .ret (.blt .all [(.comp1 [1] 2 [0,1] (.enum<|.v 2) []<|.call 18 [(.v 2),(.v 0),(.v 1)])])]]
noncomputable def W8:Fn:=#[2,2,
 [.ite (.not<|.call 20 [(.v 0),(.v 1)]) [.raise 1 []] []]]
noncomputable def Xg:Fn:=#[2,2,
 [.ex<|.call 21 [(.v 0),(.v 1)],
  .ret (.blt .index [(.call 10 [(.v 0),(.blt .len [(.v 1)])]),(.v 1)])]]
noncomputable def WR:Fn:=#[3,5,
 [.asg [3,4]<|.v 0,
  .ex (.call 5 [(.v 1),(.c<|.int 0),(.v 4)]),
  .ex (.call 5 [(.v 2),(.c<|.int 0),(.bin .sub (.call 17 [(.v 3),(.v 4),(.v 1)])<|.c<|.int 1)]),
  .ret (.ix (.call 10 [(.v 0),(.v 1)])<|.v 2)]]
noncomputable def Qy:Fn:=#[2,2,
 [.ex<|.call 21 [(.v 0),(.v 1)],
  .ret (.blt .tuple [(.comp1 [] 1 [0] (.of<|.v 1) []<|.call 8 [(.v 0)])])]]
noncomputable def Zdz:Fn:=#[1,16,
 [.forr [1] (.rng1<|.blt .max2 [(.c<|.int 1),(.blt .min2 [(.blt .len [(.v 0)]),(.c<|.int 5)])]) [.cel 2 1 [(.v 0),(.v 1)]
  [.asg [3]<|.call 3 [(.v 2),(.ix (.lst [(.c<|.int 27),(.c<|.int 125)])<|.blt .toInt [(.cmp .eq (.v 1)<|.c<|.int 0)])],
  .asg [4,5] (.v 3),
  .asg [6] (.call 2 [(.v 2),(.bin .add (.v 5)<|.c<|.int 1)]),
  .asg [7] (.call 10 [(.v 3),(.v 6)]),
  .ite (.or (.cmp .ne (.blt .len [(.v 7)])<|.call 17 [(.v 4),(.v 5),(.v 6)])<|.cmp .ne (.call 17 [(.v 4),(.v 5),(.v 6)])<|.call 17 [(.v 4),(.v 5),(.bin .sub (.v 5)<|.v 6)]) [.ret<|.c<|.bl ak] [],
  .ite (.or (.not<|.blt .all [(.comp1 [3] 1 [0] (.of<|.sl (.v 7) ae<|aa<|.c<|.int 40) []<|.call 20 [(.v 1),(.v 0)])])<|.cmp .ne (.blt .sortedU [(.v 7)])<|.v 7) [.ret<|.c<|.bl ak] [],
  .par [8,9] [(.bin .add (.c<|.int 1)<|.call 2 [(.v 2),(.c<|.int 40)]),(.c<|.int 1)],
  .asg [10] (.bin .add (.c<|.int 1)<|.call 2 [(.v 2),(.v 8)]),
  .forr [11] (.rng1<|.v 10) [.asg [9]<|.bin .mul (.v 9)<|.v 4],
  .ite (.cmp .lt (.v 10)<|.v 8) [.ite (.cmp .ne (.call 17 [(.v 4),(.v 8),(.v 10)])<|.bin .add (.call 17 [(.v 4),(.bin .sub (.v 8)<|.c<|.int 1),(.bin .sub (.v 10)<|.c<|.int 1)])<|.bin .mul (.v 9)<|.call 17 [(.v 4),(.bin .sub (.v 8)<|.c<|.int 1),(.v 10)]) [.ret<|.c<|.bl ak] []] [],
  .asg [12] (.call 2 [(.v 2),(.blt .len [(.v 7)])]),
  .ite (.or (.cmp .ne (.call 22 [(.v 3),(.ix (.v 7)<|.v 12)])<|.v 12)<|.cmp .ne (.call 23 [(.v 3),(.v 6),(.v 12)])<|.ix (.v 7)<|.v 12) [.ret<|.c<|.bl ak] [],
  .ite (.cmp .nin (.ix (.v 7)<|.v 12)<|.call 14 [(.v 3),(.call 24 [(.v 3),(.ix (.v 7)<|.v 12)])]) [.ret<|.c<|.bl ak] [],
  .asg [13] (.lst []),
  .forr [14] (.of<|.call 11 [(.v 5),(.v 6)]) [.asg [15]<|.call 14 [(.v 3),(.v 14)],
  .ite (.cmp .ne (.call 24 [(.v 3),(.ix (.v 15)<|.neg<|.c<|.int 1)])<|.v 14) [.ret<|.c<|.bl ak] [],
  .ex (.mt .extend (.v 13) [(.v 15)])],
  .ite (.cmp .ne (.blt .sorted [(.v 13)])<|.v 7) [.ret<|.c<|.bl ak] []]],
  .ret (.c<|.bl aj)]]
noncomputable def fns:List Fn:=[VZ,QT,JV,Y5,YD,Wu,UB,Y3,xN,Ux,J0,Yv,Xe,Yc,Y6,Xq,Yn,zL,Xf,Gr,WG,W8,Xg,WR,Qy,Zdz]
noncomputable abbrev tk:Nat:=2
noncomputable abbrev sn:List Nat:=[1]
end K35
namespace La
variable{F:Type}[iw F]
noncomputable abbrev Vec(F:Type):=Nat->F
noncomputable abbrev Pt(F:Type):=List<|Nat×Vec F
noncomputable def pr:Pt F->Vec F->Vec F
 |[],_,_=>0
 |a::P,v,j=>v a.1*a.2 j+pr P v j
structure Rf(P:Pt F):Prop where
 inc:P.Pairwise λa b=>a.1<b.1
 low:∀a∈P,∀j,j<a.1->a.2 j=0
 one:∀a∈P,a.2 a.1=1
 zer:∀a∈P,∀b∈P,a.1≠b.1->b.2 a.1=0
def Mem(P:Pt F)(v:Vec F):Prop:=∀j,v j=pr P v j
theorem ZcQ(P:Pt F)(u v:Vec F)(c:F)(j:Nat):pr P (λj=>u j+c*v j) j=pr P u j+c*pr P v j:=by
 induction P with|nil=>show(0:F)=0+c*0;grind|cons a P ih=>show(u a.1+c*v a.1)*a.2 j+pr P _ j=(u a.1*a.2 j+pr P u j)+c*(v a.1*a.2 j+pr P v j);grind
theorem GP(P:Pt F)(u v:Vec F)(c:F)(j:Nat):pr P (λj=>u j-c*v j) j=pr P u j-c*pr P v j:=by
 induction P with|nil=>show(0:F)=0-c*0;grind|cons a P ih=>show(u a.1-c*v a.1)*a.2 j+pr P _ j=(u a.1*a.2 j+pr P u j)-c*(v a.1*a.2 j+pr P v j);grind
def vP{P:Pt F}{u v:Vec F}(h:∀b∈P,u b.1=v b.1)(j:Nat):pr P u j=pr P v j:=by
 induction P with
 |nil=>rfl
 |cons a P ih=>
  show u a.1*a.2 j+pr P u j=v a.1*a.2 j+pr P v j;rw[h a<|ao ..,ih λb hb=>h b<|ax _ hb]
theorem QS{P:Pt F}{v:Vec F}{j:Nat}(h:∀b∈P,v b.1*b.2 j=0):pr P v j=0:=by
 induction P with
 |nil=>rfl
 |cons a P ih=>
  show v a.1*a.2 j+pr P v j=0;rw[h a<|ao ..,ih λb hb=>h b<|ax _ hb];grind
theorem j9{P:Pt F}{v:Vec F}{j:Nat}{a:Nat×Vec F}(inc:P.Pairwise λa b=>a.1<b.1)(ha:a∈P)(h:∀b∈P,b.1≠a.1->v b.1*b.2 j=0):pr P v j=v a.1*a.2 j:=by
 induction P with
 |nil=>cases ha
 |cons b P ih=>
  rw[aY]at inc;show v b.1*b.2 j+pr P v j=_;rcases aC.mp ha with e|hm
  .subst e
   rw[QS λc hc=>h c (ax _ hc) (by have:=inc.1 c hc;lia)];grind
  .rw[ih inc.2 hm λc hc=>h c<|ax _ hc,h b (ao ..) (by have:=inc.1 a hm;lia)];grind
def Rf.nil:Rf ([]:Pt F):=#[fA,λ_ h=>(by cases h),λ_ h=>(by cases h),λ_ h=>(by cases h)]
theorem z9{P:Pt F}(h:Rf P){a:Nat×Vec F}(ha:a∈P)(v:Vec F):pr P v a.1=v a.1:=by
 rw[j9 h.inc ha λb hb ne=>by rw[h.zer a ha b hb<|Ne.symm ne];grind,h.one a ha];grind
def zS(c:F)(hu:Mem P u)(hv:Mem P v):Mem P λj=>u j+c*v j:=λj=>by
 rw[ZcQ,<-hu j,<-hv j]
def zN(c:F)(hu:Mem P u)(hv:Mem P v):Mem P λj=>u j-c*v j:=λj=>by
 rw[GP,<-hu j,<-hv j]
def vt{P:Pt F}(h:Rf P)(v:Vec F):Mem P (pr P v):=λj=>vP (λb hb=>(z9 h hb v).symm) j
theorem vL:∀{a b:List Nat},a.Pairwise (· < ·)->b.Pairwise (· < ·)->(∀x,x∈a↔x∈b)->a=b
 |[],[],_,_,_=>rfl
 |[],y::b,_,_,h=>by have:=(h y).mpr<|ao ..;cases this
 |x::a,[],_,_,h=>by have:=(h x).mp<|ao ..;cases this
 |x::a,y::b,ha,hb,h=>by
  rw[aY]at ha hb;have e:x=y:=by
   rcases aC.mp ((h x).mp<|ao ..)with e|e
   .exact e
   .rcases aC.mp ((h y).mpr<|ao ..)with e'|e'
    .exact e'.symm
    .have:=hb.1 x e;have:=ha.1 y e';lia
  subst e;rw[vL ha.2 hb.2 λz=>?_]
  constructor
  .intro hz
   rcases aC.mp ((h z).mp<|ax _ hz)with e|e
   .have:=ha.1 z hz;lia
   .exact e
  .intro hz
   rcases aC.mp ((h z).mpr<|ax _ hz)with e|e
   .have:=hb.1 z hz;lia
   .exact e
def Rf.heads{P:Pt F}(h:Rf P):(P.map (·.1)).Pairwise (· < ·):=c0.mpr h.inc
noncomputable def ins(x:Nat×Vec F):Pt F->Pt F
 |[]=>[x]
 |y::P=>if x.1<y.1 then x::y::P else y::ins x P
theorem Z4(x:Nat×Vec F):∀P:Pt F,(ins x P).Perm (x::P)
 |[]=>bI _
 |y::P=>by
  unfold ins;split
  .exact bI _
  .exact((Z4 x P).cons y).trans<|iX x y P
theorem yS(x:Nat×Vec F):∀{P:Pt F},P.Pairwise (λa b=>a.1<b.1)->(∀a∈P,a.1≠x.1)->(ins x P).Pairwise λa b=>a.1<b.1
 |[],_,_=>by exact eZ ..
 |y::P,h,hn=>by
  have h':=aY.mp h;unfold ins;split
  .rename_i c
   refine aY.mpr #[λz hz=>?_,h]
   rcases aC.mp hz with rfl|hz
   .exact c
   .have:=h'.1 z hz;lia
  .rename_i c
   refine aY.mpr #[λz hz=>?_,yS x h'.2 λa ha=>hn a<|ax _ ha]
   rcases aC.mp ((Z4 x P).mem_iff.mp hz)with rfl|hz
   .have:=hn y<|ao ..;lia
   .exact h'.1 z hz
theorem uy(x:Nat×Vec F)(v:Vec F)(j:Nat):∀P:Pt F,pr (ins x P) v j=v x.1*x.2 j+pr P v j
 |[]=>rfl
 |y::P=>by
  unfold ins;split
  .rfl
  .show v y.1*y.2 j+pr (ins x P) v j=v x.1*x.2 j+(v y.1*y.2 j+pr P v j)
   rw[uy x v j P];grind
noncomputable def off(h:Nat)(l:Vec F)(a:Nat×Vec F):Nat×Vec F:=(a.1,λj=>a.2 j-a.2 h*l j)
noncomputable def wid(P:Pt F)(h:Nat)(l:Vec F):Pt F:=ins (h,l)<|P.map<|off h l
theorem vg(h:Nat)(l v:Vec F)(j:Nat):∀P:Pt F,pr (P.map<|off h l) v j=pr P v j-pr P v h*l j
 |[]=>by show(0:F)=0-0*l j;grind
 |a::P=>by
  show v a.1*(a.2 j-a.2 h*l j)+pr (P.map<|off h l) v j=(v a.1*a.2 j+pr P v j)-(v a.1*a.2 h+pr P v h)*l j;rw[vg h l v j P];grind
structure Lead(P:Pt F)(h:Nat)(l:Vec F):Prop where
 one:l h=1
 low:∀j,j<h->l j=0
 zer:∀a∈P,l a.1=0
def Lead.ne{P:Pt F}{h:Nat}{l:Vec F}(one0:(1:F)≠0)(L:Lead P h l){a:Nat×Vec F}(ha:a∈P):a.1≠h:=λe=>by
 have:=L.zer a ha;rw[e,L.one]at this;exact one0 this
theorem vR{P:Pt F}{h:Nat}{l:Vec F}(one0:(1:F)≠0)(hP:Rf P)(L:Lead P h l):Rf (wid P h l):=by
 have mem:∀{x},x∈wid P h l->x=(h,l)\/∃a∈P,x=off h l a:=λ{x} hx=>by
  rcases aC.mp ((Z4 _ _).mem_iff.mp hx)with e|e
  .exact .inl e
  .obtain⟨a,ha,e⟩:=a8.mp e
   exact .inr #[a,ha,e.symm]
 refine#[yS _ ?_ ?_,λx hx j hj=>?_,λx hx=>?_,λx hx y hy ne=>?_]
 .exact c0.mpr hP.inc
 .intro a ha
  obtain⟨b,hb,rfl⟩:=a8.mp ha;exact L.ne (a:=b) one0 hb
 .rcases mem hx with rfl|⟨a,ha,rfl⟩
  .exact L.low j hj
  .show a.2 j-a.2 h*l j=0
   rw[hP.low a ha j hj];by_cases c:h<a.1
   .rw[hP.low a ha h c];grind
   .have:j<a.1:=hj
    rw[L.low j (by have:=L.ne one0 ha;lia)];grind
 .rcases mem hx with rfl|⟨a,ha,rfl⟩
  .exact L.one
  .show a.2 a.1-a.2 h*l a.1=1
   rw[hP.one a ha,L.zer a ha];grind
 .rcases mem hx with rfl|⟨a,ha,rfl⟩
  .rcases mem hy with rfl|⟨b,hb,rfl⟩
   .exact T7 rfl ne
   .show b.2 h-b.2 h*l h=0
    rw[L.one];grind
  .rcases mem hy with rfl|⟨b,hb,rfl⟩
   .exact L.zer a ha
   .show b.2 a.1-b.2 h*l a.1=0
    rw[hP.zer a ha b hb ne,L.zer a ha];grind
def qV(P:Pt F)(h:Nat)(l:Vec F):(wid P h l).length=P.length+1:=by
 have:=(Z4 (h,l)<|P.map<|off h l).length_eq;rw[aE,ap]at this;exact this
theorem Zan{P:Pt F}{h:Nat}{l:Vec F}(hP:Rf P)(L:Lead P h l)(u:Vec F):Mem (wid P h l) u↔∃c,Mem P λj=>u j-c*l j:=by
 have e:∀j,pr (wid P h l) u j=u h*l j+(pr P u j-pr P u h*l j):=λj=>by
  unfold wid;rw[uy,vg]
 have pl:∀j,pr P l j=0:=λj=>QS λb hb=>by rw[L.zer b hb];grind
 constructor
 .intro hu
  refine#[u h-pr P u h,λj=>?_]
  rw[GP,pl];have:=hu j;rw[e j]at this;show u j-(u h-pr P u h)*l j=_
  grind
 .rintro ⟨c,hc⟩ j
  rw[e j];have h1:=hc j;have h2:u h-c*l h=_:=hc h;rw[GP,pl]at h1 h2;rw[L.one]at h2
  grind
noncomputable def rest(P:Pt F)(v:Vec F):Vec F:=λj=>v j-pr P v j
theorem qm(hP:Rf P)(v:Vec F)(ha:a∈P):rest P v a.1=0:=by
 unfold rest;rw[z9 hP ha];grind
theorem Jo{P:Pt F}{v:Vec F}:(∀j,rest P v j=0)↔Mem P v:=by
 constructor
 .intro h j;have:=h j;unfold rest at this;grind
 .intro h j;have:=h j;unfold rest;grind
theorem z6{P:Pt F}(hP:Rf P){v:Vec F}{h:Nat}{i:F}(hi:i*rest P v h=1)(hl:∀j,j<h->rest P v j=0):Lead P h λj=>i*rest P v j:=
 #[hi,λj hj=>by rw[hl j hj];grind,λa ha=>by rw[qm hP v ha];grind]
theorem qp{P:Pt F}(hP:Rf P){v:Vec F}{h:Nat}{i:F}(hi:i*rest P v h=1)(hl:∀j,j<h->rest P v j=0)(u:Vec F) :
  Mem (wid P h λj=>i*rest P v j) u↔∃c,Mem P λj=>u j-c*v j:=by
 rw[Zan hP<|z6 hP hi hl]
 constructor
 .rintro ⟨c,hc⟩
  refine#[c*i,?_];have:=zN (c*i) hc<|vt hP v;have e:(λj=>(u j-c*(i*rest P v j))-c*i*pr P v j)=λj=>u j-c*i*v j:=by funext j;unfold rest;grind
  rw[e]at this;exact this
 .rintro ⟨c,hc⟩
  refine#[c*rest P v h,?_];have:=zS c hc<|vt hP v;have e:(λj=>(u j-c*v j)+c*pr P v j)=λj=>u j-c*rest P v h*(i*rest P v j):=by funext j;unfold rest at hi ⊢;grind
  rw[e]at this;exact this
theorem um(hv:Mem P v)(u:Vec F):Mem P u↔∃c,Mem P λj=>u j-c*v j:=by
 constructor
 .intro h;exact#[0,by have:=zN 0 h hv;exact this]
 .rintro ⟨c,hc⟩
  have:=zS c hc hv;have e:(λj=>(u j-c*v j)+c*v j)=u:=by funext j;grind
  rw[e]at this;exact this
variable{F:Type}[iw F][DecidableEq F]
def Supp(n:Nat)(v:Vec F):Prop:=∀j,n<=j->v j=0
structure Pn(n:Nat)(P:Pt F):Prop where
 rf:Rf P
 lt:∀a∈P,a.1<n
 sp:∀a∈P,Supp n a.2
theorem Pn.nil{n:Nat}:Pn n ([]:Pt F):=#[Rf.nil,λ_ h=>(by cases h),λ_ h=>(by cases h)]
theorem Zao(h:Pn n P)(v:Vec F):Supp n (pr P v):=λj hj=>QS λb hb=>by rw[h.sp b hb j hj];grind
noncomputable def hdV(n:Nat)(v:Vec F):Option Nat:=(aA n).find? λj=>ag<|v j≠0
theorem w6{n:Nat}{v:Vec F}(hs:Supp n v)(h:hdV n v=ae)(j:Nat):v j=0:=by
 by_cases c:j<n
 .have:=gg.mp h j (aN.mpr c)
  simpa using this
 .exact hs j (by lia)
def JO{n:Nat}{v:Vec F}{k:Nat}(h:hdV n v=aa k):k<n/\v k≠0/\∀j,j<k->v j=0:=by
 unfold hdV at h;rw[kG]at h;obtain⟨h1,h2,h3⟩:=h;refine#[aN.mp h2,by simpa using h1,λj hj=>?_]
 have:=h3 j hj
 simpa using this
def wA{n:Nat}{v:Vec F}{k:Nat}(hk:k<n)(h1:v k≠0)(h2:∀j,j<k->v j=0):hdV n v=aa k:=by
 unfold hdV;rw[kG];exact#[by simpa using h1,aN.mpr hk,λj hj=>by simpa using h2 j hj]
structure Fld(inv:F->F):Prop where
 inv:∀a,a≠0->inv a*a=1
 one0:(1:F)≠0
section
variable{inv:F->F}{n:Nat}
noncomputable def more(inv:F->F)(n:Nat)(P:Pt F)(v:Vec F):Pt F:=match hdV n (rest P v)with
 |none=>P
 |some h=>wid P h λj=>inv (rest P v h)*rest P v j
structure Grow(n:Nat)(P:Pt F)(v:Vec F)(P':Pt F):Prop where
 pn:Pn n P'
 mem:∀u,Mem P' u↔∃c,Mem P λj=>u j-c*v j
 same:Mem P v->P'=P
 len:¬Mem P v->P'.length=P.length+1
theorem ji(f:Fld inv){P:Pt F}{v:Vec F}(hP:Pn n P)(hv:Supp n v):Grow n P v (more inv n P v):=by
 have hs:Supp n (rest P v):=λj hj=>by unfold rest;rw[hv j hj,Zao hP v j hj];grind
 cases q:hdV n (rest P v)with
 |none=>
  have e:more inv n P v=P:=by unfold more;rw[q]
  have hm:=Jo.mp<|w6 hs q;rw[e];exact#[hP,um hm,λ_=>rfl,λh=>T7 hm h]
 |some h=>
  have e:more inv n P v=wid P h λj=>inv (rest P v h)*rest P v j:=by unfold more;rw[q]
  obtain⟨h1,h2,h3⟩:=JO q;have hi:=f.inv _ h2;have L:=z6 hP.rf hi h3;rw[e];refine#[#[vR f.one0 hP.rf L,λa ha=>?_,λa ha=>?_],qp hP.rf hi h3,λhm=>T7 (Jo.mpr hm h) h2,λ_=>qV ..]
  .rcases aC.mp ((Z4 _ _).mem_iff.mp ha)with e|e
   .rw[e];exact h1
   .obtain⟨b,hb,rfl⟩:=a8.mp e
    exact hP.lt b hb
  .rcases aC.mp ((Z4 _ _).mem_iff.mp ha)with e|e
   .rw[e];intro j hj
    show inv (rest P v h)*rest P v j=0;rw[hs j hj];grind
   .obtain⟨b,hb,rfl⟩:=a8.mp e
    intro j hj;show b.2 j-b.2 h*(inv (rest P v h)*rest P v j)=0;rw[hP.sp b hb j hj,hs j hj];grind
noncomputable def ur(inv:F->F)(n:Nat)(P:Pt F)(vs:List (Vec F)):Pt F:=vs.foldl (more inv n) P
noncomputable def YB(P:Pt F)(j:Nat):Bool:=(P.map (·.1)).contains j
noncomputable def free(n:Nat)(P:Pt F):List Nat:=(aA n).filter λj=>!YB P j
noncomputable def av:Pt F->Nat->Vec F
 |[],f,j=>if j=f then 1 else 0
 |a::P,f,j=>if j=a.1 then-a.2 f else av P f j
def YY :YB P j=aj↔∃a∈P,a.1=j:=by
 unfold YB;rw[ee,a8]
def zj{P:Pt F}{f j:Nat}(h:YB P j=ak):av P f j=if j=f then 1 else 0:=by
 induction P with
 |nil=>rfl
 |cons a P ih=>
  have h1:¬∃b∈a::P,b.1=j:=λz=>by rw[YY.mpr z]at h;cases h
  show(if j=a.1 then-a.2 f else av P f j)=_
  rw[T8 λz=>h1 #[a,ao ..,z.symm]]
  exact ih (by
   cases q:YB P j with
   |false=>rfl
   |true=>obtain⟨b,hb,e⟩:=YY.mp q;exact T7 #[b,ax _ hb,e] h1)
def Vy :j∈free n P↔j<n/\YB P j=ak:=by
 unfold free;rw[eB,aN];simp
theorem qI{P:Pt F}(hP:Pn n P){f:Nat}(hf:f<n):Supp n (av P f):=λj hj=>by
 rw[zj (by
  cases q:YB P j with
  |false=>rfl
  |true=>obtain⟨b,hb,e⟩:=YY.mp q;have:=hP.lt b hb;lia),T8 (by lia)]
noncomputable def perp(inv:F->F)(n:Nat)(P:Pt F):Pt F:=ur inv n []<|(free n P).map<|av P
theorem x6(f:Fld inv){P:Pt F}(hP:Pn n P):(perp inv n P).length+P.length=n:=by
 have gen:∀(L:List Nat)(A:Pt F)(D:List Nat),Pn n A->(∀k∈L,k∈free n P)->L.Nodup->(∀k∈L,k∉D)->(∀u,Mem A u->∀k∈free n P,k∉D->u k=0)->(ur inv n A<|L.map<|av P).length=A.length+L.length:=by
  intro L
  induction L with
  |nil=>intro A D _ _ _ _ _;rfl
  |cons k L ih=>
   intro A D hA hL hn hD hz;rw[dA]at hn;have hk:=hL k<|ao ..;have g:=ji f hA<|qI hP (Vy.mp hk).1;have nm:¬Mem A (av P k):=λh=>by
    have:=hz _ h k hk<|hD k<|ao ..;rw[zj (Vy.mp hk).2,T9 rfl]at this;exact f.one0 this
   have:=ih (more inv n A<|av P k) (k::D) g.pn (λj hj=>hL j<|ax _ hj) hn.2 (λj hj=>by
    rw[aC]
    rintro (z|z)
    .exact hn.1<|z▸hj
    .exact hD j (ax _ hj) z) λu hu j hj hjD=>by
     obtain⟨c,hc⟩:=(g.mem u).mp hu;rw[aC]at hjD;have h1:=hz _ hc j hj λz=>hjD<|.inr z
     rw[zj (Vy.mp hj).2,T8 λz=>hjD<|.inl z]at h1
     grind
   show(ur inv n (more inv n A<|av P k)<|L.map<|av P).length=_;rw[this,g.len nm,aE];lia
 have h1:=gen (free n P) [] [] Pn.nil (λ_ h=>h) (mr _ kS) (λ_ _ h=>by cases h) λu hu k _ _=>hu k
 have h2:=vL (mr _ lE) hP.rf.heads λx=>by
  rw[eB,aN,YY,a8]
  constructor
  .rintro ⟨_,a,ha,e⟩;exact#[a,ha,e]
  .rintro ⟨a,ha,e⟩;exact#[by rw[<-e];exact hP.lt a ha,a,ha,e]
 have h3:((aA n).filter<|YB P).length+(free n P).length=n:=by
  have gen:∀L:List Nat,(L.filter<|YB P).length+(L.filter λj=>!YB P j).length=L.length:=by
   intro L
   induction L with
   |nil=>rfl
   |cons k L ih=>
    rw[gY,gY];cases YB P k<;>simp<;>lia
  have:=gen<|aA n;rw[be]at this;exact this
 rw[h2,ap]at h3;have h4:(perp inv n P).length=(free n P).length:=by
  have e:(perp inv n P).length=0+(free n P).length:=h1;lia
 lia
end
end La
namespace Rw
open La
open Ev (ltI Y0 ZK)
section
variable{p:Nat}[NeZero p]
noncomputable def ph(p:Nat)[NeZero p](a:Int):Fin p:=Fin.ofNat p (a%p).toNat
theorem ppos:(0:Int)<p:=by have:=NeZero.ne p;lia
theorem YN(a:Int):((ph p a).val:Int)=a%p:=by
 have h:=ppos (p:=p);have h0:=f8 a (by lia:(p:Int)≠0)
 have h1:=fk a h;show((((a%p).toNat)%p:Nat):Int)=a%p;rw[Nat.mod_eq_of_lt (by lia)]
 lia
theorem Vm{x y:Fin p}(h:(x.val:Int)=y.val):x=y:=Fin.ext (by lia)
def vo(a b:Int):ph p (a+b)=ph p a+ph p b:=Vm (by
 rw[YN,Fin.val_add];show(a+b)%p=(((ph p a).val+(ph p b).val:Nat):Int)%p;rw[Int.natCast_add,YN,YN,<-Int.add_emod])
def Zbn(a b:Int):ph p (a*b)=ph p a*ph p b:=Vm (by
 rw[YN,Fin.val_mul];show(a*b)%p=(((ph p a).val*(ph p b).val:Nat):Int)%p;rw[oH,YN,YN,<-Int.mul_emod])
def ZcT(a:Int):ph p (a%p)=ph p a:=Vm (by rw[YN,YN,Int.emod_emod])
def Vk:ph p 0=0:=Vm (by rw[YN];simp)
theorem Zb8(a:Int):ph p (-a) = - ph p a:=by
 have h:ph p (-a+a)=ph p (-a)+ph p a:=vo _ _;rw[show -a+a=0 by lia,Vk]at h
 grind
def wO{a b:Int}(ha:0<=a/\a<p)(hb:0<=b/\b<p)(h:ph p a=ph p b):a=b:=by
 have:=congrArg (λx:Fin p=>(x.val:Int)) h
 simp only[YN]at this;rw[kn ha.1 ha.2,kn hb.1 hb.2]at this;exact this
theorem Zd1{a:Int}(ha:0<=a/\a<p):ph p a=0↔a=0:=by
 constructor
 .intro h;exact wO ha #[by lia,ppos] (by rw[h,Vk])
 .rintro rfl;exact Vk
end
abbrev Row:=List Int
def ZO(p n:Nat)(r:Row):Prop:=r.length=n/\∀a∈r,0<=a/\a<(p:Int)
noncomputable def gt(r:Row)(j:Nat):Int:=r.getD j 0
def qu{p n:Nat}(h0:(0:Int)<p){r:Row}(h:ZO p n r)(j:Nat):0<=gt r j/\gt r j<p:=by
 unfold gt;rw[aD];cases q:r[j]? with|none=>exact#[Int.le_refl _,h0]|some a=>exact h.2 a<|da q
def vW(h:r.length<=j):gt r j=0:=by unfold gt;rw[aD,bC h];rfl
def Zcu(hl:r.length=s.length)(h:∀j,gt r j=gt s j):r=s:=by
 apply kU hl;intro j h1 h2;have:=h j;unfold gt at this;rw[aD,aD,af h1,af h2]at this;exact this
noncomputable def hdI:Row->Option Nat
 |[]=>ae
 |a::r=>if a≠0 then aa 0 else(hdI r).map (· + 1)
theorem YU:∀{r:Row}{k:Nat},hdI r=aa k->gt r k≠0/\k<r.length/\∀j,j<k->gt r j=0
 |[],k,h=>by cases h
 |a::r,k,h=>by
  unfold hdI at h;by_cases c:a≠0
  .rw[T9 c]at h;cases h;exact#[c,by simp,λj hj=>by lia]
  .rw[T8 c]at h
   cases q:hdI r with
   |none=>rw[q]at h;cases h
   |some m=>
    rw[q]at h;have e:m+1=k:=ai h;subst e;obtain⟨h1,h2,h3⟩:=YU q;refine#[h1,by simp;lia,λj hj=>?_]
    cases j with|zero=>exact nM.mp c|succ j=>exact h3 j (by lia)
theorem Wj:∀{r:Row},hdI r=ae->∀j,gt r j=0
 |[],_,j=>vW<|cZ _
 |a::r,h,j=>by
  unfold hdI at h;by_cases c:a≠0
  .rw[T9 c]at h;cases h
  .rw[T8 c]at h
   have h':=Option.map_eq_none_iff.mp h;cases j with|zero=>exact nM.mp c|succ j=>exact Wj h' j
def Zct(h1:gt r k≠0)(h2:∀j,j<k->gt r j=0):hdI r=aa k:=by
 cases q:hdI r with
 |none=>exact T7 (Wj q k) h1
 |some m=>
  obtain⟨a,_,c⟩:=YU q;have:¬k<m:=λz=>h1<|c k z
  have:¬m<k:=λz=>a<|h2 m z
  rw[show m=k by lia]
section
variable{p n:Nat}[NeZero p]
noncomputable def toV(p:Nat)[NeZero p](r:Row):Vec (Fin p):=λj=>ph p<|gt r j
def Jp(hr:ZO p n r):Supp n (toV p r):=λj hj=>by unfold toV;rw[vW (by rw[hr.1];exact hj),Vk]
def YX{r:Row}(hr:ZO p n r){j:Nat}:toV p r j=0↔gt r j=0:=Zd1<|qu ppos hr j
def Zco(hr:ZO p n r):hdV n (toV p r)=hdI r:=by
 cases q:hdI r with
 |none=>
  cases q2:hdV n (toV p r)with|none=>rfl|some k=>exact T7 ((YX hr).mpr<|Wj q k) (JO q2).2.1
 |some k=>
  obtain⟨a,b,c⟩:=YU q;exact wA (by rw[<-hr.1];exact b) (λz=>a<|(YX hr).mp z) λj hj=>(YX hr).mpr<|c j hj
noncomputable def V4(p:Nat)(r o:Row)(k:Int):Row:=List.zipWith (λa b=>(a+k*b)%p) r o
theorem ZbI(hl:r.length=o.length)(h0:f 0 0=0)(j:Nat):gt (List.zipWith f r o) j=f (gt r j) (gt o j):=by
 unfold gt;simp only[aD];rw[List.getElem?_zipWith];by_cases c:j<r.length
 .rw[af c,af (by lia)];rfl
 .rw[bC (by lia),bC (by lia)];exact h0.symm
theorem VS(hr:ZO p n r)(ho:ZO p n o):ZO p n (V4 p r o k):=by
 refine#[by unfold V4;rw[List.length_zipWith,hr.1,ho.1];simp,λa ha=>?_]
 unfold V4 at ha;rw[<-List.map_uncurry_zip_eq_zipWith]at ha;obtain⟨⟨x,y⟩,_,rfl⟩:=a8.mp ha;exact#[f8 _ (by have:=ppos (p:=p);lia),fk _ ppos]
def ye(hr:ZO p n r)(ho:ZO p n o)(j:Nat):gt (V4 p r o k) j=(gt r j+k*gt o j)%p:=by
 unfold V4;rw[ZbI (by rw[hr.1,ho.1]) (by simp)]
def vY(hr:ZO p n r)(ho:ZO p n o):toV p (V4 p r o k)=λj=>toV p r j+ph p k*toV p o j:=by
 funext j
 unfold toV;rw[ye hr ho,ZcT,vo,Zbn]
noncomputable def toP(p:Nat)[NeZero p](P:List Row):Pt (Fin p):=P.map λr=>((hdI r).getD 0,toV p r)
structure pZ(p n:Nat)[NeZero p](P:List Row):Prop where
 row:∀r∈P,ZO p n r
 pn:Pn n (toP p P)
theorem pZ.nil:pZ p n []:=#[λ_ h=>(by cases h),Pn.nil]
def YG(h:r∈P):((hdI r).getD 0,toV p r)∈toP p P:=a8.mpr #[r,h,rfl]
def pZ.head(one0:(1:Fin p)≠0)(h:pZ p n P)(hr:r∈P):∃k,hdI r=aa k/\k<n/\toV p r k=1:=by
 have h1:=h.pn.rf.one _<|YG hr;cases q:hdI r with
 |none=>
  rw[q]at h1;have:toV p r 0=1:=h1;have z:=(YX<|h.row r hr).mpr<|Wj q 0;rw[z]at this;exact T7 this.symm one0
 |some k=>
  rw[q]at h1;have h2:=h.pn.lt _<|YG hr;rw[q]at h2;exact#[k,rfl,h2,h1]
def qy(P:List Row):(toP p P).length=P.length:=by unfold toP;rw[ap]
noncomputable def clr(p:Nat)(r o:Row)(h:Nat):Row:=V4 p r o<|-(gt r h)
theorem yJ(hr:ZO p n r)(ho:ZO p n o):toV p (clr p r o h)=λj=>toV p r j-toV p r h*toV p o j:=by
 unfold clr;rw[vY hr ho]
 funext j
 rw[Zb8];show toV p r j+(- toV p r h)*toV p o j=_
 grind
end
noncomputable def ZeH(p:Nat)(a:Int):Int:=if a=1 then 1 else if p=3 then 2 else if a=2 then 3 else if a=3 then 2 else 4
noncomputable def qJ(p:Nat)[NeZero p](x:Fin p):Fin p:=ph p<|ZeH p x.val
class Base(p:Nat):Prop where
 b:p=2\/p=3\/p=5
instance(p:Nat)[h:Base p]:NeZero p:=⟨by rcases h.b with e|e|e<;>lia⟩
section
variable{p n:Nat}[Base p]
def fld2:∀a:Fin 2,a≠0->qJ 2 a*a=1:=by decide
def fld3:∀a:Fin 3,a≠0->qJ 3 a*a=1:=by decide
def fld5:∀a:Fin 5,a≠0->qJ 5 a*a=1:=by decide
def one2:(1:Fin 2)≠0:=by decide
def one3:(1:Fin 3)≠0:=by decide
def one5:(1:Fin 5)≠0:=by decide
def fld:Fld (qJ p):=by
 rcases(inferInstance:Base p).b with e|e|e<;>subst e
 .exact#[fld2,one2]
 .exact#[fld3,one3]
 .exact#[fld5,one5]
noncomputable def ZA(P:List Row):List Nat:=P.map λr=>(hdI r).getD 0
def WE(P:List Row):(toP p P).map (·.1)=ZA P:=by unfold toP ZA;rw[bL];rfl
end
section
variable{p n:Nat}[Base p]
theorem yA{F:Type}[iw F]{x:Nat×Vec F}:∀{P:Pt F},(∀a∈P,a.1<x.1)->ins x P=P++[x]
 |[],_=>rfl
 |y::P,h=>by
  unfold ins;rw[T8 (by have:=h y<|ao ..;lia),yA λa ha=>h a<|ax _ ha];rfl
theorem xF{P:List Row}{l:Row}{j:Nat}(hP:pZ p n P)(hl:ZO p n l)(hj:j<n)(h1:gt l j=1)(h0:∀i,i<j->gt l i=0)(hh:∀r∈P,(hdI r).getD 0<j):pZ p n (P.map (λo=>clr p o l j)++[l])/\∀r∈P.map (λo=>clr p o l j)++[l],(hdI r).getD 0<j+1:=by
 have one:ph p 1=1:=by rcases(inferInstance:Base p).b with e|e|e<;>subst e<;>rfl
 have hlt:∀a∈toP p P,a.1<j:=λa ha=>by
  unfold toP at ha;obtain⟨r,hr,rfl⟩:=a8.mp ha;exact hh r hr
 have L:Lead (toP p P) j (toV p l):=#[by unfold toV;rw[h1,one],λi hi=>(YX hl).mpr<|h0 i hi,λa ha=>(YX hl).mpr<|h0 _<|hlt a ha]
 have rf:=vR fld.one0 hP.pn.rf L;have ew:wid (toP p P) j (toV p l)=(toP p P).map (off j<|toV p l)++[(j,toV p l)]:=yA λa ha=>by
  obtain⟨b,hb,rfl⟩:=a8.mp ha;exact hlt b hb
 have hx:hdI l=aa j:=Zct (by rw[h1];decide) h0
 have hmem:∀o∈P,off j (toV p l) ((hdI o).getD 0,toV p o)∈wid (toP p P) j (toV p l):=λo ho=>by
  rw[ew];exact c9 _<|a8.mpr #[_,YG ho,rfl]
 have eh:∀o∈P,hdI (clr p o l j)=aa ((hdI o).getD 0):=λo ho=>by
  have ho':=hP.row o ho;have hc:ZO p n (clr p o l j):=VS ho' hl;have ev:toV p (clr p o l j)=(off j (toV p l) ((hdI o).getD 0,toV p o)).2:=yJ ho' hl;rw[<-Zco hc,ev];exact wA (hP.pn.lt _<|YG ho) (λz=>fld.one0<|(rf.one _<|hmem o ho).symm.trans z)<|rf.low _<|hmem o ho
 have eP:toP p (P.map (λo=>clr p o l j)++[l])=wid (toP p P) j (toV p l):=by
  rw[ew];unfold toP;rw[bP,bL,bL]
  congr 1
  .refine cy λo ho=>?_
   show((hdI<|clr p o l j).getD 0,toV p<|clr p o l j)=off j _ ((hdI o).getD 0,toV p o);rw[eh o ho,yJ (hP.row o ho) hl];rfl
  .show[((hdI l).getD 0,toV p l)]=_
   rw[hx];rfl
 have hrow:∀r∈P.map (λo=>clr p o l j)++[l],ZO p n r:=λr hr=>by
  rcases bK.mp hr with z|z
  .obtain⟨o,ho,rfl⟩:=a8.mp z
   exact VS (hP.row o ho) hl
  .rw[aZ.mp z];exact hl
 refine#[#[hrow,#[by rw[eP];exact rf,λa ha=>?_,λa ha=>?_]],λr hr=>?_]
 .unfold toP at ha
  obtain⟨r,hr,rfl⟩:=a8.mp ha;rcases bK.mp hr with z|z
  .obtain⟨o,ho,rfl⟩:=a8.mp z
   show(hdI _).getD 0<n;rw[eh o ho];exact hP.pn.lt _<|YG ho
  .rw[aZ.mp z];rw[hx];exact hj
 .unfold toP at ha
  obtain⟨r,hr,rfl⟩:=a8.mp ha;exact Jp<|hrow r hr
 .rcases bK.mp hr with z|z
  .obtain⟨o,ho,rfl⟩:=a8.mp z
   rw[eh o ho];have:=hh o ho;show(hdI o).getD 0<j+1;lia
  .rw[aZ.mp z,hx];show j<j+1;lia
end
end Rw
namespace Pv
open Ev
open Rw
def Za{B β:Type}{a:B}{s:DS}{f:B->DS->PR β}:(PR.ok a s).bind f=f a s:=rfl
def vZ(hf:F[f]?=aa fn)(hne:f≠tk)(hl:vs.length=fn.ps):Zj F tk (d+1) f vs s=(rvs (Zj F tk d) (muts fn.body) fn.body (ZH fn.ns vs) [] s).bind λg s=>match g with
  |.ret v=>.ok v s
  |.nx _ _=>.ok .non s
  |_=>.no:=by
 rw[Zj,T8 hne,hf];show(if vs.length=fn.ps then _ else _)=_
 rw[T9 hl]
 all_goals rfl
def uB(s:DS)(h:0<m):0<=(Xm s m).1/\(Xm s m).1<m:=by
 unfold Xm;split
 .exact#[f8 _ (by lia),fk _ h]
 .exact#[f8 _ (by lia),fk _ h]
def vq(s:DS)(h0:0<m)(h1:m<1073741824):∃v s',Zj F tk (d+1) tk [.drw,.int m] s=.ok (.int v) s'/\0<=v/\v<m:=by
 refine#[(Xm s m).1,(Xm s m).2,?_,uB s h0];rw[Zj,T9 rfl];show(if 0<m/\m<1073741824 then _ else _)=_
 rw[T9 #[h0,h1]]
theorem X9{B:Type}{f:V->DS->PR (List V)}{s:DS}{e:B->V}{g:B->V}:∀{l:List B},(∀x∈l,f (e x) s=.ok [g x] s)->mapP f (l.map e) s=.ok (l.map g) s
 |[],_=>rfl
 |x::l,h=>by
  rw[bz,mapP,h x<|ao ..];show(match mapP f (l.map e) s with|.ok zs s=>PR.ok ([g x]++zs) s|_=>.no)=_
  rw[X9 λy hy=>h y<|ax _ hy];rfl
theorem WY{B:Type}{f:V->DS->PR (List V)}{s:DS}{e:B->V}{g:B->V}{q:B->Bool}:∀{l:List B},(∀x∈l,f (e x) s=.ok (if q x=aj then[g x]else[]) s)->mapP f (l.map e) s=.ok ((l.filter q).map g) s
 |[],_=>rfl
 |x::l,h=>by
  rw[bz,mapP,h x<|ao ..];show(match mapP f (l.map e) s with|.ok zs s=>PR.ok ((if q x=aj then[g x]else[])++zs) s|_=>.no)=_
  rw[WY λy hy=>h y<|ax _ hy,gY]
  cases q x<;>rfl
theorem WA{B:Type}{f:V->DS->PR (List V)}{s:DS}{e:B->V}{g:B->List V}:∀{l:List B},(∀x∈l,f (e x) s=.ok (g x) s)->mapP f (l.map e) s=.ok (l.flatMap g) s
 |[],_=>rfl
 |x::l,h=>by
  rw[bz,mapP,h x<|ao ..];show(match mapP f (l.map e) s with|.ok zs s=>PR.ok (g x++zs) s|_=>.no)=_
  rw[WA λy hy=>h y<|ax _ hy];rfl
noncomputable def UD:Option Nat->V
 |none=>.non
 |some k=>.int k
noncomputable def spV(p n:Nat):V:=.tup [.int p,.int n]
def zc{a:Int}(h:-4294967296<a)(h':a<4294967296):fits a=aj:=by
 refine T5 ?_;have h1:a.natAbs<2^32:=by lia
 exact bj h1<|dG (by decide) (by decide)
def WH{B:Type}{xs:List B}{k:Nat}{x:B}(h:xs[k]?=aa x):at' xs (k:Int)=aa x:=by
 have hk:=(a9.mp h).1;unfold at' ixN;rw[T9 (by lia),T9 (by lia)]
 rw[show(k:Int).toNat=k by lia];exact h
def GJ{r:Row}{k:Nat}(hk:k<r.length):at' (r.map V.int) (k:Int)=aa (.int<|gt r k):=by
 refine WH ?_;rw[aH,af hk];unfold gt;rw[aD,af hk];rfl
theorem ZT{B:Type}{g:B->Bool}:∀l:List B,Z0 (l.map λx=>.bl<|g x)=aa (l.map g)
 |[]=>rfl
 |x::l=>by rw[bz,Z0,ZT l];rfl
theorem Xj{B:Type}{f:V->V->Option Bool}{e:B->V}{d:B->B->Bool}(hd:∀a b,d a b=aj↔a=b)(h:∀a b,f (e a) (e b)=aa (d a b)):∀a b:List B,∃c,Ye f (a.map e) (b.map e)=aa c/\(c=aj↔a=b)
 |[],[]=>#[aj,rfl,by simp]
 |[],_::_=>#[ak,rfl,by simp]
 |_::_,[]=>#[ak,rfl,by simp]
 |x::a,y::b=>by
  obtain⟨c,e1,e2⟩:=Xj hd h a b;refine#[d x y&&c,?_,?_]
  .rw[bz,bz,Ye,h,e1]
  .rw[aB,hd,e2];simp
def jJ(k:Nat)(a b:Row):eqV (k+2) (Zh a) (Zh b)=aa (ag<|a=b):=by
 show Ye (eqV<|k+1) (a.map .int) (b.map .int)=_;obtain⟨c,e1,e2⟩:=Xj (f:=eqV<|k+1) (e:=V.int) (λa b=>by simp) (λa b=>rfl) a b
 rw[e1,show c=ag (a=b) by rw[bW,e2];simp]
def Wf(k:Nat)(a b:List Row):eqV (k+3) (Zb a) (Zb b)=aa (ag<|a=b):=by
 show Ye (eqV<|k+2) (a.map Zh) (b.map Zh)=_;obtain⟨c,e1,e2⟩:=Xj (λa b=>by simp) (λa b=>jJ k a b) a b
 rw[e1,show c=ag (a=b) by rw[bW,e2];simp]
theorem U6:∀r:Row,intsV (r.map V.int)=aa r
 |[]=>rfl
 |a::r=>by show(intsV<|r.map V.int).map (a :: ·)=_;rw[U6 r];rfl
theorem YS:∀P:List Row,ZL (P.map Zh)=aa P
 |[]=>rfl
 |r::P=>by
  show(match intsV (r.map V.int),ZL (P.map Zh)with|some a,aa b=>aa (a::b)|_,_=>ae)=_
  rw[U6,YS P]
theorem XT:∀r:Row,ZU (r.map V.int)=aj
 |[]=>rfl
 |a::r=>XT r
def jn(n:Nat):ZR 0 n=(aA n).map λ(k:Nat)=>V.int (k:Int):=by
 refine cy λk _=>?_
 simp
def ZS{B:Type}{a:B}{s:DS}:po (aa a) s=.ok a s:=rfl
section
variable{C:ZE}{cap:List Nat}{nl:Nat}{t:List Nat}{it:W}{elt tst:E}{O:Env}{s:DS}{B:Type}
def ZQ{l:List B}{e g:B->V}(hw:pvw C it O s=.ok (l.map e) s)(hl:l.length<=lim)(h:∀x∈l,∃U,Zl t (e x) (ZY cap nl O)=aa U/\pv C elt U s=.ok (g x) s)(ho:own nl t=aj:=by rfl):pv C (.comp1 cap nl t it [] elt) O s=.ok (.lst<|l.map g) s:=by
 rw[pv,T9 ho,hw,Za,X9 λx hx=>by
  obtain⟨U,e1,e2⟩:=h x hx;rw[e1,ZS,Za,pvt,Za];rw[e2];rfl]
 rw[Za,T9 (by rw[ap];exact hl)];rfl
def J3{l:List B}{e g:B->V}{q:B->Bool}(hw:pvw C it O s=.ok (l.map e) s)(hl:l.length<=lim)(h:∀x∈l,∃U v,Zl t (e x) (ZY cap nl O)=aa U/\pv C tst U s=.ok v s/\Zm v=aa (q x)/\(q x=aj->pv C elt U s=.ok (g x) s))(ho:own nl t=aj:=by rfl):pv C (.comp1 cap nl t it [tst] elt) O s=.ok (.lst<|(l.filter q).map g) s:=by
 rw[pv,T9 ho,hw,Za,WY (q:=q) λx hx=>by
  obtain⟨U,v,e1,e2,e3,e4⟩:=h x hx;rw[e1,ZS,Za,pvt,e2,Za,e3,ZS,Za];cases c:q x with
  |true=>
   rw[T9 rfl,pvt,Za,T9 rfl,T9 rfl,e4 c];rfl
  |false=>rw[T8 (by simp),Za,T8 (by simp),T8 (by simp)]]
 rw[Za,T9 (by rw[ap];exact cM (List.length_filter_le ..) hl)];rfl
def Jr{β:Type}{u:List Nat}{jt:W}{l:List B}{e:B->V}{m:B->List β}{e2:β->V}{g:B->β->V}(hw:pvw C it O s=.ok (l.map e) s)(hl:(l.flatMap λx=>(m x).map<|g x).length<=lim)
  (h:∀x∈l,∃U,Zl t (e x) (ZY cap nl O)=aa U/\pvw C jt U s=.ok ((m x).map e2) s/\∀y∈m x,∃σ',Zl u (e2 y) U=aa σ'/\pv C elt σ' s=.ok (g x y) s)(ho:own2 nl t u=aj:=by rfl):pv C (.comp2 cap nl t it [] u jt [] elt) O s=.ok (.lst<|l.flatMap λx=>(m x).map<|g x) s:=by
 rw[pv,T9 ho,hw,Za,WA λx hx=>by
  obtain⟨U,e1,e3,e4⟩:=h x hx;rw[e1,ZS,Za,pvt,Za,T9 rfl,e3,Za];exact X9 λy hy=>by
   obtain⟨σ',f1,f2⟩:=e4 y hy;rw[f1,ZS,Za,pvt,Za];rw[f2];rfl]
 rw[Za,T9 hl];rfl
end
def Zcs{xs:List V}{k:Nat}(h:k<=xs.length):Yu xs ae (aa (k:Int))=xs.take k:=by
 show(xs.drop 0).take ((if(k:Int)<0 then((k:Int)+xs.length).toNat else pj (k:Int).toNat xs.length)-0)=_
 rw[T8 (by lia),show pj (k:Int).toNat xs.length-0=k by lia];rfl
def Gf{xs:List V}{i:Int}{k:Nat}(hi:i=k)(h:k<=xs.length):Yu xs (aa i) ae=xs.drop k:=by
 subst hi;show(xs.drop<|if(k:Int)<0 then((k:Int)+xs.length).toNat else pj (k:Int).toNat xs.length).take (xs.length-(if(k:Int)<0 then((k:Int)+xs.length).toNat else pj (k:Int).toNat xs.length))=_
 rw[T8 (by lia),show pj (k:Int).toNat xs.length=k by lia]
 exact ck (by rw[br];lia)
def Gw{xs:List V}:Yu xs (aa 1) ae=xs.tail:=by
 cases xs with|nil=>rfl|cons x xs=>exact Gf rfl (by simp)
noncomputable def Zg(k:Nat):V:=.int k
def jb(n:Nat):ZR 0 n=(aA n).map Zg:=by rw[jn];rfl
def Yq(h0:0<=i)(h1:i<1000000):small i=aj:=by
 unfold small;have e:(2:Int)^62=4611686018427387904:=by decide
 rw[e];exact T5 #[by lia,by lia]
def Zt(hf:F[f]?=aa fn)(hne:f≠tk)(hl:vs.length=fn.ps)(h:rvs (Zj F tk d) (muts fn.body) fn.body (ZH fn.ns vs) [] s=.ok (.ret v) s'):Zj F tk (d+1) f vs s=.ok v s':=by
 rw[vZ hf hne hl,h];rfl
def yq(hf:F[f]?=aa fn)(hne:f≠tk)(hl:vs.length=fn.ps)(h:rvs (Zj F tk d) (muts fn.body) fn.body (ZH fn.ns vs) [] s=.ok (.nx O os) s'):Zj F tk (d+1) f vs s=.ok .non s':=by
 rw[vZ hf hne hl,h];rfl
def Zf(h:rv C ms m O os s=.ok (.nx ρ' os') s'):rvs C ms (m::l) O os s=rvs C ms l ρ' os' s':=by rw[rvs,h];rfl
def ZC(h:rv C ms m O os s=.ok (.ret v) s'):rvs C ms (m::l) O os s=.ok (.ret v) s':=by rw[rvs,h];rfl
def Z7(h:pv C e O s=.ok v s'):rv C ms (.ret e) O os s=.ok (.ret v) s':=by rw[rv,h];rfl
def V0(h:pv C (.call f as) O s=.ok v s'):rv C ms (.ex<|.call f as) O os s=.ok (.nx O os) s':=by
 have:rv C ms (.ex<|.call f as) O os s=(pv C (.call f as) O s).bind λ_ s=>.ok (.nx O os) s:=by
  rw[rv]
  all_goals(intro _ _ z;cases z)
 rw[this,h];rfl
def US{b:Bool}{t:E}{x y:List Sm}(h:XC C t O s=.ok b s'):rv C ms (.ite t x y) O os s=if b=aj then rvs C ms x O os s' else rvs C ms y O os s':=by rw[rv,h];rfl
def VO{v:V}{b:Bool}{t:E}(h:pv C t O s=.ok v s')(hb:Zm v=aa b):XC C t O s=.ok b s':=by unfold XC;rw[h,Za,hb];rfl
def ZG{f:Nat}{as:List E}{vs:List V}{v:V}{s1:DS}(h:pvs C as O s=.ok vs s1)(hc:C f vs s1=.ok v s'):pv C (.call f as) O s=.ok v s':=by rw[pv,h];exact hc
def Zk:pvs C [] O s=.ok [] s:=by rw[pvs]
def Zc{e:E}{es:List E}{v:V}{vs:List V}{s1:DS}(h:pv C e O s=.ok v s1)(h2:pvs C es O s1=.ok vs s'):pvs C (e::es) O s=.ok (v::vs) s':=by rw[pvs,h,Za,h2];rfl
def Ze{i:Nat}{v:V}(h:O[i]?=aa (aa v)):pv C (.v i) O s=.ok v s:=by rw[pv,h];rfl
def Z2{i:Nat}{e:E}{v:V}(h:pv C e O s=.ok v s')(hm:(ms.contains i&&fresh e)=ak):rv C ms (.asg [i] e) O [] s=.ok (.nx (O.set i<|aa v) []) s':=by
 rw[rv];show(pv C e O s).bind _=_;rw[h,Za,T8 (by rw[hm];simp)];rfl
def Xx{e:E}{n:Nat}(h:pv C e O s=.ok (.int n) s')(hn:n<1000000):pvw C (.rng1 e) O s=.ok ((aA n).map Zg) s':=by
 rw[pvw,h,Za];show(if small (n:Int)=aj then PR.ok (ZR 0 (n:Int).toNat) s' else .no)=_
 rw[T9 (Yq (by lia) (by lia)),gD,jb]
def yX{B:Type}{t:List Nat}{it:W}{b:List Sm}{L:List B}{e:B->V}(I:List B->Env->Prop)(hw:pvw C it (hide os O) s=.ok (L.map e) s)(hI:I L O)(ht:(t.any os.contains)=ak)
  (h:∀x l O,I (x::l) O->(os.isEmpty||(e x).flat)=aj/\∃ρ1 ρ',Zl t (e x) O=aa ρ1/\rvs C ms b ρ1 os s=.ok (.nx ρ' os) s/\I l ρ') :
  ∃ρ',I [] ρ'/\rv C ms (.forr t it b) O os s=.ok (.nx ρ' os) s:=by
 rw[rv,hw,Za];clear hw
 induction L generalizing O with
 |nil=>exact#[O,hI,rfl]
 |cons x L ih=>
  obtain⟨f,ρ1,ρ',b1,b2,b3⟩:=h x L O hI;obtain⟨ρ2,c1,c2⟩:=ih b3;refine#[ρ2,c1,?_];rw[bz,XR,T8 (by rw[ht];simp),b1,ZS,Za,b2,Za]
  exact c2
def Y1{U B:Type}{t:List Nat}{it:W}{b:List Sm}{L:List B}{e:B->V}{step:U->B->U}{O:U->Option V->Env}{st:U}{o:Option V}(I:List B->U->Prop)(hw:pvw C it (hide os<|O st o) s=.ok (L.map e) s)(hI:I L st)(ht:(t.any os.contains)=ak)
  (h:∀x l st o,I (x::l) st->I l (step st x)/\(os.isEmpty||(e x).flat)=aj/\∃ρ1 o',Zl t (e x) (O st o)=aa ρ1/\rvs C ms b ρ1 os s=.ok (.nx (O (step st x) o') os) s) :
  ∃o',I [] (L.foldl step st)/\rv C ms (.forr t it b) (O st o) os s=.ok (.nx (O (L.foldl step st) o') os) s:=by
 rw[rv,hw,Za];clear hw
 induction L generalizing st o with
 |nil=>exact#[o,hI,rfl]
 |cons x L ih=>
  obtain⟨a,f,ρ1,o',b1,b2⟩:=h x L st o hI;obtain⟨o2,c1,c2⟩:=ih (st:=step st x) (o:=o') a;refine#[o2,c1,?_];rw[bz,XR,T8 (by rw[ht];simp),b1,ZS,Za,b2,Za]
  exact c2
def pvF:(∀a,fresh (.lst a)=aj)/\(∀a b,fresh (.bin .mul (.lst a) b)=aj)/\(∀b,Zm (.bl b)=aa b)/\(∀i,Zm (.int i)=aa (ag<|i≠0))/\(∀xs,Zm (.tup xs)=aa (!xs.isEmpty))/\(∀xs,Zm (.lst xs)=aa (!xs.isEmpty))/\(Zm .non=aa ak)/\(∀xs i,ixV (.tup xs) (.int i)=at' xs i)/\(∀xs i,ixV (.lst xs) (.int i)=at' xs i)/\(∀xs,YF (.tup xs)=aa xs)/\(∀xs,YF (.lst xs)=aa xs)/\(∀x,Xb .len [x]=(YF x).map λxs=>.int xs.length)/\(∀x,Xb .tuple [x]=(YF x).map .tup)/\(∀x,Xb .list [x]=(YF x).map .lst)/\(∀xs,Xb .all [.lst xs]=(Z0 xs).map λbs=>.bl<|bs.all id)/\(∀a b,Xb .max2 [.int a,.int b]=aa (.int (if b>a then b else a)))/\(∀a b,Xb .min2 [.int a,.int b]=aa (.int (if b<a then b else a)))/\(∀a,Xb .toInt [.int a]=aa (.int a))/\(∀a,Xb .toInt [.bl a]=aa (.int<|b2i a))/\(∀xs,Xb .sortedR [.lst xs]=(ZL xs).bind λrs=>if Z9 rs=aj then aa (.lst<|(ZK rs).reverse.map Zh)else ae)/\(∀a b s,Yy .add (.int a) (.int b) s=.ok (.int<|a+b) s)/\(∀a b s,Yy .sub (.int a) (.int b) s=.ok (.int<|a-b) s)/\(∀a b s,Yy .mul (.int a) (.int b) s=if(fits a&&fits b)=aj then .ok (.int<|a*b) s else .no)/\(∀a b s,Yy .mod (.int a) (.int b) s=if 0<b then .ok (.int<|a%b) s else .no)/\(∀a b s,Yy .add (.tup a) (.tup b) s=if a.length+b.length<=lim then .ok (.tup<|a++b) s else .no)/\(∀a b s,Yy .mul (.tup a) (.int b) s=if 0<=b/\b<1000/\a.length<=1000 then .ok (.tup (aP b.toNat a).flatten) s else .no)/\(∀a b s,Yy .mul (.lst a) (.int b) s=if 0<=b/\b<1000/\a.length<=1000 then .ok (.lst (aP b.toNat a).flatten) s else .no)/\(∀a b s,Yy .add (.lst a) (.lst b) s=if a.length+b.length<=lim then .ok (.lst<|a++b) s else .no)/\(∀x y,Yk .eq x y=(eqV Zi x y).map .bl)/\(∀x y,Yk .ne x y=(eqV Zi x y).map λb=>.bl !b)/\(∀a b,Yk .lt (.int a) (.int b)=aa (.bl<|ag<|a<b))/\(∀a b,Yk .gt (.int a) (.int b)=aa (.bl<|ag<|b<a))/\(∀a b,Yk .le (.int a) (.int b)=aa (.bl<|ag<|a<=b))/\(∀a b,Yk .ge (.int a) (.int b)=aa (.bl<|ag<|b<=a))/\(∀x,Yk .is x .non=aa (.bl<|W5 x))/\(∀x,Yk .isn x .non=aa (.bl !(W5 x)))/\(∀a b,Yk .is (.bl a) (.bl b)=aa (.bl<|ag<|a=b))/\(∀a b,Yk .isn (.bl a) (.bl b)=aa (.bl !(ag<|a=b)))/\(∀x y,Yk .inn x y=(W2 x y).map .bl)/\(∀x y,Yk .nin x y=(W2 x y).map λb=>.bl !b)/\(W5 .non=aj)/\(∀b,W5 (.bl b)=ak)/\(∀b,W5 (.int b)=ak)/\(∀b,W5 (.tup b)=ak)/\(∀b,W5 (.lst b)=ak)/\(ofD .non=aa .non)/\(∀b,ofD (.bl b)=aa (.bl b))/\(∀b,ofD (.int b)=aa (.int b))/\(∀O,YA [] [] O=aa O)/\(∀i t x xs O,YA (i::t) (x::xs) O=YA t xs (O.set i<|aa x))/\(∀i x O,Zl [i] x O=aa (O.set i<|aa x))/\(∀i j t xs O,Zl (i::j::t) (.tup xs) O=YA (i::j::t) xs O)/\(∀i j t xs O,Zl (i::j::t) (.lst xs) O=YA (i::j::t) xs O)/\(∀k a b,eqV (k+1) (.int a) (.int b)=aa (ag<|a=b))/\(∀k a b,eqV (k+1) (.bl a) (.bl b)=aa (ag<|a=b))/\(∀k a b,eqV (k+1) (.tup a) (.tup b)=Ye (eqV k) a b)/\(∀k a b,eqV (k+1) (.lst a) (.lst b)=if a.length=b.length then Ye (eqV k) a b else aa ak):=
 #[λ_=>rfl,λ_ _=>rfl,λ_=>rfl,λ_=>rfl,λ_=>rfl,λ_=>rfl,rfl,λ_ _=>rfl,λ_ _=>rfl,λ_=>rfl,λ_=>rfl,λ_=>rfl,λ_=>rfl,λ_=>rfl,λ_=>rfl,λ_ _=>rfl,λ_ _=>rfl,λ_=>rfl,λ_=>rfl,λ_=>rfl,λ_ _ _=>rfl,λ_ _ _=>rfl,λ_ _ _=>rfl,λ_ _ _=>rfl,λ_ _ _=>rfl,λ_ _ _=>rfl,λ_ _ _=>rfl,λ_ _ _=>rfl,λ_ _=>rfl,λ_ _=>rfl,λ_ _=>rfl,λ_ _=>rfl,λ_ _=>rfl,λ_ _=>rfl,λ_=>rfl,λ_=>rfl,λ_ _=>rfl,λ_ _=>rfl,λ_ _=>rfl,λ_ _=>rfl,rfl,λ_=>rfl,λ_=>rfl,λ_=>rfl,λ_=>rfl,rfl,λ_=>rfl,λ_=>rfl,λ_=>rfl,λ_ _ _ _ _=>rfl,λ_ _ _=>rfl,λ_ _ _ _ _=>rfl,λ_ _ _ _ _=>rfl,λ_ _ _=>rfl,λ_ _ _=>rfl,λ_ _ _=>rfl,λ_ _ _=>rfl]
def pvE:=aU (aU (aU (aU (aU (aU pvF @Za)<|aU @ZS @XC.eq_1)<|aU (aU @ZH.eq_1 @hide.eq_1)<|aU @ZY.eq_1 @Option.join.eq_1.{0})<|aU (aU (aU @lim.eq_1 @rvs.eq_1)<|aU @rvs.eq_2 @rv.eq_1)<|aU (aU @rv.eq_2 @rv.eq_3)<|aU @rv.eq_4 @rv.eq_5)<|aU (aU (aU (aU @rv.eq_6 @rv.eq_7)<|aU @rv.eq_8 @rv.eq_9)<|aU (aU @rv.eq_10 @rv.eq_11)<|aU @rv.eq_12 @rv.eq_13)<|aU (aU (aU @rv.eq_14 @rv.eq_15)<|aU @rv.eq_16 @rv.eq_17)<|aU (aU @rv.eq_18 @pvA.eq_1)<|aU @pvA.eq_2<|aU @pvs.eq_1 @pvs.eq_2)<|aU (aU (aU (aU (aU @pvo.eq_1 @pvo.eq_2)<|aU @pvt.eq_1 @pvt.eq_2)<|aU (aU @pvw.eq_1 @pvw.eq_2)<|aU @pvw.eq_3 @pvw.eq_4)<|aU (aU (aU @pvw.eq_5 @pvw.eq_6)<|aU @pvw.eq_7 @pv.eq_1)<|aU (aU @pv.eq_2 @pv.eq_3)<|aU @pv.eq_4<|aU @pv.eq_5 @pv.eq_6)<|aU (aU (aU (aU @pv.eq_7 @pv.eq_8)<|aU @pv.eq_9 @pv.eq_10)<|aU (aU @pv.eq_11 @pv.eq_12)<|aU @pv.eq_13 @pv.eq_14)<|aU (aU (aU @pv.eq_15 @pv.eq_16)<|aU @pv.eq_17 @pv.eq_18)<|aU (aU @pv.eq_19 @pv.eq_20)<|aU @pv.eq_21<|aU @pv.eq_22 @pv.eq_23
end Pv
namespace K35
open Ev Pv Rw La
noncomputable abbrev CV(d:Nat):ZE:=Zj fns 2 d
theorem Ql(C:ZE)(s:DS)(v:V):∀(r:Row)(k:Nat)(a b:Option V),∃a' b',XR (λx O os s=>if(([1,2]:List Nat).any os.contains)=aj then .no else(po (Zl [1,2] x O) s).bind λO s=>rvs C [] [.ite (.cmp .ne (.v 2)<|.c<|.int 0) [.ret<|.v 1] []] O os s)
   (((ZR k r.length).zip<|r.map V.int).map λp=>V.tup [p.1,p.2]) [aa v,a,b] [] s=match hdI r with
    |some m=>.ok (.ret<|.int (k+m:Nat)) s
    |none=>.ok (.nx [aa v,a',b'] []) s
 |[],k,a,b=>#[a,b,rfl]
 |x::r,k,a,b=>by
  have er:ZR k (x::r).length=.int k::ZR (k+1:Nat) r.length:=by
   unfold ZR;rw[aE,lw,bz,bL];refine List.cons_eq_cons.mpr #[by simp,?_]
   .refine cy λj _=>?_
    show V.int ((k:Int)+((j+1:Nat):Int))=V.int (((k+1:Nat):Int)+(j:Int))
    congr 1
    lia
  obtain⟨a',b',ih⟩:=Ql C s v r (k+1) (aa<|.int k)<|aa<|.int x;refine#[a',b',?_];rw[er,bz,cn,bz,XR];by_cases c:x=0
  .subst c
   have e0:hdI (0::r)=(hdI r).map (· + 1):=by rw[hdI,T8 (by simp)]
   have e1:(if(([1,2]:List Nat).any ([]:List Nat).contains)=aj then(.no:PR FlV)else(po (Zl [1,2] (V.tup [.int k,.int 0]) [aa v,a,b]) s).bind λO s=>rvs C [] [.ite (.cmp .ne (.v 2)<|.c<|.int 0) [.ret<|.v 1] []] O [] s)=.ok (.nx [aa v,aa<|.int k,aa<|.int 0] []) s:=by
    simp[pvE,Zi]
   rw[e1,Za,e0];show XR _ _ [aa v,aa<|.int k,aa<|.int 0] [] s=_;rw[ih];cases hdI r with|none=>rfl|some m=>show PR.ok (FlV.ret<|.int ((k+1+m:Nat):Int)) s=PR.ok (FlV.ret<|.int ((k+(m+1):Nat):Int)) s;congr 3;lia
  .have e0:hdI (x::r)=aa 0:=by rw[hdI,T9 c]
   have e1:(if(([1,2]:List Nat).any ([]:List Nat).contains)=aj then(.no:PR FlV)else(po (Zl [1,2] (V.tup [.int k,.int x]) [aa v,a,b]) s).bind λO s=>rvs C [] [.ite (.cmp .ne (.v 2)<|.c<|.int 0) [.ret<|.v 1] []] O [] s)=.ok (.ret<|.int k) s:=by
    simp[pvE,Zi,c]
   rw[e1,Za,e0];rfl
def QM(d:Nat)(r:Row)(s:DS):CV (d+1) 8 [Zh r] s=.ok (UD<|hdI r) s:=by
 rw[CV,vZ rfl (by decide) rfl]
 obtain⟨a,b,e⟩:=Ql (Zj fns 2 d) s (Zh r) r 0 ae ae;show((rv _ [] (.forr [1,2] (.enum<|.v 0) _) [aa<|Zh r,ae,ae] [] s).bind _).bind _=_;have e2:rv (Zj fns 2 d) [] (.forr [1,2] (.enum<|.v 0) [.ite (.cmp .ne (.v 2)<|.c<|.int 0) [.ret<|.v 1] []]) [aa<|Zh r,ae,ae] [] s=match hdI r with
    |some m=>.ok (.ret<|.int (m:Nat)) s
    |none=>.ok (.nx [aa<|Zh r,a,b] []) s:=by
  rw[rv];have ew:pvw (Zj fns 2 d) (.enum<|.v 0) (hide [] [aa<|Zh r,ae,ae]) s=.ok (((ZR 0 r.length).zip<|r.map V.int).map λp=>V.tup [p.1,p.2]) s:=by
   simp[pvE,Zh]
  rw[ew,Za];simp only[gK,Int.natCast_zero]at e;exact e
 rw[e2];cases hdI r with|none=>rfl|some m=>rfl
section
variable{p n:Nat}[Base p]
def Zaw:(p:Int)<=5/\(2:Int)<=p:=by rcases(inferInstance:Base p).b with e|e|e<;>subst e<;>decide
end
section
variable{p n:Nat}[Base p]
def Yo(C:ZE)(ms:List Nat){i j:Nat}{O:Env}{os:List Nat}{s:DS}{e:E}(h:pvA C e O os s=.ok (spV p n) s)(ho:os.contains i=ak/\os.contains j=ak):rv C ms (.asg [i,j] e) O os s=.ok (.nx ((O.set i<|aa<|.int p).set j<|aa<|.int n) os) s:=by
 rw[rv,h,Za,T8 (by simpa using ho)]
 .rfl
 .simp
theorem dsum{P:List Row}(hP:pZ p n P):P.length<=n:=by
 have:=x6 fld hP.pn;rw[qy]at this;lia
end
end K35
namespace Rw
open La
open Ev (ltI Y0 ZK)
section
variable{p n:Nat}[Base p]
noncomputable def XI(p:Nat)(rs:List Row):List Row:=rs.flatMap λr=>(aA p).map λ(k:Nat)=>r++[(k:Int)]
noncomputable def Zp(p n h:Nat):List Row:=(aA<|n-(h+1)).foldl (λrs _=>XI p rs) [aP h 0++[1]]
noncomputable def ZW(P:List Row):Nat:=match P.getLast? with
 |some r=>(hdI r).getD 0+1
 |none=>0
noncomputable def XV(n f:Nat):List Nat:=((aA<|n-f).map (f + ·)).reverse
noncomputable def G0(p n:Nat)(P:List Row)(st:List Row)(h:Nat):List Row:=if(P.all λr=>ag<|gt r h=0)=aj then st++Zp p n h else st
noncomputable def GB(p n:Nat)(P:List Row):List Row:=(XV n<|ZW P).foldl (G0 p n P) []
noncomputable def Gx(p n:Nat)(Ps:List (List Row)):List (List Row):=Ps.flatMap λP=>(GB p n P).map λr=>P++[r]
noncomputable def Zn(p n:Nat):Nat->List (List Row)
 |0=>[[]]
 |k+1=>Gx p n<|Zn p n k
def jj(p h m:Nat)(r:Row):Prop:=∃t:Row,r=aP h 0++1::t/\t.length=m/\∀a∈t,0<=a/\a<(p:Int)
theorem qK{h m:Nat}{rs:List Row}(H:∀r∈rs,jj p h m r):∀r∈XI p rs,jj p h (m+1) r:=λr hr=>by
 obtain⟨q,hq,hr⟩:=d3.mp hr;obtain⟨k,hk,rfl⟩:=a8.mp hr;obtain⟨t,rfl,ht,hb⟩:=H q hq;have hk':=aN.mp hk;refine#[t++[(k:Int)],by simp,by simp[ht],λa ha=>?_]
 rcases bK.mp ha with z|z
 .exact hb a z
 .rw[aZ.mp z];exact#[by lia,by lia]
def JX(rs:List Row):(XI p rs).length=rs.length*p:=by
 unfold XI;rw[mF];simp only[ap,be];rw[oI,lH]
theorem Jv{h:Nat}:∀(L:List Nat){m:Nat}{rs:List Row},(∀r∈rs,jj p h m r)->(∀r∈L.foldl (λrs _=>XI p rs) rs,jj p h (m+L.length) r)/\(L.foldl (λrs _=>XI p rs) rs).length=rs.length*p^L.length
 |[],m,rs,H=>#[H,by simp]
 |_::L,m,rs,H=>by
  obtain⟨a,b⟩:=Jv L<|qK H;refine#[λr hr=>?_,?_]
  .have:=a r hr
   rw[show m+1+L.length=m+(L.length+1) by lia]at this
   exact this
  .rw[hW,b,JX,aE,iF,mM,gC p]
theorem WM{h:Nat}(hh:h<n):(∀r∈Zp p n h,ZO p n r/\gt r h=1/\∀i,i<h->gt r i=0)/\(Zp p n h).length=p^(n-(h+1)):=by
 have hone:(1:Int)<p:=by rcases(inferInstance:Base p).b with e|e|e<;>subst e<;>decide
 obtain⟨a,b⟩:=Jv (p:=p) (aA<|n-(h+1)) λr hr=>#[[],by rw[aZ.mp hr],rfl,λa ha=>by cases ha]
 refine#[λr hr=>?_,by unfold Zp;rw[b];simp]
 obtain⟨t,rfl,ht,hb⟩:=a r hr;rw[be]at ht;refine#[#[by simp[ht];lia,λx hx=>?_],?_,λi hi=>?_]
 .rcases bK.mp hx with z|z
  .rw[(List.mem_replicate.mp z).2];exact#[by lia,by lia]
  .rcases aC.mp z with rfl|z
   .exact#[by lia,hone]
   .exact hb x z
 .unfold gt;rw[aD,bg (by simp)];simp
 .unfold gt;rw[aD,bH (by simpa using hi),cP];simp[hi]
theorem Jl{P:List Row}{r:Row}:∀(L:List Nat)(st:List Row),r∈L.foldl (G0 p n P) st->r∈st\/∃h∈L,(∀q∈P,gt q h=0)/\r∈Zp p n h
 |[],st,hr=>.inl hr
 |h::L,st,hr=>by
  rcases Jl L (G0 p n P st h) hr with z|⟨k,hk,z⟩
  .unfold G0 at z
   split at z
   .rename_i c
    rcases bK.mp z with z|z
    .exact .inl z
    .exact .inr #[h,ao ..,λq hq=>T6<|aO.mp c q hq,z]
   .exact .inl z
  .exact .inr #[k,ax _ hk,z]
theorem Uo{f h:Nat}:h∈XV n f↔f<=h/\h<n:=by
 unfold XV;rw[dq,a8]
 constructor
 .rintro ⟨k,hk,rfl⟩
  have:=aN.mp hk;lia
 .rintro ⟨a,b⟩
  exact#[h-f,aN.mpr (by lia),by lia]
def xC{P:List Row}{r:Row}(hr:r∈GB p n P):∃h,ZW P<=h/\h<n/\(∀q∈P,gt q h=0)/\r∈Zp p n h:=by
 rcases Jl _ _ hr with z|⟨h,hh,a,b⟩
 .cases z
 .obtain⟨x,y⟩:=Uo.mp hh
  exact#[h,x,y,a,b]
theorem wU{P:List Row}(hP:pZ p n P){r:Row}(hr:r∈P):(hdI r).getD 0<ZW P:=by
 have hi:=hP.pn.rf.inc;unfold toP at hi;rw[c0]at hi;unfold ZW;cases e:P.getLast? with
 |none=>rw[i7]at e;rw[e]at hr;cases hr
 |some q=>
  obtain⟨P',rfl⟩:=eA.mp e;show _<(hdI q).getD 0+1;rcases bK.mp hr with z|z
  .have:=(db.mp hi).2.2 r z q (aZ.mpr rfl)
   simp only at this;lia
  .rw[aZ.mp z];lia
def qd{o l:Row}{j:Nat}(ho:ZO p n o)(hl:ZO p n l)(h:gt o j=0):clr p o l j=o:=by
 refine Zcu ?_ λk=>?_
 .exact(VS ho hl).1.trans ho.1.symm
 .unfold clr
  rw[ye ho hl,h];have:=qu ppos ho k;simp only[Int.neg_zero,Int.zero_mul,Int.add_zero];exact kn this.1 this.2
def j5{P:List Row}{r:Row}(hP:pZ p n P)(hr:r∈GB p n P):pZ p n (P++[r]):=by
 obtain⟨h,h1,h2,h3,h4⟩:=xC hr;obtain⟨hrow,hone,hzero⟩:=(WM h2).1 r h4;have:=xF hP hrow h2 hone hzero λq hq=>bj (wU hP hq) h1
 have e:P.map (λo=>clr p o r h)=P:=by
  conv=>rhs;rw[<-List.map_id P]
  exact cy λo ho=>qd (hP.row o ho) hrow<|h3 o ho
 rw[e]at this;exact this.1
theorem Yt:∀(k:Nat),∀P∈Zn p n k,pZ p n P/\P.length=k
 |0,P,hP=>by rw[aZ.mp hP];exact#[pZ.nil,rfl]
 |k+1,P,hP=>by
  obtain⟨Q,hQ,hP⟩:=d3.mp hP;obtain⟨r,hr,rfl⟩:=a8.mp hP;obtain⟨a,b⟩:=Yt k Q hQ;exact#[j5 a hr,by simp[b]]
end
end Rw
namespace Rw
open Ev (ltP Zr ZF)
noncomputable def Zc3(p n:Nat):Bool:=(aA<|n+1).all λk=>ag<|(Zn p n k).length<=1395
noncomputable def Q5:List (Nat×Nat):=[(2,1),(2,2),(2,3),(2,4),(3,1),(3,2),(3,3),(5,1),(5,2)]
noncomputable def Jc:List (Nat×Nat):=[(2,5),(2,6),(3,4),(5,3)]
def vB:((Q5++Jc).all λs=>Zc3 s.1 s.2)=aj:=by decide +kernel
open La
noncomputable def rise(hs:List Nat):Bool:=(hs.zip hs.tail).all λq=>ag<|q.1<q.2
theorem Ww:∀{hs:List Nat},rise hs=aj↔hs.Pairwise (· < ·)
 |[]=>by simp[rise]
 |[a]=>by simp[rise]
 |a::b::l=>by
  have ih:=Ww (hs:=b::l);unfold rise at ih ⊢;rw[pf,cn,g7,aB,T0];rw[pf]at ih
  constructor
  .intro#[h1,h2]
   have h3:=ih.mp h2;refine aY.mpr #[λx hx=>?_,h3]
   rcases aC.mp hx with rfl|hx
   .exact h1
   .exact dE h1<|(aY.mp h3).1 x hx
  .intro h
   obtain⟨h1,h2⟩:=aY.mp h;exact#[h1 b<|ao ..,ih.mpr h2]
noncomputable def WU(R:List Row)(i k:Nat):Bool:=ag (gt (R.getD i []) k=1)&&(R.take i++R.drop (i+1)).all λr=>ag<|gt r k=0
noncomputable def VX(R:List Row):Bool:=(R.all λr=>(hdI r).isSome)&&(rise (ZA R)&&(aA R.length).all λi=>WU R i<|(ZA R).getD i 0)
section
variable{p n:Nat}[Base p]
def Q9{R:List Row}{i:Nat}(hi:i<R.length):R.getD i []=R[i]:=by rw[aD,af hi];rfl
def VG(hi:i<R.length):(ZA R).getD i 0=(hdI R[i]).getD 0:=by
 unfold ZA;rw[aD,aH,af hi];rfl
def ZcU{R:List Row}{i j:Nat}(hj:j<R.length)(h:j≠i):R[j]∈R.take i++R.drop (i+1):=by
 by_cases c:j<i
 .refine c9 _ ?_
  have hl:j<(R.take i).length:=by rw[bo];omega
  rw[<-eK];exact aR hl
 .refine bB _ ?_
  have hl:j-(i+1)<(R.drop<|i+1).length:=by rw[br];omega
  have e:(R.drop<|i+1)[j-(i+1)]=R[j]:=by rw[eL];congr 1;omega
  rw[<-e];exact aR hl
def Qb{R:List Row}{i:Nat}{r:Row}(h:r∈R.take i++R.drop (i+1)):∃j,∃(hj:j<R.length),j≠i/\R[j]=r:=by
 rcases bK.mp h with z|z
 .obtain⟨j,hj,e⟩:=bv z
  rw[bo]at hj;exact#[j,by omega,by omega,by rw[<-e,eK]]
 .obtain⟨j,hj,e⟩:=bv z
  rw[br]at hj;exact#[i+1+j,by omega,by omega,by rw[<-e,eL]]
def ut:ph p 1=1:=by
 rcases(inferInstance:Base p).b with e|e|e<;>subst e<;>rfl
def yG(hr:ZO p n r):toV p r k=1↔gt r k=1:=by
 have hb:=(inferInstance:Base p).b
 constructor
 .intro h
  refine wO (qu ppos hr k) #[by omega,by omega] ?_
  rw[ut];exact h
 .intro h
  unfold toV;rw[h,ut]
def UN{R:List Row}(hR:∀r∈R,ZO p n r):VX R=aj↔pZ p n R:=by
 unfold VX;simp only[aB,aO,aN]
 constructor
 .intro#[h1,h2,h3]
  have hd:∀i (hi:i<R.length),∃k,hdI R[i]=aa k/\gt R[i] k=1/\∀j (hj:j<R.length),j≠i->gt R[j] k=0:=λi hi=>by
   obtain⟨k,hk⟩:=c8.mp<|h1 _<|aR hi;have a:=h3 i hi;unfold WU at a;rw[VG hi,Q9 hi,hk,aB,T0,aO]at a;exact#[k,hk,a.1,λj hj ne=>T6<|a.2 _<|ZcU hj ne]
  have inc:=Ww.mp h2;have memP:∀a∈toP p R,∃i,∃(hi:i<R.length),a=((hdI R[i]).getD 0,toV p R[i]):=λa ha=>by
   obtain⟨r,hr,rfl⟩:=a8.mp ha;obtain⟨i,hi,rfl⟩:=bv hr;exact#[i,hi,rfl]
  refine#[hR,#[#[?_,λa ha j hj=>?_,λa ha=>?_,λa ha b hb ne=>?_],λa ha=>?_,λa ha=>?_]]
  .rw[<-WE (p:=p)]at inc
   exact c0.mp inc
  .obtain⟨i,hi,rfl⟩:=memP a ha
   obtain⟨k,hk,_,_⟩:=hd i hi;rw[hk]at hj;exact(YX<|hR _<|aR hi).mpr<|(YU hk).2.2 j hj
  .obtain⟨i,hi,rfl⟩:=memP a ha
   obtain⟨k,hk,h,_⟩:=hd i hi;rw[hk];exact(yG<|hR _<|aR hi).mpr h
  .obtain⟨i,hi,rfl⟩:=memP a ha
   obtain⟨j,hj,rfl⟩:=memP b hb;obtain⟨k,hk,_,h⟩:=hd i hi;rw[hk];refine(YX<|hR _<|aR hj).mpr<|h j hj λe=>?_
   subst e;exact ne rfl
  .obtain⟨i,hi,rfl⟩:=memP a ha
   obtain⟨k,hk,_,_⟩:=hd i hi;rw[hk,<-(hR _<|aR hi).1];exact(YU hk).2.1
  .obtain⟨i,hi,rfl⟩:=memP a ha
   exact Jp<|hR _<|aR hi
 .intro hP
  have hk:∀r∈R,∃k,hdI r=aa k/\k<n/\toV p r k=1:=λr hr=>hP.head fld.one0 hr
  refine#[λr hr=>?_,Ww.mpr ?_,λi hi=>?_]
  .obtain⟨k,e,_⟩:=hk r hr
   rw[e];rfl
  .rw[<-WE (p:=p)];exact hP.pn.rf.heads
  .obtain⟨k,e,_,h1⟩:=hk _ (aR hi)
   unfold WU;rw[VG hi,Q9 hi,e,aB,T0,aO];refine#[(yG<|hR _<|aR hi).mp h1,λr hr=>?_]
   obtain⟨j,hj,ne,rfl⟩:=Qb hr;refine T5 ?_;obtain⟨k2,e2,_,_⟩:=hk _<|aR hj;have hh:((hdI R[i]).getD 0,toV p R[i]).1≠((hdI R[j]).getD 0,toV p R[j]).1:=by
    have inc:(ZA R).Pairwise (· < ·):=by rw[<-WE (p:=p)];exact hP.pn.rf.heads
    have pw:=bh.mp inc;have li:(ZA R).length=R.length:=by unfold ZA;rw[ap]
    have gi:∀m (hm:m<R.length),(ZA R)[m]'(by omega)=(hdI R[m]).getD 0:=λm hm=>by unfold ZA;rw[gZ]
    intro z;have z:=z;rcases Nat.lt_or_gt_of_ne ne with c|c
    .have:=pw j i (by omega) (by omega) c
     rw[gi j hj,gi i hi]at this;omega
    .have:=pw i j (by omega) (by omega) c
     rw[gi j hj,gi i hi]at this;omega
   have:=hP.pn.rf.zer _ (YG<|aR hi) _ (YG<|aR hj) hh;rw[e]at this;exact(YX<|hR _<|aR hj).mp this
end
end Rw
namespace Ab
open Ev Pv
mutual
noncomputable def okV:V->Bool
 |.tup xs=>WS xs
 |.lst xs=>WS xs
 |.drw=>ak
 |.scr _=>ak
 |.dct (aa _)=>ak
 |.dow _=>ak
 |_=>aj
noncomputable def WS:List V->Bool
 |[]=>aj
 |x::xs=>okV x&&WS xs
end
end Ab
namespace K35
open Ev Pv Rw La
open Ab (okV WS)
theorem GS:∀{xs:List V},WS xs=aj->∀x∈xs,okV x=aj
 |[],_,x,h=>by cases h
 |y::xs,h,x,m=>by
  obtain⟨h1,h2⟩:=(aB _ _).mp h;rcases aC.mp m with rfl|m
  .exact h1
  .exact GS h2 x m
noncomputable def isW(x:V)(lo hi:Int):Bool:=match x with
 |.int i=>ag (lo<=i)&&ag (i<=hi)
 |_=>ak
def ZbK{x:V}{lo hi:Int}(h:∀i,x≠.int i):isW x lo hi=ak:=by
 cases x with|int i=>exact T7 rfl<|h i|_=>rfl
def Zcq{x:V}(hx:okV x=aj):(∃i,x=.int i)\/(∃b,x=.bl b)\/YE x [.int]=aa ak/\∀i,x≠.int i:=by
 cases x with
 |int i=>exact .inl #[i,rfl]
 |bl b=>exact .inr<|.inl #[b,rfl]
 |drw=>cases hx
 |scr _=>cases hx
 |dow _=>cases hx
 |dct o=>cases o with|none=>exact .inr<|.inr #[rfl,nofun]|some _=>cases hx
 |_=>exact .inr<|.inr #[rfl,nofun]
def vm{x:V}(hx:okV x=aj):(∃xs,x=.tup xs)\/YE x [.tuple]=aa ak/\∀xs,x≠.tup xs:=by
 cases x with
 |tup xs=>exact .inl #[xs,rfl]
 |drw=>cases hx
 |scr _=>cases hx
 |dow _=>cases hx
 |dct o=>cases o with|none=>exact .inr #[rfl,nofun]|some _=>cases hx
 |_=>exact .inr #[rfl,nofun]
def Ws(d:Nat){x:V}{lo hi:Int}(s:DS)(hx:okV x=aj):CV (d+1) 4 [x,.int lo,.int hi] s=.ok (.bl<|isW x lo hi) s:=by
 refine Zt rfl (by decide) rfl ?_
 rcases Zcq hx with⟨i,rfl⟩|⟨b,rfl⟩|⟨ha,no⟩
 .by_cases h:lo<=i
  .simp[YD,pvE,isW,YE,Wo,h]
  .simp[YD,pvE,isW,YE,Wo,h]
 .simp[YD,pvE,isW,YE,Wo]
 .rw[ZbK no]
  simp[YD,pvE,ha]
noncomputable def Z1(p n:Nat)(x:V):Bool:=match x with
 |.tup xs=>ag (xs.length=n)&&xs.all λv=>isW v 0<|(p:Int)-1
 |_=>ak
def Zbj{p n:Nat}{x:V}(h:∀xs,x≠.tup xs):Z1 p n x=ak:=by
 cases x with|tup xs=>exact T7 rfl<|h xs|_=>rfl
theorem yz{p:Nat}:∀{xs:List V},(xs.all λv=>isW v 0<|(p:Int)-1)=aj->∃r:Row,xs=r.map .int/\∀a∈r,0<=a/\a<(p:Int)
 |[],_=>#[[],rfl,λ_ h=>by cases h]
 |x::xs,h=>by
  rw[g7,aB]at h;obtain⟨r,rfl,hr⟩:=yz h.2;cases x with
  |int i=>
   have:=h.1;simp only[isW,aB,T0]at this;refine#[i::r,rfl,λa ha=>?_]
   rcases aC.mp ha with rfl|ha
   .lia
   .exact hr a ha
  |_=>cases h.1
def ZcM{p n:Nat}{x:V}(h:Z1 p n x=aj):∃r:Row,x=Zh r/\ZO p n r:=by
 cases x with
 |tup xs=>
  unfold Z1 at h;rw[aB,T0]at h;obtain⟨r,rfl,hr⟩:=yz h.2;exact#[r,rfl,by simpa using h.1,hr]
 |_=>cases h
def Zc9{p n:Nat}{r:Row}(hr:ZO p n r):Z1 p n (Zh r)=aj:=by
 unfold Z1 Zh;rw[aB,T0,ap];refine#[hr.1,aO.mpr λv hv=>?_]
 obtain⟨a,ha,rfl⟩:=a8.mp hv;have:=hr.2 a ha;simp only[isW,aB,T0];lia
theorem yf:∀r:Row,WS (r.map .int)=aj
 |[]=>rfl
 |a::r=>yf r
def ZbD(r:Row):okV (Zh r)=aj:=yf r
section
variable{p n:Nat}[Base p]
theorem jz(d:Nat){x:V}(s:DS)(hn:n<=6)(hx:okV x=aj):CV (d+2) 19 [spV p n,x] s=.ok (.bl<|Z1 p n x) s:=by
 refine Zt rfl (by decide) rfl ?_
 dsimp only[Gr]
 rw[Zf<|Yo (p:=p) (n:=n) _ _ (by simp[pvE]) (by simp)]
 rcases vm hx with⟨xs,rfl⟩|⟨ha,no⟩
 ·
  by_cases hl:xs.length=n
  .rw[Zf (ρ':=[aa<|spV p n,aa<|.tup xs,aa<|.int p,aa<|.int n]) (os':=[]) (s':=s) (by simp[pvE,YE,Wo,Zi,hl])]
   refine ZC<|Z7 ?_;have hc:=ZQ (C:=CV<|d+1) (cap:=[2]) (nl:=1) (t:=[0]) (it:=.of<|.v 1) (elt:=.call 4 [(.v 0),(.c<|.int 0),(.bin .sub (.v 1)<|.c<|.int 1)]) (O:=[aa<|spV p n,aa<|.tup xs,aa<|.int p,aa<|.int n]) (s:=s) (l:=xs) (e:=id) (g:=λv=>V.bl<|isW v 0<|(p:Int)-1)
    (by simp[pvE]) (by unfold lim;lia) (λv hv=>#[_,rfl,by
     have e:=Ws d (lo:=0) (hi:=(p:Int)-1) s<|GS hx v hv;simp[pvE,e]])
   have ht:=ZT (g:=λv:V=>isW v 0<|(p:Int)-1) xs
   simp[pvE,hc,ht,Z1,hl]
  .refine ZC ?_
   simp[pvE,YE,Wo,Zi,Z1,hl];lia
 .rw[Zbj no]
  exact ZC (by simp[pvE,ha])
theorem xE(d:Nat){hs:List Nat}(s:DS)(hl:hs.length<=1000):CV (d+1) 12 [.lst<|hs.map Zg] s=.ok (.bl<|rise hs) s:=by
 refine Zt rfl (by decide) rfl ?_
 have ez:∀(a b:List Nat),((a.map Zg).zip<|b.map Zg).map (λq=>V.tup [q.1,q.2])=(a.zip b).map λq=>V.tup [Zg q.1,Zg q.2]:=by
  intro a
  induction a with
  |nil=>intro b;rfl
  |cons x a ih=>intro b;cases b with|nil=>rfl|cons y b=>simp only[bz,cn];rw[ih]
 have hc:=ZQ (C:=CV d) (cap:=[]) (nl:=2) (t:=[0,1]) (it:=.zip (.v 0)<|.sl (.v 0) (aa<|.c<|.int 1) ae) (elt:=.cmp .lt (.v 0)<|.v 1) (O:=[aa<|.lst<|hs.map Zg]) (s:=s) (l:=hs.zip hs.tail) (g:=λq=>V.bl<|ag<|q.1<q.2)
  (by
   have e1:Yu (hs.map Zg) (aa 1) ae=hs.tail.map Zg:=by rw[Gw,kH]
   simp[pvE,slV,e1];rw[<-kH,ez]) (by rw[f6];unfold lim;lia) (λq hq=>#[_,rfl,by simp[pvE,Zg]])
 have ht:=ZT (g:=λq:Nat×Nat=>ag<|q.1<q.2)<|hs.zip hs.tail
 simp[Xe,pvE,hc,ht,rise]
theorem GY(d:Nat){R:List Row}{k:Nat}(s:DS)(hl:R.length<=1000)(hk:∀r∈R,k<r.length):CV (d+1) 7 [Zb R,.int k] s=.ok (.bl<|R.all λr=>ag<|gt r k=0) s:=by
 refine Zt rfl (by decide) rfl ?_
 have hc:=ZQ (C:=CV d) (cap:=[1]) (nl:=1) (t:=[0]) (it:=.of<|.v 0) (elt:=.cmp .eq (.ix (.v 0)<|.v 1)<|.c<|.int 0) (O:=[aa<|Zb R,aa<|.int k]) (s:=s) (l:=R) (e:=Zh) (g:=λr=>V.bl<|ag<|gt r k=0)
  (by simp[pvE,Zb]) (by unfold lim;lia) (λr hr=>#[_,rfl,by
   have:=GJ<|hk r hr;simp[pvE,Zh,this,Zi]])
 have ht:=ZT (g:=λr:Row=>ag<|gt r k=0) R
 simp[Y3,pvE,hc,ht]
theorem Qq(d:Nat){R:List Row}{i k:Nat}(s:DS)(hR:∀r∈R,ZO p n r)(hl:R.length<=1000)(hi:i<R.length)(hk:k<n):CV (d+2) 18 [Zb R,Zg i,Zg k] s=.ok (.bl<|WU R i k) s:=by
 refine Zt rfl (by decide) rfl ?_
 show rvs (CV<|d+1) [] Xf.body [aa<|Zb R,aa<|.int i,aa<|.int k] [] s=_;have hrow:=hR _<|aR hi;have e1:at' (R.map Zh) (i:Int)=aa (Zh R[i]):=WH (by rw[aH,af hi];rfl)
 have e2:=GJ (by rw[hrow.1];exact hk)
 have e3:=GY d (R:=R.take i++R.drop (i+1)) s (by rw[aX,bo,br];lia) (λr hr=>by
  obtain⟨j,hj,ne,rfl⟩:=Qb hr;rw[(hR _<|aR hj).1];exact hk)
 have c1:Yu (R.map Zh) ae (aa (i:Int))=(R.take i).map Zh:=by rw[Zcs (by rw[ap];lia),pE]
 have c2:Yu (R.map Zh) (aa<|(i:Int)+1) ae=(R.drop<|i+1).map Zh:=by rw[Gf (k:=i+1) (by lia) (by rw[ap];lia),pF]
 have g0:pv (CV<|d+1) (.ix (.ix (.v 0)<|.v 1)<|.v 2) [aa<|Zb R,aa<|.int i,aa<|.int k] s=.ok (.int<|gt R[i] k) s:=by
  rw[pv,pv,Ze rfl,Za,Ze rfl,Za];show((po (at' (R.map Zh) (i:Int)) s).bind _)=_;rw[e1,ZS,Za,Ze rfl,Za];show po (at' (R[i].map V.int) (k:Int)) s=_;rw[e2];rfl
 have g1:pv (CV<|d+1) (.cmp .eq (.ix (.ix (.v 0)<|.v 1)<|.v 2)<|.c<|.int 1) [aa<|Zb R,aa<|.int i,aa<|.int k] s=.ok (.bl<|ag<|gt R[i] k=1) s:=by
  rw[pv,g0,Za];simp[pvE,ofD,Zi]
 have g2:pv (CV<|d+1) (.bin .add (.sl (.v 0) ae<|aa<|.v 1)<|.sl (.v 0) (aa<|.bin .add (.v 1)<|.c<|.int 1) ae) [aa<|Zb R,aa<|.int i,aa<|.int k] s=.ok (Zb<|R.take i++R.drop (i+1)) s:=by
  have c3:(R.take i).length+(R.drop<|i+1).length<=16777216:=by rw[bo,br];lia
  rw[bo,br]at c3;simp[pvE,Zb,slV,c1,c2,c3]
 have g3:=ZG (Zc g2<|Zc (Ze (i:=2) rfl) Zk) e3;refine ZC<|Z7 ?_;rw[pv,g1,Za];unfold WU;rw[Q9 hi];cases ag (gt R[i] k=1)with|true=>exact g3|false=>rfl
theorem yE:∀R:List Row,YR .non (R.map λr=>UD<|hdI r)=aa (!(R.all λr=>(hdI r).isSome))
 |[]=>rfl
 |r::R=>by
  show(match eqV Zi (UD<|hdI r) .non,YR .non (R.map λr=>UD<|hdI r)with|some a,aa b=>aa (a||b)|_,_=>ae)=_
  rw[yE R,g7];cases hdI r with|none=>simp[UD,eqV,Zi]|some k=>simp[UD,eqV,Zi]
def vI{R:List Row}(h:(R.all λr=>(hdI r).isSome)=aj):R.map (λr=>UD<|hdI r)=(ZA R).map Zg:=by
 unfold ZA;rw[bL];refine cy λr hr=>?_
 obtain⟨k,hk⟩:=c8.mp<|aO.mp h r hr;show UD (hdI r)=Zg ((hdI r).getD 0);rw[hk];rfl
theorem uZ(d:Nat){R:List Row}(s:DS)(hn:n<=6)(hR:∀r∈R,ZO p n r)(hl:R.length<=1000):rvs (CV<|d+2) [] (WG.body.drop 1) [aa<|spV p n,aa<|Zb R,ae] [] s=.ok (.ret<|.bl<|VX R) s:=by
 show rvs _ _ (.asg [2] (.comp1 [] 1 [0] (.of<|.v 1) []<|.call 8 [(.v 0)]) ::
  .ite (.or (.cmp .inn (.c .non)<|.v 2)<|.not<|.call 12 [(.v 2)]) [.ret<|.c<|.bl ak] [] ::
  .ret (.blt .all [(.comp1 [1] 2 [0,1] (.enum<|.v 2) []<|.call 18 [(.v 2),(.v 0),(.v 1)])])::[]) _ _ _=_
 have hc2:=ZQ (C:=CV<|d+2) (cap:=[]) (nl:=1) (t:=[0]) (it:=.of<|.v 1) (elt:=.call 8 [(.v 0)]) (O:=[aa<|spV p n,aa<|Zb R,ae]) (s:=s) (l:=R) (e:=Zh) (g:=λr=>UD<|hdI r)
  (by simp[pvE,Zb]) (by unfold lim;lia) (λx hx=>#[_,rfl,by
   have e:=QM (d+1) x s;simp[pvE,e]])
 rw[Zf (ρ':=[aa<|spV p n,aa<|Zb R,aa<|.lst<|R.map λr=>UD<|hdI r]) (os':=[]) (s':=s) (by simp[pvE,hc2])]
 have hin:=yE R;unfold VX;cases hh:R.all λr=>(hdI r).isSome with
 |false=>
  rw[hh]at hin;exact ZC (by simp[pvE,W2,hin])
 |true=>
  rw[hh]at hin;rw[vI hh]at hin ⊢;have hln:(ZA R).length=R.length:=by unfold ZA;rw[ap]
  have e3:=xE (d+1) (hs:=ZA R) s (by lia)
  cases hr:rise (ZA R)with
  |false=>
   rw[hr]at e3;exact ZC (by simp[pvE,W2,hin,e3])
  |true=>
  rw[hr]at e3;rw[Zf (ρ':=[aa<|spV p n,aa<|Zb R,aa<|.lst<|(ZA R).map Zg]) (os':=[]) (s':=s) (by simp[pvE,W2,hin,e3])]
  refine ZC<|Z7 ?_;have ew:((ZR 0 (ZA R).length).zip<|(ZA R).map Zg).map (λq=>V.tup [q.1,q.2])=(aA R.length).map λi=>V.tup [Zg i,Zg<|(ZA R).getD i 0]:=by
   apply kU
   .simp[ZR,hln]
   .intro i h1 h2
    have h3:i<R.length:=by simpa using h2
    have h4:i<(ZA R).length:=by lia
    simp[ZR,Zg,h4]
  have hc3:=ZQ (cap:=[1]) (nl:=2) (t:=[0,1]) (elt:=.call 18 [(.v 2),(.v 0),(.v 1)]) (l:=aA R.length)
   (by
    have:pvw (CV<|d+2) (.enum<|.v 2) [aa<|spV p n,aa<|Zb R,aa<|.lst<|(ZA R).map Zg] s=.ok (((ZR 0 ((ZA R).map Zg).length).zip<|(ZA R).map Zg).map λq=>V.tup [q.1,q.2]) s:=by simp[pvE]
    rw[this,ap,ew]) (by rw[be];unfold lim;lia) (λi hi=>#[_,rfl,by
    have hi':=aN.mp hi;have hk:(ZA R).getD i 0<n:=by
     rw[VG hi'];obtain⟨k,hk⟩:=c8.mp<|aO.mp hh _<|aR hi';rw[hk,<-(hR _<|aR hi').1];exact(YU hk).2.1
    exact ZG (Zc (Ze rfl)<|Zc (Ze rfl)<|Zc (Ze rfl) Zk)<|Qq d s hR hl hi' hk])
  have ht3:=ZT (g:=λi:Nat=>WU R i<|(ZA R).getD i 0)<|aA R.length
  rw[pv,Zc hc3 Zk,Za];show po ((Z0 _).map λbs=>V.bl<|bs.all id) s=_
  rw[ht3];show PR.ok (V.bl<|(mi _ _).all id) s=_;rw[iC];rfl
noncomputable def isP(p n:Nat)(x:V):Bool:=match x with
 |.tup xs=>xs.all (Z1 p n)&&match ZL xs with
  |some R=>VX R
  |none=>ak
 |_=>ak
theorem WF:∀{xs:List V},xs.all (Z1 p n)=aj->∃R:List Row,xs=R.map Zh/\∀r∈R,ZO p n r
 |[],_=>#[[],rfl,λ_ h=>by cases h]
 |x::xs,h=>by
  rw[g7,aB]at h;obtain⟨R,rfl,hR⟩:=WF h.2;obtain⟨r,rfl,hr⟩:=ZcM h.1;refine#[r::R,rfl,λa ha=>?_]
  rcases aC.mp ha with rfl|ha
  .exact hr
  .exact hR a ha
def qD{x:V}:isP p n x=aj↔∃P,x=Zb P/\pZ p n P:=by
 constructor
 .intro h
  cases x with
  |tup xs=>
   unfold isP at h;rw[aB]at h;obtain⟨R,rfl,hR⟩:=WF h.1;have h2:=h.2;rw[YS]at h2;exact#[R,rfl,(UN hR).mp h2]
  |_=>cases h
 .rintro ⟨P,rfl,hP⟩
  show(_&&_)=aj;rw[aB,YS];refine#[aO.mpr λv hv=>?_,(UN hP.row).mpr hP]
  obtain⟨r,hr,rfl⟩:=a8.mp hv;exact Zc9<|hP.row r hr
def Zcd{x:V}(h:∀xs,x≠.tup xs):isP p n x=ak:=by
 cases x with|tup xs=>exact T7 rfl<|h xs|_=>rfl
theorem u8(d:Nat){x:V}(s:DS)(hn:n<=6)(hx:okV x=aj)(hl:∀xs,x=.tup xs->xs.length<=1000):CV (d+3) 20 [spV p n,x] s=.ok (.bl<|isP p n x) s:=by
 refine Zt rfl (by decide) rfl ?_
 show rvs (CV<|d+2) [] (.ite (.or (.not<|.isi (.v 1) [.tuple])<|.not<|.blt .all [(.comp1 [0] 1 [0] (.of<|.v 1) []<|.call 19 [(.v 1),(.v 0)])]) [.ret<|.c<|.bl ak] []::WG.body.drop 1) [aa<|spV p n,aa x,ae] [] s=_;rcases vm hx with⟨xs,rfl⟩|⟨ha,no⟩
 ·
  have hl:=hl xs rfl;have hc1:=ZQ (C:=CV<|d+2) (cap:=[0]) (nl:=1) (t:=[0]) (it:=.of<|.v 1) (elt:=.call 19 [(.v 1),(.v 0)]) (O:=[aa<|spV p n,aa<|.tup xs,ae]) (s:=s) (l:=xs) (e:=id) (g:=λv=>V.bl<|Z1 p n v)
   (by simp[pvE]) (by unfold lim;lia) (λv hv=>#[_,rfl,by
    have e:=jz (p:=p) d s hn<|GS hx v hv;simp[pvE,e]])
  have ht:=ZT (g:=λv:V=>Z1 p n v) xs
  have hpt:YE (.tup xs) [.tuple]=aa aj:=rfl;cases ha:xs.all (Z1 p n)with
  |false=>
   have hf:(xs.map λv=>Z1 p n v).all id=ak:=by rw[iC];exact ha
   refine ZC ?_;simp[pvE,hpt,hc1,ht,isP,ha,hf]
  |true=>
   have hf:(xs.map λv=>Z1 p n v).all id=aj:=by rw[iC];exact ha
   rw[Zf (ρ':=[aa<|spV p n,aa<|.tup xs,ae]) (os':=[]) (s':=s) (by simp[pvE,hpt,hc1,ht,hf])]
   obtain⟨R,rfl,hR⟩:=WF ha;have e:=uZ d s hn hR (by simpa using hl)
   have eb:isP p n (.tup<|R.map Zh)=VX R:=by
    show((R.map Zh).all (Z1 p n)&&match ZL (R.map Zh)with|some R=>VX R|none=>ak)=_
    rw[ha,YS];rfl
   rw[eb];exact e
 .rw[Zcd no]
  exact ZC (by simp[pvE,ha])
theorem zJ:∀P:List Row,WS (P.map Zh)=aj
 |[]=>rfl
 |r::P=>by
  show(okV (Zh r)&&WS (P.map Zh))=aj;rw[ZbD,zJ P];rfl
def jo(P:List Row):okV (Zb P)=aj:=zJ P
def G5{P:List Row}(hP:pZ p n P):∀xs,Zb P=.tup xs->xs.length<=n:=λxs e=>by
 cases e;rw[ap];exact dsum hP
theorem zM(d:Nat){P:List Row}(s:DS)(hn:n<=6)(hP:pZ p n P):CV (d+3) 20 [spV p n,Zb P] s=.ok (.bl aj) s:=by
 have e:=u8 (p:=p) d s hn (jo P) λxs z=>by have:=G5 hP xs z;lia
 rw[qD.mpr #[P,rfl,hP]]at e;exact e
def UK(d:Nat){P:List Row}(s:DS)(hn:n<=6)(hP:pZ p n P):CV (d+4) 21 [spV p n,Zb P] s=.ok .non s:=by
 have e:=zM (p:=p) d s hn hP;refine yq (O:=[aa<|spV p n,aa<|Zb P]) (os:=[]) rfl (by decide) rfl ?_
 simp[W8,pvE,e]
end
end K35
namespace Rw
open La
open Ev (ltP Zr ZF)
open Pv (ZdC)
end Rw
namespace K35
open Ev Pv Rw La
def Zdp(h:Nat):(aP h [V.int 0]).flatten=(aP h (0:Int)).map V.int:=by
 induction h with|zero=>rfl|succ h ih=>rw[bF,cO,ih,bF];rfl
open Ab (okV WS)
section
variable{C:ZE}{O:Env}{s s1 s2:DS}{a b:E}{x y:V}{xs ys:List V}
def Yp{i:Int}:pv C (.c<|.int i) O s=.ok (.int i) s:=by rw[pv];rfl
def Xd(d:Nat)(s:DS){m:Int}{O:Env}{i:Nat}{e:E}(hd:O[i]?=aa (aa .drw))(he:pv (CV<|d+1) e O s=.ok (.int m) s)(h0:0<m)(h1:m<1000):∃v s',pv (CV<|d+1) (.call 2 [(.v i),e]) O s=.ok (.int v) s'/\0<=v/\v<m:=by
 obtain⟨v,s',e1,b⟩:=vq s h0 (by omega)
 exact#[v,s',ZG (Zc (Ze hd)<|Zc he Zk) e1,b]
def Zau(h:pv C a O s=.ok x s):pv C (.tup [a]) O s=.ok (.tup [x]) s:=by
 rw[pv,Zc h Zk];rfl
end
section
variable{C:ZE}{O:Env}{s:DS}{a b:E}
def uD{c:Bool}(h1:pv C a O s=.ok (.bl ak) s)(h2:pv C b O s=.ok (.bl c) s):pv C (.or a b) O s=.ok (.bl c) s:=by rw[pv,h1];exact h2
def ZcV{c c':Bool}(h1:pv C a O s=.ok (.bl c) s)(h2:pv C b O s=.ok (.bl c') s):pv C (.and a b) O s=.ok (.bl<|c&&c') s:=by
 rw[pv,h1];cases c
 .rfl
 .exact h2
def uF{c:Bool}(h1:pv C a O s=.ok (.bl c) s):pv C (.not a) O s=.ok (.bl !c) s:=by rw[pv,h1];rfl
def Zai{P Q:List Row}(h1:pv C a O s=.ok (Zb P) s)(h2:pv C b O s=.ok (Zb Q) s):pv C (.cmp .ne a b) O s=.ok (.bl !decide (P=Q)) s:=by
 rw[pv,h1,Za,h2,Za];show po ((eqV Zi (Zb P)<|Zb Q).map λb=>V.bl !b) s=_
 rw[Zi,Wf];rfl
def jB{P Q:List Row}(h1:pv C a O s=.ok (Zb P) s)(h2:pv C b O s=.ok (Zb Q) s)(h:P=Q):pv C (.cmp .ne a b) O s=.ok (.bl ak) s:=by
 rw[Zai h1 h2,T5 h];rfl
def Ys{f:Nat}{x y:E}{v w r:V}(h1:pv C x O s=.ok v s)(h2:pv C y O s=.ok w s)(h:C f [v,w] s=.ok r s):pv C (.call f [x,y]) O s=.ok r s:=ZG (Zc h1<|Zc h2 Zk) h
def XN{f:Nat}{x y z:E}{v w u r:V}(h1:pv C x O s=.ok v s)(h2:pv C y O s=.ok w s)(h3:pv C z O s=.ok u s)(h:C f [v,w,u] s=.ok r s):pv C (.call f [x,y,z]) O s=.ok r s:=ZG (Zc h1<|Zc h2<|Zc h3 Zk) h
def guard{ms:List Nat}{t:E}{x l:List Sm}(h:pv C t O s=.ok (.bl ak) s):rvs C ms (.ite t x []::l) O [] s=rvs C ms l O [] s:=by
 rw[Zf<|(US<|VO h rfl).trans (by rw[T8 (by simp),rvs])]
def wQ{P:List Row}(h1:pv C a O s=.ok (Zb P) s):pv C (.blt .len [a]) O s=.ok (.int P.length) s:=by
 rw[pv,Zc h1 Zk,Za];show po (aa<|V.int (P.map Zh).length) s=_;rw[ap];rfl
def JH{x y:Int}(h1:pv C a O s=.ok (.int x) s)(h2:pv C b O s=.ok (.int y) s):pv C (.bin .add a b) O s=.ok (.int<|x+y) s:=by
 rw[pv,h1,Za,h2,Za];rfl
def ne_int{x y:Int}(h1:pv C a O s=.ok (.int x) s)(h2:pv C b O s=.ok (.int y) s)(h:x=y):pv C (.cmp .ne a b) O s=.ok (.bl ak) s:=by
 rw[pv,h1,Za,h2,Za];show PR.ok (V.bl !decide (x=y)) s=_;rw[T5 h];rfl
def xy{x y:List V}(h1:pv C a O s=.ok (.lst x) s)(h2:pv C b O s=.ok (.lst y) s)(h:x.length+y.length<=lim):pv C (.bin .add a b) O s=.ok (.lst<|x++y) s:=by
 rw[pv,h1,Za,h2,Za];show(if x.length+y.length<=lim then _ else _)=_
 rw[T9 h]
end
end K35
namespace Lv
open Ev Pv
noncomputable def WK:Fn:=#[2,2,[.ite (.cmp .lt (.v 1)<|.blt .len [(.v 0)]) [.ret<|.ix (.v 0)<|.v 1] [],.ret<|.c<|.int 0]]
noncomputable def Wq(c:Nat):Fn:=#[2,3,[.asg [2]<|.call c [(.v 0),(.v 1)],.ite (.cmp .ge (.v 2)<|.bin .pow (.c<|.int 10)<|.c<|.int 18) [.ret<|.lst [(.bin .sub (.v 2)<|.bin .pow (.c<|.int 10)<|.c<|.int 18),(.c<|.bl aj)]] [],.ret<|.lst [(.bin .mod (.v 2)<|.c<|.int 2147483647),(.c<|.bl ak)]]]
noncomputable def VP(nn:Nat)(M:Int)(st:Nat)(B:List Sm)(r:E):Fn:=#[1,nn,[.forr [1] (.rng1<|.blt .max2 [(.c<|.int 1),(.blt .min2 [(.blt .len [(.v 0)]),(.c<|.int M)])]) [.cel 2 st [(.v 0),(.v 1)] B],.ret r]]
noncomputable abbrev Zc5(nn:Nat)(M:Int)(st:Nat)(B:List Sm):Fn:=VP nn M st B<|.c<|.bl aj
def Zac(ht:ca≠tk)(hC:F[ca]?=aa WK)(d:Nat)(k0:0<=k):∃c,Zj F tk (d+1) ca [.scr ns,.int k] s=.ok (.int c) s:=by
 by_cases c:k<ns.length
 .have hk:k.toNat<ns.length:=by lia
  refine#[ns[k.toNat],?_];simp[Zj,ht,hC,WK,rvs,rv,pvs,Pv.pv.eq_1,Pv.pv.eq_2,pv,XC,PR.bind,po,ZH,Yk,int2,Xb,blt1,YF,Zm,ixV,at',ixN,k0,c,hk,ofD]
 .refine#[0,?_]
  simp[Zj,ht,hC,WK,rvs,rv,pvs,pv,XC,PR.bind,po,ZH,Yk,int2,Xb,blt1,YF,Zm,ixV,at',ixN,k0,c,ofD]
def qa(ht:ca≠tk)(hts:st≠tk)(hC:F[ca]?=aa WK)(hS:F[st]?=aa (Wq ca))(d:Nat)(k0:0<=k):∃v d0,Zj F tk (d+2) st [.scr ns,.int k] s=.ok v s/\VT v=aa d0/\okS d0.1 d0.2=aj:=by
 obtain⟨c,e⟩:=Zac ht hC (s:=s) (ns:=ns) d k0;rw[show d+2=(d+1)+1 from rfl,Zj,T8 hts,hS]
 generalize Zj F tk (d+1)=C at e ⊢;by_cases h:10^18<=c
 .have h':(1000000000000000000:Int)<=c:=by simpa using h
  have o:okS (c-1000000000000000000) aj=aj:=by simp[okS];lia
  refine#[.lst [.int<|c-1000000000000000000,.bl aj],(c-1000000000000000000,aj),?_,by simp[VT,o],o]
  simp[Wq,rvs,rv,pvA,pvs,pv,XC,PR.bind,po,ZH,Yk,int2,Zm,ofD,Yy,Pv.Ve,e,h',muts,yY,lim]
 .have h':¬(1000000000000000000:Int)<=c:=by simpa using h
  have o:okS (c%2147483647) ak=aj:=by simp[okS];lia
  refine#[.lst [.int<|c%2147483647,.bl ak],(c%2147483647,ak),?_,by simp[VT,o],o]
  simp[Wq,rvs,rv,pvA,pvs,pv,XC,PR.bind,po,ZH,Yk,int2,Zm,ofD,Yy,Pv.Ve,e,h',muts,yY,lim]
theorem JI(P:Env->Prop):∀(xs:List V),(∀x∈xs,∀O s,P O->∃ρ' s',P ρ'/\body x O [] s=.ok (.nx ρ' []) s')->∀O s,P O->∃ρ' s',P ρ'/\XR body xs O [] s=.ok (.nx ρ' []) s'
 |[],_,O,s,h=>#[O,s,h,rfl]
 |x::xs,hb,O,s,h=>by
  obtain⟨ρ1,s1,h1,e1⟩:=hb x (ao ..) O s h;obtain⟨ρ2,s2,h2,e2⟩:=JI P xs (λy hy=>hb y<|ax _ hy) ρ1 s1 h1
  refine#[ρ2,s2,h2,?_];rw[XR,e1];exact e2
def hide_nil :hide [] O=O:=by
 unfold hide;apply bY
 intro i;rw[fG];cases O[i]?<;>rfl
def uU(h0:O[0]?=aa (aa<|.scr ns))(h1:O[1]?=aa (aa<|.int k))(hl:O.length=nn+3):(X3 2 O).set 2 (aa .drw)=aa (.scr ns)::aa (.int k)::aa .drw::aP nn ae:=by
 match O,h0,h1,hl with
 |a::b::l,h0,h1,hl=>
  cases h0;cases h1;have:l.length=nn+1:=by simpa using hl
  unfold X3;simp[WZ,V.flat,this,bF]
def je{r:E}(d:Nat)(ht:ca≠tk)(hts:st≠tk)(htl:L≠tk)(hC:F[ca]?=aa WK)(hS:F[st]?=aa (Wq ca))(hL:F[L]?=aa (VP (nn+3) M st B r))(hM:M<2^62)(hr:∀O s,pv (Zj F tk<|d+2) r O s=.ok (.bl aj) s)
  (hv:∀(o:Option V)(k:Nat)(s:DS),∃O os s',rvs (Zj F tk<|d+2) (muts B) B (o::aa (.int k)::aa .drw::aP nn ae) [] s=.ok (.nx O os) s'/\O[0]?=aa o/\O.length=nn+3)(ns:List Int)(s:DS) :
  ∃S,Zj F tk (d+3) L [.scr ns] s=.ok (.bl aj) S:=by
 rw[show d+3=(d+2)+1 from rfl,Zj,T8 htl,hL]
 have hst:=λk (k0:0<=k) s=>qa ht hts hC hS (s:=s) (ns:=ns) (k:=k) d k0
 generalize Zj F tk (d+2)=C at hv hst hr ⊢;have hR:=hr;clear hr;have hr:∃m,pvw C (.rng1<|.blt .max2 [(.c<|.int 1),(.blt .min2 [(.blt .len [(.v 0)]),(.c<|.int M)])]) (ZH (nn+3) [.scr ns]) s=.ok (ZR 0 m) s:=by
  have e:pv C (.blt .max2 [(.c<|.int 1),(.blt .min2 [(.blt .len [(.v 0)]),(.c<|.int M)])]) (ZH (nn+3) [.scr ns]) s=.ok (.int<|if(if M<(ns.length:Int)then M else(ns.length:Int))>1 then(if M<(ns.length:Int)then M else(ns.length:Int))else 1) s:=by
   simp[pv,pvs,PR.bind,po,ZH,ofD,Xb,blt1,blt2,YF]
  rw[pvw,e];refine#[_,(T9 ?_ :)];unfold small;refine T5 ?_;split<;>split<;>lia
 obtain⟨m,hr⟩:=hr;have hm:muts (VP (nn+3) M st B r).body=muts B:=by simp[VP,muts,yY]
 simp only[hm];show ∃S,(if 1=1 then _ else _)=_
 rw[T9 rfl];unfold VP;simp only;rw[rvs,rv,hide_nil,hr]
 let body:V->Env->List Nat->DS->PR FlV:=λx O os s=>if([1].any os.contains)=aj then .no else(po (Zl [1] x O) s).bind λO s=>rvs C (muts B) [.cel 2 st [(.v 0),(.v 1)] B] O os s
 have hb:∀x∈ZR 0 m,∀O s,(O[0]?=aa (aa<|.scr ns)/\O.length=nn+3)->∃ρ' s',(ρ'[0]?=aa (aa<|.scr ns)/\ρ'.length=nn+3)/\body x O [] s=.ok (.nx ρ' []) s':=by
  intro x hx O s #[h0,hl];unfold ZR at hx;obtain⟨k,_,rfl⟩:=a8.mp hx;rw[Int.zero_add];obtain⟨v,d0,e1,e2,e3⟩:=hst (k:Int) (by lia) s
  obtain⟨ρ2,os2,s2,e4,h2,l2⟩:=hv (aa<|.scr ns) k d0;have q0:(O.set 1<|aa<|.int (k:Int))[0]?=aa (aa<|.scr ns):=by rw[bm (by decide)];exact h0
  have q1:(O.set 1<|aa<|.int (k:Int))[1]?=aa (aa<|.int (k:Int)):=bR (by lia)
  have ql:(O.set 1<|aa<|V.int (k:Int)).length=nn+3:=by rw[bX];exact hl
  have a:pvs C [(.v 0),(.v 1)] (O.set 1<|aa<|.int (k:Int)) s=.ok [.scr ns,.int (k:Int)] s:=by
   simp only[pvs,pv,q0,q1,PR.bind,po,Option.join];rfl
  refine#[ρ2.map WZ,s,#[by rw[aH,h2];rfl,by rw[ap];exact l2],?_]
  show(rvs C (muts B) [.cel 2 st [(.v 0),(.v 1)] B] (O.set 1<|aa<|.int (k:Int)) [] s)=_;rw[rvs,rv,T9 (by rfl),a]
  show PR.bind (PR.bind (C st [.scr ns,.int (k:Int)] s) _) _=_;rw[e1];show PR.bind (PR.bind (po (VT v) s) _) _=_;rw[e2];simp only[po,PR.bind,uU q0 q1 ql,e4,rvs]
 obtain⟨O,s',h,e⟩:=JI (body:=body) (λO=>O[0]?=aa (aa<|.scr ns)/\O.length=nn+3) (ZR 0 m) hb (ZH (nn+3) [.scr ns]) s #[rfl,by simp[ZH]]
 refine#[s',?_];show PR.bind (PR.bind (XR body (ZR 0 m) _ _ s) _) _=_;rw[e];show PR.bind (rvs C (muts B) [.ret r] O [] s') _=_;rw[rvs,rv,hR];rfl
def law_of(d:Nat)(ht:ca≠tk)(hts:st≠tk)(htl:L≠tk)(hC:F[ca]?=aa WK)(hS:F[st]?=aa (Wq ca))(hL:F[L]?=aa (Zc5 (nn+3) M st B))(hM:M<2^62)
  (hv:∀(o:Option V)(k:Nat)(s:DS),∃O os s',rvs (Zj F tk<|d+2) (muts B) B (o::aa (.int k)::aa .drw::aP nn ae) [] s=.ok (.nx O os) s'/\O[0]?=aa o/\O.length=nn+3)(ns:List Int)(s:DS) :
  ∃S,Zj F tk (d+3) L [.scr ns] s=.ok (.bl aj) S:=je d ht hts htl hC hS hL hM (λ_ _=>by rw[pv];rfl) hv ns s
end Lv
namespace Rw
open La
noncomputable def XG(r:Row):Nat:=(hdI r).getD r.length
section
variable{p n:Nat}[Base p]
def vV{r:Row}{k:Nat}(h:hdI r=aa k):XG r=k:=by unfold XG;rw[h];rfl
end
open Ev (ltP Zr XX)
noncomputable def Ua{B:Type}(lt:B->B->Bool):Nat->List B->List B->List B
 |0,a,b=>a++b
 |_+1,[],b=>b
 |_+1,a,[]=>a
 |f+1,x::a,y::b=>if lt x y then x::Ua lt f a (y::b)else y::Ua lt f (x::a) b
theorem Xl{B:Type}(lt:B->B->Bool):∀(f:Nat)(a b:List B),(Ua lt f a b).Perm (a++b)
 |0,a,b=>bI _
 |_+1,[],b=>bI _
 |_+1,x::a,[]=>by show(x::a).Perm _;simp
 |f+1,x::a,y::b=>by
  unfold Ua;split
  .exact(Xl lt f a (y::b)).cons x
  .exact((Xl lt f (x::a) b).cons y).trans kX.symm
noncomputable def VV{B:Type}(lt:B->B->Bool):Nat->List B->List B
 |0,l=>l
 |f+1,l=>if l.length<=1 then l else Ua lt l.length (VV lt f<|l.take<|l.length / 2) (VV lt f<|l.drop<|l.length / 2)
theorem YW{B:Type}(lt:B->B->Bool):∀(f:Nat)(l:List B),(VV lt f l).Perm l
 |0,l=>bI _
 |f+1,l=>by
  unfold VV;split
  .exact bI _
  .refine(Xl ..).trans<|((YW lt f _).append<|YW lt f _).trans<|f7<|cr ..
noncomputable def Y9(n:Nat):List (List Nat):=(aA n).foldl (λl k=>l++l.map λr=>r++[k]) [[]]
noncomputable def ZdH(p:Nat)(aa:List Nat)(h k:Nat):List Int:=if k=h then[1]else if k>h/\k∉aa then(aA p).map λ(j:Nat)=>(j:Int)else[0]
noncomputable def grow{B:Type}(L:List (List B))(M:List B):List (List B):=L.flatMap λx=>M.map λy=>x++[y]
noncomputable def ZcR(p n:Nat)(aa:List Nat)(h:Nat):List Row:=(aA n).foldl (λl k=>grow l<|ZdH p aa h k) [[]]
noncomputable def Zcl(p n:Nat)(aa:List Nat):List (List Row):=aa.foldl (λl h=>grow l<|ZcR p n aa h) [[]]
noncomputable def Zev(p n k:Nat):List (List Row):=((Y9 n).filter λr=>ag<|r.length=k).flatMap<|Zcl p n
noncomputable def qT{B:Type}(lt:B->B->Bool):List B->Bool
 |[]=>aj
 |[_]=>aj
 |x::y::l=>lt x y&&qT lt (y::l)
theorem QP{B:Type}{lt:B->B->Bool}(O:Sd.StrictB lt):∀{l:List B},qT lt l=aj->l.Pairwise λa b=>lt a b=aj
 |[],_=>.nil
 |[x],_=>eZ ..
 |x::y::l,h=>by
  obtain⟨h1,h2⟩:=(aB _ _).mp h;have ih:=QP O h2;refine aY.mpr #[λz hz=>?_,ih]
  rcases aC.mp hz with rfl|hz
  .exact h1
  .exact O.tr h1<|(aY.mp ih).1 z hz
noncomputable def Zeq(q:Nat×Nat):Bool:=(aA<|q.2+1).all λk=>ag (VV ltP 12 (Zev q.1 q.2 k)=Zn q.1 q.2 k)&&qT ltP (Zn q.1 q.2 k)
def jv:∀q∈Q5++Jc,Zeq q=aj:=by decide +kernel
def G4{B:Type}{lt:B->B->Bool}(O:Sd.StrictB lt){l:List B}(h:l.Pairwise λa b=>lt a b=aj):l.Nodup:=h.imp λ{a b} h e=>by
 subst e;have:=O.asy h;rw[h]at this;cases this
def yw{p n k:Nat}(h:(p,n)∈Q5++Jc)(hk:k<=n):(Zn p n k).Pairwise λa b=>ltP a b=aj:=
 QP Sd.Zy ((aB _ _).mp<|aO.mp (jv _ h) k<|aN.mpr<|by lia).2
open Ev (ZK)
noncomputable def whS(p n:Nat)(F:List (List Row))(h:Nat):List (List Row):=F.flatMap λP=>if(P.all λr=>ag<|gt r h=0)=aj then(Zp p n h).map λr=>P++[r]else[]
noncomputable def whL(p n:Nat)(S:List Nat):List (List Row):=S.foldl (whS p n) [[]]
noncomputable def QR(step:List (List Row)->Nat->List (List Row))(a:List (List Row)×Bool)(h:Nat):List (List Row)×Bool:=(step a.1 h,a.2&&ag ((step a.1 h).length<=1000))
theorem ZaS{step:List (List Row)->Nat->List (List Row)}:∀(l:List Nat)(a:List (List Row)×Bool),(l.foldl (QR step) a).2=aj->a.2=aj
 |[],_,h=>h
 |k::l,a,h=>((aB _ _).mp<|ZaS l (QR step a k) h).1
def vK{step:List (List Row)->Nat->List (List Row)}{k:Nat}{l:List Nat}{F:List (List Row)}(h:((k::l).foldl (QR step) (F,aj)).2=aj):(l.foldl (QR step) (step F k,aj)).2=aj/\(step F k).length<=1000:=by
 have h:(l.foldl (QR step) (step F k,aj&&ag ((step F k).length<=1000))).2=aj:=h;have b:(aj&&ag ((step F k).length<=1000))=aj:=ZaS l _ h;rw[b]at h;rw[pG]at b;exact#[h,T6 b]
theorem Gm:∀{n:Nat}{S:List Nat},S.Sublist (aA n)->S∈Y9 n
 |0,S,h=>by
  have:S=[]:=k5.mp h;subst this;exact aZ.mpr rfl
 |n+1,S,h=>by
  rw[fu]at h;obtain⟨A,B,rfl,hA,hB⟩:=List.sublist_append_iff.mp h;have ih:=Gm hA;show A++B∈(aA<|n+1).foldl (λl k=>l++l.map λr=>r++[k]) [[]]
  rw[fu,nN];show A++B∈Y9 n++(Y9 n).map λr=>r++[n]
  rw[bK];have hb:B=[]\/B=[n]:=by
   cases hB with|cons _ h=>exact .inl<|k5.mp h|cons_cons _ h=>rw[k5.mp h];exact .inr rfl
  rcases hb with rfl|rfl
  .exact .inl (by rw[cf];exact ih)
  .exact .inr<|a8.mpr #[A,ih,rfl]
open Ev (ltI)
end Rw
namespace Bo
noncomputable def Gu(p:Int)(b:List Int)(z:List Int×Int)(i:Nat):List Int×Int:=(z.1++[b.getD i 0+z.2*p*b.getD (i+1) 0],z.2*p)
noncomputable def yW(p:Int)(b:List Int):List Int:=((aA<|b.length-1).foldl (Gu p b) ([1],1)).1++[1]
noncomputable def Yf(p:Int):Nat->List Int
 |0=>[1]
 |n+1=>yW p<|Yf p n
noncomputable def pwI(p:Int):Nat->List Int
 |0=>[1]
 |n+1=>let l:=pwI p n;l++[l.getD n 0*p]
noncomputable def ZdQ(w:List Int)(n k:Nat)(z:Int×Int)(i:Nat):Int×Int:=(z.1*(w.getD n 0-w.getD i 0),z.2*(w.getD k 0-w.getD i 0))
noncomputable def vA(w:List Int)(n k:Nat):Int×Int:=(aA k).foldl (ZdQ w n k) (1,1)
noncomputable def ZdZ:Int:=5^41
noncomputable def chk(p:Int)(n:Nat):Bool:=
 let b:=Yf p n
 let w:=pwI p n
 decide (b.length=n+1)&&(b.all (λx=>ag (0<=x)&&ag (x<Ev.big))&&(ag (w.length=n+1)&&(w.all (λx=>ag (0<=x)&&ag (x<ZdZ))&&(ag (b.getD 0 0=1)&&(ag (b.getD n 0=1) &&
  (aA<|n+1).all λk=>let d:=vA w n k;decide (0<d.2)&&(ag (d.2<Ev.big)&&ag (d.1 / d.2=b.getD k 0)))))))
def qM:([2,3,5].all λp=>(aA 41).all λn=>chk p n)=aj:=by decide +kernel
end Bo
namespace Rw
open La Bo
open Ev (ltP Zr yh)
noncomputable def ltZ(a b:Int):Bool:=ag<|a<b
def Uk:Sd.StrictB ltZ where
 tr h k:=by unfold ltZ at *;simp at *;omega
 asy h:=by unfold ltZ at *;simp at *;omega
 tot h k:=by unfold ltZ at *;simp at *;omega
noncomputable def Z6(n k:Nat):List (List Nat):=(Y9 n).filter λS=>ag<|S.length=k
noncomputable def XH(p n k:Nat):List (List Row):=(Z6 n k).flatMap<|whL p n
noncomputable def Za5(p n:Nat)(S:List Nat):Bool:=(S.foldl (QR<|whS p n) ([[]],aj)).2&&(!(whL p n S).isEmpty&&(whL p n S).all λP=>ag<|P.map XG=S)
noncomputable def ZcK(q:Nat×Nat):Bool:=(aA<|q.2+1).all λk=>let A:=Zn q.1 q.2 k
 decide ((A.length:Int)=(Yf q.1 q.2).getD k 0)&&(ag ((Yf q.1 q.2).getD k 0=(Yf q.1 q.2).getD (q.2-k) 0)&&(qT ltZ (VV ltZ 12<|A.map yh)&&(ag (VV ltP 12 (XH q.1 q.2 k)=A)&&(Z6 q.2 k).all (Za5 q.1 q.2))))
def xu:∀q∈Q5++Jc,ZcK q=aj:=by decide +kernel
noncomputable def Zez(p:Int)(m:Nat):Bool:=(aA m).all λk=>ag<|(Yf p<|m+1).getD (k+1) 0=(Yf p m).getD k 0+p^(k+1)*(Yf p m).getD (k+1) 0
def qA:([2,3,5].all λp=>(aA 40).all λm=>Zez p m)=aj:=by decide +kernel
def jZ{p:Int}{m k:Nat}(hp:p=2\/p=3\/p=5)(hm:m<40)(hk:k<m):(Yf p<|m+1).getD (k+1) 0=(Yf p m).getD k 0+p^(k+1)*(Yf p m).getD (k+1) 0:=by
 have h:=aO.mp qA p (by rcases hp with rfl|rfl|rfl<;>simp)
 exact T6<|aO.mp (aO.mp h m<|aN.mpr hm) k<|aN.mpr hk
structure WholeOk(p n k:Nat):Prop where
 len:((Zn p n k).length:Int)=(Yf p n).getD k 0
 sym:(Yf p n).getD k 0=(Yf p n).getD (n-k) 0
 small:(Zn p n k).length<=1395
 set:Ev.YO (Zn p n k)=aj
 self:Zr ltP (Zn p n k)=Zn p n k
 pm:(XH p n k).Perm (Zn p n k)
 sort:Zr ltP (XH p n k)=Zn p n k
 ok:Ev.ZF (XH p n k)=aj
 wh:∀S∈Z6 n k,(S.foldl (QR<|whS p n) ([[]],aj)).2=aj/\whL p n S≠[]/\∀P∈whL p n S,P.map XG=S
def Jf{p n k:Nat}(h:(p,n)∈Q5++Jc)(hk:k<=n):(Zn p n k).length<=1395:=
 T6 (aO.mp (aO.mp vB _ h) k<|aN.mpr (by omega))
def Gz{Ps:List (List Row)}{k:Nat}(h1:Ps.length<=1395)(h2:Ps.Nodup)(h3:∀P∈Ps,P.length=k)(h0:k=0->Ps.length<=1):Ev.ZF Ps=aj:=by
 unfold Ev.ZF;rw[aB,aB,fq,T0,T0,T0,aO];refine#[#[by omega,h2],?_]
 cases k with
 |zero=>exact .inl<|h0 rfl
 |succ k=>
  refine .inr λP hP=>?_
  have:=h3 P hP;cases P with|nil=>cases this|cons _ _=>rfl
def qf{p n k:Nat}[Base p](hq:(p,n)∈Q5++Jc)(hk:k<=n):WholeOk p n k:=by
 have h:=aO.mp (xu (p,n) hq) k<|aN.mpr (by show k<n+1;omega)
 simp only[aB,T0,aO]at h;obtain⟨h1,h2,h3,h4,h5⟩:=h;have hl:=Jf hq hk;have inc:=yw hq hk;have nd:=G4 Sd.Zy inc;have pm:(XH p n k).Perm (Zn p n k):=h4▸(YW ltP 12 _).symm;have hh:((Zn p n k).map yh).Nodup:=(YW ltZ 12 _).nodup_iff.mp<|G4 Uk<|QP Uk h3;have hP:∀P∈Zn p n k,P.length=k:=λP h=>(Yt k P h).2
 have h0:k=0->(Zn p n k).length<=1:=λe=>by subst e;exact aM _
 have ok:=Gz hl nd hP h0;refine#[h1,h2,hl,?_,Sd.Yb Sd.Zy (Sd.ZJ _) (Sd.ZZ Sd.Zy nd) inc,pm,Sd.Yb Sd.Zy ((Sd.ZJ _).trans pm) (Sd.ZZ Sd.Zy<|pm.nodup_iff.mpr nd) inc,?_,λS hS=>?_]
 .unfold Ev.YO
  rw[ok,pG,aB,T0,T0];exact#[by omega,hh]
 .exact Gz (by rw[pm.length_eq];exact hl) (pm.nodup_iff.mpr nd) (λP h=>hP P<|pm.mem_iff.mp h) λe=>by rw[pm.length_eq];exact h0 e
 .have:=h5 S hS
  unfold Za5 at this;simp only[aB,T0,aO,km]at this;exact#[this.1,λz=>by rw[z]at this;exact T7 this.2.1 (by simp),λP hP=>this.2.2 P hP]
theorem Wd:∀{n:Nat}{S:List Nat},S∈Y9 n->S.Sublist (aA n)
 |0,S,h=>by
  rw[aZ.mp h];exact List.Sublist.slnil
 |n+1,S,h=>by
  have h:S∈(aA<|n+1).foldl (λl k=>l++l.map λr=>r++[k]) [[]]:=h
  rw[fu,nN]at h;have h:S∈Y9 n++(Y9 n).map λr=>r++[n]:=h
  rw[fu];rcases bK.mp h with h|h
  .exact(Wd h).trans<|kI ..
  .obtain⟨A,hA,rfl⟩:=a8.mp h
   exact(Wd hA).append<|List.Sublist.refl _
def X0{n k:Nat}{S:List Nat}:S∈Z6 n k↔S∈Y9 n/\S.length=k:=by
 unfold Z6;rw[eB,T0]
def xg{p n k:Nat}{P:List Row}(h:WholeOk p n k)(hP:P∈Zn p n k):P.map XG∈Z6 n k/\P∈whL p n (P.map XG):=by
 have:=h.pm.mem_iff.mpr hP;unfold XH at this;obtain⟨S,hS,hPS⟩:=d3.mp this;rw[(h.wh S hS).2.2 P hPS];exact#[hS,hPS]
end Rw
namespace K35
open Ev Pv Rw La Bo
open Ab (okV WS)
noncomputable def UQ:List (Nat×Nat):=[(2,1),(2,2),(2,3),(2,4),(3,1),(3,2),(3,3),(5,1),(5,2),(2,3),(2,4),(3,3)]
noncomputable def ZaR:List (Nat×Nat):=[(2,5),(2,6),(3,4),(5,3)]
noncomputable def XW:List (Nat×Nat):=UQ++ZaR
def Zar:∀q∈XW,(q.1=2\/q.1=3\/q.1=5)/\1<=q.2/\q.2<=6/\q.1^q.2<=1000:=by decide
def y6(d:Nat){m:Int}(s:DS):∃q s',CV (d+2) 3 [.drw,.int m] s=.ok (spV q.1 q.2) s'/\q∈XW:=by
 let L:=if m>27 then XW else UQ
 have hL:12<=L.length/\L.length<=16/\∀q∈L,q∈XW:=by
  by_cases c:m>27
  .simp only[L,T9 c];exact#[by decide,by decide,λq hq=>hq]
  .simp only[L,T8 c];exact#[by decide,by decide,λq hq=>c9 _ hq]
 obtain⟨v,s',f1,f2,f3⟩:=vq (F:=fns) (tk:=2) (d:=d) (m:=L.length) s (by omega) (by omega)
 obtain⟨k,rfl⟩:∃k:Nat,v=k:=#[v.toNat,by omega]
 have hk:k<L.length:=by omega
 refine#[L[k],s',Zt rfl (by decide) rfl ?_,hL.2.2 _<|aR hk]
 show rvs (CV<|d+1) [] Y5.body [aa .drw,aa<|.int m,ae] [] s=_
 dsimp only[Y5]
 rw[Zf (ρ':=[aa .drw,aa<|.int m,aa<|.lst<|UQ.map λq=>spV q.1 q.2]) (os':=[]) (s':=s) (by simp[pvE,UQ,spV])]
 have e0:pv (CV<|d+1) (.cmp .gt (.v 1)<|.c<|.int 27) [aa .drw,aa<|.int m,aa<|.lst<|UQ.map λq=>spV q.1 q.2] s=.ok (.bl<|ag<|27<m) s:=by
  rw[pv,Ze rfl,Za,Yp,Za];rfl
 rw[Zf (ρ':=[aa .drw,aa<|.int m,aa<|.lst<|L.map λq=>spV q.1 q.2]) (os':=[]) (s':=s) (by
  rw[US<|VO e0 rfl];by_cases c:m>27
  .simp only[L,T9 c]
   rw[T5 c,T9 rfl];rw[Zf (ρ':=[aa .drw,aa<|.int m,aa<|.lst<|XW.map λq=>spV q.1 q.2]) (os':=[]) (s':=s) (by simp[pvE,XW,UQ,ZaR,spV]),rvs]
  .simp only[L,T8 c]
   rw[T4 c,T8 (by decide),rvs])]
 refine ZC<|Z7 ?_;have e1:pv (CV<|d+1) (.blt .len [(.v 2)]) [aa .drw,aa<|.int m,aa<|.lst<|L.map λq=>spV q.1 q.2] s=.ok (.int L.length) s:=by
  rw[pv,Zc (Ze rfl) Zk,Za];show po (aa<|V.int (L.map λq=>spV q.1 q.2).length) s=_
  rw[ap];rfl
 rw[pv,Ze rfl,Za,ZG (Zc (Ze rfl)<|Zc e1 Zk) f1,Za];show po (at' (L.map λq=>spV q.1 q.2) (k:Int)) s'=_
 rw[WH (by rw[aH,af hk];rfl)];rfl
def GR:∀q∈XW,q∈Q5++Jc:=by decide
def Yz(d:Nat){i lo hi:Int}(s:DS)(h1:lo<=i)(h2:i<=hi):CV (d+2) 5 [.int i,.int lo,.int hi] s=.ok .non s:=by
 have e:=Ws d (x:=.int i) (lo:=lo) (hi:=hi) s rfl;refine yq (O:=[aa<|.int i,aa<|.int lo,aa<|.int hi]) (os:=[]) rfl (by decide) rfl ?_
 simp[Wu,pvE,e,isW,h1,h2]
noncomputable abbrev Z5(l:List Int):V:=.lst<|l.map .int
def Zah(d:Nat){p:Int}(s:DS)(hp:p=2\/p=3\/p=5):CV (d+2) 15 [.int p] s=.ok (.bl aj) s:=by
 have e:=Ws d (x:=.int p) (lo:=2) (hi:=5) s rfl;rw[show isW (.int p) 2 5=aj by rcases hp with rfl|rfl|rfl<;>rfl]at e
 refine Zt (fn:=Xq) rfl (by decide) rfl ?_
 show rvs (CV<|d+1) [] Xq.body [aa<|.int p] [] s=_;rcases hp with rfl|rfl|rfl<;>simp[Xq,pvE,e]
def G6{b:List Int}{k:Int}{i:Nat}(hk:k=i)(h:i<b.length):at' (b.map V.int) k=aa (.int<|b.getD i 0):=by
 subst hk;exact WH (by rw[aH,af h,aD,af h];rfl)
def Wb{x:Int}{j:Nat}(h0:0<=x)(h1:x<=((5^j:Nat):Int))(hj:j<=41):fits x=aj:=by
 unfold fits;refine T5 ?_;have h2:5^j<=5^41:=dG (by omega) hj
 have h3:x.natAbs<=5^41:=by
  generalize 5^41=u at h2 ⊢;generalize 5^j=v at h1 h2;omega
 exact m3 h3 (by decide +kernel)
def uQ{p:Int}(hp:0<=p/\p<=5):fits p=aj:=zc (by omega) (by omega)
def wG{C:ZE}{O:Env}{s s1 s':DS}{a e:E}{i j:Nat}(h:pv C a O s=.ok (.int i) s1)(h2:pv C e O s1=.ok (.int j) s')(hij:i<=j)(hj:j<1000000):pvw C (.rng2 a e) O s=.ok ((aA<|j-i).map λ(k:Nat)=>V.int<|(i:Int)+(k:Int)) s':=by
 rw[pvw,h,Za,h2,Za];show(if(small (i:Int)&&small (j:Int))=aj then PR.ok (ZR i ((j:Int)-i).toNat) s' else .no)=_
 rw[T9 (by rw[Yq (i:=(i:Int)) (by omega) (by omega),Yq (i:=(j:Int)) (by omega) (by omega)];rfl),show((j:Int)-i).toNat=j-i by omega]
 rfl
def zy(d:Nat){p:Int}{b:List Int}(s:DS)(hp:0<=p/\p<=5)(hb:∀i,i<b.length->fits (b.getD i 0)=aj)(h1:1<=b.length)(h2:b.length<=41):CV (d+1) 16 [.int p,Z5 b] s=.ok (Z5<|yW p b) s:=by
 refine Zt (fn:=Yn) rfl (by decide) rfl ?_
 show rvs (CV d) [2,2] Yn.body [aa<|.int p,aa<|Z5 b,ae,ae,ae] [] s=_
 dsimp only[Yn]
 rw[Zf (ρ':=[aa<|.int p,aa<|Z5 b,aa<|Z5 [1],ae,ae]) (os':=[2]) (s':=s) (by simp[pvE,ZU,V.flat,ofD])]
 rw[Zf (ρ':=[aa<|.int p,aa<|Z5 b,aa<|Z5 [1],aa<|.int 1,ae]) (os':=[2]) (s':=s) (by simp[pvE,ZU,V.flat,ofD,fresh])]
 obtain⟨o,hI,e⟩:=Y1 (C:=CV d) (ms:=[2,2]) (t:=[4]) (it:=.rng2 (.c<|.int 1)<|.blt .len [(.v 1)]) (b:=[.aug 3 .mul<|.v 0,.ex<|.mt .append (.v 2) [(.bin .add (.ix (.v 1)<|.bin .sub (.v 4)<|.c<|.int 1)<|.bin .mul (.v 3)<|.ix (.v 1)<|.v 4)]]) (L:=aA<|b.length-1) (e:=λ(i:Nat)=>V.int<|1+(i:Int)) (step:=Gu p b) (O:=λst o=>[aa<|.int p,aa<|Z5 b,aa<|Z5 st.1,aa<|.int st.2,o]) (st:=([1],1)) (o:=ae) (os:=[2]) (s:=s)
  (λl st=>(∀i∈l,i+1<b.length)/\∃j,j+l.length<=40/\0<=st.2/\st.2<=((5^j:Nat):Int)/\st.1.length=j+1)
  (wG (i:=1) (j:=b.length) (s1:=s) (by simp[pvE,ofD]) (by simp[pvE]) h1 (by omega))
  #[λi hi=>by have:=aN.mp hi;omega,0,by simp;omega,by simp,by simp,rfl] rfl (by
   rintro i l st o ⟨hi,j,a1,a2,a3,a4⟩;have i1:=hi i<|ao ..;simp only[aE]at a1;have f1:fits st.2=aj:=Wb a2 a3 (by omega)
   have m1:0<=st.2*p:=Int.mul_nonneg a2 hp.1;have m2:st.2*p<=((5^(j+1):Nat):Int):=by
    rw[iF,oH];exact oW a3 hp.2 hp.1 (by omega)
   have f2:fits (st.2*p)=aj:=Wb m1 m2 (by omega)
   have g1:at' (b.map V.int) (1+(i:Int)-1)=aa (.int<|b.getD i 0):=G6 (by omega) (by omega)
   have g2:at' (b.map V.int) (1+(i:Int))=aa (.int<|b.getD (i+1) 0):=G6 (by omega) (by omega)
   refine#[#[λk hk=>hi k<|ax _ hk,j+1,by omega,m1,m2,by simp[Gu,a4]],rfl,[aa<|.int p,aa<|Z5 b,aa<|Z5 st.1,aa<|.int st.2,aa<|.int<|1+(i:Int)],aa<|.int<|1+(i:Int),rfl,?_]
   rw[Zf (ρ':=[aa<|.int p,aa<|Z5 b,aa<|Z5 st.1,aa<|.int<|st.2*p,aa<|.int<|1+(i:Int)]) (os':=[2]) (s':=s) (by simp[pvE,Zdo,Yy,Ve,f1,uQ hp])]
   have f3:=hb (i+1) i1;show rvs _ _ _ _ _ _=PR.ok (FlV.nx [aa<|.int p,aa<|Z5 b,aa<|Z5<|st.1++[b.getD i 0+st.2*p*b.getD (i+1) 0],aa<|.int<|st.2*p,aa<|.int<|1+(i:Int)] [2]) s;generalize b.getD i 0=u at g1 ⊢;generalize b.getD (i+1) 0=v at g2 f3 ⊢;have l1:st.1.length<16777216:=by omega
   rw[Zf (ρ':=[aa<|.int p,aa<|Z5 b,aa<|Z5<|st.1++[u+st.2*p*v],aa<|.int<|st.2*p,aa<|.int<|1+(i:Int)]) (os':=[2]) (s':=s) (by simp[pvE,Yy,Ve,f2,f3,g1,g2,V.flat,ofD,XM,l1])]
   rw[rvs])
 rw[Zf e];obtain⟨_,j,b1,_,_,b4⟩:=hI;have l2:((aA<|b.length-1).foldl (Gu p b) ([1],1)).1.length<16777216:=by simp only[f9]at b1;omega
 rw[Zf (ρ':=[aa<|.int p,aa<|Z5 b,aa<|Z5<|yW p b,aa<|.int ((aA<|b.length-1).foldl (Gu p b) ([1],1)).2,o]) (os':=[2]) (s':=s) (by simp[pvE,V.flat,ofD,XM,yW,l2])]
 exact ZC<|Z7<|Ze rfl
def ZbB{p:Int}{n:Nat}(hp:p=2\/p=3\/p=5)(hn:n<=40):chk p n=aj:=by
 have h:=aO.mp qM p (by rcases hp with rfl|rfl|rfl<;>simp)
 exact aO.mp h n<|aN.mpr (by omega)
structure Chk(p:Int)(n:Nat):Prop where
 bl:(Yf p n).length=n+1
 bf:∀i,i<n+1->fits ((Yf p n).getD i 0)=aj
 wl:(pwI p n).length=n+1
 w0:∀i,i<n+1->0<=(pwI p n).getD i 0
 w1:∀i,i<n+1->(pwI p n).getD i 0<ZdZ
 b0:(Yf p n).getD 0 0=1
 bn:(Yf p n).getD n 0=1
 d0:∀k,k<n+1->0<(vA (pwI p n) n k).2
 d1:∀k,k<n+1->(vA (pwI p n) n k).2<Ev.big
 de:∀k,k<n+1->(vA (pwI p n) n k).1 / (vA (pwI p n) n k).2=(Yf p n).getD k 0
def VE{b:List Int}{i:Nat}(h:i<b.length):b.getD i 0∈b:=by
 rw[aD,af h];exact aR h
def Jd{p:Int}{n:Nat}(hp:p=2\/p=3\/p=5)(hn:n<=40):Chk p n:=by
 have h:=ZbB hp hn;unfold chk at h;simp only[aB,T0,aO,aN]at h;obtain⟨h1,h2,h3,h4,h5,h6,h7⟩:=h;refine#[h1,λi hi=>?_,h3,λi hi=>(h4 _<|VE<|by omega).1,λi hi=>(h4 _<|VE<|by omega).2,h5,h6,λk hk=>(h7 k hk).1,λk hk=>(h7 k hk).2.1,λk hk=>(h7 k hk).2.2]
 have:=h2 _<|VE (by omega:i<(Yf p n).length)
 unfold fits;refine T5 ?_;have b:=this.2;unfold Ev.big at b;generalize (Yf p n).getD i 0=x at this b;have e:((2:Int)^8000)=((2^8000:Nat):Int):=by rw[hZ];rfl
 rw[e]at b;generalize 2^8000=z at b ⊢;omega
def box(d:Nat){p:Int}{n k:Nat}(s:DS)(hp:p=2\/p=3\/p=5)(hn:n<=40)(hk:k<=n):CV (d+3) 17 [.int p,.int n,.int k] s=.ok (.int<|(Yf p n).getD k 0) s:=by
 have e1:=Zah d (p:=p) s hp;have e2:=Yz d (i:=n) (lo:=0) (hi:=40) s (by omega) (by omega)
 have e3:=Yz d (i:=k) (lo:=0) (hi:=n) s (by omega) (by omega)
 refine Zt (fn:=zL) rfl (by decide) rfl ?_
 show rvs (CV<|d+2) [] zL.body [aa<|.int p,aa<|.int n,aa<|.int k,ae,ae] [] s=_
 dsimp only[zL]
 rw[Zf (ρ':=[aa<|.int p,aa<|.int n,aa<|.int k,ae,ae]) (os':=[]) (s':=s) (by simp[pvE,e1])]
 rw[Zf<|V0<|ZG (s1:=s) (vs:=[.int n,.int 0,.int 40]) (by simp[pvE,ofD]) e2]
 rw[Zf<|V0<|ZG (s1:=s) (vs:=[.int k,.int 0,.int n]) (by simp[pvE,ofD]) e3]
 rw[Zf (ρ':=[aa<|.int p,aa<|.int n,aa<|.int k,aa<|Z5<|Yf p 0,ae]) (os':=[]) (s':=s) (by simp[pvE,ofD,Yf])]
 obtain⟨o,hI,e⟩:=Y1 (C:=CV<|d+2) (ms:=[]) (t:=[4]) (it:=.rng1<|.v 1) (b:=[.asg [3]<|.call 16 [(.v 0),(.v 3)]]) (L:=aA n) (e:=Zg) (step:=λj _=>j+1) (O:=λj o=>[aa<|.int p,aa<|.int n,aa<|.int k,aa<|Z5<|Yf p j,o]) (st:=0) (o:=ae) (os:=[]) (s:=s)
  (λl j=>j+l.length=n) (Xx (Ze rfl)<|by omega) (by simp) rfl (λi l j o hj=>by
   simp only[aE]at hj;have c:=Jd hp (show j<=40 by omega)
   refine#[by omega,rfl,_,aa<|Zg i,rfl,?_]
   rw[Zf (Z2 (ZG (Zc (Ze rfl)<|Zc (Ze rfl) Zk)<|zy (d+1) s (by omega) (λi hi=>c.bf i<|by rw[c.bl]at hi;exact hi) (by rw[c.bl];omega)<|by rw[c.bl];omega) rfl),rvs]
   rfl)
 rw[Zf e];simp only[f9,lz]at hI;rw[hI];have c:=Jd hp hn;refine ZC<|Z7 ?_;have g:at' ((Yf p n).map V.int) (k:Int)=aa (.int<|(Yf p n).getD k 0):=G6 rfl (by rw[c.bl];omega)
 rw[pv,Ze rfl,Za,Ze rfl,Za];show po (at' ((Yf p n).map V.int) (k:Int)) s=_;rw[g];rfl
def y4(r:Row):V.flat (Zh r)=aj:=XT r
theorem Xw{B:Type}{f:B->V}:∀(l:List B),(∀x∈l,(f x).flat=aj)->ZU (l.map f)=aj
 |[],_=>rfl
 |x::l,h=>by
  show(V.flat (f x)&&ZU (l.map f))=aj;rw[h x<|ao ..,Xw l λy hy=>h y<|ax _ hy];rfl
def zh(P:List Row):V.flat (Zb P)=aj:=Xw P λr _=>y4 r
section
variable{C:ZE}{ms os:List Nat}{O:Env}{s s':DS}{e a b:E}{i j:Nat}
def Wn{v:V}(h:O[i]?=aa (aa v))(ho:os.contains i=ak):(hide os O)[i]?=aa (aa v):=by
 unfold hide;rw[fG,h];show aa (if os.contains i=aj then ae else aa v)=_
 rw[T8 (by rw[ho];simp)]
def jH{O:Env}{s':DS}{i o:Nat}{e:E}{v:V}(h:pv C e (hide (o::os) O) s=.ok v s')(hm:(ms.contains i&&fresh e)=ak):rv C ms (.asg [i] e) O (o::os) s=.ok (.nx (O.set i<|aa v) ((o::os).filter (· != i))) s':=by
 have h1:pvA C e O (o::os) s=.ok v s':=by unfold pvA;dsimp only;rw[h]
 rw[rv,h1,Za,T8 (by rw[hm];simp)]
def Zc1{O:Env}{s':DS}{i o:Nat}{e:E}{xs:List V}(h:pv C e (hide (o::os) O) s=.ok (.lst xs) s')(hm:(ms.contains i&&fresh e)=aj)(hf:ZU xs=aj)(hi:i<O.length):rv C ms (.asg [i] e) O (o::os) s=.ok (.nx (O.set i<|aa<|.lst xs) (i::(o::os).filter (· != i))) s':=by
 have h1:pvA C e O (o::os) s=.ok (.lst xs) s':=by unfold pvA;dsimp only;rw[h]
 rw[rv,h1,Za,T9 hm];show(if ZU xs=aj/\i<O.length then _ else _)=_
 rw[T9 #[hf,hi]]
def Zag{xs:List V}(h:pv C e (hide os O) s=.ok (.lst xs) s')(hm:(ms.contains i&&fresh e)=aj)(hf:ZU xs=aj)(hi:i<O.length):rv C ms (.asg [i] e) O os s=.ok (.nx (O.set i<|aa<|.lst xs) (i::os.filter (· != i))) s':=by
 cases os with
 |nil=>
  rw[Lv.hide_nil]at h;have h1:pvA C e O [] s=.ok (.lst xs) s':=h;rw[rv,h1,Za,T9 hm];show(if ZU xs=aj/\i<O.length then _ else _)=_
  rw[T9 #[hf,hi]]
 |cons o os=>exact Zc1 h hm hf hi
def va{t:E}{x l:List Sm}(h:pv C t O s=.ok (.bl ak) s):rvs C ms (.ite t x []::l) O os s=rvs C ms l O os s:=by
 rw[Zf (ρ':=O) (os':=os) (s':=s) (by rw[US<|VO h rfl,T8 (by simp),rvs])]
def ui{O:Env}{a b:E}{xs:List V}{y:V}(h1:pv C a O s=.ok (.tup xs) s)(h2:pv C b O s=.ok y s)(hl:xs.length<=1000):pv C (.bin .add a<|.tup [b]) O s=.ok (.tup<|xs++[y]) s:=by
 rw[pv,h1,Za,Zau h2,Za];show(if xs.length+1<=lim then PR.ok (V.tup<|xs++[y]) s else .no)=_
 rw[T9 (by unfold lim;omega)]
end
section
variable{C:ZE}{cap:List Nat}{nl:Nat}{t:List Nat}{it:W}{elt tst:E}{O:Env}{s:DS}{B:Type}
def xn{β:Type}{u:List Nat}{jt:W}{l:List B}{e:B->V}{m:B->List β}{e2:β->V}{g:B->β->V}{q:B->Bool}(hw:pvw C it O s=.ok (l.map e) s)(hl:(l.flatMap λx=>if q x=aj then(m x).map (g x)else[]).length<=lim)
  (h:∀x∈l,∃U v,Zl t (e x) (ZY cap nl O)=aa U/\pv C tst U s=.ok v s/\Zm v=aa (q x)/\pvw C jt U s=.ok ((m x).map e2) s/\∀y∈m x,∃σ',Zl u (e2 y) U=aa σ'/\pv C elt σ' s=.ok (g x y) s)(ho:own2 nl t u=aj:=by rfl):pv C (.comp2 cap nl t it [tst] u jt [] elt) O s=.ok (.lst<|l.flatMap λx=>if q x=aj then(m x).map (g x)else[]) s:=by
 rw[pv,T9 ho,hw,Za,WA (g:=λx=>if q x=aj then(m x).map (g x)else[]) λx hx=>by
  obtain⟨U,v,e1,e5,e6,e3,e4⟩:=h x hx;rw[e1,ZS,Za,pvt,e5,Za,e6,ZS,Za];cases c:q x with
  |false=>rw[T8 (by simp),Za,T8 (by simp),T8 (by simp)]
  |true=>
   rw[T9 rfl,pvt,Za,T9 rfl,e3,Za,T9 rfl];exact X9 λy hy=>by
    obtain⟨σ',f1,f2⟩:=e4 y hy;rw[f1,ZS,Za,pvt,Za];show(pv C elt σ' s).bind _=_;rw[f2];rfl]
 rw[Za,T9 hl];rfl
end
noncomputable def Zd(S:List Nat):V:=.tup<|S.map Zg
section
variable{p n:Nat}[Base p]
def W3(d:Nat){P:List Row}{h:Nat}(s:DS)(hP:∀r∈P,ZO p n r)(hl:P.length<=1000)(hh:h<n):CV (d+1) 7 [Zb P,Zg h] s=.ok (.bl<|P.all λr=>ag<|gt r h=0) s:=by
 refine Zt rfl (by decide) rfl ?_
 have hc:=ZQ (C:=CV d) (cap:=[1]) (nl:=1) (t:=[0]) (it:=.of<|.v 0) (elt:=.cmp .eq (.ix (.v 0)<|.v 1)<|.c<|.int 0) (O:=[aa<|Zb P,aa<|Zg h]) (s:=s) (l:=P) (e:=Zh) (g:=λr=>V.bl<|ag<|gt r h=0)
  (by simp[pvE,Zb]) (by unfold lim;omega) (λr hr=>#[_,rfl,by
   have:=GJ (by rw[(hP r hr).1];exact hh)
   simp[pvE,Zh,Zg,this,Zi]])
 have ht:=ZT (g:=λr:Row=>ag<|gt r h=0) P
 simp[Y3,pvE,hc,ht,iC,Function.comp]
def uv{C:ZE}{O:Env}{s:DS}{a b:E}{i j:Nat}(h1:pv C a O s=.ok (.int i) s)(h2:pv C b O s=.ok (.int j) s)(hi:i<1000000)(hj:j<1000000):pvw C (.rng2 a b) O s=.ok ((aA<|j-i).map λk=>Zg<|i+k) s:=by
 rw[pvw,h1,Za,h2,Za];show(if(small (i:Int)&&small (j:Int))=aj then PR.ok (ZR i ((j:Int)-i).toNat) s else .no)=_
 rw[Yq (by omega) (by omega),Yq (by omega) (by omega),T9<|show(aj&&aj)=aj from rfl,show((j:Int)-i).toNat=j-i by omega]
 rfl
def W9(d:Nat){h:Nat}(s:DS)(hn:n<=6)(hh:h<n):CV (d+1) 6 [spV p n,Zg h] s=.ok (.lst<|(Zp p n h).map Zh) s:=by
 refine Zt rfl (by decide) rfl ?_
 show rvs (CV d) [] (.asg [2,3] (.v 0) :: .asg [4] (.lst [(.bin .add (.bin .mul (.tup [(.c<|.int 0)])<|.v 1)<|.tup [(.c<|.int 1)])]) :: .forr [5] (.rng2 (.bin .add (.v 1)<|.c<|.int 1)<|.v 3) [.asg [4]<|.comp2 [2] 2 [0] (.of<|.v 4) [] [1] (.rng1<|.v 2) []<|.bin .add (.v 0)<|.tup [(.v 1)]] :: .ret (.v 4)::[]) [aa<|spV p n,aa<|Zg h,ae,ae,ae,ae] [] s=_;have hp:=Zaw (p:=p);rw[Zf<|Yo (p:=p) (n:=n) _ _ (by simp[pvE]) (by simp)]
 have er:=Zdp h;rw[Zf (ρ':=[aa<|spV p n,aa<|Zg h,aa<|.int p,aa<|.int n,aa<|.lst<|[aP h (0:Int)++[1]].map Zh,ae]) (os':=[]) (s':=s) (by
  have h1:(h:Int)<1000:=by omega
  have h2:h+1<=lim:=by unfold lim;omega
  have h3:(aP h<|V.int 0).length+1<=16777216:=by rw[c6];omega
  rw[List.map_replicate]at er;have h4:h<=16777215:=by omega
  simp[pvE,Zg,h1,er,Zh,h4])]
 obtain⟨o',hI,e⟩:=Y1 (t:=[5]) (it:=.rng2 (.bin .add (.v 1)<|.c<|.int 1)<|.v 3) (b:=[.asg [4]<|.comp2 [2] 2 [0] (.of<|.v 4) [] [1] (.rng1<|.v 2) []<|.bin .add (.v 0)<|.tup [(.v 1)]]) (L:=aA<|n-(h+1)) (O:=λst o=>[aa<|spV p n,aa<|Zg h,aa<|.int p,aa<|.int n,aa<|.lst<|st.map Zh,o]) (st:=[aP h (0:Int)++[1]]) (os:=[]) (λl st=>st.length*5^l.length<=15625/\∀r∈st,r.length+l.length<=1000)
  (uv (by simp[pvE,Zg]) (by simp[pvE]) (by omega)<|by omega) #[by
   have:5^(n-(h+1))<=5^6:=dG (by omega) (by omega)
   simp only[cL,be];omega,λr hr=>by rw[aZ.mp hr];simp;omega] rfl (λx l st o hst=>by
  obtain⟨h3,h4⟩:=hst;have hsl:(XI p st).length=st.length*p:=JX st;have hb:st.length*p*5^l.length<=15625:=by
   have:st.length*p<=st.length*5:=Nat.mul_le_mul_left _ (by omega)
   have h4:st.length*p*5^l.length<=st.length*5*5^l.length:=Nat.mul_le_mul_right _ this;rw[aE,iF]at h3;have h5:st.length*5*5^l.length=st.length*(5^l.length*5):=by rw[mM,gC 5]
   omega
  have hlim:=cM (k6 _<|Nat.pow_pos<|by omega) hb
  refine#[#[by rw[hsl];exact hb,λr hr=>?_],rfl,_,aa<|Zg<|h+1+x,rfl,?_]
  .unfold XI at hr
   obtain⟨q,hq,hr⟩:=d3.mp hr;obtain⟨k,_,rfl⟩:=a8.mp hr;have:=h4 q hq;rw[aE]at this;rw[aX,cL];omega
  .show rvs (CV d) [] _ [aa<|spV p n,aa<|Zg h,aa<|.int p,aa<|.int n,aa<|.lst<|st.map Zh,aa<|Zg<|h+1+x] [] s=_
   have hc:=Jr (C:=CV d) (cap:=[2]) (nl:=2) (t:=[0]) (u:=[1]) (it:=.of<|.v 4) (jt:=.rng1<|.v 2) (elt:=.bin .add (.v 0)<|.tup [(.v 1)]) (O:=[aa<|spV p n,aa<|Zg h,aa<|.int p,aa<|.int n,aa<|.lst<|st.map Zh,aa<|Zg<|h+1+x]) (s:=s) (l:=st) (e:=Zh) (m:=λ_=>aA p) (g:=λr k=>Zh<|r++[(k:Int)])
    (by simp[pvE]) (by rw[mF];simp only[ap,be];rw[oI,lH];unfold lim;omega) (λr hr=>#[_,rfl,by
     exact Xx (Ze rfl) (by omega),λk hk=>#[_,rfl,by
     have hr':=h4 r hr;have h6:r.length+1<=16777216:=by omega
     simp[pvE,Zh,Zg,h6]]])
   have ef:(st.flatMap λr=>(aA p).map λ(k:Nat)=>Zh<|r++[(k:Int)])=(XI p st).map Zh:=by
    unfold XI;rw[k7];exact congrArg (λf=>st.flatMap f)<|funext λr=>by rw[bL];rfl
   rw[ef]at hc;rw[Zf<|Z2 hc rfl,rvs];rfl)
 rw[Zf e];exact ZC<|Z7<|Ze rfl
def GF(d:Nat){hs:List Nat}(s:DS)(hl:hs.length<=1000):CV (d+1) 12 [Zd hs] s=.ok (.bl<|rise hs) s:=by
 refine Zt rfl (by decide) rfl ?_
 have ez:∀(a b:List Nat),((a.map Zg).zip<|b.map Zg).map (λq=>V.tup [q.1,q.2])=(a.zip b).map λq=>V.tup [Zg q.1,Zg q.2]:=by
  intro a
  induction a with
  |nil=>intro b;rfl
  |cons x a ih=>intro b;cases b with|nil=>rfl|cons y b=>simp only[bz,cn];rw[ih]
 have hc:=ZQ (C:=CV d) (cap:=[]) (nl:=2) (t:=[0,1]) (it:=.zip (.v 0)<|.sl (.v 0) (aa<|.c<|.int 1) ae) (elt:=.cmp .lt (.v 0)<|.v 1) (O:=[aa<|Zd hs]) (s:=s) (l:=hs.zip hs.tail) (g:=λq=>V.bl<|ag<|q.1<q.2)
  (by
   have e1:Yu (hs.map Zg) (aa 1) ae=hs.tail.map Zg:=by rw[Gw,kH]
   simp[pvE,slV,Zd,e1];rw[<-kH,ez]) (by rw[f6];unfold lim;omega) (λq hq=>#[_,rfl,by simp[pvE,Zg]])
 have ht:=ZT (g:=λq:Nat×Nat=>ag<|q.1<q.2)<|hs.zip hs.tail
 simp[Xe,pvE,hc,ht,rise]
def XJ{S:List Nat}(hS:S.Sublist (aA n)):(∀k∈S,k<n)/\S.length<=n/\rise S=aj:=by
 refine#[λk hk=>aN.mp<|hS.subset hk,?_,Ww.mpr<|lE.sublist hS]
 have:=hS.length_le;rw[be]at this;exact this
def Vg(d:Nat){S:List Nat}(s:DS)(hn:n<=6)(hS:S.Sublist (aA n)):CV (d+2) 13 [Zd S,.int<|(n:Int)-1] s=.ok (.bl aj) s:=by
 obtain⟨h1,h2,h3⟩:=XJ hS;refine Zt rfl (by decide) rfl ?_
 show rvs (CV<|d+1) [] Yc.body [aa<|Zd S,aa<|.int<|(n:Int)-1] [] s=_
 dsimp only[Yc]
 have g1:pv (CV<|d+1) (.not<|.isi (.v 0) [.tuple]) [aa<|Zd S,aa<|.int<|(n:Int)-1] s=.ok (.bl ak) s:=by
  rw[pv,pv,Ze rfl];rfl
 rw[guard g1];have hc:=ZQ (C:=CV<|d+1) (cap:=[1]) (nl:=1) (t:=[0]) (it:=.of<|.v 0) (elt:=.call 4 [(.v 0),(.c<|.int 0),(.v 1)]) (O:=[aa<|Zd S,aa<|.int<|(n:Int)-1]) (s:=s) (l:=S) (e:=Zg) (g:=λ_=>V.bl aj)
  (by rw[pvw,Ze rfl];rfl) (by unfold lim;omega) (λk hk=>#[[aa<|Zg k,aa<|.int<|(n:Int)-1],rfl,by
   have:=h1 k hk;have e:=Ws d (x:=Zg k) (lo:=0) (hi:=(n:Int)-1) s rfl;rw[show isW (Zg k) 0 ((n:Int)-1)=aj by
    show(ag ((0:Int)<=k)&&ag ((k:Int)<=(n:Int)-1))=aj;rw[T5 (by omega),T5 (by omega)];rfl]at e
   exact ZG (Zc (Ze rfl)<|Zc Yp<|Zc (Ze rfl) Zk) e])
 have g2:pv (CV<|d+1) (.blt .all [(.comp1 [1] 1 [0] (.of<|.v 0) []<|.call 4 [(.v 0),(.c<|.int 0),(.v 1)])]) [aa<|Zd S,aa<|.int<|(n:Int)-1] s=.ok (.bl aj) s:=by
  rw[pv,Zc hc Zk,Za];show po ((Z0<|S.map λ_=>V.bl aj).map λbs=>V.bl<|bs.all id) s=_
  rw[ZT (g:=λ_:Nat=>aj)]
  show PR.ok (V.bl<|(S.map λ_=>aj).all id) s=_
  rw[show(S.map λ_=>aj).all id=aj by induction S<;>simp]
 refine ZC<|Z7 ?_;have g3:=GF d s (hs:=S) (by omega)
 rw[h3]at g3;exact ZcV g2<|ZG (Zc (Ze rfl) Zk) g3
def ZbF{F:List (List Row)}{h:Nat}:whS p n F h=F.flatMap λP=>if(P.all λr=>ag<|gt r h=0)=aj then(Zp p n h).map (λr=>P++[r])else[]:=rfl
def VF(d:Nat){S:List Nat}(s:DS)(hn:n<=6)(hS:S.Sublist (aA n))(hw:(S.foldl (QR<|whS p n) ([[]],aj)).2=aj):CV (d+3) 14 [spV p n,Zd S] s=.ok (.lst<|(whL p n S).map Zb) s:=by
 obtain⟨h1,h2,h3⟩:=XJ hS;refine Zt rfl (by decide) rfl ?_
 show rvs (CV<|d+2) [] Y6.body [aa<|spV p n,aa<|Zd S,ae,ae,ae,ae,ae] [] s=_
 dsimp only[Y6]
 rw[Zf<|Yo (p:=p) (n:=n) _ _ (by show pv _ _ _ _=_;exact Ze rfl) #[rfl,rfl]]
 show rvs _ _ _ [aa<|spV p n,aa<|Zd S,aa<|.int p,aa<|.int n,ae,ae,ae] [] s=_;have e0:pv (CV<|d+2) (.bin .sub (.v 3)<|.c<|.int 1) [aa<|spV p n,aa<|Zd S,aa<|.int p,aa<|.int n,ae,ae,ae] s=.ok (.int<|(n:Int)-1) s:=by
  rw[pv,Ze rfl,Za,Yp,Za];rfl
 rw[guard<|uF (c:=aj)<|Ys (Ze rfl) e0<|Vg d s hn hS];have g0:pv (CV<|d+2) (.lst [(.tup [])]) [aa<|spV p n,aa<|Zd S,aa<|.int p,aa<|.int n,ae,ae,ae] s=.ok (.lst [Zb []]) s:=by
  have:pv (CV<|d+2) (.tup []) [aa<|spV p n,aa<|Zd S,aa<|.int p,aa<|.int n,ae,ae,ae] s=.ok (.tup []) s:=by rw[pv,Zk];rfl
  rw[pv,Zc this Zk];rfl
 rw[Zf<|Z2 g0 rfl];show rvs _ _ _ [aa<|spV p n,aa<|Zd S,aa<|.int p,aa<|.int n,aa<|.lst<|([[]]:List (List Row)).map Zb,ae,ae] [] s=_;obtain⟨ρ',hI,e⟩:=yX (C:=CV<|d+2) (ms:=[]) (os:=[]) (t:=[5]) (it:=.of<|.v 1) (b:=[.asg [6]<|.call 6 [(.v 0),(.v 5)],
  .asg [4] (.comp2 [5,6] 2 [0] (.of<|.v 4) [(.call 7 [(.v 0),(.v 2)])] [1] (.of<|.v 3) []<|.bin .add (.v 0)<|.tup [(.v 1)])]) (L:=S) (e:=Zg) (O:=[aa<|spV p n,aa<|Zd S,aa<|.int p,aa<|.int n,aa<|.lst<|([[]]:List (List Row)).map Zb,ae,ae]) (s:=s)
  (λl O=>(∀k∈l,k<n)/\∃F a5 a6,O=[aa<|spV p n,aa<|Zd S,aa<|.int p,aa<|.int n,aa<|.lst<|F.map Zb,a5,a6]/\(∀P∈F,P.length+l.length<=6/\∀r∈P,ZO p n r)/\F.length<=1000/\(l.foldl (QR<|whS p n) (F,aj)).2=aj/\l.foldl (whS p n) F=whL p n S) (by
   rw[Lv.hide_nil];rw[pvw,Ze rfl];rfl) #[h1,_,ae,ae,rfl,λP hP=>by rw[aZ.mp hP];exact#[by simp;omega,λ_ h=>by cases h],by simp,hw,rfl] rfl (λh l O hI=>by
   obtain⟨hh,F,a5,a6,rfl,hP,lF,hb,hf⟩:=hI;have h0:=hh h<|ao ..;obtain⟨hb',hl'⟩:=vK hb;refine#[rfl,[aa<|spV p n,aa<|Zd S,aa<|.int p,aa<|.int n,aa<|.lst<|F.map Zb,aa<|Zg h,a6],[aa<|spV p n,aa<|Zd S,aa<|.int p,aa<|.int n,aa<|.lst<|(whS p n F h).map Zb,aa<|Zg h,aa<|.lst<|(Zp p n h).map Zh],rfl,?_,λk hk=>hh k<|ax _ hk,_,_,_,rfl,?_,hl',hb',hf]
   .have e1:pv (CV<|d+2) (.call 6 [(.v 0),(.v 5)]) [aa<|spV p n,aa<|Zd S,aa<|.int p,aa<|.int n,aa<|.lst<|F.map Zb,aa<|Zg h,a6] s=.ok (.lst<|(Zp p n h).map Zh) s:=Ys (Ze rfl) (Ze rfl) (W9 (d+1) s hn h0)
    rw[Zf<|Z2 e1 rfl];show rvs _ _ _ [aa<|spV p n,aa<|Zd S,aa<|.int p,aa<|.int n,aa<|.lst<|F.map Zb,aa<|Zg h,aa<|.lst<|(Zp p n h).map Zh] [] s=_;have eq:(F.flatMap λP=>if(P.all λr=>ag<|gt r h=0)=aj then(Zp p n h).map (λr=>Zb<|P++[r])else[])=(whS p n F h).map Zb:=by
     rw[ZbF,k7];refine congrArg (λf=>F.flatMap f)<|funext λP=>?_
     split
     .rw[bL];rfl
     .rfl
    have hc:=xn (C:=CV<|d+2) (cap:=[5,6]) (nl:=2) (t:=[0]) (it:=.of<|.v 4) (tst:=.call 7 [(.v 0),(.v 2)]) (u:=[1]) (jt:=.of<|.v 3) (elt:=.bin .add (.v 0)<|.tup [(.v 1)]) (O:=[aa<|spV p n,aa<|Zd S,aa<|.int p,aa<|.int n,aa<|.lst<|F.map Zb,aa<|Zg h,aa<|.lst<|(Zp p n h).map Zh]) (s:=s) (l:=F) (e:=Zb) (m:=λ_=>Zp p n h) (e2:=Zh) (g:=λP r=>Zb<|P++[r]) (q:=λP=>P.all λr=>ag<|gt r h=0)
     (by rw[pvw,Ze rfl];rfl) (by rw[eq,ap];unfold lim;omega) (λP hP'=>by
      obtain⟨p1,p2⟩:=hP P hP';rw[aE]at p1;refine#[[aa<|Zb P,ae,aa<|Zg h,aa<|.lst<|(Zp p n h).map Zh],.bl<|P.all λr=>ag<|gt r h=0,rfl,Ys (Ze rfl) (Ze rfl) (W3 (d+1) s p2 (by omega) h0),rfl,by rw[pvw,Ze rfl];rfl,λr hr=>#[[aa<|Zb P,aa<|Zh r,aa<|Zg h,aa<|.lst<|(Zp p n h).map Zh],rfl,?_]]
      rw[ui (xs:=P.map Zh) (y:=Zh r) (Ze rfl) (Ze rfl) (by rw[ap];omega)]
      unfold Zb;rw[bP];rfl)
    rw[eq]at hc;rw[Zf<|Z2 hc rfl,rvs];rfl
   .intro P hP'
    unfold whS at hP';obtain⟨Q,hQ,hP'⟩:=d3.mp hP';obtain⟨q1,q2⟩:=hP Q hQ;rw[aE]at q1;split at hP'
    .obtain⟨r,hr,rfl⟩:=a8.mp hP'
     refine#[by rw[aX,cL];omega,λx hx=>?_]
     rcases bK.mp hx with hx|hx
     .exact q2 x hx
     .rw[aZ.mp hx]
      exact((WM (p:=p) h0).1 r hr).1
    .cases hP')
 obtain⟨_,F,a5,a6,rfl,_,_,_,hf⟩:=hI;have hf:F=whL p n S:=hf;subst hf;rw[Zf e];exact ZC<|Z7<|Ze rfl
def heads(d:Nat){P:List Row}(s:DS)(hn:n<=6)(hP:pZ p n P):CV (d+5) 24 [spV p n,Zb P] s=.ok (.tup<|P.map λr=>Zg<|XG r) s:=by
 have lP:=dsum hP;refine Zt rfl (by decide) rfl ?_
 show rvs (CV<|d+4) [] Qy.body [aa<|spV p n,aa<|Zb P] [] s=_
 dsimp only[Qy]
 have e1:pv (CV<|d+4) (.call 21 [(.v 0),(.v 1)]) [aa<|spV p n,aa<|Zb P] s=.ok .non s:=Ys (Ze rfl) (Ze rfl)<|UK d s hn hP;rw[Zf<|V0 e1];have hc:=ZQ (C:=CV<|d+4) (cap:=[]) (nl:=1) (t:=[0]) (it:=.of<|.v 1) (elt:=.call 8 [(.v 0)]) (O:=[aa<|spV p n,aa<|Zb P]) (s:=s) (l:=P) (e:=Zh) (g:=λr=>Zg<|XG r)
  (by rw[pvw,Ze rfl];rfl) (by unfold lim;omega) (λr hr=>#[[aa<|Zh r],rfl,by
   obtain⟨k,hk,_⟩:=hP.head fld.one0 hr;have e:=QM (d+3) r s;rw[hk]at e;rw[vV hk];exact ZG (Zc (Ze rfl) Zk) e])
 refine ZC<|Z7 ?_;rw[pv,Zc hc Zk];rfl
end
end K35
namespace K35
open Ev Pv Rw La
section
variable{p n:Nat}[Base p]
def qg{C:ZE}{O:Env}{s:DS}{a b:E}{i j:Nat}(h1:pv C a O s=.ok (.int i) s)(h2:pv C b O s=.ok (.int j) s)(hi:i<1000000)(hj:j<1000000):pvw C (.rrng a b) O s=.ok ((XV j i).map Zg) s:=by
 rw[pvw,h1,Za,h2,Za];show(if(small (i:Int)&&small (j:Int))=aj then PR.ok (ZR i ((j:Int)-i).toNat).reverse s else .no)=_
 rw[Yq (by omega) (by omega),Yq (by omega) (by omega),T9<|show(aj&&aj)=aj from rfl,show((j:Int)-i).toNat=j-i by omega]
 unfold XV ZR;rw[gW,bL];rfl
def jN{r:Row}{P:List Row}:at' ((P++[r]).map Zh) (-1)=aa (Zh r):=by
 have e:ixN ((P++[r]).map Zh).length (-1)=aa P.length:=by
  rw[ap,aX,cL];unfold ixN;rw[T8 (by omega),T9 (by omega),show(-1+((P.length+1:Nat):Int)).toNat=P.length by omega]
 unfold at';rw[e];show((P++[r]).map Zh)[P.length]?=_;rw[aH,bg<|aM _,nA];rfl
def wM(d:Nat){P:List Row}{v:V}{a2 a3 a4:Option V}(s:DS)(hP:pZ p n P):pv (CV<|d+1) (.ite (.v 1) (.bin .add (.call 8 [(.ix (.v 1)<|.neg<|.c<|.int 1)])<|.c<|.int 1)<|.c<|.int 0) [aa v,aa<|Zb P,a2,a3,a4] s=.ok (Zg<|ZW P) s:=by
 unfold ZW;cases e:P.getLast? with
 |none=>
  rw[i7]at e;subst e;simp[pvE,Zb,Zg]
 |some r=>
  obtain⟨P',rfl⟩:=eA.mp e;obtain⟨k,h1,h2,h3⟩:=hP.head fld.one0 (r:=r) (by simp)
  have e1:=QM d r s;rw[h1]at e1;have e2:pv (CV<|d+1) (.ix (.v 1)<|.neg<|.c<|.int 1) [aa v,aa<|Zb<|P'++[r],a2,a3,a4] s=.ok (Zh r) s:=by
   have:=jN (r:=r) (P:=P');simp only[bP,bz,lv]at this;simp[pvE,Zb,this]
  have e3:pv (CV<|d+1) (.call 8 [(.ix (.v 1)<|.neg<|.c<|.int 1)]) [aa v,aa<|Zb<|P'++[r],a2,a3,a4] s=.ok (.int k) s:=ZG (Zc e2 Zk) e1;have e4:pv (CV<|d+1) (.v 1) [aa v,aa<|Zb<|P'++[r],a2,a3,a4] s=.ok (Zb<|P'++[r]) s:=Ze rfl;rw[pv,e4,Za];show(po (aa<|!((P'++[r]).map Zh).isEmpty) s).bind _=_;have:((P'++[r]).map Zh).isEmpty=ak:=by cases P'<;>rfl
  rw[this,ZS,Za];show pv (CV<|d+1) (.bin .add _ _) _ s=_;rw[pv,e3,Za,pv];simp[h1,pvE,Zg]
theorem Va:∀L:List Row,ZU (L.map Zh)=aj
 |[]=>rfl
 |r::L=>by
  show(V.flat (Zh r)&&ZU (L.map Zh))=aj;rw[Va L,pC];exact XT r
def JJ(d:Nat){P:List Row}(s:DS)(hn:n<=6)(hP:pZ p n P):CV (d+2) 9 [.lst<|(aA n).map λh=>.lst<|(Zp p n h).map Zh,Zb P] s=.ok (.lst<|(GB p n P).map Zh) s:=by
 refine Zt rfl (by decide) rfl ?_
 have hd:=dsum hP;have hp:=Zaw (p:=p)
 let v:V:=.lst<|(aA n).map λh=>.lst<|(Zp p n h).map Zh
 show rvs (CV<|d+1) [3] (.asg [2] (.ite (.v 1) (.bin .add (.call 8 [(.ix (.v 1)<|.neg<|.c<|.int 1)])<|.c<|.int 1)<|.c<|.int 0) :: .asg [3] (.lst []) :: .forr [4] (.rrng (.v 2)<|.blt .len [(.v 0)]) [.ite (.call 7 [(.v 1),(.v 4)]) [.ex<|.mt .extend (.v 3) [(.ix (.v 0)<|.v 4)]] []] :: .ret (.v 3)::[]) [aa v,aa<|Zb P,ae,ae,ae] [] s=_;rw[Zf<|Z2 (wM d s hP) rfl];rw[Zf (ρ':=[aa v,aa<|Zb P,aa<|Zg<|ZW P,aa<|.lst<|([]:List Row).map Zh,ae]) (by
  rw[rv];simp[pvE];rfl)]
 have hf:ZW P<=n:=by
  unfold ZW;cases e:P.getLast? with
  |none=>exact cZ _
  |some r=>
   obtain⟨P',rfl⟩:=eA.mp e;have:=hP.pn.lt _ (YG (show r∈P'++[r] by simp))
   exact this
 obtain⟨o',hI,e⟩:=Y1 (t:=[4]) (it:=.rrng (.v 2)<|.blt .len [(.v 0)]) (b:=[.ite (.call 7 [(.v 1),(.v 4)]) [.ex<|.mt .extend (.v 3) [(.ix (.v 0)<|.v 4)]] []]) (L:=XV n<|ZW P) (step:=G0 p n P) (O:=λst o=>[aa v,aa<|Zb P,aa<|Zg<|ZW P,aa<|.lst<|st.map Zh,o]) (λl st=>(∀h∈l,h<n)/\st.length+15625*l.length<=100000)
  (by
   have e1:pv (CV<|d+1) (.blt .len [(.v 0)]) (hide [3] [aa v,aa<|Zb P,aa<|Zg<|ZW P,aa<|.lst<|([]:List Row).map Zh,ae]) s=.ok (.int n) s:=by
    simp[pvE,v]
   exact qg (by simp[pvE,Zg]) e1 (by omega)<|by omega) #[λh hh=>(Uo.mp hh).2,by
   unfold XV;simp;omega] rfl (λx l st o hst=>by
  obtain⟨h1,h2⟩:=hst;have hx:=h1 x<|ao ..;have hl:(Zp p n x).length<=15625:=by
   rw[(WM hx).2];have a1:p^(n-(x+1))<=5^(n-(x+1)):=iz (by omega) _
   have a2:5^(n-(x+1))<=5^6:=dG (by omega) (by omega)
   omega
  have e2:=W3 d s hP.row (by omega) hx
  rw[aE]at h2;refine#[#[λh hh=>h1 h<|ax _ hh,?_],rfl,_,aa<|Zg x,rfl,?_]
  .unfold G0
   split
   .rw[aX];omega
   .omega
  .show rvs (CV<|d+1) [3] _ [aa v,aa<|Zb P,aa<|Zg<|ZW P,aa<|.lst<|st.map Zh,aa<|Zg x] [3] s=_
   have e3:XC (CV<|d+1) (.call 7 [(.v 1),(.v 4)]) [aa v,aa<|Zb P,aa<|Zg<|ZW P,aa<|.lst<|st.map Zh,aa<|Zg x] s=.ok (P.all λr=>ag<|gt r x=0) s:=VO (ZG (Zc (Ze rfl)<|Zc (Ze rfl) Zk) e2) rfl
   unfold G0;by_cases c:(P.all λr=>ag<|gt r x=0)=aj
   .rw[T9 c]
    have e4:at' ((aA n).map λh=>V.lst<|(Zp p n h).map Zh) (x:Int)=aa (.lst<|(Zp p n x).map Zh):=WH (by rw[aH,b7 hx];rfl)
    have e5:rv (CV<|d+1) [3] (.ex<|.mt .extend (.v 3) [(.ix (.v 0)<|.v 4)]) [aa v,aa<|Zb P,aa<|Zg<|ZW P,aa<|.lst<|st.map Zh,aa<|Zg x] [3] s=.ok (.nx [aa v,aa<|Zb P,aa<|Zg<|ZW P,aa<|.lst<|(st++Zp p n x).map Zh,aa<|Zg x] [3]) s:=by
     have e6:pv (CV<|d+1) (.ix (.v 0)<|.v 4) (hide [3] [aa v,aa<|Zb P,aa<|Zg<|ZW P,aa<|.lst<|st.map Zh,aa<|Zg x]) s=.ok (.lst<|(Zp p n x).map Zh) s:=by
      simp[pvE,v,Zg,e4]
     rw[rv,T9 (by rfl)]
     show(PR.ok (st.map Zh) s).bind _=_;rw[Za,e6,Za];show(if ZU ((Zp p n x).map Zh)=aj/\(st.map Zh).length+((Zp p n x).map Zh).length<=lim then _ else _)=_
     rw[T9 #[Va _,by rw[ap,ap];unfold lim;omega],bP]
     rfl
    rw[Zf ((US e3).trans (by rw[T9 c,Zf e5,rvs])),rvs]
   .rw[T8 c]
    rw[Zf ((US e3).trans (by rw[T8 c,rvs])),rvs])
 rw[Zf e];exact ZC<|Z7<|Ze rfl
def WO(d:Nat){k:Nat}(s:DS)(hn:n<=6)(hk:k<=n)(hl:∀j,j<=n->(Zn p n j).length<=1395):CV (d+3) 10 [spV p n,Zg k] s=.ok (.lst<|(Zn p n k).map Zb) s:=by
 refine Zt rfl (by decide) rfl ?_
 show rvs (CV<|d+2) [] (.asg [2,3] (.v 0) :: .ex (.call 5 [(.v 1),(.c<|.int 0),(.v 3)]) :: .asg [4] (.comp1 [0] 1 [0] (.rng1<|.v 3) []<|.call 6 [(.v 1),(.v 0)]) :: .asg [5] (.lst [(.tup [])]) :: .forr [6] (.rng1<|.v 1) [.asg [5]<|.comp2 [4] 2 [0] (.of<|.v 5) [] [1] (.of<|.call 9 [(.v 2),(.v 0)]) []<|.bin .add (.v 0)<|.tup [(.v 1)]] :: .ret (.v 5)::[]) [aa<|spV p n,aa<|Zg k,ae,ae,ae,ae,ae] [] s=_;rw[Zf<|Yo (p:=p) (n:=n) _ _ (by simp[pvE]) (by simp)]
 show rvs (CV<|d+2) [] _ [aa<|spV p n,aa<|Zg k,aa<|.int p,aa<|.int n,ae,ae,ae] [] s=_;rw[Zf<|V0<|ZG (Zc (Ze rfl)<|Zc (by rw[pv];rfl)<|Zc (Ze rfl) Zk)<|Yz d s (by omega) (by omega)]
 have hc:=ZQ (cap:=[0]) (nl:=1) (t:=[0]) (it:=.rng1<|.v 3) (elt:=.call 6 [(.v 1),(.v 0)]) (O:=[aa<|spV p n,aa<|Zg k,aa<|.int p,aa<|.int n,ae,ae,ae])
  (Xx (Ze rfl)<|by omega) (by rw[be];unfold lim;omega) (λh hh=>#[_,rfl,ZG (Zc (Ze rfl)<|Zc (Ze rfl) Zk)<|W9 (d+1) s hn<|aN.mp hh])
 rw[Zf<|Z2 hc rfl]
 let v:V:=.lst<|(aA n).map λh=>.lst<|(Zp p n h).map Zh
 show rvs (CV<|d+2) [] _ [aa<|spV p n,aa<|Zg k,aa<|.int p,aa<|.int n,aa v,ae,ae] [] s=_;rw[Zf (ρ':=[aa<|spV p n,aa<|Zg k,aa<|.int p,aa<|.int n,aa v,aa<|.lst<|(Zn p n 0).map Zb,ae]) (os':=[]) (s':=s) (by simp[pvE,Zn,Zb])]
 obtain⟨o',hI,e⟩:=Y1 (t:=[6]) (it:=.rng1<|.v 1) (b:=[.asg [5]<|.comp2 [4] 2 [0] (.of<|.v 5) [] [1] (.of<|.call 9 [(.v 2),(.v 0)]) []<|.bin .add (.v 0)<|.tup [(.v 1)]]) (step:=λPs _=>Gx p n Ps) (O:=λst o=>[aa<|spV p n,aa<|Zg k,aa<|.int p,aa<|.int n,aa v,aa<|.lst<|st.map Zb,o]) (os:=[]) (λl st=>∃j,j+l.length=k/\st=Zn p n j)
  (Xx (Ze rfl)<|by omega) #[0,by simp,rfl] rfl (λx l st o hst=>by
  obtain⟨j,hj,rfl⟩:=hst;rw[aE]at hj;refine#[#[j+1,by omega,rfl],rfl,_,aa<|Zg x,rfl,?_]
  show rvs (CV<|d+2) [] _ [aa<|spV p n,aa<|Zg k,aa<|.int p,aa<|.int n,aa v,aa<|.lst<|(Zn p n j).map Zb,aa<|Zg x] [] s=_;have ef:((Zn p n j).flatMap λP=>(GB p n P).map λr=>Zb<|P++[r])=(Zn p n<|j+1).map Zb:=by
   show _=(Gx p n<|Zn p n j).map Zb;unfold Gx;rw[k7];exact congrArg (λf=>(Zn p n j).flatMap f)<|funext λP=>by rw[bL];rfl
  have hc:=Jr (cap:=[4]) (nl:=2) (t:=[0]) (u:=[1]) (it:=.of<|.v 5) (jt:=.of<|.call 9 [(.v 2),(.v 0)]) (elt:=.bin .add (.v 0)<|.tup [(.v 1)]) (O:=[aa<|spV p n,aa<|Zg k,aa<|.int p,aa<|.int n,aa v,aa<|.lst<|(Zn p n j).map Zb,aa<|Zg x]) (l:=Zn p n j) (e:=Zb)
   (by simp[pvE]) (by rw[ef,ap];have:=hl (j+1) (by omega);unfold lim;omega) (λP hP=>by
    obtain⟨h1,h2⟩:=Yt j P hP;refine#[_,rfl,?_,λr hr=>#[_,rfl,?_]]
    .rw[pvw,ZG (Zc (Ze rfl)<|Zc (Ze rfl) Zk)<|JJ d s hn h1]
     rfl
    .have h3:P.length+1<=16777216:=by omega
     simp[pvE,Zb,h3])
  rw[ef]at hc;rw[Zf<|Z2 hc rfl,rvs];rfl)
 have ek:(aA k).foldl (λPs _=>Gx p n Ps) (Zn p n 0)=Zn p n k:=by
  obtain⟨j,h1,h2⟩:=hI;rw[h2];rw[f9]at h1;rw[show j=k by omega]
 rw[ek]at e;rw[Zf e];exact ZC<|Z7<|Ze rfl
end
open Bo
open Ab (okV WS)
theorem Vu(P:List Row):∀L:List (List Row),YR (Zb P) (L.map Zb)=aa (L.contains P)
 |[]=>rfl
 |x::L=>by
  show(match eqV Zi (Zb x) (Zb P),YR (Zb P) (L.map Zb)with|some a,aa b=>aa (a||b)|_,_=>ae)=_
  rw[show eqV Zi (Zb x) (Zb P)=aa (ag<|x=P)from Wf 3 x P,Vu P L,iQ]
  have e:(ag<|x=P)=(P == x):=by
   by_cases h:x=P
   .subst h;rw[T5 rfl,beq_self_eq_true]
   .rw[T4 h,beq_false_of_ne λz=>h z.symm]
  rw[e]
def xL{P:List Row}{L:List (List Row)}{j:Nat}(nd:L.Nodup)(hj:j<L.length)(e:L[j]=P):xK (Zb P) (L.map Zb)=aa j:=by
 unfold xK;rw[Vu,T9 (by rw[ee.mpr<|e▸aR hj]),List.findIdx?_map]
 have:((λy=>eqV Zi y (Zb P) == aa aj)∘Zb)=λQ=>ag (Q=P):=funext λQ=>by
  show(eqV Zi (Zb Q) (Zb P) == aa aj)=_;rw[show eqV Zi (Zb Q) (Zb P)=aa (ag<|Q=P)from Wf 3 Q P]
  cases ag (Q=P)<;>rfl
 rw[this,gu];refine#[hj,T5 e,λi hi z=>?_]
 have z:=T6 z;rw[<-e]at z;exact(bh.mp nd i j (by omega) hj hi) z
theorem V6:∀Ps:List (List Row),ZX (Ps.map Zb)=aa Ps
 |[]=>rfl
 |P::Ps=>by
  show(match GL (Zb P),ZX (Ps.map Zb)with
   |some a,aa b=>aa (a::b)
   |_,_=>ae)=_
  rw[V6 Ps,show GL (Zb P)=aa P from YS P]
def xo(k:Nat)(a b:List (List Row)):eqV (k+4) (.lst<|a.map Zb) (.lst<|b.map Zb)=aa (ag<|a=b):=by
 show(if(a.map Zb).length=(b.map Zb).length then Ye (eqV<|k+3) (a.map Zb) (b.map Zb)else aa ak)=_
 obtain⟨c,e1,e2⟩:=Xj (f:=eqV<|k+3) (e:=Zb) (d:=λa b=>ag<|a=b) (λa b=>by simp) (λa b=>Wf k a b) a b
 split
 .rw[e1,show c=ag (a=b) by rw[bW,e2];simp]
 .rename_i h
  have:¬a=b:=λz=>h (by rw[z])
  simp[this]
def xi(k:Nat)(a b:List Nat):eqV (k+2) (Zd a) (Zd b)=aa (ag<|a=b):=by
 show Ye (eqV<|k+1) (a.map Zg) (b.map Zg)=_;obtain⟨c,e1,e2⟩:=Xj (f:=eqV<|k+1) (e:=Zg) (d:=λa b=>ag<|(a:Int)=b) (λa b=>by simp;omega) (λa b=>rfl) a b
 rw[e1,show c=ag (a=b) by rw[bW,e2];simp]
section
variable{C:ZE}{a b:E}{O:Env}{s:DS}
def yr{L:List (List Row)}{j:Nat}(h1:pv C a O s=.ok (.lst<|L.map Zb) s)(h2:pv C b O s=.ok (.int j) s)(hj:j<L.length):pv C (.ix a b) O s=.ok (Zb L[j]) s:=by
 rw[pv,h1,Za,h2,Za];show po (at' (L.map Zb) (j:Int)) s=_;rw[WH (x:=Zb L[j]) (by rw[aH,af hj];rfl)];rfl
def ZaI{L:List (List Row)}{P:List Row}(h1:pv C a O s=.ok (.lst<|(L++[P]).map Zb) s):pv C (.ix a<|.neg<|.c<|.int 1) O s=.ok (Zb P) s:=by
 have e:ixN ((L++[P]).map Zb).length (-1)=aa L.length:=by
  rw[ap,aX,cL];unfold ixN;rw[T8 (by omega),T9 (by omega),show(-1+((L.length+1:Nat):Int)).toNat=L.length by omega]
 rw[pv,h1,Za,show pv C (.neg<|.c<|.int 1) O s=.ok (.int<|-1) s by rw[pv,Yp];rfl,Za]
 show po ((ixN ((L++[P]).map Zb).length<|-1).bind λj=>((L++[P]).map Zb)[j]?) s=_
 rw[e];show po (((L++[P]).map Zb)[L.length]?) s=_;rw[aH,bg<|aM _,nA];rfl
def zR{xs:List V}(h1:pv C a O s=.ok (.lst xs) s):pv C (.blt .len [a]) O s=.ok (.int xs.length) s:=by
 rw[pv,Zc h1 Zk];rfl
def UY{A B:List (List Row)}(h1:pv C a O s=.ok (.lst<|A.map Zb) s)(h2:pv C b O s=.ok (.lst<|B.map Zb) s)(h:A=B):pv C (.cmp .ne a b) O s=.ok (.bl ak) s:=by
 rw[pv,h1,Za,h2,Za];show po ((eqV Zi (.lst<|A.map Zb)<|.lst<|B.map Zb).map λb=>V.bl !b) s=_
 rw[show eqV Zi (.lst<|A.map Zb) (.lst<|B.map Zb)=aa (ag<|A=B)from xo 2 A B,T5 h];rfl
def xc{A B:List Nat}(h1:pv C a O s=.ok (Zd A) s)(h2:pv C b O s=.ok (Zd B) s)(h:A=B):pv C (.cmp .ne a b) O s=.ok (.bl ak) s:=by
 rw[pv,h1,Za,h2,Za];show po ((eqV Zi (Zd A)<|Zd B).map λb=>V.bl !b) s=_
 rw[show eqV Zi (Zd A) (Zd B)=aa (ag<|A=B)from xi 4 A B,T5 h];rfl
def uY{P:List Row}{L:List (List Row)}(h1:pv C a O s=.ok (Zb P) s)(h2:pv C b O s=.ok (.lst<|L.map Zb) s)(h:P∈L):pv C (.cmp .nin a b) O s=.ok (.bl ak) s:=by
 rw[pv,h1,Za,h2,Za];show po ((YR (Zb P)<|L.map Zb).map λb=>V.bl !b) s=_
 rw[Vu,ee.mpr h];rfl
def uK{L:List (List Row)}(h1:pv C a O s=.ok (.lst<|L.map Zb) s)(h:YO L=aj):pv C (.blt .sortedU [a]) O s=.ok (.lst<|(Zr ltP L).map Zb) s:=by
 rw[pv,Zc h1 Zk,Za];show po ((ZX<|L.map Zb).bind λps=>if YO ps=aj then aa (V.lst<|(Zr ltP ps).map Zb)else ae) s=_
 rw[V6];show po (if YO L=aj then aa (V.lst<|(Zr ltP L).map Zb)else ae) s=_
 rw[T9 h];rfl
def Ga{L:List (List Row)}(h1:pv C a O s=.ok (.lst<|L.map Zb) s)(h:ZF L=aj):pv C (.blt .sorted [a]) O s=.ok (.lst<|(Zr ltP L).map Zb) s:=by
 have se:ju (L.map Zb)=ak:=by
  cases L with|nil=>rfl|cons P Ps=>cases P<;>rfl
 rw[pv,Zc h1 Zk,Za];show po (if ju (L.map Zb)=aj then _ else(ZX<|L.map Zb).bind λps=>if ZF ps=aj then aa (V.lst<|(Zr ltP ps).map Zb)else ae) s=_
 rw[T8 (by rw[se];simp),V6]
 show po (if ZF L=aj then _ else _) s=_
 rw[T9 h];rfl
def sub_int{x y:Int}(h1:pv C a O s=.ok (.int x) s)(h2:pv C b O s=.ok (.int y) s):pv C (.bin .sub a b) O s=.ok (.int<|x-y) s:=by rw[pv,h1,Za,h2,Za];rfl
def mul_int{x y:Int}(h1:pv C a O s=.ok (.int x) s)(h2:pv C b O s=.ok (.int y) s)(f1:fits x=aj)(f2:fits y=aj):pv C (.bin .mul a b) O s=.ok (.int<|x*y) s:=by
 rw[pv,h1,Za,h2,Za];show(if(fits x&&fits y)=aj then PR.ok (V.int<|x*y) s else .no)=_
 rw[f1,f2];rfl
end
section
variable{p n:Nat}[Base p]
omit [Base p] in
def Jn(d:Nat){k:Nat}(s:DS)(hn:n<=6):CV (d+1) 11 [.int n,.int k] s=.ok (.lst<|(Z6 n k).map Zd) s:=by
 refine Zt rfl (by decide) rfl ?_
 show rvs (CV d) [] Yv.body [aa<|.int n,aa<|.int k,ae,ae] [] s=_
 dsimp only[Yv]
 have g0:pv (CV d) (.lst [(.tup [])]) [aa<|.int n,aa<|.int k,ae,ae] s=.ok (.lst<|([[]]:List (List Nat)).map Zd) s:=by
  have:pv (CV d) (.tup []) [aa<|.int n,aa<|.int k,ae,ae] s=.ok (.tup []) s:=by rw[pv,Zk];rfl
  rw[pv,Zc this Zk];rfl
 rw[Zf<|Z2 g0 rfl];show rvs _ _ _ [aa<|.int n,aa<|.int k,aa<|.lst<|([[]]:List (List Nat)).map Zd,ae] [] s=_;obtain⟨o',hI,e⟩:=Y1 (C:=CV d) (ms:=[]) (t:=[3]) (it:=.rng1<|.v 0) (b:=[.asg [2]<|.bin .add (.v 2)<|.comp1 [3] 1 [0] (.of<|.v 2) []<|.bin .add (.v 0)<|.tup [(.v 1)]]) (L:=aA n) (e:=Zg) (step:=λ(F:List (List Nat)) j=>F++F.map λr=>r++[j]) (O:=λF o=>[aa<|.int n,aa<|.int k,aa<|.lst<|F.map Zd,o]) (st:=[[]]) (o:=ae) (os:=[]) (s:=s)
  (λl F=>F.length*2^l.length<=64/\∀S∈F,S.length+l.length<=6) (Xx (Ze rfl)<|by omega) #[by
   have:2^n<=2^6:=dG (by omega) hn
   simp only[cL,be];omega,λS hS=>by rw[aZ.mp hS];simp;omega] rfl (λj l F o hF=>by
   obtain⟨h1,h2⟩:=hF;rw[aE,iF]at h1;have hF1:F.length<=64:=cM (k6 _<|Nat.mul_pos (Nat.pow_pos<|by omega)<|by omega) h1
   refine#[#[?_,λS hS=>?_],rfl,_,aa<|Zg j,rfl,?_]
   .rw[aX,ap,<-Nat.two_mul,gC 2,mM,gC 2];exact h1
   .rcases bK.mp hS with hS|hS
    .have:=h2 S hS;rw[aE]at this;omega
    .obtain⟨T,hT,rfl⟩:=a8.mp hS
     have:=h2 T hT;rw[aE]at this;rw[aX,cL];omega
   .show rvs (CV d) [] _ [aa<|.int n,aa<|.int k,aa<|.lst<|F.map Zd,aa<|Zg j] [] s=_
    have hc:=ZQ (C:=CV d) (cap:=[3]) (nl:=1) (t:=[0]) (it:=.of<|.v 2) (elt:=.bin .add (.v 0)<|.tup [(.v 1)]) (O:=[aa<|.int n,aa<|.int k,aa<|.lst<|F.map Zd,aa<|Zg j]) (s:=s) (l:=F) (e:=Zd) (g:=λS=>Zd<|S++[j])
     (by rw[pvw,Ze rfl];rfl) (by unfold lim;omega) (λS hS=>#[[aa<|Zd S,aa<|Zg j],rfl,by
      have:=h2 S hS;rw[ui (xs:=S.map Zg) (y:=Zg j) (Ze rfl) (Ze rfl) (by rw[ap];omega)]
      unfold Zd;rw[bP];rfl])
    rw[Zf (Z2 (xy (Ze rfl) hc<|by rw[ap,ap];unfold lim;omega) rfl),rvs]
    show PR.ok (FlV.nx [aa<|.int n,aa<|.int k,aa<|.lst<|F.map Zd++F.map λS=>Zd<|S++[j],aa<|Zg j] []) s=_
    rw[bP,bL];rfl)
 rw[Zf e];have hf:(aA n).foldl (λ(F:List (List Nat)) j=>F++F.map λr=>r++[j]) [[]]=Y9 n:=rfl
 rw[hf]at hI ⊢;have hc:=J3 (C:=CV d) (cap:=[1]) (nl:=1) (t:=[0]) (it:=.of<|.v 2) (tst:=.cmp .eq (.blt .len [(.v 0)])<|.v 1) (elt:=.v 0) (O:=[aa<|.int n,aa<|.int k,aa<|.lst<|(Y9 n).map Zd,o']) (s:=s) (l:=Y9 n) (e:=Zd) (g:=Zd) (q:=λS=>ag<|S.length=k)
  (by rw[pvw,Ze rfl];rfl) (by have:=hI.1;simp only[f9,Nat.pow_zero]at this;unfold lim;omega) (λS hS=>#[[aa<|Zd S,aa<|.int k],.bl<|ag<|S.length=k,rfl,by
   have e1:pv (CV d) (.blt .len [(.v 0)]) [aa<|Zd S,aa<|.int k] s=.ok (.int S.length) s:=by
    rw[pv,Zc (Ze rfl) Zk,Za];show PR.ok (V.int (S.map Zg).length) s=_;rw[ap]
   rw[pv,e1,Za,Ze rfl,Za];show PR.ok (V.bl<|ag<|(S.length:Int)=k) s=_;rw[show ag ((S.length:Int)=k)=ag (S.length=k)from decide_eq_decide.mpr (by omega)],rfl,λ_=>Ze rfl])
 exact ZC<|Z7 hc
def Zbz:(p:Int)=2\/(p:Int)=3\/(p:Int)=5:=by rcases(inferInstance:Base p).b with e|e|e<;>omega
def xf(d:Nat){k j:Nat}(s:DS)(hn:n<=6)(hk:k<=n)(hl:∀j,j<=n->(Zn p n j).length<=1395)(nd:(Zn p n k).Nodup)(hj:j<(Zn p n k).length):CV (d+5) 22 [spV p n,Zb (Zn p n k)[j]] s=.ok (.int j) s:=by
 obtain⟨hP,lP⟩:=Yt k (Zn p n k)[j]<|aR hj;generalize hA:(Zn p n k)[j]=P at hP lP;refine Zt rfl (by decide) rfl ?_
 show rvs (CV<|d+4) [] Xg.body [aa<|spV p n,aa<|Zb P] [] s=_
 dsimp only[Xg]
 rw[Zf<|V0<|Ys (Ze rfl) (Ze rfl)<|UK d s hn hP];refine ZC<|Z7 ?_;have e2:pv (CV<|d+4) (.blt .len [(.v 1)]) [aa<|spV p n,aa<|Zb P] s=.ok (Zg k) s:=by
  have:=wQ (C:=CV<|d+4) (a:=.v 1) (O:=[aa<|spV p n,aa<|Zb P]) (s:=s) (P:=P)<|Ze rfl;rw[lP]at this;exact this
 rw[pv,Zc (Ys (Ze rfl) e2<|WO (d+1) s hn hk hl)<|Zc (Ze rfl) Zk,Za];show po ((xK (Zb P)<|(Zn p n k).map Zb).map λj:Nat=>V.int j) s=_
 rw[xL nd hj hA];rfl
def qX(d:Nat){k j:Nat}(s:DS)(hn:n<=6)(hk:k<=n)(hl:∀j,j<=n->(Zn p n j).length<=1395)(W:WholeOk p n k)(hj:j<(Zn p n k).length):CV (d+4) 23 [spV p n,Zg k,.int j] s=.ok (Zb (Zn p n k)[j]) s:=by
 refine Zt rfl (by decide) rfl ?_
 show rvs (CV<|d+3) [] WR.body [aa<|spV p n,aa<|Zg k,aa<|.int j,ae,ae] [] s=_
 dsimp only[WR]
 rw[Zf<|Yo (p:=p) (n:=n) _ _ (by show pv _ _ _ _=_;exact Ze rfl) #[rfl,rfl]]
 show rvs _ _ _ [aa<|spV p n,aa<|Zg k,aa<|.int j,aa<|.int p,aa<|.int n] [] s=_;rw[Zf<|V0<|XN (Ze rfl) Yp (Ze rfl)<|Yz (d+1) (i:=k) s (by omega) (by omega)]
 have e2:=box d (k:=k) (n:=n) s (Zbz (p:=p)) (by omega) hk
 rw[<-W.len]at e2;rw[Zf<|V0<|XN (Ze rfl) Yp (sub_int (XN (Ze rfl) (Ze rfl) (Ze rfl) e2) Yp)<|Yz (d+1) (i:=j) s (by omega) (by omega)]
 exact ZC<|Z7<|yr (Ys (Ze rfl) (Ze rfl)<|WO d s hn hk hl) (Ze rfl) hj
end
noncomputable def uh:List Sm:=[.asg [15]<|.call 14 [(.v 3),(.v 14)],
  .ite (.cmp .ne (.call 24 [(.v 3),(.ix (.v 15)<|.neg<|.c<|.int 1)])<|.v 14) [.ret<|.c<|.bl ak] [],
  .ex (.mt .extend (.v 13) [(.v 15)])]
noncomputable def Wt:List Sm:=[.asg [3]<|.call 3 [(.v 2),(.ix (.lst [(.c<|.int 27),(.c<|.int 125)])<|.blt .toInt [(.cmp .eq (.v 1)<|.c<|.int 0)])],
  .asg [4,5] (.v 3),
  .asg [6] (.call 2 [(.v 2),(.bin .add (.v 5)<|.c<|.int 1)]),
  .asg [7] (.call 10 [(.v 3),(.v 6)]),
  .ite (.or (.cmp .ne (.blt .len [(.v 7)])<|.call 17 [(.v 4),(.v 5),(.v 6)])<|.cmp .ne (.call 17 [(.v 4),(.v 5),(.v 6)])<|.call 17 [(.v 4),(.v 5),(.bin .sub (.v 5)<|.v 6)]) [.ret<|.c<|.bl ak] [],
  .ite (.or (.not<|.blt .all [(.comp1 [3] 1 [0] (.of<|.sl (.v 7) ae<|aa<|.c<|.int 40) []<|.call 20 [(.v 1),(.v 0)])])<|.cmp .ne (.blt .sortedU [(.v 7)])<|.v 7) [.ret<|.c<|.bl ak] [],
  .par [8,9] [(.bin .add (.c<|.int 1)<|.call 2 [(.v 2),(.c<|.int 40)]),(.c<|.int 1)],
  .asg [10] (.bin .add (.c<|.int 1)<|.call 2 [(.v 2),(.v 8)]),
  .forr [11] (.rng1<|.v 10) [.asg [9]<|.bin .mul (.v 9)<|.v 4],
  .ite (.cmp .lt (.v 10)<|.v 8) [.ite (.cmp .ne (.call 17 [(.v 4),(.v 8),(.v 10)])<|.bin .add (.call 17 [(.v 4),(.bin .sub (.v 8)<|.c<|.int 1),(.bin .sub (.v 10)<|.c<|.int 1)])<|.bin .mul (.v 9)<|.call 17 [(.v 4),(.bin .sub (.v 8)<|.c<|.int 1),(.v 10)]) [.ret<|.c<|.bl ak] []] [],
  .asg [12] (.call 2 [(.v 2),(.blt .len [(.v 7)])]),
  .ite (.or (.cmp .ne (.call 22 [(.v 3),(.ix (.v 7)<|.v 12)])<|.v 12)<|.cmp .ne (.call 23 [(.v 3),(.v 6),(.v 12)])<|.ix (.v 7)<|.v 12) [.ret<|.c<|.bl ak] [],
  .ite (.cmp .nin (.ix (.v 7)<|.v 12)<|.call 14 [(.v 3),(.call 24 [(.v 3),(.ix (.v 7)<|.v 12)])]) [.ret<|.c<|.bl ak] [],
  .asg [13] (.lst []),
  .forr [14] (.of<|.call 11 [(.v 5),(.v 6)]) uh,
  .ite (.cmp .ne (.blt .sorted [(.v 13)])<|.v 7) [.ret<|.c<|.bl ak] []]
noncomputable abbrev kE(o:Option V)(k p n sz:Nat)(A:List (List Row))(x8 x9 x10 x11 x12 x13 x14 x15:Option V):Env:=[o,aa<|.int k,aa .drw,aa<|spV p n,aa<|.int p,aa<|.int n,aa<|Zg sz,aa<|.lst<|A.map Zb,x8,x9,x10,x11,x12,x13,x14,x15]
section
variable{p n:Nat}[Base p]
def GA(S:List Nat):V.flat (Zd S)=aj:=Xw S λ_ _=>rfl
def vz(d:Nat){o x8 x9 x10 x11 x12 x15:Option V}{k sz:Nat}{A T:List (List Row)}{S:List Nat}(s:DS)(hn:n<=6)(hz:sz<=n)(W:WholeOk p n sz)(hS:S∈Z6 n sz)(hT:T.length+(whL p n S).length<=2000) :
  rvs (CV<|d+6) [13] uh (kE o k p n sz A x8 x9 x10 x11 x12 (aa<|.lst<|T.map Zb) (aa<|Zd S) x15) [13] s=.ok (.nx (kE o k p n sz A x8 x9 x10 x11 x12 (aa<|.lst<|(T++whL p n S).map Zb) (aa<|Zd S)<|aa<|.lst<|(whL p n S).map Zb) [13]) s:=by
 obtain⟨w1,w2,w3⟩:=W.wh S hS;have hs:=Wd (X0.mp hS).1;have e1:pv (CV<|d+6) (.call 14 [(.v 3),(.v 14)]) (hide [13]<|kE o k p n sz A x8 x9 x10 x11 x12 (aa<|.lst<|T.map Zb) (aa<|Zd S) x15) s=.ok (.lst<|(whL p n S).map Zb) s:=Ys (Ze<|Wn rfl rfl) (Ze<|Wn rfl rfl)<|VF (d+3) s hn hs w1;unfold uh;rw[Zf<|jH e1 rfl];show rvs _ _ _ (kE o k p n sz A x8 x9 x10 x11 x12 (aa<|.lst<|T.map Zb) (aa<|Zd S)<|aa<|.lst<|(whL p n S).map Zb) [13] s=_;obtain⟨P,hP⟩:∃P,(whL p n S).getLast? = aa P:=#[_,List.getLast?_eq_some_getLast w2]
 obtain⟨L,hL⟩:=eA.mp hP;have hPm:P∈whL p n S:=by rw[hL];simp
 have hPa:P∈Zn p n sz:=W.pm.mem_iff.mp<|d3.mpr #[S,hS,hPm];obtain⟨hp,_⟩:=Yt sz P hPa;have e2:pv (CV<|d+6) (.ix (.v 15)<|.neg<|.c<|.int 1) (kE o k p n sz A x8 x9 x10 x11 x12 (aa<|.lst<|T.map Zb) (aa<|Zd S)<|aa<|.lst<|(whL p n S).map Zb) s=.ok (Zb P) s:=by
  rw[hL];exact ZaI<|Ze rfl
 have e3:=heads (d+1) (p:=p) (n:=n) s hn hp;have e3:CV (d+6) 24 [spV p n,Zb P] s=.ok (Zd<|P.map XG) s:=by
  rw[e3];unfold Zd;rw[bL];rfl
 rw[va<|xc (Ys (Ze rfl) e2 e3) (Ze rfl)<|w3 P hPm];rw[Zf (ρ':=kE o k p n sz A x8 x9 x10 x11 x12 (aa<|.lst<|(T++whL p n S).map Zb) (aa<|Zd S)<|aa<|.lst<|(whL p n S).map Zb) (os':=[13]) (s':=s) ?_,rvs];have e6:pv (CV<|d+6) (.v 15) (hide [13]<|kE o k p n sz A x8 x9 x10 x11 x12 (aa<|.lst<|T.map Zb) (aa<|Zd S)<|aa<|.lst<|(whL p n S).map Zb) s=.ok (.lst<|(whL p n S).map Zb) s:=Ze<|Wn rfl rfl;rw[rv,T9 (by rfl)]
 show(PR.ok (T.map Zb) s).bind _=_;rw[Za,e6,Za];show(if ZU ((whL p n S).map Zb)=aj/\(T.map Zb).length+((whL p n S).map Zb).length<=lim then _ else _)=_
 rw[T9 #[Xw _ λP _=>zh P,by rw[ap,ap];unfold lim;omega],bP]
 rfl
def wB(d:Nat){o x8 x9 x10 x11 x12 x14 x15:Option V}{k sz:Nat}{A:List (List Row)}(s:DS)(hn:n<=6)(hz:sz<=n)(W:WholeOk p n sz) :
  ∃y14 y15,rv (CV<|d+6) [13] (.forr [14] (.of<|.call 11 [(.v 5),(.v 6)]) uh) (kE o k p n sz A x8 x9 x10 x11 x12 (aa<|.lst []) x14 x15) [13] s=.ok (.nx (kE o k p n sz A x8 x9 x10 x11 x12 (aa<|.lst<|(XH p n sz).map Zb) y14 y15) [13]) s:=by
 have hlen:(XH p n sz).length<=1395:=by rw[W.pm.length_eq];exact W.small
 obtain⟨ρ',hI,e⟩:=yX (C:=CV<|d+6) (ms:=[13]) (os:=[13]) (t:=[14]) (it:=.of<|.call 11 [(.v 5),(.v 6)]) (b:=uh) (L:=Z6 n sz) (e:=Zd) (O:=kE o k p n sz A x8 x9 x10 x11 x12 (aa<|.lst []) x14 x15) (s:=s)
  (λl O=>(∀S∈l,S∈Z6 n sz)/\∃T y14 y15,O=kE o k p n sz A x8 x9 x10 x11 x12 (aa<|.lst<|T.map Zb) y14 y15/\T++l.flatMap (whL p n)=XH p n sz) (by
   rw[pvw,Ys (Ze<|Wn rfl rfl) (Ze<|Wn rfl rfl)<|Jn (d+5) (n:=n) (k:=sz) s hn];rfl) #[λ_ h=>h,[],x14,x15,rfl,rfl] rfl (λS l O hI=>by
   obtain⟨h1,T,y14,y15,rfl,h2⟩:=hI;rw[List.flatMap_cons,<-bq]at h2;have h3:T.length+(whL p n S).length<=2000:=by
    have:=congrArg List.length h2;rw[aX,aX]at this;omega
   refine#[by rw[GA];rfl,kE o k p n sz A x8 x9 x10 x11 x12 (aa<|.lst<|T.map Zb) (aa<|Zd S) y15,_,rfl,vz d s hn hz W (h1 S<|ao ..) h3,λS' h=>h1 S'<|ax _ h,_,_,_,rfl,h2])
 obtain⟨_,T,y14,y15,rfl,h2⟩:=hI;rw[List.flatMap_nil,cf]at h2;subst h2;exact#[y14,y15,e]
def qe(d:Nat)(o:Option V)(k sz:Nat)(s:DS){x8 x9 x10 x11:Option V}(hn:n<=6)(hq:(p,n)∈Q5++Jc)(hz:sz<=n)(W:WholeOk p n sz):∃O os s',rvs (CV<|d+6) [13] (Wt.drop 10) (kE o k p n sz (Zn p n sz) x8 x9 x10 x11 ae ae ae ae) [] s=.ok (.nx O os) s'/\O[0]?=aa o/\O.length=16:=by
 have hl:∀j,j<=n->(Zn p n j).length<=1395:=λj hj=>Jf hq hj
 have inc:=yw hq hz;have nd:=G4 Sd.Zy inc;have hpos:0<(Zn p n sz).length:=by
  have:=W.len;have h1:=Jd (p:=(p:Int)) (n:=n) Zbz (by omega)
  rcases Nat.eq_zero_or_pos (Zn p n sz).length with z|z
  .exfalso
   have hw:=W.pm.length_eq;rw[z]at hw;have hc:Z6 n sz≠[]:=λz=>by
    have:aA sz∈Z6 n sz:=X0.mpr #[Gm (by
     obtain⟨m,rfl⟩:=Nat.le.dest hz;rw[List.range_add];exact kI ..),be]
    rw[z]at this;cases this
   obtain⟨S,hS⟩:=i8 _ hc;obtain⟨P,hP⟩:=i8 _ (W.wh S hS).2.1;have:P∈XH p n sz:=d3.mpr #[S,hS,hP];rw[eW.mp hw]at this;cases this
  .exact z
 obtain⟨v,s1,f1,f2,f3⟩:=vq (F:=fns) (tk:=2) (d:=d+5) (m:=(Zn p n sz).length) s (by omega) (by have:=W.small;omega)
 obtain⟨j,rfl⟩:∃j:Nat,v=j:=#[v.toNat,by omega]
 have hj:j<(Zn p n sz).length:=by omega
 have e1:pv (CV<|d+6) (.blt .len [(.v 7)]) (kE o k p n sz (Zn p n sz) x8 x9 x10 x11 ae ae ae ae) s=.ok (.int (Zn p n sz).length) s:=by
  have:=zR (C:=CV<|d+6) (a:=.v 7) (O:=kE o k p n sz (Zn p n sz) x8 x9 x10 x11 ae ae ae ae) (s:=s) (xs:=(Zn p n sz).map Zb)<|Ze rfl;rw[ap]at this;exact this
 unfold Wt;show ∃O os s',rvs _ _ (_::_) _ _ _=PR.ok (FlV.nx O os) s'/\_;rw[Zf<|Z2 (ZG (Zc (Ze rfl)<|Zc e1 Zk) f1) rfl];show ∃O os s',rvs _ _ _ (kE o k p n sz (Zn p n sz) x8 x9 x10 x11 (aa<|.int j) ae ae ae) [] s1=PR.ok (FlV.nx O os) s'/\_;have ei:pv (CV<|d+6) (.ix (.v 7)<|.v 12) (kE o k p n sz (Zn p n sz) x8 x9 x10 x11 (aa<|.int j) ae ae ae) s1=.ok (Zb (Zn p n sz)[j]) s1:=yr (Ze rfl) (Ze rfl) hj;rw[guard<|uD (ne_int (Ys (Ze rfl) ei<|xf (d+1) s1 hn hz hl nd hj) (Ze rfl) rfl)<|jB (XN (Ze rfl) (Ze rfl) (Ze rfl)<|qX (d+2) s1 hn hz hl W hj) ei rfl]
 have hPm:=aR hj;obtain⟨hP,_⟩:=Yt sz _ hPm;obtain⟨g1,g2⟩:=xg W hPm;have e3:=heads (d+1) (p:=p) (n:=n) s1 hn hP;have e3:CV (d+6) 24 [spV p n,Zb (Zn p n sz)[j]] s1=.ok (Zd<|(Zn p n sz)[j].map XG) s1:=by
  rw[e3];unfold Zd;rw[bL];rfl
 rw[guard<|uY ei (Ys (Ze rfl) (Ys (Ze rfl) ei e3)<|VF (d+3) s1 hn (Wd (X0.mp g1).1) (W.wh _ g1).1) g2];have e0:pv (CV<|d+6) (.lst []) (hide []<|kE o k p n sz (Zn p n sz) x8 x9 x10 x11 (aa<|.int j) ae ae ae) s1=.ok (.lst []) s1:=by rw[pv,Zk];rfl
 rw[Zf<|Zag e0 rfl rfl (by show 13<16;omega)]
 show ∃O os s',rvs _ _ _ (kE o k p n sz (Zn p n sz) x8 x9 x10 x11 (aa<|.int j) (aa<|.lst []) ae ae) [13] s1=PR.ok (FlV.nx O os) s'/\_;obtain⟨y14,y15,e4⟩:=wB d (o:=o) (x8:=x8) (x9:=x9) (x10:=x10) (x11:=x11) (x12:=aa<|.int j) (x14:=ae) (x15:=ae) (k:=k) (A:=Zn p n sz) s1 hn hz W;rw[Zf e4];rw[va<|UY (Ga (Ze rfl) W.ok) (Ze rfl) W.sort];exact#[_,_,s1,by rw[rvs],rfl,rfl]
def wc(d:Nat){o:Option V}{k sz m j:Nat}(s:DS)(hj:j<=40):∃b,rv (CV<|d+6) [13] (.forr [11] (.rng1<|.v 10) [.asg [9]<|.bin .mul (.v 9)<|.v 4]) (kE o k p n sz (Zn p n sz) (aa<|.int m) (aa<|.int 1) (aa<|.int j) ae ae ae ae ae) [] s=.ok (.nx (kE o k p n sz (Zn p n sz) (aa<|.int m) (aa<|.int<|(p:Int)^j) (aa<|.int j) b ae ae ae ae) []) s:=by
 have hp:=Zaw (p:=p);obtain⟨b,hI,e⟩:=Y1 (C:=CV<|d+6) (ms:=[13]) (os:=[]) (t:=[11]) (it:=.rng1<|.v 10) (b:=[.asg [9]<|.bin .mul (.v 9)<|.v 4]) (L:=aA j) (e:=Zg) (step:=λ(i:Nat) _=>i+1) (O:=λi x=>kE o k p n sz (Zn p n sz) (aa<|.int m) (aa<|.int<|(p:Int)^i) (aa<|.int j) x ae ae ae ae) (st:=0) (o:=ae) (s:=s)
  (λl i=>i+l.length=j) (Xx (Ze rfl)<|by omega) (by simp) rfl (λx l i a hi=>by
   rw[aE]at hi;have h0:0<=(p:Int)^i:=pi (by omega)
   have h1:(p:Int)^i<=((5^i:Nat):Int):=by
    rw[<-hZ];have:p^i<=5^i:=iz (by omega) i
    omega
   refine#[by show i+1+l.length=j;omega,rfl,kE o k p n sz (Zn p n sz) (aa<|.int m) (aa<|.int<|(p:Int)^i) (aa<|.int j) (aa<|Zg x) ae ae ae ae,aa<|Zg x,rfl,?_]
   rw[Zf (Z2 (mul_int (Ze rfl) (Ze rfl) (Wb h0 h1<|by omega)<|uQ<|by omega) rfl),rvs]
   show PR.ok (FlV.nx (kE o k p n sz (Zn p n sz) (aa<|.int m) (aa<|.int<|(p:Int)^i*p) (aa<|.int j) (aa<|Zg x) ae ae ae ae) []) s=_;rw[<-Int.pow_succ])
 simp only[f9,lz]at hI;rw[hI]at e;exact#[b,e]
def uG(L:List (List Row))(lo hi:Option Int):∃T:List (List Row),Yu (L.map Zb) lo hi=T.map Zb/\(∀r∈T,r∈L)/\T.length<=L.length:=by
 unfold Yu;refine#[(L.drop<|sIx (L.map Zb).length 0 lo).take<|sIx (L.map Zb).length (L.map Zb).length hi-sIx (L.map Zb).length 0 lo,by rw[pE,pF],λr hr=>bU<|dg hr,?_]
 rw[bo,br];omega
def GO(d:Nat){O:Env}{A:List (List Row)}(s:DS)(hn:n<=6)(h3:O[3]?=aa (aa<|spV p n))(h7:O[7]?=aa (aa<|.lst<|A.map Zb))(hA:∀P∈A,pZ p n P)(hl:A.length<=1395):pv (CV<|d+6) (.not<|.blt .all [(.comp1 [3] 1 [0] (.of<|.sl (.v 7) ae<|aa<|.c<|.int 40) []<|.call 20 [(.v 1),(.v 0)])]) O s=.ok (.bl ak) s:=by
 obtain⟨T,e,h1,h2⟩:=uG A ae<|aa 40;have g:pv (CV<|d+6) (.sl (.v 7) ae<|aa<|.c<|.int 40) O s=.ok (.lst<|T.map Zb) s:=by
  rw[pv,Ze h7,Za,pvo,Za,pvo,Yp,Za];show PR.ok (V.lst<|Yu (A.map Zb) ae<|aa 40) s=_;rw[e]
 have hc:=ZQ (C:=CV<|d+6) (cap:=[3]) (nl:=1) (t:=[0]) (it:=.of<|.sl (.v 7) ae<|aa<|.c<|.int 40) (elt:=.call 20 [(.v 1),(.v 0)]) (O:=O) (s:=s) (l:=T) (e:=Zb) (g:=λ_=>V.bl aj)
  (by rw[pvw,g];rfl) (by unfold lim;omega) (λP hP=>#[[aa<|Zb P,aa<|spV p n],by unfold ZY;simp only[bz,lv,h3];rfl,Ys (Ze rfl) (Ze rfl)<|zM (d+3) s hn<|hA P<|h1 P hP])
 refine uF (c:=aj) ?_;rw[pv,Zc hc Zk,Za];show po ((Z0<|T.map λ_=>V.bl aj).map λbs=>V.bl<|bs.all id) s=_
 rw[ZT (g:=λ_:List Row=>aj)]
 show PR.ok (V.bl<|(T.map λ_=>aj).all id) s=_
 rw[show(T.map λ_=>aj).all id=aj by induction T<;>simp]
def vN(d:Nat)(o:Option V)(k:Nat)(s:DS)(h1:1<=n)(hn:n<=6)(hq:(p,n)∈Q5++Jc):∃O os s',rvs (CV<|d+6) [13] (Wt.drop 1) [o,aa<|.int k,aa .drw,aa<|spV p n,ae,ae,ae,ae,ae,ae,ae,ae,ae,ae,ae,ae] [] s=.ok (.nx O os) s'/\O[0]?=aa o/\O.length=16:=by
 have hl:∀j,j<=n->(Zn p n j).length<=1395:=λj hj=>Jf hq hj
 have hp:=Zbz (p:=p);unfold Wt;show ∃O os s',rvs _ _ (_::_) _ _ _=PR.ok (FlV.nx O os) s'/\_;rw[Zf<|Yo (p:=p) (n:=n) _ _ (by show pv _ _ _ _=_;exact Ze rfl) #[rfl,rfl]]
 show ∃O os s',rvs _ _ _ [o,aa<|.int k,aa .drw,aa<|spV p n,aa<|.int p,aa<|.int n,ae,ae,ae,ae,ae,ae,ae,ae,ae,ae] [] s=PR.ok (FlV.nx O os) s'/\_;obtain⟨v,s1,t1,t2,t3⟩:=Xd (d+5) s (m:=(n:Int)+1) (O:=[o,aa<|.int k,aa .drw,aa<|spV p n,aa<|.int p,aa<|.int n,ae,ae,ae,ae,ae,ae,ae,ae,ae,ae]) (i:=2) (e:=.bin .add (.v 5)<|.c<|.int 1) rfl (JH (Ze rfl) Yp) (by omega) (by omega)
 obtain⟨sz,rfl⟩:∃j:Nat,v=j:=#[v.toNat,by omega]
 have hz:sz<=n:=by omega
 have W:=qf hq hz;rw[Zf<|Z2 t1 rfl];show ∃O os s',rvs _ _ _ [o,aa<|.int k,aa .drw,aa<|spV p n,aa<|.int p,aa<|.int n,aa<|Zg sz,ae,ae,ae,ae,ae,ae,ae,ae,ae] [] s1=PR.ok (FlV.nx O os) s'/\_;rw[Zf<|Z2 (Ys (Ze rfl) (Ze rfl)<|WO (d+3) s1 hn hz hl) rfl];show ∃O os s',rvs _ _ _ (kE o k p n sz (Zn p n sz) ae ae ae ae ae ae ae ae) [] s1=PR.ok (FlV.nx O os) s'/\_;have b1:=box (d+3) (k:=sz) (n:=n) s1 hp (by omega) hz
 have b2:=box (d+3) (k:=n-sz) (n:=n) s1 hp (by omega) (by omega)
 have e5:pv (CV<|d+6) (.bin .sub (.v 5)<|.v 6) (kE o k p n sz (Zn p n sz) ae ae ae ae ae ae ae ae) s1=.ok (.int ((n-sz:Nat):Int)) s1:=by
  rw[sub_int (Ze rfl)<|Ze (v:=.int sz) rfl,show(n:Int)-(sz:Int)=((n-sz:Nat):Int) by omega]
 rw[guard<|uD (ne_int (zR<|Ze rfl) (XN (Ze rfl) (Ze rfl) (Ze rfl) b1)<|by rw[ap];exact W.len)<|ne_int (XN (Ze rfl) (Ze rfl) (Ze rfl) b1) (XN (Ze rfl) (Ze rfl) e5 b2) W.sym]
 rw[guard<|uD (GO d s1 hn rfl rfl (λP hP=>(Yt sz P hP).1) W.small)<|UY (uK (Ze rfl) W.set) (Ze rfl) W.self]
 obtain⟨v,s2,u1,u2,u3⟩:=Xd (d+5) s1 (m:=40) (O:=kE o k p n sz (Zn p n sz) ae ae ae ae ae ae ae ae) (i:=2) (e:=.c<|.int 40) rfl Yp (by omega) (by omega)
 obtain⟨m,hm,m1⟩:∃m:Nat,1+v=(m+1:Nat)/\m<40:=#[v.toNat,by omega,by omega]
 have e6:pv (CV<|d+6) (.bin .add (.c<|.int 1)<|.call 2 [(.v 2),(.c<|.int 40)]) (kE o k p n sz (Zn p n sz) ae ae ae ae ae ae ae ae) s1=.ok (.int (m+1:Nat)) s2:=by
  rw[pv,Yp,Za,u1,Za];show PR.ok (V.int<|1+v) s2=_;rw[hm]
 rw[Zf (ρ':=kE o k p n sz (Zn p n sz) (aa<|.int (m+1:Nat)) (aa<|.int 1) ae ae ae ae ae ae) (os':=[]) (s':=s2) (by
  rw[rv];show(pvs _ _ _ _).bind _=_;rw[Zc e6<|Zc Yp Zk,Za];rfl)]
 obtain⟨w,s3,w1,w2,w3⟩:=Xd (d+5) s2 (m:=(m+1:Nat)) (O:=kE o k p n sz (Zn p n sz) (aa<|.int (m+1:Nat)) (aa<|.int 1) ae ae ae ae ae ae) (i:=2) (e:=.v 8) rfl (Ze rfl) (by omega) (by omega)
 obtain⟨j,hj,j1⟩:∃j:Nat,1+w=(j+1:Nat)/\j<=m:=#[w.toNat,by omega,by omega]
 have e7:pv (CV<|d+6) (.bin .add (.c<|.int 1)<|.call 2 [(.v 2),(.v 8)]) (kE o k p n sz (Zn p n sz) (aa<|.int (m+1:Nat)) (aa<|.int 1) ae ae ae ae ae ae) s2=.ok (.int (j+1:Nat)) s3:=by
  rw[pv,Yp,Za,w1,Za];show PR.ok (V.int<|1+w) s3=_;rw[hj]
 rw[Zf<|Z2 e7 rfl];show ∃O os s',rvs _ _ _ (kE o k p n sz (Zn p n sz) (aa<|.int (m+1:Nat)) (aa<|.int 1) (aa<|.int (j+1:Nat)) ae ae ae ae ae) [] s3=PR.ok (FlV.nx O os) s'/\_;obtain⟨b,e8⟩:=wc (p:=p) (n:=n) d (o:=o) (k:=k) (sz:=sz) (m:=m+1) (j:=j+1) s3 (by omega)
 rw[Zf e8];rw[Zf (ρ':=kE o k p n sz (Zn p n sz) (aa<|.int (m+1:Nat)) (aa<|.int<|(p:Int)^(j+1)) (aa<|.int (j+1:Nat)) b ae ae ae ae) (os':=[]) (s':=s3) (by
  have et:pv (CV<|d+6) (.cmp .lt (.v 10)<|.v 8) (kE o k p n sz (Zn p n sz) (aa<|.int (m+1:Nat)) (aa<|.int<|(p:Int)^(j+1)) (aa<|.int (j+1:Nat)) b ae ae ae ae) s3=.ok (.bl<|ag<|j<m) s3:=by
   rw[pv,Ze rfl,Za,Ze rfl,Za];show PR.ok (V.bl<|ag<|((j+1:Nat):Int)<(m+1:Nat)) s3=_;rw[show ag (((j+1:Nat):Int)<(m+1:Nat))=ag (j<m)from decide_eq_decide.mpr (by omega)]
  rw[US<|VO et rfl];by_cases c:j<m
  .rw[T5 c,T9 rfl]
   have c1:=box (d+3) (k:=j+1) (n:=m+1) s3 hp (by omega) (by omega)
   have c2:=box (d+3) (k:=j) (n:=m) s3 hp (by omega) (by omega)
   have c3:=box (d+3) (k:=j+1) (n:=m) s3 hp (by omega) (by omega)
   have q1:pv (CV<|d+6) (.bin .sub (.v 8)<|.c<|.int 1) (kE o k p n sz (Zn p n sz) (aa<|.int (m+1:Nat)) (aa<|.int<|(p:Int)^(j+1)) (aa<|.int (j+1:Nat)) b ae ae ae ae) s3=.ok (.int m) s3:=by
    rw[sub_int (Ze rfl) Yp,show((m+1:Nat):Int)-1=m by omega]
   have q2:pv (CV<|d+6) (.bin .sub (.v 10)<|.c<|.int 1) (kE o k p n sz (Zn p n sz) (aa<|.int (m+1:Nat)) (aa<|.int<|(p:Int)^(j+1)) (aa<|.int (j+1:Nat)) b ae ae ae ae) s3=.ok (.int j) s3:=by
    rw[sub_int (Ze rfl) Yp,show((j+1:Nat):Int)-1=j by omega]
   have K:=Jd (p:=(p:Int)) (n:=m) hp (by omega)
   have hp5:=Zaw (p:=p);have h0:0<=(p:Int)^(j+1):=pi (by omega)
   have h1:(p:Int)^(j+1)<=((5^(j+1):Nat):Int):=by
    rw[<-hZ];have:p^(j+1)<=5^(j+1):=iz (by omega)<|j+1
    omega
   rw[guard (ne_int (XN (Ze rfl) (Ze rfl) (Ze rfl) c1) (JH (XN (Ze rfl) q1 q2 c2)<|mul_int (Ze rfl) (XN (Ze rfl) q1 (Ze rfl) c3) (Wb h0 h1<|by omega)<|K.bf _<|by omega)<|jZ hp m1 c),rvs]
  .rw[T4 c,T8 (by simp),rvs])]
 exact qe d o k sz s3 hn hq hz W
end
def uI(d:Nat)(o:Option V)(k:Nat)(s:DS):∃O os s',rvs (CV<|d+6) (muts Wt) Wt (o::aa (.int k)::aa .drw::aP 13 ae) [] s=.ok (.nx O os) s'/\O[0]?=aa o/\O.length=13+3:=by
 show ∃O os s',rvs (CV<|d+6) [13] Wt [o,aa<|.int k,aa .drw,ae,ae,ae,ae,ae,ae,ae,ae,ae,ae,ae,ae,ae] [] s=.ok (.nx O os) s'/\O[0]?=aa o/\O.length=16;have e0:∃m,pv (CV<|d+6) (.ix (.lst [(.c<|.int 27),(.c<|.int 125)])<|.blt .toInt [(.cmp .eq (.v 1)<|.c<|.int 0)]) [o,aa<|.int k,aa .drw,ae,ae,ae,ae,ae,ae,ae,ae,ae,ae,ae,ae,ae] s=.ok (.int m) s:=by
  by_cases c:(k:Int)=0
  .have c':k=0:=by omega
   exact#[125,by simp[pvE,c',Zi,b2i,at',ixN]]
  .have c':k≠0:=by omega
   exact#[27,by simp[pvE,c',Zi,b2i,at',ixN]]
 obtain⟨m,e0⟩:=e0;obtain⟨⟨p,n⟩,s1,e1,hq⟩:=y6 (d+4) (m:=m) s;obtain⟨hb,h1,hn,_⟩:=Zar _ hq
 haveI:Base p:=⟨hb⟩
 obtain⟨O,os,s2,e2,r⟩:=vN (p:=p) (n:=n) d o k s1 h1 hn<|GR _ hq;refine#[O,os,s2,?_,r];show rvs _ _ (_::Wt.drop 1) _ _ _=_;rw[Zf<|Z2 (ZG (Zc (Ze rfl)<|Zc e0 Zk) e1) rfl];exact e2
def law_ok(ns:List Int)(s:DS):∃S,CV 65 25 [.scr ns] s=.ok (.bl aj) S:=
 Lv.law_of (B:=Wt) 62 (ca:=0) (st:=1) (nn:=13) (M:=5) (by decide) (by decide) (by decide) rfl rfl rfl (by decide) (λo k s=>uI 58 o k s) ns s
end K35
namespace K35
open PySem PySem.Spec PyProof.Rows L2 Sd Gn
open Sd (Gq zY uj vi u6 v4 yg yv uM wS yI UI v9 ug qb zw yH yd yU yx UO yF Ue wz)
def Zda(s:fR):bE:=match s with|.FunctionDef x _ _ _ _ _ _ _ _ _=>x|_=>""
def top(i:Nat):fR:=PySem.Challenge.pw_fewspaces_k35_whole_counts.main.body.getD i<|.Pass #[0,0,0,0]
noncomputable abbrev R(i m k:Nat):FR:=#[Zda<|top i,top i,((Zv<|top i).names.map (·.1)).take m,k]
noncomputable abbrev r0:=R 31 2 2
noncomputable abbrev r1:=R 32 3 2
noncomputable abbrev r2:=R 33 4 2
noncomputable abbrev r3:=R 34 3 2
noncomputable abbrev r4:=R 6 3 3
noncomputable abbrev r5:=R 20 3 3
noncomputable abbrev r6:=R 24 6 2
noncomputable abbrev r7:=R 10 2 2
noncomputable abbrev r8:=R 9 3 1
noncomputable abbrev r9:=R 25 5 2
noncomputable abbrev r10:=R 23 7 2
noncomputable abbrev r11:=R 41 4 2
noncomputable abbrev r12:=R 7 1 1
noncomputable abbrev r13:=R 8 2 2
noncomputable abbrev r14:=R 29 7 2
noncomputable abbrev r15:=R 13 1 1
noncomputable abbrev r16:=R 22 5 2
noncomputable abbrev r17:=R 21 5 3
noncomputable abbrev r18:=R 16 3 3
noncomputable abbrev r19:=R 14 4 2
noncomputable abbrev r20:=R 15 3 2
noncomputable abbrev r21:=R 17 2 2
noncomputable abbrev r22:=R 26 2 2
noncomputable abbrev r23:=R 27 5 3
noncomputable abbrev r24:=R 28 2 2
abbrev r25:FR:=#["law",top 42,["_law_script","_law_k","_law_state_here","_law_space_here","_law_p","_law_n","_law_size","_law_some","_law_many","_law_least","_law_one","_law_turn","_law_at","_law_together","_law_places","_law_here"],1]
noncomputable abbrev fs:List FR:=[r0,r1,r2,r3,r4,r5,r6,r7,r8,r9,r10,r11,r12,r13,r14,r15,r16,r17,r18,r19,r20,r21,r22,r23,r24,r25]
abbrev zs:List bE:=["all","bool","enumerate","int","isinstance","len","max","min","range","reversed","set","sorted","tuple","zip"]
abbrev gs:List (bE×Gv):=[("MOST_PLACES",.tab [(2,6),(3,4),(5,3)]),("MOST_BOX_PLACES",.int 40)]
noncomputable abbrev jE{X xw C e}(i:Ev.E):=Sd.CE X xw C e i
noncomputable abbrev jF{X xw C e}(i:Ev.E):=Sd.CF X xw C e i
noncomputable abbrev jT{X xw C e}(i:Ev.E):=Sd.CT X xw C e i
noncomputable abbrev jS{X xw a C b e}(i:Ev.Sm):=Sd.CS X xw a C b e i
def okl:OkL fs zs gs fns tk sn 0 fs fns:=by
 repeat'(first|exact fc|refine#[#[rfl,rfl,by decide +kernel,?_],?_]|intro P w K mg base f fd d T h hn cdv A outer s H E hr hu)
 all_goals
 (repeat'(first
 |(with_reducible show aJ _ _=_);(first|exact zY|exact Gq|exact yg|exact v4|exact uj|exact vi|exact yv|exact u6)
 |(with_reducible show Cx.mg _ _=_);(exact Top.no (by assumption) (by kernel_rfl!))
 |(with_reducible show _=_);first|exact Zbf _|kernel_rfl!
 |(with_reducible show Gl _ _);show _=_;kernel_rfl!
 |show Sd.CSs _ _ _ _ _ _ [.cel _ _ _ _];refine Zdc (by assumption) (by assumption) (by assumption) ?_ ?_ (by assumption) (by kernel_rfl!) rfl rfl (by kernel_rfl!) (by first|exact zY|exact Gq|exact yg|exact v4|exact uj|exact vi|exact yv|exact u6) rfl (by kernel_rfl!) (by first|exact Or.inl (by kernel_rfl!)|exact nZ (by kernel_rfl!)|exact nZ (Or.inl (by kernel_rfl!))|exact nZ (nZ (by kernel_rfl!))) (by first|exact .inl rfl|exact .inr<|by kernel_rfl!) (by kernel_rfl!) (by kernel_rfl!) (by kernel_rfl!)
 |show Sd.CSs _ _ _ _ _ _ _;first|apply Zb7|apply ZaB
 |show Sd.CA _ _ _ _ _;first|apply ZbH|apply jG
 |show jF (.blt .sortedU _);apply zd
 |show jF (.blt .sorted _);apply jc (Ue (by assumption))
 |show jF (.lst _);apply Zby
 |show jF (.comp1 _ _ _ _ _ _);refine u4 rfl (by first|assumption|exact T6<|by kernel_rfl!) (by first|exact ze (by kernel_rfl!)|exact Je (N:=["part","row","place","headed"])<|by kernel_rfl!) ?_ (λ_ _ _ _=>#[?_,?_,?_]) (hs:=by intro _;kernel_rfl!)
 |show Sd.CE _ _ _ (.BoolOp _ [_] _) _;apply Zb6
 |show jE (.dix _ ak);apply jw
 |show jE (.dix _ aj);apply jq
 |show jE (.v _);apply Zee
 |show jE (.c _);first|apply Zcc|exact Zd6 (by assumption) (by kernel_rfl!) rfl rfl|apply ZdR|apply Zbq
 |show jE (.call _ _);refine Zd0 (by assumption) (by assumption) (by assumption) ?_ (by kernel_rfl!) rfl (by kernel_rfl!) (by first|exact zY|exact Gq|exact yg|exact v4|exact uj|exact vi|exact yv|exact u6) rfl
 |show jE (.ix _ _);apply ZdO
 |show jE (.blt .len _);apply Vp yH
 |show jE (.blt .tuple _);apply yk UO
 |show jE (.blt .all _);apply Vp (yF rfl)
 |show jE (.blt .toInt _);apply yk yx
 |show jE (.blt .max2 _);apply Vp (yd rfl)
 |show jE (.blt .min2 _);apply Vp (yU rfl)
 |show jE (.blt .index _);apply vx
 |show jE (.inT _ _);refine Zdb (by assumption) ?_ (by kernel_rfl!) rfl rfl (by first|rfl|(with_unfolding_all rfl))
 |show jE (.bin _ _ _);first|apply Zcm|apply Zbu|apply Zcb|apply Zb2|apply qB|apply ZcD
 |show jE (.tup _);apply ZcH
 |show jE (.neg _);apply ZcF
 |show jE (.not _);apply ZbX
 |show jE (.cmp .eq _ _);apply Xh (uM (by assumption))
 |show jE (.cmp .ne _ _);apply Xh (wS (by assumption))
 |show jE (.cmp .lt _ _);apply Xh (yI (by assumption))
 |show jE (.cmp .le _ _);apply Xh (UI (by assumption))
 |show jE (.cmp .gt _ _);apply Xh (v9 (by assumption))
 |show jE (.cmp .ge _ _);apply Xh (ug (by assumption))
 |show jE (.cmp .inn _ _);apply Xh (qb (by assumption))
 |show jE (.cmp .nin _ _);apply Xh (zw (by assumption))
 |show jE (.chain _ _ _ _ _);first|apply Gy (UI<|by assumption) (UI (by assumption))|apply Gy (UI<|by assumption) (yI (by assumption))
 |show jE (.ite _ _ _);apply Zbl
 |show jE (.sl _ _ _);apply Zdi
 |show jE (.isi _ _);first|apply zr (T:="int") (t:=.int)|apply zr (T:="bool") (t:=.bool)|apply zr (T:="tuple") (t:=.tuple)
 |(first|show jE (.callF _ _)|show jE (.lst _)|show jE (.comp1 _ _ _ _ _ _)|show jE (.comp2 _ _ _ _ _ _ _ _ _)|show jE (.blt .list _)|show jE (.blt .sorted _)|show jE (.blt .listD _)|show jE (.blt .sortedD _)|show jE (.blt .sortedS _)|show jE (.blt .sortedT _)|show jE (.blt .sortedU _));refine CF.ce ?_
 |show jE _;apply ZbV
 |show Sd.CO _ _ _ _ _;first|apply qL|apply Zam
 |show jS (.ret _);first|apply ZbY|apply Zas
 |show jS (.dset _ _);apply jO
 |show jS (.par _ _);apply Zbi
 |show jS (.asg _<|.comp1 _ _ _ _ _ _);refine wY rfl (by assumption) (by first|exact ze (by kernel_rfl!)|exact Je (N:=["part","row","place","headed"])<|by kernel_rfl!) ?_ (λ_ _ _ _=>#[?_,?_,?_]) (hsw:=by kernel_rfl!) (hy:=by kernel_rfl!) (hx:=by first|exact Or.inl (by kernel_rfl!)|exact nZ (by kernel_rfl!)|exact nZ (Or.inl (by kernel_rfl!))|exact nZ (nZ (by kernel_rfl!))) (hf:=by first|exact .inl rfl|exact .inr<|by kernel_rfl!) (hs:=by intro _;kernel_rfl!)
 |show jS (.asg _<|.comp2 _ _ _ _ _ _ _ _ _);refine xG rfl (by assumption) (by first|exact ze (by kernel_rfl!)|exact Je (N:=["part","row","place","headed"])<|by kernel_rfl!) ?_ (λ_ _ _ _=>#[?_,?_,?_,?_,?_,?_]) (hsw:=by kernel_rfl!) (hy:=by kernel_rfl!) (hx:=by first|exact Or.inl (by kernel_rfl!)|exact nZ (by kernel_rfl!)|exact nZ (Or.inl (by kernel_rfl!))|exact nZ (nZ (by kernel_rfl!))) (hf:=by first|exact .inl rfl|exact .inr<|by kernel_rfl!) (hs:=by intro _;kernel_rfl!) (hs2:=by intro _ _;kernel_rfl!)
 |show jS (.asg [_] _);first|refine qP ?_ ?_ (hf:=by kernel_rfl!) (hs:=by kernel_rfl!) (hw:=by kernel_rfl!) (h1:=by kernel_rfl!)|apply jR
 |show jS (.asg _ _);apply Zcp
 |show jS (.ex<|.mt .append _ _);apply xj
 |show jS (.ex<|.mt .extend _ _);apply wp
 |show jS (.ex _);apply qZ
 |show jS (.ite _ _ _);apply Zdx
 |show jS (.forr _ _ _);apply Zc0 PassesOwn.never
 |show jS (.aug _ _ _);apply Zb1 wz
 |show jS _;apply qj
 |show jT (.not _);apply Zbh
 |show jT (.cmp .eq _ _);apply Xk (uM (by assumption))
 |show jT (.cmp .ne _ _);apply Xk (wS (by assumption))
 |show jT (.cmp .lt _ _);apply Xk (yI (by assumption))
 |show jT (.cmp .le _ _);apply Xk (UI (by assumption))
 |show jT (.cmp .gt _ _);apply Xk (v9 (by assumption))
 |show jT (.cmp .ge _ _);apply Xk (ug (by assumption))
 |show jT (.cmp .inn _ _);apply Xk (qb (by assumption))
 |show jT (.cmp .nin _ _);apply Xk (zw (by assumption))
 |show jT (.or _ _);refine CWh.ct<|Zba ?_ ?_
 |show jT _;apply Zcg
 |show Sd.CWh _ _ _ _ _;first|apply Zba|apply Zbr
 |show Sd.CTs _ _ _ _ _;first|apply qW|apply Zav
 |show Sd.CW _ _ _ _ _ _;first|apply j4|apply Zax|apply jA|apply ZbP|apply j6|apply Zd3
 |show Sd.CG _ _ _;first|apply jY|apply Zcj
 |show Sd.CGs _ _ _;first|apply qN|apply qt
 |(first|exact Or.inl (by kernel_rfl!)|exact nZ (by kernel_rfl!)|exact nZ (Or.inl (by kernel_rfl!))|exact nZ (nZ (by kernel_rfl!)))
 |assumption
 |exact T6 (by kernel_rfl!)
 |decide
 |(intro _;kernel_rfl!)
 |(intro _ _;kernel_rfl!)
 |(intro m h;cases h)))
end K35
namespace PySem.W.Fast
def tw8149154487713122110:=0
def tw1084572356271026690:=0
def tw15338796966965850279:=0
def tw17630806023292624785:=0
def tw9141773900447007194:=0
def tw10001920054086859624:=0
def tw16554233528563700740:=0
def tw9002900947283215577:=0
def tw15062312265132729449:=0
def tw12977098522791845778:=0
def tw8258444630185548951:=0
def tw15155622880830250046:=0
def tw13290536380607814062:=0
def tw14216041836839079650:=0
def tw9071338318991534707:=0
def tw3252469392498098739:=0
def tw14473283528802749888:=0
def tw16202818216359895881:=0
def tw303444385941006403:=0
def tw1457391894496443580:=0
def tw12227641212988542619:=0
def tw16894558711323742602:=0
def tw15156803744953721516:=0
def tw9280702771293214397:=0
def tw5985980949169066493:=0
def tw10928320078800294225:=0
def tw13702545199897018411:=0
def tw9191050822303195582:=0
def tw16845619420713556622:=0
def tw8686401104539365962:=0
def tw13029896463361055371:=0
def tw5769111461578466182:=0
def tw1771315341085335782:=0
def tw11216555112652216110:=0
def tw2297957257084797947:=0
def tw1950435951086181966:=0
def tw16602448355459246519:=0
def tw326925574304237679:=0
def tw12749296007526090635:=0
def tw9246275728289117284:=0
def tw17165902329890523148:=0
def tw14511923216391246390:=0
def tw8263123255313436032:=0
def tw115596487882690282:=0
def tw16707184286047195730:=0
def tw1436700507745270280:=0
def tw15759681869538660701:=0
def tw18260882409390055393:=0
def tw11042066317676447852:=0
def tw7669824654725336599:=0
def tw3093906518120684951:=0
def tw4007969549080538793:=0
def tw3174183572429142712:=0
def tw8270895307367676587:=0
def tw14915546442949357677:=0
def tw2190483059792591288:=0
def tw17083141419414065243:=0
def tw9313547139760830699:=0
def tw10985240343274854022:=0
def tw10356958917092226577:=0
def tw10112921680397218353:=0
def tw13041519467771116782:=0
def tw11510489406100356242:=0
def tw14333955750700740017:=0
def tw3282540106510571666:=0
def tw14554754730829617041:=0
def tw10556372734927660314:=0
def tw6156272455855543349:=0
def tw271145235153463427:=0
def tw9756559411268727788:=0
def tw5145127559166201990:=0
def tw6427105435816869438:=0
def tw10896227337346156118:=0
def tw450994626050880487:=0
def tw17933999706566631698:=0
def tw14290597798955646273:=0
def tw8418096079638091041:=0
def tw2808569801382245810:=0
def tw18314487684717406248:=0
def tw5193589948708251702:=0
def tw8143454653353255669:=0
def tw1759942701620829674:=0
def tw18028511123594261047:=0
def tw49973092932578733:=0
def tw16149650588561744821:=0
def tw2190900766288768146:=0
def tw9704723162278882607:=0
def tw17329652564551748566:=0
def tw8240747411315977626:=0
def tw16745387287817233362:=0
def tw13527509114748739828:=0
def tw16272732678750939377:=0
def tw3991822741756169262:=0
def tw5986602518599022385:=0
def tw14421036127906937741:=0
def tw6106765099921712067:=0
def tw11045457398544649139:=0
def tw8137071207042363975:=0
def tw4825203124756345582:=0
def tw12192048482465258034:=0
def tw4412608370998135425:=0
def tw9297505081324419483:=0
def tw5886912386644209899:=0
def tw2569629917326699706:=0
def tw3789487989989998156:=0
def tw1541692604979981192:=0
def tw3146420410439821070:=0
def tw9230453414381660601:=0
def tw11606287169331676740:=0
def tw9339656583530356460:=0
def tw3618209222720915009:=0
def tw16333358486111021471:=0
def tw15075749934631583391:=0
def tw16974022256638046866:=0
def tw16954448496753917468:=0
def tw16858616980689661746:=0
def tw9451970382477172965:=0
def tw16985178077035271232:=0
def tw144301383545257131:=0
def tw13656180980425119304:=0
def tw7000997367966978373:=0
def tw3546282949865394068:=0
def tw15485791121115116619:=0
def tw10029697380848577126:=0
def tw3543029403433902263:=0
def tw2964145624526481196:=0
def tw807578441772783290:=0
def tw17074217380907556147:=0
def tw16366590660454165327:=0
def tw15873088958532532933:=0
def tw8339881055726835115:=0
def tw1858064291194794165:=0
def tw4854921760021918887:=0
def tw69812743866890136:=0
def tw17798312728204427934:=0
def tw11896290123950750241:=0
def tw13189575044998854732:=0
def tw6752164724491893503:=0
def tw9711087525037047403:=0
def tw11065682703931554389:=0
def tw8688910634788348814:=0
def tw15381581290413628031:=0
def tw13748917641788767829:=0
def tw12340003112303584943:=0
def tw1872924521068549221:=0
def tw7195971333443119991:=0
def tw15751025181882758016:=0
def tw12195390750079250768:=0
def tw11106985144525849437:=0
def tw5299123442604666636:=0
def tw5905205431253779258:=0
def tw6741366707751335769:=0
def tw16595364519306089674:=0
def tw4632913371521866322:=0
def tw7649172898349431104:=0
def tw6537450357084688857:=0
def tw8665681813509984240:=0
def tw17885885939148399305:=0
def tw12160088945891228503:=0
def tw10670632549775729375:=0
def tw2007429914844475928:=0
def tw9419914488654274114:=0
def tw17390009495263688254:=0
def tw9572055923340509186:=0
def tw5184987819779411320:=0
def tw7004685420992944573:=0
def tw2754414995612205967:=0
def tw365974166207671495:=0
def tw16313290762835801860:=0
def tw12776314564752221052:=0
def tw7618587708038639990:=0
def tw16473247701159312100:=0
def tw3148279996952375496:=0
def tw16812243720300233334:=0
def tw2973134248722906487:=0
def tw6216196357491578498:=0
def tw6861712148902284474:=0
def tw1331263380524796511:=0
def tw13100440320522454518:=0
def tw16439365391053601057:=0
def tw5233183631200101438:=0
def tw6859027837029021820:=0
def tw13177137293938866768:=0
def tw4194339271394897100:=0
def tw14925365327154893559:=0
def tw11180146927286779126:=0
def tw16801392755582459933:=0
def tw17102485625617714012:=0
def tw4849786955599879784:=0
def tw693402167925526296:=0
end PySem.W.Fast
open PySem PySem.W PyProof.Rows Gn
set_option maxRecDepth 100000 in
set_option maxHeartbeats 0 in
theorem PySem.Challenge.cw_fewspaces_k35_whole_counts_holds : PySem.Challenge.rw_fewspaces_k35_whole_counts.Holds := by
  w_on; o_law; k_head; (case hw => w_witness2)
  k_fill
  refine Gn.walk (l := PySem.Challenge.rw_fewspaces_k35_whole_counts) (F := K35.fns) (tk := K35.tk) (L := 25) (fun ns s => K35.law_ok ns s) rfl rfl (fun w h Y => PySem.W.kIn_of Y) ?F
  case F =>
    intro w mg fa h KX G hmg;refine' Gn.Zck (fs := K35.fs) (zs := K35.zs) (gs := K35.gs) (sn := K35.sn) KX G hmg rfl K35.okl rfl (by decide) ?A ?Z ?Y
    case A => repeat' (first|exact FnsAt.nil|refine' FnsAt.cons ?h1 ?h2 ?h3 ?h4 ?h5 ?_; (case h1 => k_is); (case h2 => k_is); (case h3 => k_is); (case h4 => k_is); (case h5 => first|exact bd1 fun _ _ _ _ _ _ _ => rfl|exact bd2 fun _ _ _ _ _ _ _ _ => rfl|exact bd3 fun _ _ _ _ _ _ _ _ _ => rfl|exact bd4 fun _ _ _ _ _ _ _ _ _ _ => rfl|exact bd5 fun _ _ _ _ _ _ _ _ _ _ _ => rfl|exact bd6 fun _ _ _ _ _ _ _ _ _ _ _ _ => rfl))
    case Z => repeat' (first|exact ZsAt.nil|refine' ZsAt.cons ?h1 ?_; (case h1 => k_is))
    case Y => repeat' (first|exact GsAt.nil|refine' GsAt.cons ?h1 ?_; (case h1 => k_is)|refine' GsAt.tab ?h1 ?h2 ?h3 ?h4 ?_; (case h1 => k_is); (case h2 => k_is); (case h3 => exact #[#[_, rfl], rfl, #[_, rfl], #[_, rfl], rfl, #[_, rfl], #[_, rfl], rfl, #[_, rfl], trivial]); (case h4 => rfl))
