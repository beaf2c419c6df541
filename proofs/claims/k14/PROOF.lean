import PyProof.Rows.All
import Wide.All
import OpenK.AllK
import Wide.FinOn
import Lean
import PyProof.EqAt
import PyProof.EqKinds
import PyProof.TupleCall
import PySem.Str
import PyProof.CodeObj
import PyProof.ListMulAny
import PyProof.NeKinds
import PyProof.ConsumeWalk
import PyProof.CompFree
import PyProof.Cells
import PyProof.ZipIter
import PyProof.Draws
import PyProof.EnumMake
import PyProof.SumWalk
import PyProof.Rows.SortRuns
import KE.KSortTup
import PyProof.Rows.SortRev
import PyProof.FactsAll.tuple
import KE.KRevIter
import PyProof.FactsAll.range_2
import PyProof.ListRange
import PyProof.TupleOfSeq
import PyProof.TupleOfGen
import PyProof.CallType
import PyProof.DictWalks
import PyProof.IsiH_list
import PyProof.RulesTry
import KE.KDictOf
import KE.KDictSum
import PyProof.Rows.SetFrom
import PyProof.FactsAll.set
import KE.KSortKey
import PySem.Challenge.RW_fewspaces_k14_whole_parts
set_option Elab.async false
set_option linter.all false
set_option compiler.extract_closed false
set_option maxRecDepth 100000
set_option maxHeartbeats 0
local macro_rules
|`(#[$x,$y])=>`(⟨$x,$y⟩)
|`(#[$x,$y,$z,*])=>`(⟨$x,$y,$z,*⟩)
abbrev T9:=@if_pos
abbrev T8:=@if_neg
abbrev T7:=@absurd
abbrev T6:=@of_decide_eq_true
abbrev T5:=@decide_eq_true
abbrev T4:=@decide_eq_false
abbrev T0:=@decide_eq_true_eq
open Option renaming some->aa,none->ae,map_eq_some_iff->bQ,bind_eq_some_iff->da,isSome_iff_exists->dD,isNone_iff_eq_none->iW,isSome_some->mK,isSome_map->m4,getD_none->nH,getD_some->nL
open PySem renaming wpAny_bind->ab,Value->al,wpAny_pure->au,Shared->aw,Addr->aI,starEach->aL,model->aQ,wpAny->aW,sizeLine->bp,Program->bC,Str->bG,wpAny_newObj_type->bH,foldedSetIterable->bL,World->bN,wpAny_holding->bR,Heap->bY,compareOp->b0,assignEach->cc,wpAny_callSpecial?_slot->cr,wpAny_field->cz,Around->cD,wpAny_call_entry->cG,mainGlobals->cH,sizeLine_eq->cI,wpAny_mono->cL,FuncData->cW,SetTable->cX,bootBuiltins->cZ,eval->c8,Builtin->dE,cLine->dL,wpAny_setState_of->dN,assign->dR,cellsFrom->dS,wpAny_Call_Name_kw->dZ,wpAny_seqItems->d5,wpAny_setField_rec->d7,wpAny_passesOwn->eA,binaryOp->eC,NameKind->eD,wpAny_standAt->eL,swapsWithSole->eM,swappedStores->eN,mem_of_lookup->eQ,Scope->eR,wpAny_askSetting->eU,wpAny_of_eq->eY,wpAny_rule->fb,codeAny_builtin->fj,wpAny_truthy_bool->fm,codeAny->fq,wpAny_pyIter_list->fu,Obj->fD,Stmt->fE,backTo->fN,behindInMarks->fO,intKind->fS,wpAny_pyIter_tuple->fW,sliceBounds->f7,codeAny_mono->gf,wpAny_setField->gl,sysModules->gD,rawInt->gE,call_meets->gH,holding->gO,wpAny_updateSeq_pair->gT,wpAny_loadPart'->hV,wpAny_typeOf->ig,DictEntry->ir,Pos->iw,IsPart->iB,wpAny_binaryOp_repeat_ref->iU,wpAny_assign_Name->iY,getItem->i4,wpAny_sequenceKey->i5,pyIter->kh,wpAny_onRaise->kn,wpAny_attempt->ko,wpAny_eqBool_int->kA,swapsWith->kB,noFill_tuple_add->kC,wpAny_isInstance->kG,wpAny_forIn_list->kJ,standAt->kP,wpAny_pyNext_list_item->kQ,IsPair->kX,richCompare_meets_room->k6,wpAny_execs_nil->lc,letOwnedTupleGo->lg,wpAny_specialOf->lj,pushCells_keeps->lq,codeAny_of_tree->lu,wpAny_pyNext_list_end->lx,exec_Assign_Name_used->lz,builtinLookup_eq_fast->lC,wpAny_loadName_local->lF,pyNext->lG,firstArgMember->lL,ZipApart->lN,isSubtype_type->lS,callerA->l5,wpAny_loadName_cell->l6,wpAny_setEntries_of->l9,seq_tuple_add->mh,evalPart_none->mj,wpAny_newList->mr,plainId_quiet->mv,builtinsNs->mC,wpAny_load->mD,tupleKind_room_in1->mL,typeIs_int->mM,BindsTo->mV,concat_meets->mW,seqIndex_neg->mX,valueAt->m3,wpAny_pyIter_enum->nc,setAddHashed->np,wpAny_storeSet_of->nq,wpAny_pyIter_slot->nt,tupleKind->nz,Sem->nA,PassesOwn->nB,rule->nC,seqSlot_of->nI,pushCells->nM,seqIndex_of->nV,IsZip->nY,wpAny_letGo->nZ,unsupported->n4,wpAny_Name->oC,Operator->oD,bindArgs->oF,call->oH,Meets->oI,compTurn->oJ,intKind_is->oK,setsByText->oU,again->o9,bindL->pa,bindC->pb,Result->pe,ret->pi,atKey->pz,Tok->pB
open List renaming getElem?_eq_getElem->af,mem_cons_of_mem->aj,mem_cons_self->ak,size_toArray->ax,length_map->az,mem_cons->aA,replicate->aB,getD_eq_getElem?_getD->aD,getElem?_map->aK,range->aM,mem_map->aR,length_cons->aS,all_eq_true->aT,mem_range->aU,getElem_mem->aV,pairwise_cons->aZ,getElem?_eq_some_iff->bc,mem_singleton->be,length_take->bh,map_cons->bj,mem_append_right->bm,getElem?_eq_none->bn,length_drop->bo,pairwise_iff_getElem->bq,getElem?_set_ne->bt,getElem?_append_right->bu,length_append->bw,replicate_succ->bx,append_assoc->bz,getElem_of_mem->bB,length_range->bE,lookup_cons->bI,map_append->bM,getElem?_append_left->bO,mem_of_mem_drop->bS,ext_getElem?->bV,map_map->bX,drop_eq_getElem_cons->bZ,length_set->b4,not_mem_nil->b5,mem_append_left->b6,getElem?_set_self->b8,take_of_length_le->b9,zip_cons_cons->cf,length_replicate->ck,getElem?_replicate->cq,flatten_cons->cw,pairwise_map->cy,toArray->cB,append_nil->cE,getElem?_range->cJ,map_congr_left->cK,take_append_drop->cM,pairwise_append->cR,getElem?_take->cS,mem_reverse->cV,mem_append->c0,mem_of_getElem?->c9,mem_of_mem_take->db,reverse_perm->du,mem_map_of_mem->dz,nodup_cons->dA,filterMap_cons->dP,drop_length->dU,mem_flatMap->dW,contains_iff_mem->eg,pairwise_reverse->ek,find?_cons->eB,reverse_cons->eE,getElem_take->eG,getElem_drop->eI,length_eq_zero_iff->eT,mem_filter->fg,getElem?_inj->fw,any_eq_true->fI,extract_eq_take_drop->fL,mem_of_find?_eq_some->fM,foldl_cons->fT,length_zip->fU,find?_eq_none->fZ,pairwise_singleton->f8,nodup_append->gn,sum_replicate_nat->gy,map_uncurry_zip_eq_zipWith->gB,take_length->gI,map_reverse->gL,ext_getElem->gM,getElem_map->gN,all_cons->gP,isEmpty_toArray->gR,getElem?_mapIdx->gS,drop_append_of_le_length->gV,take_append_of_le_length->gW,of_mem_zip->gX,nil_append->g9,length_reverse->h7,reverse_append->h8,length_flatMap->ic,take->iu,filterMap_map->iE,drop_zero->iJ,drop_drop->iL,getElem?_drop->iM,drop_left->iN,take_left->iO,zip_nil_right->iR,perm_append_singleton->iS,getElem?_zip_eq_some->iV,take_sublist->iZ,zip_nil_left->ke,contains->km,find?_range_eq_some->kw,eq_of_mem_replicate->ky,zipIdx_cons->kF,nodup_range->kH,filter_cons->kM,range_succ_eq_map->kU,all_map->kW,drop_of_length_le->kZ,getElem_cons_succ->k7,pairwise_lt_range->k8,forIn_cons->ln,find?_some->lw,length_singleton->ly,getElem?_reverse->lB,pairwise_flatMap->lD,mem_iff_getElem->lP,map->lQ,any_cons->ml,mem_filterMap->mE,contains_cons->mN,find?_toArray->mO,mem_replicate->mR,map_replicate->mS,getElem?_set->m5,drop_sublist->ng,foldl_append->ny,drop_append->nO,countP_cons->nP,perm_middle->nU,zipIdx_nil->oa,range_succ->on,map_const'->ox,forIn_nil->oM,take_take->oO,perm_cons->oQ,tail_cons->oV,map_tail->o5,map_take->o6,map_drop->o7,drop->pc,zip->pA
open Option.some renaming inj->ag
open Decidable renaming decide->ai
open Bool renaming true->am,false->ap,and_eq_true->aC,false_ne_true->aG,eq_iff_iff->bU,false_eq_true->cP,not_true->gQ,false_or->kj,or_eq_true->lm,not_eq_true'->nu,not_false->oR
open PySem.W renaming Frag->ao,katRev->bi,kia_one->cT,kia_tup->cU,fnOf->dQ,kitAny->d8,kat_len->fV,kitx_list->gc,kitx_dict->gd,keepIn->gg,nsIn->gx,codeIn->iA,katRev->kt,cellsFrom_some->kR,instObj->k9,OpenLaw->lh,lookIn->lH,kitOne->lJ,KdlSrc->lR,mg_of->mw,kitx_float->mG,kitx_tuple->mH,kitx_none->mT,kitx_bool->mU,plainGet->nD,kitx_int->nE,kitx_str->nF,kitx_own->nG,kat_nil->og,kat_len->oB,findIn->oE,WalkO->oY
open PySem.Heap renaming get?_push_of_some->aq,lt_size->aF,get?_push_size->aJ,size_push->cQ,get?_update_self->ee,SameBut->eZ,get?_push_ne->gu,ExtBut->i8,size_update->kI,get?_update_other->kT,get?_update_ne->l8
open Array renaming length_toList->ay,getElem?_eq_getElem->aN,getElem?_toList->aX,perm_iff_toList_perm->bF,toList_append->cp,getD_eq_getD_getElem?->dg,size_push->dO,toList_push->eJ,toList_setIfInBounds->fB,size_extract->fY,size_append->gp,toList_extract->gU,size_setIfInBounds->kq,getElem?_eq_none->kY,mem_toList_iff->lI,toList_reverse->lO,size_reverse->mP,toList_inj->nQ,toList_map->nR,replicate->oo,size_map->oT
open PyProof.Rows renaming wpS_bind->aE,wpS_pure->aO,arrOf->aY,pendingOf->ba,SortSt->bK,Keyed->bP,slot_tuple_getitem->cg,wpS_forRange->cn,callWith_type1->de,wpS_mono->eF,seqObj->eW,wpS_modify->fc,SortKind->fA,elem'->fK,failedOf->fR,wpS_get->gq,callWith_builtin1->gF,setPending->gK,entry_tuple_getitem->hZ,envOfC->iz,slicePart_none->iC,args_tuple_getitem->iF,list_sort_rev->iP,AllBare->iX,subscriptTail_builtinR->kS,wpS->lE,tupleItemsOf_->mi,listUpdate_at->mn,seqEpoch_at->n5,IntsAre->oy,minRun'->oA,Subscript_->oG,size_push'->oP,IsTup->o8
open Nat renaming le_refl->aH,lt_of_lt_of_le->bg,lt_irrefl->br,ne_of_lt->bv,le_trans->cO,lt_succ_of_lt->dr,zero_le->dB,lt_trans->dG,pow_le_pow_right->dH,lt_of_succ_lt->dM,le_add_right->eV,ne_of_gt->fF,le_of_not_lt->fG,mul_comm->fH,lt_of_le_of_ne->fX,le_of_lt->ga,zero_add->gv,lt_succ_self->gJ,pow_succ->ip,le_succ->i9,add_assoc->kr,mul_assoc->kx,le_mul_of_pos_right->kO,min_eq_left->lv,mul_le_mul->lK,mul_le_mul_right->l0,mul_le_mul_left->mf,mod_lt->mQ,add_comm->mY,le_of_eq->mZ,min_self->m8,succ_add->nj,lt_trichotomy->nr,pow_pos->n6
open And renaming intro->aP
open PySem.Value renaming none->bf,ref->bT,bool->c6,int->kz,type->mB,isStrOf->oX
open PySem.NameKind renaming free->bD,cell->cx
open PySem.SetTable renaming bits->bJ,insertAt->bW,sizeAbove->cC,runEnd->cF,leap->dq,Probe->eX,grown->fC,turns->gw,fresh->iT,fill->ku,advance->kL,below->lT,layClean->nk,relaid->oq,fits->o0
open List.Perm renaming refl->cu,of_eq->hU,swap->iQ,nil_eq->nS
open PySem.Builtin.Slice renaming slicePlaces->cA,sliceAdjust->fJ,sliceApplied->iD
open True renaming intro->cY
open Pure renaming pure->c7
open Int renaming emod_eq_of_lt->dv,emod_lt_of_pos->d9,emod_nonneg->fk,toNat_natCast->fv,toNat_of_nonneg->md,natCast_mul->ow
open PySem.Heap.SameBut renaming update->dy
open PySem.AutoSeq1 renaming wpAny_loadPart'->dC,sub_tuple_tuple->dF,wpAny_loadPart'->fQ,idx_int->kD
open Sum renaming inl->dJ,inr->l4
open PySem.Obj renaming mapSeq->d3,data_mapFields->d6,isFreed_of_fields->gC,cls_mapFields->kc,putSet->oS,mapFields->o4
open PySem.F renaming slot_tuple_iterator_next->d4,args_tuple_add_2->fP,entry_tuple_add->f6,slot_tuple_add->gh,slot_int_rmul->gZ,args_tuple_iterator_next_1->hG,slot_zip_next->hJ,entry_tuple_iterator_next->im,args_tuple_mul_2->iH,entry_tuple_mul->i6,slot_tuple_mul->kE,plain_list_iadd->kK,args_int_rmul_2->m7,args_zip_next_1->m9,args_tuple_lt_2->nh,entry_int_rmul->nJ,entry_zip_next->nN,entry_tuple_lt->nT,fills_int_mul->n8,slot_tuple_lt->oh,plain_set_new->oj,slot_set_iter->ot
open PySem.Builtin.SmallTypes renaming nextOf->eo
open PySem.Around renaming under_plainId->eK
open List.Pairwise renaming imp_of_mem->eO,nil->gj,filter->lZ
open LawfulBEq renaming eq_of_beq->eS
open PySem.SetTable.layClean renaming free->fe
open PySem.Builtin.Tuple renaming tupleItemsOf->fz,tupleCompareSizes->gA,tupleTooMany->iG
open PyProof.Rows.F renaming plain_set_update_loop->f9,entry_set_update_loop->kN
open PySem.SeqAt renaming EqAt->gG
open PySem.SeqAt.EqAt renaming same->gY,of_refs->iI,int_str->my,str_int->mz,int_int->mJ
open PySem.Builtin.List renaming listLengthHint->io,listTooLong->ki
open PyProof.Rows.IsTup renaming new->iq
open Break renaming runK->iK
open PySem.SeqAt.RcAt renaming tuples->i7,lists_lengths->kl,lists->nK
open PySem.SetTable.below renaming go->kf
open PySem.SetTable.probe renaming go->kg
open PySem.Str renaming ofString->k5
open Prod renaming fst->lV,snd->lW,ext->pj
open PySem.Builtin.Int renaming intBits->l7
open Lean.Grind renaming CommRing->me
open ForIn renaming forIn->mm
open PySem.P renaming truthy_int->mF
open PySem.Heap.IsSliceOf renaming new->mI
open PySem.pickOrder renaming go->ni
open Classical renaming not_not->nv
open ForInStep renaming yield->n9
open PySem.PassesOwn renaming never->ou
open PyProof.Rows.SortSt renaming mk'->oN
open Min renaming min->oW
open PySem.Code renaming compLoop->oZ
open Or renaming inr->pf
namespace L2
open PySem PySem.Spec PyProof.Rows
abbrev Key:=Sum Int bG
noncomputable def UU:Key->al->Bool
 |.inl k,v=>al.isInt k v
 |.inr x,v=>oX x v
noncomputable def Zds(w:bN):Key->Int
 |.inl k=>hashInt k
 |.inr x=>hashStr w x
def ZO:∀{k:Key}{v:al},UU k v=am->(∃i t,k=dJ i/\v=kz i t)\/(∃x t,k=l4 x/\v=al.str x t)
 |.inl i,v,h=>by
  obtain⟨t,e⟩:=al.isInt_shape h;exact .inl #[i,t,rfl,e]
 |.inr x,v,h=>by
  obtain⟨t,e⟩:=al.isStrOf_shape h;exact .inr #[x,t,rfl,e]
def yX(i:Int)(t:pB):UU (.inl i) (.int i t)=am:=by simp[UU,al.isInt]
def xZ(x:bG)(t:pB):UU (.inr x) (.str x t)=am:=by simp[UU,oX]
def Zb0(a b:Int):ai ((dJ a:Key)=dJ b)=(a == b):=by
 by_cases e:a=b
 .subst e;simp
 .have h:¬(dJ a:Key)=dJ b:=λq=>e (dJ.inj q)
  rw[T4 h];exact(beq_eq_false_iff_ne.mpr e).symm
def Zb1(a b:bG):ai ((l4 a:Key)=l4 b)=ai (a=b):=by
 by_cases e:a=b
 .subst e;simp
 .have h:¬(l4 a:Key)=l4 b:=λq=>e (l4.inj q)
  rw[T4 h,T4 e]
def Zb8(a:Int)(b:bG):ai ((dJ a:Key)=l4 b)=ap:=T4 (λq=>nomatch q)
def Zb6(a:bG)(b:Int):ai ((l4 a:Key)=dJ b)=ap:=T4 (λq=>nomatch q)
noncomputable def Yd(prog:bC)(w:bN):PySem.KeyKind prog w Key where
 is:=UU
 hash:=Zds w
 inj:=λv a b ha hb=>by
  rcases ZO ha with⟨i,t,rfl,rfl⟩|⟨x,t,rfl,rfl⟩
  .rcases ZO hb with⟨j,u,rfl,e⟩|⟨y,u,rfl,e⟩
   .injection e with e1 _;rw[e1]
   .exact nomatch e
  .rcases ZO hb with⟨j,u,rfl,e⟩|⟨y,u,rfl,e⟩
   .exact nomatch e
   .injection e with e1 _;rw[e1]
 byValue:=λk v h=>by
  rcases ZO h with⟨i,t,rfl,rfl⟩|⟨x,t,rfl,rfl⟩<;>rfl
 pyHash:=λhv h=>by
  rcases ZO hv with⟨i,t,rfl,rfl⟩|⟨x,t,rfl,rfl⟩
  .exact wpAny_pyHash_int h
  .exact wpAny_pyHash_str h
 eqBool:=λhu hv h=>by
  rcases ZO hu with⟨i,t,rfl,rfl⟩|⟨x,t,rfl,rfl⟩
  .rcases ZO hv with⟨j,u,rfl,rfl⟩|⟨y,u,rfl,rfl⟩
   .rw[Zb0]at h;exact kA h
   .rw[Zb8]at h;exact my i t y u _ _ _ _ h
  .rcases ZO hv with⟨j,u,rfl,rfl⟩|⟨y,u,rfl,rfl⟩
   .rw[Zb6]at h;exact mz x t j u _ _ _ _ h
   .rw[Zb1]at h;exact wpAny_eqBool_str h
 «strs»:=λk x t v h=>by
  rcases ZO h with⟨i,u,rfl,e⟩|⟨y,u,rfl,e⟩
  .exact nomatch e
  .injection e with e1 _
   subst e1;cases v<;>rfl
def JC(prog:bC)(w:bN)(i:Int)(t:pB):(Yd prog w).is (.inl i) (.int i t)=am:=yX i t
def Jf(prog:bC)(w:bN)(x:bG)(t:pB):(Yd prog w).is (.inr x) (.str x t)=am:=xZ x t
inductive V where
 |non|bl (b:Bool)|int (i:Int)|str (x:bG)|byt (b:Array UInt8)|flt (b:UInt64)|ref (a:aI)|ty (n:String)
 deriving DecidableEq
def ZA:V->al->Prop
 |.non,u=>u=bf
 |.bl b,u=>u=c6 b
 |.int i,u=>∃t,u=kz i t
 |.str x,u=>∃t,u=al.str x t
 |.byt b,u=>∃t,u=al.bytes b t
 |.flt b,u=>∃t,u=al.float b t
 |.ref a,u=>u=bT a
 |.ty n,u=>u=mB n
abbrev Vals:List V->List al->Prop:=Paired ZA
theorem Vals.length{xs:List V}{us:List al}(r:Vals xs us):xs.length=us.length:=Paired.length r
theorem Vals.get:∀{xs:List V}{us:List al}{i:Nat}{x:V},Vals xs us->xs[i]?=aa x->∃u,us[i]?=aa u/\ZA x u
 |_,_,_,_,.nil,e=>by simp at e
 |_,_,0,_,.cons r _,e=>by simp at e;subst e;exact#[_,rfl,r]
 |_,_,i+1,x,.cons _ t,e=>by
  obtain⟨u,h1,h2⟩:=Vals.get t (by simpa using e)
  exact#[u,by simpa using h1,h2]
theorem Vals.set(r:ZA x u):∀{xs:List V}{us:List al}(i:Nat),Vals xs us->Vals (xs.set i x) (us.set i u)
 |_,_,_,.nil=>.nil
 |_,_,0,.cons _ t=>.cons r t
 |_,_,i+1,.cons q t=>.cons q<|Vals.set r i t
theorem Vals.append:∀{xs ys:List V}{us ws:List al},Vals xs us->Vals ys ws->Vals (xs++ys) (us++ws)
 |_,_,_,_,.nil,s=>s
 |_,_,_,_,.cons r t,s=>.cons r<|Vals.append t s
theorem Vals.take:∀{xs:List V}{us:List al}(n:Nat),Vals xs us->Vals (xs.take n) (us.take n)
 |_,_,0,_=>.nil
 |_,_,_+1,.nil=>.nil
 |_,_,n+1,.cons r t=>.cons r<|Vals.take n t
theorem Vals.drop:∀{xs:List V}{us:List al}(n:Nat),Vals xs us->Vals (xs.drop n) (us.drop n)
 |_,_,0,r=>r
 |_,_,_+1,.nil=>.nil
 |_,_,n+1,.cons _ t=>Vals.drop n t
def GR:Option V->Option al->Prop
 |some v,aa u=>ZA v u
 |none,ae=>True
 |_,_=>False
def KV{κ:Type}:List (κ×V)->List (κ×al)->Prop:=Paired λ(p:κ×V) (q:κ×al)=>p.1=q.1/\ZA p.2 q.2
noncomputable def kV:Key->V
 |.inl i=>.int i
 |.inr x=>.str x
inductive HO where
 |lst (xs:List V)
 |tup (xs:List V)
 |dK (kvs:List (Key×V))|dT (kvs:List (List Key×V))
 |set (S:Int->Bool) (n:Nat)
 |ins (C dx:aI) (fs:List (bG×V))
 |own (x:aI)
 |xd (fs:List (bG×V))
 |met (f x:aI)
 |rng (lo hi:Int)
 |frz (o:fD) (u:HO)
 |tbl (ps:Array al)
 |ext (φ:bY->Prop)
abbrev Hp:=aI->Option HO
noncomputable def upd(H:Hp)(a:aI)(o:HO):Hp:=λb=>if b=a then aa o else H b
def ZK :upd H a o a=aa o:=by unfold upd;rw[T9 rfl]
def Zp(h:b≠a):upd H a o b=H b:=by unfold upd;rw[T8 h]
def ZF{H:Hp}{a b:aI}{o:HO}(h:H a=aa o)(h':H b=ae):a≠b:=by
 intro e;subst e;rw[h]at h';cases h'
section
variable(P:bC)(w:bN)
def Yv(H:Hp)(h:bY)(a:aI):HO->Prop
 |.lst xs=>xs.length<=bp/\∃(its:List al)(n:Nat),Vals xs its/\h.get? a=aa {cls:=.type "list",data:=.seq its.toArray n}
 |.tup xs=>xs.length<=bp/\∃its:List al,Vals xs its/\o8 h a its.toArray
 |.dK kvs=>kvs.length<=bp/\(a == gD)=ap/\∃vs,KV kvs vs/\h.DictOf (Yd P w) a vs
 |.dT kvs=>kvs.length<=bp/\(a == gD)=ap/\∃xs:List (List Key×aI×al),
   Paired (λ(p:List Key×V) (q:List Key×aI×al)=>p.1=q.1/\H q.2.1=aa (.tup<|p.1.map kV)/\ZA p.2 q.2.2) kvs xs/\
   ∃o es ep,h.get? a=aa o/\o.ExactDict/\o.data=.dict es ep/\es.toList=xs.map (entryOfKey<|nz<|Yd P w)/\(xs.map (·.1)).Nodup
 |.set S n=>h.SetOf (fS P w) a S n
 |.ins C dx fs=>H dx=aa (.own a)/\fs.length<=1000/\dx≠a/\h.get? a=aa (k9 C dx)/\
   ∃mA,h.Ns1 dx mA/\(∀f,GR (fs.lookup f)<|mA f)/\PySem.Within mA (fs.map (·.1))
 |.own _=>∃o,h.get? a=aa o
 |.xd fs=>∃mA,h.Ns1 a mA/\∀f,GR (fs.lookup f)<|mA f
 |.rng lo hi=>∃t u v,h.get? a=aa {cls:=.type "range",data:=.fields [.int lo t,.int hi u,.int 1 v].toArray}
 |.frz o u=>h.get? a=aa o/\Yv H h a u
 |.tbl ps=>h.get? a=aa {cls:=.none,data:=.fields ps}
 |.met f x=>h.get? a=aa (PySem.W.methodObj (.ref f)<|.ref x)
 |.ext φ=>φ h/\(∃o,h.get? a=aa o)/\∀h1 h2:bY,φ h1->(∀o,h1.get? a=aa o->h2.get? a=aa o)->φ h2
def HOk(H:Hp)(h:bY):Prop:=∀a o,H a=aa o->Yv P w H h a o
end
theorem Yv.lt(x:Yv P w H h a o):a<h.objs.size:=by
 cases o with|lst xs=>obtain⟨_,_,_,_,e⟩:=x;exact aF e|tup xs=>obtain⟨_,_,_,p⟩:=x;exact p.lt|dK kvs=>obtain⟨_,_,_,_,o,_,_,e,_⟩:=x;exact aF e|dT kvs=>obtain⟨_,_,_,_,o,_,_,e,_⟩:=x;exact aF e|set S n=>obtain⟨o,_,_,_,e,_⟩:=x;exact aF e|ins C dx fs=>obtain⟨_,_,_,e,_⟩:=x;exact aF e|own y=>obtain⟨_,e⟩:=x;exact aF e|xd fs=>obtain⟨_,⟨_,_,_,e,_⟩,_⟩:=x;exact aF e|rng lo hi=>obtain⟨_,_,_,e⟩:=x;exact aF e|frz ob u=>obtain⟨e,_⟩:=x;exact aF e|tbl ps=>exact aF (x)|met f y=>exact aF (x)|ext φ=>obtain⟨_,⟨_,e⟩,_⟩:=x;exact aF e
theorem Paired.mapP{B β:Type}{F G:B->β->Prop}:∀{l₁:List B}{l₂:List β},Paired F l₁ l₂->(∀a b,F a b->G a b)->Paired G l₁ l₂
 |_,_,.nil,_=>.nil
 |_,_,.cons r t,f=>.cons (f _ _ r)<|Paired.mapP t f
def Yv.stay(x:Yv P w H h a o)(k:∀b u,(b=a\/H b=aa (.own a))->h.get? b=aa u->h'.get? b=aa u)
  (ho:∀b,H b=aa (.own a)->H' b=aa (.own a))(ht:∀b xs,H b=aa (.tup xs)->H' b=aa (.tup xs)):Yv P w H' h' a o:=by
 induction o with
 |lst xs=>obtain⟨z,its,n,r,e⟩:=x;exact#[z,its,n,r,k _ _ (.inl rfl) e]
 |tup xs=>obtain⟨z,its,r,ob,e,c⟩:=x;exact#[z,its,r,ob,k _ _ (.inl rfl) e,c]
 |dK kvs=>obtain⟨z,y,vs,r,ob,es,ep,e,c⟩:=x;exact#[z,y,vs,r,ob,es,ep,k _ _ (.inl rfl) e,c]
 |dT kvs=>
  obtain⟨z,y,xs,r,ob,es,ep,e,c⟩:=x;exact#[z,y,xs,Paired.mapP r λp q z=>#[z.1,ht _ _ z.2.1,z.2.2],ob,es,ep,k _ _ (.inl rfl) e,c]
 |set S n=>obtain⟨ob,es,ep,t,e,c⟩:=x;exact#[ob,es,ep,t,k _ _ (.inl rfl) e,c]
 |ins C dx fs=>
  obtain⟨d,z,ne,e,mA,⟨od,es,ep,e2,c⟩,r⟩:=x;exact#[ho _ d,z,ne,k _ _ (.inl rfl) e,mA,#[od,es,ep,k _ _ (.inr d) e2,c],r]
 |own y=>obtain⟨ob,e⟩:=x;exact#[ob,k _ _ (.inl rfl) e]
 |xd fs=>obtain⟨mA,⟨od,es,ep,e,c⟩,r⟩:=x;exact#[mA,#[od,es,ep,k _ _ (.inl rfl) e,c],r]
 |rng lo hi=>obtain⟨t,u,v,e⟩:=x;exact#[t,u,v,k _ _ (.inl rfl) e]
 |frz ob u ih=>obtain⟨e,q⟩:=x;exact#[k _ _ (.inl rfl) e,ih q]
 |tbl ps=>
  have e:=x;exact k a _ (.inl rfl) e
 |met f y=>
  have e:=x;exact k a _ (.inl rfl) e
 |ext φ=>obtain⟨p,⟨o,e⟩,st⟩:=x;exact#[st _ _ p λo q=>k _ _ (.inl rfl) q,#[o,k _ _ (.inl rfl) e],st]
theorem HOk.lt(x:HOk P w H h)(e:H a=aa o):a<h.objs.size:=(x a o e).lt
def HOk.fresh(x:HOk P w H h)(e:h.objs.size<=a):H a=ae:=by
 cases q:H a with|none=>rfl|some u=>exact T7 (bg (x.lt q) e)<|br _
def HOk.kept(x:HOk P w H h)(k:∀b u,h.get? b=aa u->h'.get? b=aa u):HOk P w H h':=λa o e=>
 (x a o e).stay (λb u _ q=>k b u q) (λ_ q=>q) λ_ _ q=>q
def HOk.laid(x:HOk P w H h)(k:∀b u,h.get? b=aa u->h'.get? b=aa u)(hp:h.objs.size<=a)(new:Yv P w (upd H a o) h' a o):HOk P w (upd H a o) h':=λb u e=>by
 have hn:=x.fresh hp;by_cases hb:b=a
 .subst hb;rw[ZK]at e;cases e;exact new
 .rw[Zp hb]at e
  exact(x b u e).stay (λc v _ q=>k c v q) (λc q=>by rw[Zp<|ZF q hn];exact q) λc xs q=>by rw[Zp<|ZF q hn];exact q
def Rd(H:Hp)(a:aI)(u:HO):Prop:=H a=aa u\/∃o,H a=aa (.frz o u)
def Rd.ok(r:Rd H a u)(x:HOk P w H h):Yv P w H h a u:=by
 rcases r with r|⟨o,r⟩
 .exact x a u r
 .obtain⟨_,q⟩:=x a _ r
  exact q
def Mut:Option HO->Prop
 |some (.lst _)=>True
 |some (.dK _)=>True
 |some (.dT _)=>True
 |some (.set _ _)=>True
 |some (.ins _ _ _)=>True
 |some (.ext _)=>True
 |_=>False
def HOk.write(ok:HOk P w H h)(mu:Mut (H x))(he:e=x\/H e=aa (.own x))(k:∀b u,b≠e->h.get? b=aa u->h'.get? b=aa u)(heo:∃u,h'.get? e=aa u)
  (new:Yv P w (upd H x o') h' x o'):HOk P w (upd H x o') h':=λb u q=>by
 have nown:∀c y,H c=aa (.own y)->c≠x:=λc y r z=>by subst z;rw[r]at mu;exact mu
 have ntup:∀c xs,H c=aa (.tup xs)->c≠x:=λc xs r z=>by subst z;rw[r]at mu;exact mu
 by_cases hb:b=x
 .subst hb;rw[ZK]at q;cases q;exact new
 .rw[Zp hb]at q
  by_cases hbe:b=e
  .have q':H b=aa (.own x):=by
    rcases he with z|z
    .exact T7 (hbe.trans z) hb
    .rw[hbe];exact z
   rw[q]at q';cases q';obtain⟨v,hv⟩:=heo;exact#[v,by rw[hbe];exact hv]
  .refine(ok b u q).stay (λc v hc r=>k c v ?_ r) (λc r=>by rw[Zp<|nown c b r];exact r) λc xs r=>by rw[Zp<|ntup c xs r];exact r
   rcases hc with rfl|hc
   .exact hbe
   .rintro rfl
    rcases he with z|z
    .exact nown c b hc z
    .rw[hc]at z;cases z;exact hb rfl
structure Un(fs ex:List aI)(H H':Hp)(h h':bY):Prop where
 keep:∀b o,h.get? b=aa o->H b=ae->b∉fs->b∉ex->h'.get? b=aa o
 slot:∀b o,h.get? b=aa o->H b=ae->b∈fs->b∉ex->∃sl,h'.get? b=aa {o with slots:=sl}
 free:∀b o,h.get? b=aa o->H b=ae->b∉ex->H' b=ae
 there:∀b o,h.get? b=aa o->b∉ex->∃o',h'.get? b=aa o'
 tups:∀b xs,H b=aa (.tup xs)->H' b=aa (.tup xs)
 frzs:∀b o u,H b=aa (.frz o u)->H' b=aa (.frz o u)
 tbls:∀b ps,H b=aa (.tbl ps)->∃more,H' b=aa (.tbl<|ps++more)
def Un.any(u:Un fs ex H H1 h h1)(q:h.get? b=aa ob)(n:H b=ae)(hx:b∉ex):∃sl,h1.get? b=aa {ob with slots:=sl}:=by
 by_cases hb:b∈fs
 .exact u.slot b ob q n hb hx
 .exact#[ob.slots,u.keep b ob q n hb hx]
def Un.kept(k:∀b u,h.get? b=aa u->h'.get? b=aa u):Un fs ex H H h h':=
 #[λb ob q _ _ _=>k b ob q,λb ob q _ _ _=>#[ob.slots,k b ob q],λ_ _ _ n _=>n,λb ob q _=>#[ob,k b ob q],λ_ _ q=>q,λ_ _ _ q=>q,λ_ ps q=>#[#[],by rw[q];simp]]
def Un.refl:Un fs ex H H h h:=Un.kept λ_ _ q=>q
def Un.laid(k:∀b u,h.get? b=aa u->h'.get? b=aa u)(hp:h.objs.size<=a)(hn:H a=ae):Un fs ex H (upd H a o) h h' where
 keep:=λb u q _ _ _=>k b u q
 slot:=λb u q _ _ _=>#[u.slots,k b u q]
 free:=λb u q n _=>by rw[Zp<|bv<|bg (aF q) hp];exact n
 there:=λb u q _=>#[u,k b u q]
 tups:=λb xs q=>by rw[Zp<|ZF q hn];exact q
 frzs:=λb u xs q=>by rw[Zp<|ZF q hn];exact q
 tbls:=λb ps q=>#[#[],by rw[Zp<|ZF q hn,q];simp]
def Un.write(mu:Mut (H x))(he:e=x\/H e=aa (.own x))(k:∀b u,b≠e->h.get? b=aa u->h'.get? b=aa u)(heo:∃u,h'.get? e=aa u):Un fs ex H (upd H x o) h h':=by
 have hx:∀b,H b=ae->b≠x:=λb n z=>by subst z;rw[n]at mu;exact mu
 have hb:∀b,H b=ae->b≠e:=λb n z=>by
  subst z;rcases he with r|r
  .exact hx b n r
  .rw[n]at r;cases r
 have hm:∀b u,H b=aa u->¬Mut (aa u)->b≠x:=λb u q nm z=>by subst z;rw[q]at mu;exact nm mu
 refine#[λb u q n _ _=>k b u (hb b n) q,λb u q n _ _=>#[u.slots,k b u (hb b n) q],λb u q n _=>by rw[Zp<|hx b n];exact n,λb u q _=>?_,
  λb xs q=>by rw[Zp<|hm b _ q λz=>z];exact q,λb u xs q=>by rw[Zp<|hm b _ q λz=>z];exact q,λb ps q=>#[#[],by rw[Zp<|hm b _ q λz=>z,q];simp]]
 by_cases hbe:b=e
 .subst hbe;exact heo
 .exact#[u,k b u hbe q]
noncomputable def trk(h:bY)(H:Hp):List aI:=(aM h.objs.size).filter λa=>(H a).isSome
noncomputable def QX(h:bY)(H:Hp):bY:=PySem.W.hideAll h<|trk h H
def y9(h:bY)(H:Hp):(QX h H).objs.size=h.objs.size:=PySem.W.hideAll_size _ _
def uI(e:h.get? b=aa o)(n:H b=ae):(QX h H).get? b=aa o:=
 PySem.W.hideAll_get _ e λhm=>by
  have q:=(fg.mp hm).2;rw[n]at q;simp at q
def jM(e:(QX h H).get? b=aa o):h.get? b=aa o/\H b=ae:=by
 have e':=PySem.W.of_hideAll (trk h H) e;refine#[e',?_];cases q:H b with
 |none=>rfl
 |some x=>
  have hm:b∈trk h H:=fg.mpr #[aU.mpr<|aF e',by simp[q]]
  have z:(QX h H).get? b=ae:=PySem.W.hideAll_none (trk h H) hm;rw[z]at e;cases e
structure Mod(K:ao)(mg:bG->Option al)(base:bY):Prop where
 kin:K.In base
 glob:base.Ns cH mg
 blt:∃mb,base.Ns mC mb/\∀x:bG,x≠"__name__"->mb x=cZ x
 nolimit:base.NoLimit
structure Cx where
 prog:bC
 w:bN
 K:ao
 mg:bG->Option al
 base:bY
 A:cD
 N:List bG
 s₀:aw
 H₀:Hp
 env:Env
 outer:List Env
 stack:List Env
 ex:List aI
 fn:bG->Bool
 calm:Bool
 pn:List (aI×fD)
 xe:al->aw->Prop
noncomputable def frs(l:List Env):List aI:=l.filterMap (·.frame)
noncomputable abbrev Cx.fs(X:Cx):List aI:=frs X.outer
def Vis(sc:eR)(x:bG):Prop:=sc.names.lookup x=aa .local\/sc.names.lookup x=aa .cell\/sc.names.lookup x=aa .free
def Loc(sc:eR)(x:bG):Prop:=sc.names.lookup x=aa .local\/sc.names.lookup x=aa .cell
def Look(env:Env)(h:bY)(m:bG->Option al)(x:bG)(u:al):Prop:=
 (env.kindOf x=aa .local/\m x=aa u)\/((env.kindOf x=aa .cell\/env.kindOf x=aa .free)/\∃c,env.cells.lookup x=aa c/\h.IsCell c (aa u))
structure Cx.Ok(X:Cx):Prop where
 mod:Mod X.K X.mg X.base
 kind:X.env.scope.kind=.function
 glob:X.env.globals=cH
 blt:X.env.builtins=mC
 above:X.s₀.heap.objs.size<=X.env.locals
 inj:∀x y c,X.env.cells.lookup x=aa c->X.env.cells.lookup y=aa c->x=y
 has:∀x,(X.env.kindOf x=aa .cell\/X.env.kindOf x=aa .free)->∃c,X.env.cells.lookup x=aa c
 cab:∀x c,X.fn x=am->X.env.cells.lookup x=aa c->X.s₀.heap.objs.size<=c
 hd:X.calm=am->X.A.handled=ae
 frames:X.A.frames=aa X.stack
 stk:X.stack=X.outer\/(X.stack=X.env::X.outer/\X.env.frame=aa X.env.locals)
 exf:∀b∈X.ex,b≠X.env.locals/\∀x c,X.env.cells.lookup x=aa c->c≠b
 bs:∀b o,X.base.get? b=aa o->X.s₀.heap.get? b=aa o/\X.H₀ b=ae
 bsz:X.base.objs.size<=X.s₀.heap.objs.size
 noex:∀b o,X.base.get? b=aa o->b∉X.ex
 exfs:∀b∈X.ex,b∉X.fs
 funs:X.s₀.heap.FunFrames X.base X.outer
 frf:∀b∈X.fs,X.H₀ b=ae
structure Inv(X:Cx)(pq:List (aI×fD))(Z:List (Option V))(H:Hp)(s:aw):Prop where
 ok:X.Ok
 os:s.os=X.s₀.os
 bare:iX s.gens
 base:Un X.fs X.ex X.H₀ H X.s₀.heap s.heap
 loc:∃m,s.heap.Ns X.env.locals m/\∀(i:Nat)(x:bG)(v:V),X.N[i]?=aa x->Z[i]?=aa (aa v)->Vis X.env.scope x->∃u,ZA v u/\Look X.env s.heap m x u
 cell:∀x c,X.env.cells.lookup x=aa c->∃v,s.heap.IsCell c v
 free:H X.env.locals=ae
 freeC:∀x c,X.env.cells.lookup x=aa c->H c=ae
 pin:∀p∈X.pn++pq,s.heap.get? p.1=aa p.2/\H p.1=ae/\p.1≠X.env.locals/\p.1∉X.fs/\∀v,p.2.data≠.cell v
 hok:HOk X.prog X.w H s.heap
 len:Z.length=X.N.length
section
variable{X:Cx}{pq:List (aI×fD)}{Z:List (Option V)}{H H':Hp}{s:aw}{h':bY}
def Cx.Ok.nofr(ok:X.Ok)(e:X.base.get? b=aa o):b∉X.fs:=λhb=>by
 have:=(ok.funs.mem hb).1;rw[e]at this;cases this
theorem Inv.bs(I:Inv X pq Z H s):∀b o,X.base.get? b=aa o->s.heap.get? b=aa o/\H b=ae:=λb o e=>
 #[I.base.keep b o (I.ok.bs b o e).1 (I.ok.bs b o e).2 (I.ok.nofr e)<|I.ok.noex b o e,I.base.free b o (I.ok.bs b o e).1 (I.ok.bs b o e).2<|I.ok.noex b o e]
def Inv.bk(I:Inv X pq Z H s):∀b o,X.base.get? b=aa o->s.heap.get? b=aa o:=λb o e=>(I.bs b o e).1
theorem Inv.mod(I:Inv X pq Z H s):Mod X.K X.mg X.base:=I.ok.mod
def Inv.kIn(I:Inv X pq Z H s):X.K.In s.heap:=I.ok.mod.kin.keeps I.bk
theorem Inv.lt(I:Inv X pq Z H s):X.env.locals<s.heap.objs.size:=let #[_,hn,_]:=I.loc;hn.lt
def Inv.sz(I:Inv X pq Z H s):X.s₀.heap.objs.size<=s.heap.objs.size:=cO I.ok.above<|ga I.lt
def Inv.nofs(I:Inv X pq Z H s)(h:s.heap.objs.size<=a):a∉X.fs:=λhb=>by
 obtain⟨_,o,ho,_⟩:=I.ok.funs.mem hb;exact T7 (bg (aF ho)<|cO I.sz h)<|br _
def Inv.cne(I:Inv X pq Z H s):∀x c,X.env.cells.lookup x=aa c->c≠X.env.locals:=λx c e z=>by
 obtain⟨v,o,ho,hd⟩:=I.cell x c e;obtain⟨m,⟨o',es,ep,ho',hd',_⟩,_⟩:=I.loc;rw[z,ho']at ho;cases ho;rw[hd']at hd;cases hd
theorem Inv.funs(I:Inv X pq Z H s):s.heap.FunFrames X.base X.outer:=by
 have all:∀(l:List Env),(∀b∈frs l,b∈X.fs)->X.s₀.heap.FunFrames X.base l->s.heap.FunFrames X.base l:=by
  intro l
  induction l with
  |nil=>intro _ _;trivial
  |cons env r ih=>
   intro hs hl;obtain⟨hk,⟨L,o,hf,hn,ho,hd⟩,hr⟩:=hl;have hL:=hs L (by unfold frs;rw[dP,hf];exact ak)
   obtain⟨sl,e⟩:=I.base.slot L o ho (I.ok.frf L hL) hL λz=>I.ok.exfs L z hL
   exact#[hk,#[L,_,hf,hn,e,hd],ih (λb hb=>hs b<|by unfold frs;rw[dP,hf];exact aj _ hb) hr]
 exact all X.outer (λ_ hb=>hb) I.ok.funs
theorem Inv.stack(I:Inv X pq Z H s):s.heap.FunFrames X.base X.stack:=by
 rcases I.ok.stk with e|⟨e,hf⟩
 .rw[e];exact I.funs
 .rw[e]
  obtain⟨m,hn,_⟩:=I.loc;refine .cons (by rw[I.ok.kind];decide) hf hn ?_ I.funs
  exact bY.get?_none_of_le<|cO I.ok.bsz I.ok.above
def Inv.stkSub(I:Inv X pq Z H s):∀b∈frs X.stack,b∈X.env.locals::X.fs:=λb hb=>by
 rcases I.ok.stk with e|⟨e,hf⟩
 .rw[e]at hb;exact aj _ hb
 .rw[e]at hb
  unfold frs at hb;rw[dP,hf]at hb;exact hb
def Inv.stkFree(I:Inv X pq Z H s):∀b∈frs X.stack,H b=ae:=λb hb=>by
 rcases aA.mp (I.stkSub b hb)with e|hb
 .rw[e];exact I.free
 .obtain⟨_,o,ho,_⟩:=I.ok.funs.mem hb
  exact I.base.free b o ho (I.ok.frf b hb) λz=>I.ok.exfs b z hb
def Inv.step{g':Array GenState}{t':Nat}{d':Drawn}{ch:List aI}(I:Inv X pq Z H s)
  (hch:∀b∈ch,(b∈X.ex\/X.s₀.heap.objs.size<=b)/\b≠X.env.locals/\(∀x c,X.env.cells.lookup x=aa c->c≠b)/\∀p∈X.pn++pq,p.1≠b)
  (keep:∀b o,b≠X.env.locals->b∉X.fs->b∉ch->s.heap.get? b=aa o->H b=ae->h'.get? b=aa o)
  (slot:∀b o,b≠X.env.locals->b∈X.fs->b∉ch->s.heap.get? b=aa o->H b=ae->∃sl,h'.get? b=aa {o with slots:=sl})(free:∀b o,b∉ch->s.heap.get? b=aa o->H b=ae->H' b=ae)
  (there:∀b o,b∉ch->s.heap.get? b=aa o->∃o',h'.get? b=aa o')
  (tups:∀b xs,H b=aa (.tup xs)->H' b=aa (.tup xs))(frzs:∀b o u,H b=aa (.frz o u)->H' b=aa (.frz o u))(tbls:∀b ps,H b=aa (.tbl ps)->∃more,H' b=aa (.tbl<|ps++more))
  (ns:∀m,s.heap.Ns X.env.locals m->h'.Ns X.env.locals m)(hok:HOk X.prog X.w H' h')(hg:iX g') :
  Inv X pq Z H' {s with heap:=h',gens:=g',drawn:=d',toks:=t' }:=by
 have neL:∀b o,X.s₀.heap.get? b=aa o->b≠X.env.locals:=λb o e=>bv<|bg (aF e) I.ok.above
 have neC:∀b o,X.s₀.heap.get? b=aa o->b∉X.ex->b∉ch:=λb o e hx hb=>by
  rcases(hch b hb).1 with z|z
  .exact hx z
  .exact T7 (bg (aF e) z)<|br _
 have cellK:∀x c,X.env.cells.lookup x=aa c->∀v,s.heap.IsCell c v->h'.IsCell c v:=by
  rintro x c e v ⟨o,ho,hd⟩;have nch:=λz=>(hch c z).2.2.1 x c e rfl
  by_cases hc:c∈X.fs
  .obtain⟨sl,q⟩:=slot c o (I.cne x c e) hc nch ho (I.freeC x c e)
   exact#[_,q,hd]
  .exact#[o,keep c o (I.cne x c e) hc nch ho<|I.freeC x c e,hd]
 refine#[I.ok,I.os,hg,#[λb o e n hb hx=>?_,λb o e n hb hx=>?_,λb o e n hx=>?_,λb o e hx=>?_,λb xs e=>tups b xs<|I.base.tups b xs e,λb o xs e=>frzs b o xs<|I.base.frzs b o xs e,λb ps e=>?_],?_,λx c e=>?_,?_,λx c e=>?_,λp hp=>?_,hok,I.len]
 .exact keep b o (neL b o e) hb (neC b o e hx) (I.base.keep b o e n hb hx)<|I.base.free b o e n hx
 .obtain⟨sl,e1⟩:=I.base.slot b o e n hb hx
  obtain⟨sl',e2⟩:=slot b _ (neL b o e) hb (neC b o e hx) e1<|I.base.free b o e n hx;exact#[sl',e2]
 .obtain⟨o',e1⟩:=I.base.there b o e hx
  exact free b o' (neC b o e hx) e1<|I.base.free b o e n hx
 .obtain⟨o',e1⟩:=I.base.there b o e hx
  exact there b o' (neC b o e hx) e1
 .obtain⟨m1,e1⟩:=I.base.tbls b ps e
  obtain⟨m2,e2⟩:=tbls b _ e1;exact#[m1++m2,by rw[e2,Array.append_assoc]]
 .obtain⟨m,hn,hl⟩:=I.loc
  refine#[m,ns m hn,λi x v e1 e2 e3=>?_]
  obtain⟨u,r,l⟩:=hl i x v e1 e2 e3;refine#[u,r,?_];rcases l with l|⟨k,c,e,z⟩
  .exact .inl l
  .exact .inr #[k,c,e,cellK x c e _ z]
 .obtain⟨v,z⟩:=I.cell x c e
  exact#[v,cellK x c e v z]
 .obtain⟨m,⟨o,_,_,ho,_⟩,_⟩:=I.loc
  exact free _ o (λz=>(hch _ z).2.1 rfl) ho I.free
 .obtain⟨v,o,ho,hd⟩:=I.cell x c e
  exact free c o (λz=>(hch c z).2.2.1 x c e rfl) ho<|I.freeC x c e
 .obtain⟨e,n,ne,nf,d⟩:=I.pin p hp
  have nch:=λz=>(hch p.1 z).2.2.2 p hp rfl
  exact#[keep p.1 p.2 ne nf nch e n,free p.1 p.2 nch e n,ne,nf,d]
def Inv.un{t':Nat}(I:Inv X pq Z H s)(u:Un X.fs [] H H' s.heap h')(hok:HOk X.prog X.w H' h'):Inv X pq Z H' {s with heap:=h',toks:=t' }:=by
 obtain⟨m,⟨o,es,ep,ho,r⟩,_⟩:=id I.loc;obtain⟨sl,hL⟩:=u.any ho I.free (by simp)
 exact I.step (g':=s.gens) (d':=s.drawn) (ch:=[]) (λ_ z=>nomatch z) (λb o _ hb _ e n=>u.keep b o e n hb<|by simp) (λb o _ hb _ e n=>u.slot b o e n hb<|by simp) (λb o _ e n=>u.free b o e n<|by simp) (λb o _ e=>u.there b o e<|by simp) u.tups u.frzs u.tbls (λm' hm=>by
  obtain⟨o',es',ep',ho',r'⟩:=hm;rw[ho]at ho';cases ho';exact#[_,es',ep',hL,r']) hok I.bare
def Inv.call{g':Array GenState}{t':Nat}{d':Drawn}{ch:List aI}(I:Inv X pq Z H s)(u:Un (frs X.stack) ch H H' s.heap h')(hok:HOk X.prog X.w H' h')(hg:iX g')
  (hch:∀b∈ch,(b∈X.ex\/X.s₀.heap.objs.size<=b)/\b≠X.env.locals/\(∀x c,X.env.cells.lookup x=aa c->c≠b)/\∀p∈X.pn++pq,p.1≠b) :
  Inv X pq Z H' {s with heap:=h',gens:=g',drawn:=d',toks:=t' }:=by
 obtain⟨m,⟨o,es,ep,ho,r⟩,_⟩:=id I.loc;obtain⟨sl,hL⟩:=u.any ho I.free λz=>(hch _ z).2.1 rfl
 exact I.step hch (λb o hL hb hc e n=>u.keep b o e n (λz=>(aA.mp<|I.stkSub b z).elim hL hb) hc) (λb o _ _ hc e n=>u.any e n hc) (λb o hc e n=>u.free b o e n hc) (λb o hc e=>u.there b o e hc) u.tups u.frzs u.tbls (λm' hm=>by
  obtain⟨o',es',ep',ho',r'⟩:=hm;rw[ho]at ho';cases ho';exact#[_,es',ep',hL,r']) hok hg
def Inv.turned{t':Nat}{it:aI}(I:Inv X pq Z H s)(k:∀b o,b≠it->s.heap.get? b=aa o->h'.get? b=aa o)(hn:H it=ae)(hL:it≠X.env.locals)
  (h1:it∈X.ex\/X.s₀.heap.objs.size<=it)(h2:∀x c,X.env.cells.lookup x=aa c->c≠it)(h3:∀p∈X.pn++pq,p.1≠it):Inv X pq Z H {s with heap:=h',toks:=t' }:=by
 have nit:∀b u,H b=aa u->b≠it:=λb u e z=>by rw[z,hn]at e;cases e
 refine I.step (g':=s.gens) (d':=s.drawn) (ch:=[it]) (λb hb=>?_) (λb o _ _ hc e _=>k b o (λz=>hc<|by simp[z]) e) (λb o _ _ hc e _=>#[o.slots,k b o (λz=>hc<|by simp[z]) e]) (λ_ _ _ _ n=>n)
  (λb o hc e=>#[o,k b o (λz=>hc<|by simp[z]) e]) (λ_ _ e=>e) (λ_ _ _ e=>e) (λb ps e=>#[#[],by rw[e];simp]) (λm hm=>?_) (λb u e=>?_) I.bare
 .have e:b=it:=by simpa using hb
  subst e;exact#[h1,hL,h2,h3]
 .obtain⟨o,es,ep,ho,r⟩:=hm
  exact#[o,es,ep,k _ o (Ne.symm hL) ho,r]
 .refine(I.hok b u e).stay (λc v hc q=>k c v ?_ q) (λ_ q=>q) λ_ _ q=>q
  rcases hc with z|z
  .rw[z];exact nit b u e
  .exact nit c _ z
def Inv.tok(I:Inv X pq Z H s)(t:Nat):Inv X pq Z H {s with toks:=t}:=I.un (h':=s.heap) (t':=t) Un.refl I.hok
theorem Inv.kept(I:Inv X pq Z H s)(k:∀b u,s.heap.get? b=aa u->h'.get? b=aa u):Inv X pq Z H {s with heap:=h',toks:=t' }:=I.un (Un.kept k)<|I.hok.kept k
theorem Inv.laid(I:Inv X pq Z H s)(k:∀b u,s.heap.get? b=aa u->h'.get? b=aa u)(hp:s.heap.objs.size<=a)(new:Yv X.prog X.w (upd H a o) h' a o) :
  Inv X pq Z (upd H a o) {s with heap:=h',toks:=t' }:=I.un (Un.laid k hp<|I.hok.fresh hp)<|I.hok.laid k hp new
theorem Inv.write(I:Inv X pq Z H s)(mu:Mut (H x))(he:e=x\/H e=aa (.own x))(k:∀b u,b≠e->s.heap.get? b=aa u->h'.get? b=aa u)(heo:∃u,h'.get? e=aa u)
  (new:Yv X.prog X.w (upd H x o) h' x o):Inv X pq Z (upd H x o) {s with heap:=h',toks:=t' }:=I.un (Un.write mu he k heo)<|I.hok.write mu he k heo new
def Inv.pins_of(I:Inv X pq Z H s)(h:∀p∈pins',s.heap.get? p.1=aa p.2/\H p.1=ae/\p.1≠X.env.locals/\p.1∉X.fs/\∀v,p.2.data≠.cell v):Inv X pins' Z H s:=
 #[I.ok,I.os,I.bare,I.base,I.loc,I.cell,I.free,I.freeC,λp hp=>(c0.mp hp).elim (λz=>I.pin p<|b6 _ z)<|h p,I.hok,I.len]
def Jd{N:List bG}(hN:N.Nodup){i j:Nat}{x:bG}(a:N[i]?=aa x)(b:N[j]?=aa x):i=j:=by
 obtain⟨h1,e1⟩:=bc.mp a;obtain⟨h2,e2⟩:=bc.mp b;exact(List.getElem_inj hN).mp<|e1.trans e2.symm
def Wu{M:Model}{A:cD}{E:al->aw->Prop}{i:Nat}{x:bG}{v:V}{u:al}{Q:Unit->aw->Prop}(I:Inv X pq Z H s)(hN:X.N.Nodup)(hi:X.N[i]?=aa x)(hx:Loc X.env.scope x)(r:ZA v u)
  (h:∀s',Inv X pq (Z.set i<|aa v) H s'->(∃a,eZ a s.heap s'.heap/\(a=X.env.locals\/X.env.cells.lookup x=aa a))->Q () s')(hf:X.fn x=am\/X.env.scope.names.lookup x=aa .local:=by first|exact .inl rfl|exact .inr rfl|assumption):aW M A (storeName X.env x u) Q E s:=by
 obtain⟨m,hn,hl⟩:=id I.loc;have hcls:(X.env.scope.kind == .class||(X.env.scope.kind == .module&&X.env.locals != X.env.globals))=ap:=by rw[I.ok.kind];rfl
 have hiσ:i<Z.length:=by rw[I.len];exact(bc.mp hi).1
 have cne:=I.cne;have tracked:∀{a:aI}{h':bY},(∃o,s.heap.get? a=aa o/\H a=ae)->eZ a s.heap h'->HOk X.prog X.w H h':=λ{a h'} ha hs b ob e=>by
  obtain⟨_,_,hfree⟩:=ha;refine(I.hok b ob e).stay (λc w' hc q=>(hs.2 c ?_).trans q) (λ_ q=>q) λ_ _ q=>q
  rintro rfl
  rcases hc with rfl|hc
  .rw[hfree]at e;cases e
  .rw[hfree]at hc;cases hc
 rcases hx with hk|hk
 .refine wpAny_storeName_local hk hn (λh' hn' hs=>?_) hcls
  obtain⟨oL,_,_,hoL,_⟩:=id hn;refine h _ #[I.ok,I.os,I.bare,#[λb o e n hb hx=>?_,λb o e n hb hx=>?_,I.base.free,λb o e hx=>?_,I.base.tups,I.base.frzs,I.base.tbls],#[_,hn',λj y v' e1 e2 e3=>?_],λy c e=>?_,I.free,I.freeC,λp hp=>?_,tracked #[oL,hoL,I.free] hs,by simpa using I.len] #[_,hs,.inl rfl]
  .exact(hs.2 b<|bv<|bg (aF e) I.ok.above).trans<|I.base.keep b o e n hb hx
  .obtain⟨sl,e1⟩:=I.base.slot b o e n hb hx
   exact#[sl,(hs.2 b<|bv<|bg (aF e) I.ok.above).trans e1]
  .obtain⟨o',e1⟩:=I.base.there b o e hx
   exact#[o',(hs.2 b<|bv<|bg (aF e) I.ok.above).trans e1]
  .by_cases hj:j=i
   .subst hj
    rw[hi]at e1;cases e1;rw[b8 hiσ]at e2;cases e2;exact#[u,r,.inl #[hk,by simp]]
   .rw[bt<|Ne.symm hj]at e2
    obtain⟨u',r',q⟩:=hl j y v' e1 e2 e3;refine#[u',r',?_];rcases q with⟨k,e⟩|⟨k,c,e,z⟩
    .refine .inl #[k,?_]
     have:y≠x:=λe=>hj<|Jd hN e1<|e▸hi
     simp[this,e]
    .exact .inr #[k,c,e,z.sameBut hs<|cne y c e]
  .obtain⟨w',z⟩:=I.cell y c e
   exact#[w',z.sameBut hs<|cne y c e]
  .obtain⟨e,n,ne,nf,d⟩:=I.pin p hp
   exact#[(hs.2 p.1 ne).trans e,n,ne,nf,d]
 .have hfn:X.fn x=am:=by
   rcases hf with z|z
   .exact z
   .rw[z]at hk;cases hk
  obtain⟨c,hc⟩:=I.ok.has x<|.inl hk;obtain⟨w',z⟩:=I.cell x c hc;refine wpAny_storeName_cell I.ok.kind hk hc z λh' hc' hs=>?_
  obtain⟨oc,hoc,hocd⟩:=id z;refine h {s with heap:=h' } #[I.ok,I.os,I.bare,#[λb o e n hb hx=>?_,λb o e n hb hx=>?_,I.base.free,λb o e hx=>?_,I.base.tups,I.base.frzs,I.base.tbls],#[m,hn.sameBut hs<|Ne.symm<|cne x c hc,λj y v' e1 e2 e3=>?_],λy c' e=>?_,I.free,I.freeC,λp hp=>?_,tracked #[oc,hoc,I.freeC x c hc] hs,by simpa using I.len] #[c,hs,.inr hc]
  .exact(hs.2 b<|bv<|bg (aF e)<|I.ok.cab x c hfn hc).trans<|I.base.keep b o e n hb hx
  .obtain⟨sl,e1⟩:=I.base.slot b o e n hb hx
   exact#[sl,(hs.2 b<|bv<|bg (aF e)<|I.ok.cab x c hfn hc).trans e1]
  .obtain⟨o',e1⟩:=I.base.there b o e hx
   exact#[o',(hs.2 b<|bv<|bg (aF e)<|I.ok.cab x c hfn hc).trans e1]
  .by_cases hj:j=i
   .subst hj
    rw[hi]at e1;cases e1;rw[b8 hiσ]at e2;cases e2;exact#[u,r,.inr #[.inl hk,c,hc,hc']]
   .rw[bt<|Ne.symm hj]at e2
    obtain⟨u',r',q⟩:=hl j y v' e1 e2 e3;refine#[u',r',?_];rcases q with q|⟨k,c',e,z'⟩
    .exact .inl q
    .refine .inr #[k,c',e,z'.sameBut hs ?_]
     rintro rfl
     exact hj<|Jd hN e1<|I.ok.inj _ _ _ e hc▸hi
  .by_cases hcc:c'=c
   .subst hcc;exact#[_,hc']
   .obtain⟨w2,z2⟩:=I.cell y c' e
    exact#[w2,z2.sameBut hs hcc]
  .obtain⟨e,n,ne,nf,d⟩:=I.pin p hp
   refine#[(hs.2 p.1 ?_).trans e,n,ne,nf,d];intro q;rw[q,hoc]at e;have q':=ag e;exact d w' (by rw[<-q'];exact hocd)
def Jr{E:al->aw->Prop}{Q:Unit->aw->Prop}(I:Inv X pq Z H s)(hN:X.N.Nodup)(hi:X.N[i]?=aa x)(hx:Loc X.env.scope x)(r:ZA v u)
  (h:∀s',Inv X pq (Z.set i<|aa v) H s'->Q () s')(hf:X.fn x=am\/X.env.scope.names.lookup x=aa .local:=by first|exact .inl rfl|exact .inr rfl|assumption):aW M A (storeName X.env x u) Q E s:=
 Wu I hN hi hx r (λs' I' _=>h s' I') hf
def Inv.call'(I:Inv X pq Z H s)(ho:s'.os=s.os)(u:Un (frs X.stack) ch H H' s.heap s'.heap)(hok:HOk X.prog X.w H' s'.heap)(hg:iX s'.gens)
  (hch:∀b∈ch,(b∈X.ex\/X.s₀.heap.objs.size<=b)/\b≠X.env.locals/\(∀x c,X.env.cells.lookup x=aa c->c≠b)/\∀p∈X.pn++pq,p.1≠b):Inv X pq Z H' s':=by
 obtain⟨h',g',d',t',o'⟩:=s';have e:=ho;subst e;exact I.call (g':=g') (t':=t') (d':=d') u hok hg hch
end
abbrev XK:=al->Option aI->Hp->Prop
abbrev St:=List<|Option V
abbrev VK:=V->Hp->Prop
abbrev TE:=St->Hp->VK->Prop
abbrev TT:=St->Hp->(Bool->Hp->Prop)->Prop
abbrev TA:=St->Hp->(List V->Hp->Prop)->Prop
structure Ends where
 nx:St->Hp->Prop
 rt:VK
 bk:St->Hp->Prop:=λ_ _=>False
 ct:St->Hp->Prop:=λ_ _=>False
abbrev TS:=Ends->St->Hp->Prop
def EP(X:Cx)(pq:List (aI×fD))(Z:St)(Q:VK)(u:al)(s':aw):Prop:=∃v H',Inv X pq Z H' s'/\ZA v u/\Q v H'
def TP(X:Cx)(pq:List (aI×fD))(Z:St)(Q:Bool->Hp->Prop)(b:Bool)(s':aw):Prop:=∃H',Inv X pq Z H' s'/\Q b H'
def AP(X:Cx)(pq:List (aI×fD))(Z:St)(Q:List V->Hp->Prop)(us:List al)(s':aw):Prop:=∃vs H',Inv X pq Z H' s'/\Vals vs us/\Q vs H'
def SP(X:Cx)(pq:List (aI×fD))(D:Ends)(f:Flow)(s':aw):Prop:=
 match f with
 |.next=>∃σ' H',Inv X pq σ' H' s'/\D.nx σ' H'
 |.brk=>∃σ' H',Inv X pq σ' H' s'/\D.bk σ' H'
 |.cont=>∃σ' H',Inv X pq σ' H' s'/\D.ct σ' H'
 |.ret u=>∃v σ' H',Inv X pq σ' H' s'/\ZA v u/\D.rt v H'
def PE(X:Cx)(e:Expr)(t:TE):Prop:=
 ∀(pq:List (aI×fD))(s:aw)(Z:St)(H:Hp)(Q:VK),Inv X pq Z H s->t Z H Q->aW (aQ X.prog X.w) X.A (c8 e X.env) (EP X pq Z Q) X.xe s
def PT(X:Cx)(e:Expr)(t:TT):Prop:=
 ∀(pq:List (aI×fD))(s:aw)(Z:St)(H:Hp)(Q:Bool->Hp->Prop),Inv X pq Z H s->t Z H Q->aW (aQ X.prog X.w) X.A (isTrue e X.env<|c8 e X.env) (TP X pq Z Q) X.xe s
def PW(X:Cx)(e:Expr)(t:TT):Prop:=
 ∀(whole:nA al)(pq:List (aI×fD))(s:aw)(Z:St)(H:Hp)(Q:Bool->Hp->Prop),Inv X pq Z H s->t Z H Q->aW (aQ X.prog X.w) X.A (isTrue e X.env whole) (TP X pq Z Q) X.xe s
def PW.pt(h:PW X e t):PT X e t:=h _
def PA(X:Cx)(es:List Expr)(t:TA):Prop:=
 ∀(pos:iw)(pq:List (aI×fD))(s:aw)(Z:St)(H:Hp)(Q:List V->Hp->Prop),Inv X pq Z H s->t Z H Q->aW (aQ X.prog X.w) X.A (spliced<|fN pos<|aL es X.env) (AP X pq Z Q) X.xe s
def PS(X:Cx)(st:fE)(t:TS):Prop:=
 ∀(pq:List (aI×fD))(s:aw)(Z:St)(H:Hp)(D:Ends),Inv X pq Z H s->t D Z H->aW (aQ X.prog X.w) X.A (exec st X.env) (SP X pq D) X.xe s
def PSs(X:Cx)(st:List fE)(t:TS):Prop:=
 ∀(pq:List (aI×fD))(s:aw)(Z:St)(H:Hp)(D:Ends),Inv X pq Z H s->t D Z H->aW (aQ X.prog X.w) X.A (execs st X.env) (SP X pq D) X.xe s
def thn{B:Type}{t:nA B}{Q Q':B->aw->Prop}{M:Model}{A:cD}{E:al->aw->Prop}{s:aw}(h:aW M A t Q E s)(hQ:∀a s,Q a s->Q' a s):aW M A t Q' E s:=cL h hQ λ_ _ x=>x
def ZdE(i:Nat):TE:=λZ H Q=>∃v,Z[i]?=aa (aa v)/\Q v H
def tC(v:V):TE:=λ_ H Q=>Q v H
def wN(hN:X.N[i]?=aa x)(hv:Vis X.env.scope x)(hd:(x == ("__debug__" : bG))=ap:=by decide)(hcd:(x == ("__classdict__" : bG))=ap:=by decide):PE X (.Name x pos) (ZdE i):=by
 intro pq s Z H Q I h;obtain⟨v,e,h⟩:=h;obtain⟨m,hn,hl⟩:=I.loc;obtain⟨u,r,l⟩:=hl i x v hN e hv;have fin:EP X pq Z Q u s:=#[v,H,I,r,h];rcases l with⟨hk,hm⟩|⟨hk,c,hc,hcell⟩
 .exact oC (lF I.ok.kind hk hn hm fin) hd
 .rcases hk with hk|hk
  .exact oC (l6 I.ok.kind hk hc hcell fin) hd
  .exact oC (wpAny_loadName_free I.ok.kind hk hc hcell fin hcd) hd
def QV{i j pos}:PE X (.Constant (.int i) j pos) (tC<|.int i):=λ_ _ _ H _ I h=>wpAny_Constant_int #[.int i,H,I.tok _,#[_,rfl],h]
def ZaF{b j pos}:PE X (.Constant (.bool b) j pos) (tC<|.bl b):=λ_ _ _ H _ I h=>Constant_bool #[.bl b,H,I,rfl,h]
def ZaS{j pos}:PE X (.Constant .none j pos) (tC .non):=λ_ _ _ H _ I h=>Constant_none #[.non,H,I,rfl,h]
def Gl(X:Cx)(x:bG):Prop:=X.env.kindOf x=aa .globalImplicit
def jf{E:al->aw->Prop}{Q:al->aw->Prop}(I:Inv X pq Z H s)(hg:Gl X x)(hm:X.mg x=aa u)(h:Q u s)
  (hd:(x == ("__debug__" : bG))=ap:=by decide):aW (aQ X.prog X.w) X.A (c8 (.Name x pos) X.env) Q E s:=
 Calls.Name_function_global I.ok.kind hg (Calls.loadGlobal_global (by rw[I.ok.glob];exact I.mod.glob.keeps I.bk) hm h) hd
def YU{E:al->aw->Prop}{Q:al->aw->Prop}(I:Inv X pq Z H s)(hg:Gl X x)(hm:X.mg x=ae)(hv:cZ x=aa u)(h:Q u s)
  (hn:x≠"__name__":=by decide)(hd:(x == ("__debug__" : bG))=ap:=by decide):aW (aQ X.prog X.w) X.A (c8 (.Name x pos) X.env) Q E s:=by
 obtain⟨mb,h1,h2⟩:=I.mod.blt;exact Calls.Name_function_global I.ok.kind hg (Calls.loadGlobal_builtin (by rw[I.ok.glob];exact I.mod.glob.keeps I.bk) hm (by rw[I.ok.blt];exact h1.keeps I.bk) ((h2 x hn).trans hv) h) hd
def Qy(hg:Gl X x)(hm:X.mg x=ae)(hv:cZ x=aa u)(r:ZA v u)(hn:x≠"__name__":=by decide)(hd:(x == ("__debug__" : bG))=ap:=by decide):PE X (.Name x pos) (tC v):=
 λ_ _ _ H _ I h=>YU I hg hm hv #[v,H,I,r,h] hn hd
def tOr(t u:TT):TT:=λZ H Q=>t Z H λc H1=>if c=am then Q am H1 else u Z H1 Q
def ZdH(t:TT):TT:=λZ H Q=>t Z H λc H1=>Q (!c) H1
def ZbP(ha:PT X a tA):PW X (.BoolOp .Or [a] pos) tA:=by
 intro wh pq s Z H Q I h;refine isTrue_or<|thn (ha pq s Z H Q I h) λc s1 e=>?_
 cases c with|false=>exact isTrue_or_nil e|true=>exact e
def ZcT(ha:PT X a tA)(hb:PW X (.BoolOp .Or (b::rest) pos) tB'):PW X (.BoolOp .Or (a::b::rest) pos) (tOr tA tB'):=by
 intro wh pq s Z H Q I h;refine isTrue_or<|thn (ha pq s Z H _ I h) λc s1 #[H1,I1,q1]=>?_
 cases c with|true=>exact#[H1,I1,q1]|false=>exact hb wh pq s1 Z H1 Q I1 q1
def ZbW(ha:PT X a tA):PT X (.UnaryOp .Not a pos) (ZdH tA):=by
 intro pq s Z H Q I h;exact isTrue_not<|ha pq s Z H (λc H1=>Q (!c) H1) I h
def Zcz(ta tb:TE):TE:=λZ H Q=>ta Z H λx H1=>∃c,x=.bl c/\if c=am then tb Z H1 Q else Q (.bl ap) H1
def ZaZ{op}{t:TE}(h:PE X a t):PE X (.BoolOp op [a] pos) t:=λpq s Z H Q I hw=>BoolOp_one<|h pq s Z H Q I hw
def Zcg(ha:PE X a ta)(hb:PE X (.BoolOp .And (b::rest) pos) tb):PE X (.BoolOp .And (a::b::rest) pos) (Zcz ta tb):=by
 intro pq s Z H Q I h;refine BoolOp_and<|thn (ha pq s Z H _ I h) λv s1 #[x,H1,I1,r1,q1]=>?_
 obtain⟨c,rfl,q1⟩:=q1;cases r1;refine fm ?_;cases c with|true=>exact hb pq s1 Z H1 Q I1 q1|false=>exact#[.bl ap,H1,I1,rfl,q1]
def SqL(K:ao)(H:Hp)(a:aI)(xs:List V):Prop:=
 Rd H a (.lst xs)\/
  ∃(o:fD)(its:Array al)(n:Nat),K.lookup a=aa o/\o.cls=.type "list"/\o.dict=ae/\o.data=.seq its n/\its.size<=bp/\Vals xs its.toList
def SqT(K:ao)(H:Hp)(a:aI)(xs:List V):Prop:=
 Rd H a (.tup xs)\/
  ∃(o:fD)(its:Array al)(n:Nat),K.lookup a=aa o/\o.cls=.type "tuple"/\o.data=.seq its n/\its.size<=bp/\Vals xs its.toList
noncomputable def ZdL:al->Option V
 |.none=>aa .non
 |.bool b=>aa<|.bl b
 |.int i _=>aa<|.int i
 |.str x _=>aa<|.str x
 |.bytes b _=>aa<|.byt b
 |.float b _=>aa<|.flt b
 |.ref a=>aa<|.ref a
 |.type n=>aa<|.ty n
 |_=>ae
def ZA.abs(r:ZA x u):ZdL u=aa x:=by
 cases x with|non=>cases r;rfl|bl _=>cases r;rfl|int _=>obtain⟨t,rfl⟩:=r;rfl|str _=>obtain⟨t,rfl⟩:=r;rfl|byt _=>obtain⟨t,rfl⟩:=r;rfl|flt _=>obtain⟨t,rfl⟩:=r;rfl|ref _=>cases r;rfl|ty _=>cases r;rfl
def ZA.inj{x y:V}{u:al}(r:ZA x u)(q:ZA y u):x=y:=ag<|r.abs.symm.trans q.abs
theorem Vals.inj:∀{xs ys:List V}{us:List al},Vals xs us->Vals ys us->xs=ys
 |_,_,_,.nil,.nil=>rfl
 |_,_,_,.cons r t,.cons r' t'=>by rw[r.inj r',Vals.inj t t']
def SqL.of{K:ao}(h:H a=aa (.lst xs)):SqL K H a xs:=.inl<|.inl h
def SqT.of{K:ao}(h:H a=aa (.tup xs)):SqT K H a xs:=.inl<|.inl h
def Inv.list(I:Inv X pq Z H s)(h:SqL X.K H a xs):∃its:List al,Vals xs its/\PlainL s.heap a its.toArray/\xs.length<=bp:=by
 rcases h with h|⟨o,its,n,hk,hc,hd,hs,hz,r⟩
 .obtain⟨z,its,n,r,e⟩:=h.ok I.hok
  exact#[its,r,#[_,n,e,rfl,rfl,rfl],z]
 .refine#[its.toList,r,#[o,n,I.kIn a o hk,hc,hd,by simpa using hs],?_]
  have e:=r.length;simp only[ay]at e;lia
def Inv.tuple(I:Inv X pq Z H s)(h:SqT X.K H a xs):∃its:List al,Vals xs its/\o8 s.heap a its.toArray/\xs.length<=bp:=by
 rcases h with h|⟨o,its,n,hk,hc,hs,hz,r⟩
 .obtain⟨z,its,r,p⟩:=h.ok I.hok
  exact#[its,r,p,z]
 .refine#[its.toList,r,#[o,I.kIn a o hk,hc,n,by simpa using hs],?_]
  have e:=r.length;simp only[ay]at e;lia
def Inv.list_inj(I:Inv X pq Z H s)(h:SqL X.K H a xs)(h':SqL X.K H a ys):xs=ys:=by
 obtain⟨its,r,⟨o,n,e,_,_,d⟩,_⟩:=I.list h;obtain⟨its',r',⟨o',n',e',_,_,d'⟩,_⟩:=I.list h';rw[e]at e';cases e';rw[d]at d';injection d' with d1 _
 have:its=its':=by simpa using congrArg Array.toList d1
 subst this;exact r.inj r'
def Inv.tuple_inj(I:Inv X pq Z H s)(h:SqT X.K H a xs)(h':SqT X.K H a ys):xs=ys:=by
 obtain⟨its,r,⟨o,e,_,n,d⟩,_⟩:=I.tuple h;obtain⟨its',r',⟨o',e',_,n',d'⟩,_⟩:=I.tuple h';rw[e]at e';cases e';rw[d]at d';injection d' with d1 _
 have:its=its':=by simpa using congrArg Array.toList d1
 subst this;exact r.inj r'
noncomputable abbrev Cx.wish(X:Cx)(E:al->aw->Prop):Cx:={X with xe:=E}
noncomputable abbrev Cx.nox(X:Cx):Cx:=X.wish λ_ _=>False
theorem Cx.Ok.wish{X:Cx}(ok:X.Ok)(E:al->aw->Prop):(X.wish E).Ok:=
 #[ok.mod,ok.kind,ok.glob,ok.blt,ok.above,ok.inj,ok.has,ok.cab,ok.hd,ok.frames,ok.stk,ok.exf,ok.bs,ok.bsz,ok.noex,ok.exfs,ok.funs,ok.frf]
def Cx.Ok.unwish{X:Cx}{E:al->aw->Prop}(ok:(X.wish E).Ok):X.Ok:=
 #[ok.mod,ok.kind,ok.glob,ok.blt,ok.above,ok.inj,ok.has,ok.cab,ok.hd,ok.frames,ok.stk,ok.exf,ok.bs,ok.bsz,ok.noex,ok.exfs,ok.funs,ok.frf]
section
variable{X:Cx}{pq:List (aI×fD)}{Z:St}{H:Hp}{s:aw}{E:al->aw->Prop}
theorem Inv.wish(I:Inv X pq Z H s)(E:al->aw->Prop):Inv (X.wish E) pq Z H s:=#[I.ok.wish E,I.os,I.bare,I.base,I.loc,I.cell,I.free,I.freeC,I.pin,I.hok,I.len]
theorem Inv.unwish(I:Inv (X.wish E) pq Z H s):Inv X pq Z H s:=#[I.ok.unwish,I.os,I.bare,I.base,I.loc,I.cell,I.free,I.freeC,I.pin,I.hok,I.len]
theorem SP.unwish{D:Ends}{f:Flow}{s':aw}(h:SP (X.wish E) pq D f s'):SP X pq D f s':=by
 cases f with|next=>obtain⟨σ',H',I,q⟩:=h;exact#[σ',H',I.unwish,q]|brk=>obtain⟨σ',H',I,q⟩:=h;exact#[σ',H',I.unwish,q]|cont=>obtain⟨σ',H',I,q⟩:=h;exact#[σ',H',I.unwish,q]|ret u=>obtain⟨v,σ',H',I,r,q⟩:=h;exact#[v,σ',H',I.unwish,r,q]
theorem PSs.nox{st:List fE}{t:TS}(h:PSs X.nox st t):PSs X st t:=λpq s Z H D I hw=>
 cL (h pq s Z H D (I.wish _) hw) (λ_ _ q=>q.unwish) λ_ _ z=>False.elim z
end
section
variable{X:Cx}{st:fE}{rest:List fE}{t u:TS}{e:Expr}{te:TE}{pos:iw}
def Zdb:TS:=λD Z H=>D.nx Z H
def ZdP(t u:TS):TS:=λD Z H=>t {D with nx:=u D} Z H
def qi:PSs X [] Zdb:=λ_ _ Z H _ I h=>lc #[Z,H,I,h]
def Jw(h1:PS X st t)(h2:PSs X rest u):PSs X (st::rest) (ZdP t u):=by
 intro pq s Z H D I h;refine wpAny_execs_cons<|thn (h1 pq s Z H {D with nx:=u D} I h) λf s1 q=>?_
 cases f with
 |next=>
  obtain⟨σ',H',I',q⟩:=q;exact h2 pq s1 σ' H' D I' q
 |ret v=>exact q
 |brk=>exact q
 |cont=>exact q
def Inv.quiet(I:Inv X pq Z H s):interactive X.env=ap:=by simp[interactive,I.ok.kind]
def ZcG(te:TE):TS:=λD Z H=>te Z H λ_ H1=>D.nx Z H1
def qF(he:PE X e te)(hs:kB e ae pos.line X.env=c7 ap:=by rfl):PS X (.Expr e pos) (ZcG te):=by
 intro pq s Z H D I h;exact wpAny_Expr_any (thn (he pq s Z H _ I h)<|by rintro v s1 ⟨x,H1,I1,r1,q1⟩;exact #[Z,H1,I1,q1]) I.quiet hs
def Zdq(te:TE):TS:=λD Z H=>te Z H D.rt
def vj(he:PE X e te):PS X (.Return (aa e) pos) (Zdq te):=by
 intro pq s Z H D I h;exact wpAny_Return_some<|thn (he pq s Z H _ I h)<|by rintro v s1 ⟨x,H1,I1,r1,q1⟩;exact #[x,Z,H1,I1,r1,q1]
def ZdI(c:TT)(t u:TS):TS:=λD Z H=>c Z H λb H1=>if b=am then t D Z H1 else u D Z H1
def Zdf{c:Expr}{a b:List fE}{tc:TT}(hc:PT X c tc)(ha:PSs X a t)(hb:PSs X b u):PS X (.If c a b pos) (ZdI tc t u):=by
 intro pq s Z H D I h;refine wpAny_If<|thn (hc pq s Z H _ I h) λd s1 #[H1,I1,q1]=>?_
 cases d with|true=>exact ha pq s1 Z H1 D I1 q1|false=>exact hb pq s1 Z H1 D I1 q1
end
abbrev TG:=V->St->Hp->(St->Hp->Prop)->Prop
abbrev TGs:=List V->St->Hp->(St->Hp->Prop)->Prop
def PG(X:Cx)(target:Expr)(t:TG):Prop:=
 ∀(pq:List (aI×fD))(s:aw)(Z:St)(H:Hp)(v:V)(u:al)(Q:St->Hp->Prop),Inv X pq Z H s->ZA v u->t v Z H Q->
  aW (aQ X.prog X.w) X.A (assign target X.env u) (λ_ s'=>∃σ' H',Inv X pq σ' H' s'/\Q σ' H') X.xe s
def PGs(X:Cx)(ts:List Expr)(t:TGs):Prop:=
 ∀(pq:List (aI×fD))(s:aw)(Z:St)(H:Hp)(vs:List V)(us:List al)(Q:St->Hp->Prop),Inv X pq Z H s->Vals vs us->t vs Z H Q->
  aW (aQ X.prog X.w) X.A (assignInOrder ((cc ts X.env).map (·.2)) us) (λ_ s'=>∃σ' H',Inv X pq σ' H' s'/\Q σ' H') X.xe s
abbrev TSet:=V->V->V->Hp->(Hp->Prop)->Prop
def PSet(X:Cx)(t:TSet):Prop:=
 ∀(pq:List (aI×fD))(s:aw)(Z:St)(H:Hp)(o i v:V)(ov iv u:al)(Q:Hp->Prop),Inv X pq Z H s->ZA o ov->ZA i iv->ZA v u->t o i v H Q->
  aW (aQ X.prog X.w) X.A (setItem ov iv u) (λ_ s'=>∃H',Inv X pq Z H' s'/\Q H') X.xe s
abbrev TIp:=V->V->Hp->VK->Prop
def PIp(X:Cx)(op:oD)(t:TIp):Prop:=
 ∀(pq:List (aI×fD))(s:aw)(Z:St)(H:Hp)(x y:V)(v u:al)(Q:VK),Inv X pq Z H s->ZA x v->ZA y u->t x y H Q->
  aW (aQ X.prog X.w) X.A (inplaceOp op v u) (EP X pq Z Q) X.xe s
section
variable{X:Cx}{pos:iw}
def ZcP(i:Nat):TG:=λv Z H Q=>Q (Z.set i<|aa v) H
def Qj(hN:X.N.Nodup)(hi:X.N[i]?=aa x)(hx:Loc X.env.scope x)(hf:X.fn x=am\/X.env.scope.names.lookup x=aa .local:=by first|exact .inl rfl|exact .inr rfl|assumption):PG X (.Name x pos) (ZcP i):=by
 intro pq s Z H v u Q I r h;exact iY<|Jr I hN hi hx r (λs' I'=>#[_,H,I',h]) hf
def Zdz:TGs:=λvs Z H Q=>vs=[]/\Q Z H
def ZcJ(t:TG)(u:TGs):TGs:=λvs Z H Q=>∃v r,vs=v::r/\t v Z H λσ' H'=>u r σ' H' Q
def qx:PGs X [] Zdz:=by
 intro pq s Z H vs us Q I r h;obtain⟨e,h⟩:=h;subst e;cases r;exact assignInOrder_nil #[Z,H,I,h]
def vg{e:Expr}{es:List Expr}{t:TG}{u:TGs}(h1:PG X e t)(h2:PGs X es u)
  (hs:(cc (e::es) X.env).map (·.2)=assign e X.env::(cc es X.env).map (·.2):=by rfl):PGs X (e::es) (ZcJ t u):=by
 intro pq s Z H vs us Q I r h;obtain⟨v,vr,e1,h⟩:=h;subst e1;cases r with
 |cons r rr=>
  rw[hs];refine assignInOrder_cons<|thn (h1 pq s Z H _ _ _ I r h) λ_ s1 #[σ1,H1,I1,q1]=>?_
  exact h2 pq s1 σ1 H1 _ _ Q I1 rr q1
def ZdS(K:ao)(n:Nat)(t:TGs):TG:=λv Z H Q=>∃a xs,v=.ref a/\SqT K H a xs/\xs.length=n/\t xs Z H Q
def Zbf(hc:X.calm=am)(h:PGs X es t)
  (hn:(cc es X.env).length=n:=by rfl)(hst:(cc es X.env).findIdx? (·.1)=ae:=by rfl):PG X (.Tuple es k pos) (ZdS X.K n t):=by
 intro pq s Z H v u Q I r hw;obtain⟨a,xs,e1,hq,hl,hw⟩:=hw;subst e1;cases r;obtain⟨its,rv,ht,hz⟩:=I.tuple hq;refine assign_Tuple_tuple (I.ok.hd hc) ht (by simp[hn,<-hl,rv.length]) hst λh' hx=>?_
 have I1:=I.kept (t':=s.toks) λb o e=>hx b o (bv<|aF e) e
 exact h pq _ Z H xs _ Q I1 (by simpa using rv) hw
def Zdv(to ti:TE)(t:TSet):TG:=λv Z H Q=>to Z H λo H1=>ti Z H1 λi H2=>t o i v H2 λH3=>Q Z H3
def ZbS{o i:Expr}{to ti:TE}{t:TSet}(ho:PE X o to)(hi:PE X i ti)(hs:PSet X t)
  (ha:∀v,assign (.Subscript o i pos) X.env v=(do
   let ov <-gO [v] (c8 o X.env)
   let iv <-gO [v,ov] (c8 i X.env)
   kP pos
   gO [v,ov,iv] (setItem ov iv v)
   release [v,ov,iv] []):=by intro _;rfl):PG X (.Subscript o i pos) (Zdv to ti t):=by
 intro pq s Z H v u Q I r h;rw[ha];refine ab<|bR<|thn (ho pq s Z H _ I h) λov s1 #[x,H1,I1,r1,q1]=>?_
 refine ab<|bR<|thn (hi pq s1 Z H1 _ I1 q1) λiv s2 #[y,H2,I2,r2,q2]=>?_
 refine ab<|eL<|ab<|bR<|thn (hs pq s2 Z H2 x y v ov iv u _ I2 r1 r2 r q2) λ_ s3 #[H3,I3,q3]=>?_
 exact wpAny_release #[Z,H3,I3,q3]
def ZdQ(te:TE)(g:TG):TS:=λD Z H=>te Z H λx H1=>g x Z H1 D.nx
def Wk{tg e:Expr}{te:TE}{g:TG}(he:PE X e te)(hg:PG X tg g)(hs:eM [tg] e pos.line X.env=c7 ap:=by rfl)(hw:eN [tg] e X.env=c7 ae:=by rfl)
  (h1:(cc [tg] X.env).map (·.2)=[assign tg X.env]:=by rfl):PS X (.Assign [tg] e pos) (ZdQ te g):=by
 intro pq s Z H D I h;refine wpAny_Assign_stores (thn (he pq s Z H _ I h) λv s1 #[x,H1,I1,r1,q1]=>?_) hs hw
 rw[h1];exact thn (hg pq s1 Z H1 x v _ I1 r1 q1) λ_ s2 q=>q
def ZdA(i:Nat)(te:TE)(ti:TIp):TS:=λD Z H=>∃x,Z[i]?=aa (aa x)/\te Z H λy H1=>ti x y H1 λz H2=>D.nx (Z.set i<|aa z) H2
def Zcp{i:Nat}{x:bG}{e:Expr}{te:TE}{op:oD}{ti:TIp}{pos':iw}(hN:X.N.Nodup)(hi:X.N[i]?=aa x)(hx:Loc X.env.scope x)(he:PE X e te)(ho:PIp X op ti)(hf:X.fn x=am\/X.env.scope.names.lookup x=aa .local:=by first|exact .inl rfl|exact .inr rfl|assumption) :
  PS X (.AugAssign (.Name x pos') op e pos) (ZdA i te ti):=by
 intro pq s Z H D I h;obtain⟨v,e1,h⟩:=h;obtain⟨m,hn,hl⟩:=I.loc;have vis:Vis X.env.scope x:=by rcases hx with k|k;exact .inl k;exact .inr<|.inl k
 obtain⟨u,r,l⟩:=hl i x v hi e1 vis;refine wpAny_AugAssign_Name ?_;have go:aW (aQ X.prog X.w) X.A (c8 e X.env) (λw s₂=>aW (aQ X.prog X.w) X.A (inplaceOp op u w) (λr s₃=>aW (aQ X.prog X.w) X.A (storeName X.env x r) (λ_=>SP X pq D .next) X.xe s₃) X.xe s₂) X.xe s:=by
  refine thn (he pq s Z H _ I h) λw s1 #[y,H1,I1,r1,q1]=>?_
  refine thn (ho pq s1 Z H1 v y u w _ I1 r r1 q1) λz s2 #[zv,H2,I2,r2,q2]=>?_
  exact Jr I2 hN hi hx r2 (λs3 I3=>#[_,H2,I3,q2]) hf
 rcases l with⟨hk,hm⟩|⟨hk,c,hc,hcell⟩
 .exact lF I.ok.kind hk hn hm go
 .rcases hk with hk|hk
  .exact l6 I.ok.kind hk hc hcell go
  .rcases hx with k|k
   .have:X.env.scope.names.lookup x=aa .free:=hk
    rw[k]at this;cases this
   .have:X.env.scope.names.lookup x=aa .free:=hk
    rw[k]at this;cases this
end
section
variable{X:Cx}{pos:iw}
def Zbr(c:TT)(tb:TS):TS:=λD Z H=>∃W:Nat->St->Hp->Prop,(∃m,W m Z H)/\∀m Z H,W m Z H->
 c Z H λb H1=>if b=am then ∃N:St->Hp->Prop,(∀σ' H',N σ' H'->∃m',m'<m/\W m' σ' H')/\tb {D with nx:=N,ct:=N,bk:=D.nx} Z H1 else D.nx Z H1
def wD{c:Expr}{body:List fE}{tc:TT}{tb:TS}(hp:nB (aQ X.prog X.w) X.A X.env X.xe)(hc:PT X c tc)(hb:PSs X body tb):PS X (.While c body [] pos) (Zbr tc tb):=by
 intro pq s Z H D I h;obtain⟨W,⟨m0,w0⟩,turn⟩:=h;refine wpAny_While<|codeAny_whileLoop (λn s'=>∃σ' H',Inv X pq σ' H' s'/\W n σ' H') ?_ m0 #[Z,H,I,w0]
 rintro n s1 ⟨σ1,H1,I1,w1⟩
 refine eA hp<|thn (hc pq s1 σ1 H1 _ I1<|turn n σ1 H1 w1) λb s2 #[H2,I2,q2]=>?_
 cases b with
 |true=>
  obtain⟨N,hN,q2⟩:=q2;rw[T9 rfl];refine eA hp<|thn (hb pq s2 σ1 H2 _ I2 q2) λf s3 q3=>?_
  cases f with
  |next=>
   obtain⟨σ3,H3,I3,n3⟩:=q3;obtain⟨m',hm,w3⟩:=hN σ3 H3 n3;exact#[m',hm,σ3,H3,I3,w3]
  |cont=>
   obtain⟨σ3,H3,I3,n3⟩:=q3;obtain⟨m',hm,w3⟩:=hN σ3 H3 n3;exact#[m',hm,σ3,H3,I3,w3]
  |brk=>exact q3
  |ret v=>exact q3
 |false=>
  rw[T8 aG];exact lc #[σ1,H2,I2,q2]
end
structure It where
 go:Nat->Hp->Prop
 yld:Nat->Hp->V->Hp->Prop
 stop:Nat->Hp->Prop
def XS(X:Cx)(pq:List (aI×fD))(H:Hp)(b:aI):Prop:=
 H b=ae/\b≠X.env.locals/\b∉X.fs/\(b∈X.ex\/X.s₀.heap.objs.size<=b)/\(∀x c,X.env.cells.lookup x=aa c->c≠b)/\∀p∈X.pn++pq,p.1≠b
def Inv.fpOk(I:Inv X pq Z H s)(hb:s.heap.objs.size<=b)(hn:H' b=ae):XS X pq H' b:=by
 refine#[hn,fF<|bg I.lt hb,I.nofs hb,.inr<|cO I.sz hb,λx c e z=>?_,λp hp z=>?_]
 .obtain⟨v,q⟩:=I.cell x c e
  exact T7 (bg q.lt<|by rw[z];exact hb)<|br _
 .exact T7 (bg (aF (I.pin p hp).1)<|by rw[z];exact hb)<|br _
structure Turn(P:bC)(w:bN)(K:ao)(tg:Expr)(J:It)(fp:List aI)(it:aI)(tn:Nat->bY->Prop):Prop where
 mem:it∈fp
 obj:∀i h,tn i h->∀b∈fp,∃o,h.get? b=aa o/\∀v,o.data≠.cell v
 keep:∀i h h',tn i h->(∀b∈fp,∀o,h.get? b=aa o->h'.get? b=aa o)->tn i h'
 item:∀(X:Cx),X.prog=P->X.w=w->X.K=K->X.calm=am->∀(i:Nat)(pq:List (aI×fD))(s:aw)(Z:St)(H:Hp)(E:al->aw->Prop),Inv X pq Z H s->(∀b∈fp,XS X pq H b)->tn i s.heap->J.go i H->
  aW (aQ P w) X.A (lG<|.ref it) (λr s1=>∃u,r=aa u/\
   aW (aQ P w) X.A (lg tg (.ref it) u) (λ_ s2=>∃x H',Inv X pq Z H' s2/\ZA x u/\J.yld i H x H'/\tn (i+1) s2.heap/\∀b∈fp,H' b=ae) E s1) E s
 done:∀(X:Cx),X.prog=P->X.w=w->X.K=K->X.calm=am->∀(i:Nat)(pq:List (aI×fD))(s:aw)(Z:St)(H:Hp)(E:al->aw->Prop),Inv X pq Z H s->(∀b∈fp,XS X pq H b)->tn i s.heap->J.stop i H->
  aW (aQ P w) X.A (lG<|.ref it) (λr s1=>r=ae/\Inv X pq Z H s1) E s
 self:∀(A:cD)(i:Nat)(s:aw)(Q:al->aw->Prop)(E:al->aw->Prop),tn i s.heap->Q (.ref it) s->aW (aQ P w) A (kh<|.ref it) Q E s
abbrev TI:=St->Hp->(It->Hp->Prop)->Prop
def PIE(X:Cx)(pq:List (aI×fD))(Z:St)(tg:Expr)(R:It->Hp->Prop)(itv:al)(s2:aw):Prop:=
 ∃(it:aI)(fp:List aI)(tn:Nat->bY->Prop)(J:It)(H':Hp),itv=.ref it/\Inv X pq Z H' s2/\Turn X.prog X.w X.K tg J fp it tn/\tn 0 s2.heap/\(∀b∈fp,XS X pq H' b)/\R J H'
def PI(X:Cx)(tg iter:Expr)(wi:TI):Prop:=
 ∀(pq:List (aI×fD))(s:aw)(Z:St)(H:Hp)(R:It->Hp->Prop),Inv X pq Z H s->wi Z H R->
  aW (aQ X.prog X.w) X.A (c8 iter X.env) (λv s1=>aW (aQ X.prog X.w) X.A (kh v) (PIE X pq Z tg R) X.xe s1) X.xe s
def vX{E:al->aw->Prop}{Q:Unit->aw->Prop}(ho:s.heap.get? it=aa o)(hc:o.cls=.type n)(hd:o.data=.fields vs)
  (hn:["enumerate","zip","dict_itemiterator","dict_reverseitemiterator","odict_iterator","itertools.zip_longest","itertools.pairwise"].contains n=ap)(hQ:Q () s):aW M A (lg tg (.ref it) u) Q E s:=by
 cases tg<;>first
  |exact au hQ
  |(cases u<;>first
    |exact au hQ
    |(refine ab (mD ho ?_)
      rw[hc,hd];show aW M A (if(["enumerate","zip","dict_itemiterator","dict_reverseitemiterator","odict_iterator","itertools.zip_longest","itertools.pairwise"].contains n&&vs[0]? == aa (gE _))=am then _ else _) Q E s
      rw[T8 (by intro h;rw[hn,Bool.false_and]at h;cases h)]
      exact au hQ))
noncomputable def Itl(K:ao)(a:aI):It:=
 #[λi H=>∃xs x,SqL K H a xs/\xs[i]?=aa x,λi H x H'=>H'=H/\∀xs,SqL K H a xs->xs[i]?=aa x,λi H=>∃xs,SqL K H a xs/\xs.length<=i]
noncomputable def Itt(K:ao)(a:aI):It:=
 #[λi H=>∃xs x,SqT K H a xs/\xs[i]?=aa x,λi H x H'=>H'=H/\∀xs,SqT K H a xs->xs[i]?=aa x,λi H=>∃xs,SqT K H a xs/\xs.length<=i]
noncomputable def Itr(lo:Int)(n:Nat):It:=#[λi _=>i<n,λi H x H'=>H'=H/\x=.int (lo+i),λi _=>n<=i]
def xO{P:bC}{w:bN}{K:ao}{tg:Expr}(a it:aI):Turn P w K tg (Itl K a) [it] it (λi h=>h.IsListIter it a i) where
 mem:=by simp
 obj:=λi h st b hb=>by
  have e:b=it:=by simpa using hb
  subst e;obtain⟨o,e,c,d⟩:=st;exact#[o,e,λv z=>by rw[d]at z;cases z]
 keep:=λi h h' st k=>st.at λo e=>k it (by simp) o e
 item:=by
  intro X hP hw hK hc i pq s Z H E I hf st hg;subst hP hw hK;obtain⟨xs,x,hq,hx⟩:=hg;obtain⟨its,rv,p,hz⟩:=I.list hq;obtain⟨u,hu,ru⟩:=rv.get hx;obtain⟨f0,f1,f2,f3,f4,f5⟩:=hf it (by simp)
  refine kQ st p.isList (by simpa using hu) λh' st' sb=>?_
  have I1:=I.turned (t':=s.toks) (λb o hb e=>(sb.2 b hb).trans e) f0 f1 f3 f4 f5
  obtain⟨o,e,c,d⟩:=id st';exact#[u,rfl,vX e c d (by decide) #[x,H,I1,ru,#[rfl,λys hy=>by rw[I.list_inj hy hq];exact hx],st',λb hb=>(hf b hb).1]]
 done:=by
  intro X hP hw hK hc i pq s Z H E I hf st hg;subst hP hw hK;obtain⟨xs,hq,hx⟩:=hg;obtain⟨its,rv,p,hz⟩:=I.list hq;obtain⟨f0,f1,f2,f3,f4,f5⟩:=hf it (by simp)
  have hl:=rv.length;exact lx (I.ok.hd hc) st p.isList (by simp;lia) λh' eb=>#[rfl,I.turned (t':=s.toks) (λb o hb e=>eb b o hb e) f0 f1 f3 f4 f5]
 self:=λ_ _ _ _ _ st h=>wpAny_pyIter_listiter st h
def G5{P:bC}{w:bN}{K:ao}{tg:Expr}(a it:aI):Turn P w K tg (Itt K a) [it] it (λi h=>h.IsTupleIter it a i) where
 mem:=by simp
 obj:=λi h st b hb=>by
  have e:b=it:=by simpa using hb
  subst e;obtain⟨o,e,c,d⟩:=st;exact#[o,e,λv z=>by rw[d]at z;cases z]
 keep:=λi h h' st k=>st.at λo e=>k it (by simp) o e
 item:=by
  intro X hP hw hK hc i pq s Z H E I hf st hg;subst hP hw hK;obtain⟨xs,x,hq,hx⟩:=hg;obtain⟨its,rv,p,hz⟩:=I.tuple hq;obtain⟨u,hu,ru⟩:=rv.get hx;obtain⟨f0,f1,f2,f3,f4,f5⟩:=hf it (by simp)
  refine wpAny_pyNext_tuple_item st (p) (by simpa using hu) λh' st' sb=>?_
  have I1:=I.turned (t':=s.toks) (λb o hb e=>(sb.2 b hb).trans e) f0 f1 f3 f4 f5
  obtain⟨o,e,c,d⟩:=id st';exact#[u,rfl,vX e c d (by decide) #[x,H,I1,ru,#[rfl,λys hy=>by rw[I.tuple_inj hy hq];exact hx],st',λb hb=>(hf b hb).1]]
 done:=by
  intro X hP hw hK hc i pq s Z H E I hf st hg;subst hP hw hK;obtain⟨xs,hq,hx⟩:=hg;obtain⟨its,rv,p,hz⟩:=I.tuple hq;obtain⟨f0,f1,f2,f3,f4,f5⟩:=hf it (by simp)
  have hl:=rv.length;exact wpAny_pyNext_tuple_end (I.ok.hd hc) st (p) (by simp;lia) λh' eb=>#[rfl,I.turned (t':=s.toks) (λb o hb e=>eb b o hb e) f0 f1 f3 f4 f5]
 self:=λ_ _ _ _ _ st h=>wpAny_pyIter_tupleiter st h
def G9{P:bC}{w:bN}{K:ao}{tg:Expr}(it:aI)(lo:Int)(n:Nat):Turn P w K tg (Itr lo n) [it] it (λi h=>IsRangeIter h it (lo+(i:Nat)*1) ((n:Int)-(i:Nat)) 1) where
 mem:=by simp
 obj:=λi h st b hb=>by
  have e:b=it:=by simpa using hb
  subst e;exact#[_,st,λv z=>by
   have z':=z;cases z']
 keep:=λi h h' st k=>k it (by simp) _ st
 item:=by
  intro X hP hw hK hc i pq s Z H E I hf st hg;subst hP hw hK;obtain⟨f0,f1,f2,f3,f4,f5⟩:=hf it (by simp)
  have W:=Walks.range (prog:=X.prog) (w:=X.w) (I.ok.hd hc) it lo 1 n;refine W.item i s _ _ hg st λv h' tk hv st' kk=>?_
  obtain⟨t,rfl⟩:=hv;have I1:Inv X pq Z H {s with heap:=h',toks:=tk}:=I.turned (λb o hb e=>kk b o (by simpa using hb) e) f0 f1 f3 f4 f5
  refine#[_,rfl,vX st' rfl rfl (by decide) #[.int<|lo+i,H,I1,#[t,?_],#[rfl,rfl],st',λb hb=>(hf b hb).1]]
  rw[Int.mul_one]
 done:=by
  intro X hP hw hK hc i pq s Z H E I hf st hg;subst hP hw hK;obtain⟨f0,f1,f2,f3,f4,f5⟩:=hf it (by simp)
  exact wpAny_pyNext_range_end (I.ok.hd hc) st (by have:n<=i:=hg;lia) λh' eb=>#[rfl,I.turned (t':=s.toks) (λb o hb e=>eb b o hb e) f0 f1 f3 f4 f5]
 self:=λ_ _ _ _ _ st h=>wpAny_pyIter_rangeiter st h
section
variable{X:Cx}{tg:Expr}
theorem um{pq:List (aI×fD)}{Z:St}{H:Hp}{s:aw}{R:It->Hp->Prop}{E:al->aw->Prop}{lo hi:Int}{t u v:pB}{tk:Nat}(I:Inv X pq Z H s)(h1:-(2^62)<=lo)(h2:lo<2^62)(h3:-(2^62)<=hi)(h4:hi<2^62)
  (q:R (Itr lo (hi-lo).toNat) H):aW (aQ X.prog X.w) X.A (kh<|.ref s.heap.objs.size) (PIE X pq Z tg R) E {s with heap:=s.heap.push {cls:=.type "range",data:=.fields [.int lo t,.int hi u,.int 1 v].toArray},toks:=tk}:=by
 refine wpAny_pyIter_range (IsRange.new ..) (small_one h1 h2 h3 h4) ?_;have I1:Inv X pq Z H {s with heap:=s.heap.push {cls:=.type "range",data:=.fields [.int lo t,.int hi u,.int 1 v].toArray},toks:=tk}:=I.kept λb o e=>aq _ e
 refine#[(s.heap.push {cls:=.type "range",data:=.fields [.int lo t,.int hi u,.int 1 v].toArray}).objs.size,[(s.heap.push {cls:=.type "range",data:=.fields [.int lo t,.int hi u,.int 1 v].toArray}).objs.size],_,_,H,rfl,
  I1.kept (t':=tk) λb o e=>aq _ e,G9 _ lo (hi-lo).toNat,?_,λb hb=>?_,q]
 .have e1:lo+((0:Nat):Int)*1=lo:=by simp
  have e2:(((hi-lo).toNat:Nat):Int)-((0:Nat):Int)=dE.Range.rangeSize lo hi 1:=by rw[rangeSize_one];split<;>lia
  rw[e1,e2];exact aJ _ rfl
 .have e:b=(s.heap.push {cls:=.type "range",data:=.fields [.int lo t,.int hi u,.int 1 v].toArray}).objs.size:=by simpa using hb
  subst e;exact I1.fpOk (aH _)<|I1.hok.fresh<|aH _
def Zcy(ta:TA):TI:=λZ H R=>ta Z H λvs H1=>∃j:Int,vs=[.int j]/\-(2^62)<=j/\j<2^62/\R (Itr 0 j.toNat) H1
theorem xH{a:Expr}{ta:TA}{p pos:iw}(hg:Gl X "range")(hm:X.mg "range" = ae)(ha:PA X [a] ta)(hs:aL [a] X.env=[(ap,c8 a X.env)]:=by rfl):PI X tg (.Call (.Name "range" p) [a] [] pos) (Zcy ta):=by
 intro pq s Z H R I h;refine Call_<|YU I hg hm boot_range<|de (thn (ha pos pq s Z H _ I h) λus s1 #[vs,H1,I1,r1,q1]=>?_) hs rfl
 obtain⟨j,e,q1,q2,q⟩:=q1;subst e;cases r1 with
 |cons r rr=>
  cases rr;obtain⟨t,rfl⟩:=r;exact call_range_1<|um I1 (by lia) (by lia) q1 q2 (by simpa using q)
def Zdy(wi:TI)(g:TG)(tb:TS):TS:=λD Z H=>wi Z H λJ H1=>∃W:Nat->Nat->St->Hp->Prop,(∃m,W 0 m Z H1)/\∀i m Z H,W i m Z H->
 (J.stop i H/\D.nx Z H)\/(J.go i H/\∃N:St->Hp->Prop,(∀σ' H',N σ' H'->∃m',m'<m/\W (i+1) m' σ' H')/\∀x H',J.yld i H x H'->g x Z H' λσ2 H2=>tb {D with nx:=N,ct:=N,bk:=D.nx} σ2 H2)
noncomputable def VM(fp:List aI)(h:bY):List (aI×fD):=fp.filterMap λb=>(h.get? b).map λo=>(b,o)
def Y4(hb:b∈fp)(e:h.get? b=aa o):(b,o)∈VM fp h:=mE.mpr #[b,hb,by rw[e];rfl]
def xX(hp:p∈VM fp h):p.1∈fp/\h.get? p.1=aa p.2:=by
 obtain⟨b,hb,e⟩:=mE.mp hp;cases q:h.get? b with
 |none=>rw[q]at e;cases e
 |some o=>
  rw[q]at e;have e':=ag e;subst e';exact#[hb,q]
def Inv.pinned(I:Inv X pq Z H s)(hf:∀b∈fp,XS X pq H b)(ho:∀b∈fp,∃o,s.heap.get? b=aa o/\∀v,o.data≠.cell v):Inv X (pq++VM fp s.heap) Z H s:=
 I.pins_of λp hp=>(c0.mp hp).elim (λz=>I.pin p<|bm _ z) λz=>by
  obtain⟨hb,e⟩:=xX z;obtain⟨f0,f1,f2,_⟩:=hf p.1 hb;obtain⟨o,e',d⟩:=ho p.1 hb;rw[e]at e';cases e';exact#[e,f0,f1,f2,d]
def Inv.unpinned(I:Inv X (pq++pl) Z H s):Inv X pq Z H s:=I.pins_of λp hp=>I.pin p<|bm _<|b6 _ hp
def Zb9{iter:Expr}{body:List fE}{wi:TI}{g:TG}{tb:TS}{pos:iw}(hp:nB (aQ X.prog X.w) X.A X.env X.xe)(hc:X.calm=am)(hi:PI X tg iter wi)(hg:PG X tg g)(hb:PSs X body tb)
  (hs:∀x,bL iter X.env x=c7 x:=by intro _;rfl):PS X (.For tg iter body [] pos) (Zdy wi g tb):=by
 intro pq s Z H D I h;refine wpAny_For (thn (hi pq s Z H _ I h) λv s1 h1=>thn h1 λitv s2 h2=>?_) hs
 obtain⟨it,fp,tn,J,H2,e,I2,T,st2,f2,W,⟨m0,w0⟩,turn⟩:=h2;subst e;have stat:∀{H':Hp},(∀b∈fp,H' b=ae)->∀b∈fp,XS X pq H' b:=λhn b hb=>#[hn b hb,(f2 b hb).2]
 refine codeAny_forLoop_any (λn s'=>∃i σ' H',Inv X pq σ' H' s'/\tn i s'.heap/\(∀b∈fp,H' b=ae)/\W i n σ' H') ?_ m0 #[0,Z,H2,I2,st2,λb hb=>(f2 b hb).1,w0]
 rintro n s3 ⟨i,σ3,H3,I3,st3,fr3,w3⟩
 rcases turn i n σ3 H3 w3 with⟨stop,qn⟩|⟨go,N,hN,step⟩
 .refine eA hp (thn (T.done X rfl rfl rfl hc i pq s3 σ3 H3 X.xe I3 (stat fr3) st3 stop) λr s4 #[hr,I4]=>?_)
  subst hr;exact lc #[σ3,H3,I4,qn]
 .refine eA hp (thn (T.item X rfl rfl rfl hc i pq s3 σ3 H3 X.xe I3 (stat fr3) st3 go) λr s4 #[u,hr,h4]=>?_)
  subst hr;refine eA hp<|thn h4 λ_ s5 #[x,H5,I5,r5,y5,st5,fr5]=>?_
  have I5':=I5.pinned (stat fr5)<|T.obj _ _ st5;refine eA hp<|thn (hg _ s5 σ3 H5 x u _ I5' r5<|step x H5 y5) λ_ s6 #[σ6,H6,I6,q6]=>?_
  refine eA hp<|thn (hb _ s6 σ6 H6 _ I6 q6) λf s7 q7=>?_
  have o9:∀{σ7:St}{H7:Hp},Inv X (pq++VM fp s5.heap) σ7 H7 s7->N σ7 H7->∃m,m<n/\∃i σ' H',Inv X pq σ' H' s7/\tn i s7.heap/\(∀b∈fp,H' b=ae)/\W i m σ' H':=λ{σ7 H7} I7 n7=>by
   obtain⟨m',hm,w7⟩:=hN σ7 H7 n7;refine#[m',hm,i+1,σ7,H7,I7.unpinned,T.keep _ _ _ st5 λb hb o e=>(I7.pin (b,o)<|bm _<|bm _<|Y4 hb e).1,λb hb=>?_,w7]
   obtain⟨o,e,d⟩:=T.obj _ _ st5 b hb;exact(I7.pin (b,o)<|bm _<|bm _<|Y4 hb e).2.1
  cases f with|next=>obtain⟨σ7,H7,I7,n7⟩:=q7;exact o9 I7 n7|cont=>obtain⟨σ7,H7,I7,n7⟩:=q7;exact o9 I7 n7|brk=>obtain⟨σ7,H7,I7,q7⟩:=q7;exact#[σ7,H7,I7.unpinned,q7]|ret v=>obtain⟨x7,σ7,H7,I7,r7,q7⟩:=q7;exact#[x7,σ7,H7,I7.unpinned,r7,q7]
end
abbrev R2:=V->V->Hp->VK->Prop
def OpR(X:Cx)(f:al->al->nA al)(r:R2):Prop:=
 ∀(pq:List (aI×fD))(s:aw)(Z:St)(H:Hp)(x y:V)(v u:al)(Q:VK),Inv X pq Z H s->ZA x v->ZA y u->r x y H Q->
  aW (aQ X.prog X.w) X.A (f v u) (EP X pq Z Q) X.xe s
def UnR(X:Cx)(f:al->nA al)(r:V->Hp->VK->Prop):Prop:=
 ∀(pq:List (aI×fD))(s:aw)(Z:St)(H:Hp)(x:V)(v:al)(Q:VK),Inv X pq Z H s->ZA x v->r x H Q->
  aW (aQ X.prog X.w) X.A (f v) (EP X pq Z Q) X.xe s
def ZJ(X:Cx)(f:al)(r:List V->Hp->VK->Prop):Prop:=
 ∀(pq:List (aI×fD))(s:aw)(Z:St)(H:Hp)(xs:List V)(us:List al)(Q:VK),Inv X pq Z H s->Vals xs us->r xs H Q->
  aW (aQ X.prog X.w) X.A (call f us) (EP X pq Z Q) X.xe s
def ZdD(X:Cx)(r:V->Hp->(Bool->Hp->Prop)->Prop):Prop:=
 ∀(pq:List (aI×fD))(s:aw)(Z:St)(H:Hp)(x:V)(v:al)(Q:Bool->Hp->Prop),Inv X pq Z H s->ZA x v->r x H Q->
  aW (aQ X.prog X.w) X.A (truthy v) (TP X pq Z Q) X.xe s
def tOp(r:R2)(ta tb:TE):TE:=λZ H Q=>ta Z H λx H1=>tb Z H1 λy H2=>r x y H2 Q
def tUn(r:V->Hp->VK->Prop)(ta:TE):TE:=λZ H Q=>ta Z H λx H1=>r x H1 Q
def rI(C:Int->Int->Prop)(g:Int->Int->V):R2:=λx y H Q=>∃i j,x=.int i/\y=.int j/\C i j/\Q (g i j) H
def rI0(g:Int->Int->V):R2:=λx y H Q=>∃i j,x=.int i/\y=.int j/\Q (g i j) H
def rU(g:Int->V):V->Hp->VK->Prop:=λx H Q=>∃i,x=.int i/\Q (g i) H
section
variable{X:Cx}{a b c:Expr}{ta tb tc:TE}{pos:iw}
def Za1(ha:PE X a ta)(hb:PE X b tb){pq:List (aI×fD)}{s:aw}{Z:St}{H:Hp}{R:V->V->Hp->Prop}(I:Inv X pq Z H s)
  (h:ta Z H λx H1=>tb Z H1 λy H2=>R x y H2){Q:al->aw->Prop}{f:al->al->nA al}
  (hf:∀v u s2 x y H2,Inv X pq Z H2 s2->ZA x v->ZA y u->R x y H2->aW (aQ X.prog X.w) X.A (f v u) Q X.xe s2) :
  aW (aQ X.prog X.w) X.A (c8 a X.env) (λv s₁=>aW (aQ X.prog X.w) X.A (c8 b X.env) (λu s₂=>aW (aQ X.prog X.w) X.A (f v u) Q X.xe s₂) X.xe s₁) X.xe s:=by
 refine thn (ha pq s Z H _ I h) λv s1 #[x,H1,I1,r1,q1]=>?_
 refine thn (hb pq s1 Z H1 _ I1 q1) λu s2 #[y,H2,I2,r2,q2]=>?_
 exact hf v u s2 x y H2 I2 r1 r2 q2
def Ul(ho:OpR X (eC op) r)(ha:PE X a ta)(hb:PE X b tb):PE X (.BinOp a op b pos) (tOp r ta tb):=by
 intro pq s Z H Q I h;exact wpAny_BinOp<|Za1 ha hb I h λv u s2 x y H2 I2 rx ry q=>ho pq s2 Z H2 x y v u Q I2 rx ry q
def Zcq{op:UnaryOp}{r:V->Hp->VK->Prop}(ho:UnR X (unaryOp op) r)(ha:PE X a ta):PE X (.UnaryOp op a pos) (tUn r ta):=by
 intro pq s Z H Q I h;exact UnaryOp_<|thn (ha pq s Z H _ I h)<|by rintro v s1 ⟨x,H1,I1,r1,q1⟩;exact ho pq s1 Z H1 x v Q I1 r1 q1
def opI{f:al->al->nA al}{C:Int->Int->Prop}{g:Int->Int->Int}
  (nC:∀(i j:Int)(t u:pB)(s:aw)(Q:al->aw->Prop)(E:al->aw->Prop),C i j->Q (.int (g i j) s.toks) {s with toks:=s.toks+1}->aW (aQ X.prog X.w) X.A (f (.int i t)<|.int j u) Q E s) :
  OpR X f (rI C λi j=>.int<|g i j):=by
 intro pq s Z H x y v u Q I rx ry h;obtain⟨i,j,rfl,rfl,hc,q⟩:=h;obtain⟨t,rfl⟩:=rx;obtain⟨t',rfl⟩:=ry;exact nC i j t t' s _ _ hc #[.int<|g i j,H,I.tok _,#[_,rfl],q]
def Zbb{f:al->al->nA al}{g:Int->Int->Int}
  (nC:∀(i j:Int)(t u:pB)(s:aw)(Q:al->aw->Prop)(E:al->aw->Prop),Q (.int (g i j) s.toks) {s with toks:=s.toks+1}->aW (aQ X.prog X.w) X.A (f (.int i t)<|.int j u) Q E s) :
  OpR X f (rI0 λi j=>.int<|g i j):=by
 intro pq s Z H x y v u Q I rx ry h;obtain⟨i,j,rfl,rfl,q⟩:=h;obtain⟨t,rfl⟩:=rx;obtain⟨t',rfl⟩:=ry;exact nC i j t t' s _ _ #[.int<|g i j,H,I.tok _,#[_,rfl],q]
def j7{f:al->al->nA al}{g:Int->Int->Bool}
  (nC:∀(i j:Int)(t u:pB)(s:aw)(Q:al->aw->Prop)(E:al->aw->Prop),Q (.bool<|g i j) s->aW (aQ X.prog X.w) X.A (f (.int i t)<|.int j u) Q E s) :
  OpR X f (rI0 λi j=>.bl<|g i j):=by
 intro pq s Z H x y v u Q I rx ry h;obtain⟨i,j,rfl,rfl,q⟩:=h;obtain⟨t,rfl⟩:=rx;obtain⟨t',rfl⟩:=ry;exact nC i j t t' s _ _ #[.bl<|g i j,H,I,rfl,q]
def CPow(i j:Int):Prop:=0<=j/\j<=1000000/\i.natAbs<2^64
def Zb2:OpR X (eC .Add) (rI0 λi j=>.int<|i+j):=Zbb λ_ _ _ _ _ _ _ q=>add_int q
def Zbd:OpR X (eC .Sub) (rI0 λi j=>.int<|i-j):=Zbb λ_ _ _ _ _ _ _ q=>sub_int q
theorem Zcd:OpR X (eC .Mod) (rI (λ_ j=>0<j) λi j=>.int<|i%j):=opI λi j _ _ _ _ _ hc q=>by
 have h1:=hc;exact mod_int' (by lia) (by rw[Int.fmod_eq_emod_of_nonneg i (by lia)];exact q)
def ZbZ:OpR X (eC .Pow) (rI CPow λi j=>.int<|i^j.toNat):=opI λ_ _ _ _ _ _ _ hc q=>pow_int_small hc.1 hc.2.1 hc.2.2 q
def jN:OpR X (inplaceOp .Add) (rI0 λi j=>.int<|i+j):=Zbb λ_ _ _ _ _ _ _ q=>iadd_int q
def unI{f:al->nA al}{g:Int->Int}
  (nC:∀(i:Int)(t:pB)(s:aw)(Q:al->aw->Prop)(E:al->aw->Prop),Q (.int (g i) s.toks) {s with toks:=s.toks+1}->aW (aQ X.prog X.w) X.A (f<|.int i t) Q E s) :
  UnR X f (rU λi=>.int<|g i):=by
 intro pq s Z H x v Q I rx h;obtain⟨i,rfl,q⟩:=h;obtain⟨t,rfl⟩:=rx;exact nC i t s _ _ #[.int<|g i,H,I.tok _,#[_,rfl],q]
def Zbw:UnR X (unaryOp .USub) (rU λi=>.int<|-i):=unI λ_ _ _ _ _ q=>neg_int q
end
noncomputable def scal:V->V->Bool
 |.non,.non=>am|.non,.int _=>am|.int _,.non=>am|.non,.bl _=>am|.bl _,.non=>am|.non,.str _=>am|.str _,.non=>am
 |.int _,.int _=>am|.bl _,.bl _=>am|.str _,.str _=>am|.byt _,.byt _=>am
 |.int _,.str _=>am|.str _,.int _=>am|.bl _,.str _=>am|.str _,.bl _=>am
 |_,_=>ap
def rEq:R2:=λx y H Q=>scal x y=am/\Q (.bl<|ai<|x=y) H
def rNe:R2:=λx y H Q=>scal x y=am/\Q (.bl<|!decide (x=y)) H
def zQ :ai (V.int i=V.int j)=(i == j):=by
 rw[bU];simp
def uk :ai (V.bl i=V.bl j)=(i == j):=by
 rw[bU];simp
def yB :ai (V.str i=V.str j)=(i == j):=by
 rw[bU];simp
def zI :ai (V.byt i=V.byt j)=(i.toList == j.toList):=by
 rw[bU];cases i;cases j;simp
section
variable{X:Cx}{a b c:Expr}{ta tb tc:TE}{pos:iw}
def Zs(I:Inv X pq Z H s)(q:Q (.bl k) H)(e:k=k'):EP X pq Z Q (.bool k') s:=by
 subst e;exact#[.bl k,H,I,rfl,q]
def ZcM:OpR X (b0 .Eq) rEq:=by
 intro pq s Z H x y v u Q I rx ry h;obtain⟨hs,q⟩:=h;cases x with
 |non=>
  cases rx;cases y with|non=>cases ry;exact PySem.EqNone.eq_none_none<|Zs I q (by simp)|bl j=>cases ry;exact PySem.EqNone.eq_none_bool<|Zs I q (by simp)|int j=>obtain⟨t',rfl⟩:=ry;exact PySem.EqNone.eq_none_int<|Zs I q (by simp)|str j=>obtain⟨t',rfl⟩:=ry;exact PySem.EqNone.eq_none_str<|Zs I q (by simp)|_=>exact T7 (hs) aG
 |bl i=>
  cases rx;cases y with|non=>cases ry;exact PySem.EqNone.eq_bool_none<|Zs I q (by simp)|bl j=>cases ry;exact eq_bool<|Zs I q uk|str j=>obtain⟨t',rfl⟩:=ry;exact PySem.EqMixed.eq_bool_str<|Zs I q (by simp)|_=>exact T7 (hs) aG
 |int i=>
  obtain⟨t,rfl⟩:=rx;cases y with|non=>cases ry;exact PySem.EqNone.eq_int_none<|Zs I q (by simp)|int j=>obtain⟨t',rfl⟩:=ry;exact eq_int<|Zs I q zQ|str j=>obtain⟨t',rfl⟩:=ry;exact PySem.EqMixed.eq_int_str<|Zs I q (by simp)|_=>exact T7 (hs) aG
 |str i=>
  obtain⟨t,rfl⟩:=rx;cases y with|non=>cases ry;exact PySem.EqNone.eq_str_none<|Zs I q (by simp)|bl j=>cases ry;exact PySem.EqMixed.eq_str_bool<|Zs I q (by simp)|int j=>obtain⟨t',rfl⟩:=ry;exact PySem.EqMixed.eq_str_int<|Zs I q (by simp)|str j=>obtain⟨t',rfl⟩:=ry;exact eq_str<|Zs I q yB|_=>exact T7 (hs) aG
 |byt i=>
  obtain⟨t,rfl⟩:=rx;cases y with|byt j=>obtain⟨t',rfl⟩:=ry;exact PySem.W.eq_bytes<|Zs I q zI|_=>exact T7 (hs) aG
 |_=>cases y<;>exact T7 (hs) aG
def ZcC:OpR X (b0 .NotEq) rNe:=by
 intro pq s Z H x y v u Q I rx ry h;obtain⟨hs,q⟩:=h;cases x with
 |non=>
  cases rx;cases y with|non=>cases ry;exact PySem.EqNone.ne_none_none<|Zs I q (by simp)|bl j=>cases ry;exact PySem.EqNone.ne_none_bool<|Zs I q (by simp)|int j=>obtain⟨t',rfl⟩:=ry;exact PySem.EqNone.ne_none_int<|Zs I q (by simp)|str j=>obtain⟨t',rfl⟩:=ry;exact PySem.EqNone.ne_none_str<|Zs I q (by simp)|_=>exact T7 (hs) aG
 |bl i=>
  cases rx;cases y with|non=>cases ry;exact PySem.EqNone.ne_bool_none<|Zs I q (by simp)|bl j=>cases ry;exact ne_bool<|Zs I q<|congrArg not uk|str j=>obtain⟨t',rfl⟩:=ry;exact PySem.EqMixed.ne_bool_str<|Zs I q (by simp)|_=>exact T7 (hs) aG
 |int i=>
  obtain⟨t,rfl⟩:=rx;cases y with|non=>cases ry;exact PySem.EqNone.ne_int_none<|Zs I q (by simp)|int j=>obtain⟨t',rfl⟩:=ry;exact ne_int<|Zs I q<|congrArg not zQ|str j=>obtain⟨t',rfl⟩:=ry;exact PySem.EqMixed.ne_int_str<|Zs I q (by simp)|_=>exact T7 (hs) aG
 |str i=>
  obtain⟨t,rfl⟩:=rx;cases y with|non=>cases ry;exact PySem.EqNone.ne_str_none<|Zs I q (by simp)|bl j=>cases ry;exact PySem.EqMixed.ne_str_bool<|Zs I q (by simp)|int j=>obtain⟨t',rfl⟩:=ry;exact PySem.EqMixed.ne_str_int<|Zs I q (by simp)|str j=>obtain⟨t',rfl⟩:=ry;exact ne_str<|Zs I q<|congrArg not yB|_=>exact T7 (hs) aG
 |byt i=>
  obtain⟨t,rfl⟩:=rx;cases y with|byt j=>obtain⟨t',rfl⟩:=ry;exact PySem.W.ne_bytes<|Zs I q<|congrArg not zI|_=>exact T7 (hs) aG
 |_=>cases y<;>exact T7 (hs) aG
def ZcX:OpR X (b0 .Lt) (rI0 λi j=>.bl<|ai<|i<j):=j7 λ_ _ _ _ _ _ _ q=>lt_int q
def ZcV:OpR X (b0 .LtE) (rI0 λi j=>.bl<|ai<|i<=j):=j7 λ_ _ _ _ _ _ _ q=>le_int q
def Zdk:OpR X (b0 .Gt) (rI0 λi j=>.bl<|ai<|j<i):=j7 λ_ _ _ _ _ _ _ q=>gt_int q
def ZcU:OpR X (b0 .GtE) (rI0 λi j=>.bl<|ai<|j<=i):=j7 λ_ _ _ _ _ _ _ q=>ge_int q
def ZaU:OpR X (b0 .Is) (λx y H Q=>y=.non/\Q (.bl<|ai<|x=.non) H):=by
 intro pq s Z H x y v u Q I rx ry h;obtain⟨rfl,q⟩:=h;cases ry;refine is_none_gen<|Zs I q ?_;cases x<;>first
  |(cases rx;rfl)
  |(obtain⟨t,rfl⟩:=rx;rfl)
def qb:OpR X (b0 .IsNot) (λx y H Q=>y=.non/\Q (.bl<|!decide (x=.non)) H):=by
 intro pq s Z H x y v u Q I rx ry h;obtain⟨rfl,q⟩:=h;cases ry;refine isnot_none_gen<|Zs I q ?_;cases x<;>first
  |(cases rx;rfl)
  |(obtain⟨t,rfl⟩:=rx;rfl)
def OpR.or(h:OpR X f r)(h':OpR X f r'):OpR X f (λx y H Q=>r x y H Q\/r' x y H Q):=by
 intro pq s Z H x y v u Q I rx ry q;rcases q with q|q
 .exact h pq s Z H x y v u Q I rx ry q
 .exact h' pq s Z H x y v u Q I rx ry q
def ZbF(b:Expr)(h:op≠.In:=by decide)(h2:op≠.NotIn:=by decide):fO op b=ap:=by
 have e1:(op == CmpOp.In)=ap:=by cases op<;>first|rfl|exact T7 rfl h
 have e2:(op == CmpOp.NotIn)=ap:=by cases op<;>first|rfl|exact T7 rfl h2
 cases b<;>simp[fO,e1,e2]
def jR(ho:OpR X (b0 op) r)(ha:PE X a ta)(hb:PE X b tb)(hm:fO op b=ap):PE X (.Compare a [op] [b] pos) (tOp r ta tb):=by
 intro pq s Z H Q I h;exact wpAny_Compare1 (Za1 ha hb I h λv u s2 x y H2 I2 rx ry q=>ho pq s2 Z H2 x y v u Q I2 rx ry q) hm
def Zda(t:TE):TT:=λZ H Q=>t Z H λx H'=>∃k,x=.bl k/\Q k H'
def jq(ho:OpR X (b0 op) r)(ha:PE X a ta)(hb:PE X b tb)(hm:fO op b=ap):PT X (.Compare a [op] [b] pos) (Zda<|tOp r ta tb):=by
 intro pq s Z H Q I h;refine wpAny_isTrue_Compare1 (thn (ha pq s Z H _ I h) λv s1 #[x,H1,I1,r1,q1]=>thn (hb pq s1 Z H1 _ I1 q1) λu s2 #[y,H2,I2,r2,q2]=>
  thn (ho pq s2 Z H2 x y v u _ I2 r1 r2 q2) λc s3 #[z,H3,I3,r3,k,e,q3]=>?_) hm
 subst e;cases r3;exact fm #[H3,I3,q3]
def Zbu(r r':R2)(ta tb tc:TE):TE:=λZ H Q=>ta Z H λx H1=>tb Z H1 λy H2=>r x y H2 λz H3=>∃k,z=.bl k/\
 (if k=am then tc Z H3 λw' H4=>r' y w' H4 Q else Q (.bl ap) H3)
def uH(ho:OpR X (b0 op) r)(ho':OpR X (b0 op') r')(ha:PE X a ta)(hb:PE X b tb)(hc:PE X c tc)
  (hm:lastMarks [op,op'] [b,c]=ap:=by with_unfolding_all rfl):PE X (.Compare a [op,op'] [b,c] pos) (Zbu r r' ta tb tc):=by
 intro pq s Z H Q I h;refine Compare_chain (thn (ha pq s Z H _ I h) λv s1 #[x,H1,I1,r1,q1]=>chain_link (thn (hb pq s1 Z H1 _ I1 q1) λu s2 #[y,H2,I2,r2,q2]=>
  thn (ho pq s2 Z H2 x y v u _ I2 r1 r2 q2) λd s3 #[z,H3,I3,r3,k,e,q3]=>?_)) hm
 subst e;cases r3;refine fm ?_;cases k with|false=>exact ite_ff #[.bl ap,H3,I3,rfl,q3]|true=>exact ite_tt<|chain_last<|thn (hc pq s3 Z H3 _ I3 q3)<|by rintro w' s4 ⟨z',H4,I4,r4,q4⟩;exact ho' pq s4 Z H4 y z' u w' Q I4 r2 r4 q4
def jQ(K:ao)(x:V)(H:Hp)(k:Bool):Prop:=
 match x with
 |.non=>k=ap
 |.bl b=>k=b
 |.int i=>k=(i != 0)
 |.str y=>y.length<=bp/\k=((y.length:Int) != 0)
 |.byt y=>y.size<=bp/\k=((y.size:Int) != 0)
 |.ref p=>(∃xs,SqL K H p xs/\k = !xs.isEmpty)\/(∃xs,SqT K H p xs/\k = !xs.isEmpty)\/∃kvs,H p=aa (.dK kvs)/\k = !kvs.isEmpty
 |_=>False
def zB{κ:Type}{kvs:List (κ×V)}{vs:List (κ×al)}(r:KV kvs vs):(!vs.isEmpty) = !kvs.isEmpty:=by
 cases r<;>rfl
def VU{xs:List V}{its:List al}(r:Vals xs its):(!its.toArray.isEmpty) = !xs.isEmpty:=by
 cases r<;>simp
def VS:(bp:Nat)<2^63:=by rw[cI];decide
theorem uV:ZdD X (λx H Q=>∃k,jQ X.K x H k/\Q k H):=by
 intro pq s Z H x v Q I rx h;obtain⟨k,e,q⟩:=h;have hl:=VS;have hs:=cI;cases x with
 |non=>
  cases rx;have e':=e;subst e';exact truthy_none #[H,I,q]
 |bl b=>
  cases rx;have e':k=b:=e;subst e';exact fm #[H,I,q]
 |int i=>
  obtain⟨t,rfl⟩:=rx;have e':=e;subst e';exact mF #[H,I,q]
 |str y=>
  obtain⟨t,rfl⟩:=rx;obtain⟨hy,e'⟩:=e;subst e';exact PySem.P.truthy_str (by lia) #[H,I.tok _,q]
 |byt y=>
  obtain⟨t,rfl⟩:=rx;obtain⟨hy,e'⟩:=e;subst e';exact PySem.W.truthy_bytes (by lia) #[H,I.tok _,q]
 |ref p=>
  cases rx;have e':=e;rcases e' with⟨xs,hx,e'⟩|⟨xs,hx,e'⟩|⟨kvs,hx,e'⟩
  .subst e'
   obtain⟨its,r,pl,hz⟩:=I.list hx;have hlen:=r.length;exact wpAny_truthy_list pl.isList (by simp only[ax];lia) #[H,I.tok _,by rw[VU r];exact q]
  .subst e'
   obtain⟨its,r,pl,hz⟩:=I.tuple hx;have hlen:=r.length;exact truthy_tuple pl (by simp only[ax];lia) #[H,I.tok _,by rw[VU r];exact q]
  .subst e'
   obtain⟨hz,hS,vs,r,m⟩:=I.hok p _ hx;have hlen:=Paired.length r;exact wpAny_truthy_dict hS m (by lia) #[H,I.tok _,by rw[zB r];exact q]
 |_=>exact(e).elim
def wX(ha:PE X a ta)(he:∀whole,isTrue a X.env whole=(do let v <-whole;kP a.pos;gO [v] (truthy v))) :
  PT X a (λZ H Q=>ta Z H λx H'=>∃k,jQ X.K x H' k/\Q k H'):=by
 intro pq s Z H Q I h;exact isTrue_plain (thn (ha pq s Z H _ I h)<|by rintro v s1 ⟨x,H1,I1,r1,q1⟩;exact uV pq s1 Z H1 x v Q I1 r1 q1)<|he _
def V4(r:Vals [x] us):∃u,us=[u]/\ZA x u:=by
 cases r with|cons r1 r2=>cases r2;exact#[_,rfl,r1]
def Gz(r:Vals [x,y] us):∃u w',us=[u,w']/\ZA x u/\ZA y w':=by
 cases r with
 |cons r1 r2=>
  cases r2 with|cons r3 r4=>cases r4;exact#[_,_,rfl,r1,r3]
def xQ(hc:X.calm=am):ZJ X (.builtin "max") (λxs H Q=>∃i j,xs=[.int i,.int j]/\Q (.int (if j>i then j else i)) H):=by
 intro pq s Z H xs us Q I r h;obtain⟨i,j,rfl,q⟩:=h;obtain⟨u,w',rfl,⟨t,rfl⟩,⟨t',rfl⟩⟩:=Gz r;refine max_two_ints (I.ok.hd hc) λh' tk k=>#[_,H,I.kept k,?_,q]
 by_cases hj:j>i
 .rw[T9 hj,T9 hj];exact#[_,rfl]
 .rw[T8 hj,T8 hj];exact#[_,rfl]
def xA(hc:X.calm=am):ZJ X (.builtin "min") (λxs H Q=>∃i j,xs=[.int i,.int j]/\Q (.int (if j<i then j else i)) H):=by
 intro pq s Z H xs us Q I r h;obtain⟨i,j,rfl,q⟩:=h;obtain⟨u,w',rfl,⟨t,rfl⟩,⟨t',rfl⟩⟩:=Gz r;refine min_two_ints (I.ok.hd hc) λh' tk k=>#[_,H,I.kept k,?_,q]
 by_cases hj:j<i
 .rw[T9 hj,T9 hj];exact#[_,rfl]
 .rw[T8 hj,T8 hj];exact#[_,rfl]
def xY:ZJ X (.type "int") (λxs H Q=>(∃i,xs=[.int i]/\Q (.int i) H)\/∃k,xs=[.bl k]/\Q (.int (if k then 1 else 0)) H):=by
 intro pq s Z H xs us Q I r h;rcases h with⟨i,rfl,q⟩|⟨k,rfl,q⟩
 .obtain⟨u,rfl,t,rfl⟩:=V4 r
  exact call_int_int #[.int i,H,I,#[_,rfl],q]
 .obtain⟨u,rfl,r1⟩:=V4 r
  cases r1;exact call_int_bool #[.int (if k then 1 else 0),H,I.tok _,#[_,rfl],q]
end
structure ObjM(h:bY)(x dx C:aI)(mA:bG->Option al):Prop where
 obj:h.get? x=aa (k9 C dx)
 ns:h.Ns1 dx mA
 ne:dx≠x
def xU{h:bY}{dx:aI}{mA:bG->Option al}(n:h.Ns1 dx mA):∃od,h.get? dx=aa od/\∀name,lH name od=aa (mA name):=by
 obtain⟨o,es,ep,ho,hd,hk,_,hm⟩:=n;refine#[o,ho,λname=>?_]
 have e:=hm name;unfold nsFind findBy at e;rw[<-Array.find?_toList]at e;unfold lH;rw[hd]
 dsimp only
 split
 .rename_i y q
  rw[q]at e;exact congrArg aa e
 .rename_i q
  rw[q]at e;have a:es.toList.any (·.refKey)=ap:=by
   rw[List.any_eq_false];intro y hy;obtain⟨z,t,hkey⟩:=hk y<|lI.mp hy;simp[ir.refKey,hkey]
  have a':¬es.toList.any (·.refKey)=am:=by rw[a];exact aG
  rw[T8 a'];exact congrArg aa e
def ObjM.look(I:ObjM h x dx C mA):∃od,PySem.W.InstAt h x (k9 C dx) C (aa od)/\∀name,lH name od=aa (mA name):=
 let #[od,ho,hl]:=xU I.ns
 #[od,#[I.obj,rfl,rfl,ho],hl]
section
variable{P:bC}{w:bN}{H H':Hp}{h h':bY}{a C dx:aI}{fs fs':List (bG×V)}
def zR(hok:HOk P w H h)(e:H a=aa (.ins C dx fs)):∃mA,ObjM h a dx C mA/\(∀f,GR (fs.lookup f)<|mA f)/\PySem.Within mA (fs.map (·.1))/\fs.length<=1000/\H dx=aa (.own a):=by
 obtain⟨d,z,ne,ob,mA,n,r,q⟩:=(hok a _ e)
 exact#[mA,#[ob,n,ne],r,q,z,d]
end
structure Cls(K:ao)(C:aI):Prop where
 pg:nD K C bG.empty=am
 hd:PySem.W.hasDictIn K C=am
 po:PySem.W.plainOver K C=am
 sa:oE K (.ref C) "__setattr__" = aa (aa<|.builtin "object.__setattr__")
def Cls.get{K:ao}{C:aI}(c:Cls K C)(f:bG):nD K C f=am:=c.pg
section
variable{X:Cx}{pq:List (aI×fD)}{Z:St}{H:Hp}{s:aw}{A:cD}{E:al->aw->Prop}{Q:al->aw->Prop}{c:al}{b:Bool}
inductive TyOf(K:ao)(H:Hp):V->al->Prop where
 |non:TyOf K H .non (.type "NoneType")
 |bl (x:Bool):TyOf K H (.bl x) (.type "bool")
 |int (i:Int):TyOf K H (.int i) (.type "int")
 |str (x:bG):TyOf K H (.str x) (.type "str")
 |flt (x:UInt64):TyOf K H (.flt x) (.type "float")
 |lst {a:aI} {xs:List V} (e:H a=aa (.lst xs)):TyOf K H (.ref a) (.type "list")
 |frz {a:aI} {o:fD} {xs:List V} (e:H a=aa (.frz o<|.lst xs)):TyOf K H (.ref a) (.type "list")
 |tup {a:aI} {xs:List V} (e:H a=aa (.tup xs)):TyOf K H (.ref a) (.type "tuple")
 |dK {a:aI} {kvs:List (Key×V)} (e:H a=aa (.dK kvs)):TyOf K H (.ref a) (.type "dict")
 |dT {a:aI} {kvs:List (List Key×V)} (e:H a=aa (.dT kvs)):TyOf K H (.ref a) (.type "dict")
 |ins {a C dx:aI} {fs:List (bG×V)} (e:H a=aa (.ins C dx fs)) (cl:Cls K C) (ha:oE K (.ref C) "__class__" = aa (aa<|.builtin "object.__class__"))
   (hn:PySem.W.specialIn K (.builtin "object.__class__") "__get__" = aa (aa<|.builtin "getset_descriptor.__get__")) (htk:PySem.W.takesIn K (.builtin "object.__class__")=aa am)
   (hm:PySem.W.mroIn K C (.type "object")=aa am):TyOf K H (.ref a) (.ref C)
def xp(I:Inv X pq Z H s)(rx:ZA x u)(ty:TyOf X.K H x t)(e:lJ X.K t c=aa b)(h:∀tk,Q (.bool b) {s with toks:=tk}) :
  aW (aQ X.prog X.w) A (call (.builtin "isinstance") [u,c]) Q E s:=by
 cases ty with
 |non=>cases(show u=bf from rx);exact cT mT I.kIn cY e (λz=>nomatch z) h
 |bl y=>cases(rx);exact cT mU I.kIn cY e (λz=>nomatch z) h
 |int i=>obtain⟨t,q⟩:=(rx);cases q;exact cT nE I.kIn cY e (λz=>nomatch z) h
 |str y=>obtain⟨t,q⟩:=(rx);cases q;exact cT nF I.kIn cY e (λz=>nomatch z) h
 |flt y=>obtain⟨t,q⟩:=(rx);cases q;exact cT mG I.kIn cY e (λz=>nomatch z) h
 |@lst a xs ea=>
  cases(rx)
  obtain⟨_,_,n,_,h1⟩:=(I.hok a _ ea)
  exact cT gc I.kIn #[_,h1,rfl] e (λz=>nomatch z) h
 |@frz a ob xs ea=>
  cases(rx)
  obtain⟨_,_,_,n,_,h1⟩:=(I.hok a _ ea)
  exact cT gc I.kIn #[_,h1,rfl] e (λz=>nomatch z) h
 |@tup a xs ea=>
  cases(rx)
  obtain⟨_,_,_,p⟩:=(I.hok a _ ea)
  obtain⟨o,h1,h2,_⟩:=p;exact cT mH I.kIn #[o,h1,h2] e (λz=>nomatch z) h
 |@dK a kvs ea=>
  cases(show u=bT a from rx)
  obtain⟨_,_,vs,_,p⟩:=(I.hok a _ ea)
  obtain⟨o,es,ep,h1,h2,_⟩:=p;exact cT gd I.kIn #[o,h1,h2.1] e (λz=>nomatch z) h
 |@dT a kvs ea=>
  cases(show u=bT a from rx)
  obtain⟨_,_,xs,_,o,es,ep,h1,h2,_⟩:=(I.hok a _ ea)
  exact cT gd I.kIn #[o,h1,h2.1] e (λz=>nomatch z) h
 |@ins a C dx fs ea cl ha hn htk hm=>
  cases(show u=bT a from rx)
  obtain⟨mA,O,_⟩:=zR I.hok ea;obtain⟨od,J,_⟩:=O.look;exact cT (nG (cl.get _) cl.hd ha hn htk hm) I.kIn J e (λz=>nomatch z) h
end
structure Room(k:Nat)(A:cD):Prop where
 hd:A.handled=ae
 dp:A.depth+3*k+5<recursionLimit
 un:A.units+16*k+200<dL
theorem Room.deeper(r:Room (k+1) A)(env:Env):Room k (A.deeper env):=
 #[r.hd,by have:=r.dp;show A.depth+1+3*k+5<_;lia,by have:=r.un;show A.units+3+16*k+200<_;lia]
theorem Room.depth(r:Room k A):A.depth<recursionLimit:=by have:=r.dp;lia
def Zdt:TA:=λ_ H Q=>Q [] H
def Zdl(ta:TE)(tr:TA):TA:=λZ H Q=>ta Z H λx H1=>tr Z H1 λxs H2=>Q (x::xs) H2
section
variable{X:Cx}{e:Expr}{es:List Expr}{te:TE}{t:TA}{pos:iw}
def QL:PA X [] Zdt:=λ_ _ _ _ H Q I h=>Calls.spliced_nil #[[],H,I,.nil,h]
def YY(ha:PE X e te)(hr:PA X es t)(hs:aL (e::es) X.env=(ap,c8 e X.env)::aL es X.env:=by rfl):PA X (e::es) (Zdl te t):=by
 intro pos pq s Z H Q I h;rw[hs];refine Calls.spliced_cons<|thn (ha pq s Z H _ I h) λu s1 #[x,H1,I1,r1,q1]=>?_
 exact thn (hr pos pq s1 Z H1 _ I1 q1)<|by rintro us s2 ⟨xs,H2,I2,r2,q2⟩;exact #[x::xs,H2,I2,.cons r1 r2,q2]
def Zdu(t:TA):TE:=λZ H Q=>t Z H λxs H1=>xs.length<=bp/\∀p,H1 p=ae->Q (.ref p) (upd H1 p<|.tup xs)
def ZdJ(t:TA):TE:=λZ H Q=>t Z H λxs H1=>xs.length<=bp/\∀p,H1 p=ae->Q (.ref p) (upd H1 p<|.lst xs)
def v3{x1}(h:PA X es t):PE X (.Tuple es x1 pos) (Zdu t):=by
 intro pq s Z H Q I hq;refine wpAny_Tuple_spliced<|thn (h pos pq s Z H _ I hq) λus s1 #[xs,H1,I1,r,z,q]=>#[by rw[<-r.length];exact z,?_]
 have hf:=I1.hok.fresh<|aH _;refine#[.ref s1.heap.objs.size,upd H1 s1.heap.objs.size<|.tup xs,I1.laid (t':=s1.toks) (λb u e=>aq _ e) (aH _) ?_,rfl,q _ hf]
 exact#[z,us,r,#[_,aJ _ rfl,rfl,_,rfl]]
def Zcl(h:PA X es t):PE X (.List es pos) (ZdJ t):=by
 intro pq s Z H Q I hq;refine wpAny_List_spliced<|thn (h pos pq s Z H _ I hq) λus s1 #[xs,H1,I1,r,z,q]=>#[by rw[<-r.length];exact z,?_]
 have hf:=I1.hok.fresh<|aH _;refine#[.ref s1.heap.objs.size,upd H1 s1.heap.objs.size<|.lst xs,I1.laid (t':=s1.toks) (λb u e=>aq _ e) (aH _) ?_,rfl,q _ hf]
 exact#[z,us,0,r,aJ _ rfl]
end
abbrev Sp:=List V->Hp->VK->XK->Prop
abbrev CXT:=List Env->Hp->aw->XK->al->aw->Prop
structure Env0(P:bC)(w:bN)(K:ao)(mg:bG->Option al)(base:bY)(A:cD)(outer:List Env)(s:aw)(H:Hp):Prop where
 frames:A.frames=aa outer
 mod:Mod K mg base
 bs:∀b o,base.get? b=aa o->s.heap.get? b=aa o/\H b=ae
 bsz:base.objs.size<=s.heap.objs.size
 funs:s.heap.FunFrames base outer
 frf:∀b∈frs outer,H b=ae
 hok:HOk P w H s.heap
 bare:iX s.gens
def CE(outer:List Env)(P:bC)(w:bN)(H:Hp)(s:aw)(Q:VK)(u:al)(s':aw):Prop:=
 ∃v H',s'.os=s.os/\iX s'.gens/\Un (frs outer) [] H H' s.heap s'.heap/\HOk P w H' s'.heap/\ZA v u/\Q v H'
def CR(CX:CXT)(outer:List Env)(P:bC)(w:bN)(H:Hp)(s:aw)(Q:VK)(E:XK)(r:pe)(s':aw):Prop:=
 match r with
 |.ok (.ret u)=>CE outer P w H s Q u s'
 |.ok _=>False
 |.error e=>CX outer H s E e s'
structure FnOk(P:bC)(w:bN)(K:ao)(mg:bG->Option al)(base:bY)(CX:CXT)(k:Nat)(f:aI)(fd:cW)(ps:List bG)(sp:Sp):Prop where
 len:∀vs H Q E,sp vs H Q E->vs.length=ps.length
 run:∀(A:cD)(outer:List Env)(s:aw)(H:Hp)(args:Args)(us:List al)(vs:List V)(Q:VK)(E:XK),Room k A->Env0 P w K mg base A outer s H->mV s fd args (ps.zip us)->Vals vs us->sp vs H Q E->
  fq (aQ P w) A (.call (.ref f) args) (CR CX outer P w H s Q E) s
section
variable{X:Cx}{pq:List (aI×fD)}{Z:St}{H:Hp}{s s':aw}
def Inv.env0(I:Inv X pq Z H s):Env0 X.prog X.w X.K X.mg X.base X.A X.stack s H:=
 #[I.ok.frames,I.ok.mod,I.bs,cO I.ok.bsz I.sz,I.stack,I.stkFree,I.hok,I.bare]
def Inv.after(I:Inv X pq Z H s)(h:CE X.stack X.prog X.w H s Q u s'):EP X pq Z Q u s':=by
 obtain⟨v,H',os,bare,un,hok,r,q⟩:=h;obtain⟨hh,g,d,t,os'⟩:=s';obtain rfl:os'=s.os:=os;exact#[v,H',I.call (h':=hh) (g':=g) (d':=d) (t':=t) un hok bare (λb z=>T7 z (by simp)),r,q]
end
def Zai(sp:Sp)(dvs:List V)(E:XK)(t:TA):TE:=λZ H Q=>t Z H λvs H1=>sp (vs++dvs) H1 Q E
def Vz(K:ao)(fd:cW)(ps:List bG)(ds:List al):Prop:=
 ∀(s:aw)(us:List al),K.In s.heap->(us++ds).length=ps.length->mV s fd #[us,[]] (ps.zip<|us++ds)
def Vz.all{K:ao}{fd:cW}{ps:List bG}(h:∀us:List al,us.length=ps.length->oF fd #[us,[]]=c7 (ps.zip us)):Vz K fd ps []:=λs us _ hl=>by
 rw[cE]at hl ⊢;exact .of_eq<|h us hl
def zd(CX:CXT)(X:Cx)(E:XK):Prop:=∀(pq:List (aI×fD))(Z:St)(H:Hp)(s:aw)(e:al)(s':aw),Inv X pq Z H s->CX X.stack H s E e s'->X.xe e s'
section
variable{X:Cx}{CX:CXT}{k:Nat}{f C:aI}{fd:cW}{ps:List bG}{sp:Sp}{dvs:List V}{ds:List al}{E:XK}{x m:bG}{p pos apos:iw}{e o:Expr}{es:List Expr}{ta:TE}{t:TA}
def ZbD(F:FnOk X.prog X.w X.K X.mg X.base CX k f fd ps sp)(hr:Room k X.A)(hb:Vz X.K fd ps ds)(hd:Vals dvs ds)(hx:zd CX X E)
  (I:Inv X pq Z H s)(r:Vals vs us)(h:sp (vs++dvs) H Q E):aW (aQ X.prog X.w) X.A (call (.ref f) us) (EP X pq Z Q) X.xe s:=by
 have r2:=r.append hd;have hl:(us++ds).length=ps.length:=by rw[<-r2.length];exact F.len _ _ _ _ h
 refine wpAny_call<|gf (F.run X.A X.stack s H #[us,[]] (us++ds) (vs++dvs) Q E hr I.env0 (hb s us I.kIn hl) r2 h) λr s' hq=>?_
 cases r with
 |error e=>exact hx pq Z H s e s' I hq
 |ok fl=>
  cases fl with|ret u=>exact I.after hq|next=>exact False.elim hq|brk=>exact False.elim hq|cont=>exact False.elim hq
def yp(F:FnOk X.prog X.w X.K X.mg X.base CX k f fd ps sp)(hr:Room k X.A)(hg:Gl X x)(hm:X.mg x=aa (.ref f))(hk:gg X.K (.ref f)=am)(hb:Vz X.K fd ps ds)(hd:Vals dvs ds)(hx:zd CX X E)
  (ha:PA X (e::es) t)(hdb:(x == ("__debug__" : bG))=ap:=by decide)(he:aL (e::es) X.env=(ap,c8 e X.env)::aL es X.env:=by rfl)(hpl:(fN pos<|aL es X.env).any (·.1)=ap:=by rfl) :
  PE X (.Call (.Name x p) (e::es) [] pos) (Zai sp dvs E t):=by
 intro pq s Z H Q I h;refine dZ<|jf I hg hm ?_ hdb;refine PySem.W.callWith_K I.ok.mod.kin hk (thn (ha pos pq s Z H _ I h) λus s1 #[vs,H1,I1,r,q]=>#[I1.kIn,?_]) he hpl
 exact ZbD F hr hb hd hx I1 r q
end
structure FnScope(N P:List bG)(sc:eR):Prop where
 kind:sc.kind=.function
 co:sc.isCoroutine=ap
 gen:sc.isGenerator=ap
 nd:N.Nodup
 pre:N.take P.length=P
 par:∀x∈P,sc.names.lookup x=aa .local\/sc.names.lookup x=aa .cell
 nofree:∀y∈sc.names,y.2≠.free
theorem Uy{kindOf:bG->Option eD}{x:bG}:∀{binds:List (bG×al)}{m:bG->Option al},(∀v,(x,v)∉binds)->pa kindOf binds m x=m x
 |[],_,_=>rfl
 |(n,v)::r,m,h=>by
  unfold pa;rw[Uy λw hw=>h w<|aj _ hw]
  split
  .have:x≠n:=by rintro rfl;exact h v ak
   simp[this]
  .rfl
theorem UG{kindOf:bG->Option eD}{x:bG}:∀{binds:List (bG×al)}{m:bG->Option al},(∀v,(x,v)∉binds)->pb kindOf binds m x=m x
 |[],_,_=>rfl
 |(n,v)::r,m,h=>by
  unfold pb;rw[UG λw hw=>h w<|aj _ hw]
  split
  .rfl
  .have:x≠n:=by rintro rfl;exact h v ak
   simp[this]
theorem Uf{kindOf:bG->Option eD}{x:bG}{v:al}:∀{P:List bG}{vs:List al}{i:Nat}{m:bG->Option al},P.Nodup->P[i]?=aa x->vs[i]?=aa v->kindOf x=aa .local->
  pa kindOf (P.zip vs) m x=aa v
 |[],_,_,_,_,h,_,_=>by simp at h
 |_::_,[],_,_,_,_,h,_=>by simp at h
 |p::P,w::vs,0,m,nd,h1,h2,hk=>by
  simp at h1 h2;subst h1;subst h2;show pa kindOf ((p,w)::P.zip vs) m p=_;unfold pa;rw[Uy λv hv=>(dA.mp nd).1 (gX hv).1,T9 hk]
  simp
 |p::P,w::vs,i+1,m,nd,h1,h2,hk=>by
  unfold pa;exact Uf (dA.mp nd).2 (by simpa using h1) (by simpa using h2) hk
theorem UP{kindOf:bG->Option eD}{x:bG}{v:al}:∀{P:List bG}{vs:List al}{i:Nat}{m:bG->Option al},P.Nodup->P[i]?=aa x->vs[i]?=aa v->kindOf x≠aa .local->
  pb kindOf (P.zip vs) m x=aa v
 |[],_,_,_,_,h,_,_=>by simp at h
 |_::_,[],_,_,_,_,h,_=>by simp at h
 |p::P,w::vs,0,m,nd,h1,h2,hk=>by
  simp at h1 h2;subst h1;subst h2;show pb kindOf ((p,w)::P.zip vs) m p=_;unfold pb;rw[UG λv hv=>(dA.mp nd).1 (gX hv).1,T8 hk]
  simp
 |p::P,w::vs,i+1,m,nd,h1,h2,hk=>by
  unfold pb;exact UP (dA.mp nd).2 (by simpa using h1) (by simpa using h2) hk
noncomputable def start(N:List bG)(vs:List V):St:=vs.map aa++aB (N.length-vs.length) ae
noncomputable def Jz(CX:CXT)(P:bC)(w:bN)(K:ao)(mg:bG->Option al)(base:bY)(N:List bG)(qual:bG)(scope:eR)(f:aI)(cd:al)(A:cD)(outer:List Env)(s:aw)(H:Hp)(E:XK):Cx where
 prog:=P
 w:=w
 K:=K
 mg:=mg
 base:=base
 A:=A.deeper<|iz qual scope s.heap.objs.size f cd
 N:=N
 s₀:=s
 H₀:=H
 env:=iz qual scope s.heap.objs.size f cd
 outer:=outer
 stack:=iz qual scope s.heap.objs.size f cd::outer
 ex:=[]
 calm:=am
 fn:=λ_=>am
 pn:=[]
 xe:=λe s'=>aW (aQ P w) (A.deeper<|iz qual scope s.heap.objs.size f cd) (leaving (iz qual scope s.heap.objs.size f cd) e) (λ_ s''=>CX outer H s E e s'') (λe' s''=>CX outer H s E e' s'') s'
def JF{sc:eR}{n:Nat}{x:bG}(h:sc.names.lookup x=aa .cell):∃c,(dS n sc.names []).lookup x=aa c:=by
 have q:=kR sc.names n []<|.inl h;exact dD.mp q
def xk{CX:CXT}{P:bC}{w:bN}{K:ao}{mg:bG->Option al}{base:bY}{N ps:List bG}{qual:bG}{scope:eR}{f:aI}{cd:al}{A:cD}{outer:List Env}{s s1:aw}{H:Hp}{E:XK}{us:List al}{vs:List V}
  (S:FnScope N ps scope)(hd:A.handled=ae)(e0:Env0 P w K mg base A outer s H)(hl:vs.length=ps.length)(r:Vals vs us)
  (x:InCallC s s.heap.objs.size (pa (iz qual scope s.heap.objs.size f cd).kindOf (ps.zip us) λ_=>ae) (dS (s.heap.objs.size+1) scope.names []) (pb (iz qual scope s.heap.objs.size f cd).kindOf (ps.zip us) λ_=>ae) s1) :
  Inv (Jz CX P w K mg base N qual scope f cd A outer s H E) [] (start N vs) H s1:=by
 have hpl:ps.length<=N.length:=by have:=congrArg List.length S.pre;rw[bh]at this;lia
 obtain⟨h1,tk,rfl,hk⟩:=x.done;have noA:∀b:aI,b∉(Jz CX P w K mg base N qual scope f cd A outer s H E).ex:=λb z=>T7 (show b∈([]:List aI)from z) (by simp)
 refine#[#[e0.mod,S.kind,rfl,rfl,aH _,λy z c h1 h2=>?_,λy hy=>?_,λy c _ h=>?_,λ_=>hd,cD.frames_deeper e0.frames,.inr #[rfl,rfl],λb z=>T7 z<|noA b,e0.bs,e0.bsz,λb _ _=>noA b,λb z=>T7 z<|noA b,e0.funs,e0.frf],
  rfl,e0.bare,Un.kept hk,#[_,x.toInCall.ns,λi y v h1 h2 h3=>?_],λy c h=>#[_,x.cell y c h],e0.hok.fresh<|aH _,λy c h=>?_,λp hp=>T7 (show p∈([]:List (aI×fD))from hp) (by simp),e0.hok.kept hk,?_]
 .exact name_of_addr x.apart (eQ h1)<|eQ h2
 .have hy:=hy
  rcases hy with hy|hy
  .exact JF hy
  .exact T7 rfl<|S.nofree _<|eQ hy
 .exact ga<|x.above y c<|eQ h
 .have hi:i<vs.length:=by
   unfold start at h2;by_cases hi:i<vs.length
   .exact hi
   .rw[bu<|by simpa using hi]at h2
    rw[cq]at h2;split at h2<;>cases h2
  have ha:vs[i]?=aa v:=by
   unfold start at h2;rw[bO (by simpa using hi),aK]at h2
   cases e:vs[i]? with|none=>rw[e]at h2;cases h2|some a=>rw[e]at h2;cases h2;rfl
  obtain⟨u,hu,rv⟩:=r.get ha;have hp:ps[i]?=aa y:=by
   rw[<-S.pre,List.getElem?_take_of_lt (by lia)];exact h1
  have ndP:ps.Nodup:=by rw[<-S.pre];exact S.nd.sublist<|iZ _ _
  refine#[u,rv,?_];rcases S.par y (c9 hp)with k|k
  .exact .inl #[k,Uf ndP hp hu k]
  .obtain⟨c,e⟩:=JF k
   refine .inr #[.inl k,c,e,?_];have q:=x.cell y c e;rw[UP ndP hp hu<|by show scope.names.lookup y≠_;rw[k];decide]at q
   exact q
 .exact e0.hok.fresh<|ga<|x.above y c<|eQ h
 .unfold start
  show _=N.length;rw[bw,az,ck];lia
def ZcB{CX:CXT}{P:bC}{w:bN}{K:ao}{mg:bG->Option al}{base:bY}{k:Nat}{f:aI}{name qual:bG}{params:Arguments}{body:List fE}{scope:eR}{dV kV doc pm cdv ct oc:al}{an od:Option aI}
  {osl:Array (Option al)}{N ps:List bG}{sp:Sp}(lk:K.lookup f=aa #[oc,od,.func<|dQ name qual params body scope dV kV doc pm an cdv ct,osl])(hcd:iA K cdv qual=am)(S:FnScope N ps scope)
  (len:∀vs H Q E,sp vs H Q E->vs.length=ps.length)
  (hbody:∀(A:cD)(outer:List Env)(s:aw)(H:Hp)(vs:List V)(Q:VK)(E:XK),Room k (A.deeper<|iz qual scope s.heap.objs.size f cdv)->sp vs H Q E->
   ∃t,PSs (Jz CX P w K mg base N qual scope f cdv A outer s H E) body t/\t {nx:=λ_ H'=>Q .non H',rt:=Q} (start N vs) H) :
  FnOk P w K mg base CX (k+1) f (dQ name qual params body scope dV kV doc pm an cdv ct) ps sp:=by
 refine#[len,λA outer s H args us vs Q E hr e0 hb r hsp=>?_]
 have hl:=len _ _ _ _ hsp;have KX:=e0.mod.kin.keeps λb o e=>(e0.bs b o e).1
 have lim:=e0.mod.nolimit.keeps λb o e=>(e0.bs b o e).1
 have hkind:∀y∈ps.zip us,scope.names.lookup y.1=aa .local\/(scope.names.lookup y.1=aa .cell/\((dS (s.heap.objs.size+1) scope.names []).lookup y.1).isSome=am):=by
  rintro ⟨n,v⟩ hy;rcases S.par n (gX hy).1 with q|q
  .exact .inl q
  .exact .inr #[q,kR _ _ _<|.inl q]
 refine codeAny_call_function hr.depth (KX _ _ lk) rfl S.co S.gen rfl (PySem.W.codeRec_of KX hcd)<|hb _ _ _ _ ?_;refine wpAny_newFunctionEnv_cells S.kind hkind λenv he s1 x=>?_
 subst he;refine#[lim.keeps x.toInCall.keep,codeAny_func ?_];obtain⟨t,ht,hq⟩:=hbody A outer s H vs Q E (hr.deeper _) hsp;have I:Inv (Jz CX P w K mg base N qual scope f cdv A outer s H E) [] (start N vs) H s1:=xk S hr.hd e0 hl r x;refine cL (ht [] s1 (start N vs) H _ I hq) (λfl s' hs=>?_) λe s' hs=>hs
 have fin:∀{σ':St}{H':Hp}{v:V}{u:al},Inv (Jz CX P w K mg base N qual scope f cdv A outer s H E) [] σ' H' s'->ZA v u->Q v H'->CE outer P w H s Q u s':=
  λ{σ' H' v u} J rv q=>#[v,H',J.os,J.bare,J.base,J.hok,rv,q]
 cases fl with
 |ret u=>
  obtain⟨v,σ',H',J,rv,q⟩:=hs;exact fin J rv q
 |next=>
  obtain⟨σ',H',J,q⟩:=hs;exact fin (v:=V.non) J rfl q
 |brk=>
  obtain⟨_,_,_,q⟩:=hs;exact False.elim q
 |cont=>
  obtain⟨_,_,_,q⟩:=hs;exact False.elim q
section
variable{X:Cx}{x:bG}{p pos:iw}{e:Expr}{es:List Expr}{t:TA}{id T:String}{r:List V->Hp->VK->Prop}
def tCB(r:List V->Hp->VK->Prop)(t:TA):TE:=λZ H Q=>t Z H λvs H1=>r vs H1 Q
def VY(hc:ZJ X (.builtin id) r)(hg:Gl X x)(hm:X.mg x=ae)(hv:cZ x=aa (.builtin id))(ha:PA X (e::es) t)(hn:x≠"__name__":=by decide)(hdb:(x == ("__debug__" : bG))=ap:=by decide)
  (he:aL (e::es) X.env=(ap,c8 e X.env)::aL es X.env:=by rfl)(hpl:(fN pos<|aL es X.env).any (·.1)=ap:=by rfl):PE X (.Call (.Name x p) (e::es) [] pos) (tCB r t):=by
 intro pq s Z H Q I h;refine dZ<|YU I hg hm hv ?_ hn hdb;exact gF (thn (ha pos pq s Z H _ I h)<|by rintro us s1 ⟨vs,H1,I1,r1,q1⟩;exact hc pq s1 Z H1 vs us Q I1 r1 q1) he hpl
def UO(hc:ZJ X (.type T) r)(hg:Gl X x)(hm:X.mg x=ae)(hv:cZ x=aa (.type T))(ha:PA X (e::es) t)(hn:x≠"__name__":=by decide)(hdb:(x == ("__debug__" : bG))=ap:=by decide)
  (he:aL (e::es) X.env=(ap,c8 e X.env)::aL es X.env:=by rfl)(hpl:(fN pos<|aL es X.env).any (·.1)=ap:=by rfl):PE X (.Call (.Name x p) (e::es) [] pos) (tCB r t):=by
 intro pq s Z H Q I h;refine dZ<|YU I hg hm hv ?_ hn hdb;exact de (thn (ha pos pq s Z H _ I h)<|by rintro us s1 ⟨vs,H1,I1,r1,q1⟩;exact hc pq s1 Z H1 vs us Q I1 r1 q1) he hpl
end
end L2
namespace HT
open PySem PyProof.Rows
section
variable{prog:bC}{w:bN}{A:cD}{E:al->aw->Prop}{s:aw}
def qp{Q:al->aw->Prop}(ht:o8 s.heap t vs.toArray)(hb:o8 s.heap b ws.toArray)(hv:vs≠[])
  (h1:ws=[]->Q (.ref t) s)(h2:ws≠[]->Q (.ref s.heap.objs.size) {s with heap:=s.heap.push {cls:=.type "tuple",data:=.seq (vs++ws).toArray}})
  (hsz:vs.length+ws.length<=bp):aW (aQ prog w) A (eC .Add (.ref t)<|.ref b) Q E s:=by
 obtain⟨⟨cls,dd,data,sl⟩,ho,hc,n,hd⟩:=id ht;obtain⟨⟨cls2,dd2,data2,sl2⟩,ho2,hc2,n2,hd2⟩:=id hb;simp only at hc hd hc2 hd2;subst hc hd hc2 hd2;have e:vs.toArray++ws.toArray=(vs++ws).toArray:=by simp
 by_cases hw:ws=[]
 .exact mW #[_,ho,rfl] #[_,ho2,rfl] kC mh gh f6 (fP _ _)
   (tuple_addW1 t b vs.toArray ws.toArray n n2 dd dd2 sl sl2 (by simpa using hv)<|by simp[hw]) #[ho,ho2,h1 hw]
 .refine mW #[_,ho,rfl] #[_,ho2,rfl] kC mh gh f6 (fP _ _)
   (tuple_addW2 t b vs.toArray ws.toArray n n2 dd dd2 sl sl2 (by simpa using hv) (by simpa using hw)<|by rw[ax,ax];exact hsz) #[ho,ho2,?_]
  rw[e];exact h2 hw
noncomputable def sIx(n d:Nat):Option Int->Nat
 |none=>d
 |some v=>if v<0 then(v+(n:Int)).toNat else oW v.toNat n
theorem Zbk(n d:Nat)(hd:d<=n)(o:Option Int):sIx n d o<=n:=by
 cases o with
 |none=>exact hd
 |some v=>
  show(if v<0 then(v+(n:Int)).toNat else oW v.toNat n)<=n
  by_cases hv:v<0
  .rw[T9 hv];lia
  .rw[T8 hv];exact Nat.min_le_right _ _
theorem zD(v:Int)(n d:Nat):(if v<0 then max (v+(n:Int)) 0 else oW v (n:Int))=((sIx n d (aa v):Nat):Int):=by
 show(if v<0 then max (v+(n:Int)) 0 else oW v (n:Int))=(((if v<0 then(v+(n:Int)).toNat else oW v.toNat n):Nat):Int)
 by_cases hv:v<0
 .simp only[T9 hv];lia
 .simp only[T8 hv];lia
theorem GQ(lo hi:Option Int)(n:Nat):fJ lo hi 1 (n:Int)=(((sIx n 0 lo:Nat):Int),((sIx n n hi:Nat):Int)):=by
 have h1:¬((1:Int)<0):=by lia
 unfold fJ;simp only[h1,if_false];refine pj ?_ ?_
 .cases lo with|none=>rfl|some v=>exact zD v n 0
 .cases hi with|none=>rfl|some v=>exact zD v n n
theorem zt(i j:Nat):cA (i:Int) (j:Int) 1=j-i:=by
 unfold cA;have h1:(1:Int)>0:=by lia
 simp only[h1,if_true,Int.ediv_one];split<;>lia
def XJ{Q:Option Int->aw->Prop}(p:iB v o)(h:Q o s):aW (aQ prog w) A (dE.Slice.slicePartIndex v) Q E s:=by
 cases p with|none=>exact iC h|int i t=>exact slicePart_int h
def YO{sl:aI}{vl vu:al}{lo hi:Option Int}{n:Nat}{Q:Int×Int×Nat->aw->Prop}(hs:s.heap.IsSliceOf sl vl vu .none)(pl:iB vl lo)(pu:iB vu hi)
  (h:Q (((sIx n 0 lo:Nat):Int),1,sIx n n hi-sIx n 0 lo) s):aW (aQ prog w) A (iD (.ref sl)<|c7 (n:Int)) Q E s:=by
 obtain⟨os,hos,hcs,hds⟩:=id hs;refine ab<|ab<|cz hos hds rfl<|ab<|cz hos hds rfl<|ab<|cz hos hds rfl<|au ?_;refine ab<|iC ?_;show aW _ _ (if((1:Int) == 0)=am then _ else _) _ _ s
 rw[T8 (by decide)]
 refine ab<|XJ pl<|ab<|XJ pu<|ab<|au ?_;show aW _ _ (match fJ lo hi 1 (n:Int)with|(lo,hi)=>c7 (lo,(1:Int),cA lo hi 1)) _ _ s
 rw[GQ lo hi n];show aW _ _ (c7 (((sIx n 0 lo:Nat):Int),(1:Int),cA ((sIx n 0 lo:Nat):Int) ((sIx n n hi:Nat):Int) 1)) _ _ s;rw[zt];exact au h
theorem ue(xs:Array al)(i k:Nat):((aM k).filterMap λ(m:Nat)=>xs[((i:Int)+(m:Int)*1).toNat]?).toArray=((xs.toList.drop i).take k).toArray:=by
 have e:(λ(m:Nat)=>xs[((i:Int)+(m:Int)*1).toNat]?)=λm=>xs[i+m]?:=by
  funext m
  have:((i:Int)+(m:Int)*1).toNat=i+m:=by lia
  rw[this]
 rw[e];have:=pick_run xs i k;rw[iE]at this;have e2:((λx=>xs[x]?)∘λx=>i+x)=λm=>xs[i+m]?:=rfl
 rw[e2]at this;rw[this]
theorem X0{t sl:aI}{items:Array al}{vl vu:al}{lo hi:Option Int}{Q:al->aw->Prop}(ht:o8 s.heap t items)(hs:s.heap.IsSliceOf sl vl vu .none)(pl:iB vl lo)(pu:iB vu hi)
  (hw:¬(sIx items.size 0 lo=0/\sIx items.size items.size hi=items.size))
  (h:Q (.ref s.heap.objs.size) {s with heap:=s.heap.push {cls:=.type "tuple",data:=.seq ((items.toList.drop<|sIx items.size 0 lo).take<|sIx items.size items.size hi-sIx items.size 0 lo).toArray}})
  (hsz:items.size<=bp):aW (aQ prog w) A (i4 (.ref t)<|.ref sl) Q E s:=by
 have htake:sizeOk (.seq ((items.toList.drop<|sIx items.size 0 lo).take<|sIx items.size items.size hi-sIx items.size 0 lo).toArray):=by
  show((items.toList.drop<|sIx items.size 0 lo).take<|sIx items.size items.size hi-sIx items.size 0 lo).toArray.size<=bp;rw[ax,bh,bo,ay];lia
 have hj:sIx items.size items.size hi<=items.size:=Zbk _ _ (aH _) hi;obtain⟨os,hos,hcs,hds⟩:=id hs;have hTs:s.TypeIs (.ref sl) "slice":=#[os,hos,hcs];unfold i4
 try with_reducible refine bR ?_
 first|refine ab<|au ?_|skip
 refine ab<|i5 ht.typeIs (by decide) ?_
 refine ab (cr ht.typeIs cg
  (cG cg ht.typeIs hZ ?_<|iF _ _))
 show aW _ _ (fz (.ref t) >>= _) _ _ s;refine ab<|mi ht ?_;refine ab<|ig hTs ?_;rw[T9 (by decide)]
 refine ab<|YO hs pl pu ?_;have hno:¬((((sIx items.size 0 lo:Nat):Int) == 0&&(1:Int) == 1&&(sIx items.size items.size hi-sIx items.size 0 lo) == items.size)=am):=by
  intro q;rw[aC,aC]at q;have q1:=eS q.1.1;have q2:=eS q.2;exact hw #[by lia,by lia]
 show aW _ _ (if(((sIx items.size 0 lo:Nat):Int) == 0&&(1:Int) == 1&&(sIx items.size items.size hi-sIx items.size 0 lo) == items.size)=am then _ else _) _ _ s
 rw[T8 hno,ue]
 first
  |exact ab<|bH (au #[_,rfl,au h]) htake
  |exact ab<|bH (ab<|au<|au #[_,rfl,au h]) htake
  |exact ab<|ab<|bH (au<|au #[_,rfl,au h]) htake
  |exact ab<|ab (m:=dE.Tuple.tupleExact _)<|bH (au #[_,rfl,au h]) htake
end
end HT
namespace L2
open PySem PySem.Spec PyProof.Rows
abbrev TO:=St->Hp->(Option Int->Hp->Prop)->Prop
def PO(X:Cx)(e:Option Expr)(t:TO):Prop:=
 ∀(pq:List (aI×fD))(s:aw)(Z:St)(H:Hp)(Q:Option Int->Hp->Prop),Inv X pq Z H s->t Z H Q->
  aW (aQ X.prog X.w) X.A (evalPart e X.env) (λu s'=>∃o H',Inv X pq Z H' s'/\iB u o/\Q o H') X.xe s
def qk:TO:=λ_ H Q=>Q ae H
def ZcY(t:TE):TO:=λZ H Q=>t Z H λx H1=>∃i,x=.int i/\Q (aa i) H1
section
variable{X:Cx}{e:Expr}{te:TE}{lo hi:Option Expr}{tl th:TO}{pos p2:iw}
def qB:PO X ae qk:=by
 intro pq s Z H Q I h;rw[mj];exact au #[ae,H,I,.none,h]
def Z8(h:PE X e te):PO X (aa e) (ZcY te):=by
 intro pq s Z H Q I hw;rw[evalPart_some];refine thn (h pq s Z H _ I hw) λu s1 #[x,H1,I1,r1,q1]=>?_
 obtain⟨i,rfl,q⟩:=q1;obtain⟨t,rfl⟩:=r1;exact#[aa i,H1,I1,.int i t,q]
def SlR(X:Cx)(r:V->Option Int->Option Int->Hp->VK->Prop):Prop:=
 ∀(pq:List (aI×fD))(s:aw)(Z:St)(H:Hp)(x:V)(v vl vu:al)(lo hi:Option Int)(sl:aI)(Q:VK),Inv X pq Z H s->ZA x v->s.heap.IsSliceOf sl vl vu .none->iB vl lo->iB vu hi->r x lo hi H Q->
  ∃T id,typeLookup (.type T) "__getitem__" = c7 (aa<|.builtin id)/\s.TypeIs v T/\aW (aQ X.prog X.w) X.A (i4 v<|.ref sl) (EP X pq Z Q) X.xe s
def SlR.or{r r':V->Option Int->Option Int->Hp->VK->Prop}(h:SlR X r)(h':SlR X r'):SlR X (λx lo hi H Q=>r x lo hi H Q\/r' x lo hi H Q):=by
 intro pq s Z H x v vl vu lo hi sl Q I rx hs pl pu q;rcases q with q|q
 .exact h pq s Z H x v vl vu lo hi sl Q I rx hs pl pu q
 .exact h' pq s Z H x v vl vu lo hi sl Q I rx hs pl pu q
def tSl(r:V->Option Int->Option Int->Hp->VK->Prop)(te:TE)(tl th:TO):TE:=λZ H Q=>te Z H λx H1=>tl Z H1 λl H2=>th Z H2 λu H3=>r x l u H3 Q
def uj{r:V->Option Int->Option Int->Hp->VK->Prop}(hr:SlR X r)(he:PE X e te)(hl:PO X lo tl)(hu:PO X hi th):PE X (.Subscript e (.Slice lo hi ae p2) pos) (tSl r te tl th):=by
 intro pq s Z H Q I h;refine oG<|thn (he pq s Z H _ I h) λv s1 #[x,H1,I1,r1,q1]=>?_
 refine wpAny_Slice<|thn (hl pq s1 Z H1 _ I1 q1) λvl s2 #[l,H2,I2,pl,q2]=>thn (hu pq s2 Z H2 _ I2 q2) λvu s3 #[u,H3,I3,pu,q3]=>?_
 rw[mj];refine au ?_;have I4:Inv X pq Z H3 {s3 with heap:=s3.heap.push {cls:=.type "slice",data:=.fields [vl,vu,.none].toArray}}:=I3.kept (t':=s3.toks) λb ob q=>aq _ q
 obtain⟨T,id,hT,ht,hg⟩:=hr pq {s3 with heap:=s3.heap.push {cls:=.type "slice",data:=.fields [vl,vu,.none].toArray}} Z H3 x v vl vu l u s3.heap.objs.size Q I4 r1 (mI ..) pl pu q3
 exact tail_any ht hT hg (by with_unfolding_all rfl)
noncomputable def Yy(xs:List V)(lo hi:Option Int):List V:=(xs.drop<|HT.sIx xs.length 0 lo).take<|HT.sIx xs.length xs.length hi-HT.sIx xs.length 0 lo
theorem WC(xs:List V)(lo hi:Option Int):(Yy xs lo hi).length<=xs.length:=by
 unfold Yy;rw[bh,bo];lia
def ZdM(K:ao):V->Option Int->Option Int->Hp->VK->Prop:=λx lo hi H Q=>∃a xs,x=.ref a/\SqT K H a xs/\
 ¬(HT.sIx xs.length 0 lo=0/\HT.sIx xs.length xs.length hi=xs.length)/\∀p,H p=ae->Q (.ref p) (upd H p<|.tup<|Yy xs lo hi)
def ZaP:SlR X (ZdM X.K):=by
 intro pq s Z H x v vl vu lo hi sl Q I rx hs pl pu h;obtain⟨a,xs,rfl,hx,hw,q⟩:=h;cases rx;obtain⟨its,r,ht,hz⟩:=I.tuple hx;have hlen:its.toArray.size=xs.length:=by rw[ax];exact r.length.symm
 refine#["tuple",_,cg.lookup,ht.typeIs,?_];refine HT.X0 ht hs pl pu (by rw[hlen];exact hw) ?_ (by rw[hlen];exact hz)
 rw[hlen];refine#[.ref s.heap.objs.size,_,I.laid (t':=s.toks) (λb ob q=>aq _ q) (aH _) ?_,rfl,q _<|I.hok.fresh<|aH _]
 exact#[cO (WC xs lo hi) hz,_,(r.drop<|HT.sIx xs.length 0 lo).take<|HT.sIx xs.length xs.length hi-HT.sIx xs.length 0 lo,iq _ _]
def Zay(K:ao):R2:=λx y H Q=>∃a b xs ys,x=.ref a/\y=.ref b/\SqT K H a xs/\SqT K H b ys/\xs≠[]/\xs.length+ys.length<=bp/\
 (ys=[]->Q (.ref a) H)/\(ys≠[]->∀p,H p=ae->Q (.ref p) (upd H p<|.tup<|xs++ys))
def Vals.nil_iff(r:Vals xs us):us=[]↔xs=[]:=by
 cases r with|nil=>simp|cons _ _=>simp
def qY:OpR X (eC .Add) (Zay X.K):=by
 intro pq s Z H x y v u Q I rx ry h;obtain⟨a,b,xs,ys,rfl,rfl,ha,hb,hx,hz,q1,q2⟩:=h;cases rx;cases ry;obtain⟨its,r1,p1,_⟩:=I.tuple ha;obtain⟨its2,r2,p2,_⟩:=I.tuple hb;refine HT.qp p1 p2 (λz=>hx<|r1.nil_iff.mp z) (λz=>#[.ref a,H,I,rfl,q1<|r2.nil_iff.mp z]) (λz=>?_) (by rw[<-r1.length,<-r2.length];exact hz)
 refine#[.ref s.heap.objs.size,_,I.laid (t':=s.toks) (λb ob q=>aq _ q) (aH _) ?_,rfl,q2 (λw=>z<|r2.nil_iff.mpr w) _<|I.hok.fresh<|aH _]
 exact#[by rw[bw];exact hz,_,r1.append r2,iq _ _]
end
noncomputable def ixN(n:Nat)(i:Int):Option Nat:=if 0<=i then(if i<n then aa i.toNat else ae)else if -(n:Int)<=i then aa (i+n).toNat else ae
noncomputable def atI{B:Type}(xs:List B)(i:Int):Option B:=(ixN xs.length i).bind λj=>xs[j]?
def yx(h:ixN n i=aa j):seqIndex? i n=aa j/\j<n/\-(n:Int)<=i/\i<n:=by
 unfold ixN at h;by_cases h0:0<=i
 .rw[T9 h0]at h
  by_cases h1:i<n
  .rw[T9 h1]at h
   have e:=ag h;exact#[by rw[nV h0 h1,e],by lia,by lia,h1]
  .rw[T8 h1]at h;cases h
 .rw[T8 h0]at h
  by_cases h1:-(n:Int)<=i
  .rw[T9 h1]at h
   have e:=ag h;exact#[by rw[mX (by lia) h1,e],by lia,h1,by lia]
  .rw[T8 h1]at h;cases h
def yq{B:Type}{xs:List B}{i:Int}{v:B}(h:atI xs i=aa v):∃j,seqIndex? i xs.length=aa j/\xs[j]?=aa v/\j<xs.length/\-(xs.length:Int)<=i/\i<xs.length:=by
 unfold atI at h;cases e:ixN xs.length i with
 |none=>rw[e]at h;cases h
 |some j=>
  rw[e]at h;obtain⟨h1,h2,h3,h4⟩:=yx e;exact#[j,h1,h,h2,h3,h4]
def zE(b:Expr):Prop:=∀o i,subscripted b ap o i=operate [o,i] (i4 o i)
def IxR(X:Cx)(r:R2):Prop:=
 ∀(value slice:Expr)(pq:List (aI×fD))(s:aw)(Z:St)(H:Hp)(x y:V)(v u:al)(Q:VK),Inv X pq Z H s->ZA x v->ZA y u->r x y H Q->
  subscripted slice ap v u=operate [v,u] (i4 v u)->aW (aQ X.prog X.w) X.A (subscriptTail value slice v u) (EP X pq Z Q) X.xe s
section
variable{X:Cx}{a b:Expr}{ta tb:TE}{pos:iw}
def IxR.or(h:IxR X r)(h':IxR X r'):IxR X (λx y H Q=>r x y H Q\/r' x y H Q):=by
 intro value slice pq s Z H x y v u Q I rx ry q hs;rcases q with q|q
 .exact h value slice pq s Z H x y v u Q I rx ry q hs
 .exact h' value slice pq s Z H x y v u Q I rx ry q hs
def wS(hr:IxR X r)(ha:PE X a ta)(hb:PE X b tb)(hs:zE b):PE X (.Subscript a b pos) (tOp r ta tb):=by
 intro pq s Z H Q I h;exact oG<|Za1 ha hb I h λv u s2 x y H2 I2 rx ry q=>hr a b pq s2 Z H2 x y v u Q I2 rx ry q<|hs _ _
def ZdC(K:ao):R2:=λx y H Q=>∃p xs i v,x=.ref p/\y=.int i/\SqL K H p xs/\atI xs i=aa v/\Q v H
def ZdF(K:ao):R2:=λx y H Q=>∃p xs i v,x=.ref p/\y=.int i/\SqT K H p xs/\atI xs i=aa v/\Q v H
theorem Q6:IxR X (ZdC X.K):=by
 intro value slice pq s Z H x y v u Q I rx ry h hs;obtain⟨p,xs,i,z,rfl,rfl,hq,he,q⟩:=h;cases rx;obtain⟨t,rfl⟩:=ry;obtain⟨its,r,pl,hz⟩:=I.list hq;obtain⟨j,h1,h2,h3,h4,h5⟩:=yq he;obtain⟨w,ew,rw'⟩:=r.get h2;have hl:=r.length;have hn:=VS;have fin:EP X pq Z Q w s:=#[z,H,I,rw',q];by_cases h0:0<=i
 .have hj:i.toNat=j:=by
   rw[nV h0 h5]at h1;exact ag h1
  exact item_listR pl.isList h0 (by lia) (by rw[hj];simpa using ew) fin hs
 .have hj:(i+(its.toArray.size:Int)).toNat=j:=by
   rw[mX (by lia) h4]at h1
   rw[ax,<-hl];exact ag h1
  exact kS pl.isList.typeIs slot_list_getitem.lookup
   (wpAny_getItem_list_neg pl.isList (by lia) (by rw[ax]<;>lia) (by lia) (by rw[hj];simpa using ew) #[rfl,fin]) hs
theorem ZbL:IxR X (ZdF X.K):=by
 intro value slice pq s Z H x y v u Q I rx ry h hs;obtain⟨p,xs,i,z,rfl,rfl,hq,he,q⟩:=h;cases rx;obtain⟨t,rfl⟩:=ry;obtain⟨its,r,pl,hz⟩:=I.tuple hq;obtain⟨j,h1,h2,h3,h4,h5⟩:=yq he;obtain⟨w,ew,rw'⟩:=r.get h2;have hl:=r.length;have hn:=VS;have fin:EP X pq Z Q w s:=#[z,H,I,rw',q];exact kS pl.typeIs slot_tuple_getitem.lookup
  (getItem_tuple pl (by lia) (by lia) (by rw[ax,<-hl];exact h1) (by simpa using ew) #[rfl,fin]) hs
def GK(its:List al)(n j:Nat)(u:al):d3 (·.setIfInBounds j u) {cls:=.type "list",data:=.seq its.toArray n}={cls:=.type "list",data:=.seq (its.set j u).toArray n}:=by
 simp[d3]
theorem Inv.lst{pq:List (aI×fD)}{Z:St}{H:Hp}{s:aw}{p:aI}{xs:List V}(I:Inv X pq Z H s)(h:H p=aa (.lst xs)) :
  ∃(its:List al)(n:Nat),Vals xs its/\s.heap.get? p=aa {cls:=.type "list",data:=.seq its.toArray n}/\xs.length<=bp:=by
 obtain⟨z,its,n,r,e⟩:=I.hok p _ h;exact#[its,n,r,e,z]
def Inv.lstUpd{pq:List (aI×fD)}{Z:St}{H:Hp}{s:aw}{p:aI}{xs ys:List V}{its its':List al}{n n':Nat}{f:fD->fD}(I:Inv X pq Z H s)(h:H p=aa (.lst xs))
  (ho:s.heap.get? p=aa {cls:=.type "list",data:=.seq its.toArray n})(hf:f {cls:=.type "list",data:=.seq its.toArray n}={cls:=.type "list",data:=.seq its'.toArray n' })(r:Vals ys its')(hz:ys.length<=bp)(t:Nat) :
  Inv X pq Z (upd H p<|.lst ys) {s with heap:=s.heap.update p f,toks:=t}:=by
 have e:(s.heap.update p f).get? p=aa {cls:=.type "list",data:=.seq its'.toArray n' }:=by
  rw[ee f ho (by rw[hf]<;>rfl),hf]
 refine I.write (by rw[h];trivial) (.inl rfl) (λb u hb q=>(kT _ _<|Ne.symm hb).trans q) #[_,e] ?_
 exact#[hz,its',n',r,e]
def Zc6:V->V->V->Hp->(Hp->Prop)->Prop:=λo i v H Q=>∃p xs k j,o=.ref p/\i=.int k/\H p=aa (.lst xs)/\ixN xs.length k=aa j/\Q (upd H p<|.lst<|xs.set j v)
theorem vB:PSet X Zc6:=by
 intro pq s Z H o i v ov iv u Q I ro ri rv h;obtain⟨p,xs,k,j,rfl,rfl,hp,hj,q⟩:=h;cases ro;obtain⟨t,rfl⟩:=ri;obtain⟨its,n,r,ho,hz⟩:=I.lst hp;obtain⟨h1,h2,h3,h4⟩:=yx hj;have hl:=r.length;have hn:=VS;have I':=
  I.lstUpd hp ho (GK its n j u) (r.set rv j) (by rw[b4];exact hz) s.toks
 by_cases h0:0<=k
 .have hk:k.toNat=j:=by
   rw[nV h0 h4]at h1;exact ag h1
  exact PySem.W.ki_setAt ho h0 (by lia) (by rw[ax,<-hl];exact h4) (by rw[hk];exact#[_,I',q])
 .have hk:(k+(its.toArray.size:Int)).toNat=j:=by
   rw[mX (by lia) h3]at h1
   rw[ax,<-hl];exact ag h1
  exact PySem.W.ki_setBack ho (by lia) (by rw[ax,<-hl];exact h3) (by lia) (by rw[hk];exact#[_,I',q])
theorem Qv(lo hi:Option Int)(n:Nat):(f7 lo hi ae n).1=((HT.sIx n 0 lo:Nat):Int)/\(f7 lo hi ae n).2.1=((HT.sIx n n hi:Nat):Int)/\(f7 lo hi ae n).2.2=1:=by
 refine#[?_,?_,rfl]
 .cases lo with
  |none=>simp[f7,HT.sIx]
  |some i=>
   simp only[f7,HT.sIx,nH,show(1:Int)>0 by decide,if_true]
   by_cases h:i<0
   .simp only[h,if_true]<;>lia
   .simp only[h,if_false]<;>lia
 .cases hi with
  |none=>simp[f7,HT.sIx]
  |some i=>
   simp only[f7,HT.sIx,nH,show(1:Int)>0 by decide,if_true]
   by_cases h:i<0
   .simp only[h,if_true]<;>lia
   .simp only[h,if_false]<;>lia
def V7(its:List al)(lo hi:Option Int):slicePick its.toArray lo hi ae=((its.drop<|HT.sIx its.length 0 lo).take<|HT.sIx its.length its.length hi-HT.sIx its.length 0 lo).toArray:=by
 obtain⟨h1,h2,h3⟩:=Qv lo hi its.toArray.size;unfold slicePick;rw[h1,h2,h3];simp only[sliceRange_one,pick_run,ax]<;>rfl
def ZdU(K:ao):V->Option Int->Option Int->Hp->VK->Prop:=λx lo hi H Q=>∃a xs,x=.ref a/\SqL K H a xs/\∀p,H p=ae->Q (.ref p) (upd H p<|.lst<|Yy xs lo hi)
theorem jI:SlR X (ZdU X.K):=by
 intro pq s Z H x v vl vu lo hi sl Q I rx hs pl pu h;obtain⟨a,xs,rfl,hx,q⟩:=h;cases rx;obtain⟨its,r,ht,hz⟩:=I.list hx;have hlen:=r.length;refine#["list",_,slot_list_getitem.lookup,ht.isList.typeIs,?_];refine wpAny_getItem_list_slice ht.isList hs pl pu .none (by simp) ?_ (by rw[ax]<;>lia)
 rw[V7,<-hlen];refine#[.ref s.heap.objs.size,_,I.laid (t':=s.toks) (λb ob q=>aq _ q) (aH _) ?_,rfl,q _<|I.hok.fresh<|aH _]
 exact#[cO (WC xs lo hi) hz,_,0,(r.drop<|HT.sIx xs.length 0 lo).take<|HT.sIx xs.length xs.length hi-HT.sIx xs.length 0 lo,aJ _ rfl]
noncomputable def yE:V->Bool
 |.non=>am
 |.bl _=>am
 |.int _=>am
 |.str _=>am
 |_=>ap
noncomputable def eqV:V->V->Bool
 |.non,.non=>am
 |.bl a,.bl b=>a == b
 |.bl a,.int b=>(if a then 1 else 0) == b
 |.int a,.bl b=>a == (if b then 1 else 0)
 |.int a,.int b=>a == b
 |.str a,.str b=>a == b
 |_,_=>ap
def Zb4{A:cD}{s:aw}{y x:V}{u v:al}(ry:ZA y u)(rx:ZA x v)(fy:yE y=am)(fx:yE x=am):gG A s u v (eqV y x):=by
 cases y with
 |non=>
  cases ry;cases x with|non=>cases rx;exact gY _|bl b=>cases rx;exact gG.none_bool b|int b=>obtain⟨t,rfl⟩:=rx;exact gG.none_int b t|str b=>obtain⟨t,rfl⟩:=rx;exact gG.none_str b t|_=>exact T7 (fx) aG
 |bl a=>
  cases ry;cases x with|non=>cases rx;exact gG.bool_none a|bl b=>cases rx;exact gG.bool_bool a b|int b=>obtain⟨t,rfl⟩:=rx;exact gG.bool_int a b t|str b=>obtain⟨t,rfl⟩:=rx;exact gG.bool_str a b t|_=>exact T7 (fx) aG
 |int a=>
  obtain⟨t',rfl⟩:=ry;cases x with|non=>cases rx;exact gG.int_none a t'|bl b=>cases rx;exact gG.int_bool a t' b|int b=>obtain⟨t,rfl⟩:=rx;exact mJ a t' b t|str b=>obtain⟨t,rfl⟩:=rx;exact my a t' b t|_=>exact T7 (fx) aG
 |str a=>
  obtain⟨t',rfl⟩:=ry;cases x with|non=>cases rx;exact gG.str_none a t'|bl b=>cases rx;exact gG.str_bool a t' b|int b=>obtain⟨t,rfl⟩:=rx;exact mz a t' b t|str b=>obtain⟨t,rfl⟩:=rx;exact gG.str_str a t' b t|_=>exact T7 (fx) aG
 |_=>exact T7 (fy) aG
theorem QY:ZJ X (.builtin "len") (λxs H Q=>∃p ys,xs=[.ref p]/\(SqL X.K H p ys\/SqT X.K H p ys)/\Q (.int ys.length) H):=by
 intro pq s Z H xs us Q I r h;obtain⟨p,ys,rfl,hq,q⟩:=h;obtain⟨u,rfl,rx⟩:=V4 r;cases rx;have hn:=VS;rcases hq with hq|hq
 .obtain⟨its,r',pl,hz⟩:=I.list hq
  have hlen:=r'.length;exact Calls.call_len_list pl.isList (by simp only[ax]<;>lia) #[.int ys.length,H,I.tok _,#[s.toks+1,by rw[ax,hlen]],q]
 .obtain⟨its,r',pl,hz⟩:=I.tuple hq
  have hlen:=r'.length;exact len_tuple pl (by simp only[ax]<;>lia) #[.int ys.length,H,I.tok _,#[s.toks+1,by rw[ax,hlen]],q]
theorem QK:ZJ X (.type "list") (λxs H Q=>∃p ys,xs=[.ref p]/\(SqL X.K H p ys\/SqT X.K H p ys)/\∀l,H l=ae->Q (.ref l) (upd H l<|.lst ys)):=by
 intro pq s Z H xs us Q I r h;obtain⟨p,ys,rfl,hq,q⟩:=h;obtain⟨u,rfl,rx⟩:=V4 r;cases rx;have fin:∀(its:List al),Vals ys its->ys.length<=bp->∀(h':bY)(c':Nat),(∀b o',s.heap.get? b=aa o'->h'.get? b=aa o')->
   h'.get? s.heap.objs.size=aa {cls:=.type "list",dict:=ae,data:=.seq its.toArray c',slots:=#[]}->EP X pq Z Q (.ref s.heap.objs.size) {s with heap:=h' }:=λits r' hz h' c' kp e=>
  #[.ref s.heap.objs.size,_,I.laid (t':=s.toks) kp (aH _) (show Yv X.prog X.w _ h' _ (.lst ys)from#[hz,its,c',r',e]),rfl,q _<|I.hok.fresh<|aH _]
 rcases hq with hq|hq
 .obtain⟨its,r',pl,hz⟩:=I.list hq
  have hlen:=r'.length;obtain⟨o,ho,hc,n,hd⟩:=pl.isList;exact call_list_seq p (.inl rfl) ho hc hd (λh' c' kp e=>fin its r' hz h' c' kp e) (by simp only[ax]<;>lia)
 .obtain⟨its,r',pl,hz⟩:=I.tuple hq
  have hlen:=r'.length;obtain⟨o,ho,hc,n,hd⟩:=pl;exact call_list_seq p (.inr rfl) ho hc hd (λh' c' kp e=>fin its r' hz h' c' kp e) (by simp only[ax]<;>lia)
theorem V9:ZJ X (.type "tuple") (λxs H Q=>∃p ys,xs=[.ref p]/\((SqL X.K H p ys/\∀l,H l=ae->Q (.ref l) (upd H l<|.tup ys))\/(SqT X.K H p ys/\Q (.ref p) H))):=by
 intro pq s Z H xs us Q I r h;obtain⟨p,ys,rfl,h⟩:=h;obtain⟨u,rfl,rx⟩:=V4 r;cases rx;rcases h with⟨hq,q⟩|⟨hq,q⟩
 .obtain⟨its,r',pl,hz⟩:=I.list hq
  have hlen:=r'.length;refine call_tuple_list pl.isList (λh' kp=>?_) (by simp only[ax]<;>lia)
  have I1:=I.kept (t':=s.toks) kp
  have I2:=
   I1.laid (t':=s.toks) (λb o e=>aq _ e) (aH _) (show Yv X.prog X.w _ _ _ (.tup ys)from#[hz,its,r',iq _ _])
  exact#[.ref h'.objs.size,_,I2,rfl,q _<|I1.hok.fresh<|aH _]
 .obtain⟨its,r',pl,hz⟩:=I.tuple hq
  exact call_tuple_same pl #[.ref p,H,I,rfl,q]
variable{o e:Expr}{es:List Expr}{to:TE}{t:TA}{name:bG}{apos cpos:iw}{T id:String}{r:V->List V->Hp->VK->Prop}
end
def MtM(X:Cx)(id:String)(r:V->List V->Hp->VK->Prop):Prop:=
 ∀(pq:List (aI×fD))(s:aw)(Z:St)(H:Hp)(x:V)(xs:List V)(v:al)(us:List al)(Q:VK),Inv X pq Z H s->ZA x v->Vals xs us->r x xs H Q->
  aW (aQ X.prog X.w) X.A (call (.builtin id) (v::us)) (EP X pq Z Q) X.xe s
def Vals.one:∀{x:V}{us:List al},Vals [x] us->∃u,us=[u]/\ZA x u
 |_,_,.cons r .nil=>#[_,rfl,r]
theorem Vals.reverse(h:Vals xs us):Vals xs.reverse us.reverse:=by
 induction h with|nil=>exact .nil|cons r t ih=>rw[eE,eE];exact Vals.append ih<|.cons r .nil
theorem Vals.rep(h:Vals xs us):∀k:Nat,Vals (aB k xs).flatten (aB k us).flatten
 |0=>.nil
 |k+1=>by
  rw[bx,bx,cw,cw];exact Vals.append h<|Vals.rep h k
theorem Wh(its:List al):∀(k:Nat)(acc:List al),
  List.foldl (λx1 x2=>x1++x2) acc.toArray (aB k its.toArray)=(acc++(aB k its).flatten).toArray
 |0,acc=>by simp
 |k+1,acc=>by
  have e:acc.toArray++its.toArray=(acc++its).toArray:=by simp
  have e2:(acc++its)++(aB k its).flatten=acc++(aB (k+1) its).flatten:=by
   rw[bx,cw,bz]
  rw[<-e2,<-Wh its k (acc++its),<-e,bx,fT]
section
variable{X:Cx}{pq:List (aI×fD)}{Z:St}{H:Hp}{s:aw}{l b:aI}{xs ys zs:List V}
def Inv.lset{its its':List al}{n:Nat}{f:Array al->Array al}{t':Nat}(I:Inv X pq Z H s)(hH:H l=aa (.lst xs))
  (e:s.heap.get? l=aa {cls:=.type "list",data:=.seq its.toArray n})(hf:f its.toArray=its'.toArray)(hv:Vals ys its')(hz:ys.length<=bp) :
  Inv X pq Z (upd H l<|.lst ys) {s with heap:=s.heap.update l<|d3 f,toks:=t' }:=by
 have q:=PySem.IsL.update e f;rw[hf]at q;refine I.write (by rw[hH];exact trivial) (.inl rfl) (λb' u hb hu=>(kT s.heap (d3 f)<|Ne.symm hb).trans hu) #[_,q] ?_
 exact#[hz,its',_,hv,q]
def Inv.lnew(I:Inv X pq Z H s)(hv:Vals ys its)(hz:ys.length<=bp) :
  Inv X pq Z (upd H s.heap.objs.size<|.lst ys) {s with heap:=s.heap.push {cls:=.type "list",data:=.seq its.toArray},toks:=t' }:=
 I.laid (λ_ _ q=>aq _ q) (aH _) #[hz,its,0,hv,aJ _ rfl]
theorem Inv.fresh(I:Inv X pq Z H s):H s.heap.objs.size=ae:=I.hok.fresh<|aH _
def Inv.lstM(I:Inv X pq Z H s)(hH:H l=aa (.lst xs)):xs.length<=bp/\∃(its:List al)(n:Nat),Vals xs its/\xs.length=its.length/\s.heap.get? l=aa {cls:=.type "list",data:=.seq its.toArray n}:=by
 obtain⟨z,its,n,r,e⟩:=I.hok l _ hH;exact#[z,its,n,r,r.length,e]
theorem Zcw(h:n<=bp):ki n=ap:=by
 exact T4 (by lia)
end
section
variable{X:Cx}
def jK:V->List V->Hp->VK->Prop:=λx vs H Q=>∃l xs y,x=.ref l/\vs=[y]/\H l=aa (.lst xs)/\xs.length<bp/\Q .non (upd H l<|.lst<|xs++[y])
theorem xg:MtM X "list.append" jK:=by
 intro pq s Z H x vs v us Q I rx rv h;obtain⟨l,xs,y,rfl,rfl,hH,hz,q⟩:=h;cases rx;obtain⟨u,rfl,ru⟩:=rv.one;obtain⟨z,its,n,r,hl,e⟩:=I.lstM hH;refine gH F.slot_list_append #[_,e,rfl] F.entry_list_append (F.args_list_append_2 _ _) (PySem.list_append l its.toArray n u<|by rw[ax];lia) #[e,?_]
 refine#[.non,_,I.lset (its':=its++[u]) hH e (by simp) (r.append<|.cons ru .nil) ?_,rfl,q]
 rw[bw,ly];lia
def Zdo:V->List V->Hp->VK->Prop:=λx vs H Q=>∃l b xs zs,x=.ref l/\vs=[.ref b]/\H l=aa (.lst xs)/\H b=aa (.lst zs)/\xs.length+zs.length<=bp/\Q .non (upd H l<|.lst<|xs++zs)
def Zct:R2:=λx y H Q=>∃l b xs zs,x=.ref l/\y=.ref b/\H l=aa (.lst xs)/\H b=aa (.lst zs)/\xs.length+zs.length<=bp/\∀p,H p=ae->Q (.ref p) (upd H p<|.lst<|xs++zs)
theorem Zbl:OpR X (eC .Add) Zct:=by
 intro pq s Z H x y v u Q I rx ry h;obtain⟨l,b,xs,zs,rfl,rfl,hH,hB,hz,q⟩:=h;cases rx;cases ry;obtain⟨z,its,n,r,hl,e⟩:=I.lstM hH;obtain⟨z2,its2,n2,r2,hl2,e2⟩:=I.lstM hB;refine PySem.P.add_list e e2 ?_ (by rw[ax,ax];lia)
 have ea:its.toArray++its2.toArray=(its++its2).toArray:=by simp
 rw[ea];exact#[.ref _,_,I.lnew (t':=s.toks) (r.append r2) (by rw[bw];lia),rfl,q _ I.fresh]
def Qf{B:Type}(xs:List B)(k:Nat):(aB k xs).flatten.length=k*xs.length:=by
 induction k with|zero=>simp|succ k ih=>rw[bx,cw,bw,ih,Nat.succ_mul,mY]
end
end L2
namespace Att
open PySem PySem.W PySem.Calls PyProof.Rows
def WN :∀(ns:List Int)(vs:List al),WellAll P h vs (ns.map WData.int)->oy vs ns:=by
 intro ns
 induction ns with
 |nil=>
  intro vs w;rw[List.map_nil]at w;cases w;exact .nil
 |cons n ns ih=>
  intro vs w;rw[bj]at w;cases w with
  |cons a b=>
   cases a;exact .cons _ _<|ih _ b
def xS{l:OpenLaw}{n:Nat}(hn:l.most=aa n){P:Params}{h:bY}{args:List WData}{vals:List al}
  (hpre:l.row.toRowW.claim.pre args=am)(hwl:WellAll P h vals args) :
  ∃a vs ns,vals=[bT a]/\args=[WData.list<|ns.map WData.int]/\h.get? a=aa {cls:=.type "list",data:=.seq vs.toArray}/\oy vs ns/\ns.length<=n:=by
 have hsh:=(pre_splitW hpre).1;have hc:l.pre.holds [] {args:=args}=am:=(pre_splitW hpre).2;obtain⟨d,r,rfl,h1,h2⟩:=hasAllW_cons hsh;obtain rfl:=hasAllW_nil h2;obtain⟨xs,rfl,h3⟩:=hasW_list h1;obtain⟨ns,rfl⟩:=items_int h3;have hlen:ns.length<=n:=by
  have h4:(WTm.not<|.lt (.lit<|.int (n:Int))<|.len<|.arg 0).holds [] {args:=[.list<|ns.map .int]}=am:=by
   have h4:=(holds_andW hc).1;rw[hn]at h4;exact h4
  have h5:=condW_of h4<|w_not<|w_lt w_lit<|w_len_list<|w_arg rfl;rw[az]at h5;refine fG λq=>?_
  have q':(n:Int)<((ns.length:Nat):Int):=by lia
  first
   |(rw[T5 q']at h5;exact T7 h5 (by decide))
   |(simp at h5;lia)
 cases hwl with
 |cons w1 w2=>
  cases w2;cases w1 with|list ho hall=>exact#[_,_,ns,rfl,rfl,ho,WN ns _ hall,hlen]
def xc(l:OpenLaw)(args:List WData):l.row.toRowW.claim.post args (.bool am) args=am:=
 postW_of
  (by first|rfl|decide|simp[WShape.has,WShape.arms,WShape.armsAll])
  (w_eq_bool (w_res rfl) w_lit) rfl
def J9{l:OpenLaw}{n:Nat}{q:bC}{loose:List bG}{XP:(bG->Option al)->bY->Prop}{YP:bN->bY->Prop}{d:DefRec}
  (hn:l.most=aa n)(hdf:d.params.defaults=[])
  (call:∀(w:bN)(s₀ s₁:aw)(mg mb:bG->Option al)(fa:aI)(o:fD)(pm cd doc:al)(a:aI)(vs:List al)(ns:List Int),
   Ground q loose [] XP w s₀ mg mb s₁.heap->YP w s₁.heap->
   s₁.heap.get? fa=aa o->o.data=.func (docDef d.name d.params d.body d.scope pm cd doc)->s₁.heap.CodeRec cd d.name->mg d.name=aa (.ref fa)->
   s₁.heap.get? a=aa {cls:=.type "list",data:=.seq vs.toArray}->oy vs ns->ns.length<=n->s₁.gens = #[]->
   fq (aQ l.prog w) l5 (.call (.ref fa) #[[.ref a],[]]) (λr s'=>r=.ok (.ret<|.bool am)/\OldK s₁.heap s'.heap/\s'.os=s₁.os/\iX s'.gens) s₁) :
  WalkO q loose XP YP l.row.toRowW d [] (λf vs=>oH f vs):=by
 intro w s₀ s₁ mg mb G Y fa o pm cd doc dV kV ho hd hcd hD hmg hg args vals as hpre hlay hrd hwl hlo;obtain rfl:dV=.none:=Dflts.none hD hdf;obtain rfl:kV=.none:=Dflts.noKw hD;obtain⟨a,vs,ns,rfl,rfl,hobj,hints,hlen⟩:=xS hn hpre hwl;refine enter_call<|gf (call w s₀ s₁ mg mb fa o pm cd doc a vs ns G Y ho (fd_plain hd) hcd hmg hobj hints hlen hg) λr s' hq=>?_
 obtain⟨rfl,h2,h3,h4⟩:=hq;exact#[.inl #[.bool am,.bool am,[],rfl,λ_=>rfl,.bool am,xc l _,λ_=>#[gj,λ_ hm=>(nomatch hm)]],h2,h3,h4]
end Att
namespace L2
open PySem PySem.Spec PyProof.Rows
theorem UF:∀{vs:List al}{ns:List Int},oy vs ns->Vals (ns.map V.int) vs
 |_,_,.nil=>.nil
 |_,_,.cons n t h=>.cons #[t,rfl]<|UF h
def Only(H:Hp):Prop:=∀b,H b=ae\/∃o xs,H b=aa (.frz o<|.lst xs)
def wK{P:bC}{w:bN}{K:ao}{mg mb:bG->Option al}{CX:CXT}{k:Nat}{fa a:aI}{fd:cW}{x:bG}{sp:Sp}{s₁:aw}{vs:List al}{ns:List Int}
  (KX:K.In s₁.heap)(hns:s₁.heap.Ns cH mg)(hb:s₁.heap.Ns mC mb)(hbb:∀x:bG,x≠"__name__"->mb x=cZ x)(hlim:s₁.heap.NoLimit)(hg:s₁.gens = #[])
  (ha:s₁.heap.get? a=aa {cls:=.type "list",data:=.seq vs.toArray})(hi:oy vs ns)(hl:ns.length<=bp)(hr:Room k l5)
  (F:∀base:bY,K.In base->base.Ns cH mg->FnOk P w K mg base CX k fa fd [x] sp)(hbind:∀(s:aw)(u:al),mV s fd #[[u],[]] [(x,u)])
  (hsp:∀H:Hp,Only H->SqL K H a (ns.map V.int)->sp [.ref a] H (λv _=>v=.bl am) λ_ _ _=>False)
  (hCX:∀H e s',CX [] H s₁ (λ_ _ _=>False) e s'->False) :
  fq (aQ P w) l5 (.call (.ref fa) #[[.ref a],[]]) (λr s'=>r=.ok (.ret<|.bool am)/\OldK s₁.heap s'.heap/\s'.os=s₁.os/\iX s'.gens) s₁:=by
 have rv:=UF hi;have lenV:=hi.length;have core:∀H:Hp,Only H->SqL K H a (ns.map V.int)->HOk P w H s₁.heap->(∀b,H b≠ae->b=a)->(H a≠ae->K.lookup a=ae)->
   fq (aQ P w) l5 (.call (.ref fa) #[[.ref a],[]]) (λr s'=>r=.ok (.ret<|.bool am)/\OldK s₁.heap s'.heap/\s'.os=s₁.os/\iX s'.gens) s₁:=by
  intro H hO hS hok hA hK;have base_of:∀{b:aI}{o:fD},s₁.heap.get? b=aa o->H b=ae->(QX s₁.heap H).get? b=aa o:=λe n=>uI e n
  have noA:∀{b:aI}{o:fD}{es:Array ir}{ep:Nat},s₁.heap.get? b=aa o->o.data=.dict es ep->H b=ae:=λ{b o es ep} e d=>by
   cases q:H b with
   |none=>rfl
   |some u=>
    have e':b=a:=hA b (by rw[q];simp)
    subst e';rw[ha]at e;cases e;have d':Data.seq vs.toArray _=Data.dict es ep:=d;cases d'
  have nsK:∀{b:aI}{m:bG->Option al},s₁.heap.Ns b m->(QX s₁.heap H).Ns b m:=λ{b m} #[o,es,ep,e,d,r]=>#[o,es,ep,base_of e<|noA e d,d,r]
  have hKb:K.In (QX s₁.heap H):=λb o e=>base_of (KX b o e) (by
   cases q:H b with
   |none=>rfl
   |some u=>
    have e':b=a:=hA b (by rw[q];simp)
    subst e';rw[hK<|by rw[q];simp]at e;cases e)
  have hM:Mod K mg (QX s₁.heap H):=#[hKb,nsK hns,#[mb,nsK hb,hbb],let #[mc,h1,h2]:=hlim;#[mc,nsK h1,h2]];have e0:Env0 P w K mg (QX s₁.heap H) l5 [] s₁ H:=#[rfl,hM,λb o e=>jM e,mZ<|y9 _ _,trivial,λb hb=>T7 (show b∈([]:List aI)from hb) (by simp),hok,.of_eq hg]
  refine gf ((F _ hKb<|nsK hns).run l5 [] s₁ H #[[.ref a],[]] [.ref a] [.ref a] _ _ hr e0 (hbind s₁<|.ref a) (.cons rfl .nil)<|hsp H hO hS) λr s' h=>?_
  cases r with
  |error e=>exact(hCX H e s' h).elim
  |ok fl=>
   cases fl with
   |next=>exact False.elim h
   |brk=>exact False.elim h
   |cont=>exact False.elim h
   |ret u=>
    obtain⟨v,H',os,bare,un,hok',r',q⟩:=h;have q':v=.bl am:=q;subst q';obtain rfl:u=c6 am:=r';refine#[rfl,OldK.of_keep λb o e=>?_,os,bare]
    cases q:H b with
    |none=>exact un.keep b o e q (by intro z;exact T7 (show b∈([]:List aI)from z)<|by simp) (by simp)
    |some u=>
     rcases hO b with z|⟨ob,xs,z⟩
     .rw[q]at z;cases z
     .have z2:=un.frzs b ob _ z
      obtain⟨e1,_⟩:=hok b _ z;obtain⟨e2,_⟩:=hok' b _ z2;rw[e]at e1;cases e1;exact e2
 cases hk:K.lookup a with
 |some o=>
  have e:=KX a o hk;rw[ha]at e;cases e;refine core (λ_=>ae) (λ_=>.inl rfl) (.inr #[_,vs.toArray,_,hk,rfl,rfl,rfl,by rw[ax,lenV];exact hl,by simpa using rv]) (λb u z=>by have z':(ae:Option HO)=aa u:=z;cases z') (λb z=>T7 rfl z) λz=>T7 rfl z
 |none=>
  refine core (λb=>if b=a then aa (.frz {cls:=.type "list",data:=.seq vs.toArray}<|.lst<|ns.map V.int)else ae) (λb=>?_) (.inl<|.inr #[{cls:=.type "list",data:=.seq vs.toArray},T9 rfl]) (λb u z=>?_) (λb z=>?_) λ_=>hk
  .by_cases hb:b=a
   .exact .inr #[_,_,T9 hb]
   .exact .inl<|T8 hb
  .by_cases hb:b=a
   .have z':=(T9 hb).symm.trans z
    cases z';subst hb;exact#[ha,by rw[az];exact hl,vs,_,rv,ha]
   .have z':=(T8 hb).symm.trans z
    cases z'
  .by_cases hb:b=a
   .exact hb
   .exact T7 (T8 hb) z
def qL{l:lh}{n k:Nat}{q:bC}{loose:List bG}{XP:(bG->Option al)->bY->Prop}{YP:bN->bY->Prop}{d:DefRec}{K:Params->ao}{CX:bN->CXT}{sp:bN->Sp}{x:bG}
  (hn:l.most=aa n)(hn2:n<=bp)(hdf:d.params.defaults=[])(hr:Room k l5)
  (hY:∀(w:bN)(h:bY),YP w h->(K w.params).In h)
  (F:∀(w:bN)(mg:bG->Option al)(fa:aI)(h:bY),(K w.params).In h->h.Ns cH mg->mg d.name=aa (.ref fa)->
   ∃fd:cW,(∀(s:aw)(u:al),mV s fd #[[u],[]] [(x,u)])/\
    ∀base:bY,(K w.params).In base->base.Ns cH mg->FnOk l.prog w (K w.params) mg base (CX w) k fa fd [x] (sp w))
  (hsp:∀(w:bN)(H:Hp)(a:aI)(ns:List Int),ns.length<=n->Only H->SqL (K w.params) H a (ns.map V.int)->sp w [.ref a] H (λv _=>v=.bl am) λ_ _ _=>False)
  (hCX:∀(w:bN)(H:Hp)(s:aw)(e:al)(s':aw),CX w [] H s (λ_ _ _=>False) e s'->False) :
  oY q loose XP YP l.row.toRowW d [] (λf vs=>oH f vs):=by
 refine Att.J9 hn hdf λw s₀ s₁ mg mb fa o pm cd doc a vs ns G Y ho hd hcd hmg hobj hints hlen hg=>?_
 have KX:=hY w _ Y;obtain⟨fd,hb,hF⟩:=F w mg fa _ KX G.T.g hmg;exact wK KX G.T.g G.T.b G.T.builtins G.T.nolimit hg hobj hints (cO hlen hn2) hr hF hb (λH hO hS=>hsp w H a ns hlen hO hS) λH e s'=>hCX w H s₁ e s'
noncomputable def Yz(s:fE):Arguments:=match s with
 |.FunctionDef _ a _ _ _ _ _ _ _ _=>a
 |_=>{posonlyargs:=[],args:=[],vararg:=ae,kwonlyargs:=[],kw_defaults:=[],kwarg:=ae,defaults:=[]}
noncomputable def Z6(s:fE):List fE:=match s with
 |.FunctionDef _ _ b _ _ _ _ _ _ _=>b
 |_=>[]
noncomputable def Zv(s:fE):eR:=match s with
 |.FunctionDef _ _ _ _ _ _ sc _ _ _=>sc
 |_=>{kind:=.function,names:=[],isGenerator:=ap,isCoroutine:=ap}
noncomputable abbrev CX0:CXT:=λ_ _ _ _ _ _=>False
noncomputable abbrev E0:XK:=λ_ _ _=>False
def Zam{X:Cx}:zd CX0 X E0:=λ_ _ _ _ _ _ _ h=>h.elim
structure Fun(K:ao)(x qual:bG)(st:fE)(f:aI)(fd:cW):Prop where
 ex:∃(oc:al)(od:Option aI)(kV doc pm:al)(an:Option aI)(cdv ct:al)(osl:Array (Option al)),
  fd=dQ x qual (Yz st) (Z6 st) (Zv st) .none kV doc pm an cdv ct/\K.lookup f=aa #[oc,od,.func fd,osl]/\iA K cdv qual=am
 kp:gg K (.ref f)=am
section
variable{P:bC}{w:bN}{K:ao}{mg:bG->Option al}{base:bY}
def Fun.ok{x qual:bG}{st:fE}{f:aI}{fd:cW}{N ps:List bG}{k:Nat}{sp:Sp}(F:Fun K x qual st f fd)(S:FnScope N ps (Zv st))(len:∀vs H Q E,sp vs H Q E->vs.length=ps.length)
  (hbody:∀(cdv:al)(A:cD)(outer:List Env)(s:aw)(H:Hp)(vs:List V)(Q:VK)(E:XK),Room k (A.deeper<|iz qual (Zv st) s.heap.objs.size f cdv)->sp vs H Q E->
   ∃t,PSs (Jz CX0 P w K mg base N qual (Zv st) f cdv A outer s H E).nox (Z6 st) t/\t {nx:=λ_ H'=>Q .non H',rt:=Q} (start N vs) H):FnOk P w K mg base CX0 (k+1) f fd ps sp:=by
 obtain⟨oc,od,kV,doc,pm,an,cdv,ct,osl,rfl,lk,hcd⟩:=F.ex;refine ZcB lk hcd S len λA outer s H vs Q E hr hsp=>?_
 obtain⟨t,h,q⟩:=hbody cdv A outer s H vs Q E hr hsp;exact#[t,h.nox,q]
def Fun.binds{x qual:bG}{st:fE}{f:aI}{fd:cW}{ps:List bG}(F:Fun K x qual st f fd)
  (h:∀(kV doc pm:al)(an:Option aI)(cdv ct:al)(us:List al),us.length=ps.length->oF (dQ x qual (Yz st) (Z6 st) (Zv st) .none kV doc pm an cdv ct) #[us,[]]=c7 (ps.zip us)):Vz K fd ps []:=by
 obtain⟨oc,od,kV,doc,pm,an,cdv,ct,osl,rfl,lk,hcd⟩:=F.ex;exact .all<|h kV doc pm an cdv ct
def ZbJ{x qual:bG}{st:fE}{f:aI}{oc:al}{od an:Option aI}{osl:Array (Option al)}{kV doc pm cdv ct:al}(l:K.lookup f=aa #[oc,od,.func<|dQ x qual (Yz st) (Z6 st) (Zv st) .none kV doc pm an cdv ct,osl])
  (c:iA K cdv qual=am)(k:gg K (.ref f)=am):Fun K x qual st f (dQ x qual (Yz st) (Z6 st) (Zv st) .none kV doc pm an cdv ct):=#[#[oc,od,kV,doc,pm,an,cdv,ct,osl,rfl,l,c],k]
end
section
variable{κ:Type}[DecidableEq κ]
noncomputable def VL(kvs:List (κ×V))(k:κ):Option V:=(kvs.find? λkv=>ai<|kv.1=k).map (·.2)
def VH{p:κ×V}{r:List (κ×V)}{k:κ}(e:p.1=k):VL (p::r) k=aa p.2:=by simp[VL,eB,e]
def VR{p:κ×V}{r:List (κ×V)}{k:κ}(e:¬p.1=k):VL (p::r) k=VL r k:=by simp[VL,eB,e]
theorem Gc(k:κ):∀kvs:List (κ×V),(kvs.any λkv=>ai<|kv.1=k)=(VL kvs k).isSome
 |[]=>rfl
 |p::r=>by
  rw[ml];by_cases e:p.1=k
  .simp only[VH e,T5 e,Bool.true_or,mK]
  .rw[VR e,T4 e,kj];exact Gc k r
def GR.isSome_eq(r:GR o u):o.isSome=u.isSome:=by
 cases o with
 |none=>cases u with|none=>rfl|some _=>exact(r).elim
 |some _=>cases u with|none=>exact(r).elim|some _=>rfl
def KV.val{kvs:List (κ×V)}{vs:List (κ×al)}(r:KV kvs vs)(k:κ):GR (VL kvs k) (m3 vs k):=by
 unfold KV at r
 induction r with
 |nil=>exact cY
 |@cons p q ps qs h t ih=>
  obtain⟨h1,h2⟩:=h;by_cases e:p.1=k
  .have e':=h1.symm.trans e
   have b:m3 (q::qs) k=aa q.2:=by simp[m3,eB,e']
   rw[VH e,b];exact h2
  .have e':¬q.1=k:=λz=>e (h1.trans z)
   have b:m3 (q::qs) k=m3 qs k:=by simp[m3,eB,e']
   rw[VR e,b];exact ih
end
def wp(r:ZA (kV k) u):(Yd P w).is k u=am:=by
 cases k with|inl i=>obtain⟨t,e⟩:=(r);subst e;exact JC P w i t|inr x=>obtain⟨t,e⟩:=(r);subst e;exact Jf P w x t
theorem Uk :∀{ks:List Key}{us:List al},Vals (ks.map kV) us->ItemsAre (Yd P w) ks us
 |[],_,r=>by rw[List.map_nil]at r;cases r;exact .nil
 |k::ks,_,r=>by
  rw[bj]at r;cases r with|cons h t=>exact .cons (wp h)<|Uk t
abbrev KT(H:Hp):List (List Key×V)->List (List Key×aI×al)->Prop:=Paired λp q=>p.1=q.1/\H q.2.1=aa (.tup<|p.1.map kV)/\ZA p.2 q.2.2
def KT.val{H:Hp}{kvs:List (List Key×V)}{xs:List (List Key×aI×al)}(r:KT H kvs xs)(k:List Key):GR (VL kvs k) ((pz xs k).map (·.2)):=by
 induction r with
 |nil=>exact cY
 |@cons p q ps qs h t ih=>
  obtain⟨h1,_,h2⟩:=h;by_cases e:p.1=k
  .have e':=h1.symm.trans e
   have b:pz (q::qs) k=aa q.2:=by simp[pz,eB,e']
   rw[VH e,b];exact h2
  .have e':¬q.1=k:=λz=>e (h1.trans z)
   have b:pz (q::qs) k=pz qs k:=by simp[pz,eB,e']
   rw[VR e,b];exact ih
def Zax(ok:HOk P w H h)(e:Rd H a u):Yv P w H h a u:=e.ok ok
def ZaM(ok:HOk P w H h)(e:Rd H a (.dK kvs)):kvs.length<=bp/\(a == gD)=ap/\∃vs,KV kvs vs/\h.DictOf (Yd P w) a vs:=
 Zax ok e
def GO(ok:HOk P w H h)(e:H a=aa (.tup<|ks.map kV)):(nz<|Yd P w).is h ks a:=by
 obtain⟨_,its,r,o,h1,h2,n,h3⟩:=(ok a _ e)
 exact#[o,its.toArray,n,h1,h2,h3,by simpa using Uk r]
def ZaD(ok:HOk P w H h)(e:Rd H a (.dT kvs)):kvs.length<=bp/\(a == gD)=ap/\
  ∃xs,KT H kvs xs/\h.DictOfH (nz<|Yd P w) a xs:=by
 obtain⟨z,y,xs,r,o,es,ep,h1,h2,h3,h4,h5⟩:=(Zax ok e)
 refine#[z,y,xs,r,o,es,ep,h1,h2,h3,h4,λx hx=>?_,h5]
 have all:∀{l:List (List Key×V)}{m:List (List Key×aI×al)},KT H l m->∀x∈m,(nz<|Yd P w).is h x.1 x.2.1:=by
  intro l m q
  induction q with
  |nil=>intro x hx;exact nomatch hx
  |@cons p q ps qs hq t ih=>
   intro x hx;rcases aA.mp hx with e|hx
   .subst e
    exact GO ok (by rw[<-hq.1];exact hq.2.1)
   .exact ih x hx
 exact all r x hx
def DGet(H:Hp)(a:aI)(y:V)(r:Option V):Prop:=
 (∃kvs k,Rd H a (.dK kvs)/\y=kV k/\r=VL kvs k)\/∃kvs k b,Rd H a (.dT kvs)/\y=.ref b/\H b=aa (.tup<|k.map kV)/\r=VL kvs k
def ZdB{Q:al->aw->Prop}(hu:A.units+1<dL)(I:Inv X pq Z H s)(g:DGet H a y o)(ry:ZA y u)(h:∀s',Inv X pq Z H s'->Q (.bool o.isSome) s') :
  aW (aQ X.prog X.w) A (b0 .In u<|.ref a) Q E s:=by
 rcases g with⟨kvs,k,e,ey,l⟩|⟨kvs,k,b,e,ey,eb,l⟩
 .subst ey
  obtain⟨z,hd,vs,rel,dd⟩:=ZaM I.hok e;refine wpAny_in_of (wp ry) hd dd.mapOf ?_;rw[<-(rel.val k).isSome_eq,<-l];exact h _<|I.tok _
 .subst ey
  cases(ry)
  obtain⟨z,hd,xs,rel,dd⟩:=ZaD I.hok e;refine wpAny_in_heap (mL hu) (GO I.hok eb) hd dd ?_;have q:=(rel.val k).isSome_eq;rw[m4]at q;rw[<-q,<-l];exact h _<|I.tok _
def jp{Q:al->aw->Prop}(hu:A.units+1<dL)(I:Inv X pq Z H s)(g:DGet H a y o)(ry:ZA y u)(h:∀s',Inv X pq Z H s'->Q (.bool<|!o.isSome) s') :
  aW (aQ X.prog X.w) A (b0 .NotIn u<|.ref a) Q E s:=by
 rcases g with⟨kvs,k,e,ey,l⟩|⟨kvs,k,b,e,ey,eb,l⟩
 .subst ey
  obtain⟨z,hd,vs,rel,dd⟩:=ZaM I.hok e;refine wpAny_notIn_of (wp ry) hd dd.mapOf ?_;rw[<-(rel.val k).isSome_eq,<-l];exact h _<|I.tok _
 .subst ey
  cases(ry)
  obtain⟨z,hd,xs,rel,dd⟩:=ZaD I.hok e;refine wpAny_notIn_heap (mL hu) (GO I.hok eb) hd dd ?_;have q:=(rel.val k).isSome_eq;rw[m4]at q;rw[<-q,<-l];exact h _<|I.tok _
end L2
namespace Pv
open PySem (Str)
inductive V where
 |non|bl (b:Bool)|int (i:Int)|str (x:bG)|tup (xs:List V)|lst (xs:List V)|drw|dct (ks:Option (List<|List Int))|scr (ns:List Int)
 |dow (ks:List (List Int))
 deriving Inhabited
end Pv
namespace Ev
open PySem (Str)
def nos{B:Type}{P:Prop}{b:B}(h:ae=aa b):P:=by cases h
noncomputable def lim:Nat:=16777216
inductive Bop where|add|sub|mul|fdiv|mod|pow
 deriving DecidableEq
inductive Cop where|eq|ne|lt|le|gt|ge|is|isn|inn|nin
 deriving DecidableEq
inductive Ty where|int|bool|str|tuple|list|dict|cls (c:Nat)
 deriving DecidableEq
inductive Bf where|len|max2|min2|toInt|tuple|list|all|any|sum|sorted|sortedR|dictP|listD|sortedD|sortedS|sortedT|rangeT|rangeL
 deriving DecidableEq
inductive Mf where|append|extend|index
 deriving DecidableEq
mutual
inductive E where
 |c (d:Pv.V)|v (i:Nat)
 |tup (es:List E)|lst (es:List E)|dnew
 |bin (op:Bop) (a b:E)|neg (a:E)|not (a:E)|and (a b:E)|or (a b:E)|ite (t a b:E)
 |cmp (op:Cop) (a b:E)|chain (o p:Cop) (a b d:E)
 |ix (a i:E)|sl (a:E) (lo hi:Option E)|rev (a:E)
 |call (f:Nat) (as:List E)|blt (f:Bf) (as:List E)|mt (m:Mf) (o:E) (as:List E)
 |isi (a:E) (ts:List Ty)
 |inT (a:E) (tab:List (Int×Int))|getT (tab:List (Int×Int)) (a:E)
 |dput1 (k v:E)
 |comp1 (cap:List Nat) (nl:Nat) (t:List Nat) (it:W) (ifs:List E) (elt:E)
 |comp2 (cap:List Nat) (nl:Nat) (t:List Nat) (it:W) (ifs:List E) (u:List Nat) (jt:W) (jfs:List E) (elt:E)
 |fi (e:E)
 |refu (w:Bool) (e:E)
 |dix (a:E) (k:Bool)
 |callF (f:Nat) (as:List E)
inductive W where
 |of (e:E)|rng1 (a:E)|rng2 (a b:E)|zip (a b:E)|enum (a:E)|rrng (a b:E)|rtup (a:E)|dk (e:E)
end
inductive Sm where
 |asg (t:List Nat) (e:E)|par (t:List Nat) (es:List E)|aug (i:Nat) (op:Bop) (e:E)|put (o i e:E)|dput (o i e:E)
 |ret (e:E)|ex (e:E)|ite (t:E) (a b:List Sm)|forr (t:List Nat) (it:W) (b:List Sm)|whl (t:E) (b:List Sm)
 |raise (c:Nat) (as:List E)|pas|brk|cnt
 |mov (i j:Nat)
 |dset (i:Nat) (e:E)|cel (i f:Nat) (as:List E) (b:List Sm)
 |retO (i:Nat)
 |dnw (i:Nat) (k:E)|forF (t:List Nat) (e:E) (b:List Sm)
 |lnw (i:Nat) (es:List E)|cat (i:Nat) (es:List E)|app (i:Nat) (e:E)
noncomputable def b2i(b:Bool):Int:=if b then 1 else 0
noncomputable def Zm:Nat:=6
noncomputable def ixN(n:Nat)(i:Int):Option Nat:=if 0<=i then(if i<n then aa i.toNat else ae)else if -(n:Int)<=i then aa (i+n).toNat else ae
noncomputable def at'{B:Type}(xs:List B)(i:Int):Option B:=(ixN xs.length i).bind λj=>xs[j]?
noncomputable def sIx(n d:Nat):Option Int->Nat
 |none=>d
 |some i=>if i<0 then(i+n).toNat else oW i.toNat n
noncomputable def fits(i:Int):Bool:=ai<|i.natAbs<2^8000
noncomputable def big:Int:=2^8000
def uB(h:b<1073741824):b<big:=Int.lt_trans h (by decide +kernel)
noncomputable def ltI:List Int->List Int->Bool
 |[],[]=>ap
 |[],_::_=>am
 |_::_,[]=>ap
 |a::x,b::y=>if a=b then ltI x y else ai (a<b)
noncomputable def YZ(x:List Int):List (List Int)->List (List Int)
 |[]=>[x]
 |y::r=>if ltI x y then x::y::r else y::YZ x r
noncomputable def Zn:List (List Int)->List (List Int)
 |[]=>[]
 |x::r=>YZ x<|Zn r
noncomputable def J4{B:Type}(lt:B->B->Bool)(x:B):List B->List B
 |[]=>[x]
 |y::r=>if lt x y then x::y::r else y::J4 lt x r
noncomputable def XB{B:Type}(lt:B->B->Bool):List B->List B
 |[]=>[]
 |x::r=>J4 lt x<|XB lt r
noncomputable def ltP:List (List Int)->List (List Int)->Bool
 |[],[]=>ap
 |[],_::_=>am
 |_::_,[]=>ap
 |a::x,b::y=>if a=b then ltP x y else ltI a b
noncomputable def Zcv(is:List Int):Bool:=ai (is.length<=1000)&&is.all λi=>ai<|-1099511627776<=i/\i<=1099511627776
noncomputable def ZX(rs:List (List Int)):Bool:=ai (rs.length<=100000)&&decide rs.Nodup&&rs.all λr=>!r.isEmpty
noncomputable def YD(ps:List (List<|List Int)):Bool:=ai (ps.length<=100000)&&decide ps.Nodup&&(ai (ps.length<=1)||ps.all λP=>!P.isEmpty)
noncomputable def Za7(ks:List (List Int)):Bool:=ai (ks.length<=lim)&&decide ks.Nodup
noncomputable def Xd(i:Int):Bool:=ai<|-(2^62)<=i/\i<2^62
noncomputable def few(i:Int):Bool:=ai<|0<=i/\i<=1000
noncomputable def Jv:Nat:=1000
noncomputable def Zcf:List bG:=["row","part","number","heads","not beside","not in","turn","lot","many","note"]
noncomputable def spcs:List (Nat×Nat):=[(2,1),(2,2),(2,3),(2,4),(3,1),(3,2),(3,3),(5,1),(5,2),(2,5),(2,6),(3,4),(5,3)]
noncomputable def XO(rs:List (List Int)):Bool:=ZX rs&&(ai (rs.length<=300)&&spcs.any λq=>rs.all λr=>ai (r.length=q.2)&&r.all λa=>ai<|0<=a/\a<(q.1:Int))
structure Fn where
 ps:Nat
 ns:Nat
 body:List Sm
end Ev
namespace Pv
open Ev
open PySem (Str)
noncomputable abbrev DS:=Int×Bool
inductive PR(B:Type) where
 |ok (a:B) (s:DS)|ex (c:Nat) (s:DS)|no
noncomputable def PR.bind{B β:Type}(r:PR B)(f:B->DS->PR β):PR β:=match r with
 |.ok a s=>f a s
 |.ex c s=>.ex c s
 |.no=>.no
noncomputable def PR.nox{B:Type}(r:PR B):PR B:=match r with
 |.ex _ _=>.no
 |r=>r
noncomputable def po{B:Type}(o:Option B)(s:DS):PR B:=match o with
 |some a=>.ok a s
 |none=>.no
abbrev Env:=List<|Option V
mutual
noncomputable def V.flat:V->Bool
 |.tup xs=>WL xs
 |.lst _=>ap
 |.drw=>ap
 |.dct _=>ap
 |.dow _=>ap
 |_=>am
noncomputable def WL:List V->Bool
 |[]=>am
 |x::xs=>x.flat&&WL xs
end
mutual
noncomputable def ofD:V->Option V
 |.non=>aa .non
 |.bl b=>aa<|.bl b
 |.int i=>aa<|.int i
 |.str x=>aa<|.str x
 |.tup xs=>(Zc2 xs).map .tup
 |_=>ae
noncomputable def Zc2:List V->Option (List V)
 |[]=>aa []
 |x::xs=>match ofD x,Zc2 xs with
  |some a,aa b=>aa (a::b)
  |_,_=>ae
end
noncomputable def Zu:V->Option Bool
 |.non=>aa ap
 |.bl b=>aa b
 |.int i=>aa<|ai<|i≠0
 |.tup xs=>aa<|!xs.isEmpty
 |.lst xs=>aa<|!xs.isEmpty
 |_=>ae
noncomputable def Ya(f:V->V->Option Bool):List V->List V->Option Bool
 |[],[]=>aa am
 |x::xs,y::ys=>match f x y,Ya f xs ys with
  |some a,aa b=>aa<|a&&b
  |_,_=>ae
 |_,_=>aa ap
noncomputable def eqV:Nat->V->V->Option Bool
 |0,_,_=>ae
 |k+1,x,y=>match x with
  |.non=>match y with
   |.non=>aa am
   |.bl _|.int _|.str _=>aa ap
   |_=>ae
  |.bl a=>match y with
   |.bl b=>aa<|ai<|a=b
   |.int b=>aa<|ai<|b2i a=b
   |.non|.str _=>aa ap
   |_=>ae
  |.int a=>match y with
   |.int b=>aa<|ai<|a=b
   |.bl b=>aa<|ai<|a=b2i b
   |.non|.str _=>aa ap
   |_=>ae
  |.str a=>match y with
   |.str b=>aa<|ai<|a=b
   |.non|.bl _|.int _=>aa ap
   |_=>ae
  |.tup xs=>match y with
   |.tup ys=>Ya (eqV k) xs ys
   |_=>ae
  |.lst xs=>match y with
   |.lst ys=>if xs.length=ys.length then Ya (eqV k) xs ys else aa ap
   |_=>ae
  |_=>ae
noncomputable def Y0(x:V):List V->Option Bool
 |[]=>aa ap
 |y::ys=>match eqV Zm y x,Y0 x ys with
  |some a,aa b=>aa (a||b)
  |_,_=>ae
noncomputable def Y8:V->Ty->Option Bool
 |.non,_=>aa ap
 |.bl _,t=>aa<|ai<|t=.bool\/t=.int
 |.int _,t=>aa<|ai<|t=.int
 |.str _,t=>aa<|ai<|t=.str
 |.tup _,t=>aa<|ai<|t=.tuple
 |.lst _,t=>aa<|ai<|t=.list
 |.dct ae,t=>aa<|ai<|t=.dict
 |_,_=>ae
noncomputable def Z7(x:V):List Ty->Option Bool
 |[]=>aa ap
 |t::ts=>match Y8 x t with
  |some am=>aa am
  |some ap=>Z7 x ts
  |none=>ae
noncomputable def Yy(xs:List V)(lo hi:Option Int):List V:=(xs.drop<|sIx xs.length 0 lo).take<|sIx xs.length xs.length hi-sIx xs.length 0 lo
noncomputable def Ud(op:Bop)(a b:Int)(s:DS):PR V:=match op with
 |.add=>.ok (.int<|a+b) s
 |.sub=>.ok (.int<|a-b) s
 |.mul=>if(fits a&&fits b)=am then .ok (.int<|a*b) s else .no
 |.fdiv=>if 0<b/\b<Ev.big then .ok (.int<|a / b) s else .no
 |.mod=>if 0<b then .ok (.int<|a%b) s else .no
 |.pow=>if 0<=b/\b<=1000/\a.natAbs<2^64 then .ok (.int<|a^b.toNat) s else .no
noncomputable def YJ(op:Bop)(x y:V)(s:DS):PR V:=match x with
 |.int a=>match y with
  |.int b=>Ud op a b s
  |_=>.no
 |.tup a=>match y with
  |.tup b=>match op with
   |.add=>if a.length+b.length<=lim then .ok (.tup<|a++b) s else .no
   |_=>.no
  |.int b=>match op with
   |.mul=>if 0<=b/\b<1000/\a.length<=1000 then .ok (.tup (aB b.toNat a).flatten) s else .no
   |_=>.no
  |_=>.no
 |.lst a=>match y with
  |.lst b=>match op with
   |.add=>if a.length+b.length<=lim then .ok (.lst<|a++b) s else .no
   |_=>.no
  |.int b=>match op with
   |.mul=>if 0<=b/\b<1000/\a.length<=1000 then .ok (.lst (aB b.toNat a).flatten) s else .no
   |_=>.no
  |_=>.no
 |_=>.no
noncomputable def Zcr(op:Bop)(x y:V)(s:DS):PR V:=match x,y with
 |.int _,.int _=>YJ op x y s
 |_,_=>.no
noncomputable def intsV:List V->Option (List Int)
 |[]=>aa []
 |.int i::r=>(intsV r).map (i :: ·)
 |_::_=>ae
noncomputable def WB(x y:V):Option Bool:=match y with
 |.tup ys=>Y0 x ys
 |.lst ys=>Y0 x ys
 |.dct (aa ks)=>match x with
  |.tup k=>(intsV k).map λk=>ks.contains k
  |_=>ae
 |.dow ks=>match x with
  |.tup k=>(intsV k).map λk=>ks.contains k
  |_=>ae
 |_=>ae
noncomputable def WD:V->Bool
 |.non=>am
 |_=>ap
noncomputable def Zb(r:List Int):V:=.tup<|r.map .int
noncomputable def ZR:List V->Option (List<|List Int)
 |[]=>aa []
 |.tup x::r=>match intsV x,ZR r with
  |some a,aa b=>aa (a::b)
  |_,_=>ae
 |_::_=>ae
noncomputable def int2(x y:V):Option (Int×Int):=match x with
 |.int a=>match y with
  |.int b=>aa (a,b)
  |_=>ae
 |_=>ae
noncomputable def isV(x y:V):Option Bool:=match y with
 |.non=>aa<|WD x
 |.bl b=>match x with
  |.bl a=>aa<|ai<|a=b
  |_=>ae
 |_=>ae
noncomputable def Yg(op:Cop)(x y:V):Option V:=match op with
 |.eq=>(eqV Zm x y).map .bl
 |.ne=>(eqV Zm x y).map λb=>.bl !b
 |.lt=>match x with
  |.tup a=>match y with
   |.tup b=>(ZR a).bind λP=>(ZR b).map λQ=>.bl<|ltP P Q
   |_=>ae
  |x=>(int2 x y).map λz=>.bl<|ai<|z.1<z.2
 |.gt=>(int2 x y).map λz=>.bl<|ai<|z.2<z.1
 |.le=>(int2 x y).map λz=>.bl<|ai<|z.1<=z.2
 |.ge=>(int2 x y).map λz=>.bl<|ai<|z.2<=z.1
 |.is=>(isV x y).map .bl
 |.isn=>(isV x y).map λb=>.bl !b
 |.inn=>(WB x y).map .bl
 |.nin=>(WB x y).map λb=>.bl !b
noncomputable def ixV(x y:V):Option V:=match x,y with
 |.tup xs,.int i=>at' xs i
 |.lst xs,.int i=>at' xs i
 |.scr xs,.int i=>(at' xs i).map .int
 |_,_=>ae
noncomputable def slV(x:V)(lo hi:Option Int):Option V:=match x with
 |.tup xs=>aa<|.tup<|Yy xs lo hi
 |.lst xs=>aa<|.lst<|Yy xs lo hi
 |_=>ae
noncomputable def Zcu:V->Option V
 |.tup xs=>aa<|.tup xs.reverse
 |_=>ae
noncomputable def WV:V->Option Bool
 |.non=>aa ap
 |.bl b=>aa b
 |.int i=>aa<|ai<|i≠0
 |_=>ae
noncomputable def Z9:List V->Option (List Bool)
 |[]=>aa []
 |x::xs=>match WV x,Z9 xs with
  |some b,aa bs=>aa (b::bs)
  |_,_=>ae
noncomputable def Zd(P:List (List Int)):V:=.tup<|P.map Zb
noncomputable def Zba:V->Option (List<|List Int)
 |.tup ks=>ZR ks
 |_=>ae
noncomputable def u4:List V->Option (List<|List<|List Int)
 |[]=>aa []
 |x::r=>match Zba x,u4 r with
  |some a,aa b=>aa (a::b)
  |_,_=>ae
noncomputable def ZdO:List V->Bool
 |.tup (.int _::_)::_=>am
 |_=>ap
noncomputable def Yf:V->Option (List V)
 |.tup xs=>aa xs
 |.lst xs=>aa xs
 |.scr ns=>aa<|ns.map .int
 |_=>ae
noncomputable def ZcQ:V->Option (List V)
 |.dct (aa ks)=>aa<|ks.map Zb
 |_=>ae
noncomputable def ZS(lo:Int)(n:Nat):List V:=(aM n).map λ(k:Nat)=>.int<|lo+(k:Int)
noncomputable def ZcH:V->Option (List Int)
 |.tup [.tup k,.bl b]=>if b=am then intsV k else ae
 |_=>ae
noncomputable def uv:List V->Option (List<|List Int)
 |[]=>aa []
 |v::r=>(ZcH v).bind λa=>(uv r).map (a :: ·)
noncomputable def vU:List V->Option (List Nat)
 |[]=>aa []
 |.int i::r=>if 0<=i/\i<6 then(vU r).map (i.toNat :: ·)else ae
 |_=>ae
noncomputable def blt1(f:Bf)(x:V):Option V:=match f with
 |.len=>(Yf x).map λxs=>.int xs.length
 |.toInt=>match x with
  |.int a=>aa<|.int a
  |.bl b=>aa<|.int<|b2i b
  |_=>ae
 |.tuple=>(Yf x).map .tup
 |.list=>(Yf x).map .lst
 |.all=>match x with
  |.lst xs=>(Z9 xs).map λbs=>.bl<|bs.all id
  |_=>ae
 |.any=>(Yf x).bind λxs=>(Z9 xs).map λbs=>.bl<|bs.any id
 |.sum=>match x with
  |.lst xs=>(intsV xs).bind λis=>if Zcv is=am then aa (.int is.sum)else ae
  |_=>ae
 |.sorted=>match x with
  |.lst xs=>if ZdO xs=am then(ZR xs).bind λrs=>if ZX rs=am then aa (.lst<|(Zn rs).map Zb)else ae else(u4 xs).bind λps=>if YD ps=am then aa (.lst<|(XB ltP ps).map Zd)else ae
  |_=>ae
 |.sortedR=>match x with
  |.lst xs=>(ZR xs).bind λrs=>if ZX rs=am then aa (.lst<|(Zn rs).reverse.map Zb)else ae
  |_=>ae
 |.rangeT=>match x with
  |.int i=>if few i then aa (.tup<|ZS 0 i.toNat)else ae
  |_=>ae
 |.rangeL=>match x with
  |.int i=>if few i then aa (.lst<|ZS 0 i.toNat)else ae
  |_=>ae
 |.listD=>match x with
  |.dow ks=>aa<|.lst<|ks.map Zb
  |_=>ae
 |.sortedD=>match x with
  |.dow ks=>if ZX ks=am then aa (.lst<|(Zn ks).map Zb)else ae
  |_=>ae
 |.sortedS=>match x with
  |.lst xs=>(vU xs).map λks=>.lst (((aM 6).filter ks.contains).map λk:Nat=>.int k)
  |_=>ae
 |.sortedT=>match x with
  |.lst xs=>(ZR xs).bind λrs=>if XO rs=am then aa (.lst<|(Zn rs).map Zb)else ae
  |_=>ae
 |.dictP=>match x with
  |.lst xs=>(uv xs).bind λks=>if Za7 ks=am then aa (.dct<|aa ks)else ae
  |_=>ae
 |_=>ae
noncomputable def blt2(f:Bf)(x y:V):Option V:=match x,y with
 |.int a,.int b=>match f with
  |.max2=>aa<|.int (if b>a then b else a)
  |.min2=>aa<|.int (if b<a then b else a)
  |_=>ae
 |_,_=>ae
noncomputable def Xa(f:Bf)(as:List V):Option V:=match as with
 |[x]=>blt1 f x
 |[x,y]=>blt2 f x y
 |_=>ae
noncomputable def YB:List Nat->List V->Env->Option Env
 |[],[],O=>aa O
 |i::t,x::xs,O=>YB t xs<|O.set i<|aa x
 |_,_,_=>ae
noncomputable def w6:V->Option (List V)
 |.tup xs=>aa xs
 |.lst xs=>aa xs
 |_=>ae
noncomputable def Zk(t:List Nat)(x:V)(O:Env):Option Env:=match t with
 |[i]=>aa<|O.set i<|aa x
 |t=>match w6 x with
  |some xs=>YB t xs O
  |none=>ae
abbrev Zo:=Nat->List V->DS->PR V
noncomputable def ZW(cap:List Nat)(nl:Nat)(O:Env):Env:=aB nl ae++cap.map λi=>(O[i]?).join
noncomputable def mapP(f:V->DS->PR (List V)):List V->DS->PR (List V)
 |[],s=>.ok [] s
 |x::xs,s=>match f x s with
  |.ok ys s=>match mapP f xs s with
   |.ok zs s=>.ok (ys++zs) s
   |_=>.no
  |_=>.no
noncomputable def Zdw(w:Bool)(c:Nat):V:=if w then .str (Zcf.getD c "")else .int c
noncomputable def own(nl:Nat)(t:List Nat):Bool:=t.all λi=>ai<|i<nl
noncomputable def own2(nl:Nat)(t u:List Nat):Bool:=own nl t&&u.all λi=>ai (i<nl) && !t.contains i
mutual
noncomputable def pv(C:Zo):E->Env->DS->PR V
 |.c d,_,s=>po (ofD d) s
 |.v i,O,s=>po (O[i]?).join s
 |.tup es,O,s=>(pvs C es O s).bind λxs s=>if xs.length<=lim then .ok (.tup xs) s else .no
 |.lst es,O,s=>(pvs C es O s).bind λxs s=>if xs.length<=lim then .ok (.lst xs) s else .no
 |.dnew,_,s=>.ok (.dct ae) s
 |.dput1 k v,O,s=>(pv C k O s).bind λx s=>(pv C v O s).bind λy s=>match x,y with
  |.int _,.int _=>.ok (.dct ae) s
  |_,_=>.no
 |.bin op a b,O,s=>(pv C a O s).bind λx s=>(pv C b O s).bind λy s=>YJ op x y s
 |.neg a,O,s=>(pv C a O s).bind λx s=>match x with
  |.int i=>.ok (.int<|-i) s
  |_=>.no
 |.not a,O,s=>(pv C a O s).bind λx s=>(po (Zu x) s).bind λb s=>.ok (.bl !b) s
 |.and a b,O,s=>(pv C a O s).bind λx s=>match x with
  |.bl c=>if c then pv C b O s else .ok (.bl ap) s
  |_=>.no
 |.or a b,O,s=>(pv C a O s).bind λx s=>match x with
  |.bl c=>if c then .ok (.bl am) s else pv C b O s
  |_=>.no
 |.ite t a b,O,s=>(pv C t O s).bind λx s=>(po (Zu x) s).bind λc s=>if c then pv C a O s else pv C b O s
 |.cmp op a b,O,s=>(pv C a O s).bind λx s=>(pv C b O s).bind λy s=>po (Yg op x y) s
 |.chain o p a b d,O,s=>(pv C a O s).bind λx s=>(pv C b O s).bind λy s=>(po (Yg o x y) s).bind λz s=>match z with
  |.bl c=>if c then(pv C d O s).bind λw s=>po (Yg p y w) s else .ok (.bl ap) s
  |_=>.no
 |.ix a i,O,s=>(pv C a O s).bind λx s=>(pv C i O s).bind λy s=>po (ixV x y) s
 |.sl a lo hi,O,s=>(pv C a O s).bind λx s=>(pvo C lo O s).bind λl s=>(pvo C hi O s).bind λh s=>po (slV x l h) s
 |.rev a,O,s=>(pv C a O s).bind λx s=>po (Zcu x) s
 |.call f as,O,s=>(pvs C as O s).bind λxs s=>C f xs s
 |.blt f as,O,s=>(pvs C as O s).bind λxs s=>po (Xa f xs) s
 |.mt _ _ _,_,_=>.no
 |.isi a ts,O,s=>(pv C a O s).bind λx s=>(po (Z7 x ts) s).bind λb s=>.ok (.bl b) s
 |.inT a tab,O,s=>(pv C a O s).bind λx s=>match x with
  |.int i=>.ok (.bl ((tab.map (·.1)).contains i)) s
  |_=>.no
 |.getT tab a,O,s=>(pv C a O s).bind λx s=>match x with
  |.int i=>(po (tab.lookup i) s).bind λj s=>.ok (.int j) s
  |_=>.no
 |.comp1 cap nl t it ifs elt,O,s=>if own nl t=am then(pvw C it O s).bind λw s=>
   ((mapP (λx s=>(po (Zk t x<|ZW cap nl O) s).bind λZ s=>(pvt C ifs Z s).bind λb s=>if b then(pv C elt Z s).bind λy s=>.ok [y] s else .ok [] s) w s).bind
    λys s=>if ys.length<=lim then .ok (.lst ys) s else .no).nox
  else .no
 |.comp2 cap nl t it ifs u jt jfs elt,O,s=>if own2 nl t u=am then(pvw C it O s).bind λw s=>
   ((mapP (λx s=>(po (Zk t x<|ZW cap nl O) s).bind λZ s=>(pvt C ifs Z s).bind λb s=>if b then
    (pvw C jt Z s).bind λw2 s=>mapP (λx s=>(po (Zk u x Z) s).bind λZ s=>(pvt C jfs Z s).bind λb s=>if b then(pv C elt Z s).bind λy s=>.ok [y] s else .ok [] s) w2 s
    else .ok [] s) w s).bind
    λys s=>if ys.length<=lim then .ok (.lst ys) s else .no).nox
  else .no
 |.fi a,O,s=>(pv C a O s).bind λx s=>match x with
  |.int i=>if Xd i=am then .ok (.int i) s else .no
  |_=>.no
 |.refu w e,O,s=>match pv C e O s with
  |.ok _ s=>.ok .non s
  |.ex c s=>if 1<=c/\c<=10 then .ok (Zdw w<|c-1) s else .no
  |.no=>.no
 |.dix a k,O,s=>(pv C a O s).bind λx s=>match x with
  |.drw=>.ok (if k then .bl s.2 else .int s.1) s
  |_=>.no
 |.callF f as,O,s=>(pvs C as O s).bind λxs s=>C f xs s
noncomputable def pvs(C:Zo):List E->Env->DS->PR (List V)
 |[],_,s=>.ok [] s
 |e::es,O,s=>(pv C e O s).bind λx s=>(pvs C es O s).bind λxs s=>.ok (x::xs) s
noncomputable def pvo(C:Zo):Option E->Env->DS->PR (Option Int)
 |none,_,s=>.ok ae s
 |some e,O,s=>(pv C e O s).bind λx s=>match x with
  |.int i=>.ok (aa i) s
  |_=>.no
noncomputable def pvt(C:Zo):List E->Env->DS->PR Bool
 |[],_,s=>.ok am s
 |e::es,O,s=>(pv C e O s).bind λx s=>(po (Zu x) s).bind λb s=>if b then pvt C es O s else .ok ap s
noncomputable def pvw(C:Zo):W->Env->DS->PR (List V)
 |.rng1 a,O,s=>(pv C a O s).bind λx s=>match x with
  |.int i=>if Xd i then .ok (ZS 0 i.toNat) s else .no
  |_=>.no
 |.rng2 a b,O,s=>(pv C a O s).bind λx s=>(pv C b O s).bind λy s=>match x,y with
  |.int i,.int j=>if(Xd i&&Xd j)=am then .ok (ZS i (j-i).toNat) s else .no
  |_,_=>.no
 |.rrng a b,O,s=>(pv C a O s).bind λx s=>(pv C b O s).bind λy s=>match x,y with
  |.int i,.int j=>if(Xd i&&Xd j)=am then .ok (ZS i (j-i).toNat).reverse s else .no
  |_,_=>.no
 |.rtup a,O,s=>(pv C a O s).bind λx s=>match x with
  |.tup xs=>.ok xs.reverse s
  |_=>.no
 |.zip a b,O,s=>(pv C a O s).bind λx s=>(pv C b O s).bind λy s=>match Yf x,Yf y with
  |some v,aa w=>.ok ((v.zip w).map λp=>.tup [p.1,p.2]) s
  |_,_=>.no
 |.enum a,O,s=>(pv C a O s).bind λx s=>match Yf x with
  |some w=>.ok (((ZS 0 w.length).zip w).map λp=>.tup [p.1,p.2]) s
  |none=>.no
 |.of e,O,s=>(pv C e O s).bind λx s=>po (Yf x) s
 |.dk e,O,s=>(pv C e O s).bind λx s=>po (ZcQ x) s
end
inductive FlV where|nx (O:Env) (os:List Nat)|ret (v:V)|brk (O:Env) (os:List Nat)|cnt (O:Env) (os:List Nat)
noncomputable def hide(os:List Nat)(O:Env):Env:=O.mapIdx λi o=>if os.contains i then ae else o
noncomputable def fresh:E->Bool
 |.lst _=>am
 |.comp1 .. => am
 |.comp2 .. => am
 |.bin .mul (.lst _) _=>am
 |.blt .list _=>am
 |.blt .sorted _=>am
 |.blt .rangeL _=>am
 |.blt .listD _=>am
 |.blt .sortedD _=>am
 |.blt .sortedS _=>am
 |.blt .sortedT _=>am
 |.callF _ _=>am
 |_=>ap
noncomputable def zG:V->Bool
 |.lst xs=>WL xs
 |_=>ap
noncomputable def pvA(C:Zo)(e:E)(O:Env)(os:List Nat)(s:DS):PR V:=match os with
 |[]=>pv C e O s
 |os=>match pv C e (hide os O) s with
  |.ok v s=>.ok v s
  |.ex c s=>.ex c s
  |.no=>(pv C e O s).bind λv s=>if(v.flat||fresh e&&zG v)=am then .ok v s else .no
noncomputable def ZdN(C:Zo)(es:List E)(O:Env)(os:List Nat)(s:DS):PR (List V):=match os with
 |[]=>pvs C es O s
 |os=>match pvs C es (hide os O) s with
  |.ok v s=>.ok v s
  |.ex c s=>.ex c s
  |.no=>(pvs C es O s).bind λv s=>if WL v then .ok v s else .no
noncomputable def YW(C:Zo)(e:E)(O:Env)(s:DS):PR Bool:=(pv C e O s).bind λx s=>po (Zu x) s
noncomputable def Xx(body:V->Env->List Nat->DS->PR FlV):List V->Env->List Nat->DS->PR FlV
 |[],O,os,s=>.ok (.nx O os) s
 |x::xs,O,os,s=>(body x O os s).bind λf s=>match f with
  |.nx O os=>Xx body xs O os s
  |.cnt O os=>Xx body xs O os s
  |.brk O os=>.ok (.nx O os) s
  |.ret v=>.ok (.ret v) s
noncomputable def YN(test:Env->DS->PR Bool)(body:Env->List Nat->DS->PR FlV):Nat->Env->List Nat->DS->PR FlV
 |0,_,_,_=>.no
 |n+1,O,os,s=>(test O s).bind λb s=>if b then(body O os s).bind λf s=>match f with
  |.nx O os=>YN test body n O os s
  |.cnt O os=>YN test body n O os s
  |.brk O os=>.ok (.nx O os) s
  |.ret v=>.ok (.ret v) s
  else .ok (.nx O os) s
noncomputable def okS(x:Int)(b:Bool):Bool:=ai (0<=x)&&(b||decide (x<2147483647))
noncomputable def V3:V->Option DS
 |.lst [.int a,.bl b]=>if okS a b=am then aa (a,b)else ae
 |_=>ae
noncomputable def WE(o:Option V):Option V:=o.filter V.flat
noncomputable def XY(i:Nat)(O:Env):Env:=(O.take i).map WE++aB (O.length-i) ae
noncomputable def ZcA:Option (Option V)->Option (List<|List Int)
 |some (aa<|.dow ks)=>aa ks
 |_=>ae
noncomputable def Zdm(ks:List (List Int))(k:List Int):List (List Int):=if ks.contains k then ks else ks++[k]
noncomputable def Zcs:V->Option (List Int)
 |.tup k=>intsV k
 |_=>ae
noncomputable def isT:V->Bool
 |.bl am=>am
 |_=>ap
noncomputable def VX:Option (Option V)->Option (List V)
 |some (aa<|.lst xs)=>aa xs
 |_=>ae
mutual
noncomputable def rv(C:Zo)(ms:List Nat):Sm->Env->List Nat->DS->PR FlV
 |.asg [i] e,O,os,s=>(pvA C e O os s).bind λv s=>if(ms.contains i&&fresh e)=am then match v with
   |.lst xs=>if WL xs=am/\i<O.length then .ok (.nx (O.set i<|aa v) (i::os.filter (· != i))) s else .no
   |_=>.no
  else .ok (.nx (O.set i<|aa v) (os.filter (· != i))) s
 |.asg t e,O,os,s=>(pvA C e O os s).bind λv s=>if(t.any os.contains)=am then .no else(po (Zk t v O) s).bind λO s=>.ok (.nx O os) s
 |.par t es,O,os,s=>(ZdN C es O os s).bind λvs s=>if(t.any os.contains)=am then .no else(po (YB t vs O) s).bind λO s=>.ok (.nx O os) s
 |.aug i op e,O,os,s=>if os.contains i then .no else(po (O[i]?).join s).bind λx s=>(pv C e O s).bind λy s=>(Zcr op x y s).bind λz s=>.ok (.nx (O.set i<|aa z) os) s
 |.put (.v i) k e,O,os,s=>if os.contains i then(pv C e O s).bind λv s=>if v.flat then(po (VX O[i]?) s).bind λxs s=>(pv C k O s).bind λy s=>match y with
   |.int n=>(po (ixN xs.length n) s).bind λj s=>.ok (.nx (O.set i<|aa<|.lst<|xs.set j v) os) s
   |_=>.no
  else .no else .no
 |.put _ _ _,_,_,_=>.no
 |.dput (.v i) k e,O,os,s=>if os.contains i then(pv C e O s).bind λv s=>if isT v=am then(po (ZcA O[i]?) s).bind λks s=>(pv C k O s).bind λy s=>(po (Zcs y) s).bind λr s=>if ks.length<lim then .ok (.nx (O.set i<|aa<|.dow<|Zdm ks r) os) s else .no
  else .no else .no
 |.dput _ _ _,_,_,_=>.no
 |.ret e,O,os,s=>(pv C e O s).bind λv s=>.ok (.ret v) s
 |.ex (.mt .append (.v i) [e]),O,os,s=>if os.contains i then(po (VX O[i]?) s).bind λxs s=>(pv C e O s).bind λv s=>if v.flat=am/\xs.length<lim then .ok (.nx (O.set i<|aa<|.lst<|xs++[v]) os) s else .no else .no
 |.ex (.mt .extend (.v i) [e]),O,os,s=>if os.contains i then(po (VX O[i]?) s).bind λxs s=>(pv C e (hide os O) s).bind λv s=>match v with
   |.lst ys=>if WL ys=am/\xs.length+ys.length<=lim then .ok (.nx (O.set i<|aa<|.lst<|xs++ys) os) s else .no
   |_=>.no
  else .no
 |.ex e,O,os,s=>(pv C e O s).bind λ_ s=>.ok (.nx O os) s
 |.ite t a b,O,os,s=>(YW C t O s).bind λc s=>if c then rvs C ms a O os s else rvs C ms b O os s
 |.forr t it b,O,os,s=>(pvw C it (hide os O) s).bind λw s=>Xx (λx O os s=>if(t.any os.contains)=am then .no else(po (Zk t x O) s).bind λO s=>rvs C ms b O os s) w O os s
 |.whl t b,O,os,s=>YN (YW C t) (rvs C ms b) Jv O os s
 |.raise c as,O,os,s=>(pvs C as O s).bind λ_ s=>.ex c s
 |.pas,O,os,s=>.ok (.nx O os) s
 |.brk,O,os,s=>.ok (.brk O os) s
 |.cnt,O,os,s=>.ok (.cnt O os) s
 |.mov i j,O,os,s=>if(os.contains j&&(!os.contains i&&ai (i≠j)))=am then(po (VX O[j]?) s).bind λxs s=>.ok (.nx ((O.set i<|aa<|.lst xs).set j ae) (os.filter (· != j))) s else .no
 |.dset i e,O,os,s=>(pv C e O s).bind λv s=>match v with
  |.int x=>if okS x s.2=am then match(O[i]?).join with
   |some .drw=>.ok (.nx O os) (x,s.2)
   |_=>.no
   else .no
  |_=>.no
 |.cel i f as b,O,os,s=>if os.isEmpty=am then(pvs C as O s).bind λxs s=>(C f xs s).bind λv s=>(po (V3 v) s).bind λd s=>match rvs C ms b ((XY i O).set i<|aa .drw) [] d with
  |.ok (.nx O _) _=>.ok (.nx (O.map WE) []) s
  |.ok (.cnt O _) _=>.ok (.cnt (O.map WE) []) s
  |.ok (.brk O _) _=>.ok (.brk (O.map WE) []) s
  |.ok (.ret v) _=>if v.flat=am then .ok (.ret v) s else .no
  |_=>.no
  else .no
 |.retO i,O,os,s=>if os.contains i then(po (VX O[i]?) s).bind λxs s=>.ok (.ret<|.lst xs) s else .no
 |.dnw i k,O,os,s=>(pv C k O s).bind λy s=>(po (Zcs y) s).bind λr s=>if i<O.length then .ok (.nx (O.set i<|aa<|.dow [r]) (i::os.filter (· != i))) s else .no
 |.lnw i es,O,os,s=>(pvs C es (hide os O) s).bind λxs s=>if xs.length<=lim/\i<O.length then .ok (.nx (O.set i<|aa<|.lst xs) (i::os.filter (· != i))) s else .no
 |.cat i es,O,os,s=>if os.contains i then(po (VX O[i]?) s).bind λxs s=>(pvs C es (hide os O) s).bind λys s=>if ys.length<=lim/\xs.length+ys.length<=lim/\i<O.length then .ok (.nx (O.set i<|aa<|.lst<|xs++ys) (i::os.filter (· != i))) s else .no else .no
 |.app i e,O,os,s=>if os.contains i then(po (VX O[i]?) s).bind λxs s=>(pv C e (hide os O) s).bind λv s=>if xs.length<lim then .ok (.nx (O.set i<|aa<|.lst<|xs++[v]) os) s else .no else .no
 |.forF t e b,O,os,s=>(pvA C e O os s).bind λv s=>match v with
  |.lst w=>Xx (λx O os s=>if(t.any os.contains)=am then .no else(po (Zk t x O) s).bind λO s=>rvs C ms b O os s) w O os s
  |_=>.no
noncomputable def rvs(C:Zo)(ms:List Nat):List Sm->Env->List Nat->DS->PR FlV
 |[],O,os,s=>.ok (.nx O os) s
 |m::ss,O,os,s=>(rv C ms m O os s).bind λf s=>match f with
  |.nx O os=>rvs C ms ss O os s
  |f=>.ok f s
end
mutual
noncomputable def yL:Sm->List Nat
 |.put (.v i) _ _=>[i]
 |.ex (.mt .append (.v i) _)=>[i]
 |.ex (.mt .extend (.v i) _)=>[i]
 |.ite _ a b=>muts a++muts b
 |.forr _ _ b=>muts b
 |.whl _ b=>muts b
 |.cel _ _ _ b=>muts b
 |.retO i=>[i]
 |.dput (.v i) _ _=>[i]
 |.forF _ _ b=>muts b
 |_=>[]
noncomputable def muts:List Sm->List Nat
 |[]=>[]
 |m::ss=>yL m++muts ss
end
noncomputable def ZI(n:Nat)(xs:List V):Env:=xs.map aa++aB (n-xs.length) ae
noncomputable def Xe(s:DS)(m:Int):Int×DS:=
 if s.2 then(s.1%m,(s.1 / m,am))else
  let x:=(s.1*48271+29)%2147483647
  let y:=(x*x+39373*x+7)%2147483629
  let z:=(y*y+16807*y)%2147483587
  (z / 8%m,(x,ap))
noncomputable def Zas(vs:List V)(s:DS):PR V:=match vs with
 |[.drw,.int m]=>if 0<m/\m<1073741824 then .ok (.int (Xe s m).1) (Xe s m).2 else .no
 |_=>.no
noncomputable def Zh(F:List Fn)(tk:Nat):Nat->Zo
 |0,_,_,_=>.no
 |d+1,f,xs,s=>if f=tk then Zas xs s else match F[f]? with
  |some fn=>if xs.length=fn.ps then(rvs (Zh F tk d) (muts fn.body) fn.body (ZI fn.ns xs) [] s).bind λf s=>match f with
    |.ret v=>.ok v s
    |.nx _ _=>.ok .non s
    |_=>.no
   else .no
  |none=>.no
end Pv
namespace Sd
open PySem PySem.Spec PyProof.Rows L2
open Ev (E Sm Fn Bop Cop Ty Bf Mf)
noncomputable abbrev D:=Pv.V
noncomputable abbrev Zq:=Pv.DS
noncomputable abbrev Lc:=Pv.Env
noncomputable abbrev R:=Pv.PR
noncomputable abbrev Calls:=Pv.Zo
structure Mx where
 K:ao
 n0:Option aI
 X:aI->Prop
 xz:∀a,n0=aa a->X a
def Scr(K:ao)(H:Hp)(a:aI)(ns:List Int):Prop:=
 (∃o,H a=aa (.frz o<|.lst<|ns.map V.int))\/
  ∃(o:fD)(its:Array al)(n:Nat),K.lookup a=aa o/\o.cls=.type "list"/\o.dict=ae/\o.data=.seq its n/\its.size<=bp/\Vals (ns.map V.int) its.toList
def Scr.sq{K:ao}{H:Hp}{a:aI}{ns:List Int}(h:Scr K H a ns):SqL K H a (ns.map V.int):=by
 rcases h with⟨o,h⟩|h
 .exact .inl<|.inr #[o,h]
 .exact .inr h
def Dct(H:Hp)(a:aI):Option (List<|List Int)->Prop
 |none=>∃vs,H a=aa (.dK vs)
 |some ks=>∃o vs,H a=aa (.frz o<|.dT vs)/\vs.map (·.1)=ks.map (·.map dJ)
mutual
def Rep(O:Mx)(H:Hp):D->V->Prop
 |.non,v=>v=.non
 |.bl b,v=>v=.bl b
 |.int i,v=>v=.int i
 |.str x,v=>v=.str x
 |.tup ds,v=>∃a xs,v=.ref a/\H a=aa (.tup xs)/\Reps O H ds xs
 |.lst ds,v=>∃a xs,v=.ref a/\H a=aa (.lst xs)/\¬O.X a/\Reps O H ds xs
 |.drw,v=>∃a,v=.ref a/\O.n0=aa a
 |.dct o,v=>∃a,v=.ref a/\Dct H a o
 |.scr ns,v=>∃a,v=.ref a/\Scr O.K H a ns
 |.dow ks,v=>∃a vs,v=.ref a/\H a=aa (.dT vs)/\¬O.X a/\vs.map (·.1)=ks.map (·.map dJ)
def Reps(O:Mx)(H:Hp):List D->List V->Prop
 |[],xs=>xs=[]
 |d::ds,xs=>∃v vs,xs=v::vs/\Rep O H d v/\Reps O H ds vs
end
structure Fut(O:Mx)(H:Hp)(ρ':Mx)(H':Hp):Prop where
 eq:ρ'=O
 keep:∀a o,H a=aa o->H' a=aa o\/(O.n0=aa a/\∃xs,o=.lst xs)\/((∃ps,o=.tbl ps)/\∃ps,H' a=aa (.tbl ps))
def Fut.refl(O:Mx)(H:Hp):Fut O H O H:=#[rfl,λ_ _ h=>.inl h]
def Fut.trans{O ρ1 ρ2:Mx}{H H1 H2:Hp}(a:Fut O H ρ1 H1)(b:Fut ρ1 H1 ρ2 H2):Fut O H ρ2 H2:=by
 obtain⟨rfl,f⟩:=a;obtain⟨rfl,g⟩:=b;refine#[rfl,λa o h=>(f a o h).elim (λh=>g a o h) λz=>z.elim (λz=>.inr<|.inl z) λ#[e,ps,h]=>?_]
 rcases g a _ h with q|⟨_,xs,q⟩|⟨_,q⟩
 .exact .inr<|.inr #[e,ps,q]
 .cases q
 .exact .inr<|.inr #[e,q]
def Fut.there(f:Fut O H ρ' H')(n:O.n0≠.some a)(h:H a≠ae):H' a≠ae:=by
 obtain⟨o,e⟩:=Option.ne_none_iff_exists'.mp h;rcases f.keep a o e with q|q|⟨_,_,q⟩
 .rw[q];intro z;cases z
 .exact T7 q.1 n
 .rw[q];intro z;cases z
def Fut.new(f:Fut O H ρ' H')(h:H' a=ae)(xd:∀a,O.X a->H' a≠ae):H a=ae:=by
 cases q:H a with
 |none=>rfl
 |some o=>
  rcases f.keep a o q with e|e|⟨_,_,e⟩
  .rw[h]at e;cases e
  .exact T7 h<|xd a<|O.xz a e.1
  .rw[h]at e;cases e
structure Lat(O:Mx)(H:Hp)(ρ':Mx)(H':Hp):Prop where
 K:ρ'.K=O.K
 n0:ρ'.n0=O.n0
 keep':∀a o,H a=aa o->(∀xs,o=.lst xs->¬O.X a)->(∀ps,o≠.tbl ps)->(∀vs,o=.dT vs->¬O.X a)->H' a=aa o
 X:∀a,H a≠ae->ρ'.X a->O.X a
def Lat.keep(f:Lat O H ρ' H')(a:aI)(o:HO)(h:H a=aa o)(x:∀xs,o=.lst xs->¬O.X a)(n:∀ps,o≠.tbl ps:=by intro _ z;cases z)(m:∀vs,o=.dT vs->¬O.X a:=by intro _ z;cases z):H' a=aa o:=f.keep' a o h x n m
mutual
theorem Rep.lat(f:Lat O H ρ' H'):∀{d:D}{v:V},Rep O H d v->Rep ρ' H' d v
 |.non,_,h|.bl _,_,h|.int _,_,h|.str _,_,h=>by exact h
 |.tup ds,v,h=>by
  obtain⟨a,xs,e,t,r⟩:=h;exact#[a,xs,e,f.keep a _ t (λ_ z=>by cases z),r.lat f]
 |.lst ds,v,h=>by
  obtain⟨a,xs,e,t,x,r⟩:=h;exact#[a,xs,e,f.keep a _ t λ_ _=>x,λz=>x (f.X a (by rw[t];intro z;cases z) z),r.lat f]
 |.drw,v,h=>by unfold Rep at h ⊢;rw[f.n0];exact h
 |.dct o,v,h=>by
  obtain⟨a,e,t⟩:=h;refine#[a,e,?_];cases o with|none=>obtain⟨vs,t⟩:=t;exact#[vs,f.keep a _ t λ_ z=>by cases z]|some ks=>obtain⟨o,vs,t,q⟩:=t;exact#[o,vs,f.keep a _ t (λ_ z=>by cases z),q]
 |.scr ns,v,h=>by
  unfold Rep at h ⊢;obtain⟨a,e,t⟩:=h;rw[f.K];refine#[a,e,?_];rcases t with⟨o,t⟩|t
  .exact .inl #[o,f.keep a _ t λ_ z=>by cases z]
  .exact .inr t
 |.dow ks,v,h=>by
  unfold Rep at h ⊢;obtain⟨a,vs,e,t,x,q⟩:=h;exact#[a,vs,e,f.keep a _ t (λ_ z=>by cases z) (by intro _ z;cases z) λ_ _=>x,λz=>x (f.X a (by rw[t];intro z;cases z) z),q]
theorem Reps.lat(f:Lat O H ρ' H'):∀{ds:List D}{xs:List V},Reps O H ds xs->Reps ρ' H' ds xs
 |[],_,h=>by exact h
 |d::ds,xs,h=>by
  obtain⟨v,vs,e,r,rs⟩:=h;exact#[v,vs,e,r.lat f,rs.lat f]
end
noncomputable def Zdp:bG:="law.<locals>.<lambda>"
def Tb(H:Hp):Prop:=∀(P:aI)(ps:Array al),H P=aa (.tbl ps)->TriplesOk ps.toList/\∀(pos:iw)(cv:al),codeAmong pos ps.toList=aa cv->
 ∃(c:aI)(oc:fD)(vs:Array al)(t:pB),cv=.ref c/\H c=aa (.frz oc<|.own c)/\oc.data=.fields vs/\vs[1]?=aa (.str Zdp t)
theorem Tb.upd(h:Tb H)(hp:∀ob u,H p≠aa (.frz ob u))(ho:∀ps,o≠.tbl ps):Tb (upd H p o):=λP ps e=>by
 by_cases z:P=p
 .subst z;rw[ZK]at e;cases e;exact T7 rfl<|ho ps
 .rw[Zp z]at e
  obtain⟨a,b⟩:=h P ps e;refine#[a,λpos cv q=>?_]
  obtain⟨c,oc,vs,t,e1,e2,e3⟩:=b pos cv q;exact#[c,oc,vs,t,e1,by rw[Zp λz=>hp oc (.own c) (by rw[<-z];exact e2)];exact e2,e3]
structure St3(K:ao)(O:Mx)(S:Zq)(H:Hp):Prop where
 hk:O.K=K
 xd:∀a,O.X a->H a≠ae
 dw:∀a,O.n0=aa a->H a=aa (.lst [.int S.1,.bl S.2])/\Pv.okS S.1 S.2=am
 tb:Tb H
def Fut.lat(f:Fut O H ρ' H'):Lat O H ρ' H':=by
 obtain⟨rfl,f⟩:=f;exact#[rfl,rfl,λa o h x n _=>(f a o h).elim id λz=>z.elim (λz=>T7 (ρ'.xz a z.1) (let #[xs,e]:=z.2;x xs e))<|by rintro ⟨⟨ps,e⟩,_⟩;exact T7 e<|n ps,λ_ _ h=>h]
def Rep.mono(f:Fut O H ρ' H')(h:Rep O H d v):Rep ρ' H' d v:=h.lat f.lat
def Reps.mono(f:Fut O H ρ' H')(h:Reps O H d v):Reps ρ' H' d v:=h.lat f.lat
section
variable{O:Mx}{H:Hp}{v:V}
def Reps.nil:Reps O H [] []:=by rfl
def Reps.cons{d:D}{v:V}{ds:List D}{vs:List V}(r:Rep O H d v)(rs:Reps O H ds vs):Reps O H (d::ds) (v::vs):=by
 exact#[v,vs,rfl,r,rs]
theorem Reps.length:∀{ds:List D}{xs:List V},Reps O H ds xs->xs.length=ds.length
 |[],_,h=>by rw[h];rfl
 |d::ds,xs,h=>by
  obtain⟨v,vs,rfl,_,rs⟩:=h;rw[aS,aS,Reps.length rs]
theorem Reps.append:∀{ds es:List D}{xs ys:List V},Reps O H ds xs->Reps O H es ys->Reps O H (ds++es) (xs++ys)
 |[],_,_,_,h,r=>by rw[h];exact r
 |d::ds,_,_,_,h,r=>by
  obtain⟨v,vs,rfl,a,rs⟩:=h;exact Reps.cons a<|Reps.append rs r
theorem Reps.take:∀{ds:List D}{xs:List V}(k:Nat),Reps O H ds xs->Reps O H (ds.take k) (xs.take k)
 |_,_,0,_=>Reps.nil
 |[],_,k+1,h=>by rw[h];exact Reps.nil
 |d::ds,_,k+1,h=>by
  obtain⟨v,vs,rfl,a,rs⟩:=h;exact Reps.cons a<|Reps.take k rs
theorem Reps.drop:∀{ds:List D}{xs:List V}(k:Nat),Reps O H ds xs->Reps O H (ds.drop k) (xs.drop k)
 |_,_,0,h=>h
 |[],_,k+1,h=>by rw[h];exact Reps.nil
 |d::ds,_,k+1,h=>by
  obtain⟨v,vs,rfl,a,rs⟩:=h;exact Reps.drop k rs
theorem Reps.get:∀{ds:List D}{xs:List V}{i:Nat}{d:D},Reps O H ds xs->ds[i]?=aa d->∃v,xs[i]?=aa v/\Rep O H d v
 |[],_,_,_,_,e=>by simp at e
 |d::ds,_,0,_,h,e=>by
  obtain⟨v,vs,rfl,a,rs⟩:=h;simp at e;subst e;exact#[v,rfl,a]
 |d::ds,_,i+1,_,h,e=>by
  obtain⟨v,vs,rfl,a,rs⟩:=h;obtain⟨u,q,r⟩:=Reps.get rs (by simpa using e)
  exact#[u,by simpa using q,r]
theorem Reps.reverse:∀{ds:List D}{xs:List V},Reps O H ds xs->Reps O H ds.reverse xs.reverse
 |[],_,h=>by rw[h];exact Reps.nil
 |d::ds,_,h=>by
  obtain⟨v,vs,rfl,a,rs⟩:=h;rw[eE,eE];exact Reps.append (Reps.reverse rs)<|Reps.cons a Reps.nil
theorem Reps.rep(h:Reps O H ds xs):∀k:Nat,Reps O H (aB k ds).flatten (aB k xs).flatten
 |0=>Reps.nil
 |k+1=>by
  rw[bx,bx,cw,cw];exact Reps.append h<|Reps.rep h k
theorem Reps.ints:∀ns:List Int,Reps O H (ns.map Pv.V.int) (ns.map V.int)
 |[]=>Reps.nil
 |n::ns=>Reps.cons (by rfl)<|Reps.ints ns
def Rep.int'{i:Int}(h:Rep O H (.int i) v):v=.int i:=by exact h
def Rep.bl'{b:Bool}(h:Rep O H (.bl b) v):v=.bl b:=by exact h
def Rep.non'(h:Rep O H .non v):v=.non:=by exact h
def Rep.str'{x:bG}(h:Rep O H (.str x) v):v=.str x:=by exact h
def Rep.tup'{ds:List D}(h:Rep O H (.tup ds) v):∃a xs,v=.ref a/\H a=aa (.tup xs)/\Reps O H ds xs:=by exact h
def Rep.lst'{ds:List D}(h:Rep O H (.lst ds) v):∃a xs,v=.ref a/\H a=aa (.lst xs)/\¬O.X a/\Reps O H ds xs:=by exact h
def Rep.drw'(h:Rep O H .drw v):∃a,v=.ref a/\O.n0=aa a:=by exact h
def Rep.dct'(h:Rep O H (.dct o) v):∃a,v=.ref a/\Dct H a o:=by exact h
def Rep.scr'(h:Rep O H (.scr ns) v):∃a,v=.ref a/\Scr O.K H a ns:=by exact h
def Rep.dow'{ks:List (List Int)}(h:Rep O H (.dow ks) v):∃a vs,v=.ref a/\H a=aa (.dT vs)/\¬O.X a/\vs.map (·.1)=ks.map (·.map dJ):=by unfold Rep at h;exact h
def ZM(i:Int):Rep O H (.int i) (.int i):=by rfl
def ZZ(b:Bool):Rep O H (.bl b) (.bl b):=by rfl
def yN:Rep O H .non .non:=by rfl
def YX(h:H a=aa (.tup xs))(r:Reps O H ds xs):Rep O H (.tup ds) (.ref a):=by exact#[a,xs,rfl,h,r]
def XW(h:H a=aa (.lst xs))(x:¬O.X a)(r:Reps O H ds xs):Rep O H (.lst ds) (.ref a):=by exact#[a,xs,rfl,h,x,r]
def Rep.seq(h:Rep O H x v)(e:Pv.Yf x=aa ds):∃p xs,v=.ref p/\(SqL O.K H p xs\/SqT O.K H p xs)/\Reps O H ds xs:=by
 cases x with|tup es=>cases e;obtain⟨p,xs,rfl,h,r⟩:=h.tup';exact#[p,xs,rfl,.inr<|SqT.of h,r]|lst es=>cases e;obtain⟨p,xs,rfl,h,_,r⟩:=h.lst';exact#[p,xs,rfl,.inl<|SqL.of h,r]|scr ns=>cases e;obtain⟨p,e,q⟩:=h.scr';exact#[p,_,e,.inl q.sq,Reps.ints ns]|_=>cases e
end
structure LocR(O:Mx)(H:Hp)(l:Lc)(Z:L2.St):Prop where
 len:l.length=Z.length
 val:∀(i:Nat)(d:D),l[i]?=aa (aa d)->∃v,Z[i]?=aa (aa v)/\Rep O H d v
theorem LocR.mono(f:Fut O H ρ' H')(r:LocR O H l Z):LocR ρ' H' l Z:=
 #[r.len,λi d e=>let #[v,q,h]:=r.val i d e;#[v,q,h.mono f]]
theorem LocR.set(r:LocR O H l Z)(i:Nat)(h:Rep O H d v):LocR O H (l.set i<|aa d) (Z.set i<|aa v):=
 #[by rw[b4,b4];exact r.len,λj e q=>by
  rw[m5]at q ⊢;split at q
  .rename_i hij
   subst hij;split at q
   .rename_i hl
    cases q;rw[T9 rfl,T9 (by rw[<-r.len];exact hl)]
    exact#[v,rfl,h]
   .cases q
  .rename_i hij
   rw[T8 hij];exact r.val j e q]
def End{B β:Type}(K:ao)(xw:Nat->Hp->Prop)(rep:Mx->Hp->B->β->Prop)(O:Mx)(H:Hp)(Q:β->Hp->Prop):R B->Prop
 |.ok d S=>∀ρ' H' v,Fut O H ρ' H'->St3 K ρ' S H'->rep ρ' H' d v->Q v H'
 |.ex c S=>∀ρ' H',Fut O H ρ' H'->St3 K ρ' S H'->xw c H'
 |.no=>False
section
variable{K:ao}{xw:Nat->Hp->Prop}{O ρ':Mx}{H H':Hp}{B β α' β':Type}{rep:Mx->Hp->B->β->Prop}{rep':Mx->Hp->α'->β'->Prop}
def End.mono{Q:β->Hp->Prop}(f:Fut O H ρ' H')(h:End K xw rep O H Q r):End K xw rep ρ' H' Q r:=by
 cases r with|ok d S=>exact λρ2 H2 v g st r=>h ρ2 H2 v (f.trans g) st r|ex c S=>exact λρ2 H2 g st=>h ρ2 H2 (f.trans g) st|no=>exact h
theorem End.bind{Q:β'->Hp->Prop}{Q1:β->Hp->Prop}(h:End K xw rep' O H Q (r.bind f))
  (k:∀d S ρ1 H1 v,Fut O H ρ1 H1->St3 K ρ1 S H1->rep ρ1 H1 d v->End K xw rep' ρ1 H1 Q (f d S)->Q1 v H1):End K xw rep O H Q1 r:=by
 cases r with|ok d S=>exact λρ1 H1 v g st r=>k d S ρ1 H1 v g st r<|End.mono g h|ex c S=>exact h|no=>exact h
theorem End.ok{Q:β->Hp->Prop}(h:End K xw rep O H Q (.ok a S))(st:St3 K O S H)(r:rep O H a v):Q v H:=h O H v (Fut.refl O H) st r
def End.ob{Q:β'->Hp->Prop}(h:End K xw rep' O H Q ((Pv.po o S).bind f)):∃a,o=aa a/\End K xw rep' O H Q (f a S):=by
 cases o with|none=>exact h.elim|some a=>exact#[a,rfl,h]
theorem End.po{Q:β->Hp->Prop}(h:End K xw rep O H Q (Pv.po o S)):∃a,o=aa a/\End K xw rep O H Q (.ok a S):=by
 cases o with|none=>exact h.elim|some a=>exact#[a,rfl,h]
theorem End.map{Q:β->Hp->Prop}(h:End K xw rep O H Q (Pv.po (o.map f) S)):∃a,o=aa a/\End K xw rep O H Q (.ok (f a) S):=by
 cases o with|none=>exact h.elim|some a=>exact#[a,rfl,h]
def End.ite{c:Prop}[Decidable c]{Q:β->Hp->Prop}(h:End K xw rep O H Q (if c then a else b)):(c/\End K xw rep O H Q a)\/(¬c/\End K xw rep O H Q b):=by
 split at h
 .exact .inl #[‹_›,h]
 .exact .inr #[‹_›,h]
def End.guard{c:Prop}[Decidable c]{Q:β->Hp->Prop}(h:End K xw rep O H Q (if c then a else .no)):c/\End K xw rep O H Q a:=by
 rcases h.ite with h|⟨_,h⟩
 .exact h
 .exact h.elim
end
abbrev nx:Nat->Hp->Prop:=λ_ _=>False
theorem End.nox{B β:Type}{K:ao}{xw:Nat->Hp->Prop}{O:Mx}{H:Hp}{rep:Mx->Hp->B->β->Prop}{Q:β->Hp->Prop}{r:R B}(h:End K xw rep O H Q r.nox):End K nx rep O H Q r:=by
 cases r with|ok d S=>exact h|ex c S=>exact h.elim|no=>exact h
def Uc(_:Mx)(_:Hp)(a b:Bool):Prop:=a=b
def ZdK(_:Mx)(_:Hp)(a b:Option Int):Prop:=a=b
section
variable(X:Cx)(xw:Nat->Hp->Prop)
def tE(f:Lc->Zq->R D):TE:=λZ H Q=>∃O l S,St3 X.K O S H/\LocR O H l Z/\End X.K xw Rep O H Q (f l S)
def tA(f:Lc->Zq->R (List D)):TA:=λZ H Q=>∃O l S,St3 X.K O S H/\LocR O H l Z/\End X.K xw Reps O H Q (f l S)
def tB3(f:Lc->Zq->R Bool):TT:=λZ H Q=>∃O l S,St3 X.K O S H/\LocR O H l Z/\End X.K xw Uc O H Q (f l S)
def tO(f:Lc->Zq->R (Option Int)):TO:=λZ H Q=>∃O l S,St3 X.K O S H/\LocR O H l Z/\End X.K xw ZdK O H Q (f l S)
variable(C:Calls)
structure CE(e:Expr)(i:E):Prop where
 h:PE X e (tE X xw<|Pv.pv C i)
structure CT(e:Expr)(i:E):Prop where
 h:PT X e (tB3 X xw<|Pv.YW C i)
structure CA(es:List Expr)(is:List E):Prop where
 h:PA X es (tA X xw<|Pv.pvs C is)
structure CO(e:Option Expr)(i:Option E):Prop where
 h:PO X e (tO X xw<|Pv.pvo C i)
end
def PE.imp(h:PE X e t)(k:∀Z H Q,t' Z H Q->t Z H Q):PE X e t':=λpq s Z H Q I q=>h pq s Z H Q I<|k Z H Q q
def PT.imp(h:PT X e t)(k:∀Z H Q,t' Z H Q->t Z H Q):PT X e t':=λpq s Z H Q I q=>h pq s Z H Q I<|k Z H Q q
def PA.imp(h:PA X e t)(k:∀Z H Q,t' Z H Q->t Z H Q):PA X e t':=λpos pq s Z H Q I q=>h pos pq s Z H Q I<|k Z H Q q
def PO.imp(h:PO X e t)(k:∀Z H Q,t' Z H Q->t Z H Q):PO X e t':=λpq s Z H Q I q=>h pq s Z H Q I<|k Z H Q q
section
variable{K:ao}{O ρ':Mx}{S:Zq}{H H':Hp}{a p:aI}
def ZN(hp:H p=ae):Fut O H O (upd H p o):=#[rfl,λb u h=>.inl (by rw[Zp<|ZF h hp];exact h)]
def St3.fresh(st:St3 K O S H)(hp:H p=ae)(ho:∀ps,o≠.tbl ps:=by intro _ z;cases z):St3 K O S (upd H p o):=
 have n:∀b,H b≠ae->b≠p:=λb h z=>h (by rw[z];exact hp)
 #[st.hk,λb h=>by rw[Zp<|n b<|st.xd b h];exact st.xd b h,λb h=>by
  have:=st.dw b h;rw[Zp<|n b (by rw[this.1];intro z;cases z)];exact this,st.tb.upd (λob u z=>by rw[hp]at z;cases z) ho]
def St3.nx(st:St3 K O S H)(hp:H p=ae):¬O.X p:=λz=>st.xd p z hp
end
def Vd:Ev.lim=bp:=by rw[cI];rfl
section
variable{K:ao}{xw:Nat->Hp->Prop}{O:Mx}{H:Hp}{S:Zq}{Q:VK}
def End.newT(h:End K xw Rep O H Q (.ok (.tup ds) S))(st:St3 K O S H)(r:Reps O H ds xs):∀p,H p=ae->Q (.ref p) (upd H p<|.tup xs):=λp hp=>
 h O _ _ (ZN hp) (st.fresh hp) (YX ZK<|r.mono<|ZN hp)
def End.newL(h:End K xw Rep O H Q (.ok (.lst ds) S))(st:St3 K O S H)(r:Reps O H ds xs):∀p,H p=ae->Q (.ref p) (upd H p<|.lst xs):=λp hp=>
 h O _ _ (ZN hp) (st.fresh hp) (XW ZK (st.nx hp)<|r.mono<|ZN hp)
end
section
variable{X:Cx}{xw:Nat->Hp->Prop}{C:Calls}{e a b c:Expr}{i j k:E}{pos:iw}
def Zb3{n:Int}{q}:CE X xw C (.Constant (.int n) q pos) (.c<|.int n):=.mk <| PE.imp QV<|by rintro Z H Q ⟨O,l,S,st,lr,h⟩;exact End.ok h st<|ZM n
def Zdn{n:Bool}{q}:CE X xw C (.Constant (.bool n) q pos) (.c<|.bl n):=.mk <| PE.imp ZaF<|by rintro Z H Q ⟨O,l,S,st,lr,h⟩;exact End.ok h st<|ZZ n
def ZaY{q}:CE X xw C (.Constant .none q pos) (.c .non):=.mk <| PE.imp ZaS<|by rintro Z H Q ⟨O,l,S,st,lr,h⟩;exact End.ok h st yN
def Zdx(n:Nat){x:bG}(hN:X.N[n]?=aa x)(hv:Vis X.env.scope x)(hd:(x == ("__debug__" : bG))=ap)
  (hcd:(x == ("__classdict__" : bG))=ap):CE X xw C (.Name x pos) (.v n):=.mk <| PE.imp (wN hN hv hd hcd)<|by
 rintro Z H Q ⟨O,l,S,st,lr,h⟩;rw[Pv.pv]at h;cases q:l[n]? with
 |none=>rw[q]at h;exact h.elim
 |some o=>
  cases o with
  |none=>rw[q]at h;exact h.elim
  |some d=>
   rw[q]at h;obtain⟨v,q2,r⟩:=lr.val n d q;exact#[v,q2,End.ok h st r]
def ZaW:CA X xw C [] []:=.mk <| PA.imp QL<|by
 rintro Z H Q ⟨O,l,S,st,lr,h⟩;rw[Pv.pvs]at h;exact End.ok h st Reps.nil
def qR{es:List Expr}{is:List E}(ha:CE X xw C e i)(hr:CA X xw C es is)(hs:aL (e::es) X.env=(ap,c8 e X.env)::aL es X.env):CA X xw C (e::es) (i::is):=.mk <|
 PA.imp (YY ha.h hr.h hs)<|by
  rintro Z H Q ⟨O,l,S,st,lr,h⟩;rw[Pv.pvs]at h;exact#[O,l,S,st,lr,h.bind λx S1 ρ1 H1 v f1 st1 r1 h1=>#[ρ1,l,S1,st1,lr.mono f1,h1.bind λxs S2 ρ2 H2 vs f2 st2 r2 h2=>h2.ok st2<|Reps.cons (r1.mono f2) r2]]
def Zbx{es:List Expr}{is:List E}{q}(h:CA X xw C es is):CE X xw C (.Tuple es q pos) (.tup is):=.mk <| PE.imp (v3 h.h)<|by
 rintro Z H Q ⟨O,l,S,st,lr,h⟩;rw[Pv.pv]at h;refine#[O,l,S,st,lr,h.bind λxs S1 ρ1 H1 vs f1 st1 r1 h1=>?_]
 obtain⟨hl,h1⟩:=h1.guard;exact#[by rw[r1.length,<-Vd];exact hl,h1.newT st1 r1]
def Xn{r:R2}{g:D->D->Zq->R D}(hg:∀{O H S x y v u Q},St3 X.K O S H->Rep O H x v->Rep O H y u->End X.K xw Rep O H Q (g x y S)->r v u H Q) :
  ∀Z H Q,tE X xw (λl S=>(Pv.pv C i l S).bind λx S=>(Pv.pv C j l S).bind λy S=>g x y S) Z H Q->tOp r (tE X xw<|Pv.pv C i) (tE X xw<|Pv.pv C j) Z H Q:=λZ H Q #[O,l,S,st,lr,h]=>
 #[O,l,S,st,lr,h.bind λx S1 ρ1 H1 v f1 st1 r1 h1=>#[ρ1,l,S1,st1,lr.mono f1,h1.bind λy S2 ρ2 H2 u f2 st2 r2 h2=>hg st2 (r1.mono f2) r2 h2]]
end
def wo(K:ao):R2:=λx y H Q=>∃a b ys,x=.ref a/\y=.ref b/\SqT K H a []/\SqT K H b ys/\Q (.ref b) H
def vH:OpR X (eC .Add) (wo X.K):=by
 intro pq s Z H x y v u Q I rx ry h;obtain⟨a,b,ys,rfl,rfl,ha,hb,q⟩:=h;cases rx;cases ry;obtain⟨its,r1,p1,_⟩:=I.tuple ha;obtain⟨its2,r2,p2,_⟩:=I.tuple hb;have e0:=r1.nil_iff.mpr rfl;obtain⟨⟨cls,dd,data,sl⟩,ho,hc,n,hd⟩:=id p1;obtain⟨⟨cls2,dd2,data2,sl2⟩,ho2,hc2,n2,hd2⟩:=id p2;simp only at hc hd hc2 hd2;subst hc hd hc2 hd2;exact mW #[_,ho,rfl] #[_,ho2,rfl] kC mh gh f6 (fP _ _)
   (tuple_addW0 a b its.toArray its2.toArray n n2 dd dd2 sl sl2<|by rw[e0];rfl) #[ho,ho2,#[.ref b,H,I,rfl,q]]
def ZdT(K:ao):V->Option Int->Option Int->Hp->VK->Prop:=λx lo hi H Q=>∃a xs,x=.ref a/\SqT K H a xs/\
 (HT.sIx xs.length 0 lo=0/\HT.sIx xs.length xs.length hi=xs.length)/\Q (.ref a) H
def Xz{prog:bC}{w:bN}{A:cD}{E:al->aw->Prop}{s:aw}{t sl:aI}{items:Array al}{vl vu:al}{lo hi:Option Int}{Q:al->aw->Prop}(ht:o8 s.heap t items)(hs:s.heap.IsSliceOf sl vl vu .none)(pl:iB vl lo)(pu:iB vu hi)
  (hw:HT.sIx items.size 0 lo=0/\HT.sIx items.size items.size hi=items.size)(h:Q (.ref t) s):aW (aQ prog w) A (i4 (.ref t)<|.ref sl) Q E s:=by
 obtain⟨os,hos,hcs,hds⟩:=id hs;have hTs:s.TypeIs (.ref sl) "slice":=#[os,hos,hcs];unfold i4
 try with_reducible refine bR ?_
 first|refine ab<|au ?_|skip
 refine ab<|i5 ht.typeIs (by decide) ?_
 refine ab (cr ht.typeIs cg
  (cG cg ht.typeIs hZ ?_<|iF _ _))
 show aW _ _ (fz (.ref t) >>= _) _ _ s;refine ab<|mi ht ?_;refine ab<|ig hTs ?_;rw[T9 (by decide)]
 refine ab<|HT.YO hs pl pu ?_;have hyes:((((HT.sIx items.size 0 lo:Nat):Int) == 0&&(1:Int) == 1&&(HT.sIx items.size items.size hi-HT.sIx items.size 0 lo) == items.size)=am):=by
  rw[hw.1,hw.2];simp
 show aW _ _ (if(((HT.sIx items.size 0 lo:Nat):Int) == 0&&(1:Int) == 1&&(HT.sIx items.size items.size hi-HT.sIx items.size 0 lo) == items.size)=am then _ else _) _ _ s
 rw[T9 hyes];refine ab<|ab<|ig ht.typeIs<|au ?_;rw[T9 (by decide)]
 exact ab<|fb<|au #[_,rfl,au h]
def vc:SlR X (ZdT X.K):=by
 intro pq s Z H x v vl vu lo hi sl Q I rx hs pl pu h;obtain⟨a,xs,rfl,hx,hw,q⟩:=h;cases rx;obtain⟨its,r,ht,hz⟩:=I.tuple hx;have hlen:its.toArray.size=xs.length:=by rw[ax];exact r.length.symm
 refine#["tuple",_,cg.lookup,ht.typeIs,?_];exact Xz ht hs pl pu (by rw[hlen];exact hw) #[.ref a,H,I,rfl,q]
def yv(h:Ev.fits i=am):l7 i<=2^20:=by
 have h1:=T6 h;unfold l7;split
 .exact dB _
 .rename_i hz
  have hne:i.natAbs≠0:=by intro z;exact hz (by simp[Int.natAbs_eq_zero.mp z])
  have:=(Nat.log2_lt hne).mpr h1;have e:(2:Nat)^20=1048576:=by decide
  omega
def v4:OpR X (eC .FloorDiv) (rI (λ_ j=>0<j/\j<Ev.big) λi j=>.int<|i / j):=opI λi j _ _ _ _ _ hc q=>by
 have h1:=hc.1;have h2:=hc.2;have hne:j.natAbs≠0:=by omega
 have h3:j.natAbs<2^8000:=by
  have e:(j.natAbs:Int)=j:=Int.natAbs_of_nonneg (by omega)
  have h4:(j.natAbs:Int)<((2^8000:Nat):Int):=by rw[e,Int.natCast_pow];exact h2
  exact Int.ofNat_lt.mp h4
 have h5:=(Nat.log2_lt hne).mpr h3;exact floordiv_int (by omega) (by rw[Int.fdiv_eq_ediv_of_nonneg i (by omega)];exact q)<|.inl<|PyProof.noPylong_of_log2 (by omega)
def ji:OpR X (eC .Mult) (rI (λi j=>Ev.fits i=am/\Ev.fits j=am) λi j=>.int<|i*j):=opI λ_ _ _ _ _ _ _ hc q=>mul_int q<|IntMulOk.of_bits (yv hc.1)<|yv hc.2
def ZaR:OpR X (b0 .Is) (λx y H Q=>∃a b,x=.bl a/\y=.bl b/\Q (.bl<|ai<|a=b) H):=by
 intro pq s Z H x y v u Q I rx ry h;obtain⟨a,b,rfl,rfl,q⟩:=h;cases rx;cases ry;cases a<;>cases b<;>exact au #[.bl _,H,I,rfl,q]
def je:OpR X (b0 .IsNot) (λx y H Q=>∃a b,x=.bl a/\y=.bl b/\Q (.bl<|ai<|a≠b) H):=by
 intro pq s Z H x y v u Q I rx ry h;obtain⟨a,b,rfl,rfl,q⟩:=h;cases rx;cases ry;cases a<;>cases b<;>exact au #[.bl _,H,I,rfl,q]
def Ub:fillsNumberSlot (.type "tuple") "mul" = c7 ap:=
 PySem.fillsNumberSlot_seq kE.lookup (by decide +kernel) F.slot_tuple_rmul.lookup (by decide +kernel)
def Qp:seqRepeat? (.type "tuple")=c7 (aa<|.builtin "tuple.__mul__"):=by
 unfold seqRepeat?
 rw[nI (name:="__mul__") kE.lookup (by decide +kernel),nI (name:="__rmul__") F.slot_tuple_rmul.lookup (by decide +kernel)]
 rfl
def Vl(a:Int)(t:pB)(l:aI)(items:Array al)(n:Nat)(dd:Option aI)(sl:Array (Option al)) :
  oI (dE.«int.__rmul__» #[[.int a t,.ref l],[]]) (λ_ R s=>s.heap.get? l=aa {cls:=.type "tuple",dict:=dd,data:=.seq items n,slots:=sl}/\R (.ok<|.ret al.notImplemented) s):=
 .of_wp λprog w A R s h=>by obtain⟨hp,g,d,tk,os⟩:=s;obtain⟨hl,h⟩:=h;wp_walk;exact#[_,rfl,h]
def QH(l:aI)(items:Array al)(n:Nat)(dd:Option aI)(sl:Array (Option al))(x:Int)(u:pB)(h0:¬(x < -(2^63)||x>=2^63)=am)(hc:(items.isEmpty||x == 1)=am) :
  oI (dE.«tuple.__mul__» #[[.ref l,.int x u],[]]) (λ_ R s=>s.heap.get? l=aa {cls:=.type "tuple",dict:=dd,data:=.seq items n,slots:=sl}/\R (.ok<|.ret<|bT l) {s with heap:=s.heap,toks:=s.toks}):=
 .of_wp λprog w A R s h=>by obtain⟨hp,g,d,tk,os⟩:=s;obtain⟨hl,h⟩:=h;have f1:=kD;have f2:=dF;wp_walk;rw[T8 h0];wp_walk using dC hl;exact#[_,rfl,h]
def QW(l:aI)(items:Array al)(n:Nat)(dd:Option aI)(sl:Array (Option al))(x:Int)(u:pB)(h0:¬(x < -(2^63)||x>=2^63)=am)(hc:¬(items.isEmpty||x == 1)=am)(h1:(x<=0||items.isEmpty)=am) :
  oI (dE.«tuple.__mul__» #[[.ref l,.int x u],[]]) (λ_ R s=>s.heap.get? l=aa {cls:=.type "tuple",dict:=dd,data:=.seq items n,slots:=sl}/\R (.ok<|.ret<|bT s.heap.objs.size) {s with heap:=s.heap.push {cls:=.type "tuple",data:=.seq #[]},toks:=s.toks}):=
 .of_wp λprog w A R s h=>by obtain⟨hp,g,d,tk,os⟩:=s;obtain⟨hl,h⟩:=h;have f1:=kD;have f2:=dF;wp_walk;rw[T8 h0];wp_walk using dC hl;exact#[_,rfl,h]
def JA(l:aI)(items:Array al)(n:Nat)(dd:Option aI)(sl:Array (Option al))(x:Int)(u:pB)(h0:¬(x < -(2^63)||x>=2^63)=am)(hc:¬(items.isEmpty||x == 1)=am)(h1:¬(x<=0||items.isEmpty)=am)
  (h2:¬(items.size*x>(2^63-1) / 8))(h3:¬iG (items.size*x)=am)(hsz:((aB x.toNat items).foldl (·++·) #[]).size<=bp) :
  oI (dE.«tuple.__mul__» #[[.ref l,.int x u],[]]) (λ_ R s=>s.heap.get? l=aa {cls:=.type "tuple",dict:=dd,data:=.seq items n,slots:=sl}/\R (.ok<|.ret<|bT s.heap.objs.size) {s with heap:=s.heap.push {cls:=.type "tuple",data:=.seq ((aB x.toNat items).foldl (·++·) #[])},toks:=s.toks}):=
 .of_wp λprog w A R s h=>by obtain⟨hp,g,d,tk,os⟩:=s;obtain⟨hl,h⟩:=h;have f1:=kD;have f2:=dF;wp_walk;rw[T8 h0];wp_walk using dC hl;rw[T8 h2];wp_walk using dC hl;exact#[_,rfl,h]
def ZaB(K:ao):R2:=λx y H Q=>∃a k xs,x=.ref a/\y=.int k/\SqT K H a xs/\(0<=k/\k<1000/\xs.length<=1000)/\
 ((xs=[]\/k=1)->Q (.ref a) H)/\(¬(xs=[]\/k=1)->∀p,H p=ae->Q (.ref p) (upd H p<|.tup (aB k.toNat xs).flatten))
def Zaf :OpR X (eC .Mult) (ZaB X.K):=by
 intro pq s Z H x y v u Q I rx ry h;obtain⟨a,k,xs,rfl,rfl,hx,⟨k0,k1,hz⟩,q1,q2⟩:=h;cases rx;obtain⟨t,rfl⟩:=ry;obtain⟨its,r,pt,_⟩:=I.tuple hx;have hl:=r.length;obtain⟨⟨cls,dd,data,sl⟩,ho,hc,n,hd⟩:=id pt;simp only at hc hd;subst hc hd;have h0:¬(ai (k < -(2^63))||decide (k>=2^63))=am:=by
  rw[T4 (by lia),T4 (by lia)];exact aG
 refine iU (by decide) #[_,ho,rfl] (λs'=>mM s' k t) Ub n8 gZ Qp F.slot_int_index.lookup
  (gH gZ (mM s k t) nJ (m7 _ _) (Vl k t a its.toArray n dd sl) #[ho,rfl,#[_,ho,rfl],?_])
 have hnil:=r.nil_iff;by_cases c:xs=[]\/k=1
 .have c':(its.toArray.isEmpty||k == 1)=am:=by
   rcases c with c|c
   .rw[hnil.mpr c];rfl
   .rw[c];simp
  exact gH kE #[_,ho,rfl] i6 (iH _ _) (QH a its.toArray n dd sl k t h0 c') #[ho,#[.ref a,H,I,rfl,q1 c]]
 .have ne:=λz=>c (.inl<|hnil.mp z)
  have k1:k≠1:=λz=>c<|.inr z
  have c':¬(its.toArray.isEmpty||k == 1)=am:=by
   rw[beq_eq_false_iff_ne.mpr k1,Bool.or_false,gR];cases its with|nil=>exact T7 rfl ne|cons _ _=>exact aG
  have fin:∀arr:List al,arr=(aB k.toNat its).flatten->EP X pq Z Q (bT s.heap.objs.size) {s with heap:=s.heap.push {cls:=.type "tuple",data:=.seq arr.toArray}}:=λarr e=>by
   subst e;refine#[.ref s.heap.objs.size,_,I.laid (t':=s.toks) (λb ob q=>aq _ q) (aH _) ?_,rfl,q2 c _<|I.hok.fresh<|aH _]
   refine#[?_,_,r.rep k.toNat,iq _ _];rw[Qf,cI];have:k.toNat*xs.length<=1000*1000:=lK (by lia) hz
   lia
  by_cases z:k=0
  .have h1:(ai (k<=0)||its.toArray.isEmpty)=am:=by rw[z];rfl
   refine gH kE #[_,ho,rfl] i6 (iH _ _) (QW a its.toArray n dd sl k t h0 c' h1) #[ho,?_];exact fin [] (by rw[z];rfl)
  .have h1:¬(ai (k<=0)||its.toArray.isEmpty)=am:=by
    rw[T4 (by lia),kj,gR]
    cases its with|nil=>exact T7 rfl ne|cons _ _=>exact aG
   have hm:(its.toArray.size:Int)*k<=1000*1000:=by
    rw[ax,<-hl];exact Int.mul_le_mul (by lia) (by lia) k0 (by lia)
   have joined:(aB k.toNat its.toArray).foldl (·++·) #[]=(aB k.toNat its).flatten.toArray:=by
    have:=Wh its k.toNat [];rw[g9]at this;exact this
   have hsz:((aB k.toNat its.toArray).foldl (·++·) #[]).size<=bp:=by
    rw[joined,ax,Qf,cI,<-hl];have:k.toNat*xs.length<=1000*1000:=lK (by lia) hz
    lia
   refine gH kE #[_,ho,rfl] i6 (iH _ _) (JA a its.toArray n dd sl k t h0 c' h1 (by lia) (by
    unfold iG;rw[T4 (by rw[cI];lia)]
    exact aG) hsz) #[ho,?_]
   rw[joined];exact fin _ rfl
def Zaj:R2:=λx y H Q=>∃a k xs,x=.ref a/\y=.int k/\H a=aa (.lst xs)/\(0<=k/\k<1000/\xs.length<=1000)/\∀p,H p=ae->Q (.ref p) (upd H p<|.lst (aB k.toNat xs).flatten)
def jB :OpR X (eC .Mult) Zaj:=by
 intro pq s Z H x y v u Q I rx ry h;obtain⟨a,k,xs,rfl,rfl,hx,⟨k0,k1,hz⟩,q2⟩:=h;cases rx;obtain⟨t,rfl⟩:=ry;obtain⟨its,r,pl,_⟩:=I.list<|SqL.of hx;have hl:=r.length;obtain⟨⟨cls,dd,data,sl⟩,n,ho,hc,hd2,hd⟩:=id pl;simp only at hc hd hd2;subst hc hd;have hm:k.toNat*its.length<=1000*1000:=lK (by lia) (by lia)
 have hm2:its.length*k.toNat<=1000*1000:=by rw[fH];exact hm
 refine iU (by decide) #[_,ho,rfl] (λs'=>mM s' k t) noFill_list_mul n8 gZ repeat_list F.slot_int_index.lookup
  (gH gZ (mM s k t) nJ (m7 _ _) (lm_int_rmul_list_any k t a its.toArray n dd sl) #[ho,rfl,#[_,ho,rfl],
   gH F.slot_list_mul #[_,ho,rfl] F.entry_list_mul (F.args_list_mul_2 _ _) (lm_list_mul_any a its.toArray n dd sl k t (by simp[dE.List.listFitsIndex];lia) (by rw[ax];lia)<|by rw[ax];simp[ki,bp];lia) #[ho,?_]])
 have joined:(aB (if its.toArray.isEmpty=am then 0 else k.toNat) its.toArray).foldl (λx1 x2=>x1++x2) #[]=(aB k.toNat its).flatten.toArray:=by
  have h0:=Wh its k.toNat [];rw[g9]at h0;by_cases z:its=[]
  .subst z
   have e:∀m:Nat,(aB m ([]:List al)).flatten=[]:=λm=>by induction m with|zero=>rfl|succ m ih=>rw[bx,cw,ih];rfl
   rw[e];rfl
  .rw[T8 (by rw[gR];cases its with|nil=>exact T7 rfl z|cons _ _=>exact aG)]
   exact h0
 rw[joined];refine#[.ref s.heap.objs.size,_,I.laid (t':=s.toks) (λb ob q=>aq _ q) (aH _) ?_,rfl,q2 _<|I.hok.fresh<|aH _]
 refine#[?_,_,0,r.rep k.toNat,aJ _ rfl];rw[Qf,cI];rw[hl];lia
section
variable{X:Cx}{xw:Nat->Hp->Prop}{C:Calls}{e a b c:Expr}{i j k:E}{pos:iw}
variable{O:Mx}{H:Hp}{S:Zq}{x y:D}{v u:V}{Q:VK}{K:ao}
def ZaA(K:ao):R2:=λx y H Q=>rI0 (λi j=>.int<|i+j) x y H Q\/(Zay K x y H Q\/(wo K x y H Q\/Zct x y H Q))
def j5:OpR X (eC .Add) (ZaA X.K):=Zb2.or<|qY.or<|vH.or Zbl
def ZbQ(st:St3 K O S H)(rx:Rep O H x v)(ry:Rep O H y u)(h:End K xw Rep O H Q (Pv.YJ .add x y S)):ZaA K v u H Q:=by
 cases x with
 |int i=>cases y with|int j=>exact .inl #[i,j,rx.int',ry.int',End.ok h st<|ZM _]|_=>exact False.elim h
 |tup ds=>cases y with
  |tup es=>
   obtain⟨hl,h⟩:=End.guard h;obtain⟨p,xs,rfl,hp,r1⟩:=rx.tup';obtain⟨q,ys,rfl,hq,r2⟩:=ry.tup';have l1:=r1.length;have l2:=r2.length;by_cases z:xs=[]
   .subst z
    have e1:=eT.mp l1.symm;subst e1;exact .inr<|.inr<|.inl #[p,q,ys,rfl,rfl,SqT.of hp,SqT.of hq,End.ok h st<|YX hq r2]
   .refine .inr (.inl #[p,q,xs,ys,rfl,rfl,SqT.of hp,SqT.of hq,z,by rw[l1,l2,<-Vd];exact hl,λz2=>?_,λ_=>h.newT st<|r1.append r2])
    subst z2;have e2:=eT.mp l2.symm;subst e2;refine End.ok h st ?_;rw[cE];exact YX hp r1
  |_=>exact False.elim h
 |lst ds=>cases y with
  |lst es=>
   obtain⟨hl,h⟩:=End.guard h;obtain⟨p,xs,rfl,hp,_,r1⟩:=rx.lst';obtain⟨q,ys,rfl,hq,_,r2⟩:=ry.lst';exact .inr<|.inr<|.inr #[p,q,xs,ys,rfl,rfl,hp,hq,by rw[r1.length,r2.length,<-Vd];exact hl,h.newL st<|r1.append r2]
  |_=>exact False.elim h
 |_=>cases y<;>exact False.elim h
def Zce(st:St3 K O S H)(rx:Rep O H x v)(ry:Rep O H y u)(h:End K xw Rep O H Q (Pv.YJ .sub x y S)):rI0 (λi j=>.int<|i-j) v u H Q:=by
 cases x with
 |int i=>cases y with|int j=>exact#[i,j,rx.int',ry.int',End.ok h st<|ZM _]|_=>exact False.elim h
 |_=>cases y<;>exact False.elim h
def Zao(K:ao):R2:=λx y H Q=>rI (λi j=>Ev.fits i=am/\Ev.fits j=am) (λi j=>.int<|i*j) x y H Q\/(ZaB K x y H Q\/Zaj x y H Q)
def qQ:OpR X (eC .Mult) (Zao X.K):=ji.or<|Zaf.or jB
def Zbe(st:St3 K O S H)(rx:Rep O H x v)(ry:Rep O H y u)(h:End K xw Rep O H Q (Pv.YJ .mul x y S)):Zao K v u H Q:=by
 cases x with
 |int i=>cases y with
  |int j=>
   obtain⟨hc,h⟩:=End.guard h;exact .inl #[i,j,rx.int',ry.int',(aC _ _).mp hc,End.ok h st<|ZM _]
  |_=>exact False.elim h
 |tup ds=>cases y with
  |int k=>
   obtain⟨⟨h0,h1,h2⟩,h⟩:=End.guard h;obtain⟨p,xs,rfl,hp,r1⟩:=rx.tup';have l1:=r1.length;refine .inr <| .inl #[p,k,xs,rfl,ry.int',SqT.of hp,#[h0,h1,by rw[l1];exact h2],λz=>?_,λ_=>h.newT st<|r1.rep k.toNat]
   refine End.ok h st<|YX hp ?_;rcases z with z|z
   .subst z
    have e1:=eT.mp l1.symm;subst e1;have:∀m:Nat,(aB m ([]:List D)).flatten=[]:=λm=>by induction m with|zero=>rfl|succ m ih=>rw[bx,cw,ih];rfl
    rw[this];exact Reps.nil
   .subst z
    show Reps O H (aB 1 ds).flatten xs;rw[bx,List.replicate_zero,cw,List.flatten_nil,cE];exact r1
  |_=>exact False.elim h
 |lst ds=>cases y with
  |int k=>
   obtain⟨⟨h0,h1,h2⟩,h⟩:=End.guard h;obtain⟨p,xs,rfl,hp,_,r1⟩:=rx.lst';exact .inr<|.inr #[p,k,xs,rfl,ry.int',hp,#[h0,h1,by rw[r1.length];exact h2],h.newL st<|r1.rep k.toNat]
  |_=>exact False.elim h
 |_=>cases y<;>exact False.elim h
def qO(st:St3 K O S H)(rx:Rep O H x v)(ry:Rep O H y u)(h:End K xw Rep O H Q (Pv.YJ .fdiv x y S)):rI (λ_ j=>0<j/\j<Ev.big) (λi j=>.int<|i / j) v u H Q:=by
 cases x with
 |int i=>cases y with
  |int j=>
   obtain⟨hc,h⟩:=End.guard h;exact#[i,j,rx.int',ry.int',hc,End.ok h st<|ZM _]
  |_=>exact False.elim h
 |_=>cases y<;>exact False.elim h
def Zbq(st:St3 K O S H)(rx:Rep O H x v)(ry:Rep O H y u)(h:End K xw Rep O H Q (Pv.YJ .mod x y S)):rI (λ_ j=>0<j) (λi j=>.int<|i%j) v u H Q:=by
 cases x with
 |int i=>cases y with
  |int j=>
   obtain⟨hc,h⟩:=End.guard h;exact#[i,j,rx.int',ry.int',hc,End.ok h st<|ZM _]
  |_=>exact False.elim h
 |_=>cases y<;>exact False.elim h
theorem ZbT(st:St3 K O S H)(rx:Rep O H x v)(ry:Rep O H y u)(h:End K xw Rep O H Q (Pv.YJ .pow x y S)):rI CPow (λi j=>.int<|i^j.toNat) v u H Q:=by
 cases x with
 |int i=>cases y with
  |int j=>
   obtain⟨hc,h⟩:=End.guard h;exact#[i,j,rx.int',ry.int',#[hc.1,by lia,hc.2.2],End.ok h st<|ZM _]
  |_=>exact False.elim h
 |_=>cases y<;>exact False.elim h
def Zco(ha:CE X xw C a i)(hb:CE X xw C b j):CE X xw C (.BinOp a .Add b pos) (.bin .add i j):=.mk <| PE.imp (Ul j5 ha.h hb.h) (Xn λst rx ry h=>ZbQ st rx ry h)
def Za0(ha:CE X xw C a i)(hb:CE X xw C b j):CE X xw C (.BinOp a .Sub b pos) (.bin .sub i j):=.mk <| PE.imp (Ul Zbd ha.h hb.h) (Xn λst rx ry h=>Zce st rx ry h)
def Zbi(ha:CE X xw C a i)(hb:CE X xw C b j):CE X xw C (.BinOp a .Mult b pos) (.bin .mul i j):=.mk <| PE.imp (Ul qQ ha.h hb.h) (Xn λst rx ry h=>Zbe st rx ry h)
def jC(ha:CE X xw C a i)(hb:CE X xw C b j):CE X xw C (.BinOp a .FloorDiv b pos) (.bin .fdiv i j):=.mk <| PE.imp (Ul v4 ha.h hb.h) (Xn λst rx ry h=>qO st rx ry h)
def Za3(ha:CE X xw C a i)(hb:CE X xw C b j):CE X xw C (.BinOp a .Mod b pos) (.bin .mod i j):=.mk <| PE.imp (Ul Zcd ha.h hb.h) (Xn λst rx ry h=>Zbq st rx ry h)
def Zbs(ha:CE X xw C a i)(hb:CE X xw C b j):CE X xw C (.BinOp a .Pow b pos) (.bin .pow i j):=.mk <| PE.imp (Ul ZbZ ha.h hb.h) (Xn λst rx ry h=>ZbT st rx ry h)
def Za9(ha:CE X xw C a i):CE X xw C (.UnaryOp .USub a pos) (.neg i):=.mk <| PE.imp (Zcq Zbw ha.h)<|by
 rintro Z H Q ⟨O,l,S,st,lr,h⟩;refine#[O,l,S,st,lr,End.bind (h) λx S1 ρ1 H1 v f1 st1 r1 h1=>?_]
 cases x with|int n=>exact#[n,r1.int',End.ok h1 st1<|ZM _]|_=>exact False.elim h1
def JH(st:St3 K O S H)(rx:Rep O H x v)(h:Pv.Zu x=aa n):jQ K v H n:=by
 cases x with
 |non=>rw[rx.non'];exact(ag h).symm
 |bl b=>rw[rx.bl'];exact(ag h).symm
 |int i=>
  rw[rx.int'];have h':=ag h;rw[<-h'];by_cases z:i=0
  .subst z;rfl
  .rw[T5 z];exact(bne_iff_ne.mpr z).symm
 |tup ds=>
  obtain⟨p,xs,rfl,hp,r⟩:=rx.tup';have h':=ag h;refine .inr<|.inl #[xs,SqT.of hp,?_];rw[<-h'];have:=r.length;cases ds<;>cases xs<;>first|rfl|(simp at this)
 |lst ds=>
  obtain⟨p,xs,rfl,hp,_,r⟩:=rx.lst';refine .inl #[xs,SqL.of hp,?_];rw[<-ag h];have:=r.length;cases ds<;>cases xs<;>first|rfl|(simp at this)
 |_=>cases h
def Zbo(ha:CE X xw C a i)(he:∀whole,isTrue a X.env whole=(do let v <-whole;kP a.pos;gO [v] (truthy v))):CT X xw C a i:=.mk <|
 PT.imp (wX ha.h he)<|by
  rintro Z H Q ⟨O,l,S,st,lr,h⟩;refine#[O,l,S,st,lr,End.bind (show End X.K xw Uc O H Q ((Pv.pv C i l S).bind λx S=>Pv.po (Pv.Zu x) S)from h) λx S1 ρ1 H1 v f1 st1 r1 h1=>?_]
  cases q:Pv.Zu x with|none=>rw[q]at h1;exact False.elim h1|some n=>rw[q]at h1;exact#[n,JH st1 r1 q,End.ok h1 st1 rfl]
def ZbE(ha:CT X xw C a i):CT X xw C (.UnaryOp .Not a pos) (.not i):=.mk <| PT.imp (ZbW ha.h)<|by
 rintro Z H Q ⟨O,l,S,st,lr,h⟩;refine#[O,l,S,st,lr,?_];have h':End X.K xw Uc O H Q (((Pv.pv C i l S).bind λx S=>(Pv.po (Pv.Zu x) S).bind λb S=>.ok (.bl !b) S).bind λx S=>Pv.po (Pv.Zu x) S):=h
 show End X.K xw Uc O H (λc H1=>Q (!c) H1) ((Pv.pv C i l S).bind λx S=>Pv.po (Pv.Zu x) S)
 cases q:Pv.pv C i l S with
 |no=>rw[q]at h';exact h'
 |ex c S1=>rw[q]at h';exact h'
 |ok x S1=>
  rw[q]at h';show End X.K xw Uc O H _ (Pv.po (Pv.Zu x) S1);have h2:End X.K xw Uc O H Q (((Pv.po (Pv.Zu x) S1).bind λb S=>.ok (.bl !b) S).bind λx S=>Pv.po (Pv.Zu x) S):=h'
  cases t:Pv.Zu x with
  |none=>rw[t]at h2;exact h2
  |some n=>
   rw[t]at h2;intro ρ1 H1 w f1 st1 e;exact h2 ρ1 H1 (!w) f1 st1 (by rw[<-(e)];rfl)
def Zbv(ha:CE X xw C a i):CE X xw C (.UnaryOp .Not a pos) (.not i):=.mk <| by
 intro pq s Z H Q I hq;obtain⟨O,l,S,st,lr,h⟩:=hq;have h':=h
 refine UnaryOp_<|thn (ha.h pq s Z H (λv H1=>∃k,jQ X.K v H1 k/\Q (.bl !k) H1) I #[O,l,S,st,lr,End.bind h' λx S1 ρ1 H1 v f1 st1 r1 h1=>?_]) λv s1 #[x,H1,I1,r1,q1]=>?_
 .cases q:Pv.Zu x with|none=>rw[q]at h1;exact False.elim h1|some n=>rw[q]at h1;exact#[n,JH st1 r1 q,End.ok h1 st1<|ZZ _]
 .obtain⟨k,tk,q2⟩:=q1
  refine not_of<|thn (uV pq s1 Z H1 x v (λk' H'=>Q (.bl !k') H') I1 r1 #[k,tk,q2]) λk' s2 #[H2,I2,q3]=>?_
  exact#[.bl<|!k',H2,I2,rfl,q3]
def ZaV{rest:List Expr}(ha:CE X xw C a i)(hb:CE X xw C (.BoolOp .And (b::rest) pos) j):CE X xw C (.BoolOp .And (a::b::rest) pos) (.and i j):=.mk <| PE.imp (Zcg ha.h hb.h)<|by
 rintro Z H Q ⟨O,l,S,st,lr,h⟩;refine#[O,l,S,st,lr,End.bind (h) λx S1 ρ1 H1 v f1 st1 r1 h1=>?_]
 cases x with
 |bl c=>
  refine#[c,r1.bl',?_];cases c with|true=>exact#[ρ1,l,S1,st1,lr.mono f1,h1]|false=>exact End.ok h1 st1<|ZZ _
 |_=>exact False.elim h1
def ZbR{op}(ha:CE X xw C a i):CE X xw C (.BoolOp op [a] pos) i:=.mk <| ZaZ ha.h
structure CWh(X:Cx)(xw:Nat->Hp->Prop)(C:Calls)(e:Expr)(i:E):Prop where
 h:PW X e (tB3 X xw<|Pv.YW C i)
def CWh.ct(h:CWh X xw C e i):CT X xw C e i:=.mk <| PW.pt h.h
def PW.imp(h:PW X e t)(k:∀Z H Q,t' Z H Q->t Z H Q):PW X e t':=λwh pq s Z H Q I q=>h wh pq s Z H Q I<|k Z H Q q
def Zbz(ha:CT X xw C a i):CWh X xw C (.BoolOp .Or [a] pos) i:=.mk <| ZbP ha.h
def Zau{rest:List Expr}(ha:CT X xw C a i)(hb:CWh X xw C (.BoolOp .Or (b::rest) pos) j):CWh X xw C (.BoolOp .Or (a::b::rest) pos) (.or i j):=.mk <| PW.imp (ZcT ha.h hb.h)<|by
 rintro Z H Q ⟨O,l,S,st,lr,h⟩;have h':End X.K xw Uc O H Q (((Pv.pv C i l S).bind λx S=>match x with|.bl c=>if c then .ok (.bl am) S else Pv.pv C j l S|_=>.no).bind λx S=>Pv.po (Pv.Zu x) S):=h
 refine#[O,l,S,st,lr,?_];show End X.K xw Uc O H _ ((Pv.pv C i l S).bind λx S=>Pv.po (Pv.Zu x) S)
 cases q:Pv.pv C i l S with
 |no=>rw[q]at h';exact h'
 |ex c S1=>rw[q]at h';exact h'
 |ok x S1=>
  rw[q]at h';cases x with
  |bl n=>
   intro ρ1 H1 w f1 st1 e;have e':n=w:=e;subst e';cases n with|false=>exact#[ρ1,l,S1,st1,lr.mono f1,End.mono f1 (h')]|true=>exact(h') ρ1 H1 am f1 st1 rfl
  |_=>exact False.elim h'
end
theorem Vr{f:D->D->Option Bool}(hf:∀x y v b,Rep O H x v->Rep O H y v->f x y=aa b->b=am):∀{ds es:List D}{xs:List V}{b:Bool},Reps O H ds xs->Reps O H es xs->Pv.Ya f ds es=aa b->b=am
 |[],[],_,b,_,_,h=>(ag h).symm
 |d::ds,e::es,_,b,r1,r2,h=>by
  obtain⟨v,vs,rfl,a1,b1⟩:=r1;obtain⟨v',vs',e',a2,b2⟩:=r2;cases e';unfold Pv.Ya at h;cases q1:f d e with
  |none=>rw[q1]at h;cases h
  |some p=>
   cases q2:Pv.Ya f ds es with
   |none=>rw[q1,q2]at h;cases h
   |some q=>
    rw[q1,q2]at h;have h':=ag h;rw[<-h',hf d e v p a1 a2 q1,Vr hf b1 b2 q2];rfl
 |[],_::_,_,b,r1,r2,h=>by
  have l1:=r1.length;have l2:=r2.length;rw[l1]at l2;simp at l2
 |_::_,[],_,b,r1,r2,h=>by
  have l1:=r1.length;have l2:=r2.length;rw[l1]at l2;simp at l2
def Rep.sc{x y:D}{v:V}(r1:Rep O H x v)(r2:Rep O H y v)(h:∀a,v≠.ref a):x=y:=by
 cases x<;>cases y<;>unfold Rep at r1 r2<;>subst_vars<;>first
  |rfl
  |(cases r2;rfl)
  |(cases r1;rfl)
  |(obtain⟨a,z,_⟩:=r1;exact T7 z<|h a)
  |(obtain⟨a,z,_⟩:=r2;exact T7 z<|h a)
  |(obtain⟨a,_,z,_⟩:=r1;exact T7 z<|h a)
  |(obtain⟨a,_,z,_⟩:=r2;exact T7 z<|h a)
  |cases r1
  |cases r2
def wl{k:Nat}{x:D}{v:V}{b:Bool}(r:Rep O H x v)(hv:∀a,v≠.ref a)(h:Pv.eqV (k+1) x x=aa b):b=am:=by
 cases x<;>first
  |exact(ag h).symm
  |(rw[<-ag h];exact T5 rfl)
  |exact Ev.nos h
  |(obtain⟨a,_,z,_⟩:=r.tup';exact T7 z<|hv a)
  |(obtain⟨a,_,z,_⟩:=r.lst';exact T7 z<|hv a)
theorem Rep.ref{x:D}{p:aI}(r:Rep O H x (.ref p)){y:D}{k:Nat}{b:Bool}(h:Pv.eqV (k+1) x y=aa b\/Pv.eqV (k+1) y x=aa b):(∃ds es,x=.tup ds/\y=.tup es)\/∃ds es,x=.lst ds/\y=.lst es:=by
 cases x with
 |tup ds=>cases y<;>first|exact .inl #[_,_,rfl,rfl]|(rcases h with h|h<;>exact Ev.nos h)
 |lst ds=>cases y<;>first|exact .inr #[_,_,rfl,rfl]|(rcases h with h|h<;>exact Ev.nos h)
 |non=>cases r.non'
 |bl _=>cases r.bl'
 |int _=>cases r.int'
 |str _=>cases r.str'
 |_=>cases y<;>rcases h with h|h<;>exact Ev.nos h
theorem Wd:∀(k:Nat)(x y:D)(v:V)(b:Bool),Rep O H x v->Rep O H y v->Pv.eqV k x y=aa b->b=am
 |0,_,_,_,_,_,_,h=>by cases h
 |k+1,x,y,v,b,r1,r2,h=>by
  by_cases hv:∃a,v=.ref a
  .obtain⟨p,rfl⟩:=hv
   rcases r1.ref (.inl h)with⟨ds,es,rfl,rfl⟩|⟨ds,es,rfl,rfl⟩
   .obtain⟨_,_,z,e1,q1⟩:=r1.tup'
    cases z;obtain⟨_,_,z,e2,q2⟩:=r2.tup';cases z;rw[e1]at e2;cases e2;exact Vr (λx y v b=>Wd k x y v b) q1 q2 h
   .obtain⟨_,_,z,e1,_,q1⟩:=r1.lst'
    cases z;obtain⟨_,_,z,e2,_,q2⟩:=r2.lst';cases z;rw[e1]at e2;cases e2;have h:(if ds.length=es.length then Pv.Ya (Pv.eqV k) ds es else aa ap)=aa b:=h
    rw[T9<|by rw[<-q1.length,q2.length]]at h
    exact Vr (λx y v b=>Wd k x y v b) q1 q2 h
  .have hv:=λa z=>hv #[a,z]
   cases r1.sc r2 hv;exact wl r1 hv h
noncomputable def eAt(f:D->D->Option Bool)(ds es:List D)(j:Nat):Bool:=match ds[j]?,es[j]? with
 |some x,aa y=>(f x y).getD ap
 |_,_=>ap
theorem YF{f:D->D->Option Bool}:∀{ds es:List D}{b:Bool},Pv.Ya f ds es=aa b->
  ((aM<|oW ds.length es.length).all (eAt f ds es)&&ds.length == es.length)=b/\∀j x y,ds[j]?=aa x->es[j]?=aa y->f x y=aa (eAt f ds es j)
 |[],[],b,h=>#[ag h,λj x y e=>by simp at e]
 |[],_::es,b,h=>#[by rw[<-ag h];simp,λj x y e=>by simp at e]
 |_::ds,[],b,h=>#[by rw[<-ag h];simp,λj x y _ e=>by simp at e]
 |d::ds,e::es,b,h=>by
  unfold Pv.Ya at h;cases q1:f d e with
  |none=>rw[q1]at h;cases h
  |some p=>
   cases q2:Pv.Ya f ds es with
   |none=>rw[q1,q2]at h;cases h
   |some q=>
    rw[q1,q2]at h;obtain⟨ih,ih2⟩:=YF q2;have h':=ag h;have e0:eAt f (d::ds) (e::es) 0=p:=by simp[eAt,q1]
    have es':∀j,eAt f (d::ds) (e::es) (j+1)=eAt f ds es j:=λj=>by simp[eAt]
    refine#[?_,λj x y hx hy=>?_]
    .rw[<-h',<-ih,aS,aS,Nat.succ_min_succ,kU,gP,e0,kW]
     have:((aM<|oW ds.length es.length).all<|eAt f (d::ds) (e::es)∘Nat.succ)=(aM<|oW ds.length es.length).all (eAt f ds es):=by
      exact congrArg (λg=>(aM<|oW ds.length es.length).all g)<|funext λj=>es' j
     rw[this,Bool.and_assoc]
     congr 2
     simp
    .cases j with
     |zero=>
      simp at hx hy;subst hx hy;rw[e0];exact q1
     |succ j=>
      rw[es' j];exact ih2 j x y (by simpa using hx) (by simpa using hy)
def Ym{A:cD}{k:Nat}(h:A.units+(k+1)<dL):A.in1.units+k<dL:=by
 have e:A.in1.units<=A.units+1:=by
  first|exact aH _|(simp[cD.in1,cD.units]<;>lia)
 lia
theorem GV(I:Inv X pq Z H s):∀(k:Nat)(A:cD)(x y:D)(v u:V)(vv uu:al)(b:Bool),A.units+k<dL->Rep O H x v->Rep O H y u->ZA v vv->ZA u uu->Pv.eqV k x y=aa b->gG A s vv uu b
 |0,_,_,_,_,_,_,_,_,_,_,_,_,_,h=>by cases h
 |k+1,A,x,y,v,u,vv,uu,b,hu,r1,r2,e1,e2,h=>by
  have flat:yE v=am->yE u=am->eqV v u=b->gG A s vv uu b:=λf1 f2 e=>by rw[<-e];exact Zb4 e1 e2 f1 f2
  have bb:∀{a c:Bool},(a == c)=ai (a=c):=λ{a c}=>by cases a<;>cases c<;>rfl
  have ii:∀{a c:Int},(a == c)=ai (a=c):=λ{a c}=>by rw[bU];simp
  have ss:∀{a c:bG},(a == c)=ai (a=c):=λ{a c}=>by rw[bU];simp
  have item:∀{ds es:List D}{xs ys:List V}(j:Nat)(its its2:List al)(j1:j<its.toArray.size)(j2:j<its2.toArray.size),its.toArray.size=ds.length->its2.toArray.size=es.length->Vals xs its->Vals ys its2->Reps O H ds xs->Reps O H es ys->(∀j x y,ds[j]?=aa x->es[j]?=aa y->Pv.eqV k x y=aa (eAt (Pv.eqV k) ds es j))->gG A.in1 s its.toArray[j] its2.toArray[j] (eAt (Pv.eqV k) ds es j):=λ{ds es xs ys} j its its2 j1 j2 n1 n2 v1 v2 q1 q2 ea=>by
   have d1:ds[j]?=aa ds[j]:=af (by lia)
   have d2:es[j]?=aa es[j]:=af (by lia)
   obtain⟨w1,g1,z1⟩:=q1.get d1;obtain⟨w2,g2,z2⟩:=q2.get d2;obtain⟨m1,k1,y1⟩:=v1.get g1;obtain⟨m2,k2,y2⟩:=v2.get g2;have o1:its.toArray[j]=m1:=by simpa using(bc.mp k1).2
   have o2:its2.toArray[j]=m2:=by simpa using(bc.mp k2).2
   rw[o1,o2];exact GV I k A.in1 ds[j] es[j] w1 w2 m1 m2 _ (Ym hu) z1 z2 y1 y2<|ea j _ _ d1 d2
  cases x with
  |non=>
   cases r1.non';cases y with|non=>cases r2.non';exact flat rfl rfl<|ag h|bl _=>cases r2.bl';exact flat rfl rfl<|ag h|int _=>cases r2.int';exact flat rfl rfl<|ag h|str _=>cases r2.str';exact flat rfl rfl<|ag h|_=>exact Ev.nos h
  |bl i=>
   cases r1.bl';cases y with|non=>cases r2.non';exact flat rfl rfl<|ag h|bl _=>cases r2.bl';exact flat rfl rfl<|bb.trans<|ag h|int _=>cases r2.int';exact flat rfl rfl<|ii.trans<|ag h|str _=>cases r2.str';exact flat rfl rfl<|ag h|_=>exact Ev.nos h
  |int i=>
   cases r1.int';cases y with|non=>cases r2.non';exact flat rfl rfl<|ag h|bl _=>cases r2.bl';exact flat rfl rfl<|ii.trans<|ag h|int _=>cases r2.int';exact flat rfl rfl<|ii.trans<|ag h|str _=>cases r2.str';exact flat rfl rfl<|ag h|_=>exact Ev.nos h
  |str i=>
   cases r1.str';cases y with|non=>cases r2.non';exact flat rfl rfl<|ag h|bl _=>cases r2.bl';exact flat rfl rfl<|ag h|int _=>cases r2.int';exact flat rfl rfl<|ag h|str _=>cases r2.str';exact flat rfl rfl<|ss.trans<|ag h|_=>exact Ev.nos h
  |tup ds=>
   obtain⟨p,xs,rfl,hp,q1⟩:=r1.tup';cases e1;cases y with
   |tup es=>
    obtain⟨p',ys,rfl,hp',q2⟩:=r2.tup';cases e2;by_cases hpp:p=p'
    .subst hpp
     rw[Wd (k+1) (.tup ds) (.tup es) (.ref p) b r1 r2 h];exact gY _
    .obtain⟨its,v1,t1,_⟩:=I.tuple (SqT.of hp)
     obtain⟨its2,v2,t2,_⟩:=I.tuple<|SqT.of hp';have h':=h;obtain⟨ev,ea⟩:=YF h';have n1:its.toArray.size=ds.length:=by rw[ax,<-v1.length,q1.length]
     have n2:its2.toArray.size=es.length:=by rw[ax,<-v2.length,q2.length]
     refine iI hpp ?_;rw[<-ev,<-n1,<-n2];exact i7 t1 t2 (by lia) λj j1 j2=>item j its its2 j1 j2 n1 n2 v1 v2 q1 q2 ea
   |_=>exact Ev.nos h
  |lst ds=>
   obtain⟨p,xs,rfl,u1,_,q1⟩:=r1.lst';cases e1;cases y with
   |lst es=>
    obtain⟨p',ys,rfl,u2,_,q2⟩:=r2.lst';cases e2;by_cases hpp:p=p'
    .subst hpp
     rw[Wd (k+1) (.lst ds) (.lst es) (.ref p) b r1 r2 h];exact gY _
    .obtain⟨its,v1,p1,_⟩:=I.list (SqL.of u1)
     obtain⟨its2,v2,p2,_⟩:=I.list<|SqL.of u2;have n1:its.toArray.size=ds.length:=by rw[ax,<-v1.length,q1.length]
     have n2:its2.toArray.size=es.length:=by rw[ax,<-v2.length,q2.length]
     refine iI hpp ?_;have h2:(if ds.length=es.length then Pv.Ya (Pv.eqV k) ds es else aa ap)=aa b:=h
     by_cases hl:ds.length=es.length
     .rw[T9 hl]at h2
      obtain⟨ev,ea⟩:=YF h2;have ev':(aM ds.length).all (eAt (Pv.eqV k) ds es)=b:=by
       rw[<-ev,<-hl,m8];simp
      rw[<-ev',<-n1];exact nK p1.isList p2.isList (by lia) (by lia) λj j1 j2=>item j its its2 j1 j2 n1 n2 v1 v2 q1 q2 ea
     .rw[T8 hl]at h2
      rw[<-ag h2];exact kl p1.isList p2.isList (bne_iff_ne.mpr<|by lia) (by lia)
   |_=>exact Ev.nos h
  |_=>exact Ev.nos h
def XM(I:Inv X pq Z H s){k:Nat}{A:cD}{ds es:List D}{xs ys:List V}{its its2:List al}{b:Bool}(hu:A.units+(k+1)<dL)
  (q1:Reps O H ds xs)(q2:Reps O H es ys)(v1:Vals xs its)(v2:Vals ys its2)(h:Pv.Ya (Pv.eqV k) ds es=aa b) :
  ∀j (h1:j<its.toArray.size) (h2:j<its2.toArray.size),gG A.in1 s its.toArray[j] its2.toArray[j] (eAt (Pv.eqV k) ds es j):=λj j1 j2=>by
 obtain⟨_,ea⟩:=YF h;have n1:its.toArray.size=ds.length:=by rw[ax,<-v1.length,q1.length]
 have n2:its2.toArray.size=es.length:=by rw[ax,<-v2.length,q2.length]
 have d1:ds[j]?=aa ds[j]:=af (by lia)
 have d2:es[j]?=aa es[j]:=af (by lia)
 obtain⟨w1,g1,z1⟩:=q1.get d1;obtain⟨w2,g2,z2⟩:=q2.get d2;obtain⟨m1,k1,y1⟩:=v1.get g1;obtain⟨m2,k2,y2⟩:=v2.get g2;have o1:its.toArray[j]=m1:=by
  have:=bc.mp k1
  simpa using this.2
 have o2:its2.toArray[j]=m2:=by
  have:=bc.mp k2
  simpa using this.2
 rw[o1,o2];exact GV I k A.in1 ds[j] es[j] w1 w2 m1 m2 _ (Ym hu) z1 z2 y1 y2<|ea j _ _ d1 d2
def jd(K:ao)(xw:Nat->Hp->Prop)(op:Cop):R2:=λv u H Q=>∃O S x y,St3 K O S H/\Rep O H x v/\Rep O H y u/\End K xw Rep O H Q (Pv.po (Pv.Yg op x y) S)
def Zb5 :∀Z H Q,tE X xw (Pv.pv C<|.cmp op i j) Z H Q->tOp (jd X.K xw op) (tE X xw<|Pv.pv C i) (tE X xw<|Pv.pv C j) Z H Q:=λZ H Q h=>
 Xn (λ{O H S x y v u Q} st rx ry h=>#[O,S,x,y,st,rx,ry,h]) Z H Q h
def dI{a c:Int}:(a == c)=ai (a=c):=by rw[bU];simp
def z5{H:Hp}{O:Mx}{k:Nat}{x y:D}{v u:V}{b:Bool}(rx:Rep O H x v)(ry:Rep O H y u)(hb:Pv.eqV (k+1) x y=aa b):(scal v u=am/\ai (v=u)=b)\/(∃i j,v=.bl i/\u=.int j/\ai (Ev.b2i i=j)=b)\/(∃i j,v=.int i/\u=.bl j/\ai (i=Ev.b2i j)=b)\/(∃ds es,x=.tup ds/\y=.tup es/\Pv.Ya (Pv.eqV k) ds es=aa b)\/∃ds es,x=.lst ds/\y=.lst es/\(if ds.length=es.length then Pv.Ya (Pv.eqV k) ds es else aa ap)=aa b:=by
 cases x with
 |non=>cases rx.non';cases y with|non=>cases ry.non';exact .inl #[rfl,ag hb▸by simp]|bl _=>cases ry.bl';exact .inl #[rfl,ag hb]|int _=>cases ry.int';exact .inl #[rfl,ag hb]|str _=>cases ry.str';exact .inl #[rfl,ag hb]|_=>exact Ev.nos hb
 |bl i=>cases rx.bl';cases y with|non=>cases ry.non';exact .inl #[rfl,ag hb]|bl j=>cases ry.bl';exact .inl #[rfl,ag hb▸by simp]|int j=>cases ry.int';exact .inr<|.inl #[i,j,rfl,rfl,ag hb]|str _=>cases ry.str';exact .inl #[rfl,ag hb]|_=>exact Ev.nos hb
 |int i=>cases rx.int';cases y with|non=>cases ry.non';exact .inl #[rfl,ag hb]|bl j=>cases ry.bl';exact .inr<|.inr<|.inl #[i,j,rfl,rfl,ag hb]|int _=>cases ry.int';exact .inl #[rfl,ag hb▸by simp]|str _=>cases ry.str';exact .inl #[rfl,ag hb]|_=>exact Ev.nos hb
 |str i=>cases rx.str';cases y with|non=>cases ry.non';exact .inl #[rfl,ag hb]|bl _=>cases ry.bl';exact .inl #[rfl,ag hb]|int _=>cases ry.int';exact .inl #[rfl,ag hb]|str _=>cases ry.str';exact .inl #[rfl,ag hb▸by simp]|_=>exact Ev.nos hb
 |tup ds=>cases y with|tup es=>exact .inr<|.inr<|.inr<|.inl #[ds,es,rfl,rfl,hb]|_=>exact Ev.nos hb
 |lst ds=>cases y with|lst es=>exact .inr<|.inr<|.inr<|.inr #[ds,es,rfl,rfl,hb]|_=>exact Ev.nos hb
 |_=>exact Ev.nos hb
def Zby(hu:X.A.units+6<dL):OpR X (b0 .Eq) (jd X.K xw .eq):=by
 intro pq s Z H v u vv uu Q I e1 e2 h;obtain⟨O,S,x,y,st,rx,ry,h⟩:=h;obtain⟨b,hb,h1⟩:=End.map h;have q:=End.ok h1 st<|ZZ b;rcases z5 rx ry hb with⟨hs,e⟩|⟨i,j,rfl,rfl,e⟩|⟨i,j,rfl,rfl,e⟩|⟨ds,es,rfl,rfl,hb'⟩|⟨ds,es,rfl,rfl,h2⟩
 .exact ZcM pq s Z H v u vv uu Q I e1 e2 #[hs,by rw[e];exact q]
 .cases e1
  obtain⟨t,rfl⟩:=e2;refine EqBoolInt.eq_bool_int #[.bl b,H,I,?_,q];show c6 ((if i then 1 else 0) == j)=c6 b
  rw[dI];exact congrArg c6 e
 .cases e2
  obtain⟨t,rfl⟩:=e1;refine EqBoolInt.eq_int_bool #[.bl b,H,I,?_,q];show c6 (i == (if j then 1 else 0))=c6 b
  rw[dI];exact congrArg c6 e
 ·
  obtain⟨p,xs,rfl,hp,q1⟩:=rx.tup';cases e1;obtain⟨p',ys,rfl,hp',q2⟩:=ry.tup';cases e2;obtain⟨its,v1,t1,_⟩:=I.tuple<|SqT.of hp;obtain⟨its2,v2,t2,_⟩:=I.tuple<|SqT.of hp';obtain⟨ev,_⟩:=YF hb';have n1:its.toArray.size=ds.length:=by rw[ax,<-v1.length,q1.length]
  have n2:its2.toArray.size=es.length:=by rw[ax,<-v2.length,q2.length]
  refine i7 t1 t2 (by lia) (XM I hu q1 q2 v1 v2 hb') X.prog X.w X.xe _ ?_
  rw[n1,n2,ev];exact#[.bl b,H,I,rfl,q]
 ·
  obtain⟨p,xs,rfl,u1,_,q1⟩:=rx.lst';cases e1;obtain⟨p',ys,rfl,u2,_,q2⟩:=ry.lst';cases e2;obtain⟨its,v1,p1,_⟩:=I.list<|SqL.of u1;obtain⟨its2,v2,p2,_⟩:=I.list<|SqL.of u2;have n1:its.toArray.size=ds.length:=by rw[ax,<-v1.length,q1.length]
  have n2:its2.toArray.size=es.length:=by rw[ax,<-v2.length,q2.length]
  by_cases hl:ds.length=es.length
  .rw[T9 hl]at h2
   obtain⟨ev,_⟩:=YF h2;have ev':(aM ds.length).all (eAt (Pv.eqV 5) ds es)=b:=by
    rw[<-ev,<-hl,m8];simp
   refine nK p1.isList p2.isList (by lia) (by lia) (XM I hu q1 q2 v1 v2 h2) X.prog X.w X.xe _ ?_
   rw[n1,ev'];exact#[.bl b,H,I,rfl,q]
  .rw[T8 hl]at h2
   refine kl p1.isList p2.isList (bne_iff_ne.mpr<|by lia) (by lia) X.prog X.w X.xe _ ?_
   exact#[.bl b,H,I,congrArg c6<|ag h2,q]
def Zb7(hu:X.A.units+6<dL):OpR X (b0 .NotEq) (jd X.K xw .ne):=by
 intro pq s Z H v u vv uu Q I e1 e2 h;obtain⟨O,S,x,y,st,rx,ry,h⟩:=h;obtain⟨b,hb,h1⟩:=End.map h;have q:=End.ok h1 st<|ZZ _;rcases z5 rx ry hb with⟨hs,e⟩|⟨i,j,rfl,rfl,e⟩|⟨i,j,rfl,rfl,e⟩|⟨ds,es,rfl,rfl,hb'⟩|⟨ds,es,rfl,rfl,h2⟩
 .exact ZcC pq s Z H v u vv uu Q I e1 e2 #[hs,by rw[e];exact q]
 .cases e1
  obtain⟨t,rfl⟩:=e2;refine EqBoolInt.ne_bool_int #[.bl !b,H,I,?_,q];show c6 (!((if i then 1 else 0) == j))=c6 !b
  rw[dI];exact congrArg (λz=>c6 !z) e
 .cases e2
  obtain⟨t,rfl⟩:=e1;refine EqBoolInt.ne_int_bool #[.bl !b,H,I,?_,q];show c6 (!(i == (if j then 1 else 0)))=c6 !b
  rw[dI];exact congrArg (λz=>c6 !z) e
 ·
  obtain⟨p,xs,rfl,hp,q1⟩:=rx.tup';cases e1;obtain⟨p',ys,rfl,hp',q2⟩:=ry.tup';cases e2;obtain⟨its,v1,t1,_⟩:=I.tuple<|SqT.of hp;obtain⟨its2,v2,t2,_⟩:=I.tuple<|SqT.of hp';obtain⟨ev,_⟩:=YF hb';have n1:its.toArray.size=ds.length:=by rw[ax,<-v1.length,q1.length]
  have n2:its2.toArray.size=es.length:=by rw[ax,<-v2.length,q2.length]
  refine SeqAt.RcNeAt.tuples t1 t2 (by lia) (XM I hu q1 q2 v1 v2 hb') X.prog X.w X.xe _ ?_
  rw[n1,n2,ev];exact#[.bl !b,H,I,rfl,q]
 ·
  obtain⟨p,xs,rfl,u1,_,q1⟩:=rx.lst';cases e1;obtain⟨p',ys,rfl,u2,_,q2⟩:=ry.lst';cases e2;obtain⟨its,v1,p1,_⟩:=I.list<|SqL.of u1;obtain⟨its2,v2,p2,_⟩:=I.list<|SqL.of u2;have n1:its.toArray.size=ds.length:=by rw[ax,<-v1.length,q1.length]
  have n2:its2.toArray.size=es.length:=by rw[ax,<-v2.length,q2.length]
  by_cases hl:ds.length=es.length
  .rw[T9 hl]at h2
   obtain⟨ev,_⟩:=YF h2;have ev':(aM ds.length).all (eAt (Pv.eqV 5) ds es)=b:=by
    rw[<-ev,<-hl,m8];simp
   refine SeqAt.RcNeAt.lists p1.isList p2.isList (by lia) (by lia) (XM I hu q1 q2 v1 v2 h2) X.prog X.w X.xe _ ?_
   rw[n1,ev'];exact#[.bl !b,H,I,rfl,q]
  .rw[T8 hl]at h2
   refine SeqAt.RcNeAt.lists_lengths p1.isList p2.isList (bne_iff_ne.mpr<|by lia) (by lia) X.prog X.w X.xe _ ?_
   exact#[.bl !b,H,I,congrArg (λz=>c6 !z)<|ag h2,q]
theorem Qq(hf:∀x x' y v b b',Rep O H x v->Rep O H x' v->f x y=aa b->f x' y=aa b'->b=b') :
  ∀{ds ds' es:List D}{xs:List V}{b b':Bool},Reps O H ds xs->Reps O H ds' xs->Pv.Ya f ds es=aa b->Pv.Ya f ds' es=aa b'->b=b'
 |[],[],[],_,b,b',_,_,h,h'=>(ag h).symm.trans<|ag h'
 |[],[],_::_,_,b,b',_,_,h,h'=>(ag h).symm.trans<|ag h'
 |_::_,_::_,[],_,b,b',_,_,h,h'=>(ag h).symm.trans<|ag h'
 |d::ds,d'::ds',e::es,_,b,b',r1,r2,h,h'=>by
  obtain⟨v,vs,rfl,a1,b1⟩:=r1;obtain⟨v',vs',e',a2,b2⟩:=r2;cases e';unfold Pv.Ya at h h';cases q1:f d e with
  |none=>rw[q1]at h;cases h
  |some p=>
   cases q2:Pv.Ya f ds es with
   |none=>rw[q1,q2]at h;cases h
   |some q=>
    cases q3:f d' e with
    |none=>rw[q3]at h';cases h'
    |some p'=>
     cases q4:Pv.Ya f ds' es with
     |none=>rw[q3,q4]at h';cases h'
     |some q'=>
      rw[q1,q2]at h;rw[q3,q4]at h';have z1:=ag h;have z2:=ag h';rw[<-z1,<-z2,hf d d' e v p p' a1 a2 q1 q3,Qq hf b1 b2 q2 q4]
 |[],_::_,_,_,b,b',r1,r2,_,_=>by
  have l1:=r1.length;have l2:=r2.length;rw[l1]at l2;simp at l2
 |_::_,[],_,_,b,b',r1,r2,_,_=>by
  have l1:=r1.length;have l2:=r2.length;rw[l1]at l2;simp at l2
theorem Jb:∀(k:Nat)(x x' y:D)(v:V)(b b':Bool),Rep O H x v->Rep O H x' v->Pv.eqV k x y=aa b->Pv.eqV k x' y=aa b'->b=b'
 |0,_,_,_,_,_,_,_,_,h,_=>by cases h
 |k+1,x,x',y,v,b,b',r1,r2,h,h'=>by
  by_cases hv:∃a,v=.ref a
  .obtain⟨p,rfl⟩:=hv
   rcases r1.ref (.inl h)with⟨ds,es,rfl,rfl⟩|⟨ds,es,rfl,rfl⟩<;>rcases r2.ref (.inl h')with⟨ds',es',rfl,z⟩|⟨ds',es',rfl,z⟩<;>cases z
   .obtain⟨_,_,z,e1,q1⟩:=r1.tup'
    cases z;obtain⟨_,_,z,e2,q2⟩:=r2.tup';cases z;rw[e1]at e2;cases e2;exact Qq (λx x' y v b b'=>Jb k x x' y v b b') q1 q2 h h'
   .obtain⟨_,_,z,e1,_,q1⟩:=r1.lst'
    cases z;obtain⟨_,_,z,e2,_,q2⟩:=r2.lst';cases z;rw[e1]at e2;cases e2;have l:ds'.length=ds.length:=by rw[<-q1.length,q2.length]
    have h:(if ds.length=es.length then Pv.Ya (Pv.eqV k) ds es else aa ap)=aa b:=h
    have h':(if ds'.length=es.length then Pv.Ya (Pv.eqV k) ds' es else aa ap)=aa b':=h'
    rw[l]at h';by_cases c:ds.length=es.length
    .rw[T9 c]at h h'
     exact Qq (λx x' y v b b'=>Jb k x x' y v b b') q1 q2 h h'
    .rw[T8 c]at h h'
     exact ag<|h.symm.trans h'
  .cases r1.sc r2 λa z=>hv #[a,z]
   exact ag<|h.symm.trans h'
theorem Ql :∀{ds:List D}{b:Bool},Pv.Y0 x ds=aa b->∀d∈ds,∃c,Pv.eqV Ev.Zm d x=aa c
 |[],_,_,d,hd=>by cases hd
 |y::ys,b,h,d,hd=>by
  unfold Pv.Y0 at h;cases q1:Pv.eqV Ev.Zm y x with
  |none=>rw[q1]at h;cases h
  |some p=>
   cases q2:Pv.Y0 x ys with
   |none=>rw[q1,q2]at h;cases h
   |some q=>
    rcases aA.mp hd with rfl|hd
    .exact#[p,q1]
    .exact Ql q2 d hd
theorem z6 :∀{ds:List D}{b:Bool},Pv.Y0 x ds=aa b->(ds.any λd=>(Pv.eqV Ev.Zm d x).getD ap)=b
 |[],_,h=>ag h
 |y::ys,b,h=>by
  unfold Pv.Y0 at h;cases q1:Pv.eqV Ev.Zm y x with
  |none=>rw[q1]at h;cases h
  |some p=>
   cases q2:Pv.Y0 x ys with
   |none=>rw[q1,q2]at h;cases h
   |some q=>
    rw[q1,q2]at h;rw[ml,z6 q2,q1,<-ag h];rfl
open Classical in
def X9(I:Inv X pq Z H s)(hu:A.units+6<dL)(rx:Rep O H x v)(ex:ZA v vv)
  (q:Reps O H ds xs)(vs:Vals xs its)(h:Pv.Y0 x ds=aa b):∃e:al->Bool,(∀u,u∈its.toArray->gG A s u vv (e u))/\its.toArray.any e=b:=by
 refine#[λu=>ai (∃d∈ds,∃w,Rep O H d w/\ZA w u/\Pv.eqV Ev.Zm d x=aa am),λu hu'=>?_,?_]
 .have hu2:u∈its:=by simpa using hu'
  obtain⟨j,hj,e⟩:=bB hu2;have hl:j<ds.length:=by rw[<-q.length,vs.length];exact hj
  obtain⟨w,g,r⟩:=q.get<|af hl;obtain⟨u',g',r'⟩:=vs.get g;have eu:u'=u:=by
   rw[af hj]at g';exact(ag g').symm.trans e
  subst eu;obtain⟨c,hc⟩:=Ql h ds[j]<|aV hl;have ec:ai (∃d∈ds,∃w,Rep O H d w/\ZA w u'/\Pv.eqV Ev.Zm d x=aa am)=c:=by
   cases c with
   |true=>exact T5 #[ds[j],aV hl,w,r,r',hc]
   |false=>
    refine T4 ?_
    rintro ⟨d,hd,w',a1,a2,a3⟩
    cases a2.inj r';exact T7 (Jb 6 d ds[j] x w am ap a1 r a3 hc) (by decide)
  dsimp only
  rw[ec];exact GV I 6 A ds[j] x w v u' vv c hu r rx r' ex hc
 .rw[<-z6 h,List.any_toArray,bU,fI,fI]
  constructor
  .rintro ⟨u,hu1,h1⟩
   obtain⟨d,hd,w,a1,a2,a3⟩:=T6 h1;exact#[d,hd,by rw[a3];rfl]
  .rintro ⟨d,hd,h1⟩
   obtain⟨j,hj,e⟩:=bB hd;subst e;obtain⟨w,g,r⟩:=q.get<|af hj;obtain⟨u,g',r'⟩:=vs.get g;refine#[u,c9 g',T5 #[ds[j],hd,w,r,r',?_]];obtain⟨c,hc⟩:=Ql h ds[j] hd;rw[hc]at h1 ⊢;exact congrArg aa h1
section
variable{X:Cx}{xw:Nat->Hp->Prop}{C:Calls}{e a b c:Expr}{i j k:E}{pos p p':iw}
def Zbc(hu:X.A.units+7<dL):OpR X (b0 .In) (λv u H Q=>∃O S x ds b,St3 X.K O S H/\Rep O H x v/\(Rep O H (.tup ds) u\/Rep O H (.lst ds) u)/\Pv.Y0 x ds=aa b/\Q (.bl b) H):=by
 intro pq s Z H v u vv uu Q I e1 e2 h;obtain⟨O,S,x,ds,b,st,rx,ry,hb,q⟩:=h;rcases ry with ry|ry
 .obtain⟨p,xs,rfl,hp,q1⟩:=ry.tup'
  cases e2;obtain⟨its,v1,t1,_⟩:=I.tuple<|SqT.of hp;obtain⟨f,h1,h2⟩:=X9 I (Ym hu) rx e1 q1 v1 hb;exact SeqAt.in_tupleAt f t1 h1 (by rw[h2];exact#[.bl b,H,I,rfl,q])
 .obtain⟨p,xs,rfl,hx,_,q1⟩:=ry.lst'
  cases e2;obtain⟨its,v1,t1,_⟩:=I.list<|SqL.of hx;obtain⟨f,h1,h2⟩:=X9 I (Ym hu) rx e1 q1 v1 hb;exact SeqAt.in_listAt f t1.isList h1 (by rw[h2];exact#[.bl b,H,I,rfl,q])
def qe(hu:X.A.units+7<dL):OpR X (b0 .NotIn) (λv u H Q=>∃O S x ds b,St3 X.K O S H/\Rep O H x v/\(Rep O H (.tup ds) u\/Rep O H (.lst ds) u)/\Pv.Y0 x ds=aa b/\Q (.bl !b) H):=by
 intro pq s Z H v u vv uu Q I e1 e2 h;obtain⟨O,S,x,ds,b,st,rx,ry,hb,q⟩:=h;rcases ry with ry|ry
 .obtain⟨p,xs,rfl,hp,q1⟩:=ry.tup'
  cases e2;obtain⟨its,v1,t1,_⟩:=I.tuple<|SqT.of hp;obtain⟨f,h1,h2⟩:=X9 I (Ym hu) rx e1 q1 v1 hb;exact SeqAt.notIn_tupleAt f t1 h1 (by rw[h2];exact#[.bl !b,H,I,rfl,q])
 .obtain⟨p,xs,rfl,hx,_,q1⟩:=ry.lst'
  cases e2;obtain⟨its,v1,t1,_⟩:=I.list<|SqL.of hx;obtain⟨f,h1,h2⟩:=X9 I (Ym hu) rx e1 q1 v1 hb;exact SeqAt.notIn_listAt f t1.isList h1 (by rw[h2];exact#[.bl !b,H,I,rfl,q])
variable{O:Mx}{H:Hp}{S:Zq}{x y:D}{v u:V}{Q:VK}{K:ao}
def jv(h:Pv.int2 x y=aa z):x=.int z.1/\y=.int z.2:=by
 cases x<;>first|exact Ev.nos h|(cases y<;>first|exact Ev.nos h|(cases h;exact#[rfl,rfl]))
def QJ{f:Int×Int->Bool}(st:St3 K O S H)(rx:Rep O H x v)(ry:Rep O H y u)(h:End K xw Rep O H Q (Pv.po ((Pv.int2 x y).map λz=>.bl<|f z) S)):rI0 (λi j=>.bl<|f (i,j)) v u H Q:=by
 obtain⟨z,hz,h⟩:=End.map h;obtain⟨rfl,rfl⟩:=jv hz;exact#[_,_,rx.int',ry.int',End.ok h st<|ZZ _]
def Zdc(st:St3 K O S H)(rx:Rep O H x v)(ry:Rep O H y u)(h:End K xw Rep O H Q (Pv.po (Pv.Yg .lt x y) S)):rI0 (λi j=>.bl<|ai<|i<j) v u H Q\/∃a b A B,x=.tup a/\y=.tup b/\Pv.ZR a=aa A/\Pv.ZR b=aa B/\Q (.bl<|Ev.ltP A B) H:=by
 cases x with
 |tup a=>cases y with
  |tup b=>
   obtain⟨z,hz,h⟩:=End.po h;obtain⟨A,hA,hz⟩:=da.mp hz;obtain⟨B,hB,rfl⟩:=bQ.mp hz;exact .inr #[a,b,A,B,rfl,rfl,hA,hB,End.ok h st<|ZZ _]
  |_=>exact False.elim h
 |_=>exact .inl<|QJ (f:=λz=>ai<|z.1<z.2) st rx ry h
end
section
variable{X:Cx}{xw:Nat->Hp->Prop}{C:Calls}{e a b c:Expr}{i j k:E}{pos p p':iw}
def Xo{B β γ:Type}(r:R B)(f:B->Zq->R β)(g:β->Zq->R γ):(r.bind f).bind g=r.bind λa S=>(f a S).bind g:=by cases r<;>rfl
def GL{B:Type}{o:Option B}{f:B->Bool}{z:D}(h:o.map (λa=>Pv.V.bl<|f a)=aa z):∃b,z=.bl b:=by
 obtain⟨a,_,rfl⟩:=bQ.mp h;exact#[_,rfl]
def vn{o:Cop}{x y:D}{S S':Zq}{z:D}(h:Pv.po (Pv.Yg o x y) S=.ok z S'):∃b,z=.bl b:=by
 have h:Pv.Yg o x y=aa z:=by
  cases q:Pv.Yg o x y<;>rw[q]at h<;>cases h;rfl
 cases o with
 |lt=>
  cases x with
  |tup a=>
   cases y with|tup b=>obtain⟨A,_,h⟩:=da.mp h;exact GL h|_=>exact Ev.nos h
  |int i=>exact GL h
  |_=>exact Ev.nos h
 |_=>exact GL h
def YA(X:Cx)(xw:Nat->Hp->Prop)(op:CmpOp)(o:Cop):Prop:=OpR X (b0 op)<|jd X.K xw o
def OpR.imp(h:OpR X f r)(k:∀v u H Q,r' v u H Q->r v u H Q):OpR X f r':=λpq s Z H x y v u Q I e1 e2 q=>h pq s Z H x y v u Q I e1 e2<|k x y H Q q
theorem wH(hu:X.A.units+7<dL):YA X xw .Eq .eq:=Zby (by lia)
theorem w4(hu:X.A.units+7<dL):YA X xw .NotEq .ne:=Zb7 (by lia)
def UR(hu:X.A.units+7<dL):YA X xw .LtE .le:=OpR.imp ZcV<|by rintro v u H Q ⟨O,S,x,y,st,rx,ry,h⟩;exact QJ st rx ry h
def u3(hu:X.A.units+7<dL):YA X xw .Gt .gt:=OpR.imp Zdk<|by rintro v u H Q ⟨O,S,x,y,st,rx,ry,h⟩;exact QJ (f:=λz=>ai<|z.2<z.1) st rx ry h
def vY(hu:X.A.units+7<dL):YA X xw .GtE .ge:=OpR.imp ZcU<|by rintro v u H Q ⟨O,S,x,y,st,rx,ry,h⟩;exact QJ st rx ry h
def ut{O:Mx}{H:Hp}{x y:D}{v u:V}{b:Bool}(rx:Rep O H x v)(ry:Rep O H y u)(h:Pv.isV x y=aa b):(u=.non/\ai (v=.non)=b)\/∃i j,v=.bl i/\u=.bl j/\ai (i=j)=b:=by
 cases y with
 |non=>
  refine .inl #[ry.non',?_];rw[<-ag h];cases x<;>unfold Rep at rx<;>first
   |(subst rx;rfl)
   |(obtain⟨_,z,_⟩:=rx;subst z;rfl)
   |(obtain⟨_,_,z,_⟩:=rx;subst z;rfl)
 |bl j=>cases x with|bl i=>exact .inr #[i,j,rx.bl',ry.bl',ag h]|_=>exact Ev.nos h
 |_=>exact Ev.nos h
def vJ(hu:X.A.units+7<dL):YA X xw .Is .is:=OpR.imp (ZaU.or ZaR)<|by
 rintro v u H Q ⟨O,S,x,y,st,rx,ry,h⟩;obtain⟨b,hb,h⟩:=End.map h;have q:=End.ok h st<|ZZ b;rcases ut rx ry hb with⟨e,z⟩|⟨i,j,e,e2,z⟩
 .exact .inl #[e,by rw[z];exact q]
 .exact .inr #[i,j,e,e2,by rw[z];exact q]
def G4(hu:X.A.units+7<dL):YA X xw .IsNot .isn:=OpR.imp (qb.or je)<|by
 rintro v u H Q ⟨O,S,x,y,st,rx,ry,h⟩;obtain⟨b,hb,h⟩:=End.map h;have q:=End.ok h st<|ZZ !b;rcases ut rx ry hb with⟨e,z⟩|⟨i,j,e,e2,z⟩
 .exact .inl #[e,by rw[z];exact q]
 .exact .inr #[i,j,e,e2,by rw[decide_not,z];exact q]
def Jk{O:Mx}{H:Hp}{x y:D}{u:V}{b:Bool}(ry:Rep O H y u)(h:Pv.WB x y=aa b) :
  (∃ds,(Rep O H (.tup ds) u\/Rep O H (.lst ds) u)/\Pv.Y0 x ds=aa b)\/
  (∃(l:List (List Int))(k:List D)(ks:List Int),(∃(p:aI)(vs:List (List Key×V)),u=.ref p/\Rd H p (.dT vs)/\vs.map (·.1)=l.map (·.map dJ))/\x=.tup k/\Pv.intsV k=aa ks/\l.contains ks=b):=by
 cases y with
 |tup ys=>exact .inl #[ys,.inl ry,h]
 |lst ys=>exact .inl #[ys,.inr ry,h]
 |dct o=>
  cases o with
  |none=>exact Ev.nos h
  |some l=>
   cases x with
   |tup k=>
    obtain⟨ks,e,z⟩:=bQ.mp h;obtain⟨p,e1,o,vs,e2,e3⟩:=ry.dct';exact .inr #[l,k,ks,#[p,vs,e1,.inr #[o,e2],e3],rfl,e,z]
   |_=>exact Ev.nos h
 |dow l=>
  cases x with
  |tup k=>
   obtain⟨ks,e,z⟩:=bQ.mp h;obtain⟨p,vs,e1,e2,_,e3⟩:=ry.dow';exact .inr #[l,k,ks,#[p,vs,e1,.inl e2,e3],rfl,e,z]
  |_=>exact Ev.nos h
 |_=>exact Ev.nos h
def YH{op:CmpOp}{o:Cop}(hc:YA X xw op o)(ha:CE X xw C a i)(hb:CE X xw C b j)(hm:fO op b=ap):CE X xw C (.Compare a [op] [b] pos) (.cmp o i j):=.mk <|
 PE.imp (jR hc ha.h hb.h hm) (Zb5)
def YK{op:CmpOp}{o:Cop}(hc:YA X xw op o)(ha:CE X xw C a i)(hb:CE X xw C b j)(hm:fO op b=ap):CT X xw C (.Compare a [op] [b] pos) (.cmp o i j):=.mk <|
 PT.imp (jq hc ha.h hb.h hm)<|by
  rintro Z H Q ⟨O,l,S,st,lr,h⟩;have h':End X.K xw Uc O H Q (((Pv.pv C i l S).bind λx S=>(Pv.pv C j l S).bind λy S=>Pv.po (Pv.Yg o x y) S).bind λx S=>Pv.po (Pv.Zu x) S):=h
  simp only[Xo]at h';refine#[O,l,S,st,lr,h'.bind λx S1 ρ1 H1 v f1 st1 r1 h1=>#[ρ1,l,S1,st1,lr.mono f1,h1.bind λy S2 ρ2 H2 u f2 st2 r2 h2=>#[ρ2,S2,x,y,st2,r1.mono f2,r2,?_]]]
  have h3:∀{r:R D},(∀z S',r=.ok z S'->∃b,z=.bl b)->End X.K xw Uc ρ2 H2 Q (r.bind λx S=>Pv.po (Pv.Zu x) S)->End X.K xw Rep ρ2 H2 (λx H'=>∃k,x=V.bl k/\Q k H') r:=λ{r} hr h=>by
   cases r with
   |no=>exact h
   |ex _ _=>exact h
   |ok z S3=>
    obtain⟨b,rfl⟩:=hr z S3 rfl;exact λρ3 H3 w f3 st3 r3=>#[b,r3.bl',h ρ3 H3 b f3 st3 rfl]
  exact h3 (λz S' e=>vn e) h2
def J1{op op':CmpOp}{o o':Cop}{d:Expr}{k:E}(hc:YA X xw op o)(hc':YA X xw op' o')(ha:CE X xw C a i)(hb:CE X xw C b j)(hd:CE X xw C d k)
  (hm:lastMarks [op,op'] [b,d]=ap):CE X xw C (.Compare a [op,op'] [b,d] pos) (.chain o o' i j k):=.mk <|
 PE.imp (uH hc hc' ha.h hb.h hd.h hm)<|by
  rintro Z H Q ⟨O,l,S,st,lr,h⟩;refine#[O,l,S,st,lr,End.bind (show End X.K xw Rep O H Q ((Pv.pv C i l S).bind _)from h) λx S1 ρ1 H1 v f1 st1 r1 h1=>#[ρ1,l,S1,st1,lr.mono f1,h1.bind λy S2 ρ2 H2 u f2 st2 r2 h2=>#[ρ2,S2,x,y,st2,r1.mono f2,r2,h2.bind λz S3 ρ3 H3 w f3 st3 r3 h3=>?_]]]
  cases z with
  |bl n=>
   refine#[n,r3.bl',?_];cases n with|true=>exact#[ρ3,l,S3,st3,((lr.mono f1).mono f2).mono f3,End.bind (show End X.K xw Rep ρ3 H3 Q ((Pv.pv C k l S3).bind _)from h3) λt S4 ρ4 H4 t' f4 st4 r4 h4=>#[ρ4,S4,y,t,st4,(r2.mono f3).mono f4,r4,h4]]|false=>exact End.ok h3 st3<|ZZ _
  |_=>exact False.elim h3
end
section
variable{X:Cx}{xw:Nat->Hp->Prop}{C:Calls}{e a b c:Expr}{i j k:E}{pos p p' p2:iw}
variable{O:Mx}{H:Hp}{S:Zq}{x y:D}{v u:V}{Q:VK}{K:ao}
def Ut{d:D}{ks:List D}{k:List Int}(h:Pv.intsV (d::ks)=aa k):∃n r,d=.int n/\Pv.intsV ks=aa r/\k=n::r:=by
 cases d<;>first|exact Ev.nos h|(obtain⟨r,e,z⟩:=bQ.mp h;exact#[_,r,rfl,e,z.symm])
theorem Wq:∀{ks:List D}{k:List Int}{xs:List V},Pv.intsV ks=aa k->Reps O H ks xs->xs=(k.map (dJ:Int->Key)).map kV
 |[],k,xs,h,r=>by cases h;rw[r];rfl
 |d::ks,k,xs,h,r=>by
  obtain⟨v,vs,rfl,a1,b1⟩:=r;obtain⟨n,r,rfl,e,rfl⟩:=Ut h;rw[a1.int',Wq e b1];rfl
theorem zK:∀{k k':List Int},k.map (dJ:Int->Key)=k'.map dJ->k=k'
 |[],[],_=>rfl
 |[],_::_,h=>by simp at h
 |_::_,[],h=>by simp at h
 |a::k,b::k',h=>by
  rw[bj,bj]at h;injection h with h1 h2
  rw[dJ.inj h1,zK h2]
def UZ{k:List Int}{l:List (List Int)}{vs:List (List Key×V)}(h:vs.map (·.1)=l.map (·.map (dJ:Int->Key))):(VL vs<|k.map dJ).isSome=l.contains k:=by
 rw[<-Gc,show(vs.any λkv=>ai<|kv.1=k.map dJ)=(vs.map (·.1)).any λy=>ai (y=k.map dJ) by rw[List.any_map];rfl,h,List.any_map,List.contains_eq_any_beq]
 congr 1
 funext y
 show ai (y.map dJ=k.map dJ)=(k == y);by_cases z:y=k
 .subst z;simp
 .rw[T4 λw=>z<|zK w,beq_eq_false_iff_ne.mpr<|Ne.symm z]
theorem Zcc(hu:X.A.units+7<dL):OpR X (b0 .In) (λv u H Q=>∃a y o,u=.ref a/\v=y/\DGet H a y o/\Q (.bl o.isSome) H):=by
 intro pq s Z H v u vv uu Q I e1 e2 h;obtain⟨a,y,o,rfl,rfl,g,q⟩:=h;cases e2;exact ZdB (by lia) I g e1 λs' I'=>#[.bl o.isSome,H,I',rfl,q]
theorem jD(hu:X.A.units+7<dL):OpR X (b0 .NotIn) (λv u H Q=>∃a y o,u=.ref a/\v=y/\DGet H a y o/\Q (.bl !o.isSome) H):=by
 intro pq s Z H v u vv uu Q I e1 e2 h;obtain⟨a,y,o,rfl,rfl,g,q⟩:=h;cases e2;exact jp (by lia) I g e1 λs' I'=>#[.bl !o.isSome,H,I',rfl,q]
def ud(hu:X.A.units+7<dL):YA X xw .In .inn:=OpR.imp ((Zbc hu).or<|Zcc hu)<|by
 rintro v u H Q ⟨O,S,x,y,st,rx,ry,h⟩;obtain⟨b,hb,h⟩:=End.map h;have q:=End.ok h st<|ZZ _;rcases Jk ry hb with⟨ds,hy,hb⟩|⟨l,k,ks,hy,rfl,hk,e⟩
 .exact .inl #[O,S,x,ds,b,st,rx,hy,hb,q]
 .obtain⟨p,vs,rfl,hx,r⟩:=hy
  obtain⟨a,xs,rfl,ha,r2⟩:=rx.tup';refine .inr #[p,.ref a,_,rfl,rfl,.inr #[vs,_,a,hx,rfl,by rw[ha,Wq hk r2],rfl],?_]
  rw[UZ r,e];exact q
def GY(hu:X.A.units+7<dL):YA X xw .NotIn .nin:=OpR.imp ((qe hu).or<|jD hu)<|by
 rintro v u H Q ⟨O,S,x,y,st,rx,ry,h⟩;obtain⟨b,hb,h⟩:=End.map h;have q:=End.ok h st<|ZZ _;rcases Jk ry hb with⟨ds,hy,hb⟩|⟨l,k,ks,hy,rfl,hk,e⟩
 .exact .inl #[O,S,x,ds,b,st,rx,hy,hb,q]
 .obtain⟨p,vs,rfl,hx,r⟩:=hy
  obtain⟨a,xs,rfl,ha,r2⟩:=rx.tup';refine .inr #[p,.ref a,_,rfl,rfl,.inr #[vs,_,a,hx,rfl,by rw[ha,Wq hk r2],rfl],?_]
  rw[UZ r,e];exact q
def ZbN(r:Reps O H ds xs)(q:Ev.at' ds n=aa d):∃w,atI xs n=aa w/\Rep O H d w:=by
 obtain⟨m,q2,q⟩:=da.mp q;obtain⟨w,g,rw'⟩:=r.get q;refine#[w,?_,rw'];unfold atI;rw[r.length,show ixN ds.length n=aa m from q2]
 exact g
def Zc3(ha:CE X xw C a i)(hb:CE X xw C b j)(hs:zE b):CE X xw C (.Subscript a b pos) (.ix i j):=.mk <| PE.imp (wS (Q6.or ZbL) ha.h hb.h hs) (Xn λ{O H S x y v u Q} st rx ry h=>by
 obtain⟨d,hd,g0⟩:=End.po h;have k:∃ds n,Pv.Yf x=aa ds/\y=.int n/\Ev.at' ds n=aa d:=by
  cases y with
  |int n=>
   cases x with
   |tup ds=>exact#[ds,n,rfl,rfl,hd]
   |lst ds=>exact#[ds,n,rfl,rfl,hd]
   |scr ns=>
    obtain⟨z,e,rfl⟩:=bQ.mp hd;obtain⟨m,q2,q⟩:=da.mp e;refine#[_,n,rfl,rfl,?_];unfold Ev.at';rw[az,q2];show(ns.map Pv.V.int)[m]?=_;rw[aK,q];rfl
   |_=>exact Ev.nos hd
  |_=>cases x<;>exact Ev.nos hd
 obtain⟨ds,n,e,rfl,hn⟩:=k;obtain⟨p,xs,rfl,hp,r⟩:=rx.seq e;obtain⟨w,g,rw'⟩:=ZbN r hn;rw[st.hk]at hp;have q:=End.ok g0 st rw';rcases hp with hp|hp
 .exact .inl #[p,xs,n,w,rfl,ry.int',hp,g,q]
 .exact .inr #[p,xs,n,w,rfl,ry.int',hp,g,q])
def qK:CO X xw C ae ae:=.mk <| PO.imp qB<|by rintro Z H Q ⟨O,l,S,st,lr,h⟩;exact End.ok h st rfl
def qr(h:CE X xw C e i):CO X xw C (aa e) (aa i):=.mk <| PO.imp (Z8 h.h)<|by
 rintro Z H Q ⟨O,l,S,st,lr,h⟩;refine#[O,l,S,st,lr,End.bind (h) λx S1 ρ1 H1 v f1 st1 r1 h1=>?_]
 cases x with|int n=>exact#[n,r1.int',End.ok h1 st1 rfl]|_=>exact False.elim h1
def QA(n d:Nat)(o:Option Int):Ev.sIx n d o=HT.sIx n d o:=by
 cases o with
 |none=>rfl
 |some i=>first|rfl|(rfl)
def yh(r:Reps O H ds xs)(lo hi:Option Int):Reps O H (Pv.Yy ds lo hi) (Yy xs lo hi):=by
 unfold Pv.Yy Yy;rw[QA,QA,r.length];exact(r.drop _).take _
def Zc4{lo hi:Option Expr}{il ih:Option E}(ha:CE X xw C a i)(hl:CO X xw C lo il)(hh:CO X xw C hi ih):CE X xw C (.Subscript a (.Slice lo hi ae p2) pos) (.sl i il ih):=.mk <|
 PE.imp (uj (ZaP.or<|vc.or jI) ha.h hl.h hh.h)<|by
  rintro Z H Q ⟨O,l,S,st,lr,h⟩;refine#[O,l,S,st,lr,End.bind (h) λx S1 ρ1 H1 v f1 st1 r1 h1=>#[ρ1,l,S1,st1,lr.mono f1,h1.bind λy S2 ρ2 H2 u f2 st2 r2 h2=>#[ρ2,l,S2,st2,(lr.mono f1).mono f2,h2.bind λz S3 ρ3 H3 w f3 st3 r3 h3=>?_]]]
  have e1:y=u:=r2;have e2:z=w:=r3;subst e1 e2;have r0:=(r1.mono f2).mono f3;cases x with
  |tup ds=>
   obtain⟨p,xs,rfl,hp,r⟩:=r0.tup';have h':=h3;by_cases hw:HT.sIx xs.length 0 y=0/\HT.sIx xs.length xs.length z=xs.length
   .refine .inr (.inl #[p,xs,rfl,SqT.of hp,hw,End.ok h' st3 ?_])
    have ew:Pv.Yy ds y z=ds:=by
     unfold Pv.Yy;rw[QA,QA,<-r.length,hw.1,hw.2,iJ,Nat.sub_zero,r.length,gI]
    rw[ew];exact YX hp r
   .exact .inl #[p,xs,rfl,SqT.of hp,hw,h'.newT st3<|yh r y z]
  |lst ds=>
   obtain⟨p,xs,rfl,hp,_,r⟩:=r0.lst';exact .inr<|.inr #[p,xs,rfl,SqL.of hp,End.newL (h3) st3<|yh r y z]
  |_=>exact False.elim h3
def Qs(K:ao)(xw:Nat->Hp->Prop)(f:Bf):List V->Hp->VK->Prop:=λvs H Q=>∃O S ds,St3 K O S H/\Reps O H ds vs/\End K xw Rep O H Q (Pv.po (Pv.Xa f ds) S)
def ZJ.imp{r r':List V->Hp->VK->Prop}(h:ZJ X f r)(k:∀vs H Q,r' vs H Q->r vs H Q):ZJ X f r':=λpq s Z H xs us Q I e q=>h pq s Z H xs us Q I e<|k xs H Q q
def vD :∀Z H Q,tE X xw (Pv.pv C<|.blt f is) Z H Q->tCB (Qs X.K xw f) (tA X xw<|Pv.pvs C is) Z H Q:=λZ H Q #[O,l,S,st,lr,h]=>
 #[O,l,S,st,lr,End.bind (h) λxs S1 ρ1 H1 vs f1 st1 r1 h1=>#[ρ1,S1,xs,st1,r1,h1]]
def wM(r:Reps O H [d] vs):∃v,vs=[v]/\Rep O H d v:=by
 obtain⟨v,ws,rfl,a1,b1⟩:=r;exact#[v,by rw[b1],a1]
def yo{d e:D}{vs:List V}(r:Reps O H [d,e] vs):∃v w,vs=[v,w]/\Rep O H d v/\Rep O H e w:=by
 obtain⟨v,ws,rfl,a1,b1⟩:=r;obtain⟨w,rfl,b2⟩:=wM b1;exact#[v,w,rfl,a1,b2]
def U4{rep:Mx->Hp->D->V->Prop}(h:End K xw rep O H Q (Pv.po (Pv.Xa f ds) S))(r:Reps O H ds vs)(h1:f≠.max2:=by decide)(h2:f≠.min2:=by decide):∃d v z,vs=[v]/\Rep O H d v/\Pv.blt1 f d=aa z/\End K xw rep O H Q (.ok z S):=by
 obtain⟨z,hz,g⟩:=End.po h
 match ds,hz with
 |[d],hz=>obtain⟨v,rfl,rv⟩:=wM r;exact#[d,v,z,rfl,rv,hz,g]
 |[x,y],hz=>
  have hz:=hz;cases x<;>first|exact Ev.nos hz|(cases y<;>first|exact Ev.nos hz|(cases f<;>first|exact Ev.nos hz|contradiction))
def ZaK(h:End K xw Rep O H Q (Pv.po (Pv.Xa f ds) S))(r:Reps O H ds vs)(h1:∀d,Pv.blt1 f d=ae):∃m n z,vs=[.int m,.int n]/\Pv.blt2 f (.int m) (.int n)=aa z/\End K xw Rep O H Q (.ok z S):=by
 obtain⟨z,hz,g⟩:=End.po h
 match ds,hz with
 |[d],hz=>exact Ev.nos<|(h1 d).symm.trans hz
 |[x,y],hz=>
  have hz:=hz;cases x<;>first|exact Ev.nos hz|(cases y<;>first|exact Ev.nos hz|(obtain⟨v,w,rfl,r1,r2⟩:=yo r;exact#[_,_,z,by rw[r1.int',r2.int'],hz,g]))
def yG:ZJ X (.builtin "len") (Qs X.K xw .len):=ZJ.imp QY<|by
 rintro vs H Q ⟨O,S,ds,st,r,h⟩;obtain⟨d,v,z,rfl,rv,hz,h⟩:=U4 h r;obtain⟨xs,hx,rfl⟩:=bQ.mp hz;obtain⟨p,ys,rfl,hq,r2⟩:=rv.seq hx;refine#[p,ys,rfl,by rw[<-st.hk];exact hq,?_]
 rw[r2.length];exact End.ok h st<|ZM _
def yC(hc:X.calm=am):ZJ X (.builtin "max") (Qs X.K xw .max2):=ZJ.imp (xQ hc)<|by
 rintro vs H Q ⟨O,S,ds,st,r,h⟩;obtain⟨m,n,z,rfl,hz,h⟩:=ZaK h r λ_=>rfl
 cases hz;exact#[m,n,rfl,End.ok h st<|ZM _]
def zP(hc:X.calm=am):ZJ X (.builtin "min") (Qs X.K xw .min2):=ZJ.imp (xA hc)<|by
 rintro vs H Q ⟨O,S,ds,st,r,h⟩;obtain⟨m,n,z,rfl,hz,h⟩:=ZaK h r λ_=>rfl
 cases hz;exact#[m,n,rfl,End.ok h st<|ZM _]
def yH:ZJ X (.type "int") (Qs X.K xw .toInt):=ZJ.imp xY<|by
 rintro vs H Q ⟨O,S,ds,st,r,h⟩;obtain⟨d,v,z,rfl,r1,hz,h⟩:=U4 h r;cases d with|int m=>cases hz;exact .inl #[m,by rw[r1.int'],End.ok h st<|ZM _]|bl m=>cases hz;exact .inr #[m,by rw[r1.bl'],End.ok h st<|ZM _]|_=>exact Ev.nos hz
def UI:ZJ X (.type "tuple") (Qs X.K xw .tuple):=ZJ.imp V9<|by
 rintro vs H Q ⟨O,S,ds,st,r,h⟩;obtain⟨d,v,z,rfl,r1,hz,h⟩:=U4 h r;cases d with|tup ds=>cases hz;obtain⟨p,xs,rfl,hp,r2⟩:=r1.tup';exact#[p,xs,rfl,.inr #[SqT.of hp,End.ok h st r1]]|lst ds=>cases hz;obtain⟨p,xs,rfl,hp,_,r2⟩:=r1.lst';exact#[p,xs,rfl,.inl #[SqL.of hp,h.newT st r2]]|scr ns=>cases hz;obtain⟨p,rfl,hp⟩:=r1.scr';rw[st.hk]at hp;exact#[p,_,rfl,.inl #[hp.sq,h.newT st<|Reps.ints ns]]|_=>exact Ev.nos hz
def WP{f:Bf}{id:String}{x:bG}{es:List Expr}{is:List E}(hc:ZJ X (.builtin id) (Qs X.K xw f))(hm:X.mg x=ae)(ha:CA X xw C (e::es) is)(hg:Gl X x)(hv:cZ x=aa (.builtin id))(hn:x≠"__name__")(hdb:(x == ("__debug__" : bG))=ap)
  (he:aL (e::es) X.env=(ap,c8 e X.env)::aL es X.env)(hpl:(fN pos<|aL es X.env).any (·.1)=ap):CE X xw C (.Call (.Name x p) (e::es) [] pos) (.blt f is):=.mk <|
 PE.imp (VY hc hg hm hv ha.h hn hdb he hpl) vD
def yW{f:Bf}{id:String}{x:bG}{es:List Expr}{is:List E}(hc:ZJ X (.type id) (Qs X.K xw f))(hm:X.mg x=ae)(ha:CA X xw C (e::es) is)(hg:Gl X x)(hv:cZ x=aa (.type id))(hn:x≠"__name__")(hdb:(x == ("__debug__" : bG))=ap)
  (he:aL (e::es) X.env=(ap,c8 e X.env)::aL es X.env)(hpl:(fN pos<|aL es X.env).any (·.1)=ap):CE X xw C (.Call (.Name x p) (e::es) [] pos) (.blt f is):=.mk <|
 PE.imp (UO hc hg hm hv ha.h hn hdb he hpl) vD
end
section
variable{X:Cx}{xw:Nat->Hp->Prop}{C:Calls}{e a b c:Expr}{i j k:E}{pos p p' p2:iw}
theorem V5:∀{ds:List D}{bs:List Bool},Pv.Z9 ds=aa bs->bs.length=ds.length/\∀j d,ds[j]?=aa d->Pv.WV d=aa (bs.getD j ap)
 |[],bs,h=>by cases h;exact#[rfl,λj d e=>by simp at e]
 |d::ds,bs,h=>by
  unfold Pv.Z9 at h;cases q1:Pv.WV d with
  |none=>rw[q1]at h;cases h
  |some b=>
   cases q2:Pv.Z9 ds with
   |none=>rw[q1,q2]at h;cases h
   |some cs=>
    rw[q1,q2]at h;cases h;obtain⟨l,ih⟩:=V5 q2;refine#[by rw[aS,aS,l],λj d' e=>?_]
    cases j with|zero=>simp at e;subst e;simpa using q1|succ j=>simpa using ih j d' (by simpa using e)
def y4(bs:List Bool):(aM bs.length).all (λj=>bs.getD j ap)=bs.all id:=by
 rw[bU,aT,aT]
 constructor
 .intro h b hb
  obtain⟨j,hj,e⟩:=bB hb;have:=h j<|aU.mpr hj
  simpa[af hj,e]using this
 .intro h j hj
  have hj':=aU.mp hj
  simpa[af hj']using h bs[j]<|aV hj'
def QN(r:Rep O H d v)(e:ZA v u)(h:Pv.WV d=aa n)(s:aw)(Q:Bool->aw->Prop)(E:al->aw->Prop)(q:Q n s) :
  aW (aQ prog w) A (truthy u) Q E s:=by
 cases d with
 |non=>cases r.non';cases e;cases h;exact truthy_none q
 |bl b=>cases r.bl';cases e;cases h;exact fm q
 |int m=>
  cases r.int';obtain⟨t,rfl⟩:=e;have h':=ag h;refine mF ?_;have:(m != 0)=n:=by
   rw[<-h'];by_cases z:m=0
   .subst z;rfl
   .rw[T5 z];exact bne_iff_ne.mpr z
  rw[this];exact q
 |_=>cases h
def xo(hc:X.calm=am):ZJ X (.builtin "all") (λvs H Q=>∃O ds v bs,vs=[v]/\Rep O H (.lst ds) v/\Pv.Z9 ds=aa bs/\Q (.bl<|bs.all id) H):=by
 intro pq s Z H vs us Q I r h;obtain⟨O,ds,v,bs,rfl,rs,hb,q⟩:=h;obtain⟨p,xs,rfl,hx,_,rx⟩:=rs.lst';obtain⟨u,rfl,ru⟩:=V4 r;cases ru;obtain⟨its,rv,pl,hz⟩:=I.list<|SqL.of hx;obtain⟨lb,tb⟩:=V5 hb;have hlt:p<s.heap.objs.size:=by obtain⟨_,e,_⟩:=pl.isList;exact aF e
 have hlen:its.toArray.size=bs.length:=by rw[ax,<-rv.length,rx.length,lb]
 refine call_all_walk<|fu pl.isList #[s.heap.objs.size,[s.heap.objs.size,p],[s.heap.objs.size],its.toArray.size,(λi v=>its.toArray[i]?=aa v),(λi h=>h.IsListIter s.heap.objs.size p i/\h.IsList p its.toArray),λj=>bs.getD j ap,rfl,Walks.list (A:=X.A.in1) (I.ok.hd hc) s.heap.objs.size p (bv hlt) its.toArray,#[#[_,aJ _ rfl,rfl,rfl],pl.isList.push _],?_,?_]
 .intro j v s' Q' E' hv hQ'
  have hj:its[j]?=aa v:=by simpa using hv
  have jl:j<ds.length:=by
   have:=(bc.mp hj).1;rw[<-rv.length,rx.length]at this;exact this
  obtain⟨w',g,r'⟩:=rx.get<|af jl;obtain⟨u',g',ru'⟩:=rv.get g;rw[hj]at g';cases g';exact QN r' ru' (tb j _<|af jl) s' Q' E' hQ'
 .intro h' tk hk
  rw[hlen,y4];have kp:=λb o e=>hk b o (λhm=>by
   have:b=s.heap.objs.size:=by simpa using hm
   exact T7 (this▸aF e)<|br _)<|aq _ e
  exact#[.bl<|bs.all id,H,I.kept (t':=tk) kp,rfl,q]
def zX(hc:X.calm=am):ZJ X (.builtin "all") (Qs X.K xw .all):=ZJ.imp (xo hc)<|by
 rintro vs H Q ⟨O,S,ds,st,r,h⟩;obtain⟨d,v,z,rfl,r1,hz,h⟩:=U4 h r;cases d with|lst ds=>obtain⟨bs,hb,rfl⟩:=bQ.mp hz;exact#[O,ds,v,bs,rfl,r1,hb,End.ok h st<|ZZ _]|_=>exact Ev.nos hz
noncomputable def ZC:Ty->String
 |.int=>"int" | .bool=>"bool" | .str=>"str" | .tuple=>"tuple" | .list=>"list" | .dict=>"dict" | .cls _=>""
def G8{K:ao}{O:Mx}{H:Hp}{x:D}{v:V}{t:Ty}{n:Bool}(rx:Rep O H x v)(ht:∀m,t≠.cls m)(h:Pv.Y8 x t=aa n) :
  ∃tv,TyOf K H v tv/\lJ K tv (.type<|ZC t)=aa n:=by
 cases x with
 |non=>rw[rx.non'];refine#[_,.non,?_];cases h;cases t<;>first|rfl|exact T7 rfl<|ht _
 |bl b=>rw[rx.bl'];refine#[_,.bl b,?_];cases h;cases t<;>first|rfl|exact T7 rfl<|ht _
 |int b=>rw[rx.int'];refine#[_,.int b,?_];cases h;cases t<;>first|rfl|exact T7 rfl<|ht _
 |str b=>rw[rx.str'];refine#[_,.str b,?_];cases h;cases t<;>first|rfl|exact T7 rfl<|ht _
 |tup ds=>
  obtain⟨p,xs,rfl,hp,_⟩:=rx.tup';refine#[_,.tup hp,?_];cases h;cases t<;>first|rfl|exact T7 rfl<|ht _
 |lst ds=>
  obtain⟨p,xs,rfl,hp,_⟩:=rx.lst';refine#[_,.lst hp,?_];cases h;cases t<;>first|rfl|exact T7 rfl<|ht _
 |dct o=>
  cases o with
  |some _=>exact Ev.nos h
  |none=>
   obtain⟨p,rfl,_,e⟩:=rx.dct';refine#[_,.dK e,?_];cases h;cases t<;>first|rfl|exact T7 rfl<|ht _
 |_=>exact Ev.nos h
def vy(T:String):ZJ X (.builtin "isinstance") (λvs H Q=>∃v tv n,vs=[v,.ty T]/\TyOf X.K H v tv/\lJ X.K tv (.type T)=aa n/\Q (.bl n) H):=by
 intro pq s Z H vs us Q I r h;obtain⟨v,tv,n,rfl,ty,e,q⟩:=h;obtain⟨u,w',rfl,r1,r2⟩:=Gz r;cases r2;exact xp I r1 ty e λtk=>#[.bl n,H,I.tok tk,rfl,q]
def Qn{T:bG}{t:Ty}(ht:∀m,t≠.cls m)(hm:X.mg "isinstance" = ae)(hmT:X.mg T=ae)(ha:CE X xw C a i)(hg:Gl X "isinstance")(hgT:Gl X T)(hvT:cZ T=aa (.type<|ZC t))(hnT:T≠"__name__")(hdT:(T == ("__debug__" : bG))=ap)
  (hs1:aL [a,.Name T p2] X.env=(ap,c8 a X.env)::aL [.Name T p2] X.env)(hs2:aL [.Name T p2] X.env=(ap,c8 (.Name T p2) X.env)::aL [] X.env)(hpl:(fN pos<|aL [.Name T p2] X.env).any (·.1)=ap) :
  CE X xw C (.Call (.Name "isinstance" p) [a,.Name T p2] [] pos) (.isi i [t]):=.mk <|
 PE.imp (VY (vy<|ZC t) hg hm (by rfl) (YY ha.h (YY (Qy (v:=.ty<|ZC t) hgT hmT hvT rfl hnT hdT) QL hs2) hs1) (by decide) (by decide) hs1 hpl)<|by
  rintro Z H Q ⟨O,l,S,st,lr,h⟩;refine#[O,l,S,st,lr,End.bind (show End X.K xw Rep O H Q ((Pv.pv C i l S).bind _)from h) λx S1 ρ1 H1 v f1 st1 r1 h1=>?_]
  obtain⟨n,hn,h2⟩:=End.ob h1;have hn':Pv.Y8 x t=aa n:=by
   unfold Pv.Z7 at hn;cases q:Pv.Y8 x t with|none=>rw[q]at hn;cases hn|some m=>rw[q]at hn;cases m<;>exact hn
  obtain⟨tv,ty,e⟩:=G8 r1 ht hn';exact#[v,tv,n,rfl,ty,e,End.ok h2 st1<|ZZ _]
def Zdh(P:bC)(w:bN)(K:ao)(a:aI)(tab:List (Int×Int)):Prop:=(a == gD)=ap/\∃f:Int->Option al,(∀h:bY,K.In h->h.MapOf (fS P w) a f)/\∀k,(tab.lookup k=ae->f k=ae)/\∀j,tab.lookup k=aa j->∃t,f k=aa (.int j t)
def Xw(fr:Bool)(H0:Hp)(O:Mx)(H:Hp)(d:D)(v:V):Prop:=Rep O H d v/\(fr=am->∀ds,d=.lst ds->∃a,v=.ref a/\H0 a=ae)
theorem End.fr{K:ao}{xw:Nat->Hp->Prop}{O:Mx}{H H0:Hp}{Q:VK}{r:R D}{fr:Bool}(h:End K xw Rep O H Q r):End K xw (Xw fr H0) O H Q r:=by
 cases r with|ok d S=>exact λρ' H' v f st r=>h ρ' H' v f st r.1|_=>exact h
def spF(K:ao)(C:Calls)(fr:Bool)(n:Nat):Sp:=λvs H Q _=>∃O ds S,St3 K O S H/\Reps O H ds vs/\End K (λ_ _=>False) (Xw fr H) O H Q (C n ds S)
def qu{n kk:Nat}{fr:Bool}{f:aI}{fd:cW}{ps:List bG}{x:bG}{es:List Expr}{is:List E}(F:FnOk X.prog X.w X.K X.mg X.base CX0 kk f fd ps (spF X.K C fr n))(hr:Room kk X.A)(hm:X.mg x=aa (.ref f))(hk:gg X.K (.ref f)=am)(hb:Vz X.K fd ps [])
  (ha:CA X (λ_ _=>False) C (e::es) is)(hg:Gl X x:=by rfl)(hdb:(x == ("__debug__" : bG))=ap:=by decide)(he:aL (e::es) X.env=(ap,c8 e X.env)::aL es X.env:=by rfl)(hpl:(fN pos<|aL es X.env).any (·.1)=ap:=by rfl) :
  CE X (λ_ _=>False) C (.Call (.Name x p) (e::es) [] pos) (.call n is):=.mk <|
 PE.imp (yp F hr hg hm hk hb .nil Zam ha.h hdb he hpl) λZ H Q #[O,l,S,st,lr,h]=>
  #[O,l,S,st,lr,End.bind (show End X.K (λ_ _=>False) Rep O H Q ((Pv.pvs C is l S).bind _)from h) λxs S1 ρ1 H1 vs f1 st1 r1 h1=>by
   rw[cE];exact#[ρ1,xs,S1,st1,r1,h1.fr]]
end
abbrev Own:=Nat->Option aI
noncomputable def Mx.ex(O:Mx)(W:Own):Mx:=#[O.K,O.n0,λa=>O.X a\/∃i,W i=aa a,λa h=>.inl<|O.xz a h]
mutual
theorem Rep.flat(hk:ρ'.K=O.K)(k:∀a o,H a=aa o->(∀xs,o≠.lst xs)->(∀vs,o≠.dT vs)->H' a=aa o):∀{d:D}{v:V},d.flat=am->Rep O H d v->Rep ρ' H' d v
 |.non,_,_,h|.bl _,_,_,h|.int _,_,_,h|.str _,_,_,h=>by exact h
 |.tup ds,v,f,h=>by
  obtain⟨a,xs,e,t,r⟩:=h;exact#[a,xs,e,k a _ t (λ_ z=>by cases z) (λ_ z=>by cases z),r.flat hk k (by exact f)]
 |.scr ns,v,_,h=>by
  unfold Rep at h ⊢;obtain⟨a,e,t⟩:=h;rw[hk];refine#[a,e,?_];rcases t with⟨o,t⟩|t
  .exact .inl #[o,k a _ t (λ_ z=>by cases z) λ_ z=>by cases z]
  .exact .inr t
 |.lst _,_,f,_|.drw,_,f,_|.dct _,_,f,_|.dow _,_,f,_=>by cases f
theorem Reps.flat(hk:ρ'.K=O.K)(k:∀a o,H a=aa o->(∀xs,o≠.lst xs)->(∀vs,o≠.dT vs)->H' a=aa o):∀{ds:List D}{xs:List V},Pv.WL ds=am->Reps O H ds xs->Reps ρ' H' ds xs
 |[],_,_,h=>by exact h
 |d::ds,xs,f,h=>by
  obtain⟨v,vs,e,r,rs⟩:=h;have f:=(aC _ _).mp f;exact#[v,vs,e,r.flat hk k f.1,rs.flat hk k f.2]
end
def Xc(O:Mx)(H:Hp)(a:aI):D->Prop
 |.lst xs=>∃us,H a=aa (.lst us)/\Reps O H xs us
 |.dow ks=>∃vs,H a=aa (.dT vs)/\vs.map (·.1)=ks.map (·.map dJ)
 |_=>False
def Xc.ob{O:Mx}{H:Hp}{a:aI}{d:D}(h:Xc O H a d):(∃us,H a=aa (.lst us))\/∃vs,H a=aa (.dT vs):=by
 cases d with|lst xs=>obtain⟨us,e,_⟩:=h;exact .inl #[us,e]|dow ks=>obtain⟨vs,e,_⟩:=h;exact .inr #[vs,e]|_=>exact h.elim
def Xc.ne{O:Mx}{H:Hp}{a:aI}{d:D}(h:Xc O H a d):H a≠ae:=by
 rcases h.ob with⟨_,z⟩|⟨_,z⟩<;>(rw[z];intro q;cases q)
def Xc.rep{O:Mx}{H:Hp}{a:aI}{d:D}(h:Xc O H a d)(x:¬O.X a):Rep O H d (.ref a):=by
 cases d with|lst xs=>obtain⟨us,e,r⟩:=h;exact XW e x r|dow ks=>obtain⟨vs,e,q⟩:=h;unfold Rep;exact#[a,vs,rfl,e,x,q]|_=>exact h.elim
theorem Xc.lat{O ρ':Mx}{H H':Hp}{a:aI}{d:D}(h:Xc O H a d)(f:Lat O H ρ' H')(e:H' a=H a):Xc ρ' H' a d:=by
 cases d with|lst xs=>obtain⟨us,q,r⟩:=h;exact#[us,e.trans q,r.lat f]|dow ks=>obtain⟨vs,q,r⟩:=h;exact#[vs,e.trans q,r]|_=>exact h
structure Eu(O:Mx)(H0:Hp)(W:Own)(l:Lc)(os:List Nat)(Z:L2.St)(H:Hp):Prop where
 fut:Fut O H0 O H
 xd:∀a,O.X a->H0 a≠ae
 len:l.length=Z.length
 osW:∀i,os.contains i=(W i).isSome
 inj:∀i j a,W i=aa a->W j=aa a->i=j
 new:∀i a,W i=aa a->H0 a=ae
 own:∀i a,W i=aa a->∃d,l[i]?=aa (aa d)/\Z[i]?=aa (aa<|.ref a)/\Xc (O.ex W) H a d
 val:∀(i:Nat)(d:D),l[i]?=aa (aa d)->W i=ae->∃v,Z[i]?=aa (aa v)/\Rep (O.ex W) H d v
section
variable{K:ao}{O:Mx}{H0 H H':Hp}{W W':Own}{l:Lc}{os:List Nat}{Z:L2.St}{S:Zq}
def Lat.unex:Lat (O.ex W) H O H:=#[rfl,rfl,λ_ _ h _ _ _=>h,λ_ _ x=>.inl x]
theorem Fut.ex(f:Fut O H O H'):Fut (O.ex W) H (O.ex W) H':=#[rfl,f.keep]
def St3.unex(st:St3 K (O.ex W) S H):St3 K O S H:=#[st.hk,λa x=>st.xd a<|.inl x,st.dw,st.tb]
def Eu.nx(h:Eu O H0 W l os Z H)(e:W i=aa a):¬O.X a:=λz=>h.xd a z<|h.new i a e
theorem Eu.st(h:Eu O H0 W l os Z H)(st:St3 K O S H):St3 K (O.ex W) S H:=
 #[st.hk,λa x=>x.elim (st.xd a) λ#[i,e]=>(let #[_,_,_,z]:=h.own i a e;z.ne),st.dw,st.tb]
def ZaJ(f:Fut O H O H')(x:¬O.X a)(h:H a=aa o)(n:∀ps,o≠.tbl ps:=by intro _ z;cases z):H' a=aa o:=(f.keep a o h).elim id λz=>z.elim (λz=>T7 (O.xz a z.1) x)<|by rintro ⟨⟨ps,e⟩,_⟩;exact T7 e<|n ps
def Eu.all(h:Eu O H0 W l os Z H):LocR O H l Z:=#[h.len,λi v e=>by
 cases q:W i with
 |none=>obtain⟨d,a,b⟩:=h.val i v e q;exact#[d,a,b.lat Lat.unex]
 |some n=>
  obtain⟨d,a,c,r⟩:=h.own i n q;rw[a]at e;cases e;exact#[_,c,(r.lat Lat.unex rfl).rep<|h.nx q]]
def vd(e:(Pv.hide os l)[i]?=aa (aa v)):l[i]?=aa (aa v)/\os.contains i=ap:=by
 unfold Pv.hide at e;rw[gS]at e;cases q:l[i]? with
 |none=>rw[q]at e;cases e
 |some o=>
  rw[q]at e;have e':(if os.contains i=am then ae else o)=aa v:=ag e
  by_cases c:os.contains i=am
  .rw[T9 c]at e';cases e'
  .rw[T8 c]at e';exact#[by rw[e'],by simpa using c]
def hide_nil:Pv.hide [] l=l:=by
 unfold Pv.hide;refine bV λi=>?_
 rw[gS];cases l[i]?<;>rfl
def Eu.nW(h:Eu O H0 W l os Z H){i:Nat}(b:os.contains i=ap):W i=ae:=by
 rw[h.osW]at b;cases q:W i with|none=>rfl|some _=>rw[q]at b;cases b
def Eu.hid(h:Eu O H0 W l os Z H):LocR (O.ex W) H (Pv.hide os l) Z:=#[by unfold Pv.hide;rw[List.length_mapIdx];exact h.len,λi v e=>by
 obtain⟨a,b⟩:=vd e;exact h.val i v a<|h.nW b]
theorem Eu.mono(h:Eu O H0 W l os Z H)(f:Fut O H O H'):Eu O H0 W l os Z H':=
 #[h.fut.trans f,h.xd,h.len,h.osW,h.inj,h.new,λi a q=>by
  obtain⟨d,p,c,r⟩:=h.own i a q;exact#[d,p,c,r.lat f.ex.lat (by rcases r.ob with⟨_,e⟩|⟨_,e⟩<;>rw[ZaJ f (h.nx q) e,e])],λi v a b=>by
  obtain⟨d,c,r⟩:=h.val i v a b;exact#[d,c,r.mono f.ex]]
def QM{B:Type}{l:List (Option B)}{i j:Nat}{o:Option B}{v:B}(e:(l.set i o)[j]?=aa (aa v)):(i=j/\o=aa v/\i<l.length)\/(i≠j/\l[j]?=aa (aa v)):=by
 rw[m5]at e;by_cases c:i=j
 .rw[T9 c]at e
  by_cases z:i<l.length
  .rw[T9 z]at e;exact .inl #[c,ag e,z]
  .rw[T8 z]at e;cases e
 .rw[T8 c]at e;exact .inr #[c,e]
theorem Eu.set{i:Nat}{o:Option D}{v:V}(h:Eu O H0 W l os Z H)(hi:os.contains i=ap)(r:∀d,o=aa d->Rep (O.ex W) H d v):Eu O H0 W (l.set i o) os (Z.set i<|aa v) H:=by
 have hw:=h.nW hi;refine#[h.fut,h.xd,by rw[b4,b4];exact h.len,h.osW,h.inj,h.new,λj n q=>?_,λj w e q=>?_]
 .obtain⟨d,a,c,e⟩:=h.own j n q
  have ij:i≠j:=λz=>by rw[z,q]at hw;cases hw
  exact#[d,by rw[bt ij];exact a,by rw[bt ij];exact c,e]
 .rcases QM e with⟨rfl,z,hl⟩|⟨c,z⟩
  .exact#[v,b8 (by rw[<-h.len];exact hl),r w z]
  .rw[bt c];exact h.val j w z q
noncomputable def Vx:List Nat->List V->L2.St->L2.St
 |i::t,x::xs,Z=>Vx t xs<|Z.set i<|aa x
 |_,_,Z=>Z
theorem Eu.fill:∀{t:List Nat}{vs:List D}{us:List V}{l l':Lc}{Z:L2.St},Eu O H0 W l os Z H->(t.any os.contains)=ap->Reps (O.ex W) H vs us->Pv.YB t vs l=aa l'->us.length=t.length/\Eu O H0 W l' os (Vx t us Z) H
 |[],[],_,l,l',Z,h,_,r,e=>by rw[r];cases e;exact#[rfl,h]
 |[],_::_,_,_,_,_,_,_,_,e=>by cases e
 |_::_,[],_,_,_,_,_,_,_,e=>by cases e
 |i::t,v::vs,_,l,l',Z,h,ht,r,e=>by
  obtain⟨d,ds,rfl,a,b⟩:=r;rw[ml,Bool.or_eq_false_iff]at ht;obtain⟨z,q⟩:=Eu.fill (h.set ht.1 λ_ z=>by cases z;exact a) ht.2 b e
  exact#[by rw[aS,aS,z],q]
def tGU(K:ao)(t:List Nat):TG:=λv Z H Q=>match t with
 |[i]=>Q (Z.set i<|aa v) H
 |t=>∃a xs,v=.ref a/\(SqT K H a xs\/H a=aa (.lst xs))/\xs.length=t.length/\Q (Vx t xs Z) H
def Eu.assign{Q:L2.St->Hp->Prop}(h:Eu O H0 W l os Z H)(ht:(t.any os.contains)=ap)(r:Rep (O.ex W) H d v)(e:Pv.Zk t d l=aa l')(q:∀σ',Eu O H0 W l' os σ' H->Q σ' H):tGU K t v Z H Q:=by
 have gen:∀t:List Nat,(t.any os.contains)=ap->(match Pv.w6 d with
   |some xs=>Pv.YB t xs l
   |none=>ae)=aa l'->∃a xs,v=.ref a/\(SqT K H a xs\/H a=aa (.lst xs))/\xs.length=t.length/\Q (Vx t xs Z) H:=by
  intro t ht e;cases d with|tup vs=>obtain⟨p,ds,rfl,hp,rs⟩:=r.tup';obtain⟨z,y⟩:=h.fill ht rs e;exact#[p,ds,rfl,.inl<|SqT.of hp,z,q _ y]|lst vs=>obtain⟨p,ds,rfl,hp,_,rs⟩:=r.lst';obtain⟨z,y⟩:=h.fill ht rs e;exact#[p,ds,rfl,.inr hp,z,q _ y]|_=>cases e
 match t,ht,e with
 |[i],ht,e=>cases e;exact q _<|h.set (by simpa using ht) λ_ z=>by cases z;exact r
 |[],ht,e=>exact gen [] ht e
 |i::j::t,ht,e=>exact gen (i::j::t) ht e
noncomputable def noW(W:Own)(i:Nat):Own:=λj=>if j=i then ae else W j
def Xs{i j:Nat}{a:aI}(z:noW W i j=aa a):j≠i/\W j=aa a:=by
 unfold noW at z;by_cases c:j=i
 .rw[T9 c]at z;cases z
 .rw[T8 c]at z;exact#[c,z]
theorem Lat.noW{i:Nat}:Lat (O.ex W) H (O.ex<|noW W i) H:=#[rfl,rfl,λ_ _ h _ _ _=>h,λ_ _ x=>x.elim .inl λ#[j,e]=>.inr #[j,(Xs e).2]]
def Vv{i:Nat}(h:∀i,os.contains i=(W i).isSome)(j:Nat):(os.filter (· != i)).contains j=(noW W i j).isSome:=by
 unfold noW;by_cases c:j=i
 .simp[c]
 .simp only[c,if_false]
  rw[<-h j,bU,eg,eg,fg];simp[c]
def Eu.drop{i:Nat}{o:Option D}{v:V}(h:Eu O H0 W l os Z H)(r:∀d,o=aa d->Rep (O.ex<|noW W i) H d v):Eu O H0 (noW W i) (l.set i o) (os.filter (· != i)) (Z.set i<|aa v) H:=by
 refine#[h.fut,h.xd,by rw[b4,b4];exact h.len,Vv h.osW,λa b n x y=>h.inj a b n (Xs x).2 (Xs y).2,λj n z=>h.new j n (Xs z).2,λj n z=>?_,λj w e z=>?_]
 .obtain⟨d,a,c,e⟩:=h.own j n (Xs z).2
  have ij:i≠j:=Ne.symm (Xs z).1;exact#[d,by rw[bt ij];exact a,by rw[bt ij];exact c,e.lat Lat.noW rfl]
 .rcases QM e with⟨rfl,e,hl⟩|⟨c,e⟩
  .exact#[v,b8 (by rw[<-h.len];exact hl),r w e]
  .rw[bt c]
   unfold Sd.noW at z;rw[T8<|Ne.symm c]at z;obtain⟨d',a,b⟩:=h.val j w e z;exact#[d',a,b.lat Lat.noW]
noncomputable def Qu(W:Own)(i:Nat)(a:aI):Own:=λj=>if j=i then aa a else W j
def Eu.takeO{i:Nat}{a:aI}{d:D}(h:Eu O H0 W l os Z H)(hd:∀a,O.X a->H a≠ae)(f:Fut O H O H')(hn:H a=ae)(hx:¬(O.ex W).X a)(r:Xc (O.ex<|Qu W i a) H' a d)(hi:i<l.length) :
  Eu O H0 (Qu W i a) (l.set i<|aa d) (i::os.filter (· != i)) (Z.set i<|aa<|.ref a) H':=by
 have h1:=h.mono f;have get:∀{j m},Qu W i a j=aa m->(j=i/\a=m)\/(j≠i/\W j=aa m):=λ{j m} z=>by
  unfold Qu at z;by_cases c:j=i
  .rw[T9 c]at z;exact .inl #[c,ag z]
  .rw[T8 c]at z;exact .inr #[c,z]
 have na:H0 a=ae:=h.fut.new hn hd;have lt:Lat (O.ex W) H (O.ex<|Qu W i a) H':=#[rfl,rfl,f.ex.lat.keep',λb hb x=>by
  rcases x with x|⟨j,x⟩
  .exact .inl x
  .rcases get x with⟨_,z⟩|⟨_,z⟩
   .exact T7 hn<|z▸hb
   .exact .inr #[j,z]]
 refine#[h1.fut,h.xd,by rw[b4,b4];exact h.len,λj=>?_,λp q m x y=>?_,λj m z=>?_,λj m z=>?_,λj w q z=>?_]
 .have:=Vv (i:=i) h.osW j
  unfold Qu;by_cases c:j=i
  .simp[c]
  .unfold noW at this
   rw[T8 c]at this ⊢;rw[mN,this,beq_eq_false_iff_ne.mpr c,kj]
 .rcases get x with⟨x1,x2⟩|⟨x1,x2⟩<;>rcases get y with⟨y1,y2⟩|⟨y1,y2⟩
  .rw[x1,y1]
  .exact T7 (.inr #[q,x2▸y2]) hx
  .exact T7 (.inr #[p,y2▸x2]) hx
  .exact h.inj p q m x2 y2
 .rcases get z with⟨_,z⟩|⟨_,z⟩
  .exact z▸na
  .exact h.new j m z
 .rcases get z with⟨z1,z2⟩|⟨z1,z2⟩
  .subst z1 z2
   exact#[d,b8 hi,b8 (by rw[<-h.len];exact hi),r]
  .obtain⟨d',p,c,q⟩:=h.own j m z2
   exact#[d',by rw[bt<|Ne.symm z1];exact p,by rw[bt<|Ne.symm z1];exact c,q.lat lt (by rcases q.ob with⟨_,e⟩|⟨_,e⟩<;>rw[ZaJ f (h.nx z2) e,e])]
 .unfold Qu at z
  by_cases c:j=i
  .rw[T9 c]at z;cases z
  .rw[T8 c]at z
   rw[bt<|Ne.symm c]at q ⊢;obtain⟨d,p,b⟩:=h.val j w q z;exact#[d,p,b.lat lt]
def Eu.take(h:Eu O H0 W l os Z H)(hd:∀a,O.X a->H a≠ae)(f:Fut O H O H')(hn:H a=ae)(hf:Pv.WL xs=am)(r:Rep (O.ex W) H' (.lst xs) (.ref a))(hi:i<l.length) :
  Eu O H0 (Qu W i a) (l.set i<|aa<|.lst xs) (i::os.filter (· != i)) (Z.set i<|aa<|.ref a) H':=by
 obtain⟨_,us,en,hs,hx,rs⟩:=r.lst';cases en;exact h.takeO (d:=.lst xs) hd f hn hx #[us,hs,rs.flat (O:=O.ex W) (ρ':=O.ex<|Qu W i a) rfl (λ_ _ z _ _=>z) hf] hi
structure Base(O:Mx)(H0 H1:Hp):Prop where
 fut:Fut O H0 O H1
 dom:∀a,H1 a=ae->H0 a=ae
def Eu.rebase(b:Base O H0 H1)(x:∀a,O.X a->H0 a≠ae)(h:Eu O H1 W l os Z H):Eu O H0 W l os Z H:=#[b.fut.trans h.fut,x,h.len,h.osW,h.inj,λi a e=>b.dom a<|h.new i a e,h.own,h.val]
open Classical in
noncomputable def Ua(H:Hp)(W:Own):Hp:=λa=>if ∃i,W i=aa a then ae else H a
def Eu.off(h:Eu O H0 W l os Z H)(hd:∀a,O.X a->H a≠ae):Base O H0 (Ua H W)/\Eu O (Ua H W) W l os Z H:=by
 have nw:∀a,H0 a≠ae->Ua H W a=H a:=λa z=>T8 λ#[i,e]=>z<|h.new i a e
 refine#[#[#[rfl,λa o e=>?_],λa e=>?_],#[rfl,λa o e=>.inl ?_],λa x=>?_,h.len,h.osW,h.inj,λi a e=>T9 #[i,e],h.own,h.val]
 .rw[nw a (by rw[e];intro z;cases z)];exact h.fut.keep a o e
 .cases q:H0 a with
  |none=>rfl
  |some o=>
   rw[nw a<|by rw[q];intro z;cases z]at e
   rw[h.fut.new e hd]at q;cases q
 .unfold Ua at e
  split at e
  .cases e
  .exact e
 .rw[nw a<|h.xd a x];exact hd a x
def Eu.walk(h:Eu O H0 W l os Z H)(h':Eu O (Ua H W) W' l' os' σ' H'):Lat (O.ex W) H (O.ex W') H':=by
 refine#[rfl,rfl,λa o e x n nd=>?_,λa e x=>?_]
 .have nw:¬∃i,W i=aa a:=by
   rintro ⟨i,w⟩;obtain⟨_,_,_,z⟩:=h.own i a w;rcases z.ob with⟨us,z⟩|⟨us,z⟩<;>rw[e]at z
   .exact x us (ag z)<|.inr #[i,w]
   .exact nd us (ag z)<|.inr #[i,w]
  rcases h'.fut.keep a o (by unfold Ua;rw[T8 nw];exact e)with z|⟨z,xs,q⟩|⟨⟨ps,q⟩,_⟩
  .exact z
  .exact T7 (.inl<|O.xz a z)<|x xs q
  .exact T7 q<|n ps
 .rcases x with x|⟨i,x⟩
  .exact .inl x
  .have:=h'.new i a x
   unfold Ua at this;split at this
   .exact .inr ‹_›
   .exact T7 this e
end
section
variable(X:Cx)(xw:Nat->Hp->Prop)(C:Calls)
def tF(f:Lc->Zq->R D):TE:=λZ H Q=>∃O l S,St3 X.K O S H/\LocR O H l Z/\End X.K xw (Xw am H) O H Q (f l S)
structure CF(e:Expr)(i:E):Prop where
 h:PE X e (tF X xw<|Pv.pv C i)
end
def CF.ce{X:Cx}{xw:Nat->Hp->Prop}{C:Calls}{e:Expr}{i:E}(h:CF X xw C e i):CE X xw C e i:=.mk <| PE.imp h.h<|by rintro Z H Q ⟨O,l,S,st,lr,h⟩;exact #[O,l,S,st,lr,h.fr]
def End.newF{K:ao}{xw:Nat->Hp->Prop}{O:Mx}{H0 H:Hp}{Q:VK}{S S0:Zq}{ds:List D}{xs:List V}(h:End K xw (Xw am H0) O H Q (.ok (.lst ds) S))(f:Fut O H0 O H)(s0:St3 K O S0 H0)(st:St3 K O S H)(r:Reps O H ds xs):∀p,H p=ae->Q (.ref p) (upd H p<|.lst xs):=λp hp=>
 h O _ _ (ZN hp) (st.fresh hp) #[XW ZK (st.nx hp)<|r.mono<|ZN hp,λ_ _ _=>#[p,rfl,f.new hp st.xd]]
def vI(K:ao)(xw:Nat->Hp->Prop)(f:Bf):List V->Hp->VK->Prop:=λvs H Q=>∃O S ds,St3 K O S H/\Reps O H ds vs/\∃H0 S0,Fut O H0 O H/\St3 K O S0 H0/\End K xw (Xw am H0) O H Q (Pv.po (Pv.Xa f ds) S)
def qU{xw:Nat->Hp->Prop}:∀Z H Q,tF X xw (Pv.pv C<|.blt f is) Z H Q->tCB (vI X.K xw f) (tA X xw<|Pv.pvs C is) Z H Q:=λZ H Q #[O,l,S,st,lr,h]=>
 #[O,l,S,st,lr,End.bind (h) λxs S1 ρ1 H1 vs f1 st1 r1 h1=>by cases f1.eq;exact#[O,S1,xs,st1,r1,H,S,f1,st,h1]]
def Zac{X:Cx}{xw:Nat->Hp->Prop}{C:Calls}{e:Expr}{pos p:iw}{f:Bf}{id:String}{x:bG}{es:List Expr}{is:List E}(hc:ZJ X (.type id) (vI X.K xw f))(hm:X.mg x=ae)(ha:CA X xw C (e::es) is)(hg:Gl X x)(hv:cZ x=aa (.type id))(hn:x≠"__name__")(hdb:(x == ("__debug__" : bG))=ap)
  (he:aL (e::es) X.env=(ap,c8 e X.env)::aL es X.env)(hpl:(fN pos<|aL es X.env).any (·.1)=ap):CF X xw C (.Call (.Name x p) (e::es) [] pos) (.blt f is):=.mk <|
 PE.imp (UO hc hg hm hv ha.h hn hdb he hpl) qU
def Jn{X:Cx}{xw:Nat->Hp->Prop}:ZJ X (.type "list") (vI X.K xw .list):=ZJ.imp QK<|by
 rintro vs H Q ⟨O,S,ds,st,r,H0,S0,f0,s0,h⟩;obtain⟨d,v,z,rfl,r1,hz,h⟩:=U4 h r;obtain⟨xs,hx,rfl⟩:=bQ.mp hz;obtain⟨p,ys,rfl,hq,r2⟩:=r1.seq hx;exact#[p,ys,rfl,by rw[<-st.hk];exact hq,h.newF f0 s0 st r2]
def Zy(fr:Bool)(K:ao)(xw:Nat->Hp->Prop)(O:Mx)(H0:Hp)(D:Ends):R Pv.FlV->Prop
 |.ok (.nx l os) S=>∀H' σ' W',St3 K O S H'->Eu O H0 W' l os σ' H'->D.nx σ' H'
 |.ok (.brk l os) S=>∀H' σ' W',St3 K O S H'->Eu O H0 W' l os σ' H'->D.bk σ' H'
 |.ok (.cnt l os) S=>∀H' σ' W',St3 K O S H'->Eu O H0 W' l os σ' H'->D.ct σ' H'
 |.ok (.ret d) S=>∀H' v,Fut O H0 O H'->St3 K O S H'->Xw fr H0 O H' d v->D.rt v H'
 |.ex c S=>∀H',Fut O H0 O H'->St3 K O S H'->xw c H'
 |.no=>False
section
variable{fr:Bool}{K:ao}{xw:Nat->Hp->Prop}{O:Mx}{H0 H:Hp}{B β:Type}{rep:Mx->Hp->B->β->Prop}{D:Ends}{W:Own}{l:Lc}{os:List Nat}{Z:L2.St}{S:Zq}
theorem Zy.bind{Q1:β->Hp->Prop}(he:Eu O H0 W l os Z H)(h:Zy fr K xw O H0 D (r.bind f))
  (k:∀d S H1 v,Fut O H O H1->St3 K O S H1->rep O H1 d v->Zy fr K xw O H0 D (f d S)->Q1 v H1):End K xw rep O H Q1 r:=by
 cases r with|ok d S=>exact λρ1 H1 v g st r=>by cases g.eq;exact k d S H1 v g st r h|ex c S=>exact λρ1 H1 g st=>by cases g.eq;exact h H1 (he.fut.trans g) st|no=>exact h
def Zy.bindW{Q1:β->Hp->Prop}(he:Eu O H0 W l os Z H)(h:Zy fr K xw O H0 D (r.bind f))
  (k:∀d S H1 v,Fut O H O H1->St3 K O S H1->rep (O.ex W) H1 d v->Zy fr K xw O H0 D (f d S)->Q1 v H1):End K xw rep (O.ex W) H Q1 r:=by
 cases r with|ok d S=>exact λρ1 H1 v g st r=>by cases g.eq;exact k d S H1 v #[rfl,g.keep] st.unex r h|ex c S=>exact λρ1 H1 g st=>by cases g.eq;exact h H1 (he.fut.trans #[rfl,g.keep]) st.unex|no=>exact h
def Zy.ob(h:Zy fr K xw O H0 D ((Pv.po o S).bind f)):∃a,o=aa a/\Zy fr K xw O H0 D (f a S):=by
 cases o with|none=>exact h.elim|some a=>exact#[a,rfl,h]
def Zy.guard{c:Prop}[Decidable c](h:Zy fr K xw O H0 D (if c then a else .no)):c/\Zy fr K xw O H0 D a:=by
 split at h
 .exact#[‹_›,h]
 .exact h.elim
def Zy.guardN{c:Prop}[Decidable c](h:Zy fr K xw O H0 D (if c then .no else a)):¬c/\Zy fr K xw O H0 D a:=by
 split at h
 .exact h.elim
 .exact#[‹_›,h]
theorem Zy.rebase(b:Base O H0 H1)(x:∀a,O.X a->H0 a≠ae)(h:Zy fr K xw O H0 D r):Zy fr K xw O H1 D r:=by
 cases r with
 |ok f S=>
  cases f with|nx l os=>exact λH' σ' W' st e=>h H' σ' W' st<|e.rebase b x|brk l os=>exact λH' σ' W' st e=>h H' σ' W' st<|e.rebase b x|cnt l os=>exact λH' σ' W' st e=>h H' σ' W' st<|e.rebase b x|ret d=>exact λH' v f st r=>h H' v (b.fut.trans f) st #[r.1,λz ds y=>let #[a,e,q]:=r.2 z ds y;#[a,e,b.dom a q]]
 |ex c S=>exact λH' f st=>h H' (b.fut.trans f) st
 |no=>exact h
end
section
variable(X:Cx)(xw:Nat->Hp->Prop)(fr:Bool)
def tS3(f:Lc->List Nat->Zq->R Pv.FlV):TS:=λD Z H=>∃O H0 W l os S,St3 X.K O S H/\Eu O H0 W l os Z H/\Zy fr X.K xw O H0 D (f l os S)
variable(C:Calls)(ms:List Nat)
structure CS(st:fE)(s:Sm):Prop where
 h:PS X st (tS3 X xw fr<|Pv.rv C ms s)
structure CSs(st:List fE)(s:List Sm):Prop where
 h:PSs X st (tS3 X xw fr<|Pv.rvs C ms s)
structure CG(tg:Expr)(t:List Nat):Prop where
 h:PG X tg (tGU X.K t)
def ZdV(t:List Nat):TGs:=λvs Z H Q=>vs.length=t.length/\Q (Vx t vs Z) H
structure CGs(tgs:List Expr)(t:List Nat):Prop where
 h:PGs X tgs (ZdV t)
end
def PS.imp(h:PS X e t)(k:∀D Z H,t' D Z H->t D Z H):PS X e t':=λpq s Z H D I q=>h pq s Z H D I<|k D Z H q
def PSs.imp(h:PSs X e t)(k:∀D Z H,t' D Z H->t D Z H):PSs X e t':=λpq s Z H D I q=>h pq s Z H D I<|k D Z H q
def PG.imp(h:PG X e t)(k:∀v Z H Q,t' v Z H Q->t v Z H Q):PG X e t':=λpq s Z H v u Q I r q=>h pq s Z H v u Q I r<|k v Z H Q q
def PGs.imp(h:PGs X e t)(k:∀v Z H Q,t' v Z H Q->t v Z H Q):PGs X e t':=λpq s Z H v u Q I r q=>h pq s Z H v u Q I r<|k v Z H Q q
section
variable{X:Cx}{xw:Nat->Hp->Prop}{fr:Bool}{C:Calls}{ns:List Nat}{e a b c:Expr}{i j k:E}{pos p p' p2:iw}{s0:fE}{ss:List fE}{m0:Sm}{ms ms':List Sm}
def ZbG{es:List Expr}{is:List E}(h:CA X xw C es is):CF X xw C (.List es pos) (.lst is):=.mk <| PE.imp (Zcl h.h)<|by
 rintro Z H Q ⟨O,l,S,st,lr,h⟩;rw[Pv.pv]at h;refine#[O,l,S,st,lr,h.bind λxs S1 ρ1 H1 vs f1 st1 r1 h1=>?_]
 obtain⟨hl,h1⟩:=h1.guard;cases f1.eq;exact#[by rw[r1.length,<-Vd];exact hl,h1.newF f1 st st1 r1]
def Zcj:CSs X xw fr C ns [] []:=.mk <| PSs.imp qi<|by rintro D Z H ⟨O,H0,W,l,os,S,st,he,h⟩;exact h H Z W st he
def qX(h1:CS X xw fr C ns s0 m0)(h2:CSs X xw fr C ns ss ms):CSs X xw fr C ns (s0::ss) (m0::ms):=.mk <| PSs.imp (Jw h1.h h2.h)<|by
 rintro D Z H ⟨O,H0,W,l,os,S,st,he,h⟩;refine#[O,H0,W,l,os,S,st,he,?_];rw[Pv.rvs]at h;cases q:Pv.rv C ns m0 l os S with
 |no=>rw[q]at h;exact h
 |ex c S1=>rw[q]at h;exact h
 |ok fl S1=>
  rw[q]at h;cases fl with|nx l1 os1=>exact λH1 σ1 W1 st1 he1=>#[O,H0,W1,l1,os1,S1,st1,he1,h]|_=>exact h
def ZbK(he:CE X xw C e i):CS X xw ap C ns (.Return (aa e) pos) (.ret i):=.mk <| PS.imp (vj he.h)<|by
 rintro D Z H ⟨O,H0,W,l,os,S,st,en,h⟩;rw[Pv.rv]at h;exact#[O,l,S,st,en.all,Zy.bind en h λx S1 H1 v f1 st1 r1 h1=>h1 H1 v (en.fut.trans f1) st1 #[r1,λz=>by cases z]]
def Js{K:ao}{O:Mx}{H0 H:Hp}{W:Own}{l:Lc}{os:List Nat}{Z:L2.St}{S:Zq}{a:aI}(en:Eu O H0 W l os Z H)(st:St3 K O S H)(h:H a=ae):H0 a=ae:=en.fut.new h st.xd
def qv(he:CF X xw C e i):CS X xw fr C ns (.Return (aa e) pos) (.ret i):=.mk <| PS.imp (vj he.h)<|by
 rintro D Z H ⟨O,H0,W,l,os,S,st,en,h⟩;rw[Pv.rv]at h;exact#[O,l,S,st,en.all,Zy.bind en h λx S1 H1 v f1 st1 r1 h1=>h1 H1 v (en.fut.trans f1) st1 #[r1.1,λ_ ds y=>let #[a,e,q]:=r1.2 rfl ds y;#[a,e,Js en st q]]]
def jy{n:Nat}{is:List E}(he:CE X xw C e (.call n is))(hs:kB e ae pos.line X.env=c7 ap):CS X xw fr C ns (.Expr e pos) (.ex<|.call n is):=.mk <| PS.imp (qF he.h hs) λD Z H #[O,H0,W,l,os,S,st,en,h]=>
 #[O,l,S,st,en.all,Zy.bind en (show Zy fr X.K xw O H0 D ((Pv.pv C (.call n is) l S).bind λ_ s=>.ok (.nx l os) s)from h) λx S1 H1 v f1 st1 r1 h1=>h1 H1 Z W st1<|en.mono f1]
def Zc1{sa sb:List fE}(hc:CT X xw C c k)(ha:CSs X xw fr C ns sa ms)(hb:CSs X xw fr C ns sb ms'):CS X xw fr C ns (.If c sa sb pos) (.ite k ms ms'):=.mk <| PS.imp (Zdf hc.h ha.h hb.h)<|by
 rintro D Z H ⟨O,H0,W,l,os,S,st,en,h⟩;rw[Pv.rv]at h;refine#[O,l,S,st,en.all,Zy.bind en h λx S1 H1 v f1 st1 r1 h1=>?_]
 have e1:x=v:=r1;subst e1;cases x with|true=>exact#[O,H0,W,l,os,S1,st1,en.mono f1,h1]|false=>exact#[O,H0,W,l,os,S1,st1,en.mono f1,h1]
def jU{n:Nat}{x:bG}(hN:X.N.Nodup)(hi:X.N[n]?=aa x)(hx:L2.Loc X.env.scope x)(hf:X.fn x=am\/X.env.scope.names.lookup x=aa .local):CG X (.Name x pos) [n]:=.mk <|
 PG.imp (Qj hN hi hx hf) λv Z H Q q=>q
def qD:CGs X [] []:=.mk <| PGs.imp qx<|by
 rintro vs Z H Q ⟨h,q⟩;cases vs with|nil=>exact#[rfl,q]|cons _ _=>cases h
def ve{tgs:List Expr}{n:Nat}{t:List Nat}{x:bG}(hN:X.N.Nodup)(h2:CGs X tgs t)(hi:X.N[n]?=aa x)(hx:L2.Loc X.env.scope x)(hf:X.fn x=am\/X.env.scope.names.lookup x=aa .local)
  (hs:(cc (.Name x pos::tgs) X.env).map (·.2)=dR (.Name x pos) X.env::(cc tgs X.env).map (·.2)):CGs X (.Name x pos::tgs) (n::t):=.mk <|
 PGs.imp (vg (Qj hN hi hx hf) h2.h hs)<|by
  rintro vs Z H Q ⟨h,q⟩;cases vs with|nil=>cases h|cons v vs=>exact#[v,vs,rfl,Nat.succ.inj h,q]
theorem UX{E:al->aw->Prop}(hne:t≠it):∀(n i:Nat)(s:aw)(Q:List al->aw->Prop),s.heap.IsListIter it t i->s.heap.IsList t items->i+n<=items.size->
  (∀h',bY.IsListIter h' it t (i+n)->eZ it s.heap h'->Q ((items.toList.drop i).take n) {s with heap:=h' })->aW (aQ prog w) A (draw (.ref it) n) Q E s
 |0,i,s,Q,hit,_,_,hQ=>by
  exact au (by simpa using hQ s.heap hit<|eZ.refl ..)
 |n+1,i,s,Q,hit,ht,hle,hQ=>by
  have hlt:i<items.size:=by lia
  refine ab<|kQ hit ht (x:=items[i]) (by simp[hlt]) λh₁ hit₁ hs₁=>?_
  refine ab<|bR<|UX hne n (i+1) _ _ hit₁ (ht.extBut hs₁.extBut hne) (by lia) λh₂ hit₂ hs₂=>au ?_
  have hd:items.toList.drop i=items[i]::items.toList.drop (i+1):=by simp[bZ,hlt]
  have:=hQ h₂ (by rw[show i+(n+1)=i+1+n by lia];exact hit₂)<|hs₁.trans hs₂
  rw[hd,List.take_succ_cons]at this;exact this
theorem JZ{E:al->aw->Prop}{x1}{Q:Unit->aw->Prop}(hh:A.handled=ae)(ht:s.heap.IsList t items)
  (hn:(cc elts env).length=items.size)(hstar:(cc elts env).findIdx? (·.1)=ae)
  (h:∀h',i8 s.heap.objs.size s.heap h'->aW (aQ prog w) A (assignInOrder ((cc elts env).map (·.2)) items.toList) Q E {s with heap:=h' }) :
  aW (aQ prog w) A (dR (.Tuple elts x1 pos) env<|.ref t) Q E s:=by
 rw[assign_Tuple];refine ab<|eL ?_;have hlt:t≠s.heap.objs.size:=by obtain⟨o,ho,_⟩:=ht;exact bv<|aF ho
 unfold unpack;rw[hn,hstar];refine ab<|bR ?_;refine ab ?_;refine ab<|lj ht.typeIs slot_list_iter.lookup ?_;refine au ?_;simp only[cP,if_false];refine ab<|bR<|fu ht ?_;refine ab<|bR<|UX hlt items.size 0 _ _ #[_,aJ _ rfl,rfl,rfl] (ht.push _) (by lia) λh₁ hit₁ hs₁=>?_
 have hall:iu items.size (pc 0 items.toList)=items.toList:=by
  rw[iJ];exact b9 (by simp)
 rw[hall];rw[T8 (by simp)]
 have ht₁:=(ht.push _).extBut hs₁.extBut hlt;refine ab<|bR<|lx hh hit₁ ht₁ (by simp) λh₂ he₂=>?_
 simp only[Option.isSome_none,cP,if_false];exact au<|h h₂ λb o hb e=>he₂ b o hb<|hs₁.extBut b o hb<|aq _ e
def gTL(K:ao)(n:Nat)(t:TGs):TG:=λv Z H Q=>∃a xs,v=.ref a/\(SqT K H a xs\/H a=aa (.lst xs))/\xs.length=n/\t xs Z H Q
def ZcI{X:Cx}{pos:iw}{es:List Expr}{k:Nat}{t:TGs}{n:Nat}(hc:X.calm=am)(h:PGs X es t)
  (hn:(cc es X.env).length=n:=by rfl)(hst:(cc es X.env).findIdx? (·.1)=ae:=by rfl):PG X (.Tuple es k pos) (gTL X.K n t):=by
 intro pq s Z H v u Q I r hw;obtain⟨a,xs,e1,hq|hq,hl,hw⟩:=hw
 .exact Zbf hc h hn hst pq s Z H v u Q I r #[a,xs,e1,hq,hl,hw]
 .subst e1
  cases r;obtain⟨its,rv,pl,hz⟩:=I.list<|SqL.of hq;refine JZ (I.ok.hd hc) pl.isList (by simp[hn,<-hl,rv.length]) hst λh' hx=>?_
  have I1:=I.kept (t':=s.toks) λb o e=>hx b o (bv<|aF e) e
  exact h pq _ Z H xs _ Q I1 (by simpa using rv) hw
def Za5{tgs:List Expr}{q2:Nat}{n m:Nat}{r:List Nat}(hc:X.calm=am)(h:CGs X tgs (n::m::r))(hn:(cc tgs X.env).length=(n::m::r).length)(hst:(cc tgs X.env).findIdx? (·.1)=ae):CG X (.Tuple tgs q2 pos) (n::m::r):=.mk <|
 PG.imp (ZcI hc h.h hn hst)<|by rintro v Z H Q ⟨a,xs,e,hp,hl,q⟩;exact #[a,xs,e,hp,hl,hl,q]
def Zy.evA{D:Ends}{K:ao}{O:Mx}{H0 H:Hp}{W:Own}{l:Lc}{os:List Nat}{Z:L2.St}{S:Zq}{f:Pv.V->Zq->R Pv.FlV}{Q1:VK}(z:Bool)(hz:Pv.fresh i=am->z=am)(st:St3 K O S H)(en:Eu O H0 W l os Z H)(h:Zy fr K xw O H0 D ((Pv.pvA C i l os S).bind f))
  (k:∀d S1 H1 v,Fut O H O H1->St3 K O S1 H1->Xw z H (O.ex W) H1 d v->Zy fr K xw O H0 D (f d S1)->Q1 v H1):∃ρ' l' S,St3 K ρ' S H/\LocR ρ' H l' Z/\End K xw (Xw z H) ρ' H Q1 (Pv.pv C i l' S):=by
 have hid:Zy fr K xw O H0 D ((Pv.pv C i (Pv.hide os l) S).bind f)->∃ρ' l' S,St3 K ρ' S H/\LocR ρ' H l' Z/\End K xw (Xw z H) ρ' H Q1 (Pv.pv C i l' S):=λh=>#[O.ex W,Pv.hide os l,S,en.st st,en.hid,Zy.bindW en h k]
 cases os with
 |nil=>exact hid (by rw[hide_nil];exact h)
 |cons o os=>
  have h:Zy fr K xw O H0 D (Pv.PR.bind (match Pv.pv C i (Pv.hide (o::os) l) S with
   |.ok v s=>.ok v s
   |.ex c s=>.ex c s
   |.no=>(Pv.pv C i l S).bind λv s=>if(v.flat||Pv.fresh i&&Pv.zG v)=am then .ok v s else .no) f):=h
  cases q:Pv.pv C i (Pv.hide (o::os) l) S with
  |ok v s=>rw[q]at h;exact hid (by rw[q];exact h)
  |ex c s=>rw[q]at h;exact hid (by rw[q];exact h)
  |no=>
   rw[q]at h;have h:Zy fr K xw O H0 D (((Pv.pv C i l S).bind λv s=>if(v.flat||Pv.fresh i&&Pv.zG v)=am then Pv.PR.ok v s else .no).bind f):=h
   rw[Xo]at h;refine#[O,l,S,st,en.all,Zy.bind en h λd S1 H1 v f1 st1 r1 h1=>?_]
   by_cases c:(d.flat||Pv.fresh i&&Pv.zG d)=am
   case neg=>rw[T8 c]at h1;exact h1.elim
   rw[T9 c]at h1;refine k d S1 H1 v f1 st1 #[?_,r1.2] h1;rcases(lm _ _).mp c with c|c
   .exact Rep.flat (O:=O) (ρ':=O.ex W) rfl (λ_ _ z _ _=>z) c r1.1
   .obtain⟨c1,c2⟩:=(aC _ _).mp c
    cases d with
    |lst xs=>
     obtain⟨a,rfl,ha⟩:=r1.2 (hz c1) xs rfl;obtain⟨_,us,e,hs,hx,rs⟩:=r1.1.lst';cases e;exact XW hs (λx=>x.elim hx λ#[i,w]=>let #[_,_,_,z]:=en.own i a w;T7 ha z.ne)<|rs.flat (O:=O) (ρ':=O.ex W) rfl (λ_ _ z _ _=>z) c2
    |_=>cases c2
def End.unfr{K:ao}{O:Mx}{H H0:Hp}{Q:VK}{r:R D}(h:End K xw (Xw ap H0) O H Q r):End K xw Rep O H Q r:=by
 cases r with|ok d S=>exact λρ' H' v f st r=>h ρ' H' v f st #[r,λz=>by cases z]|_=>exact h
def qm{n:Nat}{tg:Expr}(he:CE X xw C e i)(hg:CG X tg [n])(hf:Pv.fresh i=ap)(hs:eM [tg] e pos.line X.env=c7 ap)(hw:eN [tg] e X.env=c7 ae)
  (h1:(cc [tg] X.env).map (·.2)=[dR tg X.env]):CS X xw fr C ns (.Assign [tg] e pos) (.asg [n] i):=.mk <| PS.imp (Wk he.h hg.h hs hw h1)<|by
 rintro D Z H ⟨O,H0,W,l,os,S,st,en,h⟩;rw[Pv.rv]at h;obtain⟨ρ',l',S',a,b,c⟩:=Zy.evA (Q1:=λx H1=>tGU X.K [n] x Z H1 D.nx) ap (λz=>by rw[hf]at z;cases z) st en h λd S1 H1 v f1 st1 r1 h1=>by
  rw[hf,Bool.and_false,T8 aG]at h1;exact h1 H1 _ _ st1<|(en.mono f1).drop (o:=aa d) λ_ z=>by cases z;exact r1.1.lat Lat.noW
 exact#[ρ',l',S',a,b,c.unfr]
def Za4{D:Ends}{O:Mx}{H0 H:Hp}{W:Own}{l:Lc}{os:List Nat}{Z:L2.St}{S:Zq}{n:Nat}(st:St3 X.K O S H)(en:Eu O H0 W l os Z H)(h:Zy fr X.K xw O H0 D (Pv.rv C ns (.asg [n] i) l os S)):tF X xw (Pv.pv C i) Z H λx H1=>D.nx (Z.set n<|aa x) H1:=by
 rw[Pv.rv]at h;refine Zy.evA am (λ_=>rfl) st en h λd S1 H1 v f1 st1 r1 h1=>?_
 by_cases c:(ns.contains n&&Pv.fresh i)=am
 .rw[T9 c]at h1
  cases d with
  |lst xs=>
   obtain⟨⟨hf,hl⟩,h1⟩:=Zy.guard h1;obtain⟨a,rfl,ha⟩:=r1.2 rfl xs rfl;exact h1 H1 _ _ st1<|en.take st.xd f1 ha hf r1.1 hl
  |_=>exact h1.elim
 .rw[T8 c]at h1
  exact h1 H1 _ _ st1<|(en.mono f1).drop (o:=aa d) λ_ z=>by cases z;exact r1.1.lat Lat.noW
def jO{n:Nat}{tg:Expr}(he:CF X xw C e i)(hg:CG X tg [n])(hs:eM [tg] e pos.line X.env=c7 ap)(hw:eN [tg] e X.env=c7 ae)
  (h1:(cc [tg] X.env).map (·.2)=[dR tg X.env]):CS X xw fr C ns (.Assign [tg] e pos) (.asg [n] i):=.mk <| PS.imp (Wk he.h hg.h hs hw h1)<|by rintro D Z H ⟨O,H0,W,l,os,S,st,en,h⟩;exact Za4 st en h
def ZbY{n m:Nat}{t:List Nat}{tg:Expr}(he:CE X xw C e i)(hg:CG X tg (n::m::t))(hf:Pv.fresh i=ap)(hs:eM [tg] e pos.line X.env=c7 ap)(hw:eN [tg] e X.env=c7 ae)
  (h1:(cc [tg] X.env).map (·.2)=[dR tg X.env]):CS X xw fr C ns (.Assign [tg] e pos) (.asg (n::m::t) i):=.mk <| PS.imp (Wk he.h hg.h hs hw h1)<|by
 rintro D Z H ⟨O,H0,W,l,os,S,st,en,h⟩;rw[Pv.rv]at h
 .obtain⟨ρ',l',S',a,b,c⟩:=Zy.evA (Q1:=λx H1=>tGU X.K (n::m::t) x Z H1 D.nx) ap (λz=>by rw[hf]at z;cases z) st en h λd S1 H1 v f1 st1 r1 h1=>by
   obtain⟨ht,h1⟩:=h1.guardN;obtain⟨l',hl,h1⟩:=Zy.ob h1;exact(en.mono f1).assign (by simpa using ht) r1.1 hl λσ' e'=>h1 H1 σ' W st1 e'
  exact#[ρ',l',S',a,b,c.unfr]
 .intro _ z;cases z
end
section
variable{X:Cx}{xw:Nat->Hp->Prop}{fr:Bool}{C:Calls}{ns:List Nat}{e a b c:Expr}{i j k:E}{pos p p' p2:iw}{s0:fE}{ms ms':List Sm}{n:Nat}{x:bG}
def wB{n:Nat}:CS X (λ_ _=>False) fr C ns s0 (.raise n []):=.mk <| λpq s Z H D I #[O,H0,W,l,os,S,st,en,h]=>
 False.elim ((show Zy fr X.K (λ_ _=>False) O H0 D (.ex n S)from h) H en.fut st)
structure AugOk(X:Cx)(op:oD)(o:Bop):Prop where
 h:∃t:TIp,PIp X op t/\∀(xw:Nat->Hp->Prop) O S H n m Q,St3 X.K O S H->End X.K xw Rep O H Q (Pv.YJ o (.int n) (.int m) S)->t (.int n) (.int m) H Q
def uS:AugOk X .Add .add:=#[_,jN,λxw O S H n m Q st h=>#[n,m,rfl,rfl,End.ok h st<|ZM _]]
def wV{o:Bop}{a b:Int}{S S':Zq}{z:D}(h:Pv.Ud o a b S=.ok z S'):∃y,z=.int y:=by
 unfold Pv.Ud at h;cases o<;>simp only at h<;>first
  |(cases h;exact#[_,rfl])
  |(split at h<;>cases h;exact#[_,rfl])
def ZaQ{op:oD}{o:Bop}(ho:AugOk X op o)(hN:X.N.Nodup)(he:CE X xw C e i)(hi:X.N[n]?=aa x)(hx:L2.Loc X.env.scope x)(hf:X.fn x=am\/X.env.scope.names.lookup x=aa .local) :
  CS X xw fr C ns (.AugAssign (.Name x p) op e pos) (.aug n o i):=.mk <| by
 obtain⟨t,ht,hq⟩:=ho.h;refine PS.imp (Zcp hN hi hx he.h ht hf) λD Z H #[O,H0,W,l,os,S,st,en,h]=>?_
 rw[Pv.rv]at h;obtain⟨c,h⟩:=h.guardN;obtain⟨d,hd,h1⟩:=Zy.ob h;obtain⟨v,hv,rv⟩:=en.all.val n d (by cases q:l[n]?<;>rw[q]at hd<;>cases hd;rfl)
 refine#[v,hv,O,l,S,st,en.all,Zy.bind en h1 λy S1 H1 u f1 st1 r1 h2=>?_]
 cases d with
 |int m=>cases y with
  |int m'=>
   rw[rv.int',r1.int'];have h2:Zy fr X.K xw O H0 D ((Pv.Ud o m m' S1).bind λz S=>.ok (.nx (l.set n<|aa z) os) S):=h2
   refine hq xw O S1 H1 m m' _ st1 (show End X.K xw Rep O H1 _ (Pv.Ud o m m' S1)from ?_)
   have en1:=en.mono f1;cases q:Pv.Ud o m m' S1 with
   |no=>rw[q]at h2;exact h2
   |ex c S2=>rw[q]at h2;exact λρ1 H2 g s2=>by cases g.eq;exact h2 H2 (en1.fut.trans g) s2
   |ok z S2=>
    rw[q]at h2;obtain⟨y,rfl⟩:=wV q;exact λρ1 H2 w g s2 r2=>by
     cases g.eq;cases r2.int';exact h2 H2 _ W s2<|(en1.mono g).set (o:=aa<|.int y) (by simpa using c) λ_ z=>by cases z;exact ZM _
  |_=>exact False.elim h2
 |_=>exact False.elim h2
def wZ{body:List fE}(hp:nB (aQ X.prog X.w) X.A X.env X.xe)(hc:CT X xw C c k)(hb:CSs X xw fr C ns body ms):CS X xw fr C ns (.While c body [] pos) (.whl k ms):=.mk <| PS.imp (wD hp hc.h hb.h)<|by
 rintro D Z H ⟨O,H0,W,l,os,S,st,en,h⟩;refine#[λm σ' H'=>∃W' l' os' S',St3 X.K O S' H'/\Eu O H0 W' l' os' σ' H'/\Zy fr X.K xw O H0 D (Pv.YN (Pv.YW C k) (Pv.rvs C ns ms) m l' os' S'),#[Ev.Jv,W,l,os,S,st,en,h],?_]
 rintro m σ' H' ⟨W',l',os',S',st',en',e'⟩
 cases m with
 |zero=>exact False.elim e'
 |succ m=>
  rw[Pv.YN]at e';refine#[O,l',S',st',en'.all,Zy.bind en' e' λb S1 H1 b' f1 st1 r1 h1=>?_]
  have eb:b=b':=r1;subst eb;cases b with
  |false=>
   rw[T8 aG]at h1 ⊢;exact h1 H1 σ' W' st1<|en'.mono f1
  |true=>
   rw[T9 rfl]at h1 ⊢;refine#[λσ2 H2=>∃W2 l2 os2 S2,St3 X.K O S2 H2/\Eu O H0 W2 l2 os2 σ2 H2/\Zy fr X.K xw O H0 D (Pv.YN (Pv.YW C k) (Pv.rvs C ns ms) m l2 os2 S2),λσ2 H2 w=>#[m,gJ m,w],O,H0,W',l',os',S1,st1,en'.mono f1,?_]
   cases q:Pv.rvs C ns ms l' os' S1 with
   |no=>rw[q]at h1;exact h1
   |ex c S2=>rw[q]at h1;exact h1
   |ok fl S2=>
    rw[q]at h1;cases fl with|nx l3 os3=>exact λH4 σ4 W4 st4 lr4=>#[W4,l3,os3,S2,st4,lr4,h1]|cnt l3 os3=>exact λH4 σ4 W4 st4 lr4=>#[W4,l3,os3,S2,st4,lr4,h1]|brk l3 os3=>exact h1|ret d=>exact h1
end
structure WRel(K:ao)(O:Mx)(H:Hp)(w:List D)(J:It):Prop where
 go:∀(i:Nat) ρ' S' H',Lat O H ρ' H'->St3 K ρ' S' H'->i<w.length->J.go i H'/\∀x H'',J.yld i H' x H''->Fut ρ' H' ρ' H''/\St3 K ρ' S' H''/\∀d,w[i]?=aa d->Rep ρ' H'' d x
 stop:∀ρ' S' H',Lat O H ρ' H'->St3 K ρ' S' H'->J.stop w.length H'
section
variable(X:Cx)(xw:Nat->Hp->Prop)
def tW3(f:Lc->Zq->R (List D)):TI:=λZ H Q=>∃O l S,St3 X.K O S H/\LocR O H l Z/\End X.K xw (WRel X.K) O H Q (f l S)
structure CW(C:Calls)(tg it:Expr)(w:Ev.W):Prop where
 h:PI X tg it (tW3 X xw<|Pv.pvw C w)
end
def PI.imp(h:PI X tg it t)(k:∀Z H Q,t' Z H Q->t Z H Q):PI X tg it t':=λpq s Z H R I q=>h pq s Z H R I<|k Z H R q
section
variable{X:Cx}{xw:Nat->Hp->Prop}{C:Calls}{e a b c tg it:Expr}{i j k:E}{pos p p' p2:iw}
def Zdr(K:ao)(tl:TE):TI:=λZ H R=>tl Z H λx H1=>∃a,x=.ref a/\(((∃xs,SqL K H1 a xs)/\R (Itl K a) H1)\/((∃xs,SqT K H1 a xs)/\R (Itt K a) H1))
def Zbp(hl:PE X l tl):PI X tg l (Zdr X.K tl):=by
 intro pq s Z H R I h;refine thn (hl pq s Z H _ I h) λv s1 #[x,H1,I1,r1,a,e,q]=>?_
 subst e;cases r1;rcases q with⟨⟨xs,hq⟩,q⟩|⟨⟨xs,hq⟩,q⟩
 .obtain⟨its,rv,p,hz⟩:=I1.list hq
  refine fu p.isList ?_;refine#[s1.heap.objs.size,[s1.heap.objs.size],_,_,H1,rfl,I1.kept (t':=s1.toks) λb o e=>aq _ e,xO a _,#[_,aJ _ rfl,rfl,rfl],λb hb=>?_,q]
  have e:b=s1.heap.objs.size:=by simpa using hb
  subst e;exact I1.fpOk (aH _)<|I1.hok.fresh<|aH _
 .obtain⟨its,rv,p,hz⟩:=I1.tuple hq
  refine fW (p) ?_
  refine#[s1.heap.objs.size,[s1.heap.objs.size],_,_,H1,rfl,I1.kept (t':=s1.toks) λb o e=>aq _ e,G5 a _,#[_,aJ _ rfl,rfl,rfl],λb hb=>?_,q]
  have e:b=s1.heap.objs.size:=by simpa using hb
  subst e;exact I1.fpOk (aH _)<|I1.hok.fresh<|aH _
def Wg{K:ao}{O:Mx}{H:Hp}{ds:List D}{xs:List V}{J:It}(r:Reps O H ds xs)(hg:∀ρ' H',Lat O H ρ' H'->(∀i x,xs[i]?=aa x->J.go i H'/\∀y H'',J.yld i H' y H''->H''=H'/\y=x)/\∀n,n=xs.length->J.stop n H'):WRel K O H ds J where
 go:=λi ρ' S' H' f st hi=>by
  obtain⟨v,g,r'⟩:=(r.lat f).get<|af hi;obtain⟨a,b⟩:=(hg ρ' H' f).1 i v g;refine#[a,λx H'' y=>?_]
  obtain⟨rfl,rfl⟩:=b x H'' y;exact#[Fut.refl _ _,st,λd hd=>by rw[af hi]at hd;cases hd;exact r']
 stop:=λρ' S' H' f st=>(hg ρ' H' f).2 _ r.length.symm
def v6{K K':ao}{O:Mx}{H:Hp}{ds:List D}{a:aI}{xs:List V}(hp:H a=aa (.tup xs))(r:Reps O H ds xs):WRel K O H ds (Itt K' a):=Wg r λρ' H' f=>by
 have h:=SqT.of (K:=K')<|f.keep a _ hp λ_ z=>by cases z
 exact#[λi x g=>#[#[xs,x,h,g],λy H'' z=>#[z.1,by have:=z.2 xs h;rw[g]at this;exact(ag this).symm]],λn e=>#[xs,h,by omega]]
def zZ{K K':ao}{O:Mx}{H:Hp}{ds:List D}{a:aI}{xs:List V}(hp:∀ρ' H',Lat O H ρ' H'->SqL K' H' a xs)(r:Reps O H ds xs):WRel K O H ds (Itl K' a):=Wg r λρ' H' f=>by
 have h:=hp ρ' H' f;exact#[λi x g=>#[#[xs,x,h,g],λy H'' z=>#[z.1,by have:=z.2 xs h;rw[g]at this;exact(ag this).symm]],λn e=>#[xs,h,by omega]]
def Um(lo:Int)(n:Nat):(Pv.ZS lo n).length=n:=by unfold Pv.ZS;rw[az,bE]
theorem UE(lo:Int):∀(l:List Nat),Reps O H (l.map λ(k:Nat)=>Pv.V.int<|lo+(k:Int)) (l.map λ(k:Nat)=>V.int<|lo+(k:Int))
 |[]=>Reps.nil
 |_::l=>Reps.cons (ZM _)<|UE lo l
def uF{K:ao}{O:Mx}{H:Hp}{lo:Int}{n:Nat}:WRel K O H (Pv.ZS lo n) (Itr lo n):=Wg (UE lo<|aM n) λρ' H' f=>by
 refine#[λi x g=>?_,λm e=>?_]
 .have hi:i<n:=by have:=(bc.mp g).1;simpa using this
  rw[aK,cJ hi]at g;exact#[hi,λy H'' z=>#[z.1,z.2.trans<|ag g]]
 .rw[az,bE]at e;show n<=m;omega
def ZcO(he:CE X xw C e i):CW X xw C tg e (.of i):=.mk <| PI.imp (Zbp he.h)<|by
 rintro Z H Q ⟨O,l,S,st,lr,h⟩;rw[Pv.pvw]at h;refine#[O,l,S,st,lr,h.bind λx S1 ρ1 H1 v f1 st1 r1 h1=>?_]
 obtain⟨ds,hd,h1⟩:=End.po h1;have q:∀{J},WRel X.K ρ1 H1 ds J->Q J H1:=λw=>End.ok h1 st1 w
 cases x with
 |tup ds=>cases hd;obtain⟨a,xs,rfl,hp,r⟩:=r1.tup';exact#[a,rfl,.inr #[#[xs,SqT.of hp],q<|v6 hp r]]
 |lst ds=>cases hd;obtain⟨a,xs,rfl,hp,hx,r⟩:=r1.lst';exact#[a,rfl,.inl #[#[xs,SqL.of hp],q<|zZ (λρ' H' f=>SqL.of<|f.keep a _ hp λ_ _=>hx) r]]
 |scr ns=>
  cases hd;obtain⟨a,rfl,hp⟩:=r1.scr';rw[st1.hk]at hp;refine#[a,rfl,.inl #[#[_,hp.sq],q<|zZ (λρ' H' f=>?_)<|Reps.ints ns]]
  rcases hp with⟨o,hp⟩|hp
  .exact .inl<|.inr #[o,f.keep a _ hp λ_ z=>by cases z]
  .exact .inr hp
 |_=>exact Ev.nos hd
def Zav{B β:Type}{rep:Mx->Hp->B->β->Prop}{O:Mx}{l:Lc}{S:Zq}{Z:L2.St}{H:Hp}{Q:β->Hp->Prop}{Q1:List V->Hp->Prop}{g:D->Zq->R B}(st:St3 X.K O S H)(lr:LocR O H l Z)(h:End X.K xw rep O H Q ((Pv.pv C i l S).bind g))
  (k:∀x S1 ρ1 H1 v,St3 X.K ρ1 S1 H1->Rep ρ1 H1 x v->End X.K xw rep ρ1 H1 Q (g x S1)->Q1 [v] H1):tA X xw (Pv.pvs C [i]) Z H Q1:=by
 refine#[O,l,S,st,lr,?_];show End X.K xw Reps O H _ ((Pv.pv C i l S).bind λx S=>.ok [x] S)
 cases q:Pv.pv C i l S with
 |no=>rw[q]at h;exact h
 |ex c S1=>rw[q]at h;exact h
 |ok x S1=>
  rw[q]at h;intro ρ1 H1 vs f1 st1 r1;obtain⟨v,rfl,r⟩:=wM r1;exact k x S1 ρ1 H1 v st1 r<|End.mono f1 h
def ZcS{B β:Type}{rep:Mx->Hp->B->β->Prop}{O:Mx}{l:Lc}{S:Zq}{Z:L2.St}{H:Hp}{Q:β->Hp->Prop}{Q1:List V->Hp->Prop}{g:D->D->Zq->R B}(st:St3 X.K O S H)(lr:LocR O H l Z)(h:End X.K xw rep O H Q ((Pv.pv C i l S).bind λx S=>(Pv.pv C j l S).bind λy S=>g x y S))
  (k:∀x y S1 ρ1 H1 v u,St3 X.K ρ1 S1 H1->Rep ρ1 H1 x v->Rep ρ1 H1 y u->End X.K xw rep ρ1 H1 Q (g x y S1)->Q1 [v,u] H1):tA X xw (Pv.pvs C [i,j]) Z H Q1:=by
 refine#[O,l,S,st,lr,?_];show End X.K xw Reps O H _ ((Pv.pv C i l S).bind λx S=>((Pv.pv C j l S).bind λy S=>.ok [y] S).bind λxs S=>.ok (x::xs) S)
 cases q:Pv.pv C i l S with
 |no=>rw[q]at h;exact h
 |ex c S1=>rw[q]at h;exact h
 |ok x S1=>
  rw[q]at h;have h:End X.K xw rep O H Q ((Pv.pv C j l S1).bind λy S=>g x y S):=h
  show End X.K xw Reps O H _ (((Pv.pv C j l S1).bind λy S=>.ok [y] S).bind λxs S=>.ok (x::xs) S)
  cases q2:Pv.pv C j l S1 with
  |no=>rw[q2]at h;exact h
  |ex c S2=>rw[q2]at h;exact h
  |ok y S2=>
   rw[q2]at h;intro ρ1 H1 vs f1 st1 r1;obtain⟨v,u,rfl,rv,ru⟩:=yo r1;exact k x y S2 ρ1 H1 v u st1 rv ru<|End.mono f1 h
def JW(h:Ev.Xd n=am):-(2^62)<=n/\n<2^62:=T6 h
def qj(hm:X.mg "range" = ae)(ha:CA X xw C [a] [i])(hg:Gl X "range")(hs:aL [a] X.env=[(ap,c8 a X.env)]):CW X xw C tg (.Call (.Name "range" p) [a] [] pos) (.rng1 i):=.mk <|
 PI.imp (xH hg hm ha.h hs) λZ H Q #[O,l,S,st,lr,h]=>Zav st lr h λx S1 ρ1 H1 v st1 r h1=>by
  cases x with
  |int n=>
   obtain⟨hs,h2⟩:=End.guard h1;exact#[n,by rw[r.int'],(JW hs).1,(JW hs).2,End.ok (rep:=WRel X.K) h2 st1 uF]
  |_=>exact False.elim h1
def jZ{D:Ends}{Z:L2.St}{O:Mx}{H0 H1:Hp}{W:Own}{l:Lc}{os:List Nat}{S1:Zq}{J:It}{wk:List Pv.V}{fr:Bool}{ns:List Nat}{ms:List Sm}{t:List Nat}(st1:St3 X.K O S1 H1)(en:Eu O H0 W l os Z H1)(r1:WRel X.K (O.ex W) H1 wk J)
  (h1:Zy fr X.K xw O H0 D (Pv.Xx (λx O os s=>if(t.any<|km os)=am then(.no:Pv.PR Pv.FlV)else(Pv.po (Pv.Zk t x O) s).bind λO s=>Pv.rvs C ns ms O os s) wk l os S1)):∃W:Nat->Nat->L2.St->Hp->Prop,(∃m,W 0 m Z H1)/\∀i m Z H,W i m Z H->
   (J.stop i H/\D.nx Z H)\/(J.go i H/\∃N:L2.St->Hp->Prop,(∀σ' H',N σ' H'->∃m',m'<m/\W (i+1) m' σ' H')/\∀x H',J.yld i H x H'->tGU X.K t x Z H' λσ2 H2=>tS3 X xw fr (Pv.rvs C ns ms) {D with nx:=N,ct:=N,bk:=D.nx} σ2 H2):=by
 obtain⟨bs,en1⟩:=en.off st1.xd;have h1:=h1.rebase bs en.xd;generalize hB:(λx O os s=>if(t.any<|km os)=am then(.no:Pv.PR Pv.FlV)else(Pv.po (Pv.Zk t x O) s).bind λO s=>Pv.rvs C ns ms O os s)=B at h1
 let I:Nat->L2.St->Hp->Prop:=λn σ' H'=>∃W' l' os' S',St3 X.K O S' H'/\Eu O (Ua H1 W) W' l' os' σ' H'/\Zy fr X.K xw O (Ua H1 W) D (Pv.Xx B (wk.drop n) l' os' S')
 refine#[λn m σ' H'=>m=wk.length-n/\n<=wk.length/\I n σ' H',#[wk.length,rfl,dB _,W,l,os,S1,st1,en1,h1],?_]
 rintro n m σ' H' ⟨rfl,hn,W',l',os',S',st',en',e'⟩
 have lat:=en.walk en';by_cases hlt:n<wk.length
 .right
  rw[bZ hlt,Pv.Xx]at e';obtain⟨go,yl⟩:=r1.go n _ S' H' lat (en'.st st') hlt;refine#[go,I<|n+1,λσ2 H2 q=>#[wk.length-(n+1),by omega,rfl,hlt,q],λx H3 y=>?_]
  obtain⟨f3,st3,rp⟩:=yl x H3 y;have rx:=rp _<|af hlt;have f3:Fut O H' O H3:=#[rfl,f3.keep];have hBn:B wk[n] l' os' S'=if(t.any<|km os')=am then(.no:Pv.PR Pv.FlV)else(Pv.po (Pv.Zk t wk[n] l') S').bind λO s=>Pv.rvs C ns ms O os' s:=by rw[<-hB]
  rw[hBn]at e';by_cases c:(t.any<|km os')=am
  .rw[T9 c]at e';exact e'.elim
  rw[T8 c]at e';cases ha:Pv.Zk t wk[n] l' with
  |none=>rw[ha]at e';exact e'.elim
  |some l2=>
   rw[ha]at e';refine(en'.mono f3).assign (by simpa using c) rx ha λσ2 e2=>#[O,_,W',l2,os',S',st3.unex,e2,?_]
   have e':Zy fr X.K xw O (Ua H1 W) D ((Pv.rvs C ns ms l2 os' S').bind _):=e';cases q:Pv.rvs C ns ms l2 os' S' with
   |no=>rw[q]at e';exact e'
   |ex c S2=>rw[q]at e';exact e'
   |ok fl S2=>
    rw[q]at e';cases fl with|nx l3 os3=>exact λH4 σ4 W4 st4 lr4=>#[W4,l3,os3,S2,st4,lr4,e']|cnt l3 os3=>exact λH4 σ4 W4 st4 lr4=>#[W4,l3,os3,S2,st4,lr4,e']|brk l3 os3=>exact e'|ret d=>exact e'
 .left
  have en2:n=wk.length:=by omega
  subst en2;rw[dU]at e';exact#[r1.stop _ S' H' lat<|en'.st st',e' H' σ' W' st' en']
def ZbI{body:List fE}{fr:Bool}{ns:List Nat}{ms:List Sm}{w:Ev.W}{t:List Nat}(hp:nB (aQ X.prog X.w) X.A X.env X.xe)(hc:X.calm=am)(hw:CW X xw C tg it w)(hg:CG X tg t)(hb:CSs X xw fr C ns body ms)
  (hs:∀x,bL it X.env x=c7 x):CS X xw fr C ns (.For tg it body [] pos) (.forr t w ms):=.mk <| PS.imp (Zb9 hp hc hw.h hg.h hb.h hs)<|by
 rintro D Z H ⟨O,H0,W,l,os,S,st,en,h⟩;rw[Pv.rv]at h;refine#[O.ex W,Pv.hide os l,S,en.st st,en.hid,Zy.bindW en h λwk S1 H1 J f1 st1 r1 h1=>jZ st1 (en.mono f1) r1 h1]
end
end Sd
namespace Sd
open PySem PySem.Spec PyProof.Rows L2
noncomputable def xh(env:Env):List (bG×eD)->List (bG×aI)->List (bG×aI)
 |[],acc=>acc
 |x::r,acc=>xh env r (if(x.2 == bD)=am then(x.1,(env.cells.lookup x.1).getD 0)::acc else acc)
theorem Vs{env:Env}{f:bG×eD->List (bG×aI)->nA (ForInStep<|List<|bG×aI)}:∀(names:List (bG×eD))(acc:List (bG×aI)),
  (∀x∈names,∀c,f x c=c7 (.yield (if(x.2 == bD)=am then(x.1,(env.cells.lookup x.1).getD 0)::c else c)))->mm names acc f=c7 (xh env names acc)
 |[],acc,_=>rfl
 |x::r,acc,h=>by
  rw[ln,h x ak,pure_bind];exact Vs r _ λy hy=>h y<|aj _ hy
theorem J3 :∀(names:List (bG×eD))(acc:List (bG×aI)),(xh env names acc).lookup x=aa c->acc.lookup x=aa c\/(∃y∈names,y.1=x/\y.2=.free/\c=(env.cells.lookup x).getD 0)
 |[],acc,h=>.inl h
 |y::r,acc,h=>by
  rcases J3 r _ h with h|⟨z,hz,e⟩
  .by_cases hf:(y.2 == bD)=am
   .rw[T9 hf,bI]at h
    cases q:(x == y.1)with
    |true=>
     rw[q]at h;have e:=eS q;exact .inr #[y,ak,e.symm,eS hf,by rw[e];exact(ag h).symm]
    |false=>rw[q]at h;exact .inl h
   .rw[T8 hf]at h;exact .inl h
  .exact .inr #[z,aj _ hz,e]
theorem JI :∀(names:List (bG×eD))(acc:List (bG×aI)),(acc.lookup x).isSome=am->((xh env names acc).lookup x).isSome=am
 |[],acc,h=>h
 |y::r,acc,h=>by
  refine JI r _ ?_;split
  .rw[bI]
   cases(x == y.1)with|true=>rfl|false=>exact h
  .exact h
theorem Go :∀(names:List (bG×eD))(acc:List (bG×aI)),(x,bD)∈names->((xh env names acc).lookup x).isSome=am
 |[],acc,h=>by cases h
 |y::r,acc,h=>by
  rcases aA.mp h with h|h
  .subst h
   refine JI r _ ?_;rw[T9 (by rfl),bI,beq_self_eq_true]
   rfl
  .exact Go r _ h
def zz{scope:eR}{env:Env}(h:∀y∈scope.names,y.2=.free->∃c,env.cells.lookup y.1=aa c) :
  ∃cl,closureFor scope env=c7 cl/\(∀x c,cl.lookup x=aa c->env.cells.lookup x=aa c)/\∀x,(x,bD)∈scope.names->∃c,cl.lookup x=aa c:=by
 refine#[xh env scope.names [],?_,λx c e=>?_,λx hx=>dD.mp<|Go _ _ hx]
 .simp only[closureFor]
  rw[Vs (env:=env) scope.names [] (λx hx c=>by
   obtain⟨n,kind⟩:=x;by_cases hk:(kind == bD)=am
   .obtain⟨a,ha⟩:=h (n,kind) hx (eS hk)
    have ha':=ha;simp only[hk,if_true,cellOf,ha',pure_bind,nL]
   .simp only[hk,if_false]
    rfl),pure_bind]
 .rcases J3 _ _ e with e|⟨y,hy,e1,e2,e3⟩
  .cases e
  .obtain⟨a,ha⟩:=h y hy e2
   rw[e1]at ha;rw[e3,ha];rfl
theorem Wf{x:bG}{c:aI}{lo:Nat}:∀(names:List (bG×eD))(h:bY)(acc:List (bG×aI)),lo<=h.objs.size->(dS h.objs.size names acc).lookup x=aa c->
  ((x,cx)∉names/\acc.lookup x=aa c)\/((x,cx)∈names/\lo<=c/\(nM h names).IsCell c ae)
 |[],h,acc,_,e=>.inl #[by simp,e]
 |(name,kind)::r,h,acc,hlo,e=>by
  unfold dS at e;unfold nM;split at e
  .rename_i hk
   rw[T9 hk];have hk:=eS hk;subst hk;rw[<-cQ h {cls:=.type "cell",data:=.cell ae}]at e;rcases Wf r (h.push {cls:=.type "cell",data:=.cell ae}) ((name,h.objs.size)::acc) (cO hlo<|by rw[cQ];exact i9 _) e with⟨e1,e2⟩|⟨e1,e2⟩
   .rw[bI]at e2
    cases hb:x == name with
    |true=>
     rw[hb]at e2;cases e2;have:=eS hb;subst this;exact .inr #[ak,hlo,_,lq _ _ _ _<|aJ _ rfl,rfl]
    |false=>
     rw[hb]at e2;refine .inl #[λhm=>?_,e2]
     rcases aA.mp hm with q|q
     .cases q
      rw[beq_self_eq_true]at hb;cases hb
     .exact e1 q
   .exact .inr #[aj _ e1,e2]
  .rename_i hk
   rw[T8 hk];rcases Wf r _ _ hlo e with⟨e1,e2⟩|⟨e1,e2⟩
   .refine .inl #[λhm=>?_,e2]
    rcases aA.mp hm with q|q
    .cases q
     exact hk rfl
    .exact e1 q
   .exact .inr #[aj _ e1,e2]
theorem Wl:∀(names:List (bG×eD))(n:Nat)(acc:List (bG×aI)),(∀x c,acc.lookup x=aa c->c<n)->(∀x y c,acc.lookup x=aa c->acc.lookup y=aa c->x=y)->
  ∀x y c,(dS n names acc).lookup x=aa c->(dS n names acc).lookup y=aa c->x=y
 |[],n,acc,_,h=>h
 |(name,kind)::r,n,acc,hl,h=>by
  unfold dS;split
  .refine Wl r (n+1) _ (λx c e=>?_) λx y c e1 e2=>?_
   .rw[bI]at e
    split at e
    .cases e;exact gJ _
    .exact dr<|hl x c e
   .rw[bI]at e1 e2
    cases p:x == name<;>cases q:y == name<;>rw[p]at e1<;>rw[q]at e2
    .exact h x y c e1 e2
    .cases e2;exact T7 (hl x _ e1)<|br _
    .cases e1;exact T7 (hl y _ e2)<|br _
    .rw[eS p,eS q]
  .exact Wl r n acc hl h
theorem Wp{x:bG}:∀(names:List (bG×eD))(n:Nat)(acc:List (bG×aI)),(∃c,acc.lookup x=aa c)\/(x,cx)∈names->∃c,(dS n names acc).lookup x=aa c
 |[],n,acc,h=>h.elim (λh=>h) λh=>by cases h
 |(name,kind)::r,n,acc,h=>by
  unfold dS;split
  .refine Wp r _ _ ?_
   cases hb:x == name with
   |true=>exact .inl #[n,by rw[bI,hb]]
   |false=>
    rcases h with⟨c,e⟩|h
    .exact .inl #[c,by rw[bI,hb];exact e]
    .rcases aA.mp h with q|q
     .cases q
      rw[beq_self_eq_true]at hb;cases hb
     .exact .inr q
  .rename_i hk
   refine Wp r _ _<|h.imp (λh=>h) λh=>?_
   rcases aA.mp h with q|q
   .cases q
    exact T7 rfl hk
   .exact q
def GI{M:Model}{A:cD}{E:al->aw->Prop}{s:aw}{scope:eR}{g:aI}{cl:List (bG×aI)}{q:bG}{env:Env}{Q:Env->aw->Prop}
  (h:Q (newEnv scope s.heap.objs.size g (dS (s.heap.objs.size+1) scope.names cl) q ae .none (aa env) mC) {s with heap:=nM (s.heap.push {cls:=.type "dict",data:=.dict #[]}) scope.names}) :
  aW M A (newFunctionEnv scope g cl [] q ae .none<|aa env) Q E s:=by
 simp only[newFunctionEnv,mK,if_true];refine ab<|wpAny_alloc ?_;refine ab<|wpAny_layCells _ (λname kind cells=>by cases hkc:kind == cx<;>simp[hkc]) _ _ _ _ ?_
 rw[show({s with heap:=s.heap.push {cls:=.type "dict",data:=.dict #[]}}:aw).heap.objs.size=s.heap.objs.size+1 from cQ ..]
 exact au h
noncomputable def cxC(X:Cx)(N:List bG)(scope:eR)(cl:List (bG×aI))(s:aw)(H:Hp)(fp:List aI):Cx:=
 {X with N:=N,s₀:=s,H₀:=H,env:=compEnvC scope cl s.heap.objs.size X.env,outer:=X.stack,ex:=fp,fn:=λx=>scope.names.any λy=>y.2 == .cell&&y.1 == x,pn:=[],xe:=λ_ _=>False}
def PTs(X:Cx)(ifs:List Expr)(t:TT):Prop:=
 ∀(pq:List (aI×fD))(s:aw)(Z:L2.St)(H:Hp)(Q:Bool->Hp->Prop),Inv X pq Z H s->t Z H Q->
  aW (aQ X.prog X.w) X.A (mm ifs am λc r=>if r=am then do let ok <-isTrue c X.env (c8 c X.env);c7 (n9 ok)else c7 (n9 r)) (TP X pq Z Q) X.xe s
def jr :PTs X [] (λZ H Q=>Q am H):=λpq s Z H Q I h=>wpAny_tests_nil #[H,I,h]
structure CompScope(sc:eR)(N0:List bG)(scope:eR)(N:List bG)(cap:List Nat)(nl:Nat):Prop where
 kind:scope.kind=.function
 cell:∀y∈scope.names,y.2=.cell->(y.1,bD)∉scope.names
 names:∀y∈scope.names,y.2=.local->scope.names.lookup y.1=aa .local
 free:∀y∈scope.names,y.2=.free->sc.names.lookup y.1=aa .cell\/sc.names.lookup y.1=aa .free
 apart:∀y∈scope.names,y.2=.free->scope.names.lookup y.1≠aa .local
 len:N.length=nl+cap.length
 cap:∀p∈cap.zipIdx,N[nl+p.2]?=N0[p.1]?/\(N0[p.1]?).map (λx=>ai<|(x,bD)∈scope.names)=aa am
def CompScope.capt{sc:eR}{N0:List bG}{scope:eR}{N:List bG}{cap:List Nat}{nl:Nat}(h:CompScope sc N0 scope N cap nl)(i j:Nat)(e:cap[i]?=aa j):∃x,N[nl+i]?=aa x/\N0[j]?=aa x/\(x,bD)∈scope.names:=by
 have hm:(j,i)∈cap.zipIdx:=by
  rw[List.mem_zipIdx_iff_getElem?];exact e
 obtain⟨h1,h2⟩:=h.cap (j,i) hm;cases q:N0[j]? with
 |none=>rw[q]at h2;cases h2
 |some x=>
  rw[q]at h1 h2
  exact#[x,h1,rfl,T6<|ag h2]
noncomputable def Yo(cap:List Nat)(nl:Nat)(Z:L2.St):L2.St:=aB nl ae++cap.map λi=>(Z[i]?).join
section
variable{X:Cx}{pq:List (aI×fD)}{Z:L2.St}{H:Hp}{s:aw}
theorem XR{env:Env}{x:bG}:∀{names:List (bG×eD)},(names.map λ(n,k)=>if(k == bD&&env.scope.kind == .function&&env.kindOf n == aa .cell)then(n,cx)else(n,k)).lookup x=aa .cell\/
  (names.map λ(n,k)=>if(k == bD&&env.scope.kind == .function&&env.kindOf n == aa .cell)then(n,cx)else(n,k)).lookup x=aa .free->(x,bD)∈names\/(x,cx)∈names
 |[],h=>by rcases h with h|h<;>cases h
 |(n,k)::r,h=>by
  have ih:=@XR env x r;rw[bj]at h;by_cases e:x=n
  .subst e
   by_cases c:(k == bD&&env.scope.kind == .function&&env.kindOf x == aa .cell)=am
   .have:=(aC _ _).mp c
    rw[eS ((aC _ _).mp this.1).1];exact .inl ak
   .simp only[T8 c,bI,beq_self_eq_true,Option.some.injEq]at h
    rcases h with h|h
    .rw[h];exact .inr ak
    .rw[h];exact .inl ak
  .have hb:(x == n)=ap:=beq_eq_false_iff_ne.mpr e
   refine(ih ?_).imp (aj _)<|aj _;by_cases c:(k == bD&&env.scope.kind == .function&&env.kindOf n == aa .cell)=am
   .simpa only[T9 c,bI,hb]using h
   .simpa only[T8 c,bI,hb]using h
theorem wL{N:List bG}{scope:eR}{cl:List (bG×aI)}{fp:List aI}{cap:List Nat}{nl:Nat}{h1:bY}{tk:Nat}(I:Inv X pq Z H s)(CS:CompScope X.env.scope X.N scope N cap nl)(hN:X.N.Nodup)
  (c1:∀x c,cl.lookup x=aa c->((x,cx)∉scope.names/\X.env.cells.lookup x=aa c)\/((x,cx)∈scope.names/\s.heap.objs.size<=c/\h1.IsCell c ae))(c2:∀x,(x,bD)∈scope.names\/(x,cx)∈scope.names->∃c,cl.lookup x=aa c)
  (c3:∀x y c,cl.lookup x=aa c->cl.lookup y=aa c->x=y)(hf:∀b∈fp,XS X pq H b)(hb:∀b∈fp,∃o,s.heap.get? b=aa o)(hns:∃m,h1.Ns s.heap.objs.size m)(hk:∀b o,s.heap.get? b=aa o->h1.get? b=aa o) :
  Inv (cxC X N scope cl s H fp) [] (Yo cap nl Z) H {s with heap:=h1,toks:=tk}:=by
 have bne:∀b∈fp,b≠s.heap.objs.size:=λb hb' e=>by
  obtain⟨o,ho⟩:=hb b hb';exact T7 (aF ho) (by rw[e];exact br _)
 refine#[#[I.ok.mod,CS.kind,I.ok.glob,I.ok.blt,aH _,c3,λx hx=>c2 x<|XR (env:=X.env) hx,λx c h e=>?_,I.ok.hd,I.ok.frames,.inl rfl,
  λb hb'=>#[bne b hb',λx c e=>(c1 x c e).elim (λq=>(hf b hb').2.2.2.2.1 x c q.2) λq z=>?_],I.bs,cO I.ok.bsz I.sz,λb o e hb'=>?_,λb hb' hm=>?_,I.stack,I.stkFree],
  rfl,I.bare,Un.kept hk,?_,λx c e=>?_,I.hok.fresh<|aH _,λx c e=>(c1 x c e).elim (λq=>I.freeC x c q.2) λq=>I.hok.fresh q.2.1,λp hp=>T7 hp (by simp[cxC]),I.hok.kept hk,?_]
 .rcases c1 x c e with q|q
  .obtain⟨y,hy,e⟩:=fI.mp h
   obtain⟨e1,e2⟩:=(aC _ _).mp e;obtain⟨y,k⟩:=y;have a1:k=.cell:=eS e1;have a2:y=x:=eS e2;subst a1 a2;exact T7 hy q.1
  .exact q.2.1
 .obtain⟨o,ho⟩:=hb b hb'
  have:=aF ho;rw[<-z]at this;exact T7 q.2.1<|Nat.not_le.mpr this
 .rcases(hf b hb').2.2.2.1 with z|z
  .exact I.ok.noex b o e z
  .exact T7 (aF e)<|Nat.not_lt.mpr<|cO I.ok.bsz z
 .rcases aA.mp (I.stkSub b hm)with e|e
  .exact(hf b hb').2.1 e
  .exact(hf b hb').2.2.1 e
 .obtain⟨m1,hm1⟩:=hns
  refine#[m1,hm1,λi x v e1 e2 e3=>?_]
  obtain⟨m,hm,hl⟩:=I.loc;have hi:nl<=i:=by
   by_cases hi:nl<=i
   .exact hi
   .have z:(Yo cap nl Z)[i]?=aa ae:=by
     unfold Yo;rw[bO (by simp;lia),cq,T9 (by lia)]
    rw[z]at e2;cases e2
  have e2':(cap.map λi=>(Z[i]?).join)[i-nl]?=aa (aa v):=by
   have:(Yo cap nl Z)[i]?=aa (aa v):=e2;unfold Yo at this
   rwa [bu (by simp;exact hi),ck]at this
  rw[aK]at e2';cases hj:cap[i-nl]? with
  |none=>rw[hj]at e2';cases e2'
  |some j=>
   rw[hj]at e2';have hv:Z[j]?=aa (aa v):=by
    have:(Z[j]?).join=aa v:=ag e2';cases q:Z[j]? with
    |none=>rw[q]at this;cases this
    |some o=>rw[q]at this;cases o with|none=>cases this|some w=>cases this;rfl
   obtain⟨x',n1,n2,fr⟩:=CS.capt _ _ hj;have ex:x'=x:=by
    have:N[nl+(i-nl)]?=aa x:=by rw[show nl+(i-nl)=i by lia];exact e1
    rw[n1]at this;exact ag this
   subst ex;have kd:=CS.free _ fr rfl;have vis:Vis X.env.scope x':=by
    rcases kd with z|z
    .exact .inr<|.inl z
    .exact .inr<|.inr z
   obtain⟨u,r,lk⟩:=hl j x' v n2 hv vis;refine#[u,r,?_];rcases lk with⟨k,_⟩|⟨k,c,ec,hc⟩
   .have k':X.env.scope.names.lookup x'=aa .local:=k
    rcases kd with z|z<;>(rw[z]at k';cases k')
   .obtain⟨c',ec'⟩:=c2 x' (.inl fr)
    have ecc:c'=c:=by
     have:=(c1 x' c' ec').elim (λq=>q.2) λq=>T7 fr<|CS.cell _ q.1 rfl
     rw[ec]at this;exact(ag this).symm
    subst ecc;have vis2:Vis (relabel scope X.env) x':=e3;refine .inr #[?_,c',ec',?_]
    .rcases vis2 with z|z|z
     .have z':(scope.names.map λ(n,k)=>if(k == bD&&X.env.scope.kind == .function&&X.env.kindOf n == aa .cell)then(n,cx)else(n,k)).lookup x'=aa .local:=z
      exfalso
      have:∀(names:List (bG×eD)),(∀y∈names,y.2=eD.local->y.1≠x')->(names.map λ(n,k)=>if(k == bD&&X.env.scope.kind == .function&&X.env.kindOf n == aa .cell)then(n,cx)else(n,k)).lookup x'≠aa .local:=by
       intro names
       induction names with
       |nil=>intro _ h;cases h
       |cons y r ih=>
        obtain⟨n,k⟩:=y;intro hy h;rw[bj]at h;by_cases e:x'=n
        .subst e
         by_cases c:(k == bD&&X.env.scope.kind == .function&&X.env.kindOf x' == aa .cell)=am
         .simp only[T9 c,bI,beq_self_eq_true]at h;cases h
         .simp only[T8 c,bI,beq_self_eq_true]at h
          exact hy (x',k) ak (ag h) rfl
        .have hb:(x' == n)=ap:=beq_eq_false_iff_ne.mpr e
         refine ih (λy hy'=>hy y<|aj _ hy') ?_
         by_cases c:(k == bD&&X.env.scope.kind == .function&&X.env.kindOf n == aa .cell)=am
         .simp only[T9 c,bI,hb]at h;exact h
         .simp only[T8 c,bI,hb]at h;exact h
      refine this scope.names (λy hy hl e=>?_) z'
      have l1:=CS.names y hy hl;rw[e]at l1;exact CS.apart (x',.free) fr rfl l1
     .exact .inl z
     .exact .inr z
    .obtain⟨o,ho,hd⟩:=hc
     exact#[o,hk c' o ho,hd]
 .rcases c1 x c e with q|q
  .obtain⟨v,o,ho,hd⟩:=I.cell x c q.2
   exact#[v,o,hk c o ho,hd]
  .exact#[ae,q.2.2]
 .unfold Yo
  show _=N.length;rw[bw,ck,az,CS.len]
end
abbrev TEm:=L2.St->Hp->(L2.St->Hp->Prop)->Prop
def Ji(X:Cx)(act:nA Fin->nA Fin)(te:TEm):Prop:=
 ∀(pq:List (aI×fD))(s:aw)(Z:L2.St)(H:Hp)(Q:L2.St->Hp->Prop)(k:nA Fin)(QF:Fin->aw->Prop)(EE:al->aw->Prop),Inv X pq Z H s->te Z H Q->(∀s' σ' H',Inv X pq σ' H' s'->Q σ' H'->aW (aQ X.prog X.w) X.A k QF EE s')->
  aW (aQ X.prog X.w) X.A (act k) QF EE s
noncomputable def Vw(ipos:iw)(tg:Expr)(ifs:List Expr)(act:nA Fin->nA Fin)(it:al)(env:Env)(c:Code):nA Fin:=do
 kP ipos
 match <-lG it with
 |none=>c7<|.done .next
 |some v=>
  lg tg it v
  assign tg env v
  let mut ok:=am
  for c in ifs do
   if ok then ok <-isTrue c env (c8 c env)
  if ok then act (o9 c)else o9 c
def yT(J:It)(g:TG)(tt:TT)(te:TEm)(W:Nat->Nat->L2.St->Hp->Prop)(Q:L2.St->Hp->Prop):Prop:=∀i m σ' H',W i m σ' H'->
  (J.stop i H'/\Q σ' H')\/(J.go i H'/\∀x H'',J.yld i H' x H''->g x σ' H'' λσ2 H2=>tt σ2 H2 λok H3=>if ok=am then te σ2 H3 λσ3 H4=>∃m',m'<m/\W (i+1) m' σ3 H4 else ∃m',m'<m/\W (i+1) m' σ2 H3)
def Uh{tn:Nat->bY->Prop}{Rr:pe->aw->Prop}{Q:L2.St->Hp->Prop}{W:Nat->Nat->L2.St->Hp->Prop}
  (hc:Y.calm=am)(hx:∀a b,Y.xe a b->False)(hT:oJ e depth (.ref it) acc Y.env=Vw ipos tg ifs act (.ref it) Y.env (.compLoop e depth (.ref it) acc Y.env))(hquiet:(oZ e depth (.ref it) acc Y.env).isFrame=ap)
  (hq:(oZ e depth (.ref it) acc Y.env).quiet=am)(T:Turn Y.prog Y.w Y.K tg J fp it tn)(hg:PG Y tg g)(ht:PTs Y ifs tt)(he:Ji Y act te)(stat:∀{H':Hp},(∀b∈fp,H' b=ae)->∀b∈fp,XS Y pq H' b)
  (turn:yT J g tt te W Q)(fin:∀Z H s,Inv Y pq Z H s->Q Z H->Rr (.ok .next) s)
  (I0:Inv Y pq Z H s)(st0:tn 0 s.heap)(fr0:∀b∈fp,H b=ae)(w0:W 0 m Z H)(hden:(aQ Y.prog Y.w).den (.compLoop e depth (.ref it) acc Y.env)=(oJ e depth (.ref it) acc Y.env).onRaise (λx=>do noteFrame x Y.env;theTreesLotGoes x))
  (hund:Y.A.under (.compLoop e depth (.ref it) acc Y.env)=Y.A):fq (aQ Y.prog Y.w) Y.A (.compLoop e depth (.ref it) acc Y.env) Rr s:=by
 refine codeAny_loop hq (λn s'=>∃i σ' H',Inv Y pq σ' H' s'/\tn i s'.heap/\(∀b∈fp,H' b=ae)/\W i n σ' H') (λn s5 hI=>?_) m #[0,Z,H,I0,st0,fr0,w0]
 rw[hund,hden,hT];refine wpAny_noted ?_;obtain⟨i,σ5,H5,I5,st5,fr5,w5⟩:=hI;refine ab<|eL<|ab ?_;rcases turn i n σ5 H5 w5 with⟨stop,qn⟩|⟨go,step⟩
 .refine cL (T.done Y rfl rfl rfl hc i pq s5 σ5 H5 (λ_ _=>False) I5 (stat fr5) st5 stop) (λr s6 #[hr,I6]=>?_) λ_ _ h'=>h'.elim
  subst hr;exact au<|fin σ5 H5 s6 I6 qn
 .refine cL (T.item Y rfl rfl rfl hc i pq s5 σ5 H5 (λ_ _=>False) I5 (stat fr5) st5 go) (λr s6 #[u,hr,h6]=>?_) λ_ _ h'=>h'.elim
  subst hr;refine ab<|cL h6 (λ_ s7 #[x,H7,I7,r7,y7,st7,fr7]=>?_) λ_ _ h'=>h'.elim
  have I7':=I7.pinned (stat fr7)<|T.obj _ _ st7;have back:∀{σ8:L2.St}{H8:Hp}{s8:aw}{m':Nat},Inv Y (pq++VM fp s7.heap) σ8 H8 s8->m'<n->W (i+1) m' σ8 H8->∃m,m<n/\∃i σ' H',Inv Y pq σ' H' s8/\tn i s8.heap/\(∀b∈fp,H' b=ae)/\W i m σ' H':=λ{σ8 H8 s8 m'} I8 hm w8=>by
   refine#[m',hm,i+1,σ8,H8,I8.unpinned,T.keep _ _ _ st7 λb hb' o e=>(I8.pin (b,o)<|bm _<|bm _<|Y4 hb' e).1,λb hb'=>?_,w8]
   obtain⟨o,e,d⟩:=T.obj _ _ st7 b hb';exact(I8.pin (b,o)<|bm _<|bm _<|Y4 hb' e).2.1
  refine ab<|cL (hg _ s7 σ5 H7 x u _ I7' r7<|step x H7 y7) (λ_ s8 #[σ8,H8,I8,q8]=>?_) λ_ _ h'=>(hx _ _ h').elim
  refine ab<|cL (ht _ s8 σ8 H8 _ I8 q8) (λok s9 #[H9,I9,q9]=>?_) λ_ _ h'=>(hx _ _ h').elim
  cases ok with
  |false=>
   rw[T8 aG]at q9;obtain⟨m',hm,w9⟩:=q9;exact au #[rfl,back I9 hm w9]
  |true=>
   rw[T9 rfl]at q9;exact he _ s9 σ8 H9 _ _ _ _ I9 q9<|by rintro s10 σ10 H10 I10 ⟨m',hm,w10⟩;exact au #[rfl,back I10 hm w10]
def Va{Y:Cx}{elt:Expr}{te:TE}{D:aI}(hx:∀a b,Y.xe a b->False)(he:PE Y elt te):Ji Y (λk=>(do let _ <-call (.builtin "list.append") [.ref D,<-c8 elt Y.env]:nA Unit) >>= λ_=>k) (λZ H Q=>te Z H λy H4=>∃ys,H4 D=aa (.lst ys)/\ys.length<bp/\Q Z (upd H4 D<|.lst<|ys++[y])):=by
 intro pq s Z H Q k QF EE I h hk;refine ab ?_;refine ab<|cL (he pq s Z H _ I h) (λxv s10 #[y,H10,I10,r10,ys,hDy,hz,q]=>?_) λ_ _ h'=>(hx _ _ h').elim
 refine ab<|cL (xg pq s10 Z H10 (.ref D) [y] (.ref D) [xv] (λv H'=>v=.non/\H'=upd H10 D (.lst<|ys++[y])) I10 rfl (.cons r10 .nil) #[D,ys,y,rfl,rfl,hDy,hz,rfl,rfl]) (λ_ s11 #[v11,H11,I11,_,_,eH]=>?_) λ_ _ h'=>(hx _ _ h').elim
 subst eH;exact au<|hk _ _ _ I11 q
def zy(wi:TI)(g:TG)(tt:TT)(te:aI->TEm)(cap:List Nat)(nl:Nat):TE:=λZ H Q=>wi Z H λJ H1=>∀D,H1 D=ae->∃W:Nat->Nat->L2.St->Hp->Prop,(∃m,W 0 m (Yo cap nl Z)<|upd H1 D<|.lst [])/\yT J g tt (te D) W λ_ H'=>Q (.ref D) H'
def vV(wi:TI)(g:TG)(tt:TT)(te:TE)(cap:List Nat)(nl:Nat):TE:=λZ H Q=>wi Z H λJ H1=>∀D,H1 D=ae->∃W:Nat->Nat->L2.St->Hp->Prop,(∃m,W 0 m (Yo cap nl Z)<|upd H1 D<|.lst [])/\∀i m σ' H',W i m σ' H'->
  (J.stop i H'/\Q (.ref D) H')\/(J.go i H'/\∀x H'',J.yld i H' x H''->g x σ' H'' λσ2 H2=>tt σ2 H2 λok H3=>if ok=am then te σ2 H3 λy H4=>∃ys,H4 D=aa (.lst ys)/\ys.length<bp/\∃m',m'<m/\W (i+1) m' σ2 (upd H4 D<|.lst<|ys++[y])else ∃m',m'<m/\W (i+1) m' σ2 H3)
structure Gone(X:Cx)(pq:List (aI×fD))(H:Hp)(s:aw)(C:aI):Prop where
 free:H C=ae
 ns:∃m,s.heap.Ns C m
 loc:C≠X.env.locals
 big:X.s₀.heap.objs.size<=C
 cel:∀x c,X.env.cells.lookup x=aa c->c≠C
 pin:∀p∈X.pn++pq,p.1≠C
def We{tg iter elt:Expr}{ifs:List Expr}{scope:eR}{pos fpos:iw}{N:List bG}{cap:List Nat}{nl:Nat}{wi:TI}{g:TG}{tt:TT}{te:aI->TEm}{act:al->Env->nA Fin->nA Fin}{rest:List Comprehension}{pq:List (aI×fD)}{s:aw}{Z:L2.St}{H:Hp}{Q:VK}{use:Option (al->nA Unit)}{QQ:al->aw->Prop}(hc:X.calm=am)(hN:X.N.Nodup)(CS:CompScope X.env.scope X.N scope N cap nl)(hi:PI X tg iter wi)
  (hT:∀it acc env,oJ (.ListComp elt (#[tg,iter,ifs,0]::rest) scope pos) 0 it acc env=Vw iter.pos tg ifs (act acc env) it env (.compLoop (.ListComp elt (#[tg,iter,ifs,0]::rest) scope pos) 0 it acc env))
  (hb:∀cl s H fp,PG (cxC X N scope cl s H fp) tg g/\PTs (cxC X N scope cl s H fp) ifs tt/\∀D,Ji (cxC X N scope cl s H fp) (act (.ref D) (cxC X N scope cl s H fp).env)<|te D)
  (hs:∀x,bL iter X.env x=c7 x)(I:Inv X pq Z H s)(h:zy wi g tt te cap nl Z H Q)
  (fin:∀D C H5 s6,Inv X pq Z H5 s6->Gone X pq H5 s6 C->Q (.ref D) H5->compPost (aQ X.prog X.w) X.A X.xe use QQ (.ref D) C (.ok .next) s6) :
  aW (aQ X.prog X.w) X.A (comprehension (.ListComp elt (#[tg,iter,ifs,0]::rest) scope pos) scope X.env fpos (newList []) ap (c8 iter X.env) use) QQ X.xe s:=by
 obtain⟨cl,hcl,c1,c2⟩:=zz (scope:=scope) (env:=X.env) λy hy hf=>I.ok.has y.1<|CS.free y hy hf
 refine wpAny_comprehension_free (use:=use) rfl hs hcl CS.kind CS.names ?_;refine thn (hi pq s Z H _ I h) λv s1 h1=>thn h1 λitv s2 h2=>?_
 obtain⟨it,fp,tn,J,H2,rfl,I2,T,st2,f2,q2⟩:=h2;obtain⟨W,⟨m0,w0⟩,turn⟩:=q2 s2.heap.objs.size<|I2.hok.fresh<|aH _;refine bH<|GI ?_
 dsimp only
 have I3:Inv X pq Z (upd H2 s2.heap.objs.size<|.lst []) {s2 with heap:=s2.heap.push {cls:=.type "list",dict:=ae,data:=.seq ([]:List al).toArray},toks:=s2.toks}:=
  I2.laid (λb u e=>aq _ e) (aH _) #[dB _,[],0,.nil,aJ _ rfl]
 generalize hD:s2.heap.objs.size=D at I3 w0 turn ⊢;generalize hs3:({s2 with heap:=s2.heap.push {cls:=.type "list",dict:=ae,data:=.seq ([]:List al).toArray},toks:=s2.toks}:aw)=s3 at I3
 have hh3:s2.heap.push {cls:=.type "list",dict:=ae,data:=.seq ([]:List al).toArray}=s3.heap:=by rw[<-hs3]
 rw[hh3];have old:∀b o,s2.heap.get? b=aa o->s3.heap.get? b=aa o:=λb o e=>by rw[<-hh3];exact aq _ e
 have neD:∀b∈fp,b≠D:=λb hb' e=>by
  obtain⟨o,ho,_⟩:=T.obj _ _ st2 b hb';exact T7 (aF ho) (by rw[e,<-hD];exact br _)
 have f3:∀b∈fp,XS X pq (upd H2 D<|.lst []) b:=λb hb'=>#[by rw[Zp<|neD b hb'];exact(f2 b hb').1,(f2 b hb').2]
 generalize hh4:nM (s3.heap.push {cls:=.type "dict",data:=.dict #[]}) scope.names=h₁;have keep4:∀b o,s3.heap.get? b=aa o->h₁.get? b=aa o:=λb o e=>by rw[<-hh4];exact lq _ _ b o<|aq _ e
 have hns₁:∃m,h₁.Ns s3.heap.objs.size m:=#[_,by rw[<-hh4];exact(bY.Ns.new s3.heap<|.type "dict").keeps<|lq _ _]
 have lt3:∀x c,cl.lookup x=aa c->c<s3.heap.objs.size+1:=λx c e=>by
  obtain⟨v,q⟩:=I3.cell x c<|c1 x c e;exact dr q.lt
 have c3:=Wl scope.names _ cl lt3 λx y c h1 h2=>I.ok.inj x y c (c1 x c h1)<|c1 y c h2
 have c2':∀x,(x,bD)∈scope.names\/(x,cx)∈scope.names->∃c,(dS (s3.heap.objs.size+1) scope.names cl).lookup x=aa c:=λx hx=>Wp _ _ _<|hx.imp (c2 x) λh=>h
 have c1':∀x c,(dS (s3.heap.objs.size+1) scope.names cl).lookup x=aa c->((x,cx)∉scope.names/\X.env.cells.lookup x=aa c)\/((x,cx)∈scope.names/\s3.heap.objs.size<=c/\h₁.IsCell c ae):=λx c e=>by
  rw[<-cQ s3.heap {cls:=.type "dict",data:=.dict #[]}]at e;refine(Wf (lo:=s3.heap.objs.size) _ _ _ (by rw[cQ];exact i9 _) e).imp (λq=>#[q.1,c1 x c q.2]) λq=>?_
  rw[hh4]at q;exact q
 generalize dS (s3.heap.objs.size+1) scope.names cl=cl at c1' c2' c3;have I4:=wL (tk:=s2.toks) I3 CS hN c1' c2' c3 f3 (λb hb'=>let #[o,ho,_]:=T.obj _ _ st2 b hb';#[o,old b o ho]) hns₁ keep4
 have e4:({s3 with heap:=h₁,toks:=s2.toks}:aw)={s2 with heap:=h₁,toks:=s2.toks}:=by rw[<-hs3]
 rw[e4]at I4;obtain⟨hg,ht,he⟩:=hb cl s3 (upd H2 D<|.lst []) fp;generalize hY:cxC X N scope cl s3 (upd H2 D<|.lst []) fp=Y at I4 hg ht he;have yP:Y.prog=X.prog:=by rw[<-hY];rfl
 have stat:∀{H':Hp},(∀b∈fp,H' b=ae)->∀b∈fp,XS Y [] H' b:=λhn b hb'=>by
  subst hY;refine#[hn b hb',λe=>?_,λhm=>?_,.inl hb',λx c e=>(c1' x c e).elim (λq=>(f3 b hb').2.2.2.2.1 x c q.2) λq z=>?_,λp hp=>T7 hp (by simp[cxC])]
  .obtain⟨o,ho,_⟩:=T.obj _ _ st2 b hb'
   have:=aF<|old b o ho;rw[e]at this;exact T7 this<|br _
  .rcases aA.mp (I3.stkSub b hm)with e|e
   .exact(f3 b hb').2.1 e
   .exact(f3 b hb').2.2.1 e
  .obtain⟨o,ho,_⟩:=T.obj _ _ st2 b hb'
   have:=aF<|old b o ho;rw[<-z]at this;exact T7 q.2.1<|Nat.not_le.mpr this
 subst hY
 let Y:=cxC X N scope cl s3 (upd H2 D<|.lst []) fp
 have st4:tn 0 h₁:=T.keep _ _ _ st2 λb hb' o e=>keep4 b o<|old b o e
 have fr4:∀b∈fp,upd H2 D (HO.lst []) b=ae:=λb hb'=>(f3 b hb').1
 have loop:fq (aQ X.prog X.w) X.A (.compLoop (.ListComp elt (#[tg,iter,ifs,0]::rest) scope pos) 0 (.ref it) (.ref D)<|compEnvC scope cl s3.heap.objs.size X.env)
   (compPost (aQ X.prog X.w) X.A X.xe use QQ (.ref D) s3.heap.objs.size) {s2 with heap:=h₁,toks:=s2.toks}:=by
  refine Uh (Y:=cxC X N scope cl s3 (upd H2 D<|.lst []) fp) (pq:=[]) (W:=W) (Q:=λ_ H'=>Q (.ref D) H') hc (λ_ _ z=>z) (hT _ _ _) rfl rfl T hg ht (he D) stat turn (λσ5 H5 s6 I6 qn=>?_) I4 st4 fr4 w0 rfl rfl
  obtain⟨m6,hn6,_⟩:=I6.loc;have u:=I6.base;have IX:Inv X pq Z H5 s6:=Inv.call' (s':=s6) (ch:=fp) I3 I6.os #[u.keep,u.slot,u.free,u.there,u.tups,u.frzs,u.tbls] I6.hok I6.bare λb hb'=>#[(f3 b hb').2.2.2.1,(f3 b hb').2.1,(f3 b hb').2.2.2.2.1,λp hp e=>(f3 b hb').2.2.2.2.2 p hp e]
  refine fin D s3.heap.objs.size H5 s6 IX #[I6.free,#[m6,hn6],Ne.symm<|bv I3.lt,I3.sz,λx c e z=>?_,λp hp z=>?_] qn
  .obtain⟨v,q⟩:=I3.cell x c e
   exact T7 q.lt (by rw[z];exact br _)
  .exact T7 (aF (I3.pin p hp).1) (by rw[z];exact br _)
 subst hs3;exact codeAny_compStart_list loop<|T.self _ 0 _ _ _ st4 loop
def Gone.inv(G:Gone X pq H s C)(I:Inv X pq Z H s)(hsb:eZ C s.heap h'):Inv X pq Z H {s with heap:=h' }:=
 I.turned (t':=s.toks) (λb o hb e=>(hsb.2 b hb).trans e) G.free G.loc (.inr G.big) G.cel G.pin
def Zcm(te:TE)(D:aI):TEm:=λZ H Q=>te Z H λy H4=>∃ys,H4 D=aa (.lst ys)/\ys.length<bp/\Q Z (upd H4 D<|.lst<|ys++[y])
def qt(hc:X.calm=am)(hN:X.N.Nodup)(CS:CompScope X.env.scope X.N scope N cap nl)(hi:PI X tg iter wi)
  (hb:∀cl s H fp,PG (cxC X N scope cl s H fp) tg g/\PTs (cxC X N scope cl s H fp) ifs tt/\PE (cxC X N scope cl s H fp) elt te)
  (hs:∀x,bL iter X.env x=c7 x:=by intro _;rfl):PE X (.ListComp elt [#[tg,iter,ifs,0]] scope pos) (vV wi g tt te cap nl):=by
 intro pq s Z H Q I h;rw[eval_ListComp];refine We (act:=λacc env k=>(do let _ <-call (.builtin "list.append") [acc,<-c8 elt env]:nA Unit) >>= λ_=>k) hc hN CS hi (λ_ _ _=>rfl) (λcl s H fp=>#[(hb cl s H fp).1,(hb cl s H fp).2.1,λD=>Va (λ_ _ z=>z) (hb cl s H fp).2.2]) hs I h λD C H5 s6 I6 G q=>?_
 obtain⟨m6,hn6⟩:=G.ns;exact#[m6,hn6,λh' hsb=>#[.ref D,H5,G.inv I6 hsb,rfl,q]]
def va(hc:X.calm=am)(hN:X.N.Nodup)(CS:CompScope X.env.scope X.N scope N cap nl)(hi:PI X tg iter wi)
  (hb:∀cl s H fp,PG (cxC X N scope cl s H fp) tg g/\PTs (cxC X N scope cl s H fp) ifs tt/\PE (cxC X N scope cl s H fp) elt te)
  (hsw:kB (.ListComp elt [#[tg,iter,ifs,0]] scope pos) (aa<|.Name y py) spos.line X.env=c7 am)
  (hy:X.N[i]?=aa y)(hx:L2.Loc X.env.scope y)(hf:X.fn y=am\/X.env.scope.names.lookup y=aa .local)
  (hs:∀x,bL iter X.env x=c7 x:=by intro _;rfl):PS X (.Assign [.Name y py] (.ListComp elt [#[tg,iter,ifs,0]] scope pos) spos) (λD Z H=>vV wi g tt te cap nl Z H λv H1=>D.nx (Z.set i<|aa v) H1):=by
 intro pq s Z H D I h;rw[lz _ _ _ _ hsw];refine ab<|eL<|ab ?_;refine ab<|cL (We (Q:=λv H1=>D.nx (Z.set i<|aa v) H1) (act:=λacc env k=>(do let _ <-call (.builtin "list.append") [acc,<-c8 elt env]:nA Unit) >>= λ_=>k) hc hN CS hi (λ_ _ _=>rfl) (λcl s H fp=>#[(hb cl s H fp).1,(hb cl s H fp).2.1,λD=>Va (λ_ _ z=>z) (hb cl s H fp).2.2]) hs I h λA C H5 s6 I6 G q=>?_) (λ_ s' hq=>au<|au hq) λ_ _ e=>e
 refine iY<|Wu (v:=V.ref A) I6 hN hy hx rfl (λs7 I7 #[a,hsb,ha]=>?_) hf
 have hCa:C≠a:=by
  rcases ha with e|e
  .rw[e];exact G.loc
  .exact Ne.symm<|G.cel y a e
 obtain⟨m6,hn6⟩:=G.ns;have G7:Gone X pq H5 s7 C:=#[G.free,#[m6,hn6.sameBut hsb hCa],G.loc,G.big,G.cel,G.pin];exact#[m6,hn6.sameBut hsb hCa,λh' hs'=>#[Z.set i<|aa<|.ref A,H5,G7.inv I7 hs',q]]
def zb(wi:TI)(g:TG)(tt:TT)(te:TEm):TEm:=λZ H Q=>wi Z H λJ H1=>∃W:Nat->Nat->L2.St->Hp->Prop,(∃m,W 0 m Z H1)/\yT J g tt te W Q
def zx(hc:Y.calm=am)(hx:∀a b,Y.xe a b->False)(hi:PI Y t2 i2 wi)(hg:PG Y t2 g)(ht:PTs Y f2 tt)(he:Ji Y act te)
  (hs:∀x,bL i2 Y.env x=c7 x)
  (hstart:∀(it:al)(R:pe->aw->Prop)(s:aw),fq (aQ Y.prog Y.w) Y.A (.compLoop (.ListComp elt gens scope pos) 1 it acc Y.env) R s->aW (aQ Y.prog Y.w) Y.A (kh it) (λit' s'=>fq (aQ Y.prog Y.w) Y.A (.compLoop (.ListComp elt gens scope pos) 1 it' acc Y.env) R s') (notedBy (aQ Y.prog Y.w) Y.A Y.env λx s'=>R (.error x) s') s->fq (aQ Y.prog Y.w) Y.A (.compStart (.ListComp elt gens scope pos) 1 it acc Y.env) R s)
  (hT:∀it,oJ (.ListComp elt gens scope pos) 1 it acc Y.env=Vw i2.pos t2 f2 act it Y.env (.compLoop (.ListComp elt gens scope pos) 1 it acc Y.env)) :
  Ji Y (λk=>do let x <-c8 i2 Y.env;kP i2.pos;let x <-bL i2 Y.env x;let _ <-runOwn (.compStart (.ListComp elt gens scope pos) 1 (<-gO [x] (kh x)) acc Y.env) Y.env;k) (zb wi g tt te):=by
 intro pq s Z H Q k QF EE I h hk;refine ab<|cL (hi pq s Z H _ I h) (λv s1 h1=>ab<|eL<|ab<|eY (hs v)<|ab<|bR<|cL h1 (λitv s2 h2=>?_) λ_ _ z=>(hx _ _ z).elim) λ_ _ z=>(hx _ _ z).elim
 obtain⟨it,fp,tn,J,H2,rfl,I2,T,st2,f2',W,⟨m0,w0⟩,turn⟩:=h2;have stat:∀{H':Hp},(∀b∈fp,H' b=ae)->∀b∈fp,XS Y pq H' b:=λhn b hb=>#[hn b hb,(f2' b hb).2]
 have loop:fq (aQ Y.prog Y.w) Y.A (.compLoop (.ListComp elt gens scope pos) 1 (.ref it) acc Y.env) (λr s'=>match r with|.ok f=>aW (aQ Y.prog Y.w) Y.A k QF EE s'|.error x=>cameBackBy (aQ Y.prog Y.w) Y.A Y.env EE x s') s2:=
  Uh hc hx (hT _) rfl rfl T hg ht he stat turn (λσ5 H5 s6 I6 qn=>hk s6 σ5 H5 I6 qn) I2 st2 (λb hb=>(f2' b hb).1) w0 rfl rfl
 exact ab<|wpAny_runOwn<|hstart _ _ _ loop<|T.self _ 0 _ _ _ st2 loop
def ZbC{R:pe->aw->Prop}
  (h0:fq (aQ prog w) A (.compLoop (.ListComp elt [#[t1,i1,f1,0],#[t2,i2,f2,0]] scope pos) 1 it acc env) R s)
  (h:aW (aQ prog w) A (kh it) (λit' s'=>fq (aQ prog w) A (.compLoop (.ListComp elt [#[t1,i1,f1,0],#[t2,i2,f2,0]] scope pos) 1 it' acc env) R s') (notedBy (aQ prog w) A env λx s'=>R (.error x) s') s) :
  fq (aQ prog w) A (.compStart (.ListComp elt [#[t1,i1,f1,0],#[t2,i2,f2,0]] scope pos) 1 it acc env) R s:=by
 refine lu ?_;show aW _ _ ((compStart (.ListComp elt [#[t1,i1,f1,0],#[t2,i2,f2,0]] scope pos) 1 it acc env).onRaise λx=>do noteFrame x env;kP theWindowsPlace) _ _ s
 refine wpAny_notedAt ?_;refine ab<|eU<|wpAny_ite ?_;split
 .first|exact ab<|au<|au<|aP rfl h0|exact au<|aP rfl h0
 .first|exact ab<|fb<|ab<|eL<|ab<|cL h (λit' s' h'=>au<|aP rfl h') λ_ _ x=>x|(refine ab<|fb ?_;exact ab<|eL<|ab<|cL h (λit' s' h'=>au<|aP rfl h') λ_ _ x=>x)
def xu(hc:X.calm=am)(hN:X.N.Nodup)(CS:CompScope X.env.scope X.N scope N cap nl)(hi:PI X t1 i1 wi)
  (hb:∀cl s H fp,PG (cxC X N scope cl s H fp) t1 g1/\PTs (cxC X N scope cl s H fp) f1 tt1/\PI (cxC X N scope cl s H fp) t2 i2 wj/\PG (cxC X N scope cl s H fp) t2 g2/\PTs (cxC X N scope cl s H fp) f2 tt2/\PE (cxC X N scope cl s H fp) elt te)
  (hsw:kB (.ListComp elt [#[t1,i1,f1,0],#[t2,i2,f2,0]] scope pos) (aa<|.Name y py) spos.line X.env=c7 am)
  (hy:X.N[i]?=aa y)(hx:L2.Loc X.env.scope y)(hf:X.fn y=am\/X.env.scope.names.lookup y=aa .local)
  (hs:∀x,bL i1 X.env x=c7 x:=by intro _;rfl)(hs2:∀env x,bL i2 env x=c7 x:=by intro _ _;rfl) :
  PS X (.Assign [.Name y py] (.ListComp elt [#[t1,i1,f1,0],#[t2,i2,f2,0]] scope pos) spos) (λD Z H=>zy wi g1 tt1 (λD=>zb wj g2 tt2<|Zcm te D) cap nl Z H λv H1=>D.nx (Z.set i<|aa v) H1):=by
 intro pq s Z H D I h;rw[lz _ _ _ _ hsw];refine ab<|eL<|ab ?_;refine ab<|cL (We (act:=λacc env k=>do let x <-c8 i2 env;kP i2.pos;let x <-bL i2 env x;let _ <-runOwn (.compStart (.ListComp elt [#[t1,i1,f1,0],#[t2,i2,f2,0]] scope pos) 1 (<-gO [x] (kh x)) acc env) env;k) hc hN CS hi (λ_ _ _=>rfl) (λcl s H fp=>?_) hs I h λA C H5 s6 I6 G q=>?_) (λ_ s' hq=>au<|au hq) λ_ _ e=>e
 .obtain⟨a1,a2,a3,a4,a5,a6⟩:=hb cl s H fp
  exact#[a1,a2,λD=>zx hc (λ_ _ z=>z) a3 a4 a5 (Va (λ_ _ z=>z) a6) (λx=>hs2 _ x) (λit R s k1 k2=>ZbC k1 k2) λit=>rfl]
 refine iY<|Wu (v:=V.ref A) I6 hN hy hx rfl (λs7 I7 #[a,hsb,ha]=>?_) hf
 have hCa:C≠a:=by
  rcases ha with e|e
  .rw[e];exact G.loc
  .exact Ne.symm<|G.cel y a e
 obtain⟨m6,hn6⟩:=G.ns;have G7:Gone X pq H5 s7 C:=#[G.free,#[m6,hn6.sameBut hsb hCa],G.loc,G.big,G.cel,G.pin];exact#[m6,hn6.sameBut hsb hCa,λh' hs'=>#[Z.set i<|aa<|.ref A,H5,G7.inv I7 hs',q]]
open Ev (E Sm Fn Bop Cop Ty Bf Mf)
section
variable{X:Cx}{xw:Nat->Hp->Prop}{C:Calls}{e a b c tg it:Expr}{i j k:E}{pos p p' p2:iw}
structure CTs(X:Cx)(xw:Nat->Hp->Prop)(C:Calls)(ifs:List Expr)(is:List E):Prop where
 h:PTs X ifs (tB3 X xw<|Pv.pvt C is)
def PTs.imp{X:Cx}{e:List Expr}{t t':TT}(h:PTs X e t)(k:∀Z H Q,t' Z H Q->t Z H Q):PTs X e t':=λpq s Z H Q I q=>h pq s Z H Q I<|k Z H Q q
def j9:CTs X xw C [] []:=.mk <| PTs.imp jr<|by rintro Z H Q ⟨O,l,S,st,lr,h⟩;exact End.ok (h) st rfl
def LocR.caught(lr:LocR O H l Z)(cap:List Nat)(nl:Nat):LocR O H (Pv.ZW cap nl l) (Yo cap nl Z):=by
 refine#[by unfold Pv.ZW Yo;simp,λn d e=>?_]
 unfold Pv.ZW at e;by_cases hn:n<nl
 .rw[bO (by simp;exact hn),cq,T9 hn]at e
  cases e
 .rw[bu (by simp;omega),ck,aK]at e
  unfold Yo;rw[bu (by simp;omega),ck,aK]
  cases q:cap[n-nl]? with
  |none=>rw[q]at e;cases e
  |some m=>
   rw[q]at e;have e':(l[m]?).join=aa d:=ag e;have:l[m]?=aa (aa d):=by
    cases z:l[m]? with
    |none=>rw[z]at e';cases e'
    |some o=>rw[z]at e';cases o with|none=>cases e'|some w=>cases e';rfl
   obtain⟨v,hv,r⟩:=lr.val m d this;exact#[v,by show aa ((Z[m]?).join)=_;rw[hv];rfl,r]
noncomputable def Mx.at(O:Mx)(A:aI):Mx:=#[O.K,O.n0,λa=>O.X a\/a=A,λa h=>.inl<|O.xz a h]
def YV(O:Mx)(A:aI)(H H':Hp):Prop:=∀a o,a≠A->H a=aa o->H' a=aa o\/(O.n0=aa a/\∃xs,o=.lst xs)\/((∃ps,o=.tbl ps)/\∃ps,H' a=aa (.tbl ps))
def YV.trans(f:YV O A H H1)(g:YV O A H1 H2):YV O A H H2:=λa o n h=>(f a o n h).elim (g a o n) λz=>z.elim (λz=>.inr<|.inl z)<|by
 rintro ⟨e,ps,h⟩;rcases g a _ n h with q|⟨_,xs,q⟩|⟨_,q⟩
 .exact .inr<|.inr #[e,ps,q]
 .cases q
 .exact .inr<|.inr #[e,q]
def YV.of(f:Fut (O.at A) H ρ' H1):YV O A H H1:=λa o _ h=>f.keep a o h
structure CI(K:ao)(O:Mx)(A:aI)(acc:List D)(l:Lc)(Z:L2.St)(H:Hp)(S:Zq):Prop where
 st:St3 K (O.at A) S H
 lr:LocR (O.at A) H l Z
 ac:∃us,H A=aa (.lst us)/\Reps (O.at A) H acc us
section
variable{K:ao}{O:Mx}{A:aI}{acc:List D}{l l':Lc}{Z:L2.St}{H H':Hp}{S S':Zq}
def YV.lat(f:YV O A H H')(ha:H A=aa (.lst us)):Lat (O.at A) H (O.at A) H':=#[rfl,rfl,λa o h x n _=>by
 by_cases c:a=A
 .subst c;rw[ha]at h;cases h;exact T7 (.inr rfl)<|x us rfl
 .rcases f a o c h with z|⟨z,xs,e⟩|⟨⟨ps,e⟩,_⟩
  .exact z
  .exact T7 (.inl<|O.xz a z)<|x xs e
  .exact T7 e<|n ps,λ_ _ x=>x]
theorem CI.mono(h:CI K O A acc l Z H S)(na:O.n0≠aa A)(f:Fut (O.at A) H ρ' H')(st:St3 K (O.at A) S' H'):CI K O A acc l Z H' S':=by
 obtain⟨us,e,r⟩:=h.ac;cases f.eq;exact#[st,h.lr.mono f,us,(f.keep A _ e).elim id λz=>z.elim (λz=>T7 z.1 na)<|by rintro ⟨⟨_,z⟩,_⟩;exact (by cases z),r.mono f]
def ZaX{Q:L2.St->Hp->Prop}(lr:LocR O H l Z)(r:Rep O H d v)(e:Pv.Zk t d l=aa l')(q:∀σ',LocR O H l' σ'->Q σ' H):tGU K t v Z H Q:=by
 have fill:∀{t:List Nat}{vs:List D}{us:List V}{l l':Lc}{Z:L2.St},LocR O H l Z->Reps O H vs us->Pv.YB t vs l=aa l'->us.length=t.length/\LocR O H l' (Vx t us Z):=λ{t}=>by
  induction t with
  |nil=>intro vs us l l' Z h r e;cases vs with|nil=>rw[r];cases e;exact#[rfl,h]|cons _ _=>cases e
  |cons i t ih=>intro vs us l l' Z h r e;cases vs with
   |nil=>cases e
   |cons v vs=>
    obtain⟨d,ds,rfl,a,b⟩:=r;obtain⟨z,q⟩:=ih (h.set i a) b e;exact#[by rw[aS,aS,z],q]
 have gen:∀t:List Nat,(match Pv.w6 d with
   |some xs=>Pv.YB t xs l
   |none=>ae)=aa l'->∃a xs,v=.ref a/\(SqT K H a xs\/H a=aa (.lst xs))/\xs.length=t.length/\Q (Vx t xs Z) H:=by
  intro t e;cases d with|tup vs=>obtain⟨p,ds,rfl,hp,rs⟩:=r.tup';obtain⟨z,y⟩:=fill lr rs e;exact#[p,ds,rfl,.inl<|SqT.of hp,z,q _ y]|lst vs=>obtain⟨p,ds,rfl,hp,_,rs⟩:=r.lst';obtain⟨z,y⟩:=fill lr rs e;exact#[p,ds,rfl,.inr hp,z,q _ y]|_=>cases e
 match t,e with
 |[i],e=>cases e;exact q _<|lr.set i r
 |[],e=>exact gen [] e
 |i::j::t,e=>exact gen (i::j::t) e
theorem UJ:∀{t:List Nat}{vs:List D}{l l':Lc},Pv.YB t vs l=aa l'->l'.length=l.length/\∀j,j∉t->l'[j]?=l[j]?
 |[],[],l,l',h=>by cases h;exact#[rfl,λ_ _=>rfl]
 |[],_::_,_,_,h=>by cases h
 |_::_,[],_,_,h=>by cases h
 |i::t,v::vs,l,l',h=>by
  obtain⟨a,b⟩:=UJ (t:=t) h;exact#[by rw[a,b4],λj hj=>by rw[b j λz=>hj<|aj _ z,bt λz=>hj (by rw[z];exact ak ..)]]
def WH(e:Pv.Zk t v l=aa l'):l'.length=l.length/\∀j,j∉t->l'[j]?=l[j]?:=by
 have gen:∀t:List Nat,(match Pv.w6 v with
   |some xs=>Pv.YB t xs l
   |none=>ae)=aa l'->l'.length=l.length/\∀j,j∉t->l'[j]?=l[j]?:=λt e=>by
  cases q:Pv.w6 v with|none=>rw[q]at e;cases e|some xs=>rw[q]at e;exact UJ e
 match t,e with
 |[i],e=>cases e;exact#[b4 ..,λj hj=>bt λz=>hj (by rw[z];exact ak ..)]
 |[],e=>exact gen [] e
 |i::j::t,e=>exact gen (i::j::t) e
def LocR.back(e:Pv.Zk t v l=aa l')(hn:∀i∈t,∀d,l[i]?≠aa (aa d))(lr:LocR O H l' Z):LocR O H l Z:=by
 obtain⟨a,b⟩:=WH e;exact#[by rw[<-a];exact lr.len,λi d q=>lr.val i d (by rw[b i λz=>hn i z d q];exact q)]
end
noncomputable def Zan(C:Calls)(t:List Nat)(is:List E)(G:Lc->Zq->R (List D))(l:Lc)(x:D)(S:Zq):R (List D):=(Pv.po (Pv.Zk t x l) S).bind λl S=>(Pv.pvt C is l S).bind λb S=>if b then G l S else .ok [] S
def WX{B β:Type}{r:R B}{f:B->Zq->R β}{b:β}{S:Zq}(h:r.bind f=.ok b S):∃a S1,r=.ok a S1/\f a S1=.ok b S:=by
 cases r with|ok a S1=>exact#[a,S1,rfl,h]|ex _ _=>cases h|no=>cases h
def y8(h:Pv.mapP f (x::w) S=.ok rs S2):∃y S1 zs,f x S=.ok y S1/\Pv.mapP f w S1=.ok zs S2/\rs=y++zs:=by
 rw[Pv.mapP]at h;split at h
 .split at h
  .cases h;exact#[_,_,_,‹_›,‹_›,rfl]
  .cases h
 .cases h
def ZcD(K:ao)(O:Mx)(A:aI)(P:Lc->Prop)(te:TEm)(G:Lc->Zq->R (List D)):Prop:=∀acc l Z H S ys S2 QQ,P l->CI K O A acc l Z H S->G l S=.ok ys S2->(acc++ys).length<=Ev.lim->(∀σ3 H3,YV O A H H3->CI K O A (acc++ys) l σ3 H3 S2->QQ σ3 H3)->te Z H QQ
def V2{O ρw:Mx}{A:aI}{Hw:Hp}{w:List D}{J:It}(r:WRel X.K ρw Hw w J)(na:O.n0≠aa A){t:List Nat}{is:List E}{te:TEm}{G:Lc->Zq->R (List D)}{P:Lc->Prop}(em:ZcD X.K O A P te G){l:Lc}(hn:∀i∈t,∀d,l[i]?≠aa (aa d))(hP:∀x l2,Pv.Zk t x l=aa l2->P l2){acc ys:List D}{Z:L2.St}{H:Hp}{S S2:Zq}{QQ:L2.St->Hp->Prop}
  (hl:∀H',YV O A H H'->Lat ρw Hw (O.at A) H')(c:CI X.K O A acc l Z H S)(h:Pv.mapP (Zan C t is G l) w S=.ok ys S2)(hz:(acc++ys).length<=Ev.lim)(k:∀σ3 H3,YV O A H H3->CI X.K O A (acc++ys) l σ3 H3 S2->QQ σ3 H3) :
  ∃W:Nat->Nat->L2.St->Hp->Prop,(∃m,W 0 m Z H)/\yT J (tGU X.K t) (tB3 X nx<|Pv.pvt C is) te W QQ:=by
 refine#[λn m σ' H'=>m=w.length-n/\n<=w.length/\YV O A H H'/\∃ac rs S',ac++rs=acc++ys/\Pv.mapP (Zan C t is G l) (w.drop n) S'=.ok rs S2/\CI X.K O A ac l σ' H' S',#[w.length,rfl,dB _,λ_ _ _ h=>.inl h,acc,ys,S,rfl,h,c],?_]
 rintro n m σ' H' ⟨rfl,hn',ff,ac,rs,S',ea,e',c'⟩
 have lat:=hl H' ff;by_cases hlt:n<w.length
 .right
  rw[bZ hlt]at e';obtain⟨y1,S1,r1,q1,q2,rfl⟩:=y8 e';obtain⟨go,yl⟩:=r.go n _ S' H' lat c'.st hlt;refine#[go,λx H3 y=>?_]
  obtain⟨f3,st3,rp⟩:=yl x H3 y;have rx:=rp _<|af hlt;obtain⟨l2,Sa,ha,q1⟩:=WX q1;obtain⟨b,Sb,hb,q1⟩:=WX q1;have hal:Pv.Zk t w[n] l=aa l2/\Sa=S':=by
   cases z:Pv.Zk t w[n] l<;>rw[z]at ha<;>cases ha;exact#[rfl,rfl]
  obtain⟨hal,rfl⟩:=hal;have ff3:=ff.trans<|YV.of f3;have c3:=c'.mono na f3 st3;refine ZaX c3.lr rx hal λσ2 lr2=>#[O.at A,l2,Sa,st3,lr2,?_]
  rw[hb];intro ρ4 H4 b' f4 st4 eb;have eb:=eb;subst eb;cases f4.eq;have ff4:=ff3.trans<|YV.of f4;have c4:=c3.mono na f4 st4;cases b with
  |false=>
   rw[T8 aG]at q1 ⊢;cases q1;exact#[w.length-(n+1),by omega,rfl,hlt,ff4,ac,r1,_,ea,q2,c4.st,(lr2.mono f4).back hal hn,c4.ac]
  |true=>
   rw[T9 rfl]at q1 ⊢;refine em ac l2 σ2 H4 Sb y1 S1 _ (hP _ _ hal) #[c4.st,lr2.mono f4,c4.ac] q1 ?_ λσ3 H5 f5 c5=>#[w.length-(n+1),by omega,rfl,hlt,ff4.trans f5,ac++y1,r1,S1,by rw[bz];exact ea,q2,c5.st,c5.lr.back hal hn,c5.ac]
   rw[<-ea]at hz;simp only[bw]at hz ⊢;omega
 .left
  have en:n=w.length:=by omega
  subst en;rw[dU]at e';cases e';rw[cE]at ea;subst ea;exact#[r.stop _ _ H' lat c'.st,k σ' H' ff c']
def ww{O:Mx}{A:aI}(na:O.n0≠aa A)(ie:E):ZcD X.K O A (λ_=>True) (Zcm (tE X nx<|Pv.pv C ie) A) (λl S=>(Pv.pv C ie l S).bind λy S=>.ok [y] S):=λacc l Z H S ys S2 QQ _ c h hz k=>by
 obtain⟨y,S1,hy,h⟩:=WX h;cases h;refine#[O.at A,l,S,c.st,c.lr,?_];rw[hy];intro ρ4 H4 v f4 st4 r4;cases f4.eq;have c4:=c.mono na f4 st4;obtain⟨us,e,r⟩:=c4.ac;rw[bw]at hz;have hz:acc.length+1<=Ev.lim:=hz;have fa:YV O A H4 (upd H4 A<|.lst<|us++[v]):=λa o n h=>.inl (by rw[Zp n];exact h)
 have lt:=fa.lat e;refine#[us,e,by rw[r.length,<-Vd];omega,k Z _ ((YV.of f4).trans fa) #[#[st4.hk,λb x=>?_,λb x=>?_,st4.tb.upd (λo u z=>by rw[e]at z;cases z) λ_ z=>by cases z],#[c4.lr.len,λi d q=>let #[u,a,b]:=c4.lr.val i d q;#[u,a,b.lat lt]],_,ZK,(r.lat lt).append<|Reps.cons (r4.lat lt) Reps.nil]]
 .by_cases z:b=A
  .rw[z,ZK];intro q;cases q
  .rw[Zp z];exact st4.xd b x
 .rw[Zp λz=>na (by rw[<-z];exact x)];exact st4.dw b x
def yk(st:St3 X.K O S H)(lr:LocR O H l Z)(hA:H A=ae):O.n0≠aa A/\CI X.K O A [] l Z (upd H A<|.lst []) S/\∀H',YV O A (upd H A<|.lst []) H'->Fut O H O H'/\Lat O H (O.at A) H':=by
 have ne:∀a,H a≠ae->a≠A:=λa h z=>h<|z▸hA
 have f:∀H',YV O A (upd H A<|.lst []) H'->Fut O H O H'/\Lat O H (O.at A) H':=λH' g=>by
  have f:Fut O H O H':=#[rfl,λa o h=>g a o (ne a<|by rw[h];intro z;cases z) (by rw[Zp<|ne a (by rw[h];intro z;cases z)];exact h)]
  exact#[f,rfl,rfl,f.lat.keep',λa h x=>x.elim id λz=>T7 z<|ne a h]
 have s:=st.fresh (o:=.lst []) hA;obtain⟨f1,lt⟩:=f _ λ_ _ _ h=>.inl h
 refine#[λz=>st.xd A (O.xz A z) hA,#[#[s.hk,λb x=>x.elim (s.xd b) λz=>(by rw[z,ZK];intro q;cases q),s.dw,s.tb],#[lr.len,λi d q=>let #[u,a,b]:=lr.val i d q;#[u,a,b.lat lt]],[],ZK,Reps.nil],f]
def Wm{l:Lc}{cap:List Nat}{nl i:Nat}(h:i<nl)(v:D):(Pv.ZW cap nl l)[i]?≠aa (aa v):=by
 unfold Pv.ZW;rw[bO (by simpa using h),cq,T9 h]
 intro z;cases z
def GA(f0:Fut O H0 O H)(hA:H A=ae)(st:St3 X.K O S H)(f:Fut O H O H')(c:CI X.K O A ys l Z H' S')(h:End X.K nx (Xw am H0) O H Q (.ok (.lst ys) S')):Q (.ref A) H':=by
 obtain⟨us,e,r⟩:=c.ac;have lt:Lat (O.at A) H' O H':=#[rfl,rfl,λ_ _ h _ _ _=>h,λ_ _ x=>.inl x]
 refine h O H' _ f #[c.st.hk,λb x=>c.st.xd b<|.inl x,c.st.dw,c.st.tb] #[XW e (st.nx hA)<|r.lat lt,λ_ _ _=>#[A,rfl,f0.new hA st.xd]]
def Jm{K:ao}{rep:Mx->Hp->D->V->Prop}{O:Mx}{H:Hp}{Q:VK}{r:R (List D)}(h:End K xw rep O H Q (r.bind λys s=>if ys.length<=Ev.lim then Pv.PR.ok (.lst ys) s else .no).nox):∃ys S,r=.ok ys S/\ys.length<=Ev.lim/\End K nx rep O H Q (.ok (.lst ys) S):=by
 cases r with
 |no=>exact h.elim
 |ex c S=>exact h.elim
 |ok ys S=>
  have h:=End.nox h
  obtain⟨hl,h⟩:=End.guard h;exact#[ys,S,rfl,hl,h]
def Gg{is:List E}{ie:E}{cap:List Nat}{nl:Nat}{w:Ev.W}{t:List Nat}{Z:L2.St}{H:Hp}{Q:VK}(hyp:tF X xw (Pv.pv C<|.comp1 cap nl t w is ie) Z H Q):vV (tW3 X xw<|Pv.pvw C w) (tGU X.K t) (tB3 X nx<|Pv.pvt C is) (tE X nx<|Pv.pv C ie) cap nl Z H Q:=by
 obtain⟨O,l,S,st,lr,h⟩:=hyp;rw[Pv.pv]at h;obtain⟨ho,h⟩:=End.guard h;refine#[O,l,S,st,lr,h.bind λwk S1 ρ1 H1 J f1 st1 r1 h1=>λA hA=>?_]
 cases f1.eq;obtain⟨ys,S2,hm,hl,h1⟩:=Jm h1;obtain⟨na,ci,ft⟩:=yk st1 ((lr.mono f1).caught cap nl) hA;exact V2 r1 na (ww na ie) (λi hi d=>Wm (T6<|aT.mp ho i hi) d) (λ_ _ _=>cY) (λH' f=>(ft H' f).2) ci hm hl λσ3 H3 f3 c3=>GA f1 hA st1 (ft H3 f3).1 c3 h1
def yZ{is js:List E}{ie:E}{cap:List Nat}{nl:Nat}{w w2:Ev.W}{t u:List Nat}{Z:L2.St}{H:Hp}{Q:VK}(hyp:tF X xw (Pv.pv C<|.comp2 cap nl t w is u w2 js ie) Z H Q) :
  zy (tW3 X xw<|Pv.pvw C w) (tGU X.K t) (tB3 X nx<|Pv.pvt C is) (λD=>zb (tW3 X nx<|Pv.pvw C w2) (tGU X.K u) (tB3 X nx<|Pv.pvt C js)<|Zcm (tE X nx<|Pv.pv C ie) D) cap nl Z H Q:=by
 obtain⟨O,l,S,st,lr,h⟩:=hyp;rw[Pv.pv]at h;obtain⟨ho,h⟩:=End.guard h;obtain⟨ho,hu⟩:=(aC _ _).mp ho;refine#[O,l,S,st,lr,h.bind λwk S1 ρ1 H1 J f1 st1 r1 h1=>λA hA=>?_]
 cases f1.eq;obtain⟨ys,S2,hm,hl,h1⟩:=Jm h1;obtain⟨na,ci,ft⟩:=yk st1 ((lr.mono f1).caught cap nl) hA;have hu:∀i∈u,i<nl/\i∉t:=λi hi=>by
  have:=(aC _ _).mp<|aT.mp hu i hi;exact#[T6 this.1,by simpa using this.2]
 refine V2 (P:=λl=>∀i∈u,∀d,l[i]?≠aa (aa d)) r1 na (λacc l Z H S ys S2 QQ pl c h hz k=>?_) (λi hi d=>Wm (T6<|aT.mp ho i hi) d) (λx l2 e i hi d=>?_) (λH' f=>(ft H' f).2) ci hm hl λσ3 H3 f3 c3=>GA f1 hA st1 (ft H3 f3).1 c3 h1
 .obtain⟨wk2,S5,hw,h⟩:=WX h
  refine#[O.at A,l,S,c.st,c.lr,?_];rw[hw];intro ρ5 H5 J5 f5 st5 r5;cases f5.eq;have c5:=c.mono na f5 st5;obtain⟨us,e,_⟩:=c5.ac;exact V2 r5 na (ww na ie) pl (λ_ _ _=>cY) (λH' f=>f.lat e) c5 h hz λσ3 H3 f3 c3=>k σ3 H3 ((YV.of f5).trans f3) c3
 .rw[(WH e).2 i (hu i hi).2]
  exact Wm (hu i hi).1 d
def uc{elt:Expr}{ifs:List Expr}{is:List E}{ie:E}{scope:eR}{N:List bG}{cap:List Nat}{nl:Nat}{w:Ev.W}{t:List Nat}(hc:X.calm=am)(hN:X.N.Nodup)(CSc:CompScope X.env.scope X.N scope N cap nl)(hi:CW X xw C tg it w)
  (hb:∀cl s H fp,CG (cxC X N scope cl s H fp) tg t/\CTs (cxC X N scope cl s H fp) nx C ifs is/\CE (cxC X N scope cl s H fp) nx C elt ie)
  (hs:∀x,bL it X.env x=c7 x):CF X xw C (.ListComp elt [#[tg,it,ifs,0]] scope pos) (.comp1 cap nl t w is ie):=.mk <|
 PE.imp (qt (g:=tGU X.K t) (tt:=tB3 X nx<|Pv.pvt C is) (te:=tE X nx<|Pv.pv C ie) hc hN CSc hi.h (λcl s H fp=>have#[a,b,c]:=hb cl s H fp;#[a.h,b.h,c.h]) hs) λZ H Q hyp=>Gg hyp
def uN{fr:Bool}{ns:List Nat}{elt:Expr}{ifs:List Expr}{is:List E}{ie:E}{scope:eR}{N:List bG}{cap:List Nat}{nl:Nat}{w:Ev.W}{t:List Nat}{n:Nat}{y:bG}{spos py:iw}(hc:X.calm=am)(hN:X.N.Nodup)(CSc:CompScope X.env.scope X.N scope N cap nl)(hi:CW X xw C tg it w)
  (hb:∀cl s H fp,CG (cxC X N scope cl s H fp) tg t/\CTs (cxC X N scope cl s H fp) nx C ifs is/\CE (cxC X N scope cl s H fp) nx C elt ie)
  (hsw:kB (.ListComp elt [#[tg,it,ifs,0]] scope pos) (aa<|.Name y py) spos.line X.env=c7 am)
  (hy:X.N[n]?=aa y)(hx:L2.Loc X.env.scope y)(hf:X.fn y=am\/X.env.scope.names.lookup y=aa .local)
  (hs:∀x,bL it X.env x=c7 x):CS X xw fr C ns (.Assign [.Name y py] (.ListComp elt [#[tg,it,ifs,0]] scope pos) spos) (.asg [n]<|.comp1 cap nl t w is ie):=.mk <|
 PS.imp (va (g:=tGU X.K t) (tt:=tB3 X nx<|Pv.pvt C is) (te:=tE X nx<|Pv.pv C ie) hc hN CSc hi.h (λcl s H fp=>have#[a,b,c]:=hb cl s H fp;#[a.h,b.h,c.h]) hsw hy hx hf hs)<|by rintro D Z H ⟨O,H0,W,l,os,S,st,en,h⟩;exact Gg<|Za4 st en h
def xL{fr:Bool}{ns:List Nat}{elt t1 i1 t2 i2:Expr}{f1' f2':List Expr}{is js:List E}{ie:E}{scope:eR}{N:List bG}{cap:List Nat}{nl:Nat}{w w2:Ev.W}{t u:List Nat}{n:Nat}{y:bG}{spos py:iw}(hc:X.calm=am)(hN:X.N.Nodup)(CSc:CompScope X.env.scope X.N scope N cap nl)(hi:CW X xw C t1 i1 w)
  (hb:∀cl s H fp,CG (cxC X N scope cl s H fp) t1 t/\CTs (cxC X N scope cl s H fp) nx C f1' is/\CW (cxC X N scope cl s H fp) nx C t2 i2 w2/\CG (cxC X N scope cl s H fp) t2 u/\CTs (cxC X N scope cl s H fp) nx C f2' js/\CE (cxC X N scope cl s H fp) nx C elt ie)
  (hsw:kB (.ListComp elt [#[t1,i1,f1',0],#[t2,i2,f2',0]] scope pos) (aa<|.Name y py) spos.line X.env=c7 am)
  (hy:X.N[n]?=aa y)(hx:L2.Loc X.env.scope y)(hf:X.fn y=am\/X.env.scope.names.lookup y=aa .local)
  (hs:∀x,bL i1 X.env x=c7 x)(hs2:∀env x,bL i2 env x=c7 x) :
  CS X xw fr C ns (.Assign [.Name y py] (.ListComp elt [#[t1,i1,f1',0],#[t2,i2,f2',0]] scope pos) spos) (.asg [n]<|.comp2 cap nl t w is u w2 js ie):=.mk <|
 PS.imp (xu (wj:=tW3 X nx<|Pv.pvw C w2) (g1:=tGU X.K t) (tt1:=tB3 X nx<|Pv.pvt C is) (g2:=tGU X.K u) (tt2:=tB3 X nx<|Pv.pvt C js) (te:=tE X nx<|Pv.pv C ie) hc hN CSc hi.h (λcl s H fp=>have#[a,b,c,d,e,f]:=hb cl s H fp;#[a.h,b.h,c.h,d.h,e.h,f.h]) hsw hy hx hf hs hs2)<|by rintro D Z H ⟨O,H0,W,l,os,S,st,en,h⟩;exact yZ<|Za4 st en h
end
theorem LocR.start(r:Reps O H ds vs)(N:List bG)(n:Nat)(hn:n=N.length):LocR O H (Pv.ZI n ds) (L2.start N vs):=by
 subst hn;have hl:=r.length;refine#[by unfold Pv.ZI L2.start;simp[hl],λi d e=>?_]
 unfold Pv.ZI at e;by_cases hi:i<ds.length
 .rw[bO (by simpa using hi),aK]at e
  cases q:ds[i]? with
  |none=>rw[q]at e;cases e
  |some d'=>
   rw[q]at e;cases e;obtain⟨v,hv,r'⟩:=r.get q;refine#[v,?_,r'];unfold L2.start;rw[bO (by simp;lia),aK,hv]
   rfl
 .rw[bu (by simp;lia),cq]at e
  split at e<;>cases e
theorem Eu.start{K:ao}{O:Mx}{H:Hp}{S:Zq}{ds:List D}{vs:List V}(st:St3 K O S H)(r:Reps O H ds vs)(N:List bG)(n:Nat)(hn:n=N.length):Eu O H (λ_=>ae) (Pv.ZI n ds) [] (L2.start N vs) H:=by
 have lr:=LocR.start r N n hn;refine#[Fut.refl _ _,st.xd,lr.len,λ_=>rfl,λ_ _ _ h=>?_,λ_ _ h=>?_,λ_ _ h=>?_,λi d e _=>?_]
 .cases h
 .cases h
 .cases h
 .obtain⟨v,a,b⟩:=lr.val i d e
  exact#[v,a,Rep.lat (O:=O) (ρ':=O.ex λ_=>ae) #[rfl,rfl,λ_ _ h _ _ _=>h,λ_ _ x=>Or.elim x id λ#[_,z]=>by cases z] b]
section
variable{P:bC}{w:bN}{K:ao}{mg:bG->Option al}{base:bY}
noncomputable def JY(C:Calls)(fn:Fn)(ds:List D)(S:Zq):R D:=if ds.length=fn.ps then(Pv.rvs C (Pv.muts fn.body) fn.body (Pv.ZI fn.ns ds) [] S).bind λf S=>match f with
  |.ret x=>.ok x S
  |.nx _ _=>.ok .non S
  |_=>.no
 else .no
def wT{C:Calls}{fn:Fn}{fr:Bool}{xw:Nat->Hp->Prop}{O:Mx}{H:Hp}{ds:List D}{S:Zq}{Q:VK}{E:L2.Ends}(hE:∀v H',Q v H'->E.rt v H')(hN:∀Z H',Q .non H'->E.nx Z H')(h:End K xw (Xw fr H) O H Q (JY C fn ds S)):Zy fr K xw O H E (Pv.rvs C (Pv.muts fn.body) fn.body (Pv.ZI fn.ns ds) [] S):=by
 obtain⟨_,h⟩:=End.guard h;cases q:Pv.rvs C (Pv.muts fn.body) fn.body (Pv.ZI fn.ns ds) [] S with
 |no=>rw[q]at h;exact h
 |ex c S2=>rw[q]at h;exact λH' f st=>h O H' f st
 |ok fl S2=>
  rw[q]at h;cases fl with|ret x=>exact λH' v f st r=>hE v H'<|h O H' v f st r|nx l os=>exact λH' σ' W' st en=>hN σ' H'<|h O H' .non en.fut st #[yN,λ_ _ z=>by cases z]|brk l os=>exact False.elim h|cnt l os=>exact False.elim h
def wg{C C':Calls}{n:Nat}{fn:Fn}{fr:Bool}{x qual:bG}{st:fE}{f:aI}{fd:cW}{N ps:List bG}{k:Nat}(hF:∀O S H ds vs,St3 K O S H->Reps O H ds vs->C' n ds S=.no\/C' n ds S=JY C fn ds S)(hns:fn.ns=N.length)(hps:fn.ps=ps.length)(Fu:Fun K x qual st f fd)(S:FnScope N ps (Zv st))
  (hb:∀(cdv:al)(A:cD)(outer:List Env)(s:aw)(H:Hp)(E:XK),Room k (A.deeper<|iz qual (Zv st) s.heap.objs.size f cdv)->
   CSs (Jz CX0 P w K mg base N qual (Zv st) f cdv A outer s H E).nox (λ_ _=>False) fr C (Pv.muts fn.body) (Z6 st) fn.body) :
  FnOk P w K mg base CX0 (k+1) f fd ps (spF K C' fr n):=by
 have eq:∀{O S H ds vs Q},St3 K O S H->Reps O H ds vs->End K (λ_ _=>False) (Xw fr H) O H Q (C' n ds S)->End K (λ_ _=>False) (Xw fr H) O H Q (JY C fn ds S):=λ{O S H ds vs Q} st r h=>by
  rcases hF O S H ds vs st r with e|e
  .rw[e]at h;exact h.elim
  .rw[e]at h;exact h
 refine Fu.ok S (λvs H Q E #[O,ds,S,st,r,h]=>?_) λcdv A outer s H vs Q E hr #[O,ds,S',st,r,h]=>#[_,(hb cdv A outer s H E hr).h,O,H,λ_=>ae,Pv.ZI fn.ns ds,[],S',st,Eu.start st r N fn.ns hns,wT (λ_ _ q=>q) (λ_ _ q=>q)<|eq st r h]
 have h:=eq st r h;unfold JY at h;obtain⟨hl,_⟩:=End.guard h;rw[r.length,hl,hps]
def z7{F:List Fn}{tk n k:Nat}{fr:Bool}{f:aI}{fd:cW}{ps:List bG}:FnOk P w K mg base CX0 k f fd ps (spF K (Pv.Zh F tk 0) fr n):=
 #[λvs H Q E #[O,ds,S,st,r,h]=>False.elim h,by rintro A outer s H args us vs Q E hr e0 hb r ⟨O,ds,S,st,r',h⟩;exact False.elim h]
end
section
variable{prog:bC}{w:bN}{A:cD}{E:al->aw->Prop}{s:aw}
theorem xj(n:Nat):cA ((n:Int)-1) (-1) (-1)=n:=by
 unfold cA;have h1:¬((-1:Int)>0):=by decide
 rw[T8 h1];by_cases h:(n:Int)-1 > -1
 .rw[T9 h,show(- -1:Int)=1 by decide,Int.ediv_one]
  lia
 .rw[T8 h]
  lia
def Wj{sl:aI}{vk:al}{n:Nat}{Q:Int×Int×Nat->aw->Prop}(hs:s.heap.IsSliceOf sl .none .none vk)(pk:iB vk (aa<|-1))
  (h:Q ((n:Int)-1,-1,n) s):aW (aQ prog w) A (iD (.ref sl)<|c7 (n:Int)) Q E s:=by
 obtain⟨os,hos,hcs,hds⟩:=id hs;refine ab<|ab<|cz hos hds rfl<|ab<|cz hos hds rfl<|ab<|cz hos hds rfl<|au ?_;refine ab<|HT.XJ pk ?_;show aW _ _ (if((-1:Int) == 0)=am then _ else _) _ _ s
 rw[T8 (by decide)]
 refine ab<|iC<|ab<|iC<|ab<|au ?_;show aW _ _ (c7 ((n:Int)-1,(-1:Int),cA ((n:Int)-1) (-1)<|-1)) _ _ s;rw[xj];exact au h
theorem ua(xs:Array al):((aM xs.size).filterMap λ(k:Nat)=>xs[((xs.size:Int)-1+(k:Int) * -1).toNat]?).toArray=xs.toList.reverse.toArray:=by
 congr 1
 have e:(aM xs.size).filterMap (λ(k:Nat)=>xs[((xs.size:Int)-1+(k:Int) * -1).toNat]?)=((aM xs.size).map λk=>xs.size-1-k).filterMap (xs[·]?):=by
  rw[iE]
  congr 1
  funext k
  have:((xs.size:Int)-1+(k:Int) * -1).toNat=xs.size-1-k:=by lia
  rw[this];rfl
 rw[e,PySem.W.krv_range,List.filterMap_reverse,PySem.W.krv_all]
def XT{Q:al->aw->Prop}(ht:o8 s.heap t items)(hs:s.heap.IsSliceOf sl .none .none vk)(pk:iB vk (aa<|-1))
  (h:Q (.ref s.heap.objs.size) {s with heap:=s.heap.push {cls:=.type "tuple",data:=.seq items.toList.reverse.toArray}})
  (hsz:items.size<=bp):aW (aQ prog w) A (i4 (.ref t)<|.ref sl) Q E s:=by
 have htake:sizeOk (.seq items.toList.reverse.toArray):=by
  show items.toList.reverse.toArray.size<=bp;rw[ax,h7,ay];exact hsz
 obtain⟨os,hos,hcs,hds⟩:=id hs;have hTs:s.TypeIs (.ref sl) "slice":=#[os,hos,hcs];unfold i4
 try with_reducible refine bR ?_
 first|refine ab<|au ?_|skip
 refine ab<|i5 ht.typeIs (by decide) ?_
 refine ab (cr ht.typeIs cg
  (cG cg ht.typeIs hZ ?_<|iF _ _))
 show aW _ _ (fz (.ref t) >>= _) _ _ s;refine ab<|mi ht ?_;refine ab<|ig hTs ?_;rw[T9 (by decide)]
 refine ab<|Wj hs pk ?_;have hno:¬(((items.size:Int)-1 == 0&&(-1:Int) == 1&&items.size == items.size)=am):=by
  intro q;rw[aC,aC]at q;exact T7 q.1.2 (by decide)
 show aW _ _ (if((items.size:Int)-1 == 0&&(-1:Int) == 1&&items.size == items.size)=am then _ else _) _ _ s
 rw[T8 hno,ua]
 first
  |exact ab<|bH (au #[_,rfl,au h]) htake
  |exact ab<|bH (ab<|au<|au #[_,rfl,au h]) htake
  |exact ab<|ab<|bH (au<|au #[_,rfl,au h]) htake
  |exact ab<|ab<|bH (au #[_,rfl,au h]) htake
end
section
variable{X:Cx}{xw:Nat->Hp->Prop}{C:Calls}{e a b c tg it:Expr}{i j k:E}{pos p p' p2 p3:iw}{q1:Option bG}
def Zck{e1:Expr}(ha:CE X xw C a i)(h1:CE X xw C e1 (.neg<|.c<|.int 1)):CE X xw C (.Subscript a (.Slice ae ae (aa e1) p2) pos) (.rev i):=.mk <| by
 intro pq s Z H Q I hq;obtain⟨O,l,S,st,lr,h⟩:=hq;have h':=h
 refine oG<|thn (ha.h pq s Z H (λx H1=>∃ρ1 S1 d,St3 X.K ρ1 S1 H1/\LocR ρ1 H1 l Z/\Rep ρ1 H1 d x/\End X.K xw Rep ρ1 H1 Q (Pv.po (Pv.Zcu d) S1)) I #[O,l,S,st,lr,h'.bind λd S1 ρ1 H1 v f1 st1 r1 h1=>#[ρ1,S1,d,st1,lr.mono f1,r1,h1]]) λv s1 #[x,H1,I1,r1,ρ1,S1,d,st1,lr1,rd,h2]=>?_
 refine wpAny_Slice ?_;rw[mj];refine au<|au ?_;rw[evalPart_some];refine thn (h1.h pq s1 Z H1 (λy H2=>y=.int (-1)/\∃ρ2,Fut ρ1 H1 ρ2 H2/\St3 X.K ρ2 S1 H2) I1 #[ρ1,l,S1,st1,lr1,λρ2 H2 y f2 st2 ry=>#[ry.int',ρ2,f2,st2]]) λvk s2 #[y,H2,I2,ry,ey,ρ2,f2,st2]=>?_
 subst ey;obtain⟨t,rfl⟩:=ry;have rd2:=rd.mono f2;have h3:=End.mono f2 h2;cases d with
 |tup ds=>
  obtain⟨q,xs,rfl,hp,rs⟩:=rd2.tup';cases r1;have I4:Inv X pq Z H2 {s2 with heap:=s2.heap.push {cls:=.type "slice",data:=.fields [.none,.none,.int (-1) t].toArray}}:=I2.kept (t':=s2.toks) λb ob q=>aq _ q
  obtain⟨its,r,ht,hz⟩:=I4.tuple<|SqT.of hp;have hlen:its.toArray.size=xs.length:=by rw[ax];exact r.length.symm
  refine tail_any ht.typeIs cg.lookup ?_ (by with_unfolding_all rfl)
  refine XT ht (mI ..) (iB.int _ _) ?_ (by rw[hlen];exact hz)
  refine#[.ref _,_,I4.laid (t':=s2.toks) (o:=.tup xs.reverse) (λb ob q=>aq _ q) (aH _) #[by rw[h7];exact hz,_,r.reverse,iq _ _],rfl,h3.newT st2 rs.reverse _<|I4.hok.fresh<|aH _]
 |_=>exact False.elim h3
end
def JP{a b c}:aL (.Constant a b c::es) env=(ap,c8 (.Constant a b c) env)::aL es env:=rfl
def zJ{a b}:aL (.Name a b::es) env=(ap,c8 (.Name a b) env)::aL es env:=rfl
def vw{a b c}:aL (.Tuple a b c::es) env=(ap,c8 (.Tuple a b c) env)::aL es env:=rfl
def uE{a b c d}:aL (.BinOp a b c d::es) env=(ap,c8 (.BinOp a b c d) env)::aL es env:=rfl
def Zah{a b c}:aL (.UnaryOp a b c::es) env=(ap,c8 (.UnaryOp a b c) env)::aL es env:=rfl
def uA{a b c d}:aL (.Compare a b c d::es) env=(ap,c8 (.Compare a b c d) env)::aL es env:=rfl
def ub{a b c}:aL (.Subscript a b c::es) env=(ap,c8 (.Subscript a b c) env)::aL es env:=rfl
def yz{a b c d}:aL (.Call a b c d::es) env=(ap,c8 (.Call a b c d) env)::aL es env:=rfl
def ym{a b c d}:aL (.ListComp a b c d::es) env=(ap,c8 (.ListComp a b c d) env)::aL es env:=rfl
def YM:List ir->List (Int×Int)->Prop
 |[],[]=>True
 |e::r,(k,j)::q=>(∃t,e.key=.int k t)/\e.hash=hashInt k/\(∃u,e.val=.int j u)/\YM r q
 |_,_=>False
theorem YM.mem :∀{es:List ir}{tab:List (Int×Int)},YM es tab->∀e∈es,∃k,(fS P w).is k e.key=am/\e.hash=(fS P w).hash k
 |[],_,_,e,h=>by cases h
 |e::r,[],h,_,_=>h.elim
 |e::r,(k,j)::q,h,x,hx=>by
  obtain⟨⟨t,h1⟩,h2,_,h4⟩:=h;rcases aA.mp hx with rfl|hx
  .exact#[k,by rw[h1];exact oK P w k t,h2]
  .exact YM.mem h4 x hx
theorem YM.find(k:Int):∀{es:List ir}{tab:List (Int×Int)},YM es tab->(tab.lookup k=ae->(es.find? λe=>(fS P w).is k e.key)=ae)/\∀j,tab.lookup k=aa j->∃e t,(es.find? λe=>(fS P w).is k e.key)=aa e/\e.val=.int j t
 |[],[],_=>#[λ_=>rfl,λj h=>by cases h]
 |[],_::_,h=>h.elim
 |e::r,[],h=>h.elim
 |e::r,(k',j')::q,h=>by
  obtain⟨⟨t,h1⟩,h2,⟨u,h3⟩,h4⟩:=h;obtain⟨i1,i2⟩:=YM.find k h4;rw[bI,eB];have hd:(fS P w).is k e.key=ai (k=k'):=KeyKind.is_eq_decide (by rw[h1];exact oK P w k' t) k
  rw[hd];by_cases z:k=k'
  .subst z
   rw[beq_self_eq_true,T5 rfl];exact#[λz=>(by cases z),λj z=>(by cases z;exact#[e,u,rfl,h3])]
  .rw[beq_eq_false_iff_ne.mpr z,T4 z]
   exact#[i1,i2]
def jJ{P:bC}{w:bN}{K:ao}{a:aI}{es:Array ir}{n:Nat}{tab:List (Int×Int)}(hl:K.lookup a=aa #[.type "dict",ae,.dict es n,#[]])(ht:YM es.toList tab)(ha:(a == gD)=ap):Zdh P w K a tab:=by
 refine#[ha,λk=>findBy (fS P w).is es k,λh X=>#[_,es,n,X _ _ hl,#[rfl,rfl,rfl],rfl,λe he=>ht.mem e<|lI.mpr he,λ_=>rfl],λk=>?_]
 obtain⟨l⟩:=es;obtain⟨i1,i2⟩:=YM.find k ht;refine#[λz=>?_,λj z=>?_]
 .show((l.toArray.find? λe=>(fS P w).is k e.key).map (·.val))=ae
  rw[mO,i1 z];rfl
 .obtain⟨e,t,q1,q2⟩:=i2 j z
  refine#[t,?_];show((l.toArray.find? λe=>(fS P w).is k e.key).map (·.val))=_
  rw[mO,q1];exact congrArg aa q2
def hu7(hr:Room k A):A.units+7<dL:=Nat.lt_of_le_of_lt (by lia) hr.un
def vR{K:ao}{C:Calls}{n:Nat}{H:Hp}{a:aI}{ns:List Int}(hO:Only H)(hS:SqL K H a (ns.map V.int))(h:∀s,∃S',C n [.scr ns] s=.ok (.bl am) S'):spF K C ap n [.ref a] H (λv _=>v=.bl am) λ_ _ _=>False:=by
 obtain⟨S',e⟩:=h (0,ap);have sc:Scr K H a ns:=by
  rcases hS with(hS|hS)|hS
  .rcases hO a with z|⟨o,xs,z⟩
   .rw[z]at hS;cases hS
   .rw[z]at hS;cases hS
  .exact .inl hS
  .exact .inr hS
 refine#[#[K,ae,λ_=>False,λ_ h=>by cases h],[.scr ns],(0,ap),#[rfl,λ_ h=>h.elim,λ_ h=>(by cases h),λP ps e=>by rcases hO P with z|⟨_,_,z⟩<;>(rw[z]at e;cases e)],Reps.cons (by unfold Rep;exact#[a,rfl,sc]) Reps.nil,?_]
 rw[e];exact λρ' H' v _ _ r=>r.1.bl'
end Sd
namespace Sd
open PySem PySem.Spec PyProof.Rows L2
def Src(b:Bool)(h:bY)(it l:aI)(k:Nat):Prop:=match b with
 |true=>h.IsListIter it l k
 |false=>h.IsTupleIter it l k
def Yp(b:Bool)(h:bY)(l:aI)(xs:Array al):Prop:=match b with
 |true=>h.IsList l xs
 |false=>h.IsTuple l xs
def Src.ext(x:Src b h it l k)(e:i8 c h h')(n:it≠c):Src b h' it l k:=by
 cases b
 .exact bY.IsTupleIter.extBut x e n
 .exact bY.IsListIter.extBut x e n
def Src.keep(x:Src b h it l k)(e:∀o,h.get? it=aa o->h'.get? it=aa o):Src b h' it l k:=by
 cases b
 .obtain⟨o,ho,r⟩:=x;exact#[o,e o ho,r]
 .obtain⟨o,ho,r⟩:=x;exact#[o,e o ho,r]
def Src.obj(x:Src b h it l k):∃o,h.get? it=aa o/\∀v,o.data≠.cell v:=by
 cases b
 .obtain⟨o,ho,_,d⟩:=x;exact#[o,ho,λv z=>by rw[d]at z;cases z]
 .obtain⟨o,ho,_,d⟩:=x;exact#[o,ho,λv z=>by rw[d]at z;cases z]
def Yp.keep(x:Yp b h l xs)(e:∀o,h.get? l=aa o->h'.get? l=aa o):Yp b h' l xs:=by
 cases b
 .obtain⟨o,ho,r⟩:=x;exact#[o,e o ho,r]
 .obtain⟨o,ho,r⟩:=x;exact#[o,e o ho,r]
def wG{Q:al->aw->Prop}(hit:s.heap.IsTupleIter it t i)(ht:s.heap.IsTuple t items)(hx:items[i]?=aa x)
  (hQ:∀h',h'.IsTupleIter it t (i+1)->eZ it s.heap h'->Q x {s with heap:=h' }):aW (aQ prog w) A (eo<|.ref it) Q E s:=by
 obtain⟨o,ho,hc,hd⟩:=id hit;obtain⟨ol,hol,_,nl,hdl⟩:=ht;refine ab<|cr hit.typeIs d4<|cG d4 hit.typeIs im ?_<|hG _;show aW _ _ (field (.ref it) 0 >>= _) _ _ s;refine ab<|cz ho hd rfl ?_;show aW _ _ (if(bT t == bf)=am then _ else _) _ _ s
 rw[T8 (by exact aG)];refine ab<|cz ho hd rfl ?_
 refine ab<|d5 hol hdl ?_;simp only[fv,hx];refine ab<|gl ho hd (by simp)<|au #[x,rfl,au<|hQ _ #[_,ee _ ho<|gC<|d6 hd _,(kc ..).trans hc,?_]<|dy ..]
 rw[d6 hd];simp[gE]
def Qx{Q:al->aw->Prop}(hh:A.handled=ae)(hit:s.heap.IsTupleIter it t i)(ht:s.heap.IsTuple t items)(hx:items[i]?=ae)
  (hE:∀h' e,i8 it s.heap h'->(∃o,h'.get? e=aa o/\o.cls=.type "StopIteration")->E (.ref e) {s with heap:=h' }):aW (aQ prog w) A (eo<|.ref it) Q E s:=by
 obtain⟨o,ho,hc,hd⟩:=id hit;obtain⟨ol,hol,_,nl,hdl⟩:=ht;refine ab<|cr hit.typeIs d4<|cG d4 hit.typeIs im ?_<|hG _;show aW _ _ (field (.ref it) 0 >>= _) _ _ s;refine ab<|cz ho hd rfl ?_;show aW _ _ (if(bT t == bf)=am then _ else _) _ _ s
 rw[T8 (by exact aG)];refine ab<|cz ho hd rfl ?_
 refine ab<|d5 hol hdl ?_;simp only[fv,hx];refine ab<|fb<|ab<|gl ho hd (by simp) ?_;show aW _ _ (newExc (.type "StopIteration") [] >>= _) _ _ _
 refine ab ?_;simp only[newExc,newTuple];refine ab<|bH ?_ (by size_fits)
 refine ab (eY (by first|rfl|(simp only[lL];rfl))<|bH ?_ (by size_fits))
 simp only[raiseNew];refine ab<|wpAny_handled ?_;first|rw[hh]|rw[hh]
 exact ab<|au<|wpAny_throw<|hE _ _ (((dy ..).extBut.push _).push _) #[_,aJ _ rfl,rfl]
def X4{Q:al->aw->Prop}(hit:Src b s.heap it l k)(hl:Yp b s.heap l xs)(hx:xs[k]?=aa x)
  (hQ:∀h',Src b h' it l (k+1)->eZ it s.heap h'->Q x {s with heap:=h' }):aW (aQ prog w) A (eo<|.ref it) Q E s:=by
 cases b
 .exact wG hit hl hx hQ
 .exact wpAny_nextOf_list_item hit hl hx hQ
def Qm{Q:al->aw->Prop}(hh:A.handled=ae)(hit:Src b s.heap it l k)(hl:Yp b s.heap l xs)(hx:xs[k]?=ae)
  (hE:∀h' e,i8 it s.heap h'->(∃o,h'.get? e=aa o/\o.cls=.type "StopIteration")->E (.ref e) {s with heap:=h' }):aW (aQ prog w) A (eo<|.ref it) Q E s:=by
 cases b
 .exact Qx hh hit hl hx hE
 .exact wpAny_nextOf_list_end hh hit hl hx hE
noncomputable def Ys(b:Bool)(l:aI):fD:={cls:=.type (if b then "list_iterator" else "tuple_iterator"),data:=.fields [.ref l,.int 0 0].toArray}
def Gd{Q:al->aw->Prop}(hl:Yp b s.heap l xs)(h:Q (.ref s.heap.objs.size) {s with heap:=s.heap.push (Ys b l)}):aW (aQ prog w) A (kh<|.ref l) Q E s:=by
 cases b
 .exact fW hl h
 .exact fu hl h
structure ZipSt(b1 b2:Bool)(z TI TO i1 i2 l1 l2:aI)(k:Nat)(f0:al)(h:bY):Prop where
 zp:nY h z TI TO f0
 ti:kX h TI (.ref i1) (.ref i2)
 to:∃a b,kX h TO a b
 s1:Src b1 h i1 l1 k
 s2:Src b2 h i2 l2 k
def vo{b1 b2:Bool}{z TI TO i1 i2 l1 l2:aI}{k:Nat}{xs ys:Array al}{x y:al}{Q:al->aw->Prop}(D:lN z TI TO i1 i2 l1 l2)(Z:ZipSt b1 b2 z TI TO i1 i2 l1 l2 k .none s.heap)(hl1:Yp b1 s.heap l1 xs)(hl2:Yp b2 s.heap l2 ys)(hx:xs[k]?=aa x)(hy:ys[k]?=aa y)
  (hQ:∀h',ZipSt b1 b2 z TI TO i1 i2 l1 l2 (k+1) (gE s.heap.objs.size) h'->kX h' s.heap.objs.size x y->(∀c o,c∉[z,TO,i1,i2]->s.heap.get? c=aa o->h'.get? c=aa o)->Q (.ref s.heap.objs.size) {s with heap:=h' }) :
  aW (aQ prog w) A (dE.«zip.__next__» #[[.ref z],[]]) (λfin s'=>∃v,fin=.done (.ret v)/\Q v s') E s:=by
 obtain⟨hz,hTI,⟨a,b,hTO⟩,h1,h2⟩:=Z;show aW _ _ (field (.ref z) 2 >>= _) _ _ _;refine ab<|cz hz rfl (x:=.bool ap) rfl ?_;refine ab<|cz hz rfl (x:=.ref TI) rfl<|ab<|d5 hTI rfl ?_;refine ab ?_;refine ab<|cz hz rfl (x:=.none) rfl<|au ?_;simp only[if_true];refine ab<|fb<|ab<|cz hz rfl (x:=.ref TO) rfl<|ab<|d7 hz (by simp) λh₁ hz₁ hs₁=>?_
 replace hz₁:nY h₁ z TI TO .ellipsis:=by exact hz₁
 refine ab ?_;simp only[kF,oa,ln,oM];refine ab<|ab<|kn ?_;refine ab<|X4 (h1.ext hs₁.extBut D.i1z) (hl1.keep λo e=>hs₁.extBut _ o D.l1z e) hx λh₂ h1₂ hs₂=>au ?_
 have hTO₂:kX h₂ TO a b:=by exact hs₂.extBut _ _ D.TOi1<|hs₁.extBut _ _ D.TOz hTO
 refine ab<|d5 hTO₂ rfl<|ab<|gT hTO₂ λh₃ hTO₃ hs₃=>?_
 replace hTO₃:kX h₃ TO x b:=by exact hTO₃
 refine ab<|nZ<|au<|ab<|ab<|kn ?_;have to3:∀c o,c≠z->c≠TO->c≠i1->s.heap.get? c=aa o->h₃.get? c=aa o:=λc o c1 c2 c3 e=>hs₃.extBut _ _ c2<|hs₂.extBut _ _ c3<|hs₁.extBut _ _ c1 e
 refine ab<|X4 (h2.keep λo e=>to3 _ o D.i2z D.TOi2.symm D.i12.symm e) (hl2.keep λo e=>to3 _ o D.l2z D.l2TO D.l2i1 e) hy λh₄ h2₄ hs₄=>au ?_
 have hTO₄:kX h₄ TO x b:=by exact hs₄.extBut _ _ D.TOi2 hTO₃
 refine ab<|d5 hTO₄ rfl<|ab<|gT hTO₄ λh₅ hTO₅ hs₅=>?_
 replace hTO₅:kX h₅ TO x y:=by exact hTO₅
 refine ab<|nZ<|au<|au<|ab<|d5 hTO₅ rfl<|ab<|wpAny_newTuple ?_;have hsz:h₅.objs.size=s.heap.objs.size:=by rw[hs₅.1,hs₄.1,hs₃.1,hs₂.1,hs₁.1]
 have to5:=λc o c1 c2 c3 c4 e=>hs₅.extBut _ _ c2<|hs₄.extBut _ _ c4<|to3 c o c1 c2 c3 e
 have hz₅:nY h₅ z TI TO .ellipsis:=by exact hs₅.extBut _ _ D.TOz.symm<|hs₄.extBut _ _ D.i2z.symm<|hs₃.extBut _ _ D.TOz.symm<|hs₂.extBut _ _ D.i1z.symm hz₁
 have h1₅:Src b1 h₅ i1 l1 (k+1):=((h1₂.ext hs₃.extBut D.TOi1.symm).ext hs₄.extBut D.i12).ext hs₅.extBut D.TOi1.symm;have h2₅:Src b2 h₅ i2 l2 (k+1):=h2₄.ext hs₅.extBut D.TOi2.symm;have zl:z<h₅.objs.size:=aF hz₅;refine ab ?_;have hz₆:nY (h₅.push {cls:=.type "tuple",data:=.seq [x,y].toArray}) z TI TO .ellipsis:=by exact aq _ hz₅
 refine ab<|d7 hz₆ (by simp) λh₇ hz₇ hs₇=>?_
 replace hz₇:nY h₇ z TI TO (gE h₅.objs.size):=by exact hz₇
 refine d7 hz₇ (by simp) λh₈ hz₈ hs₈=>au #[_,rfl,?_]
 replace hz₈:nY h₈ z TI TO (gE h₅.objs.size):=by exact hz₈
 have up:∀c o,c≠z->h₅.get? c=aa o->h₈.get? c=aa o:=λc o c1 e=>by exact hs₈.extBut _ _ c1<|hs₇.extBut _ _ c1<|aq _ e
 have hT₈:kX h₈ h₅.objs.size x y:=by exact hs₈.extBut _ _ (fF zl)<|hs₇.extBut _ _ (fF zl)<|aJ _ rfl
 show Q (.ref h₅.objs.size) _;rw[hsz]at hz₈ hT₈ ⊢;refine hQ h₈ #[hz₈,up _ _ D.TIz<|to5 _ _ D.TIz D.TITO D.TIi1 D.TIi2 hTI,#[x,y,up _ _ D.TOz hTO₅],h1₅.keep λo e=>up _ o D.i1z e,h2₅.keep λo e=>up _ o D.i2z e] hT₈ λc o hc e=>?_
 simp only[aA,b5,or_false,not_or]at hc;exact up c o hc.1<|to5 c o hc.1 hc.2.1 hc.2.2.1 hc.2.2.2 e
def V8{b1 b2:Bool}{z TI TO i1 i2 l1 l2:aI}{k:Nat}{xs ys:Array al}{Q:Fin->aw->Prop}(hh:A.handled=ae)(D:lN z TI TO i1 i2 l1 l2)(Z:ZipSt b1 b2 z TI TO i1 i2 l1 l2 k .none s.heap)(hl1:Yp b1 s.heap l1 xs)(hl2:Yp b2 s.heap l2 ys)(hend:xs[k]?=ae\/ys[k]?=ae)
  (hE:∀h' e,(∀c o,c∉[z,TO,i1,i2]->s.heap.get? c=aa o->h'.get? c=aa o)->(∃o,h'.get? e=aa o/\o.cls=.type "StopIteration")->E (.ref e) {s with heap:=h' }) :
  aW (aQ prog w) A (dE.«zip.__next__» #[[.ref z],[]]) Q E s:=by
 obtain⟨hz,hTI,⟨a,b,hTO⟩,h1,h2⟩:=Z;have hk:∀{c:aI},c∉[z,TO,i1,i2]->c≠z/\c≠TO/\c≠i1/\c≠i2:=λhc=>by
  simp only[aA,b5,or_false,not_or]at hc;exact hc
 show aW _ _ (field (.ref z) 2 >>= _) _ _ _;refine ab<|cz hz rfl rfl ?_;refine ab<|cz hz rfl (x:=.ref TI) rfl<|ab<|d5 hTI rfl ?_;refine ab ?_;refine ab<|cz hz rfl (x:=.none) rfl<|au ?_;simp only[if_true];refine ab<|fb<|ab<|cz hz rfl (x:=.ref TO) rfl<|ab<|d7 hz (by simp) λh₁ hz₁ hs₁=>?_
 replace hz₁:nY h₁ z TI TO .ellipsis:=by exact hz₁
 refine ab ?_;simp only[kF,oa,ln,oM];refine ab<|ab<|kn ?_;have l1₁:=hl1.keep λo e=>hs₁.extBut _ o D.l1z e
 cases hx:xs[k]? with
 |none=>
  refine ab<|Qm hh (h1.ext hs₁.extBut D.i1z) l1₁ hx λh₂ e hs₂ he=>?_
  obtain⟨oe,hoe,hce⟩:=he;have hz₂:nY h₂ z TI TO .ellipsis:=by exact hs₂ _ _ D.i1z.symm hz₁
  have hez:e≠z:=λx=>by subst x;rw[hz₂]at hoe;cases hoe;simp at hce
  exact d7 hz₂ (by simp) λh₃ _ hs₃=>hE h₃ e (λc o hc x=>hs₃.extBut _ _ (hk hc).1<|hs₂ _ _ (hk hc).2.2.1<|hs₁.extBut _ _ (hk hc).1 x) #[oe,hs₃.extBut _ _ hez hoe,hce]
 |some x=>
  have hy:ys[k]?=ae:=by rcases hend with q|q;rw[hx]at q;cases q;exact q
  refine ab<|X4 (h1.ext hs₁.extBut D.i1z) l1₁ hx λh₂ h1₂ hs₂=>au ?_
  have hTO₂:kX h₂ TO a b:=by exact hs₂.extBut _ _ D.TOi1<|hs₁.extBut _ _ D.TOz hTO
  refine ab<|d5 hTO₂ rfl<|ab<|gT hTO₂ λh₃ hTO₃ hs₃=>?_
  refine ab<|nZ<|au<|ab<|ab<|kn ?_;have to3:∀c o,c≠z->c≠TO->c≠i1->s.heap.get? c=aa o->h₃.get? c=aa o:=λc o c1 c2 c3 e=>hs₃.extBut _ _ c2<|hs₂.extBut _ _ c3<|hs₁.extBut _ _ c1 e
  refine ab<|Qm hh (h2.keep λo e=>to3 _ o D.i2z D.TOi2.symm D.i12.symm e) (hl2.keep λo e=>to3 _ o D.l2z D.l2TO D.l2i1 e) hy λh₄ e hs₄ he=>?_
  obtain⟨oe,hoe,hce⟩:=he;have hz₄:nY h₄ z TI TO .ellipsis:=by exact hs₄ _ _ D.i2z.symm<|hs₃.extBut _ _ D.TOz.symm<|hs₂.extBut _ _ D.i1z.symm hz₁
  have hez:e≠z:=λx=>by subst x;rw[hz₄]at hoe;cases hoe;simp at hce
  exact d7 hz₄ (by simp) λh₅ _ hs₅=>hE h₅ e (λc o hc x=>hs₅.extBut _ _ (hk hc).1<|hs₄ _ _ (hk hc).2.2.2<|to3 c o (hk hc).1 (hk hc).2.1 (hk hc).2.2.1 x) #[oe,hs₅.extBut _ _ hez hoe,hce]
def G0{b1 b2:Bool}{z TI TO i1 i2 l1 l2:aI}{k:Nat}{xs ys:Array al}{x y:al}{Q:Option al->aw->Prop}(D:lN z TI TO i1 i2 l1 l2)(Z:ZipSt b1 b2 z TI TO i1 i2 l1 l2 k .none s.heap)(hl1:Yp b1 s.heap l1 xs)(hl2:Yp b2 s.heap l2 ys)(hx:xs[k]?=aa x)(hy:ys[k]?=aa y)
  (hQ:∀h',ZipSt b1 b2 z TI TO i1 i2 l1 l2 (k+1) (gE s.heap.objs.size) h'->kX h' s.heap.objs.size x y->(∀c o,c∉[z,TO,i1,i2]->s.heap.get? c=aa o->h'.get? c=aa o)->Q (aa<|.ref s.heap.objs.size) {s with heap:=h' }) :
  aW (aQ prog w) A (lG<|.ref z) Q E s:=by
 have hT:s.TypeIs (.ref z) "zip":=#[_,Z.zp,rfl];exact ab<|ko<|cr hT hJ<|cG hJ hT nN (vo D Z hl1 hl2 hx hy λh' a1 a2 a3=>au<|hQ h' a1 a2 a3)<|m9 _
def VC{b1 b2:Bool}{z TI TO i1 i2 l1 l2:aI}{k:Nat}{xs ys:Array al}{Q:Option al->aw->Prop}(hh:A.handled=ae)(D:lN z TI TO i1 i2 l1 l2)(Z:ZipSt b1 b2 z TI TO i1 i2 l1 l2 k .none s.heap)(hl1:Yp b1 s.heap l1 xs)(hl2:Yp b2 s.heap l2 ys)(hend:xs[k]?=ae\/ys[k]?=ae)
  (hQ:∀h',(∀c o,c∉[z,TO,i1,i2]->s.heap.get? c=aa o->h'.get? c=aa o)->Q ae {s with heap:=h' }):aW (aQ prog w) A (lG<|.ref z) Q E s:=by
 have hT:s.TypeIs (.ref z) "zip":=#[_,Z.zp,rfl];refine ab<|ko<|cr hT hJ<|cG hJ hT nN (V8 hh D Z hl1 hl2 hend λh' e hk he=>?_)<|m9 _
 obtain⟨o,ho,hc⟩:=he;exact ab<|kG #[o,ho,hc] isSubtype_stop<|au<|hQ _ hk
noncomputable def zH1(h:bY)(b1:Bool)(l1:aI):bY:=h.push<|Ys b1 l1
noncomputable def zH2(h:bY)(b1 b2:Bool)(l1 l2:aI):bY:=(zH1 h b1 l1).push<|Ys b2 l2
noncomputable def zH3(h:bY)(b1 b2:Bool)(l1 l2:aI):bY:=(zH2 h b1 b2 l1 l2).push {cls:=.type "tuple",data:=.seq [.ref h.objs.size,.ref (zH1 h b1 l1).objs.size].toArray}
noncomputable def zH4(h:bY)(b1 b2:Bool)(l1 l2:aI):bY:=(zH3 h b1 b2 l1 l2).push {cls:=.type "tuple",data:=.seq [.none,.none].toArray}
noncomputable def zH5(h:bY)(b1 b2:Bool)(l1 l2:aI):bY:=(zH4 h b1 b2 l1 l2).push {cls:=.type "zip",data:=.fields [.none,.bool ap,.bool ap,.ref (zH2 h b1 b2 l1 l2).objs.size,.ref (zH3 h b1 b2 l1 l2).objs.size].toArray}
def j4(b1 b2:Bool)(l1 l2:aI)(xs ys:Array al) :
  oI (dE.«zip.__new__» #[[.type "zip",.ref l1,.ref l2],[]]) (λ_ R s=>Yp b1 s.heap l1 xs/\Yp b2 s.heap l2 ys/\R (.ok<|.ret<|.ref (zH4 s.heap b1 b2 l1 l2).objs.size) {s with heap:=zH5 s.heap b1 b2 l1 l2}):=
 .of_wp λprog w A R s h=>by
  obtain⟨hp,g,d,tk,os⟩:=s;obtain⟨hl1,hl2,h⟩:=h;have hsub:=sub_zip;have hL1:=hl1;have hL2:Yp b2 (aw.heap #[hp.push<|Ys b1 l1,g,d,tk,os]) l2 ys:=hl2.keep λo e=>aq _ e
  wp_walk using Gd hL1,Gd hL2
  exact#[_,rfl,h]
def vb{Q:al->aw->Prop}(hl1:Yp b1 s.heap l1 xs)(hl2:Yp b2 s.heap l2 ys)
  (h:∀h' n,n=s.heap.objs.size->ZipSt b1 b2 (n+4) (n+2) (n+3) n (n+1) l1 l2 0 .none h'->(∀c o,s.heap.get? c=aa o->h'.get? c=aa o)->Q (.ref<|n+4) {s with heap:=h' }) :
  aW (aQ prog w) A (call (.type "zip") [.ref l1,.ref l2]) Q E s:=by
 refine callType_new F.called_zip (by decide) (F.typeCall_zip_2 _ _) (F.newCall_zip_2 _ _) (λobj=>F.args_object_init_3 obj _ _) F.entry_zip_new (j4 b1 b2 l1 l2 xs ys) #[hl1,hl2,?_]
 have z1:(zH1 s.heap b1 l1).objs.size=s.heap.objs.size+1:=cQ ..;have z2:(zH2 s.heap b1 b2 l1 l2).objs.size=s.heap.objs.size+2:=by unfold zH2;rw[cQ,z1]
 have z3:(zH3 s.heap b1 b2 l1 l2).objs.size=s.heap.objs.size+3:=by unfold zH3;rw[cQ,z2]
 have z4:(zH4 s.heap b1 b2 l1 l2).objs.size=s.heap.objs.size+4:=by unfold zH4;rw[cQ,z3]
 have g5:(zH5 s.heap b1 b2 l1 l2).get? (zH4 s.heap b1 b2 l1 l2).objs.size=aa {cls:=.type "zip",data:=.fields [.none,.bool ap,.bool ap,.ref (zH2 s.heap b1 b2 l1 l2).objs.size,.ref (zH3 s.heap b1 b2 l1 l2).objs.size].toArray}:=aJ _ rfl;have k4:∀c o,(zH4 s.heap b1 b2 l1 l2).get? c=aa o->(zH5 s.heap b1 b2 l1 l2).get? c=aa o:=λc o e=>aq _ e
 have k3:=λc o e=>k4 c o<|aq _ e
 have k2:=λc o e=>k3 c o<|aq _ e
 have k1:=λc o e=>k2 c o<|aq _ e
 have g4:=k4 _ _<|aJ (zH3 s.heap b1 b2 l1 l2) rfl;have g3:=k3 _ _<|aJ (zH2 s.heap b1 b2 l1 l2) rfl;have g2:=k2 _ _<|aJ (zH1 s.heap b1 l1) rfl;have g1:=k1 _ _<|aJ s.heap rfl;rw[z2,z3,z4]at g5;rw[z1,z2]at g3;rw[z3]at g4;rw[z1]at g2;rw[z4];have src:∀b l it,(zH5 s.heap b1 b2 l1 l2).get? it=aa (Ys b l)->Src b (zH5 s.heap b1 b2 l1 l2) it l 0:=λb l it e=>by
  cases b
  .exact#[_,e,rfl,rfl]
  .exact#[_,e,rfl,rfl]
 exact#[#[_,g5,rfl],h _ _ rfl #[g5,g3,#[_,_,g4],src b1 l1 _ g1,src b2 l2 _ g2] λc o e=>k1 c o<|aq _ e]
open Ev (E Sm Fn Bop Cop Ty Bf Mf)
def Xt{X:Cx}{pq:List (aI×fD)}{Z:L2.St}{H:Hp}{s:aw}{h':bY}{t':Nat}{ch:List aI}(I:Inv X pq Z H s)(k:∀b o,b∉ch->s.heap.get? b=aa o->h'.get? b=aa o)(hf:∀b∈ch,XS X pq H b):Inv X pq Z H {s with heap:=h',toks:=t' }:=by
 have nit:∀b u,H b=aa u->b∉ch:=λb u e z=>by have:=(hf b z).1;rw[e]at this;cases this
 refine I.step (g':=s.gens) (d':=s.drawn) (λb hb=>?_) (λb o _ _ hc e _=>k b o hc e) (λb o _ _ hc e _=>#[o.slots,k b o hc e]) (λ_ _ _ _ n=>n) (λb o hc e=>#[o,k b o hc e]) (λ_ _ e=>e) (λ_ _ _ e=>e) (λb ps e=>#[#[],by rw[e];simp]) (λm hm=>?_) (λb u e=>?_) I.bare
 .exact#[(hf b hb).2.2.2.1,(hf b hb).2.1,(hf b hb).2.2.2.2.1,(hf b hb).2.2.2.2.2]
 .obtain⟨o,es,ep,ho,r⟩:=hm
  exact#[o,es,ep,k _ o (λz=>(hf _ z).2.1 rfl) ho,r]
 .refine(I.hok b u e).stay (λc v hc q=>k c v ?_ q) (λ_ q=>q) λ_ _ q=>q
  rcases hc with z|z
  .rw[z];exact nit b u e
  .exact nit c _ z
def Ux{h:bY}{o o':fD}{b:aI}(e:(h.push o').get? b=aa o)(n:b≠h.objs.size):h.get? b=aa o:=by
 unfold bY.get? bY.push at *;simp only[Array.getElem?_push]at e;rw[T8 n]at e;exact e
def Xh{a b:Nat}(h:a<b\/b<a):(a:aI)≠b:=λe=>by
 have e':=e;omega
def Sq(b:Bool)(K:ao)(H:Hp)(l:aI)(xs:List V):Prop:=match b with
 |true=>SqL K H l xs
 |false=>SqT K H l xs
def Y1(I:Inv X pq Z H s)(h:Sq b X.K H l xs):∃its:List al,Vals xs its/\Yp b s.heap l its.toArray:=by
 cases b
 .obtain⟨its,r,p,_⟩:=I.tuple h;exact#[its,r,p]
 .obtain⟨its,r,p,_⟩:=I.list h;exact#[its,r,p.isList]
def GM(I:Inv X pq Z H s)(h:Sq b X.K H l xs)(h':Sq b X.K H l ys):xs=ys:=by
 cases b
 .exact I.tuple_inj h h'
 .exact I.list_inj h h'
def QP(x:Yp b h l xs):l<h.objs.size:=by
 cases b
 .obtain⟨o,ho,_⟩:=x;exact aF ho
 .obtain⟨o,ho,_⟩:=x;exact aF ho
noncomputable def Itz(K:ao)(b1 b2:Bool)(l1 l2:aI):It:=
 #[λi H=>∃xs ys x y,Sq b1 K H l1 xs/\Sq b2 K H l2 ys/\xs[i]?=aa x/\ys[i]?=aa y,
  λi H v H'=>∃T x y,(∀xs,Sq b1 K H l1 xs->xs[i]?=aa x)/\(∀ys,Sq b2 K H l2 ys->ys[i]?=aa y)/\H T=ae/\H'=upd H T (.tup [x,y])/\v=.ref T,
  λi H=>∃xs ys,Sq b1 K H l1 xs/\Sq b2 K H l2 ys/\(xs.length<=i\/ys.length<=i)]
def uO{P:bC}{w:bN}{K:ao}{elts:List Expr}{kk:Nat}{tp:iw}{b1 b2:Bool}{z TI TO i1 i2 l1 l2:aI}(D:lN z TI TO i1 i2 l1 l2) :
  Turn P w K (.Tuple elts kk tp) (Itz K b1 b2 l1 l2) [z,TI,TO,i1,i2] z (λi h=>ZipSt b1 b2 z TI TO i1 i2 l1 l2 i .none h) where
 mem:=by simp
 obj:=λi h st b hb=>by
  simp only[aA,b5,or_false]at hb;obtain⟨a,c,hTO⟩:=st.to;rcases hb with e|e|e|e|e<;>subst e
  .exact#[_,st.zp,λv q=>by cases q]
  .exact#[_,st.ti,λv q=>by cases q]
  .exact#[_,hTO,λv q=>by cases q]
  .exact st.s1.obj
  .exact st.s2.obj
 keep:=λi h h' st k=>by
  obtain⟨a,c,hTO⟩:=st.to;exact#[k z (by simp) _ st.zp,k TI (by simp) _ st.ti,#[a,c,k TO (by simp) _ hTO],st.s1.keep λo e=>k i1 (by simp) o e,st.s2.keep λo e=>k i2 (by simp) o e]
 item:=by
  intro X hP hw hK hc i pq s Z H E I hf st hg;subst hP hw hK;obtain⟨xs,ys,x,y,hq1,hq2,hx,hy⟩:=hg;obtain⟨its,rv,o1⟩:=Y1 I hq1;obtain⟨its2,rv2,o2⟩:=Y1 I hq2;obtain⟨u,hu,ru⟩:=rv.get hx;obtain⟨u2,hu2,ru2⟩:=rv2.get hy;refine G0 D st o1 o2 (x:=u) (y:=u2) (by simpa using hu) (by simpa using hu2) λh' Z' hT hk=>?_
  have hfree:=I.hok.fresh<|aH _;have ltz:∀b∈[z,TI,TO,i1,i2],b≠s.heap.objs.size:=λb hb e=>by
   simp only[aA,b5,or_false]at hb;obtain⟨a,c,hTO⟩:=st.to;rcases hb with q|q|q|q|q<;>subst q
   .exact T7 (aF st.zp) (by rw[e];exact br _)
   .exact T7 (aF st.ti) (by rw[e];exact br _)
   .exact T7 (aF hTO) (by rw[e];exact br _)
   .obtain⟨o,ho,_⟩:=st.s1.obj;exact T7 (aF ho) (by rw[e];exact br _)
   .obtain⟨o,ho,_⟩:=st.s2.obj;exact T7 (aF ho) (by rw[e];exact br _)
  have IA:Inv X pq Z (upd H s.heap.objs.size<|.tup [x,y]) {s with heap:=s.heap.push {cls:=.type "tuple",data:=.seq [u,u2].toArray},toks:=s.toks}:=
   I.laid (λb o e=>aq _ e) (aH _) #[by show 2<=bp;decide,[u,u2],.cons ru<|.cons ru2 .nil,iq _ _]
  have hf2:∀b∈[z,TI,TO,i1,i2],XS X pq (upd H s.heap.objs.size<|.tup [x,y]) b:=λb hb=>#[by rw[Zp<|ltz b hb];exact(hf b hb).1,(hf b hb).2]
  have IB:Inv X pq Z (upd H s.heap.objs.size<|.tup [x,y]) {s with heap:=h',toks:=s.toks}:=by
   refine Xt (s:={s with heap:=s.heap.push {cls:=.type "tuple",data:=.seq [u,u2].toArray},toks:=s.toks}) (ch:=[z,TO,i1,i2]) IA (λb o hb e=>?_) λb hb=>hf2 b (by simp only[aA,b5,or_false]at hb ⊢;rcases hb with q|q|q|q<;>simp[q])
   by_cases hbs:b=s.heap.objs.size
   .subst hbs
    have e':=e;rw[aJ _ rfl]at e';cases e';exact hT
   .refine hk b o hb ?_
    have e':=e;have hlt:=aF e';rw[cQ]at hlt;exact Ux e' hbs
  refine#[.ref s.heap.objs.size,rfl,wpAny_letOwnedTupleGo_zip Z'.zp λh2 hz2 hs2=>?_]
  have IC:Inv X pq Z (upd H s.heap.objs.size<|.tup [x,y]) {s with heap:=h2,toks:=s.toks}:=Xt (s:={s with heap:=h',toks:=s.toks}) (ch:=[z]) IB (λb o hb e=>(hs2.2 b<|by simpa using hb).trans e) λb hb=>hf2 b (by simp only[be]at hb;simp[hb])
  obtain⟨a,c,hTO⟩:=Z'.to;refine#[.ref s.heap.objs.size,_,IC,rfl,#[_,x,y,λzs hz=>by rw[GM I hz hq1];exact hx,λzs hz=>by rw[GM I hz hq2];exact hy,hfree,rfl,rfl],?_,λb hb=>(hf2 b hb).1]
  exact#[hz2,hs2.extBut _ _ D.TIz Z'.ti,#[a,c,hs2.extBut _ _ D.TOz hTO],Z'.s1.ext hs2.extBut D.i1z,Z'.s2.ext hs2.extBut D.i2z]
 done:=by
  intro X hP hw hK hc i pq s Z H E I hf st hg;subst hP hw hK;obtain⟨xs,ys,hq1,hq2,hend⟩:=hg;obtain⟨its,rv,o1⟩:=Y1 I hq1;obtain⟨its2,rv2,o2⟩:=Y1 I hq2;have e1:=rv.length;have e2:=rv2.length;refine VC (I.ok.hd hc) D st o1 o2 (by rcases hend with q|q;exact .inl (by simp;omega);exact .inr<|by simp;omega) λh' hk=>#[rfl,Xt (t':=s.toks) (ch:=[z,TO,i1,i2]) I (λb o hb e=>hk b o hb e) λb hb=>hf b (by simp only[aA,b5,or_false]at hb ⊢;rcases hb with q|q|q|q<;>simp[q])]
 self:=λ_ _ _ _ _ st h=>wpAny_pyIter_zip st.zp h
def ZdR(K:ao)(ta:TA):TI:=λZ H R=>ta Z H λvs H1=>∃b1 b2 l1 l2,vs=[.ref l1,.ref l2]/\(∃xs,Sq b1 K H1 l1 xs)/\(∃ys,Sq b2 K H1 l2 ys)/\R (Itz K b1 b2 l1 l2) H1
def Zbh{a b:Expr}{ta:TA}{p pos:iw}(hg:Gl X "zip")(hm:X.mg "zip" = ae)(ha:PA X [a,b] ta)(hs:aL [a,b] X.env=[(ap,c8 a X.env),(ap,c8 b X.env)]:=by rfl)(hs2:aL [b] X.env=[(ap,c8 b X.env)]:=by rfl) :
  PI X (.Tuple elts kk tp) (.Call (.Name "zip" p) [a,b] [] pos) (ZdR X.K ta):=by
 intro pq s Z H R I h;refine Call_<|YU I hg hm (by rfl)<|de (thn (ha pos pq s Z H _ I h) λus s1 #[vs,H1,I1,r1,q1]=>?_) (by rw[hs,hs2]) (by rw[hs2];rfl)
 obtain⟨b1,b2,l1,l2,e,⟨xs,hq1⟩,⟨ys,hq2⟩,q⟩:=q1;subst e;cases r1 with
 |cons r rr=>
  cases rr with
  |cons r' rr=>
   cases rr;cases r;cases r';obtain⟨its,rv,o1⟩:=Y1 I1 hq1;obtain⟨its2,rv2,o2⟩:=Y1 I1 hq2;have lt1:=QP o1;have lt2:=QP o2;refine vb o1 o2 λh' n hn Y hk=>?_
   have I2:=I1.kept (t':=s1.toks) hk
   have q1:(l1:Nat)<n:=by rw[hn];exact lt1
   have q2:(l2:Nat)<n:=by rw[hn];exact lt2
   have D:lN (n+4) (n+2) (n+3) n (n+1) l1 l2:=by constructor<;>first|exact Xh (by omega)|exact Xh<|.inl<|bg q1<|eV n _|exact Xh<|.inl<|bg q2<|eV n _|exact Xh<|.inl q1|exact Xh<|.inl q2
   refine wpAny_pyIter_zip Y.zp #[n+4,[n+4,n+2,n+3,n,n+1],_,_,H1,rfl,I2,uO D,Y,λb hb=>?_,q]
   have hbn:s1.heap.objs.size<=b:=by
    rw[<-hn];simp only[aA,b5,or_false]at hb;rcases hb with e|e|e|e|e<;>rw[e]
    .exact eV n 4
    .exact eV n 2
    .exact eV n 3
    .exact aH n
    .exact eV n 1
   exact I1.fpOk hbn<|I1.hok.fresh hbn
def Side(K:ao)(O:Mx)(H:Hp)(wk:List D)(b:Bool)(l:aI):Prop:=∀ρ' H',Lat O H ρ' H'->∃vs,Sq b K H' l vs/\Reps ρ' H' wk vs
def Jc{K:ao}{O:Mx}{H:Hp}{x:D}{v:V}{wk:List D}(hk:O.K=K)(r:Rep O H x v)(h:Pv.Yf x=aa wk):∃b l,v=.ref l/\(∃xs,Sq b K H l xs)/\Side K O H wk b l:=by
 cases x with
 |tup ds=>
  obtain⟨a,xs,rfl,hp,rs⟩:=r.tup';cases h;exact#[ap,a,rfl,#[xs,SqT.of hp],λρ' H' f=>#[xs,SqT.of (f.keep a _ hp λ_ z=>by cases z),rs.lat f]]
 |lst ds=>
  obtain⟨a,xs,rfl,hp,hx,rs⟩:=r.lst';cases h;exact#[am,a,rfl,#[xs,SqL.of hp],λρ' H' f=>#[xs,SqL.of<|f.keep a _ hp λ_ _=>hx,rs.lat f]]
 |scr ns=>
  obtain⟨a,rfl,hp⟩:=r.scr';cases h;rw[hk]at hp;refine#[am,a,rfl,#[_,hp.sq],λρ' H' f=>#[_,?_,Reps.ints ns]]
  rcases hp with⟨o,hp⟩|hp
  .exact .inl<|.inr #[o,f.keep a _ hp λ_ z=>by cases z]
  .exact .inr hp
 |_=>exact Ev.nos h
def vf{K:ao}{O:Mx}{H:Hp}{v w:List D}{b1 b2:Bool}{l1 l2:aI}(h1:Side K O H v b1 l1)(h2:Side K O H w b2 l2):WRel K O H ((v.zip w).map λp=>.tup [p.1,p.2]) (Itz K b1 b2 l1 l2) where
 go:=λi ρ' S' H' f st hi=>by
  obtain⟨xs,q1,r1⟩:=h1 ρ' H' f;obtain⟨ys,q2,r2⟩:=h2 ρ' H' f;have hi':i<oW v.length w.length:=by simpa using hi
  obtain⟨x,g1,rx⟩:=r1.get (af (show i<v.length by omega))
  obtain⟨y,g2,ry⟩:=r2.get (af (show i<w.length by omega))
  refine#[#[xs,ys,x,y,q1,q2,g1,g2],λu H'' #[T,x',y',e1,e2,hT,eH,eu]=>?_]
  subst eH eu;have ex:=(e1 xs q1).symm.trans g1;have ey:=(e2 ys q2).symm.trans g2;cases ex;cases ey;refine#[ZN hT,st.fresh hT,λd hd=>?_]
  have hz:(v.zip w)[i]?=aa (v[i],w[i]):=iV.mpr #[af (by omega),af (by omega)]
  rw[aK,hz]at hd;cases hd;exact YX ZK<|Reps.cons (rx.mono<|ZN hT)<|Reps.cons (ry.mono<|ZN hT) Reps.nil
 stop:=λρ' S' H' f st=>by
  obtain⟨xs,q1,r1⟩:=h1 ρ' H' f;obtain⟨ys,q2,r2⟩:=h2 ρ' H' f;refine#[xs,ys,q1,q2,?_];show xs.length<=((v.zip w).map λp=>Pv.V.tup [p.1,p.2]).length\/_
  rw[r1.length,r2.length,az,fU];omega
section
variable{X:Cx}{xw:Nat->Hp->Prop}{C:Calls}{a b:Expr}{i j:E}{pos p tp:iw}{elts:List Expr}{kk:Nat}
def Zbj(hm:X.mg "zip" = ae)(ha:CA X xw C [a,b] [i,j])(hg:Gl X "zip")(hs:aL [a,b] X.env=[(ap,c8 a X.env),(ap,c8 b X.env)])(hs2:aL [b] X.env=[(ap,c8 b X.env)]) :
  CW X xw C (.Tuple elts kk tp) (.Call (.Name "zip" p) [a,b] [] pos) (.zip i j):=.mk <|
 PI.imp (Zbh hg hm ha.h hs hs2) λZ H Q #[O,l,S,st,lr,h]=>ZcS st lr h λx y S1 ρ1 H1 v u st1 rv ru h1=>by
  cases e1:Pv.Yf x with
  |none=>rw[e1]at h1;exact False.elim h1
  |some v1=>
   cases e2:Pv.Yf y with
   |none=>rw[e1,e2]at h1;exact False.elim h1
   |some v2=>
    rw[e1,e2]at h1;obtain⟨b1,l1,rfl,s1,d1⟩:=Jc st1.hk rv e1;obtain⟨b2,l2,rfl,s2,d2⟩:=Jc st1.hk ru e2;exact#[b1,b2,l1,l2,rfl,s1,s2,End.ok (rep:=WRel X.K) h1 st1<|vf d1 d2]
end
def U7(hh:A.handled=ae)(b:Bool)(it l:aI)(hne:l≠it)(xs:Array al) :
  Draws prog w A it [it,l] xs.size (λi v=>xs[i]?=aa v) (λi h=>Src b h it l i/\Yp b h l xs) where
 live:=λ_ _ st=>let #[o,ho,_]:=st.1.obj;#[o,ho]
 frame:=λ_ _ _ st hk=>#[st.1.keep λo e=>hk it (by simp) o e,st.2.keep λo e=>hk l (by simp) o e]
 item:=λi s Q E hi st hQ=>X4 st.1 st.2 (aN hi) λh' hit' hs'=>hQ _ h' s.toks (aN hi) #[hit',st.2.keep λo e=>hs'.extBut _ o hne e] hs'
 done:=λs Q E st hE=>Qm hh st.1 st.2 (kY<|aH _) hE
noncomputable def Ite(K:ao)(b:Bool)(l:aI):It:=
 #[λi H=>∃xs x,Sq b K H l xs/\xs[i]?=aa x,
  λi H v H'=>∃T x,(∀xs,Sq b K H l xs->xs[i]?=aa x)/\H T=ae/\H'=upd H T (.tup [.int i,x])/\v=.ref T,
  λi H=>∃xs,Sq b K H l xs/\xs.length=i]
def xE{P:bC}{w:bN}{K:ao}{elts:List Expr}{kk:Nat}{tp:iw}{b:Bool}{e it l:aI}(hei:e≠it)(hle:l≠e)(hli:l≠it) :
  Turn P w K (.Tuple elts kk tp) (Ite K b l) [e,it] e (λi h=>(∃old,IsEnum h e it i old)/\Src b h it l i) where
 mem:=by simp
 obj:=λi h st c hc=>by
  simp only[aA,b5,or_false]at hc;obtain⟨⟨old,he⟩,hs⟩:=st;rcases hc with q|q<;>subst q
  .exact#[_,he,λv q=>by cases q]
  .exact hs.obj
 keep:=λi h h' st k=>by
  obtain⟨⟨old,he⟩,hs⟩:=st;exact#[#[old,k e (by simp) _ he],hs.keep λo q=>k it (by simp) o q]
 item:=by
  intro X hP hw hK hc i pq s Z H E I hf st hg;subst hP hw hK;obtain⟨xs,x,hq,hx⟩:=hg;obtain⟨its,rv,o1⟩:=Y1 I hq;obtain⟨⟨old,he⟩,hs⟩:=st;obtain⟨u,hu,ru⟩:=rv.get hx;have hlt:i<its.toArray.size:=by
   have:=(bc.mp hu).1
   simpa using this
  have hh:X.A.in1.handled=ae:=I.ok.hd hc;refine wpAny_pyNext_enum_itemD (U7 hh b it l hli its.toArray) he #[hs,o1] hlt hei (by simp only[aA,b5,or_false,not_or];exact#[hei,Ne.symm hle]) λx' h' tk hP ho hst hT hsz hk=>?_
  have ex:x'=u:=by
   have:its.toArray[i]?=aa u:=by simpa using hu
   rw[this]at hP;exact(ag hP).symm
  subst ex;have hfree:=I.hok.fresh<|aH _;have ltz:∀c∈[e,it],c≠s.heap.objs.size:=λc hc q=>by
   simp only[aA,b5,or_false]at hc;rcases hc with z|z<;>subst z
   .exact T7 (aF he) (by rw[q];exact br _)
   .obtain⟨o,ho,_⟩:=hs.obj;exact T7 (aF ho) (by rw[q];exact br _)
  have IA:Inv X pq Z (upd H s.heap.objs.size<|.tup [.int i,x]) {s with heap:=s.heap.push {cls:=.type "tuple",data:=.seq [.int i tk,x'].toArray},toks:=tk+1}:=
   I.laid (λc o q=>aq _ q) (aH _) #[by show 2<=bp;decide,[.int i tk,x'],.cons #[tk,rfl]<|.cons ru .nil,iq _ _]
  have hf2:∀c∈[e,it],XS X pq (upd H s.heap.objs.size<|.tup [.int i,x]) c:=λc hc=>#[by rw[Zp<|ltz c hc];exact(hf c hc).1,(hf c hc).2]
  have IB:Inv X pq Z (upd H s.heap.objs.size<|.tup [.int i,x]) {s with heap:=h',toks:=tk+1}:=by
   refine Xt (s:={s with heap:=s.heap.push {cls:=.type "tuple",data:=.seq [.int i tk,x'].toArray},toks:=tk+1}) (ch:=[e,it]) IA (λc o hc q=>?_) hf2
   by_cases hcs:c=s.heap.objs.size
   .subst hcs
    have q':=q;rw[aJ _ rfl]at q';cases q';exact hT
   .simp only[aA,b5,or_false,not_or]at hc
    exact hk c o hc.1 hc.2<|Ux q hcs
  refine#[.ref s.heap.objs.size,rfl,wpAny_letOwnedTupleGo_enum ho λh2 he2 hs2=>?_]
  have IC:Inv X pq Z (upd H s.heap.objs.size<|.tup [.int i,x]) {s with heap:=h2,toks:=tk+1}:=Xt (s:={s with heap:=h',toks:=tk+1}) (ch:=[e]) IB (λc o hc q=>(hs2.2 c<|by simpa using hc).trans q) λc hc=>hf2 c (by simp only[be]at hc;simp[hc])
  refine#[.ref s.heap.objs.size,_,IC,rfl,#[_,x,λzs hz=>by rw[GM I hz hq];exact hx,hfree,rfl,rfl],#[#[x',by simpa using he2],hst.1.ext hs2.extBut<|Ne.symm hei],λc hc=>(hf2 c hc).1]
 done:=by
  intro X hP hw hK hc i pq s Z H E I hf st hg;subst hP hw hK;obtain⟨xs,hq,hend⟩:=hg;obtain⟨its,rv,o1⟩:=Y1 I hq;obtain⟨⟨old,he⟩,hs⟩:=st;have e1:=rv.length;have hh:X.A.in1.handled=ae:=I.ok.hd hc;have en:i=its.toArray.size:=by simp;lia
  subst en;exact wpAny_pyNext_enum_endD (U7 hh b it l hli its.toArray) he #[hs,o1] λh' hx=>#[rfl,Xt (t':=s.toks) (ch:=[e,it]) I (λc o hc q=>hx c o (λz=>hc<|by simp[z]) q) hf]
 self:=λ_ _ _ _ _ st h=>by
  obtain⟨⟨old,he⟩,_⟩:=st;exact nc he h
section
variable{prog:bC}{w:bN}{A:cD}{E:al->aw->Prop}{s:aw}
def vS(l:aI)(items:Array al)(n:Nat)(dct:Option aI)(sl:Array (Option al)) :
  oI (dE.«enumerate.__new__» #[[.type "enumerate",.ref l],[]]) (λ_ R s=>s.heap.get? l=aa {cls:=.type "tuple",dict:=dct,data:=.seq items n,slots:=sl}/\
   R (.ok<|.ret<|.ref (s.heap.push<|Ys ap l).objs.size) {s with heap:=(s.heap.push<|Ys ap l).push {cls:=.type "enumerate",data:=.fields [.none,.bool ap,.ref s.heap.objs.size,gE 0,.none,.none].toArray}}):=
 .of_wp λprog w A R s h=>by
  obtain⟨hp,g,d,tk,os⟩:=s;obtain⟨hl,h⟩:=h;have hsub:=sub_enumerate;have hL:bY.IsTuple (aw.heap #[hp,g,d,tk,os]) l items:=#[_,hl,rfl,n,rfl]
  wp_walk using fQ hl;refine wpAny_stack_any λst=>au ?_;split
  .rename_i c _ _ _ _ _;cases(c == mB "enumerate")<;>(wp_walk using fQ hl,fW hL;exact#[_,rfl,h])
  .wp_walk using fQ hl,fW hL;exact#[_,rfl,h]
def xN{Q:al->aw->Prop}(hL:Yp b s.heap l xs)
  (h:∀h' n,n=s.heap.objs.size->IsEnum h' (n+1) n 0 .none->Src b h' n l 0->(∀c o,s.heap.get? c=aa o->h'.get? c=aa o)->Q (.ref<|n+1) {s with heap:=h' }):aW (aQ prog w) A (call (.type "enumerate") [.ref l]) Q E s:=by
 cases b with
 |true=>exact call_enumerate_list hL λh' a1 a2 _ a4=>h h' _ rfl a1 a2 a4
 |false=>
  obtain⟨⟨c,dct,dt,sl⟩,hl,hc,n,hd⟩:=hL;simp only at hc hd;subst hc hd;refine callType_new F.called_enumerate (by decide) (F.typeCall_enumerate_1 _) (F.newCall_enumerate_1 _) (λobj=>F.args_object_init_2 obj _) F.entry_enumerate_new (vS l xs n dct sl) #[hl,?_]
  have hz:(s.heap.push<|Ys ap l).objs.size=s.heap.objs.size+1:=cQ ..;have g2:=aJ (s.heap.push<|Ys ap l) (o:={cls:=.type "enumerate",data:=.fields [.none,.bool ap,.ref s.heap.objs.size,gE 0,.none,.none].toArray}) rfl;have g1:((s.heap.push<|Ys ap l).push {cls:=.type "enumerate",data:=.fields [.none,.bool ap,.ref s.heap.objs.size,gE 0,.none,.none].toArray}).get? s.heap.objs.size=aa (Ys ap l):=aq _<|aJ _ rfl;rw[hz]at g2 ⊢;exact#[#[_,g2,rfl],h _ _ rfl g2 #[_,g1,rfl,rfl] λc o q=>aq _<|aq _ q]
end
def Zdd(K:ao)(ta:TA):TI:=λZ H R=>ta Z H λvs H1=>∃b l,vs=[.ref l]/\(∃xs,Sq b K H1 l xs)/\R (Ite K b l) H1
def qC{a:Expr}{ta:TA}{p pos:iw}(hg:Gl X "enumerate")(hm:X.mg "enumerate" = ae)(ha:PA X [a] ta)(hs:aL [a] X.env=[(ap,c8 a X.env)]:=by rfl):PI X (.Tuple elts kk tp) (.Call (.Name "enumerate" p) [a] [] pos) (Zdd X.K ta):=by
 intro pq s Z H R I h;refine Call_<|YU I hg hm (by rfl)<|de (thn (ha pos pq s Z H _ I h) λus s1 #[vs,H1,I1,r1,q1]=>?_) hs rfl
 obtain⟨b,l,e,⟨xs,hq⟩,q⟩:=q1;subst e;cases r1 with
 |cons r rr=>
  cases rr;cases r;obtain⟨its,rv,o1⟩:=Y1 I1 hq;have lt1:=QP o1;refine xN o1 λh' n hn he hs' hk=>?_
  have I2:=I1.kept (t':=s1.toks) hk
  have q1:(l:Nat)<n:=by rw[hn];exact lt1
  refine nc he #[n+1,[n+1,n],_,_,H1,rfl,I2,xE (Xh<|.inr<|gJ n) (Xh<|.inl<|dr q1)<|Xh<|.inl q1,#[#[_,he],hs'],λc hc=>?_,q]
  have hbn:s1.heap.objs.size<=c:=by
   rw[<-hn];simp only[aA,b5,or_false]at hc;rcases hc with e|e<;>rw[e]
   .exact i9 n
   .exact aH n
  exact I1.fpOk hbn<|I1.hok.fresh hbn
def vO{lo:Int}{n i:Nat}(h:i<n):(Pv.ZS lo n)[i]?=aa (.int<|lo+i):=by
 unfold Pv.ZS;rw[aK,cJ h];rfl
def xT{K:ao}{O:Mx}{H:Hp}{w:List D}{b:Bool}{l:aI}(h1:Side K O H w b l):WRel K O H (((Pv.ZS 0 w.length).zip w).map λp=>.tup [p.1,p.2]) (Ite K b l) where
 go:=λi ρ' S' H' f st hi=>by
  obtain⟨xs,q1,r1⟩:=h1 ρ' H' f;have hi':i<w.length:=by
   rw[az,fU,Um]at hi;lia
  obtain⟨x,g1,rx⟩:=r1.get<|af hi';refine#[#[xs,x,q1,g1],λu H'' #[T,x',e1,hT,eH,eu]=>?_]
  subst eH eu;have ex:=(e1 xs q1).symm.trans g1;cases ex;refine#[ZN hT,st.fresh hT,λd hd=>?_]
  have hz:((Pv.ZS 0 w.length).zip w)[i]?=aa (.int<|0+i,w[i]):=iV.mpr #[vO hi',af hi'];rw[aK,hz]at hd;cases hd;refine YX ZK<|Reps.cons ?_<|Reps.cons (rx.mono<|ZN hT) Reps.nil;rw[show((0:Int)+i)=i by lia]
  exact ZM _
 stop:=λρ' S' H' f st=>by
  obtain⟨xs,q1,r1⟩:=h1 ρ' H' f;refine#[xs,q1,?_];show xs.length=(((Pv.ZS 0 w.length).zip w).map λp=>Pv.V.tup [p.1,p.2]).length
  rw[az,fU,Um,r1.length];lia
section
variable{X:Cx}{xw:Nat->Hp->Prop}{C:Calls}{a b:Expr}{i j:E}{pos p tp:iw}{elts:List Expr}{kk:Nat}
def qE(hm:X.mg "enumerate" = ae)(ha:CA X xw C [a] [i])(hg:Gl X "enumerate")(hs:aL [a] X.env=[(ap,c8 a X.env)]) :
  CW X xw C (.Tuple elts kk tp) (.Call (.Name "enumerate" p) [a] [] pos) (.enum i):=.mk <|
 PI.imp (qC hg hm ha.h hs) λZ H Q #[O,l,S,st,lr,h]=>Zav st lr h λx S1 ρ1 H1 v st1 r h1=>by
  cases e1:Pv.Yf x with
  |none=>rw[e1]at h1;exact False.elim h1
  |some wk=>
   rw[e1]at h1;obtain⟨b1,l1,rfl,s1,d1⟩:=Jc st1.hk r e1;exact#[b1,l1,rfl,s1,End.ok (rep:=WRel X.K) h1 st1<|xT d1]
end
end Sd
namespace Tq
open PySem PyProof.Rows
noncomputable def Z4:Bool->bP->Array bP->Nat->Nat->Nat->StateT bK nA (Option Nat):=sortPriv% PySem.Builtin.gallop
def GN(lf:Bool)(k:bP)(ar:Array bP)(bs n hn:Nat):Z4 lf k ar bs n hn=(do
 let bd (i:Nat):StateT bK nA (Option Bool):=do
  let x <-fK ar (bs+i)
  if lf then lt' x k else return (<-lt' k x).map (!·)
 let mut la:=0
 let mut of:=1
 let mut lo:=0
 let mut hi:=0
 let aa rt <-bd hn|return ae
 if rt then
  let mx:=n-hn
  for _ in [0:n] do
   if of>=mx then break
   let aa mo <-bd (hn+of)|return ae
   if !mo then break
   la:=of
   of:=2*of+1
  lo:=hn+la+1
  hi:=hn+oW of mx
 else
  let mx:=hn+1
  for _ in [0:n] do
   if of>=mx then break
   let aa fo <-bd (hn-of)|return ae
   if fo then break
   la:=of
   of:=2*of+1
  lo:=hn+1-oW of mx
  hi:=hn-la
 for _ in [0:n] do
  if lo>=hi then break
  let m:=lo+(hi-lo) / 2
  let aa mo <-bd m|return ae
  if mo then lo:=m+1 else hi:=m
 return aa hi):=rfl
noncomputable abbrev BT:=Option (Option Nat)×Nat×Nat
def wO{F:Nat->BT->StateT bK nA (ForInStep BT)}{n:Nat}{τ:bK}{B:Nat->Bool}{Q:BT->bK->Prop}
  (hF:∀i lo hi (Q:ForInStep BT->bK->Prop),hi<=n->(lo>=hi->Q (.done (ae,lo,hi)) τ)->(lo<hi->Q (.yield (ae,if B (lo+(hi-lo) / 2)=am then(lo+(hi-lo) / 2+1,hi)else(lo,lo+(hi-lo) / 2))) τ)->lE (aQ prog w) A E s (F i (ae,lo,hi)) Q τ)
  (mono:∀i j,i<=j->j<n->B j=am->B i=am)(hq:∀r,r<=n->(∀i,i<n->(B i=am↔i<r))->Q (ae,r,r) τ){lo hi:Nat}(h1:lo<=hi)(h2:hi<=n)(h3:∀i,i<lo->B i=am)(h4:∀i,hi<=i->i<n->B i=ap) :
  lE (aQ prog w) A E s (mm [0:n] ((ae,lo,hi):BT) F) Q τ:=by
 have fin:∀lo,lo<=n->(∀i,i<lo->B i=am)->(∀i,lo<=i->i<n->B i=ap)->Q (ae,lo,lo) τ:=λlo a2 a4 a5=>hq _ a2 λi hi=>by
  refine#[λhB=>?_,a4 i]
  by_cases c:i<lo
  .exact c
  .rw[a5 i (by omega) hi]at hB;cases hB
 refine cn
  (I:=λi c st'=>st'=τ/\c.1=ae/\c.2.1<=c.2.2/\c.2.2<=n/\c.2.2-c.2.1+i<=n/\(∀i,i<c.2.1->B i=am)/\∀i,c.2.2<=i->i<n->B i=ap) ?_ ?_ #[rfl,rfl,h1,h2,by dsimp only;omega,h3,h4]
 .rintro i ⟨r,lo,hi⟩ st' hi0 hin ⟨rfl,rfl,a1,a2,a3,a4,a5⟩
  dsimp only at a1 a2 a3 a4 a5 ⊢
  refine hF i lo hi _ a2 (λc=>?_) λc=>?_
  .have e:lo=hi:=by omega
   subst e;exact fin lo a2 a4 a5
  .cases hm:B (lo+(hi-lo) / 2)with
   |true=>
    simp only[if_true];exact#[trivial,trivial,by omega,a2,by omega,λj hj=>mono j _ (by omega) (by omega) hm,a5]
   |false=>
    simp only[cP,if_false];refine#[trivial,trivial,by omega,by omega,by omega,a4,λj hj hn=>?_]
    cases hj2:B j with|false=>rfl|true=>rw[mono _ j hj hn hj2]at hm;cases hm
 .rintro ⟨r,lo,hi⟩ st' ⟨rfl,rfl,a1,a2,a3,a4,a5⟩
  dsimp only at a1 a2 a3 a4 a5 ⊢
  have e:lo=hi:=by omega
  subst e;exact fin lo a2 a4 a5
def Zcb{lf:Bool}{k:bP}{ar:Array bP}{bs n hn:Nat}{τ:bK}{B:Nat->Bool}{Q:Option Nat->bK->Prop}(hh:hn<n)
  (hb:∀i,i<n->∀Q:Option Bool->bK->Prop,Q (aa<|B i) τ->lE (aQ prog w) A E s (do
   let x <-fK ar (bs+i)
   if lf then lt' x k else return (<-lt' k x).map (!·)) Q τ)
  (mono:∀i j,i<=j->j<n->B j=am->B i=am)(hq:∀r,r<=n->(∀i,i<n->(B i=am↔i<r))->Q (aa r) τ):lE (aQ prog w) A E s (Z4 lf k ar bs n hn) Q τ:=by
 have no:∀{i j},i<=j->j<n->B i=ap->B j=ap:=λ{i j} h hj hi=>by
  cases q:B j with|false=>rfl|true=>rw[mono i j h hj q]at hi;cases hi
 rw[GN]
 dsimp only
 refine aE<|hb hn hh _ ?_
 dsimp only
 cases h0:B hn with
 |true=>
  rw[T9 rfl];refine aE (eF (cn
   (I:=λi (c:BT) st'=>st'=τ/\c.1=ae/\c.2.1<c.2.2/\i<c.2.2/\hn+c.2.1<n/\B (hn+c.2.1)=am)
   (Q:=λ(c:BT) st'=>st'=τ/\c.1=ae/\c.2.1<c.2.2/\hn+c.2.1<n/\B (hn+c.2.1)=am/\(n<=hn+c.2.2\/B (hn+c.2.2)=ap)) ?_ ?_ #[rfl,rfl,by decide,by decide,hh,h0]) ?_)
  .rintro i ⟨r,la,f⟩ st' _ hin ⟨rfl,rfl,a1,a2,a3,a4⟩
   dsimp only at a1 a2 a3 a4 ⊢
   by_cases c:f>=n-hn
   .rw[T9 c]
    exact aO #[rfl,rfl,a1,a3,a4,.inl (by dsimp only;omega)]
   .rw[T8 c]
    refine aE<|hb _ (by omega) _ ?_
    dsimp only
    cases hm:B (hn+f)with|true=>exact aO #[rfl,rfl,by dsimp only;omega,by dsimp only;omega,by dsimp only;omega,hm]|false=>exact aO #[rfl,rfl,a1,a3,a4,.inr hm]
  .rintro ⟨r,la,f⟩ st' ⟨rfl,rfl,a1,a2,a3,a4⟩
   dsimp only at a1 a2 a3 a4 ⊢
   exact#[rfl,rfl,a1,a3,a4,.inl (by omega)]
  .rintro ⟨r,la,f⟩ st' ⟨rfl,rfl,a1,a3,a4,a5⟩
   dsimp only at a1 a3 a4 a5 ⊢
   refine aE (wO (n:=n) (B:=B) (λi lo hi Q h1 h2 h3=>by
    by_cases c:lo>=hi
    .simp only[T9 c];exact aO<|h2 c
    .simp only[T8 c]
     refine aE<|hb _ (by omega) _ ?_
     have h3:=h3 (by omega)
     cases hm:B (lo+(hi-lo) / 2)<;>(rw[hm]at h3;exact aO h3)) mono (λr hr hB=>aO<|hq r hr hB) (by omega) (by omega) (λi hi=>mono i _ (by omega) a3 a4) λi h1 h2=>?_)
   rcases a5 with a5|a5
   .omega
   .exact no (by omega) h2 a5
 |false=>
  rw[T8 (by simp)]
  refine aE (eF (cn
   (I:=λi (c:BT) st'=>st'=τ/\c.1=ae/\c.2.1<c.2.2/\i<c.2.2/\c.2.1<=hn/\B (hn-c.2.1)=ap)
   (Q:=λ(c:BT) st'=>st'=τ/\c.1=ae/\c.2.1<c.2.2/\c.2.1<=hn/\B (hn-c.2.1)=ap/\(hn<c.2.2\/B (hn-c.2.2)=am)) ?_ ?_ #[rfl,rfl,by decide,by decide,dB _,h0]) ?_)
  .rintro i ⟨r,la,f⟩ st' _ hin ⟨rfl,rfl,a1,a2,a3,a4⟩
   dsimp only at a1 a2 a3 a4 ⊢
   by_cases c:f>=hn+1
   .rw[T9 c]
    exact aO #[rfl,rfl,a1,a3,a4,.inl (by dsimp only;omega)]
   .rw[T8 c]
    refine aE<|hb _ (by omega) _ ?_
    dsimp only
    cases hm:B (hn-f)with|true=>exact aO #[rfl,rfl,a1,a3,a4,.inr hm]|false=>exact aO #[rfl,rfl,by dsimp only;omega,by dsimp only;omega,by dsimp only;omega,hm]
  .rintro ⟨r,la,f⟩ st' ⟨rfl,rfl,a1,a2,a3,a4⟩
   dsimp only at a1 a2 a3 a4 ⊢
   exact#[rfl,rfl,a1,a3,a4,.inl (by omega)]
  .rintro ⟨r,la,f⟩ st' ⟨rfl,rfl,a1,a3,a4,a5⟩
   dsimp only at a1 a3 a4 a5 ⊢
   refine aE (wO (n:=n) (B:=B) (λi lo hi Q h1 h2 h3=>by
    by_cases c:lo>=hi
    .simp only[T9 c];exact aO<|h2 c
    .simp only[T8 c]
     refine aE<|hb _ (by omega) _ ?_
     have h3:=h3 (by omega)
     cases hm:B (lo+(hi-lo) / 2)<;>(rw[hm]at h3;exact aO h3)) mono (λr hr hB=>aO<|hq r hr hB) (by omega) (by omega) (λi hi=>?_) λi h1 h2=>no h1 h2 a4)
   rcases a5 with a5|a5
   .omega
   .exact mono i _ (by omega) (by omega) a5
abbrev Srt(R:B->B->Prop)(l:List B):Prop:=l.Pairwise R
abbrev lr(rk:B->Nat):B->B->Prop:=λx y=>rk x<rk y
abbrev gr(rk:B->Nat):B->B->Prop:=λx y=>rk y<rk x
structure ML(R:B->B->Prop)(T o ra rb:List B):Prop where
 perm:(o++ra++rb).Perm T
 so:Srt R o
 sa:Srt R ra
 sb:Srt R rb
 lt:∀x∈o,∀y,y∈ra\/y∈rb->R x y
def ML.as{T o xs ra rb:List B}(h:ML R T o (xs++ra) rb)(hx:∀x∈xs,∀y∈rb,R x y):ML R T (o++xs) ra rb:=by
 obtain⟨s1,s2,s3⟩:=cR.mp h.sa;refine#[by simpa[bz]using h.perm,cR.mpr #[h.so,s1,λx hx y hy=>h.lt x hx y<|.inl<|b6 _ hy],s2,h.sb,λx hx2 y hy=>?_]
 rcases c0.mp hx2 with z|z
 .exact h.lt x z y<|hy.imp (bm _) id
 .rcases hy with hy|hy
  .exact s3 x z y hy
  .exact hx x z y hy
def ML.swap{T o ra rb:List B}(h:ML R T o ra rb):ML R T o rb ra:=by
 refine#[List.Perm.trans ?_ h.perm,h.so,h.sb,h.sa,λx hx y hy=>h.lt x hx y hy.symm]
 rw[bz,bz];exact List.perm_append_comm.append_left _
def ML.bs(h:ML R T o ra (xs++rb))(hx:∀x∈xs,∀y∈ra,R x y):ML R T (o++xs) ra rb:=(h.swap.as hx).swap
def ML.fin{T o ra:List B}(h:ML R T o ra []):(o++ra).Perm T/\Srt R (o++ra):=by
 have h':=ML.as (ra:=[]) (by simpa using h) λx _ y hy=>by cases hy
 exact#[by simpa using h'.perm,h'.so]
def ML.ne(h:ML R T o ra rb)(hT:(T.map rk).Nodup)(hx:x∈ra)(hy:y∈rb):rk x≠rk y:=by
 have n:=((h.perm.map rk).nodup_iff).mpr hT;rw[bM,gn]at n;exact n.2.2 _ (dz<|bm _ hx) _<|dz hy
structure Od(prog:bC)(w:bN)(A:cD)(E:al->aw->Prop)(s:aw)(κ:fA)(In:bP->Prop)(rk:bP->Nat):Prop where
 ask:∀{x y:bP}{τ:bK}{Q:Option Bool->bK->Prop},In x->In y->kindOf τ=κ->Q (aa<|ai<|rk x<rk y) τ->lE (aQ prog w) A E s (lt' x y) Q τ
def Sg(τ st':bK):Prop:=kindOf st'=kindOf τ/\aY st'=aY τ/\ba st'=ba τ/\fR st'=fR τ
section
variable{In:bP->Prop}
def Zx{Q:bP->bK->Prop}(h:ar[i]?=aa x)(hq:Q x τ):lE (aQ prog w) A E s (fK ar i) Q τ:=by
 rw[elem'_eq,h];exact aO hq
def Xp{Q:Unit->bK->Prop}(hq:Q () τ):lE (aQ prog w) A E s (liftM (nC t):StateT bK nA Unit) Q τ:=wpS_lift<|fb #[rfl,hq]
theorem yD(O:Od prog w A E s κ In rk){Q:Option Nat->bK->Prop}(hk:kindOf τ=κ)(ik:In k)(hh:h0<n)(hn:i+n<=ar.size)(ia:∀x∈ar.toList,In x)
  (so:Srt (lr rk) ((ar.toList.drop i).take n))(ne:∀x∈(ar.toList.drop i).take n,rk x≠rk k)
  (hq:∀r,r<=n->(∀x∈((ar.toList.drop i).take n).take r,rk x<rk k)->(∀x∈((ar.toList.drop i).take n).drop r,rk k<rk x)->Q (aa r) τ):lE (aQ prog w) A E s (Z4 lf k ar i n h0) Q τ:=by
 generalize hl:(ar.toList.drop i).take n=l at so ne hq;have ll:l.length=n:=by rw[<-hl,bh,bo,ay];lia
 have at_:∀j (hj:j<n),ar[i+j]?=aa (l[j]'(by lia)):=λj hj=>by
  have:ar.toList[i+j]?=aa (l[j]'(by lia)):=by
   subst hl;rw[eG,eI];exact af _
  simpa using this
 have mem:∀j (hj:j<n),In (l[j]'(by lia)):=λj hj=>ia _ (by
  have h2:∀x∈l,x∈ar.toList:=λx hx=>by rw[<-hl]at hx;exact bS<|db hx
  exact h2 _<|aV _)
 have hB:∀j (hj:j<n),((l[j]?).any λx=>ai<|rk x<rk k)=ai (rk (l[j]'(by lia))<rk k):=λj hj=>by
  rw[af (by lia)];rfl
 refine Zcb (B:=λj=>(l[j]?).any λx=>ai<|rk x<rk k) hh (λj hj Q hQ=>?_) (λa b hab hb h=>?_) λr hr hr2=>hq r hr (λx hx=>?_) λx hx=>?_
 .rw[hB j hj]at hQ
  refine aE<|Zx (at_ j hj) ?_;cases lf with
  |true=>exact O.ask (mem j hj) ik hk hQ
  |false=>
   refine aE<|O.ask ik (mem j hj) hk<|aO ?_;have e:(!decide (rk k<rk (l[j]'(by lia))))=ai (rk (l[j]'(by lia))<rk k):=by
    have:=ne _<|aV (n:=j) (by lia)
    by_cases c:rk k<rk (l[j]'(by lia))
    .rw[T5 c,T4 (by lia)];rfl
    .rw[T4 c,T5 (by lia)];rfl
   show Q (aa<|!decide (rk k<rk (l[j]'(by lia)))) τ
   rw[e];exact hQ
 .rw[hB b hb]at h
  rw[hB a (by lia)]
  rcases Nat.lt_or_eq_of_le hab with c|c
  .have:=bq.mp so a b (by lia) (by lia) c
   have h:=T6 h;exact T5 (by lia)
  .subst c;exact h
 .obtain⟨j,hj,rfl⟩:=bB hx
  rw[bh]at hj;have:=(hr2 j<|by lia).mpr (by lia)
  rw[hB j<|by lia]at this
  rw[eG];exact T6 this
 .obtain⟨j,hj,rfl⟩:=bB hx
  rw[bo]at hj;rw[eI];have h1:=hr2 (r+j) (by lia)
  rw[hB _<|by lia]at h1
  have h2:=ne _<|aV (n:=r+j) (by lia)
  have h3:¬rk (l[r+j]'(by lia))<rk k:=λz=>T7 (h1.mp<|T5 z) (by lia)
  lia
end
noncomputable abbrev KA:=Array bP
noncomputable abbrev SM:=StateT bK nA
noncomputable def Vy:KA->KA->SM KA:=sortPriv% PySem.Builtin.mergeLo
noncomputable def Qd:Nat->SM Unit:=sortPriv% PySem.Builtin.setMinGallop
def ui(g:Nat):Qd g=modify λs=>oN (kindOf s) (aY s) (ba s) g (fR s):=rfl
noncomputable abbrev dn(a b o:KA)(i j:Nat):KA:=o++a.extract i a.size++b.extract j b.size
noncomputable abbrev ls(a b o:KA)(i j:Nat):KA:=o++b.extract j b.size++a.extract i a.size
noncomputable abbrev T2:=Option KA×KA×Nat×Nat×Nat×Nat
noncomputable abbrev T3:=Option KA×KA×Nat×Nat×Nat×Nat×Nat
noncomputable abbrev T1:=Option KA×KA×Nat×Nat×Nat
noncomputable def F1(a b:KA)(g:Nat)(c:T2):SM (ForInStep T2):=do
 let o:=c.2.1
 let i:=c.2.2.1
 let j:=c.2.2.2.1
 let ca:=c.2.2.2.2.1
 let cb:=c.2.2.2.2.2
 let aa t <-lt' (<-fK b j) (<-fK a i)|return .done (aa<|dn a b o i j,o,i,j,ca,cb)
 if t then
  let o:=o.push<|<-fK b j
  let j:=j+1
  if j == b.size then return .done (aa<|dn a b o i j,o,i,j,0,cb+1)
  if cb+1>=g then return .done (ae,o,i,j,0,cb+1)
  return .yield (ae,o,i,j,0,cb+1)
 else
  let o:=o.push<|<-fK a i
  let i:=i+1
  if i+1 == a.size then return .done (aa<|ls a b o i j,o,i,j,ca+1,0)
  if ca+1>=g then return .done (ae,o,i,j,ca+1,0)
  return .yield (ae,o,i,j,ca+1,0)
noncomputable def G3(a b:KA)(g ca cb i:Nat)(o:KA)(j:Nat):SM (ForInStep T3):=do
 let o:=o.push<|<-fK a i
 let i:=i+1
 if i+1 == a.size then return .done (aa<|ls a b o i j,o,i,j,g,ca,cb)
 if ca<7&&cb<7 then return .done (ae,o,i,j,g,ca,cb)
 return .yield (ae,o,i,j,g,ca,cb)
noncomputable def G2(a b:KA)(g ca cb j:Nat)(o:KA)(i:Nat):SM (ForInStep T3):=do
 let o:=o.push<|<-fK b j
 let j:=j+1
 if j == b.size then return .done (aa<|dn a b o i j,o,i,j,g,ca,cb)
 let aa k <-Z4 am (<-fK a i) b j (b.size-j) 0|return .done (aa<|dn a b o i j,o,i,j,g,ca,cb)
 if k>0 then
  let o:=o++b.extract j (j+k)
  let j:=j+k
  if j == b.size then return .done (aa<|dn a b o i j,o,i,j,g,ca,k)
  else G3 a b g ca k i o j
 else G3 a b g ca k i o j
noncomputable def G1(a b:KA)(o:KA)(i j ca cb g:Nat):SM (ForInStep T3):=do
 Qd g
 let aa k <-Z4 ap (<-fK b j) a i (a.size-i) 0|return .done (aa<|dn a b o i j,o,i,j,g,ca,cb)
 if k>0 then
  let o:=o++a.extract i (i+k)
  let i:=i+k
  if i+1 == a.size then return .done (aa<|ls a b o i j,o,i,j,g,k,cb)
  else if i == a.size then return .done (aa<|dn a b o i j,o,i,j,g,k,cb)
  else G2 a b g k cb j o i
 else G2 a b g k cb j o i
noncomputable def F2(a b:KA)(c:T3):SM (ForInStep T3):=
 if c.2.2.2.2.1>1 then G1 a b c.2.1 c.2.2.1 c.2.2.2.1 c.2.2.2.2.2.1 c.2.2.2.2.2.2 (c.2.2.2.2.1-1)
 else G1 a b c.2.1 c.2.2.1 c.2.2.2.1 c.2.2.2.2.2.1 c.2.2.2.2.2.2 c.2.2.2.2.1
noncomputable def F0(a b:KA)(c:T1):SM (ForInStep T1):=do
 let d <-mm [0:a.size+b.size] ((ae,c.2.1,c.2.2.1,c.2.2.2.1,0,0):T2) λ_ d=>F1 a b c.2.2.2.2 d
 iK d.1 (λ_=>do
  nC "list.sort.gallop"
  let e <-mm [0:a.size+b.size] ((ae,d.2.1,d.2.2.1,d.2.2.2.1,c.2.2.2.2+1,d.2.2.2.2.1,d.2.2.2.2.2):T3) λ_ d=>F2 a b d
  iK e.1 (λ_=>do
   Qd (e.2.2.2.2.1+1)
   c7 (.yield (ae,e.2.1,e.2.2.1,e.2.2.2.1,e.2.2.2.2.1+1))) λr=>c7<|.done (aa r,e.2.1,e.2.2.1,e.2.2.2.1,e.2.2.2.2.1)) λr=>c7<|.done (aa r,d.2.1,d.2.2.1,d.2.2.2.1,c.2.2.2.2)
def Gk(a b:KA):Vy a b=(do
 nC "list.sort.merge-lo"
 let y <-fK b 0
 if 1 == b.size then return dn a b #[y] 0 1
 if 0+1 == a.size then return ls a b #[y] 0 1
 let τ <-get
 let c <-mm [0:a.size+b.size] ((ae,#[y],0,1,gallopOf τ):T1) λ_ c=>F0 a b c
 iK c.1 (λ_=>n4 "internal:list.sort.merge-bound") λr=>c7 r):=rfl
def Xu(a:KA)(i:Nat):(a.extract i a.size).toList=a.toList.drop i:=by
 rw[gU,fL,<-ay];exact b9 (by rw[bo];exact aH _)
def yK(a:KA)(i k:Nat):(a.extract i<|i+k).toList=(a.toList.drop i).take k:=by
 rw[gU,fL,Nat.add_sub_cancel_left]
def ZV{a:KA}{i:Nat}(h:i<a.size):a.toList.drop i=a[i]::a.toList.drop (i+1):=by
 rw[bZ (by simpa using h)];rfl
def td{B:Type}(l:List B)(n r:Nat):(l.drop n).take r++l.drop (n+r)=l.drop n:=by rw[<-iL,cM]
def ZE{a:KA}{i:Nat}(h:i<a.size):a[i]?=aa a[i]:=aN h
section
variable{prog:bC}{w:bN}{A:cD}{E:al->aw->Prop}{s:aw}{κ:fA}{In:bP->Prop}{rk:bP->Nat}
def Zw{B:Type}{c:Prop}[Decidable c]{x y:SM B}{Q:B->bK->Prop}{τ:bK}(h1:c->lE (aQ prog w) A E s x Q τ)(h2:¬c->lE (aQ prog w) A E s y Q τ):lE (aQ prog w) A E s (if c then x else y) Q τ:=by
 by_cases h:c
 .rw[T9 h];exact h1 h
 .rw[T8 h];exact h2 h
theorem yI(O:Od prog w A E s κ In rk){Q:Option Nat->bK->Prop}(hk:kindOf τ=κ)(ik:In k)(hi:i<ar.size)(ia:∀x∈ar.toList,In x)(so:Srt (lr rk) (ar.toList.drop i))(ne:∀x∈ar.toList.drop i,rk x≠rk k)
  (hq:∀r,i+r<=ar.size->(∀x∈(ar.toList.drop i).take r,rk x<rk k)->(∀x∈ar.toList.drop (i+r),rk k<rk x)->Q (aa r) τ):lE (aQ prog w) A E s (Z4 lf k ar i (ar.size-i) 0) Q τ:=by
 have e:(ar.toList.drop i).take (ar.size-i)=ar.toList.drop i:=b9 (by rw[bo,ay];exact aH _)
 refine yD O hk ik (Nat.sub_pos_of_lt hi) (mZ<|Nat.add_sub_cancel'<|ga hi) ia (e.symm▸so) (e.symm▸ne) λr h1 h2 h3=>?_
 rw[e]at h2 h3;rw[iL]at h3;exact hq r (by lia) h2 h3
structure Mg(κ:fA)(In:bP->Prop)(rk:bP->Nat)(a b:KA)(T:List bP):Prop where
 nd:(T.map rk).Nodup
 ia:∀x∈a.toList,In x
 ib:∀x∈b.toList,In x
 last:∀y∈b.toList,∀x∈a.toList.drop (a.size-1),rk y<rk x
def Res(rk:bP->Nat)(T:List bP)(r:KA):Prop:=r.toList.Perm T/\Srt (lr rk) r.toList
abbrev Lo(rk:bP->Nat)(a b:KA)(T:List bP)(o:KA)(i j:Nat):Prop:=ML (lr rk) T o.toList (a.toList.drop i)<|b.toList.drop j
structure Iv(rk:bP->Nat)(a b:KA)(T:List bP)(o:KA)(i j:Nat):Prop where
 m:Lo rk a b T o i j
 hi:i+1<a.size
 hj:j<b.size
 z:o.size=i+j
variable{a b:KA}{T:List bP}
def QZ(h:Lo rk a b T o i j)(hj:(j == b.size)=am):Res rk T (dn a b o i j):=by
 have hj:=beq_iff_eq.mp hj;unfold Lo at h;rw[hj,<-ay,dU]at h;have:=h.fin;unfold Res dn;rw[cp,cp,Xu,Xu,hj,<-ay,dU,cE];exact this
def jj(h:Lo rk a b T o i j)(hi:(i == a.size)=am):Res rk T (dn a b o i j):=by
 have hi:=beq_iff_eq.mp hi;unfold Lo at h;rw[hi,<-ay,dU]at h;have:=h.swap.fin;unfold Res dn;rw[cp,cp,Xu,Xu,hi,<-ay,dU,cE];exact this
theorem Qk(G:Mg κ In rk a b T)(h:Lo rk a b T o i j)(hi:(i+1 == a.size)=am):Res rk T (ls a b o i j):=by
 have hi:=beq_iff_eq.mp hi;have e:a.size-1=i:=by lia
 have:=(ML.bs (by rw[cE];exact h) λy hy x hx=>G.last y (bS hy) x<|by rw[e];exact hx).fin
 unfold Res ls;rw[cp,cp,Xu,Xu];exact this
def wv(h:Lo rk a b T o i j)(hj:j<b.size)(hy:∀x∈a.toList.drop i,rk b[j]<rk x):Lo rk a b T (o.push b[j]) i (j+1):=by
 unfold Lo at h ⊢;rw[ZV hj]at h;rw[eJ];exact ML.bs h λx hx y hy'=>by rw[be.mp hx];exact hy y hy'
def Zak(h:Lo rk a b T o i j)(hi:i<a.size)(hx:∀y∈b.toList.drop j,rk a[i]<rk y):Lo rk a b T (o.push a[i]) (i+1) j:=by
 unfold Lo at h ⊢;rw[ZV hi]at h;rw[eJ];exact ML.as h λx hx' y hy'=>by rw[be.mp hx'];exact hx y hy'
def zU(h:Srt (lr rk) (x::l))(hx:rk y<rk x):∀z∈x::l,rk y<rk z:=λz hz=>by
 rcases aA.mp hz with rfl|hz
 .exact hx
 .exact dG hx<|(aZ.mp h).1 z hz
def VJ(h:m<n)(q:¬(m+1 == n)=am):m+1<n:=fX h λz=>q<|beq_iff_eq.mpr z
theorem ZcF(O:Od prog w A E s κ In rk)(G:Mg κ In rk a b T){g ca cb:Nat}{r0:Option KA}{τ:bK}{Q:ForInStep T2->bK->Prop}(hk:kindOf τ=κ)(I:Iv rk a b T o i j)
  (hd:∀r c,Res rk T r->Q (.done (aa r,c)) τ)(hb:∀o' i' j' ca cb,Iv rk a b T o' i' j'->o'.size=o.size+1->Q (.done (ae,o',i',j',ca,cb)) τ/\Q (.yield (ae,o',i',j',ca,cb)) τ):lE (aQ prog w) A E s (F1 a b g (r0,o,i,j,ca,cb)) Q τ:=by
 have hi:=dM I.hi;have ha:a[i]∈a.toList.drop i:=by rw[ZV hi];exact ak ..
 have hb':b[j]'I.hj∈b.toList.drop j:=by rw[ZV I.hj];exact ak ..
 have sa:=I.m.sa;have sb:=I.m.sb;rw[ZV hi]at sa;rw[ZV I.hj]at sb;refine aE<|Zx (ZE I.hj)<|aE<|Zx (ZE hi)<|aE<|O.ask (G.ib _<|bS hb') (G.ia _<|bS ha) hk ?_;by_cases c:rk (b[j]'I.hj)<rk a[i]
 .rw[T5 c]
  refine aE<|Zx (ZE I.hj) ?_;have m:=wv I.m I.hj (by rw[ZV hi];exact zU sa c)
  have z:(o.push<|b[j]'I.hj).size=o.size+1:=dO ..;refine Zw (λq=>aO<|hd _ _<|QZ m q) λq=>?_
  have h:=hb _ _ _ 0 (cb+1) #[m,I.hi,VJ I.hj q,by rw[z,I.z];lia] z
  exact Zw (λ_=>aO h.1) λ_=>aO h.2
 .rw[T4 c]
  refine aE<|Zx (ZE hi) ?_;have c':=fX (fG c)<|I.m.ne G.nd ha hb';have m:=Zak I.m hi (by rw[ZV I.hj];exact zU sb c')
  have z:(o.push a[i]).size=o.size+1:=dO ..;refine Zw (λq=>aO<|hd _ _<|Qk G m q) λq=>?_
  have h:=hb _ _ _ (ca+1) 0 #[m,VJ I.hi q,I.hj,by rw[z,I.z];lia] z
  exact Zw (λ_=>aO h.1) λ_=>aO h.2
theorem Sg.trans(h:Sg s1 s2)(k:Sg s2 s3):Sg s1 s3:=#[k.1.trans h.1,k.2.1.trans h.2.1,k.2.2.1.trans h.2.2.1,k.2.2.2.trans h.2.2.2]
def WU{Q:Unit->bK->Prop}(h:∀st',Sg τ st'->Q () st'):lE (aQ prog w) A E s (Qd g) Q τ:=by
 rw[ui];exact fc<|h _ #[rfl,rfl,rfl,rfl]
section
variable(O:Od prog w A E s κ In rk)(G:Mg κ In rk a b T)
include O G
theorem ZaL{g ca cb:Nat}{τ:bK}(m:Lo rk a b T o i j)(hi:i+1<a.size)(hj:j<b.size)(z:o.size=i+j)(hx:∀y∈b.toList.drop j,rk a[i]<rk y)
  (hd:∀r c,Res rk T r->Q (.done (aa r,c)) τ)(hb:∀o' i' j' g ca cb,Iv rk a b T o' i' j'->o'.size=o.size+1->Q (.done (ae,o',i',j',g,ca,cb)) τ/\Q (.yield (ae,o',i',j',g,ca,cb)) τ):lE (aQ prog w) A E s (G3 a b g ca cb i o j) Q τ:=by
 have hi':=dM hi;refine aE<|Zx (ZE hi') ?_;have m:=Zak m hi' hx;have z':(o.push a[i]).size=o.size+1:=dO ..;refine Zw (λq=>aO<|hd _ _<|Qk G m q) λq=>?_
 have h:=hb _ _ _ g ca cb #[m,VJ hi q,hj,by rw[z',z];lia] z'
 exact Zw (λ_=>aO h.1) λ_=>aO h.2
theorem ZaE{g ca cb:Nat}{τ:bK}(hk:kindOf τ=κ)(m:Lo rk a b T o i j)(hi:i+1<a.size)(hj:j<b.size)(z:o.size=i+j)(hy:∀x∈a.toList.drop i,rk b[j]<rk x)
  (hd:∀r c,Res rk T r->Q (.done (aa r,c)) τ)(hb:∀o' i' j' g ca cb,Iv rk a b T o' i' j'->o.size<o'.size->Q (.done (ae,o',i',j',g,ca,cb)) τ/\Q (.yield (ae,o',i',j',g,ca,cb)) τ):lE (aQ prog w) A E s (G2 a b g ca cb j o i) Q τ:=by
 have hi':=dM hi;refine aE<|Zx (ZE hj) ?_;have m:=wv m hj hy;have z':(o.push b[j]).size=o.size+1:=dO ..;refine Zw (λq=>aO<|hd _ _<|QZ m q) λq=>?_
 have hj:=VJ hj q;have ha:a[i]∈a.toList.drop i:=by rw[ZV hi'];exact ak ..
 refine aE<|Zx (ZE hi')<|aE<|yI O hk (G.ia _<|bS ha) hj G.ib m.sb (λy hy=>(m.ne G.nd ha hy).symm) λr hr h1 h2=>?_
 refine Zw (λ_=>?_) λc=>?_
 .have m2:Lo rk a b T (o.push b[j]++b.extract (j+1) (j+1+r)) i (j+1+r):=by
   unfold Lo;rw[cp,yK];refine ML.bs ?_ λy hy x hx=>?_
   .rw[td];exact m
   .have sa:=m.sa
    rw[ZV hi']at sa hx;exact zU sa (h1 y hy) x hx
  have z2:(o.push b[j]++b.extract (j+1) (j+1+r)).size=o.size+1+r:=by rw[gp,z',fY];lia
  refine Zw (λq=>aO<|hd _ _<|QZ m2 q) λq=>?_
  have hj2:=fX hr λz=>q<|beq_iff_eq.mpr z
  exact ZaL O G m2 hi hj2 (by rw[z2,z];lia) h2 hd λo' i' j' g ca cb I e=>hb o' i' j' g ca cb I (by lia)
 .have e:r=0:=by lia
  subst e;exact ZaL O G m hi hj (by rw[z',z];lia) h2 hd λo' i' j' g ca cb I e=>hb o' i' j' g ca cb I (by lia)
theorem ZaG{g ca cb:Nat}{τ:bK}(hk:kindOf τ=κ)(I:Iv rk a b T o i j)
  (hd:∀r c st',Sg τ st'->Res rk T r->Q (.done (aa r,c)) st')(hb:∀o' i' j' g ca cb st',Sg τ st'->Iv rk a b T o' i' j'->o.size<o'.size->Q (.done (ae,o',i',j',g,ca,cb)) st'/\Q (.yield (ae,o',i',j',g,ca,cb)) st'):lE (aQ prog w) A E s (G1 a b o i j ca cb g) Q τ:=by
 obtain⟨m,hi,hj,z⟩:=I;have hi':=dM hi;have hb':b[j]∈b.toList.drop j:=by rw[ZV hj];exact ak ..
 refine aE<|WU λst' sg=>aE<|Zx (ZE hj)<|aE<|yI O (sg.1.trans hk) (G.ib _<|bS hb') hi' G.ia m.sa (λx hx=>m.ne G.nd hx hb') λr hr h1 h2=>?_
 refine Zw (λ_=>?_) λc=>?_
 .have m2:Lo rk a b T (o++a.extract i (i+r)) (i+r) j:=by
   unfold Lo;rw[cp,yK];refine ML.as ?_ λx hx y hy=>?_
   .rw[td];exact m
   .have sb:=m.sb
    rw[ZV hj]at sb hy;exact zU sb (h1 x hx) y hy
  have z2:(o++a.extract i (i+r)).size=o.size+r:=by rw[gp,fY];lia
  refine Zw (λq=>aO<|hd _ _ st' sg<|Qk G m2 q) λq=>Zw (λq=>aO<|hd _ _ st' sg<|jj m2 q) λq2=>?_
  have q2:i+r≠a.size:=λz=>q2<|beq_iff_eq.mpr z
  exact ZaE O G (sg.1.trans hk) m2 (VJ (by lia) q) hj (by rw[z2,z];lia) h2 (λr c=>hd r c st' sg) λo' i' j' g ca cb I e=>hb o' i' j' g ca cb st' sg I (by lia)
 .have e:r=0:=by lia
  subst e;exact ZaE O G (sg.1.trans hk) m hi hj z h2 (λr c=>hd r c st' sg) λo' i' j' g ca cb I e=>hb o' i' j' g ca cb st' sg I (by lia)
theorem ZcZ{g ca cb:Nat}{r0:Option KA}{τ:bK}(hk:kindOf τ=κ)(I:Iv rk a b T o i j)
  (hd:∀r c st',Sg τ st'->Res rk T r->Q (.done (aa r,c)) st')(hb:∀o' i' j' g ca cb st',Sg τ st'->Iv rk a b T o' i' j'->o.size<o'.size->Q (.done (ae,o',i',j',g,ca,cb)) st'/\Q (.yield (ae,o',i',j',g,ca,cb)) st'):lE (aQ prog w) A E s (F2 a b (r0,o,i,j,g,ca,cb)) Q τ:=by
 exact Zw (λ_=>ZaG O G hk I hd hb) λ_=>ZaG O G hk I hd hb
theorem ZcN{Q:ForInStep T1->bK->Prop}(hk:kindOf τ=κ)(I:Iv rk a b T o i j)
  (hd:∀r c st',Sg τ st'->Res rk T r->Q (.done (aa r,c)) st')(hy:∀o' i' j' g st',Sg τ st'->Iv rk a b T o' i' j'->o.size<o'.size->Q (.yield (ae,o',i',j',g)) st'):lE (aQ prog w) A E s (F0 a b (r0,o,i,j,g)) Q τ:=by
 refine aE (eF (cn
  (I:=λx (c:T2) st'=>st'=τ/\c.1=ae/\Iv rk a b T c.2.1 c.2.2.1 c.2.2.2.1/\o.size+x<=c.2.1.size)
  (Q:=λ(c:T2) st'=>st'=τ/\((∃r,c.1=aa r/\Res rk T r)\/c.1=ae/\Iv rk a b T c.2.1 c.2.2.1 c.2.2.2.1/\o.size<c.2.1.size)) ?_ ?_ #[rfl,rfl,I,aH _]) ?_)
 .rintro x ⟨r,o',i',j',ca,cb⟩ st' _ _ ⟨rfl,rfl,I',hz⟩
  exact ZcF O G hk I' (λr c h=>#[rfl,.inl #[r,rfl,h]]) λo2 i2 j2 ca cb I2 e=>#[#[rfl,.inr #[rfl,I2,by dsimp only at hz ⊢;lia]],rfl,rfl,I2,by dsimp only at hz ⊢;lia]
 .rintro ⟨r,o',i',j',ca,cb⟩ st' ⟨rfl,rfl,I',hz⟩
  have:=I'.hi;have:=I'.hj;have:=I'.z;lia
 .rintro ⟨r,o',i',j',ca,cb⟩ st' ⟨rfl,⟨r',rfl,h⟩|⟨rfl,I',hz⟩⟩
  .exact aO<|hd _ _ _ #[rfl,rfl,rfl,rfl] h
  .dsimp only at I' hz
   refine aE (Xp (aE (eF (cn
    (I:=λx (c:T3) st''=>Sg st' st''/\c.1=ae/\Iv rk a b T c.2.1 c.2.2.1 c.2.2.2.1/\o'.size+x<=c.2.1.size)
    (Q:=λ(c:T3) st''=>Sg st' st''/\((∃r,c.1=aa r/\Res rk T r)\/c.1=ae/\Iv rk a b T c.2.1 c.2.2.1 c.2.2.2.1/\o'.size<c.2.1.size)) ?_ ?_ #[#[rfl,rfl,rfl,rfl],rfl,I',aH _]) ?_)))
   .rintro x ⟨r,o2,i2,j2,g,ca,cb⟩ st2 _ _ ⟨sg,rfl,I2,hz2⟩
    dsimp only at I2 hz2
    exact ZcZ O G (sg.1.trans hk) I2 (λr c st3 s3 h=>#[sg.trans s3,.inl #[r,rfl,h]]) λo3 i3 j3 g ca cb st3 s3 I3 e=>#[#[sg.trans s3,.inr #[rfl,I3,by dsimp only;lia]],sg.trans s3,rfl,I3,by dsimp only;lia]
   .rintro ⟨r,o2,i2,j2,g,ca,cb⟩ st2 ⟨sg,rfl,I2,hz2⟩
    have:=I2.hi;have:=I2.hj;have:=I2.z;lia
   .rintro ⟨r,o2,i2,j2,g,ca,cb⟩ st2 ⟨sg,⟨r',rfl,h⟩|⟨rfl,I2,hz2⟩⟩
    .exact aO<|hd _ _ _ sg h
    .exact aE<|WU λst3 s3=>aO<|hy _ _ _ _ _ (sg.trans s3) I2<|dG hz hz2
theorem za{τ:bK}{Q:KA->bK->Prop}(hk:kindOf τ=κ)(ha:0<a.size)(hb:0<b.size)(sa:Srt (lr rk) a.toList)(sb:Srt (lr rk) b.toList)(hT:(a.toList++b.toList).Perm T)(h0:∀x∈a.toList,rk b[0]<rk x)
  (hq:∀r st',Sg τ st'->Res rk T r->Q r st'):lE (aQ prog w) A E s (Vy a b) Q τ:=by
 rw[Gk];refine aE<|Xp<|aE<|Zx (ZE hb) ?_;have m0:Lo rk a b T #[] 0 0:=#[by simpa using hT,.nil,by simpa using sa,by simpa using sb,λx hx=>by cases hx]
 have m:=wv m0 hb (by simpa using h0)
 have sg0:Sg τ τ:=#[rfl,rfl,rfl,rfl];refine Zw (λq=>aO<|hq _ _ sg0<|QZ m q) λq1=>Zw (λq=>aO<|hq _ _ sg0<|Qk G m q) λq2=>aE (gq (aE (eF (cn
  (I:=λx (c:T1) st''=>Sg τ st''/\c.1=ae/\Iv rk a b T c.2.1 c.2.2.1 c.2.2.2.1/\x<=c.2.1.size)
  (Q:=λ(c:T1) st''=>Sg τ st''/\∃r,c.1=aa r/\Res rk T r) ?_ ?_ #[sg0,rfl,#[m,VJ ha q2,VJ hb q1,rfl],dB _]) ?_)))
 .rintro x ⟨r,o,i,j,g⟩ st2 _ _ ⟨sg,rfl,I,hz⟩
  dsimp only at I hz
  exact ZcN O G (sg.1.trans hk) I (λr c st3 s3 h=>#[sg.trans s3,r,rfl,h]) λo3 i3 j3 g st3 s3 I3 e=>#[sg.trans s3,rfl,I3,by dsimp only;lia]
 .rintro ⟨r,o,i,j,g⟩ st2 ⟨sg,rfl,I,hz⟩
  have:=I.hi;have:=I.hj;have:=I.z;lia
 .rintro ⟨r,o,i,j,g⟩ st2 ⟨sg,r',rfl,h⟩
  exact aO<|hq _ _ sg h
end
end
noncomputable def VB:KA->KA->SM KA:=sortPriv% PySem.Builtin.mergeHi
noncomputable abbrev dh(a b o:KA)(i j:Nat):KA:=a.extract 0 i++b.extract 0 j++o.reverse
noncomputable abbrev fh(a b o:KA)(i j:Nat):KA:=b.extract 0 j++a.extract 0 i++o.reverse
noncomputable abbrev U1:=Option KA×Nat×Nat×KA×Nat
noncomputable abbrev U2:=Option KA×Nat×Nat×KA×Nat×Nat
noncomputable abbrev U3:=Option KA×Nat×Nat×KA×Nat×Nat×Nat
noncomputable def H1(a b:KA)(g:Nat)(c:U2):SM (ForInStep U2):=do
 let i:=c.2.1
 let j:=c.2.2.1
 let o:=c.2.2.2.1
 let ca:=c.2.2.2.2.1
 let cb:=c.2.2.2.2.2
 let aa t <-lt' (<-fK b (j-1)) (<-fK a (i-1))|return .done (aa<|dh a b o i j,i,j,o,ca,cb)
 if t then
  let i:=i-1
  let o:=o.push<|<-fK a i
  if i == 0 then return .done (aa<|dh a b o i j,i,j,o,ca+1,0)
  if ca+1>=g then return .done (ae,i,j,o,ca+1,0)
  return .yield (ae,i,j,o,ca+1,0)
 else
  let j:=j-1
  let o:=o.push<|<-fK b j
  if j == 1 then return .done (aa<|fh a b o i j,i,j,o,0,cb+1)
  if cb+1>=g then return .done (ae,i,j,o,0,cb+1)
  return .yield (ae,i,j,o,0,cb+1)
noncomputable def K3(a b:KA)(g ca cb i:Nat)(o:KA)(j:Nat):SM (ForInStep U3):=do
 let i:=i-1
 let o:=o.push<|<-fK a i
 if i == 0 then return .done (aa<|dh a b o i j,i,j,o,g,ca,cb)
 if ca<7&&cb<7 then return .done (ae,i,j,o,g,ca,cb)
 return .yield (ae,i,j,o,g,ca,cb)
noncomputable def K2(a b:KA)(g ca cb j:Nat)(o:KA)(i:Nat):SM (ForInStep U3):=do
 let j:=j-1
 let o:=o.push<|<-fK b j
 if j == 1 then return .done (aa<|fh a b o i j,i,j,o,g,ca,cb)
 let aa t <-Z4 am (<-fK a (i-1)) b 0 j (j-1)|return .done (aa<|dh a b o i j,i,j,o,g,ca,cb)
 if j-t>0 then
  let o:=o++(b.extract t j).reverse
  if t == 1 then return .done (aa<|fh a b o i t,i,t,o,g,ca,j-t)
  else if t == 0 then return .done (aa<|dh a b o i t,i,t,o,g,ca,j-t)
  else K3 a b g ca (j-t) i o t
 else K3 a b g ca (j-t) i o j
noncomputable def K1(a b:KA)(o:KA)(i j ca cb g:Nat):SM (ForInStep U3):=do
 Qd g
 let aa t <-Z4 ap (<-fK b (j-1)) a 0 i (i-1)|return .done (aa<|dh a b o i j,i,j,o,g,ca,cb)
 if i-t>0 then
  let o:=o++(a.extract t i).reverse
  if t == 0 then return .done (aa<|dh a b o t j,t,j,o,g,i-t,cb)
  else K2 a b g (i-t) cb j o t
 else K2 a b g (i-t) cb j o i
noncomputable def H2(a b:KA)(c:U3):SM (ForInStep U3):=
 if c.2.2.2.2.1>1 then K1 a b c.2.2.2.1 c.2.1 c.2.2.1 c.2.2.2.2.2.1 c.2.2.2.2.2.2 (c.2.2.2.2.1-1)
 else K1 a b c.2.2.2.1 c.2.1 c.2.2.1 c.2.2.2.2.2.1 c.2.2.2.2.2.2 c.2.2.2.2.1
noncomputable def TT(n:Nat)(f1:Nat->U2->SM (ForInStep U2))(f2:U3->SM (ForInStep U3))(c:U1):SM (ForInStep U1):=do
 let d <-mm [0:n] ((ae,c.2.1,c.2.2.1,c.2.2.2.1,0,0):U2) λ_ d=>f1 c.2.2.2.2 d
 iK d.1 (λ_=>do
  nC "list.sort.gallop"
  let e <-mm [0:n] ((ae,d.2.1,d.2.2.1,d.2.2.2.1,c.2.2.2.2+1,d.2.2.2.2.1,d.2.2.2.2.2):U3) λ_ d=>f2 d
  iK e.1 (λ_=>do
   Qd (e.2.2.2.2.1+1)
   c7 (.yield (ae,e.2.1,e.2.2.1,e.2.2.2.1,e.2.2.2.2.1+1))) λr=>c7<|.done (aa r,e.2.1,e.2.2.1,e.2.2.2.1,e.2.2.2.2.1)) λr=>c7<|.done (aa r,d.2.1,d.2.2.1,d.2.2.2.1,c.2.2.2.2)
def Gy(a b:KA):VB a b=(do
 nC "list.sort.merge-hi"
 let x <-fK a (a.size-1)
 if a.size-1 == 0 then return dh a b #[x] (a.size-1) b.size
 if b.size == 1 then return fh a b #[x] (a.size-1) b.size
 let τ <-get
 let c <-mm [0:a.size+b.size] ((ae,a.size-1,b.size,#[x],gallopOf τ):U1) λ_ c=>TT (a.size+b.size) (H1 a b) (H2 a b) c
 iK c.1 (λ_=>n4 "internal:list.sort.merge-bound") λr=>c7 r):=rfl
def uJ{a:KA}{t i:Nat}:(a.extract t i).toList=(a.toList.take i).drop t:=by
 rw[gU,fL,List.drop_take]
noncomputable abbrev rv(a:KA)(i:Nat):List bP:=(a.toList.take i).reverse
def X5{a:KA}{i:Nat}(h:0<i)(h2:i<=a.size):rv a i=a[i-1]::rv a (i-1):=by
 obtain⟨k,rfl⟩:∃k,i=k+1:=#[i-1,by lia]
 show(a.toList.take<|k+1).reverse=_;rw[List.take_succ_eq_append_getElem (by rw[ay];exact h2),h8];rfl
def ux{a:KA}{t i:Nat}(h:t<=i):rv a i=((a.toList.take i).drop t).reverse++rv a t:=by
 rw[<-h8];have:=cM t<|a.toList.take i;rw[oO,lv h]at this;rw[this]
section
variable{prog:bC}{w:bN}{A:cD}{E:al->aw->Prop}{s:aw}{κ:fA}{In:bP->Prop}{rk:bP->Nat}{a b:KA}{T:List bP}
abbrev Hi(rk:bP->Nat)(a b:KA)(T:List bP)(o:KA)(i j:Nat):Prop:=ML (gr rk) T o.toList (rv a i)<|rv b j
structure Ih(rk:bP->Nat)(a b:KA)(T:List bP)(o:KA)(i j:Nat):Prop where
 m:Hi rk a b T o i j
 i0:0<i
 i1:i<=a.size
 j0:1<j
 j1:j<=b.size
 z:o.size+i+j=a.size+b.size
def Q0{l:List bP}{r:KA}(h:l.Perm T/\Srt (gr rk) l)(e:r.toList=l.reverse):Res rk T r:=by
 unfold Res;rw[e];exact#[(du l).trans h.1,ek.mpr h.2]
def jn(h:Hi rk a b T o i j)(hi:(i == 0)=am):Res rk T (dh a b o i j):=by
 cases beq_iff_eq.mp hi;refine Q0 (ML.fin h.swap) ?_;simp
def ZdG(h:Hi rk a b T o i j)(hj:(j == 0)=am):Res rk T (dh a b o i j):=by
 cases beq_iff_eq.mp hj;refine Q0 (ML.fin h) ?_;simp
def Q3(fs:∀x∈a.toList,∀y∈b.toList.take 1,rk y<rk x)(h:Hi rk a b T o i j)(hj:(j == 1)=am):Res rk T (fh a b o i j):=by
 cases beq_iff_eq.mp hj;have:=(ML.as (by rw[cE];exact h) λx hx y hy=>fs x (db<|cV.mp hx) y<|cV.mp hy).swap.fin
 refine Q0 this ?_;simp
def uQ(h:Hi rk a b T o i j)(i0:0<i)(i1:i<=a.size)(hx:∀y∈rv b j,rk y<rk a[i-1]):Hi rk a b T (o.push a[i-1]) (i-1) j:=by
 unfold Hi at h ⊢;rw[X5 i0 i1]at h;rw[eJ];exact ML.as h λx hx' y hy'=>by rw[be.mp hx'];exact hx y hy'
def ZaI(h:Hi rk a b T o i j)(j0:0<j)(j1:j<=b.size)(hx:∀y∈rv a i,rk y<rk b[j-1]):Hi rk a b T (o.push b[j-1]) i (j-1):=by
 unfold Hi at h ⊢;rw[X5 j0 j1]at h;rw[eJ];exact ML.bs h λx hx' y hy'=>by rw[be.mp hx'];exact hx y hy'
def yQ{l:List bP}{x y:bP}(h:Srt (gr rk) (x::l))(hx:rk x<rk y):∀z∈x::l,rk z<rk y:=λz hz=>by
 rcases aA.mp hz with rfl|hz
 .exact hx
 .exact dG ((aZ.mp h).1 z hz) hx
theorem yn(O:Od prog w A E s κ In rk){lf:Bool}{k:bP}{ar:KA}{n:Nat}{τ:bK}{Q:Option Nat->bK->Prop}(hk:kindOf τ=κ)(ik:In k)(hn:0<n)(h1:n<=ar.size)(ia:∀x∈ar.toList,In x)(so:Srt (gr rk) (rv ar n))(ne:∀x∈rv ar n,rk x≠rk k)
  (hq:∀r,r<=n->(∀x∈rv ar r,rk x<rk k)->(∀x∈((ar.toList.take n).drop r).reverse,rk k<rk x)->Q (aa r) τ):lE (aQ prog w) A E s (Z4 lf k ar 0 n<|n-1) Q τ:=by
 refine yD O hk ik (Nat.sub_lt hn Nat.one_pos) (by lia) ia (ek.mp so) (λx hx=>ne x<|cV.mpr hx) λr h2 h3 h4=>hq r h2 (λx hx=>h3 x ?_) λx hx=>h4 x<|cV.mp hx
 have hx:=cV.mp hx;rw[oO,lv h2];exact hx
def WT{a:KA}{i:Nat}(i0:0<i)(i1:i<=a.size):a[i-1]∈rv a i:=by rw[X5 i0 i1];exact ak ..
def Gw{a:KA}{i:Nat}{x:bP}(h:x∈rv a i):x∈a.toList:=db<|cV.mp h
section
variable(O:Od prog w A E s κ In rk)(G:Mg κ In rk a b T)(fs:∀x∈a.toList,∀y∈b.toList.take 1,rk y<rk x)
include O G fs
theorem Zc0{g ca cb:Nat}{r0:Option KA}{τ:bK}{Q:ForInStep U2->bK->Prop}(hk:kindOf τ=κ)(I:Ih rk a b T o i j)
  (hd:∀r c,Res rk T r->Q (.done (aa r,c)) τ)(hb:∀o' i' j' ca cb,Ih rk a b T o' i' j'->o'.size=o.size+1->Q (.done (ae,i',j',o',ca,cb)) τ/\Q (.yield (ae,i',j',o',ca,cb)) τ):lE (aQ prog w) A E s (H1 a b g (r0,i,j,o,ca,cb)) Q τ:=by
 obtain⟨m,i0,i1,j0,j1,z⟩:=I;have j0':=dM j0;have hja:j-1<b.size:=by lia
 have hia:i-1<a.size:=by lia
 have ha:=WT i0 i1;have hb':=WT j0' j1;have sa:=m.sa;have sb:=m.sb;rw[X5 i0 i1]at sa;rw[X5 j0' j1]at sb;refine aE<|Zx (ZE hja)<|aE<|Zx (ZE hia)<|aE<|O.ask (G.ib _<|Gw hb') (G.ia _<|Gw ha) hk ?_;by_cases c:rk b[j-1]<rk a[i-1]
 .rw[T5 c]
  refine aE<|Zx (ZE hia) ?_;have m:=uQ m i0 i1 (by rw[X5 j0' j1];exact yQ sb c)
  have z':(o.push a[i-1]).size=o.size+1:=dO ..;refine Zw (λq=>aO<|hd _ _<|jn m q) λq=>?_
  have q:i-1≠0:=λz=>q<|beq_iff_eq.mpr z
  have h:=hb _ _ _ (ca+1) 0 #[m,by lia,by lia,j0,j1,by lia] z'
  exact Zw (λ_=>aO h.1) λ_=>aO h.2
 .rw[T4 c]
  refine aE<|Zx (ZE hja) ?_;have c':=fX (fG c)<|m.ne G.nd ha hb';have m:=ZaI m j0' j1 (by rw[X5 i0 i1];exact yQ sa c')
  have z':(o.push b[j-1]).size=o.size+1:=dO ..;refine Zw (λq=>aO<|hd _ _<|Q3 fs m q) λq=>?_
  have q:j-1≠1:=λz=>q<|beq_iff_eq.mpr z
  have h:=hb _ _ _ 0 (cb+1) #[m,i0,i1,by lia,by lia,by lia] z'
  exact Zw (λ_=>aO h.1) λ_=>aO h.2
theorem Zap{g ca cb:Nat}{τ:bK}(I:Ih rk a b T o i j)(hx:∀y∈rv b j,rk y<rk (a[i-1]'(by have:=I.i0;have:=I.i1;lia)))
  (hd:∀r c,Res rk T r->Q (.done (aa r,c)) τ)(hb:∀o' i' j' g ca cb,Ih rk a b T o' i' j'->o'.size=o.size+1->Q (.done (ae,i',j',o',g,ca,cb)) τ/\Q (.yield (ae,i',j',o',g,ca,cb)) τ):lE (aQ prog w) A E s (K3 a b g ca cb i o j) Q τ:=by
 obtain⟨m,i0,i1,j0,j1,z⟩:=I;refine aE<|Zx (ZE<|by lia) ?_
 have m:=uQ m i0 i1 hx;have z':(o.push a[i-1]).size=o.size+1:=dO ..;refine Zw (λq=>aO<|hd _ _<|jn m q) λq=>?_
 have q:i-1≠0:=λz=>q<|beq_iff_eq.mpr z
 have h:=hb _ _ _ g ca cb #[m,by lia,by lia,j0,j1,by lia] z'
 exact Zw (λ_=>aO h.1) λ_=>aO h.2
theorem Zaq{g ca cb:Nat}{τ:bK}(hk:kindOf τ=κ)(I:Ih rk a b T o i j)(hy:∀y∈rv a i,rk y<rk (b[j-1]'(by have:=I.j0;have:=I.j1;lia)))
  (hd:∀r c,Res rk T r->Q (.done (aa r,c)) τ)(hb:∀o' i' j' g ca cb,Ih rk a b T o' i' j'->o.size<o'.size->Q (.done (ae,i',j',o',g,ca,cb)) τ/\Q (.yield (ae,i',j',o',g,ca,cb)) τ):lE (aQ prog w) A E s (K2 a b g ca cb j o i) Q τ:=by
 obtain⟨m,i0,i1,j0,j1,z⟩:=I;refine aE<|Zx (ZE<|by lia) ?_
 have m:=ZaI m (dM j0) j1 hy;have z':(o.push b[j-1]).size=o.size+1:=dO ..;refine Zw (λq=>aO<|hd _ _<|Q3 fs m q) λq=>?_
 have q:j-1≠1:=λz=>q<|beq_iff_eq.mpr z
 have ha:=WT i0 i1;refine aE<|Zx (ZE<|by lia)<|aE<|yn O hk (G.ia _<|Gw ha) (by lia) (by lia) G.ib m.sb (λy hy=>(m.ne G.nd ha hy).symm) λr hr h1 h2=>?_
 refine Zw (λc=>?_) λc=>?_
 .have m2:Hi rk a b T (o.push b[j-1]++(b.extract r<|j-1).reverse) i r:=by
   unfold Hi;rw[cp,lO,uJ];refine ML.bs ?_ λy hy x hx=>?_
   .rw[<-ux hr];exact m
   .have sa:=m.sa
    rw[X5 i0 i1]at sa hx;exact yQ sa (h2 y hy) x hx
  have z2:(o.push b[j-1]++(b.extract r<|j-1).reverse).size=o.size+1+(j-1-r):=by rw[gp,z',mP,fY];lia
  refine Zw (λq=>aO<|hd _ _<|Q3 fs m2 q) λq1=>Zw (λq=>aO<|hd _ _<|ZdG m2 q) λq2=>?_
  have q1:r≠1:=λz=>q1<|beq_iff_eq.mpr z
  have q2:r≠0:=λz=>q2<|beq_iff_eq.mpr z
  exact Zap O G fs #[m2,i0,i1,by lia,by lia,by lia] h1 hd λo' i' j' g ca cb I e=>hb o' i' j' g ca cb I (by lia)
 .have e:r=j-1:=by lia
  subst e;exact Zap O G fs #[m,i0,i1,by lia,by lia,by lia] h1 hd λo' i' j' g ca cb I e=>hb o' i' j' g ca cb I (by lia)
theorem ZaC{g ca cb:Nat}{τ:bK}(hk:kindOf τ=κ)(I:Ih rk a b T o i j)
  (hd:∀r c st',Sg τ st'->Res rk T r->Q (.done (aa r,c)) st')(hb:∀o' i' j' g ca cb st',Sg τ st'->Ih rk a b T o' i' j'->o.size<o'.size->Q (.done (ae,i',j',o',g,ca,cb)) st'/\Q (.yield (ae,i',j',o',g,ca,cb)) st'):lE (aQ prog w) A E s (K1 a b o i j ca cb g) Q τ:=by
 obtain⟨m,i0,i1,j0,j1,z⟩:=I;have j0':=dM j0;have hb':=WT j0' j1;refine aE<|WU λst' sg=>aE<|Zx (ZE<|by lia)<|aE<|yn O (sg.1.trans hk) (G.ib _<|Gw hb') i0 i1 G.ia m.sa (λx hx=>m.ne G.nd hx hb') λr hr h1 h2=>?_
 refine Zw (λc=>?_) λc=>?_
 .have m2:Hi rk a b T (o++(a.extract r i).reverse) r j:=by
   unfold Hi;rw[cp,lO,uJ];refine ML.as ?_ λx hx y hy=>?_
   .rw[<-ux hr];exact m
   .have sb:=m.sb
    rw[X5 j0' j1]at sb hy;exact yQ sb (h2 x hx) y hy
  have z2:(o++(a.extract r i).reverse).size=o.size+(i-r):=by rw[gp,mP,fY];lia
  refine Zw (λq=>aO<|hd _ _ st' sg<|jn m2 q) λq=>?_
  have q:r≠0:=λz=>q<|beq_iff_eq.mpr z
  exact Zaq O G fs (sg.1.trans hk) #[m2,by lia,by lia,j0,j1,by lia] h1 (λr c=>hd r c st' sg) λo' i' j' g ca cb I e=>hb o' i' j' g ca cb st' sg I (by lia)
 .have e:r=i:=by lia
  subst e;exact Zaq O G fs (sg.1.trans hk) #[m,i0,i1,j0,j1,z] h1 (λr c=>hd r c st' sg) λo' i' j' g ca cb I e=>hb o' i' j' g ca cb st' sg I (by lia)
theorem Zdg{g ca cb:Nat}{r0:Option KA}{τ:bK}(hk:kindOf τ=κ)(I:Ih rk a b T o i j)
  (hd:∀r c st',Sg τ st'->Res rk T r->Q (.done (aa r,c)) st')(hb:∀o' i' j' g ca cb st',Sg τ st'->Ih rk a b T o' i' j'->o.size<o'.size->Q (.done (ae,i',j',o',g,ca,cb)) st'/\Q (.yield (ae,i',j',o',g,ca,cb)) st'):lE (aQ prog w) A E s (H2 a b (r0,i,j,o,g,ca,cb)) Q τ:=by
 exact Zw (λ_=>ZaC O G fs hk I hd hb) λ_=>ZaC O G fs hk I hd hb
theorem Zde{g:Nat}{r0:Option KA}{τ:bK}{Q:ForInStep U1->bK->Prop}(hk:kindOf τ=κ)(I:Ih rk a b T o i j)
  (hd:∀r c st',Sg τ st'->Res rk T r->Q (.done (aa r,c)) st')(hy:∀o' i' j' g st',Sg τ st'->Ih rk a b T o' i' j'->o.size<o'.size->Q (.yield (ae,i',j',o',g)) st'):lE (aQ prog w) A E s (TT (a.size+b.size) (H1 a b) (H2 a b) (r0,i,j,o,g)) Q τ:=by
 refine aE (eF (cn
  (I:=λx (c:U2) st'=>st'=τ/\c.1=ae/\Ih rk a b T c.2.2.2.1 c.2.1 c.2.2.1/\o.size+x<=c.2.2.2.1.size)
  (Q:=λ(c:U2) st'=>st'=τ/\((∃r,c.1=aa r/\Res rk T r)\/c.1=ae/\Ih rk a b T c.2.2.2.1 c.2.1 c.2.2.1/\o.size<c.2.2.2.1.size)) ?_ ?_ #[rfl,rfl,I,aH _]) ?_)
 .rintro x ⟨r,i',j',o',ca,cb⟩ st' _ _ ⟨rfl,rfl,I',hz⟩
  exact Zc0 O G fs hk I' (λr c h=>#[rfl,.inl #[r,rfl,h]]) λo2 i2 j2 ca cb I2 e=>#[#[rfl,.inr #[rfl,I2,by dsimp only at hz ⊢;lia]],rfl,rfl,I2,by dsimp only at hz ⊢;lia]
 .rintro ⟨r,i',j',o',ca,cb⟩ st' ⟨rfl,rfl,I',hz⟩
  have:=I'.i0;have:=I'.j0;have:=I'.z;lia
 .rintro ⟨r,i',j',o',ca,cb⟩ st' ⟨rfl,⟨r',rfl,h⟩|⟨rfl,I',hz⟩⟩
  .exact aO<|hd _ _ _ #[rfl,rfl,rfl,rfl] h
  .dsimp only at I' hz
   refine aE (Xp (aE (eF (cn
    (I:=λx (c:U3) st''=>Sg st' st''/\c.1=ae/\Ih rk a b T c.2.2.2.1 c.2.1 c.2.2.1/\o'.size+x<=c.2.2.2.1.size)
    (Q:=λ(c:U3) st''=>Sg st' st''/\((∃r,c.1=aa r/\Res rk T r)\/c.1=ae/\Ih rk a b T c.2.2.2.1 c.2.1 c.2.2.1/\o'.size<c.2.2.2.1.size)) ?_ ?_ #[#[rfl,rfl,rfl,rfl],rfl,I',aH _]) ?_)))
   .rintro x ⟨r,i2,j2,o2,g,ca,cb⟩ st2 _ _ ⟨sg,rfl,I2,hz2⟩
    dsimp only at I2 hz2
    exact Zdg O G fs (sg.1.trans hk) I2 (λr c st3 s3 h=>#[sg.trans s3,.inl #[r,rfl,h]]) λo3 i3 j3 g ca cb st3 s3 I3 e=>#[#[sg.trans s3,.inr #[rfl,I3,by dsimp only;lia]],sg.trans s3,rfl,I3,by dsimp only;lia]
   .rintro ⟨r,i2,j2,o2,g,ca,cb⟩ st2 ⟨sg,rfl,I2,hz2⟩
    have:=I2.i0;have:=I2.j0;have:=I2.z;lia
   .rintro ⟨r,i2,j2,o2,g,ca,cb⟩ st2 ⟨sg,⟨r',rfl,h⟩|⟨rfl,I2,hz2⟩⟩
    .exact aO<|hd _ _ _ sg h
    .exact aE<|WU λst3 s3=>aO<|hy _ _ _ _ _ (sg.trans s3) I2<|dG hz hz2
theorem zm{τ:bK}{Q:KA->bK->Prop}(hk:kindOf τ=κ)(ha:0<a.size)(hb:0<b.size)(sa:Srt (lr rk) a.toList)(sb:Srt (lr rk) b.toList)(hT:(a.toList++b.toList).Perm T)
  (hq:∀r st',Sg τ st'->Res rk T r->Q r st'):lE (aQ prog w) A E s (VB a b) Q τ:=by
 rw[Gy];refine aE<|Xp<|aE<|Zx (ZE<|by lia) ?_
 have ea:rv a a.size=a.toList.reverse:=by show(a.toList.take a.size).reverse=_;rw[<-ay,gI]
 have eb:rv b b.size=b.toList.reverse:=by show(b.toList.take b.size).reverse=_;rw[<-ay,gI]
 have m0:Hi rk a b T #[] a.size b.size:=by
  unfold Hi;rw[ea,eb];exact#[by simpa using((du _).append<|du _).trans hT,.nil,ek.mpr sa,ek.mpr sb,λx hx=>by cases hx]
 have m:=uQ m0 ha (aH _) λy hy=>G.last y (Gw hy) _ (by rw[ZV (by lia)];exact ak ..)
 have sg0:Sg τ τ:=#[rfl,rfl,rfl,rfl];refine Zw (λq=>aO<|hq _ _ sg0<|jn m q) λq1=>Zw (λq=>aO<|hq _ _ sg0<|Q3 fs m q) λq2=>?_
 have q1:a.size-1≠0:=λz=>q1<|beq_iff_eq.mpr z
 have q2:b.size≠1:=λz=>q2<|beq_iff_eq.mpr z
 refine aE (gq (aE (eF (cn
  (I:=λx (c:U1) st''=>Sg τ st''/\c.1=ae/\Ih rk a b T c.2.2.2.1 c.2.1 c.2.2.1/\x<=c.2.2.2.1.size)
  (Q:=λ(c:U1) st''=>Sg τ st''/\∃r,c.1=aa r/\Res rk T r) ?_ ?_ #[sg0,rfl,#[m,by dsimp only;lia,by dsimp only;lia,by dsimp only;lia,aH _,by show 1+(a.size-1)+b.size=_;lia],dB _]) ?_)))
 .rintro x ⟨r,i,j,o,g⟩ st2 _ _ ⟨sg,rfl,I,hz⟩
  dsimp only at I hz
  exact Zde O G fs (sg.1.trans hk) I (λr c st3 s3 h=>#[sg.trans s3,r,rfl,h]) λo3 i3 j3 g st3 s3 I3 e=>#[sg.trans s3,rfl,I3,by dsimp only;lia]
 .rintro ⟨r,i,j,o,g⟩ st2 ⟨sg,rfl,I,hz⟩
  have:=I.i0;have:=I.j0;have:=I.z;lia
 .rintro ⟨r,i,j,o,g⟩ st2 ⟨sg,r',rfl,h⟩
  exact aO<|hq _ _ sg h
end
end
noncomputable def Kr(rk:bP->Nat)(xs:Array bP)(i:Nat):Nat:=match xs[i]? with
 |some p=>rk p
 |none=>0
def X3(h:xs[i]?=ys[j]?):Kr rk xs i=Kr rk ys j:=by unfold Kr;rw[h]
structure Sb(κ:fA)(a₀:Array bP)(P:Array (Nat×Nat×Nat))(lo:Nat)(L:List bP)(τ:bK):Prop where
 kd:kindOf τ=κ
 pm:(aY τ).Perm a₀
 fl:fR τ=ae
 pd:ba τ=P
 ah:(aY τ).toList.take lo=L
def Up(rk:bP->Nat)(xs:Array bP)(lo m:Nat):Prop:=∀i j,lo<=i->i<j->j<lo+m->Kr rk xs i<Kr rk xs j
def Dn(rk:bP->Nat)(xs:Array bP)(lo m:Nat):Prop:=∀i j,lo<=i->i<j->j<lo+m->Kr rk xs j<Kr rk xs i
section
variable{κ:fA}{a₀:Array bP}{P:Array (Nat×Nat×Nat)}{lo:Nat}{L:List bP}{τ:bK}{In:bP->Prop}{rk:bP->Nat}
theorem Sb.size(h:Sb κ a₀ P lo L τ):(aY τ).size=a₀.size:=h.pm.size_eq
def Sb.in(h:Sb κ a₀ P lo L τ)(ia:∀x∈a₀.toList,In x):∀x∈(aY τ).toList,In x:=λx hx=>ia x<|(bF.mp h.pm).mem_iff.mp hx
def Gx(hi:i<xs.size):Kr rk xs i=rk xs[i]:=by unfold Kr;rw[aN hi]
theorem Sb.ne(h:Sb κ a₀ P lo L τ)(nd:(a₀.toList.map rk).Nodup)(hi:i<a₀.size)(hj:j<a₀.size)(e:Kr rk (aY τ) i=Kr rk (aY τ) j):i=j:=by
 have hs:=h.size;have n:=(((bF.mp h.pm).map rk).nodup_iff).mpr nd;have g:∀k,k<a₀.size->((aY τ).toList.map rk)[k]?=aa (Kr rk (aY τ) k):=λk hk=>by
  rw[aK,aX,aN (by lia),Gx (by lia)];rfl
 exact(fw (by rw[az,ay];lia) n).mp (by rw[g i hi,g j hj,e])
def Sb.setA(h:Sb κ a₀ P lo L τ)(hp:xs.Perm (aY τ))(hf:∀k,k<lo->xs[k]?=(aY τ)[k]?):Sb κ a₀ P lo L (setArr τ xs):=
 #[h.kd,hp.trans h.pm,h.fl,h.pd,by
  rw[<-h.ah];refine bV λk=>?_
  rw[cS,cS];split
  .rw[aX,aX];exact hf k ‹_›
  .rfl]
variable{prog:bC}{w:bN}{A:cD}{E:al->aw->Prop}{s:aw}
theorem UV(O:Od prog w A E s κ In rk)(h:Sb κ a₀ P lo L τ)(ia:∀x∈a₀.toList,In x){Q:Option Bool->bK->Prop}(hi:i<a₀.size)(hj:j<a₀.size)(q:Q (aa<|ai<|Kr rk (aY τ) i<Kr rk (aY τ) j) τ):lE (aQ prog w) A E s (ltAt' i j) Q τ:=by
 have hs:=h.size;have m:∀k (hk:k<(aY τ).size),In (aY τ)[k]:=λk hk=>h.in ia _ (by simp)
 rw[ltAt'_eq];refine aE<|gq ?_;refine aE<|Zx (ZE<|by lia)<|aE<|Zx (ZE<|by lia) ?_
 rw[Gx (by lia),Gx<|by lia]at q
 exact O.ask (m i _) (m j _) h.kd q
theorem ZaT(xs:Array bP):Up rk xs lo 1:=λi j a b c=>by lia
theorem qd(h1:1<=m)(u:Up rk xs lo m)(c:Kr rk xs (lo+m-1)<Kr rk xs (lo+m)):Up rk xs lo (m+1):=λi j a b d=>by
 by_cases z:j=lo+m
 .subst z
  by_cases y:i=lo+m-1
  .rw[y];exact c
  .exact dG (u i (lo+m-1) a (by lia)<|by lia) c
 .exact u i j a b (by lia)
theorem jg(h1:1<=m)(u:Dn rk xs lo m)(c:Kr rk xs (lo+m)<Kr rk xs (lo+m-1)):Dn rk xs lo (m+1):=λi j a b d=>by
 by_cases z:j=lo+m
 .subst z
  by_cases y:i=lo+m-1
  .rw[y];exact c
  .exact dG c<|u i (lo+m-1) a (by lia) (by lia)
 .exact u i j a b (by lia)
theorem uR(O:Od prog w A E s κ In rk)(ia:∀x∈a₀.toList,In x)(nd:(a₀.toList.map rk).Nodup){Q:AscSt->bK->Prop}
  (hF:∀i m (Q:ForInStep AscSt->bK->Prop),1<=m->m<nrem->(Kr rk (aY τ) (lo+m)<Kr rk (aY τ) (lo+m-1)->Q (.done (ae,m)) τ)->(¬Kr rk (aY τ) (lo+m)<Kr rk (aY τ) (lo+m-1)->Q (.yield (ae,m+1)) τ)->lE (aQ prog w) A E s (F i (ae,m)) Q τ)
  (hn:lo+nrem<=a₀.size)(h1:1<=n0)(hl:n0<=nrem)(hB:Sb κ a₀ P lo L τ)(u:Up rk (aY τ) lo n0)
  (q:∀m,n0<=m->m<=nrem->Up rk (aY τ) lo m->(m<nrem->Kr rk (aY τ) (lo+m)<Kr rk (aY τ) (lo+m-1))->Q (ae,m) τ):lE (aQ prog w) A E s (mm [n0:nrem] ((ae,n0):AscSt) F) Q τ:=by
 refine cn (I:=λi c st'=>st'=τ/\c=(ae,i)/\Up rk (aY τ) lo i) ?_ ?_ #[rfl,rfl,u]
 .rintro i c st' ha hb ⟨rfl,rfl,u⟩
  refine hF i i _ (by lia) hb (λc=>q i ha (by lia) u λ_=>c) λc=>#[rfl,rfl,qd (by lia) u ?_]
  have:Kr rk (aY st') (lo+i-1)≠Kr rk (aY st') (lo+i):=λe=>by
   have:=hB.ne nd (by lia) (by lia) e
   lia
  lia
 .rintro c st' ⟨rfl,rfl,u⟩
  have e:max n0 nrem=nrem:=by lia
  rw[e]at u ⊢;exact q nrem hl (aH _) u λz=>T7 z<|br _
theorem uX(O:Od prog w A E s κ In rk)(ia:∀x∈a₀.toList,In x)(nd:(a₀.toList.map rk).Nodup){Q:Option Nat->bK->Prop}(hn:lo+nrem<=a₀.size)(h1:1<=nrem)(hB:Sb κ a₀ P lo L τ)
  (q:∀m st',Sb κ a₀ P lo L st'->1<=m->m<=nrem->Up rk (aY st') lo m->Q (aa m) st'):lE (aQ prog w) A E s (countRun' lo nrem) Q τ:=by
 rw[countRun'_eq];refine aE<|uR O ia nd (λi m Q a b k1 k2=>?_) hn (aH _) h1 hB (ZaT _) λm m1 m2 u c=>?_
 .refine aE (UV O hB ia (by lia) (by lia) ?_)
  dsimp only
  split
  .exact aO<|k1<|T6 ‹_›
  .exact aO<|k2 λz=>‹¬_› (T5 z)
 dsimp only
 by_cases e:m=nrem
 .rw[T9 (by simpa using e)]
  exact aO<|q m τ hB m1 m2 u
 rw[T8 (by simpa using e)]
 by_cases c1:m>1
 .rw[T9 c1]
  refine aE<|UV O hB ia (by lia) (by lia) ?_
  dsimp only
  rw[T9<|T5<|u lo (lo+m-1) (aH _) (by lia) (by lia)]
  exact aO<|q m τ hB m1 m2 u
 rw[T8 c1];obtain rfl:m=1:=by lia
 refine aE<|Xp ?_;have nl:∀i j,i<a₀.size->j<a₀.size->i≠j->¬Kr rk (aY τ) i<Kr rk (aY τ) j->Kr rk (aY τ) j<Kr rk (aY τ) i:=λi j hi hj ne c=>by
  have:Kr rk (aY τ) i≠Kr rk (aY τ) j:=λe=>ne<|hB.ne nd hi hj e
  lia
 have d2:Dn rk (aY τ) lo 2:=λi j a b d=>by
  obtain⟨rfl,rfl⟩:i=lo/\j=lo+1:=by lia
  exact c (by lia)
 refine aE<|eF (cn (I:=λi c st'=>st'=τ/\c=(ae,i,0)/\Dn rk (aY τ) lo i) (Q:=λc st'=>st'=τ/\∃i,c=(ae,i,0)/\2<=i/\i<=nrem/\Dn rk (aY τ) lo i) ?_ ?_ #[rfl,rfl,d2]) ?_
 .rintro i c st' ha hb ⟨rfl,rfl,u⟩
  dsimp only
  refine aE<|UV O hB ia (by lia) (by lia) ?_
  dsimp only
  split
  .rw[T8<|br 0]
   exact aO #[rfl,rfl,jg (by lia) u<|T6 ‹_›]
  .refine aE (UV O hB ia (by lia) (by lia) ?_)
   dsimp only
   rw[T9<|T5<|nl (lo+i) (lo+i-1) (by lia) (by lia) (by lia) λz=>‹¬_› (T5 z)]
   exact aO #[rfl,i,rfl,by lia,by lia,u]
 .rintro c st' ⟨rfl,rfl,u⟩
  have e:max (1+1) nrem=nrem:=by lia
  rw[e]at u ⊢;exact#[rfl,nrem,rfl,by lia,aH _,u]
 .rintro c st' ⟨rfl,i,rfl,h2,hi,u⟩
  dsimp only
  rw[T8<|br 0];refine aE<|wpS_reverse ?_;have hs:=hB.size;have gm:=λk=>getElem?_mirror_all (xs:=aY st') (i:=lo) (j:=lo+i) (by lia) k
  have hB2:=hB.setA (mirror_perm ..) λk hk=>by
   rw[gm k,T8 (by lia)]
  have u2:Up rk (mirror (aY st') lo (lo+i)<|(lo+i-lo) / 2) lo i:=λa b h1 h2 h3=>by
   have e:∀k,lo<=k->k<lo+i->Kr rk (mirror (aY st') lo (lo+i)<|(lo+i-lo) / 2) k=Kr rk (aY st') (lo+(lo+i-1-k)):=λk ka kb=>X3 (by rw[gm k,T9 #[ka,kb]];congr 1;lia)
   rw[e a h1 (by lia),e b (by lia) h3]
   exact u _ _ (by lia) (by lia) (by lia)
  refine aE<|uR O ia nd (λi m Q a b k1 k2=>?_) hn (by lia) hi hB2 u2 λm m1 m2 u c=>?_
  .refine aE (UV O hB2 ia (by dsimp only;lia) (by dsimp only;lia) ?_)
   dsimp only
   split
   .exact aO<|k1<|T6 ‹_›
   .exact aO<|k2 λz=>‹¬_› (T5 z)
  .exact aO<|q m _ hB2 (by lia) m2 u
theorem qg(O:Od prog w A E s κ In rk)(ia:∀x∈a₀.toList,In x)(nd:(a₀.toList.map rk).Nodup){Q:Bool->bK->Prop}(hn:lo+n<=a₀.size)(h1:1<=ok)(hok:ok<=n)(hB:Sb κ a₀ P lo L τ)(u:Up rk (aY τ) lo ok)
  (q:∀st',Sb κ a₀ P lo L st'->Up rk (aY st') lo n->Q am st'):lE (aQ prog w) A E s (binarySort' lo n ok) Q τ:=by
 rw[binarySort'_eq];refine aE<|eF (cn (I:=λk c st'=>c=(ae,())/\Sb κ a₀ P lo L st'/\Up rk (aY st') lo k) (Q:=λc st'=>c=(ae,())/\Sb κ a₀ P lo L st'/\Up rk (aY st') lo n) ?_ ?_ #[rfl,hB,by rw[Nat.max_eq_left h1];exact u]) ?_
 .rintro k c st' ha hb ⟨rfl,B,u⟩
  have hs:=B.size;refine aE (eF (cn (I:=λx c st2=>st2=st'/\∃l r,c=(ae,l,r)/\l<=r/\r<=k/\r-l<=k-x/\(∀i,i<l->Kr rk (aY st') (lo+i)<Kr rk (aY st') (lo+k))/\∀i,r<=i->i<k->Kr rk (aY st') (lo+k)<Kr rk (aY st') (lo+i))
   (Q:=λc st2=>st2=st'/\∃l r,c=(ae,l,r)/\l<=k/\(∀i,i<l->Kr rk (aY st') (lo+i)<Kr rk (aY st') (lo+k))/\∀i,l<=i->i<k->Kr rk (aY st') (lo+k)<Kr rk (aY st') (lo+i)) ?_ ?_ #[rfl,0,k,rfl,by lia,by lia,by lia,λi hi=>by lia,λi a b=>by lia]) ?_)
  .rintro x c st2 _ hx ⟨rfl,l,r,rfl,g1,g2,g3,g4,g5⟩
   dsimp only
   by_cases c:l>=r
   .rw[T9 c]
    exact aO #[rfl,l,r,rfl,by lia,g4,λi a b=>g5 i (by lia) b]
   .rw[T8 c]
    refine aE<|UV O B ia (by lia) (by lia) ?_
    dsimp only
    split
    .have cm:=T6 ‹_›
     refine aO #[rfl,l,(l+r) / 2,rfl,by lia,by lia,by lia,g4,λi a b=>?_]
     by_cases y:i=(l+r) / 2
     .rw[y];exact cm
     .exact dG cm<|u _ _ (by lia) (by lia) (by lia)
    .have cm:Kr rk (aY st2) (lo+(l+r) / 2)<Kr rk (aY st2) (lo+k):=by
      have z:¬Kr rk (aY st2) (lo+k)<Kr rk (aY st2) (lo+(l+r) / 2):=λz=>‹¬_› (T5 z)
      have:Kr rk (aY st2) (lo+k)≠Kr rk (aY st2) (lo+(l+r) / 2):=λe=>by
       have:=B.ne nd (by lia) (by lia) e
       lia
      lia
     refine aO #[rfl,(l+r) / 2+1,r,rfl,by lia,by lia,by lia,λi a=>?_,g5]
     by_cases y:i=(l+r) / 2
     .rw[y];exact cm
     .exact dG (u _ _ (by lia) (by lia)<|by lia) cm
  .rintro c st2 ⟨rfl,l,r,rfl,g1,g2,g3,g4,g5⟩
   exact#[rfl,l,r,rfl,by lia,g4,λi a b=>g5 i (by lia) b]
  .rintro c st2 ⟨rfl,l,r,rfl,g2,g4,g5⟩
   dsimp only
   rw[moveDown'_eq];refine aE<|fc<|aO ?_;have gb:=λi=>getElem?_bubble (xs:=aY st2) (src:=lo+k) (by lia) (lo+k-(lo+l)) (by lia) i
   have e1:lo+k-(lo+k-(lo+l))=lo+l:=by lia
   rw[e1]at gb;refine#[rfl,B.setA (bubble_perm ..) λi hi=>?_,λi j a b d=>?_]
   .rw[gb i,T8 (by lia),T8 (by lia)]
   .have e:∀i,Kr rk (bubble (aY st2) (lo+k)<|lo+k-(lo+l)) i=if i=lo+l then Kr rk (aY st2) (lo+k)else if lo+l<i/\i<=lo+k then Kr rk (aY st2) (i-1)else Kr rk (aY st2) i:=λi=>by
     have h:=gb i;split at h
     .rw[T9 ‹_›];exact X3 h
     .rw[T8 ‹_›]
      split at h
      .rw[T9 ‹_›];exact X3 h
      .rw[T8 ‹_›];exact X3 h
    rw[e i,e j];have low:∀x,lo<=x->x<lo+l->Kr rk (aY st2) x<Kr rk (aY st2) (lo+k):=λx a b=>by
     have:=g4 (x-lo) (by lia)
     rwa [show lo+(x-lo)=x by lia]at this
    have high:∀x,lo+l<=x->x<lo+k->Kr rk (aY st2) (lo+k)<Kr rk (aY st2) x:=λx a b=>by
     have:=g5 (x-lo) (by lia) (by lia)
     rwa [show lo+(x-lo)=x by lia]at this
    by_cases ci:i=lo+l
    .rw[T9 ci,T8 (by lia),T9 (by lia)]
     exact high _ (by lia) (by lia)
    .rw[T8 ci]
     by_cases cj:j=lo+l
     .rw[T9 cj,T8 (by lia)]
      exact low _ a (by lia)
     .rw[T8 cj]
      by_cases di:lo+l<i/\i<=lo+k
      .rw[T9 di,T9 (by lia)];exact u _ _ (by lia) (by lia) (by lia)
      .rw[T8 di]
       by_cases dj:lo+l<j/\j<=lo+k
       .rw[T9 dj]
        by_cases z:i=j-1
        .lia
        .exact u _ _ a (by lia) (by lia)
       .rw[T8 dj];exact u _ _ a b (by lia)
 .rintro c st' ⟨rfl,B,u⟩
  have e:max (max ok 1) n=n:=by lia
  rw[e]at u;exact#[rfl,B,u]
 .rintro c st' ⟨rfl,B,u⟩
  exact aO<|q st' B u
end
def GC(i:Nat):mergeAt' i=(do
 let t <-get
 let (aa (ia,ma,pw),aa (ib,mb,_)):=((ba t)[i]?,(ba t)[i+1]?)|unsupported "internal:list.sort.pending"
 set (gK t<|((ba t).setIfInBounds i (ia,ma+mb,pw)).eraseIdxIfInBounds<|i+1)
 let aa r <-Z4 ap (<-fK (aY t) ib) (aY t) ia ma 0|return ap
 let (ja,la):=(ia+r,ma-r)
 if la == 0 then return am
 let aa lb <-Z4 am (<-fK (aY t) (ja+la-1)) (aY t) ib mb (mb-1)|return ap
 if lb == 0 then return am
 let u:=(aY t).extract ja ib
 let v:=(aY t).extract ib<|ib+lb
 let mg <-if la<=lb then Vy u v else VB u v
 modify λt=>setArr t<|mg.toList.zipIdx.foldl (λa (p,j)=>a.setIfInBounds (ja+j) p)<|aY t
 return (fR<|<-get).isNone):=rfl
theorem Ju(b:Nat):∀(m:List bP)(j:Nat)(a:Array bP),b+j+m.length<=a.size->((m.zipIdx j).foldl (λa q=>a.setIfInBounds (b+q.2) q.1) a).toList=a.toList.take (b+j)++m++a.toList.drop (b+j+m.length)
 |[],j,a,h=>by simp
 |x::r,j,a,h=>by
  rw[aS]at h;rw[kF,fT,Ju b r (j+1) _ (by rw[kq];lia)]
  dsimp only
  rw[fB,aS,<-kr b j 1,List.take_add_one,List.take_set_of_le<|aH _,b8 (by simpa using(by lia:b+j<a.size)),List.drop_set_of_lt (by lia)]
  simp[kr,mY 1]
def Runs(rk:bP->Nat):List (Nat×Nat)->Nat->Nat->List bP->Prop
 |[],a,b,_=>a=b
 |(i,n)::r,a,b,l=>i=a/\1<=n/\Srt (lr rk) ((l.drop a).take n)/\Runs rk r (a+n) b l
section
theorem Runs.le:∀{r:List (Nat×Nat)}{a b:Nat}{l:List bP},Runs rk r a b l->a+r.length<=b
 |[],a,b,l,h=>mZ h
 |(i,n)::r,a,b,l,#[_,h1,_,h]=>by have:=h.le;rw[aS];lia
theorem Runs.app:∀{r q:List (Nat×Nat)}{a b:Nat}{l:List bP},Runs rk (r++q) a b l↔∃c,Runs rk r a c l/\Runs rk q c b l
 |[],q,a,b,l=>#[λh=>#[a,rfl,h],λ#[c,h1,h2]=>by cases h1;exact h2]
 |(i,n)::r,q,a,b,l=>by
  constructor
  .rintro ⟨h1,h2,h3,h4⟩
   obtain⟨c,h5,h6⟩:=Runs.app.mp h4;exact#[c,#[h1,h2,h3,h5],h6]
  .rintro ⟨c,⟨h1,h2,h3,h4⟩,h5⟩
   exact#[h1,h2,h3,Runs.app.mpr #[c,h4,h5]]
theorem Runs.congr:∀{r:List (Nat×Nat)}{a b:Nat}{l l':List bP},Runs rk r a b l->(∀k,a<=k->k<b->l'[k]?=l[k]?)->Runs rk r a b l'
 |[],a,b,l,l',h,_=>h
 |(i,n)::r,a,b,l,l',#[h1,h2,h3,h4],e=>by
  have:=h4.le;refine#[h1,h2,?_,h4.congr λk ha hb=>e k (by lia) hb]
  have:(l'.drop a).take n=(l.drop a).take n:=bV λk=>by
   rw[cS,cS,iM,iM];split
   .exact e _ (by lia) (by lia)
   .rfl
  rw[this];exact h3
def Q5(hx:Srt (lr rk) x)(hy:Srt (lr rk) y)(h:∀a∈x,∀b∈y,rk a<rk b):Srt (lr rk) (x++y):=cR.mpr #[hx,hy,h]
structure Sc(κ:fA)(a₀:Array bP)(τ:bK):Prop where
 kd:kindOf τ=κ
 pm:(aY τ).Perm a₀
 fl:fR τ=ae
variable{In:bP->Prop}
theorem GJ(O:Od prog w A E s κ In rk)(ia:∀x∈a₀.toList,In x)(nd:(a₀.toList.map rk).Nodup){Q:Bool->bK->Prop}(h:Sc κ a₀ τ)(h1:(ba τ)[i]?=aa (a,na,pw))(h2:(ba τ)[i+1]?=aa (a+na,nb,qw))
  (hl:(aY τ).toList=U++(X++(Y++Z)))(lU:U.length=a)(lX:X.length=na)(lY:Y.length=nb)(xa:1<=na)(yb:1<=nb)(sx:Srt (lr rk) X)(sy:Srt (lr rk) Y)
  (q:∀st' M,Sc κ a₀ st'->ba st'=((ba τ).setIfInBounds i (a,na+nb,pw)).eraseIdxIfInBounds (i+1)->(aY st').toList=U++(M++Z)->M.length=na+nb->Srt (lr rk) M->Q am st'):lE (aQ prog w) A E s (mergeAt' i) Q τ:=by
 have hp:=bF.mp h.pm;have ial:=λx hx=>ia x<|hp.mem_iff.mp hx
 have ndl:=((hp.map rk).nodup_iff).mpr nd;have hsz:(aY τ).size=a+(na+(nb+Z.length)):=by rw[<-ay,hl];simp[lU,lX,lY]
 have dX:((aY τ).toList.drop a).take na=X:=by rw[hl,<-lU,iN,<-lX,iO]
 have dY:((aY τ).toList.drop<|a+na).take nb=Y:=by rw[hl,<-bz,<-lU,<-lX,<-bw,iN,<-lY,iO]
 have ndXY:∀x∈X,∀y∈Y,rk x≠rk y:=λx hx y hy e=>by
  rw[hl,bM,gn,bM,gn]at ndl;exact ndl.2.1.2.2 _ (dz hx) _ (by rw[bM];exact b6 _<|dz hy) e
 have inX:∀x∈X,In x:=λx hx=>ial x (by rw[hl];simp[hx])
 have inY:∀y∈Y,In y:=λy hy=>ial y (by rw[hl];simp[hy])
 obtain⟨y0,Y',rfl⟩:∃y0 Y',Y=y0::Y':=by cases Y with|nil=>simp at lY;lia|cons y Y'=>exact#[y,Y',rfl]
 have e0:(aY τ)[a+na]?=aa y0:=by
  rw[<-aX,hl,<-bz,bu (by simp;lia)]
  simp[lU,lX]
 rw[GC];refine aE<|gq ?_;rw[h1,h2]
 dsimp only
 refine aE<|fc ?_
 generalize hst:gK τ (((ba τ).setIfInBounds i (a,na+nb,pw)).eraseIdxIfInBounds<|i+1)=st1;have S1:Sc κ a₀ st1:=by rw[<-hst];exact#[h.kd,h.pm,h.fl]
 have P1:ba st1=((ba τ).setIfInBounds i (a,na+nb,pw)).eraseIdxIfInBounds (i+1):=by rw[<-hst]
 have A1:aY st1=aY τ:=by rw[<-hst]
 refine aE<|Zx e0<|aE<|yD O S1.kd (inY y0<|ak ..) xa (by lia) ial (by rw[dX];exact sx) (by rw[dX];exact λx hx=>ndXY x hx y0<|ak ..) λr hr r1 r2=>?_
 rw[dX]at r1 r2
 dsimp only
 have lowY:∀x∈X.take r,∀y∈y0::Y',rk x<rk y:=λx hx y hy=>by
  rcases aA.mp hy with rfl|hy
  .exact r1 x hx
  .exact dG (r1 x hx)<|(aZ.mp sy).1 y hy
 by_cases c:na-r=0
 .rw[T9 (by simpa using c)]
  have:X.take r=X:=b9 (by lia)
  rw[this]at lowY;exact aO<|q st1 (X++y0::Y') S1 P1 (by rw[A1,hl,bz]) (by rw[bw,lX,lY])<|Q5 sx sy lowY
 rw[T8 (by simpa using c)]
 have exl:(aY τ)[a+r+(na-r)-1]?=X[na-1]?:=by
  rw[<-aX,hl,bu (by lia),bO (by lia)]
  congr 1;lia
 have xl:X[na-1]?=aa (X[na-1]'(by lia)):=af _
 generalize hx0:X[na-1]'(by lia)=x0 at xl
 have mx0:x0∈X:=c9 xl;have mx1:x0∈X.drop r:=c9 (i:=na-1-r) (by rw[iM];rw[<-xl];congr 1;lia)
 have maxX:∀x∈X,x=x0\/rk x<rk x0:=λx hx=>by
  obtain⟨k,hk,rfl⟩:=lP.mp hx;by_cases z:k=na-1
  .subst z;exact .inl hx0
  .right;rw[<-hx0];exact bq.mp sx k (na-1) hk (by lia) (by lia)
 refine aE<|Zx (exl.trans xl)<|aE<|yD O S1.kd (inX x0 mx0) (by lia) (by lia) ial (by rw[dY];exact sy) (by rw[dY];exact λy hy=>Ne.symm<|ndXY x0 mx0 y hy) λt ht t1 t2=>?_
 rw[dY]at t1 t2
 dsimp only
 have t0:t≠0:=λz=>by
  subst z;have a1:=r2 x0 mx1;have a2:=t2 y0<|ak ..;lia
 rw[T8 (by simpa using t0)]
 generalize hY:y0::Y'=Y at *;have eu:((aY τ).extract (a+r)<|a+na).toList=X.drop r:=by
  have:a+na=(a+r)+(na-r):=by lia
  rw[this,yK,<-iL,hl,<-lU,iN,gV (by lia)]
  rw[show na-r=(X.drop r).length by rw[bo,lX],iO]
 have ev:((aY τ).extract (a+na)<|a+na+t).toList=Y.take t:=by
  rw[yK,hl,<-bz,<-lU,<-lX,<-bw,iN,gW (by lia)]
 generalize hu:(aY τ).extract (a+r) (a+na)=u at *;generalize hv:(aY τ).extract (a+na) (a+na+t)=v at *;have ul:u.size=na-r:=by rw[<-ay,eu,bo,lX]
 have vl:v.size=t:=by rw[<-ay,ev,bh,lY];lia
 have su:Srt (lr rk) u.toList:=by rw[eu];exact sx.sublist<|ng ..
 have sv:Srt (lr rk) v.toList:=by rw[ev];exact sy.sublist<|iZ ..
 have v0:∀x∈u.toList,rk (v[0]'(by lia))<rk x:=λx hx=>by
  have:v.toList[0]?=aa y0:=by
   rw[ev,<-hY];obtain⟨t',rfl⟩:∃t',t=t'+1:=#[t-1,by lia]
   rfl
  have e:v[0]'(by lia)=y0:=by
   rw[aX,aN<|by lia]at this
   exact ag this
  rw[e];exact r2 x (by rw[<-eu];exact hx)
 have G:Mg κ In rk u v (u.toList++v.toList):=by
  refine#[?_,λx hx=>inX x<|bS<|eu▸hx,λy hy=>inY y<|db<|ev▸hy,λy hy x hx=>?_]
  .rw[bM,gn]
   have nx:∀{z:List bP},Srt (lr rk) z->(z.map rk).Nodup:=λ{z} hz=>cy.mpr<|hz.imp λhab=>bv hab
   refine#[nx su,nx sv,λp hp p' hp' e=>?_]
   obtain⟨x,hx,rfl⟩:=aR.mp hp;obtain⟨y,hy,rfl⟩:=aR.mp hp';exact ndXY x (bS<|eu▸hx) y (db<|ev▸hy) e
  .have hx:x=x0:=by
    rw[eu,ul,iL,show r+(na-r-1)=na-1 by lia,bZ (by lia),show na-1+1=X.length by lia,dU,be]at hx
    rw[hx];exact hx0
   rw[hx];exact t1 y (by rw[<-ev];exact hy)
 have fin:∀r' st',Sg st1 st'->Res rk (u.toList++v.toList) r'->lE (aQ prog w) A E s (do
   modify λt=>setArr t<|r'.toList.zipIdx.foldl (λz (p,j)=>z.setIfInBounds (a+r+j) p)<|aY t
   return (fR<|<-get).isNone) Q st':=λr' st' sg hr'=>by
  obtain⟨g1,g2,g3,g4⟩:=sg;obtain⟨k1,k2⟩:=hr';have rl:r'.toList.length=(na-r)+t:=by rw[k1.length_eq,bw,ay,ay,ul,vl]
  refine aE<|fc<|aE<|gq<|aO ?_;have fo:=Ju (a+r) r'.toList 0 (aY τ) (by lia)
  have el:((r'.toList.zipIdx.foldl (λz (q:bP×Nat)=>z.setIfInBounds (a+r+q.2) q.1)<|aY τ).toList)=U++((X.take r++(r'.toList++Y.drop t))++Z):=by
   rw[fo,Nat.add_zero,hl,<-lU,List.take_append,nO,rl];have e1:U.length+r-U.length=r:=by lia
   have e2:U.length+r+(na-r+t)-U.length=na+t:=by lia
   rw[e1,e2,b9 (by lia),kZ (by lia),g9,gW (by lia),<-lX,nO,kZ (by lia),g9,show X.length+t-X.length=t by lia,gV (by lia)]
   simp[bz]
  have hX:X.take r++X.drop r=X:=cM ..;have hYt:Y.take t++Y.drop t=Y:=cM ..;have pM:(X.take r++(r'.toList++Y.drop t)).Perm (X++Y):=by
   rw[eu,ev]at k1;have:(X.take r++(r'.toList++Y.drop t)).Perm (X.take r++((X.drop r++Y.take t)++Y.drop t)):=(k1.append_right _).append_left _;refine this.trans<|hU ?_;rw[bz<|X.drop r,hYt,<-bz,hX]
  rw[g4,S1.fl];refine q (setArr st'<|r'.toList.zipIdx.foldl (λz (q:bP×Nat)=>z.setIfInBounds (a+r+q.2) q.1)<|aY st') (X.take r++(r'.toList++Y.drop t)) #[g1.trans S1.kd,?_,g4.trans S1.fl] (g3.trans P1) (by rw[<-el,<-A1,<-g2]) (by rw[pM.length_eq,bw,lX,lY]) ?_
  .refine(bF.mpr ?_).trans h.pm
   rw[g2,A1,el,hl,<-bz X Y Z];exact(pM.append_right _).append_left _
  .have memR:∀z∈r'.toList,z∈X.drop r\/z∈Y.take t:=λz hz=>by
    have:=k1.mem_iff.mp hz;rw[eu,ev]at this;exact c0.mp this
   have sX:=cR.mp<|hX.symm▸sx;have sY:=cR.mp<|hYt.symm▸sy;refine Q5 sX.1 (Q5 k2 sY.2.1 λp hp y hy=>?_) λx hx z hz=>?_
   .rcases memR p hp with m|m
    .have:=t2 y hy
     rcases maxX p (bS m)with rfl|m
     .exact this
     .exact dG m this
    .exact sY.2.2 p m y hy
   .rcases c0.mp hz with m|m
    .rcases memR z m with m|m
     .exact sX.2.2 x hx z m
     .exact lowY x hx z<|db m
    .exact lowY x hx z<|bS m
 by_cases cl:na-r<=t
 .rw[T9 cl]
  exact aE<|za O G S1.kd (by lia) (by lia) su sv (cu _) v0 λr' st' sg hr'=>fin r' st' sg hr'
 .rw[T8 cl]
  have fs:∀x∈u.toList,∀y∈v.toList.take 1,rk y<rk x:=λx hx y hy=>by
   have e:=ZV (a:=v) (i:=0) (by lia)
   rw[iJ]at e;rw[e]at hy;rw[be.mp hy];exact v0 x hx
  exact aE<|zm O G fs S1.kd (by lia) (by lia) su sv (cu _) λr' st' sg hr'=>fin r' st' sg hr'
end
section
variable{In:bP->Prop}
noncomputable abbrev g2(q:Nat×Nat×Nat):Nat×Nat:=(q.1,q.2.1)
noncomputable def pl(τ:bK):List (Nat×Nat):=(ba τ).toList.map g2
def cut2{B:Type}{l:List B}{i:Nat}{x y:B}(h1:l[i]?=aa x)(h2:l[i+1]?=aa y):l=l.take i++(x::y::l.drop (i+2)):=by
 obtain⟨a,e1⟩:=bc.mp h1;obtain⟨b,e2⟩:=bc.mp h2
 conv=>lhs;rw[<-cM i l,bZ a,bZ b,e1,e2]
theorem XG(O:Od prog w A E s κ In rk)(ia:∀x∈a₀.toList,In x)(nd:(a₀.toList.map rk).Nodup){Q:Bool->bK->Prop}{i b:Nat}{R3:List (Nat×Nat)}(h:Sc κ a₀ τ)(hi:i+1<(ba τ).size)(hb:b<=a₀.size)(hr:Runs rk (pl τ++R3) 0 b (aY τ).toList)
  (q:∀st',Sc κ a₀ st'->(ba st').size=(ba τ).size-1->Runs rk (pl st'++R3) 0 b (aY st').toList->Q am st'):lE (aQ prog w) A E s (mergeAt' i) Q τ:=by
 obtain⟨⟨a,na,pw⟩,h1⟩:∃x,(ba τ)[i]?=aa x:=#[_,aN (by lia)]
 obtain⟨⟨b1,nb,qw⟩,h2⟩:∃x,(ba τ)[i+1]?=aa x:=#[_,aN hi];have e:=cut2 (by rw[aX];exact h1) (by rw[aX];exact h2)
 generalize hA:(ba τ).toList.take i=RA at e;generalize hC:(ba τ).toList.drop (i+2)=RC at e;have lA:RA.length=i:=by rw[<-hA,bh,ay];lia
 unfold pl at hr;rw[e,bM,bz]at hr;obtain⟨c,r1,r2⟩:=Runs.app.mp hr;obtain⟨z1,n1,s1,z2,n2,s2,r3⟩:=r2
 dsimp only[g2]at z1 n1 s1 z2 n2 s2 r3
 subst z1 z2;have hle:=r3.le;have hsz:(aY τ).toList.length=a₀.size:=by rw[ay];exact h.pm.size_eq
 generalize hl:(aY τ).toList=l at *;have el:l=l.take a++((l.drop a).take na++((l.drop<|a+na).take nb++l.drop (a+na+nb))):=by
  rw[td,td,cM]
 have lU:(l.take a).length=a:=by rw[bh];lia
 refine GJ O ia nd h h1 h2 (hl.trans el) lU (by rw[bh,bo];lia) (by rw[bh,bo];lia) n1 n2 s1 s2 λst' M S' hp' hl' lM sM=>?_
 have hpl:(ba st').toList=RA++((a,na+nb,pw)::RC):=by
  rw[hp',Array.toList_eraseIdxIfInBounds,fB,e,List.set_append_right _ _ (by lia),lA,Nat.sub_self]
  rw[List.eraseIdx_append_of_length_le (by lia),lA,show i+1-i=1 by lia]
  rfl
 refine q st' S' ?_ ?_
 .rw[<-ay,hpl,<-ay,e]
  simp
 .have at_:∀k,(k<a\/a+na+nb<=k)->(aY st').toList[k]?=l[k]?:=λk hk=>by
   rw[hl']
   conv=>rhs;rw[el]
   rcases hk with hk|hk
   .rw[bO (by lia),bO (by lia)]
   .rw[bu (by lia),bu (by lia),bu (by lia),<-bz,bu (by simp;lia)]
    congr 1
    simp;lia
  unfold pl;rw[hpl,bM,bz];refine Runs.app.mpr #[a,r1.congr λk _ hk=>at_ k<|.inl hk,rfl,by dsimp only[g2];lia,?_,?_]
  .rw[hl',<-lM,List.drop_left' lU,iO];exact sM
  .rw[<-kr];exact r3.congr λk hk _=>at_ k<|.inr hk
theorem vE{lo n:Nat}{xs:Array bP}(hn:lo+n<=xs.size)(u:Up rk xs lo n):Srt (lr rk) ((xs.toList.drop lo).take n):=by
 refine bq.mpr λi j hi hj hij=>?_
 rw[bh,bo,ay]at hi hj;have g:∀k (hk:k<((xs.toList.drop lo).take n).length),((xs.toList.drop lo).take n)[k]=xs[lo+k]'(by rw[bh,bo,ay]at hk;lia):=λk hk=>by
  rw[eG,eI,Array.getElem_toList]
 rw[g,g];have:=u (lo+i) (lo+j) (by lia) (by lia) (by lia)
 rw[Gx (by lia),Gx<|by lia]at this
 exact this
def Ui{P:Array (Nat×Nat×Nat)}{k pw:Nat}:(P.modify k λq=>(q.1,q.2.1,pw)).toList.map g2=P.toList.map g2:=by
 refine bV λi=>?_
 rw[aK,aK,aX,aX,Array.getElem?_modify];split
 .cases P[i]?<;>rfl
 .rfl
theorem sort_ok(O:Od prog w A E s κ In rk)(ia:∀x∈a₀.toList,In x)(nd:(a₀.toList.map rk).Nodup){Q:Unit->bK->Prop}(hk:kindOf τ=κ)(ha:aY τ=a₀)(hp:ba τ = #[])(hf:fR τ=ae)(h1:1<=a₀.size)
  (q:∀st',(aY st').Perm a₀->fR st'=ae->Srt (lr rk) (aY st').toList->Q () st'):lE (aQ prog w) A E s sortRuns' Q τ:=by
 rw[sortRuns'_eq];refine aE<|gq ?_;rw[ha]
 dsimp only
 have S0:Sc κ a₀ τ:=#[hk,by rw[ha],hf]
 refine aE (eF (cn
  (I:=λx c st'=>∃lo,c=(ae,lo)/\x<=lo/\lo<=a₀.size/\Sc κ a₀ st'/\Runs rk (pl st') 0 lo (aY st').toList)
  (Q:=λc st'=>c=(ae,a₀.size)/\Sc κ a₀ st'/\Runs rk (pl st') 0 a₀.size (aY st').toList) ?_ ?_ #[0,rfl,aH _,dB _,S0,by unfold pl;rw[hp];rfl]) ?_)
 .rintro x c st1 _ hx ⟨lo,rfl,g1,g2',S1,R1⟩
  dsimp only
  by_cases c:lo>=a₀.size
  .rw[T9 c]
   obtain rfl:lo=a₀.size:=by lia
   exact aO #[rfl,S1,R1]
  rw[T8 c];have B1:Sb κ a₀ (ba st1) lo ((aY st1).toList.take lo) st1:=#[S1.kd,S1.pm,S1.fl,rfl,rfl];refine aE<|uX O ia nd (by lia) (by lia) B1 λm st2 B2 m1 m2 u2=>?_
  dsimp only
  have done:∀n st3,1<=n->lo+n<=a₀.size->Sc κ a₀ st3->Runs rk (pl st3++[(lo,n)]) 0 (lo+n) (aY st3).toList->∃lo',((ae,lo+n):Option PUnit×Nat)=(ae,lo')/\x+1<=lo'/\lo'<=a₀.size/\Sc κ a₀ (gK st3<|(ba st3).push (lo,n,0))/\Runs rk (pl<|gK st3<|(ba st3).push (lo,n,0)) 0 lo' (aY st3).toList:=λn st3 n1 n2 S3 R3=>
   #[lo+n,rfl,by lia,n2,#[S3.kd,S3.pm,S3.fl],by
    have:pl (gK st3<|(ba st3).push (lo,n,0))=pl st3++[(lo,n)]:=by
     show lQ g2 ((ba st3).push (lo,n,0)).toList=_;rw[eJ,bM];rfl
    rw[this];exact R3]
  by_cases c2:m<oA a₀.size a₀.size 0
  .rw[T9 c2]
   refine aE<|Xp<|aE<|qg (n:=oW (a₀.size-lo)<|oA a₀.size a₀.size 0) O ia nd (by lia) m1 (by lia) B2 u2 λst5 B u=>?_
   have n1:1<=oW (a₀.size-lo) (oA a₀.size a₀.size 0):=by lia
   have n2:lo+oW (a₀.size-lo) (oA a₀.size a₀.size 0)<=a₀.size:=by lia
   simp only[gQ,cP,if_false];generalize oW (a₀.size-lo) (oA a₀.size a₀.size 0)=n at *;clear B2 u2;refine aE<|gq ?_;have S5:Sc κ a₀ st5:=#[B.kd,B.pm,B.fl];have hz:(aY st5).size=a₀.size:=B.size;have R5:Runs rk (pl st5++[(lo,n)]) 0 (lo+n) (aY st5).toList:=Runs.app.mpr #[lo,by
    unfold pl at R1 ⊢;rw[B.pd];refine R1.congr λk _ hk=>?_
    have e:(iu lo _)[k]?=(iu lo _)[k]?:=congrArg (λl=>l[k]?) B.ah
    rw[cS,cS,T9 hk,T9 hk]at e;exact e,rfl,n1,vE (by lia) u,rfl]
   cases hbk:(ba st5).back? with
   |none=>
    exact aE<|fc<|aO<|done n st5 n1 n2 S5 R5
   |some q5=>
    obtain⟨x1,x2,x3⟩:=q5
    dsimp only
    refine aE<|eF (cn (I:=λ_ c st3=>c=(ae,())/\Sc κ a₀ st3/\Runs rk (pl st3++[(lo,n)]) 0 (lo+n) (aY st3).toList) ?_ (λc st3 h=>h) #[rfl,S5,R5]) ?_
    .rintro x c st3 _ _ ⟨rfl,S3,R3⟩
     refine aE<|gq ?_;by_cases c:(ba st3).size>1
     .rw[T9 c,aN<|show(ba st3).size-2<(ba st3).size by lia]
      dsimp only
      split
      .exact aO #[rfl,S3,R3]
      .refine aE (XG O ia nd S3 (by lia) n2 R3 λst4 S4 _ R4=>?_)
       simp only[gQ,cP,if_false];exact aO #[rfl,S4,R4]
     .rw[T8 c]
      exact aO #[rfl,S3,R3]
    .rintro c st3 ⟨rfl,S3,R3⟩
     dsimp only
     exact aE (fc (aE (fc (aO (done n (gK st3 _) n1 n2 #[S3.kd,S3.pm,S3.fl] (by
      show Runs rk (lQ g2 (Array.modify _ _ _).toList++_) _ _ _;rw[Ui];exact R3))))))
  .rw[T8 c2]
   have n2:lo+m<=a₀.size:=by lia
   refine aE<|gq ?_;have S5:Sc κ a₀ st2:=#[B2.kd,B2.pm,B2.fl];have hz:(aY st2).size=a₀.size:=B2.size;have R5:Runs rk (pl st2++[(lo,m)]) 0 (lo+m) (aY st2).toList:=Runs.app.mpr #[lo,by
    unfold pl at R1 ⊢;rw[B2.pd];refine R1.congr λk _ hk=>?_
    have e:(iu lo _)[k]?=(iu lo _)[k]?:=congrArg (λl=>l[k]?) B2.ah
    rw[cS,cS,T9 hk,T9 hk]at e;exact e,rfl,m1,vE (by lia) u2,rfl]
   cases hbk:(ba st2).back? with
   |none=>
    exact aE<|fc<|aO<|done m st2 m1 n2 S5 R5
   |some q5=>
    obtain⟨x1,x2,x3⟩:=q5
    dsimp only
    refine aE<|eF (cn (I:=λ_ c st3=>c=(ae,())/\Sc κ a₀ st3/\Runs rk (pl st3++[(lo,m)]) 0 (lo+m) (aY st3).toList) ?_ (λc st3 h=>h) #[rfl,S5,R5]) ?_
    .rintro x c st3 _ _ ⟨rfl,S3,R3⟩
     refine aE<|gq ?_;by_cases c:(ba st3).size>1
     .rw[T9 c,aN<|show(ba st3).size-2<(ba st3).size by lia]
      dsimp only
      split
      .exact aO #[rfl,S3,R3]
      .refine aE (XG O ia nd S3 (by lia) n2 R3 λst4 S4 _ R4=>?_)
       simp only[gQ,cP,if_false];exact aO #[rfl,S4,R4]
     .rw[T8 c]
      exact aO #[rfl,S3,R3]
    .rintro c st3 ⟨rfl,S3,R3⟩
     dsimp only
     exact aE (fc (aE (fc (aO (done m (gK st3 _) m1 n2 #[S3.kd,S3.pm,S3.fl] (by
      show Runs rk (lQ g2 (Array.modify _ _ _).toList++_) _ _ _;rw[Ui];exact R3))))))
 .rintro c st1 ⟨lo,rfl,g1,g2',S1,R1⟩
  obtain rfl:lo=a₀.size:=by lia
  exact#[rfl,S1,R1]
 .rintro c st1 ⟨rfl,S1,R1⟩
  dsimp only
  have len1:=R1.le;refine aE (eF (cn
   (I:=λx c st2=>c=(ae,())/\Sc κ a₀ st2/\Runs rk (pl st2) 0 a₀.size (aY st2).toList/\(ba st2).size<=max 1 (a₀.size-x))
   (Q:=λc st2=>c=(ae,())/\Sc κ a₀ st2/\Runs rk (pl st2) 0 a₀.size (aY st2).toList/\(ba st2).size<=1) ?_ ?_ #[rfl,S1,R1,by unfold pl at len1;rw[az,ay]at len1;lia]) ?_)
  .rintro x c st2 _ hx ⟨rfl,S2,R2,l2⟩
   refine aE<|gq ?_;by_cases c:(ba st2).size<=1
   .rw[T9 c]
    exact aO #[rfl,S2,R2,c]
   rw[T8 c];generalize hj:(if(Option.any (λx=>ai<|x<((ba st2)[(ba st2).size-2+1]?).elim 0 λx=>x.2.1)<|if(ba st2).size-2>0 then Option.map (λx=>x.2.1) (ba st2)[(ba st2).size-2-1]? else ae)=am then(ba st2).size-2-1 else(ba st2).size-2)=j
   have hj1:j+1<(ba st2).size:=by
    have g:∀b:Bool,(if b=am then(ba st2).size-2-1 else(ba st2).size-2)+1<(ba st2).size:=λb=>by cases b<;>simp<;>lia
    rw[<-hj];exact g _
   refine aE<|XG (R3:=[]) O ia nd S2 hj1 (aH _) (by rw[cE];exact R2) λst3 S3 l3 R3=>?_
   rw[cE]at R3;simp only[gQ,cP,if_false];exact aO #[rfl,S3,R3,by lia]
  .rintro c st2 ⟨rfl,S2,R2,l2⟩
   exact#[rfl,S2,R2,by lia]
  .rintro c st2 ⟨rfl,S2,R2,l2⟩
   dsimp only
   refine aO<|q st2 S2.pm S2.fl ?_;have hz:(aY st2).toList.length=a₀.size:=by rw[ay];exact S2.pm.size_eq
   unfold pl at R2
   match hP:(ba st2).toList,R2 with
   |[],R2=>exact T7 (show 0=a₀.size from R2) (by lia)
   |[(i,n,pw)],R2=>
    obtain⟨_,_,z,e⟩:=R2;have e:0+n=a₀.size:=e;rw[iJ,b9<|by dsimp only[g2];lia]at z
    exact z
   |_::_::_,_=>rw[<-ay,hP]at l2;simp at l2
end
end Tq
namespace Sq
open PySem PySem.W PyProof.Rows
structure Ord(n:Nat)(lt:Nat->Nat->Bool):Prop where
 tot:∀i j,i<n->j<n->i≠j->lt i j=ap->lt j i=am
 asy:∀i j,i<n->j<n->lt i j=am->lt j i=ap
 tr:∀i j k,i<n->j<n->k<n->lt i j=am->lt j k=am->lt i k=am
noncomputable abbrev g(p:Array Nat)(i:Nat):Nat:=p.getD i 0
def Pm(n:Nat)(p:Array Nat):Prop:=p.Perm<|cB<|aM n
theorem Pm.size(h:Pm n p):p.size=n:=by have:=Array.Perm.size_eq h;simpa using this
def ZbU(h:i<p.size):p[i]?=aa (g p i):=by simp[g,h]
def Pm.lt(h:Pm n p)(hi:i<n):g p i<n:=by
 have hs:=h.size;have h1:g p i∈p.toList:=by
  have:p.toList[i]?=aa (g p i):=by rw[aX];exact ZbU (by lia)
  exact c9 this
 have h2:p.toList.Perm (aM n):=by simpa using bF.mp h
 exact aU.mp<|h2.mem_iff.mp h1
def Up(lt:Nat->Nat->Bool)(p:Array Nat)(m:Nat):Prop:=∀i j,i<j->j<m->lt (g p i) (g p j)=am
theorem UL{B:Type}{p q:B->Bool}:∀{l:List B},(∀x∈l,p x=am->q x=am)->(∃x∈l,q x=am/\p x=ap)->l.countP p<l.countP q
 |[],_,#[x,hx,_]=>by cases hx
 |y::l,h,#[x,hx,h1,h2]=>by
  have hm:=List.countP_mono_left λz hz=>h z<|aj _ hz
  rw[nP,nP];rcases aA.mp hx with rfl|hx
  .rw[h1,h2,T9 rfl,T8 aG];lia
  .have:=UL (λz hz=>h z<|aj _ hz) #[x,hx,h1,h2]
   have hy:=h y<|ak ..;cases e:p y with|false=>rw[T8 aG];lia|true=>rw[hy e,T9 rfl];lia
noncomputable def rank(n:Nat)(lt:Nat->Nat->Bool)(i:Nat):Nat:=(aM n).countP λj=>lt j i
def WW{n:Nat}{lt:Nat->Nat->Bool}(O:Ord n lt){i j:Nat}(hi:i<n)(hj:j<n):ai (rank n lt i<rank n lt j)=lt i j:=by
 have irr:∀k,k<n->lt k k=ap:=λk hk=>by
  cases e:lt k k with|false=>rfl|true=>rw[<-e];exact O.asy k k hk hk e
 have up:=λ{a b} ha hb e=>
  UL (λx hx h=>O.tr x a b (aU.mp hx) ha hb h e) #[a,aU.mpr ha,e,irr a ha]
 cases e:lt i j with
 |true=>exact T5<|up hi hj e
 |false=>
  refine T4 λh=>?_
  by_cases z:i=j
  .subst z;exact br _ h
  .exact Nat.lt_asymm h<|up hj hi<|O.tot i j hi hj z e
section
open Classical
noncomputable def idx(vs:List al)(v:al):Nat:=if h:∃i:Nat,vs[i]?=aa v then choose h else 0
def GG(nd:vs.Nodup)(h:vs[i]?=aa v):idx vs v=i:=by
 have hx:∃i:Nat,vs[i]?=aa v:=#[i,h];unfold idx;rw[dif_pos hx];have e:=choose_spec hx;have hl:=(bc.mp e).1;exact(fw hl nd).mp<|e.trans h.symm
end
def Zci{vs:List al}{κ:fA}{lt:Nat->Nat->Bool}(nd:vs.Nodup)(h1:1<=vs.length)(O:Ord vs.length lt)
  (ask:∀i j,i<vs.length->j<vs.length->∀(C:Bool->aw->Prop)(E:al->aw->Prop),C (lt i j) s->aW (aQ prog w) A (keyLt' κ (vs.getD i bf)<|vs.getD j bf) C E s) :
  aW (aQ prog w) A ((sortRuns').run<|oN κ (vs.toArray.zip vs.toArray) #[] 7 ae) (λr s'=>s'=s/\∃p,Pm vs.length p/\Up lt p vs.length/\fR r.2=ae/\(aY r.2).map (·.2)=cB (p.toList.map λi=>vs.getD i bf)) E s:=by
 have hz:(vs.toArray.zip vs.toArray).toList=vs.map λv=>(v,v):=by
  rw[ksk_zip];show pA vs vs=_;clear ask O h1 nd
  induction vs with|nil=>rfl|cons v l ih=>rw[cf,ih];rfl
 let rk:bP->Nat:=λx=>rank vs.length lt<|idx vs x.1
 let In:bP->Prop:=λx=>∃i:Nat,vs[i]?=aa x.1/\x=(x.1,x.1)
 have atI:∀{x:bP},In x->idx vs x.1<vs.length/\vs.getD (idx vs x.1) bf=x.1:=λ{x} #[i,e,_]=>by
  rw[GG nd e];exact#[(bc.mp e).1,by rw[aD,e];rfl]
 have od:Tq.Od prog w A E s κ In rk:=⟨λ{x y τ Q} ix iy hk q=>by
  obtain⟨a1,a2⟩:=atI ix;obtain⟨b1,b2⟩:=atI iy;rw[lt'_eq];refine aE<|gq ?_;rw[hk];have:=ask _ _ a1 b1 (λb s'=>s'=s/\b=lt (idx vs x.1) (idx vs y.1)) (λ_ _=>False) #[rfl,rfl]
  rw[a2,b2]at this;refine aE<|wpS_lift<|ko<|cL this (λb s' h=>?_) λ_ _ h=>h.elim
  obtain⟨rfl,rfl⟩:=h;refine#[rfl,aO ?_];rw[<-WW O a1 b1];exact q⟩
 have ia:∀x∈(vs.toArray.zip vs.toArray).toList,In x:=λx hx=>by
  rw[hz]at hx;obtain⟨v,hv,rfl⟩:=aR.mp hx;obtain⟨i,hi,e⟩:=lP.mp hv;exact#[i,by rw[af hi,e],rfl]
 have rks:(vs.toArray.zip vs.toArray).toList.map rk=(aM vs.length).map (rank vs.length lt):=by
  rw[hz,bX];refine bV λi=>?_
  rw[aK,aK];by_cases h:i<vs.length
  .rw[cJ h,af h]
   exact congrArg (λk=>aa<|rank vs.length lt k)<|GG nd<|af h
  .rw[bn (by lia),bn (by rw[bE];lia)];rfl
 have ndr:((vs.toArray.zip vs.toArray).toList.map rk).Nodup:=by
  rw[rks];refine cy.mpr<|eO ?_ kH;intro a b ha hb ne e;have ha:=aU.mp ha;have hb:=aU.mp hb;have h1:=WW O ha hb;have h2:=WW O hb ha;rw[e,T4<|br _]at h1 h2;exact T7 (O.tot a b ha hb ne h1.symm) (by rw[<-h2];simp)
 have sz:(vs.toArray.zip vs.toArray).size=vs.length:=by rw[<-ay,hz,az]
 refine Tq.sort_ok (Q:=λ_ st'=>∃p,Pm vs.length p/\Up lt p vs.length/\fR st'=ae/\(aY st').map (·.2)=cB (p.toList.map λi=>vs.getD i bf)) od ia ndr rfl rfl rfl rfl (by lia) λst' pm fl so=>?_
 have pl:=bF.mp pm;have inS:=λx hx=>ia x<|pl.mem_iff.mp hx
 have pp:((aY st').toList.map λx=>idx vs x.1).Perm (aM vs.length):=by
  refine(pl.map _).trans<|hU ?_;rw[hz,bX];refine bV λi=>?_
  rw[aK];by_cases h:i<vs.length
  .rw[cJ h,af h]
   exact congrArg aa<|GG nd<|af h
  .rw[bn (by lia),bn (by rw[bE];lia)];rfl
 have sl:(aY st').toList.length=vs.length:=by rw[pl.length_eq,hz,az]
 refine#[cB<|(aY st').toList.map λx=>idx vs x.1,bF.mpr pp,λi j hij hj=>?_,fl,?_]
 .have gk:∀k (hk:k<(aY st').toList.length),g (cB<|(aY st').toList.map λx=>idx vs x.1) k=idx vs ((aY st').toList[k]).1:=λk hk=>by
   show((cB<|(aY st').toList.map λx=>idx vs x.1).getD k 0)=_
   rw[dg,List.getElem?_toArray,aK,af hk];rfl
  rw[gk i (by lia),gk j (by lia)]
  have:=bq.mp so i j (by lia) (by lia) hij
  rw[<-WW O (atI<|inS _<|aV _).1 (atI<|inS _<|aV _).1];exact T5 this
 .apply nQ.mp
  rw[nR,bX];refine cK λx hx=>?_
  have hi:=inS x hx;show x.2=vs.getD (idx vs x.1) bf;rw[(atI hi).2];obtain⟨_,_,e⟩:=hi;rw[e]
open PySem.Calls
def Lat(h h':bY):Prop:=∀b o,h.get? b=aa o->h'.get? b=aa o
structure Asks(prog:bC)(w:bN)(A:cD)(h:bY)(vs:List al)(κ:fA)(lt:Nat->Nat->Bool):Prop where
 kind:2<=vs.length->∀(s':aw)(E:al->aw->Prop)(Q:fA->aw->Prop),Lat h s'.heap->Q κ s'->aW (aQ prog w) A (keyKind' vs.toArray) Q E s'
 nd:vs.Nodup
 cmp:∀i j,i<vs.length->j<vs.length->∀(s':aw)(C:Bool->aw->Prop)(E:al->aw->Prop),Lat h s'.heap->C (lt i j) s'->aW (aQ prog w) A (keyLt' κ (vs.getD i bf)<|vs.getD j bf) C E s'
noncomputable def ltR(b:Bool)(n:Nat)(lt:Nat->Nat->Bool):Nat->Nat->Bool:=λi j=>if b=am then lt (n-1-i) (n-1-j)else lt i j
def jG(O:Ord n lt):Ord n (ltR b n lt):=by
 cases b
 .exact O
 .exact#[λi j hi hj ne h=>O.tot _ _ (by lia) (by lia) (by lia) h,λi j hi hj h=>O.asy _ _ (by lia) (by lia) h,λi j k hi hj hk h1 h2=>O.tr _ _ _ (by lia) (by lia) (by lia) h1 h2]
def Jx(hi:i<vs.length):(kt b vs).getD i bf=vs.getD (if b=am then vs.length-1-i else i) bf:=by
 cases b
 .rfl
 .show vs.reverse.getD i bf=vs.getD (vs.length-1-i) bf
  simp only[aD];rw[lB hi]
def xB(vs:List al):(aM vs.length).map (λi=>vs.getD i bf)=vs:=by
 apply bV
 intro i;rw[aK];by_cases h:i<vs.length
 .rw[cJ h];simp[h]
 .simp[fG h]
def list_sort_rev{P:PySem.Fin->aw->Prop}(ho:s.heap.get? a=aa (eW "list" vs.toArray n))(h64:vs.length<=100000)
  (h00:∀b o,h0.get? b=aa o->b≠a/\s.heap.get? b=aa o)(O:Ord vs.length lt)(K:Asks prog w A h0 vs κ lt)
  (h:∀p,Pm vs.length p->Up (ltR b vs.length lt) p vs.length->P (.done<|.ret .none) {s with heap:=sortedHeap s.heap a vs (cB<|kt b<|p.toList.map λi=>(kt b vs).getD i bf)}) :
  aW (aQ prog w) A (dE.«list.sort» #[[.ref a],[(k5 "reverse",.bool b)]]) P E s:=by
 rw[iP];have ha:=aF ho;refine ab<|listItems_at ho rfl ?_;refine ab<|mn ho rfl ?_;obtain⟨e1,ho1⟩:∃e1,(s.heap.update a<|d3 λ_=>#[]).get? a=aa (eW "list" #[] e1):=#[_,get?_update_seq ho λ_=>#[]]
 refine ab<|n5 ho1 rfl ?_;refine ab<|wpAny_newTuple ?_;refine ab<|mr ?_;refine bR ?_;have ho6:(((s.heap.update a<|d3 λ_=>#[]).push<|eW "tuple" vs.toArray 0).push<|eW "list" #[] 0).get? a=aa (eW "list" #[] e1):=by
  rw[gu _ _ _ (by rw[oP,kI];exact bv<|dr ha),gu _ _ _ (by rw[kI];exact bv ha)]
  exact ho1
 have lat:Lat h0 (((s.heap.update a<|d3 λ_=>#[]).push<|eW "tuple" vs.toArray 0).push<|eW "list" #[] 0):=λb o e=>by
  obtain⟨nb,e⟩:=h00 b o e;exact aq _<|aq _ (by rw[l8 _ _ _ _ nb];exact e)
 generalize hs':((s.heap.update a<|d3 λ_=>#[]).push<|eW "tuple" vs.toArray 0).push (eW "list" #[] 0)=h1 at ho6 lat ⊢
 dsimp only
 have step:∀t:nA PySem.Fin,aW (aQ prog w) A t P E {s with heap:=h1}->aW (aQ prog w) A (if b=am then(do let _ <-nC "list.sort.reverse";t)else t) P E {s with heap:=h1}:=by
  intro t ht;split
  .exact ab<|fb ht
  .exact ht
 refine step _ ?_;have hrl:=oB b vs;have fin:∀out:List al,out.length=vs.length->(∃p,Pm vs.length p/\Up (ltR b vs.length lt) p vs.length/\out=p.toList.map λi=>(kt b vs).getD i bf)->
   P (.done<|.ret .none) {s with heap:=h1.update a (d3 λ_=>cB<|kt b out)}:=by
  rintro out _ ⟨p,h1',h2',rfl⟩
  subst hs';exact h p h1' h2'
 by_cases h2:vs.toArray.size<2
 .rw[T9 h2,T9 h2]
  refine ab<|au ?_;rw[StateT.run_pure];refine ab<|au ?_
  dsimp only
  have hz:((aY<|oN general' (if b=am then(vs.toArray.zip vs.toArray).reverse else vs.toArray.zip vs.toArray) #[] 7 ae).map (·.2))=cB (kt b vs):=by
   rw[kat_pairs b rfl];apply nQ.mp;rw[nR,ksk_zip];exact List.map_snd_zip<|aH _
  rw[hz];refine ab<|n5 ho6 rfl ?_;rw[kat_outs];refine ab<|mn ho6 rfl ?_ (hsz2:=by rw[ax];(try rw[oB]);(try rw[oB]);rw[cI];lia)
  simp only[bne_self_eq_false,cP,if_false];refine au<|fin (kt b vs) (oB b vs) #[cB<|aM vs.length,Array.Perm.refl _,λi j a1 a2=>by rw[ax]at h2;lia,?_]
  rw[<-hrl];exact(xB _).symm
 .rw[T8 h2,T8 h2]
  have l2:2<=vs.length:=by rw[ax]at h2;lia
  refine ab<|K.kind l2 _ _ _ lat ?_;rw[kat_pairs b rfl];have ndR:(kt b vs).Nodup:=by
   cases b
   .exact K.nd
   .exact(du vs).nodup_iff.mpr K.nd
  refine ab (cL (Zci ndR (by lia) (by rw[hrl];exact jG (b:=b) O) (by
    rw[hrl];intro i j hi hj C E hC;rw[Jx hi,Jx hj];cases b
    .exact K.cmp i j hi hj _ _ _ lat hC
    .exact K.cmp _ _ (by simp only[if_true];lia) (by simp only[if_true];lia) _ _ _ lat hC)) ?_ λ_ _ x=>x)
  rintro ⟨⟨⟩,st'⟩ s' ⟨rfl,p,e2,e3,hf,har⟩
  rw[hrl]at e2 e3
  dsimp only
  rw[har];have hl:(p.toList.map λi=>(kt b vs).getD i bf).length=vs.length:=by rw[az,ay,e2.size]
  refine ab<|n5 ho6 rfl ?_;rw[kat_outs];refine ab<|mn ho6 rfl ?_ (hsz2:=by rw[ax];(try rw[oB]);rw[hl,cI];lia)
  rw[hf];simp only[bne_self_eq_false,cP,if_false];exact au<|fin _ hl #[p,e2,e3,rfl]
def GP{l:aI}{vs:List al}{b:Bool}{κ:fA}{lt:Nat->Nat->Bool}{Q:al->aw->Prop}(hl:s.heap.IsList l vs.toArray)(h64:vs.length<=100000)(O:Ord vs.length lt)(K:Asks prog w A.in1.in1 s.heap vs κ lt)
  (h:∀p,Pm vs.length p->Up (ltR b vs.length lt) p vs.length->Q (.ref<|s.heap.objs.size+1) {s with heap:=sortedAll s.heap vs (cB<|kt b<|p.toList.map λi=>(kt b vs).getD i bf)}) :
  aW (aQ prog w) A (call (.builtin "sorted") [.ref l] [(k5 "reverse",.bool b)]) Q E s:=by
 refine call_function_entry_kw kind_sorted plain_sorted entry_sorted (args_sorted_rev _ _) ?_;unfold dE.«sorted»;refine ab (m:=checkCount "sorted" 1 1 _)<|au ?_;refine ab<|collect_list hl ?_;refine ab<|mr ?_;have hsz:((s.heap.push<|eW "list" #[] 0).update s.heap.objs.size (d3 (·++vs.toArray))).objs.size=s.heap.objs.size+1:=by
  rw[kI,oP]
 have hoL:(((s.heap.push<|eW "list" #[] 0).update s.heap.objs.size (d3 (·++vs.toArray))).push<|eW "list" vs.toArray 0).get? (s.heap.objs.size+1)=aa (eW "list" vs.toArray 0):=by
  rw[<-hsz];exact aJ _ rfl
 show aW _ _ _ _ _ {s with heap:=((s.heap.push<|eW "list" #[] 0).update s.heap.objs.size (d3 (·++vs.toArray))).push (eW "list" vs.toArray 0)}
 rw[hsz];refine ab<|bR<|wpAny_call_entry_kw slot_list_sort #[_,hoL,rfl] entry_list_sort (list_sort_rev (h0:=s.heap) hoL h64 (λb o e=>?_) O K  λp a1 a2=>#[_,rfl,?_])<|args_list_sort_rev _ _
 .have hlt:b<s.heap.objs.size:=aF e
  refine#[bv<|dr hlt,?_];rw[gu _ _ _ (by rw[hsz];exact bv<|dr hlt),l8 _ _ _ _<|bv hlt,gu _ _ _<|bv hlt]
  exact e
 .exact au #[_,rfl,h p a1 a2]
def xI(a:aI):dE.«list.sort» #[[.ref a],[]]=dE.«list.sort» #[[.ref a],[(k5 "reverse",.bool ap)]]:=by
 rw[PyProof.Rows.list_sort_plain,iP];rfl
end Sq
namespace Sd
open PySem PySem.Spec PyProof.Rows L2
open Ev (E Sm Fn Bop Cop Ty Bf Mf)
section
variable{X:Cx}{pq:List (aI×fD)}{Z:L2.St}{H:Hp}{s:aw}{A:cD}{E:al->aw->Prop}{b:Bool}{Q:al->aw->Prop}
def zk(I:Inv X pq Z H s)(rx:ZA x u)(ty:TyOf X.K H x t)(htp:s.heap.get? tp=aa #[.type "tuple",dd,.seq its.toArray n,sl])
  (e:d8 X.K t its=aa b)(h:∀tk,Q (.bool b) {s with toks:=tk}):aW (aQ X.prog X.w) A (call (.builtin "isinstance") [u,.ref tp]) Q E s:=by
 cases ty with
 |non=>cases(show u=bf from rx);exact cU mT I.kIn cY htp e (λz=>nomatch z) h
 |bl y=>cases(rx);exact cU mU I.kIn cY htp e (λz=>nomatch z) h
 |int i=>obtain⟨t,q⟩:=(rx);cases q;exact cU nE I.kIn cY htp e (λz=>nomatch z) h
 |str y=>obtain⟨t,q⟩:=(rx);cases q;exact cU nF I.kIn cY htp e (λz=>nomatch z) h
 |flt y=>obtain⟨t,q⟩:=(rx);cases q;exact cU mG I.kIn cY htp e (λz=>nomatch z) h
 |@lst a xs ea=>
  cases(rx);obtain⟨_,_,n,_,h1⟩:=(I.hok a _ ea)
  exact cU gc I.kIn #[_,h1,rfl] htp e (λz=>nomatch z) h
 |@frz a ob xs ea=>
  cases(rx);obtain⟨_,_,_,n,_,h1⟩:=(I.hok a _ ea)
  exact cU gc I.kIn #[_,h1,rfl] htp e (λz=>nomatch z) h
 |@tup a xs ea=>
  cases(rx);obtain⟨_,_,_,p⟩:=(I.hok a _ ea)
  obtain⟨o,h1,h2,_⟩:=p;exact cU mH I.kIn #[o,h1,h2] htp e (λz=>nomatch z) h
 |@dK a kvs ea=>
  cases(show u=bT a from rx);obtain⟨_,_,vs,_,p⟩:=(I.hok a _ ea)
  obtain⟨o,es,ep,h1,h2,_⟩:=p;exact cU gd I.kIn #[o,h1,h2.1] htp e (λz=>nomatch z) h
 |@dT a kvs ea=>
  cases(show u=bT a from rx);obtain⟨_,_,xs,_,o,es,ep,h1,h2,_⟩:=(I.hok a _ ea)
  exact cU gd I.kIn #[o,h1,h2.1] htp e (λz=>nomatch z) h
 |@ins a C dx fs ea cl ha hn htk hm=>
  cases(show u=bT a from rx);obtain⟨mA,O,_⟩:=zR I.hok ea
  obtain⟨od,J,_⟩:=O.look;exact cU (nG (cl.get _) cl.hd ha hn htk hm) I.kIn J htp e (λz=>nomatch z) h
end
section
variable{X:Cx}{xw:Nat->Hp->Prop}{C:Calls}{e a b c:Expr}{i j k:E}{pos p p' p2 p3:iw}
def xb(T U:String):ZJ X (.builtin "isinstance") (λvs H Q=>∃v tv n q,vs=[v,.ref q]/\H q=aa (.tup [.ty T,.ty U])/\TyOf X.K H v tv/\d8 X.K tv [.type T,.type U]=aa n/\Q (.bl n) H):=by
 intro pq s Z H vs us Q I r h;obtain⟨v,tv,n,q,rfl,hq,ty,e,qq⟩:=h;obtain⟨u,w',rfl,r1,r2⟩:=Gz r;cases r2;obtain⟨its,rv,⟨o,ho,hc,m,hd⟩,_⟩:=I.tuple<|SqT.of hq;obtain⟨cls,dd,data,sl⟩:=o;simp only at hc hd;subst hc hd;obtain⟨z1,z2,rfl,q1,q2⟩:=Gz rv;cases q1;cases q2;exact zk I r1 ty ho e λtk=>#[.bl n,H,I.tok tk,rfl,qq]
def TyOf.later{K:ao}{H:Hp}{v:V}{tv:al}{q:aI}{o:HO}(h:TyOf K H v tv)(hq:H q=ae):TyOf K (upd H q o) v tv:=by
 cases h with|non=>exact .non|bl b=>exact .bl b|int b=>exact .int b|str b=>exact .str b|flt b=>exact .flt b|lst e=>exact .lst (by rw[Zp<|ZF e hq];exact e)|frz e=>exact .frz (by rw[Zp<|ZF e hq];exact e)|tup e=>exact .tup (by rw[Zp<|ZF e hq];exact e)|dK e=>exact .dK (by rw[Zp<|ZF e hq];exact e)|dT e=>exact .dT (by rw[Zp<|ZF e hq];exact e)|ins e a1 a2 a3 a4 a5=>exact .ins (by rw[Zp<|ZF e hq];exact e) a1 a2 a3 a4 a5
def TyOf.uniq{K:ao}{H:Hp}{v:V}{t1 t2:al}(h1:TyOf K H v t1)(h2:TyOf K H v t2):t1=t2:=by
 cases h1<;>cases h2<;>first|rfl|simp_all
theorem j8{T U:bG}{t u:Ty}{k0:Nat}{p4:iw}(ht:∀m,t≠.cls m)(hu:∀m,u≠.cls m)(hm:X.mg "isinstance" = ae)(hmT:X.mg T=ae)(hmU:X.mg U=ae)(ha:CE X xw C a i)(hg:Gl X "isinstance")(hgT:Gl X T)(hgU:Gl X U)(hvT:cZ T=aa (.type<|ZC t))(hvU:cZ U=aa (.type<|ZC u))(hnT:T≠"__name__")(hdT:(T == ("__debug__" : bG))=ap)(hnU:U≠"__name__")(hdU:(U == ("__debug__" : bG))=ap)
  (hs0:aL [.Name T p2,.Name U p3] X.env=(ap,c8 (.Name T p2) X.env)::aL [.Name U p3] X.env)(hs00:aL [.Name U p3] X.env=(ap,c8 (.Name U p3) X.env)::aL [] X.env)
  (hs1:aL [a,.Tuple [.Name T p2,.Name U p3] k0 p4] X.env=(ap,c8 a X.env)::aL [.Tuple [.Name T p2,.Name U p3] k0 p4] X.env)(hs2:aL [.Tuple [.Name T p2,.Name U p3] k0 p4] X.env=(ap,c8 (.Tuple [.Name T p2,.Name U p3] k0 p4) X.env)::aL [] X.env)(hpl:(fN pos<|aL [.Tuple [.Name T p2,.Name U p3] k0 p4] X.env).any (·.1)=ap) :
  CE X xw C (.Call (.Name "isinstance" p) [a,.Tuple [.Name T p2,.Name U p3] k0 p4] [] pos) (.isi i [t,u]):=.mk <|
 PE.imp (VY (xb (ZC t)<|ZC u) hg hm (by rfl) (YY ha.h (YY (v3<|YY (Qy (v:=.ty<|ZC t) hgT hmT hvT rfl hnT hdT) (YY (Qy (v:=.ty<|ZC u) hgU hmU hvU rfl hnU hdU) QL hs00) hs0) QL hs2) hs1) (by decide) (by decide) hs1 hpl)<|by
  rintro Z H Q ⟨O,l,S,st,lr,h⟩;refine#[O,l,S,st,lr,End.bind (show End X.K xw Rep O H Q ((Pv.pv C i l S).bind _)from h) λx S1 ρ1 H1 v f1 st1 r1 h1=>#[by show 2<=bp;rw[cI];lia,λq hq=>?_]]
  obtain⟨n,hn,h2⟩:=End.ob h1;have st2:=st1.fresh (o:=.tup [.ty<|ZC t,.ty<|ZC u]) hq;have f2:=ZN (O:=ρ1) (o:=.tup [.ty<|ZC t,.ty<|ZC u]) hq;have fin:∀tv,TyOf X.K H1 v tv->d8 X.K tv [.type<|ZC t,.type<|ZC u]=aa n->_:=λtv ty e=>(#[v,tv,n,q,rfl,ZK,TyOf.later ty hq,e,h2 ρ1 _ _ f2 st2<|ZZ n]:∃v' tv n q',[v,V.ref q]=[v',.ref q']/\upd H1 q (.tup [.ty<|ZC t,.ty<|ZC u]) q'=aa (.tup [.ty<|ZC t,.ty<|ZC u])/\TyOf X.K (upd H1 q<|.tup [.ty<|ZC t,.ty<|ZC u]) v' tv/\d8 X.K tv [.type<|ZC t,.type<|ZC u]=aa n/\Q (.bl n) (upd H1 q<|.tup [.ty<|ZC t,.ty<|ZC u]))
  unfold Pv.Z7 at hn;cases q1:Pv.Y8 x t with
  |none=>rw[q1]at hn;cases hn
  |some m=>
   rw[q1]at hn;obtain⟨tv,ty,e⟩:=G8 r1 ht q1;cases m with
   |true=>
    have hn':n=am:=(ag hn).symm;exact fin tv ty (by unfold d8;rw[e,hn'])
   |false=>
    have hn1:(match Pv.Y8 x u with
     |some am=>aa am
     |some ap=>Pv.Z7 x []
     |none=>ae)=aa n:=hn
    cases q2:Pv.Y8 x u with
    |none=>rw[q2]at hn1;cases hn1
    |some m2=>
     rw[q2]at hn1;obtain⟨tv2,ty2,e2⟩:=G8 r1 hu q2;have et:tv2=tv:=TyOf.uniq ty2 ty;subst et;refine fin tv2 ty ?_;unfold d8;rw[e];show d8 X.K tv2 [.type<|ZC u]=aa n;unfold d8;rw[e2];cases m2 with|true=>exact hn1|false=>exact hn1
end
end Sd
namespace Sd
open Ev (ltI YZ Zn)
theorem W0:∀{x y:List Int},x≠y->ltI x y=ap->ltI y x=am
 |[],[],h,_=>T7 rfl h
 |[],_::_,_,h=>by cases h
 |_::_,[],_,_=>rfl
 |a::x,b::y,h,e=>by
  unfold ltI at e ⊢;by_cases c:a=b
  .subst c
   rw[T9 rfl]at e ⊢;exact W0 (λz=>h<|by rw[z]) e
  .rw[T8 c]at e
   rw[T8<|Ne.symm c];have:=of_decide_eq_false e;exact T5 (by omega)
theorem YC:∀{x y:List Int},ltI x y=am->ltI y x=ap
 |[],[],h=>by cases h
 |[],_::_,_=>rfl
 |_::_,[],h=>by cases h
 |a::x,b::y,e=>by
  unfold ltI at e ⊢;by_cases c:a=b
  .subst c
   rw[T9 rfl]at e ⊢;exact YC e
  .rw[T8 c]at e
   rw[T8<|Ne.symm c];have:=T6 e;exact T4 (by omega)
theorem Q7:∀{x y z:List Int},ltI x y=am->ltI y z=am->ltI x z=am
 |[],[],_,h,_=>by cases h
 |_::_,[],_,h,_=>by cases h
 |_,_::_,[],_,h=>by cases h
 |[],_::_,_::_,_,_=>rfl
 |a::x,b::y,c::z,e,f=>by
  unfold ltI at e f ⊢;by_cases h1:a=b
  .subst h1
   rw[T9 rfl]at e;by_cases h2:a=c
   .subst h2
    rw[T9 rfl]at f ⊢;exact Q7 e f
   .rw[T8 h2]at f ⊢;exact f
  .rw[T8 h1]at e
   have e':=T6 e;by_cases h2:b=c
   .subst h2
    rw[T8 h1];exact e
   .rw[T8 h2]at f
    have f':=T6 f;rw[T8 (by omega)]
    exact T5 (by omega)
theorem Wi(x:List Int):∀l:List (List Int),(YZ x l).Perm (x::l)
 |[]=>cu _
 |y::r=>by
  unfold YZ;split
  .exact cu _
  .exact((Wi x r).cons y).trans<|iQ x y r
theorem ZG:∀l:List (List Int),(Zn l).Perm l
 |[]=>cu _
 |x::r=>(Wi x<|Zn r).trans<|(ZG r).cons x
theorem WA(x:List Int):∀{l:List (List Int)},(∀y∈l,x≠y)->l.Pairwise (λa b=>ltI a b=am)->(YZ x l).Pairwise (λa b=>ltI a b=am)
 |[],_,_=>by exact f8 ..
 |y::r,hn,h=>by
  rw[aZ]at h;unfold YZ;split
  .rename_i c
   rw[aZ,aZ];refine#[λz hz=>?_,h]
   rcases aA.mp hz with rfl|hz
   .exact c
   .exact Q7 c<|h.1 z hz
  .rename_i c
   rw[aZ];refine#[λz hz=>?_,WA x (λy hy=>hn y<|aj _ hy) h.2]
   rcases aA.mp ((Wi x r).mem_iff.mp hz)with rfl|hz
   .exact W0 (hn y<|ak ..) (by simpa using c)
   .exact h.1 z hz
theorem ZY:∀{l:List (List Int)},l.Nodup->(Zn l).Pairwise (λa b=>ltI a b=am)
 |[],_=>gj
 |x::r,h=>by
  rw[dA]at h;exact WA x (λy hy e=>h.1<|by rw[e];exact(ZG r).mem_iff.mp hy)<|ZY h.2
theorem Xi:∀{a b:List (List Int)},a.Perm b->a.Pairwise (λx y=>ltI x y=am)->b.Pairwise (λx y=>ltI x y=am)->a=b
 |[],b,p,_,_=>(nS p)
 |x::a,[],p,_,_=>by have:=p.length_eq;simp at this
 |x::a,y::b,p,ha,hb=>by
  rw[aZ]at ha hb;have e:x=y:=by
   rcases aA.mp (p.mem_iff.mp<|ak ..)with h|h
   .exact h
   .rcases aA.mp (p.mem_iff.mpr (ak))with h2|h2
    .exact h2.symm
    .have z1:=hb.1 x h
     have z2:=ha.1 y h2;rw[YC z1]at z2;cases z2
  subst e;rw[Xi (oQ x |>.mp p) ha.2 hb.2]
open PySem PySem.Spec PyProof.Rows L2
open Ev (E Sm Fn Bop Cop Ty Bf Mf ZX J4 XB ltP YD)
noncomputable def Ue(fin:Bool):List Int->List Int->Bool
 |[],_=>fin
 |_::_,[]=>fin
 |a::x,b::y=>if a=b then Ue fin x y else ai (a<b)
theorem QU:∀(x y:List Int),Ue (ai<|x.length<y.length) x y=ltI x y
 |[],[]=>rfl
 |[],_::_=>by unfold Ue ltI;simp
 |_::_,[]=>by unfold Ue ltI;simp
 |a::x,b::y=>by
  unfold Ue ltI;have:ai ((a::x).length<(b::y).length)=ai (x.length<y.length):=by simp
  rw[this,QU x y]
theorem Jq{C:Bool->aw->Prop}:∀{x y:List Int}{u v:List al}{i:Nat},Vals (x.map V.int) u->Vals (y.map V.int) v->C (Ue fin x y) s->PySem.W.KatLex prog w A b fin C (u.zip v) i s
 |[],_,_,_,_,.nil,_,h=>by rw[ke];exact og h
 |_::_,[],_,_,_,_,.nil,h=>by rw[iR];exact og h
 |a::x,c::y,_,_,i,.cons ra ta,.cons rb tb,h=>by
  obtain⟨t,rfl⟩:=ra;obtain⟨t',rfl⟩:=rb;rw[cf];refine PySem.W.kat_cons<|kA ?_;unfold Ue at h;by_cases e:a=c
  .rw[T9 e]at h
   rw[beq_iff_eq.mpr e];exact PySem.W.kat_yes<|Jq ta tb h
  .rw[T8 e]at h
   rw[beq_eq_false_iff_ne.mpr e];refine PySem.W.kat_no ?_;cases q:(b&&i == 0)with|true=>exact oneLt_int h|false=>exact PySem.W.kat_one _ _<|lt_int h
inductive RowsAt(h:bY):List (List Int)->List al->Prop where
 |nil:RowsAt h [] []
 |cons {r:List Int} {rs:List (List Int)} {vs:List al} {a:aI} {o:fD} {us:List al} {m:Nat} (ho:h.get? a=aa o) (hc:o.cls=.type "tuple") (hd:o.data=.seq us.toArray m) (hv:Vals (r.map V.int) us) (t:RowsAt h rs vs):RowsAt h (r::rs) (.ref a::vs)
theorem W9:∀{ks:List D}{k:List Int},Pv.intsV ks=aa k->ks=k.map Pv.V.int
 |[],k,h=>by cases h;rfl
 |d::ks,k,h=>by
  obtain⟨n,r,rfl,e,rfl⟩:=Ut h;rw[W9 e];rfl
def xM(h:Pv.ZR (d::ds)=aa rs):∃a b,d=Pv.Zb a/\Pv.ZR ds=aa b/\rs=a::b:=by
 cases d with
 |tup x=>
  have h:(match Pv.intsV x,Pv.ZR ds with
   |some a,aa b=>aa (a::b)
   |_,_=>ae)=aa rs:=h
  cases q1:Pv.intsV x with
  |none=>rw[q1]at h;cases h
  |some a=>
   cases q2:Pv.ZR ds with
   |none=>rw[q1,q2]at h;cases h
   |some b=>
    rw[q1,q2]at h;exact#[a,b,congrArg Pv.V.tup<|W9 q1,rfl,(ag h).symm]
 |_=>exact Ev.nos h
theorem Reps.intsV:∀{r:List Int}{xs:List V},Reps O H (r.map Pv.V.int) xs->xs=r.map V.int
 |[],xs,h=>by exact h
 |n::r,xs,h=>by
  have h':=h;obtain⟨v,vs,rfl,a,b⟩:=h';rw[a.int',Reps.intsV b];rfl
theorem XX(I:Inv X pq Z H s):∀{ds:List D}{rs:List (List Int)}{xs:List V}{its:List al},Pv.ZR ds=aa rs->Reps O H ds xs->Vals xs its->RowsAt s.heap rs its/\ds=rs.map Pv.Zb
 |[],rs,xs,its,h,r,v=>by
  subst r;cases v;cases h;exact#[.nil,rfl]
 |d::ds,rs,xs,its,h,r,v=>by
  obtain⟨x,xs',rfl,r1,r2⟩:=r;cases v with
  |cons v1 v2=>
   obtain⟨a,b,rfl,q2,rfl⟩:=xM h;obtain⟨t,e⟩:=XX I q2 r2 v2;obtain⟨p,ys,rfl,hp,ry⟩:=r1.tup';have ey:=Reps.intsV ry;subst ey;cases v1;obtain⟨us,rv,⟨o,ho,hc,m,hd⟩,_⟩:=I.tuple<|SqT.of hp;exact#[.cons ho hc hd rv t,by rw[e];rfl]
theorem RowsAt.length{h:bY}:∀{rs:List (List Int)}{vs:List al},RowsAt h rs vs->rs.length=vs.length
 |_,_,.nil=>rfl
 |_,_,.cons _ _ _ _ t=>by rw[aS,aS,RowsAt.length t]
theorem RowsAt.at{h:bY}:∀{rs:List (List Int)}{vs:List al}(i:Nat),RowsAt h rs vs->i<vs.length->∃a o us m,vs.getD i bf=.ref a/\h.get? a=aa o/\o.data=.seq us.toArray m/\Vals ((rs.getD i []).map V.int) us
 |_,_,_,.nil,hi=>by simp at hi
 |_,_,0,.cons ho hc hd hv t,_=>#[_,_,_,_,rfl,ho,hd,hv]
 |_,_,i+1,.cons ho hc hd hv t,hi=>by
  obtain⟨a,o,us,m,e1,e2,e3,e4⟩:=RowsAt.at i t (by simpa using hi)
  exact#[a,o,us,m,by simpa using e1,e2,e3,by simpa using e4]
theorem RowsAt.tups(k:Sq.Lat h h'):∀{rs:List (List Int)}{vs:List al},RowsAt h rs vs->(∀r∈rs,r≠[])->∃fs,PySem.W.KatTups h' vs fs/\fs.length=vs.length/\∀v∈fs,∃n t,v=kz n t
 |_,_,.nil,_=>#[[],.nil,rfl,λv hv=>by cases hv]
 |_,_,.cons (r:=r) ho hc hd hv t,hn=>by
  obtain⟨fs,t1,t2,t3⟩:=RowsAt.tups k t λr hr=>hn r<|aj _ hr
  have hr:=hn r<|ak ..;cases r with
  |nil=>exact T7 rfl hr
  |cons n r=>
   obtain⟨u,g,rel⟩:=hv.get (i:=0) rfl;refine#[u::fs,.cons (k _ _ ho) hc hd (by simpa using g) t1,by rw[aS,aS,t2],λv hv=>?_]
   rcases aA.mp hv with rfl|hv
   .obtain⟨tk,e⟩:=rel
    exact#[n,tk,e]
   .exact t3 v hv
theorem Vk:∀{x y:List Int}{us:List al},Vals (x.map V.int) us->Vals (y.map V.int) us->x=y
 |[],[],_,_,_=>rfl
 |[],_::_,_,.nil,h=>by cases h
 |_::_,[],_,h,.nil=>by cases h
 |a::x,b::y,_,.cons r t,.cons r' t'=>by
  obtain⟨k,rfl⟩:=r;obtain⟨k',e⟩:=r';cases e;rw[Vk t t']
def wI{B:Type}{df:B}{rs:List B}{vs:List al}(hl:rs.length=vs.length)(nd:rs.Nodup)(h:∀i j,i<vs.length->j<vs.length->vs.getD i bf=vs.getD j bf->rs.getD i df=rs.getD j df):vs.Nodup:=by
 refine bq.mpr λi j hi hj hij e=>?_
 have:=h i j hi hj (by simp[hi,hj,e])
 simp only[aD,af (show i<rs.length by lia),af (show j<rs.length by lia)]at this
 exact bq.mp nd i j (by lia) (by lia) hij this
def UT{prog:bC}{w:bN}{A:cD}{h:bY}{rs:List (List Int)}{vs:List al}(R:RowsAt h rs vs)(nd:rs.Nodup)(hn:∀r∈rs,r≠[]):Sq.Asks prog w A h vs (tuples' am) (λi j=>ltI (rs.getD i [])<|rs.getD j []):=by
 refine#[λh2 s' E Q k q=>?_,wI (df:=[]) R.length nd λi j hi hj e=>?_,λi j hi hj s' C E k q=>?_]
 .obtain⟨fs,t1,t2,t3⟩:=R.tups k hn
  exact PySem.W.kat_kind (T:=.type "int") t1 (by lia) (λv hv=>by obtain⟨n,t,rfl⟩:=t3 v hv;exact PySem.W.Looks.of_pure rfl) rfl q
 .obtain⟨a,o,us,m,e1,e2,e3,e4⟩:=R.at i hi
  obtain⟨a',o',us',m',f1,f2,f3,f4⟩:=R.at j hj;rw[e1,f1]at e;cases e;rw[e2]at f2;cases f2;rw[e3]at f3;cases f3;exact Vk e4 f4
 .obtain⟨a,o,us,m,e1,e2,e3,e4⟩:=R.at i hi
  obtain⟨a',o',us',m',f1,f2,f3,f4⟩:=R.at j hj;rw[e1,f1];refine PySem.W.kat_lt (k _ _ e2) e3 (k _ _ f2) f3<|Jq e4 f4 ?_;have l1:us.toArray.size=(rs.getD i []).length:=by rw[ax,<-e4.length,az]
  have l2:us'.toArray.size=(rs.getD j []).length:=by rw[ax,<-f4.length,az]
  rw[l1,l2,QU];exact q
def Gp{rs:List (List Int)}{n:Nat}(hn:rs.Nodup)(hl:rs.length=n):Sq.Ord n (λi j=>ltI (rs.getD i [])<|rs.getD j []):=by
 have hd:∀i j,i<n->j<n->i≠j->rs.getD i []≠rs.getD j []:=λi j hi hj ne e=>by
  simp only[aD]at e;have hi':i<rs.length:=by lia
  have hj':j<rs.length:=by lia
  refine ne<|(fw hi' hn).mp ?_;rw[af hi',af hj']at e ⊢;exact congrArg aa e
 exact#[λi j hi hj ne e=>W0 (hd i j hi hj ne) e,λi j _ _ e=>YC e,λi j k _ _ _ e f=>Q7 e f]
def VG{B β:Type}(b:Bool)(f:B->β)(l:List B):bi b (l.map f)=(bi b l).map f:=by
 cases b
 .rfl
 .exact gL.symm
def GE{B:Type}(b:Bool)(l:List B):(bi b l).Perm l:=by
 cases b
 .exact cu _
 .exact du l
def WF{B:Type}{d:B}{b:Bool}{vs:List B}{i:Nat}(hi:i<vs.length):(bi b vs).getD i d=vs.getD (if b=am then vs.length-1-i else i) d:=by
 cases b
 .rfl
 .show vs.reverse.getD i d=vs.getD (vs.length-1-i) d
  simp only[aD];rw[lB hi]
def JU{rs:List (List Int)}{b:Bool}{p:Array Nat}(hn:rs.Nodup)(h1:Sq.Pm rs.length p)(h2:Sq.Up (Sq.ltR b rs.length λi j=>ltI (rs.getD i [])<|rs.getD j []) p rs.length) :
  (p.toList.map λi=>(bi b rs).getD i [])=Zn rs:=by
 have hp:p.toList.Perm (aM rs.length):=by simpa using bF.mp h1
 have hl:p.toList.length=rs.length:=by rw[hp.length_eq,bE]
 refine Xi ?_ ?_<|ZY hn
 .refine((hp.map _).trans ?_).trans (ZG rs).symm
  have e:(aM rs.length).map (λi=>(bi b rs).getD i [])=bi b rs:=by
   apply bV
   intro i;rw[aK];by_cases h:i<rs.length
   .have:i<(bi b rs).length:=by rw[fV];exact h
    rw[cJ h];simp[this]
   .have:(bi b rs).length<=i:=by rw[fV];lia
    simp[fG h,this]
  rw[e];exact GE b rs
 .rw[cy,bq]
  intro i j hi hj hij;have g1:p.toList[i]=Sq.g p i:=by
   have:=Sq.ZbU (by simpa using hi)
   rw[<-aX,af hi]at this;exact ag this
  have g2:p.toList[j]=Sq.g p j:=by
   have:=Sq.ZbU (by simpa using hj)
   rw[<-aX,af hj]at this;exact ag this
  rw[g1,g2,WF (h1.lt (by lia)),WF<|h1.lt (by lia)]
  have:=h2 i j hij (by lia)
  cases b
  .exact this
  .exact this
def Jh{F:List Nat}{xs:List V}{rs:List (List Int)}(h:Reps O H (rs.map Pv.Zb) xs)(hF:∀i∈F,i<rs.length):Reps O H ((F.map λi=>rs.getD i []).map Pv.Zb) (F.map λi=>xs.getD i V.non):=by
 induction F with
 |nil=>exact Reps.nil
 |cons i F ih=>
  refine Reps.cons ?_<|ih λj hj=>hF j<|aj _ hj
  have hi:=hF i<|ak ..;obtain⟨v,g,r⟩:=h.get (by rw[aK,af hi];rfl)
  show Rep O H (Pv.Zb<|rs.getD i []) (xs.getD i V.non);rw[aD,aD,g,af hi];exact r
def JS{F:List Nat}{xs:List V}{us:List al}(h:Vals xs us)(hF:∀i∈F,i<xs.length):Vals (F.map λi=>xs.getD i V.non) (F.map λi=>us.getD i bf):=by
 induction F with
 |nil=>exact .nil
 |cons i F ih=>
  refine .cons ?_<|ih λj hj=>hF j<|aj _ hj
  have hi:=hF i<|ak ..;obtain⟨u,g,r⟩:=h.get<|af hi;show ZA (xs.getD i V.non) (us.getD i bf);rw[aD,aD,g,af hi];exact r
def Jy(h:Reps O H ds xs):Reps O H (bi b ds) (bi b xs):=by
 cases b
 .exact h
 .exact h.reverse
def Gm :∀{xs:List V}{us:List al},Vals xs us->Vals (bi b xs) (bi b us):=by
 cases b
 .exact λh=>h
 .have snoc:∀{xs:List V}{us:List al}{x:V}{u:al},Vals xs us->ZA x u->Vals (xs++[x]) (us++[u]):=by
   intro xs us x u h r
   induction h with|nil=>exact .cons r .nil|cons a _ ih=>exact .cons a ih
  intro xs us h;show Vals xs.reverse us.reverse
  induction h with|nil=>exact .nil|cons r t ih=>rw[eE,eE];exact snoc ih r
def ZaN(b:Bool):List V->Hp->VK->Prop:=λvs H Q=>∃O ds rws v,vs=[v]/\Rep O H (.lst ds) v/\Pv.ZR ds=aa rws/\ZX rws=am/\∀ys,Reps O H ((if b then(Zn rws).reverse else Zn rws).map Pv.Zb) ys->∀p,H p=ae->Q (.ref p) (upd H p<|.lst ys)
def xr{pq:List (aI×fD)}{s:aw}{Z:L2.St}{H:Hp}{vs:List V}{us:List al}{Q:VK}{b:Bool}(I:Inv X pq Z H s)(r:Vals vs us)(h:ZaN b vs H Q) :
  ∃(l:aI)(its:List al)(rs:List (List Int)),us=[.ref l]/\s.heap.IsList l its.toArray/\its.length<=100000/\rs.length=its.length/\Sq.Ord its.length (λi j=>ltI (rs.getD i [])<|rs.getD j [])/\(∀A,Sq.Asks X.prog X.w A s.heap its (tuples' am) λi j=>ltI (rs.getD i [])<|rs.getD j [])/\
   ∀p,Sq.Pm its.length p->Sq.Up (Sq.ltR b its.length λi j=>ltI (rs.getD i [])<|rs.getD j []) p its.length->
    EP X pq Z Q (.ref<|s.heap.objs.size+1) {s with heap:=sortedAll s.heap its (cB<|bi b<|p.toList.map λi=>(bi b its).getD i bf)}:=by
 obtain⟨O,ds,rws,v,rfl,r1,hrw,hok,h3⟩:=h;obtain⟨l,xs,rfl,hx,_,rx⟩:=r1.lst';obtain⟨u,rfl,ru⟩:=V4 r;cases ru;obtain⟨its,rv,pl,hz⟩:=I.list<|SqL.of hx;obtain⟨RA,ed⟩:=XX I hrw rx rv;obtain⟨hok1,hok3⟩:=(aC _ _).mp hok;obtain⟨hok1,hok2⟩:=(aC _ _).mp hok1;have h64:=T6 hok1;have hnd:=T6 hok2;have hne:∀r∈rws,r≠[]:=λr hr e=>by
  have:=aT.mp hok3 r hr;rw[e]at this;cases this
 have hlen:=RA.length;refine#[l,its,rws,rfl,pl.isList,by lia,hlen,Gp hnd hlen,λA=>UT RA hnd hne,λp hp hu=>?_]
 rw[<-hlen]at hp hu;have out:=JU hnd hp hu;have hmem:∀i∈p.toList,i<rws.length:=λi hi=>by
  have hp':p.toList.Perm (aM rws.length):=by simpa using bF.mp hp
  exact aU.mp<|hp'.mem_iff.mp hi
 subst ed;have xl:xs.length=rws.length:=by rw[rx.length,az]
 have rx1:Reps O H ((bi b rws).map Pv.Zb) (bi b xs):=by rw[<-VG];exact Jy rx
 have rx2:=Jh rx1 (by rw[fV];exact hmem)
 rw[out]at rx2;have rx3:=Jy (b:=b) rx2;have rv2:=Gm (b:=b)<|JS (Gm (b:=b) rv) (by rw[fV,xl];exact hmem)
 have eb:(if b=am then(Zn rws).reverse else Zn rws)=bi b (Zn rws):=rfl
 rw[eb,<-VG]at h3;obtain⟨ep,he⟩:=sortedAll_at s.heap its<|cB<|bi b<|p.toList.map λi=>(bi b its).getD i bf
 refine#[.ref<|s.heap.objs.size+1,_,I.laid (t':=s.toks) (λb ob q=>sortedAll_old q) (i9 _) ?_,rfl,h3 _ rx3 _<|I.hok.fresh<|i9 _]
 refine#[?_,_,ep,rv2,he];rw[fV,az,ay,hp.size,cI];lia
def zr{kp kp2:iw}{q0}(hm:X.mg "sorted" = ae)(ha:CA X xw C [e] [i])(hg:Gl X "sorted")
  (he:fN pos (aL [e] X.env)=(ap,c8 e X.env)::fN pos (aL [] X.env))(hpl:(fN pos<|aL [e] X.env).any (·.1)=ap) :
  CE X xw C (.Call (.Name "sorted" p) [e] [#[aa "reverse",.Constant (.bool am) q0 kp,kp2]] pos) (.blt .sortedR [i]):=.mk <| by
 intro pq s Z H Q I hq;obtain⟨O,l,S,st,lr,h⟩:=hq;refine dZ<|YU I hg hm (show cZ "sorted" = aa (.builtin "sorted")from rfl) ?_ (by decide) (by decide)
 refine callWith_kw (thn (ha.h pos pq s Z H (λvs H1=>ZaN am vs H1 Q) I ?_) λus s1 #[vs,H1,I1,r1,q1]=>?_) he hpl rfl rfl
 .refine#[O,l,S,st,lr,End.bind (show End X.K xw Rep O H Q ((Pv.pvs C [i] l S).bind λxs S=>Pv.po (Pv.Xa .sortedR xs) S)from h) λxs S1 ρ1 H1 vs f1 st1 r1 h1=>?_]
  obtain⟨d,v,z,rfl,r1,hz,h1⟩:=U4 h1 r1;cases d with
  |lst ds=>
   obtain⟨rws,hr,hz⟩:=da.mp hz;split at hz
   .cases hz;exact#[ρ1,ds,rws,v,rfl,r1,hr,‹_›,λys r=>h1.newL st1 r]
   .cases hz
  |_=>exact Ev.nos hz
 .refine kws_cons (thn (ZaF pq s1 Z H1 (λv H2=>v=.bl am/\H2=H1) I1 #[rfl,rfl]) λu s2 #[x,H2,I2,r2,e1,e2]=>kws_nil ?_)
  subst e1 e2;cases r2;obtain⟨l,its,rs,rfl,h1,h2,h3,h4,h5,h6⟩:=xr I2 r1 q1;exact Sq.GP (b:=am) h1 h2 h4 (h5 _) λp a b=>h6 p a b
end Sd
namespace Sd
open PySem PySem.Spec PyProof.Rows L2
open Ev (ltI)
open PySem.SeqAt PySem.MeetsSeq PySem.MeetsSeq2 PySem.MeetsSeq3 PySem.SeqRoads2
open PySem.AutoSeq1 (wpAny_loadPart')
def zh(l b:aI)(u v:List al)(n n2:Nat)(dd dd2:Option aI)(sl sl2:Array (Option al))(x y:List Int)(hx:Vals (x.map V.int) u)(hy:Vals (y.map V.int) v) :
  oI (dE.«tuple.__lt__» #[[.ref l,.ref b],[]]) (λA R s=>s.heap.get? l=aa {cls:=.type "tuple",dict:=dd,data:=.seq u.toArray n,slots:=sl}/\s.heap.get? b=aa {cls:=.type "tuple",dict:=dd2,data:=.seq v.toArray n2,slots:=sl2}/\R (.ok<|.ret<|.bool<|ltI x y) s):=
 .of_wp λprog w A R s h=>by
  obtain⟨hp,g,d,tk,os⟩:=s;obtain⟨hl,hb,h⟩:=h;have f2:=dF;rw[<-QU]at h
  wp_walk using hV hl,hV hb,kJ _ (λrest b s'=>b.1=ae/\s'=#[hp,g,d,tk,os]/\∃x' y' u' v',rest=pA u' v'/\Vals (lQ V.int x') u'/\Vals (lQ V.int y') v'/\R (.ok<|.ret<|.bool<|Ue (ai<|x.length<y.length) x' y') #[hp,g,d,tk,os]) _
  case turn=>
   rintro ⟨a,c⟩ rest b s' ⟨hb',rfl,x',y',u',v',hz,hx',hy',hR⟩
   match x',y',u',v',hx',hy',hz,hR with
   |i::x',j::y',_::u',_::v',.cons ra ta,.cons rb tb,hz,hR=>
    obtain⟨t,rfl⟩:=ra;obtain⟨t',rfl⟩:=rb;rw[cf]at hz;injection hz with h1 h2
    cases h1;unfold Ue at hR;refine ab<|kA ?_;by_cases e:i=j
    .rw[T9 e]at hR
     rw[beq_iff_eq.mpr e]
     wp_walk
     exact#[rfl,rfl,x',y',u',v',h2,ta,tb,hR]
    .rw[T8 e]at hR
     rw[beq_eq_false_iff_ne.mpr e];simp only[oR,if_true];refine ab<|fb<|ab<|PyProof.Rows.lt_int ?_
     wp_walk
     exact#[_,rfl,by simpa using hR]
   |[],_,_,_,.nil,_,hz,_=>rw[ke]at hz;cases hz
   |_::_,[],_,_,_,.nil,hz,_=>rw[iR]at hz;cases hz
  case fin=>
   rintro ⟨b1,b2⟩ s' ⟨hb',rfl,x',y',u',v',hz,hx',hy',hR⟩
   simp only at hb';subst hb';have hf:Ue (ai<|x.length<y.length) x' y'=ai (x.length<y.length):=by
    match x',y',u',v',hx',hy',hz with
    |[],_,_,_,_,_,_=>rfl
    |_::_,[],_,_,_,_,_=>rfl
    |_::_,_::_,_::_,_::_,.cons _ _,.cons _ _,hz=>rw[cf]at hz;cases hz
   rw[hf]at hR;have l1:u.length=x.length:=by rw[<-hx.length,az]
   have l2:v.length=y.length:=by rw[<-hy.length,az]
   wp_walk
   exact#[_,rfl,by simpa[gA,l1,l2]using hR]
  case h=>
   exact#[rfl,rfl,x,y,u,v,by simp,hx,hy,h]
def qf{E:al->aw->Prop}{Q:al->aw->Prop}(ha:s.heap.get? a=aa o)(hc:o.cls=.type "tuple")(hd:o.data=.seq u.toArray m)(hx:Vals (x.map V.int) u)
  (hb:s.heap.get? b=aa o')(hc':o'.cls=.type "tuple")(hd':o'.data=.seq v.toArray m')(hy:Vals (y.map V.int) v)(hu:A.units<dL)(q:Q (.bool<|ltI x y) s):aW (aQ prog w) A (b0 .Lt (.ref a)<|.ref b) Q E s:=by
 obtain⟨cls,dd,data,sl⟩:=o;obtain⟨cls2,dd2,data2,sl2⟩:=o';simp only at hc hd hc' hd';subst hc hd hc' hd';exact k6 (op:=.Lt) #[_,ha,rfl] #[_,hb,rfl] oh nT (nh _ _) (zh a b u v m m' dd dd2 sl sl2 x y hx hy) #[ha,hb,#[(λx=>nomatch x),q]] hu
end Sd
namespace Sd
open Ev (ltI ltP J4 XB)
structure StrictB{B:Type}(lt:B->B->Bool):Prop where
 tot:∀{x y},x≠y->lt x y=ap->lt y x=am
 asy:∀{x y},lt x y=am->lt y x=ap
 tr:∀{x y z},lt x y=am->lt y z=am->lt x z=am
def VF:StrictB ltI:=#[W0,YC,Q7]
section
variable{B:Type}{lt:B->B->Bool}
theorem Y2(O:StrictB lt):∀{a b:List B},a.Perm b->a.Pairwise (λx y=>lt x y=am)->b.Pairwise (λx y=>lt x y=am)->a=b
 |[],b,p,_,_=>(nS p)
 |x::a,[],p,_,_=>by have:=p.length_eq;simp at this
 |x::a,y::b,p,ha,hb=>by
  rw[aZ]at ha hb;have e:x=y:=by
   rcases aA.mp (p.mem_iff.mp<|ak ..)with h|h
   .exact h
   .rcases aA.mp (p.mem_iff.mpr (ak))with h2|h2
    .exact h2.symm
    .have z1:=hb.1 x h
     have z2:=ha.1 y h2;rw[O.asy z1]at z2;cases z2
  subst e;rw[Y2 O (oQ x |>.mp p) ha.2 hb.2]
end
open PySem PySem.Spec PyProof.Rows L2
theorem QT:∀{x:List Int}{u:List al}{j:Nat}(h:j<u.length),Vals (x.map V.int) u->∃t,u[j]=kz (x.getD j 0) t
 |[],[],_,h,.nil=>by simp at h
 |_::_,_::_,0,_,.cons ra _=>by obtain⟨t,rfl⟩:=ra;exact#[t,rfl]
 |_::x,_::u,j+1,h,.cons _ ta=>by
  obtain⟨t,e⟩:=QT (by simpa using h) ta
  exact#[t,by simpa using e]
def Zc5:∀{x y:List Int},((aM<|oW x.length y.length).all (λj=>x.getD j 0 == y.getD j 0)&&x.length == y.length)=ai (x=y):=by
 intro x y;rw[bU,aC,aT,decide_eq_true_iff]
 constructor
 .rintro ⟨h1,h2⟩
  have h2:x.length=y.length:=by simpa using h2
  apply gM h2;intro i hi hj;have:=h1 i<|aU.mpr (by lia)
  simpa[hi,hj]using this
 .rintro rfl
  exact#[λj _=>by simp,by simp]
def Jg(h:bY)(r:List Int)(v:al):Prop:=∃a o us m,v=.ref a/\h.get? a=aa o/\o.cls=.type "tuple"/\o.data=.seq us.toArray m/\Vals (r.map V.int) us
def qH(hx:Jg s.heap x v)(hy:Jg s.heap y u)(hu:A.units<dL):gG A s v u (ai<|x=y):=by
 obtain⟨a,o,us,m,rfl,ho,hc,hd,hv⟩:=hx;obtain⟨b,o',us',m',rfl,ho',hc',hd',hv'⟩:=hy;have l1:us.toArray.size=x.length:=by rw[ax,<-hv.length,az]
 have l2:us'.toArray.size=y.length:=by rw[ax,<-hv'.length,az]
 by_cases e:a=b
 .subst e
  rw[ho]at ho';cases ho';rw[hd]at hd';injection hd' with h1 h2
  have h1:us=us':=by simpa using h1
  subst h1;rw[T5<|Vk hv hv'];exact gY _
 .refine iI e ?_
  have:=i7 #[o,ho,hc,m,hd] #[o',ho',hc',m',hd'] hu (λj h1 h2=>by
   obtain⟨t,e1⟩:=QT (by simpa using h1) hv
   obtain⟨t',e2⟩:=QT (by simpa using h2) hv'
   rw[show us.toArray[j]=us[j]'(by simpa using h1) by simp,show us'.toArray[j]=us'[j]'(by simpa using h2) by simp,e1,e2]
   exact mJ _ _ _ _)
  rw[l1,l2,Zc5]at this;exact this
def uK{E:al->aw->Prop}{Q:al->aw->Prop}(hx:Jg s.heap x v)(hy:Jg s.heap y u)(hu:A.units<dL)(q:Q (.bool<|ltI x y) s):aW (aQ prog w) A (b0 .Lt v u) Q E s:=by
 obtain⟨a,o,us,m,rfl,ho,hc,hd,hv⟩:=hx;obtain⟨b,o',us',m',rfl,ho',hc',hd',hv'⟩:=hy;exact qf ho hc hd hv ho' hc' hd' hv' hu q
noncomputable def JT(fin:Bool):List (List Int)->List (List Int)->Bool
 |[],_=>fin
 |_::_,[]=>fin
 |a::x,b::y=>if a=b then JT fin x y else ltI a b
theorem zT:∀(x y:List (List Int)),JT (ai<|x.length<y.length) x y=ltP x y
 |[],[]=>rfl
 |[],_::_=>by unfold JT ltP;simp
 |_::_,[]=>by unfold JT ltP;simp
 |a::x,b::y=>by
  unfold JT ltP;have:ai ((a::x).length<(b::y).length)=ai (x.length<y.length):=by simp
  rw[this,zT x y]
inductive RowsIn(h:bY):List (List Int)->List al->Prop where
 |nil:RowsIn h [] []
 |cons {r:List Int} {rs:List (List Int)} {v:al} {vs:List al} (a:Jg h r v) (t:RowsIn h rs vs):RowsIn h (r::rs) (v::vs)
theorem RowsIn.length :∀{rs:List (List Int)}{vs:List al},RowsIn h rs vs->rs.length=vs.length
 |_,_,.nil=>rfl
 |_,_,.cons _ t=>by rw[aS,aS,RowsIn.length t]
open Ev (E Sm Fn Bop Cop Ty Bf Mf YZ Zn ZX YD)
section
variable{X:Cx}{pq:List (aI×fD)}{Z:L2.St}{H:Hp}{s:aw}{O:Mx}
theorem RowsAt.ins{h:bY}:∀{rs:List (List Int)}{vs:List al},RowsAt h rs vs->RowsIn h rs vs
 |_,_,.nil=>.nil
 |_,_,.cons ho hc hd hv t=>.cons #[_,_,_,_,rfl,ho,hc,hd,hv]<|RowsAt.ins t
end
open PySem.SeqAt PySem.MeetsSeq PySem.MeetsSeq2 PySem.MeetsSeq3 PySem.SeqRoads2
open PySem.AutoSeq1 (wpAny_loadPart')
def GF(l b:aI)(u v:List al)(n n2:Nat)(dd dd2:Option aI)(sl sl2:Array (Option al))(x y:List (List Int)) :
  oI (dE.«tuple.__lt__» #[[.ref l,.ref b],[]]) (λA R s=>s.heap.get? l=aa {cls:=.type "tuple",dict:=dd,data:=.seq u.toArray n,slots:=sl}/\s.heap.get? b=aa {cls:=.type "tuple",dict:=dd2,data:=.seq v.toArray n2,slots:=sl2}/\A.units+1<dL/\RowsIn s.heap x u/\RowsIn s.heap y v/\R (.ok<|.ret<|.bool<|ltP x y) s):=
 .of_wp λprog w A R s h=>by
  obtain⟨hp,g,d,tk,os⟩:=s;obtain⟨hl,hb,hu,hx,hy,h⟩:=h;have f2:=dF;rw[<-zT]at h
  wp_walk using hV hl,hV hb,kJ _ (λrest b s'=>b.1=ae/\s'=#[hp,g,d,tk,os]/\∃x' y' u' v',rest=pA u' v'/\RowsIn hp x' u'/\RowsIn hp y' v'/\R (.ok<|.ret<|.bool<|JT (ai<|x.length<y.length) x' y') #[hp,g,d,tk,os]) _
  case turn=>
   rintro ⟨a,c⟩ rest b s' ⟨hb',rfl,x',y',u',v',hz,hx',hy',hR⟩
   match x',y',u',v',hx',hy',hz,hR with
   |i::x',j::y',_::u',_::v',.cons ra ta,.cons rb tb,hz,hR=>
    rw[cf]at hz;injection hz with h1 h2
    cases h1;unfold JT at hR;refine ab<|qH ra rb (by lia) prog w _ _ ?_
    by_cases e:i=j
    .rw[T9 e]at hR
     rw[T5 e]
     wp_walk
     exact#[rfl,rfl,x',y',u',v',h2,ta,tb,hR]
    .rw[T8 e]at hR
     rw[T4 e];simp only[oR,if_true];refine ab<|fb<|ab<|uK ra rb (by lia) ?_
     wp_walk
     exact#[_,rfl,by simpa using hR]
   |[],_,_,_,.nil,_,hz,_=>rw[ke]at hz;cases hz
   |_::_,[],_,_,_,.nil,hz,_=>rw[iR]at hz;cases hz
  case fin=>
   rintro ⟨b1,b2⟩ s' ⟨hb',rfl,x',y',u',v',hz,hx',hy',hR⟩
   simp only at hb';subst hb';have hf:JT (ai<|x.length<y.length) x' y'=ai (x.length<y.length):=by
    match x',y',u',v',hx',hy',hz with
    |[],_,_,_,_,_,_=>rfl
    |_::_,[],_,_,_,_,_=>rfl
    |_::_,_::_,_::_,_::_,.cons _ _,.cons _ _,hz=>rw[cf]at hz;cases hz
   rw[hf]at hR;have l1:u.length=x.length:=by rw[<-hx.length]
   have l2:v.length=y.length:=by rw[<-hy.length]
   wp_walk
   exact#[_,rfl,by simpa[gA,l1,l2]using hR]
  case h=>
   exact#[rfl,rfl,x,y,u,v,by simp,hx,hy,h]
def uP{E:al->aw->Prop}{Q:al->aw->Prop}(ha:s.heap.get? a=aa o)(hc:o.cls=.type "tuple")(hd:o.data=.seq u.toArray m)(hx:RowsIn s.heap x u)
  (hb:s.heap.get? b=aa o')(hc':o'.cls=.type "tuple")(hd':o'.data=.seq v.toArray m')(hy:RowsIn s.heap y v)(hu:A.units+3<dL)(q:Q (.bool<|ltP x y) s):aW (aQ prog w) A (b0 .Lt (.ref a)<|.ref b) Q E s:=by
 obtain⟨cls,dd,data,sl⟩:=o;obtain⟨cls2,dd2,data2,sl2⟩:=o';simp only at hc hd hc' hd';subst hc hd hc' hd';exact k6 (op:=.Lt) #[_,ha,rfl] #[_,hb,rfl] oh nT (nh _ _) (GF a b u v m m' dd dd2 sl sl2 x y) #[ha,hb,by first|exact hu|(lia)|lia,hx,hy,#[(λx=>nomatch x),q]] (by lia)
def yc(hu:X.A.units+7<dL):YA X xw .Lt .lt:=by
 intro pq s Z H v0 u0 v u Q I rv ru #[O,S,x,y,st,rx,ry,h];rcases Zdc st rx ry h with z|⟨a,b,A,B,rfl,rfl,hA,hB,q⟩
 .exact ZcX pq s Z H v0 u0 v u Q I rv ru z
 .obtain⟨p1,xs,rfl,hp1,r1⟩:=rx.tup'
  obtain⟨p2,ys,rfl,hp2,r2⟩:=ry.tup';cases rv;cases ru;obtain⟨us,w1,⟨o,ho,hc,m,hd⟩,_⟩:=I.tuple<|SqT.of hp1;obtain⟨us',w2,⟨o',ho',hc',m',hd'⟩,_⟩:=I.tuple<|SqT.of hp2;obtain⟨ra,_⟩:=XX I hA r1 w1;obtain⟨rb,_⟩:=XX I hB r2 w2;exact uP ho hc hd ra.ins ho' hc' hd' rb.ins (by lia) #[.bl<|ltP A B,H,I,rfl,q]
end Sd
namespace Sd
open PySem PySem.Spec PyProof.Rows L2
open Ev (E Sm Fn Bop Cop Ty Bf Mf)
section
variable{X:Cx}{xw:Nat->Hp->Prop}{fr:Bool}{C:Calls}{ns:List Nat}{e a:Expr}{i:E}{pos p p' p2:iw}{n:Nat}{x:bG}{q:Option bG}
def jV{q}(ha:CE X xw C a i):CE X xw C (.Subscript a (.Constant (.int 0) q p2) pos) (.dix i ap):=.mk <| PE.imp (wS Q6 ha.h QV<|by intro _ _;with_unfolding_all rfl)<|by
 rintro Z H Q ⟨O,l,S,st,lr,h⟩;rw[Pv.pv]at h;refine#[O,l,S,st,lr,h.bind λx S1 ρ1 H1 v f1 st1 r1 h1=>?_]
 cases x with|drw=>obtain⟨p,rfl,hn⟩:=r1.drw';exact#[p,_,0,_,rfl,rfl,SqL.of (st1.dw p hn).1,rfl,End.ok h1 st1<|ZM _]|_=>exact h1.elim
def jY{q}(ha:CE X xw C a i):CE X xw C (.Subscript a (.Constant (.int 1) q p2) pos) (.dix i am):=.mk <| PE.imp (wS Q6 ha.h QV<|by intro _ _;with_unfolding_all rfl)<|by
 rintro Z H Q ⟨O,l,S,st,lr,h⟩;rw[Pv.pv]at h;refine#[O,l,S,st,lr,h.bind λx S1 ρ1 H1 v f1 st1 r1 h1=>?_]
 cases x with|drw=>obtain⟨p,rfl,hn⟩:=r1.drw';exact#[p,_,1,_,rfl,rfl,SqL.of (st1.dw p hn).1,rfl,End.ok h1 st1<|ZZ _]|_=>exact h1.elim
def jb{q}(he:CE X xw C e i)(hN:X.N[n]?=aa x)(hv:Vis X.env.scope x)(hd:(x == ("__debug__" : bG))=ap)
  (hcd:(x == ("__classdict__" : bG))=ap)
  (ha:∀v,dR (.Subscript (.Name x p') (.Constant (.int 0) q p2) p) X.env v=(do
   let ov <-gO [v] (c8 (.Name x p') X.env)
   let iv <-gO [v,ov] (c8 (.Constant (.int 0) q p2) X.env)
   kP p
   gO [v,ov,iv] (setItem ov iv v)
   release [v,ov,iv] []))(hs:eM [.Subscript (.Name x p') (.Constant (.int 0) q p2) p] e pos.line X.env=c7 ap)(hw:eN [.Subscript (.Name x p') (.Constant (.int 0) q p2) p] e X.env=c7 ae)
  (h1:(cc [.Subscript (.Name x p') (.Constant (.int 0) q p2) p] X.env).map (·.2)=[dR (.Subscript (.Name x p') (.Constant (.int 0) q p2) p) X.env]):CS X xw fr C ns (.Assign [.Subscript (.Name x p') (.Constant (.int 0) q p2) p] e pos) (.dset n i):=.mk <|
 PS.imp (Wk he.h (ZbS (wN hN hv hd hcd) QV (vB (X:=X)) ha) hs hw h1)<|by
 rintro D Z H ⟨O,H0,W,l,os,S,st,en,h⟩;rw[Pv.rv]at h;refine#[O,l,S,st,en.all,Zy.bind en h λy S1 H1 v f1 st1 r1 h1=>?_]
 cases y with
 |int y=>
  obtain⟨hk,h1⟩:=h1.guard;have hx:l[n]?=aa (aa .drw):=by
   cases z:l[n]? with
   |none=>rw[z]at h1;exact h1.elim
   |some o=>cases o with
    |none=>rw[z]at h1;exact h1.elim
    |some d=>cases d<;>rw[z]at h1<;>first|rfl|exact h1.elim
  rw[hx]at h1;obtain⟨u,hu,r⟩:=(en.mono f1).all.val n .drw hx;obtain⟨a,rfl,hn⟩:=r.drw';obtain⟨e1,_⟩:=st1.dw a hn;refine#[.ref a,hu,a,_,0,0,rfl,rfl,e1,rfl,?_];rw[r1.int'];have f2:Fut O H1 O (upd H1 a<|.lst [.int y,.bl S1.2]):=#[rfl,λb o z=>by
   by_cases c:b=a
   .subst c;rw[e1]at z;cases z;exact .inr<|.inl #[hn,_,rfl]
   .exact .inl (by rw[Zp c];exact z)]
  refine h1 _ Z W #[st1.hk,λb x=>?_,λb x=>?_,st1.tb.upd (λo u z=>by rw[e1]at z;cases z) λ_ z=>by cases z]<|(en.mono f1).mono f2
  .by_cases c:b=a
   .rw[c];show upd _ _ _ _≠ae;rw[ZK];intro z;cases z
   .show upd _ _ _ _≠ae;rw[Zp c];exact st1.xd b x
  .rw[hn]at x
   cases x;exact#[ZK,hk]
 |_=>exact h1.elim
end
open Ev in
noncomputable def XD:Fn:=#[2,4,
 [.ite (.dix (.v 0) am) [.asg [2]<|.bin .mod (.dix (.v 0) ap)<|.v 1,
  .dset 0 (.bin .fdiv (.dix (.v 0) ap)<|.v 1),
  .ret (.v 2)] [],
  .dset 0 (.bin .mod (.bin .add (.bin .mul (.dix (.v 0) ap)<|.c<|.int 48271)<|.c<|.int 29)<|.c<|.int 2147483647),
  .asg [3] (.bin .mod (.bin .add (.bin .add (.bin .mul (.dix (.v 0) ap)<|.dix (.v 0) ap)<|.bin .mul (.c<|.int 39373)<|.dix (.v 0) ap)<|.c<|.int 7)<|.c<|.int 2147483629),
  .asg [3] (.bin .mod (.bin .add (.bin .mul (.v 3)<|.v 3)<|.bin .mul (.c<|.int 16807)<|.v 3)<|.c<|.int 2147483587),
  .ret (.bin .mod (.bin .fdiv (.v 3)<|.c<|.int 8)<|.v 1)]]
open Ev Pv in
def Xq(h0:0<=a)(h:a<4294967296):fits a=am:=by
 refine T5 ?_;have h1:a.natAbs<2^32:=by lia
 exact bg h1<|dH (by decide) (by decide)
open Ev Pv in
def X1(h:okS s.1 s.2=am)(m0:0<m)(m1:m<1073741824):JY C XD [.drw,.int m] s=.ok (.int (Xe s m).1) (Xe s m).2:=by
 obtain⟨a,b⟩:=s;have hm:muts XD.body=[]:=rfl;unfold JY;rw[hm];have ha:=T6 ((aC _ _).mp h).1;have lt8:(8:Int)<big:=uB (by decide)
 cases b with
 |true=>
  have o2:okS (a / m) am=am:=by simp[okS];exact Int.ediv_nonneg ha (by lia)
  simp[XD,Xe,rvs,rv,pvA,Pv.pv.eq_1,Pv.pv.eq_2,Pv.pv.eq_7,Pv.pv.eq_28,YW,PR.bind,po,Zu,ZI,ofD,YJ,Pv.Ud,m0,m1,uB m1,o2,hide]
 |false=>
  have hb:a<2147483647:=by simpa using((aC _ _).mp h).2
  have h1:=Xq ha (by lia)
  have x0:0<=(a*48271+29)%2147483647:=by lia
  have x1:(a*48271+29)%2147483647<2147483647:=by lia
  generalize hxx:(a*48271+29)%2147483647=x at x0 x1;have y0:0<=(x*x+39373*x+7)%2147483629:=by lia
  have y1:(x*x+39373*x+7)%2147483629<2147483629:=by lia
  generalize hyy:(x*x+39373*x+7)%2147483629=y at y0 y1;have f1:=Xq x0 (by lia)
  have f2:=Xq y0 (by lia)
  have f3:fits 48271=am:=Xq (by lia) (by lia)
  have f4:fits 39373=am:=Xq (by lia) (by lia)
  have f5:fits 16807=am:=Xq (by lia) (by lia)
  have o2:okS x ap=am:=by simp[okS,x0,x1]
  simp[XD,Xe,rvs,rv,pvA,Pv.pv.eq_1,Pv.pv.eq_2,Pv.pv.eq_7,Pv.pv.eq_28,YW,PR.bind,po,Zu,ZI,ofD,YJ,Pv.Ud,m0,m1,lt8,h1,hxx,hyy,f1,f2,f3,f4,f5,o2,hide]
def Zaa{K:ao}{F:List Fn}{tk d:Nat}:∀O S H ds vs,St3 K O S H->Reps O H ds vs->Pv.Zh F tk (d+1) tk ds S=.no\/Pv.Zh F tk (d+1) tk ds S=JY (Pv.Zh F tk d) XD ds S:=λO S H ds vs st r=>by
 rw[Pv.Zh,T9 rfl];unfold Pv.Zas;split
 .rename_i m
  obtain⟨v,u,rfl,r1,_⟩:=yo r;obtain⟨a,_,hn⟩:=r1.drw';split
  .rename_i hm
   exact .inr (X1 (st.dw a hn).2 hm.1 hm.2).symm
  .exact .inl rfl
 .exact .inl rfl
def Zad{K:ao}{F:List Fn}{tk n d:Nat}{fn:Fn}(hn:n≠tk)(hf:F[n]?=aa fn):∀O S H ds vs,St3 K O S H->Reps O H ds vs->Pv.Zh F tk (d+1) n ds S=.no\/Pv.Zh F tk (d+1) n ds S=JY (Pv.Zh F tk d) fn ds S:=λO S H ds vs st r=>by
 rw[Pv.Zh,T8 hn,hf]
 all_goals exact .inr rfl
def jx(h:Pv.V3 v=aa d):v=.lst [.int d.1,.bl d.2]/\Pv.okS d.1 d.2=am:=by
 unfold Pv.V3 at h;split at h
 .split at h
  .cases h;exact#[rfl,‹_›]
  .cases h
 .cases h
def Gs{l:Lc}{i:Nat}{d:D}(h:(l.map Pv.WE)[i]?=aa (aa d)):l[i]?=aa (aa d)/\d.flat=am:=by
 rw[aK]at h;cases q:l[i]? with
 |none=>rw[q]at h;cases h
 |some o=>
  rw[q]at h;have h:=ag h;obtain⟨a,b⟩:=Option.filter_eq_some_iff.mp h;exact#[by rw[a],b]
def vF{n:Nat}{l:Lc}{i:Nat}{d:D}(h:(Pv.XY n l)[i]?=aa (aa d)):l[i]?=aa (aa d)/\d.flat=am:=by
 unfold Pv.XY at h;rw[List.getElem?_append]at h;split at h
 .obtain⟨a,b⟩:=Gs h
  rw[cS]at a;split at a
  .exact#[a,b]
  .cases a
 .rw[cq]at h
  split at h<;>cases h
def J2 :(Pv.XY n l).length=l.length:=by
 unfold Pv.XY;rw[bw,az,bh,ck];omega
def tCl(X:Cx)(xw:Nat->Hp->Prop)(C:Calls)(fi:Nat)(is:List E):TE:=λZ H Q=>tA X xw (Pv.pvs C is) Z H λvs H1=>∃O ds S,St3 X.K O S H1/\Reps O H1 ds vs/\End X.K xw (Xw am H1) O H1 Q (C fi ds S)
def Zca{xw:Nat->Hp->Prop}{fi:Nat}{y:bG}{es:List Expr}{is:List E}{ss:List fE}{B:List Sm}(hc:PE X (.Call (.Name y p') (e::es) [] p) (tCl X xw C fi is))(hB:CSs X xw fr C ns ss B)(hN:X.N.Nodup)
  (hi:X.N[n]?=aa x:=by rfl)(hx:L2.Loc X.env.scope x:=by first|exact Or.inl rfl|exact pf rfl)(hf:X.fn x=am\/X.env.scope.names.lookup x=aa .local:=by first|exact .inl rfl|exact .inr rfl)
  (hs:eM [.Name x px] (.Call (.Name y p') (e::es) [] p) pos.line X.env=c7 ap:=by rfl)(hw:eN [.Name x px] (.Call (.Name y p') (e::es) [] p) X.env=c7 ae:=by rfl)
  (h1:(cc [.Name x px] X.env).map (·.2)=[dR (.Name x px) X.env]:=by rfl) :
  CSs X xw fr C ns (.Assign [.Name x px] (.Call (.Name y p') (e::es) [] p) pos::ss) [.cel n fi is B]:=.mk <|
 PSs.imp (Jw (Wk hc (Qj hN hi hx hf) hs hw h1) hB.h)<|by
 rintro D Z H ⟨O,H0,W,l,os,S,st,en,h⟩;have h:Zy fr X.K xw O H0 D (Pv.rv C ns (.cel n fi is B) l os S):=by
  rw[Pv.rvs]at h;cases q:Pv.rv C ns (.cel n fi is B) l os S with|no=>rw[q]at h;exact h|ex c s=>rw[q]at h;exact h|ok g s=>rw[q]at h;cases g<;>exact h
 rw[Pv.rv]at h;obtain⟨ho,h⟩:=h.guard;refine#[O,l,S,st,en.all,Zy.bind en h λxs S1 H1 vs f1 st1 r1 h1=>?_]
 refine#[O,xs,S1,st1,r1,Zy.bind (en.mono f1) h1 λv S2 H2 u f2 st2 r2 h2=>?_]
 obtain⟨d,hd,h3⟩:=Zy.ob h2;obtain⟨rfl,hok⟩:=jx hd;obtain⟨a,rfl,na⟩:=r2.2 rfl _ rfl;obtain⟨_,us,z,ea,_,ru⟩:=r2.1.lst';cases z;obtain⟨u1,u2,rfl,q1,q2⟩:=yo ru;cases q1.int';cases q2.bl';have en2:=(en.mono f1).mono f2;have nX:∀q,O.X q->q≠a:=λq x z=>st1.xd q x<|z▸na
 let ρ':Mx:=#[O.K,aa a,λq=>O.X q\/q=a,λq h=>.inr (ag h).symm]
 have st':St3 X.K ρ' d H2:=#[st2.hk,λq x=>x.elim (st2.xd q) λz=>(by rw[z,ea];intro w;cases w),λq x=>(by cases x;exact#[ea,hok]),st2.tb]
 have en':Eu ρ' H2 (λ_=>ae) ((Pv.XY n l).set n<|aa .drw) [] (Z.set n<|aa<|.ref a) H2:=by
  refine#[Fut.refl _ _,st'.xd,by rw[b4,b4,J2];exact en.len,λ_=>rfl,λ_ _ _ z=>?_,λ_ _ z=>?_,λ_ _ z=>?_,λi w q _=>?_]
  .cases z
  .cases z
  .cases z
  .rcases QM q with⟨rfl,z,hl⟩|⟨c,z⟩
   .cases z
    exact#[.ref a,b8 (by rw[<-en.len,<-J2];exact hl),by exact#[a,rfl,rfl]]
   .obtain⟨z,hfl⟩:=vF z
    obtain⟨v,hv,r⟩:=en2.all.val i w z;exact#[v,by rw[bt c];exact hv,Rep.flat (O:=O) (ρ':=ρ'.ex λ_=>ae) rfl (λ_ _ z _ _=>z) hfl r]
 have n0:∀{b},b≠a->ρ'.n0≠aa b:=λc w=>T7 (ag w).symm c
 have keep:∀{H'},Fut ρ' H2 ρ' H'->∀b o,b≠a->H2 b=aa o->(∀ps,o≠.tbl ps)->H' b=aa o:=λ{H'} f b o c z n=>(f.keep b o z).elim id λw=>w.elim (λw=>T7 w.1<|n0 c) λ#[#[ps,e],_]=>T7 e<|n ps
 have back:∀{H':Hp}{s:Zq},Fut ρ' H2 ρ' H'->St3 X.K ρ' s H'->St3 X.K O S2 H'/\Fut O H0 O H':=λ{H' s} f w=>by
  refine#[#[st2.hk,λq x=>?_,λq x=>?_,w.tb],rfl,λb o z=>?_]
  .exact f.there (n0<|nX q x)<|st2.xd q x
  .obtain⟨e1,e2⟩:=st2.dw q x
   exact#[keep f q _ (nX q<|O.xz q x) e1 (by intro _ z;cases z),e2]
  .have ne:b≠a:=λc=>by rw[c,Js (en.mono f1) st1 na]at z;cases z
   rcases en2.fut.keep b o z with y|y|⟨e,ps,y⟩
   .rcases f.keep b o y with q|q|q
    .exact .inl q
    .exact T7 q.1<|n0 ne
    .exact .inr<|.inr q
   .exact .inr<|.inl y
   .rcases f.keep b _ y with q|⟨_,xs,q⟩|⟨_,q⟩
    .exact .inr<|.inr #[e,ps,q]
    .cases q
    .exact .inr<|.inr #[e,q]
 have backE:∀{H':Hp}{s:Zq}{W':Own}{l':Lc}{os':List Nat}{σ':L2.St},Eu ρ' H2 W' l' os' σ' H'->St3 X.K ρ' s H'->St3 X.K O S2 H'/\Eu O H0 (λ_=>ae) (l'.map Pv.WE) [] σ' H':=λ{H' s W' l' os' σ'} g w=>by
  obtain⟨a1,a2⟩:=back g.fut w;refine#[a1,a2,en.xd,by rw[az];exact g.len,λ_=>rfl,λ_ _ _ z=>?_,λ_ _ z=>?_,λ_ _ z=>?_,λi w q _=>?_]
  .cases z
  .cases z
  .cases z
  .obtain⟨z,hfl⟩:=Gs q
   obtain⟨v,hv,r⟩:=g.all.val i w z;exact#[v,hv,Rep.flat (O:=ρ') (ρ':=O.ex λ_=>ae) rfl (λ_ _ z _ _=>z) hfl r]
 refine#[ρ',H2,λ_=>ae,_,[],d,st',en',?_]
 cases q:Pv.rvs C ns B ((Pv.XY n l).set n<|aa .drw) [] d with
 |no=>rw[q]at h3;exact h3
 |ex c s=>rw[q]at h3;exact h3.elim
 |ok g s=>
  rw[q]at h3;cases g with
  |nx l' os'=>exact λH' σ' W' w g=>let #[a1,a2]:=backE g w;h3 H' σ' _ a1 a2
  |brk l' os'=>exact λH' σ' W' w g=>let #[a1,a2]:=backE g w;h3 H' σ' _ a1 a2
  |cnt l' os'=>exact λH' σ' W' w g=>let #[a1,a2]:=backE g w;h3 H' σ' _ a1 a2
  |ret v=>
   obtain⟨hfl,h3⟩:=Zy.guard h3;exact λH' v' f w r=>let #[a1,a2]:=back f w;h3 H' v' a2 a1 #[Rep.flat (O:=ρ') (ρ':=O) rfl (λ_ _ z _ _=>z) hfl r.1,λ_ ds z=>by rw[z]at hfl;cases hfl]
open Ev (ltI YZ Zn ZX)
section
variable{prog:bC}{w:bN}{A:cD}{E:al->aw->Prop}{s:aw}{d:aI}{ep:Nat}{od:fD}{es:Array ir}
def wb{T:String}{r:aI}{n:Nat}{P:Nat->al->Prop}{OK:bY->Prop}{R:List al->aw->Prop}(K:lR prog w T r d n P OK)(hh:A.handled=ae)(hok:OK s.heap)(hn:n<=bp)
  (h:∀h' tk acc,(∀b o,s.heap.get? b=aa o->h'.get? b=aa o)->s.heap.objs.size<=h'.objs.size->ItemsOf P acc n->R acc.toList {s with heap:=h',toks:=tk}):aW (aQ prog w) A (collect<|.ref r) R E s:=by
 obtain⟨l1,l2⟩:=K.there _ hok
 let S:=s.heap.objs.size
 have hS:(s.heap.push {cls:=.type "list",data:=.seq #[]}).get? S=aa {cls:=.type "list",data:=.seq #[]}:=aJ _ rfl;have fin:∀{h':bY}{tk c:Nat}{acc:Array al},(∀b o,b≠S->(s.heap.push {cls:=.type "list",data:=.seq #[]}).get? b=aa o->h'.get? b=aa o)->h'.get? S=aa {cls:=.type "list",dict:=ae,data:=.seq acc c,slots:=#[]}->ItemsOf P acc n->R acc.toList {s with heap:=h',toks:=tk}:=
  λk e i=>h _ _ _ (λb o z=>k b o (bv<|aF z)<|aq _ z) (ga<|aF e) i
 unfold collect;refine ab<|wpAny_runValue<|fj entry_proto_collect' ?_;rw[eK PySem.F.plain_proto_collect _];refine ab (m:=newList [])<|bH<|au #[mv kK _,fj entry_list_iadd' ?_];rw[eK kK _];show aW _ A.in1 (dE.List.listExtendWith (.ref S) (.ref r)<|.ref S) _ _ {s with heap:=s.heap.push {cls:=.type "list",data:=.seq #[]}}
 refine cL (PySem.W.kdl_extend (A:=A) (R:=λq s'=>∃h' tk acc c,q=.ok (.ret<|.ref S)/\s'={s with heap:=h',toks:=tk}/\h'.get? S=aa {cls:=.type "list",dict:=ae,data:=.seq acc c,slots:=#[]}/\R acc.toList s') K hh (K.keep _ _ hok λb _ o e=>aq _ e) S (fF l1) (fF l2) _ 0 hS (λh' tk acc c k e i=>#[h',tk,acc,c,rfl,rfl,e,fin k e i]) hn) (λf s' x=>?_) λe s' x=>?_
 .cases f with
  |done f=>
   obtain⟨h',tk,acc,c,z,rfl,e,q⟩:=x;cases z;exact ab (m:=load S)<|mD e<|au q
  |again c'=>
   refine#[x.1,gf x.2 λy s2 z=>?_]
   obtain⟨h',tk,acc,c,rfl,rfl,e,q⟩:=z;exact ab (m:=load S)<|mD e<|au q
 .obtain⟨_,_,_,_,z,_⟩:=x
  cases z
end
section
variable{X:Cx}{xw:Nat->Hp->Prop}{fr:Bool}{C:Calls}{ns:List Nat}{e a b c tg:Expr}{i j k:E}{pos p p' p2 dp:iw}{n:Nat}{x:bG}
theorem Gj:∀ks:List (List Int),Pv.ZR (ks.map Pv.Zb)=aa ks
 |[]=>rfl
 |k::ks=>by
  have hi:∀k:List Int,Pv.intsV (k.map Pv.V.int)=aa k:=λk=>by
   induction k with|nil=>rfl|cons n k ih=>show(Pv.intsV<|k.map Pv.V.int).map (n :: ·)=_;rw[ih];rfl
  show(match Pv.intsV (k.map Pv.V.int),Pv.ZR (ks.map Pv.Zb)with|some a,aa b=>aa (a::b)|_,_=>ae)=_
  rw[hi,Gj ks]
end
end Sd
namespace Sd
open PySem PySem.Spec PyProof.Rows
def wu.store{h:bY}{a:aI}{o:fD}{es es':Array (Int×al)}{ep:Nat}{t t':cX}(ho:h.get? a=aa o)(hd:o.data=.set es ep t):(h.update a<|oS es' t').get? a=aa {o with data:=.set es' (ep+1) t' }:=by
 have:=ee (oS es' t') ho (by rw[putSet_of es' t' hd];rfl)
 rwa [putSet_of es' t' hd]at this
noncomputable def XC(w:bN):Bool:=!w.params.followText "set-order"
section
variable{prog:bC}{w:bN}{A:cD}{E:al->aw->Prop}{s:aw}
def u9(a:al){Q:al->aw->Prop}(h:Q (.ref s.heap.objs.size) {s with heap:=s.heap.push {cls:=.type "set",dict:=ae,data:=.set #[] 0 (.fresh 0 0<|XC w)}}) :
  fq (aQ prog w) A (.call (.builtin "set.__new__") #[[.type "set",a],[]]) (wants Q E) s:=by
 refine lu ?_;show aW _ A.in1 (do checkBuiltinCall "set.__new__" #[[.type "set",a],[]];o9 (.builtin "set.__new__" #[[.type "set",a],[]])) _ _ s;refine ab<|eY (F.newCall_set_1 a)<|au #[mv oj _,fj F.entry_set_new ?_];rw[eK oj _];unfold dE.«set.__new__» dE.Frozenset.newClass;have hsub:=sub_set_self;obtain⟨hp,g,d,tk,os⟩:=s
 dsimp only
 wp_walk
 refine eU<|au ?_;dsimp only;simp only[newObj];exact ab<|wpAny_alloc<|au<|au h
end
def XZ:Slot "set_iterator" "__next__" "set_iterator.__next__":=.of (owner:="set_iterator") (n:="__next__") (by rw[typeLookup_type,lC];kernel_rfl) (by decide +kernel) (by decide +kernel) (by decide +kernel) (by first|(left;decide +kernel)|(right;decide +kernel)) (by rw[lS];kernel_rfl)
def Jl:Slot "set_iterator" "__iter__" "set_iterator.__iter__":=.of (owner:="set_iterator") (n:="__iter__") (by rw[typeLookup_type,lC];kernel_rfl) (by decide +kernel) (by decide +kernel) (by decide +kernel) (by first|(left;decide +kernel)|(right;decide +kernel)) (by rw[lS];kernel_rfl)
def x4:entryFor table "set_iterator.__next__" = aa dE.«set_iterator.__next__»:=entryFor_of_tree (by kernel_rfl)
def x6:entryFor table "set_iterator.__iter__" = aa dE.«dict_keyiterator.__iter__»:=entryFor_alias (id':="dict_keyiterator.__iter__") (by kernel_rfl) rfl (by decide +kernel) (by kernel_rfl)
def zu:entryFor table "set.__iter__" = aa dE.«frozenset.__iter__»:=entryFor_alias (id':="frozenset.__iter__") (by kernel_rfl) rfl (by decide +kernel) (by kernel_rfl)
def vh:Manifest.owners.lookup (String.ofList ['r','o','t','a','r','e','t','i','_','t','e','s'].reverse)=aa Manifest.sig_set_iterator:=by kernel_rfl
def uG(a:al):argsOk "set_iterator.__next__" #[[a],[]]:=by unfold argsOk;rw[signature?_of (id:="set_iterator.__next__") (n:=['_','_','t','x','e','n','_','_']) (o:=['r','o','t','a','r','e','t','i','_','t','e','s']) (by kernel_rfl) vh];kernel_rfl
def uM(a:al):argsOk "set_iterator.__iter__" #[[a],[]]:=by unfold argsOk;rw[signature?_of (id:="set_iterator.__iter__") (n:=['_','_','r','e','t','i','_','_']) (o:=['r','o','t','a','r','e','t','i','_','t','e','s']) (by kernel_rfl) vh];kernel_rfl
theorem yS{B:Type}{nx:Nat->Nat}:∀(n k:Nat)(l:List B)(out:Array B),l.length=n->(ni nx n k l out).toList.Perm (out.toList++l)
 |0,k,l,out,h=>by
  cases l with|nil=>simp[ni]|cons=>cases h
 |n+1,k,l,out,h=>by
  have hj:nx k%l.length<l.length:=mQ _ (by omega)
  unfold ni;rw[af hj];refine(yS n (k+1) _ _<|by rw[List.length_eraseIdx_of_lt hj];omega).trans ?_
  rw[eJ,bz];refine List.Perm.append_left _ ?_;rw[List.eraseIdx_eq_take_drop_succ];have e:=cM (nx k%l.length) l;rw[bZ hj]at e;have p:(iu (nx k%l.length) l++l[nx k%l.length]::pc (nx k%l.length+1) l).Perm (l[nx k%l.length]::(iu (nx k%l.length) l++pc (nx k%l.length+1) l)):=nU;exact p.symm.trans (by rw[e])
noncomputable def XA(w:bN)(a:aI)(ep:Nat)(es:Array (Int×al)):Array (Int×al):=if w.params.followText "set-order" = am then pickOrder (w.params.setOrder a ep) es else es
def JK{w:bN}{a:aI}{ep:Nat}{es:Array (Int×al)}:(XA w a ep es).toList.Perm es.toList:=by
 unfold XA;split
 .unfold pickOrder
  simpa using yS es.size 0 es.toList #[] (by simp)
 .exact cu _
def Wa{w:bN}{a:aI}{ep:Nat}{es:Array (Int×al)}:(XA w a ep es).size=es.size:=by
 rw[<-ay,JK.length_eq,ay]
section
variable{prog:bC}{w:bN}{A:cD}{E:al->aw->Prop}{s:aw}{a it:aI}{b i ep:Nat}{o:fD}{tg:Nat->Nat}
def uC{Q:Bool->aw->Prop}(hT:s.TypeIs (.ref a) "set")(h:Q ap s):aW (aQ prog w) A (io<|.ref a) Q E s:=by
 unfold io;refine ab<|lj hT F.slot_set_len.lookup ?_;generalize hid:("set.__len__" : String)=id0
 wp_delta
 rw[show splitId id0=aa ("set","__len__")from by subst hid;decide +kernel];subst hid
 refine ab<|kG (T:="set") (b:=am) hT (by rw[lS];kernel_rfl) ?_;refine wpAny_ite_split (λz=>T7 z<|by decide) (λ_=>wpAny_ite_split (λ_=>ab<|ig hT<|au h) λz=>T7 (by decide +kernel) z)
end
open L2
section
variable{prog:bC}{w:bN}{A:cD}{E:al->aw->Prop}{s:aw}{d:aI}
def zi{T:String}{n:Nat}{P:Nat->al->Prop}{OK:bY->Prop}{κ:fA}{lt:Nat->Nat->Bool}{vs:List al}{Q:al->aw->Prop}(src:lR prog w T d d n P OK)(hh:A.handled=ae)(hok:OK s.heap)(hv:∀acc,ItemsOf P acc n->acc.toList=vs)(hn:n<=100000)(hl:vs.length=n)
  (O:Sq.Ord vs.length lt)(K:Sq.Asks prog w A.in1.in1 s.heap vs κ lt)
  (h:∀p h' tk D n,Sq.Pm vs.length p->Sq.Up (Sq.ltR ap vs.length lt) p vs.length->(∀b o,s.heap.get? b=aa o->h'.get? b=aa o)->s.heap.objs.size<=D->h'.get? D=aa (eW "list" (cB<|bi ap<|p.toList.map λi=>(bi ap vs).getD i bf) n)->Q (.ref D) {s with heap:=h',toks:=tk}) :
  aW (aQ prog w) A (call (.builtin "sorted") [.ref d]) Q E s:=by
 refine Calls.call_function_entry kind_sorted plain_sorted entry_sorted (args_sorted1 _) ?_;unfold dE.«sorted»;refine ab (m:=checkCount "sorted" 1 1 _)<|au ?_;refine ab<|wb (A:=A.in1) src hh hok (by rw[cI];omega) λh1 tk acc hk big hacc=>?_
 rw[hv acc hacc];refine ab<|mr ?_ (by rw[cI];omega)
 have hoL:(h1.push<|eW "list" vs.toArray 0).get? h1.objs.size=aa (eW "list" vs.toArray 0):=aJ _ rfl;show aW _ _ _ _ _ {s with heap:=h1.push<|eW "list" vs.toArray 0,toks:=tk}
 refine ab (bR (cG slot_list_sort #[_,hoL,rfl] entry_list_sort (by
  rw[Sq.xI];exact Sq.list_sort_rev (h0:=s.heap) hoL (by omega) (λb o e=>by
   have hlt:b<h1.objs.size:=aF<|hk b o e;exact#[bv hlt,aq _<|hk b o e]) O K λp a1 a2=>#[_,rfl,au #[_,rfl,by
    obtain⟨n,hn⟩:=sortedHeap_at (out:=cB<|bi ap<|p.toList.map λi=>(bi ap vs).getD i bf) hoL
    exact h p _ tk _ n a1 a2 (λb o e=>by
     have hlt:b<h1.objs.size:=aF<|hk b o e;rw[sortedHeap_old (bv hlt) (by rw[oP];exact dr hlt)]
     exact aq _<|hk b o e) big hn]])<|args_list_sort _))
end
open Ev (E Sm Fn Bop Cop Ty Bf Mf)
end Sd
namespace Sd
open PySem PySem.Spec PyProof.Rows
noncomputable def fxm(m x:Nat):Nat:=(x*5+1)%(m+1)
noncomputable def orb(m:Nat):Nat->Nat->Nat
 |0,x=>x
 |n+1,x=>orb m n<|fxm m x
noncomputable def Zcn(m:Nat):Nat->Nat->List Nat
 |0,_=>[]
 |n+1,x=>x::Zcn m n (fxm m x)
noncomputable def ZcR(m:Nat):Bool:=ai (orb m (m+1) 0=0)&&(aM<|m+1).all (Zcn m (m+1) 0).contains
noncomputable def YQ:List Nat:=[7,31,127,511]
def jo:YQ.all ZcR=am:=by decide +kernel
theorem WY(m:Nat):∀(a b x:Nat),orb m (a+b) x=orb m b (orb m a x)
 |0,b,x=>by rw[gv];rfl
 |a+1,b,x=>by rw[nj];exact WY m a b<|fxm m x
theorem yF(m:Nat):∀{n x e:Nat},e∈Zcn m n x->∃k,k<n/\orb m k x=e
 |0,_,_,h=>by cases h
 |n+1,x,e,h=>by
  rcases aA.mp h with rfl|h
  .exact#[0,by omega,rfl]
  .obtain⟨k,h1,h2⟩:=yF m h
   exact#[k+1,by omega,h2]
def xK{m i e:Nat}(hm:m∈YQ)(hi:i<=m)(he:e<=m):∃k,k<=m/\orb m k i=e:=by
 obtain⟨h1,h2⟩:=(aC _ _).mp<|aT.mp jo m hm;have h1:=T6 h1;have at':∀j,j<=m->∃k,k<m+1/\orb m k 0=j:=λj hj=>yF m<|eg.mp<|aT.mp h2 j<|aU.mpr (by omega)
 obtain⟨a,a1,a2⟩:=at' i hi;obtain⟨b,b1,b2⟩:=at' e he;by_cases c:a<=b
 .refine#[b-a,by omega,?_]
  rw[<-a2,<-WY,show a+(b-a)=b by omega,b2]
 .refine#[b+(m+1)-a,by omega,?_]
  rw[<-a2,<-WY,show a+(b+(m+1)-a)=(m+1)+b by omega,WY,h1,b2]
noncomputable def lp(m:Nat):Nat->Nat×Nat->Nat×Nat
 |0,q=>q
 |n+1,q=>lp m n<|dq m q.1 q.2
theorem zH(m:Nat):∀n i,lp m n (i,0)=(orb m n i,0)
 |0,_=>rfl
 |n+1,i=>by
  show lp m n (dq m i 0)=_;rw[show dq m i 0=(fxm m i,0)from rfl,zH m n];rfl
theorem vi(m:Nat):∀(a b:Nat)(q:Nat×Nat),lp m (a+b) q=lp m b (lp m a q)
 |0,b,q=>by rw[gv];rfl
 |a+1,b,q=>by rw[nj];exact vi m a b _
theorem vA(m:Nat):∀(n:Nat)(q:Nat×Nat),(lp m n q).2=q.2 / 32^n
 |0,q=>by rw[Nat.pow_zero,Nat.div_one];rfl
 |n+1,q=>by
  show(lp m n<|dq m q.1 q.2).2=_;rw[vA m n,show(dq m q.1 q.2).2=q.2 / 32 from rfl,Nat.div_div_eq_div_mul,ip,fH]
def X7(m i p:Nat):(dq m i p).1<=m:=by
 have:(dq m i p).1<m+1:=mQ _ (by omega)
 omega
theorem ZaO{m:Nat}:∀{n:Nat}{q:Nat×Nat},q.1<=m->(lp m n q).1<=m
 |0,_,h=>h
 |n+1,q,_=>ZaO (n:=n)<|X7 m q.1 q.2
def JN{m i p e:Nat}(hm:m∈YQ)(hi:i<=m)(hp:p<2^64)(he:e<=m):∃n,n<=m+13/\(lp m n (i,p)).1=e:=by
 have h0:(lp m 13 (i,p)).2=0:=by
  rw[vA];exact Nat.div_eq_of_lt<|bg hp (by decide)
 have h1:(lp m 13 (i,p)).1<=m:=ZaO hi;obtain⟨k,k1,k2⟩:=xK hm h1 he;refine#[13+k,by omega,?_]
 rw[vi,show lp m 13 (i,p)=((lp m 13 (i,p)).1,0)from pj rfl h0,zH]
 exact k2
def yi(h:Int):bJ h<2^64:=by
 unfold bJ;have:=d9 h (show(0:Int)<2^64 by decide)
 have:=fk h (show(2:Int)^64≠0 by decide)
 omega
def QI{m i:Nat}(h:i<=m):i<=cF m i/\cF m i<=m/\cF m i-i<=9:=by
 unfold cF;split<;>omega
noncomputable def cnt(xs:List Nat)(j:Nat):Nat:=xs.countP (· < j)
theorem Xj:∀{xs:List Nat}{j:Nat},xs.Pairwise (· < ·)->∀i (hi:i<xs.length),xs[i]<j↔i<cnt xs j
 |[],_,_,i,hi=>by simp at hi
 |x::xs,j,h,i,hi=>by
  obtain⟨h1,h2⟩:=aZ.mp h;unfold cnt;by_cases c:x<j
  .rw[List.countP_cons_of_pos (by simpa using c)]
   cases i with
   |zero=>simp[c]
   |succ i=>
    have:=Xj (j:=j) h2 i (by simpa using hi)
    unfold cnt at this;simp only[k7];omega
  .rw[List.countP_cons_of_neg (by simpa using c)]
   have z:xs.countP (· < j)=0:=List.countP_eq_zero.mpr λy hy=>by
    have:=h1 y hy;simp;omega
   rw[z];cases i with
   |zero=>simp[c]
   |succ i=>
    have:=h1 _<|aV (l:=xs) (n:=i) (by simpa using hi)
    simp only[k7];omega
def QS(xs:List Nat)(j:Nat):cnt xs j<=xs.length:=List.countP_le_length
theorem Vg{xs:Array Nat}{j:Nat}(hs:xs.toList.Pairwise (· < ·)):∀(f lo hi:Nat),hi-lo<=f->lo<=cnt xs.toList j->cnt xs.toList j<=hi->hi<=xs.size->kf xs j f lo hi=cnt xs.toList j
 |0,lo,hi,hf,h1,h2,_=>by
  show lo=_;omega
 |f+1,lo,hi,hf,h1,h2,h3=>by
  show(if lo<hi then(if xs.getD ((lo+hi) / 2) j<j then kf xs j f ((lo+hi) / 2+1) hi else kf xs j f lo ((lo+hi) / 2))else lo)=_
  by_cases c:lo<hi
  .rw[T9 c]
   have hm:(lo+hi) / 2<xs.size:=by omega
   have key:=Xj (j:=j) hs ((lo+hi) / 2) (by simpa using hm)
   have e:xs.getD ((lo+hi) / 2) j=xs.toList[(lo+hi) / 2]'(by simpa using hm):=by
    rw[dg,aN hm];simp
   rw[e];by_cases d:xs.toList[(lo+hi) / 2]'(by simpa using hm)<j
   .rw[T9 d]
    exact Vg hs f _ hi (by omega) (by have:=key.mp d;omega) h2 h3
   .rw[T8 d]
    exact Vg hs f lo _ (by omega) h1 (by have:=mt key.mpr d;omega) (by omega)
  .rw[T8 c];omega
def Vq{xs:Array Nat}{j:Nat}(hs:xs.toList.Pairwise (· < ·)):lT xs j=cnt xs.toList j:=
 Vg hs xs.size 0 xs.size (by omega) (dB _) (by have:=QS xs.toList j;simpa using this) (aH _)
structure TOk(t:cX):Prop where
 mem:t.mask∈YQ
 srt:t.place.toList.Pairwise (· < ·)
 le:∀j∈t.place.toList,j<=t.mask
 dm:t.dummies = #[]
def u6{t:cX}(T:TOk t)(j:Nat):t.slot j=if j∈t.place.toList then .live (cnt t.place.toList j)else .empty:=by
 unfold cX.slot
 dsimp only
 rw[Vq T.srt,T.dm];have hd:cX.has #[] j=ap:=rfl;rw[hd,T8 aG];by_cases c:j∈t.place.toList
 .rw[T9 c]
  obtain⟨i,hi,e⟩:=bB c;have:cnt t.place.toList j=i:=by
   have h1:=Xj (j:=j) T.srt i hi;have h2:¬i<cnt t.place.toList j:=λz=>by have:=h1.mpr z;omega
   rcases Nat.lt_or_ge (cnt t.place.toList j) i with z|z
   .have h3:=bq.mp T.srt (cnt t.place.toList j) i (by omega) hi z
    have h4:=(Xj (j:=j) T.srt (cnt t.place.toList j)<|by omega).mp (by omega)
    omega
   .omega
  rw[this];have e2:t.place[i]?=aa j:=by
   rw[<-aX,af hi,e]
  rw[T9 (by rw[e2];simp)]
 .rw[T8 c]
  refine T8 λz=>c ?_
  have z:t.place[cnt t.place.toList j]?=aa j:=by simpa using z
  rw[<-aX]at z;exact c9 z
noncomputable def adv(t:cX):Nat->eX->eX
 |0,p=>p
 |n+1,p=>adv t n<|t.advance p
theorem QC(t:cX):∀(a b:Nat)(p:eX),adv t (a+b) p=adv t b (adv t a p)
 |0,b,p=>by rw[gv];rfl
 |a+1,b,p=>by rw[nj];exact QC t a b _
theorem yR(t:cX):∀(c:Nat)(p:eX),c<=p.more->adv t c p={p with j:=p.j+c,more:=p.more-c}
 |0,p,_=>rfl
 |c+1,p,h=>by
  show adv t c (t.advance p)=_;have e:t.advance p={p with j:=p.j+1,more:=p.more-1}:=T9 (by omega)
  rw[e,yR t c _ (by show c<=p.more-1;omega)]
  show({j:=p.j+1+c,more:=p.more-1-c,i:=p.i,perturb:=p.perturb,dummy:=p.dummy}:eX)=_;rw[show p.j+1+c=p.j+(c+1) by omega,show p.more-1-c=p.more-(c+1) by omega]
noncomputable def at_(m:Nat)(q:Nat×Nat)(d:Option Nat):eX:={j:=q.1,more:=cF m q.1-q.1,i:=q.1,perturb:=q.2,dummy:=d}
def vC(t:cX){q:Nat×Nat}{d:Option Nat}(hq:q.1<=t.mask):∃k,k<=10/\adv t k (at_ t.mask q d)=at_ t.mask (dq t.mask q.1 q.2) d:=by
 have h9:=(QI hq).2.2;refine#[(cF t.mask q.1-q.1)+1,by omega,?_]
 rw[QC,yR t (cF t.mask q.1-q.1) (at_ t.mask q d)<|aH _];show t.advance _=_;exact T8 (by show¬(cF t.mask q.1-q.1)-(cF t.mask q.1-q.1)>0;omega)
theorem UH(t:cX){d:Option Nat}:∀(n:Nat){q:Nat×Nat},q.1<=t.mask->∃k,k<=10*n/\adv t k (at_ t.mask q d)=at_ t.mask (lp t.mask n q) d
 |0,q,_=>#[0,by omega,rfl]
 |n+1,q,hq=>by
  obtain⟨a,a1,a2⟩:=vC t (d:=d) hq;obtain⟨b,b1,b2⟩:=UH t (d:=d) n<|X7 t.mask q.1 q.2;exact#[a+b,by omega,by rw[QC,a2,b2];rfl]
theorem Zaz{t:cX}(T:TOk t){ha:Nat->Int}{h:Int}(hh:∀i,i<t.place.size->ha i≠h):∀(f:Nat)(p:eX),p.j+p.more<=t.mask->p.i<=t.mask->(∃k,k<f/\(adv t k p).j∉t.place.toList)->∃j,kg t ha h f p=aa (.empty j p.dummy)/\j∉t.place.toList/\j<=t.mask
 |0,_,_,_,#[_,h,_]=>by omega
 |f+1,p,h1,h2,#[k,k1,k2]=>by
  rw[kg,u6 T];by_cases c:p.j∈t.place.toList
  .rw[T9 c]
   have hc:cnt t.place.toList p.j<t.place.size:=by
    obtain⟨i,hi,e⟩:=bB c;have:=Xj (j:=p.j) T.srt i hi;have h3:¬i<cnt t.place.toList p.j:=λz=>by have:=this.mpr z;omega
    have:i<t.place.size:=by simpa using hi
    omega
   have hne:(ha (cnt t.place.toList p.j) == h)=ap:=by simpa using hh _ hc
   show ∃j,(if(ha (cnt t.place.toList p.j) == h)=am then _ else kg t ha h f (t.advance p))=_/\_
   rw[hne,T8 aG];have ed:(t.advance p).dummy=p.dummy:=by
    unfold kL;split<;>rfl
   have g:=Zaz T hh f (t.advance p) (by
    unfold kL;split
    .show p.j+1+(p.more-1)<=t.mask;omega
    .have:=X7 t.mask p.i p.perturb
     have:=QI this;show(dq t.mask p.i p.perturb).1+(cF t.mask (dq t.mask p.i p.perturb).1-(dq t.mask p.i p.perturb).1)<=t.mask;omega) (by
    unfold kL;split
    .exact h2
    .exact X7 t.mask p.i p.perturb) (by
    cases k with
    |zero=>exact T7 c k2
    |succ k=>exact#[k,by omega,k2])
   rw[ed]at g;exact g
  .rw[T8 c]
   exact#[p.j,rfl,c,by omega]
def GX{t:cX}(T:TOk t)(hl:t.place.size<=t.mask):∃e,e<=t.mask/\e∉t.place.toList:=by
 by_cases c:∃e,e<=t.mask/\e∉t.place.toList
 .exact c
 .have hs:∀e∈aM (t.mask+1),e∈t.place.toList:=λe he=>by
   have:=aU.mp he;by_cases z:e∈t.place.toList
   .exact z
   .exact T7 #[e,by omega,z] c
  have:=(kH (n:=t.mask+1)).length_le_of_subset hs;rw[bE,ay]at this;omega
def zj{t:cX}(T:TOk t)(hl:t.place.size<=t.mask){ha:Nat->Int}{h:Int}(hh:∀i,i<t.place.size->ha i≠h):∃j,t.probe ha h (t.probeStart h)=aa (.empty j ae)/\j∉t.place.toList/\j<=t.mask:=by
 obtain⟨e,e1,e2⟩:=GX T hl;have hi:bJ h%(t.mask+1)<=t.mask:=by
  have:=mQ (bJ h) (show 0<t.mask+1 by omega)
  omega
 obtain⟨n,n1,n2⟩:=JN T.mem hi (yi h) e1;obtain⟨k,k1,k2⟩:=UH t (d:=ae) n (q:=(bJ h%(t.mask+1),bJ h)) hi;have r:=QI hi;refine Zaz T hh _ (t.probeStart h) (by
  show bJ h%(t.mask+1)+(cF t.mask (bJ h%(t.mask+1))-bJ h%(t.mask+1))<=t.mask;omega) hi #[k,by unfold gw;omega,?_]
 show(adv t k<|at_ t.mask (bJ h%(t.mask+1),bJ h) ae).j∉_;rw[k2];show(lp t.mask n (bJ h%(t.mask+1),bJ h)).1∉_;rw[n2];exact e2
def JO{B:Type}(xs:Array B)(p:Nat)(x:B)(hp:p<=xs.size):(bW xs p x).toList=xs.toList.take p++x::xs.toList.drop p:=by
 unfold bW;simp;exact b9 (by simp)
def GW{l:List Nat}{j:Nat}(h:l.Pairwise (· < ·))(hj:j∉l):(l.take (cnt l j)++j::l.drop (cnt l j)).Pairwise (· < ·):=by
 have ht:∀a∈l.take (cnt l j),a<j:=λa ha=>by
  obtain⟨i,hi,rfl⟩:=bB ha;rw[bh]at hi;rw[eG];exact(Xj h i<|by omega).mpr (by omega)
 have hd:∀a∈l.drop (cnt l j),j<a:=λa ha=>by
  obtain⟨i,hi,rfl⟩:=bB ha;rw[bo]at hi;rw[eI];have:=mt (Xj (j:=j) h (cnt l j+i)<|by omega).mp (by omega)
  have ne:l[cnt l j+i]≠j:=λe=>hj<|e▸aV (by omega)
  omega
 refine cR.mpr #[h.sublist<|iZ ..,aZ.mpr #[hd,h.sublist<|ng ..],λa ha b hb=>?_]
 rcases aA.mp hb with rfl|hb
 .exact ht a ha
 .have:=ht a ha;have:=hd b hb;omega
def ZT{B:Type}(l:List B)(p:Nat)(x:B):(l.take p++x::l.drop p).Perm (x::l):=by
 refine nU.trans<|List.Perm.cons x ?_;rw[cM]
def ZbX{t:cX}(T:TOk t){j:Nat}(hj:j∉t.place.toList)(hl:j<=t.mask):TOk (t.put j).1/\(t.put j).1.place.size=t.place.size+1/\(t.put j).2=cnt t.place.toList j/\(t.put j).1.mask=t.mask/\(t.put j).1.plain=t.plain/\(t.put j).1.led=t.led:=by
 have hb:=Vq (j:=j) T.srt;have hc:cnt t.place.toList j<=t.place.size:=by have:=QS t.place.toList j;simpa using this
 have hp:(t.put j).1.place.toList=t.place.toList.take (cnt t.place.toList j)++j::t.place.toList.drop (cnt t.place.toList j):=by
  show(bW t.place (lT t.place j) j).toList=_;rw[hb,JO _ _ _ hc]
 refine#[#[T.mem,by rw[hp];exact GW T.srt hj,λa ha=>?_,?_],?_,hb,rfl,rfl,rfl]
 .rw[hp]at ha
  rcases aA.mp ((ZT _ _ _).mem_iff.mp ha)with rfl|ha
  .exact hl
  .exact T.le a ha
 .show(if cX.has t.dummies j=am then _ else t.dummies) = #[]
  rw[T.dm];rfl
 .rw[<-ay,hp,(ZT _ _ _).length_eq,aS,ay]
theorem UY{m:Nat}{owner:Array (Option Nat)}:∀(f i p:Nat),i<=m->(∃n,n<f/\owner.getD (lp m n (i,p)).1 (aa 0)=ae)->∃j,j<=m/\fe m owner f i p=aa j/\owner.getD j (aa 0)=ae
 |0,_,_,_,#[_,h,_]=>by omega
 |f+1,i,p,hi,#[n,n1,n2]=>by
  have r:=QI hi;rw[fe];cases q:(aM<|cF m i+1-i).find? λk=>(owner.getD (i+k)<|aa 0).isNone with
  |some k=>
   have h1:=aU.mp<|fM q;have h2:=lw q;exact#[i+k,by omega,rfl,iW.mp h2]
  |none=>
   cases n with
   |zero=>
    have:=fZ.mp q 0<|aU.mpr (by omega)
    rw[Nat.add_zero]at this;have n2:owner.getD i (aa 0)=ae:=n2;rw[n2]at this;exact T7 rfl this
   |succ n=>
    exact UY f _ _ (X7 m i p) #[n,by omega,n2]
theorem GB{k:Nat}:∀{l:List (Option Nat)}{j:Nat},l[j]?=aa ae->((l.set j<|aa k).filterMap id).Perm (k::l.filterMap id)
 |[],j,h=>by simp at h
 |o::l,0,h=>by
  have h:o=ae:=by simpa using h
  subst h;exact cu _
 |o::l,j+1,h=>by
  have ih:=GB (k:=k) (l:=l) (j:=j) (by simpa using h)
  cases o with|none=>exact ih|some x=>exact(ih.cons x).trans<|iQ ..
theorem JG:∀{l:List (Option Nat)},(∀o∈l,o≠ae)->(l.filterMap id).length=l.length
 |[],_=>rfl
 |o::l,h=>by
  cases o with
  |none=>exact T7 rfl<|h ae<|ak ..
  |some x=>
   show(l.filterMap id).length+1=l.length+1;rw[JG λo ho=>h o<|aj _ ho]
structure Own2(m:Nat)(owner:Array (Option Nat))(k:Nat):Prop where
 sz:owner.size=m+1
 pm:(owner.toList.filterMap id).Perm (aM k)
noncomputable def u5(m:Nat)(acc:Option (Array (Option Nat)×Nat))(h:Int):Option (Array (Option Nat)×Nat):=do
 let x <-acc
 match x with
 |(owner,k)=>do
  let j <-fe m owner (gw m) (bJ h%(m+1)) (bJ h)
  c7 (owner.setIfInBounds j<|aa k,k+1)
def uo{m k:Nat}{owner:Array (Option Nat)}{h:Int}(hm:m∈YQ)(O:Own2 m owner k)(hk:k<=m):∃o',u5 m (aa (owner,k)) h=aa (o',k+1)/\Own2 m o' (k+1):=by
 have hi:bJ h%(m+1)<=m:=by
  have:=mQ (bJ h) (show 0<m+1 by omega)
  omega
 obtain⟨e,e1,e2⟩:∃e,e<=m/\owner.getD e (aa 0)=ae:=by
  by_cases c:∃e,e<=m/\owner.getD e (aa 0)=ae
  .exact c
  .have:=JG (l:=owner.toList) λo ho z=>by
    subst z;obtain⟨i,hi,e⟩:=bB ho;have hi':i<owner.size:=by simpa using hi
    refine c #[i,by rw[O.sz]at hi';omega,?_]
    rw[dg,aN hi'];have:owner[i]=ae:=by simpa using e
    rw[this];rfl
   rw[O.pm.length_eq,bE,ay,O.sz]at this;omega
 obtain⟨n,n1,n2⟩:=JN hm hi (yi h) e1;obtain⟨j,j1,j2,j3⟩:=UY (owner:=owner) (gw m) _ (bJ h) hi #[n,by unfold gw;omega,by rw[n2];exact e2]
 refine#[owner.setIfInBounds j<|aa k,?_,by rw[kq];exact O.sz,?_]
 .unfold u5
  show(fe m owner (gw m) (bJ h%(m+1))<|bJ h).bind _=_;rw[j2];rfl
 .rw[fB]
  have hj:owner.toList[j]?=aa ae:=by
   have hj:j<owner.size:=by rw[O.sz];omega
   rw[aX,aN hj];rw[dg,aN hj]at j3;exact congrArg aa j3
  refine(GB hj).trans<|(O.pm.cons k).trans ?_;rw[on];exact(iS k _).symm
theorem zO{m:Nat}(hm:m∈YQ):∀(hs:List Int){k:Nat}{owner:Array (Option Nat)},Own2 m owner k->k+hs.length<=m->∃o',hs.foldl (u5 m) (aa (owner,k))=aa (o',k+hs.length)/\Own2 m o' (k+hs.length)
 |[],_,owner,O,_=>#[owner,rfl,O]
 |h::hs,k,owner,O,hk=>by
  rw[aS]at hk;obtain⟨o1,e1,O1⟩:=uo (h:=h) hm O (by omega)
  obtain⟨o2,e2,O2⟩:=zO hm hs O1 (by omega)
  rw[fT,e1,aS,show k+(hs.length+1)=k+1+hs.length by omega]
  exact#[o2,e2,O2]
theorem VE{B:Type}{g:Nat->Option B}:∀l:List Nat,(l.filterMap λj=>(g j).map λx=>(j,x)).map lV=l.filter λj=>(g j).isSome
 |[]=>rfl
 |j::l=>by
  rw[dP,kM];cases h:g j with
  |none=>exact VE l
  |some x=>
   show j::_=_;rw[VE l];rfl
theorem Vj{B:Type}{g:Nat->Option B}:∀l:List Nat,(l.filterMap λj=>(g j).map λx=>(j,x)).map lW=l.filterMap g
 |[]=>rfl
 |j::l=>by
  rw[dP,dP];cases h:g j with
  |none=>exact Vj l
  |some x=>
   show x::_=_;rw[Vj l]
def GS(o:Array (Option Nat)):(aM o.size).filterMap (λj=>o.getD j ae)=o.toList.filterMap id:=by
 have e:o.toList=(aM o.size).map λj=>o.getD j ae:=by
  refine bV λi=>?_
  rw[aK];by_cases h:i<o.size
  .rw[cJ h,aX,aN h]
   show aa o[i]=aa (o.getD i ae);rw[dg,aN h];rfl
  .rw[bn (by rw[ay];omega),bn (by rw[bE];omega)];rfl
 rw[e,iE];rfl
def qA{t:cX}{hs:Array Int}{w:Nat}(hm:cC w-1∈YQ)(hn:hs.size<=cC w-1):∃t' order,t.relaid hs w=aa (t',order)/\TOk t'/\t'.mask=cC w-1/\t'.place.size=hs.size/\t'.plain=t.plain/\t'.led=t.led/\order.toList.Perm (aM hs.size):=by
 generalize hM:cC w-1=m at hm hn;have O0:Own2 m (oo (m+1) ae) 0:=#[Array.size_replicate,by
  rw[Array.toList_replicate];have:∀n,(aB n (ae:Option Nat)).filterMap id=[]:=λn=>by
   induction n with|zero=>rfl|succ n ih=>rw[bx];exact ih
  rw[this];exact cu _]
 obtain⟨o,e1,O⟩:=zO hm hs.toList O0 (by rw[ay];omega)
 rw[ay,gv]at e1 O
 let live:=(aM<|m+1).filterMap λj=>(o.getD j ae).map λx=>(j,x)
 have e2:nk m hs=aa o:=by
  unfold nk;rw[<-Array.foldl_toList];show((hs.toList.foldl (u5 m)<|aa (oo (m+1) ae,0)).map _)=_;rw[e1];rfl
 have e3:t.relaid hs w=aa ({mask:=m,place:=(live.map lV).toArray,dummies:=#[],finger:=t.finger,led:=t.led,moves:=t.movedTo m,plain:=t.plain},(live.map lW).toArray):=by
  unfold oq;rw[hM];unfold cX.laid;rw[e2];rfl
 have hf:live.map lV=(aM<|m+1).filter λj=>(o.getD j ae).isSome:=VE _
 have hsn:live.map lW=o.toList.filterMap id:=by
  rw[<-GS,O.sz];exact Vj _
 refine#[_,_,e3,#[hm,?_,λj hj=>?_,rfl],rfl,?_,rfl,rfl,?_]
 .show(live.map lV).Pairwise (· < ·)
  rw[hf];exact k8.filter _
 .have hj:j∈live.map lV:=hj
  rw[hf]at hj;have:=aU.mp (fg.mp hj).1;show j<=m;omega
 .show(live.map lV).toArray.size=hs.size
  rw[ax,az,<-az (f:=lW) (as:=live),hsn,O.pm.length_eq,bE]
 .show(live.map lW).Perm _
  rw[hsn];exact O.pm
def wx{es:Array (Int×al)}{order:Array Nat}(h:order.toList.Perm (aM es.size)):(order.filterMap λx=>es[x]?).toList.Perm es.toList:=by
 rw[Array.toList_filterMap];refine(h.filterMap _).trans<|hU ?_;exact filterMap_getElem?_range _
def WM(h:bY)(a:aI)(led:Bool)(L:List (Int×al)):Prop:=∃o es ep t,h.get? a=aa o/\o.ExactSet/\o.data=.set es ep t/\TOk t/\t.place.size=es.size/\t.plain=am/\t.led=led/\es.toList.Perm L/\es.size*5<t.mask*3
def WM.keep{h h':bY}{a:aI}{led:Bool}{L:List (Int×al)}(S:WM h a led L)(k:∀o,h.get? a=aa o->h'.get? a=aa o):WM h' a led L:=
 let #[o,es,ep,t,ho,r]:=S;#[o,es,ep,t,k o ho,r]
def JJ{t:cX}{n:Nat}(T:TOk t)(h:t.place.size=n)(hl:n*5<t.mask*3):t.fits n=am:=by
 unfold o0 ku;rw[T.dm,h,aC];exact#[by simp,T5 (by show n+0<=t.mask;omega)]
def qT{t:cX}{n:Nat}(T:TOk t)(h:t.place.size=n)(hl:n<=t.mask):t.fits n=am:=by
 unfold o0 ku;rw[T.dm,h,aC];exact#[by simp,T5 hl]
def qo{t:cX}(T:TOk t):t.gaveWay=ap:=by
 have:YQ.all (λm=>!(m%2 == 0))=am:=by decide
 have:=aT.mp this _ T.mem;unfold cX.gaveWay
 simpa using this
noncomputable def vp(n m:Nat):Bool:=!(ai (m*3<=n*5)&&ai ((n-1)*5<m*3))||(ai (cC (fC n)-1∈YQ)&&ai (n*5<(cC (fC n)-1)*3)&&ai (cC (fC n)<=16777216))
def wz:(aM 301).all (λn=>YQ.all λm=>vp n m)=am:=by decide +kernel
def Zae{n m:Nat}(hn:n<=300)(hm:m∈YQ)(h1:m*3<=n*5)(h2:(n-1)*5<m*3):cC (fC n)-1∈YQ/\n*5<(cC (fC n)-1)*3/\cC (fC n)<=bp:=by
 have h:=aT.mp (aT.mp wz n<|aU.mpr<|by omega) m hm
 unfold vp at h;rw[T5 h1,T5 h2]at h;simp only[aC,T0,Bool.and_true,gQ,kj]at h;exact#[h.1.1,h.1.2,by rw[cI];exact h.2]
section
variable{prog:bC}{w:bN}{A:cD}{E:al->aw->Prop}{s:aw}{a x:aI}{hx:Int}{led:Bool}{L:List (Int×al)}
def wf{Q:Bool->aw->Prop}(hS:WM s.heap a led L)(hn:∀e∈L,e.1≠hx)(hl:L.length<300)(hv:∀{A:cD}{E:al->aw->Prop}{Q:Bool->aw->Prop},Q am s->aW (aQ prog w) A (hashByValue 8<|.ref x) Q E s)
  (h:∀h',eZ a s.heap h'->WM h' a led ((hx,.ref x)::L)->Q am {s with heap:=h' }):aW (aQ prog w) A (np a (.ref x) hx) Q E s:=by
 obtain⟨o,es,ep,t,ho,hex,hd,T,hp,hpl,hld,pm,hr⟩:=hS;have hf:=JJ T hp hr;have hes:es.size=L.length:=by rw[<-ay,pm.length_eq]
 have hg:=qo T;unfold np setAddHashedIn;refine bR<|ab<|dN ho hd hf ?_
 dsimp only
 rw[show byScan (.ref x) es=ap from rfl,T8 aG]
 refine ab ?_;unfold setSearch setSearchFrom;refine ab<|dN ho hd hf ?_
 dsimp only
 rw[hg,T8 aG];obtain⟨j,ej,hj,hjm⟩:=zj T (by omega) (ha:=λi=>(Option.map (λx=>x.fst) es[i]?).getD 0) (h:=hx) λi hi=>by
  rw[hp]at hi;rw[aN hi];exact hn _<|pm.mem_iff.mp<|Array.getElem_mem_toList hi
 generalize hq:cX.probe t _ _ _=r;have hr2:r=aa (.empty j ae):=hq.symm.trans ej;subst hr2;refine au ?_;refine ab<|dN ho hd hf ?_
 dsimp only
 obtain⟨T1,p1,c1,m1,pl1,ld1⟩:=ZbX T hj hjm;generalize ht1:t.put j=t1 at T1 p1 c1 m1 pl1 ld1;obtain⟨t1,p⟩:=t1
 dsimp only at T1 p1 c1 m1 pl1 ld1 ⊢
 rw[T9<|pl1.trans hpl];refine ab<|hv ?_;rw[T9 rfl];have pm1:(bW es p (hx,bT x)).toList.Perm ((hx,bT x)::L):=by
  have hc:p<=es.size:=by rw[c1,<-hp];have:=QS t.place.toList j;simpa using this
  rw[JO _ _ _ hc];exact(ZT _ _ _).trans<|pm.cons _
 have sz1:(bW es p (hx,bT x)).size=es.size+1:=by
  rw[<-ay,pm1.length_eq,aS,hes]
 refine ab<|nq ho hd ?_ (by rw[sz1,hes,cI];omega)
 have g1:=wu.store (es':=bW es p (hx,bT x)) (t':=t1) ho hd;have sb1:=dy s.heap a<|oS (bW es p (hx,bT x)) t1;have hmem:=T.mem;cases q:t1.tooFull with
 |false=>
  rw[T8 (by simp)]
  have hlt:¬t1.fill*5>=t1.mask*3:=of_decide_eq_false q;have hfl:t1.fill=es.size+1:=by
   unfold ku;rw[T1.dm,p1,hp];rfl
  exact au<|h _ sb1 #[_,_,_,t1,g1,hex,rfl,T1,by rw[p1,sz1,hp],pl1.trans hpl,ld1.trans hld,pm1,by rw[sz1];omega]
 |true=>
  rw[T9 (by simp)]
  have hge:t1.fill*5>=t1.mask*3:=T6 q;have hfl:t1.fill=es.size+1:=by
   unfold ku;rw[T1.dm,p1,hp];rfl
  obtain⟨g2,g3,g4⟩:=Zae (n:=es.size+1) (m:=t.mask) (by omega) hmem (by omega) (by omega)
  obtain⟨t2,order,e2,T2,m2,p2,pl2,ld2,om⟩:=qA (t:=t1) (hs:=(bW es p (hx,bT x)).map λx=>x.fst) g2 (by rw[oT,sz1];omega)
  rw[oT]at p2 om;have pm2:=wx om;have sz2:((order.filterMap λy=>(bW es p (hx,bT x))[y]?)).size=es.size+1:=by
   rw[<-ay,pm2.length_eq,ay,sz1]
  refine ab ?_;unfold setRelay;refine ab<|dN g1 rfl (qT T1 (by rw[p1,sz1,hp])<|by rw[sz1,m1];omega) ?_
  dsimp only
  rw[T8 (by omega)]
  generalize hq2:oq t1 _ _=r2;have hr3:r2=aa (t2,order):=hq2.symm.trans e2;subst hr3;refine ab<|eY (a:=((order.filterMap λy=>(bW es p (hx,bT x))[y]?),t2)) ?_ ?_
  .show(if((order.filterMap λy=>(bW es p (hx,bT x))[y]?).size != (bW es p (hx,bT x)).size)=am then _ else _)=_
   rw[sz2,sz1,T8 (by simp)]
  .dsimp only
   refine nq g1 rfl ?_ (by rw[sz2,hes,cI];omega)
   have g5:=wu.store (es':=(order.filterMap λy=>(bW es p (hx,bT x))[y]?)) (t':=t2) g1 rfl
   exact au<|h _ (sb1.trans<|dy _ a _) #[_,_,_,t2,g5,hex,rfl,T2,by rw[p2,sz2,sz1],pl2.trans<|pl1.trans hpl,ld2.trans<|ld1.trans hld,pm2.trans pm1,by rw[sz2,m2];omega]
end
open L2
noncomputable def Y9(r:List Int):Int:=reduceHash<|dE.Tuple.tupleHashOf<|r.map hashInt
def WO(h:bY)(a:aI)(r:List Int):Prop:=∃o us m,h.get? a=aa o/\o.cls=.type "tuple"/\o.data=.seq us.toArray m/\Vals (r.map V.int) us
def WO.keep{h h':bY}{a:aI}{r:List Int}(R:WO h a r)(k:∀o,h.get? a=aa o->h'.get? a=aa o):WO h' a r:=
 let #[o,us,m,ho,q]:=R;#[o,us,m,k o ho,q]
theorem GD{prog:bC}{w:bN}:∀{r:List Int}{us:List al},Vals (r.map V.int) us->ItemsAre (fS prog w) r us
 |[],_,h=>by cases h;exact .nil
 |n::r,_,h=>by
  cases h with
  |cons x h=>
   obtain⟨t,rfl⟩:=x;exact .cons (oK _ _ _ _)<|GD h
def WO.key{prog:bC}{w:bN}{h:bY}{a:aI}{r:List Int}(R:WO h a r):IsTupleKey (fS prog w) h r a:=
 let #[o,us,m,h1,h2,h3,h4]:=R;#[o,us.toArray,m,h1,h2,h3,by simpa using GD h4]
theorem JX:∀{r:List Int}{us:List al},Vals (r.map V.int) us->∀v∈us,∃n t,v=.int n t
 |[],_,h,v,hv=>by cases h;cases hv
 |n::r,_,h,v,hv=>by
  cases h with
  |cons x h=>
   obtain⟨t,rfl⟩:=x;rcases aA.mp hv with rfl|hv
   .exact#[n,t,rfl]
   .exact JX h v hv
section
variable{prog:bC}{w:bN}{A:cD}{E:al->aw->Prop}{s:aw}
def jP{a:aI}{r:List Int}{Q:Bool->aw->Prop}(R:WO s.heap a r)(hQ:Q am s):aW (aQ prog w) A (hashByValue 8<|.ref a) Q E s:=by
 obtain⟨o,us,m,ho,hc,hd,hv⟩:=R;have hi:=JX hv;rw[hashByValue.eq_12];refine ab<|lj #[o,ho,hc] F.slot_tuple_hash.lookup ?_;refine ab (m:=seqItems?<|.ref a) ?_;unfold seqItems?
 refine ab<|mD ho ?_;rw[hd];refine au ?_;refine ab ?_;show aW _ _ (mm us.toArray (ae,()) _) _ _ s;rw[<-Array.forIn_toList];refine kJ _ (λl b s'=>b=(ae,())/\s'=s/\∀v∈l,∃n t,v=kz n t) _ (λx rest b s' h=>?_) (λb s' h=>?_) _ _ #[rfl,rfl,hi]
 .obtain⟨rfl,rfl,h⟩:=h
  obtain⟨n,t,rfl⟩:=h x<|ak ..;refine ab<|eY (hashByValue_scannable 7 rfl) ?_;rw[show plainKind (kz n t)=am from rfl,T8 (by simp)]
  exact au #[rfl,rfl,λv hv=>h v<|aj _ hv]
 .obtain⟨rfl,rfl,_⟩:=h
  exact au hQ
noncomputable def QO(rs:List (List Int))(vs:List al)(i:Nat):Int×al:=(Y9<|rs.getD i [],vs.getD i .none)
noncomputable def Yh(rs:List (List Int))(vs:List al)(i:Nat):List (Int×al):=((aM i).map<|QO rs vs).reverse
def xF(rs:List (List Int))(vs:List al)(i:Nat):Yh rs vs (i+1)=QO rs vs i::Yh rs vs i:=by
 unfold Yh;rw[on,bM,h8];rfl
def xt{R:pe->aw->Prop}{I:aI}{fp wr:List aI}{n:Nat}{P:Nat->al->Prop}{St:Nat->bY->Prop}{led:Bool}(W:Walks prog w A.in1 I fp wr n P St)(S:aI)(hSf:S∉fp)(hu:A.units+5<dL){h0:bY}{rs:List (List Int)}{vs:List al}(hn:rs.length=n)(hnd:(rs.map Y9).Nodup)(h3:n<=300)(hv:∀i x,P i x->x=vs.getD i .none)(hr:∀i,i<n->∃q,vs.getD i .none=.ref q/\WO h0 q (rs.getD i [])/\q∉S::wr) :
  ∀(k i:Nat)(s:aw),n-i=k->i<=n->St i s.heap->WM s.heap S led (Yh rs vs i)->(∀b o,b∉S::wr->h0.get? b=aa o->s.heap.get? b=aa o)->
   (∀h' tk,(∀b o,b∉S::wr->s.heap.get? b=aa o->h'.get? b=aa o)->WM h' S led (Yh rs vs n)->R (.ok<|.ret .none) {s with heap:=h',toks:=tk})->fq (aQ prog w) A (.builtin "set.update.loop" #[[.ref S,.ref I],[]]) R s:=by
 have hSw:S∉wr:=λz=>hSf<|W.sub _ z
 intro k
 induction k with
 |zero=>
  intro i s hk hi st hS _ hR;obtain rfl:i=n:=by omega
  refine fj kN ?_;rw[eK f9 _];show aW _ A.in1 (lG (.ref I) >>= _) _ _ s;exact ab<|W.done s _ _ st λh' tk kp=>au<|hR h' tk (λb o z e=>kp b o (λy=>z<|aj _ y) e)<|hS.keep λo e=>kp S o hSw e
 |succ k ih=>
  intro i s hk hi st hS k0 hR;have lt:i<n:=by omega
  refine fj kN ?_;rw[eK f9 _];show aW _ A.in1 (lG (.ref I) >>= _) _ _ s;refine ab<|W.item i s _ _ lt st λx h1 tk hP st1 kp=>?_
  obtain⟨q,eq,Rq,hq⟩:=hr i lt;obtain rfl:x=.ref q:=(hv i x hP).trans eq;have k1:∀b o,b∉S::wr->h0.get? b=aa o->h1.get? b=aa o:=λb o z e=>kp b o (λy=>z<|aj _ y)<|k0 b o z e
  have R1:WO h1 q (rs.getD i []):=Rq.keep λo e=>k1 q o hq e
  show aW _ A.in1 (gO [bT q] (setAdd S<|.ref q) >>= _) _ _ _;refine ab<|bR ?_;unfold setAdd;refine bR<|ab<|wpAny_pyHash_tuple (knd:=fS prog w) (by simp;omega) R1.key ?_
  have hne:∀e∈Yh rs vs i,e.1≠Y9 (rs.getD i []):=λe he z=>by
   obtain⟨j,hj,rfl⟩:=aR.mp<|cV.mp he;have hj:=aU.mp hj;have:=bq.mp hnd j i (by rw[az];omega) (by rw[az];omega) hj
   rw[gN,gN]at this;refine this ?_;have z:Y9 (rs.getD j [])=Y9 (rs.getD i []):=z;rw[aD,aD,af (show j<rs.length by omega),af (show i<rs.length by omega)]at z
   exact z
  have hlen:(Yh rs vs i).length=i:=by unfold Yh;simp
  show aW _ _ (np S (.ref q)<|Y9<|rs.getD i []) _ _ _;refine wf (s:={s with heap:=h1,toks:=tk+((rs.getD i []).length+1)}) (hx:=Y9<|rs.getD i []) (hS.keep λo e=>kp S o hSw e) hne (by omega) (λhQ=>jP R1 hQ) λh2 sb hS2=>?_
  have hS2:WM h2 S led (Yh rs vs<|i+1):=by rw[xF];unfold QO;rw[eq];exact hS2
  have k2:∀b o,b∉S::wr->h1.get? b=aa o->h2.get? b=aa o:=λb o z e=>by rw[sb.2 b λy=>z (by rw[y];exact ak)];exact e
  refine au #[mv f9 _,ih (i+1) _ (by omega) lt (W.frame _ _ _ st1 λb z o e=>?_) hS2 (λb o z e=>k2 b o z<|k1 b o z e) λh3 tk3 kp3 hS3=>hR h3 tk3 (λb o z e=>kp3 b o z<|k2 b o z<|kp b o (λy=>z<|aj _ y) e) hS3]
  rw[sb.2 b λy=>hSf<|y▸z];exact e
def ju(led:Bool):TOk (.fresh 0 0 led)/\(iT 0 0 led).place.size=0/\(iT 0 0 led).plain=am/\(iT 0 0 led).led=led/\0*5<(iT 0 0 led).mask*3:=
 #[#[by show 7∈YQ;decide,by show List.Pairwise _ [];exact gj,(λj h=>T7 (show j∈([]:List Nat)from h) (b5)),rfl],rfl,rfl,rfl,by show 0<21;decide]
set_option maxHeartbeats 3200000 in
def y3{l:aI}{items:Array al}{rs:List (List Int)}{Q:al->aw->Prop}(hh:A.handled=ae)(hu:A.units+7<dL)(hl:s.heap.IsList l items)(hn:rs.length=items.size)(hnd:(rs.map Y9).Nodup)(h3:rs.length<=300)(hr:∀i,i<rs.length->∃q,items.toList.getD i .none=.ref q/\WO s.heap q (rs.getD i []))
  (h:∀h' tk,WM h' s.heap.objs.size (XC w) (Yh rs items.toList rs.length)->(∀b o,s.heap.get? b=aa o->h'.get? b=aa o)->Q (.ref s.heap.objs.size) {s with heap:=h',toks:=tk}):aW (aQ prog w) A (call (.type "set") [.ref l]) Q E s:=by
 obtain⟨c,tl,hmro⟩:=F.called_set.mro;have hmade:=F.called_set.made;have hsub:=F.called_set.sub;refine wpAny_call<|lu ?_;show aW _ _ (callAny (.type "set") _) _ _ _;refine au #[Code.quiet_builtin _ (by decide +kernel),fj F.entry_type_call ?_];rw[cD.under_plain (weight_type_call_type "set" [.ref l] []) rfl]
 have h1:=F.called_set.notType;have h2:=F.called_set.canCreate;have hct:=F.typeCall_set_1<|.ref l
 repeat(any_goals (first|assumption|wp_step))
 let so:fD:={cls:=.type "set",dict:=ae,data:=.set #[] 0 (.fresh 0 0<|XC w)}
 refine gf (u9 (.ref l) (E:=E) (Q:=λobj s1=>obj=.ref s.heap.objs.size/\s1={s with heap:=s.heap.push so}) #[rfl,rfl]) λr s1 hr1=>?_
 cases r with
 |error e=>exact hr1
 |ok fl=>
  cases fl with
  |ret obj=>
   obtain⟨rfl,rfl⟩:=hr1;have hS:(s.heap.push so).get? s.heap.objs.size=aa so:=aJ _ rfl;have hT:aw.TypeIs {s with heap:=s.heap.push so} (.ref s.heap.objs.size) "set":=#[_,hS,rfl]
   have hli:=F.called_set.init.lookup;have hbi:=F.called_set.init.bind<|.ref s.heap.objs.size
   repeat(any_goals (first|assumption|wp_step))
   refine gf (codeAny_call_builtin (R:=wants (λr s2=>r=.none/\∃h' tk,s2={s with heap:=h',toks:=tk}/\WM h' s.heap.objs.size (XC w) (Yh rs items.toList rs.length)/\∀b o,s.heap.get? b=aa o->h'.get? b=aa o) E) F.called_set.init.plain F.entry_set_init<|check_set_init_1 hT ?_) λr2 s2 hr2=>?_
   .obtain⟨⟨ocls,odict,odata,oslots⟩,hol,hcl,nl,hdl⟩:=hl
    simp only at hcl hdl;subst hcl hdl;have hol':(s.heap.push so).get? l=aa {cls:=.type "list",dict:=odict,data:=.seq items nl,slots:=oslots}:=aq _ hol;have hsls:=F.sub_list_set;have hslf:=F.sub_list_frozenset;have hne:(mB "list" == mB "dict")=ap:=by decide
    have hl1:(s.heap.push so).IsList l items:=#[_,hol',rfl,nl,rfl];unfold dE.«set.__init__» noKeywords dE.Frozenset.updateFrom;generalize hPI:kh=PI
    wp_walk
    subst hPI;refine fu hl1<|ab<|wpAny_runValue ?_;have hlS:l<s.heap.objs.size:=aF hol;have sz:(s.heap.push so).objs.size=s.heap.objs.size+1:=cQ ..;have hh3:A.in1.in1.in1.handled=ae:=by simp[hh]
    obtain⟨f1,f2,f3,f4,f5⟩:=ju<|XC w;have out:∀b,b<s.heap.objs.size->b∉s.heap.objs.size::[(s.heap.push so).objs.size]:=λb hb z=>by
     rw[sz]at z;rcases aA.mp z with z|z
     .omega
     .have:=be.mp z;omega
    refine xt (led:=XC w) (h0:=s.heap) (rs:=rs) (vs:=items.toList) (Walks.list hh3 _ l (by rw[sz];exact bv<|dr hlS) items) s.heap.objs.size (by rw[sz];intro z;rcases aA.mp z with z|z;exact T7 z<|bv<|gJ _;exact T7 (be.mp z)<|fF hlS) (by simp;omega) hn hnd (by omega) (λi x e=>by
     rw[aD,aX,e];rfl) (λi hi=>by
     obtain⟨q,e,R⟩:=hr i (by omega)
     obtain⟨o,_,_,ho,_⟩:=id R;exact#[q,e,R,out q<|aF ho]) (items.size-0) 0 _ (by omega) (dB _) #[#[_,aJ _ rfl,rfl,rfl],hl1.push _] #[so,#[],0,_,aq _ hS,#[rfl,rfl,rfl],rfl,f1,f2,f3,f4,cu _,f5] (λb o _ e=>aq _<|aq _ e) λh' tk kp hS'=>?_
    show aW _ _ _ _ _ _;refine au ?_;show aW _ _ (pi bf) _ _ _;refine au #[rfl,h',tk,rfl,by rw[hn];exact hS',λb o e=>kp b o (out b<|aF e)<|aq _<|aq _ e]
   .cases r2 with
    |error e=>exact hr2
    |ok fl2=>
     cases fl2 with
     |ret r=>
      obtain⟨rfl,h',tk,rfl,hS',hk'⟩:=hr2
      repeat(any_goals (first|assumption|wp_step))
      exact h _ _ hS' hk'
     |_=>exact hr2.elim
  |_=>exact hr1.elim
end
end Sd
namespace Sd
open PySem PySem.Spec PyProof.Rows
noncomputable def YL(t:cX)(i:Nat):Nat:=if i=0 then 0 else t.place.toList.getD (i-1) 0+1
noncomputable def Xl(w:bN)(t:cX)(i:Nat):Nat:=if w.params.followText "set-order" = am then 0 else YL t i
def qM{t:cX}(T:TOk t){i:Nat}(hi:i<=t.place.size):lT t.place (YL t i)=i:=by
 rw[Vq T.srt];have hl:t.place.toList.length=t.place.size:=ay;have hc:=QS t.place.toList<|YL t i;have key:∀k (hk:k<t.place.toList.length),k<i↔k<cnt t.place.toList (YL t i):=λk hk=>by
  rw[<-Xj T.srt k hk];unfold YL;cases i with
  |zero=>simp
  |succ i=>
   rw[T8 (by omega),aD,af (show i+1-1<t.place.toList.length by omega)]
   show _↔t.place.toList[k]<t.place.toList[i]+1;rcases nr k i with z|z|z
   .have:=bq.mp T.srt k i hk (by omega) z;omega
   .subst z;omega
   .have:=bq.mp T.srt i k (by omega) hk z;omega
 rcases nr (cnt t.place.toList<|YL t i) i with z|z|z
 .have:=(key (cnt t.place.toList<|YL t i)<|by omega).mp z;omega
 .exact z
 .have:=(key i<|by omega).mpr z;omega
structure SetO(w:bN)(o:fD)(es:Array (Int×al))(ep:Nat)(t:cX):Prop where
 ex:o.ExactSet
 dat:o.data=.set es ep t
 ok:TOk t
 sz:t.place.size=es.size
 pl:t.plain=am
 ld:t.led=XC w
 rm:es.size*5<t.mask*3
def SetO.fit{w:bN}{o:fD}{es:Array (Int×al)}{ep:Nat}{t:cX}(S:SetO w o es ep t):t.fits es.size=am:=JJ S.ok S.sz S.rm
section
variable{prog:bC}{w:bN}{A:cD}{E:al->aw->Prop}{s:aw}{a it:aI}{i ep:Nat}{o:fD}{es:Array (Int×al)}{t:cX}
def JE{Q:Option (al×Nat)->aw->Prop}(S:SetO w o es ep t)(hi:i<=es.size)(ho:s.heap.get? a=aa o)(h:Q (((XA w a ep es)[i]?).map λe=>(e.2,Xl w t<|i+1)) s) :
  aW (aQ prog w) A (setNext a (Xl w t i) i ep) Q E s:=by
 have hf:=S.fit;have hd:=S.dat;unfold setNext;refine ab<|dN ho hd hf ?_
 dsimp only
 unfold oU;refine ab<|ab<|eU<|au ?_;unfold XA Xl at h;unfold Xl;show aW _ _ (if w.params.followText "set-order" = am then _ else _) _ _ _
 by_cases c:w.params.followText "set-order" = am
 .rw[T9 c]
  rw[T9 c,T9 c]at h;rw[T8 (by simp)]
  unfold setWalk;refine ab<|ab<|dN ho hd hf ?_
  dsimp only
  unfold oU;refine ab<|ab<|eU<|au ?_;show aW _ _ (if w.params.followText "set-order" = am then _ else _) _ _ _
  rw[T9 c];refine ab<|eU<|au<|au ?_;rw[T9 c];exact h
 .rw[T8 c]
  rw[T8 c,T8 c]at h;have hl:t.led=am:=by rw[S.ld];unfold XC;simp[c]
  have bl:=qM S.ok (i:=i) (by rw[S.sz];exact hi)
  split
  .rename_i z
   have z:(!t.plain&&ai (es.size>1))=am:=z;rw[S.pl]at z;exact T7 z (by simp)
  .refine ab (eY (a:=()) ?_<|au ?_)
   .show(if(!t.led && !es.isEmpty)=am then _ else _)=_
    rw[hl];rfl
   .rw[bl]
    by_cases lt:i<es.size
    .have e2:t.place[i]?=aa (t.place[i]'(by rw[S.sz];exact lt)):=aN _
     have e3:YL t (i+1)=t.place[i]'(by rw[S.sz];exact lt)+1:=by
      unfold YL;rw[T8 (by omega),aD,Nat.add_sub_cancel,aX,e2];rfl
     rw[aN lt]at h;rw[aN lt,e2];rw[e3]at h;exact h
    .have e1:es[i]?=ae:=kY (by omega)
     rw[e1]at h;rw[e1];exact h
def XH(w:bN)(h:bY)(it a:aI)(t:cX)(n i ep:Nat):Prop:=∃o,h.get? it=aa o/\o.cls=.type "set_iterator"/\o.data=.fields [.int (Xl w t i) 0,.int i 0,.ref a,.int n 0,.int ep 0].toArray
def xV{Q:al->aw->Prop}(S:SetO w o es ep t)(ho:s.heap.get? a=aa o)
  (hQ:Q (.ref s.heap.objs.size) {s with heap:=s.heap.push {cls:=.type "set_iterator",data:=.fields [.int (Xl w t 0) 0,.int 0 0,.ref a,.int es.size 0,.int ep 0].toArray}}):aW (aQ prog w) A (kh<|.ref a) Q E s:=by
 have hf:=S.fit;have hd:=S.dat;have hT:s.TypeIs (.ref a) "set":=#[_,ho,S.ex.1];refine nt hT ot<|cG ot hT zu ?_<|F.args_set_iter_1 _;unfold dE.«frozenset.__iter__» dE.Frozenset.slot0 slotArgs dE.Frozenset.addrOf dE.Frozenset.sizeOf;refine ab<|eY (a:=a) rfl<|ab<|ab<|l9 ho hd hf<|au ?_;unfold setDrawn oU;refine ab<|ab<|dN ho hd hf<|ab<|ab<|eU<|au<|au ?_
 dsimp only
 have nd:∀x:Bool,(!x&&(!t.plain&&ai (es.size>1)))=ap:=λx=>by rw[S.pl];simp
 split
 .rename_i z
  exact T7 ((nd _).symm.trans z) (by simp)
 .refine ab (au<|ab<|wpAny_setEpoch_of ho hd hf ?_)
  refine ab<|bH<|au #[_,rfl,"set_iterator",_,#[_,aJ _ rfl,rfl],XZ.lookup,?_];have z0:Xl w t 0=0:=by unfold Xl YL;split<;>rfl
  rw[z0]at hQ
  simpa[gE]using hQ
def xn{n:Nat}{Q:al->aw->Prop}(hit:XH w s.heap it a t n i ep)(h:Q (.ref it) s):aW (aQ prog w) A (kh<|.ref it) Q E s:=by
 have hT:s.TypeIs (.ref it) "set_iterator":=let #[o,h1,h2,_]:=hit;#[o,h1,h2];refine nt hT Jl<|cG Jl hT x6 (show aW _ _ (pi<|.ref it) _ _ s from au #[_,rfl,"set_iterator",_,hT,XZ.lookup,h])<|uM _
def U6{Q:Option al->aw->Prop}(S:SetO w o es ep t)(hi:i<=es.size)(hit:XH w s.heap it a t es.size i ep)(ho:s.heap.get? a=aa o)
  (h1:∀e,(XA w a ep es)[i]?=aa e->∀h',XH w h' it a t es.size (i+1) ep->eZ it s.heap h'->Q (aa e.2) {s with heap:=h' })
  (h2:i=es.size->A.handled=ae/\∀h',i8 it s.heap h'->Q ae {s with heap:=h' }):aW (aQ prog w) A (lG<|.ref it) Q E s:=by
 have hf:=S.fit;have hd:=S.dat;obtain⟨oi,hq,hc,hdi⟩:=id hit;have hT:s.TypeIs (.ref it) "set_iterator":=#[oi,hq,hc];unfold lG;refine ab<|ko<|cr (name:=k5 "__next__") hT XZ<|cG XZ hT x4 ?_<|uG _;unfold dE.«set_iterator.__next__» slotArgs;refine ab<|eY (a:=(bT it,[])) rfl<|ab<|wpAny_fieldsOf hq hdi ?_
 dsimp only
 refine ab<|l9 ho hd hf ?_;rw[T8 (by simp)]
 simp only[fv];refine ab<|JE S hi ho ?_;cases q:(XA w a ep es)[i]? with
 |some e=>
  refine ab<|gl hq hdi (by simp) ?_
  have g1:=ee (o4 (·.setIfInBounds 0 (gE ((Xl w t (i+1):Nat):Int)))) hq<|gC<|d6 hdi _
  have d1:=d6 hdi (·.setIfInBounds 0 (gE ((Xl w t (i+1):Nat):Int)))
  refine ab<|gl g1 d1 (by simp) ?_
  have g2:=ee (o4 (·.setIfInBounds 1 (gE<|(i:Int)+1))) g1<|gC<|d6 d1 _
  refine au #[_,rfl,au<|h1 e q _ #[_,g2,?_,?_]<|(dy ..).trans<|dy ..]
  .exact(kc ..).trans<|(kc ..).trans hc
  .rw[d6 d1];simp[gE]
 |none=>
  have hn:i=es.size:=by
   have:=Array.getElem?_eq_none_iff.mp q;rw[Wa]at this;omega
  obtain⟨hh,hQ⟩:=h2 hn;refine ab<|gl hq hdi (by simp) (show aW _ _ (newExc (.type "StopIteration") [] >>= _) _ _ _ from ab ?_)
  simp only[newExc,newTuple];refine ab<|bH ?_ (by size_fits)
  refine ab (m:=lL _ _) (eY (a:=bf) (by first|rfl|(simp only[lL];rfl))<|bH ?_ (by size_fits))
  simp only[raiseNew];refine ab<|wpAny_handled ?_;rw[show A.in1.handled=ae from hh]
  refine ab<|au<|wpAny_throw ?_;refine ab<|kG (T:="StopIteration") (b:=am) #[_,aJ _ rfl,rfl] isSubtype_stop ?_;exact au<|hQ _<|((dy ..).extBut.push _).push _
def XH.at{n:Nat}{h h':bY}(hit:XH w h it a t n i ep)(k:∀o,h.get? it=aa o->h'.get? it=aa o):XH w h' it a t n i ep:=
 let #[o,h1,r]:=hit;#[o,k o h1,r]
def uL(S:SetO w o es ep t):lR prog w "set" a a es.size (λi v=>((XA w a ep es)[i]?).map (·.2)=aa v) (λh=>h.get? a=aa o) where
 type:=λ_ hm=>#[_,hm,S.ex.1]
 there:=λ_ hm=>#[aF hm,aF hm]
 keep:=λ_ _ hm hk=>hk a (.inl rfl) _ hm
 notList:=by decide
 notTuple:=by decide
 hint:=λ_ _ _ _ hm hq=>uC #[_,hm,S.ex.1] hq
 iter:=λA s hh hm=>by
  have hne:a≠s.heap.objs.size:=bv<|aF hm;refine#[{cls:=.type "set_iterator",data:=.fields [.int (Xl w t 0) 0,.int 0 0,.ref a,.int es.size 0,.int ep 0].toArray},λi h=>i<=es.size/\XH w h s.heap.objs.size a t es.size i ep/\h.get? a=aa o,λE Q hq=>?_,?_,dB _,#[_,aJ _ rfl,rfl,rfl],aq _ hm]
  .exact xV S hm hq
  .exact{
    sub:=λb hb=>by simp at hb;simp[hb]
    frame:=λ_ _ _ st hk=>#[st.1,st.2.1.at λo e=>hk _ (by simp) o e,hk a (by simp) _ st.2.2]
    item:=λi s' Q E hi st hQ=>U6 S st.1 st.2.1 st.2.2 (λe q h' hit' sb=>hQ _ h' s'.toks (by rw[q];rfl) #[hi,hit',sb.extBut _ _ hne st.2.2] λb o hb e=>sb.extBut b o (λz=>hb<|by simp[z]) e) λz=>T7 hi (by omega)
    done:=λs' Q E st hQ=>U6 S st.1 st.2.1 st.2.2 (λe q _ _ _=>T7 (Array.getElem?_eq_some_iff.mp q).1<|by rw[Wa];omega) λ_=>#[hh,λh' eb=>hQ h' s'.toks λb o hb e=>eb b o (λz=>hb<|by simp[z]) e]
    self:=λ_ _ _ _ st hQ=>xn st.2.1 hQ}
end
open L2
open Ev (ltI YZ Zn)
noncomputable def ixO(rs:List (List Int))(r:List Int):Nat:=((aM rs.length).find? λi=>rs.getD i [] == r).getD 0
def Yk{B:Type}{l:List B}{i:Nat}{d:B}(h:i<l.length):l.getD i d=l[i]:=by
 rw[aD,af h];rfl
def Zaw{rs:List (List Int)}(hnd:rs.Nodup){i:Nat}(hi:i<rs.length):ixO rs (rs.getD i [])=i:=by
 unfold ixO;cases q:(aM rs.length).find? λk=>rs.getD k [] == rs.getD i []with
 |none=>exact T7 (fZ.mp q i<|aU.mpr hi) (by simp)
 |some j=>
  have h1:=aU.mp<|fM q;have h2:rs.getD j []=rs.getD i []:=by simpa using lw q
  rw[Yk h1,Yk hi]at h2;show j=i;refine(fw h1 hnd).mp ?_;rw[af h1,af hi,h2]
def GU{rs:List (List Int)}(hnd:rs.Nodup){r:List Int}(hr:r∈rs):ixO rs r<rs.length/\rs.getD (ixO rs r) []=r:=by
 obtain⟨i,hi,rfl⟩:=bB hr;have:=Zaw hnd hi;rw[Yk hi]at this;rw[this];exact#[hi,Yk hi]
noncomputable def V1(rs:List (List Int))(e:Int×al):List Int:=(rs.find? λr=>Y9 r == e.1).getD []
def Vh{rs:List (List Int)}{vs:List al}(hh:(rs.map Y9).Nodup){i:Nat}(hi:i<rs.length):V1 rs (QO rs vs i)=rs.getD i []:=by
 unfold V1 QO;cases q:rs.find? λr=>Y9 r == Y9 (rs.getD i [])with
 |none=>exact T7 (fZ.mp q (rs.getD i [])<|by rw[Yk hi];exact aV hi) (by simp)
 |some r=>
  have h1:=fM q;have h2:Y9 r=Y9 (rs.getD i []):=by simpa using lw q
  obtain⟨j,hj,rfl⟩:=bB h1;show rs[j]=rs.getD i [];rw[Yk hi]at h2 ⊢;have:j=i:=by
   refine(fw (l:=rs.map Y9) (by rw[az];exact hj) hh).mp ?_
   rw[aK,aK,af hj,af hi];exact congrArg aa h2
  subst this;rfl
def x5(rs:List (List Int)):(aM rs.length).map (λi=>rs.getD i [])=rs:=by
 refine bV λi=>?_
 rw[aK];by_cases h:i<rs.length
 .rw[cJ h,af h]
  exact congrArg aa<|Yk h
 .rw[bn (by rw[bE];omega),bn (by omega)];rfl
theorem UD{h:bY}{g:Int×al->List Int}:∀{l:List (Int×al)},(∀e∈l,∃q,e.2=.ref q/\WO h q (g e))->RowsAt h (l.map g) (l.map (·.2))
 |[],_=>.nil
 |e::l,H=>by
  obtain⟨q,e1,o,us,m,h1,h2,h3,h4⟩:=H e<|ak ..;rw[bj,bj,e1];exact .cons h1 h2 h3 h4<|UD λx hx=>H x<|aj _ hx
section
variable{prog:bC}{w:bN}{A:cD}{E:al->aw->Prop}{s:aw}{d:aI}
def JQ{rs:List (List Int)}{vs:List al}{Q:al->aw->Prop}(hh:A.handled=ae)(hS:WM s.heap d (XC w) (Yh rs vs rs.length))(hnd:rs.Nodup)(hhd:(rs.map Y9).Nodup)(hne:∀r∈rs,r≠[])(h3:rs.length<=300)(hr:∀i,i<rs.length->∃q,vs.getD i .none=.ref q/\WO s.heap q (rs.getD i []))
  (h:∀h' tk D n,(∀b o,s.heap.get? b=aa o->h'.get? b=aa o)->s.heap.objs.size<=D->h'.get? D=aa (eW "list" ((Zn rs).map λr=>vs.getD (ixO rs r) bf).toArray n)->Q (.ref D) {s with heap:=h',toks:=tk}) :
  aW (aQ prog w) A (call (.builtin "sorted") [.ref d]) Q E s:=by
 obtain⟨o,es,ep,t,ho,hex,hd,T,hp,hpl,hld,pm,hrm⟩:=hS;have SO:SetO w o es ep t:=#[hex,hd,T,hp,hpl,hld,hrm];have pm':(XA w d ep es).toList.Perm (Yh rs vs rs.length):=JK.trans pm;have hent:∀e∈Yh rs vs rs.length,∃i,i<rs.length/\e=QO rs vs i:=λe he=>by
  obtain⟨i,hi,rfl⟩:=aR.mp<|cV.mp he;exact#[i,aU.mp hi,rfl]
 generalize hl:(XA w d ep es).toList=l at pm';have hle:∀e∈l,∃i,i<rs.length/\e=QO rs vs i:=λe he=>hent e<|pm'.mem_iff.mp he
 let rs':=l.map<|V1 rs
 have hP:rs'.Perm rs:=by
  refine(pm'.map<|V1 rs).trans ?_;unfold Yh;rw[gL,bX];refine(du _).trans<|hU ?_;rw[show(aM rs.length).map (V1 rs∘QO rs vs)=(aM rs.length).map λi=>rs.getD i []from cK λi hi=>Vh hhd<|aU.mp hi]
  exact x5 rs
 have nd':rs'.Nodup:=hP.nodup_iff.mpr hnd;have RA:RowsAt s.heap rs' (l.map (·.2)):=UD λe he=>by
  obtain⟨i,hi,rfl⟩:=hle e he;rw[Vh hhd hi];exact hr i hi
 have hvs:l.map (·.2)=rs'.map λr=>vs.getD (ixO rs r) bf:=by
  show _=(l.map<|V1 rs).map _;rw[bX];refine cK λe he=>?_
  obtain⟨i,hi,rfl⟩:=hle e he;show vs.getD i .none=vs.getD (ixO rs<|V1 rs<|QO rs vs i) .none;rw[Vh hhd hi,Zaw hnd hi]
 have hlen:l.length=rs.length:=by rw[<-hP.length_eq];show _=(l.map _).length;rw[az]
 have hsz:es.size=rs.length:=by
  rw[<-hlen,<-hl,ay,Wa]
 have hl2:rs'.length=(l.map (·.2)).length:=by show(l.map _).length=_;rw[az,az]
 refine zi (vs:=l.map (·.2)) (uL SO) hh ho (λacc ha=>?_) (by omega) (by rw[az,hlen,hsz]) (Gp nd' hl2) (UT RA nd' λr hr'=>hne r<|hP.mem_iff.mp hr') λp h' tk D n g1 g2 kp hD hL=>?_
 .refine bV λi=>?_
  rw[<-hl];by_cases hi:i<es.size
  .have hla:i<acc.size:=by rw[ha.1];exact hi
   have:=ha.2 i acc[i]<|aN hla;rw[aK,aX,aX,this,aN hla]
  .rw[bn (by rw[ay,ha.1];omega),bn (by rw[az,ay,Wa];omega)]
 .rw[<-hl2]at g1 g2
  have out:(p.toList.map λi=>rs'.getD i [])=Zn rs':=JU nd' g1 g2
  have es':Zn rs'=Zn rs:=Y2 VF ((ZG _).trans<|hP.trans (ZG _).symm) (ZY nd')<|ZY hnd;have hq:p.toList.Perm (aM rs'.length):=by simpa using bF.mp g1
  have e:(p.toList.map λi=>(l.map (·.2)).getD i bf)=(Zn rs).map λr=>vs.getD (ixO rs r) bf:=by
   rw[<-es',<-out,bX];refine cK λi hi=>?_
   have hi:=aU.mp<|hq.mem_iff.mp hi;rw[hvs];show(rs'.map _).getD i .none=vs.getD (ixO rs<|rs'.getD i []) .none;rw[Yk (show i<(rs'.map _).length by rw[az];exact hi),gN,Yk hi]
  refine h h' tk D n kp hD ?_;rw[hL];show aa (eW "list" (cB (p.toList.map λi=>(l.map (·.2)).getD i bf)) n)=_
  rw[e]
end
open Ev (E Sm Fn Bop Cop Ty Bf Mf spcs XO ZX)
noncomputable def zF(p:Nat):Nat->List (List Int)
 |0=>[[]]
 |n+1=>(aM p).flatMap λ(a:Nat)=>(zF p n).map λr=>(a:Int)::r
theorem J7{p:Nat}:∀{n:Nat}{r:List Int},r.length=n->(∀a∈r,0<=a/\a<(p:Int))->r∈zF p n
 |0,[],_,_=>be.mpr rfl
 |n+1,a::r,hl,h=>by
  have ha:=h a<|ak ..;refine dW.mpr #[a.toNat,aU.mpr (by omega),aR.mpr #[r,J7 (by simpa using hl) λb hb=>h b<|aj _ hb,?_]]
  rw[md ha.1]
 |0,_::_,hl,_=>by cases hl
 |_+1,[],hl,_=>by cases hl
def vq:spcs.all (λq=>ai<|((zF q.1 q.2).map Y9).Nodup)=am:=by decide +kernel
def yY{B β:Type}{f:B->β}{l:List B}(hn:l.Nodup)(h:∀a∈l,∀b∈l,f a=f b->a=b):(l.map f).Nodup:=by
 rw[List.Nodup,cy];exact hn.imp_of_mem λha hb ne e=>ne<|h _ ha _ hb e
theorem XV{B β:Type}{f:B->β}:∀{l:List B},(l.map f).Nodup->∀a∈l,∀b∈l,f a=f b->a=b
 |[],_,_,h,_,_,_=>by cases h
 |x::l,hn,a,ha,b,hb,e=>by
  rw[bj,dA]at hn;rcases aA.mp ha with h1|h1
  .rcases aA.mp hb with h2|h2
   .rw[h1,h2]
   .subst h1
    exact T7 (e▸dz h2) hn.1
  .rcases aA.mp hb with h2|h2
   .subst h2
    exact T7 (e▸dz h1) hn.1
   .exact XV hn.2 a h1 b h2 e
def UQ{rs:List (List Int)}(h:XO rs=am):rs.Nodup/\(rs.map Y9).Nodup/\(∀r∈rs,r≠[])/\rs.length<=300:=by
 unfold XO at h;rw[aC,aC,T0,fI]at h;obtain⟨h1,h2,q,hq,h3⟩:=h;unfold ZX at h1;rw[aC,aC,T0,T0,aT]at h1;have nd:=T6<|aT.mp vq q hq;have hm:∀r∈rs,r∈zF q.1 q.2:=λr hr=>by
  have:=aT.mp h3 r hr;rw[aC,T0,aT]at this;exact J7 this.1 λa ha=>T6<|this.2 a ha
 refine#[h1.1.2,yY h1.1.2 λa ha b hb e=>XV nd a (hm a ha) b (hm b hb) e,λr hr e=>?_,h2]
 have:=h1.2 r hr;rw[e]at this;cases this
theorem UW:∀{x:List D}{a:List Int},Pv.intsV x=aa a->x=a.map Pv.V.int
 |[],a,h=>by cases h;rfl
 |v::x,a,h=>by
  cases v with
  |int i=>
   obtain⟨b,hb,rfl⟩:=bQ.mp h;rw[UW hb];rfl
  |_=>exact Ev.nos h
theorem Uu:∀{ds:List D}{rs:List (List Int)},Pv.ZR ds=aa rs->ds=rs.map Pv.Zb
 |[],rs,h=>by cases h;rfl
 |v::ds,rs,h=>by
  cases v with
  |tup x=>
   have h:(match Pv.intsV x,Pv.ZR ds with|some a,aa b=>aa (a::b)|_,_=>ae)=aa rs:=h
   cases q1:Pv.intsV x with
   |none=>rw[q1]at h;cases h
   |some a=>
    cases q2:Pv.ZR ds with
    |none=>rw[q1,q2]at h;cases h
    |some b=>
     rw[q1,q2]at h;cases h;rw[UW q1,Uu q2];rfl
  |_=>exact Ev.nos h
def ZcW(te:TE):TE:=λZ H Q=>te Z H λv H1=>∃(O:Mx)(a:aI)(xs:List V)(rs:List (List Int)),v=.ref a/\H1 a=aa (.lst xs)/\Reps O H1 (rs.map Pv.Zb) xs/\XO rs=am/\∀D,H1 D=ae->Q (.ref D) (upd H1 D<|.lst<|(Zn rs).map λr=>xs.getD (ixO rs r) V.non)
theorem Wn{h:bY}:∀{rs:List (List Int)}{us:List al},RowsAt h rs us->∀i,i<rs.length->∃q,us.getD i .none=.ref q/\WO h q (rs.getD i [])
 |_,_,.nil,i,hi=>by cases hi
 |_,_,.cons (a:=a) h1 h2 h3 h4 R,0,_=>#[a,rfl,_,_,_,h1,h2,h3,h4]
 |_,_,.cons h1 h2 h3 h4 R,i+1,hi=>Wn R i (by simpa using hi)
def zo{X:Cx}{e:Expr}{te:TE}{p p2 p3 pos:iw}(hc:X.calm=am)(hu:X.A.units+7<dL)(he:PE X e te)(hm1:X.mg "sorted" = ae)(hm2:X.mg "set" = ae)(hg1:Gl X "sorted")(hg2:Gl X "set")
  (hs1:aL [e] X.env=(ap,c8 e X.env)::aL [] X.env)(hs2:aL [.Call (.Name "set" p2) [e] [] p3] X.env=(ap,c8 (.Call (.Name "set" p2) [e] [] p3) X.env)::aL [] X.env) :
  PE X (.Call (.Name "sorted" p) [.Call (.Name "set" p2) [e] [] p3] [] pos) (ZcW te):=by
 intro pq s Z H Q I h;refine dZ<|YU I hg1 hm1 (by rfl) ?_ (by decide) (by decide)
 refine gF ?_ hs2 rfl;rw[hs2];show aW _ _ (spliced ((ap,c8 (.Call (.Name "set" p2) [e] [] p3) X.env)::fN pos (aL [] X.env))) _ _ s;refine Calls.spliced_cons ?_;refine dZ<|YU I hg2 hm2 (by rfl) ?_ (by decide) (by decide)
 refine de ?_ hs1 rfl;rw[hs1];show aW _ _ (spliced ((ap,c8 e X.env)::fN p3 (aL [] X.env))) _ _ s;refine Calls.spliced_cons<|thn (he pq s Z H _ I h) λu s1 #[x,H1,I1,r1,O,a,xs,rs,ex,ha,rx,hok,q1]=>Calls.spliced_nil ?_
 subst ex;cases(show u=bT a from r1)
 obtain⟨nd,hnd,hne,h3⟩:=UQ hok;obtain⟨hz,us,n,rel,ho⟩:=I1.hok a _ ha;obtain⟨RA,_⟩:=XX I1 (Gj rs) rx rel;have hlx:xs.length=rs.length:=by rw[rx.length,az]
 have hlen:us.length=rs.length:=by rw[<-rel.length,hlx]
 have hh:=I1.ok.hd hc;refine y3 (rs:=rs) (items:=us.toArray) hh hu #[_,ho,rfl,n,rfl] (by simp[hlen]) hnd h3 (λi hi=>by simpa using Wn RA i hi) λh2 tk2 hS k2=>?_
 refine Calls.spliced_nil ?_;have hS:WM h2 s1.heap.objs.size (XC X.w) (Yh rs us rs.length):=by simpa using hS
 refine JQ (s:={s1 with heap:=h2,toks:=tk2}) hh hS nd hnd hne h3 (λi hi=>by
  obtain⟨q,e,R⟩:=Wn RA i hi;exact#[q,e,R.keep λo z=>k2 _ o z]) λh3' tk3 D m k3 hD hL=>?_
 have le:s1.heap.objs.size<=D:=by
  obtain⟨o,_,_,_,hg,_⟩:=hS;exact cO (ga<|aF hg) hD
 have hix:∀i∈(Zn rs).map (ixO rs),i<xs.length:=λi hi=>by
  obtain⟨r,hr,rfl⟩:=aR.mp hi;rw[hlx];exact(GU nd<|(ZG rs).mem_iff.mp hr).1
 have rv:=JS (F:=(Zn rs).map<|ixO rs) rel hix;rw[bX,bX]at rv;refine#[.ref D,_,I1.laid (a:=D) (o:=.lst<|(Zn rs).map λr=>xs.getD (ixO rs r) V.non) (h':=h3') (t':=tk3) (λb o e=>k3 b o<|k2 b o e) le #[?_,_,m,rv,hL],rfl,q1 D<|I1.hok.fresh le]
 rw[az,(ZG rs).length_eq,cI];omega
def zf{X:Cx}{xw:Nat->Hp->Prop}{C:Calls}{e:Expr}{i:E}{p p2 p3 pos:iw}(hc:X.calm=am)(hu:X.A.units+7<dL)(he:CE X xw C e i)(hm1:X.mg "sorted" = ae)(hm2:X.mg "set" = ae)(hg1:Gl X "sorted")(hg2:Gl X "set")
  (hs1:aL [e] X.env=(ap,c8 e X.env)::aL [] X.env)(hs2:aL [.Call (.Name "set" p2) [e] [] p3] X.env=(ap,c8 (.Call (.Name "set" p2) [e] [] p3) X.env)::aL [] X.env) :
  CF X xw C (.Call (.Name "sorted" p) [.Call (.Name "set" p2) [e] [] p3] [] pos) (.blt .sortedT [i]):=.mk <| PE.imp (zo hc hu he.h hm1 hm2 hg1 hg2 hs1 hs2)<|by
 rintro Z H Q ⟨O,l,S,st,lr,h⟩;rw[Pv.pv,Pv.pvs,Xo]at h;refine#[O,l,S,st,lr,h.bind λx S1 ρ1 H1 v f1 st1 r1 h1=>?_]
 cases f1.eq;rw[Pv.pvs]at h1;obtain⟨z,hz,h2⟩:=End.po h1;clear h1;cases x with
 |lst ds=>
  obtain⟨rs,e1,hz⟩:=da.mp hz;split at hz
  case isFalse=>cases hz
  rename_i hok
  cases hz;obtain⟨a,xs,rfl,ha,_,rx⟩:=r1.lst';have hds:ds=rs.map Pv.Zb:=Uu e1;subst hds;obtain⟨nd,_,_,_⟩:=UQ hok;refine#[O,a,xs,rs,rfl,ha,rx,hok,?_];have hix:∀i∈(Zn rs).map (ixO rs),i<rs.length:=λi hi=>by
   obtain⟨r,hr,rfl⟩:=aR.mp hi;exact(GU nd<|(ZG rs).mem_iff.mp hr).1
  have rm:=Jh (F:=(Zn rs).map<|ixO rs) rx hix;have e2:((Zn rs).map<|ixO rs).map (λi=>rs.getD i [])=Zn rs:=by
   rw[bX];exact(cK λr hr=>(GU nd<|(ZG rs).mem_iff.mp hr).2).trans<|List.map_id' _
  rw[e2,bX]at rm;exact End.newF (show End X.K xw (Xw am H) O H1 Q (.ok (.lst<|(Zn rs).map Pv.Zb) S1)from h2) f1 st st1 rm
 |_=>exact Ev.nos hz
end Sd
namespace Sd
open PySem PyProof.Rows L2 Ev
variable{X:Cx}{xw:Nat->Hp->Prop}{C:Calls}{ns:List Nat}{e:Expr}{i:E}{pos:iw}
def jA{n m:Nat}{t:List Nat}{tg:Expr}(he:CF X xw C e i)(hg:CG X tg (n::m::t))(hs:eM [tg] e pos.line X.env=c7 ap)(hw:eN [tg] e X.env=c7 ae)
  (h1:(cc [tg] X.env).map (·.2)=[dR tg X.env]):CS X xw fr C ns (.Assign [tg] e pos) (.asg (n::m::t) i):=.mk <| PS.imp (Wk he.h hg.h hs hw h1)<|by
 rintro D Z H ⟨O,H0,W,l,os,S,st,en,h⟩;rw[Pv.rv]at h
 .exact Zy.evA (Q1:=λx H1=>tGU X.K (n::m::t) x Z H1 D.nx) am (λ_=>rfl) st en h λd S1 H1 v f1 st1 r1 h1=>by
   obtain⟨ht,h1⟩:=h1.guardN;obtain⟨l',hl,h1⟩:=Zy.ob h1;exact(en.mono f1).assign (by simpa using ht) r1.1 hl λσ' e'=>h1 H1 σ' W st1 e'
 .intro _ z;cases z
end Sd
namespace Gn
open PySem PySem.Spec PyProof.Rows L2
open Ev (E Sm Fn Bop Cop Ty Bf Mf)
open Sd (Calls spF CompScope cxC hu7 z7 vR)
structure FR where
 x:bG
 st:fE
 N:List bG
 k:Nat
noncomputable def FR.ps(r:FR):List bG:=r.N.take r.k
noncomputable def scB(N:List bG)(k:Nat)(sc:eR):Bool:=
 (match sc.kind with|.function=>am|_=>ap)&&(!sc.isCoroutine&&(!sc.isGenerator&&(decide N.Nodup&&((N.take k).all (λx=>ai (sc.names.lookup x=aa .local)||decide (sc.names.lookup x=aa .cell))&&sc.names.all λy=>ai<|y.2≠.free))))
def Za8(h:scB N k sc=am):FnScope N (N.take k) sc:=by
 unfold scB at h;simp only[aC,nu,T0,aT,lm]at h;obtain⟨h1,h2,h3,h4,h5,h6⟩:=h;refine#[?_,h2,h3,h4,?_,h5,h6]
 .cases e:sc.kind<;>rw[e]at h1<;>first|rfl|cases h1
 .rw[bh]
  by_cases hk:k<=N.length
  .rw[lv hk]
  .rw[Nat.min_eq_right (by omega),gI,b9 (by omega)]
inductive Gv where
 |int (n:Int)|tab (t:List (Int×Int))
 deriving DecidableEq
def Zcx(K:ao)(mg:bG->Option al)(x:bG):Gv->Prop
 |.int n=>∃t:pB,mg x=aa (.int n t)
 |.tab t=>∃tb:aI,(∀P w,Sd.Zdh P w K tb t)/\mg x=aa (.ref tb)
structure Top(K:ao)(mg:bG->Option al)(fs:List FR)(zs:List bG)(gs:List (bG×Gv))(f:Nat->aI)(fd:Nat->cW):Prop where
 d:∀i r,fs[i]?=aa r->Fun K r.x r.x r.st (f i) (fd i)
 b:∀i r,fs[i]?=aa r->Vz K (fd i) r.ps []
 m:∀i r,fs[i]?=aa r->mg r.x=aa (.ref<|f i)
 z:∀x∈zs,mg x=ae
 g:∀y∈gs,Zcx K mg y.1 y.2
def All(P:bC)(w:bN)(K:ao)(mg:bG->Option al)(base:bY)(fs:List FR)(F:List Fn)(tk:Nat)(sn:List Nat)(f:Nat->aI)(fd:Nat->cW)(d:Nat):Prop:=
 ∀i r,fs[i]?=aa r->FnOk P w K mg base CX0 d (f i) (fd i) r.ps (spF K (Pv.Zh F tk d) (sn.contains i) i)
def Bd(fs:List FR)(zs:List bG)(gs:List (bG×Gv))(F:List Fn)(tk:Nat)(sn:List Nat)(i:Nat)(r:FR)(fn:Fn):Prop:=
 ∀(P:bC)(w:bN)(K:ao)(mg:bG->Option al)(base:bY)(f:Nat->aI)(fd:Nat->cW)(d:Nat),Top K mg fs zs gs f fd->All P w K mg base fs F tk sn f fd d->r.N.Nodup->
  ∀(cdv:al)(A:cD)(outer:List Env)(s:aw)(H:Hp)(E:XK),Room d (A.deeper<|iz r.x (Zv r.st) s.heap.objs.size (f i) cdv)->(A.deeper<|iz r.x (Zv r.st) s.heap.objs.size (f i) cdv).units+7<dL->
   Sd.CSs (Jz CX0 P w K mg base r.N r.x (Zv r.st) (f i) cdv A outer s H E).nox (λ_ _=>False) (sn.contains i) (Pv.Zh F tk d) (Pv.muts fn.body) (Z6 r.st) fn.body
def OkL(fs:List FR)(zs:List bG)(gs:List (bG×Gv))(F:List Fn)(tk:Nat)(sn:List Nat):Nat->List FR->List Fn->Prop
 |_,[],[]=>True
 |i,r::rs,fn::fns=>(fn.ns=r.N.length/\fn.ps=r.ps.length/\scB r.N r.k (Zv r.st)=am/\Bd fs zs gs F tk sn i r fn)/\OkL fs zs gs F tk sn (i+1) rs fns
 |_,_,_=>False
theorem OkL.get{fs:List FR}{zs:List bG}{gs:List (bG×Gv)}{F:List Fn}{tk:Nat}{sn:List Nat}:∀{rs:List FR}{fns:List Fn}{i0:Nat},OkL fs zs gs F tk sn i0 rs fns->∀i r,rs[i]?=aa r->∃fn,fns[i]?=aa fn/\fn.ns=r.N.length/\fn.ps=r.ps.length/\scB r.N r.k (Zv r.st)=am/\Bd fs zs gs F tk sn (i0+i) r fn
 |[],_,_,_,i,r,e=>by simp at e
 |_::_,[],_,h,_,_,_=>h.elim
 |r::rs,fn::fns,i0,h,0,r',e=>by
  simp at e;subst e;exact#[fn,rfl,h.1.1,h.1.2.1,h.1.2.2.1,h.1.2.2.2]
 |r::rs,fn::fns,i0,h,i+1,r',e=>by
  obtain⟨g,a,b,c,d,q⟩:=OkL.get h.2 i r' (by simpa using e)
  exact#[g,by simpa using a,b,c,d,by rw[kr,mY 1 i]at q;exact q]
theorem uU{P:bC}{w:bN}{K:ao}{mg:bG->Option al}{base:bY}{fs:List FR}{zs:List bG}{gs:List (bG×Gv)}{F:List Fn}{tk:Nat}{sn:List Nat}{f:Nat->aI}{fd:Nat->cW}(O:OkL fs zs gs F tk sn 0 fs F)(hT:F[tk]?=aa Sd.XD)(T:Top K mg fs zs gs f fd):∀d,All P w K mg base fs F tk sn f fd d
 |0=>λi r h=>z7
 |d+1=>λi r h=>by
  obtain⟨fn,a,b,c,e,q⟩:=O.get i r h;rw[gv]at q;have S:=Za8 e;have hb:=λcdv A outer s H E hr=>(q P w K mg base f fd d T (uU O hT T d) S.nd cdv A outer s H E hr<|hu7 hr)
  by_cases ht:i=tk
  .subst ht
   rw[hT]at a;cases a;exact Sd.wg Sd.Zaa b c (T.d i r h) S hb
  .exact Sd.wg (Sd.Zad ht a) b c (T.d i r h) S hb
def Uq(r:FR):Prop:=∀(kV doc pm:al)(an:Option aI)(cdv ct:al)(us:List al),us.length=r.ps.length->oF (dQ r.x r.x (Yz r.st) (Z6 r.st) (Zv r.st) .none kV doc pm an cdv ct) #[us,[]]=c7 (r.ps.zip us)
section
variable{x:bG}{st:fE}
noncomputable abbrev bA(x:bG)(st:fE)(kV doc pm:al)(an:Option aI)(cdv ct:al)(us:List al):=oF (dQ x x (Yz st) (Z6 st) (Zv st) .none kV doc pm an cdv ct) #[us,[]]
def bd1(h:∀kV doc pm an cdv ct a0,bA x st kV doc pm an cdv ct [a0]=c7 ((N.take n).zip [a0]))(hl:(N.take n).length=1:=by rfl):Uq #[x,st,N,n]:=λkV doc pm an cdv ct us e=>match us,e.trans hl with|[a0],_=>h kV doc pm an cdv ct a0
def bd2(h:∀kV doc pm an cdv ct a0 a1,bA x st kV doc pm an cdv ct [a0,a1]=c7 ((N.take n).zip [a0,a1]))(hl:(N.take n).length=2:=by rfl):Uq #[x,st,N,n]:=λkV doc pm an cdv ct us e=>match us,e.trans hl with|[a0,a1],_=>h kV doc pm an cdv ct a0 a1
def bd3(h:∀kV doc pm an cdv ct a0 a1 a2,bA x st kV doc pm an cdv ct [a0,a1,a2]=c7 ((N.take n).zip [a0,a1,a2]))(hl:(N.take n).length=3:=by rfl):Uq #[x,st,N,n]:=λkV doc pm an cdv ct us e=>match us,e.trans hl with|[a0,a1,a2],_=>h kV doc pm an cdv ct a0 a1 a2
def bd4(h:∀kV doc pm an cdv ct a0 a1 a2 a3,bA x st kV doc pm an cdv ct [a0,a1,a2,a3]=c7 ((N.take n).zip [a0,a1,a2,a3]))(hl:(N.take n).length=4:=by rfl):Uq #[x,st,N,n]:=λkV doc pm an cdv ct us e=>match us,e.trans hl with|[a0,a1,a2,a3],_=>h kV doc pm an cdv ct a0 a1 a2 a3
end
inductive FnsAt(K:ao):List FR->List aI->List cW->Prop
 |nil:FnsAt K [] [] []
 |cons {x:bG} {st:fE} {N:List bG} {n:Nat} {a:aI} {rs:List FR} {as:List aI} {fds:List cW} {oc kV dc pm cd ct:al} {od an:Option aI} {sl:Array (Option al)}
   (h1:gx K cH x=aa (aa<|.ref a)) (h2:K.lookup a=aa #[oc,od,.func<|dQ x x (Yz st) (Z6 st) (Zv st) .none kV dc pm an cd ct,sl])
   (h3:iA K cd x=am) (h4:gg K (.ref a)=am) (h5:Uq #[x,st,N,n]) (t:FnsAt K rs as fds) :
   FnsAt K (#[x,st,N,n]::rs) (a::as) (dQ x x (Yz st) (Z6 st) (Zv st) .none kV dc pm an cd ct::fds)
inductive ZsAt(K:ao):List bG->Prop
 |nil:ZsAt K []
 |cons {x:bG} {zs:List bG} (h:gx K cH x=aa ae) (t:ZsAt K zs):ZsAt K (x::zs)
inductive GsAt(K:ao):List (bG×Gv)->Prop
 |nil:GsAt K []
 |cons {x:bG} {n:Int} {u:pB} {gs:List (bG×Gv)} (h:gx K cH x=aa (aa<|.int n u)) (t:GsAt K gs):GsAt K ((x,.int n)::gs)
 |tab {x:bG} {a:aI} {es:Array ir} {n:Nat} {tb:List (Int×Int)} {gs:List (bG×Gv)} (h:gx K cH x=aa (aa<|.ref a)) (h2:K.lookup a=aa #[.type "dict",ae,.dict es n,#[]]) (h3:Sd.YM es.toList tb) (h4:(a == gD)=ap) (t:GsAt K gs):GsAt K ((x,.tab tb)::gs)
theorem GsAt.get{K:ao}{h:bY}{mg:bG->Option al}(X:K.In h)(G:h.Ns cH mg):∀{gs:List (bG×Gv)},GsAt K gs->∀y∈gs,Zcx K mg y.1 y.2
 |_,.nil,x,h=>by simp at h
 |_,.cons h t,x,m=>by
  rcases aA.mp m with rfl|m
  .exact#[_,mw X G h]
  .exact t.get X G x m
 |_,.tab h h2 h3 h4 t,x,m=>by
  rcases aA.mp m with rfl|m
  .exact#[_,λP w=>Sd.jJ h2 h3 h4,mw X G h]
  .exact t.get X G x m
theorem FnsAt.get{K:ao}{fd0:cW}:∀{fs:List FR}{as:List aI}{fds:List cW},FnsAt K fs as fds->∀i r,fs[i]?=aa r->
  gx K cH r.x=aa (aa<|.ref<|as.getD i 0)/\Fun K r.x r.x r.st (as.getD i 0) (fds.getD i fd0)/\Uq r
 |_,_,_,.nil,i,r,e=>by simp at e
 |_,_,_,.cons h1 h2 h3 h4 h5 t,0,r,e=>by
  simp at e;subst e;exact#[h1,ZbJ h2 h3 h4,h5]
 |_,_,_,.cons h1 h2 h3 h4 h5 t,i+1,r,e=>by
  obtain⟨a,b,c⟩:=t.get i r (by simpa using e)
  exact#[by simpa using a,by simpa using b,c]
theorem ZsAt.get{K:ao}:∀{zs:List bG},ZsAt K zs->∀x∈zs,gx K cH x=aa ae
 |_,.nil,x,h=>by simp at h
 |_,.cons h t,x,m=>by
  rcases aA.mp m with rfl|m
  .exact h
  .exact t.get x m
def ZbH{l:lh}{w:bN}{K:ao}{h:bY}{mg:bG->Option al}{fa:aI}{fs:List FR}{zs:List bG}{gs:List (bG×Gv)}{F:List Fn}{tk L:Nat}{sn:List Nat}{st:fE}{N:List bG}{as:List aI}{fds:List cW}
  (X:K.In h)(G:h.Ns cH mg)(hfa:mg "law" = aa (.ref fa))(hL:fs[L]?=aa #["law",st,"_law_script" :: N,1])(O:OkL fs zs gs F tk sn 0 fs F)(hT:F[tk]?=aa Sd.XD)(hLs:sn.contains L=ap)(A:FnsAt K fs as fds)(Z:ZsAt K zs)(Y:GsAt K gs) :
  ∃fd:cW,(∀(s:aw)(v:al),mV s fd #[[v],[]] [("_law_script",v)])/\∀base:bY,K.In base->base.Ns cH mg->FnOk l.prog w K mg base CX0 65 fa fd ["_law_script"] (spF K (Pv.Zh F tk 65) ap L):=by
 cases fds with
 |nil=>cases A;simp at hL
 |cons fd0 fds'=>
 have T:Top K mg fs zs gs (λi=>as.getD i 0) (λi=>(fd0::fds').getD i fd0):=
  #[λi r e=>(A.get i r e).2.1,λi r e=>by
   obtain⟨_,F,B⟩:=A.get (fd0:=fd0) i r e;exact F.binds B,λi r e=>mw X G (A.get (fd0:=fd0) i r e).1,λx hx=>PySem.W.mg_none_of X G<|Z.get x hx,λy hy=>Y.get X G y hy]
 have e:=hfa.symm.trans<|T.m L _ hL;obtain⟨_,Fu,B⟩:=A.get (fd0:=fd0) L _ hL;cases e;refine#[(fd0::fds').getD L fd0,λs v=>?_,λbase _ _=>?_]
 .obtain⟨oc,od,kV,doc,pm,an,cdv,ct,osl,e,lk,hcd⟩:=Fu.ex
  rw[e];exact .of_eq<|B kV doc pm an cdv ct [v] rfl
 .have:=uU (P:=l.prog) (w:=w) (base:=base) O hT T 65 L _ hL
  rw[hLs]at this;exact this
def walk{l:lh}{q:bC}{loose:List bG}{XP:(bG->Option al)->bY->Prop}{YP:bN->bY->Prop}{d:DefRec}{K:Params->ao}{F:List Fn}{tk L:Nat}(hok:∀(ns:List Int) s,∃S,Pv.Zh F tk 65 L [.scr ns] s=.ok (.bl am) S)(hn:l.most=aa 63)(hdf:d.params.defaults=[])
  (hY:∀(w:bN)(h:bY),YP w h->(K w.params).In h)
  (hF:∀(w:bN)(mg:bG->Option al)(fa:aI)(h:bY),(K w.params).In h->h.Ns cH mg->mg d.name=aa (.ref fa)->
   ∃fd:cW,(∀(s:aw)(u:al),mV s fd #[[u],[]] [("_law_script",u)])/\∀base:bY,(K w.params).In base->base.Ns cH mg->FnOk l.prog w (K w.params) mg base CX0 65 fa fd ["_law_script"] (spF (K w.params) (Pv.Zh F tk 65) ap L)) :
  oY q loose XP YP l.row.toRowW d [] (λf vs=>oH f vs):=
 L2.qL (n:=63) (k:=65) (x:="_law_script") (CX:=λ_=>CX0) (sp:=λw=>spF (K w.params) (Pv.Zh F tk 65) ap L) hn (by decide) hdf #[rfl,by decide,by decide] hY hF (λw H a ns hl hO hS=>vR hO hS<|hok ns) λ_ _ _ _ _ z=>z
def Top.no{K:ao}{mg:bG->Option al}{x:bG}(T:Top K mg fs zs gs f fd)(h:zs.contains x=am):mg x=ae:=T.z x (by simpa using h)
def Zc9{n:Nat}{x:bG}(T:Top X.K X.mg fs zs gs f fd)(h:All X.prog X.w X.K X.mg X.base fs F tk sn f fd d)(hr:Room d X.A)(ha:Sd.CA X (λ_ _=>False) (Pv.Zh F tk d) (e::es) is)(hx:(fs[n]?).map FR.x=aa x)(hg:Gl X x)(hdb:(x == ("__debug__" : bG))=ap)
  (he:aL (e::es) X.env=(ap,c8 e X.env)::aL es X.env)(hpl:(fN pos<|aL es X.env).any (·.1)=ap):Sd.CE X (λ_ _=>False) (Pv.Zh F tk d) (.Call (.Name x p) (e::es) [] pos) (.call n is):=by
 cases e0:fs[n]? with
 |none=>rw[e0]at hx;cases hx
 |some r=>
  rw[e0]at hx;obtain rfl:r.x=x:=ag hx;exact Sd.qu (h n r e0) hr (T.m n r e0) (T.d n r e0).kp (T.b n r e0) ha hg hdb he hpl
def ZcK{x y:bG}{n k:Nat}{px p':iw}{ss:List fE}{B:List Sm}{fr:Bool}{ns:List Nat}(T:Top X.K X.mg fs zs gs f fd)(h:All X.prog X.w X.K X.mg X.base fs F tk sn f fd d)(hr:Room d X.A)(ha:Sd.CA X (λ_ _=>False) (Pv.Zh F tk d) (e::es) is)(hB:Sd.CSs X (λ_ _=>False) fr (Pv.Zh F tk d) ns ss B)(hN:X.N.Nodup)(hx:(fs[k]?).map FR.x=aa y)(hk:sn.contains k=am)
  (hg:Gl X y)(hdb:(y == ("__debug__" : bG))=ap)(he:aL (e::es) X.env=(ap,c8 e X.env)::aL es X.env)(hpl:(fN p<|aL es X.env).any (·.1)=ap)(hi:X.N[n]?=aa x)(hl:L2.Loc X.env.scope x)(hf:X.fn x=am\/X.env.scope.names.lookup x=aa .local)
  (hs:eM [.Name x px] (.Call (.Name y p') (e::es) [] p) pos.line X.env=c7 ap)(hw:eN [.Name x px] (.Call (.Name y p') (e::es) [] p) X.env=c7 ae)(h1:(cc [.Name x px] X.env).map (·.2)=[dR (.Name x px) X.env]) :
  Sd.CSs X (λ_ _=>False) fr (Pv.Zh F tk d) ns (.Assign [.Name x px] (.Call (.Name y p') (e::es) [] p) pos::ss) [.cel n k is B]:=by
 cases e0:fs[k]? with
 |none=>rw[e0]at hx;cases hx
 |some r=>
  rw[e0]at hx;obtain rfl:r.x=y:=ag hx;have q:=h k r e0;rw[hk]at q;refine Sd.Zca (Sd.PE.imp (yp q hr hg (T.m k r e0) (T.d k r e0).kp (T.b k r e0) .nil Zam ha.h hdb he hpl) λZ H Q z=>?_) hB hN hi hl hf hs hw h1
  unfold Zai;simp only[cE];exact z
noncomputable def csB(sc:eR)(N0:List bG)(scope:eR)(N:List bG)(cap:List Nat)(nl:Nat):Bool:=
 ((N.take nl).all (λx=>ai (scope.names.lookup x=aa .local)||decide (scope.names.lookup x=aa .cell))&&(ai (N.length=nl+cap.length)&&(cap.zipIdx.all (λp=>ai (N[nl+p.2]?=N0[p.1]?)&&ai ((N0[p.1]?).map (λx=>ai<|(x,bD)∈scope.names)=aa am)) &&
  ((match scope.kind with|.function=>am|_=>ap)&&scope.names.all λy=>(!decide (y.2=.cell) || !decide ((y.1,bD)∈scope.names))&&((!decide (y.2=.local)||decide (scope.names.lookup y.1=aa .local))&&(!decide (y.2=.free)||((ai (sc.names.lookup y.1=aa .cell)||decide (sc.names.lookup y.1=aa .free))&&ai (scope.names.lookup y.1≠aa .local))))))))
def ZbO{sc:eR}{N0:List bG}{scope:eR}{N:List bG}{cap:List Nat}{nl:Nat}(h:csB sc N0 scope N cap nl=am):CompScope sc N0 scope N cap nl:=by
 unfold csB at h;simp only[aC,lm,nu,T0,decide_eq_false_iff_not,aT]at h;obtain⟨_,h1,h2,h3,h4⟩:=h;refine#[?_,λy hy z=>(h4 y hy).1.resolve_left λq=>q z,λy hy z=>?_,λy hy z=>?_,λy hy z=>?_,h1,h2]
 .cases e:scope.kind<;>rw[e]at h3<;>first|rfl|cases h3
 .rcases(h4 y hy).2.1 with q|q
  .exact T7 z q
  .exact q
 .rcases(h4 y hy).2.2 with q|q
  .exact T7 z q
  .exact q.1
 .rcases(h4 y hy).2.2 with q|q
  .exact T7 z q
  .exact q.2
noncomputable def cN(scope:eR)(nl:Nat)(cap:List Nat)(N0:List bG):List bG:=((scope.names.drop 1).take nl).map (·.1)++cap.map λi=>N0.getD i ""
def zA{sc:eR}{N0:List bG}{scope:eR}{cap:List Nat}{nl:Nat}(h:csB sc N0 scope (cN scope nl cap N0) cap nl=am):CompScope sc N0 scope (cN scope nl cap N0) cap nl:=ZbO h
end Gn
namespace K14
open Ev
noncomputable def VT:Fn:=#[2,2,
 [.ite (.cmp .lt (.v 1)<|.blt .len [(.v 0)]) [.ret<|.ix (.v 0)<|.v 1] [],
  .ret (.c<|.int 0)]]
noncomputable def Qt:Fn:=#[2,3,
 [.asg [2]<|.call 0 [(.v 0),(.v 1)],
  .ite (.cmp .ge (.v 2)<|.bin .pow (.c<|.int 10)<|.c<|.int 18) [.ret<|.lst [(.bin .sub (.v 2)<|.bin .pow (.c<|.int 10)<|.c<|.int 18),(.c<|.bl am)]] [],
  .ret (.lst [(.bin .mod (.v 2)<|.c<|.int 2147483647),(.c<|.bl ap)])]]
noncomputable def Jj:Fn:=#[2,4,
 [.ite (.dix (.v 0) am) [.asg [2]<|.bin .mod (.dix (.v 0) ap)<|.v 1,
  .dset 0 (.bin .fdiv (.dix (.v 0) ap)<|.v 1),
  .ret (.v 2)] [],
  .dset 0 (.bin .mod (.bin .add (.bin .mul (.dix (.v 0) ap)<|.c<|.int 48271)<|.c<|.int 29)<|.c<|.int 2147483647),
  .asg [3] (.bin .mod (.bin .add (.bin .add (.bin .mul (.dix (.v 0) ap)<|.dix (.v 0) ap)<|.bin .mul (.c<|.int 39373)<|.dix (.v 0) ap)<|.c<|.int 7)<|.c<|.int 2147483629),
  .asg [3] (.bin .mod (.bin .add (.bin .mul (.v 3)<|.v 3)<|.bin .mul (.c<|.int 16807)<|.v 3)<|.c<|.int 2147483587),
  .ret (.bin .mod (.bin .fdiv (.v 3)<|.c<|.int 8)<|.v 1)]]
noncomputable def Y7:Fn:=#[2,3,
 [.asg [2]<|.lst [(.tup [(.c<|.int 2),(.c<|.int 1)]),(.tup [(.c<|.int 2),(.c<|.int 2)]),(.tup [(.c<|.int 2),(.c<|.int 3)]),(.tup [(.c<|.int 2),(.c<|.int 4)]),(.tup [(.c<|.int 3),(.c<|.int 1)]),(.tup [(.c<|.int 3),(.c<|.int 2)]),(.tup [(.c<|.int 3),(.c<|.int 3)]),(.tup [(.c<|.int 5),(.c<|.int 1)]),(.tup [(.c<|.int 5),(.c<|.int 2)]),(.tup [(.c<|.int 2),(.c<|.int 3)]),(.tup [(.c<|.int 2),(.c<|.int 4)]),(.tup [(.c<|.int 3),(.c<|.int 3)])],
  .ite (.cmp .gt (.v 1)<|.c<|.int 27) [.asg [2]<|.bin .add (.v 2)<|.lst [(.tup [(.c<|.int 2),(.c<|.int 5)]),(.tup [(.c<|.int 2),(.c<|.int 6)]),(.tup [(.c<|.int 3),(.c<|.int 4)]),(.tup [(.c<|.int 5),(.c<|.int 3)])]] [],
  .ret (.ix (.v 2)<|.call 2 [(.v 0),(.blt .len [(.v 2)])])]]
noncomputable def Wc:Fn:=#[4,4,
 [.ret<|.blt .tuple [(.comp1 [3,0] 2 [0,1] (.zip (.v 1)<|.v 2) []<|.bin .mod (.bin .add (.v 0)<|.bin .mul (.v 2)<|.v 1)<|.v 3)]]]
noncomputable def Qa:Fn:=#[4,4,
 [.ret<|.call 4 [(.v 0),(.v 1),(.v 2),(.neg<|.ix (.v 1)<|.v 3)]]]
noncomputable def xD:Fn:=#[1,3,
 [.forr [1,2] (.enum<|.v 0) [.ite (.cmp .ne (.v 2)<|.c<|.int 0) [.ret<|.v 1] []],
  .ret (.c .non)]]
noncomputable def JV:Fn:=#[3,7,
 [.asg [3,4]<|.v 0,
  .asg [5] (.v 2),
  .forr [6] (.of<|.v 1) [.asg [5]<|.call 5 [(.v 3),(.v 5),(.v 6),(.call 6 [(.v 6)])]],
  .ret (.v 5)]]
noncomputable def Qr:Fn:=#[3,3,
 [.ret<|.blt .tuple [(.comp1 [2,0] 1 [0] (.of<|.v 1) []<|.bin .mod (.bin .mul (.v 1)<|.v 0)<|.v 2)]]]
noncomputable def Uz:Fn:=#[2,3,
 [.asg [2]<|.c<|.int 1,
  .whl (.cmp .ne (.bin .mod (.bin .mul (.v 2)<|.v 1)<|.v 0)<|.c<|.int 1) [.aug 2 .add<|.c<|.int 1],
  .ret (.v 2)]]
noncomputable def Ug:Fn:=#[3,9,
 [.asg [3,4]<|.v 0,
  .asg [5] (.call 7 [(.v 0),(.v 1),(.v 2)]),
  .asg [6] (.call 6 [(.v 5)]),
  .ite (.cmp .is (.v 6)<|.c .non) [.ret<|.v 1] [],
  .asg [7] (.call 8 [(.v 3),(.v 5),(.call 9 [(.v 3),(.ix (.v 5)<|.v 6)])]),
  .asg [8] (.comp1 [3,7,6] 1 [0] (.of<|.v 1) []<|.call 5 [(.v 1),(.v 0),(.v 2),(.v 3)]),
  .ret (.blt .tuple [(.blt .sortedR [(.bin .add (.v 8)<|.lst [(.v 7)])])])]]
noncomputable def YS:Fn:=#[3,5,
 [.asg [3]<|.v 1,
  .forr [4] (.of<|.v 2) [.asg [3]<|.call 10 [(.v 0),(.v 3),(.v 4)]],
  .ret (.v 3)]]
noncomputable def Yu:Fn:=#[3,3,
 [.ret<|.and (.isi (.v 0) [.int])<|.and (.not<|.isi (.v 0) [.bool])<|.chain .le .le (.v 1) (.v 0)<|.v 2]]
noncomputable def J0:Fn:=#[2,4,
 [.asg [2,3]<|.v 0,
  .ite (.or (.not<|.isi (.v 1) [.tuple])<|.cmp .ne (.blt .len [(.v 1)])<|.v 3) [.ret<|.c<|.bl ap] [],
  .ret (.blt .all [(.comp1 [2] 1 [0] (.of<|.v 1) []<|.call 12 [(.v 0),(.c<|.int 0),(.bin .sub (.v 1)<|.c<|.int 1)])])]]
noncomputable def XE:Fn:=#[2,2,
 [.ite (.not<|.call 13 [(.v 0),(.v 1)]) [.raise 1 []] []]]
noncomputable def UB:Fn:=#[2,3,
 [.ite (.not<|.isi (.v 1) [.tuple,.list]) [.raise 1 []] [],
  .forr [2] (.of<|.v 1) [.ex<|.call 14 [(.v 0),(.v 2)]],
  .ret (.call 11 [(.v 0),(.tup []),(.v 1)])]]
noncomputable def WJ:Fn:=#[1,1,
 [.ret<|.blt .all [(.comp1 [] 2 [0,1] (.zip (.v 0)<|.sl (.v 0) (aa<|.c<|.int 1) ae) []<|.cmp .lt (.v 0)<|.v 1)]]]
noncomputable def XQ:Fn:=#[2,2,
 [.ret<|.blt .all [(.comp1 [1] 1 [0] (.of<|.v 0) []<|.cmp .eq (.ix (.v 0)<|.v 1)<|.c<|.int 0)]]]
noncomputable def Xm:Fn:=#[3,3,
 [.ret<|.and (.cmp .eq (.ix (.ix (.v 0)<|.v 1)<|.v 2)<|.c<|.int 1)<|.call 17 [(.bin .add (.sl (.v 0) ae<|aa<|.v 1)<|.sl (.v 0) (aa<|.bin .add (.v 1)<|.c<|.int 1) ae),(.v 2)]]]
noncomputable def Ww:Fn:=#[2,3,
 [.ite (.or (.not<|.isi (.v 1) [.tuple])<|.not<|.blt .all [(.comp1 [0] 1 [0] (.of<|.v 1) []<|.call 13 [(.v 1),(.v 0)])]) [.ret<|.c<|.bl ap] [],
  .asg [2] (.comp1 [] 1 [0] (.of<|.v 1) []<|.call 6 [(.v 0)]),
  .ite (.or (.cmp .inn (.c .non)<|.v 2)<|.not<|.call 16 [(.v 2)]) [.ret<|.c<|.bl ap] [],
  .ret (.blt .all [(.comp1 [1] 2 [0,1] (.enum<|.v 2) []<|.call 18 [(.v 2),(.v 0),(.v 1)])])]]
noncomputable def WG:Fn:=#[2,2,
 [.ite (.not<|.call 19 [(.v 0),(.v 1)]) [.raise 2 []] []]]
noncomputable def Uv:Fn:=#[2,6,
 [.ex<|.call 20 [(.v 0),(.v 1)],
  .asg [2,3] (.v 0),
  .asg [4] (.lst [(.bin .mul (.tup [(.c<|.int 0)])<|.v 3)]),
  .forr [5] (.of<|.v 1) [.asg [4]<|.comp2 [2,5] 2 [0] (.of<|.v 4) [] [1] (.rng1<|.v 2) []<|.call 4 [(.v 2),(.v 0),(.v 3),(.v 1)]],
  .ret (.v 4)]]
noncomputable def JL:Fn:=#[4,4,
 [.ret<|.blt .tuple [(.comp1 [1,2,3,0] 1 [0] (.rng1<|.ix (.v 0)<|.c<|.int 1) []<|.bin .mod (.bin .add (.ix (.v 1)<|.v 0)<|.bin .mul (.v 2)<|.ix (.v 3)<|.v 0)<|.ix (.v 4)<|.c<|.int 0)]]]
noncomputable def XF:Fn:=#[2,3,
 [.asg [2]<|.bin .mul (.call 2 [(.v 0),(.bin .add (.ix (.v 1)<|.c<|.int 1)<|.c<|.int 1)])<|.blt .toInt [(.cmp .eq (.call 2 [(.v 0),(.c<|.int 3)])<|.c<|.int 0)],
  .ret (.bin .add (.bin .mul (.tup [(.c<|.int 0)])<|.v 2)<|.blt .tuple [(.comp1 [0,1] 1 [0] (.rng1<|.bin .sub (.ix (.v 1)<|.c<|.int 1)<|.v 2) []<|.call 2 [(.v 1),(.ix (.v 2)<|.c<|.int 0)])])]]
noncomputable def xq:Fn:=#[3,3,
 [.ret<|.cmp .is (.call 6 [(.call 7 [(.v 0),(.v 1),(.v 2)])])<|.c .non]]
noncomputable def yr:Fn:=#[3,3,
 [.ex<|.call 20 [(.v 0),(.v 1)],
  .ex (.call 14 [(.v 0),(.v 2)]),
  .ret (.call 24 [(.v 0),(.v 1),(.v 2)])]]
noncomputable def Zdi:Fn:=#[1,12,
 [.forr [1] (.rng1<|.blt .max2 [(.c<|.int 1),(.blt .min2 [(.blt .len [(.v 0)]),(.c<|.int 6)])]) [.cel 2 1 [(.v 0),(.v 1)]
  [.asg [3]<|.call 3 [(.v 2),(.ix (.lst [(.c<|.int 27),(.c<|.int 125)])<|.blt .toInt [(.cmp .eq (.v 1)<|.c<|.int 0)])],
  .asg [4] (.call 15 [(.v 3),(.comp1 [2,3] 1 [0] (.rng1<|.call 2 [(.v 2),(.c<|.int 5)]) []<|.call 23 [(.v 1),(.v 2)])]),
  .asg [5] (.call 21 [(.v 3),(.v 4)]),
  .asg [6] (.c<|.int 1),
  .forr [7] (.of<|.v 4) [.asg [6]<|.bin .mul (.v 6)<|.ix (.v 3)<|.c<|.int 0],
  .ite (.or (.cmp .isn (.call 19 [(.v 3),(.v 4)])<|.c<|.bl am)<|.or (.cmp .ne (.blt .len [(.v 5)])<|.v 6)<|.cmp .ne (.blt .sortedT [(.v 5)])<|.v 5) [.ret<|.c<|.bl ap] [],
  .ite (.or (.cmp .ne (.call 15 [(.v 3),(.v 4)])<|.v 4)<|.cmp .ne (.call 15 [(.v 3),(.bin .add (.rev<|.v 4)<|.blt .tuple [(.sl (.v 5) (aa<|.neg<|.c<|.int 3) ae)])])<|.v 4) [.ret<|.c<|.bl ap] [],
  .asg [8,9] (.comp1 [5,2,6] 1 [0] (.rng1<|.c<|.int 2) []<|.ix (.v 1)<|.call 2 [(.v 2),(.v 3)]),
  .asg [10] (.call 22 [(.v 3),(.v 8),(.call 2 [(.v 2),(.ix (.v 3)<|.c<|.int 0)]),(.v 9)]),
  .ite (.or (.cmp .isn (.call 13 [(.v 3),(.v 10)])<|.c<|.bl am)<|.or (.cmp .isn (.call 25 [(.v 3),(.v 4),(.v 10)])<|.c<|.bl am)<|.cmp .nin (.v 10)<|.v 5) [.ret<|.c<|.bl ap] [],
  .asg [7] (.call 23 [(.v 2),(.v 3)]),
  .asg [11] (.call 15 [(.v 3),(.bin .add (.blt .list [(.v 4)])<|.lst [(.v 7)])]),
  .ite (.or (.cmp .ne (.call 25 [(.v 3),(.v 4),(.v 7)])<|.cmp .inn (.v 7)<|.v 5)<|.cmp .ne (.cmp .eq (.v 11)<|.v 4)<|.cmp .inn (.v 7)<|.v 5) [.ret<|.c<|.bl ap] [],
  .ite (.or (.cmp .ne (.blt .len [(.v 11)])<|.bin .add (.blt .len [(.v 4)])<|.blt .toInt [(.cmp .nin (.v 7)<|.v 5)])<|.cmp .isn (.call 25 [(.v 3),(.v 11),(.v 7)])<|.c<|.bl am) [.ret<|.c<|.bl ap] []]],
  .ret (.c<|.bl am)]]
noncomputable def fns:List Fn:=[VT,Qt,Jj,Y7,Wc,Qa,xD,JV,Qr,Uz,Ug,YS,Yu,J0,XE,UB,WJ,XQ,Xm,Ww,WG,Uv,JL,XF,xq,yr,Zdi]
noncomputable abbrev tk:Nat:=2
noncomputable abbrev sn:List Nat:=[1]
end K14
namespace La
variable{F:Type}[me F]
noncomputable abbrev Vec(F:Type):=Nat->F
noncomputable abbrev Pt(F:Type):=List<|Nat×Vec F
noncomputable def pr:Pt F->Vec F->Vec F
 |[],_,_=>0
 |a::P,v,j=>v a.1*a.2 j+pr P v j
structure Rf(P:Pt F):Prop where
 inc:P.Pairwise λa b=>a.1<b.1
 low:∀a∈P,∀j,j<a.1->a.2 j=0
 one:∀a∈P,a.2 a.1=1
 zer:∀a∈P,∀b∈P,a.1≠b.1->b.2 a.1=0
def Mem(P:Pt F)(v:Vec F):Prop:=∀j,v j=pr P v j
theorem Zbm(P:Pt F)(u v:Vec F)(c:F)(j:Nat):pr P (λj=>u j+c*v j) j=pr P u j+c*pr P v j:=by
 induction P with|nil=>show(0:F)=0+c*0;grind|cons a P ih=>show(u a.1+c*v a.1)*a.2 j+pr P _ j=(u a.1*a.2 j+pr P u j)+c*(v a.1*a.2 j+pr P v j);grind
theorem Wr(P:Pt F)(u v:Vec F)(c:F)(j:Nat):pr P (λj=>u j-c*v j) j=pr P u j-c*pr P v j:=by
 induction P with|nil=>show(0:F)=0-c*0;grind|cons a P ih=>show(u a.1-c*v a.1)*a.2 j+pr P _ j=(u a.1*a.2 j+pr P u j)-c*(v a.1*a.2 j+pr P v j);grind
def v9{P:Pt F}{u v:Vec F}(h:∀b∈P,u b.1=v b.1)(j:Nat):pr P u j=pr P v j:=by
 induction P with
 |nil=>rfl
 |cons a P ih=>
  show u a.1*a.2 j+pr P u j=v a.1*a.2 j+pr P v j;rw[h a<|ak ..,ih λb hb=>h b<|aj _ hb]
theorem Yj{P:Pt F}{v:Vec F}{j:Nat}(h:∀b∈P,v b.1*b.2 j=0):pr P v j=0:=by
 induction P with
 |nil=>rfl
 |cons a P ih=>
  show v a.1*a.2 j+pr P v j=0;rw[h a<|ak ..,ih λb hb=>h b<|aj _ hb];grind
theorem yf{P:Pt F}{v:Vec F}{j:Nat}{a:Nat×Vec F}(inc:P.Pairwise λa b=>a.1<b.1)(ha:a∈P)(h:∀b∈P,b.1≠a.1->v b.1*b.2 j=0):pr P v j=v a.1*a.2 j:=by
 induction P with
 |nil=>cases ha
 |cons b P ih=>
  rw[aZ]at inc;show v b.1*b.2 j+pr P v j=_;rcases aA.mp ha with e|hm
  .subst e
   rw[Yj λc hc=>h c (aj _ hc) (by have:=inc.1 c hc;lia)];grind
  .rw[ih inc.2 hm λc hc=>h c<|aj _ hc,h b (ak ..) (by have:=inc.1 a hm;lia)];grind
def Rf.tail{a:Nat×Vec F}{P:Pt F}(h:Rf (a::P)):Rf P:=
 #[(aZ.mp h.inc).2,λb hb=>h.low b<|aj _ hb,λb hb=>h.one b<|aj _ hb,λb hb c hc=>h.zer b (aj _ hb) c<|aj _ hc]
def Rf.nil:Rf ([]:Pt F):=#[gj,λ_ h=>(by cases h),λ_ h=>(by cases h),λ_ h=>(by cases h)]
theorem yg{P:Pt F}(h:Rf P){a:Nat×Vec F}(ha:a∈P)(v:Vec F):pr P v a.1=v a.1:=by
 rw[yf h.inc ha λb hb ne=>by rw[h.zer a ha b hb<|Ne.symm ne];grind,h.one a ha];grind
theorem YT{P:Pt F}(h:Rf P){a:Nat×Vec F}(ha:a∈P):Mem P a.2:=λj=>by
 rw[yf h.inc ha λb hb ne=>by rw[h.zer b hb a ha ne];grind,h.one a ha];grind
def YE(c:F)(hu:Mem P u)(hv:Mem P v):Mem P λj=>u j+c*v j:=λj=>by
 rw[Zbm,<-hu j,<-hv j]
def WR(c:F)(hu:Mem P u)(hv:Mem P v):Mem P λj=>u j-c*v j:=λj=>by
 rw[Wr,<-hu j,<-hv j]
theorem Yx{P:Pt F}:Mem P λ_=>0:=λj=>(Yj λb _=>by grind).symm
def wq{P:Pt F}(h:Rf P)(v:Vec F):Mem P (pr P v):=λj=>v9 (λb hb=>(yg h hb v).symm) j
def qZ{v:Vec F}:Mem ([]:Pt F) v↔∀j,v j=0:=Iff.rfl
theorem uy{P:Pt F}{v:Vec F}(h:Mem P v)(z:∀b∈P,v b.1=0)(j:Nat):v j=0:=by
 rw[h j];exact Yj λb hb=>by rw[z b hb];grind
theorem JR{P:Pt F}(h:Rf P){v:Vec F}(hv:Mem P v){k:Nat}(hk:v k≠0)(hl:∀j,j<k->v j=0):∃a∈P,a.1=k:=by
 have inc:=h.inc;have low:=h.low;have gen:∀Q:Pt F,Q.Pairwise (λa b=>a.1<b.1)->(∀a∈Q,∀j,j<a.1->a.2 j=0)->(∀j,v j=pr Q v j)->∃a∈Q,v a.1≠0/\∀j,j<a.1->v j=0:=by
  intro Q
  induction Q with
  |nil=>intro _ _ e;exact T7 (e k) hk
  |cons a Q ih=>
   intro inc low e;rw[aZ]at inc;by_cases c:v a.1=0
   .obtain⟨b,hb,r⟩:=ih inc.2 (λb hb=>low b<|aj _ hb) λj=>by
     have:v j=v a.1*a.2 j+pr Q v j:=e j;rw[c]at this;grind
    exact#[b,aj _ hb,r]
   .refine#[a,ak ..,c,λj hj=>?_]
    have e1:v j=v a.1*a.2 j+pr Q v j:=e j;have e2:pr Q v j=0:=Yj λb hb=>by rw[low b (aj _ hb) j (by have:=inc.1 b hb;lia)];grind
    rw[e1,e2,low a (ak ..) j hj];grind
 obtain⟨a,ha,h1,h2⟩:=gen P inc low hv;refine#[a,ha,?_];by_cases c:a.1<k
 .exact T7 (hl _ c) h1
 .by_cases c2:k<a.1
  .exact T7 (h2 _ c2) hk
  .lia
def U8{P Q:Pt F}(one0:(1:F)≠0)(hP:Rf P)(hQ:Rf Q)(h:∀v,Mem P v->Mem Q v):∀a∈P,∃b∈Q,b.1=a.1:=λa ha=>
 JR hQ (h _<|YT hP ha) (by rw[hP.one a ha];exact one0) (hP.low a ha)
theorem G6:∀{a b:List Nat},a.Pairwise (· < ·)->b.Pairwise (· < ·)->(∀x,x∈a↔x∈b)->a=b
 |[],[],_,_,_=>rfl
 |[],y::b,_,_,h=>by have:=(h y).mpr<|ak ..;cases this
 |x::a,[],_,_,h=>by have:=(h x).mp<|ak ..;cases this
 |x::a,y::b,ha,hb,h=>by
  rw[aZ]at ha hb;have e:x=y:=by
   rcases aA.mp ((h x).mp<|ak ..)with e|e
   .exact e
   .rcases aA.mp ((h y).mpr<|ak ..)with e'|e'
    .exact e'.symm
    .have:=hb.1 x e;have:=ha.1 y e';lia
  subst e;rw[G6 ha.2 hb.2 λz=>?_]
  constructor
  .intro hz
   rcases aA.mp ((h z).mp<|aj _ hz)with e|e
   .have:=ha.1 z hz;lia
   .exact e
  .intro hz
   rcases aA.mp ((h z).mpr<|aj _ hz)with e|e
   .have:=hb.1 z hz;lia
   .exact e
def Rf.heads{P:Pt F}(h:Rf P):(P.map (·.1)).Pairwise (· < ·):=cy.mpr h.inc
theorem uniq{P Q:Pt F}(one0:(1:F)≠0)(hP:Rf P)(hQ:Rf Q)(h:∀v,Mem P v↔Mem Q v):P=Q:=by
 have eh:=G6 hP.heads hQ.heads λx=>by
  constructor
  .intro hx
   obtain⟨a,ha,rfl⟩:=aR.mp hx;obtain⟨b,hb,e⟩:=U8 one0 hP hQ (λv=>(h v).mp) a ha
   exact aR.mpr #[b,hb,e]
  .intro hx
   obtain⟨a,ha,rfl⟩:=aR.mp hx;obtain⟨b,hb,e⟩:=U8 one0 hQ hP (λv=>(h v).mpr) a ha
   exact aR.mpr #[b,hb,e]
 have ev:∀a∈P,∀b∈Q,a.1=b.1->a.2=b.2:=by
  intro a ha b hb e;have hd:=WR 1 (YT hP ha)<|(h _).mpr<|YT hQ hb
  funext j
  have:=uy hd (λc hc=>by
   have:c.1∈Q.map (·.1):=by rw[<-eh];exact aR.mpr #[c,hc,rfl]
   obtain⟨c',hc',ec⟩:=aR.mp this;by_cases z:c.1=a.1
   .rw[z,hP.one a ha,e,hQ.one b hb];grind
   .rw[hP.zer c hc a ha z,<-ec,hQ.zer c' hc' b hb (by lia)];grind) j
  grind
 clear h hP hQ
 induction P generalizing Q with
 |nil=>cases Q with|nil=>rfl|cons b Q=>cases eh
 |cons a P ih=>cases Q with
  |nil=>cases eh
  |cons b Q=>
   rw[bj,bj]at eh;injection eh with e1 e2
   have e3:=ev a (ak ..) b (ak ..) e1;rw[ih e2 λx hx y hy=>ev x (aj _ hx) y<|aj _ hy]
   rw[pj e1 e3]
noncomputable def ins(x:Nat×Vec F):Pt F->Pt F
 |[]=>[x]
 |y::P=>if x.1<y.1 then x::y::P else y::ins x P
theorem ZT(x:Nat×Vec F):∀P:Pt F,(ins x P).Perm (x::P)
 |[]=>cu _
 |y::P=>by
  unfold ins;split
  .exact cu _
  .exact((ZT x P).cons y).trans<|iQ x y P
theorem zL(x:Nat×Vec F):∀{P:Pt F},P.Pairwise (λa b=>a.1<b.1)->(∀a∈P,a.1≠x.1)->(ins x P).Pairwise λa b=>a.1<b.1
 |[],_,_=>by exact f8 ..
 |y::P,h,hn=>by
  have h':=aZ.mp h;unfold ins;split
  .rename_i c
   refine aZ.mpr #[λz hz=>?_,h]
   rcases aA.mp hz with rfl|hz
   .exact c
   .have:=h'.1 z hz;lia
  .rename_i c
   refine aZ.mpr #[λz hz=>?_,zL x h'.2 λa ha=>hn a<|aj _ ha]
   rcases aA.mp ((ZT x P).mem_iff.mp hz)with rfl|hz
   .have:=hn y<|ak ..;lia
   .exact h'.1 z hz
theorem vT(x:Nat×Vec F)(v:Vec F)(j:Nat):∀P:Pt F,pr (ins x P) v j=v x.1*x.2 j+pr P v j
 |[]=>rfl
 |y::P=>by
  unfold ins;split
  .rfl
  .show v y.1*y.2 j+pr (ins x P) v j=v x.1*x.2 j+(v y.1*y.2 j+pr P v j)
   rw[vT x v j P];grind
noncomputable def off(h:Nat)(l:Vec F)(a:Nat×Vec F):Nat×Vec F:=(a.1,λj=>a.2 j-a.2 h*l j)
noncomputable def wid(P:Pt F)(h:Nat)(l:Vec F):Pt F:=ins (h,l)<|P.map<|off h l
theorem wF(h:Nat)(l v:Vec F)(j:Nat):∀P:Pt F,pr (P.map<|off h l) v j=pr P v j-pr P v h*l j
 |[]=>by show(0:F)=0-0*l j;grind
 |a::P=>by
  show v a.1*(a.2 j-a.2 h*l j)+pr (P.map<|off h l) v j=(v a.1*a.2 j+pr P v j)-(v a.1*a.2 h+pr P v h)*l j;rw[wF h l v j P];grind
structure Lead(P:Pt F)(h:Nat)(l:Vec F):Prop where
 one:l h=1
 low:∀j,j<h->l j=0
 zer:∀a∈P,l a.1=0
def Lead.ne{P:Pt F}{h:Nat}{l:Vec F}(one0:(1:F)≠0)(L:Lead P h l){a:Nat×Vec F}(ha:a∈P):a.1≠h:=λe=>by
 have:=L.zer a ha;rw[e,L.one]at this;exact one0 this
theorem ZbB{P:Pt F}{h:Nat}{l:Vec F}(one0:(1:F)≠0)(hP:Rf P)(L:Lead P h l):Rf (wid P h l):=by
 have mem:∀{x},x∈wid P h l->x=(h,l)\/∃a∈P,x=off h l a:=λ{x} hx=>by
  rcases aA.mp ((ZT _ _).mem_iff.mp hx)with e|e
  .exact .inl e
  .obtain⟨a,ha,e⟩:=aR.mp e
   exact .inr #[a,ha,e.symm]
 refine#[zL _ ?_ ?_,λx hx j hj=>?_,λx hx=>?_,λx hx y hy ne=>?_]
 .exact cy.mpr hP.inc
 .intro a ha
  obtain⟨b,hb,rfl⟩:=aR.mp ha;exact L.ne (a:=b) one0 hb
 .rcases mem hx with rfl|⟨a,ha,rfl⟩
  .exact L.low j hj
  .show a.2 j-a.2 h*l j=0
   rw[hP.low a ha j hj];by_cases c:h<a.1
   .rw[hP.low a ha h c];grind
   .have:j<a.1:=hj
    rw[L.low j (by have:=L.ne one0 ha;lia)];grind
 .rcases mem hx with rfl|⟨a,ha,rfl⟩
  .exact L.one
  .show a.2 a.1-a.2 h*l a.1=1
   rw[hP.one a ha,L.zer a ha];grind
 .rcases mem hx with rfl|⟨a,ha,rfl⟩
  .rcases mem hy with rfl|⟨b,hb,rfl⟩
   .exact T7 rfl ne
   .show b.2 h-b.2 h*l h=0
    rw[L.one];grind
  .rcases mem hy with rfl|⟨b,hb,rfl⟩
   .exact L.zer a ha
   .show b.2 a.1-b.2 h*l a.1=0
    rw[hP.zer a ha b hb ne,L.zer a ha];grind
def jc(P:Pt F)(h:Nat)(l:Vec F):(wid P h l).length=P.length+1:=by
 have:=(ZT (h,l)<|P.map<|off h l).length_eq;rw[aS,az]at this;exact this
theorem Zab{P:Pt F}{h:Nat}{l:Vec F}(hP:Rf P)(L:Lead P h l)(u:Vec F):Mem (wid P h l) u↔∃c,Mem P λj=>u j-c*l j:=by
 have e:∀j,pr (wid P h l) u j=u h*l j+(pr P u j-pr P u h*l j):=λj=>by
  unfold wid;rw[vT,wF]
 have pl:∀j,pr P l j=0:=λj=>Yj λb hb=>by rw[L.zer b hb];grind
 constructor
 .intro hu
  refine#[u h-pr P u h,λj=>?_]
  rw[Wr,pl];have:=hu j;rw[e j]at this;show u j-(u h-pr P u h)*l j=_
  grind
 .rintro ⟨c,hc⟩ j
  rw[e j];have h1:=hc j;have h2:u h-c*l h=_:=hc h;rw[Wr,pl]at h1 h2;rw[L.one]at h2
  grind
noncomputable def rest(P:Pt F)(v:Vec F):Vec F:=λj=>v j-pr P v j
theorem wc(hP:Rf P)(v:Vec F)(ha:a∈P):rest P v a.1=0:=by
 unfold rest;rw[yg hP ha];grind
theorem Vp{P:Pt F}{v:Vec F}:(∀j,rest P v j=0)↔Mem P v:=by
 constructor
 .intro h j;have:=h j;unfold rest at this;grind
 .intro h j;have:=h j;unfold rest;grind
theorem yM{P:Pt F}(hP:Rf P){v:Vec F}{h:Nat}{i:F}(hi:i*rest P v h=1)(hl:∀j,j<h->rest P v j=0):Lead P h λj=>i*rest P v j:=
 #[hi,λj hj=>by rw[hl j hj];grind,λa ha=>by rw[wc hP v ha];grind]
theorem wE{P:Pt F}(hP:Rf P){v:Vec F}{h:Nat}{i:F}(hi:i*rest P v h=1)(hl:∀j,j<h->rest P v j=0)(u:Vec F) :
  Mem (wid P h λj=>i*rest P v j) u↔∃c,Mem P λj=>u j-c*v j:=by
 rw[Zab hP<|yM hP hi hl]
 constructor
 .rintro ⟨c,hc⟩
  refine#[c*i,?_];have:=WR (c*i) hc<|wq hP v;have e:(λj=>(u j-c*(i*rest P v j))-c*i*pr P v j)=λj=>u j-c*i*v j:=by funext j;unfold rest;grind
  rw[e]at this;exact this
 .rintro ⟨c,hc⟩
  refine#[c*rest P v h,?_];have:=YE c hc<|wq hP v;have e:(λj=>(u j-c*v j)+c*pr P v j)=λj=>u j-c*rest P v h*(i*rest P v j):=by funext j;unfold rest at hi ⊢;grind
  rw[e]at this;exact this
theorem we(hv:Mem P v)(u:Vec F):Mem P u↔∃c,Mem P λj=>u j-c*v j:=by
 constructor
 .intro h;exact#[0,by have:=WR 0 h hv;exact this]
 .rintro ⟨c,hc⟩
  have:=YE c hc hv;have e:(λj=>(u j-c*v j)+c*v j)=u:=by funext j;grind
  rw[e]at this;exact this
def Wt(P:Pt F):List (Vec F)->Vec F->Prop
 |[],u=>Mem P u
 |v::vs,u=>∃c,Wt P vs λj=>u j-c*v j
theorem Wv{P P':Pt F}{v:Vec F}(h:∀u,Mem P' u↔∃c,Mem P λj=>u j-c*v j):∀(vs:List (Vec F))(u:Vec F),Wt P' vs u↔Wt P (v::vs) u
 |[],u=>h u
 |w::vs,u=>by
  constructor
  .rintro ⟨d,hd⟩
   obtain⟨c,hc⟩:=(Wv h vs _).mp hd;refine#[c,d,?_];have e:(λj=>u j-c*v j-d*w j)=λj=>u j-d*w j-c*v j:=by funext j;grind
   show Wt P vs λj=>u j-c*v j-d*w j
   rw[e];exact hc
  .rintro ⟨c,d,hc⟩
   refine#[d,(Wv h vs _).mpr #[c,?_]];have e:(λj=>u j-d*w j-c*v j)=λj=>u j-c*v j-d*w j:=by funext j;grind
   show Wt P vs λj=>u j-d*w j-c*v j
   rw[e];exact hc
theorem x8{P Q:Pt F}(hQ:Rf Q)(u:Vec F):Wt P (Q.map (·.2)) u↔∃q,Mem Q q/\Mem P λj=>u j-q j:=by
 constructor
 .have gen:∀(ws:List (Vec F))(u:Vec F),(∀w∈ws,Mem Q w)->Wt P ws u->∃q,Mem Q q/\Mem P λj=>u j-q j:=by
   intro ws
   induction ws with
   |nil=>intro u _ h;exact#[λ_=>0,Yx,by
    have e:(λj=>u j-0)=u:=by funext j;grind
    rw[e];exact h]
   |cons w ws ih=>
    rintro u hw ⟨c,h⟩
    obtain⟨q,hq,hp⟩:=ih _ (λx hx=>hw x<|aj _ hx) h
    refine#[λj=>q j+c*w j,YE c hq<|hw w<|ak ..,?_]
    have e:(λj=>u j-(q j+c*w j))=λj=>u j-c*w j-q j:=by funext j;grind
    rw[e];exact hp
  exact gen _ u λw hw=>by obtain⟨a,ha,rfl⟩:=aR.mp hw;exact YT hQ ha
 .rintro ⟨q,hq,hp⟩
  have gen:∀(R:Pt F)(u:Vec F),(Mem P λj=>u j-pr R q j)->Wt P (R.map (·.2)) u:=by
   intro R
   induction R with
   |nil=>
    intro u h;have e:(λj=>u j-pr [] q j)=u:=by funext j;show u j-0=u j;grind
    rw[e]at h;exact h
   |cons a R ih=>
    intro u h;refine#[q a.1,ih _ ?_];have e:(λj=>u j-q a.1*a.2 j-pr R q j)=λj=>u j-pr (a::R) q j:=by funext j;show _=u j-(q a.1*a.2 j+pr R q j);grind
    show Mem P λj=>u j-q a.1*a.2 j-pr R q j
    rw[e];exact h
  refine gen Q u ?_;have e:(λj=>u j-pr Q q j)=λj=>u j-q j:=by funext j;rw[<-hq j]
  rw[e];exact hp
variable{F:Type}[me F][DecidableEq F]
def Supp(n:Nat)(v:Vec F):Prop:=∀j,n<=j->v j=0
structure Pn(n:Nat)(P:Pt F):Prop where
 rf:Rf P
 lt:∀a∈P,a.1<n
 sp:∀a∈P,Supp n a.2
theorem Pn.nil{n:Nat}:Pn n ([]:Pt F):=#[Rf.nil,λ_ h=>(by cases h),λ_ h=>(by cases h)]
theorem qa(h:Pn n P)(v:Vec F):Supp n (pr P v):=λj hj=>Yj λb hb=>by rw[h.sp b hb j hj];grind
noncomputable def hdV(n:Nat)(v:Vec F):Option Nat:=(aM n).find? λj=>ai<|v j≠0
theorem JB{n:Nat}{v:Vec F}(hs:Supp n v)(h:hdV n v=ae)(j:Nat):v j=0:=by
 by_cases c:j<n
 .have:=fZ.mp h j (aU.mpr c)
  simpa using this
 .exact hs j (by lia)
def Ve{n:Nat}{v:Vec F}{k:Nat}(h:hdV n v=aa k):k<n/\v k≠0/\∀j,j<k->v j=0:=by
 unfold hdV at h;rw[kw]at h;obtain⟨h1,h2,h3⟩:=h;refine#[aU.mp h2,by simpa using h1,λj hj=>?_]
 have:=h3 j hj
 simpa using this
def uZ{n:Nat}{v:Vec F}{k:Nat}(hk:k<n)(h1:v k≠0)(h2:∀j,j<k->v j=0):hdV n v=aa k:=by
 unfold hdV;rw[kw];exact#[by simpa using h1,aU.mpr hk,λj hj=>by simpa using h2 j hj]
structure Fld(inv:F->F):Prop where
 inv:∀a,a≠0->inv a*a=1
 one0:(1:F)≠0
section
variable{inv:F->F}{n:Nat}
noncomputable def more(inv:F->F)(n:Nat)(P:Pt F)(v:Vec F):Pt F:=match hdV n (rest P v)with
 |none=>P
 |some h=>wid P h λj=>inv (rest P v h)*rest P v j
structure Grow(n:Nat)(P:Pt F)(v:Vec F)(P':Pt F):Prop where
 pn:Pn n P'
 mem:∀u,Mem P' u↔∃c,Mem P λj=>u j-c*v j
 same:Mem P v->P'=P
 len:¬Mem P v->P'.length=P.length+1
theorem X2(f:Fld inv){P:Pt F}{v:Vec F}(hP:Pn n P)(hv:Supp n v):Grow n P v (more inv n P v):=by
 have hs:Supp n (rest P v):=λj hj=>by unfold rest;rw[hv j hj,qa hP v j hj];grind
 cases q:hdV n (rest P v)with
 |none=>
  have e:more inv n P v=P:=by unfold more;rw[q]
  have hm:=Vp.mp<|JB hs q;rw[e];exact#[hP,we hm,λ_=>rfl,λh=>T7 hm h]
 |some h=>
  have e:more inv n P v=wid P h λj=>inv (rest P v h)*rest P v j:=by unfold more;rw[q]
  obtain⟨h1,h2,h3⟩:=Ve q;have hi:=f.inv _ h2;have L:=yM hP.rf hi h3;rw[e];refine#[#[ZbB f.one0 hP.rf L,λa ha=>?_,λa ha=>?_],wE hP.rf hi h3,λhm=>T7 (Vp.mpr hm h) h2,λ_=>jc ..]
  .rcases aA.mp ((ZT _ _).mem_iff.mp ha)with e|e
   .rw[e];exact h1
   .obtain⟨b,hb,rfl⟩:=aR.mp e
    exact hP.lt b hb
  .rcases aA.mp ((ZT _ _).mem_iff.mp ha)with e|e
   .rw[e];intro j hj
    show inv (rest P v h)*rest P v j=0;rw[hs j hj];grind
   .obtain⟨b,hb,rfl⟩:=aR.mp e
    intro j hj;show b.2 j-b.2 h*(inv (rest P v h)*rest P v j)=0;rw[hP.sp b hb j hj,hs j hj];grind
noncomputable def VV(inv:F->F)(n:Nat)(P:Pt F)(vs:List (Vec F)):Pt F:=vs.foldl (more inv n) P
theorem Vt(f:Fld inv):∀(vs:List (Vec F)){P:Pt F},Pn n P->(∀v∈vs,Supp n v)->Pn n (VV inv n P vs)/\∀u,Mem (VV inv n P vs) u↔Wt P vs u
 |[],P,hP,_=>#[hP,λu=>Iff.rfl]
 |v::vs,P,hP,hv=>by
  have g:=X2 f hP<|hv v<|ak ..;obtain⟨a,b⟩:=Vt f vs g.pn λw hw=>hv w<|aj _ hw
  exact#[a,λu=>(b u).trans<|Wv g.mem vs u]
noncomputable def join(inv:F->F)(n:Nat)(P Q:Pt F):Pt F:=VV inv n P (Q.map (·.2))
def Jt(f:Fld inv){P Q:Pt F}(hP:Pn n P)(hQ:Pn n Q)(u:Vec F):Mem (join inv n P Q) u↔∃q,Mem Q q/\Mem P λj=>u j-q j:=
 ((Vt f _ hP λv hv=>by obtain⟨a,ha,rfl⟩:=aR.mp hv;exact hQ.sp a ha).2 u).trans (x8 hQ.rf u)
def ZcL(f:Fld inv){P Q:Pt F}(hP:Pn n P)(hQ:Pn n Q)(h:∀v,Mem P v↔Mem Q v):P=Q:=uniq f.one0 hP.rf hQ.rf h
theorem sub_self(u:Vec F):(λj=>u j-u j)=λ_=>0:=by funext j;grind
def zq(f:Fld inv){P Q:Pt F}(hP:Pn n P)(hQ:Pn n Q){u:Vec F}(h:Mem Q u):Mem (join inv n P Q) u:=
 (Jt f hP hQ u).mpr #[u,h,by rw[sub_self];exact Yx]
theorem zc(f:Fld inv){P Q R:Pt F}(hP:Pn n P)(hQ:Pn n Q)(h1:∀u,Mem P u->Mem R u)(h2:∀u,Mem Q u->Mem R u){u:Vec F}(h:Mem (join inv n P Q) u):Mem R u:=by
 obtain⟨q,a,b⟩:=(Jt f hP hQ u).mp h;have:=YE 1 (h1 _ b)<|h2 _ a;have e:(λj=>u j-q j+1*q j)=u:=by funext j;grind
 rw[e]at this;exact this
noncomputable def Yr(P:Pt F)(j:Nat):Bool:=(P.map (·.1)).contains j
noncomputable def free(n:Nat)(P:Pt F):List Nat:=(aM n).filter λj=>!Yr P j
noncomputable def av:Pt F->Nat->Vec F
 |[],f,j=>if j=f then 1 else 0
 |a::P,f,j=>if j=a.1 then-a.2 f else av P f j
def Y6 :Yr P j=am↔∃a∈P,a.1=j:=by
 unfold Yr;rw[eg,aR]
def zn{P:Pt F}{f j:Nat}(h:Yr P j=ap):av P f j=if j=f then 1 else 0:=by
 induction P with
 |nil=>rfl
 |cons a P ih=>
  have h1:¬∃b∈a::P,b.1=j:=λz=>by rw[Y6.mpr z]at h;cases h
  show(if j=a.1 then-a.2 f else av P f j)=_
  rw[T8 λz=>h1 #[a,ak ..,z.symm]]
  exact ih (by
   cases q:Yr P j with
   |false=>rfl
   |true=>obtain⟨b,hb,e⟩:=Y6.mp q;exact T7 #[b,aj _ hb,e] h1)
def Vi :j∈free n P↔j<n/\Yr P j=ap:=by
 unfold free;rw[fg,aU];simp
theorem u7{P:Pt F}(hP:Pn n P){f:Nat}(hf:f<n):Supp n (av P f):=λj hj=>by
 rw[zn (by
  cases q:Yr P j with
  |false=>rfl
  |true=>obtain⟨b,hb,e⟩:=Y6.mp q;have:=hP.lt b hb;lia),T8 (by lia)]
noncomputable def perp(inv:F->F)(n:Nat)(P:Pt F):Pt F:=VV inv n []<|(free n P).map<|av P
theorem xi(f:Fld inv){P:Pt F}(hP:Pn n P):(perp inv n P).length+P.length=n:=by
 have gen:∀(L:List Nat)(A:Pt F)(D:List Nat),Pn n A->(∀k∈L,k∈free n P)->L.Nodup->(∀k∈L,k∉D)->(∀u,Mem A u->∀k∈free n P,k∉D->u k=0)->(VV inv n A<|L.map<|av P).length=A.length+L.length:=by
  intro L
  induction L with
  |nil=>intro A D _ _ _ _ _;rfl
  |cons k L ih=>
   intro A D hA hL hn hD hz;rw[dA]at hn;have hk:=hL k<|ak ..;have g:=X2 f hA<|u7 hP (Vi.mp hk).1;have nm:¬Mem A (av P k):=λh=>by
    have:=hz _ h k hk<|hD k<|ak ..;rw[zn (Vi.mp hk).2,T9 rfl]at this;exact f.one0 this
   have:=ih (more inv n A<|av P k) (k::D) g.pn (λj hj=>hL j<|aj _ hj) hn.2 (λj hj=>by
    rw[aA]
    rintro (z|z)
    .exact hn.1<|z▸hj
    .exact hD j (aj _ hj) z) λu hu j hj hjD=>by
     obtain⟨c,hc⟩:=(g.mem u).mp hu;rw[aA]at hjD;have h1:=hz _ hc j hj λz=>hjD<|.inr z
     rw[zn (Vi.mp hj).2,T8 λz=>hjD<|.inl z]at h1
     grind
   show(VV inv n (more inv n A<|av P k)<|L.map<|av P).length=_;rw[this,g.len nm,aS];lia
 have h1:=gen (free n P) [] [] Pn.nil (λ_ h=>h) (lZ _ kH) (λ_ _ h=>by cases h) λu hu k _ _=>hu k
 have h2:=G6 (lZ _ k8) hP.rf.heads λx=>by
  rw[fg,aU,Y6,aR]
  constructor
  .rintro ⟨_,a,ha,e⟩;exact#[a,ha,e]
  .rintro ⟨a,ha,e⟩;exact#[by rw[<-e];exact hP.lt a ha,a,ha,e]
 have h3:((aM n).filter<|Yr P).length+(free n P).length=n:=by
  have gen:∀L:List Nat,(L.filter<|Yr P).length+(L.filter λj=>!Yr P j).length=L.length:=by
   intro L
   induction L with
   |nil=>rfl
   |cons k L ih=>
    rw[kM,kM];cases Yr P k<;>simp<;>lia
  have:=gen<|aM n;rw[bE]at this;exact this
 rw[h2,az]at h3;have h4:(perp inv n P).length=(free n P).length:=by
  have e:(perp inv n P).length=0+(free n P).length:=h1;lia
 lia
end
end La
namespace Rw
open La
open Ev (ltI YZ Zn)
section
variable{p:Nat}[NeZero p]
noncomputable def ph(p:Nat)[NeZero p](a:Int):Fin p:=Fin.ofNat p (a%p).toNat
theorem ppos:(0:Int)<p:=by have:=NeZero.ne p;lia
theorem Yw(a:Int):((ph p a).val:Int)=a%p:=by
 have h:=ppos (p:=p);have h0:=fk a (by lia:(p:Int)≠0)
 have h1:=d9 a h;show((((a%p).toNat)%p:Nat):Int)=a%p;rw[Nat.mod_eq_of_lt (by lia)]
 lia
theorem W3{x y:Fin p}(h:(x.val:Int)=y.val):x=y:=Fin.ext (by lia)
def wA(a b:Int):ph p (a+b)=ph p a+ph p b:=W3 (by
 rw[Yw,Fin.val_add];show(a+b)%p=(((ph p a).val+(ph p b).val:Nat):Int)%p;rw[Int.natCast_add,Yw,Yw,<-Int.add_emod])
def vN(a b:Int):ph p (a*b)=ph p a*ph p b:=W3 (by
 rw[Yw,Fin.val_mul];show(a*b)%p=(((ph p a).val*(ph p b).val:Nat):Int)%p;rw[ow,Yw,Yw,<-Int.mul_emod])
def wn(a:Int):ph p (a%p)=ph p a:=W3 (by rw[Yw,Yw,Int.emod_emod])
def XN:ph p 0=0:=W3 (by rw[Yw];simp)
theorem V0(a:Int):ph p (-a) = - ph p a:=by
 have h:ph p (-a+a)=ph p (-a)+ph p a:=wA _ _;rw[show -a+a=0 by lia,XN]at h
 grind
def Vm{a b:Int}(ha:0<=a/\a<p)(hb:0<=b/\b<p)(h:ph p a=ph p b):a=b:=by
 have:=congrArg (λx:Fin p=>(x.val:Int)) h
 simp only[Yw]at this;rw[dv ha.1 ha.2,dv hb.1 hb.2]at this;exact this
theorem Zc8{a:Int}(ha:0<=a/\a<p):ph p a=0↔a=0:=by
 constructor
 .intro h;exact Vm ha #[by lia,ppos] (by rw[h,XN])
 .rintro rfl;exact XN
end
abbrev Row:=List Int
def Ze(p n:Nat)(r:Row):Prop:=r.length=n/\∀a∈r,0<=a/\a<(p:Int)
noncomputable def gt(r:Row)(j:Nat):Int:=r.getD j 0
def Yi{p n:Nat}(h0:(0:Int)<p){r:Row}(h:Ze p n r)(j:Nat):0<=gt r j/\gt r j<p:=by
 unfold gt;rw[aD];cases q:r[j]? with|none=>exact#[Int.le_refl _,h0]|some a=>exact h.2 a<|c9 q
def wC(h:r.length<=j):gt r j=0:=by unfold gt;rw[aD,bn h];rfl
def vK(hl:r.length=s.length)(h:∀j,gt r j=gt s j):r=s:=by
 apply gM hl;intro j h1 h2;have:=h j;unfold gt at this;rw[aD,aD,af h1,af h2]at this;exact this
noncomputable def hdI:Row->Option Nat
 |[]=>ae
 |a::r=>if a≠0 then aa 0 else(hdI r).map (· + 1)
theorem Z2:∀{r:Row}{k:Nat},hdI r=aa k->gt r k≠0/\k<r.length/\∀j,j<k->gt r j=0
 |[],k,h=>by cases h
 |a::r,k,h=>by
  unfold hdI at h;by_cases c:a≠0
  .rw[T9 c]at h;cases h;exact#[c,by simp,λj hj=>by lia]
  .rw[T8 c]at h
   cases q:hdI r with
   |none=>rw[q]at h;cases h
   |some m=>
    rw[q]at h;have e:m+1=k:=ag h;subst e;obtain⟨h1,h2,h3⟩:=Z2 q;refine#[h1,by simp;lia,λj hj=>?_]
    cases j with|zero=>exact nv.mp c|succ j=>exact h3 j (by lia)
theorem Xg:∀{r:Row},hdI r=ae->∀j,gt r j=0
 |[],_,j=>wC<|dB _
 |a::r,h,j=>by
  unfold hdI at h;by_cases c:a≠0
  .rw[T9 c]at h;cases h
  .rw[T8 c]at h
   have h':=Option.map_eq_none_iff.mp h;cases j with|zero=>exact nv.mp c|succ j=>exact Xg h' j
section
variable{p n:Nat}[NeZero p]
noncomputable def toV(p:Nat)[NeZero p](r:Row):Vec (Fin p):=λj=>ph p<|gt r j
def Y3{r s:Row}(hr:Ze p n r)(hs:Ze p n s)(h:toV p r=toV p s):r=s:=
 vK (by rw[hr.1,hs.1]) λj=>Vm (Yi ppos hr j) (Yi ppos hs j)<|congrFun h j
def Yt(hr:Ze p n r):Supp n (toV p r):=λj hj=>by unfold toV;rw[wC (by rw[hr.1];exact hj),XN]
def Z1{r:Row}(hr:Ze p n r){j:Nat}:toV p r j=0↔gt r j=0:=Zc8<|Yi ppos hr j
def zw(hr:Ze p n r):hdV n (toV p r)=hdI r:=by
 cases q:hdI r with
 |none=>
  cases q2:hdV n (toV p r)with|none=>rfl|some k=>exact T7 ((Z1 hr).mpr<|Xg q k) (Ve q2).2.1
 |some k=>
  obtain⟨a,b,c⟩:=Z2 q;exact uZ (by rw[<-hr.1];exact b) (λz=>a<|(Z1 hr).mp z) λj hj=>(Z1 hr).mpr<|c j hj
noncomputable def Zz(p:Nat)(r o:Row)(k:Int):Row:=List.zipWith (λa b=>(a+k*b)%p) r o
noncomputable def Xk(p:Nat)(r:Row)(k:Int):Row:=r.map λa=>k*a%p
theorem Zch(hl:r.length=o.length)(h0:f 0 0=0)(j:Nat):gt (List.zipWith f r o) j=f (gt r j) (gt o j):=by
 unfold gt;simp only[aD];rw[List.getElem?_zipWith];by_cases c:j<r.length
 .rw[af c,af (by lia)];rfl
 .rw[bn (by lia),bn (by lia)];exact h0.symm
theorem Zj(hr:Ze p n r)(ho:Ze p n o):Ze p n (Zz p r o k):=by
 refine#[by unfold Zz;rw[List.length_zipWith,hr.1,ho.1];simp,λa ha=>?_]
 unfold Zz at ha;rw[<-gB]at ha;obtain⟨⟨x,y⟩,_,rfl⟩:=aR.mp ha;exact#[fk _ (by have:=ppos (p:=p);lia),d9 _ ppos]
def Ye(hr:Ze p n r)(ho:Ze p n o)(j:Nat):gt (Zz p r o k) j=(gt r j+k*gt o j)%p:=by
 unfold Zz;rw[Zch (by rw[hr.1,ho.1]) (by simp)]
def ZQ(hr:Ze p n r)(ho:Ze p n o):toV p (Zz p r o k)=λj=>toV p r j+ph p k*toV p o j:=by
 funext j
 unfold toV;rw[Ye hr ho,wn,wA,vN]
def wd(j:Nat):gt (Xk p r k) j=k*gt r j%p:=by
 unfold Xk gt;simp only[aD,aK];cases r[j]?<;>simp
theorem UK{r:Row}{k:Int}(hr:Ze p n r):Ze p n (Xk p r k):=by
 refine#[by unfold Xk;rw[az,hr.1],λa ha=>?_]
 obtain⟨x,_,rfl⟩:=aR.mp ha;exact#[fk _ (by have:=ppos (p:=p);lia),d9 _ ppos]
def xP :toV p (Xk p r k)=λj=>ph p k*toV p r j:=by
 funext j
 unfold toV;rw[wd,wn,vN]
noncomputable def toP(p:Nat)[NeZero p](P:List Row):Pt (Fin p):=P.map λr=>((hdI r).getD 0,toV p r)
structure pZ(p n:Nat)[NeZero p](P:List Row):Prop where
 row:∀r∈P,Ze p n r
 pn:Pn n (toP p P)
theorem pZ.nil:pZ p n []:=#[λ_ h=>(by cases h),Pn.nil]
def Yc(h:r∈P):((hdI r).getD 0,toV p r)∈toP p P:=aR.mpr #[r,h,rfl]
def pZ.head(one0:(1:Fin p)≠0)(h:pZ p n P)(hr:r∈P):∃k,hdI r=aa k/\k<n/\toV p r k=1:=by
 have h1:=h.pn.rf.one _<|Yc hr;cases q:hdI r with
 |none=>
  rw[q]at h1;have:toV p r 0=1:=h1;have z:=(Z1<|h.row r hr).mpr<|Xg q 0;rw[z]at this;exact T7 this.symm one0
 |some k=>
  rw[q]at h1;have h2:=h.pn.lt _<|Yc hr;rw[q]at h2;exact#[k,rfl,h2,h1]
def yO(hP:∀r∈P,Ze p n r)(hQ:∀r∈Q,Ze p n r)(h:toP p P=toP p Q):P=Q:=by
 induction P generalizing Q with
 |nil=>cases Q with|nil=>rfl|cons b Q=>cases h
 |cons a P ih=>cases Q with
  |nil=>cases h
  |cons b Q=>
   have h':=h;injection h' with e1 e2
   have e3:=congrArg lW e1;rw[Y3 (hP a<|ak ..) (hQ b<|ak ..) e3,ih (λr hr=>hP r<|aj _ hr) (λr hr=>hQ r<|aj _ hr) e2]
def qW(P:List Row):(toP p P).map (·.2)=P.map (toV p):=by unfold toP;rw[bX];rfl
def Qh(P:List Row):(toP p P).length=P.length:=by unfold toP;rw[az]
noncomputable def clr(p:Nat)(r o:Row)(h:Nat):Row:=Zz p r o<|-(gt r h)
noncomputable def Zf(p:Nat)(P:List Row)(r:Row):Row:=P.foldl (λs o=>clr p s o<|(hdI o).getD 0) r
theorem QD(hr:Ze p n r)(ho:Ze p n o):toV p (clr p r o h)=λj=>toV p r j-toV p r h*toV p o j:=by
 unfold clr;rw[ZQ hr ho]
 funext j
 rw[V0];show toV p r j+(- toV p r h)*toV p o j=_
 grind
theorem W5:∀{P:List Row}{r:Row},(∀o∈P,Ze p n o)->Rf (toP p P)->Ze p n r->Ze p n (Zf p P r)/\toV p (Zf p P r)=rest (toP p P) (toV p r)
 |[],r,_,_,hr=>#[hr,by funext j;show toV p r j=toV p r j-0;grind]
 |o::P,r,hP,hf,hr=>by
  have ho:=hP o<|ak ..;have hc:Ze p n (clr p r o<|(hdI o).getD 0):=Zj hr ho;obtain⟨a,b⟩:=W5 (λo h=>hP o<|aj _ h) hf.tail hc
  refine#[a,?_];show toV p (Zf p P<|clr p r o<|(hdI o).getD 0)=_;rw[b,QD hr ho];have z:∀j,pr (toP p P) (toV p o) j=0:=λj=>Yj λc hc=>by
   have:toV p o c.1=0:=by
    have h1:c∈toP p (o::P):=aj _ hc;have h2:((hdI o).getD 0,toV p o)∈toP p (o::P):=ak ..;have h3:=(aZ.mp hf.inc).1 c hc;exact hf.zer c h1 _ h2 (by simp only at h3 ⊢;lia)
   rw[this];grind
  funext j
  unfold rest;rw[Wr,z];show toV p r j-toV p r ((hdI o).getD 0)*toV p o j-(pr (toP p P) (toV p r) j-_*0)=toV p r j-(toV p r ((hdI o).getD 0)*toV p o j+pr (toP p P) (toV p r) j)
  grind
def wP(hP:pZ p n P)(hr:Ze p n r):hdI (Zf p P r)=ae↔Mem (toP p P) (toV p r):=by
 obtain⟨a,b⟩:=W5 hP.row hP.pn.rf hr;rw[<-Vp,<-b]
 constructor
 .intro h j;exact(Z1 a).mpr<|Xg h j
 .intro h
  cases q:hdI (Zf p P r)with|none=>rfl|some k=>exact T7 ((Z1 a).mp<|h k) (Z2 q).1
end
noncomputable def W8(p:Nat)(a:Int):Int:=if a=1 then 1 else if p=3 then 2 else if a=2 then 3 else if a=3 then 2 else 4
noncomputable def Q4(p:Nat)[NeZero p](x:Fin p):Fin p:=ph p<|W8 p x.val
class Base(p:Nat):Prop where
 b:p=2\/p=3\/p=5
instance(p:Nat)[h:Base p]:NeZero p:=⟨by rcases h.b with e|e|e<;>lia⟩
section
variable{p n:Nat}[Base p]
def fld2:∀a:Fin 2,a≠0->Q4 2 a*a=1:=by decide
def fld3:∀a:Fin 3,a≠0->Q4 3 a*a=1:=by decide
def fld5:∀a:Fin 5,a≠0->Q4 5 a*a=1:=by decide
def one2:(1:Fin 2)≠0:=by decide
def one3:(1:Fin 3)≠0:=by decide
def one5:(1:Fin 5)≠0:=by decide
def fld:Fld (Q4 p):=by
 rcases(inferInstance:Base p).b with e|e|e<;>subst e
 .exact#[fld2,one2]
 .exact#[fld3,one3]
 .exact#[fld5,one5]
def jX{a:Int}(h:0<=a/\a<(p:Int)):((ph p a).val:Int)=a:=by rw[Yw,dv h.1 h.2]
noncomputable def lead(p:Nat)(s:Row)(h:Nat):Row:=Xk p s<|W8 p<|gt s h
noncomputable def YR(p:Nat)(P:List Row)(r:Row):List Row:=match hdI (Zf p P r)with
 |none=>P
 |some h=>(Zn<|P.map (λo=>clr p o (lead p (Zf p P r) h) h)++[lead p (Zf p P r) h]).reverse
noncomputable def Gh(h:Nat)(x:Row):List Row->List Row
 |[]=>[x]
 |y::P=>if h<(hdI y).getD 0 then x::y::P else y::Gh h x P
theorem Wx(h:Nat)(x:Row):∀P:List Row,(Gh h x P).Perm (x::P)
 |[]=>cu _
 |y::P=>by
  unfold Gh;split
  .exact cu _
  .exact((Wx h x P).cons y).trans<|iQ x y P
theorem Gr{h:Nat}{x:Row}(hx:hdI x=aa h):∀P:List Row,toP p (Gh h x P)=ins (h,toV p x) (toP p P)
 |[]=>by show[((hdI x).getD 0,toV p x)]=_;rw[hx];rfl
 |y::P=>by
  unfold Gh;show toP p (if h<(hdI y).getD 0 then _ else _)=(if h<(hdI y).getD 0 then _ else _)
  split
  .show((hdI x).getD 0,toV p x)::_=_;rw[hx];rfl
  .show((hdI y).getD 0,toV p y)::toP p (Gh h x P)=_;rw[Gr hx P];rfl
theorem VW:∀{a b:Row}{h:Nat},a.length=b.length->(∀j,j<h->gt a j=gt b j)->gt b h<gt a h->h<a.length->ltI b a=am
 |[],_,_,_,_,_,hl=>by simp at hl
 |x::a,[],_,e,_,_,_=>by simp at e
 |x::a,y::b,0,_,_,hlt,_=>by
  have:y<x:=hlt;unfold ltI;rw[T8 (by lia)]
  exact T5 this
 |x::a,y::b,h+1,e,hj,hlt,hl=>by
  have:x=y:=hj 0 (by lia)
  unfold ltI;rw[T9 this.symm];exact VW (by simpa using e) (λj h'=>hj (j+1)<|by lia) hlt (by simpa using hl)
theorem wW{a b:Row}{h k:Nat}(ha:Ze p n a)(hb:Ze p n b)(h1:hdI a=aa h)(h2:hdI b=aa k)(hk:h<k):ltI b a=am:=by
 obtain⟨a1,a2,a3⟩:=Z2 h1;obtain⟨b1,b2,b3⟩:=Z2 h2;refine VW (by rw[ha.1,hb.1]) (λj hj=>by rw[a3 j hj,b3 j<|by lia]) ?_ a2
 rw[b3 h hk];have:=(Yi ppos ha h).1;lia
def pZ.falls{P:List Row}(hP:pZ p n P):P.Pairwise λa b=>ltI b a=am:=by
 have inc:P.Pairwise λa b=>(hdI a).getD 0<(hdI b).getD 0:=by
  have:=hP.pn.rf.inc;unfold toP at this;rw[cy]at this;exact this
 refine eO (λ{a b} ha hb hab=>?_) inc
 obtain⟨h,e1,_⟩:=hP.head fld.one0 ha;obtain⟨k,e2,_⟩:=hP.head fld.one0 hb;rw[e1,e2]at hab;exact wW (hP.row a ha) (hP.row b hb) e1 e2 hab
def WI{P:List Row}(h:P.Pairwise λa b=>ltI b a=am):P.Nodup:=List.Pairwise.imp (λ{a b} hab e=>by
 rw[e]at hab;have:=Sd.YC hab;rw[hab]at this;cases this) h
def jW{P Q:List Row}(hp:Q.Perm P)(h:Q.Pairwise λa b=>ltI b a=am):(Zn P).reverse=Q:=by
 have hn:P.Nodup:=(hp.nodup_iff).mp<|WI h;have e:Zn P=Q.reverse:=Sd.Xi ((Sd.ZG P).trans<|hp.symm.trans (du Q).symm) (Sd.ZY hn)<|ek.mpr h;rw[e,List.reverse_reverse]
def VP{P:List Row}{r:Row}(hP:pZ p n P)(hr:Ze p n r):pZ p n (YR p P r)/\toP p (YR p P r)=more (Q4 p) n (toP p P) (toV p r):=by
 obtain⟨s1,s2⟩:=W5 hP.row hP.pn.rf hr;have eh:=zw s1;rw[s2]at eh;have g:=X2 fld hP.pn<|Yt hr;unfold YR;cases q:hdI (Zf p P r)with
 |none=>
  rw[q]at eh;exact#[hP,by unfold more;rw[eh]]
 |some h=>
  rw[q]at eh;have em:more (Q4 p) n (toP p P) (toV p r)=wid (toP p P) h (toV p<|lead p (Zf p P r) h):=by
   unfold more;rw[eh];show wid _ h _=_
   congr 1
   unfold lead;rw[xP,s2]
   funext j
   congr 1
   unfold Q4;rw[<-s2];show ph p (W8 p<|(ph p<|gt (Zf p P r) h).val)=_;rw[jX<|Yi ppos s1 h]
  have hl:Ze p n (lead p (Zf p P r) h):=UK s1;rw[em]at g;have mem:∀x∈wid (toP p P) h (toV p<|lead p (Zf p P r) h),hdV n x.2=aa x.1:=λx hx=>uZ (g.pn.lt x hx) (by rw[g.pn.rf.one x hx];exact fld.one0)<|g.pn.rf.low x hx
  have hx:hdI (lead p (Zf p P r) h)=aa h:=by
   rw[<-zw hl];exact mem (h,toV p<|lead p (Zf p P r) h)<|(ZT _ _).mem_iff.mpr<|ak ..
  have e1:toP p (P.map λo=>clr p o (lead p (Zf p P r) h) h)=(toP p P).map (off h<|toV p<|lead p (Zf p P r) h):=by
   unfold toP;rw[bX,bX];refine cK λo ho=>?_
   have ho':=hP.row o ho;have hc:Ze p n (clr p o (lead p (Zf p P r) h) h):=Zj ho' hl;have ev:toV p (clr p o (lead p (Zf p P r) h) h)=(off h (toV p<|lead p (Zf p P r) h) ((hdI o).getD 0,toV p o)).2:=QD ho' hl;show((hdI<|clr p o (lead p (Zf p P r) h) h).getD 0,toV p<|clr p o (lead p (Zf p P r) h) h)=off h _ ((hdI o).getD 0,toV p o);have:=mem (off h (toV p<|lead p (Zf p P r) h) ((hdI o).getD 0,toV p o))<|(ZT _ _).mem_iff.mpr<|aj _<|aR.mpr #[_,Yc ho,rfl];rw[<-ev,zw hc]at this;rw[this,ev];rfl
  have e2:toP p (Gh h (lead p (Zf p P r) h)<|P.map λo=>clr p o (lead p (Zf p P r) h) h)=wid (toP p P) h (toV p<|lead p (Zf p P r) h):=by
   rw[Gr hx,e1];rfl
  have hQ:pZ p n (Gh h (lead p (Zf p P r) h)<|P.map λo=>clr p o (lead p (Zf p P r) h) h):=by
   refine#[λx hx=>?_,by rw[e2];exact g.pn]
   rcases aA.mp ((Wx _ _ _).mem_iff.mp hx)with e|e
   .rw[e];exact hl
   .obtain⟨o,ho,rfl⟩:=aR.mp e
    exact Zj (hP.row o ho) hl
  have e3:=jW ((Wx h (lead p (Zf p P r) h)<|P.map λo=>clr p o (lead p (Zf p P r) h) h).trans (iS _ _).symm) hQ.falls
  show pZ p n (Zn _).reverse/\toP p (Zn _).reverse=_;rw[e3];exact#[hQ,by rw[e2,em]]
noncomputable def Y5(p:Nat)(P:List Row)(rs:List Row):List Row:=rs.foldl (YR p) P
theorem Q2:∀{rs:List Row}{P:List Row},pZ p n P->(∀r∈rs,Ze p n r)->pZ p n (Y5 p P rs)/\toP p (Y5 p P rs)=VV (Q4 p) n (toP p P) (rs.map<|toV p)
 |[],P,hP,_=>#[hP,rfl]
 |r::rs,P,hP,hr=>by
  obtain⟨a,b⟩:=VP hP<|hr r<|ak ..;obtain⟨c,d⟩:=Q2 (rs:=rs) a λx hx=>hr x<|aj _ hx
  refine#[c,?_];show toP p (Y5 p (YR p P r) rs)=_;rw[d,b];rfl
def W7{P Q:List Row}(hP:pZ p n P)(hQ:pZ p n Q):pZ p n (Y5 p P Q)/\toP p (Y5 p P Q)=join (Q4 p) n (toP p P) (toP p Q):=by
 obtain⟨a,b⟩:=Q2 hP hQ.row;exact#[a,by rw[b];unfold join;rw[qW]]
noncomputable def ZB(P:List Row):List Nat:=P.map λr=>(hdI r).getD 0
def Wo(P:List Row):(toP p P).map (·.1)=ZB P:=by unfold toP ZB;rw[bX];rfl
noncomputable def Xf(p:Nat)(rs:List Row)(o:Row):List Row:=rs.flatMap λr=>(aM p).map λ(k:Nat)=>Zz p r o (k:Int)
noncomputable def Zr(p n:Nat)(P:List Row):List Row:=P.foldl (Xf p) [aB n 0]
def GH(P:List Row)(o:Row):Zr p n (P++[o])=Xf p (Zr p n P) o:=by unfold Zr;rw[ny];rfl
def pZ.init(h:pZ p n (P++[o])):pZ p n P:=by
 have mem:∀{x},x∈toP p P->x∈toP p (P++[o]):=λ{x} hx=>by unfold toP at hx ⊢;rw[bM];exact b6 _ hx
 refine#[λr hr=>h.row r<|b6 _ hr,#[#[?_,λa ha=>h.pn.rf.low a<|mem ha,λa ha=>h.pn.rf.one a<|mem ha,λa ha b hb=>h.pn.rf.zer a (mem ha) b<|mem hb],λa ha=>h.pn.lt a<|mem ha,λa ha=>h.pn.sp a<|mem ha]]
 have:=h.pn.rf.inc;unfold toP at this ⊢;rw[bM,cR]at this;exact this.1
theorem v7(P Q:Pt (Fin p))(v:Vec (Fin p))(j:Nat):pr (P++Q) v j=pr P v j+pr Q v j:=by
 induction P with|nil=>show _=0+_;grind|cons a P ih=>show v a.1*a.2 j+pr (P++Q) v j=v a.1*a.2 j+pr P v j+pr Q v j;rw[ih];grind
theorem Qw:∀{P:List Row},pZ p n P->(∀r,r∈Zr p n P↔Ze p n r/\Mem (toP p P) (toV p r))/\(Zr p n P).Pairwise λa b=>ltI a b=am:=by
 have hz:Ze p n (aB n (0:Int)):=#[by simp,λa ha=>by rw[(mR.mp ha).2];exact#[by lia,ppos]]
 have gz:∀j,gt (aB n (0:Int)) j=0:=λj=>by
  unfold gt;rw[aD,cq];split<;>rfl
 have key:∀(m:Nat)(P:List Row),P.length=m->pZ p n P->(∀r,r∈Zr p n P↔Ze p n r/\Mem (toP p P) (toV p r))/\(Zr p n P).Pairwise λa b=>ltI a b=am:=by
  intro m
  induction m with
  |zero=>
   intro P hl hP;have:P=[]:=eT.mp hl;subst this;refine#[λr=>?_,f8 ..]
   show r∈[aB n (0:Int)]↔_;rw[be]
   constructor
   .rintro rfl
    exact#[hz,λj=>by show ph p (gt _ j)=0;rw[gz,XN]]
   .rintro ⟨h1,h2⟩
    exact vK (by rw[h1.1,hz.1]) λj=>by rw[gz];exact(Z1 h1).mp<|h2 j
  |succ m ih=>
   intro P hl hP;obtain⟨Q,o,rfl⟩:∃Q o,P=Q++[o]:=#[P.dropLast,P.getLast (by intro z;rw[z]at hl;cases hl),(List.dropLast_concat_getLast _).symm]
   have hQ:=hP.init;obtain⟨ih1,ih2⟩:=ih Q (by simpa using hl) hQ
   have hoM:o∈Q++[o]:=bm _<|be.mpr rfl;have ho:=hP.row o hoM;obtain⟨k,hk1,hk2,hk3⟩:=hP.head fld.one0 hoM;have eP:toP p (Q++[o])=toP p Q++[(k,toV p o)]:=by unfold toP;rw[bM];show _++[((hdI o).getD 0,toV p o)]=_;rw[hk1];rfl
   have mo:(k,toV p o)∈toP p (Q++[o]):=by rw[eP];exact bm _<|be.mpr rfl
   have mq:∀{a},a∈toP p Q->a∈toP p (Q++[o]):=λ{a} ha=>by rw[eP];exact b6 _ ha
   have hlt:∀a∈toP p Q,a.1<k:=λa ha=>by
    have:=hP.pn.rf.inc;rw[eP,cR]at this;exact this.2.2 a ha _<|be.mpr rfl
   have oz:∀a∈toP p Q,toV p o a.1=0:=λa ha=>hP.pn.rf.zer a (mq ha) _ mo (by have:=hlt a ha;simp only;lia)
   have qz:∀a∈toP p Q,a.2 k=0:=λa ha=>hP.pn.rf.zer _ mo a (mq ha) (by have:=hlt a ha;simp only;lia)
   have po:∀j,pr (toP p Q) (toV p o) j=0:=λj=>Yj λa ha=>by rw[oz a ha];grind
   have memP:∀u:Vec (Fin p),Mem (toP p<|Q++[o]) u↔Mem (toP p Q) λj=>u j-u k*toV p o j:=λu=>by
    rw[eP]
    constructor
    .intro h j
     have h1:=h j;rw[v7]at h1;rw[Wr,po];show u j-u k*toV p o j=_;have e:pr [(k,toV p o)] u j=u k*toV p o j+0:=rfl;rw[e]at h1
     grind
    .intro h j
     have h1:u j-u k*toV p o j=_:=h j;rw[Wr,po]at h1;rw[v7];have e:pr [(k,toV p o)] u j=u k*toV p o j+0:=rfl;rw[e]
     grind
   have atk:∀r,r∈Zr p n Q->gt r k=0:=λr hr=>by
    obtain⟨h1,h2⟩:=(ih1 r).mp hr;exact(Z1 h1).mp (by rw[h2 k];exact Yj λa ha=>by rw[qz a ha];grind)
   have low:∀j,j<k->gt o j=0:=(Z2 hk1).2.2;have one:gt o k=1:=Vm (Yi ppos ho k) #[by lia,by rcases(inferInstance:Base p).b with e|e|e<;>subst e<;>decide] (by
    have:ph p (gt o k)=1:=hk3;rw[this];rcases(inferInstance:Base p).b with e|e|e<;>subst e<;>rfl)
   rw[GH];refine#[λr=>?_,?_]
   .unfold Xf
    rw[dW]
    constructor
    .rintro ⟨s,hs,hr⟩
     obtain⟨c,hc,rfl⟩:=aR.mp hr;obtain⟨h1,h2⟩:=(ih1 s).mp hs;refine#[Zj h1 ho,?_];rw[ZQ h1 ho];refine YE _ ?_<|YT hP.pn.rf mo;rw[memP];have z:toV p s k=0:=(Z1 h1).mpr<|atk s hs;have e:(λj=>toV p s j-toV p s k*toV p o j)=toV p s:=by funext j;rw[z];grind
     rw[e];exact h2
    .rintro ⟨h1,h2⟩
     have hb:=Yi ppos h1 k;refine#[Zz p r o<|-(gt r k),(ih1 _).mpr #[Zj h1 ho,?_],aR.mpr #[(gt r k).toNat,aU.mpr (by lia),?_]]
     .rw[ZQ h1 ho,V0]
      have:=(memP _).mp h2;have e:(λj=>toV p r j + -ph p (gt r k)*toV p o j)=λj=>toV p r j-toV p r k*toV p o j:=by funext j;show _ + -(toV p r k)*_=_;grind
      rw[e];exact this
     .refine Y3 (Zj (Zj h1 ho) ho) h1 ?_
      rw[ZQ (Zj h1 ho) ho,ZQ h1 ho]
      funext j
      rw[show(((gt r k).toNat:Nat):Int)=gt r k by lia,V0]
      grind
   .unfold Xf
    rw[lD];refine#[λs hs=>?_,?_]
    .have h1:=((ih1 s).mp hs).1
     rw[cy];refine eO (λ{a b} ha hb hab=>?_) k8
     have hb':=aU.mp hb;refine VW (h:=k) (by rw[(Zj h1 ho).1,(Zj h1 ho).1]) (λj hj=>by rw[Ye h1 ho,Ye h1 ho,low j hj];simp) ?_ (by rw[(Zj h1 ho).1];exact hk2)
     rw[Ye h1 ho,Ye h1 ho,atk s hs,one];rw[dv (by lia) (by lia),dv (by lia) (by lia)]
     lia
    .refine eO (λ{s t} hs ht hst=>?_) ih2
     have h1:=(ih1 s).mp hs;have h2:=(ih1 t).mp ht;intro x hx y hy;obtain⟨a,_,rfl⟩:=aR.mp hx;obtain⟨b,_,rfl⟩:=aR.mp hy;have hd:=WR 1 h2.2 h1.2
     have:∃d,(toV p t d-1*toV p s d≠0)/\∀j,j<d->toV p t j-1*toV p s j=0:=by
      cases q:hdV n (λj=>toV p t j-1*toV p s j)with
      |none=>
       exfalso
       have e:toV p t=toV p s:=by
        funext j
        have:=JB (n:=n) (v:=λj=>toV p t j-1*toV p s j) (λj hj=>by show toV p t j-1*toV p s j=0;rw[Yt h2.1 j hj,Yt h1.1 j hj];grind) q j
        grind
       have e2:=Y3 h2.1 h1.1 e;rw[e2]at hst;have:=Sd.YC hst;rw[hst]at this;cases this
      |some d=>exact#[d,(Ve q).2]
     obtain⟨d,d1,d2⟩:=this;obtain⟨c,hc,rfl⟩:=JR hQ.pn.rf hd d1 d2;have hck:=hlt c hc;have heq:∀j,j<c.1->gt t j=gt s j:=λj hj=>Vm (Yi ppos h2.1 j) (Yi ppos h1.1 j) (by
      have:=d2 j hj;show toV p t j=toV p s j
      grind)
     have hne:gt t c.1≠gt s c.1:=λz=>d1 (by show ph p (gt t c.1)-1*ph p (gt s c.1)=0;rw[z];grind)
     have hcn:=hQ.pn.lt c hc;have hst':gt s c.1<gt t c.1:=by
      by_cases z:gt s c.1<gt t c.1
      .exact z
      .exfalso
       have:=VW (a:=s) (b:=t) (h:=c.1) (by rw[h1.1.1,h2.1.1]) (λj hj=>(heq j hj).symm) (by lia) (by rw[h1.1.1];exact hcn)
       rw[Sd.YC hst]at this;cases this
     have vs:∀j,j<=c.1->gt (Zz p s o a) j=gt s j:=λj hj=>by
      rw[Ye h1.1 ho,low j (by lia)]
      have:=Yi ppos h1.1 j;rw[show gt s j+(a:Int)*0=gt s j by lia,dv this.1 this.2]
     have vt:∀j,j<=c.1->gt (Zz p t o b) j=gt t j:=λj hj=>by
      rw[Ye h2.1 ho,low j (by lia)]
      have:=Yi ppos h2.1 j;rw[show gt t j+(b:Int)*0=gt t j by lia,dv this.1 this.2]
     refine VW (h:=c.1) (by rw[(Zj h1.1 ho).1,(Zj h2.1 ho).1]) (λj hj=>by rw[vs j (by lia),vt j (by lia),heq j hj]) (by rw[vs _<|aH _,vt _<|aH _];exact hst') (by rw[(Zj h2.1 ho).1];exact hcn)
 exact λ{P} hP=>key P.length P rfl hP
end
section
variable{p n:Nat}[Base p]
abbrev Mm(p:Nat)[NeZero p](P:List Row)(u:Vec (Fin p)):Prop:=Mem (toP p P) u
def eqP(hA:pZ p n A)(hB:pZ p n B)(h:∀u,Mm p A u↔Mm p B u):A=B:=yO hA.row hB.row<|ZcL fld hA.pn hB.pn h
def wQ{P Q:List Row}(hP:pZ p n P)(hQ:pZ p n Q){u:Vec (Fin p)}(h:Mm p Q u):Mm p (Y5 p P Q) u:=by
 unfold Mm;rw[(W7 hP hQ).2];exact zq fld hP.pn hQ.pn h
def wa{P Q R:List Row}(hP:pZ p n P)(hQ:pZ p n Q)(h1:∀u,Mm p P u->Mm p R u)(h2:∀u,Mm p Q u->Mm p R u){u:Vec (Fin p)}(h:Mm p (Y5 p P Q) u):Mm p R u:=by
 unfold Mm at h;rw[(W7 hP hQ).2]at h;exact zc fld hP.pn hQ.pn h1 h2 h
def pJ{P Q:List Row}(hP:pZ p n P)(hQ:pZ p n Q):pZ p n (Y5 p P Q):=(W7 hP hQ).1
def uq{P Q:List Row}(hP:pZ p n P)(hQ:pZ p n Q)(h:∀u,Mm p P u->Mm p Q u):Y5 p P Q=Q:=eqP (pJ hP hQ) hQ λu=>
 #[wa hP hQ h λ_ h=>h,wQ hP hQ]
def qc{P:List Row}(u:Vec (Fin p))(h:Mm p ([]:List Row) u):Mm p P u:=by
 have e:u=λ_=>0:=funext λj=>h j
 rw[e];exact Yx
def Ur{P:List Row}(hP:pZ p n P):Y5 p [] P=P:=uq pZ.nil hP qc
noncomputable def Z5(p:Nat)(P:List Row)(r:Row):Bool:=(hdI<|Zf p P r).isNone
def ZP(hP:pZ p n P)(hr:Ze p n r):Z5 p P r=am↔Mm p P (toV p r):=by
 unfold Mm;rw[<-wP hP hr];unfold Z5;cases hdI (Zf p P r)<;>simp
theorem J8(hP:pZ p n P)(hQ:pZ p n Q):P.all (Z5 p Q)=am↔∀u,Mm p P u->Mm p Q u:=by
 rw[aT]
 constructor
 .intro h u hu
  have gen:∀R:Pt (Fin p),(∀a∈R,Mm p Q a.2)->Mm p Q (pr R u):=by
   intro R
   induction R with
   |nil=>intro _;exact Yx
   |cons a R ih=>
    intro hR;have:=YE (u a.1) (ih λb hb=>hR b<|aj _ hb)<|hR a<|ak ..
    have e:(λj=>pr R u j+u a.1*a.2 j)=pr (a::R) u:=by funext j;show _=u a.1*a.2 j+pr R u j;grind
    rw[e]at this;exact this
  have:=gen (toP p P) λa ha=>by
   obtain⟨r,hr,rfl⟩:=aR.mp ha;exact(ZP hQ<|hP.row r hr).mp<|h r hr
  have e:=funext λj=>(hu j).symm
  rw[e]at this;exact this
 .intro h r hr
  exact(ZP hQ<|hP.row r hr).mpr<|h _<|YT hP.pn.rf<|Yc hr
end
end Rw
namespace Pv
open Ev
open Rw
def Za{B β:Type}{a:B}{s:DS}{f:B->DS->PR β}:(PR.ok a s).bind f=f a s:=rfl
def Vn(hf:F[f]?=aa fn)(hne:f≠tk)(hl:vs.length=fn.ps):Zh F tk (d+1) f vs s=(rvs (Zh F tk d) (muts fn.body) fn.body (ZI fn.ns vs) [] s).bind λg s=>match g with
  |.ret v=>.ok v s
  |.nx _ _=>.ok .non s
  |_=>.no:=by
 rw[Zh,T8 hne,hf];show(if vs.length=fn.ps then _ else _)=_
 rw[T9 hl]
 all_goals rfl
def v8(s:DS)(h:0<m):0<=(Xe s m).1/\(Xe s m).1<m:=by
 unfold Xe;split
 .exact#[fk _ (by lia),d9 _ h]
 .exact#[fk _ (by lia),d9 _ h]
def Uj(s:DS)(h0:0<m)(h1:m<1073741824):∃v s',Zh F tk (d+1) tk [.drw,.int m] s=.ok (.int v) s'/\0<=v/\v<m:=by
 refine#[(Xe s m).1,(Xe s m).2,?_,v8 s h0];rw[Zh,T9 rfl];show(if 0<m/\m<1073741824 then _ else _)=_
 rw[T9 #[h0,h1]]
theorem VN{B:Type}{f:V->DS->PR (List V)}{s:DS}{e:B->V}{g:B->V}:∀{l:List B},(∀x∈l,f (e x) s=.ok [g x] s)->mapP f (l.map e) s=.ok (l.map g) s
 |[],_=>rfl
 |x::l,h=>by
  rw[bj,mapP,h x<|ak ..];show(match mapP f (l.map e) s with|.ok zs s=>PR.ok ([g x]++zs) s|_=>.no)=_
  rw[VN λy hy=>h y<|aj _ hy];rfl
theorem US{B:Type}{f:V->DS->PR (List V)}{s:DS}{e:B->V}{g:B->List V}:∀{l:List B},(∀x∈l,f (e x) s=.ok (g x) s)->mapP f (l.map e) s=.ok (l.flatMap g) s
 |[],_=>rfl
 |x::l,h=>by
  rw[bj,mapP,h x<|ak ..];show(match mapP f (l.map e) s with|.ok zs s=>PR.ok (g x++zs) s|_=>.no)=_
  rw[US λy hy=>h y<|aj _ hy];rfl
theorem Ws{Q:V->Prop}(h:∀x s,∃y s',f x s=.ok [y] s'/\Q y):∀(l:List V)(s:DS),∃ys s',mapP f l s=.ok ys s'/\ys.length=l.length/\∀y∈ys,Q y
 |[],s=>#[[],s,rfl,rfl,λ_ h=>by cases h]
 |x::l,s=>by
  obtain⟨y,s1,e1,q1⟩:=h x s;obtain⟨ys,s2,e2,l2,q2⟩:=Ws h l s1;refine#[y::ys,s2,?_,by rw[aS,aS,l2],λz hz=>?_]
  .rw[mapP,e1]
   show(match mapP f l s1 with|.ok zs s=>PR.ok ([y]++zs) s|_=>.no)=_
   rw[e2];rfl
  .rcases aA.mp hz with rfl|hz
   .exact q1
   .exact q2 z hz
theorem Uo{Z B:Type}{body:V->Env->List Nat->DS->PR FlV}{s:DS}{os:List Nat}{O:Z->Option V->Env}{step:Z->B->Z}{e:B->V}(I:Z->Prop):∀{l:List B}{st:Z}{o:Option V},I st->(∀x∈l,∀st o,I st->I (step st x)/\∃o',body (e x) (O st o) os s=.ok (.nx (O (step st x) o') os) s)->∃o',I (l.foldl step st)/\Xx body (l.map e) (O st o) os s=.ok (.nx (O (l.foldl step st) o') os) s
 |[],st,o,hI,_=>#[o,hI,rfl]
 |x::l,st,o,hI,h=>by
  obtain⟨h1,o1,e1⟩:=h x (ak ..) st o hI;obtain⟨o2,h2,e2⟩:=Uo I h1 λy hy=>h y<|aj _ hy
  refine#[o2,h2,?_];rw[bj,Xx,e1];exact e2
noncomputable def Xy:Option Nat->V
 |none=>.non
 |some k=>.int k
noncomputable def spV(p n:Nat):V:=.tup [.int p,.int n]
def ZL{a:Int}(h:-4294967296<a)(h':a<4294967296):fits a=am:=by
 refine T5 ?_;have h1:a.natAbs<2^32:=by lia
 exact bg h1<|dH (by decide) (by decide)
def Q8{B:Type}{xs:List B}{k:Nat}{x:B}(h:xs[k]?=aa x):at' xs (k:Int)=aa x:=by
 have hk:=(bc.mp h).1;unfold at' ixN;rw[T9 (by lia),T9 (by lia)]
 rw[show(k:Int).toNat=k by lia];exact h
def VI{r:Row}{k:Nat}(hk:k<r.length):at' (r.map V.int) (k:Int)=aa (.int<|gt r k):=by
 refine Q8 ?_;rw[aK,af hk];unfold gt;rw[aD,af hk];rfl
theorem Yn{B:Type}{g:B->Bool}:∀l:List B,Z9 (l.map λx=>.bl<|g x)=aa (l.map g)
 |[]=>rfl
 |x::l=>by rw[bj,Z9,Yn l];rfl
theorem Wb{B:Type}{f:V->V->Option Bool}{e:B->V}{d:B->B->Bool}(hd:∀a b,d a b=am↔a=b)(h:∀a b,f (e a) (e b)=aa (d a b)):∀a b:List B,∃c,Ya f (a.map e) (b.map e)=aa c/\(c=am↔a=b)
 |[],[]=>#[am,rfl,by simp]
 |[],_::_=>#[ap,rfl,by simp]
 |_::_,[]=>#[ap,rfl,by simp]
 |x::a,y::b=>by
  obtain⟨c,e1,e2⟩:=Wb hd h a b;refine#[d x y&&c,?_,?_]
  .rw[bj,bj,Ya,h,e1]
  .rw[aC,hd,e2];simp
def Qg(k:Nat)(a b:Row):eqV (k+2) (Zb a) (Zb b)=aa (ai<|a=b):=by
 show Ya (eqV<|k+1) (a.map .int) (b.map .int)=_;obtain⟨c,e1,e2⟩:=Wb (f:=eqV<|k+1) (e:=V.int) (λa b=>by simp) (λa b=>rfl) a b
 rw[e1,show c=ai (a=b) by rw[bU,e2];simp]
def Gq(k:Nat)(a b:List Row):eqV (k+3) (Zd a) (Zd b)=aa (ai<|a=b):=by
 show Ya (eqV<|k+2) (a.map Zb) (b.map Zb)=_;obtain⟨c,e1,e2⟩:=Wb (λa b=>by simp) (λa b=>Qg k a b) a b
 rw[e1,show c=ai (a=b) by rw[bU,e2];simp]
def uf(k:Nat)(a b:List Row):eqV (k+3) (.lst<|a.map Zb) (.lst<|b.map Zb)=aa (ai<|a=b):=by
 show(if(a.map Zb).length=(b.map Zb).length then Ya (eqV<|k+2) (a.map Zb) (b.map Zb)else aa ap)=_
 obtain⟨c,e1,e2⟩:=Wb (f:=eqV<|k+2) (e:=Zb) (d:=λa b=>ai<|a=b) (λa b=>by simp) (λa b=>Qg k a b) a b
 split
 .rw[e1,show c=ai (a=b) by rw[bU,e2];simp]
 .rename_i h
  have:¬a=b:=λz=>h (by rw[z])
  simp[this]
theorem Gi:∀(r o:Row),((r.map V.int).zip<|o.map V.int).map (λq=>V.tup [q.1,q.2])=(r.zip o).map λq=>V.tup [.int q.1,.int q.2]
 |[],_=>rfl
 |_::_,[]=>rfl
 |a::r,b::o=>by rw[bj,bj,cf,bj,cf,bj,Gi r o]
theorem U9:∀r:Row,intsV (r.map V.int)=aa r
 |[]=>rfl
 |a::r=>by show(intsV<|r.map V.int).map (a :: ·)=_;rw[U9 r];rfl
theorem Yl:∀P:List Row,ZR (P.map Zb)=aa P
 |[]=>rfl
 |r::P=>by
  show(match intsV (r.map V.int),ZR (P.map Zb)with|some a,aa b=>aa (a::b)|_,_=>ae)=_
  rw[U9,Yl P]
def jz(n:Nat):ZS 0 n=(aM n).map λ(k:Nat)=>V.int (k:Int):=by
 refine cK λk _=>?_
 simp
def Z8{B:Type}{a:B}{s:DS}:po (aa a) s=.ok a s:=rfl
section
variable{C:Zo}{cap:List Nat}{nl:Nat}{t:List Nat}{it:W}{elt tst:E}{O:Env}{s:DS}{B:Type}
def Z3{l:List B}{e g:B->V}(hw:pvw C it O s=.ok (l.map e) s)(hl:l.length<=lim)(h:∀x∈l,∃Z,Zk t (e x) (ZW cap nl O)=aa Z/\pv C elt Z s=.ok (g x) s)(ho:own nl t=am:=by rfl):pv C (.comp1 cap nl t it [] elt) O s=.ok (.lst<|l.map g) s:=by
 rw[pv,T9 ho,hw,Za,VN λx hx=>by
  obtain⟨Z,e1,e2⟩:=h x hx;rw[e1,Z8,Za,pvt,Za];rw[e2];rfl]
 rw[Za,T9 (by rw[az];exact hl)];rfl
def wY{β:Type}{u:List Nat}{jt:W}{l:List B}{e:B->V}{m:B->List β}{e2:β->V}{g:B->β->V}(hw:pvw C it O s=.ok (l.map e) s)(hl:(l.flatMap λx=>(m x).map<|g x).length<=lim)
  (h:∀x∈l,∃Z,Zk t (e x) (ZW cap nl O)=aa Z/\pvw C jt Z s=.ok ((m x).map e2) s/\∀y∈m x,∃σ',Zk u (e2 y) Z=aa σ'/\pv C elt σ' s=.ok (g x y) s)(ho:own2 nl t u=am:=by rfl):pv C (.comp2 cap nl t it [] u jt [] elt) O s=.ok (.lst<|l.flatMap λx=>(m x).map<|g x) s:=by
 rw[pv,T9 ho,hw,Za,US λx hx=>by
  obtain⟨Z,e1,e3,e4⟩:=h x hx;rw[e1,Z8,Za,pvt,Za,T9 rfl,e3,Za];exact VN λy hy=>by
   obtain⟨σ',f1,f2⟩:=e4 y hy;rw[f1,Z8,Za,pvt,Za];rw[f2];rfl]
 rw[Za,T9 hl];rfl
def xC{Q:V->Prop}(hw:pvw C it O s=.ok (ZS 0 k) s)(hl:k<=lim)(h:∀(x:V)(s:DS),∃Z y s',Zk t x (ZW cap nl O)=aa Z/\pv C elt Z s=.ok y s'/\Q y)(ho:own nl t=am:=by rfl) :
  ∃ys s',pv C (.comp1 cap nl t it [] elt) O s=.ok (.lst ys) s'/\ys.length=k/\∀y∈ys,Q y:=by
 obtain⟨ys,s',e1,e2,e3⟩:=Ws (f:=λx s=>(po (Zk t x<|ZW cap nl O) s).bind λZ s=>(pvt C [] Z s).bind λb s=>if b then(pv C elt Z s).bind λy s=>.ok [y] s else .ok [] s) (λx s=>by
  obtain⟨Z,y,s',f1,f2,f3⟩:=h x s;refine#[y,s',?_,f3];rw[f1,Z8,Za,pvt,Za];rw[f2];rfl) (ZS 0 k) s
 have hk:(ZS 0 k).length=k:=by unfold ZS;simp
 refine#[ys,s',?_,by rw[e2,hk],e3]
 rw[pv,T9 ho,hw,Za,e1,Za,T9 (by rw[e2,hk];exact hl)];rfl
end
def Za2{xs:List V}{k:Nat}(h:k<=xs.length):Yy xs ae (aa (k:Int))=xs.take k:=by
 show(xs.drop 0).take ((if(k:Int)<0 then((k:Int)+xs.length).toNat else oW (k:Int).toNat xs.length)-0)=_
 rw[T8 (by lia),show oW (k:Int).toNat xs.length-0=k by lia];rfl
def Je{xs:List V}{i:Int}{k:Nat}(hi:i=k)(h:k<=xs.length):Yy xs (aa i) ae=xs.drop k:=by
 subst hi;show(xs.drop<|if(k:Int)<0 then((k:Int)+xs.length).toNat else oW (k:Int).toNat xs.length).take (xs.length-(if(k:Int)<0 then((k:Int)+xs.length).toNat else oW (k:Int).toNat xs.length))=_
 rw[T8 (by lia),show oW (k:Int).toNat xs.length=k by lia]
 exact b9 (by rw[bo];lia)
def uw{xs:List V}:Yy xs (aa 1) ae=xs.tail:=by
 cases xs with|nil=>rfl|cons x xs=>exact Je rfl (by simp)
noncomputable def ZU(k:Nat):V:=.int k
def WQ(n:Nat):ZS 0 n=(aM n).map ZU:=by rw[jz];rfl
def vM(h0:0<=i)(h1:i<1000000):Xd i=am:=by
 unfold Xd;have e:(2:Int)^62=4611686018427387904:=by decide
 rw[e];exact T5 #[by lia,by lia]
def ZH(hf:F[f]?=aa fn)(hne:f≠tk)(hl:vs.length=fn.ps)(h:rvs (Zh F tk d) (muts fn.body) fn.body (ZI fn.ns vs) [] s=.ok (.ret v) s'):Zh F tk (d+1) f vs s=.ok v s':=by
 rw[Vn hf hne hl,h];rfl
def zY(hf:F[f]?=aa fn)(hne:f≠tk)(hl:vs.length=fn.ps)(h:rvs (Zh F tk d) (muts fn.body) fn.body (ZI fn.ns vs) [] s=.ok (.nx O os) s'):Zh F tk (d+1) f vs s=.ok .non s':=by
 rw[Vn hf hne hl,h];rfl
def Zl(h:rv C ms m O os s=.ok (.nx ρ' os') s'):rvs C ms (m::l) O os s=rvs C ms l ρ' os' s':=by rw[rvs,h];rfl
def ZD(h:rv C ms m O os s=.ok (.ret v) s'):rvs C ms (m::l) O os s=.ok (.ret v) s':=by rw[rvs,h];rfl
def Yb(h:pv C e O s=.ok v s'):rv C ms (.ret e) O os s=.ok (.ret v) s':=by rw[rv,h];rfl
def ye(h:pv C (.call f as) O s=.ok v s'):rv C ms (.ex<|.call f as) O os s=.ok (.nx O os) s':=by
 have:rv C ms (.ex<|.call f as) O os s=(pv C (.call f as) O s).bind λ_ s=>.ok (.nx O os) s:=by
  rw[rv]
  all_goals(intro _ _ z;cases z)
 rw[this,h];rfl
def ZaH{b:Bool}{t:E}{x y:List Sm}(h:YW C t O s=.ok b s'):rv C ms (.ite t x y) O os s=if b=am then rvs C ms x O os s' else rvs C ms y O os s':=by rw[rv,h];rfl
def ug{v:V}{b:Bool}{t:E}(h:pv C t O s=.ok v s')(hb:Zu v=aa b):YW C t O s=.ok b s':=by unfold YW;rw[h,Za,hb];rfl
def Zt{f:Nat}{as:List E}{vs:List V}{v:V}{s1:DS}(h:pvs C as O s=.ok vs s1)(hc:C f vs s1=.ok v s'):pv C (.call f as) O s=.ok v s':=by rw[pv,h];exact hc
def Zi:pvs C [] O s=.ok [] s:=by rw[pvs]
def Zc{e:E}{es:List E}{v:V}{vs:List V}{s1:DS}(h:pv C e O s=.ok v s1)(h2:pvs C es O s1=.ok vs s'):pvs C (e::es) O s=.ok (v::vs) s':=by rw[pvs,h,Za,h2];rfl
def Zg{i:Nat}{v:V}(h:O[i]?=aa (aa v)):pv C (.v i) O s=.ok v s:=by rw[pv,h];rfl
def YG{i:Nat}{e:E}{v:V}(h:pv C e O s=.ok v s')(hm:(ms.contains i&&fresh e)=ap):rv C ms (.asg [i] e) O [] s=.ok (.nx (O.set i<|aa v) []) s':=by
 rw[rv];show(pv C e O s).bind _=_;rw[h,Za,T8 (by rw[hm];simp)];rfl
def GT{Z B:Type}{t:List Nat}{it:W}{b:List Sm}{L:List B}{e:B->V}{step:Z->B->Z}{O:Z->Option V->Env}{st:Z}{o:Option V}(I:Z->Prop)(hw:pvw C it (hide os<|O st o) s=.ok (L.map e) s)(hI:I st)(ht:(t.any os.contains)=ap)
  (h:∀x∈L,∀st o,I st->I (step st x)/\(os.isEmpty||(e x).flat)=am/\∃ρ1 o',Zk t (e x) (O st o)=aa ρ1/\rvs C ms b ρ1 os s=.ok (.nx (O (step st x) o') os) s) :
  ∃o',I (L.foldl step st)/\rv C ms (.forr t it b) (O st o) os s=.ok (.nx (O (L.foldl step st) o') os) s:=by
 obtain⟨o',h1,h2⟩:=Uo (body:=λx O os s=>if(t.any os.contains)=am then .no else(po (Zk t x O) s).bind λO s=>rvs C ms b O os s) (s:=s) (os:=os) (O:=O) (step:=step) (e:=e) I (l:=L) (st:=st) (o:=o) hI (λx hx st o hI=>by
  obtain⟨a,f,ρ1,o',b1,b2⟩:=h x hx st o hI;refine#[a,o',?_];rw[T8 (by rw[ht];simp),b1,Z8,Za,b2])
 refine#[o',h1,?_];rw[rv,hw,Za];exact h2
def X8{e:E}{n:Nat}(h:pv C e O s=.ok (.int n) s')(hn:n<1000000):pvw C (.rng1 e) O s=.ok ((aM n).map ZU) s':=by
 rw[pvw,h,Za];show(if Xd (n:Int)=am then PR.ok (ZS 0 (n:Int).toNat) s' else .no)=_
 rw[T9 (vM (by lia) (by lia)),fv,WQ]
def yJ{Z B:Type}{t:List Nat}{it:W}{b:List Sm}{L:List B}{e:B->V}{step:Z->B->Z}{O:Z->Option V->Env}{st:Z}{o:Option V}(I:List B->Z->Prop)(hw:pvw C it (hide os<|O st o) s=.ok (L.map e) s)(hI:I L st)(ht:(t.any os.contains)=ap)
  (h:∀x l st o,I (x::l) st->I l (step st x)/\(os.isEmpty||(e x).flat)=am/\∃ρ1 o',Zk t (e x) (O st o)=aa ρ1/\rvs C ms b ρ1 os s=.ok (.nx (O (step st x) o') os) s) :
  ∃o',I [] (L.foldl step st)/\rv C ms (.forr t it b) (O st o) os s=.ok (.nx (O (L.foldl step st) o') os) s:=by
 rw[rv,hw,Za];clear hw
 induction L generalizing st o with
 |nil=>exact#[o,hI,rfl]
 |cons x L ih=>
  obtain⟨a,f,ρ1,o',b1,b2⟩:=h x L st o hI;obtain⟨o2,c1,c2⟩:=ih (st:=step st x) (o:=o') a;refine#[o2,c1,?_];rw[bj,Xx,T8 (by rw[ht];simp),b1,Z8,Za,b2,Za]
  exact c2
def pvF:(∀a,fresh (.lst a)=am)/\(∀a b,fresh (.bin .mul (.lst a) b)=am)/\(∀b,Zu (.bl b)=aa b)/\(∀i,Zu (.int i)=aa (ai<|i≠0))/\(∀xs,Zu (.tup xs)=aa (!xs.isEmpty))/\(∀xs,Zu (.lst xs)=aa (!xs.isEmpty))/\(Zu .non=aa ap)/\(∀xs i,ixV (.tup xs) (.int i)=at' xs i)/\(∀xs i,ixV (.lst xs) (.int i)=at' xs i)/\(∀xs,Yf (.tup xs)=aa xs)/\(∀xs,Yf (.lst xs)=aa xs)/\(∀x,Xa .len [x]=(Yf x).map λxs=>.int xs.length)/\(∀x,Xa .tuple [x]=(Yf x).map .tup)/\(∀x,Xa .list [x]=(Yf x).map .lst)/\(∀xs,Xa .all [.lst xs]=(Z9 xs).map λbs=>.bl<|bs.all id)/\(∀a b,Xa .max2 [.int a,.int b]=aa (.int (if b>a then b else a)))/\(∀a b,Xa .min2 [.int a,.int b]=aa (.int (if b<a then b else a)))/\(∀a,Xa .toInt [.int a]=aa (.int a))/\(∀a,Xa .toInt [.bl a]=aa (.int<|b2i a))/\(∀xs,Xa .sortedR [.lst xs]=(ZR xs).bind λrs=>if ZX rs=am then aa (.lst<|(Zn rs).reverse.map Zb)else ae)/\(∀a b s,YJ .add (.int a) (.int b) s=.ok (.int<|a+b) s)/\(∀a b s,YJ .sub (.int a) (.int b) s=.ok (.int<|a-b) s)/\(∀a b s,YJ .mul (.int a) (.int b) s=if(fits a&&fits b)=am then .ok (.int<|a*b) s else .no)/\(∀a b s,YJ .mod (.int a) (.int b) s=if 0<b then .ok (.int<|a%b) s else .no)/\(∀a b s,YJ .add (.tup a) (.tup b) s=if a.length+b.length<=lim then .ok (.tup<|a++b) s else .no)/\(∀a b s,YJ .mul (.tup a) (.int b) s=if 0<=b/\b<1000/\a.length<=1000 then .ok (.tup (aB b.toNat a).flatten) s else .no)/\(∀a b s,YJ .mul (.lst a) (.int b) s=if 0<=b/\b<1000/\a.length<=1000 then .ok (.lst (aB b.toNat a).flatten) s else .no)/\(∀a b s,YJ .add (.lst a) (.lst b) s=if a.length+b.length<=lim then .ok (.lst<|a++b) s else .no)/\(∀x y,Yg .eq x y=(eqV Zm x y).map .bl)/\(∀x y,Yg .ne x y=(eqV Zm x y).map λb=>.bl !b)/\(∀a b,Yg .lt (.int a) (.int b)=aa (.bl<|ai<|a<b))/\(∀a b,Yg .gt (.int a) (.int b)=aa (.bl<|ai<|b<a))/\(∀a b,Yg .le (.int a) (.int b)=aa (.bl<|ai<|a<=b))/\(∀a b,Yg .ge (.int a) (.int b)=aa (.bl<|ai<|b<=a))/\(∀x,Yg .is x .non=aa (.bl<|WD x))/\(∀x,Yg .isn x .non=aa (.bl !(WD x)))/\(∀a b,Yg .is (.bl a) (.bl b)=aa (.bl<|ai<|a=b))/\(∀a b,Yg .isn (.bl a) (.bl b)=aa (.bl !(ai<|a=b)))/\(∀x y,Yg .inn x y=(WB x y).map .bl)/\(∀x y,Yg .nin x y=(WB x y).map λb=>.bl !b)/\(WD .non=am)/\(∀b,WD (.bl b)=ap)/\(∀b,WD (.int b)=ap)/\(∀b,WD (.tup b)=ap)/\(∀b,WD (.lst b)=ap)/\(ofD .non=aa .non)/\(∀b,ofD (.bl b)=aa (.bl b))/\(∀b,ofD (.int b)=aa (.int b))/\(∀O,YB [] [] O=aa O)/\(∀i t x xs O,YB (i::t) (x::xs) O=YB t xs (O.set i<|aa x))/\(∀i x O,Zk [i] x O=aa (O.set i<|aa x))/\(∀i j t xs O,Zk (i::j::t) (.tup xs) O=YB (i::j::t) xs O)/\(∀i j t xs O,Zk (i::j::t) (.lst xs) O=YB (i::j::t) xs O)/\(∀k a b,eqV (k+1) (.int a) (.int b)=aa (ai<|a=b))/\(∀k a b,eqV (k+1) (.bl a) (.bl b)=aa (ai<|a=b))/\(∀k a b,eqV (k+1) (.tup a) (.tup b)=Ya (eqV k) a b)/\(∀k a b,eqV (k+1) (.lst a) (.lst b)=if a.length=b.length then Ya (eqV k) a b else aa ap):=
 #[λ_=>rfl,λ_ _=>rfl,λ_=>rfl,λ_=>rfl,λ_=>rfl,λ_=>rfl,rfl,λ_ _=>rfl,λ_ _=>rfl,λ_=>rfl,λ_=>rfl,λ_=>rfl,λ_=>rfl,λ_=>rfl,λ_=>rfl,λ_ _=>rfl,λ_ _=>rfl,λ_=>rfl,λ_=>rfl,λ_=>rfl,λ_ _ _=>rfl,λ_ _ _=>rfl,λ_ _ _=>rfl,λ_ _ _=>rfl,λ_ _ _=>rfl,λ_ _ _=>rfl,λ_ _ _=>rfl,λ_ _ _=>rfl,λ_ _=>rfl,λ_ _=>rfl,λ_ _=>rfl,λ_ _=>rfl,λ_ _=>rfl,λ_ _=>rfl,λ_=>rfl,λ_=>rfl,λ_ _=>rfl,λ_ _=>rfl,λ_ _=>rfl,λ_ _=>rfl,rfl,λ_=>rfl,λ_=>rfl,λ_=>rfl,λ_=>rfl,rfl,λ_=>rfl,λ_=>rfl,λ_=>rfl,λ_ _ _ _ _=>rfl,λ_ _ _=>rfl,λ_ _ _ _ _=>rfl,λ_ _ _ _ _=>rfl,λ_ _ _=>rfl,λ_ _ _=>rfl,λ_ _ _=>rfl,λ_ _ _=>rfl]
def pvE:=aP (aP (aP (aP (aP (aP pvF @Za)<|aP @Z8 @YW.eq_1)<|aP (aP @ZI.eq_1 @hide.eq_1)<|aP @ZW.eq_1 @Option.join.eq_1.{0})<|aP (aP (aP @lim.eq_1 @rvs.eq_1)<|aP @rvs.eq_2 @rv.eq_1)<|aP (aP @rv.eq_2 @rv.eq_3)<|aP @rv.eq_4 @rv.eq_5)<|aP (aP (aP (aP @rv.eq_6 @rv.eq_7)<|aP @rv.eq_8 @rv.eq_9)<|aP (aP @rv.eq_10 @rv.eq_11)<|aP @rv.eq_12 @rv.eq_13)<|aP (aP (aP @rv.eq_14 @rv.eq_15)<|aP @rv.eq_16 @rv.eq_17)<|aP (aP @rv.eq_18 @pvA.eq_1)<|aP @pvA.eq_2<|aP @pvs.eq_1 @pvs.eq_2)<|aP (aP (aP (aP (aP @pvo.eq_1 @pvo.eq_2)<|aP @pvt.eq_1 @pvt.eq_2)<|aP (aP @pvw.eq_1 @pvw.eq_2)<|aP @pvw.eq_3 @pvw.eq_4)<|aP (aP (aP @pvw.eq_5 @pvw.eq_6)<|aP @pvw.eq_7 @pv.eq_1)<|aP (aP @pv.eq_2 @pv.eq_3)<|aP @pv.eq_4<|aP @pv.eq_5 @pv.eq_6)<|aP (aP (aP (aP @pv.eq_7 @pv.eq_8)<|aP @pv.eq_9 @pv.eq_10)<|aP (aP @pv.eq_11 @pv.eq_12)<|aP @pv.eq_13 @pv.eq_14)<|aP (aP (aP @pv.eq_15 @pv.eq_16)<|aP @pv.eq_17 @pv.eq_18)<|aP (aP @pv.eq_19 @pv.eq_20)<|aP @pv.eq_21<|aP @pv.eq_22 @pv.eq_23
end Pv
namespace K14
open Ev Pv Rw La
noncomputable abbrev CV(d:Nat):Zo:=Zh fns 2 d
theorem Us(C:Zo)(s:DS)(v:V):∀(r:Row)(k:Nat)(a b:Option V),∃a' b',Xx (λx O os s=>if(([1,2]:List Nat).any os.contains)=am then .no else(po (Zk [1,2] x O) s).bind λO s=>rvs C [] [.ite (.cmp .ne (.v 2)<|.c<|.int 0) [.ret<|.v 1] []] O os s)
   (((ZS k r.length).zip<|r.map V.int).map λp=>V.tup [p.1,p.2]) [aa v,a,b] [] s=match hdI r with
    |some m=>.ok (.ret<|.int (k+m:Nat)) s
    |none=>.ok (.nx [aa v,a',b'] []) s
 |[],k,a,b=>#[a,b,rfl]
 |x::r,k,a,b=>by
  have er:ZS k (x::r).length=.int k::ZS (k+1:Nat) r.length:=by
   unfold ZS;rw[aS,kU,bj,bX];refine List.cons_eq_cons.mpr #[by simp,?_]
   .refine cK λj _=>?_
    show V.int ((k:Int)+((j+1:Nat):Int))=V.int (((k+1:Nat):Int)+(j:Int))
    congr 1
    lia
  obtain⟨a',b',ih⟩:=Us C s v r (k+1) (aa<|.int k)<|aa<|.int x;refine#[a',b',?_];rw[er,bj,cf,bj,Xx];by_cases c:x=0
  .subst c
   have e0:hdI (0::r)=(hdI r).map (· + 1):=by rw[hdI,T8 (by simp)]
   have e1:(if(([1,2]:List Nat).any ([]:List Nat).contains)=am then(.no:PR FlV)else(po (Zk [1,2] (V.tup [.int k,.int 0]) [aa v,a,b]) s).bind λO s=>rvs C [] [.ite (.cmp .ne (.v 2)<|.c<|.int 0) [.ret<|.v 1] []] O [] s)=.ok (.nx [aa v,aa<|.int k,aa<|.int 0] []) s:=by
    simp[pvE,Zm]
   rw[e1,Za,e0];show Xx _ _ [aa v,aa<|.int k,aa<|.int 0] [] s=_;rw[ih];cases hdI r with|none=>rfl|some m=>show PR.ok (FlV.ret<|.int ((k+1+m:Nat):Int)) s=PR.ok (FlV.ret<|.int ((k+(m+1):Nat):Int)) s;congr 3;lia
  .have e0:hdI (x::r)=aa 0:=by rw[hdI,T9 c]
   have e1:(if(([1,2]:List Nat).any ([]:List Nat).contains)=am then(.no:PR FlV)else(po (Zk [1,2] (V.tup [.int k,.int x]) [aa v,a,b]) s).bind λO s=>rvs C [] [.ite (.cmp .ne (.v 2)<|.c<|.int 0) [.ret<|.v 1] []] O [] s)=.ok (.ret<|.int k) s:=by
    simp[pvE,Zm,c]
   rw[e1,Za,e0];rfl
def WS(d:Nat)(r:Row)(s:DS):CV (d+1) 6 [Zb r] s=.ok (Xy<|hdI r) s:=by
 rw[CV,Vn rfl (by decide) rfl]
 obtain⟨a,b,e⟩:=Us (Zh fns 2 d) s (Zb r) r 0 ae ae;show((rv _ [] (.forr [1,2] (.enum<|.v 0) _) [aa<|Zb r,ae,ae] [] s).bind _).bind _=_;have e2:rv (Zh fns 2 d) [] (.forr [1,2] (.enum<|.v 0) [.ite (.cmp .ne (.v 2)<|.c<|.int 0) [.ret<|.v 1] []]) [aa<|Zb r,ae,ae] [] s=match hdI r with
    |some m=>.ok (.ret<|.int (m:Nat)) s
    |none=>.ok (.nx [aa<|Zb r,a,b] []) s:=by
  rw[rv];have ew:pvw (Zh fns 2 d) (.enum<|.v 0) (hide [] [aa<|Zb r,ae,ae]) s=.ok (((ZS 0 r.length).zip<|r.map V.int).map λp=>V.tup [p.1,p.2]) s:=by
   simp[pvE,Zb]
  rw[ew,Za];simp only[gv,Int.natCast_zero]at e;exact e
 rw[e2];cases hdI r with|none=>rfl|some m=>rfl
section
variable{p n:Nat}[Base p]
def Vf:(p:Int)<=5/\(2:Int)<=p:=by rcases(inferInstance:Base p).b with e|e|e<;>subst e<;>decide
theorem VZ(d:Nat){r o:Row}{k:Int}(s:DS)(hn:n<=6)(hr:Ze p n r)(ho:Ze p n o)(hk:-1000<k/\k<1000):CV (d+1) 4 [.int p,Zb r,Zb o,.int k] s=.ok (Zb<|Zz p r o k) s:=by
 rw[CV,Vn rfl (by decide) rfl]
 have hp:=Vf (p:=p);have hc:=Z3 (C:=Zh fns 2 d) (cap:=[3,0]) (nl:=2) (t:=[0,1]) (it:=.zip (.v 1)<|.v 2) (elt:=.bin .mod (.bin .add (.v 0)<|.bin .mul (.v 2)<|.v 1)<|.v 3) (O:=[aa<|.int p,aa<|Zb r,aa<|Zb o,aa<|.int k]) (s:=s) (l:=r.zip o) (e:=λq=>V.tup [.int q.1,.int q.2]) (g:=λq=>V.int<|(q.1+k*q.2)%p)
  (by simp[pvE,Zb,Gi]) (by rw[fU,hr.1,ho.1];unfold lim;lia) (λq hq=>by
   have h2:=ho.2 q.2 (gX hq).2;refine#[_,rfl,?_];have f1:=ZL (a:=k) (by lia) (by lia)
   have f2:=ZL (a:=q.2) (by lia) (by lia)
   have hp0:0<p:=by lia
   simp[pvE,f1,f2,hp0])
 have e:(r.zip o).map (λq=>V.int<|(q.1+k*q.2)%p)=(Zz p r o k).map V.int:=by
  unfold Zz;rw[<-gB,bX];rfl
 simp[Wc,pvE,hc,e];rfl
theorem z8(d:Nat){r o:Row}{h:Nat}(s:DS)(hn:n<=6)(hr:Ze p n r)(ho:Ze p n o)(hh:h<n):CV (d+2) 5 [.int p,Zb r,Zb o,.int h] s=.ok (Zb<|clr p r o h) s:=by
 rw[CV,Vn rfl (by decide) rfl]
 have hg:=Yi ppos hr h;have hp:=Vf (p:=p);have e:=VZ d (k:=-(gt r h)) s hn hr ho #[by lia,by lia]
 have e2:=VI (by rw[hr.1];exact hh)
 simp only[CV]at e;simp[Qa,pvE,Zb,e2];simp only[Zb]at e;rw[e];simp[pvE,clr]
theorem Zdj(d:Nat){r:Row}{k:Int}(s:DS)(hn:n<=6)(hr:Ze p n r)(hk:-1000<k/\k<1000):CV (d+1) 8 [.int p,Zb r,.int k] s=.ok (Zb<|Xk p r k) s:=by
 rw[CV,Vn (fn:=Qr) rfl (by decide) rfl]
 have hp:=Vf (p:=p);have hc:=Z3 (C:=Zh fns 2 d) (cap:=[2,0]) (nl:=1) (t:=[0]) (it:=.of<|.v 1) (elt:=.bin .mod (.bin .mul (.v 1)<|.v 0)<|.v 2) (O:=[aa<|.int p,aa<|Zb r,aa<|.int k]) (s:=s) (l:=r) (e:=V.int) (g:=λq=>V.int<|k*q%p)
  (by simp[pvE,Zb]) (by rw[hr.1];unfold lim;lia) (λq hq=>by
   have h2:=hr.2 q hq;refine#[_,rfl,?_];have f1:=ZL (a:=k) (by lia) (by lia)
   have f2:=ZL (a:=q) (by lia) (by lia)
   have hp0:0<p:=by lia
   simp[pvE,f1,f2,hp0])
 simp[Qr,pvE,hc];simp[Zb,Xk]
def QE(C:Zo)(m:Nat){q a k:Int}(s:DS)(hq:0<q)(f1:fits a=am)(f2:fits k=am):YN (YW C<|.cmp .ne (.bin .mod (.bin .mul (.v 2)<|.v 1)<|.v 0)<|.c<|.int 1) (rvs C [] [.aug 2 .add<|.c<|.int 1]) (m+1) [aa<|.int q,aa<|.int a,aa<|.int k] [] s =
  if k*a%q=1 then .ok (.nx [aa<|.int q,aa<|.int a,aa<|.int k] []) s else YN (YW C<|.cmp .ne (.bin .mod (.bin .mul (.v 2)<|.v 1)<|.v 0)<|.c<|.int 1) (rvs C [] [.aug 2 .add<|.c<|.int 1]) m [aa<|.int q,aa<|.int a,aa<|.int<|k+1] [] s:=by
 rw[YN];by_cases c:k*a%q=1<;>simp[pvE,f1,f2,hq,Zm,c,Zcr]
theorem qV(d:Nat){a:Int}(s:DS)(ha:0<a/\a<p):CV (d+1) 9 [.int p,.int a] s=.ok (.int<|W8 p a) s:=by
 rw[CV,Vn (fn:=Uz) rfl (by decide) rfl]
 generalize Zh fns 2 d=C;have fs:∀k:Int,0<=k->k<=5->fits k=am:=λk h0 h1=>ZL (by lia) (by lia)
 have hp:=Vf (p:=p);have fa:=fs a (by lia) (by lia)
 have key:YN (YW C<|.cmp .ne (.bin .mod (.bin .mul (.v 2)<|.v 1)<|.v 0)<|.c<|.int 1) (rvs C [] [.aug 2 .add<|.c<|.int 1]) (996+1+1+1+1) [aa<|.int p,aa<|.int a,aa<|.int 1] [] s=.ok (.nx [aa<|.int p,aa<|.int a,aa<|.int<|W8 p a] []) s:=by
  rw[QE C _ s (by lia) fa (fs 1 (by lia) (by lia)),QE C _ s (by lia) fa (fs (1+1) (by lia) (by lia)),QE C _ s (by lia) fa (fs (1+1+1) (by lia) (by lia)),QE C _ s (by lia) fa<|fs (1+1+1+1) (by lia) (by lia)]
  rcases(inferInstance:Base p).b with e|e|e<;>subst e
  .have:a=1:=by lia
   subst this;rfl
  .have:a=1\/a=2:=by lia
   rcases this with e|e<;>subst e<;>rfl
  .have:a=1\/a=2\/a=3\/a=4:=by lia
   rcases this with e|e|e|e<;>subst e<;>rfl
 have e:rv C [] (.whl (.cmp .ne (.bin .mod (.bin .mul (.v 2)<|.v 1)<|.v 0)<|.c<|.int 1) [.aug 2 .add<|.c<|.int 1]) [aa<|.int p,aa<|.int a,aa<|.int 1] [] s=.ok (.nx [aa<|.int p,aa<|.int a,aa<|.int<|W8 p a] []) s:=by
  rw[rv];exact key
 show((rvs C [] (.asg [2] (.c<|.int 1) :: .whl _ _ :: .ret (.v 2)::[]) [aa<|.int p,aa<|.int a,ae] [] s).bind _)=_;have e1:rv C [] (.asg [2]<|.c<|.int 1) [aa<|.int p,aa<|.int a,ae] [] s=.ok (.nx [aa<|.int p,aa<|.int a,aa<|.int 1] []) s:=by simp[pvE]
 rw[rvs,e1,Za];show((rvs C [] (.whl _ _ :: .ret (.v 2)::[]) [aa<|.int p,aa<|.int a,aa<|.int 1] [] s).bind _)=_;rw[rvs,e,Za];simp[pvE]
end
section
variable{p n:Nat}[Base p]
def Xv(C:Zo)(ms:List Nat){i j:Nat}{O:Env}{os:List Nat}{s:DS}{e:E}(h:pvA C e O os s=.ok (spV p n) s)(ho:os.contains i=ap/\os.contains j=ap):rv C ms (.asg [i,j] e) O os s=.ok (.nx ((O.set i<|aa<|.int p).set j<|aa<|.int n) os) s:=by
 rw[rv,h,Za,T8 (by simpa using ho)]
 .rfl
 .simp
def Qc(d:Nat){P:List Row}{r:Row}(s:DS)(hn:n<=6)(hP:pZ p n P)(hr:Ze p n r):CV (d+3) 7 [spV p n,Zd P,Zb r] s=.ok (Zb<|Zf p P r) s:=by
 refine ZH rfl (by decide) rfl ?_
 show rvs (CV<|d+2) [] (.asg [3,4] (.v 0) :: .asg [5] (.v 2) :: .forr [6] (.of<|.v 1) [.asg [5]<|.call 5 [(.v 3),(.v 5),(.v 6),(.call 6 [(.v 6)])]] :: .ret (.v 5)::[]) [aa<|spV p n,aa<|Zd P,aa<|Zb r,ae,ae,ae,ae] [] s=_;rw[Zl<|Xv (p:=p) (n:=n) _ _ (by simp[pvE]) (by simp)]
 rw[Zl (ρ':=[aa<|spV p n,aa<|Zd P,aa<|Zb r,aa<|.int p,aa<|.int n,aa<|Zb r,ae]) (os':=[]) (s':=s) (by simp[pvE])]
 obtain⟨o',hI,e⟩:=GT (C:=CV<|d+2) (ms:=[]) (t:=[6]) (it:=.of<|.v 1) (b:=[.asg [5]<|.call 5 [(.v 3),(.v 5),(.v 6),(.call 6 [(.v 6)])]]) (L:=P) (e:=Zb) (step:=λst o=>clr p st o<|(hdI o).getD 0) (O:=λst o=>[aa<|spV p n,aa<|Zd P,aa<|Zb r,aa<|.int p,aa<|.int n,aa<|Zb st,o]) (os:=[]) (s:=s) (Ze p n) (by simp[pvE,Zd]) hr rfl (λx hx st o hst=>by
  have hx':=hP.row x hx;obtain⟨k,hk,hkn,_⟩:=hP.head fld.one0 hx;refine#[Zj hst hx',rfl,_,aa<|Zb x,rfl,?_];have e1:=WS (d+1) x s;have e2:=z8 d s hn hst hx' hkn;rw[hk]at e1;simp only[Xy]at e1;have e3:=e1;simp[pvE,e3,e2,hk])
 rw[Zl e];exact ZD<|Yb (by simp[pvE,Zf])
theorem dsum{P:List Row}(hP:pZ p n P):P.length<=n:=by
 have:=xi fld hP.pn;rw[Qh]at this;lia
theorem qN(d:Nat){P:List Row}{r:Row}(s:DS)(hn:n<=6)(hP:pZ p n P)(hr:Ze p n r):CV (d+4) 10 [spV p n,Zd P,Zb r] s=.ok (Zd<|YR p P r) s:=by
 refine ZH (fn:=Ug) rfl (by decide) rfl ?_
 show rvs (CV<|d+3) [] (.asg [3,4] (.v 0) :: .asg [5] (.call 7 [(.v 0),(.v 1),(.v 2)]) :: .asg [6] (.call 6 [(.v 5)]) :: .ite (.cmp .is (.v 6)<|.c .non) [.ret<|.v 1] [] ::
  .asg [7] (.call 8 [(.v 3),(.v 5),(.call 9 [(.v 3),(.ix (.v 5)<|.v 6)])]) :: .asg [8] (.comp1 [3,7,6] 1 [0] (.of<|.v 1) []<|.call 5 [(.v 1),(.v 0),(.v 2),(.v 3)]) ::
  .ret (.blt .tuple [(.blt .sortedR [(.bin .add (.v 8)<|.lst [(.v 7)])])])::[]) [aa<|spV p n,aa<|Zd P,aa<|Zb r,ae,ae,ae,ae,ae,ae] [] s=_
 obtain⟨l1,l2⟩:=W5 hP.row hP.pn.rf hr;have hw:=(VP hP hr).1;rw[Zl<|Xv (p:=p) (n:=n) _ _ (by simp[pvE]) (by simp)]
 have e1:=Qc d s hn hP hr;rw[Zl (ρ':=[aa<|spV p n,aa<|Zd P,aa<|Zb r,aa<|.int p,aa<|.int n,aa<|Zb<|Zf p P r,ae,ae,ae]) (os':=[]) (s':=s) (by simp[pvE,e1])]
 have e2:=WS (d+2) (Zf p P r) s;rw[Zl (ρ':=[aa<|spV p n,aa<|Zd P,aa<|Zb r,aa<|.int p,aa<|.int n,aa<|Zb<|Zf p P r,aa<|Xy<|hdI<|Zf p P r,ae,ae]) (os':=[]) (s':=s) (by simp[pvE,e2])]
 cases q:hdI (Zf p P r)with
 |none=>
  refine ZD ?_;have:YR p P r=P:=by unfold YR;rw[q]
  simp[pvE,Xy,this]
 |some h=>
  obtain⟨h1,h2,h3⟩:=Z2 q;rw[l1.1]at h2;have hg:=Yi ppos l1 h;have hp:=Vf (p:=p);have hwid:YR p P r=(Zn<|P.map (λo=>clr p o (lead p (Zf p P r) h) h)++[lead p (Zf p P r) h]).reverse:=by unfold YR;rw[q]
  rw[Zl (ρ':=[aa<|spV p n,aa<|Zd P,aa<|Zb r,aa<|.int p,aa<|.int n,aa<|Zb<|Zf p P r,aa<|.int h,ae,ae]) (os':=[]) (s':=s) (by simp[pvE,Xy])]
  have e3:=qV (p:=p) (d+2) (a:=gt (Zf p P r) h) s #[by lia,hg.2]
  have hi:-1000<W8 p (gt (Zf p P r) h)/\W8 p (gt (Zf p P r) h)<1000:=by
   unfold W8
   repeat' split
   all_goals lia
  have e4:=Zdj (p:=p) (d+2) s hn l1 hi;have e5:=VI (r:=Zf p P r) (k:=h) (by rw[l1.1];exact h2)
  have hl:Ze p n (lead p (Zf p P r) h):=UK l1;rw[Zl (ρ':=[aa<|spV p n,aa<|Zd P,aa<|Zb r,aa<|.int p,aa<|.int n,aa<|Zb<|Zf p P r,aa<|.int h,aa<|Zb<|lead p (Zf p P r) h,ae]) (os':=[]) (s':=s) (by
   have e6:pv (CV<|d+3) (.call 8 [(.v 3),(.v 5),(.call 9 [(.v 3),(.ix (.v 5)<|.v 6)])]) [aa<|spV p n,aa<|Zd P,aa<|Zb r,aa<|.int p,aa<|.int n,aa<|Zb<|Zf p P r,aa<|.int h,ae,ae] s=.ok (Zb<|lead p (Zf p P r) h) s:=by
    refine Zt (vs:=[.int p,Zb<|Zf p P r,.int<|W8 p<|gt (Zf p P r) h]) (s1:=s) ?_ e4;have e7:pv (CV<|d+3) (.call 9 [(.v 3),(.ix (.v 5)<|.v 6)]) [aa<|spV p n,aa<|Zd P,aa<|Zb r,aa<|.int p,aa<|.int n,aa<|Zb<|Zf p P r,aa<|.int h,ae,ae] s=.ok (.int<|W8 p<|gt (Zf p P r) h) s:=by
     refine Zt (vs:=[.int p,.int<|gt (Zf p P r) h]) (s1:=s) ?_ e3;simp[pvE,Zb,e5]
    exact Zc (Zg rfl)<|Zc (Zg rfl)<|Zc e7 Zi
   rw[rv];show(pv _ _ _ _).bind _=_;rw[e6];rfl)]
  have hc:=Z3 (C:=CV<|d+3) (cap:=[3,7,6]) (nl:=1) (t:=[0]) (it:=.of<|.v 1) (elt:=.call 5 [(.v 1),(.v 0),(.v 2),(.v 3)]) (O:=[aa<|spV p n,aa<|Zd P,aa<|Zb r,aa<|.int p,aa<|.int n,aa<|Zb<|Zf p P r,aa<|.int h,aa<|Zb<|lead p (Zf p P r) h,ae]) (s:=s) (l:=P) (e:=Zb) (g:=λo=>Zb<|clr p o (lead p (Zf p P r) h) h)
   (by simp[pvE,Zd]) (by have:=dsum hP;unfold lim;lia) (λo ho=>#[_,rfl,by
    have:=z8 (p:=p) (d+1) (h:=h) s hn (hP.row o ho) hl h2;simp[pvE,this]])
  rw[Zl (ρ':=[aa<|spV p n,aa<|Zd P,aa<|Zb r,aa<|.int p,aa<|.int n,aa<|Zb<|Zf p P r,aa<|.int h,aa<|Zb<|lead p (Zf p P r) h,aa<|.lst<|P.map λo=>Zb<|clr p o (lead p (Zf p P r) h) h]) (os':=[]) (s':=s) (by simp[pvE,hc])]
  refine ZD<|Yb ?_;have ea:(P.map λo=>Zb<|clr p o (lead p (Zf p P r) h) h)++[Zb<|lead p (Zf p P r) h]=((P.map λo=>clr p o (lead p (Zf p P r) h) h)++[lead p (Zf p P r) h]).map Zb:=by rw[bM,bX];rfl
  have hs:ZX ((P.map λo=>clr p o (lead p (Zf p P r) h) h)++[lead p (Zf p P r) h])=am:=by
   have hlen:((P.map λo=>clr p o (lead p (Zf p P r) h) h)++[lead p (Zf p P r) h]).length=P.length+1:=by simp
   have hnd:((P.map λo=>clr p o (lead p (Zf p P r) h) h)++[lead p (Zf p P r) h]).Nodup:=by
    have h5:=WI hw.falls;rw[hwid]at h5;exact((Sd.ZG _).nodup_iff).mp<|((du _).nodup_iff).mp h5
   have hd:=dsum hP;unfold ZX;rw[T5 (by rw[hlen];lia),T5 hnd]
   rw[aC];refine#[rfl,aT.mpr λx hx=>?_]
   have:x.length=n:=by
    rcases c0.mp hx with z|z
    .obtain⟨o,ho,rfl⟩:=aR.mp z
     exact(Zj (hP.row o ho) hl).1
    .rw[be.mp z];exact hl.1
   cases x with|nil=>simp at this;lia|cons _ _=>rfl
  have hlen2:P.length+1<=16777216:=by have:=dsum hP;lia
  simp[pvE,hlen2];rw[ea,Yl];simp[pvE,hs,hwid,Zd,gL]
def Vu(d:Nat){P R:List Row}{v:V}(s:DS)(hn:n<=6)(hP:pZ p n P)(hR:∀r∈R,Ze p n r)(hv:Yf v=aa (R.map Zb)):CV (d+5) 11 [spV p n,Zd P,v] s=.ok (Zd<|Y5 p P R) s:=by
 refine ZH (fn:=YS) rfl (by decide) rfl ?_
 show rvs (CV<|d+4) [] (.asg [3] (.v 1) :: .forr [4] (.of<|.v 2) [.asg [3]<|.call 10 [(.v 0),(.v 3),(.v 4)]] :: .ret (.v 3)::[]) [aa<|spV p n,aa<|Zd P,aa v,ae,ae] [] s=_;rw[Zl (ρ':=[aa<|spV p n,aa<|Zd P,aa v,aa<|Zd P,ae]) (os':=[]) (s':=s) (by simp[pvE])]
 obtain⟨o',hI,e⟩:=GT (C:=CV<|d+4) (ms:=[]) (t:=[4]) (it:=.of<|.v 2) (b:=[.asg [3]<|.call 10 [(.v 0),(.v 3),(.v 4)]]) (L:=R) (e:=Zb) (step:=YR p) (O:=λst o=>[aa<|spV p n,aa<|Zd P,aa v,aa<|Zd st,o]) (st:=P) (o:=ae) (os:=[]) (s:=s) (pZ p n) (by show pvw (CV<|d+4) (.of<|.v 2) [aa<|spV p n,aa<|Zd P,aa v,aa<|Zd P,ae] s=_;rw[pvw,pv];show po (Yf v) s=_;rw[hv];rfl) hP rfl (λx hx st o hst=>by
  have hx':=hR x hx;refine#[(VP hst hx').1,rfl,_,aa<|Zb x,rfl,?_];have e2:=qN d s hn hst hx';simp[pvE,e2])
 rw[Zl e];exact ZD<|Yb (by simp[pvE,Y5])
end
end K14
namespace Rw
open La
open Ev (ltI YZ Zn)
end Rw
namespace Rw
open Ev (ltP XB YD)
open La
section
variable{p n:Nat}[Base p]
def qy(hW:pZ p n W)(hr:Ze p n r)(h:∀i,gt r i=0):Z5 p W r=am:=by
 rw[ZP hW hr];have e:toV p r=λ_=>0:=by funext k;exact(Z1 hr).mpr<|h k
 rw[e];exact Yx
def Qi(hW:pZ p n W)(hr:r∈W):Z5 p W r=am:=by
 rw[ZP hW<|hW.row r hr];exact YT hW.pn.rf<|Yc hr
structure Spans(p n:Nat)[NeZero p](R P:List Row):Prop where
 part:pZ p n P
 holds:∀r∈R,Z5 p P r=am
 least:∀W,pZ p n W->(∀r∈R,Z5 p W r=am)->∀r∈P,Z5 p W r=am
def Spans.uniq(hP:Spans p n R P)(hQ:Spans p n R Q):P=Q:=
 eqP hP.part hQ.part λu=>#[(J8 hP.part hQ.part).mp (aT.mpr<|hP.least Q hQ.part hQ.holds) u,(J8 hQ.part hP.part).mp (aT.mpr<|hQ.least P hP.part hP.holds) u]
end
noncomputable def rise(hs:List Nat):Bool:=(hs.zip hs.tail).all λq=>ai<|q.1<q.2
theorem Vc:∀{hs:List Nat},rise hs=am↔hs.Pairwise (· < ·)
 |[]=>by simp[rise]
 |[a]=>by simp[rise]
 |a::b::l=>by
  have ih:=Vc (hs:=b::l);unfold rise at ih ⊢;rw[oV,cf,gP,aC,T0];rw[oV]at ih
  constructor
  .intro#[h1,h2]
   have h3:=ih.mp h2;refine aZ.mpr #[λx hx=>?_,h3]
   rcases aA.mp hx with rfl|hx
   .exact h1
   .exact dG h1<|(aZ.mp h3).1 x hx
  .intro h
   obtain⟨h1,h2⟩:=aZ.mp h;exact#[h1 b<|ak ..,ih.mpr h2]
noncomputable def Wz(R:List Row)(i k:Nat):Bool:=ai (gt (R.getD i []) k=1)&&(R.take i++R.drop (i+1)).all λr=>ai<|gt r k=0
noncomputable def VA(R:List Row):Bool:=(R.all λr=>(hdI r).isSome)&&(rise (ZB R)&&(aM R.length).all λi=>Wz R i<|(ZB R).getD i 0)
section
variable{p n:Nat}[Base p]
def QR{R:List Row}{i:Nat}(hi:i<R.length):R.getD i []=R[i]:=by rw[aD,af hi];rfl
def VD(hi:i<R.length):(ZB R).getD i 0=(hdI R[i]).getD 0:=by
 unfold ZB;rw[aD,aK,af hi];rfl
def Zbg{R:List Row}{i j:Nat}(hj:j<R.length)(h:j≠i):R[j]∈R.take i++R.drop (i+1):=by
 by_cases c:j<i
 .refine b6 _ ?_
  have hl:j<(R.take i).length:=by rw[bh];omega
  rw[<-eG];exact aV hl
 .refine bm _ ?_
  have hl:j-(i+1)<(R.drop<|i+1).length:=by rw[bo];omega
  have e:(R.drop<|i+1)[j-(i+1)]=R[j]:=by rw[eI];congr 1;omega
  rw[<-e];exact aV hl
def UM{R:List Row}{i:Nat}{r:Row}(h:r∈R.take i++R.drop (i+1)):∃j,∃(hj:j<R.length),j≠i/\R[j]=r:=by
 rcases c0.mp h with z|z
 .obtain⟨j,hj,e⟩:=bB z
  rw[bh]at hj;exact#[j,by omega,by omega,by rw[<-e,eG]]
 .obtain⟨j,hj,e⟩:=bB z
  rw[bo]at hj;exact#[i+1+j,by omega,by omega,by rw[<-e,eI]]
def Qe:ph p 1=1:=by
 rcases(inferInstance:Base p).b with e|e|e<;>subst e<;>rfl
def QB(hr:Ze p n r):toV p r k=1↔gt r k=1:=by
 have hb:=(inferInstance:Base p).b
 constructor
 .intro h
  refine Vm (Yi ppos hr k) #[by omega,by omega] ?_
  rw[Qe];exact h
 .intro h
  unfold toV;rw[h,Qe]
def UA{R:List Row}(hR:∀r∈R,Ze p n r):VA R=am↔pZ p n R:=by
 unfold VA;simp only[aC,aT,aU]
 constructor
 .intro#[h1,h2,h3]
  have hd:∀i (hi:i<R.length),∃k,hdI R[i]=aa k/\gt R[i] k=1/\∀j (hj:j<R.length),j≠i->gt R[j] k=0:=λi hi=>by
   obtain⟨k,hk⟩:=dD.mp<|h1 _<|aV hi;have a:=h3 i hi;unfold Wz at a;rw[VD hi,QR hi,hk,aC,T0,aT]at a;exact#[k,hk,a.1,λj hj ne=>T6<|a.2 _<|Zbg hj ne]
  have inc:=Vc.mp h2;have memP:∀a∈toP p R,∃i,∃(hi:i<R.length),a=((hdI R[i]).getD 0,toV p R[i]):=λa ha=>by
   obtain⟨r,hr,rfl⟩:=aR.mp ha;obtain⟨i,hi,rfl⟩:=bB hr;exact#[i,hi,rfl]
  refine#[hR,#[#[?_,λa ha j hj=>?_,λa ha=>?_,λa ha b hb ne=>?_],λa ha=>?_,λa ha=>?_]]
  .rw[<-Wo (p:=p)]at inc
   exact cy.mp inc
  .obtain⟨i,hi,rfl⟩:=memP a ha
   obtain⟨k,hk,_,_⟩:=hd i hi;rw[hk]at hj;exact(Z1<|hR _<|aV hi).mpr<|(Z2 hk).2.2 j hj
  .obtain⟨i,hi,rfl⟩:=memP a ha
   obtain⟨k,hk,h,_⟩:=hd i hi;rw[hk];exact(QB<|hR _<|aV hi).mpr h
  .obtain⟨i,hi,rfl⟩:=memP a ha
   obtain⟨j,hj,rfl⟩:=memP b hb;obtain⟨k,hk,_,h⟩:=hd i hi;rw[hk];refine(Z1<|hR _<|aV hj).mpr<|h j hj λe=>?_
   subst e;exact ne rfl
  .obtain⟨i,hi,rfl⟩:=memP a ha
   obtain⟨k,hk,_,_⟩:=hd i hi;rw[hk,<-(hR _<|aV hi).1];exact(Z2 hk).2.1
  .obtain⟨i,hi,rfl⟩:=memP a ha
   exact Yt<|hR _<|aV hi
 .intro hP
  have hk:∀r∈R,∃k,hdI r=aa k/\k<n/\toV p r k=1:=λr hr=>hP.head fld.one0 hr
  refine#[λr hr=>?_,Vc.mpr ?_,λi hi=>?_]
  .obtain⟨k,e,_⟩:=hk r hr
   rw[e];rfl
  .rw[<-Wo (p:=p)];exact hP.pn.rf.heads
  .obtain⟨k,e,_,h1⟩:=hk _ (aV hi)
   unfold Wz;rw[VD hi,QR hi,e,aC,T0,aT];refine#[(QB<|hR _<|aV hi).mp h1,λr hr=>?_]
   obtain⟨j,hj,ne,rfl⟩:=UM hr;refine T5 ?_;obtain⟨k2,e2,_,_⟩:=hk _<|aV hj;have hh:((hdI R[i]).getD 0,toV p R[i]).1≠((hdI R[j]).getD 0,toV p R[j]).1:=by
    have inc:(ZB R).Pairwise (· < ·):=by rw[<-Wo (p:=p)];exact hP.pn.rf.heads
    have pw:=bq.mp inc;have li:(ZB R).length=R.length:=by unfold ZB;rw[az]
    have gi:∀m (hm:m<R.length),(ZB R)[m]'(by omega)=(hdI R[m]).getD 0:=λm hm=>by unfold ZB;rw[gN]
    intro z;have z:=z;rcases Nat.lt_or_gt_of_ne ne with c|c
    .have:=pw j i (by omega) (by omega) c
     rw[gi j hj,gi i hi]at this;omega
    .have:=pw i j (by omega) (by omega) c
     rw[gi j hj,gi i hi]at this;omega
   have:=hP.pn.rf.zer _ (Yc<|aV hi) _ (Yc<|aV hj) hh;rw[e]at this;exact(Z1<|hR _<|aV hj).mp this
end
end Rw
namespace Ab
open Ev Pv
mutual
noncomputable def okV:V->Bool
 |.tup xs=>XI xs
 |.lst xs=>XI xs
 |.drw=>ap
 |.scr _=>ap
 |.dct (aa _)=>ap
 |.dow _=>ap
 |_=>am
noncomputable def XI:List V->Bool
 |[]=>am
 |x::xs=>okV x&&XI xs
end
end Ab
namespace K14
open Ev Pv Rw La
open Ab (okV XI)
theorem zg:∀{xs:List V},XI xs=am->∀x∈xs,okV x=am
 |[],_,x,h=>by cases h
 |y::xs,h,x,m=>by
  obtain⟨h1,h2⟩:=(aC _ _).mp h;rcases aA.mp m with rfl|m
  .exact h1
  .exact zg h2 x m
noncomputable def isW(x:V)(lo hi:Int):Bool:=match x with
 |.int i=>ai (lo<=i)&&ai (i<=hi)
 |_=>ap
def Zbt{x:V}{lo hi:Int}(h:∀i,x≠.int i):isW x lo hi=ap:=by
 cases x with|int i=>exact T7 rfl<|h i|_=>rfl
def Zbn{x:V}(hx:okV x=am):(∃i,x=.int i)\/(∃b,x=.bl b)\/Z7 x [.int]=aa ap/\∀i,x≠.int i:=by
 cases x with
 |int i=>exact .inl #[i,rfl]
 |bl b=>exact .inr<|.inl #[b,rfl]
 |drw=>cases hx
 |scr _=>cases hx
 |dow _=>cases hx
 |dct o=>cases o with|none=>exact .inr<|.inr #[rfl,nofun]|some _=>cases hx
 |_=>exact .inr<|.inr #[rfl,nofun]
def wy{x:V}(hx:okV x=am):(∃xs,x=.tup xs)\/Z7 x [.tuple]=aa ap/\∀xs,x≠.tup xs:=by
 cases x with
 |tup xs=>exact .inl #[xs,rfl]
 |drw=>cases hx
 |scr _=>cases hx
 |dow _=>cases hx
 |dct o=>cases o with|none=>exact .inr #[rfl,nofun]|some _=>cases hx
 |_=>exact .inr #[rfl,nofun]
def vG(d:Nat){x:V}{lo hi:Int}(s:DS)(hx:okV x=am):CV (d+1) 12 [x,.int lo,.int hi] s=.ok (.bl<|isW x lo hi) s:=by
 refine ZH rfl (by decide) rfl ?_
 rcases Zbn hx with⟨i,rfl⟩|⟨b,rfl⟩|⟨ha,no⟩
 .by_cases h:lo<=i
  .simp[Yu,pvE,isW,Z7,Y8,h]
  .simp[Yu,pvE,isW,Z7,Y8,h]
 .simp[Yu,pvE,isW,Z7,Y8]
 .rw[Zbt no]
  simp[Yu,pvE,ha]
noncomputable def Z0(p n:Nat)(x:V):Bool:=match x with
 |.tup xs=>ai (xs.length=n)&&xs.all λv=>isW v 0<|(p:Int)-1
 |_=>ap
def ZbM{p n:Nat}{x:V}(h:∀xs,x≠.tup xs):Z0 p n x=ap:=by
 cases x with|tup xs=>exact T7 rfl<|h xs|_=>rfl
theorem zV{p:Nat}:∀{xs:List V},(xs.all λv=>isW v 0<|(p:Int)-1)=am->∃r:Row,xs=r.map .int/\∀a∈r,0<=a/\a<(p:Int)
 |[],_=>#[[],rfl,λ_ h=>by cases h]
 |x::xs,h=>by
  rw[gP,aC]at h;obtain⟨r,rfl,hr⟩:=zV h.2;cases x with
  |int i=>
   have:=h.1;simp only[isW,aC,T0]at this;refine#[i::r,rfl,λa ha=>?_]
   rcases aA.mp ha with rfl|ha
   .lia
   .exact hr a ha
  |_=>cases h.1
def ZbV{p n:Nat}{x:V}(h:Z0 p n x=am):∃r:Row,x=Zb r/\Ze p n r:=by
 cases x with
 |tup xs=>
  unfold Z0 at h;rw[aC,T0]at h;obtain⟨r,rfl,hr⟩:=zV h.2;exact#[r,rfl,by simpa using h.1,hr]
 |_=>cases h
def Zal{p n:Nat}{r:Row}(hr:Ze p n r):Z0 p n (Zb r)=am:=by
 unfold Z0 Zb;rw[aC,T0,az];refine#[hr.1,aT.mpr λv hv=>?_]
 obtain⟨a,ha,rfl⟩:=aR.mp hv;have:=hr.2 a ha;simp only[isW,aC,T0];lia
theorem z9:∀r:Row,XI (r.map .int)=am
 |[]=>rfl
 |a::r=>z9 r
def vL(r:Row):okV (Zb r)=am:=z9 r
section
variable{p n:Nat}[Base p]
theorem ya(d:Nat){x:V}(s:DS)(hn:n<=6)(hx:okV x=am):CV (d+2) 13 [spV p n,x] s=.ok (.bl<|Z0 p n x) s:=by
 refine ZH rfl (by decide) rfl ?_
 dsimp only[J0]
 rw[Zl<|Xv (p:=p) (n:=n) _ _ (by simp[pvE]) (by simp)]
 rcases wy hx with⟨xs,rfl⟩|⟨ha,no⟩
 ·
  by_cases hl:xs.length=n
  .rw[Zl (ρ':=[aa<|spV p n,aa<|.tup xs,aa<|.int p,aa<|.int n]) (os':=[]) (s':=s) (by simp[pvE,Z7,Y8,Zm,hl])]
   refine ZD<|Yb ?_;have hc:=Z3 (C:=CV<|d+1) (cap:=[2]) (nl:=1) (t:=[0]) (it:=.of<|.v 1) (elt:=.call 12 [(.v 0),(.c<|.int 0),(.bin .sub (.v 1)<|.c<|.int 1)]) (O:=[aa<|spV p n,aa<|.tup xs,aa<|.int p,aa<|.int n]) (s:=s) (l:=xs) (e:=id) (g:=λv=>V.bl<|isW v 0<|(p:Int)-1)
    (by simp[pvE]) (by unfold lim;lia) (λv hv=>#[_,rfl,by
     have e:=vG d (lo:=0) (hi:=(p:Int)-1) s<|zg hx v hv;simp[pvE,e]])
   have ht:=Yn (g:=λv:V=>isW v 0<|(p:Int)-1) xs
   simp[pvE,hc,ht,Z0,hl]
  .refine ZD ?_
   simp[pvE,Z7,Y8,Zm,Z0,hl];lia
 .rw[ZbM no]
  exact ZD (by simp[pvE,ha])
def uY(d:Nat){r:Row}(s:DS)(hn:n<=6)(hr:Ze p n r):CV (d+2) 13 [spV p n,Zb r] s=.ok (.bl am) s:=by
 have e:=ya (p:=p) d s hn<|vL r;rw[Zal hr]at e;exact e
def Gb(d:Nat){r:Row}(s:DS)(hn:n<=6)(hr:Ze p n r):CV (d+3) 14 [spV p n,Zb r] s=.ok .non s:=by
 have e:=uY d s hn hr;refine zY (fn:=XE) (O:=[aa<|spV p n,aa<|Zb r]) (os:=[]) rfl (by decide) rfl ?_
 show rvs (CV<|d+2) [] _ [aa<|spV p n,aa<|Zb r] [] s=_;simp[XE,pvE,e]
theorem xf(d:Nat){hs:List Nat}(s:DS)(hl:hs.length<=1000):CV (d+1) 16 [.lst<|hs.map ZU] s=.ok (.bl<|rise hs) s:=by
 refine ZH rfl (by decide) rfl ?_
 have ez:∀(a b:List Nat),((a.map ZU).zip<|b.map ZU).map (λq=>V.tup [q.1,q.2])=(a.zip b).map λq=>V.tup [ZU q.1,ZU q.2]:=by
  intro a
  induction a with
  |nil=>intro b;rfl
  |cons x a ih=>intro b;cases b with|nil=>rfl|cons y b=>simp only[bj,cf];rw[ih]
 have hc:=Z3 (C:=CV d) (cap:=[]) (nl:=2) (t:=[0,1]) (it:=.zip (.v 0)<|.sl (.v 0) (aa<|.c<|.int 1) ae) (elt:=.cmp .lt (.v 0)<|.v 1) (O:=[aa<|.lst<|hs.map ZU]) (s:=s) (l:=hs.zip hs.tail) (g:=λq=>V.bl<|ai<|q.1<q.2)
  (by
   have e1:Yy (hs.map ZU) (aa 1) ae=hs.tail.map ZU:=by rw[uw,o5]
   simp[pvE,slV,e1];rw[<-o5,ez]) (by rw[fU];unfold lim;lia) (λq hq=>#[_,rfl,by simp[pvE,ZU]])
 have ht:=Yn (g:=λq:Nat×Nat=>ai<|q.1<q.2)<|hs.zip hs.tail
 simp[WJ,pvE,hc,ht,rise]
theorem GZ(d:Nat){R:List Row}{k:Nat}(s:DS)(hl:R.length<=1000)(hk:∀r∈R,k<r.length):CV (d+1) 17 [Zd R,.int k] s=.ok (.bl<|R.all λr=>ai<|gt r k=0) s:=by
 refine ZH rfl (by decide) rfl ?_
 have hc:=Z3 (C:=CV d) (cap:=[1]) (nl:=1) (t:=[0]) (it:=.of<|.v 0) (elt:=.cmp .eq (.ix (.v 0)<|.v 1)<|.c<|.int 0) (O:=[aa<|Zd R,aa<|.int k]) (s:=s) (l:=R) (e:=Zb) (g:=λr=>V.bl<|ai<|gt r k=0)
  (by simp[pvE,Zd]) (by unfold lim;lia) (λr hr=>#[_,rfl,by
   have:=VI<|hk r hr;simp[pvE,Zb,this,Zm]])
 have ht:=Yn (g:=λr:Row=>ai<|gt r k=0) R
 simp[XQ,pvE,hc,ht]
theorem Q9(d:Nat){R:List Row}{i k:Nat}(s:DS)(hR:∀r∈R,Ze p n r)(hl:R.length<=1000)(hi:i<R.length)(hk:k<n):CV (d+2) 18 [Zd R,ZU i,ZU k] s=.ok (.bl<|Wz R i k) s:=by
 refine ZH rfl (by decide) rfl ?_
 show rvs (CV<|d+1) [] Xm.body [aa<|Zd R,aa<|.int i,aa<|.int k] [] s=_;have hrow:=hR _<|aV hi;have e1:at' (R.map Zb) (i:Int)=aa (Zb R[i]):=Q8 (by rw[aK,af hi];rfl)
 have e2:=VI (by rw[hrow.1];exact hk)
 have e3:=GZ d (R:=R.take i++R.drop (i+1)) s (by rw[bw,bh,bo];lia) (λr hr=>by
  obtain⟨j,hj,ne,rfl⟩:=UM hr;rw[(hR _<|aV hj).1];exact hk)
 have c1:Yy (R.map Zb) ae (aa (i:Int))=(R.take i).map Zb:=by rw[Za2 (by rw[az];lia),o6]
 have c2:Yy (R.map Zb) (aa<|(i:Int)+1) ae=(R.drop<|i+1).map Zb:=by rw[Je (k:=i+1) (by lia) (by rw[az];lia),o7]
 have g0:pv (CV<|d+1) (.ix (.ix (.v 0)<|.v 1)<|.v 2) [aa<|Zd R,aa<|.int i,aa<|.int k] s=.ok (.int<|gt R[i] k) s:=by
  rw[pv,pv,Zg rfl,Za,Zg rfl,Za];show((po (at' (R.map Zb) (i:Int)) s).bind _)=_;rw[e1,Z8,Za,Zg rfl,Za];show po (at' (R[i].map V.int) (k:Int)) s=_;rw[e2];rfl
 have g1:pv (CV<|d+1) (.cmp .eq (.ix (.ix (.v 0)<|.v 1)<|.v 2)<|.c<|.int 1) [aa<|Zd R,aa<|.int i,aa<|.int k] s=.ok (.bl<|ai<|gt R[i] k=1) s:=by
  rw[pv,g0,Za];simp[pvE,ofD,Zm]
 have g2:pv (CV<|d+1) (.bin .add (.sl (.v 0) ae<|aa<|.v 1)<|.sl (.v 0) (aa<|.bin .add (.v 1)<|.c<|.int 1) ae) [aa<|Zd R,aa<|.int i,aa<|.int k] s=.ok (Zd<|R.take i++R.drop (i+1)) s:=by
  have c3:(R.take i).length+(R.drop<|i+1).length<=16777216:=by rw[bh,bo];lia
  rw[bh,bo]at c3;simp[pvE,Zd,slV,c1,c2,c3]
 have g3:=Zt (Zc g2<|Zc (Zg (i:=2) rfl) Zi) e3;refine ZD<|Yb ?_;rw[pv,g1,Za];unfold Wz;rw[QR hi];cases ai (gt R[i] k=1)with|true=>exact g3|false=>rfl
theorem yj:∀R:List Row,Y0 .non (R.map λr=>Xy<|hdI r)=aa (!(R.all λr=>(hdI r).isSome))
 |[]=>rfl
 |r::R=>by
  show(match eqV Zm (Xy<|hdI r) .non,Y0 .non (R.map λr=>Xy<|hdI r)with|some a,aa b=>aa (a||b)|_,_=>ae)=_
  rw[yj R,gP];cases hdI r with|none=>simp[Xy,eqV,Zm]|some k=>simp[Xy,eqV,Zm]
def vP{R:List Row}(h:(R.all λr=>(hdI r).isSome)=am):R.map (λr=>Xy<|hdI r)=(ZB R).map ZU:=by
 unfold ZB;rw[bX];refine cK λr hr=>?_
 obtain⟨k,hk⟩:=dD.mp<|aT.mp h r hr;show Xy (hdI r)=ZU ((hdI r).getD 0);rw[hk];rfl
theorem wR(d:Nat){R:List Row}(s:DS)(hn:n<=6)(hR:∀r∈R,Ze p n r)(hl:R.length<=1000):rvs (CV<|d+2) [] (Ww.body.drop 1) [aa<|spV p n,aa<|Zd R,ae] [] s=.ok (.ret<|.bl<|VA R) s:=by
 show rvs _ _ (.asg [2] (.comp1 [] 1 [0] (.of<|.v 1) []<|.call 6 [(.v 0)]) ::
  .ite (.or (.cmp .inn (.c .non)<|.v 2)<|.not<|.call 16 [(.v 2)]) [.ret<|.c<|.bl ap] [] ::
  .ret (.blt .all [(.comp1 [1] 2 [0,1] (.enum<|.v 2) []<|.call 18 [(.v 2),(.v 0),(.v 1)])])::[]) _ _ _=_
 have hc2:=Z3 (C:=CV<|d+2) (cap:=[]) (nl:=1) (t:=[0]) (it:=.of<|.v 1) (elt:=.call 6 [(.v 0)]) (O:=[aa<|spV p n,aa<|Zd R,ae]) (s:=s) (l:=R) (e:=Zb) (g:=λr=>Xy<|hdI r)
  (by simp[pvE,Zd]) (by unfold lim;lia) (λx hx=>#[_,rfl,by
   have e:=WS (d+1) x s;simp[pvE,e]])
 rw[Zl (ρ':=[aa<|spV p n,aa<|Zd R,aa<|.lst<|R.map λr=>Xy<|hdI r]) (os':=[]) (s':=s) (by simp[pvE,hc2])]
 have hin:=yj R;unfold VA;cases hh:R.all λr=>(hdI r).isSome with
 |false=>
  rw[hh]at hin;exact ZD (by simp[pvE,WB,hin])
 |true=>
  rw[hh]at hin;rw[vP hh]at hin ⊢;have hln:(ZB R).length=R.length:=by unfold ZB;rw[az]
  have e3:=xf (d+1) (hs:=ZB R) s (by lia)
  cases hr:rise (ZB R)with
  |false=>
   rw[hr]at e3;exact ZD (by simp[pvE,WB,hin,e3])
  |true=>
  rw[hr]at e3;rw[Zl (ρ':=[aa<|spV p n,aa<|Zd R,aa<|.lst<|(ZB R).map ZU]) (os':=[]) (s':=s) (by simp[pvE,WB,hin,e3])]
  refine ZD<|Yb ?_;have ew:((ZS 0 (ZB R).length).zip<|(ZB R).map ZU).map (λq=>V.tup [q.1,q.2])=(aM R.length).map λi=>V.tup [ZU i,ZU<|(ZB R).getD i 0]:=by
   apply gM
   .simp[ZS,hln]
   .intro i h1 h2
    have h3:i<R.length:=by simpa using h2
    have h4:i<(ZB R).length:=by lia
    simp[ZS,ZU,h4]
  have hc3:=Z3 (cap:=[1]) (nl:=2) (t:=[0,1]) (elt:=.call 18 [(.v 2),(.v 0),(.v 1)]) (l:=aM R.length)
   (by
    have:pvw (CV<|d+2) (.enum<|.v 2) [aa<|spV p n,aa<|Zd R,aa<|.lst<|(ZB R).map ZU] s=.ok (((ZS 0 ((ZB R).map ZU).length).zip<|(ZB R).map ZU).map λq=>V.tup [q.1,q.2]) s:=by simp[pvE]
    rw[this,az,ew]) (by rw[bE];unfold lim;lia) (λi hi=>#[_,rfl,by
    have hi':=aU.mp hi;have hk:(ZB R).getD i 0<n:=by
     rw[VD hi'];obtain⟨k,hk⟩:=dD.mp<|aT.mp hh _<|aV hi';rw[hk,<-(hR _<|aV hi').1];exact(Z2 hk).2.1
    exact Zt (Zc (Zg rfl)<|Zc (Zg rfl)<|Zc (Zg rfl) Zi)<|Q9 d s hR hl hi' hk])
  have ht3:=Yn (g:=λi:Nat=>Wz R i<|(ZB R).getD i 0)<|aM R.length
  rw[pv,Zc hc3 Zi,Za];show po ((Z9 _).map λbs=>V.bl<|bs.all id) s=_
  rw[ht3];show PR.ok (V.bl<|(lQ _ _).all id) s=_;rw[kW];rfl
noncomputable def isP(p n:Nat)(x:V):Bool:=match x with
 |.tup xs=>xs.all (Z0 p n)&&match ZR xs with
  |some R=>VA R
  |none=>ap
 |_=>ap
theorem Wy:∀{xs:List V},xs.all (Z0 p n)=am->∃R:List Row,xs=R.map Zb/\∀r∈R,Ze p n r
 |[],_=>#[[],rfl,λ_ h=>by cases h]
 |x::xs,h=>by
  rw[gP,aC]at h;obtain⟨R,rfl,hR⟩:=Wy h.2;obtain⟨r,rfl,hr⟩:=ZbV h.1;refine#[r::R,rfl,λa ha=>?_]
  rcases aA.mp ha with rfl|ha
  .exact hr
  .exact hR a ha
def u8{x:V}:isP p n x=am↔∃P,x=Zd P/\pZ p n P:=by
 constructor
 .intro h
  cases x with
  |tup xs=>
   unfold isP at h;rw[aC]at h;obtain⟨R,rfl,hR⟩:=Wy h.1;have h2:=h.2;rw[Yl]at h2;exact#[R,rfl,(UA hR).mp h2]
  |_=>cases h
 .rintro ⟨P,rfl,hP⟩
  show(_&&_)=am;rw[aC,Yl];refine#[aT.mpr λv hv=>?_,(UA hP.row).mpr hP]
  obtain⟨r,hr,rfl⟩:=aR.mp hv;exact Zal<|hP.row r hr
def Za6{x:V}(h:∀xs,x≠.tup xs):isP p n x=ap:=by
 cases x with|tup xs=>exact T7 rfl<|h xs|_=>rfl
theorem wU(d:Nat){x:V}(s:DS)(hn:n<=6)(hx:okV x=am)(hl:∀xs,x=.tup xs->xs.length<=1000):CV (d+3) 19 [spV p n,x] s=.ok (.bl<|isP p n x) s:=by
 refine ZH rfl (by decide) rfl ?_
 show rvs (CV<|d+2) [] (.ite (.or (.not<|.isi (.v 1) [.tuple])<|.not<|.blt .all [(.comp1 [0] 1 [0] (.of<|.v 1) []<|.call 13 [(.v 1),(.v 0)])]) [.ret<|.c<|.bl ap] []::Ww.body.drop 1) [aa<|spV p n,aa x,ae] [] s=_;rcases wy hx with⟨xs,rfl⟩|⟨ha,no⟩
 ·
  have hl:=hl xs rfl;have hc1:=Z3 (C:=CV<|d+2) (cap:=[0]) (nl:=1) (t:=[0]) (it:=.of<|.v 1) (elt:=.call 13 [(.v 1),(.v 0)]) (O:=[aa<|spV p n,aa<|.tup xs,ae]) (s:=s) (l:=xs) (e:=id) (g:=λv=>V.bl<|Z0 p n v)
   (by simp[pvE]) (by unfold lim;lia) (λv hv=>#[_,rfl,by
    have e:=ya (p:=p) d s hn<|zg hx v hv;simp[pvE,e]])
  have ht:=Yn (g:=λv:V=>Z0 p n v) xs
  have hpt:Z7 (.tup xs) [.tuple]=aa am:=rfl;cases ha:xs.all (Z0 p n)with
  |false=>
   have hf:(xs.map λv=>Z0 p n v).all id=ap:=by rw[kW];exact ha
   refine ZD ?_;simp[pvE,hpt,hc1,ht,isP,ha,hf]
  |true=>
   have hf:(xs.map λv=>Z0 p n v).all id=am:=by rw[kW];exact ha
   rw[Zl (ρ':=[aa<|spV p n,aa<|.tup xs,ae]) (os':=[]) (s':=s) (by simp[pvE,hpt,hc1,ht,hf])]
   obtain⟨R,rfl,hR⟩:=Wy ha;have e:=wR d s hn hR (by simpa using hl)
   have eb:isP p n (.tup<|R.map Zb)=VA R:=by
    show((R.map Zb).all (Z0 p n)&&match ZR (R.map Zb)with|some R=>VA R|none=>ap)=_
    rw[ha,Yl];rfl
   rw[eb];exact e
 .rw[Za6 no]
  exact ZD (by simp[pvE,ha])
theorem zM:∀P:List Row,XI (P.map Zb)=am
 |[]=>rfl
 |r::P=>by
  show(okV (Zb r)&&XI (P.map Zb))=am;rw[vL,zM P];rfl
def jh(P:List Row):okV (Zd P)=am:=zM P
def ze{P:List Row}(hP:pZ p n P):∀xs,Zd P=.tup xs->xs.length<=n:=λxs e=>by
 cases e;rw[az];exact dsum hP
theorem yV(d:Nat){P:List Row}(s:DS)(hn:n<=6)(hP:pZ p n P):CV (d+3) 19 [spV p n,Zd P] s=.ok (.bl am) s:=by
 have e:=wU (p:=p) d s hn (jh P) λxs z=>by have:=ze hP xs z;lia
 rw[u8.mpr #[P,rfl,hP]]at e;exact e
def U0(d:Nat){P:List Row}(s:DS)(hn:n<=6)(hP:pZ p n P):CV (d+4) 20 [spV p n,Zd P] s=.ok .non s:=by
 have e:=yV (p:=p) d s hn hP;refine zY (O:=[aa<|spV p n,aa<|Zd P]) (os:=[]) rfl (by decide) rfl ?_
 simp[WG,pvE,e]
end
end K14
namespace Rw
open La
open Ev (ltP XB YD)
section
variable{p n:Nat}[Base p]
variable{k:Nat}
theorem VO{B:Type}[BEq B][LawfulBEq B]:∀{L A:List B},L.Nodup->(∀x∈L,x∈A)->L.length<=A.length
 |[],_,_,_=>dB _
 |x::L,A,h,hs=>by
  rw[dA]at h;have h1:=VO (L:=L) (A:=A.erase x) h.2 λy hy=>(List.mem_erase_of_ne (show y≠x from λe=>h.1<|by rw[<-e];exact hy)).mpr<|hs y<|aj _ hy
  have h2:=hs x<|ak ..;have h3:=List.length_erase_of_mem h2;have h4:=List.length_pos_of_mem h2;rw[aS];omega
end
noncomputable def WK(p:Nat)(L:List Row)(o:Row):List Row:=(aM p).flatMap λ(k:Nat)=>L.map λr=>Zz p r o (k:Int)
noncomputable def yy(p n:Nat)(P:List Row):List Row:=P.foldl (WK p) [aB n 0]
def xx(L:List Row)(o:Row):(WK p L o).length=L.length*p:=by
 unfold WK;rw[ic,show((aM p).map λ(k:Nat)=>(L.map λr=>Zz p r o (k:Int)).length)=aB p L.length from gM (by simp) λi h1 h2=>by simp,gy,fH]
def vZ(P:List Row):(yy p n P).length=p^P.length:=by
 unfold yy
 suffices ∀(P L:List Row),(P.foldl (WK p) L).length=L.length*p^P.length by rw[this];simp
 intro P
 induction P with|nil=>intro L;simp|cons o P ih=>intro L;rw[fT,ih,xx,aS,ip,kx,fH p]
section
variable{p n:Nat}[Base p]
def Yq:Ze p n (aB n 0):=#[ck,λa ha=>by
 have:=(inferInstance:Base p).b;rw[ky ha];omega]
def Ja(j:Nat):gt (aB n 0) j=0:=by
 unfold gt;rw[aD,cq];split<;>rfl
def xy(hL:∀r∈L,Ze p n r)(ho:Ze p n o):∀r∈WK p L o,Ze p n r:=λr hr=>by
 obtain⟨k,_,h⟩:=dW.mp hr;obtain⟨q,hq,rfl⟩:=aR.mp h;exact Zj (hL q hq) ho
def zN(hW:pZ p n W)(hr:Ze p n r)(ho:Ze p n o)(h1:Z5 p W r=am)(h2:Z5 p W o=am):Z5 p W (Zz p r o k)=am:=by
 rw[ZP hW<|Zj hr ho];rw[ZQ hr ho];exact YE (ph p k) ((ZP hW hr).mp h1)<|(ZP hW ho).mp h2
theorem yU(hW:pZ p n W):∀{P L:List Row},(∀r∈P,r∈W)->(∀r∈L,Ze p n r/\Z5 p W r=am)->∀r∈P.foldl (WK p) L,Ze p n r/\Z5 p W r=am
 |[],_,_,h=>h
 |o::P,L,hP,h=>by
  have ho:=hP o<|ak ..;refine yU hW (P:=P) (λr hr=>hP r<|aj _ hr) λr hr=>?_
  obtain⟨k,_,h3⟩:=dW.mp hr;obtain⟨q,hq,rfl⟩:=aR.mp h3;exact#[Zj (h q hq).1<|hW.row o ho,zN hW (h q hq).1 (hW.row o ho) (h q hq).2<|Qi hW ho]
theorem yA:∀{P L:List Row}{a r:Row},(∀o∈P,Ze p n o)->a∈L->Ze p n a->Ze p n r->hdI (Zf p P<|Zz p r a<|-1)=ae->r∈P.foldl (WK p) L
 |[],L,a,r,_,ha,h1,h2,h=>by
  have e:r=a:=Y3 h2 h1 (by
   funext j
   have z:=(Z1<|Zj h2 h1).mpr<|Xg h j;rw[ZQ h2 h1,V0,Qe]at z
   grind)
  rw[e];exact ha
 |o::P,L,a,r,hP,ha,h1,h2,h=>by
  have ho:=hP o<|ak ..
  let x:=Zz p r a<|-1
  have hx:Ze p n x:=Zj h2 h1;have hk:=Yi ppos hx<|(hdI o).getD 0;have e:clr p x o ((hdI o).getD 0)=Zz p r (Zz p a o<|gt x<|(hdI o).getD 0) (-1):=Y3 (Zj hx ho) (Zj h2<|Zj h1 ho) (by
   rw[QD hx ho,ZQ h2<|Zj h1 ho,ZQ h1 ho]
   funext j
   show toV p (Zz p r a<|-1) j-toV p x ((hdI o).getD 0)*toV p o j=toV p r j+ph p (-1)*(toV p a j+toV p x ((hdI o).getD 0)*toV p o j);rw[ZQ h2 h1,V0,Qe]
   grind)
  refine yA (P:=P) (λq hq=>hP q<|aj _ hq) (dW.mpr #[(gt x<|(hdI o).getD 0).toNat,aU.mpr (by omega),aR.mpr #[a,ha,by rw[md hk.1]]]) (Zj h1 ho) h2 ?_
  rw[<-e];exact h
theorem Ge(hP:pZ p n P):r∈yy p n P↔Ze p n r/\Z5 p P r=am:=by
 constructor
 .exact yU hP (λ_ h=>h) (λq hq=>by rw[be.mp hq];exact#[Yq,qy hP Yq Ja]) r
 .intro#[h1,h2]
  refine yA hP.row (be.mpr rfl) Yq h1 ?_;have e:Zz p r (aB n 0) (-1)=r:=Y3 (Zj h1 Yq) h1 (by
   rw[ZQ h1 Yq]
   funext j
   rw[(Z1 Yq).mpr<|Ja j]
   grind)
  rw[e];exact iW.mp h2
theorem JD:∀{P L:List Row},(∀o∈P,Ze p n o/\gt o ((hdI o).getD 0)=1)->(P.Pairwise λo q=>gt o ((hdI q).getD 0)=0)->(∀r∈L,Ze p n r/\∀o∈P,gt r ((hdI o).getD 0)=0)->L.Nodup->(P.foldl (WK p) L).Nodup
 |[],_,_,_,_,h=>h
 |o::P,L,hP,hz,hL,h=>by
  obtain⟨ho,h1⟩:=hP o<|ak ..;obtain⟨z1,z2⟩:=aZ.mp hz;have hp:=(inferInstance:Base p).b;refine JD (P:=P) (λq hq=>hP q<|aj _ hq) z2 (λr hr=>#[xy (λr hr=>(hL r hr).1) ho r hr,λq hq=>?_]) ?_
  .obtain⟨k,_,h3⟩:=dW.mp hr
   obtain⟨s,hs,rfl⟩:=aR.mp h3;rw[Ye (hL s hs).1 ho,(hL s hs).2 q<|aj _ hq,z1 q hq];simp
  .have at_:∀(k:Nat) r,k<p->r∈L->gt (Zz p r o (k:Int)) ((hdI o).getD 0)=k:=λk r hk hr=>by
    rw[Ye (hL r hr).1 ho,(hL r hr).2 o<|ak ..,h1,Int.zero_add,Int.mul_one,dv (by omega) (by omega)]
   refine lD.mpr #[λk hk=>?_,?_]
   .refine cy.mpr (h.imp_of_mem λ{a b} ha hb ne e=>ne<|Y3 (hL a ha).1 (hL b hb).1 ?_)
    have q:=congrArg (toV p) e;rw[ZQ (hL a ha).1 ho,ZQ (hL b hb).1 ho]at q
    funext j
    have:=congrFun q j
    grind
   .refine kH.imp_of_mem λ{a b} ha hb ne x hx y hy e=>ne ?_
    obtain⟨r,hr,rfl⟩:=aR.mp hx;obtain⟨q,hq,rfl⟩:=aR.mp hy;have:=at_ a r (aU.mp ha) hr;rw[e,at_ b q (aU.mp hb) hq]at this;omega
def Zag(hP:pZ p n P):(yy p n P).Nodup:=by
 have rf:=hP.pn.rf;refine JD (λo ho=>#[hP.row o ho,(QB<|hP.row o ho).mp<|rf.one _<|Yc ho]) ?_ (λr hr=>?_)<|dA.mpr #[by simp,List.nodup_nil]
 .exact(cy.mp rf.inc).imp_of_mem λ{a b} ha hb lt=>(Z1<|hP.row a ha).mp<|rf.zer _ (Yc hb) _ (Yc ha)<|fF lt
 .rw[be.mp hr]
  exact#[Yq,λo _=>Ja _]
end
open Pv (Zdm)
section
variable{p n:Nat}[Base p]
def Gf{P:List Row}{r:Row}(hP:pZ p n P)(hr:Ze p n r)(h:Z5 p P r=am):YR p P r=P:=by
 obtain⟨h1,h2⟩:=VP hP hr;exact yO h1.row hP.row<|h2.trans<|(X2 (fld (p:=p)) hP.pn<|Yt hr).same<|(ZP hP hr).mp h
def zS{P:List Row}{r:Row}(hP:pZ p n P)(hr:Ze p n r)(h:Z5 p P r=ap):(YR p P r).length=P.length+1:=by
 obtain⟨h1,h2⟩:=VP hP hr;have:=(X2 (fld (p:=p)) hP.pn<|Yt hr).len λq=>by rw[(ZP hP hr).mpr q]at h;cases h
 rw[<-h2,Qh,Qh]at this;exact this
end
end Rw
namespace K14
open Ev Pv Rw La
def Zc7(h:Nat):(aB h [V.int 0]).flatten=(aB h (0:Int)).map V.int:=by
 induction h with|zero=>rfl|succ h ih=>rw[bx,cw,ih,bx];rfl
section
variable{p n:Nat}[Base p]
def ix0{C:Zo}{i:Nat}{O:Env}{s:DS}(h:O[i]?=aa (aa<|spV p n)):pv C (.ix (.v i)<|.c<|.int 0) O s=.ok (.int p) s:=by
 rw[pv,Zg h,Za,pv,show ofD (V.int 0)=aa (V.int 0)from rfl];rfl
def ix1{C:Zo}{i:Nat}{O:Env}{s:DS}(h:O[i]?=aa (aa<|spV p n)):pv C (.ix (.v i)<|.c<|.int 1) O s=.ok (.int n) s:=by
 rw[pv,Zg h,Za,pv,show ofD (V.int 1)=aa (V.int 1)from rfl];rfl
def vm{C:Zo}{i j:Nat}{O:Env}{s:DS}{r:Row}{k:Nat}(h:O[i]?=aa (aa<|Zb r))(hj:O[j]?=aa (aa<|ZU k))(hk:k<r.length):pv C (.ix (.v i)<|.v j) O s=.ok (.int<|gt r k) s:=by
 rw[pv,Zg h,Za,Zg hj,Za];show po (at' (r.map V.int) (k:Int)) s=_;rw[VI hk];rfl
def uh(d:Nat){r o:Row}{k:Int}(s:DS)(hn:n<=6)(hr:Ze p n r)(ho:Ze p n o)(hk:-1000<k/\k<1000):CV (d+1) 22 [spV p n,Zb r,.int k,Zb o] s=.ok (Zb<|Zz p r o k) s:=by
 have hp:=Vf (p:=p);refine ZH rfl (by decide) rfl ?_
 show rvs (CV d) [] (.ret (.blt .tuple [(.comp1 [1,2,3,0] 1 [0] (.rng1<|.ix (.v 0)<|.c<|.int 1) []<|.bin .mod (.bin .add (.ix (.v 1)<|.v 0)<|.bin .mul (.v 2)<|.ix (.v 3)<|.v 0)<|.ix (.v 4)<|.c<|.int 0)])::[]) [aa<|spV p n,aa<|Zb r,aa<|.int k,aa<|Zb o] [] s=_;have hc:=Z3 (C:=CV d) (cap:=[1,2,3,0]) (nl:=1) (t:=[0]) (it:=.rng1<|.ix (.v 0)<|.c<|.int 1) (elt:=.bin .mod (.bin .add (.ix (.v 1)<|.v 0)<|.bin .mul (.v 2)<|.ix (.v 3)<|.v 0)<|.ix (.v 4)<|.c<|.int 0) (O:=[aa<|spV p n,aa<|Zb r,aa<|.int k,aa<|Zb o]) (s:=s) (l:=aM n) (e:=ZU) (g:=λj=>V.int<|(gt r j+k*gt o j)%p)
  (X8 (ix1 rfl)<|by omega) (by rw[bE];unfold lim;omega) (λj hj=>by
   have hj:=aU.mp hj;have h2:=Yi (by omega) ho j
   refine#[[aa<|ZU j,aa<|Zb r,aa<|.int k,aa<|Zb o,aa<|spV p n],rfl,?_];have e1:=vm (C:=CV d) (i:=1) (j:=0) (O:=[aa<|ZU j,aa<|Zb r,aa<|.int k,aa<|Zb o,aa<|spV p n]) (s:=s) rfl rfl (by rw[hr.1];exact hj)
   have e2:=vm (C:=CV d) (i:=3) (j:=0) (O:=[aa<|ZU j,aa<|Zb r,aa<|.int k,aa<|Zb o,aa<|spV p n]) (s:=s) rfl rfl (by rw[ho.1];exact hj)
   have e3:pv (CV d) (.bin .mul (.v 2)<|.ix (.v 3)<|.v 0) [aa<|ZU j,aa<|Zb r,aa<|.int k,aa<|Zb o,aa<|spV p n] s=.ok (.int<|k*gt o j) s:=by
    rw[pv,Zg rfl,Za,e2,Za];show(if(fits k&&fits (gt o j))=am then PR.ok (V.int<|k*gt o j) s else .no)=_
    rw[T9 (by rw[ZL (by omega) (by omega),ZL (by omega) (by omega)];rfl)]
   rw[pv,pv,e1,Za,e3,Za];show PR.bind (PR.ok (V.int<|gt r j+k*gt o j) s) _=_;rw[Za,ix0 rfl,Za];show(if(0:Int)<p then PR.ok (V.int<|(gt r j+k*gt o j)%p) s else .no)=_
   rw[T9 (by omega)])
 have e:((aM n).map λj=>V.int<|(gt r j+k*gt o j)%p)=(Zz p r o k).map V.int:=by
  have hl:=(Zj (k:=k) hr ho).1;refine bV λi=>?_
  rw[aK,aK];by_cases hi:i<n
  .rw[cJ hi,af (by rw[hl];exact hi)]
   have g:=Ye (k:=k) hr ho i;unfold gt at g;rw[aD,af<|by rw[hl];exact hi]at g
   simp only[Option.map_some,nL]at g ⊢;rw[g];rfl
  .rw[bn (by rw[bE];omega),bn (by rw[hl];omega)];rfl
 refine ZD<|Yb ?_;rw[pv,Zc hc Zi,e];rfl
end
open Ab (okV XI)
section
variable{C:Zo}{O:Env}{s s1 s2:DS}{a b:E}{x y:V}{xs ys:List V}
def X6{i:Int}:pv C (.c<|.int i) O s=.ok (.int i) s:=by rw[pv];rfl
def pick{i:E}{v:Int}(h1:pv C a O s=.ok (.lst xs) s1)(h2:pv C i O s1=.ok (.int v) s2)(h0:0<=v)(hv:v<xs.length):∃x,x∈xs/\pv C (.ix a i) O s=.ok x s2:=by
 obtain⟨k,rfl⟩:∃k:Nat,v=k:=#[v.toNat,by omega]
 have hk:k<xs.length:=by omega
 refine#[xs[k],aV hk,?_];rw[pv,h1,Za,h2,Za];show po (at' xs (k:Int)) s2=_;rw[Q8<|af hk];rfl
def X1(d:Nat)(s:DS){m:Int}{O:Env}{i:Nat}{e:E}(hd:O[i]?=aa (aa .drw))(he:pv (CV<|d+1) e O s=.ok (.int m) s)(h0:0<m)(h1:m<1000):∃v s',pv (CV<|d+1) (.call 2 [(.v i),e]) O s=.ok (.int v) s'/\0<=v/\v<m:=by
 obtain⟨v,s',e1,b⟩:=Uj s h0 (by omega)
 exact#[v,s',Zt (Zc (Zg hd)<|Zc he Zi) e1,b]
def vx(h1:pv C a O s=.ok (.tup xs) s)(h2:pv C b O s=.ok (.tup ys) s)(h:xs.length+ys.length<=1000):pv C (.bin .add a b) O s=.ok (.tup<|xs++ys) s:=by
 rw[pv,h1,Za,h2,Za];show(if xs.length+ys.length<=lim then _ else _)=_
 rw[T9 (by unfold lim;omega)]
def qJ(h:pv C a O s=.ok x s):pv C (.tup [a]) O s=.ok (.tup [x]) s:=by
 rw[pv,Zc h Zi];rfl
end
section
variable{C:Zo}{O:Env}{s:DS}{a b:E}
def V6{c:Bool}(h1:pv C a O s=.ok (.bl ap) s)(h2:pv C b O s=.ok (.bl c) s):pv C (.or a b) O s=.ok (.bl c) s:=by rw[pv,h1];exact h2
def jk{P Q:List Row}(h1:pv C a O s=.ok (Zd P) s)(h2:pv C b O s=.ok (Zd Q) s):pv C (.cmp .ne a b) O s=.ok (.bl !decide (P=Q)) s:=by
 rw[pv,h1,Za,h2,Za];show po ((eqV Zm (Zd P)<|Zd Q).map λb=>V.bl !b) s=_
 rw[Zm,Gq];rfl
def qh{P Q:List Row}(h1:pv C a O s=.ok (Zd P) s)(h2:pv C b O s=.ok (Zd Q) s):pv C (.cmp .eq a b) O s=.ok (.bl<|ai<|P=Q) s:=by
 rw[pv,h1,Za,h2,Za];show po ((eqV Zm (Zd P)<|Zd Q).map V.bl) s=_;rw[Zm,Gq];rfl
def yu{P Q:List Row}(h1:pv C a O s=.ok (Zd P) s)(h2:pv C b O s=.ok (Zd Q) s)(h:P=Q):pv C (.cmp .ne a b) O s=.ok (.bl ap) s:=by
 rw[jk h1 h2,T5 h];rfl
def Zat{c c':Bool}(h1:pv C a O s=.ok (.bl c) s)(h2:pv C b O s=.ok (.bl c') s)(h:c=c'):pv C (.cmp .ne a b) O s=.ok (.bl ap) s:=by
 subst h;rw[pv,h1,Za,h2,Za];cases c<;>rfl
def XU(h1:pv C a O s=.ok (.bl am) s):pv C (.cmp .isn a<|.c<|.bl am) O s=.ok (.bl ap) s:=by
 rw[pv,h1,Za,pv];rfl
def UN{f:Nat}{x y:E}{v w r:V}(h1:pv C x O s=.ok v s)(h2:pv C y O s=.ok w s)(h:C f [v,w] s=.ok r s):pv C (.call f [x,y]) O s=.ok r s:=Zt (Zc h1<|Zc h2 Zi) h
def vW{f:Nat}{x y z:E}{v w u r:V}(h1:pv C x O s=.ok v s)(h2:pv C y O s=.ok w s)(h3:pv C z O s=.ok u s)(h:C f [v,w,u] s=.ok r s):pv C (.call f [x,y,z]) O s=.ok r s:=Zt (Zc h1<|Zc h2<|Zc h3 Zi) h
def guard{ms:List Nat}{t:E}{x l:List Sm}(h:pv C t O s=.ok (.bl ap) s):rvs C ms (.ite t x []::l) O [] s=rvs C ms l O [] s:=by
 rw[Zl<|(ZaH<|ug h rfl).trans (by rw[T8 (by simp),rvs])]
def Jp{P:List Row}(h1:pv C a O s=.ok (Zd P) s):pv C (.blt .len [a]) O s=.ok (.int P.length) s:=by
 rw[pv,Zc h1 Zi,Za];show po (aa<|V.int (P.map Zb).length) s=_;rw[az];rfl
def Ga{x y:Int}(h1:pv C a O s=.ok (.int x) s)(h2:pv C b O s=.ok (.int y) s):pv C (.bin .add a b) O s=.ok (.int<|x+y) s:=by
 rw[pv,h1,Za,h2,Za];rfl
def ne_int{x y:Int}(h1:pv C a O s=.ok (.int x) s)(h2:pv C b O s=.ok (.int y) s)(h:x=y):pv C (.cmp .ne a b) O s=.ok (.bl ap) s:=by
 rw[pv,h1,Za,h2,Za];show PR.ok (V.bl !decide (x=y)) s=_;rw[T5 h];rfl
def xm{P:List Row}(h1:pv C a O s=.ok (Zd P) s):pv C (.blt .list [a]) O s=.ok (.lst<|P.map Zb) s:=by
 rw[pv,Zc h1 Zi];rfl
def x9{x y:List V}(h1:pv C a O s=.ok (.lst x) s)(h2:pv C b O s=.ok (.lst y) s)(h:x.length+y.length<=lim):pv C (.bin .add a b) O s=.ok (.lst<|x++y) s:=by
 rw[pv,h1,Za,h2,Za];show(if x.length+y.length<=lim then _ else _)=_
 rw[T9 h]
end
end K14
namespace Rw
open La
end Rw
namespace K14
open Ev Pv Rw La
open Ab (okV XI)
end K14
namespace Ab
open Ev Pv
end Ab
namespace Lv
open Ev Pv
noncomputable def Vb:Fn:=#[2,2,[.ite (.cmp .lt (.v 1)<|.blt .len [(.v 0)]) [.ret<|.ix (.v 0)<|.v 1] [],.ret<|.c<|.int 0]]
noncomputable def WZ(c:Nat):Fn:=#[2,3,[.asg [2]<|.call c [(.v 0),(.v 1)],.ite (.cmp .ge (.v 2)<|.bin .pow (.c<|.int 10)<|.c<|.int 18) [.ret<|.lst [(.bin .sub (.v 2)<|.bin .pow (.c<|.int 10)<|.c<|.int 18),(.c<|.bl am)]] [],.ret<|.lst [(.bin .mod (.v 2)<|.c<|.int 2147483647),(.c<|.bl ap)]]]
noncomputable def QG(nn:Nat)(M:Int)(st:Nat)(B:List Sm)(r:E):Fn:=#[1,nn,[.forr [1] (.rng1<|.blt .max2 [(.c<|.int 1),(.blt .min2 [(.blt .len [(.v 0)]),(.c<|.int M)])]) [.cel 2 st [(.v 0),(.v 1)] B],.ret r]]
def qP(ht:ca≠tk)(hC:F[ca]?=aa Vb)(d:Nat)(k0:0<=k):∃c,Zh F tk (d+1) ca [.scr ns,.int k] s=.ok (.int c) s:=by
 by_cases c:k<ns.length
 .have hk:k.toNat<ns.length:=by lia
  refine#[ns[k.toNat],?_];simp[Zh,ht,hC,Vb,rvs,rv,pvs,Pv.pv.eq_1,Pv.pv.eq_2,pv,YW,PR.bind,po,ZI,Yg,int2,Xa,blt1,Yf,Zu,ixV,at',ixN,k0,c,hk,ofD]
 .refine#[0,?_]
  simp[Zh,ht,hC,Vb,rvs,rv,pvs,pv,YW,PR.bind,po,ZI,Yg,int2,Xa,blt1,Yf,Zu,ixV,at',ixN,k0,c,ofD]
def wm(ht:ca≠tk)(hts:st≠tk)(hC:F[ca]?=aa Vb)(hS:F[st]?=aa (WZ ca))(d:Nat)(k0:0<=k):∃v d0,Zh F tk (d+2) st [.scr ns,.int k] s=.ok v s/\V3 v=aa d0/\okS d0.1 d0.2=am:=by
 obtain⟨c,e⟩:=qP ht hC (s:=s) (ns:=ns) d k0;rw[show d+2=(d+1)+1 from rfl,Zh,T8 hts,hS]
 generalize Zh F tk (d+1)=C at e ⊢;by_cases h:10^18<=c
 .have h':(1000000000000000000:Int)<=c:=by simpa using h
  have o:okS (c-1000000000000000000) am=am:=by simp[okS];lia
  refine#[.lst [.int<|c-1000000000000000000,.bl am],(c-1000000000000000000,am),?_,by simp[V3,o],o]
  simp[WZ,rvs,rv,pvA,pvs,pv,YW,PR.bind,po,ZI,Yg,int2,Zu,ofD,YJ,Pv.Ud,e,h',muts,yL,lim]
 .have h':¬(1000000000000000000:Int)<=c:=by simpa using h
  have o:okS (c%2147483647) ap=am:=by simp[okS];lia
  refine#[.lst [.int<|c%2147483647,.bl ap],(c%2147483647,ap),?_,by simp[V3,o],o]
  simp[WZ,rvs,rv,pvA,pvs,pv,YW,PR.bind,po,ZI,Yg,int2,Zu,ofD,YJ,Pv.Ud,e,h',muts,yL,lim]
theorem Jo(P:Env->Prop):∀(xs:List V),(∀x∈xs,∀O s,P O->∃ρ' s',P ρ'/\body x O [] s=.ok (.nx ρ' []) s')->∀O s,P O->∃ρ' s',P ρ'/\Xx body xs O [] s=.ok (.nx ρ' []) s'
 |[],_,O,s,h=>#[O,s,h,rfl]
 |x::xs,hb,O,s,h=>by
  obtain⟨ρ1,s1,h1,e1⟩:=hb x (ak ..) O s h;obtain⟨ρ2,s2,h2,e2⟩:=Jo P xs (λy hy=>hb y<|aj _ hy) ρ1 s1 h1
  refine#[ρ2,s2,h2,?_];rw[Xx,e1];exact e2
def hide_nil :hide [] O=O:=by
 unfold hide;apply bV
 intro i;rw[gS];cases O[i]?<;>rfl
def ur(h0:O[0]?=aa (aa<|.scr ns))(h1:O[1]?=aa (aa<|.int k))(hl:O.length=nn+3):(XY 2 O).set 2 (aa .drw)=aa (.scr ns)::aa (.int k)::aa .drw::aB nn ae:=by
 match O,h0,h1,hl with
 |a::b::l,h0,h1,hl=>
  cases h0;cases h1;have:l.length=nn+1:=by simpa using hl
  unfold XY;simp[WE,V.flat,this,bx]
def law_ofR{r:E}(d:Nat)(ht:ca≠tk)(hts:st≠tk)(htl:L≠tk)(hC:F[ca]?=aa Vb)(hS:F[st]?=aa (WZ ca))(hL:F[L]?=aa (QG (nn+3) M st B r))(hM:M<2^62)(hr:∀O s,pv (Zh F tk<|d+2) r O s=.ok (.bl am) s)
  (hv:∀(o:Option V)(k:Nat)(s:DS),∃O os s',rvs (Zh F tk<|d+2) (muts B) B (o::aa (.int k)::aa .drw::aB nn ae) [] s=.ok (.nx O os) s'/\O[0]?=aa o/\O.length=nn+3)(ns:List Int)(s:DS) :
  ∃S,Zh F tk (d+3) L [.scr ns] s=.ok (.bl am) S:=by
 rw[show d+3=(d+2)+1 from rfl,Zh,T8 htl,hL]
 have hst:=λk (k0:0<=k) s=>wm ht hts hC hS (s:=s) (ns:=ns) (k:=k) d k0
 generalize Zh F tk (d+2)=C at hv hst hr ⊢;have hR:=hr;clear hr;have hr:∃m,pvw C (.rng1<|.blt .max2 [(.c<|.int 1),(.blt .min2 [(.blt .len [(.v 0)]),(.c<|.int M)])]) (ZI (nn+3) [.scr ns]) s=.ok (ZS 0 m) s:=by
  have e:pv C (.blt .max2 [(.c<|.int 1),(.blt .min2 [(.blt .len [(.v 0)]),(.c<|.int M)])]) (ZI (nn+3) [.scr ns]) s=.ok (.int<|if(if M<(ns.length:Int)then M else(ns.length:Int))>1 then(if M<(ns.length:Int)then M else(ns.length:Int))else 1) s:=by
   simp[pv,pvs,PR.bind,po,ZI,ofD,Xa,blt1,blt2,Yf]
  rw[pvw,e];refine#[_,(T9 ?_ :)];unfold Xd;refine T5 ?_;split<;>split<;>lia
 obtain⟨m,hr⟩:=hr;have hm:muts (QG (nn+3) M st B r).body=muts B:=by simp[QG,muts,yL]
 simp only[hm];show ∃S,(if 1=1 then _ else _)=_
 rw[T9 rfl];unfold QG;simp only;rw[rvs,rv,hide_nil,hr]
 let body:V->Env->List Nat->DS->PR FlV:=λx O os s=>if([1].any os.contains)=am then .no else(po (Zk [1] x O) s).bind λO s=>rvs C (muts B) [.cel 2 st [(.v 0),(.v 1)] B] O os s
 have hb:∀x∈ZS 0 m,∀O s,(O[0]?=aa (aa<|.scr ns)/\O.length=nn+3)->∃ρ' s',(ρ'[0]?=aa (aa<|.scr ns)/\ρ'.length=nn+3)/\body x O [] s=.ok (.nx ρ' []) s':=by
  intro x hx O s #[h0,hl];unfold ZS at hx;obtain⟨k,_,rfl⟩:=aR.mp hx;rw[Int.zero_add];obtain⟨v,d0,e1,e2,e3⟩:=hst (k:Int) (by lia) s
  obtain⟨ρ2,os2,s2,e4,h2,l2⟩:=hv (aa<|.scr ns) k d0;have q0:(O.set 1<|aa<|.int (k:Int))[0]?=aa (aa<|.scr ns):=by rw[bt (by decide)];exact h0
  have q1:(O.set 1<|aa<|.int (k:Int))[1]?=aa (aa<|.int (k:Int)):=b8 (by lia)
  have ql:(O.set 1<|aa<|V.int (k:Int)).length=nn+3:=by rw[b4];exact hl
  have a:pvs C [(.v 0),(.v 1)] (O.set 1<|aa<|.int (k:Int)) s=.ok [.scr ns,.int (k:Int)] s:=by
   simp only[pvs,pv,q0,q1,PR.bind,po,Option.join];rfl
  refine#[ρ2.map WE,s,#[by rw[aK,h2];rfl,by rw[az];exact l2],?_]
  show(rvs C (muts B) [.cel 2 st [(.v 0),(.v 1)] B] (O.set 1<|aa<|.int (k:Int)) [] s)=_;rw[rvs,rv,T9 (by rfl),a]
  show PR.bind (PR.bind (C st [.scr ns,.int (k:Int)] s) _) _=_;rw[e1];show PR.bind (PR.bind (po (V3 v) s) _) _=_;rw[e2];simp only[po,PR.bind,ur q0 q1 ql,e4,rvs]
 obtain⟨O,s',h,e⟩:=Jo (body:=body) (λO=>O[0]?=aa (aa<|.scr ns)/\O.length=nn+3) (ZS 0 m) hb (ZI (nn+3) [.scr ns]) s #[rfl,by simp[ZI]]
 refine#[s',?_];show PR.bind (PR.bind (Xx body (ZS 0 m) _ _ s) _) _=_;rw[e];show PR.bind (rvs C (muts B) [.ret r] O [] s') _=_;rw[rvs,rv,hR];rfl
end Lv
namespace K14
open Ev Pv Rw La
open Ab (okV XI)
noncomputable def Uw:List (Nat×Nat):=[(2,1),(2,2),(2,3),(2,4),(3,1),(3,2),(3,3),(5,1),(5,2),(2,3),(2,4),(3,3)]
noncomputable def Zar:List (Nat×Nat):=[(2,5),(2,6),(3,4),(5,3)]
noncomputable def YI:List (Nat×Nat):=Uw++Zar
def yt:∀q∈YI,(q.1=2\/q.1=3\/q.1=5)/\1<=q.2/\q.2<=6/\q.1^q.2<=1000:=by decide
def xG(d:Nat){m:Int}(s:DS):∃q s',CV (d+2) 3 [.drw,.int m] s=.ok (spV q.1 q.2) s'/\q∈YI:=by
 let L:=if m>27 then YI else Uw
 have hL:12<=L.length/\L.length<=16/\∀q∈L,q∈YI:=by
  by_cases c:m>27
  .simp only[L,T9 c];exact#[by decide,by decide,λq hq=>hq]
  .simp only[L,T8 c];exact#[by decide,by decide,λq hq=>b6 _ hq]
 obtain⟨v,s',f1,f2,f3⟩:=Uj (F:=fns) (tk:=2) (d:=d) (m:=L.length) s (by omega) (by omega)
 obtain⟨k,rfl⟩:∃k:Nat,v=k:=#[v.toNat,by omega]
 have hk:k<L.length:=by omega
 refine#[L[k],s',ZH rfl (by decide) rfl ?_,hL.2.2 _<|aV hk]
 show rvs (CV<|d+1) [] Y7.body [aa .drw,aa<|.int m,ae] [] s=_
 dsimp only[Y7]
 rw[Zl (ρ':=[aa .drw,aa<|.int m,aa<|.lst<|Uw.map λq=>spV q.1 q.2]) (os':=[]) (s':=s) (by simp[pvE,Uw,spV])]
 have e0:pv (CV<|d+1) (.cmp .gt (.v 1)<|.c<|.int 27) [aa .drw,aa<|.int m,aa<|.lst<|Uw.map λq=>spV q.1 q.2] s=.ok (.bl<|ai<|27<m) s:=by
  rw[pv,Zg rfl,Za,X6,Za];rfl
 rw[Zl (ρ':=[aa .drw,aa<|.int m,aa<|.lst<|L.map λq=>spV q.1 q.2]) (os':=[]) (s':=s) (by
  rw[ZaH<|ug e0 rfl];by_cases c:m>27
  .simp only[L,T9 c]
   rw[T5 c,T9 rfl];rw[Zl (ρ':=[aa .drw,aa<|.int m,aa<|.lst<|YI.map λq=>spV q.1 q.2]) (os':=[]) (s':=s) (by simp[pvE,YI,Uw,Zar,spV]),rvs]
  .simp only[L,T8 c]
   rw[T4 c,T8 (by decide),rvs])]
 refine ZD<|Yb ?_;have e1:pv (CV<|d+1) (.blt .len [(.v 2)]) [aa .drw,aa<|.int m,aa<|.lst<|L.map λq=>spV q.1 q.2] s=.ok (.int L.length) s:=by
  rw[pv,Zc (Zg rfl) Zi,Za];show po (aa<|V.int (L.map λq=>spV q.1 q.2).length) s=_
  rw[az];rfl
 rw[pv,Zg rfl,Za,Zt (Zc (Zg rfl)<|Zc e1 Zi) f1,Za];show po (at' (L.map λq=>spV q.1 q.2) (k:Int)) s'=_
 rw[Q8 (by rw[aK,af hk];rfl)];rfl
def VQ{C:Zo}{cap:List Nat}{nl:Nat}{t:List Nat}{it:W}{elt:E}{O:Env}{s s0:DS}{k:Nat}{Q:V->Prop}(hw:pvw C it O s=.ok (ZS 0 k) s0)(hl:k<=lim)(h:∀(x:V)(s:DS),∃Z y s',Zk t x (ZW cap nl O)=aa Z/\pv C elt Z s=.ok y s'/\Q y)(ho:own nl t=am:=by rfl) :
  ∃ys s',pv C (.comp1 cap nl t it [] elt) O s=.ok (.lst ys) s'/\ys.length=k/\∀y∈ys,Q y:=by
 obtain⟨ys,s',e1,e2,e3⟩:=Ws (Q:=Q) (f:=λx s=>(po (Zk t x<|ZW cap nl O) s).bind λZ s=>(pvt C [] Z s).bind λb s=>if b then(pv C elt Z s).bind λy s=>.ok [y] s else .ok [] s) (λx s=>by
  obtain⟨Z,y,s',f1,f2,f3⟩:=h x s;refine#[y,s',?_,f3];rw[f1,Z8,Za,pvt,Za];show(pv C elt Z s).bind _=_;rw[f2];rfl) (ZS 0 k) s0
 have hk:(ZS 0 k).length=k:=by unfold ZS;simp
 refine#[ys,s',?_,by rw[e2,hk],e3]
 rw[pv,T9 ho,hw,Za,e1,Za,T9 (by rw[e2,hk];exact hl)];rfl
theorem U5{p n:Nat}:∀{ys:List V},(∀y∈ys,∃r:Row,y=Zb r/\Ze p n r)->∃R:List Row,ys=R.map Zb/\∀r∈R,Ze p n r
 |[],_=>#[[],rfl,λ_ h=>by cases h]
 |y::ys,h=>by
  obtain⟨R,rfl,hR⟩:=U5 λz hz=>h z<|aj _ hz
  obtain⟨r,rfl,hr⟩:=h y<|ak ..;refine#[r::R,rfl,λx hx=>?_]
  rcases aA.mp hx with rfl|hx
  .exact hr
  .exact hR x hx
theorem J6{p:Nat}:∀{ys:List V},(∀y∈ys,∃a:Int,y=.int a/\0<=a/\a<(p:Int))->∃r:Row,ys=r.map V.int/\∀a∈r,0<=a/\a<(p:Int)
 |[],_=>#[[],rfl,λ_ h=>by cases h]
 |y::ys,h=>by
  obtain⟨r,rfl,hr⟩:=J6 λz hz=>h z<|aj _ hz
  obtain⟨a,rfl,h3⟩:=h y<|ak ..;refine#[a::r,rfl,λx hx=>?_]
  rcases aA.mp hx with rfl|hx
  .exact h3
  .exact hr x hx
section
variable{p n:Nat}[Base p]
def zC(d:Nat)(s:DS)(hn:n<=6):∃r s',CV (d+2) 23 [.drw,spV p n] s=.ok (Zb r) s'/\Ze p n r:=by
 have hp:=Vf (p:=p);obtain⟨v,s1,f1,f2,f3⟩:=Uj (F:=fns) (tk:=2) (d:=d) (m:=(n:Int)+1) s (by omega) (by omega)
 obtain⟨w,s2,g1,g2,g3⟩:=Uj (F:=fns) (tk:=2) (d:=d) (m:=3) s1 (by omega) (by omega)
 obtain⟨k,hk,e0⟩:∃k:Nat,k<=n/\pv (CV<|d+1) (.bin .mul (.call 2 [(.v 0),(.bin .add (.ix (.v 1)<|.c<|.int 1)<|.c<|.int 1)])<|.blt .toInt [(.cmp .eq (.call 2 [(.v 0),(.c<|.int 3)])<|.c<|.int 0)]) [aa .drw,aa<|spV p n,ae] s=.ok (ZU k) s2:=by
  have h1:pv (CV<|d+1) (.bin .add (.ix (.v 1)<|.c<|.int 1)<|.c<|.int 1) [aa .drw,aa<|spV p n,ae] s=.ok (.int<|(n:Int)+1) s:=Ga (ix1 rfl) X6;have h2:pv (CV<|d+1) (.call 2 [(.v 0),(.bin .add (.ix (.v 1)<|.c<|.int 1)<|.c<|.int 1)]) [aa .drw,aa<|spV p n,ae] s=.ok (.int v) s1:=Zt (Zc (Zg rfl)<|Zc h1 Zi) f1;have h3:pv (CV<|d+1) (.call 2 [(.v 0),(.c<|.int 3)]) [aa .drw,aa<|spV p n,ae] s1=.ok (.int w) s2:=Zt (Zc (Zg rfl)<|Zc X6 Zi) g1;have h4:pv (CV<|d+1) (.blt .toInt [(.cmp .eq (.call 2 [(.v 0),(.c<|.int 3)])<|.c<|.int 0)]) [aa .drw,aa<|spV p n,ae] s1=.ok (.int<|b2i<|ai<|w=0) s2:=by
   have:pv (CV<|d+1) (.cmp .eq (.call 2 [(.v 0),(.c<|.int 3)])<|.c<|.int 0) [aa .drw,aa<|spV p n,ae] s1=.ok (.bl<|ai<|w=0) s2:=by
    rw[pv,h3,Za,X6,Za];rfl
   rw[pv,Zc this Zi];rfl
  by_cases c:w=0
  .refine#[v.toNat,by omega,?_]
   rw[pv,h2,Za,h4,Za,T5 c];show(if(fits v&&fits 1)=am then PR.ok (V.int<|v*1) s2 else .no)=_
   rw[T9 (by rw[ZL (by omega) (by omega)];rfl)]
   unfold ZU;rw[show v*1=((v.toNat:Nat):Int) by omega]
  .refine#[0,by omega,?_]
   rw[pv,h2,Za,h4,Za,T4 c];show(if(fits v&&fits 0)=am then PR.ok (V.int<|v*0) s2 else .no)=_
   rw[T9 (by rw[ZL (by omega) (by omega)];rfl),Int.mul_zero];rfl
 obtain⟨ys,s3,e1,e2,e3⟩:=xC (C:=CV<|d+1) (cap:=[0,1]) (nl:=1) (t:=[0]) (it:=.rng1<|.bin .sub (.ix (.v 1)<|.c<|.int 1)<|.v 2) (elt:=.call 2 [(.v 1),(.ix (.v 2)<|.c<|.int 0)]) (O:=[aa .drw,aa<|spV p n,aa<|ZU k]) (s:=s2) (k:=n-k) (Q:=λy=>∃a:Int,y=.int a/\0<=a/\a<(p:Int))
  (by
   rw[WQ];refine X8 ?_ (by omega)
   rw[pv,ix1 rfl,Za,Zg rfl,Za];show PR.ok (V.int<|(n:Int)-(k:Int)) s2=_;rw[show(n:Int)-(k:Int)=((n-k:Nat):Int) by omega]) (by unfold lim;omega) (λx s=>by
   obtain⟨v,s',f1,f2,f3⟩:=Uj (F:=fns) (tk:=2) (d:=d) (m:=p) s (by omega) (by omega)
   exact#[[aa x,aa .drw,aa<|spV p n],.int v,s',rfl,Zt (Zc (Zg rfl)<|Zc (ix0 rfl) Zi) f1,v,rfl,f2,f3])
 obtain⟨r,rfl,hr⟩:=J6 e3;rw[az]at e2;refine#[aB k 0++r,s3,ZH rfl (by decide) rfl ?_,by rw[bw,ck,e2];omega,λa ha=>?_]
 .show rvs (CV<|d+1) [] XF.body [aa .drw,aa<|spV p n,ae] [] s=_
  dsimp only[XF]
  rw[Zl<|YG e0 rfl];show rvs _ _ _ [aa .drw,aa<|spV p n,aa<|ZU k] [] s2=_;refine ZD<|Yb ?_;have g:pv (CV<|d+1) (.tup [(.c<|.int 0)]) [aa .drw,aa<|spV p n,aa<|ZU k] s2=.ok (.tup [.int 0]) s2:=qJ X6;have g2:pv (CV<|d+1) (.bin .mul (.tup [(.c<|.int 0)])<|.v 2) [aa .drw,aa<|spV p n,aa<|ZU k] s2=.ok (.tup<|(aB k (0:Int)).map V.int) s2:=by
   rw[pv,g,Za,Zg rfl,Za];show(if(0:Int)<=k/\(k:Int)<1000/\1<=1000 then PR.ok (V.tup (aB (k:Int).toNat [V.int 0]).flatten) s2 else .no)=_
   rw[T9 #[by omega,by omega,by omega],fv,Zc7]
  have g3:pv (CV<|d+1) (.blt .tuple [(.comp1 [0,1] 1 [0] (.rng1<|.bin .sub (.ix (.v 1)<|.c<|.int 1)<|.v 2) []<|.call 2 [(.v 1),(.ix (.v 2)<|.c<|.int 0)])]) [aa .drw,aa<|spV p n,aa<|ZU k] s2=.ok (.tup<|r.map V.int) s3:=by
   rw[pv,Zc e1 Zi];rfl
  rw[pv,g2,Za,g3,Za];show(if((aB k (0:Int)).map V.int).length+(r.map V.int).length<=lim then PR.ok (V.tup<|(aB k (0:Int)).map V.int++r.map V.int) s3 else .no)=_
  rw[T9 (by rw[az,az,ck];unfold lim;omega),<-bM];rfl
 .rcases c0.mp ha with ha|ha
  .rw[ky ha];omega
  .exact hr a ha
end
section
variable{p n:Nat}[Base p]
def W6(d:Nat){R:List Row}{v:V}(s:DS)(hn:n<=6)(hR:∀r∈R,Ze p n r)(hv:Yf v=aa (R.map Zb))(ht:Z7 v [.tuple,.list]=aa am):CV (d+6) 15 [spV p n,v] s=.ok (Zd<|Y5 p [] R) s:=by
 refine ZH (fn:=UB) rfl (by decide) rfl ?_
 show rvs (CV<|d+5) [] (.ite (.not<|.isi (.v 1) [.tuple,.list]) [.raise _ []] [] :: .forr [2] (.of<|.v 1) [.ex<|.call 14 [(.v 0),(.v 2)]] :: .ret (.call 11 [(.v 0),(.tup []),(.v 1)])::[]) [aa<|spV p n,aa v,ae] [] s=_;rw[Zl (ρ':=[aa<|spV p n,aa v,ae]) (os':=[]) (s':=s) (by simp[pvE,ht])]
 obtain⟨o',hI,e⟩:=GT (C:=CV<|d+5) (ms:=[]) (t:=[2]) (it:=.of<|.v 1) (b:=[.ex<|.call 14 [(.v 0),(.v 2)]]) (L:=R) (e:=Zb) (step:=λ(st:Unit) _=>st) (O:=λ_ o=>[aa<|spV p n,aa v,o]) (st:=()) (o:=ae) (os:=[]) (s:=s) (λ_=>True) (by show pvw (CV<|d+5) (.of<|.v 1) [aa<|spV p n,aa v,ae] s=_;rw[pvw,pv];show po (Yf v) s=_;rw[hv];rfl) cY rfl (λx hx st o hst=>by
  refine#[cY,rfl,_,aa<|Zb x,rfl,?_];have e2:=Gb (d+2) s hn<|hR x hx;show rvs (CV<|d+5) [] _ [aa<|spV p n,aa v,aa<|Zb x] [] s=_;rw[Zl<|ye (v:=.non) (s':=s)<|Zt (vs:=[spV p n,Zb x]) (s1:=s) (Zc (Zg rfl)<|Zc (Zg rfl) Zi) e2,rvs])
 rw[Zl e];refine ZD<|Yb<|Zt (vs:=[spV p n,Zd [],v]) (s1:=s) (Zc (Zg rfl)<|Zc (by simp[pvE,Zd])<|Zc (Zg rfl) Zi)<|Vu d s hn pZ.nil hR hv
def jH(d:Nat){P:List Row}{r:Row}(s:DS)(hn:n<=6)(hP:pZ p n P)(hr:Ze p n r):CV (d+4) 24 [spV p n,Zd P,Zb r] s=.ok (.bl<|Z5 p P r) s:=by
 refine ZH rfl (by decide) rfl ?_
 show rvs (CV<|d+3) [] (.ret (.cmp .is (.call 6 [(.call 7 [(.v 0),(.v 1),(.v 2)])])<|.c .non)::[]) [aa<|spV p n,aa<|Zd P,aa<|Zb r] [] s=_;have e1:pv (CV<|d+3) (.call 6 [(.call 7 [(.v 0),(.v 1),(.v 2)])]) [aa<|spV p n,aa<|Zd P,aa<|Zb r] s=.ok (Xy<|hdI<|Zf p P r) s:=
  Zt (Zc (Zt (Zc (Zg rfl)<|Zc (Zg rfl)<|Zc (Zg rfl) Zi)<|Qc d s hn hP hr) Zi) (WS (d+2) _ s)
 refine ZD<|Yb ?_;rw[pv,e1,Za];unfold Z5;cases hdI (Zf p P r)<;>simp[pvE,Xy]
def holds(d:Nat){P:List Row}{r:Row}(s:DS)(hn:n<=6)(hP:pZ p n P)(hr:Ze p n r):CV (d+5) 25 [spV p n,Zd P,Zb r] s=.ok (.bl<|Z5 p P r) s:=by
 refine ZH (fn:=yr) rfl (by decide) rfl ?_
 show rvs (CV<|d+4) [] (.ex (.call 20 [(.v 0),(.v 1)]) :: .ex (.call 14 [(.v 0),(.v 2)]) :: .ret (.call 24 [(.v 0),(.v 1),(.v 2)])::[]) [aa<|spV p n,aa<|Zd P,aa<|Zb r] [] s=_;rw[Zl<|ye<|Zt (Zc (Zg rfl)<|Zc (Zg rfl) Zi)<|U0 d s hn hP];rw[Zl<|ye<|Zt (Zc (Zg rfl)<|Zc (Zg rfl) Zi)<|Gb (d+1) s hn hr];exact ZD<|Yb<|Zt (Zc (Zg rfl)<|Zc (Zg rfl)<|Zc (Zg rfl) Zi)<|jH d s hn hP hr
def v5(rs:List Row)(o:Row):(Xf p rs o).length=rs.length*p:=by
 unfold Xf;rw[ic];simp only[az,bE];rw[ox,gy]
def qI(d:Nat){P:List Row}(s:DS)(hn:n<=6)(hP:pZ p n P):CV (d+5) 21 [spV p n,Zd P] s=.ok (.lst<|(Zr p n P).map Zb) s:=by
 refine ZH (fn:=Uv) rfl (by decide) rfl ?_
 show rvs (CV<|d+4) [] (.ex (.call 20 [(.v 0),(.v 1)]) :: .asg [2,3] (.v 0) :: .asg [4] (.lst [(.bin .mul (.tup [(.c<|.int 0)])<|.v 3)]) :: .forr [5] (.of<|.v 1) [.asg [4]<|.comp2 [2,5] 2 [0] (.of<|.v 4) [] [1] (.rng1<|.v 2) []<|.call 4 [(.v 2),(.v 0),(.v 3),(.v 1)]] :: .ret (.v 4)::[]) [aa<|spV p n,aa<|Zd P,ae,ae,ae,ae] [] s=_;have hd:=dsum hP;have hp:=Vf (p:=p);rw[Zl<|ye<|Zt (Zc (Zg rfl)<|Zc (Zg rfl) Zi)<|U0 d s hn hP];rw[Zl<|Xv (p:=p) (n:=n) _ _ (by simp[pvE]) (by simp)]
 have er:(aB n [V.int 0]).flatten=(aB n (0:Int)).map V.int:=by
  rw[mS];clear hd hP hn
  induction n with|zero=>rfl|succ k ih=>rw[bx,cw,ih];rfl
 rw[Zl (ρ':=[aa<|spV p n,aa<|Zd P,aa<|.int p,aa<|.int n,aa<|.lst<|[aB n (0:Int)].map Zb,ae]) (os':=[]) (s':=s) (by
  have h1:(n:Int)<1000:=by omega
  rw[mS]at er;simp[pvE,h1,er,Zb])]
 have hz:Ze p n (aB n (0:Int)):=#[by simp,λa ha=>by rw[(mR.mp ha).2];exact#[by omega,ppos]]
 obtain⟨o',hI,e⟩:=yJ (C:=CV<|d+4) (ms:=[]) (t:=[5]) (it:=.of<|.v 1) (b:=[.asg [4]<|.comp2 [2,5] 2 [0] (.of<|.v 4) [] [1] (.rng1<|.v 2) []<|.call 4 [(.v 2),(.v 0),(.v 3),(.v 1)]]) (L:=P) (e:=Zb) (step:=Xf p) (O:=λst o=>[aa<|spV p n,aa<|Zd P,aa<|.int p,aa<|.int n,aa<|.lst<|st.map Zb,o]) (st:=[aB n (0:Int)]) (o:=ae) (os:=[]) (s:=s) (λl st=>(∀r∈l,Ze p n r)/\(∀r∈st,Ze p n r)/\st.length*5^l.length<=15625) (by simp[pvE,Zd]) #[hP.row,λr hr=>by rw[be.mp hr];exact hz,by
   have h1:P.length<=6:=by omega
   have:5^P.length<=5^6:=dH (by omega) h1
   simp only[ly];omega] rfl (λx l st o hst=>by
  obtain⟨h1,h2,h3⟩:=hst;have hx:=h1 x<|ak ..;have hsl:(Xf p st x).length=st.length*p:=v5 st x;have hb:st.length*p*5^l.length<=15625:=by
   have:st.length*p<=st.length*5:=mf _ (by omega)
   have h4:st.length*p*5^l.length<=st.length*5*5^l.length:=l0 _ this;rw[aS,ip]at h3;have h5:st.length*5*5^l.length=st.length*(5^l.length*5):=by rw[kx,fH 5]
   omega
  have hlim:st.length*p<=15625:=cO (kO _<|n6<|by omega) hb
  refine#[#[λr hr=>h1 r<|aj _ hr,λr hr=>?_,by rw[hsl];exact hb],rfl,_,aa<|Zb x,rfl,?_]
  .unfold Xf at hr
   obtain⟨q,hq,hr⟩:=dW.mp hr;obtain⟨k,_,rfl⟩:=aR.mp hr;exact Zj (h2 q hq) hx
  .show rvs (CV<|d+4) [] _ [aa<|spV p n,aa<|Zd P,aa<|.int p,aa<|.int n,aa<|.lst<|st.map Zb,aa<|Zb x] [] s=_
   have hc:=wY (C:=CV<|d+4) (cap:=[2,5]) (nl:=2) (t:=[0]) (u:=[1]) (it:=.of<|.v 4) (jt:=.rng1<|.v 2) (elt:=.call 4 [(.v 2),(.v 0),(.v 3),(.v 1)]) (O:=[aa<|spV p n,aa<|Zd P,aa<|.int p,aa<|.int n,aa<|.lst<|st.map Zb,aa<|Zb x]) (s:=s) (l:=st) (e:=Zb) (m:=λ_=>aM p) (e2:=ZU) (g:=λr k=>Zb<|Zz p r x (k:Int))
    (by simp[pvE]) (by rw[ic];simp only[az,bE];rw[ox,gy];unfold lim;omega) (λr hr=>#[_,rfl,by
     exact X8 (n:=p) (Zg rfl) (by omega),λk hk=>#[_,rfl,by
     have hk':=aU.mp hk;have:=VZ (p:=p) (d+3) (k:=(k:Int)) s hn (h2 r hr) hx #[by omega,by omega]
     exact Zt (Zc (Zg rfl)<|Zc (Zg rfl)<|Zc (Zg rfl)<|Zc (Zg rfl) Zi) this]])
   have ef:(st.flatMap λr=>(aM p).map λ(k:Nat)=>Zb<|Zz p r x (k:Int))=(Xf p st x).map Zb:=by
    unfold Xf;rw[List.map_flatMap];exact congrArg (λf=>st.flatMap f)<|funext λr=>by rw[bX];rfl
   rw[ef]at hc;rw[Zl<|YG hc rfl,rvs];rfl)
 rw[Zl e];exact ZD<|Yb<|Zg rfl
end
end K14
namespace Rw
open La
section
variable{p n:Nat}[Base p]
theorem Qb{P:Pt (Fin p)}:∀vs,Wt P vs λ_=>0
 |[]=>Yx
 |v::vs=>#[0,by rw[show(λj=>0-0*v j)=λ_=>0 by funext j;grind];exact Qb vs]
theorem yd{P:Pt (Fin p)}{v:Vec (Fin p)}:∀{vs},v∈vs->Wt P vs v
 |w::vs,h=>by
  rcases aA.mp h with rfl|h
  .exact#[1,by rw[show(λj=>v j-1*v j)=λ_=>0 by funext j;grind];exact Qb vs]
  .exact#[0,by rw[show(λj=>v j-0*w j)=v by funext j;grind];exact yd h]
theorem Vo{R:Pt (Fin p)}:∀{vs u},(∀v∈vs,Mem R v)->Wt [] vs u->Mem R u
 |[],u,_,h=>by rw[show u=λ_=>0 from funext<|qZ.mp h];exact Yx
 |v::vs,u,hv,#[c,h]=>by
  have:=YE c (Vo (λw hw=>hv w<|aj _ hw) h)<|hv v<|ak ..
  rw[show(λj=>u j-c*v j+c*v j)=u by funext j;grind]at this
  exact this
end
open Ev (ltI Zn)
section
variable{p n:Nat}[Base p]
def Xr{R:List Row}(hR:∀r∈R,Ze p n r):Spans p n R (Y5 p [] R):=by
 obtain⟨hM,e⟩:=Q2 (P:=[]) pZ.nil hR;have hm:=(Vt fld (R.map<|toV p) Pn.nil λv hv=>by
  obtain⟨r,h,rfl⟩:=aR.mp hv;exact Yt<|hR r h).2
 have h:∀u,Mm p (Y5 p [] R) u↔Wt [] (R.map<|toV p) u:=λu=>by
  unfold Mm;rw[e];exact hm u
 refine#[hM,λr hr=>(ZP hM<|hR r hr).mpr<|(h _).mpr<|yd<|dz hr,λW hW hw r hr=>?_]
 have hr':=hM.row r hr;have:=(h _).mp<|(ZP hM hr').mp<|Qi hM hr;refine(ZP hW hr').mpr<|Vo (λv hv=>?_) this
 obtain⟨x,hx,rfl⟩:=aR.mp hv;exact(ZP hW<|hR x hx).mp<|hw x hx
def qG{P R:List Row}(hP:pZ p n P)(h1:∀r∈R,Ze p n r/\Z5 p P r=am)(h2:∀r∈P,r∈R):Y5 p [] R=P:=
 (Xr λr hr=>(h1 r hr).1).uniq #[hP,λr hr=>(h1 r hr).2,λW hW hw r hr=>hw r<|h2 r hr]
def Xb{P:List Row}(hP:pZ p n P)(r:Row):r∈Zr p n P↔Ze p n r/\Z5 p P r=am:=by
 rw[(Qw hP).1 r];refine and_congr_right λh=>?_
 exact(ZP hP h).symm
def Qz{P:List Row}(hP:pZ p n P):(Zr p n P).Nodup:=(Qw hP).2.imp λ{a b} h e=>by
 subst e;have:=Sd.YC h;rw[h]at this;cases this
def xR{P:List Row}(hP:pZ p n P):Zn (Zr p n P)=Zr p n P:=
 Sd.Y2 Sd.VF (Sd.ZG _) (Sd.ZY<|Qz hP) (Qw hP).2
def JM{P:List Row}(hP:pZ p n P):(Zr p n P).length=p^P.length:=by
 rw[<-vZ (p:=p) (n:=n) P];refine Nat.le_antisymm (VO (Qz hP) λx hx=>?_)<|VO (Zag hP) λx hx=>?_
 .exact(Ge hP).mpr<|(Xb hP x).mp hx
 .exact(Xb hP x).mpr<|(Ge hP).mp hx
def vQ{P:List Row}{r:Row}(hP:pZ p n P):Y5 p [] (P++[r])=YR p P r:=by
 unfold Y5;rw[ny];show YR p (Y5 p [] P) r=_;rw[Ur hP]
end
end Rw
namespace K14
open Ev Pv Rw La
open Ab (okV XI)
theorem Qo(r:Row):∀L:List Row,Y0 (Zb r) (L.map Zb)=aa (L.contains r)
 |[]=>rfl
 |x::L=>by
  show(match eqV Zm (Zb x) (Zb r),Y0 (Zb r) (L.map Zb)with|some a,aa b=>aa (a||b)|_,_=>ae)=_
  rw[show eqV Zm (Zb x) (Zb r)=aa (ai<|x=r)from Qg 4 x r,Qo r L,mN]
  have e:(ai<|x=r)=(r == x):=by
   by_cases h:x=r
   .subst h;rw[T5 rfl,beq_self_eq_true]
   .rw[T4 h,beq_false_of_ne λz=>h z.symm]
  rw[e]
def yw{C:Zo}{a b:E}{O:Env}{s:DS}{r:Row}{L:List Row}(h1:pv C a O s=.ok (Zb r) s)(h2:pv C b O s=.ok (.lst<|L.map Zb) s):pv C (.cmp .nin a b) O s=.ok (.bl<|!L.contains r) s:=by
 rw[pv,h1,Za,h2,Za];show po ((Y0 (Zb r)<|L.map Zb).map λb=>V.bl !b) s=_
 rw[Qo];rfl
def jm{C:Zo}{a b:E}{O:Env}{s:DS}{r:Row}{L:List Row}(h1:pv C a O s=.ok (Zb r) s)(h2:pv C b O s=.ok (.lst<|L.map Zb) s):pv C (.cmp .inn a b) O s=.ok (.bl<|L.contains r) s:=by
 rw[pv,h1,Za,h2,Za];show po ((Y0 (Zb r)<|L.map Zb).map V.bl) s=_;rw[Qo];rfl
def wt{C:Zo}{a b:E}{O:Env}{s:DS}{L:List Row}(h1:pv C a O s=.ok (.lst<|L.map Zb) s)(h2:pv C b O s=.ok (.lst<|L.map Zb) s):pv C (.cmp .ne a b) O s=.ok (.bl ap) s:=by
 rw[pv,h1,Za,h2,Za];show po ((eqV Zm (.lst<|L.map Zb)<|.lst<|L.map Zb).map λb=>V.bl !b) s=_
 rw[show eqV Zm (.lst<|L.map Zb) (.lst<|L.map Zb)=aa (ai<|L=L)from uf 3 L L,T5 rfl];rfl
def qS{C:Zo}{a:E}{O:Env}{s:DS}{xs:List V}(h1:pv C a O s=.ok (.lst xs) s):pv C (.blt .len [a]) O s=.ok (.int xs.length) s:=by
 rw[pv,Zc h1 Zi];rfl
def ZbA{C:Zo}{a:E}{O:Env}{s:DS}{c:Bool}(h1:pv C a O s=.ok (.bl c) s):pv C (.blt .toInt [a]) O s=.ok (.int<|b2i c) s:=by
 rw[pv,Zc h1 Zi];rfl
def Gu:∀q∈YI,q.1^q.2<=300/\q∈spcs:=by decide
section
variable{p n:Nat}[Base p]
def j6{P:List Row}(hq:(p,n)∈YI)(hn:1<=n)(hP:pZ p n P):XO (Zr p n P)=am:=by
 obtain⟨h1,h2⟩:=Gu _ hq;have h1:p^n<=300:=h1;have hp:=Vf (p:=p);have hl:(Zr p n P).length<=300:=by
  rw[JM hP];exact cO (dH (by omega)<|dsum hP) h1
 have hr:∀r∈Zr p n P,Ze p n r:=λr hr=>((Xb hP r).mp hr).1
 unfold XO ZX;rw[aC,aC,aC,aC,T0,T0,T0,aT,fI];refine#[#[#[by omega,Qz hP],λr h=>?_],hl,(p,n),h2,aT.mpr λr h=>?_]
 .have:=(hr r h).1
  cases r with|nil=>simp at this;omega|cons _ _=>rfl
 .rw[aC,T0,aT]
  exact#[(hr r h).1,λa ha=>T5<|(hr r h).2 a ha]
def uD(d:Nat){P:List Row}{s:DS}{O:Int->Option V->Env}(hP:P.length<=6)(hn:n<=6)(hs:∀k x,(O k x)[6]?=aa (aa<|.int k)/\(O k x)[3]?=aa (aa<|spV p n)/\(O k x)[4]?=aa (aa<|Zd P)/\(∀v,(O k x).set 7 (aa v)=O k (aa v))/\∀k',(O k x).set 6 (aa<|.int k')=O k' x)(o:Option V) :
  ∃b,rv (CV d) [] (.forr [7] (.of<|.v 4) [.asg [6]<|.bin .mul (.v 6)<|.ix (.v 3)<|.c<|.int 0]) (O 1 o) [] s=.ok (.nx (O ((p^P.length:Nat):Int) b) []) s:=by
 have hp:=Vf (p:=p);obtain⟨b,hI,e⟩:=yJ (C:=CV d) (ms:=[]) (os:=[]) (t:=[7]) (it:=.of<|.v 4) (b:=[.asg [6]<|.bin .mul (.v 6)<|.ix (.v 3)<|.c<|.int 0]) (L:=P) (e:=Zb) (step:=λ(k:Nat) _=>k*p) (O:=λk x=>O (k:Int) x) (st:=1) (o:=o) (s:=s)
  (λl k=>k*5^l.length<=15625) (by
   rw[Lv.hide_nil,pvw,Zg (hs _ _).2.2.1];rfl) (by
   have:5^P.length<=5^6:=dH (by omega) hP
   omega) rfl (λx l k o h=>by
   rw[aS,ip]at h;have h5:k*(5^l.length*5)=k*5*5^l.length:=by rw[fH (5^l.length) 5,<-kx]
   rw[h5]at h;have h1:k*p*5^l.length<=k*5*5^l.length:=l0 _<|mf _ (by omega)
   have h2:k*5<=k*5*5^l.length:=kO _<|n6 (by omega)
   refine#[by show k*p*5^l.length<=15625;omega,rfl,O (k:Int)<|aa<|Zb x,aa<|Zb x,congrArg aa<|(hs _ _).2.2.2.1 _,?_]
   have e:pv (CV d) (.bin .mul (.v 6)<|.ix (.v 3)<|.c<|.int 0) (O (k:Int)<|aa<|Zb x) s=.ok (.int ((k*p:Nat):Int)) s:=by
    rw[pv,Zg (hs _ _).1,Za,ix0 (hs _ _).2.1,Za];show(if(fits (k:Int)&&fits (p:Int))=am then PR.ok (V.int<|(k:Int)*p) s else .no)=_
    rw[T9 (by rw[ZL (by omega) (by omega),ZL (by omega) (by omega)];rfl),ow]
   rw[Zl<|YG e rfl,rvs,(hs _ _).2.2.2.2])
 refine#[b,?_];have hf:∀(l:List Row)(k:Nat),l.foldl (λ(k:Nat) _=>k*p) k=k*p^l.length:=λl=>by
  induction l with|nil=>intro k;simp|cons x l ih=>intro k;rw[fT,ih,aS,ip,kx,fH p]
 rw[hf,Nat.one_mul]at e;exact e
end
def jw{C:Zo}{ms:List Nat}{i j:Nat}{O:Env}{s s':DS}{e:E}{x y:V}(h:pv C e O s=.ok (.lst [x,y]) s'):rv C ms (.asg [i,j] e) O [] s=.ok (.nx ((O.set i<|aa x).set j<|aa y) []) s':=by
 rw[rv,pvA,h,Za,T8 (by simp)]
 .rfl
 .simp
def uW{C:Zo}{a:E}{O:Env}{s:DS}{P:List Row}(h:pv C a O s=.ok (Zd P) s):pv C (.rev a) O s=.ok (Zd P.reverse) s:=by
 rw[pv,h,Za];show PR.ok (V.tup (P.map Zb).reverse) s=_;rw[<-gL];rfl
def vz(L:List Row)(lo hi:Option Int):∃T:List Row,Yy (L.map Zb) lo hi=T.map Zb/\(∀r∈T,r∈L)/\T.length<=L.length:=by
 unfold Yy;refine#[(L.drop<|sIx (L.map Zb).length 0 lo).take<|sIx (L.map Zb).length (L.map Zb).length hi-sIx (L.map Zb).length 0 lo,by rw[o6,o7],λr hr=>bS<|db hr,?_]
 rw[bh,bo];omega
def xW{C:Zo}{a b:E}{O:Env}{s:DS}{L:List Row}{k:Int}(h:pv C a O s=.ok (.lst<|L.map Zb) s)(hb:pv C b O s=.ok (.int k) s):∃T:List Row,pv C (.blt .tuple [(.sl a (aa b) ae)]) O s=.ok (Zd T) s/\(∀r∈T,r∈L)/\T.length<=L.length:=by
 obtain⟨T,e,h1,h2⟩:=vz L (aa k) ae;refine#[T,?_,h1,h2];have g:pv C (.sl a (aa b) ae) O s=.ok (.lst<|T.map Zb) s:=by
  rw[pv,h,Za,pvo,hb,Za];show(pvo C ae O s).bind (λh s=>po (slV (.lst<|L.map Zb) (aa k) h) s)=_
  rw[pvo,Za];show PR.ok (V.lst<|Yy (L.map Zb) (aa k) ae) s=_;rw[e]
 rw[pv,Zc g Zi];rfl
section
variable{p n:Nat}[Base p]
def xJ{C:Zo}{a:E}{O:Env}{s:DS}{P:List Row}(hq:(p,n)∈YI)(hn:1<=n)(hP:pZ p n P)(h:pv C a O s=.ok (.lst<|(Zr p n P).map Zb) s):pv C (.blt .sortedT [a]) O s=.ok (.lst<|(Zr p n P).map Zb) s:=by
 rw[pv,Zc h Zi,Za];show po ((ZR<|(Zr p n P).map Zb).bind λrs=>if XO rs=am then aa (V.lst<|(Zn rs).map Zb)else ae) s=_
 rw[Yl];show po (if XO (Zr p n P)=am then aa (V.lst<|(Zn<|Zr p n P).map Zb)else ae) s=_
 rw[T9<|j6 hq hn hP,xR hP];rfl
def zW{P:List Row}{r:Row}(hP:pZ p n P)(hr:Ze p n r):(Zr p n P).contains r=Z5 p P r:=by
 rw[bU,eg,Xb hP];exact#[λh=>h.2,λh=>#[hr,h]]
def y6(d:Nat){o a4 a5 a6 a7 a8 a9 a10 a11:Option V}{k:Nat}(s:DS)(hn:n<=6):∃(R:List Row)(s':DS),pv (CV<|d+3) (.comp1 [2,3] 1 [0] (.rng1<|.call 2 [(.v 2),(.c<|.int 5)]) []<|.call 23 [(.v 1),(.v 2)]) [o,aa<|.int k,aa .drw,aa<|spV p n,a4,a5,a6,a7,a8,a9,a10,a11] s=.ok (.lst<|R.map Zb) s'/\∀r∈R,Ze p n r:=by
 obtain⟨v,s1,f1,f2,f3⟩:=Uj (F:=fns) (tk:=2) (d:=d+2) (m:=5) s (by omega) (by omega)
 obtain⟨j,rfl⟩:∃j:Nat,v=j:=#[v.toNat,by omega]
 obtain⟨ys,s2,e1,e2,e3⟩:=VQ (C:=CV<|d+3) (cap:=[2,3]) (nl:=1) (t:=[0]) (it:=.rng1<|.call 2 [(.v 2),(.c<|.int 5)]) (elt:=.call 23 [(.v 1),(.v 2)]) (O:=[o,aa<|.int k,aa .drw,aa<|spV p n,a4,a5,a6,a7,a8,a9,a10,a11]) (s:=s) (s0:=s1) (k:=j) (Q:=λy=>∃r:Row,y=Zb r/\Ze p n r)
  (by
   rw[WQ];exact X8 (Zt (Zc (Zg rfl)<|Zc X6 Zi) f1)<|by omega) (by unfold lim;omega) (λx s=>by
   obtain⟨r,s',g1,g2⟩:=zC (p:=p) (n:=n) (d+1) s hn;exact#[[aa x,aa .drw,aa<|spV p n],Zb r,s',rfl,Zt (Zc (Zg rfl)<|Zc (Zg rfl) Zi) g1,r,rfl,g2])
 obtain⟨R,rfl,hR⟩:=U5 e3;exact#[R,s2,e1,hR]
def jL(d:Nat){o a4 a7 a8 a9 a10 a11:Option V}{k m:Nat}{E:List Row}(s:DS)(h0:0<m)(hm:m<1000)(hE:E.length=m):∃(a b:Row)(s':DS),pv (CV<|d+1) (.comp1 [5,2,6] 1 [0] (.rng1<|.c<|.int 2) []<|.ix (.v 1)<|.call 2 [(.v 2),(.v 3)]) [o,aa<|.int k,aa .drw,aa<|spV p n,a4,aa<|.lst<|E.map Zb,aa<|.int m,a7,a8,a9,a10,a11] s=.ok (.lst [Zb a,Zb b]) s'/\a∈E/\b∈E:=by
 obtain⟨ys,s2,e1,e2,e3⟩:=VQ (C:=CV<|d+1) (cap:=[5,2,6]) (nl:=1) (t:=[0]) (it:=.rng1<|.c<|.int 2) (elt:=.ix (.v 1)<|.call 2 [(.v 2),(.v 3)]) (O:=[o,aa<|.int k,aa .drw,aa<|spV p n,a4,aa<|.lst<|E.map Zb,aa<|.int m,a7,a8,a9,a10,a11]) (s:=s) (s0:=s) (k:=2) (Q:=λy=>∃r:Row,y=Zb r/\r∈E)
  (by
   rw[WQ];exact X8 X6<|by omega) (by unfold lim;omega) (λx s=>by
   obtain⟨v,s',f1,f2,f3⟩:=X1 d s (m:=m) (O:=[aa x,aa<|.lst<|E.map Zb,aa .drw,aa<|.int m]) (i:=2) (e:=.v 3) rfl (Zg rfl) (by omega) (by omega)
   obtain⟨y,hy,e⟩:=pick (a:=.v 1) (O:=[aa x,aa<|.lst<|E.map Zb,aa .drw,aa<|.int m]) (Zg rfl) f1 f2 (by rw[az];omega)
   obtain⟨r,hr,rfl⟩:=aR.mp hy;exact#[_,_,_,rfl,e,r,rfl,hr])
 match ys,e2 with
 |[x,y],_=>
  obtain⟨a,rfl,ha⟩:=e3 x (by simp)
  obtain⟨b,rfl,hb⟩:=e3 y (by simp)
  exact#[a,b,s2,e1,ha,hb]
end
def uT{C:Zo}{O:Env}{s s1 s2:DS}{f:Nat}{x y:E}{v w r:V}(h1:pv C x O s=.ok v s)(h2:pv C y O s=.ok w s1)(h:C f [v,w] s1=.ok r s2):pv C (.call f [x,y]) O s=.ok r s2:=Zt (Zc h1<|Zc h2 Zi) h
noncomputable def UC:List Sm:=[.asg [3]<|.call 3 [(.v 2),(.ix (.lst [(.c<|.int 27),(.c<|.int 125)])<|.blt .toInt [(.cmp .eq (.v 1)<|.c<|.int 0)])],
  .asg [4] (.call 15 [(.v 3),(.comp1 [2,3] 1 [0] (.rng1<|.call 2 [(.v 2),(.c<|.int 5)]) []<|.call 23 [(.v 1),(.v 2)])]),
  .asg [5] (.call 21 [(.v 3),(.v 4)]),
  .asg [6] (.c<|.int 1),
  .forr [7] (.of<|.v 4) [.asg [6]<|.bin .mul (.v 6)<|.ix (.v 3)<|.c<|.int 0],
  .ite (.or (.cmp .isn (.call 19 [(.v 3),(.v 4)])<|.c<|.bl am)<|.or (.cmp .ne (.blt .len [(.v 5)])<|.v 6)<|.cmp .ne (.blt .sortedT [(.v 5)])<|.v 5) [.ret<|.c<|.bl ap] [],
  .ite (.or (.cmp .ne (.call 15 [(.v 3),(.v 4)])<|.v 4)<|.cmp .ne (.call 15 [(.v 3),(.bin .add (.rev<|.v 4)<|.blt .tuple [(.sl (.v 5) (aa<|.neg<|.c<|.int 3) ae)])])<|.v 4) [.ret<|.c<|.bl ap] [],
  .asg [8,9] (.comp1 [5,2,6] 1 [0] (.rng1<|.c<|.int 2) []<|.ix (.v 1)<|.call 2 [(.v 2),(.v 3)]),
  .asg [10] (.call 22 [(.v 3),(.v 8),(.call 2 [(.v 2),(.ix (.v 3)<|.c<|.int 0)]),(.v 9)]),
  .ite (.or (.cmp .isn (.call 13 [(.v 3),(.v 10)])<|.c<|.bl am)<|.or (.cmp .isn (.call 25 [(.v 3),(.v 4),(.v 10)])<|.c<|.bl am)<|.cmp .nin (.v 10)<|.v 5) [.ret<|.c<|.bl ap] [],
  .asg [7] (.call 23 [(.v 2),(.v 3)]),
  .asg [11] (.call 15 [(.v 3),(.bin .add (.blt .list [(.v 4)])<|.lst [(.v 7)])]),
  .ite (.or (.cmp .ne (.call 25 [(.v 3),(.v 4),(.v 7)])<|.cmp .inn (.v 7)<|.v 5)<|.cmp .ne (.cmp .eq (.v 11)<|.v 4)<|.cmp .inn (.v 7)<|.v 5) [.ret<|.c<|.bl ap] [],
  .ite (.or (.cmp .ne (.blt .len [(.v 11)])<|.bin .add (.blt .len [(.v 4)])<|.blt .toInt [(.cmp .nin (.v 7)<|.v 5)])<|.cmp .isn (.call 25 [(.v 3),(.v 11),(.v 7)])<|.c<|.bl am) [.ret<|.c<|.bl ap] []]
section
variable{p n:Nat}[Base p]
def uz(d:Nat){P:List Row}(o:Option V)(k:Nat)(s:DS)(hq:(p,n)∈YI)(hP:pZ p n P):∃O s',rvs (CV<|d+6) [] (UC.drop 2) [o,aa<|.int k,aa .drw,aa<|spV p n,aa<|Zd P,ae,ae,ae,ae,ae,ae,ae] [] s=.ok (.nx O []) s'/\O[0]?=aa o/\O.length=12:=by
 obtain⟨hb,h1,hn,hp⟩:=yt _ hq;obtain⟨hp3,_⟩:=Gu _ hq;have hn:n<=6:=hn;have h1:1<=n:=h1;have hp:p^n<=1000:=hp;have hp3:p^n<=300:=hp3;have p2:=Vf (p:=p);have hl:=dsum hP;have pp:p^P.length<=300:=cO (dH (by omega) hl) hp3
 have pos:0<p^P.length:=n6 (by omega)
 have hE:(Zr p n P).length=p^P.length:=JM hP;have hEr:∀r∈Zr p n P,Ze p n r/\Z5 p P r=am:=λr hr=>(Xb hP r).mp hr
 have e3:=qI (d+1) (p:=p) (n:=n) s hn hP;obtain⟨b7,e4⟩:=uD (p:=p) (n:=n) (d+6) (P:=P) (s:=s) (O:=λm x=>[o,aa<|.int k,aa .drw,aa<|spV p n,aa<|Zd P,aa<|.lst<|(Zr p n P).map Zb,aa<|.int m,x,ae,ae,ae,ae]) (by omega) hn (λm x=>#[rfl,rfl,rfl,λv=>rfl,λm'=>rfl]) ae
 unfold UC;show ∃O s',rvs (CV<|d+6) [] (_::_) _ [] s=.ok (.nx O []) s'/\_;rw[Zl<|YG (UN (Zg rfl) (Zg rfl) e3) rfl];show ∃O s',rvs _ _ _ [o,aa<|.int k,aa .drw,aa<|spV p n,aa<|Zd P,aa<|.lst<|(Zr p n P).map Zb,ae,ae,ae,ae,ae,ae] [] s=.ok (.nx O []) s'/\_;rw[Zl<|YG X6 rfl];show ∃O s',rvs _ _ _ [o,aa<|.int k,aa .drw,aa<|spV p n,aa<|Zd P,aa<|.lst<|(Zr p n P).map Zb,aa<|.int 1,ae,ae,ae,ae,ae] [] s=.ok (.nx O []) s'/\_;rw[Zl e4];have g1:=yV (d+3) (p:=p) (n:=n) s hn hP;rw[guard<|V6 (XU<|UN (Zg rfl) (Zg rfl) g1)<|V6 (ne_int (qS<|Zg rfl) (Zg rfl)<|by rw[az,hE])<|wt (xJ hq h1 hP<|Zg rfl)<|Zg rfl]
 have g2:=W6 d (p:=p) (n:=n) (R:=P) (v:=Zd P) s hn hP.row rfl rfl;rw[Ur hP]at g2;obtain⟨T,t1,t2,t3⟩:=xW (C:=CV<|d+6) (a:=.v 5) (b:=.neg<|.c<|.int 3) (O:=[o,aa<|.int k,aa .drw,aa<|spV p n,aa<|Zd P,aa<|.lst<|(Zr p n P).map Zb,aa<|.int ((p^P.length:Nat):Int),b7,ae,ae,ae,ae]) (s:=s) (L:=Zr p n P) (k:=-3) (Zg rfl) (by rw[pv,X6];rfl)
 have hR:∀r∈P.reverse++T,Ze p n r/\Z5 p P r=am:=λr hr=>by
  rcases c0.mp hr with hr|hr
  .have:=cV.mp hr
   exact#[hP.row r this,Qi hP this]
  .exact hEr r<|t2 r hr
 have g3:=W6 d (p:=p) (n:=n) (R:=P.reverse++T) (v:=.tup<|P.reverse.map Zb++T.map Zb) s hn (λr hr=>(hR r hr).1) (by rw[bM];rfl) rfl
 rw[qG hP hR λr hr=>b6 _<|cV.mpr hr]at g3
 rw[guard<|V6 (yu (UN (Zg rfl) (Zg rfl) g2) (Zg rfl) rfl)<|yu (UN (Zg rfl) (vx (uW<|Zg rfl) t1<|by rw[az,az,h7];omega) g3) (Zg rfl) rfl]
 obtain⟨a,b,s1,e5,ha,hb'⟩:=jL (p:=p) (n:=n) (d+5) (o:=o) (a4:=aa<|Zd P) (a7:=b7) (a8:=ae) (a9:=ae) (a10:=ae) (a11:=ae) (k:=k) (m:=p^P.length) (E:=Zr p n P) s pos (by omega) hE
 obtain⟨ra,ma⟩:=hEr a ha;obtain⟨rb,mb⟩:=hEr b hb';rw[Zl<|jw e5];show ∃O s',rvs _ _ _ [o,aa<|.int k,aa .drw,aa<|spV p n,aa<|Zd P,aa<|.lst<|(Zr p n P).map Zb,aa<|.int ((p^P.length:Nat):Int),b7,aa<|Zb a,aa<|Zb b,ae,ae] [] s1=.ok (.nx O []) s'/\_;obtain⟨v,s2,e6,v0,v1⟩:=X1 (d+5) s1 (m:=p) (O:=[o,aa<|.int k,aa .drw,aa<|spV p n,aa<|Zd P,aa<|.lst<|(Zr p n P).map Zb,aa<|.int ((p^P.length:Nat):Int),b7,aa<|Zb a,aa<|Zb b,ae,ae]) (i:=2) (e:=.ix (.v 3)<|.c<|.int 0) rfl (ix0 rfl) (by omega) (by omega)
 have e7:=uh (d+5) (p:=p) (n:=n) (k:=v) s2 hn ra rb (by omega)
 rw[Zl<|YG (Zt (Zc (Zg rfl)<|Zc (Zg rfl)<|Zc e6<|Zc (Zg rfl) Zi) e7) rfl];show ∃O s',rvs _ _ _ [o,aa<|.int k,aa .drw,aa<|spV p n,aa<|Zd P,aa<|.lst<|(Zr p n P).map Zb,aa<|.int ((p^P.length:Nat):Int),b7,aa<|Zb a,aa<|Zb b,aa<|Zb<|Zz p a b v,ae] [] s2=.ok (.nx O []) s'/\_;have hc:Ze p n (Zz p a b v):=Zj ra rb;have mc:Z5 p P (Zz p a b v)=am:=zN hP ra rb ma mb;have g4:=uY (d+4) (p:=p) (n:=n) s2 hn hc;have g5:=holds (d+1) (p:=p) (n:=n) s2 hn hP hc;rw[mc]at g5;rw[guard (V6 (XU<|UN (Zg rfl) (Zg rfl) g4) (V6 (XU<|vW (Zg rfl) (Zg rfl) (Zg rfl) g5) (by
  have:=yw (C:=CV<|d+6) (a:=.v 10) (b:=.v 5) (O:=[o,aa<|.int k,aa .drw,aa<|spV p n,aa<|Zd P,aa<|.lst<|(Zr p n P).map Zb,aa<|.int ((p^P.length:Nat):Int),b7,aa<|Zb a,aa<|Zb b,aa<|Zb<|Zz p a b v,ae]) (s:=s2) (r:=Zz p a b v) (L:=Zr p n P) (Zg rfl)<|Zg rfl;rw[zW hP hc,mc]at this;exact this)))]
 obtain⟨r,s3,e8,hr⟩:=zC (d+4) (p:=p) (n:=n) s2 hn;rw[Zl<|YG (uT (Zg rfl) (Zg rfl) e8) rfl];show ∃O s',rvs _ _ _ [o,aa<|.int k,aa .drw,aa<|spV p n,aa<|Zd P,aa<|.lst<|(Zr p n P).map Zb,aa<|.int ((p^P.length:Nat):Int),aa<|Zb r,aa<|Zb a,aa<|Zb b,aa<|Zb<|Zz p a b v,ae] [] s3=.ok (.nx O []) s'/\_;have hR2:∀x∈P++[r],Ze p n x:=λx hx=>by
  rcases c0.mp hx with hx|hx
  .exact hP.row x hx
  .rw[be.mp hx];exact hr
 have g6:=W6 d (p:=p) (n:=n) (R:=P++[r]) (v:=.lst<|P.map Zb++[Zb r]) s3 hn hR2 (by rw[bM];rfl) rfl
 have hM:=(Xr hR2).part;have hh:=(Xr hR2).holds r (by simp)
 rw[vQ hP]at g6 hM hh;have e9:pv (CV<|d+6) (.lst [(.v 7)]) [o,aa<|.int k,aa .drw,aa<|spV p n,aa<|Zd P,aa<|.lst<|(Zr p n P).map Zb,aa<|.int ((p^P.length:Nat):Int),aa<|Zb r,aa<|Zb a,aa<|Zb b,aa<|Zb<|Zz p a b v,ae] s3=.ok (.lst [Zb r]) s3:=by
  rw[pv,Zc (Zg rfl) Zi];rfl
 rw[Zl<|YG (UN (Zg rfl) (x9 (xm<|Zg rfl) e9<|by rw[az];unfold lim;simp;omega) g6) rfl]
 show ∃O s',rvs _ _ _ [o,aa<|.int k,aa .drw,aa<|spV p n,aa<|Zd P,aa<|.lst<|(Zr p n P).map Zb,aa<|.int ((p^P.length:Nat):Int),aa<|Zb r,aa<|Zb a,aa<|Zb b,aa<|Zb<|Zz p a b v,aa<|Zd<|YR p P r] [] s3=.ok (.nx O []) s'/\_;have g7:=holds (d+1) (p:=p) (n:=n) s3 hn hP hr;have g8:=holds (d+1) (p:=p) (n:=n) s3 hn hM hr;rw[hh]at g8;have hk:=zW hP hr;have k1:ai (YR p P r=P)=Z5 p P r:=by
  cases c:Z5 p P r with
  |true=>exact T5<|Gf hP hr c
  |false=>
   refine T4 λz=>?_
   have:=zS hP hr c;rw[z]at this;omega
 have k2:((YR p P r).length:Int)=(P.length:Int)+b2i (!Z5 p P r):=by
  cases c:Z5 p P r with|true=>rw[Gf hP hr c];show _=(P.length:Int)+0;omega|false=>rw[zS hP hr c];show _=(P.length:Int)+1;omega
 have ei:=jm (C:=CV<|d+6) (a:=.v 7) (b:=.v 5) (O:=[o,aa<|.int k,aa .drw,aa<|spV p n,aa<|Zd P,aa<|.lst<|(Zr p n P).map Zb,aa<|.int ((p^P.length:Nat):Int),aa<|Zb r,aa<|Zb a,aa<|Zb b,aa<|Zb<|Zz p a b v,aa<|Zd<|YR p P r]) (s:=s3) (r:=r) (L:=Zr p n P) (Zg rfl)<|Zg rfl;have en:=yw (C:=CV<|d+6) (a:=.v 7) (b:=.v 5) (O:=[o,aa<|.int k,aa .drw,aa<|spV p n,aa<|Zd P,aa<|.lst<|(Zr p n P).map Zb,aa<|.int ((p^P.length:Nat):Int),aa<|Zb r,aa<|Zb a,aa<|Zb b,aa<|Zb<|Zz p a b v,aa<|Zd<|YR p P r]) (s:=s3) (r:=r) (L:=Zr p n P) (Zg rfl)<|Zg rfl
 rw[hk]at ei en;rw[guard<|V6 (Zat (vW (Zg rfl) (Zg rfl) (Zg rfl) g7) ei rfl)<|Zat (qh (Zg rfl)<|Zg rfl) ei k1];rw[guard<|V6 (ne_int (Jp<|Zg rfl) (Ga (Jp<|Zg rfl)<|ZbA en) k2)<|XU<|vW (Zg rfl) (Zg rfl) (Zg rfl) g8];refine#[_,s3,by rw[rvs],rfl,rfl]
end
def wJ(d:Nat)(o:Option V)(k:Nat)(s:DS):∃O os s',rvs (CV<|d+6) [] UC (o::aa (.int k)::aa .drw::aB 9 ae) [] s=.ok (.nx O os) s'/\O[0]?=aa o/\O.length=12:=by
 have e0:∃m,pv (CV<|d+6) (.ix (.lst [(.c<|.int 27),(.c<|.int 125)])<|.blt .toInt [(.cmp .eq (.v 1)<|.c<|.int 0)]) [o,aa<|.int k,aa .drw,ae,ae,ae,ae,ae,ae,ae,ae,ae] s=.ok (.int m) s:=by
  by_cases c:(k:Int)=0
  .have c':k=0:=by omega
   exact#[125,by simp[pvE,c',Zm,b2i,at',ixN]]
  .have c':k≠0:=by omega
   exact#[27,by simp[pvE,c',Zm,b2i,at',ixN]]
 obtain⟨m,e0⟩:=e0;obtain⟨⟨p,n⟩,s1,e1,hq⟩:=xG (d+4) (m:=m) s;obtain⟨hb,h1,hn,hp⟩:=yt _ hq
 haveI:Base p:=⟨hb⟩
 have hn:n<=6:=hn;obtain⟨R,s2,e2,hR⟩:=y6 (p:=p) (n:=n) (d+3) (o:=o) (a4:=ae) (a5:=ae) (a6:=ae) (a7:=ae) (a8:=ae) (a9:=ae) (a10:=ae) (a11:=ae) (k:=k) s1 hn;have e3:=W6 d (p:=p) (n:=n) (R:=R) (v:=.lst<|R.map Zb) s2 hn hR rfl rfl;obtain⟨O,s3,e4,r1,r2⟩:=uz (p:=p) (n:=n) d o k s2 hq (Xr hR).part;refine#[O,[],s3,?_,r1,r2];show rvs _ _ UC [o,aa<|.int k,aa .drw,ae,ae,ae,ae,ae,ae,ae,ae,ae] [] s=_;unfold UC;rw[Zl<|YG (Zt (Zc (Zg rfl)<|Zc e0 Zi) e1) rfl];show rvs _ _ _ [o,aa<|.int k,aa .drw,aa<|spV p n,ae,ae,ae,ae,ae,ae,ae,ae] [] s1=_
 rw[Zl<|YG (uT (Zg rfl) e2 e3) rfl];exact e4
def law_ok(ns:List Int)(s:DS):∃S,CV 65 26 [.scr ns] s=.ok (.bl am) S:=
 Lv.law_ofR (B:=UC) 62 (ca:=0) (st:=1) (nn:=9) (M:=6) (by decide) (by decide) (by decide) rfl rfl rfl (by decide) (λ_ _=>by rw[pv];rfl) (λo k s=>wJ 58 o k s) ns s
end K14
namespace K14
open PySem PySem.Spec PyProof.Rows L2 Sd Gn
open Sd (JP zJ vw uE Zah uA ub yz ym wH w4 yc UR u3 vY vJ G4 ud GY yG yC zP yH UI Jn zX uS)
def ZcE(s:fE):bG:=match s with|.FunctionDef x _ _ _ _ _ _ _ _ _=>x|_=>""
def top(i:Nat):fE:=PySem.Challenge.pw_fewspaces_k14_whole_parts.main.body.getD i<|.Pass #[0,0,0,0]
noncomputable abbrev R(i m k:Nat):FR:=#[ZcE<|top i,top i,((Zv<|top i).names.map (·.1)).take m,k]
noncomputable abbrev r0:=R 27 2 2
noncomputable abbrev r1:=R 28 3 2
noncomputable abbrev r2:=R 29 4 2
noncomputable abbrev r3:=R 30 3 2
noncomputable abbrev r4:=R 9 4 4
noncomputable abbrev r5:=R 11 4 4
noncomputable abbrev r6:=R 7 3 1
noncomputable abbrev r7:=R 22 7 3
noncomputable abbrev r8:=R 8 3 3
noncomputable abbrev r9:=R 10 3 2
noncomputable abbrev r10:=R 21 9 3
noncomputable abbrev r11:=R 20 5 3
noncomputable abbrev r12:=R 5 3 3
noncomputable abbrev r13:=R 14 4 2
noncomputable abbrev r14:=R 17 2 2
noncomputable abbrev r15:=R 19 3 2
noncomputable abbrev r16:=R 6 1 1
noncomputable abbrev r17:=R 12 2 2
noncomputable abbrev r18:=R 16 3 3
noncomputable abbrev r19:=R 15 3 2
noncomputable abbrev r20:=R 18 2 2
noncomputable abbrev r21:=R 25 6 2
noncomputable abbrev r22:=R 31 4 4
noncomputable abbrev r23:=R 32 3 2
noncomputable abbrev r24:=R 24 3 3
noncomputable abbrev r25:=R 23 3 3
abbrev r26:FR:=#["law",top 37,["_law_script","_law_k","_law_state_here","_law_space_here","_law_part_here","_law_every","_law_many","_law_row_here","_law_one","_law_other","_law_both","_law_more"],1]
noncomputable abbrev fs:List FR:=[r0,r1,r2,r3,r4,r5,r6,r7,r8,r9,r10,r11,r12,r13,r14,r15,r16,r17,r18,r19,r20,r21,r22,r23,r24,r25,r26]
abbrev zs:List bG:=["all","bool","enumerate","int","isinstance","len","list","max","min","range","set","sorted","tuple","zip"]
abbrev gs:List (bG×Gv):=[]
noncomputable abbrev jE{X xw C e}(i:Ev.E):=Sd.CE X xw C e i
noncomputable abbrev jF{X xw C e}(i:Ev.E):=Sd.CF X xw C e i
noncomputable abbrev jT{X xw C e}(i:Ev.E):=Sd.CT X xw C e i
noncomputable abbrev jS{X xw a C b e}(i:Ev.Sm):=Sd.CS X xw a C b e i
def okl:OkL fs zs gs fns tk sn 0 fs fns:=by
 repeat'(first|exact cY|refine#[#[rfl,rfl,by decide +kernel,?_],?_]|intro P w K mg base f fd d T h hn cdv A outer s H E hr hu)
 all_goals
 (repeat'(first
 |(with_reducible show aL _ _=_);(first|exact zJ|exact JP|exact yz|exact ub|exact vw|exact uE|exact ym|exact Zah|exact uA)
 |(with_reducible show Cx.mg _ _=_);(exact Top.no (by assumption) (by kernel_rfl!))
 |(with_reducible show _=_);first|exact ZbF _|kernel_rfl!
 |(with_reducible show Gl _ _);show _=_;kernel_rfl!
 |show Sd.CSs _ _ _ _ _ _ [.cel _ _ _ _];refine ZcK (by assumption) (by assumption) (by assumption) ?_ ?_ (by assumption) (by kernel_rfl!) rfl rfl (by kernel_rfl!) (by first|exact zJ|exact JP|exact yz|exact ub|exact vw|exact uE|exact ym|exact Zah|exact uA) rfl (by kernel_rfl!) (by first|exact Or.inl (by kernel_rfl!)|exact pf (by kernel_rfl!)|exact pf (Or.inl (by kernel_rfl!))|exact pf (pf (by kernel_rfl!))) (by first|exact .inl rfl|exact .inr<|by kernel_rfl!) (by kernel_rfl!) (by kernel_rfl!) (by kernel_rfl!)
 |show Sd.CSs _ _ _ _ _ _ _;first|apply Zcj|apply qX
 |show Sd.CA _ _ _ _ _;first|apply ZaW|apply qR
 |show jF (.blt .sortedT _);apply zf
 |show jF (.blt .list _);apply Zac Jn
 |show jF (.lst _);apply ZbG
 |show jF (.comp1 _ _ _ _ _ _);refine uc rfl (by first|assumption|exact T6<|by kernel_rfl!) (zA<|by kernel_rfl!) ?_ (λ_ _ _ _=>#[?_,?_,?_]) (hs:=by intro _;kernel_rfl!)
 |show Sd.CE _ _ _ (.BoolOp _ [_] _) _;apply ZbR
 |show jE (.dix _ ap);apply jV
 |show jE (.dix _ am);apply jY
 |show jE (.v _);apply Zdx
 |show jE (.c _);first|apply Zb3|apply Zdn|apply ZaY
 |show jE (.call _ _);refine Zc9 (by assumption) (by assumption) (by assumption) ?_ (by kernel_rfl!) rfl (by kernel_rfl!) (by first|exact zJ|exact JP|exact yz|exact ub|exact vw|exact uE|exact ym|exact Zah|exact uA) rfl
 |show jE (.ix _ _);apply Zc3
 |show jE (.blt .len _);apply WP yG
 |show jE (.blt .tuple _);apply yW UI
 |show jE (.blt .all _);apply WP (zX rfl)
 |show jE (.blt .toInt _);apply yW yH
 |show jE (.blt .max2 _);apply WP (yC rfl)
 |show jE (.blt .min2 _);apply WP (zP rfl)
 |show jE (.blt _ _);apply zr
 |show jE (.bin _ _ _);first|apply Zco|apply Za3|apply Za0|apply Zbi|apply jC|apply Zbs
 |show jE (.tup _);apply Zbx
 |show jE (.neg _);apply Za9
 |show jE (.not _);apply Zbv
 |show jE (.cmp .eq _ _);apply YH (wH (by assumption))
 |show jE (.cmp .ne _ _);apply YH (w4 (by assumption))
 |show jE (.cmp .lt _ _);apply YH (yc (by assumption))
 |show jE (.cmp .le _ _);apply YH (UR (by assumption))
 |show jE (.cmp .gt _ _);apply YH (u3 (by assumption))
 |show jE (.cmp .ge _ _);apply YH (vY (by assumption))
 |show jE (.cmp .is _ _);apply YH (vJ (by assumption))
 |show jE (.cmp .isn _ _);apply YH (G4 (by assumption))
 |show jE (.cmp .inn _ _);apply YH (ud (by assumption))
 |show jE (.cmp .nin _ _);apply YH (GY (by assumption))
 |show jE (.chain _ _ _ _ _);first|apply J1 (UR<|by assumption) (UR (by assumption))|apply J1 (UR<|by assumption) (yc (by assumption))
 |show jE (.sl _ _ _);apply Zc4
 |show jE (.rev _);apply Zck
 |show jE (.isi _ _);first|apply Qn (T:="int") (t:=.int)|apply Qn (T:="bool") (t:=.bool)|apply Qn (T:="tuple") (t:=.tuple)|apply Qn (T:="list") (t:=.list)|apply j8 (T:="tuple") (U:="list") (t:=.tuple) (u:=.list)
 |(first|show jE (.callF _ _)|show jE (.lst _)|show jE (.comp1 _ _ _ _ _ _)|show jE (.comp2 _ _ _ _ _ _ _ _ _)|show jE (.blt .list _)|show jE (.blt .sorted _)|show jE (.blt .listD _)|show jE (.blt .sortedD _)|show jE (.blt .sortedS _)|show jE (.blt .sortedT _));refine CF.ce ?_
 |show jE _;apply ZaV
 |show Sd.CO _ _ _ _ _;first|apply qK|apply qr
 |show jS (.ret _);first|apply ZbK|apply qv
 |show jS (.dset _ _);apply jb
 |show jS (.asg _<|.comp1 _ _ _ _ _ _);refine uN rfl (by assumption) (zA<|by kernel_rfl!) ?_ (λ_ _ _ _=>#[?_,?_,?_]) (hsw:=by kernel_rfl!) (hy:=by kernel_rfl!) (hx:=by first|exact Or.inl (by kernel_rfl!)|exact pf (by kernel_rfl!)|exact pf (Or.inl (by kernel_rfl!))|exact pf (pf (by kernel_rfl!))) (hf:=by first|exact .inl rfl|exact .inr<|by kernel_rfl!) (hs:=by intro _;kernel_rfl!)
 |show jS (.asg _<|.comp2 _ _ _ _ _ _ _ _ _);refine xL rfl (by assumption) (zA<|by kernel_rfl!) ?_ (λ_ _ _ _=>#[?_,?_,?_,?_,?_,?_]) (hsw:=by kernel_rfl!) (hy:=by kernel_rfl!) (hx:=by first|exact Or.inl (by kernel_rfl!)|exact pf (by kernel_rfl!)|exact pf (Or.inl (by kernel_rfl!))|exact pf (pf (by kernel_rfl!))) (hf:=by first|exact .inl rfl|exact .inr<|by kernel_rfl!) (hs:=by intro _;kernel_rfl!) (hs2:=by intro _ _;kernel_rfl!)
 |show jS (.asg [_] _);first|refine qm ?_ ?_ (hf:=by kernel_rfl!) (hs:=by kernel_rfl!) (hw:=by kernel_rfl!) (h1:=by kernel_rfl!)|apply jO
 |show jS (.asg _ _);first|refine ZbY ?_ ?_ (hf:=by kernel_rfl!) (hs:=by kernel_rfl!) (hw:=by kernel_rfl!) (h1:=by kernel_rfl!)|apply jA
 |show jS (.ex _);apply jy
 |show jS (.ite _ _ _);apply Zc1
 |show jS (.forr _ _ _);apply ZbI ou
 |show jS (.whl _ _);apply wZ ou
 |show jS (.aug _ _ _);apply ZaQ uS
 |show jS _;apply wB
 |show jT (.not _);apply ZbE
 |show jT (.cmp .eq _ _);apply YK (wH (by assumption))
 |show jT (.cmp .ne _ _);apply YK (w4 (by assumption))
 |show jT (.cmp .lt _ _);apply YK (yc (by assumption))
 |show jT (.cmp .le _ _);apply YK (UR (by assumption))
 |show jT (.cmp .gt _ _);apply YK (u3 (by assumption))
 |show jT (.cmp .ge _ _);apply YK (vY (by assumption))
 |show jT (.cmp .is _ _);apply YK (vJ (by assumption))
 |show jT (.cmp .isn _ _);apply YK (G4 (by assumption))
 |show jT (.cmp .inn _ _);apply YK (ud (by assumption))
 |show jT (.cmp .nin _ _);apply YK (GY (by assumption))
 |show jT (.or _ _);refine CWh.ct<|Zau ?_ ?_
 |show jT _;apply Zbo
 |show Sd.CWh _ _ _ _ _;first|apply Zau|apply Zbz
 |show Sd.CTs _ _ _ _ _;apply j9
 |show Sd.CW _ _ _ _ _ _;first|apply qj|apply Zbj|apply qE|apply ZcO
 |show Sd.CG _ _ _;first|apply jU|apply Za5
 |show Sd.CGs _ _ _;first|apply qD|apply ve
 |(first|exact Or.inl (by kernel_rfl!)|exact pf (by kernel_rfl!)|exact pf (Or.inl (by kernel_rfl!))|exact pf (pf (by kernel_rfl!)))
 |assumption
 |exact T6 (by kernel_rfl!)
 |decide
 |(intro _;kernel_rfl!)
 |(intro _ _;kernel_rfl!)
 |(intro m h;cases h)))
end K14
namespace PySem.W.Fast
def tw7110906588512112207:=0
def tw14671806419267192848:=0
def tw766448504726142965:=0
def tw5185807982560748197:=0
def tw6515952337227656833:=0
def tw16677704569831067544:=0
def tw2341715197793879507:=0
def tw10055133492233501648:=0
def tw10930225269225154679:=0
def tw17641079268287719124:=0
def tw5504739589136575762:=0
def tw15770910913393425283:=0
def tw11057509630295037963:=0
def tw12375730468860186757:=0
def tw1555629453056482443:=0
def tw8106834704765858638:=0
def tw4860798351216958935:=0
def tw13619474804858510221:=0
def tw10485683565664744807:=0
def tw12093777320184101877:=0
def tw17328627946200678154:=0
def tw16264859454137596918:=0
def tw818629659216374179:=0
def tw9657517254760290754:=0
def tw9980380447867541436:=0
def tw11544288403666675370:=0
def tw13111826947318519872:=0
def tw17792722176547683225:=0
def tw5564086450183054168:=0
def tw3843516305592298131:=0
def tw12978157744454110552:=0
def tw4776571534873460445:=0
def tw12551965604490730547:=0
def tw16255463223801662454:=0
def tw17105315206395579622:=0
def tw6638587509895970636:=0
def tw15713202659108148426:=0
def tw6567376817502559705:=0
def tw10192844028433392025:=0
def tw11947379995148282983:=0
def tw14942395953404187833:=0
def tw1189957838381189490:=0
def tw13351880143017282171:=0
def tw12311292828027533360:=0
def tw9582234493564199986:=0
def tw1870213522338665555:=0
def tw9115853199775278102:=0
def tw16952724904582922201:=0
def tw12302875081090450707:=0
def tw14412460597463653628:=0
def tw11383124500731387820:=0
def tw138584090619319470:=0
def tw10759115047469057147:=0
def tw13944363541784496864:=0
def tw17374523235617240792:=0
def tw13737957806908339807:=0
def tw18412929782394100116:=0
def tw2317118062758317919:=0
def tw16017275790803443908:=0
def tw13773331009169175171:=0
def tw11009776472613375922:=0
def tw11666705140136228474:=0
def tw984490353476162542:=0
def tw5535312913149874303:=0
def tw16458680244999934859:=0
def tw1375973690297967295:=0
def tw14801240607266971326:=0
def tw4318797339155829003:=0
def tw12767487312513856191:=0
def tw1217558440048490501:=0
def tw13494769184700464337:=0
def tw11028888540654158311:=0
def tw14346860576712100302:=0
def tw6958324520980928138:=0
def tw12394415012488680758:=0
def tw10634071829650751868:=0
def tw10908997237801112847:=0
def tw13815488722284089273:=0
def tw17742456605316493325:=0
def tw11561240824382581645:=0
def tw9567028029654388964:=0
def tw9881739483739396088:=0
def tw8834920835129540262:=0
def tw9560759069484907411:=0
def tw9729179685221071500:=0
def tw14632090800188444486:=0
def tw8075037347273777091:=0
def tw7927177164742223633:=0
def tw8824356665175156821:=0
def tw14706441909036489443:=0
def tw6675373143848536396:=0
def tw17293158961552130985:=0
def tw15770813642059661049:=0
def tw443838297471423269:=0
def tw1637205916622838649:=0
def tw13031782872648342457:=0
def tw17665689656796738357:=0
def tw16937654239816898478:=0
def tw11970901684784962171:=0
def tw17071500011888410405:=0
def tw1193106737248157405:=0
def tw1721298330280334527:=0
def tw14248996881073524886:=0
def tw2881141651387107493:=0
def tw9338053066258267928:=0
def tw7063958174272427074:=0
def tw13933895487419388380:=0
def tw1775367110146207520:=0
def tw6608440592961523991:=0
def tw12943908453400319416:=0
def tw10706622381427749746:=0
def tw15391635410323747972:=0
def tw3758958340810920423:=0
def tw12070064921517954610:=0
def tw5710443727850766892:=0
def tw9447508280867309646:=0
def tw13764940964978207112:=0
def tw13506914271377832517:=0
def tw3659028364287913893:=0
def tw14519608077872026486:=0
def tw15057997768907998604:=0
def tw3133686856707681230:=0
def tw14671105355243184296:=0
def tw7087520627309327310:=0
def tw5980628084569055303:=0
def tw5730558801672019015:=0
def tw6897947869206763527:=0
def tw4250421953342522675:=0
def tw17357439875131233821:=0
def tw1142563826734345815:=0
def tw3820763324922949325:=0
def tw833579874328180092:=0
def tw13239539244648552942:=0
def tw2863630223137640389:=0
def tw2995636657910871585:=0
def tw15941940038174019208:=0
def tw7666569525774442397:=0
def tw4231258588449171373:=0
def tw16023144088889690415:=0
def tw1268515825249768672:=0
def tw18435767913194973224:=0
def tw1655740151803672736:=0
def tw15748973485172342596:=0
def tw515321243170911026:=0
def tw488576201085329790:=0
def tw2753084920146734397:=0
def tw11181440368884964709:=0
def tw6667380830108661154:=0
def tw17167712855935035216:=0
def tw1210304459735353615:=0
def tw3102362836652489232:=0
def tw8337960482321392154:=0
def tw2334910699698037206:=0
def tw6992683260974190518:=0
def tw12433873082896268318:=0
def tw10707738584722107861:=0
def tw18125250082144046122:=0
def tw5293497238228099984:=0
def tw17469034932795095492:=0
def tw10242226425361870168:=0
def tw4215963191382816451:=0
def tw7267650790278483012:=0
def tw5373178766375134574:=0
def tw7677931670446510366:=0
def tw15669037674633704770:=0
def tw13342789439426685303:=0
def tw9114445360026589830:=0
def tw11819836967232737868:=0
def tw12410685966668610587:=0
def tw10587438433327129520:=0
def tw3846624949560695971:=0
def tw4368160288345040832:=0
def tw1589973987115022099:=0
def tw2944380656658904386:=0
def tw9417482023690941676:=0
def tw17045649792656557443:=0
def tw7624517426980423585:=0
def tw5057190107804646315:=0
def tw10196596787580378547:=0
def tw8244788985257718013:=0
def tw4294172952070096552:=0
def tw15049401925755707512:=0
def tw13522634491136828729:=0
def tw755001199976284717:=0
def tw16131884545266016142:=0
def tw4461156350352868797:=0
def tw11738040632042834920:=0
def tw7210762193358255953:=0
def tw8889127565246501767:=0
def tw16828804627131657511:=0
end PySem.W.Fast
open PySem PySem.W PyProof.Rows Gn
set_option maxRecDepth 100000 in
set_option maxHeartbeats 0 in
theorem PySem.Challenge.cw_fewspaces_k14_whole_parts_holds : PySem.Challenge.rw_fewspaces_k14_whole_parts.Holds := by
  w_on; o_law; k_head; (case hw => w_witness2)
  k_fill
  refine Gn.walk (l := PySem.Challenge.rw_fewspaces_k14_whole_parts) (F := K14.fns) (tk := K14.tk) (L := 26) (fun ns s => K14.law_ok ns s) rfl rfl (fun w h Y => PySem.W.kIn_of Y) ?F
  case F =>
    intro w mg fa h KX G hmg;refine' Gn.ZbH (fs := K14.fs) (zs := K14.zs) (gs := K14.gs) (sn := K14.sn) KX G hmg rfl K14.okl rfl (by decide) ?A ?Z ?Y
    case A => repeat' (first|exact FnsAt.nil|refine' FnsAt.cons ?h1 ?h2 ?h3 ?h4 ?h5 ?_; (case h1 => k_is); (case h2 => k_is); (case h3 => k_is); (case h4 => k_is); (case h5 => first|exact bd1 fun _ _ _ _ _ _ _ => rfl|exact bd2 fun _ _ _ _ _ _ _ _ => rfl|exact bd3 fun _ _ _ _ _ _ _ _ _ => rfl|exact bd4 fun _ _ _ _ _ _ _ _ _ _ => rfl|exact bd5 fun _ _ _ _ _ _ _ _ _ _ _ => rfl|exact bd6 fun _ _ _ _ _ _ _ _ _ _ _ _ => rfl))
    case Z => repeat' (first|exact ZsAt.nil|refine' ZsAt.cons ?h1 ?_; (case h1 => k_is))
    case Y => repeat' (first|exact GsAt.nil|refine' GsAt.cons ?h1 ?_; (case h1 => k_is))
