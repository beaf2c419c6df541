import PyProof.Rows.All
import Wide.All
import OpenK.AllK
import Wide.FinOn
import Lean
import PyProof.EqAt
import PyProof.EqKinds
import PyProof.TupleCall
import PySem.Str
import PyProof.CodeObj
import PyProof.ListMulAny
import PyProof.NeKinds
import PyProof.ConsumeWalk
import PyProof.CompFree
import PyProof.ZipIter
import PyProof.Draws
import PyProof.EnumMake
import PyProof.SumWalk
import PyProof.Rows.SortRuns
import KE.KSortTup
import PyProof.Rows.SortRev
import PyProof.FactsAll.tuple
import KE.KRevIter
import PyProof.FactsAll.range_2
import PyProof.ListRange
import PyProof.TupleOfSeq
import PyProof.TupleOfGen
import PyProof.CallType
import PyProof.DictWalks
import PyProof.IsiH_list
import PyProof.RulesTry
import KE.KDictOf
import PyProof.StationsW
import PyProof.Rows.Own
import PyProof.ExcBaseAll.ValueError
import KE.KTryMore
import PyProof.ExcArgsOwn
import PyProof.IsiH_tuple
import PyProof.NsDelKeeps
import PyProof.RulesAs
import KE.KLam
import PyProof.P3Eq
import OpenK.KOwn
import PySem.Challenge.RW_fewspaces_k42_bent_parts
set_option Elab.async false
set_option linter.all false
set_option compiler.extract_closed false
set_option maxRecDepth 100000
set_option maxHeartbeats 0
local macro_rules
|`(#[$x,$y])=>`(⟨$x,$y⟩)
|`(#[$x,$y,$z,*])=>`(⟨$x,$y,$z,*⟩)
abbrev T9:=@if_pos
abbrev T8:=@if_neg
abbrev T7:=@absurd
abbrev T6:=@of_decide_eq_true
abbrev T5:=@decide_eq_true
abbrev T4:=@decide_eq_false
abbrev T0:=@decide_eq_true_eq
open Option renaming some->aa,none->ae,map_eq_some_iff->cw,bind_eq_some_iff->cJ,isSome_iff_exists->cV,ne_none_iff_exists'->kt,isSome_map->nK,getD_none->ot
open Decidable renaming decide->af
open List renaming getElem?_eq_getElem->ag,mem_cons_self->ao,mem_cons_of_mem->au,length_map->aw,mem_cons->ay,getD_eq_getElem?_getD->aD,getElem?_eq_some_iff->aE,range->aH,length_cons->aJ,size_toArray->aK,replicate->aP,getElem?_map->aR,all_eq_true->aS,mem_map->aT,map_cons->aW,length_append->aX,mem_singleton->aY,pairwise_cons->aZ,getElem_mem->ba,getElem?_set_ne->bc,getElem?_set_self->bg,length_range->br,mem_append_right->bt,mem_range->bu,getElem?_append_right->bx,length_set->bz,length_take->bE,length_drop->bF,mem_append->bK,append_assoc->bL,map_append->bM,getElem?_append_left->bN,not_mem_nil->bQ,zip_cons_cons->bR,map_map->bT,pairwise_iff_getElem->bW,mem_of_mem_drop->cg,filterMap_cons->cp,drop_eq_getElem_cons->cq,append_nil->cr,length_singleton->cE,replicate_succ->cF,of_mem_zip->cH,mem_append_left->cL,mem_of_getElem?->cM,take_of_length_le->cQ,getElem?_take->cR,getElem_of_mem->cW,getElem?_range->cX,take_append_drop->cY,ext_getElem?->cZ,getElem?_replicate->c8,mem_filter->db,toArray->dg,length_replicate->dm,getElem?_eq_none->dq,nodup_cons->dy,mem_of_mem_take->dB,flatten_cons->dD,pairwise_map->dF,mem_reverse->dN,pairwise_append->dS,foldl_cons->d4,map_congr_left->ee,drop_length->eC,lookup_cons->eD,find?_cons->eM,nil_append->eN,length_zip->eO,reverse_cons->eT,zipWith->eW,any_cons->fc,pairwise_singleton->fu,getElem?_drop->fA,pairwise_reverse->fF,length_filter_le->fG,getElem_take->fI,getElem_drop->fJ,reverse_perm->fM,all_map->fW,any_eq_true->fX,take_length->fY,mem_flatMap->fZ,getElem?_zip_eq_some->gd,extract_eq_take_drop->gh,getLast?_eq_some_iff->gj,mem_map_of_mem->gp,all_cons->gv,length_nil->gB,zip_nil_right->gI,length_eq_zero_iff->gL,range_succ_eq_map->gW,nodup_append->gY,getElem?_inj->g9,zip_nil_left->hU,sum_replicate_nat->h7,flatMap_cons->h8,map_uncurry_zip_eq_zipWith->im,contains_iff_mem->io,getElem?_reverse->ip,isEmpty_toArray->iG,getElem?_mapIdx->iH,drop_append_of_le_length->iL,take_append_of_le_length->iM,length_reverse->iW,length_zipWith->iY,length_flatMap->iZ,map_nil->i9,drop_zero->ky,drop_drop->kA,drop_left->kC,take_left->kD,foldl_nil->kI,getLast?_eq_none_iff->kK,take_sublist->kM,find?_range_eq_some->k8,cons_append->lm,zipIdx_cons->lq,map_reverse->lx,ext_getElem->ly,filter_cons->lD,map_flatMap->lE,mapIdx_cons->lF,drop_of_length_le->lO,forIn_cons->lS,map_const'->lZ,mem_iff_getElem->mr,map->mv,take->mF,reverse_append->mK,contains->mT,mem_filterMap->m7,filterMap_map->nk,find?_toArray->nz,map_replicate->nC,any_eq_false->nD,getElem?_set->nL,take_add_one->nS,drop->oz,drop_append->oD,countP_cons->oE,nodup_range->oF,mem_nil_iff->oM,zipIdx_nil->oX,nodup_nil->pB,forIn_nil->pE,take_take->pG,perm_cons->pH,tail_cons->pQ,map_tail->rc,map_take->re,zip->rF
open Bool renaming false->ai,true->ak,and_eq_true->aB,false_ne_true->aN,false_eq_true->cP,eq_iff_iff->cS,or_eq_true->gC,not_false->hV,false_or->iD,not_true->iE,not_eq_true'->kR,decide_and->o7,true_and->rg
open PySem renaming wpAny_bind->aj,Value->aq,starEach->az,Shared->aA,Addr->aC,wpAny_pure->aF,model->aV,Str->bi,wpAny->bn,sizeLine->bo,foldedSetIterable->bB,mainGlobals->bG,Program->bH,World->bV,eval->bY,Heap->ck,wpAny_field->cn,wpAny_newObj_type->cu,assignEach->cy,FuncData->cA,Around->cC,wpAny_mono->cI,compareOp->cN,wpAny_holding->cU,wpAny_callSpecial?_slot->c6,sizeLine_eq->da,bootBuiltins->dv,backTo->dz,wpAny_call_entry->dA,mem_of_lookup->dG,cLine->dH,Scope->dO,wpAny_truthy_bool->dU,assign->ej,behindInMarks->eo,wpAny_of_eq->eA,swapsWith->eB,sysModules->eE,wpAny_seqItems->eG,wpAny_setField_rec->eI,Stmt->eJ,binaryOp->eR,codeAny->eS,wpAny_standAt->eX,swapsWithSole->eY,swappedStores->eZ,wpAny_rule->fe,Builtin->fg,NameKind->fm,wpAny_Call_Name_kw->fw,Obj->fD,wpAny_loadPart_at->fN,Pos->fO,call_meets->fR,wpAny_execs_cons->fV,wpAny_execs_nil->gz,wpAny_passesOwn->gA,wpAny_pyIter_tuple->gF,sliceBounds->gK,holding->gN,rawInt->gO,wpAny_pyIter_rangeiter->gP,wpAny_pyIter_list->gX,cellsFrom->iu,closureFor->iA,wpAny_updateSeq_pair->iJ,wpAny_loadPart'->iU,intKind->i4,standAt->i6,codeAny_mono->i7,wpAny_typeOf->i8,codeAmong->ki,wpAny_Name->kj,wpAny_newFunctionEnv_cells->km,IsPart->kn,wpAny_binaryOp_repeat_ref->kJ,wpAny_assign_Name->kL,getItem->kN,wpAny_sequenceKey->kO,wpAny_onRaise->kX,wpAny_eqBool_int->lc,noFill_tuple_add->lg,DictEntry->ln,wpAny_pyNext_list_item->lH,wpAny_pyNext_range_end->lI,typeIs_int->lL,IsPair->lN,richCompare_meets_room->lP,letOwnedTupleGo->lR,wpAny_isTrue_Compare1->l0,wpAny_pyNext_list_end->l4,codeAny_call_function->l6,exec_Assign_Name_used->l8,wpAny_loadName_local->md,pyIter->me,bindArgs->mi,wpAny_newFunctionEnv->mm,ZipApart->mn,codeAny_call_builtin->mz,BindsTo->mD,callerA->mE,wpAny_loadName_cell->mG,wpAny_loadName_free->mH,rangeSize_one->mO,seq_tuple_add->mP,evalPart_none->mR,attributeBase->mS,wpAny_attempt->mW,typeLookup->nq,tupleKind_room_in1->ny,concat_meets->nG,seqIndex_neg->nH,Keyword->nI,valueAt->nJ,wpAny_pyIter_enum->nQ,Sem->oa,tupleKind->oh,rule->oi,Arguments->oq,TriplesOk->ou,seqSlot_of->ow,preSum->oC,seqIndex_of->oO,keywordEach->oP,IsZip->oR,wpAny_letGo->oS,unsupported->oU,builtinsNs->pe,wpAny_call->pj,call->pA,Meets->pC,compTurn->pD,Tok->pU,bindL->rj,bindC->rm,truthy->rn,pyNext->rq,Result->rz,DefRec->rA,CmpOp->rB,ret->rC,atKey->rE
open PySem.W renaming Frag->al,katRev->bw,kia_one->cT,hideAll_none->c9,kia_tup->de,CodeHd->du,fnOf->eg,hideAll->eL,kat_len->eQ,keepIn->fk,envX->fB,kla_obj->fE,kitOne->fP,kitAny->fT,hideAll_get->gn,of_hideAll->gE,kitx_list->gQ,kitx_dict->gR,cellsFrom_some->gS,nsIn->hZ,kat_nil->iT,codeIn->kl,katRev->kZ,mg_of->k7,instObj->lQ,OpenLaw->lW,lookIn->mf,noTabs->mB,kitx_float->m9,kitx_tuple->ng,callWith_K->ni,codeRec_of->nj,kitx_none->nE,kitx_bool->nF,looks_findIn->nY,plainGet->oj,kitx_int->om,kitx_str->on,kitx_own->oo,kat_cons->oI,kat_kind->oJ,kat_yes->oZ,kat_one->o4,KatTups->o5,kat_len->pc,findIn->pi,KatLex->pI,kat_no->pJ,kat_lt->pK,findIn->pL,exmOne->pN,kla_fn->pO,tabObj->pP,tabIn->pW,WalkO->pX
open Option.some renaming inj->am
open PySem.Heap renaming get?_push_of_some->ax,lt_size->aO,get?_push_size->aQ,size_push->dR,SameBut->fU,get?_push_ne->hJ,ExtBut->iI,size_update->lw,get?_update_other->lK,get?_update_self->l7,get?_update_ne->mL
open Nat renaming le_refl->aG,lt_of_lt_of_le->bv,ne_of_lt->bD,lt_irrefl->bS,le_trans->cc,pow_le_pow_right->dC,lt_trans->dE,zero_le->dQ,lt_of_succ_lt->dZ,lt_succ_of_lt->eU,le_of_not_lt->fq,lt_of_le_of_ne->gG,le_succ->gM,mul_le_mul->gV,le_of_lt->i5,add_comm->ke,pow_succ->kg,add_assoc->kY,lt_succ_self->lu,not_lt_of_le->lz,ne_of_gt->lG,min_eq_left->lT,mul_le_mul_left->mM,mul_comm->nN,min_self->nO,le_of_eq->nU,le_add_right->oB,log2_lt->oQ,mul_assoc->pY
open PyProof.Rows renaming wpS_bind->aI,wpS_pure->aU,arrOf->bj,pendingOf->bq,callWith_type1->bP,SortSt->bU,Keyed->bZ,slot_tuple_getitem->cB,wpS_forRange->cG,envOfC->dL,wpS_mono->eV,wpS_modify->fz,elem'->gf,failedOf->gy,SortKind->gZ,wpS_get->g8,setPending->iB,AllBare->iC,seqObj->iS,entry_tuple_getitem->iV,slicePart_none->ko,args_tuple_getitem->kr,list_sort_rev->kF,subscriptTail_builtinR->lJ,wpS->l9,tupleItemsOf_->mQ,listUpdate_at->mX,boot_range->m5,seqEpoch_at->oV,IntsAre->o9,minRun'->pb,Call_->pf,Subscript_->pz,IsTup->rh
open Array renaming length_toList->aM,getElem?_toList->bC,perm_iff_toList_perm->bJ,getElem?_eq_getElem->bO,toList_append->bX,size_push->d6,toList_push->fK,size_extract->gH,size_append->g7,toList_extract->iK,toList_setIfInBounds->kB,append_empty->kG,toList_inj->lv,mem_toList_iff->mh,toList_reverse->mq,size_reverse->nB,toList_map->oG
open And renaming intro->bf
open PySem.Str renaming ofString->bh,ofString->kf
open PySem.Value renaming none->bI,bool->cx,ref->dJ,builtin->iF,int->k9,isStrOf->pT
open PySem.NameKind renaming free->cf,cell->mV
open PySem.Builtin.Range renaming rangeFitsLong->cz,rangeSize->fj
open Pure renaming pure->cD
open List.Perm renaming refl->cK,of_eq->lV,swap->mw,nil_eq->oH
open PySem.Builtin.Slice renaming slicePlaces->cO,sliceAdjust->f9,sliceApplied->kq
open True renaming intro->dk
open PySem.AutoSeq1 renaming wpAny_loadPart'->dM,sub_tuple_tuple->dP,wpAny_loadPart'->gw,idx_int->lh
open PySem.F renaming plainAttrs_list->dW,slot_tuple_iterator_next->eF,args_tuple_add_2->gq,entry_tuple_add->gJ,slot_tuple_add->gT,typeOf_object_class->iq,slot_int_rmul->iO,args_tuple_iterator_next_1->iQ,slot_zip_next->iR,entry_tuple_iterator_next->kc,args_tuple_mul_2->kw,entry_tuple_mul->kP,slot_list_append->kU,type_list_append->kW,slot_tuple_mul->lj,slot_list_index->lB,type_list_index->lC,plain_reversed_new->my,args_int_rmul_2->nM,args_zip_next_1->nP,args_tuple_lt_2->nV,entry_int_rmul->ox,entry_zip_next->oA,entry_tuple_lt->oK,fills_int_mul->oW,slot_tuple_lt->o6
open Or renaming inr->ei,inl->fS
open PySem.Builtin.SmallTypes renaming nextOf->eK
open PySem.Obj renaming mapSeq->fb,data_mapFields->nA
open Sum renaming inl->fv,inr->o8
open Int renaming emod_lt_of_pos->fC,toNat_natCast->fH,emod_nonneg->gD,emod_eq_of_lt->kS,mul_le_mul->ml,natCast_add->oY,mul_nonneg->pR
open PySem.Builtin.Tuple renaming tupleItemsOf->fQ,tupleCompareSizes->ig,tupleTooMany->ku
open PySem.Builtin.List renaming listTooLong->gu
open List.Pairwise renaming nil->gU,filter->mC
open PySem.SeqAt renaming EqAt->iz
open PySem.SeqAt.EqAt renaming same->iN,of_refs->kx,bool_bool->kH,int_str->mY,str_int->mZ,int_int->nv
open ForInStep renaming yield->iP
open Lean.Grind renaming CommRing->iX
open PyProof.Rows.IsTup renaming new->kh
open Break renaming runK->kz
open PySem.SeqAt.RcAt renaming tuples->kQ,lists_lengths->kT,lists->oy
open PySem.Around renaming frames_deeper->mj
open PySem.Builtin.Int renaming intBits->mI
open PySem.Heap.SameBut renaming update->mJ
open ForIn renaming forIn->mU
open PySem.P renaming truthy_int->m8
open PySem.Heap.IsSliceOf renaming new->nr
open Classical renaming not_not->nZ
open PySem.IsRange renaming new->oN
open PyProof.Rows.SortSt renaming mk'->pF
open Min renaming min->pS
open PySem.Code renaming compLoop->pV
namespace L2
open PySem PySem.Spec PyProof.Rows
abbrev Key:=Sum Int bi
noncomputable def Q5:Key->aq->Bool
 |.inl k,v=>aq.isInt k v
 |.inr x,v=>pT x v
noncomputable def ZfK(w:bV):Key->Int
 |.inl k=>hashInt k
 |.inr x=>hashStr w x
def ZV:∀{k:Key}{v:aq},Q5 k v=ak->(∃i t,k=fv i/\v=k9 i t)\/(∃x t,k=o8 x/\v=aq.str x t)
 |.inl i,v,h=>by
  obtain⟨t,e⟩:=aq.isInt_shape h;exact .inl #[i,t,rfl,e]
 |.inr x,v,h=>by
  obtain⟨t,e⟩:=aq.isStrOf_shape h;exact .inr #[x,t,rfl,e]
def uG(i:Int)(t:pU):Q5 (.inl i) (.int i t)=ak:=by simp[Q5,aq.isInt]
def uh(x:bi)(t:pU):Q5 (.inr x) (.str x t)=ak:=by simp[Q5,pT]
def Zd1(a b:Int):af ((fv a:Key)=fv b)=(a == b):=by grind
def ZdB(a b:bi):af ((o8 a:Key)=o8 b)=af (a=b):=by grind
def ZeB(a:Int)(b:bi):af ((fv a:Key)=o8 b)=ai:=T4 (λq=>nomatch q)
def Zez(a:bi)(b:Int):af ((o8 a:Key)=fv b)=ai:=T4 (λq=>nomatch q)
noncomputable def Yc(prog:bH)(w:bV):PySem.KeyKind prog w Key where
 is:=Q5
 hash:=ZfK w
 inj:=λv a b ha hb=>by
  rcases ZV ha with⟨i,t,rfl,rfl⟩|⟨x,t,rfl,rfl⟩
  .rcases ZV hb with⟨j,u,rfl,e⟩|⟨y,u,rfl,e⟩
   .injection e with e1 _;rw[e1]
   .exact nomatch e
  .rcases ZV hb with⟨j,u,rfl,e⟩|⟨y,u,rfl,e⟩
   .exact nomatch e
   .injection e with e1 _;rw[e1]
 byValue:=λk v h=>by
  rcases ZV h with⟨i,t,rfl,rfl⟩|⟨x,t,rfl,rfl⟩<;>rfl
 pyHash:=λhv h=>by
  rcases ZV hv with⟨i,t,rfl,rfl⟩|⟨x,t,rfl,rfl⟩
  .exact wpAny_pyHash_int h
  .exact wpAny_pyHash_str h
 eqBool:=λhu hv h=>by
  rcases ZV hu with⟨i,t,rfl,rfl⟩|⟨x,t,rfl,rfl⟩
  .rcases ZV hv with⟨j,u,rfl,rfl⟩|⟨y,u,rfl,rfl⟩
   .rw[Zd1]at h;exact lc h
   .rw[ZeB]at h;exact mY i t y u _ _ _ _ h
  .rcases ZV hv with⟨j,u,rfl,rfl⟩|⟨y,u,rfl,rfl⟩
   .rw[Zez]at h;exact mZ x t j u _ _ _ _ h
   .rw[ZdB]at h;exact wpAny_eqBool_str h
 «strs»:=λk x t v h=>by
  rcases ZV h with⟨i,u,rfl,e⟩|⟨y,u,rfl,e⟩
  .exact nomatch e
  .injection e with e1 _
   subst e1;cases v<;>rfl
def zX(prog:bH)(w:bV)(i:Int)(t:pU):(Yc prog w).is (.inl i) (.int i t)=ak:=uG i t
def za(prog:bH)(w:bV)(x:bi)(t:pU):(Yc prog w).is (.inr x) (.str x t)=ak:=uh x t
inductive V where
 |non|bl (b:Bool)|int (i:Int)|str (x:bi)|byt (b:Array UInt8)|flt (b:UInt64)|ref (a:aC)|ty (n:String)
 deriving DecidableEq
def Zx:V->aq->Prop
 |.non,u=>u=bI
 |.bl b,u=>u=cx b
 |.int i,u=>∃t,u=k9 i t
 |.str x,u=>∃t,u=aq.str x t
 |.byt b,u=>∃t,u=aq.bytes b t
 |.flt b,u=>∃t,u=aq.float b t
 |.ref a,u=>u=dJ a
 |.ty n,u=>u=aq.type n
abbrev Vals:List V->List aq->Prop:=Paired Zx
theorem Vals.length{xs:List V}{us:List aq}(r:Vals xs us):xs.length=us.length:=Paired.length r
theorem Vals.get:∀{xs:List V}{us:List aq}{i:Nat}{x:V},Vals xs us->xs[i]?=aa x->∃u,us[i]?=aa u/\Zx x u
 |_,_,_,_,.nil,e=>by simp at e
 |_,_,0,_,.cons r _,e=>by grind
 |_,_,i+1,x,.cons _ t,e=>by
  obtain⟨u,h1,h2⟩:=Vals.get t (by simpa using e)
  exact#[u,by simpa using h1,h2]
theorem Vals.set(r:Zx x u):∀{xs:List V}{us:List aq}(i:Nat),Vals xs us->Vals (xs.set i x) (us.set i u)
 |_,_,_,.nil=>.nil
 |_,_,0,.cons _ t=>.cons r t
 |_,_,i+1,.cons q t=>.cons q<|Vals.set r i t
theorem Vals.append:∀{xs ys:List V}{us ws:List aq},Vals xs us->Vals ys ws->Vals (xs++ys) (us++ws)
 |_,_,_,_,.nil,s=>s
 |_,_,_,_,.cons r t,s=>.cons r<|Vals.append t s
theorem Vals.take:∀{xs:List V}{us:List aq}(n:Nat),Vals xs us->Vals (xs.take n) (us.take n)
 |_,_,0,_=>.nil
 |_,_,_+1,.nil=>.nil
 |_,_,n+1,.cons r t=>.cons r<|Vals.take n t
theorem Vals.drop:∀{xs:List V}{us:List aq}(n:Nat),Vals xs us->Vals (xs.drop n) (us.drop n)
 |_,_,0,r=>r
 |_,_,_+1,.nil=>.nil
 |_,_,n+1,.cons _ t=>Vals.drop n t
def xx:Option V->Option aq->Prop
 |some v,aa u=>Zx v u
 |none,ae=>True
 |_,_=>False
def KV{κ:Type}:List (κ×V)->List (κ×aq)->Prop:=Paired λ(p:κ×V) (q:κ×aq)=>p.1=q.1/\Zx p.2 q.2
noncomputable def kV:Key->V
 |.inl i=>.int i
 |.inr x=>.str x
inductive HO where
 |lst (xs:List V)
 |tup (xs:List V)
 |dK (kvs:List (Key×V))|dT (kvs:List (List Key×V))
 |set (S:Int->Bool) (n:Nat)
 |ins (C dx:aC) (fs:List (bi×V))
 |own (x:aC)
 |xd (fs:List (bi×V))
 |met (f x:aC)
 |rng (lo hi:Int)
 |frz (o:fD) (u:HO)
 |tbl (ps:Array aq)
 |ext (φ:ck->Prop)
abbrev Hp:=aC->Option HO
noncomputable def upd(H:Hp)(a:aC)(o:HO):Hp:=λb=>if b=a then aa o else H b
def Zl :upd H a o a=aa o:=by unfold upd;rw[T9 rfl]
def Zj(h:b≠a):upd H a o b=H b:=by unfold upd;rw[T8 h]
def Zcs :upd (upd H a o) a u=upd H a u:=by
 funext b;unfold upd;split<;>rfl
def ZM{H:Hp}{a b:aC}{o:HO}(h:H a=aa o)(h':H b=ae):a≠b:=by grind
section
variable(P:bH)(w:bV)
def Z4(H:Hp)(h:ck)(a:aC):HO->Prop
 |.lst xs=>xs.length<=bo/\∃(its:List aq)(n:Nat),Vals xs its/\h.get? a=aa {cls:=.type "list",data:=.seq its.toArray n}
 |.tup xs=>xs.length<=bo/\∃its:List aq,Vals xs its/\rh h a its.toArray
 |.dK kvs=>kvs.length<=bo/\(a == eE)=ai/\∃vs,KV kvs vs/\h.DictOf (Yc P w) a vs
 |.dT kvs=>kvs.length<=bo/\(a == eE)=ai/\∃xs:List (List Key×aC×aq),
   Paired (λ(p:List Key×V) (q:List Key×aC×aq)=>p.1=q.1/\H q.2.1=aa (.tup<|p.1.map kV)/\Zx p.2 q.2.2) kvs xs/\
   ∃o es ep,h.get? a=aa o/\o.ExactDict/\o.data=.dict es ep/\es.toList=xs.map (entryOfKey<|oh<|Yc P w)/\(xs.map (·.1)).Nodup
 |.set S n=>h.SetOf (i4 P w) a S n
 |.ins C dx fs=>H dx=aa (.own a)/\fs.length<=1000/\dx≠a/\h.get? a=aa (lQ C dx)/\
   ∃mA,h.Ns1 dx mA/\(∀f,xx (fs.lookup f)<|mA f)/\PySem.Within mA (fs.map (·.1))
 |.own _=>∃o,h.get? a=aa o
 |.xd fs=>∃mA,h.Ns1 a mA/\∀f,xx (fs.lookup f)<|mA f
 |.rng lo hi=>∃t u v,h.get? a=aa {cls:=.type "range",data:=.fields [.int lo t,.int hi u,.int 1 v].toArray}
 |.frz o u=>h.get? a=aa o/\Z4 H h a u
 |.tbl ps=>h.get? a=aa {cls:=.none,data:=.fields ps}
 |.met f x=>h.get? a=aa (PySem.W.methodObj (.ref f)<|.ref x)
 |.ext φ=>φ h/\(∃o,h.get? a=aa o)/\∀h1 h2:ck,φ h1->(∀o,h1.get? a=aa o->h2.get? a=aa o)->φ h2
def HOk(H:Hp)(h:ck):Prop:=∀a o,H a=aa o->Z4 P w H h a o
end
theorem Z4.lt(x:Z4 P w H h a o):a<h.objs.size:=by
 cases o with|lst xs=>obtain⟨_,_,_,_,e⟩:=x;exact aO e|tup xs=>obtain⟨_,_,_,p⟩:=x;exact p.lt|dK kvs=>obtain⟨_,_,_,_,o,_,_,e,_⟩:=x;exact aO e|dT kvs=>obtain⟨_,_,_,_,o,_,_,e,_⟩:=x;exact aO e|set S n=>obtain⟨o,_,_,_,e,_⟩:=x;exact aO e|ins C dx fs=>obtain⟨_,_,_,e,_⟩:=x;exact aO e|own y=>obtain⟨_,e⟩:=x;exact aO e|xd fs=>obtain⟨_,⟨_,_,_,e,_⟩,_⟩:=x;exact aO e|rng lo hi=>obtain⟨_,_,_,e⟩:=x;exact aO e|frz ob u=>obtain⟨e,_⟩:=x;exact aO e|tbl ps=>exact aO (x)|met f y=>exact aO (x)|ext φ=>obtain⟨_,⟨_,e⟩,_⟩:=x;exact aO e
theorem Paired.mapP{α β:Type}{F G:α->β->Prop}:∀{l₁:List α}{l₂:List β},Paired F l₁ l₂->(∀a b,F a b->G a b)->Paired G l₁ l₂
 |_,_,.nil,_=>.nil
 |_,_,.cons r t,f=>.cons (f _ _ r)<|Paired.mapP t f
def Z4.stay(x:Z4 P w H h a o)(k:∀b u,(b=a\/H b=aa (.own a))->h.get? b=aa u->h'.get? b=aa u)
  (ho:∀b,H b=aa (.own a)->H' b=aa (.own a))(ht:∀b xs,H b=aa (.tup xs)->H' b=aa (.tup xs)):Z4 P w H' h' a o:=by
 induction o with
 |lst xs=>obtain⟨z,its,n,r,e⟩:=x;exact#[z,its,n,r,k _ _ (.inl rfl) e]
 |tup xs=>obtain⟨z,its,r,ob,e,c⟩:=x;exact#[z,its,r,ob,k _ _ (.inl rfl) e,c]
 |dK kvs=>obtain⟨z,y,vs,r,ob,es,ep,e,c⟩:=x;exact#[z,y,vs,r,ob,es,ep,k _ _ (.inl rfl) e,c]
 |dT kvs=>
  obtain⟨z,y,xs,r,ob,es,ep,e,c⟩:=x;exact#[z,y,xs,Paired.mapP r λp q z=>#[z.1,ht _ _ z.2.1,z.2.2],ob,es,ep,k _ _ (.inl rfl) e,c]
 |set S n=>obtain⟨ob,es,ep,t,e,c⟩:=x;exact#[ob,es,ep,t,k _ _ (.inl rfl) e,c]
 |ins C dx fs=>
  obtain⟨d,z,ne,e,mA,⟨od,es,ep,e2,c⟩,r⟩:=x;exact#[ho _ d,z,ne,k _ _ (.inl rfl) e,mA,#[od,es,ep,k _ _ (.inr d) e2,c],r]
 |own y=>obtain⟨ob,e⟩:=x;exact#[ob,k _ _ (.inl rfl) e]
 |xd fs=>obtain⟨mA,⟨od,es,ep,e,c⟩,r⟩:=x;exact#[mA,#[od,es,ep,k _ _ (.inl rfl) e,c],r]
 |rng lo hi=>obtain⟨t,u,v,e⟩:=x;exact#[t,u,v,k _ _ (.inl rfl) e]
 |frz ob u ih=>obtain⟨e,q⟩:=x;exact#[k _ _ (.inl rfl) e,ih q]
 |tbl ps=>
  have e:=x;exact k a _ (.inl rfl) e
 |met f y=>
  have e:=x;exact k a _ (.inl rfl) e
 |ext φ=>obtain⟨p,⟨o,e⟩,st⟩:=x;exact#[st _ _ p λo q=>k _ _ (.inl rfl) q,#[o,k _ _ (.inl rfl) e],st]
theorem HOk.lt(x:HOk P w H h)(e:H a=aa o):a<h.objs.size:=(x a o e).lt
def HOk.fresh(x:HOk P w H h)(e:h.objs.size<=a):H a=ae:=by
 cases q:H a with|none=>rfl|some u=>exact T7 (bv (x.lt q) e)<|bS _
def HOk.kept(x:HOk P w H h)(k:∀b u,h.get? b=aa u->h'.get? b=aa u):HOk P w H h':=λa o e=>
 (x a o e).stay (λb u _ q=>k b u q) (λ_ q=>q) λ_ _ q=>q
def HOk.laid(x:HOk P w H h)(k:∀b u,h.get? b=aa u->h'.get? b=aa u)(hp:h.objs.size<=a)(new:Z4 P w (upd H a o) h' a o):HOk P w (upd H a o) h':=λb u e=>by
 have hn:=x.fresh hp;by_cases hb:b=a
 .subst hb;rw[Zl]at e;cases e;exact new
 .rw[Zj hb]at e
  exact(x b u e).stay (λc v _ q=>k c v q) (λc q=>by rw[Zj<|ZM q hn];exact q) λc xs q=>by rw[Zj<|ZM q hn];exact q
def Rd(H:Hp)(a:aC)(u:HO):Prop:=H a=aa u\/∃o,H a=aa (.frz o u)
def Rd.ok(r:Rd H a u)(x:HOk P w H h):Z4 P w H h a u:=by
 rcases r with r|⟨o,r⟩
 .exact x a u r
 .obtain⟨_,q⟩:=x a _ r
  exact q
def Mut:Option HO->Prop
 |some (.lst _)=>True
 |some (.dK _)=>True
 |some (.dT _)=>True
 |some (.set _ _)=>True
 |some (.ins _ _ _)=>True
 |some (.ext _)=>True
 |_=>False
def HOk.write(ok:HOk P w H h)(mu:Mut (H x))(he:e=x\/H e=aa (.own x))(k:∀b u,b≠e->h.get? b=aa u->h'.get? b=aa u)(heo:∃u,h'.get? e=aa u)
  (new:Z4 P w (upd H x o') h' x o'):HOk P w (upd H x o') h':=λb u q=>by
 have nown:∀c y,H c=aa (.own y)->c≠x:=λc y r z=>by subst z;rw[r]at mu;exact mu
 have ntup:∀c xs,H c=aa (.tup xs)->c≠x:=λc xs r z=>by subst z;rw[r]at mu;exact mu
 by_cases hb:b=x
 .subst hb;rw[Zl]at q;cases q;exact new
 .rw[Zj hb]at q
  by_cases hbe:b=e
  .have q':H b=aa (.own x):=by
    rcases he with z|z
    .grind
    .rw[hbe];exact z
   rw[q]at q';cases q';obtain⟨v,hv⟩:=heo;exact#[v,by rw[hbe];exact hv]
  .refine(ok b u q).stay (λc v hc r=>k c v ?_ r) (λc r=>by rw[Zj<|nown c b r];exact r) λc xs r=>by rw[Zj<|ntup c xs r];exact r
   rcases hc with rfl|hc
   .exact hbe
   .grind
structure Un(fs ex:List aC)(H H':Hp)(h h':ck):Prop where
 keep:∀b o,h.get? b=aa o->H b=ae->b∉fs->b∉ex->h'.get? b=aa o
 slot:∀b o,h.get? b=aa o->H b=ae->b∈fs->b∉ex->∃sl,h'.get? b=aa {o with slots:=sl}
 free:∀b o,h.get? b=aa o->H b=ae->b∉ex->H' b=ae
 there:∀b o,h.get? b=aa o->b∉ex->∃o',h'.get? b=aa o'
 tups:∀b xs,H b=aa (.tup xs)->H' b=aa (.tup xs)
 frzs:∀b o u,H b=aa (.frz o u)->H' b=aa (.frz o u)
 tbls:∀b ps,H b=aa (.tbl ps)->∃more,H' b=aa (.tbl<|ps++more)
def Un.any(u:Un fs ex H H1 h h1)(q:h.get? b=aa ob)(n:H b=ae)(hx:b∉ex):∃sl,h1.get? b=aa {ob with slots:=sl}:=by
 by_cases hb:b∈fs
 .exact u.slot b ob q n hb hx
 .exact#[ob.slots,u.keep b ob q n hb hx]
def Un.kept(k:∀b u,h.get? b=aa u->h'.get? b=aa u):Un fs ex H H h h':=
 #[λb ob q _ _ _=>k b ob q,λb ob q _ _ _=>#[ob.slots,k b ob q],λ_ _ _ n _=>n,λb ob q _=>#[ob,k b ob q],λ_ _ q=>q,λ_ _ _ q=>q,λ_ ps q=>#[#[],by rw[q];simp]]
def Un.refl:Un fs ex H H h h:=Un.kept λ_ _ q=>q
def Un.laid(k:∀b u,h.get? b=aa u->h'.get? b=aa u)(hp:h.objs.size<=a)(hn:H a=ae):Un fs ex H (upd H a o) h h' where
 keep:=λb u q _ _ _=>k b u q
 slot:=λb u q _ _ _=>#[u.slots,k b u q]
 free:=λb u q n _=>by rw[Zj<|bD<|bv (aO q) hp];exact n
 there:=λb u q _=>#[u,k b u q]
 tups:=λb xs q=>by rw[Zj<|ZM q hn];exact q
 frzs:=λb u xs q=>by rw[Zj<|ZM q hn];exact q
 tbls:=λb ps q=>#[#[],by rw[Zj<|ZM q hn,q];simp]
def Un.write(mu:Mut (H x))(he:e=x\/H e=aa (.own x))(k:∀b u,b≠e->h.get? b=aa u->h'.get? b=aa u)(heo:∃u,h'.get? e=aa u):Un fs ex H (upd H x o) h h':=by
 have hx:∀b,H b=ae->b≠x:=λb n z=>by subst z;rw[n]at mu;exact mu
 have hb:∀b,H b=ae->b≠e:=λb n z=>by grind
 have hm:∀b u,H b=aa u->¬Mut (aa u)->b≠x:=λb u q nm z=>by grind
 refine#[λb u q n _ _=>k b u (hb b n) q,λb u q n _ _=>#[u.slots,k b u (hb b n) q],λb u q n _=>by rw[Zj<|hx b n];exact n,λb u q _=>?_,
  λb xs q=>by rw[Zj<|hm b _ q λz=>z];exact q,λb u xs q=>by rw[Zj<|hm b _ q λz=>z];exact q,λb ps q=>#[#[],by rw[Zj<|hm b _ q λz=>z,q];simp]]
 by_cases hbe:b=e
 .grind
 .grind
noncomputable def trk(h:ck)(H:Hp):List aC:=(aH h.objs.size).filter λa=>(H a).isSome
noncomputable def QJ(h:ck)(H:Hp):ck:=eL h<|trk h H
def u7(h:ck)(H:Hp):(QJ h H).objs.size=h.objs.size:=PySem.W.hideAll_size _ _
def qN(e:h.get? b=aa o)(n:H b=ae):(QJ h H).get? b=aa o:=
 gn _ e λhm=>by
  have q:=(db.mp hm).2;rw[n]at q;simp at q
def Zb6(e:(QJ h H).get? b=aa o):h.get? b=aa o/\H b=ae:=by
 have e':=gE (trk h H) e;refine#[e',?_];cases q:H b with
 |none=>rfl
 |some x=>
  have hm:b∈trk h H:=db.mpr #[bu.mpr<|aO e',by simp[q]]
  have z:(QJ h H).get? b=ae:=c9 (trk h H) hm;rw[z]at e;cases e
structure Mod(K:al)(mg:bi->Option aq)(base:ck):Prop where
 kin:K.In base
 glob:base.Ns bG mg
 blt:∃mb,base.Ns pe mb/\∀x:bi,x≠"__name__"->mb x=dv x
 nolimit:base.NoLimit
structure Cx where
 prog:bH
 w:bV
 K:al
 mg:bi->Option aq
 base:ck
 A:cC
 N:List bi
 s₀:aA
 H₀:Hp
 env:Env
 outer:List Env
 stack:List Env
 ex:List aC
 fn:bi->Bool
 calm:Bool
 pn:List (aC×fD)
 xe:aq->aA->Prop
noncomputable def frs(l:List Env):List aC:=l.filterMap (·.frame)
noncomputable abbrev Cx.fs(X:Cx):List aC:=frs X.outer
def Vis(sc:dO)(x:bi):Prop:=sc.names.lookup x=aa .local\/sc.names.lookup x=aa .cell\/sc.names.lookup x=aa .free
def Loc(sc:dO)(x:bi):Prop:=sc.names.lookup x=aa .local\/sc.names.lookup x=aa .cell
def Look(env:Env)(h:ck)(m:bi->Option aq)(x:bi)(u:aq):Prop:=
 (env.kindOf x=aa .local/\m x=aa u)\/((env.kindOf x=aa .cell\/env.kindOf x=aa .free)/\∃c,env.cells.lookup x=aa c/\h.IsCell c (aa u))
structure Cx.Ok(X:Cx):Prop where
 mod:Mod X.K X.mg X.base
 kind:X.env.scope.kind=.function
 glob:X.env.globals=bG
 blt:X.env.builtins=pe
 above:X.s₀.heap.objs.size<=X.env.locals
 inj:∀x y c,X.env.cells.lookup x=aa c->X.env.cells.lookup y=aa c->x=y
 has:∀x,(X.env.kindOf x=aa .cell\/X.env.kindOf x=aa .free)->∃c,X.env.cells.lookup x=aa c
 cab:∀x c,X.fn x=ak->X.env.cells.lookup x=aa c->X.s₀.heap.objs.size<=c
 hd:X.calm=ak->X.A.handled=ae
 frames:X.A.frames=aa X.stack
 stk:X.stack=X.outer\/(X.stack=X.env::X.outer/\X.env.frame=aa X.env.locals)
 exf:∀b∈X.ex,b≠X.env.locals/\∀x c,X.env.cells.lookup x=aa c->c≠b
 bs:∀b o,X.base.get? b=aa o->X.s₀.heap.get? b=aa o/\X.H₀ b=ae
 bsz:X.base.objs.size<=X.s₀.heap.objs.size
 noex:∀b o,X.base.get? b=aa o->b∉X.ex
 exfs:∀b∈X.ex,b∉X.fs
 funs:X.s₀.heap.FunFrames X.base X.outer
 frf:∀b∈X.fs,X.H₀ b=ae
structure Inv(X:Cx)(pq:List (aC×fD))(σ:List (Option V))(H:Hp)(s:aA):Prop where
 ok:X.Ok
 os:s.os=X.s₀.os
 bare:iC s.gens
 base:Un X.fs X.ex X.H₀ H X.s₀.heap s.heap
 loc:∃m,s.heap.Ns X.env.locals m/\∀(i:Nat)(x:bi)(v:V),X.N[i]?=aa x->σ[i]?=aa (aa v)->Vis X.env.scope x->∃u,Zx v u/\Look X.env s.heap m x u
 cell:∀x c,X.env.cells.lookup x=aa c->∃v,s.heap.IsCell c v
 free:H X.env.locals=ae
 freeC:∀x c,X.env.cells.lookup x=aa c->H c=ae
 pin:∀p∈X.pn++pq,s.heap.get? p.1=aa p.2/\H p.1=ae/\p.1≠X.env.locals/\p.1∉X.fs/\∀v,p.2.data≠.cell v
 hok:HOk X.prog X.w H s.heap
 len:σ.length=X.N.length
section
variable{X:Cx}{pq:List (aC×fD)}{σ:List (Option V)}{H H':Hp}{s:aA}{h':ck}
def Cx.Ok.nofr(ok:X.Ok)(e:X.base.get? b=aa o):b∉X.fs:=λhb=>by
 have:=(ok.funs.mem hb).1;rw[e]at this;cases this
theorem Inv.bs(I:Inv X pq σ H s):∀b o,X.base.get? b=aa o->s.heap.get? b=aa o/\H b=ae:=λb o e=>
 #[I.base.keep b o (I.ok.bs b o e).1 (I.ok.bs b o e).2 (I.ok.nofr e)<|I.ok.noex b o e,I.base.free b o (I.ok.bs b o e).1 (I.ok.bs b o e).2<|I.ok.noex b o e]
def Inv.bk(I:Inv X pq σ H s):∀b o,X.base.get? b=aa o->s.heap.get? b=aa o:=λb o e=>(I.bs b o e).1
theorem Inv.mod(I:Inv X pq σ H s):Mod X.K X.mg X.base:=I.ok.mod
def Inv.kIn(I:Inv X pq σ H s):X.K.In s.heap:=I.ok.mod.kin.keeps I.bk
theorem Inv.lt(I:Inv X pq σ H s):X.env.locals<s.heap.objs.size:=let #[_,hn,_]:=I.loc;hn.lt
def Inv.sz(I:Inv X pq σ H s):X.s₀.heap.objs.size<=s.heap.objs.size:=cc I.ok.above<|i5 I.lt
def Inv.nofs(I:Inv X pq σ H s)(h:s.heap.objs.size<=a):a∉X.fs:=λhb=>by
 obtain⟨_,o,ho,_⟩:=I.ok.funs.mem hb;exact T7 (bv (aO ho)<|cc I.sz h)<|bS _
def Inv.cne(I:Inv X pq σ H s):∀x c,X.env.cells.lookup x=aa c->c≠X.env.locals:=λx c e z=>by
 obtain⟨v,o,ho,hd⟩:=I.cell x c e;obtain⟨m,⟨o',es,ep,ho',hd',_⟩,_⟩:=I.loc;rw[z,ho']at ho;cases ho;rw[hd']at hd;cases hd
theorem Inv.funs(I:Inv X pq σ H s):s.heap.FunFrames X.base X.outer:=by
 have all:∀(l:List Env),(∀b∈frs l,b∈X.fs)->X.s₀.heap.FunFrames X.base l->s.heap.FunFrames X.base l:=by
  intro l
  induction l with
  |nil=>intro _ _;trivial
  |cons env r ih=>
   intro hs hl;obtain⟨hk,⟨L,o,hf,hn,ho,hd⟩,hr⟩:=hl;have hL:=hs L (by unfold frs;rw[cp,hf];exact ao)
   obtain⟨sl,e⟩:=I.base.slot L o ho (I.ok.frf L hL) hL λz=>I.ok.exfs L z hL
   exact#[hk,#[L,_,hf,hn,e,hd],ih (λb hb=>hs b<|by unfold frs;rw[cp,hf];exact au _ hb) hr]
 exact all X.outer (λ_ hb=>hb) I.ok.funs
theorem Inv.stack(I:Inv X pq σ H s):s.heap.FunFrames X.base X.stack:=by
 rcases I.ok.stk with e|⟨e,hf⟩
 .rw[e];exact I.funs
 .rw[e]
  obtain⟨m,hn,_⟩:=I.loc;refine .cons (by rw[I.ok.kind];decide) hf hn ?_ I.funs
  exact ck.get?_none_of_le<|cc I.ok.bsz I.ok.above
theorem Inv.stkSub(I:Inv X pq σ H s):∀b∈frs X.stack,b∈X.env.locals::X.fs:=λb hb=>by
 rcases I.ok.stk with e|⟨e,hf⟩
 .grind
 .rw[e]at hb
  unfold frs at hb;rw[cp,hf]at hb;exact hb
def Inv.stkFree(I:Inv X pq σ H s):∀b∈frs X.stack,H b=ae:=λb hb=>by
 rcases ay.mp (I.stkSub b hb)with e|hb
 .rw[e];exact I.free
 .obtain⟨_,o,ho,_⟩:=I.ok.funs.mem hb
  exact I.base.free b o ho (I.ok.frf b hb) λz=>I.ok.exfs b z hb
theorem Inv.step{g':Array GenState}{t':Nat}{d':Drawn}{ch:List aC}(I:Inv X pq σ H s)
  (hch:∀b∈ch,(b∈X.ex\/X.s₀.heap.objs.size<=b)/\b≠X.env.locals/\(∀x c,X.env.cells.lookup x=aa c->c≠b)/\∀p∈X.pn++pq,p.1≠b)
  (keep:∀b o,b≠X.env.locals->b∉X.fs->b∉ch->s.heap.get? b=aa o->H b=ae->h'.get? b=aa o)
  (slot:∀b o,b≠X.env.locals->b∈X.fs->b∉ch->s.heap.get? b=aa o->H b=ae->∃sl,h'.get? b=aa {o with slots:=sl})(free:∀b o,b∉ch->s.heap.get? b=aa o->H b=ae->H' b=ae)
  (there:∀b o,b∉ch->s.heap.get? b=aa o->∃o',h'.get? b=aa o')
  (tups:∀b xs,H b=aa (.tup xs)->H' b=aa (.tup xs))(frzs:∀b o u,H b=aa (.frz o u)->H' b=aa (.frz o u))(tbls:∀b ps,H b=aa (.tbl ps)->∃more,H' b=aa (.tbl<|ps++more))
  (ns:∀m,s.heap.Ns X.env.locals m->h'.Ns X.env.locals m)(hok:HOk X.prog X.w H' h')(hg:iC g') :
  Inv X pq σ H' {s with heap:=h',gens:=g',drawn:=d',toks:=t' }:=by
 have neL:∀b o,X.s₀.heap.get? b=aa o->b≠X.env.locals:=λb o e=>bD<|bv (aO e) I.ok.above
 have neC:∀b o,X.s₀.heap.get? b=aa o->b∉X.ex->b∉ch:=λb o e hx hb=>by
  rcases(hch b hb).1 with z|z
  .exact hx z
  .exact T7 (bv (aO e) z)<|bS _
 have cellK:∀x c,X.env.cells.lookup x=aa c->∀v,s.heap.IsCell c v->h'.IsCell c v:=by
  rintro x c e v ⟨o,ho,hd⟩;have nch:=λz=>(hch c z).2.2.1 x c e rfl
  by_cases hc:c∈X.fs
  .obtain⟨sl,q⟩:=slot c o (I.cne x c e) hc nch ho (I.freeC x c e)
   exact#[_,q,hd]
  .exact#[o,keep c o (I.cne x c e) hc nch ho<|I.freeC x c e,hd]
 refine#[I.ok,I.os,hg,#[λb o e n hb hx=>?_,λb o e n hb hx=>?_,λb o e n hx=>?_,λb o e hx=>?_,λb xs e=>tups b xs<|I.base.tups b xs e,λb o xs e=>frzs b o xs<|I.base.frzs b o xs e,λb ps e=>?_],?_,λx c e=>?_,?_,λx c e=>?_,λp hp=>?_,hok,I.len]
 .exact keep b o (neL b o e) hb (neC b o e hx) (I.base.keep b o e n hb hx)<|I.base.free b o e n hx
 .obtain⟨sl,e1⟩:=I.base.slot b o e n hb hx
  obtain⟨sl',e2⟩:=slot b _ (neL b o e) hb (neC b o e hx) e1<|I.base.free b o e n hx;exact#[sl',e2]
 .obtain⟨o',e1⟩:=I.base.there b o e hx
  exact free b o' (neC b o e hx) e1<|I.base.free b o e n hx
 .obtain⟨o',e1⟩:=I.base.there b o e hx
  exact there b o' (neC b o e hx) e1
 .obtain⟨m1,e1⟩:=I.base.tbls b ps e
  obtain⟨m2,e2⟩:=tbls b _ e1;exact#[m1++m2,by grind]
 .obtain⟨m,hn,hl⟩:=I.loc
  refine#[m,ns m hn,λi x v e1 e2 e3=>?_]
  obtain⟨u,r,l⟩:=hl i x v e1 e2 e3;refine#[u,r,?_];rcases l with l|⟨k,c,e,z⟩
  .exact .inl l
  .exact .inr #[k,c,e,cellK x c e _ z]
 .obtain⟨v,z⟩:=I.cell x c e
  exact#[v,cellK x c e v z]
 .obtain⟨m,⟨o,_,_,ho,_⟩,_⟩:=I.loc
  exact free _ o (λz=>(hch _ z).2.1 rfl) ho I.free
 .obtain⟨v,o,ho,hd⟩:=I.cell x c e
  exact free c o (λz=>(hch c z).2.2.1 x c e rfl) ho<|I.freeC x c e
 .obtain⟨e,n,ne,nf,d⟩:=I.pin p hp
  have nch:=λz=>(hch p.1 z).2.2.2 p hp rfl
  exact#[keep p.1 p.2 ne nf nch e n,free p.1 p.2 nch e n,ne,nf,d]
def Inv.un{t':Nat}(I:Inv X pq σ H s)(u:Un X.fs [] H H' s.heap h')(hok:HOk X.prog X.w H' h'):Inv X pq σ H' {s with heap:=h',toks:=t' }:=by
 obtain⟨m,⟨o,es,ep,ho,r⟩,_⟩:=id I.loc;obtain⟨sl,hL⟩:=u.any ho I.free (by simp)
 exact I.step (g':=s.gens) (d':=s.drawn) (ch:=[]) (λ_ z=>nomatch z) (λb o _ hb _ e n=>u.keep b o e n hb<|by simp) (λb o _ hb _ e n=>u.slot b o e n hb<|by simp) (λb o _ e n=>u.free b o e n<|by simp) (λb o _ e=>u.there b o e<|by simp) u.tups u.frzs u.tbls (λm' hm=>by
  obtain⟨o',es',ep',ho',r'⟩:=hm;rw[ho]at ho';cases ho';exact#[_,es',ep',hL,r']) hok I.bare
def Inv.call{g':Array GenState}{t':Nat}{d':Drawn}{ch:List aC}(I:Inv X pq σ H s)(u:Un (frs X.stack) ch H H' s.heap h')(hok:HOk X.prog X.w H' h')(hg:iC g')
  (hch:∀b∈ch,(b∈X.ex\/X.s₀.heap.objs.size<=b)/\b≠X.env.locals/\(∀x c,X.env.cells.lookup x=aa c->c≠b)/\∀p∈X.pn++pq,p.1≠b) :
  Inv X pq σ H' {s with heap:=h',gens:=g',drawn:=d',toks:=t' }:=by
 obtain⟨m,⟨o,es,ep,ho,r⟩,_⟩:=id I.loc;obtain⟨sl,hL⟩:=u.any ho I.free λz=>(hch _ z).2.1 rfl
 exact I.step hch (λb o hL hb hc e n=>u.keep b o e n (λz=>(ay.mp<|I.stkSub b z).elim hL hb) hc) (λb o _ _ hc e n=>u.any e n hc) (λb o hc e n=>u.free b o e n hc) (λb o hc e=>u.there b o e hc) u.tups u.frzs u.tbls (λm' hm=>by
  obtain⟨o',es',ep',ho',r'⟩:=hm;rw[ho]at ho';cases ho';exact#[_,es',ep',hL,r']) hok hg
theorem Inv.turned{t':Nat}{it:aC}(I:Inv X pq σ H s)(k:∀b o,b≠it->s.heap.get? b=aa o->h'.get? b=aa o)(hn:H it=ae)(hL:it≠X.env.locals)
  (h1:it∈X.ex\/X.s₀.heap.objs.size<=it)(h2:∀x c,X.env.cells.lookup x=aa c->c≠it)(h3:∀p∈X.pn++pq,p.1≠it):Inv X pq σ H {s with heap:=h',toks:=t' }:=by
 have nit:∀b u,H b=aa u->b≠it:=λb u e z=>by grind
 refine I.step (g':=s.gens) (d':=s.drawn) (ch:=[it]) (λb hb=>?_) (λb o _ _ hc e _=>k b o (λz=>hc<|by simp[z]) e) (λb o _ _ hc e _=>#[o.slots,k b o (λz=>hc<|by simp[z]) e]) (λ_ _ _ _ n=>n)
  (λb o hc e=>#[o,k b o (λz=>hc<|by simp[z]) e]) (λ_ _ e=>e) (λ_ _ _ e=>e) (λb ps e=>#[#[],by rw[e];simp]) (λm hm=>?_) (λb u e=>?_) I.bare
 .grind
 .obtain⟨o,es,ep,ho,r⟩:=hm
  exact#[o,es,ep,k _ o (Ne.symm hL) ho,r]
 .refine(I.hok b u e).stay (λc v hc q=>k c v ?_ q) (λ_ q=>q) λ_ _ q=>q
  rcases hc with z|z
  .grind
  .exact nit c _ z
def Inv.tok(I:Inv X pq σ H s)(t:Nat):Inv X pq σ H {s with toks:=t}:=I.un (h':=s.heap) (t':=t) Un.refl I.hok
theorem Inv.kept(I:Inv X pq σ H s)(k:∀b u,s.heap.get? b=aa u->h'.get? b=aa u):Inv X pq σ H {s with heap:=h',toks:=t' }:=I.un (Un.kept k)<|I.hok.kept k
theorem Inv.laid(I:Inv X pq σ H s)(k:∀b u,s.heap.get? b=aa u->h'.get? b=aa u)(hp:s.heap.objs.size<=a)(new:Z4 X.prog X.w (upd H a o) h' a o) :
  Inv X pq σ (upd H a o) {s with heap:=h',toks:=t' }:=I.un (Un.laid k hp<|I.hok.fresh hp)<|I.hok.laid k hp new
theorem Inv.write(I:Inv X pq σ H s)(mu:Mut (H x))(he:e=x\/H e=aa (.own x))(k:∀b u,b≠e->s.heap.get? b=aa u->h'.get? b=aa u)(heo:∃u,h'.get? e=aa u)
  (new:Z4 X.prog X.w (upd H x o) h' x o):Inv X pq σ (upd H x o) {s with heap:=h',toks:=t' }:=I.un (Un.write mu he k heo)<|I.hok.write mu he k heo new
def Inv.pins_of(I:Inv X pq σ H s)(h:∀p∈pins',s.heap.get? p.1=aa p.2/\H p.1=ae/\p.1≠X.env.locals/\p.1∉X.fs/\∀v,p.2.data≠.cell v):Inv X pins' σ H s:=
 #[I.ok,I.os,I.bare,I.base,I.loc,I.cell,I.free,I.freeC,λp hp=>(bK.mp hp).elim (λz=>I.pin p<|cL _ z)<|h p,I.hok,I.len]
def Qb{N:List bi}(hN:N.Nodup){i j:Nat}{x:bi}(a:N[i]?=aa x)(b:N[j]?=aa x):i=j:=by
 obtain⟨h1,e1⟩:=aE.mp a;obtain⟨h2,e2⟩:=aE.mp b;exact(List.getElem_inj hN).mp<|e1.trans e2.symm
theorem VC{M:Model}{A:cC}{E:aq->aA->Prop}{i:Nat}{x:bi}{v:V}{u:aq}{Q:Unit->aA->Prop}(I:Inv X pq σ H s)(hN:X.N.Nodup)(hi:X.N[i]?=aa x)(hx:Loc X.env.scope x)(r:Zx v u)
  (h:∀s',Inv X pq (σ.set i<|aa v) H s'->(∃a,fU a s.heap s'.heap/\(a=X.env.locals\/X.env.cells.lookup x=aa a))->Q () s')(hf:X.fn x=ak\/X.env.scope.names.lookup x=aa .local:=by first|exact .inl rfl|exact .inr rfl|assumption):bn M A (storeName X.env x u) Q E s:=by
 obtain⟨m,hn,hl⟩:=id I.loc;have hcls:(X.env.scope.kind == .class||(X.env.scope.kind == .module&&X.env.locals != X.env.globals))=ai:=by rw[I.ok.kind];rfl
 have hiσ:i<σ.length:=by rw[I.len];exact(aE.mp hi).1
 have cne:=I.cne;have tracked:∀{a:aC}{h':ck},(∃o,s.heap.get? a=aa o/\H a=ae)->fU a s.heap h'->HOk X.prog X.w H h':=λ{a h'} ha hs b ob e=>by
  obtain⟨_,_,hfree⟩:=ha;refine(I.hok b ob e).stay (λc w' hc q=>(hs.2 c ?_).trans q) (λ_ q=>q) λ_ _ q=>q
  rintro rfl
  rcases hc with rfl|hc
  .rw[hfree]at e;cases e
  .rw[hfree]at hc;cases hc
 rcases hx with hk|hk
 .refine wpAny_storeName_local hk hn (λh' hn' hs=>?_) hcls
  obtain⟨oL,_,_,hoL,_⟩:=id hn;refine h _ #[I.ok,I.os,I.bare,#[λb o e n hb hx=>?_,λb o e n hb hx=>?_,I.base.free,λb o e hx=>?_,I.base.tups,I.base.frzs,I.base.tbls],#[_,hn',λj y v' e1 e2 e3=>?_],λy c e=>?_,I.free,I.freeC,λp hp=>?_,tracked #[oL,hoL,I.free] hs,by simpa using I.len] #[_,hs,.inl rfl]
  .exact(hs.2 b<|bD<|bv (aO e) I.ok.above).trans<|I.base.keep b o e n hb hx
  .obtain⟨sl,e1⟩:=I.base.slot b o e n hb hx
   exact#[sl,(hs.2 b<|bD<|bv (aO e) I.ok.above).trans e1]
  .obtain⟨o',e1⟩:=I.base.there b o e hx
   exact#[o',(hs.2 b<|bD<|bv (aO e) I.ok.above).trans e1]
  .by_cases hj:j=i
   .subst hj
    rw[hi]at e1;cases e1;rw[bg hiσ]at e2;cases e2;exact#[u,r,.inl #[hk,by simp]]
   .rw[bc<|Ne.symm hj]at e2
    obtain⟨u',r',q⟩:=hl j y v' e1 e2 e3;refine#[u',r',?_];rcases q with⟨k,e⟩|⟨k,c,e,z⟩
    .refine .inl #[k,?_]
     have:y≠x:=λe=>hj<|Qb hN e1<|e▸hi
     simp[this,e]
    .exact .inr #[k,c,e,z.sameBut hs<|cne y c e]
  .obtain⟨w',z⟩:=I.cell y c e
   exact#[w',z.sameBut hs<|cne y c e]
  .obtain⟨e,n,ne,nf,d⟩:=I.pin p hp
   exact#[(hs.2 p.1 ne).trans e,n,ne,nf,d]
 .have hfn:X.fn x=ak:=by
   rcases hf with z|z
   .exact z
   .grind
  obtain⟨c,hc⟩:=I.ok.has x<|.inl hk;obtain⟨w',z⟩:=I.cell x c hc;refine wpAny_storeName_cell I.ok.kind hk hc z λh' hc' hs=>?_
  obtain⟨oc,hoc,hocd⟩:=id z;refine h {s with heap:=h' } #[I.ok,I.os,I.bare,#[λb o e n hb hx=>?_,λb o e n hb hx=>?_,I.base.free,λb o e hx=>?_,I.base.tups,I.base.frzs,I.base.tbls],#[m,hn.sameBut hs<|Ne.symm<|cne x c hc,λj y v' e1 e2 e3=>?_],λy c' e=>?_,I.free,I.freeC,λp hp=>?_,tracked #[oc,hoc,I.freeC x c hc] hs,by simpa using I.len] #[c,hs,.inr hc]
  .exact(hs.2 b<|bD<|bv (aO e)<|I.ok.cab x c hfn hc).trans<|I.base.keep b o e n hb hx
  .obtain⟨sl,e1⟩:=I.base.slot b o e n hb hx
   exact#[sl,(hs.2 b<|bD<|bv (aO e)<|I.ok.cab x c hfn hc).trans e1]
  .obtain⟨o',e1⟩:=I.base.there b o e hx
   exact#[o',(hs.2 b<|bD<|bv (aO e)<|I.ok.cab x c hfn hc).trans e1]
  .by_cases hj:j=i
   .subst hj
    rw[hi]at e1;cases e1;rw[bg hiσ]at e2;cases e2;exact#[u,r,.inr #[.inl hk,c,hc,hc']]
   .rw[bc<|Ne.symm hj]at e2
    obtain⟨u',r',q⟩:=hl j y v' e1 e2 e3;refine#[u',r',?_];rcases q with q|⟨k,c',e,z'⟩
    .exact .inl q
    .refine .inr #[k,c',e,z'.sameBut hs ?_]
     rintro rfl
     exact hj<|Qb hN e1<|I.ok.inj _ _ _ e hc▸hi
  .by_cases hcc:c'=c
   .grind
   .obtain⟨w2,z2⟩:=I.cell y c' e
    exact#[w2,z2.sameBut hs hcc]
  .obtain⟨e,n,ne,nf,d⟩:=I.pin p hp
   refine#[(hs.2 p.1 ?_).trans e,n,ne,nf,d];intro q;rw[q,hoc]at e;have q':=am e;exact d w' (by grind)
def UC{E:aq->aA->Prop}{Q:Unit->aA->Prop}(I:Inv X pq σ H s)(hN:X.N.Nodup)(hi:X.N[i]?=aa x)(hx:Loc X.env.scope x)(r:Zx v u)
  (h:∀s',Inv X pq (σ.set i<|aa v) H s'->Q () s')(hf:X.fn x=ak\/X.env.scope.names.lookup x=aa .local:=by first|exact .inl rfl|exact .inr rfl|assumption):bn M A (storeName X.env x u) Q E s:=
 VC I hN hi hx r (λs' I' _=>h s' I') hf
def Inv.call'(I:Inv X pq σ H s)(ho:s'.os=s.os)(u:Un (frs X.stack) ch H H' s.heap s'.heap)(hok:HOk X.prog X.w H' s'.heap)(hg:iC s'.gens)
  (hch:∀b∈ch,(b∈X.ex\/X.s₀.heap.objs.size<=b)/\b≠X.env.locals/\(∀x c,X.env.cells.lookup x=aa c->c≠b)/\∀p∈X.pn++pq,p.1≠b):Inv X pq σ H' s':=by
 obtain⟨h',g',d',t',o'⟩:=s';have e:=ho;subst e;exact I.call (g':=g') (t':=t') (d':=d') u hok hg hch
end
abbrev XK:=aq->Option aC->Hp->Prop
abbrev St:=List<|Option V
abbrev VK:=V->Hp->Prop
abbrev TE:=St->Hp->VK->Prop
abbrev TT:=St->Hp->(Bool->Hp->Prop)->Prop
abbrev TA:=St->Hp->(List V->Hp->Prop)->Prop
structure Ends where
 nx:St->Hp->Prop
 rt:VK
 bk:St->Hp->Prop:=λ_ _=>False
 ct:St->Hp->Prop:=λ_ _=>False
abbrev TS:=Ends->St->Hp->Prop
def EP(X:Cx)(pq:List (aC×fD))(σ:St)(Q:VK)(u:aq)(s':aA):Prop:=∃v H',Inv X pq σ H' s'/\Zx v u/\Q v H'
def TP(X:Cx)(pq:List (aC×fD))(σ:St)(Q:Bool->Hp->Prop)(b:Bool)(s':aA):Prop:=∃H',Inv X pq σ H' s'/\Q b H'
def AP(X:Cx)(pq:List (aC×fD))(σ:St)(Q:List V->Hp->Prop)(us:List aq)(s':aA):Prop:=∃vs H',Inv X pq σ H' s'/\Vals vs us/\Q vs H'
def SP(X:Cx)(pq:List (aC×fD))(D:Ends)(f:Flow)(s':aA):Prop:=
 match f with
 |.next=>∃σ' H',Inv X pq σ' H' s'/\D.nx σ' H'
 |.brk=>∃σ' H',Inv X pq σ' H' s'/\D.bk σ' H'
 |.cont=>∃σ' H',Inv X pq σ' H' s'/\D.ct σ' H'
 |.ret u=>∃v σ' H',Inv X pq σ' H' s'/\Zx v u/\D.rt v H'
def PE(X:Cx)(e:Expr)(t:TE):Prop:=
 ∀(pq:List (aC×fD))(s:aA)(σ:St)(H:Hp)(Q:VK),Inv X pq σ H s->t σ H Q->bn (aV X.prog X.w) X.A (bY e X.env) (EP X pq σ Q) X.xe s
def PT(X:Cx)(e:Expr)(t:TT):Prop:=
 ∀(pq:List (aC×fD))(s:aA)(σ:St)(H:Hp)(Q:Bool->Hp->Prop),Inv X pq σ H s->t σ H Q->bn (aV X.prog X.w) X.A (isTrue e X.env<|bY e X.env) (TP X pq σ Q) X.xe s
def PW(X:Cx)(e:Expr)(t:TT):Prop:=
 ∀(whole:oa aq)(pq:List (aC×fD))(s:aA)(σ:St)(H:Hp)(Q:Bool->Hp->Prop),Inv X pq σ H s->t σ H Q->bn (aV X.prog X.w) X.A (isTrue e X.env whole) (TP X pq σ Q) X.xe s
def PW.pt(h:PW X e t):PT X e t:=h _
def PA(X:Cx)(es:List Expr)(t:TA):Prop:=
 ∀(pos:fO)(pq:List (aC×fD))(s:aA)(σ:St)(H:Hp)(Q:List V->Hp->Prop),Inv X pq σ H s->t σ H Q->bn (aV X.prog X.w) X.A (spliced<|dz pos<|az es X.env) (AP X pq σ Q) X.xe s
def PS(X:Cx)(st:eJ)(t:TS):Prop:=
 ∀(pq:List (aC×fD))(s:aA)(σ:St)(H:Hp)(D:Ends),Inv X pq σ H s->t D σ H->bn (aV X.prog X.w) X.A (exec st X.env) (SP X pq D) X.xe s
def PSs(X:Cx)(st:List eJ)(t:TS):Prop:=
 ∀(pq:List (aC×fD))(s:aA)(σ:St)(H:Hp)(D:Ends),Inv X pq σ H s->t D σ H->bn (aV X.prog X.w) X.A (execs st X.env) (SP X pq D) X.xe s
def thn{α:Type}{t:oa α}{Q Q':α->aA->Prop}{M:Model}{A:cC}{E:aq->aA->Prop}{s:aA}(h:bn M A t Q E s)(hQ:∀a s,Q a s->Q' a s):bn M A t Q' E s:=cI h hQ λ_ _ x=>x
def GC(i:Nat):TE:=λσ H Q=>∃v,σ[i]?=aa (aa v)/\Q v H
def tC(v:V):TE:=λ_ H Q=>Q v H
def Yk(hN:X.N[i]?=aa x)(hv:Vis X.env.scope x)(hd:(x == ("__debug__" : bi))=ai:=by decide)(hcd:(x == ("__classdict__" : bi))=ai:=by decide):PE X (.Name x pos) (GC i):=by
 intro pq s σ H Q I h;obtain⟨v,e,h⟩:=h;obtain⟨m,hn,hl⟩:=I.loc;obtain⟨u,r,l⟩:=hl i x v hN e hv;have fin:EP X pq σ Q u s:=#[v,H,I,r,h];rcases l with⟨hk,hm⟩|⟨hk,c,hc,hcell⟩
 .exact kj (md I.ok.kind hk hn hm fin) hd
 .rcases hk with hk|hk
  .exact kj (mG I.ok.kind hk hc hcell fin) hd
  .exact kj (mH I.ok.kind hk hc hcell fin hcd) hd
def WG{i j pos}:PE X (.Constant (.int i) j pos) (tC<|.int i):=λ_ _ _ H _ I h=>wpAny_Constant_int #[.int i,H,I.tok _,#[_,rfl],h]
def qT{b j pos}:PE X (.Constant (.bool b) j pos) (tC<|.bl b):=λ_ _ _ H _ I h=>Constant_bool #[.bl b,H,I,rfl,h]
def yH{j pos}:PE X (.Constant .none j pos) (tC .non):=λ_ _ _ H _ I h=>Constant_none #[.non,H,I,rfl,h]
def Gd{x j pos}:PE X (.Constant (.str x) j pos) (tC<|.str x):=λ_ _ _ H _ I h=>Calls.Constant_str #[.str x,H,I.tok _,#[_,rfl],h]
def Gl(X:Cx)(x:bi):Prop:=X.env.kindOf x=aa .globalImplicit
def WP{E:aq->aA->Prop}{Q:aq->aA->Prop}(I:Inv X pq σ H s)(hg:Gl X x)(hm:X.mg x=aa u)(h:Q u s)
  (hd:(x == ("__debug__" : bi))=ai:=by decide):bn (aV X.prog X.w) X.A (bY (.Name x pos) X.env) Q E s:=
 Calls.Name_function_global I.ok.kind hg (Calls.loadGlobal_global (by rw[I.ok.glob];exact I.mod.glob.keeps I.bk) hm h) hd
def Xc{E:aq->aA->Prop}{Q:aq->aA->Prop}(I:Inv X pq σ H s)(hg:Gl X x)(hm:X.mg x=ae)(hv:dv x=aa u)(h:Q u s)
  (hn:x≠"__name__":=by decide)(hd:(x == ("__debug__" : bi))=ai:=by decide):bn (aV X.prog X.w) X.A (bY (.Name x pos) X.env) Q E s:=by
 obtain⟨mb,h1,h2⟩:=I.mod.blt;exact Calls.Name_function_global I.ok.kind hg (Calls.loadGlobal_builtin (by rw[I.ok.glob];exact I.mod.glob.keeps I.bk) hm (by rw[I.ok.blt];exact h1.keeps I.bk) ((h2 x hn).trans hv) h) hd
def ZcN(hg:Gl X x)(hm:X.mg x=aa u)(r:Zx v u)(hd:(x == ("__debug__" : bi))=ai:=by decide):PE X (.Name x pos) (tC v):=
 λ_ _ _ H _ I h=>WP I hg hm #[v,H,I,r,h] hd
def Uo(hg:Gl X x)(hm:X.mg x=ae)(hv:dv x=aa u)(r:Zx v u)(hn:x≠"__name__":=by decide)(hd:(x == ("__debug__" : bi))=ai:=by decide):PE X (.Name x pos) (tC v):=
 λ_ _ _ H _ I h=>Xc I hg hm hv #[v,H,I,r,h] hn hd
def PC(X:Cx)(op:rB)(a b:Expr)(t:TE):Prop:=
 ∀(pq:List (aC×fD))(s:aA)(σ:St)(H:Hp)(Q:VK),Inv X pq σ H s->t σ H Q->
  bn (aV X.prog X.w) X.A (bY a X.env) (λv s₁=>bn (aV X.prog X.w) X.A (bY b X.env) (λu s₂=>bn (aV X.prog X.w) X.A (cN op v u) (EP X pq σ Q) X.xe s₂) X.xe s₁) X.xe s
def ZaO(b:Expr)(h:op≠.In)(h2:op≠.NotIn):eo op b=ai:=by
 have e1:(op == rB.In)=ai:=by grind
 have e2:(op == rB.NotIn)=ai:=by grind
 cases b<;>simp[eo,e1,e2]
def ZfH(ta:TE):TE:=λσ H Q=>ta σ H λx H1=>Q (.bl<|af<|x=.non) H1
def Zx.none_iff(r:Zx x v):(v == bI)=af (x=.non):=by
 cases x with|non=>cases r;rfl|bl _=>cases r;rfl|int _=>obtain⟨t,rfl⟩:=r;rfl|str _=>obtain⟨t,rfl⟩:=r;rfl|byt _=>obtain⟨t,rfl⟩:=r;rfl|flt _=>obtain⟨t,rfl⟩:=r;rfl|ref _=>cases r;rfl|ty _=>cases r;rfl
def ZeK{j pos'}(ha:PE X a ta):PC X .Is a (.Constant .none j pos') (ZfH ta):=by
 intro pq s σ H Q I h;refine thn (ha pq s σ H _ I h) λv s1 #[x,H1,I1,r1,q1]=>?_
 exact Constant_none<|is_none_gen #[.bl _,H1,I1,by rw[r1.none_iff];rfl,q1]
def tB(t:TE):TT:=λσ H Q=>t σ H λx H1=>∃c,x=.bl c/\Q c H1
def Zdz{op:rB}{t:TE}(h:PC X op a b t)(h1:eo op b=ai:=by first|exact ZaO _ (by decide) (by decide)|rfl):PT X (.Compare a [op] [b] pos) (tB t):=by
 intro pq s σ H Q I hw;refine l0 (thn (h pq s σ H _ I hw) λv s1 h1=>thn h1 λu s2 h2=>thn h2 λc s3 #[x,H1,I1,r1,q1]=>?_) h1
 obtain⟨d,rfl,q⟩:=q1;cases r1;exact dU #[H1,I1,q]
def ZdT{e:Expr}{t:TE}(h:PE X e t)(he:∀whole,isTrue e X.env whole=(do let v <-whole;i6 e.pos;gN [v] (rn v)):=by intro _;rfl):PT X e (tB t):=by
 intro pq s σ H Q I hw;refine isTrue_plain (thn (h pq s σ H _ I hw) λv s1 #[x,H1,I1,r1,q1]=>?_)<|he _
 obtain⟨d,rfl,q⟩:=q1;cases r1;exact dU #[H1,I1,q]
def ZfU(t u:TT):TT:=λσ H Q=>t σ H λc H1=>if c=ak then u σ H1 Q else Q ai H1
def tOr(t u:TT):TT:=λσ H Q=>t σ H λc H1=>if c=ak then Q ak H1 else u σ H1 Q
def ZfB(t:TT):TT:=λσ H Q=>t σ H λc H1=>Q (!c) H1
def ZbO(ha:PT X a tA):PW X (.BoolOp .And [a] pos) tA:=by
 intro wh pq s σ H Q I h;refine isTrue_and<|thn (ha pq s σ H Q I h) λc s1 e=>?_
 cases c with|true=>exact isTrue_and_nil e|false=>exact e
def Zbk(ha:PT X a tA):PW X (.BoolOp .Or [a] pos) tA:=by
 intro wh pq s σ H Q I h;refine isTrue_or<|thn (ha pq s σ H Q I h) λc s1 e=>?_
 cases c with|false=>exact isTrue_or_nil e|true=>exact e
def Zei(ha:PT X a tA)(hb:PW X (.BoolOp .And (b::rest) pos) tB'):PW X (.BoolOp .And (a::b::rest) pos) (ZfU tA tB'):=by
 intro wh pq s σ H Q I h;refine isTrue_and<|thn (ha pq s σ H _ I h) λc s1 #[H1,I1,q1]=>?_
 cases c with|true=>exact hb wh pq s1 σ H1 Q I1 q1|false=>exact#[H1,I1,q1]
def Zc6(ha:PT X a tA)(hb:PW X (.BoolOp .Or (b::rest) pos) tB'):PW X (.BoolOp .Or (a::b::rest) pos) (tOr tA tB'):=by
 intro wh pq s σ H Q I h;refine isTrue_or<|thn (ha pq s σ H _ I h) λc s1 #[H1,I1,q1]=>?_
 cases c with|true=>exact#[H1,I1,q1]|false=>exact hb wh pq s1 σ H1 Q I1 q1
def qQ(ha:PT X a tA):PT X (.UnaryOp .Not a pos) (ZfB tA):=by
 intro pq s σ H Q I h;exact isTrue_not<|ha pq s σ H (λc H1=>Q (!c) H1) I h
def ZeX(ta tb:TE):TE:=λσ H Q=>ta σ H λx H1=>∃c,x=.bl c/\if c=ak then tb σ H1 Q else Q (.bl ai) H1
def Zea(ha:PE X a ta)(hb:PE X (.BoolOp .And (b::rest) pos) tb):PE X (.BoolOp .And (a::b::rest) pos) (ZeX ta tb):=by
 intro pq s σ H Q I h;refine BoolOp_and<|thn (ha pq s σ H _ I h) λv s1 #[x,H1,I1,r1,q1]=>?_
 obtain⟨c,rfl,q1⟩:=q1;cases r1;refine dU ?_;cases c with|true=>exact hb pq s1 σ H1 Q I1 q1|false=>exact#[.bl ai,H1,I1,rfl,q1]
def tIf(t:TT)(ta tb:TE):TE:=λσ H Q=>t σ H λc H1=>if c=ak then ta σ H1 Q else tb σ H1 Q
def Zae{c:Expr}(hc:PT X c tA)(ha:PE X a ta)(hb:PE X b tb):PE X (.IfExp c a b pos) (tIf tA ta tb):=by
 intro pq s σ H Q I h;refine wpAny_IfExp<|thn (hc pq s σ H _ I h) λd s1 #[H1,I1,q1]=>?_
 cases d with|true=>exact ha pq s1 σ H1 Q I1 q1|false=>exact hb pq s1 σ H1 Q I1 q1
def SqL(K:al)(H:Hp)(a:aC)(xs:List V):Prop:=
 Rd H a (.lst xs)\/
  ∃(o:fD)(its:Array aq)(n:Nat),K.lookup a=aa o/\o.cls=.type "list"/\o.dict=ae/\o.data=.seq its n/\its.size<=bo/\Vals xs its.toList
def SqT(K:al)(H:Hp)(a:aC)(xs:List V):Prop:=
 Rd H a (.tup xs)\/
  ∃(o:fD)(its:Array aq)(n:Nat),K.lookup a=aa o/\o.cls=.type "tuple"/\o.data=.seq its n/\its.size<=bo/\Vals xs its.toList
noncomputable def ZfV:aq->Option V
 |.none=>aa .non
 |.bool b=>aa<|.bl b
 |.int i _=>aa<|.int i
 |.str x _=>aa<|.str x
 |.bytes b _=>aa<|.byt b
 |.float b _=>aa<|.flt b
 |.ref a=>aa<|.ref a
 |.type n=>aa<|.ty n
 |_=>ae
def Zx.abs(r:Zx x u):ZfV u=aa x:=by
 cases x with|non=>cases r;rfl|bl _=>cases r;rfl|int _=>obtain⟨t,rfl⟩:=r;rfl|str _=>obtain⟨t,rfl⟩:=r;rfl|byt _=>obtain⟨t,rfl⟩:=r;rfl|flt _=>obtain⟨t,rfl⟩:=r;rfl|ref _=>cases r;rfl|ty _=>cases r;rfl
def Zx.inj{x y:V}{u:aq}(r:Zx x u)(q:Zx y u):x=y:=am<|r.abs.symm.trans q.abs
theorem Vals.inj:∀{xs ys:List V}{us:List aq},Vals xs us->Vals ys us->xs=ys
 |_,_,_,.nil,.nil=>rfl
 |_,_,_,.cons r t,.cons r' t'=>by rw[r.inj r',Vals.inj t t']
def SqL.of{K:al}(h:H a=aa (.lst xs)):SqL K H a xs:=.inl<|.inl h
def SqT.of{K:al}(h:H a=aa (.tup xs)):SqT K H a xs:=.inl<|.inl h
def Inv.list(I:Inv X pq σ H s)(h:SqL X.K H a xs):∃its:List aq,Vals xs its/\PlainL s.heap a its.toArray/\xs.length<=bo:=by
 rcases h with h|⟨o,its,n,hk,hc,hd,hs,hz,r⟩
 .obtain⟨z,its,n,r,e⟩:=h.ok I.hok
  exact#[its,r,#[_,n,e,rfl,rfl,rfl],z]
 .refine#[its.toList,r,#[o,n,I.kIn a o hk,hc,hd,by simpa using hs],?_]
  have e:=r.length;simp only[aM]at e;lia
def Inv.tuple(I:Inv X pq σ H s)(h:SqT X.K H a xs):∃its:List aq,Vals xs its/\rh s.heap a its.toArray/\xs.length<=bo:=by
 rcases h with h|⟨o,its,n,hk,hc,hs,hz,r⟩
 .obtain⟨z,its,r,p⟩:=h.ok I.hok
  exact#[its,r,p,z]
 .refine#[its.toList,r,#[o,I.kIn a o hk,hc,n,by simpa using hs],?_]
  have e:=r.length;simp only[aM]at e;lia
def Inv.list_inj(I:Inv X pq σ H s)(h:SqL X.K H a xs)(h':SqL X.K H a ys):xs=ys:=by
 obtain⟨its,r,⟨o,n,e,_,_,d⟩,_⟩:=I.list h;obtain⟨its',r',⟨o',n',e',_,_,d'⟩,_⟩:=I.list h';rw[e]at e';cases e';rw[d]at d';injection d' with d1 _
 have:its=its':=by grind
 subst this;exact r.inj r'
def Inv.tuple_inj(I:Inv X pq σ H s)(h:SqT X.K H a xs)(h':SqT X.K H a ys):xs=ys:=by
 obtain⟨its,r,⟨o,e,_,n,d⟩,_⟩:=I.tuple h;obtain⟨its',r',⟨o',e',_,n',d'⟩,_⟩:=I.tuple h';rw[e]at e';cases e';rw[d]at d';injection d' with d1 _
 have:its=its':=by grind
 subst this;exact r.inj r'
section
variable{X:Cx}{st:eJ}{rest:List eJ}{t u:TS}{e:Expr}{te:TE}{pos:fO}
def jv:TS:=λD σ H=>D.nx σ H
def JU(t u:TS):TS:=λD σ H=>t {D with nx:=u D} σ H
def Gy:PSs X [] jv:=λ_ _ σ H _ I h=>gz #[σ,H,I,h]
def Yp(h1:PS X st t)(h2:PSs X rest u):PSs X (st::rest) (JU t u):=by
 intro pq s σ H D I h;refine fV<|thn (h1 pq s σ H {D with nx:=u D} I h) λf s1 q=>?_
 cases f with
 |next=>
  obtain⟨σ',H',I',q⟩:=q;exact h2 pq s1 σ' H' D I' q
 |ret v=>exact q
 |brk=>exact q
 |cont=>exact q
def W9(h1:PS X st t):PSs X [st] t:=by
 intro pq s σ H D I h;refine fV<|thn (h1 pq s σ H D I h) λf s1 q=>?_
 cases f with|next=>exact gz q|ret v=>exact q|brk=>exact q|cont=>exact q
def Inv.quiet(I:Inv X pq σ H s):interactive X.env=ai:=by simp[interactive,I.ok.kind]
def Zdd(te:TE):TS:=λD σ H=>te σ H λ_ H1=>D.nx σ H1
def Uh(he:PE X e te)(hs:eB e ae pos.line X.env=cD ai:=by rfl):PS X (.Expr e pos) (Zdd te):=by
 intro pq s σ H D I h;exact wpAny_Expr_any (thn (he pq s σ H _ I h)<|by rintro v s1 ⟨x,H1,I1,r1,q1⟩;exact #[σ,H1,I1,q1]) I.quiet hs
def Zaf(te:TE):TS:=λD σ H=>te σ H D.rt
def VX(he:PE X e te):PS X (.Return (aa e) pos) (Zaf te):=by
 intro pq s σ H D I h;exact wpAny_Return_some<|thn (he pq s σ H _ I h)<|by rintro v s1 ⟨x,H1,I1,r1,q1⟩;exact #[x,σ,H1,I1,r1,q1]
def Zd5(c:TT)(t u:TS):TS:=λD σ H=>c σ H λb H1=>if b=ak then t D σ H1 else u D σ H1
def Zas{c:Expr}{a b:List eJ}{tc:TT}(hc:PT X c tc)(ha:PSs X a t)(hb:PSs X b u):PS X (.If c a b pos) (Zd5 tc t u):=by
 intro pq s σ H D I h;refine wpAny_If<|thn (hc pq s σ H _ I h) λd s1 #[H1,I1,q1]=>?_
 cases d with|true=>exact ha pq s1 σ H1 D I1 q1|false=>exact hb pq s1 σ H1 D I1 q1
end
abbrev TG:=V->St->Hp->(St->Hp->Prop)->Prop
abbrev TGs:=List V->St->Hp->(St->Hp->Prop)->Prop
def PG(X:Cx)(target:Expr)(t:TG):Prop:=
 ∀(pq:List (aC×fD))(s:aA)(σ:St)(H:Hp)(v:V)(u:aq)(Q:St->Hp->Prop),Inv X pq σ H s->Zx v u->t v σ H Q->
  bn (aV X.prog X.w) X.A (assign target X.env u) (λ_ s'=>∃σ' H',Inv X pq σ' H' s'/\Q σ' H') X.xe s
def PGs(X:Cx)(ts:List Expr)(t:TGs):Prop:=
 ∀(pq:List (aC×fD))(s:aA)(σ:St)(H:Hp)(vs:List V)(us:List aq)(Q:St->Hp->Prop),Inv X pq σ H s->Vals vs us->t vs σ H Q->
  bn (aV X.prog X.w) X.A (assignInOrder ((cy ts X.env).map (·.2)) us) (λ_ s'=>∃σ' H',Inv X pq σ' H' s'/\Q σ' H') X.xe s
abbrev TSet:=V->V->V->Hp->(Hp->Prop)->Prop
def PSet(X:Cx)(t:TSet):Prop:=
 ∀(pq:List (aC×fD))(s:aA)(σ:St)(H:Hp)(o i v:V)(ov iv u:aq)(Q:Hp->Prop),Inv X pq σ H s->Zx o ov->Zx i iv->Zx v u->t o i v H Q->
  bn (aV X.prog X.w) X.A (setItem ov iv u) (λ_ s'=>∃H',Inv X pq σ H' s'/\Q H') X.xe s
def Qj(i:Nat):TG:=λv σ H Q=>Q (σ.set i<|aa v) H
def Ur(hN:X.N.Nodup)(hi:X.N[i]?=aa x)(hx:Loc X.env.scope x)(hf:X.fn x=ak\/X.env.scope.names.lookup x=aa .local:=by first|exact .inl rfl|exact .inr rfl|assumption):PG X (.Name x pos) (Qj i):=by
 intro pq s σ H v u Q I r h;exact kL<|UC I hN hi hx r (λs' I'=>#[_,H,I',h]) hf
def Zf8:TGs:=λvs σ H Q=>vs=[]/\Q σ H
def Ze6(t:TG)(u:TGs):TGs:=λvs σ H Q=>∃v r,vs=v::r/\t v σ H λσ' H'=>u r σ' H' Q
def Zcr:PGs X [] Zf8:=by
 intro pq s σ H vs us Q I r h;obtain⟨e,h⟩:=h;subst e;cases r;exact assignInOrder_nil #[σ,H,I,h]
def Zbr{e:Expr}{es:List Expr}{t:TG}{u:TGs}(h1:PG X e t)(h2:PGs X es u)
  (hs:(cy (e::es) X.env).map (·.2)=assign e X.env::(cy es X.env).map (·.2):=by rfl):PGs X (e::es) (Ze6 t u):=by
 intro pq s σ H vs us Q I r h;obtain⟨v,vr,e1,h⟩:=h;subst e1;cases r with
 |cons r rr=>
  rw[hs];refine assignInOrder_cons<|thn (h1 pq s σ H _ _ _ I r h) λ_ s1 #[σ1,H1,I1,q1]=>?_
  exact h2 pq s1 σ1 H1 _ _ Q I1 rr q1
def ZfT(K:al)(n:Nat)(t:TGs):TG:=λv σ H Q=>∃a xs,v=.ref a/\SqT K H a xs/\xs.length=n/\t xs σ H Q
def Zeh(hc:X.calm=ak)(h:PGs X es t)
  (hn:(cy es X.env).length=n:=by rfl)(hst:(cy es X.env).findIdx? (·.1)=ae:=by rfl):PG X (.Tuple es k pos) (ZfT X.K n t):=by
 intro pq s σ H v u Q I r hw;obtain⟨a,xs,e1,hq,hl,hw⟩:=hw;subst e1;cases r;obtain⟨its,rv,ht,hz⟩:=I.tuple hq;refine assign_Tuple_tuple (I.ok.hd hc) ht (by simp[hn,<-hl,rv.length]) hst λh' hx=>?_
 have I1:=I.kept (t':=s.toks) λb o e=>hx b o (bD<|aO e) e
 exact h pq _ σ H xs _ Q I1 (by simpa using rv) hw
def ZfO(to ti:TE)(t:TSet):TG:=λv σ H Q=>to σ H λo H1=>ti σ H1 λi H2=>t o i v H2 λH3=>Q σ H3
def ZdX{o i:Expr}{to ti:TE}{t:TSet}(ho:PE X o to)(hi:PE X i ti)(hs:PSet X t)
  (ha:∀v,assign (.Subscript o i pos) X.env v=(do
   let ov <-gN [v] (bY o X.env)
   let iv <-gN [v,ov] (bY i X.env)
   i6 pos
   gN [v,ov,iv] (setItem ov iv v)
   release [v,ov,iv] []):=by intro _;rfl):PG X (.Subscript o i pos) (ZfO to ti t):=by
 intro pq s σ H v u Q I r h;rw[ha];refine aj<|cU<|thn (ho pq s σ H _ I h) λov s1 #[x,H1,I1,r1,q1]=>?_
 refine aj<|cU<|thn (hi pq s1 σ H1 _ I1 q1) λiv s2 #[y,H2,I2,r2,q2]=>?_
 refine aj<|eX<|aj<|cU<|thn (hs pq s2 σ H2 x y v ov iv u _ I2 r1 r2 r q2) λ_ s3 #[H3,I3,q3]=>?_
 exact wpAny_release #[σ,H3,I3,q3]
def yG(te:TE)(g:TG):TS:=λD σ H=>te σ H λx H1=>g x σ H1 D.nx
def Vy{tg e:Expr}{te:TE}{g:TG}(he:PE X e te)(hg:PG X tg g)(hs:eY [tg] e pos.line X.env=cD ai:=by rfl)(hw:eZ [tg] e X.env=cD ae:=by rfl)
  (h1:(cy [tg] X.env).map (·.2)=[assign tg X.env]:=by rfl):PS X (.Assign [tg] e pos) (yG te g):=by
 intro pq s σ H D I h;refine wpAny_Assign_stores (thn (he pq s σ H _ I h) λv s1 #[x,H1,I1,r1,q1]=>?_) hs hw
 rw[h1];exact thn (hg pq s1 σ H1 x v _ I1 r1 q1) λ_ s2 q=>q
def Vu{i:Nat}{x:bi}{e:Expr}{te:TE}{pos':fO}(hN:X.N.Nodup)(hi:X.N[i]?=aa x)(hx:Loc X.env.scope x)(he:PE X e te)(hs:eB e (aa<|.Name x pos') pos.line X.env=cD ai:=by rfl)(hf:X.fn x=ak\/X.env.scope.names.lookup x=aa .local:=by first|exact .inl rfl|exact .inr rfl|assumption) :
  PS X (.Assign [.Name x pos'] e pos) (yG te<|Qj i):=by
 intro pq s σ H D I h;refine wpAny_Assign_Name (thn (he pq s σ H _ I h) λv s1 #[y,H1,I1,r1,q1]=>?_) hs
 exact UC I1 hN hi hx r1 (λs2 I2=>#[_,H1,I2,q1]) hf
structure It where
 go:Nat->Hp->Prop
 yld:Nat->Hp->V->Hp->Prop
 stop:Nat->Hp->Prop
def Vo(X:Cx)(pq:List (aC×fD))(H:Hp)(b:aC):Prop:=
 H b=ae/\b≠X.env.locals/\b∉X.fs/\(b∈X.ex\/X.s₀.heap.objs.size<=b)/\(∀x c,X.env.cells.lookup x=aa c->c≠b)/\∀p∈X.pn++pq,p.1≠b
def Inv.fpOk(I:Inv X pq σ H s)(hb:s.heap.objs.size<=b)(hn:H' b=ae):Vo X pq H' b:=by
 refine#[hn,lG<|bv I.lt hb,I.nofs hb,.inr<|cc I.sz hb,λx c e z=>?_,λp hp z=>?_]
 .obtain⟨v,q⟩:=I.cell x c e
  exact T7 (bv q.lt<|by rw[z];exact hb)<|bS _
 .exact T7 (bv (aO (I.pin p hp).1)<|by rw[z];exact hb)<|bS _
structure Turn(P:bH)(w:bV)(K:al)(tg:Expr)(J:It)(fp:List aC)(it:aC)(tn:Nat->ck->Prop):Prop where
 mem:it∈fp
 obj:∀i h,tn i h->∀b∈fp,∃o,h.get? b=aa o/\∀v,o.data≠.cell v
 keep:∀i h h',tn i h->(∀b∈fp,∀o,h.get? b=aa o->h'.get? b=aa o)->tn i h'
 item:∀(X:Cx),X.prog=P->X.w=w->X.K=K->X.calm=ak->∀(i:Nat)(pq:List (aC×fD))(s:aA)(σ:St)(H:Hp)(E:aq->aA->Prop),Inv X pq σ H s->(∀b∈fp,Vo X pq H b)->tn i s.heap->J.go i H->
  bn (aV P w) X.A (rq<|.ref it) (λr s1=>∃u,r=aa u/\
   bn (aV P w) X.A (lR tg (.ref it) u) (λ_ s2=>∃x H',Inv X pq σ H' s2/\Zx x u/\J.yld i H x H'/\tn (i+1) s2.heap/\∀b∈fp,H' b=ae) E s1) E s
 done:∀(X:Cx),X.prog=P->X.w=w->X.K=K->X.calm=ak->∀(i:Nat)(pq:List (aC×fD))(s:aA)(σ:St)(H:Hp)(E:aq->aA->Prop),Inv X pq σ H s->(∀b∈fp,Vo X pq H b)->tn i s.heap->J.stop i H->
  bn (aV P w) X.A (rq<|.ref it) (λr s1=>r=ae/\Inv X pq σ H s1) E s
 self:∀(A:cC)(i:Nat)(s:aA)(Q:aq->aA->Prop)(E:aq->aA->Prop),tn i s.heap->Q (.ref it) s->bn (aV P w) A (me<|.ref it) Q E s
abbrev TI:=St->Hp->(It->Hp->Prop)->Prop
def PIE(X:Cx)(pq:List (aC×fD))(σ:St)(tg:Expr)(R:It->Hp->Prop)(itv:aq)(s2:aA):Prop:=
 ∃(it:aC)(fp:List aC)(tn:Nat->ck->Prop)(J:It)(H':Hp),itv=.ref it/\Inv X pq σ H' s2/\Turn X.prog X.w X.K tg J fp it tn/\tn 0 s2.heap/\(∀b∈fp,Vo X pq H' b)/\R J H'
def PI(X:Cx)(tg iter:Expr)(wi:TI):Prop:=
 ∀(pq:List (aC×fD))(s:aA)(σ:St)(H:Hp)(R:It->Hp->Prop),Inv X pq σ H s->wi σ H R->
  bn (aV X.prog X.w) X.A (bY iter X.env) (λv s1=>bn (aV X.prog X.w) X.A (me v) (PIE X pq σ tg R) X.xe s1) X.xe s
def wV{E:aq->aA->Prop}{Q:Unit->aA->Prop}(ho:s.heap.get? it=aa o)(hc:o.cls=.type n)(hd:o.data=.fields vs)
  (hn:["enumerate","zip","dict_itemiterator","dict_reverseitemiterator","odict_iterator","itertools.zip_longest","itertools.pairwise"].contains n=ai)(hQ:Q () s):bn M A (lR tg (.ref it) u) Q E s:=by
 cases tg<;>first
  |exact aF hQ
  |(cases u<;>first
    |exact aF hQ
    |(refine aj (wpAny_load ho ?_)
      rw[hc,hd];show bn M A (if(["enumerate","zip","dict_itemiterator","dict_reverseitemiterator","odict_iterator","itertools.zip_longest","itertools.pairwise"].contains n&&vs[0]? == aa (gO _))=ak then _ else _) Q E s
      rw[T8<|by grind]
      exact aF hQ))
noncomputable def Itl(K:al)(a:aC):It:=
 #[λi H=>∃xs x,SqL K H a xs/\xs[i]?=aa x,λi H x H'=>H'=H/\∀xs,SqL K H a xs->xs[i]?=aa x,λi H=>∃xs,SqL K H a xs/\xs.length<=i]
noncomputable def Itt(K:al)(a:aC):It:=
 #[λi H=>∃xs x,SqT K H a xs/\xs[i]?=aa x,λi H x H'=>H'=H/\∀xs,SqT K H a xs->xs[i]?=aa x,λi H=>∃xs,SqT K H a xs/\xs.length<=i]
noncomputable def Itr(lo:Int)(n:Nat):It:=#[λi _=>i<n,λi H x H'=>H'=H/\x=.int (lo+i),λi _=>n<=i]
def qi{P:bH}{w:bV}{K:al}{tg:Expr}(a it:aC):Turn P w K tg (Itl K a) [it] it (λi h=>h.IsListIter it a i) where
 mem:=by simp
 obj:=λi h st b hb=>by
  have e:b=it:=by simpa using hb
  subst e;obtain⟨o,e,c,d⟩:=st;exact#[o,e,λv z=>by rw[d]at z;cases z]
 keep:=λi h h' st k=>st.at λo e=>k it (by simp) o e
 item:=by
  intro X hP hw hK hc i pq s σ H E I hf st hg;subst hP hw hK;obtain⟨xs,x,hq,hx⟩:=hg;obtain⟨its,rv,p,hz⟩:=I.list hq;obtain⟨u,hu,ru⟩:=rv.get hx;obtain⟨f0,f1,f2,f3,f4,f5⟩:=hf it (by simp)
  refine lH st p.isList (by simpa using hu) λh' st' sb=>?_
  have I1:=I.turned (t':=s.toks) (λb o hb e=>(sb.2 b hb).trans e) f0 f1 f3 f4 f5
  obtain⟨o,e,c,d⟩:=id st';exact#[u,rfl,wV e c d (by decide) #[x,H,I1,ru,#[rfl,λys hy=>by rw[I.list_inj hy hq];exact hx],st',λb hb=>(hf b hb).1]]
 done:=by
  intro X hP hw hK hc i pq s σ H E I hf st hg;subst hP hw hK;obtain⟨xs,hq,hx⟩:=hg;obtain⟨its,rv,p,hz⟩:=I.list hq;obtain⟨f0,f1,f2,f3,f4,f5⟩:=hf it (by simp)
  have hl:=rv.length;exact l4 (I.ok.hd hc) st p.isList (by simp;lia) λh' eb=>#[rfl,I.turned (t':=s.toks) (λb o hb e=>eb b o hb e) f0 f1 f3 f4 f5]
 self:=λ_ _ _ _ _ st h=>wpAny_pyIter_listiter st h
def xP{P:bH}{w:bV}{K:al}{tg:Expr}(a it:aC):Turn P w K tg (Itt K a) [it] it (λi h=>h.IsTupleIter it a i) where
 mem:=by simp
 obj:=λi h st b hb=>by
  have e:b=it:=by simpa using hb
  subst e;obtain⟨o,e,c,d⟩:=st;exact#[o,e,λv z=>by rw[d]at z;cases z]
 keep:=λi h h' st k=>st.at λo e=>k it (by simp) o e
 item:=by
  intro X hP hw hK hc i pq s σ H E I hf st hg;subst hP hw hK;obtain⟨xs,x,hq,hx⟩:=hg;obtain⟨its,rv,p,hz⟩:=I.tuple hq;obtain⟨u,hu,ru⟩:=rv.get hx;obtain⟨f0,f1,f2,f3,f4,f5⟩:=hf it (by simp)
  refine wpAny_pyNext_tuple_item st (p) (by simpa using hu) λh' st' sb=>?_
  have I1:=I.turned (t':=s.toks) (λb o hb e=>(sb.2 b hb).trans e) f0 f1 f3 f4 f5
  obtain⟨o,e,c,d⟩:=id st';exact#[u,rfl,wV e c d (by decide) #[x,H,I1,ru,#[rfl,λys hy=>by rw[I.tuple_inj hy hq];exact hx],st',λb hb=>(hf b hb).1]]
 done:=by
  intro X hP hw hK hc i pq s σ H E I hf st hg;subst hP hw hK;obtain⟨xs,hq,hx⟩:=hg;obtain⟨its,rv,p,hz⟩:=I.tuple hq;obtain⟨f0,f1,f2,f3,f4,f5⟩:=hf it (by simp)
  have hl:=rv.length;exact wpAny_pyNext_tuple_end (I.ok.hd hc) st (p) (by simp;lia) λh' eb=>#[rfl,I.turned (t':=s.toks) (λb o hb e=>eb b o hb e) f0 f1 f3 f4 f5]
 self:=λ_ _ _ _ _ st h=>wpAny_pyIter_tupleiter st h
def y9{P:bH}{w:bV}{K:al}{tg:Expr}(it:aC)(lo:Int)(n:Nat):Turn P w K tg (Itr lo n) [it] it (λi h=>IsRangeIter h it (lo+(i:Nat)*1) ((n:Int)-(i:Nat)) 1) where
 mem:=by simp
 obj:=λi h st b hb=>by grind
 keep:=λi h h' st k=>k it (by simp) _ st
 item:=by
  intro X hP hw hK hc i pq s σ H E I hf st hg;subst hP hw hK;obtain⟨f0,f1,f2,f3,f4,f5⟩:=hf it (by simp)
  have W:=Walks.range (prog:=X.prog) (w:=X.w) (I.ok.hd hc) it lo 1 n;refine W.item i s _ _ hg st λv h' tk hv st' kk=>?_
  obtain⟨t,rfl⟩:=hv;have I1:Inv X pq σ H {s with heap:=h',toks:=tk}:=I.turned (λb o hb e=>kk b o (by simpa using hb) e) f0 f1 f3 f4 f5
  refine#[_,rfl,wV st' rfl rfl (by decide) #[.int<|lo+i,H,I1,#[t,?_],#[rfl,rfl],st',λb hb=>(hf b hb).1]]
  rw[Int.mul_one]
 done:=by
  intro X hP hw hK hc i pq s σ H E I hf st hg;subst hP hw hK;obtain⟨f0,f1,f2,f3,f4,f5⟩:=hf it (by simp)
  exact lI (I.ok.hd hc) st (by have:n<=i:=hg;lia) λh' eb=>#[rfl,I.turned (t':=s.toks) (λb o hb e=>eb b o hb e) f0 f1 f3 f4 f5]
 self:=λ_ _ _ _ _ st h=>gP st h
def yx{pq:List (aC×fD)}{σ:St}{H:Hp}{s:aA}{R:It->Hp->Prop}{E:aq->aA->Prop}{lo hi:Int}{t u v:pU}{tk:Nat}(I:Inv X pq σ H s)(h1:-(2^62)<=lo)(h2:lo<2^62)(h3:-(2^62)<=hi)(h4:hi<2^62)
  (q:R (Itr lo (hi-lo).toNat) H):bn (aV X.prog X.w) X.A (me<|.ref s.heap.objs.size) (PIE X pq σ tg R) E {s with heap:=s.heap.push {cls:=.type "range",data:=.fields [.int lo t,.int hi u,.int 1 v].toArray},toks:=tk}:=by
 refine wpAny_pyIter_range (oN ..) (small_one h1 h2 h3 h4) ?_;have I1:Inv X pq σ H {s with heap:=s.heap.push {cls:=.type "range",data:=.fields [.int lo t,.int hi u,.int 1 v].toArray},toks:=tk}:=I.kept λb o e=>ax _ e
 refine#[(s.heap.push {cls:=.type "range",data:=.fields [.int lo t,.int hi u,.int 1 v].toArray}).objs.size,[(s.heap.push {cls:=.type "range",data:=.fields [.int lo t,.int hi u,.int 1 v].toArray}).objs.size],_,_,H,rfl,
  I1.kept (t':=tk) λb o e=>ax _ e,y9 _ lo (hi-lo).toNat,?_,λb hb=>?_,q]
 .have e1:lo+((0:Nat):Int)*1=lo:=by simp
  have e2:(((hi-lo).toNat:Nat):Int)-((0:Nat):Int)=fj lo hi 1:=by rw[mO];split<;>lia
  rw[e1,e2];exact aQ _ rfl
 .have e:b=(s.heap.push {cls:=.type "range",data:=.fields [.int lo t,.int hi u,.int 1 v].toArray}).objs.size:=by simpa using hb
  subst e;exact I1.fpOk (aG _)<|I1.hok.fresh<|aG _
def Zfi(ta:TA):TI:=λσ H R=>ta σ H λvs H1=>∃j:Int,vs=[.int j]/\-(2^62)<=j/\j<2^62/\R (Itr 0 j.toNat) H1
def Ze9(ta:TA):TI:=λσ H R=>ta σ H λvs H1=>∃i j:Int,vs=[.int i,.int j]/\(-(2^62)<=i/\i<2^62/\-(2^62)<=j/\j<2^62)/\R (Itr i (j-i).toNat) H1
def uN{a:Expr}{ta:TA}{p pos:fO}(hg:Gl X "range")(hm:X.mg "range" = ae)(ha:PA X [a] ta)(hs:az [a] X.env=[(ai,bY a X.env)]:=by rfl):PI X tg (.Call (.Name "range" p) [a] [] pos) (Zfi ta):=by
 intro pq s σ H R I h;refine pf<|Xc I hg hm m5<|bP (thn (ha pos pq s σ H _ I h) λus s1 #[vs,H1,I1,r1,q1]=>?_) hs rfl
 obtain⟨j,e,q1,q2,q⟩:=q1;subst e;cases r1 with
 |cons r rr=>
  cases rr;obtain⟨t,rfl⟩:=r;exact call_range_1<|yx I1 (by lia) (by lia) q1 q2<|by simpa using q
def u4{a b:Expr}{ta:TA}{p pos:fO}(hg:Gl X "range")(hm:X.mg "range" = ae)(ha:PA X [a,b] ta)(hs:az [a,b] X.env=[(ai,bY a X.env),(ai,bY b X.env)]:=by rfl)(hs2:az [b] X.env=[(ai,bY b X.env)]:=by rfl) :
  PI X tg (.Call (.Name "range" p) [a,b] [] pos) (Ze9 ta):=by
 intro pq s σ H R I h;refine pf<|Xc I hg hm m5<|bP (thn (ha pos pq s σ H _ I h) λus s1 #[vs,H1,I1,r1,q1]=>?_) (by rw[hs,hs2])<|by rw[hs2];rfl
 obtain⟨i,j,e,⟨q1,q2,q3,q4⟩,q⟩:=q1;subst e;cases r1 with
 |cons r rr=>
  cases rr with
  |cons r' rr=>
   cases rr;obtain⟨t,rfl⟩:=r;obtain⟨t',rfl⟩:=r';exact call_range_2<|yx I1 q1 q2 q3 q4 q
def ZfL(wi:TI)(g:TG)(tb:TS):TS:=λD σ H=>wi σ H λJ H1=>∃W:Nat->Nat->St->Hp->Prop,(∃m,W 0 m σ H1)/\∀i m σ H,W i m σ H->
 (J.stop i H/\D.nx σ H)\/(J.go i H/\∃N:St->Hp->Prop,(∀σ' H',N σ' H'->∃m',m'<m/\W (i+1) m' σ' H')/\∀x H',J.yld i H x H'->g x σ H' λσ2 H2=>tb {D with nx:=N,ct:=N,bk:=D.nx} σ2 H2)
noncomputable def UK(fp:List aC)(h:ck):List (aC×fD):=fp.filterMap λb=>(h.get? b).map λo=>(b,o)
def XO(hb:b∈fp)(e:h.get? b=aa o):(b,o)∈UK fp h:=m7.mpr #[b,hb,by rw[e];rfl]
def uf(hp:p∈UK fp h):p.1∈fp/\h.get? p.1=aa p.2:=by
 obtain⟨b,hb,e⟩:=m7.mp hp;cases q:h.get? b with|none=>rw[q]at e;cases e|some o=>grind
def Inv.pinned(I:Inv X pq σ H s)(hf:∀b∈fp,Vo X pq H b)(ho:∀b∈fp,∃o,s.heap.get? b=aa o/\∀v,o.data≠.cell v):Inv X (pq++UK fp s.heap) σ H s:=
 I.pins_of λp hp=>(bK.mp hp).elim (λz=>I.pin p<|bt _ z) λz=>by
  obtain⟨hb,e⟩:=uf z;obtain⟨f0,f1,f2,_⟩:=hf p.1 hb;obtain⟨o,e',d⟩:=ho p.1 hb;rw[e]at e';cases e';exact#[e,f0,f1,f2,d]
def Inv.unpinned(I:Inv X (pq++pl) σ H s):Inv X pq σ H s:=I.pins_of λp hp=>I.pin p<|bt _<|cL _ hp
def ZdI{iter:Expr}{body:List eJ}{wi:TI}{g:TG}{tb:TS}{pos:fO}(hp:PassesOwn (aV X.prog X.w) X.A X.env X.xe)(hc:X.calm=ak)(hi:PI X tg iter wi)(hg:PG X tg g)(hb:PSs X body tb)
  (hs:∀x,bB iter X.env x=cD x:=by intro _;rfl):PS X (.For tg iter body [] pos) (ZfL wi g tb):=by
 intro pq s σ H D I h;refine wpAny_For (thn (hi pq s σ H _ I h) λv s1 h1=>thn h1 λitv s2 h2=>?_) hs
 obtain⟨it,fp,tn,J,H2,e,I2,T,st2,f2,W,⟨m0,w0⟩,turn⟩:=h2;subst e;have stat:∀{H':Hp},(∀b∈fp,H' b=ae)->∀b∈fp,Vo X pq H' b:=λhn b hb=>#[hn b hb,(f2 b hb).2]
 refine codeAny_forLoop_any (λn s'=>∃i σ' H',Inv X pq σ' H' s'/\tn i s'.heap/\(∀b∈fp,H' b=ae)/\W i n σ' H') ?_ m0 #[0,σ,H2,I2,st2,λb hb=>(f2 b hb).1,w0]
 rintro n s3 ⟨i,σ3,H3,I3,st3,fr3,w3⟩
 rcases turn i n σ3 H3 w3 with⟨stop,qn⟩|⟨go,N,hN,step⟩
 .refine gA hp (thn (T.done X rfl rfl rfl hc i pq s3 σ3 H3 X.xe I3 (stat fr3) st3 stop) λr s4 #[hr,I4]=>?_)
  subst hr;exact gz #[σ3,H3,I4,qn]
 .refine gA hp (thn (T.item X rfl rfl rfl hc i pq s3 σ3 H3 X.xe I3 (stat fr3) st3 go) λr s4 #[u,hr,h4]=>?_)
  subst hr;refine gA hp<|thn h4 λ_ s5 #[x,H5,I5,r5,y5,st5,fr5]=>?_
  have I5':=I5.pinned (stat fr5)<|T.obj _ _ st5;refine gA hp<|thn (hg _ s5 σ3 H5 x u _ I5' r5<|step x H5 y5) λ_ s6 #[σ6,H6,I6,q6]=>?_
  refine gA hp<|thn (hb _ s6 σ6 H6 _ I6 q6) λf s7 q7=>?_
  have again:∀{σ7:St}{H7:Hp},Inv X (pq++UK fp s5.heap) σ7 H7 s7->N σ7 H7->∃m,m<n/\∃i σ' H',Inv X pq σ' H' s7/\tn i s7.heap/\(∀b∈fp,H' b=ae)/\W i m σ' H':=λ{σ7 H7} I7 n7=>by
   obtain⟨m',hm,w7⟩:=hN σ7 H7 n7;refine#[m',hm,i+1,σ7,H7,I7.unpinned,T.keep _ _ _ st5 λb hb o e=>(I7.pin (b,o)<|bt _<|bt _<|XO hb e).1,λb hb=>?_,w7]
   obtain⟨o,e,d⟩:=T.obj _ _ st5 b hb;exact(I7.pin (b,o)<|bt _<|bt _<|XO hb e).2.1
  cases f with|next=>obtain⟨σ7,H7,I7,n7⟩:=q7;exact again I7 n7|cont=>obtain⟨σ7,H7,I7,n7⟩:=q7;exact again I7 n7|brk=>obtain⟨σ7,H7,I7,q7⟩:=q7;exact#[σ7,H7,I7.unpinned,q7]|ret v=>obtain⟨x7,σ7,H7,I7,r7,q7⟩:=q7;exact#[x7,σ7,H7,I7.unpinned,r7,q7]
abbrev R2:=V->V->Hp->VK->Prop
def OpR(X:Cx)(f:aq->aq->oa aq)(r:R2):Prop:=
 ∀(pq:List (aC×fD))(s:aA)(σ:St)(H:Hp)(x y:V)(v u:aq)(Q:VK),Inv X pq σ H s->Zx x v->Zx y u->r x y H Q->
  bn (aV X.prog X.w) X.A (f v u) (EP X pq σ Q) X.xe s
def UnR(X:Cx)(f:aq->oa aq)(r:V->Hp->VK->Prop):Prop:=
 ∀(pq:List (aC×fD))(s:aA)(σ:St)(H:Hp)(x:V)(v:aq)(Q:VK),Inv X pq σ H s->Zx x v->r x H Q->
  bn (aV X.prog X.w) X.A (f v) (EP X pq σ Q) X.xe s
def ZB(X:Cx)(f:aq)(r:List V->Hp->VK->Prop):Prop:=
 ∀(pq:List (aC×fD))(s:aA)(σ:St)(H:Hp)(xs:List V)(us:List aq)(Q:VK),Inv X pq σ H s->Vals xs us->r xs H Q->
  bn (aV X.prog X.w) X.A (call f us) (EP X pq σ Q) X.xe s
def Zf9(X:Cx)(r:V->Hp->(Bool->Hp->Prop)->Prop):Prop:=
 ∀(pq:List (aC×fD))(s:aA)(σ:St)(H:Hp)(x:V)(v:aq)(Q:Bool->Hp->Prop),Inv X pq σ H s->Zx x v->r x H Q->
  bn (aV X.prog X.w) X.A (rn v) (TP X pq σ Q) X.xe s
def tOp(r:R2)(ta tb:TE):TE:=λσ H Q=>ta σ H λx H1=>tb σ H1 λy H2=>r x y H2 Q
def tUn(r:V->Hp->VK->Prop)(ta:TE):TE:=λσ H Q=>ta σ H λx H1=>r x H1 Q
def rI(C:Int->Int->Prop)(g:Int->Int->V):R2:=λx y H Q=>∃i j,x=.int i/\y=.int j/\C i j/\Q (g i j) H
def rI0(g:Int->Int->V):R2:=λx y H Q=>∃i j,x=.int i/\y=.int j/\Q (g i j) H
def rU(g:Int->V):V->Hp->VK->Prop:=λx H Q=>∃i,x=.int i/\Q (g i) H
def ZdD(ha:PE X a ta)(hb:PE X b tb){pq:List (aC×fD)}{s:aA}{σ:St}{H:Hp}{R:V->V->Hp->Prop}(I:Inv X pq σ H s)
  (h:ta σ H λx H1=>tb σ H1 λy H2=>R x y H2){Q:aq->aA->Prop}{f:aq->aq->oa aq}
  (hf:∀v u s2 x y H2,Inv X pq σ H2 s2->Zx x v->Zx y u->R x y H2->bn (aV X.prog X.w) X.A (f v u) Q X.xe s2) :
  bn (aV X.prog X.w) X.A (bY a X.env) (λv s₁=>bn (aV X.prog X.w) X.A (bY b X.env) (λu s₂=>bn (aV X.prog X.w) X.A (f v u) Q X.xe s₂) X.xe s₁) X.xe s:=by
 refine thn (ha pq s σ H _ I h) λv s1 #[x,H1,I1,r1,q1]=>?_
 refine thn (hb pq s1 σ H1 _ I1 q1) λu s2 #[y,H2,I2,r2,q2]=>?_
 exact hf v u s2 x y H2 I2 r1 r2 q2
def V9(ho:OpR X (eR op) r)(ha:PE X a ta)(hb:PE X b tb):PE X (.BinOp a op b pos) (tOp r ta tb):=by
 intro pq s σ H Q I h;exact wpAny_BinOp<|ZdD ha hb I h λv u s2 x y H2 I2 rx ry q=>ho pq s2 σ H2 x y v u Q I2 rx ry q
def Zdk{op:UnaryOp}{r:V->Hp->VK->Prop}(ho:UnR X (unaryOp op) r)(ha:PE X a ta):PE X (.UnaryOp op a pos) (tUn r ta):=by
 intro pq s σ H Q I h;exact UnaryOp_<|thn (ha pq s σ H _ I h)<|by rintro v s1 ⟨x,H1,I1,r1,q1⟩;exact ho pq s1 σ H1 x v Q I1 r1 q1
def opI{f:aq->aq->oa aq}{C:Int->Int->Prop}{g:Int->Int->Int}
  (oi:∀(i j:Int)(t u:pU)(s:aA)(Q:aq->aA->Prop)(E:aq->aA->Prop),C i j->Q (.int (g i j) s.toks) {s with toks:=s.toks+1}->bn (aV X.prog X.w) X.A (f (.int i t)<|.int j u) Q E s) :
  OpR X f (rI C λi j=>.int<|g i j):=by
 intro pq s σ H x y v u Q I rx ry h;obtain⟨i,j,rfl,rfl,hc,q⟩:=h;obtain⟨t,rfl⟩:=rx;obtain⟨t',rfl⟩:=ry;exact oi i j t t' s _ _ hc #[.int<|g i j,H,I.tok _,#[_,rfl],q]
def Zfb{f:aq->aq->oa aq}{g:Int->Int->Int}
  (oi:∀(i j:Int)(t u:pU)(s:aA)(Q:aq->aA->Prop)(E:aq->aA->Prop),Q (.int (g i j) s.toks) {s with toks:=s.toks+1}->bn (aV X.prog X.w) X.A (f (.int i t)<|.int j u) Q E s) :
  OpR X f (rI0 λi j=>.int<|g i j):=by
 intro pq s σ H x y v u Q I rx ry h;obtain⟨i,j,rfl,rfl,q⟩:=h;obtain⟨t,rfl⟩:=rx;obtain⟨t',rfl⟩:=ry;exact oi i j t t' s _ _ #[.int<|g i j,H,I.tok _,#[_,rfl],q]
def Zcy{f:aq->aq->oa aq}{g:Int->Int->Bool}
  (oi:∀(i j:Int)(t u:pU)(s:aA)(Q:aq->aA->Prop)(E:aq->aA->Prop),Q (.bool<|g i j) s->bn (aV X.prog X.w) X.A (f (.int i t)<|.int j u) Q E s) :
  OpR X f (rI0 λi j=>.bl<|g i j):=by
 intro pq s σ H x y v u Q I rx ry h;obtain⟨i,j,rfl,rfl,q⟩:=h;obtain⟨t,rfl⟩:=rx;obtain⟨t',rfl⟩:=ry;exact oi i j t t' s _ _ #[.bl<|g i j,H,I,rfl,q]
def CPow(i j:Int):Prop:=0<=j/\j<=1000000/\i.natAbs<2^64
def ZdP:OpR X (eR .Add) (rI0 λi j=>.int<|i+j):=Zfb λ_ _ _ _ _ _ _ q=>add_int q
def Zed:OpR X (eR .Sub) (rI0 λi j=>.int<|i-j):=Zfb λ_ _ _ _ _ _ _ q=>sub_int q
def ZeU:OpR X (eR .Mod) (rI (λ_ j=>0<j) λi j=>.int<|i%j):=opI λi j _ _ _ _ _ hc q=>by
 have h1:=hc;exact mod_int' (by lia) (by grind)
def ZeQ:OpR X (eR .Pow) (rI CPow λi j=>.int<|i^j.toNat):=opI λ_ _ _ _ _ _ _ hc q=>pow_int_small hc.1 hc.2.1 hc.2.2 q
def unI{f:aq->oa aq}{g:Int->Int}
  (oi:∀(i:Int)(t:pU)(s:aA)(Q:aq->aA->Prop)(E:aq->aA->Prop),Q (.int (g i) s.toks) {s with toks:=s.toks+1}->bn (aV X.prog X.w) X.A (f<|.int i t) Q E s) :
  UnR X f (rU λi=>.int<|g i):=by
 intro pq s σ H x v Q I rx h;obtain⟨i,rfl,q⟩:=h;obtain⟨t,rfl⟩:=rx;exact oi i t s _ _ #[.int<|g i,H,I.tok _,#[_,rfl],q]
def jF:UnR X (unaryOp .USub) (rU λi=>.int<|-i):=unI λ_ _ _ _ _ q=>neg_int q
noncomputable def scal:V->V->Bool
 |.non,.non=>ak|.non,.int _=>ak|.int _,.non=>ak|.non,.bl _=>ak|.bl _,.non=>ak|.non,.str _=>ak|.str _,.non=>ak
 |.int _,.int _=>ak|.bl _,.bl _=>ak|.str _,.str _=>ak|.byt _,.byt _=>ak
 |.int _,.str _=>ak|.str _,.int _=>ak|.bl _,.str _=>ak|.str _,.bl _=>ak
 |_,_=>ai
def rEq:R2:=λx y H Q=>scal x y=ak/\Q (.bl<|af<|x=y) H
def rNe:R2:=λx y H Q=>scal x y=ak/\Q (.bl<|!decide (x=y)) H
def wp :af (V.int i=V.int j)=(i == j):=by grind
def Za0 :af (V.bl i=V.bl j)=(i == j):=by grind
def vL :af (V.str i=V.str j)=(i == j):=by grind
def vE :af (V.byt i=V.byt j)=(i.toList == j.toList):=by
 rw[cS];cases i;cases j;simp
def ZD(I:Inv X pq σ H s)(q:Q (.bl k) H)(e:k=k'):EP X pq σ Q (.bool k') s:=by
 subst e;exact#[.bl k,H,I,rfl,q]
def Zfm:OpR X (cN .Eq) rEq:=by
 intro pq s σ H x y v u Q I rx ry h;obtain⟨hs,q⟩:=h;cases x with
 |non=>
  cases rx;cases y with|non=>cases ry;exact PySem.EqNone.eq_none_none<|ZD I q<|by simp|bl j=>cases ry;exact PySem.EqNone.eq_none_bool<|ZD I q<|by simp|int j=>obtain⟨t',rfl⟩:=ry;exact PySem.EqNone.eq_none_int<|ZD I q<|by simp|str j=>obtain⟨t',rfl⟩:=ry;exact PySem.EqNone.eq_none_str<|ZD I q<|by simp|_=>exact T7 (hs) aN
 |bl i=>
  cases rx;cases y with|non=>cases ry;exact PySem.EqNone.eq_bool_none<|ZD I q<|by simp|bl j=>cases ry;exact eq_bool<|ZD I q Za0|str j=>obtain⟨t',rfl⟩:=ry;exact PySem.EqMixed.eq_bool_str<|ZD I q<|by simp|_=>exact T7 (hs) aN
 |int i=>
  obtain⟨t,rfl⟩:=rx;cases y with|non=>cases ry;exact PySem.EqNone.eq_int_none<|ZD I q<|by simp|int j=>obtain⟨t',rfl⟩:=ry;exact eq_int<|ZD I q wp|str j=>obtain⟨t',rfl⟩:=ry;exact PySem.EqMixed.eq_int_str<|ZD I q<|by simp|_=>exact T7 (hs) aN
 |str i=>
  obtain⟨t,rfl⟩:=rx;cases y with|non=>cases ry;exact PySem.EqNone.eq_str_none<|ZD I q<|by simp|bl j=>cases ry;exact PySem.EqMixed.eq_str_bool<|ZD I q<|by simp|int j=>obtain⟨t',rfl⟩:=ry;exact PySem.EqMixed.eq_str_int<|ZD I q<|by simp|str j=>obtain⟨t',rfl⟩:=ry;exact eq_str<|ZD I q vL|_=>exact T7 (hs) aN
 |byt i=>
  obtain⟨t,rfl⟩:=rx;cases y with|byt j=>obtain⟨t',rfl⟩:=ry;exact PySem.W.eq_bytes<|ZD I q vE|_=>exact T7 (hs) aN
 |_=>cases y<;>exact T7 (hs) aN
def Zfk:OpR X (cN .NotEq) rNe:=by
 intro pq s σ H x y v u Q I rx ry h;obtain⟨hs,q⟩:=h;cases x with
 |non=>
  cases rx;cases y with|non=>cases ry;exact PySem.EqNone.ne_none_none<|ZD I q<|by simp|bl j=>cases ry;exact PySem.EqNone.ne_none_bool<|ZD I q<|by simp|int j=>obtain⟨t',rfl⟩:=ry;exact PySem.EqNone.ne_none_int<|ZD I q<|by simp|str j=>obtain⟨t',rfl⟩:=ry;exact PySem.EqNone.ne_none_str<|ZD I q<|by simp|_=>exact T7 (hs) aN
 |bl i=>
  cases rx;cases y with|non=>cases ry;exact PySem.EqNone.ne_bool_none<|ZD I q<|by simp|bl j=>cases ry;exact ne_bool<|ZD I q<|congrArg not Za0|str j=>obtain⟨t',rfl⟩:=ry;exact PySem.EqMixed.ne_bool_str<|ZD I q<|by simp|_=>exact T7 (hs) aN
 |int i=>
  obtain⟨t,rfl⟩:=rx;cases y with|non=>cases ry;exact PySem.EqNone.ne_int_none<|ZD I q<|by simp|int j=>obtain⟨t',rfl⟩:=ry;exact ne_int<|ZD I q<|congrArg not wp|str j=>obtain⟨t',rfl⟩:=ry;exact PySem.EqMixed.ne_int_str<|ZD I q<|by simp|_=>exact T7 (hs) aN
 |str i=>
  obtain⟨t,rfl⟩:=rx;cases y with|non=>cases ry;exact PySem.EqNone.ne_str_none<|ZD I q<|by simp|bl j=>cases ry;exact PySem.EqMixed.ne_str_bool<|ZD I q<|by simp|int j=>obtain⟨t',rfl⟩:=ry;exact PySem.EqMixed.ne_str_int<|ZD I q<|by simp|str j=>obtain⟨t',rfl⟩:=ry;exact ne_str<|ZD I q<|congrArg not vL|_=>exact T7 (hs) aN
 |byt i=>
  obtain⟨t,rfl⟩:=rx;cases y with|byt j=>obtain⟨t',rfl⟩:=ry;exact PySem.W.ne_bytes<|ZD I q<|congrArg not vE|_=>exact T7 (hs) aN
 |_=>cases y<;>exact T7 (hs) aN
def ZeY:OpR X (cN .Lt) (rI0 λi j=>.bl<|af<|i<j):=Zcy λ_ _ _ _ _ _ _ q=>lt_int q
def Zfx:OpR X (cN .LtE) (rI0 λi j=>.bl<|af<|i<=j):=Zcy λ_ _ _ _ _ _ _ q=>le_int q
def ZeW:OpR X (cN .Gt) (rI0 λi j=>.bl<|af<|j<i):=Zcy λ_ _ _ _ _ _ _ q=>gt_int q
def Zfe:OpR X (cN .GtE) (rI0 λi j=>.bl<|af<|j<=i):=Zcy λ_ _ _ _ _ _ _ q=>ge_int q
def OpR.or(h:OpR X f r)(h':OpR X f r'):OpR X f (λx y H Q=>r x y H Q\/r' x y H Q):=by
 intro pq s σ H x y v u Q I rx ry q;rcases q with q|q
 .exact h pq s σ H x y v u Q I rx ry q
 .exact h' pq s σ H x y v u Q I rx ry q
def Z7(b:Expr)(h:op≠.In:=by decide)(h2:op≠.NotIn:=by decide):eo op b=ai:=by
 have e1:(op == rB.In)=ai:=by grind
 have e2:(op == rB.NotIn)=ai:=by grind
 cases b<;>simp[eo,e1,e2]
def Zcn(ho:OpR X (cN op) r)(ha:PE X a ta)(hb:PE X b tb)(hm:eo op b=ai):PE X (.Compare a [op] [b] pos) (tOp r ta tb):=by
 intro pq s σ H Q I h;exact wpAny_Compare1 (ZdD ha hb I h λv u s2 x y H2 I2 rx ry q=>ho pq s2 σ H2 x y v u Q I2 rx ry q) hm
def Zfu(t:TE):TT:=λσ H Q=>t σ H λx H'=>∃k,x=.bl k/\Q k H'
def ZbW(ho:OpR X (cN op) r)(ha:PE X a ta)(hb:PE X b tb)(hm:eo op b=ai):PT X (.Compare a [op] [b] pos) (Zfu<|tOp r ta tb):=by
 intro pq s σ H Q I h;refine l0 (thn (ha pq s σ H _ I h) λv s1 #[x,H1,I1,r1,q1]=>thn (hb pq s1 σ H1 _ I1 q1) λu s2 #[y,H2,I2,r2,q2]=>
  thn (ho pq s2 σ H2 x y v u _ I2 r1 r2 q2) λc s3 #[z,H3,I3,r3,k,e,q3]=>?_) hm
 subst e;cases r3;exact dU #[H3,I3,q3]
def ZeS(r r':R2)(ta tb tc:TE):TE:=λσ H Q=>ta σ H λx H1=>tb σ H1 λy H2=>r x y H2 λz H3=>∃k,z=.bl k/\
 (if k=ak then tc σ H3 λw' H4=>r' y w' H4 Q else Q (.bl ai) H3)
def Zab(ho:OpR X (cN op) r)(ho':OpR X (cN op') r')(ha:PE X a ta)(hb:PE X b tb)(hc:PE X c tc)
  (hm:lastMarks [op,op'] [b,c]=ai:=by with_unfolding_all rfl):PE X (.Compare a [op,op'] [b,c] pos) (ZeS r r' ta tb tc):=by
 intro pq s σ H Q I h;refine Compare_chain (thn (ha pq s σ H _ I h) λv s1 #[x,H1,I1,r1,q1]=>chain_link (thn (hb pq s1 σ H1 _ I1 q1) λu s2 #[y,H2,I2,r2,q2]=>
  thn (ho pq s2 σ H2 x y v u _ I2 r1 r2 q2) λd s3 #[z,H3,I3,r3,k,e,q3]=>?_)) hm
 subst e;cases r3;refine dU ?_;cases k with|false=>exact ite_ff #[.bl ai,H3,I3,rfl,q3]|true=>exact ite_tt<|chain_last<|thn (hc pq s3 σ H3 _ I3 q3)<|by rintro w' s4 ⟨z',H4,I4,r4,q4⟩;exact ho' pq s4 σ H4 y z' u w' Q I4 r2 r4 q4
def ZcF(K:al)(x:V)(H:Hp)(k:Bool):Prop:=
 match x with
 |.non=>k=ai
 |.bl b=>k=b
 |.int i=>k=(i != 0)
 |.str y=>y.length<=bo/\k=((y.length:Int) != 0)
 |.byt y=>y.size<=bo/\k=((y.size:Int) != 0)
 |.ref p=>(∃xs,SqL K H p xs/\k = !xs.isEmpty)\/(∃xs,SqT K H p xs/\k = !xs.isEmpty)\/∃kvs,H p=aa (.dK kvs)/\k = !kvs.isEmpty
 |_=>False
def x8{κ:Type}{kvs:List (κ×V)}{vs:List (κ×aq)}(r:KV kvs vs):(!vs.isEmpty) = !kvs.isEmpty:=by
 cases r<;>rfl
def UE{xs:List V}{its:List aq}(r:Vals xs its):(!its.toArray.isEmpty) = !xs.isEmpty:=by
 cases r<;>simp
def Qs:(bo:Nat)<2^63:=by rw[da];decide
def jC:Zf9 X (λx H Q=>∃k,ZcF X.K x H k/\Q k H):=by
 intro pq s σ H x v Q I rx h;obtain⟨k,e,q⟩:=h;have hl:=Qs;have hs:=da;cases x with
 |non=>
  cases rx;have e':=e;subst e';exact truthy_none #[H,I,q]
 |bl b=>
  cases rx;have e':k=b:=e;subst e';exact dU #[H,I,q]
 |int i=>
  obtain⟨t,rfl⟩:=rx;have e':=e;subst e';exact m8 #[H,I,q]
 |str y=>
  obtain⟨t,rfl⟩:=rx;obtain⟨hy,e'⟩:=e;subst e';exact PySem.P.truthy_str (by lia) #[H,I.tok _,q]
 |byt y=>
  obtain⟨t,rfl⟩:=rx;obtain⟨hy,e'⟩:=e;subst e';exact PySem.W.truthy_bytes (by lia) #[H,I.tok _,q]
 |ref p=>
  cases rx;have e':=e;rcases e' with⟨xs,hx,e'⟩|⟨xs,hx,e'⟩|⟨kvs,hx,e'⟩
  .subst e'
   obtain⟨its,r,pl,hz⟩:=I.list hx;have hlen:=r.length;exact wpAny_truthy_list pl.isList (by grind) #[H,I.tok _,by rw[UE r];exact q]
  .subst e'
   obtain⟨its,r,pl,hz⟩:=I.tuple hx;have hlen:=r.length;exact truthy_tuple pl (by grind) #[H,I.tok _,by rw[UE r];exact q]
  .subst e'
   obtain⟨hz,hS,vs,r,m⟩:=I.hok p _ hx;have hlen:=Paired.length r;exact wpAny_truthy_dict hS m (by lia) #[H,I.tok _,by rw[x8 r];exact q]
 |_=>exact(e).elim
def Zac(ha:PE X a ta)(he:∀whole,isTrue a X.env whole=(do let v <-whole;i6 a.pos;gN [v] (rn v))) :
  PT X a (λσ H Q=>ta σ H λx H'=>∃k,ZcF X.K x H' k/\Q k H'):=by
 intro pq s σ H Q I h;exact isTrue_plain (thn (ha pq s σ H _ I h)<|by rintro v s1 ⟨x,H1,I1,r1,q1⟩;exact jC pq s1 σ H1 x v Q I1 r1 q1)<|he _
def Ww(r:Vals [x] us):∃u,us=[u]/\Zx x u:=by
 cases r with|cons r1 r2=>cases r2;exact#[_,rfl,r1]
def yf(r:Vals [x,y] us):∃u w',us=[u,w']/\Zx x u/\Zx y w':=by
 cases r with
 |cons r1 r2=>
  cases r2 with|cons r3 r4=>cases r4;exact#[_,_,rfl,r1,r3]
def uV(hc:X.calm=ak):ZB X (.builtin "max") (λxs H Q=>∃i j,xs=[.int i,.int j]/\Q (.int (if j>i then j else i)) H):=by
 intro pq s σ H xs us Q I r h;obtain⟨i,j,rfl,q⟩:=h;obtain⟨u,w',rfl,⟨t,rfl⟩,⟨t',rfl⟩⟩:=yf r;refine max_two_ints (I.ok.hd hc) λh' tk k=>#[_,H,I.kept k,?_,q]
 by_cases hj:j>i
 .rw[T9 hj,T9 hj];exact#[_,rfl]
 .rw[T8 hj,T8 hj];exact#[_,rfl]
def uT(hc:X.calm=ak):ZB X (.builtin "min") (λxs H Q=>∃i j,xs=[.int i,.int j]/\Q (.int (if j<i then j else i)) H):=by
 intro pq s σ H xs us Q I r h;obtain⟨i,j,rfl,q⟩:=h;obtain⟨u,w',rfl,⟨t,rfl⟩,⟨t',rfl⟩⟩:=yf r;refine min_two_ints (I.ok.hd hc) λh' tk k=>#[_,H,I.kept k,?_,q]
 by_cases hj:j<i
 .rw[T9 hj,T9 hj];exact#[_,rfl]
 .rw[T8 hj,T8 hj];exact#[_,rfl]
def qj:ZB X (.type "int") (λxs H Q=>(∃i,xs=[.int i]/\Q (.int i) H)\/∃k,xs=[.bl k]/\Q (.int (if k then 1 else 0)) H):=by
 intro pq s σ H xs us Q I r h;rcases h with⟨i,rfl,q⟩|⟨k,rfl,q⟩
 .obtain⟨u,rfl,t,rfl⟩:=Ww r
  exact call_int_int #[.int i,H,I,#[_,rfl],q]
 .obtain⟨u,rfl,r1⟩:=Ww r
  cases r1;exact call_int_bool #[.int (if k then 1 else 0),H,I.tok _,#[_,rfl],q]
structure ObjM(h:ck)(x dx C:aC)(mA:bi->Option aq):Prop where
 obj:h.get? x=aa (lQ C dx)
 ns:h.Ns1 dx mA
 ne:dx≠x
def u9{h:ck}{dx:aC}{mA:bi->Option aq}(n:h.Ns1 dx mA):∃od,h.get? dx=aa od/\∀name,mf name od=aa (mA name):=by
 obtain⟨o,es,ep,ho,hd,hk,_,hm⟩:=n;refine#[o,ho,λname=>?_]
 have e:=hm name;unfold nsFind findBy at e;rw[<-Array.find?_toList]at e;unfold mf;rw[hd]
 dsimp only
 split
 .grind
 .rename_i q
  rw[q]at e;have a:es.toList.any (·.refKey)=ai:=by
   rw[nD];intro y hy;obtain⟨z,t,hkey⟩:=hk y<|mh.mp hy;simp[ln.refKey,hkey]
  have a':¬es.toList.any (·.refKey)=ak:=by grind
  rw[T8 a'];exact congrArg aa e
def ObjM.look(I:ObjM h x dx C mA):∃od,PySem.W.InstAt h x (lQ C dx) C (aa od)/\∀name,mf name od=aa (mA name):=
 let #[od,ho,hl]:=u9 I.ns
 #[od,#[I.obj,rfl,rfl,ho],hl]
def wI(hok:HOk P w H h)(e:H a=aa (.ins C dx fs)):∃mA,ObjM h a dx C mA/\(∀f,xx (fs.lookup f)<|mA f)/\PySem.Within mA (fs.map (·.1))/\fs.length<=1000/\H dx=aa (.own a):=by
 obtain⟨d,z,ne,ob,mA,n,r,q⟩:=(hok a _ e)
 exact#[mA,#[ob,n,ne],r,q,z,d]
structure Cls(K:al)(C:aC):Prop where
 pg:oj K C bi.empty=ak
 hd:PySem.W.hasDictIn K C=ak
 po:PySem.W.plainOver K C=ak
 sa:pi K (.ref C) "__setattr__" = aa (aa<|.builtin "object.__setattr__")
def Cls.get{K:al}{C:aC}(c:Cls K C)(f:bi):oj K C f=ak:=c.pg
inductive TyOf(K:al)(H:Hp):V->aq->Prop where
 |non:TyOf K H .non (.type "NoneType")
 |bl (x:Bool):TyOf K H (.bl x) (.type "bool")
 |int (i:Int):TyOf K H (.int i) (.type "int")
 |str (x:bi):TyOf K H (.str x) (.type "str")
 |flt (x:UInt64):TyOf K H (.flt x) (.type "float")
 |lst {a:aC} {xs:List V} (e:H a=aa (.lst xs)):TyOf K H (.ref a) (.type "list")
 |frz {a:aC} {o:fD} {xs:List V} (e:H a=aa (.frz o<|.lst xs)):TyOf K H (.ref a) (.type "list")
 |tup {a:aC} {xs:List V} (e:H a=aa (.tup xs)):TyOf K H (.ref a) (.type "tuple")
 |dK {a:aC} {kvs:List (Key×V)} (e:H a=aa (.dK kvs)):TyOf K H (.ref a) (.type "dict")
 |dT {a:aC} {kvs:List (List Key×V)} (e:H a=aa (.dT kvs)):TyOf K H (.ref a) (.type "dict")
 |ins {a C dx:aC} {fs:List (bi×V)} (e:H a=aa (.ins C dx fs)) (cl:Cls K C) (ha:pi K (.ref C) "__class__" = aa (aa<|.builtin "object.__class__"))
   (hn:PySem.W.specialIn K (.builtin "object.__class__") "__get__" = aa (aa<|.builtin "getset_descriptor.__get__")) (htk:PySem.W.takesIn K (.builtin "object.__class__")=aa ak)
   (hm:PySem.W.mroIn K C (.type "object")=aa ak):TyOf K H (.ref a) (.ref C)
def ua(I:Inv X pq σ H s)(rx:Zx x u)(ty:TyOf X.K H x t)(e:fP X.K t c=aa b)(h:∀tk,Q (.bool b) {s with toks:=tk}) :
  bn (aV X.prog X.w) A (call (.builtin "isinstance") [u,c]) Q E s:=by
 cases ty with
 |non=>cases(show u=bI from rx);exact cT nE I.kIn dk e (λz=>nomatch z) h
 |bl y=>cases(rx);exact cT nF I.kIn dk e (λz=>nomatch z) h
 |int i=>obtain⟨t,q⟩:=(rx);cases q;exact cT om I.kIn dk e (λz=>nomatch z) h
 |str y=>obtain⟨t,q⟩:=(rx);cases q;exact cT on I.kIn dk e (λz=>nomatch z) h
 |flt y=>obtain⟨t,q⟩:=(rx);cases q;exact cT m9 I.kIn dk e (λz=>nomatch z) h
 |@lst a xs ea=>
  cases(rx)
  obtain⟨_,_,n,_,h1⟩:=(I.hok a _ ea)
  exact cT gQ I.kIn #[_,h1,rfl] e (λz=>nomatch z) h
 |@frz a ob xs ea=>
  cases(rx)
  obtain⟨_,_,_,n,_,h1⟩:=(I.hok a _ ea)
  exact cT gQ I.kIn #[_,h1,rfl] e (λz=>nomatch z) h
 |@tup a xs ea=>
  cases(rx)
  obtain⟨_,_,_,p⟩:=(I.hok a _ ea)
  obtain⟨o,h1,h2,_⟩:=p;exact cT ng I.kIn #[o,h1,h2] e (λz=>nomatch z) h
 |@dK a kvs ea=>
  cases(show u=dJ a from rx)
  obtain⟨_,_,vs,_,p⟩:=(I.hok a _ ea)
  obtain⟨o,es,ep,h1,h2,_⟩:=p;exact cT gR I.kIn #[o,h1,h2.1] e (λz=>nomatch z) h
 |@dT a kvs ea=>
  cases(show u=dJ a from rx)
  obtain⟨_,_,xs,_,o,es,ep,h1,h2,_⟩:=(I.hok a _ ea)
  exact cT gR I.kIn #[o,h1,h2.1] e (λz=>nomatch z) h
 |@ins a C dx fs ea cl ha hn htk hm=>
  cases(show u=dJ a from rx)
  obtain⟨mA,O,_⟩:=wI I.hok ea;obtain⟨od,J,_⟩:=O.look;exact cT (oo (cl.get _) cl.hd ha hn htk hm) I.kIn J e (λz=>nomatch z) h
structure Room(k:Nat)(A:cC):Prop where
 hd:A.handled=ae
 dp:A.depth+3*k+5<recursionLimit
 un:A.units+16*k+200<dH
def Room.mono(r:Room k A)(h:j<=k):Room j A:=#[r.hd,by have:=r.dp;lia,by have:=r.un;lia]
theorem Room.deeper(r:Room (k+1) A)(env:Env):Room k (A.deeper env):=
 #[r.hd,by have:=r.dp;show A.depth+1+3*k+5<_;lia,by have:=r.un;show A.units+3+16*k+200<_;lia]
theorem Room.depth(r:Room k A):A.depth<recursionLimit:=by have:=r.dp;lia
def J8:TA:=λ_ H Q=>Q [] H
def YQ(ta:TE)(tr:TA):TA:=λσ H Q=>ta σ H λx H1=>tr σ H1 λxs H2=>Q (x::xs) H2
def Yf:PA X [] J8:=λ_ _ _ _ H Q I h=>Calls.spliced_nil #[[],H,I,.nil,h]
def Zw(ha:PE X e te)(hr:PA X es t)(hs:az (e::es) X.env=(ai,bY e X.env)::az es X.env:=by rfl):PA X (e::es) (YQ te t):=by
 intro pos pq s σ H Q I h;rw[hs];refine Calls.spliced_cons<|thn (ha pq s σ H _ I h) λu s1 #[x,H1,I1,r1,q1]=>?_
 exact thn (hr pos pq s1 σ H1 _ I1 q1)<|by rintro us s2 ⟨xs,H2,I2,r2,q2⟩;exact #[x::xs,H2,I2,.cons r1 r2,q2]
def ZfY(t:TA):TE:=λσ H Q=>t σ H λxs H1=>xs.length<=bo/\∀p,H1 p=ae->Q (.ref p) (upd H1 p<|.tup xs)
def uI(t:TA):TE:=λσ H Q=>t σ H λxs H1=>xs.length<=bo/\∀p,H1 p=ae->Q (.ref p) (upd H1 p<|.lst xs)
def jw{x1}(h:PA X es t):PE X (.Tuple es x1 pos) (ZfY t):=by
 intro pq s σ H Q I hq;refine wpAny_Tuple_spliced<|thn (h pos pq s σ H _ I hq) λus s1 #[xs,H1,I1,r,z,q]=>#[by rw[<-r.length];exact z,?_]
 have hf:=I1.hok.fresh<|aG _;refine#[.ref s1.heap.objs.size,upd H1 s1.heap.objs.size<|.tup xs,I1.laid (t':=s1.toks) (λb u e=>ax _ e) (aG _) ?_,rfl,q _ hf]
 exact#[z,us,r,#[_,aQ _ rfl,rfl,_,rfl]]
def UL(h:PA X es t):PE X (.List es pos) (uI t):=by
 intro pq s σ H Q I hq;refine wpAny_List_spliced<|thn (h pos pq s σ H _ I hq) λus s1 #[xs,H1,I1,r,z,q]=>#[by rw[<-r.length];exact z,?_]
 have hf:=I1.hok.fresh<|aG _;refine#[.ref s1.heap.objs.size,upd H1 s1.heap.objs.size<|.lst xs,I1.laid (t':=s1.toks) (λb u e=>ax _ e) (aG _) ?_,rfl,q _ hf]
 exact#[z,us,0,r,aQ _ rfl]
abbrev Sp:=List V->Hp->VK->XK->Prop
abbrev CXT:=List Env->Hp->aA->XK->aq->aA->Prop
structure Env0(P:bH)(w:bV)(K:al)(mg:bi->Option aq)(base:ck)(A:cC)(outer:List Env)(s:aA)(H:Hp):Prop where
 frames:A.frames=aa outer
 mod:Mod K mg base
 bs:∀b o,base.get? b=aa o->s.heap.get? b=aa o/\H b=ae
 bsz:base.objs.size<=s.heap.objs.size
 funs:s.heap.FunFrames base outer
 frf:∀b∈frs outer,H b=ae
 hok:HOk P w H s.heap
 bare:iC s.gens
def CE(outer:List Env)(P:bH)(w:bV)(H:Hp)(s:aA)(Q:VK)(u:aq)(s':aA):Prop:=
 ∃v H',s'.os=s.os/\iC s'.gens/\Un (frs outer) [] H H' s.heap s'.heap/\HOk P w H' s'.heap/\Zx v u/\Q v H'
def CR(CX:CXT)(outer:List Env)(P:bH)(w:bV)(H:Hp)(s:aA)(Q:VK)(E:XK)(r:rz)(s':aA):Prop:=
 match r with
 |.ok (.ret u)=>CE outer P w H s Q u s'
 |.ok _=>False
 |.error e=>CX outer H s E e s'
structure FnOk(P:bH)(w:bV)(K:al)(mg:bi->Option aq)(base:ck)(CX:CXT)(k:Nat)(f:aC)(fd:cA)(ps:List bi)(sp:Sp):Prop where
 len:∀vs H Q E,sp vs H Q E->vs.length=ps.length
 run:∀(A:cC)(outer:List Env)(s:aA)(H:Hp)(args:Args)(us:List aq)(vs:List V)(Q:VK)(E:XK),Room k A->Env0 P w K mg base A outer s H->mD s fd args (ps.zip us)->Vals vs us->sp vs H Q E->
  eS (aV P w) A (.call (.ref f) args) (CR CX outer P w H s Q E) s
def Inv.env0(I:Inv X pq σ H s):Env0 X.prog X.w X.K X.mg X.base X.A X.stack s H:=
 #[I.ok.frames,I.ok.mod,I.bs,cc I.ok.bsz I.sz,I.stack,I.stkFree,I.hok,I.bare]
def Inv.after(I:Inv X pq σ H s)(h:CE X.stack X.prog X.w H s Q u s'):EP X pq σ Q u s':=by
 obtain⟨v,H',os,bare,un,hok,r,q⟩:=h;obtain⟨hh,g,d,t,os'⟩:=s';obtain rfl:os'=s.os:=os;exact#[v,H',I.call (h':=hh) (g':=g) (d':=d) (t':=t) un hok bare (λb z=>T7 z<|by simp),r,q]
def Zdx(sp:Sp)(dvs:List V)(E:XK)(t:TA):TE:=λσ H Q=>t σ H λvs H1=>sp (vs++dvs) H1 Q E
def WV(K:al)(fd:cA)(ps:List bi)(ds:List aq):Prop:=
 ∀(s:aA)(us:List aq),K.In s.heap->(us++ds).length=ps.length->mD s fd #[us,[]] (ps.zip<|us++ds)
def WV.all{K:al}{fd:cA}{ps:List bi}(h:∀us:List aq,us.length=ps.length->mi fd #[us,[]]=cD (ps.zip us)):WV K fd ps []:=λs us _ hl=>by
 rw[cr]at hl ⊢;exact .of_eq<|h us hl
def VO(CX:CXT)(X:Cx)(E:XK):Prop:=∀(pq:List (aC×fD))(σ:St)(H:Hp)(s:aA)(e:aq)(s':aA),Inv X pq σ H s->CX X.stack H s E e s'->X.xe e s'
def Zek(F:FnOk X.prog X.w X.K X.mg X.base CX k f fd ps sp)(hr:Room k X.A)(hb:WV X.K fd ps ds)(hd:Vals dvs ds)(hx:VO CX X E)
  (I:Inv X pq σ H s)(r:Vals vs us)(h:sp (vs++dvs) H Q E):bn (aV X.prog X.w) X.A (call (.ref f) us) (EP X pq σ Q) X.xe s:=by
 have r2:=r.append hd;have hl:(us++ds).length=ps.length:=by rw[<-r2.length];exact F.len _ _ _ _ h
 refine pj<|i7 (F.run X.A X.stack s H #[us,[]] (us++ds) (vs++dvs) Q E hr I.env0 (hb s us I.kIn hl) r2 h) λr s' hq=>?_
 cases r with
 |error e=>exact hx pq σ H s e s' I hq
 |ok fl=>
  cases fl with|ret u=>exact I.after hq|next=>exact False.elim hq|brk=>exact False.elim hq|cont=>exact False.elim hq
def J6(F:FnOk X.prog X.w X.K X.mg X.base CX k f fd ps sp)(hr:Room k X.A)(hg:Gl X x)(hm:X.mg x=aa (.ref f))(hk:fk X.K (.ref f)=ak)(hb:WV X.K fd ps ds)(hd:Vals dvs ds)(hx:VO CX X E)
  (ha:PA X (e::es) t)(hdb:(x == ("__debug__" : bi))=ai:=by decide)(he:az (e::es) X.env=(ai,bY e X.env)::az es X.env:=by rfl)(hpl:(dz pos<|az es X.env).any (·.1)=ai:=by rfl) :
  PE X (.Call (.Name x p) (e::es) [] pos) (Zdx sp dvs E t):=by
 intro pq s σ H Q I h;refine fw<|WP I hg hm ?_ hdb;refine ni I.ok.mod.kin hk (thn (ha pos pq s σ H _ I h) λus s1 #[vs,H1,I1,r,q]=>#[I1.kIn,?_]) he hpl
 exact Zek F hr hb hd hx I1 r q
structure FnScope(N P:List bi)(sc:dO):Prop where
 kind:sc.kind=.function
 co:sc.isCoroutine=ai
 gen:sc.isGenerator=ai
 nd:N.Nodup
 pre:N.take P.length=P
 par:∀x∈P,sc.names.lookup x=aa .local\/sc.names.lookup x=aa .cell
 nofree:∀y∈sc.names,y.2≠.free
theorem QV{kindOf:bi->Option fm}{x:bi}:∀{binds:List (bi×aq)}{m:bi->Option aq},(∀v,(x,v)∉binds)->rj kindOf binds m x=m x
 |[],_,_=>rfl
 |(n,v)::r,m,h=>by
  unfold rj;rw[QV λw hw=>h w<|au _ hw]
  split
  .grind
  .rfl
theorem Jh{kindOf:bi->Option fm}{x:bi}:∀{binds:List (bi×aq)}{m:bi->Option aq},(∀v,(x,v)∉binds)->rm kindOf binds m x=m x
 |[],_,_=>rfl
 |(n,v)::r,m,h=>by
  unfold rm;rw[Jh λw hw=>h w<|au _ hw]
  split
  .rfl
  .grind
theorem Ji{kindOf:bi->Option fm}{x:bi}{v:aq}:∀{P:List bi}{vs:List aq}{i:Nat}{m:bi->Option aq},P.Nodup->P[i]?=aa x->vs[i]?=aa v->kindOf x=aa .local->
  rj kindOf (P.zip vs) m x=aa v
 |[],_,_,_,_,h,_,_=>by simp at h
 |_::_,[],_,_,_,_,h,_=>by simp at h
 |p::P,w::vs,0,m,nd,h1,h2,hk=>by
  simp at h1 h2;subst h1;subst h2;show rj kindOf ((p,w)::P.zip vs) m p=_;unfold rj;rw[QV λv hv=>(dy.mp nd).1 (cH hv).1,T9 hk]
  simp
 |p::P,w::vs,i+1,m,nd,h1,h2,hk=>by
  unfold rj;exact Ji (dy.mp nd).2 (by simpa using h1) (by simpa using h2) hk
theorem Jn{kindOf:bi->Option fm}{x:bi}{v:aq}:∀{P:List bi}{vs:List aq}{i:Nat}{m:bi->Option aq},P.Nodup->P[i]?=aa x->vs[i]?=aa v->kindOf x≠aa .local->
  rm kindOf (P.zip vs) m x=aa v
 |[],_,_,_,_,h,_,_=>by simp at h
 |_::_,[],_,_,_,_,h,_=>by simp at h
 |p::P,w::vs,0,m,nd,h1,h2,hk=>by
  simp at h1 h2;subst h1;subst h2;show rm kindOf ((p,w)::P.zip vs) m p=_;unfold rm;rw[Jh λv hv=>(dy.mp nd).1 (cH hv).1,T8 hk]
  simp
 |p::P,w::vs,i+1,m,nd,h1,h2,hk=>by
  unfold rm;exact Jn (dy.mp nd).2 (by simpa using h1) (by simpa using h2) hk
noncomputable def start(N:List bi)(vs:List V):St:=vs.map aa++aP (N.length-vs.length) ae
noncomputable def X3(CX:CXT)(P:bH)(w:bV)(K:al)(mg:bi->Option aq)(base:ck)(N:List bi)(qual:bi)(scope:dO)(f:aC)(cd:aq)(A:cC)(outer:List Env)(s:aA)(H:Hp)(E:XK):Cx where
 prog:=P
 w:=w
 K:=K
 mg:=mg
 base:=base
 A:=A.deeper<|dL qual scope s.heap.objs.size f cd
 N:=N
 s₀:=s
 H₀:=H
 env:=dL qual scope s.heap.objs.size f cd
 outer:=outer
 stack:=dL qual scope s.heap.objs.size f cd::outer
 ex:=[]
 calm:=ak
 fn:=λ_=>ak
 pn:=[]
 xe:=λe s'=>bn (aV P w) (A.deeper<|dL qual scope s.heap.objs.size f cd) (leaving (dL qual scope s.heap.objs.size f cd) e) (λ_ s''=>CX outer H s E e s'') (λe' s''=>CX outer H s E e' s'') s'
def U8{sc:dO}{n:Nat}{x:bi}(h:sc.names.lookup x=aa .cell):∃c,(iu n sc.names []).lookup x=aa c:=by
 have q:=gS sc.names n []<|.inl h;exact cV.mp q
def Je{CX:CXT}{P:bH}{w:bV}{K:al}{mg:bi->Option aq}{base:ck}{N ps:List bi}{qual:bi}{scope:dO}{f:aC}{cd:aq}{A:cC}{outer:List Env}{s s1:aA}{H:Hp}{E:XK}{us:List aq}{vs:List V}
  (S:FnScope N ps scope)(hd:A.handled=ae)(e0:Env0 P w K mg base A outer s H)(hl:vs.length=ps.length)(r:Vals vs us)
  (x:InCallC s s.heap.objs.size (rj (dL qual scope s.heap.objs.size f cd).kindOf (ps.zip us) λ_=>ae) (iu (s.heap.objs.size+1) scope.names []) (rm (dL qual scope s.heap.objs.size f cd).kindOf (ps.zip us) λ_=>ae) s1) :
  Inv (X3 CX P w K mg base N qual scope f cd A outer s H E) [] (start N vs) H s1:=by
 have hpl:ps.length<=N.length:=by have:=congrArg List.length S.pre;rw[bE]at this;lia
 obtain⟨h1,tk,rfl,hk⟩:=x.done;have noA:∀b:aC,b∉(X3 CX P w K mg base N qual scope f cd A outer s H E).ex:=λb z=>T7 (show b∈([]:List aC)from z) (by simp)
 refine#[#[e0.mod,S.kind,rfl,rfl,aG _,λy z c h1 h2=>?_,λy hy=>?_,λy c _ h=>?_,λ_=>hd,mj e0.frames,.inr #[rfl,rfl],λb z=>T7 z<|noA b,e0.bs,e0.bsz,λb _ _=>noA b,λb z=>T7 z<|noA b,e0.funs,e0.frf],
  rfl,e0.bare,Un.kept hk,#[_,x.toInCall.ns,λi y v h1 h2 h3=>?_],λy c h=>#[_,x.cell y c h],e0.hok.fresh<|aG _,λy c h=>?_,λp hp=>T7 (show p∈([]:List (aC×fD))from hp) (by simp),e0.hok.kept hk,?_]
 .exact name_of_addr x.apart (dG h1)<|dG h2
 .have hy:=hy
  rcases hy with hy|hy
  .exact U8 hy
  .exact T7 rfl<|S.nofree _<|dG hy
 .exact i5<|x.above y c<|dG h
 .have hi:i<vs.length:=by
   unfold start at h2;by_cases hi:i<vs.length
   .exact hi
   .grind
  have ha:vs[i]?=aa v:=by
   unfold start at h2;rw[bN (by simpa using hi),aR]at h2
   cases e:vs[i]? with|none=>grind|some a=>grind
  obtain⟨u,hu,rv⟩:=r.get ha;have hp:ps[i]?=aa y:=by
   rw[<-S.pre,List.getElem?_take_of_lt<|by lia];exact h1
  have ndP:ps.Nodup:=by rw[<-S.pre];exact S.nd.sublist<|kM _ _
  refine#[u,rv,?_];rcases S.par y (cM hp)with k|k
  .exact .inl #[k,Ji ndP hp hu k]
  .obtain⟨c,e⟩:=U8 k
   refine .inr #[.inl k,c,e,?_];have q:=x.cell y c e;rw[Jn ndP hp hu<|by show scope.names.lookup y≠_;rw[k];decide]at q
   exact q
 .exact e0.hok.fresh<|i5<|x.above y c<|dG h
 .unfold start
  show _=N.length;rw[aX,aw,dm];lia
def Zc8{CX:CXT}{P:bH}{w:bV}{K:al}{mg:bi->Option aq}{base:ck}{k:Nat}{f:aC}{name qual:bi}{params:oq}{body:List eJ}{scope:dO}{dV kV doc pm cdv ct oc:aq}{an od:Option aC}
  {osl:Array (Option aq)}{N ps:List bi}{sp:Sp}(lk:K.lookup f=aa #[oc,od,.func<|eg name qual params body scope dV kV doc pm an cdv ct,osl])(hcd:kl K cdv qual=ak)(S:FnScope N ps scope)
  (len:∀vs H Q E,sp vs H Q E->vs.length=ps.length)
  (hbody:∀(A:cC)(outer:List Env)(s:aA)(H:Hp)(vs:List V)(Q:VK)(E:XK),Room k (A.deeper<|dL qual scope s.heap.objs.size f cdv)->sp vs H Q E->
   ∃t,PSs (X3 CX P w K mg base N qual scope f cdv A outer s H E) body t/\t {nx:=λ_ H'=>Q .non H',rt:=Q} (start N vs) H) :
  FnOk P w K mg base CX (k+1) f (eg name qual params body scope dV kV doc pm an cdv ct) ps sp:=by
 refine#[len,λA outer s H args us vs Q E hr e0 hb r hsp=>?_]
 have hl:=len _ _ _ _ hsp;have KX:=e0.mod.kin.keeps λb o e=>(e0.bs b o e).1
 have lim:=e0.mod.nolimit.keeps λb o e=>(e0.bs b o e).1
 have hkind:∀y∈ps.zip us,scope.names.lookup y.1=aa .local\/(scope.names.lookup y.1=aa .cell/\((iu (s.heap.objs.size+1) scope.names []).lookup y.1).isSome=ak):=by
  rintro ⟨n,v⟩ hy;rcases S.par n (cH hy).1 with q|q
  .exact .inl q
  .exact .inr #[q,gS _ _ _<|.inl q]
 refine l6 hr.depth (KX _ _ lk) rfl S.co S.gen rfl (nj KX hcd)<|hb _ _ _ _ ?_;refine km S.kind hkind λenv he s1 x=>?_
 subst he;refine#[lim.keeps x.toInCall.keep,codeAny_func ?_];obtain⟨t,ht,hq⟩:=hbody A outer s H vs Q E (hr.deeper _) hsp;have I:Inv (X3 CX P w K mg base N qual scope f cdv A outer s H E) [] (start N vs) H s1:=Je S hr.hd e0 hl r x;refine cI (ht [] s1 (start N vs) H _ I hq) (λfl s' hs=>?_) λe s' hs=>hs
 have fin:∀{σ':St}{H':Hp}{v:V}{u:aq},Inv (X3 CX P w K mg base N qual scope f cdv A outer s H E) [] σ' H' s'->Zx v u->Q v H'->CE outer P w H s Q u s':=
  λ{σ' H' v u} J rv q=>#[v,H',J.os,J.bare,J.base,J.hok,rv,q]
 cases fl with
 |ret u=>
  obtain⟨v,σ',H',J,rv,q⟩:=hs;exact fin J rv q
 |next=>
  obtain⟨σ',H',J,q⟩:=hs;exact fin (v:=V.non) J rfl q
 |brk=>
  obtain⟨_,_,_,q⟩:=hs;exact False.elim q
 |cont=>
  obtain⟨_,_,_,q⟩:=hs;exact False.elim q
section
variable{X:Cx}{x:bi}{p pos:fO}{e:Expr}{es:List Expr}{t:TA}{id T:String}{r:List V->Hp->VK->Prop}
def tCB(r:List V->Hp->VK->Prop)(t:TA):TE:=λσ H Q=>t σ H λvs H1=>r vs H1 Q
def XG(hc:ZB X (.builtin id) r)(hg:Gl X x)(hm:X.mg x=ae)(hv:dv x=aa (.builtin id))(ha:PA X (e::es) t)(hn:x≠"__name__":=by decide)(hdb:(x == ("__debug__" : bi))=ai:=by decide)
  (he:az (e::es) X.env=(ai,bY e X.env)::az es X.env:=by rfl)(hpl:(dz pos<|az es X.env).any (·.1)=ai:=by rfl):PE X (.Call (.Name x p) (e::es) [] pos) (tCB r t):=by
 intro pq s σ H Q I h;refine fw<|Xc I hg hm hv ?_ hn hdb;exact PyProof.Rows.callWith_builtin1 (thn (ha pos pq s σ H _ I h)<|by rintro us s1 ⟨vs,H1,I1,r1,q1⟩;exact hc pq s1 σ H1 vs us Q I1 r1 q1) he hpl
def Jo(hc:ZB X (.type T) r)(hg:Gl X x)(hm:X.mg x=ae)(hv:dv x=aa (.type T))(ha:PA X (e::es) t)(hn:x≠"__name__":=by decide)(hdb:(x == ("__debug__" : bi))=ai:=by decide)
  (he:az (e::es) X.env=(ai,bY e X.env)::az es X.env:=by rfl)(hpl:(dz pos<|az es X.env).any (·.1)=ai:=by rfl):PE X (.Call (.Name x p) (e::es) [] pos) (tCB r t):=by
 intro pq s σ H Q I h;refine fw<|Xc I hg hm hv ?_ hn hdb;exact bP (thn (ha pos pq s σ H _ I h)<|by rintro us s1 ⟨vs,H1,I1,r1,q1⟩;exact hc pq s1 σ H1 vs us Q I1 r1 q1) he hpl
end
end L2
namespace HT
open PySem PyProof.Rows
def ZbQ{Q:aq->aA->Prop}(ht:rh s.heap t vs.toArray)(hb:rh s.heap b ws.toArray)(hv:vs≠[])
  (h1:ws=[]->Q (.ref t) s)(h2:ws≠[]->Q (.ref s.heap.objs.size) {s with heap:=s.heap.push {cls:=.type "tuple",data:=.seq (vs++ws).toArray}})
  (hsz:vs.length+ws.length<=bo):bn (aV prog w) A (eR .Add (.ref t)<|.ref b) Q E s:=by
 obtain⟨⟨cls,dd,data,sl⟩,ho,hc,n,hd⟩:=id ht;obtain⟨⟨cls2,dd2,data2,sl2⟩,ho2,hc2,n2,hd2⟩:=id hb;simp only at hc hd hc2 hd2;subst hc hd hc2 hd2;have e:vs.toArray++ws.toArray=(vs++ws).toArray:=by simp
 by_cases hw:ws=[]
 .exact nG #[_,ho,rfl] #[_,ho2,rfl] lg mP gT gJ (gq _ _)
   (tuple_addW1 t b vs.toArray ws.toArray n n2 dd dd2 sl sl2 (by simpa using hv)<|by simp[hw]) #[ho,ho2,h1 hw]
 .refine nG #[_,ho,rfl] #[_,ho2,rfl] lg mP gT gJ (gq _ _)
   (tuple_addW2 t b vs.toArray ws.toArray n n2 dd dd2 sl sl2 (by simpa using hv) (by simpa using hw)<|by grind) #[ho,ho2,?_]
  rw[e];exact h2 hw
noncomputable def sIx(n d:Nat):Option Int->Nat
 |none=>d
 |some v=>if v<0 then(v+(n:Int)).toNat else pS v.toNat n
def ZeC(n d:Nat)(hd:d<=n)(o:Option Int):sIx n d o<=n:=by
 cases o with
 |none=>exact hd
 |some v=>
  show(if v<0 then(v+(n:Int)).toNat else pS v.toNat n)<=n
  by_cases hv:v<0
  .grind
  .grind
def vw(v:Int)(n d:Nat):(if v<0 then max (v+(n:Int)) 0 else pS v (n:Int))=((sIx n d (aa v):Nat):Int):=by
 show(if v<0 then max (v+(n:Int)) 0 else pS v (n:Int))=(((if v<0 then(v+(n:Int)).toNat else pS v.toNat n):Nat):Int)
 by_cases hv:v<0
 .grind
 .grind
def xL(lo hi:Option Int)(n:Nat):f9 lo hi 1 (n:Int)=(((sIx n 0 lo:Nat):Int),((sIx n n hi:Nat):Int)):=by
 have h1:¬((1:Int)<0):=by lia
 unfold f9;simp only[h1,if_false];refine Prod.ext ?_ ?_
 .cases lo with|none=>rfl|some v=>exact vw v n 0
 .cases hi with|none=>rfl|some v=>exact vw v n n
def xu(i j:Nat):cO (i:Int) (j:Int) 1=j-i:=by
 unfold cO;have h1:(1:Int)>0:=by lia
 simp only[h1,if_true,Int.ediv_one];split<;>lia
def WI{Q:Option Int->aA->Prop}(p:kn v o)(h:Q o s):bn (aV prog w) A (fg.Slice.slicePartIndex v) Q E s:=by
 cases p with|none=>exact ko h|int i t=>exact slicePart_int h
def XI{sl:aC}{vl vu:aq}{lo hi:Option Int}{n:Nat}{Q:Int×Int×Nat->aA->Prop}(hs:s.heap.IsSliceOf sl vl vu .none)(pl:kn vl lo)(pu:kn vu hi)
  (h:Q (((sIx n 0 lo:Nat):Int),1,sIx n n hi-sIx n 0 lo) s):bn (aV prog w) A (kq (.ref sl)<|cD (n:Int)) Q E s:=by
 obtain⟨os,hos,hcs,hds⟩:=id hs;refine aj<|aj<|cn hos hds rfl<|aj<|cn hos hds rfl<|aj<|cn hos hds rfl<|aF ?_;refine aj<|ko ?_;show bn _ _ (if((1:Int) == 0)=ak then _ else _) _ _ s
 rw[T8<|by decide]
 refine aj<|WI pl<|aj<|WI pu<|aj<|aF ?_;show bn _ _ (match f9 lo hi 1 (n:Int)with|(lo,hi)=>cD (lo,(1:Int),cO lo hi 1)) _ _ s
 rw[xL lo hi n];show bn _ _ (cD (((sIx n 0 lo:Nat):Int),(1:Int),cO ((sIx n 0 lo:Nat):Int) ((sIx n n hi:Nat):Int) 1)) _ _ s;rw[xu];exact aF h
def qC(xs:Array aq)(i k:Nat):((aH k).filterMap λ(m:Nat)=>xs[((i:Int)+(m:Int)*1).toNat]?).toArray=((xs.toList.drop i).take k).toArray:=by
 have e:(λ(m:Nat)=>xs[((i:Int)+(m:Int)*1).toNat]?)=λm=>xs[i+m]?:=by grind
 rw[e];have:=pick_run xs i k;rw[nk]at this;have e2:((λx=>xs[x]?)∘λx=>i+x)=λm=>xs[i+m]?:=rfl
 rw[e2]at this;rw[this]
def Vn{t sl:aC}{items:Array aq}{vl vu:aq}{lo hi:Option Int}{Q:aq->aA->Prop}(ht:rh s.heap t items)(hs:s.heap.IsSliceOf sl vl vu .none)(pl:kn vl lo)(pu:kn vu hi)
  (hw:¬(sIx items.size 0 lo=0/\sIx items.size items.size hi=items.size))
  (h:Q (.ref s.heap.objs.size) {s with heap:=s.heap.push {cls:=.type "tuple",data:=.seq ((items.toList.drop<|sIx items.size 0 lo).take<|sIx items.size items.size hi-sIx items.size 0 lo).toArray}})
  (hsz:items.size<=bo):bn (aV prog w) A (kN (.ref t)<|.ref sl) Q E s:=by
 have htake:sizeOk (.seq ((items.toList.drop<|sIx items.size 0 lo).take<|sIx items.size items.size hi-sIx items.size 0 lo).toArray):=by
  show((items.toList.drop<|sIx items.size 0 lo).take<|sIx items.size items.size hi-sIx items.size 0 lo).toArray.size<=bo;rw[aK,bE,bF,aM];lia
 have hj:sIx items.size items.size hi<=items.size:=ZeC _ _ (aG _) hi;obtain⟨os,hos,hcs,hds⟩:=id hs;have hTs:s.TypeIs (.ref sl) "slice":=#[os,hos,hcs];unfold kN
 try with_reducible refine cU ?_
 first|refine aj<|aF ?_|skip
 refine aj<|kO ht.typeIs (by decide) ?_
 refine aj (c6 ht.typeIs cB
  (dA cB ht.typeIs iV ?_<|kr _ _))
 show bn _ _ (fQ (.ref t) >>= _) _ _ s;refine aj<|mQ ht ?_;refine aj<|i8 hTs ?_;rw[T9<|by decide]
 refine aj<|XI hs pl pu ?_;have hno:¬((((sIx items.size 0 lo:Nat):Int) == 0&&(1:Int) == 1&&(sIx items.size items.size hi-sIx items.size 0 lo) == items.size)=ak):=by grind
 show bn _ _ (if(((sIx items.size 0 lo:Nat):Int) == 0&&(1:Int) == 1&&(sIx items.size items.size hi-sIx items.size 0 lo) == items.size)=ak then _ else _) _ _ s
 rw[T8 hno,qC]
 first
  |exact aj<|cu (aF #[_,rfl,aF h]) htake
  |exact aj<|cu (aj<|aF<|aF #[_,rfl,aF h]) htake
  |exact aj<|aj<|cu (aF<|aF #[_,rfl,aF h]) htake
  |exact aj<|aj (m:=fg.Tuple.tupleExact _)<|cu (aF #[_,rfl,aF h]) htake
end HT
namespace L2
open PySem PySem.Spec PyProof.Rows
abbrev TO:=St->Hp->(Option Int->Hp->Prop)->Prop
def PO(X:Cx)(e:Option Expr)(t:TO):Prop:=
 ∀(pq:List (aC×fD))(s:aA)(σ:St)(H:Hp)(Q:Option Int->Hp->Prop),Inv X pq σ H s->t σ H Q->
  bn (aV X.prog X.w) X.A (evalPart e X.env) (λu s'=>∃o H',Inv X pq σ H' s'/\kn u o/\Q o H') X.xe s
def Zcv:TO:=λ_ H Q=>Q ae H
def ZfF(t:TE):TO:=λσ H Q=>t σ H λx H1=>∃i,x=.int i/\Q (aa i) H1
section
variable{X:Cx}{e:Expr}{te:TE}{lo hi:Option Expr}{tl th:TO}{pos p2:fO}
def Zcb:PO X ae Zcv:=by
 intro pq s σ H Q I h;rw[mR];exact aF #[ae,H,I,.none,h]
def Z9(h:PE X e te):PO X (aa e) (ZfF te):=by
 intro pq s σ H Q I hw;rw[evalPart_some];refine thn (h pq s σ H _ I hw) λu s1 #[x,H1,I1,r1,q1]=>?_
 obtain⟨i,rfl,q⟩:=q1;obtain⟨t,rfl⟩:=r1;exact#[aa i,H1,I1,.int i t,q]
def SlR(X:Cx)(r:V->Option Int->Option Int->Hp->VK->Prop):Prop:=
 ∀(pq:List (aC×fD))(s:aA)(σ:St)(H:Hp)(x:V)(v vl vu:aq)(lo hi:Option Int)(sl:aC)(Q:VK),Inv X pq σ H s->Zx x v->s.heap.IsSliceOf sl vl vu .none->kn vl lo->kn vu hi->r x lo hi H Q->
  ∃T id,nq (.type T) "__getitem__" = cD (aa<|.builtin id)/\s.TypeIs v T/\bn (aV X.prog X.w) X.A (kN v<|.ref sl) (EP X pq σ Q) X.xe s
def SlR.or{r r':V->Option Int->Option Int->Hp->VK->Prop}(h:SlR X r)(h':SlR X r'):SlR X (λx lo hi H Q=>r x lo hi H Q\/r' x lo hi H Q):=by
 intro pq s σ H x v vl vu lo hi sl Q I rx hs pl pu q;rcases q with q|q
 .exact h pq s σ H x v vl vu lo hi sl Q I rx hs pl pu q
 .exact h' pq s σ H x v vl vu lo hi sl Q I rx hs pl pu q
def tSl(r:V->Option Int->Option Int->Hp->VK->Prop)(te:TE)(tl th:TO):TE:=λσ H Q=>te σ H λx H1=>tl σ H1 λl H2=>th σ H2 λu H3=>r x l u H3 Q
def Za8{r:V->Option Int->Option Int->Hp->VK->Prop}(hr:SlR X r)(he:PE X e te)(hl:PO X lo tl)(hu:PO X hi th):PE X (.Subscript e (.Slice lo hi ae p2) pos) (tSl r te tl th):=by
 intro pq s σ H Q I h;refine pz<|thn (he pq s σ H _ I h) λv s1 #[x,H1,I1,r1,q1]=>?_
 refine wpAny_Slice<|thn (hl pq s1 σ H1 _ I1 q1) λvl s2 #[l,H2,I2,pl,q2]=>thn (hu pq s2 σ H2 _ I2 q2) λvu s3 #[u,H3,I3,pu,q3]=>?_
 rw[mR];refine aF ?_;have I4:Inv X pq σ H3 {s3 with heap:=s3.heap.push {cls:=.type "slice",data:=.fields [vl,vu,.none].toArray}}:=I3.kept (t':=s3.toks) λb ob q=>ax _ q
 obtain⟨T,id,hT,ht,hg⟩:=hr pq {s3 with heap:=s3.heap.push {cls:=.type "slice",data:=.fields [vl,vu,.none].toArray}} σ H3 x v vl vu l u s3.heap.objs.size Q I4 r1 (nr ..) pl pu q3
 exact tail_any ht hT hg (by with_unfolding_all rfl)
noncomputable def YA(xs:List V)(lo hi:Option Int):List V:=(xs.drop<|HT.sIx xs.length 0 lo).take<|HT.sIx xs.length xs.length hi-HT.sIx xs.length 0 lo
theorem V7(xs:List V)(lo hi:Option Int):(YA xs lo hi).length<=xs.length:=by
 unfold YA;rw[bE,bF];lia
def ZfZ(K:al):V->Option Int->Option Int->Hp->VK->Prop:=λx lo hi H Q=>∃a xs,x=.ref a/\SqT K H a xs/\
 ¬(HT.sIx xs.length 0 lo=0/\HT.sIx xs.length xs.length hi=xs.length)/\∀p,H p=ae->Q (.ref p) (upd H p<|.tup<|YA xs lo hi)
def Zeo:SlR X (ZfZ X.K):=by
 intro pq s σ H x v vl vu lo hi sl Q I rx hs pl pu h;obtain⟨a,xs,rfl,hx,hw,q⟩:=h;cases rx;obtain⟨its,r,ht,hz⟩:=I.tuple hx;have hlen:its.toArray.size=xs.length:=by rw[aK];exact r.length.symm
 refine#["tuple",_,cB.lookup,ht.typeIs,?_];refine HT.Vn ht hs pl pu (by rw[hlen];exact hw) ?_ (by rw[hlen];exact hz)
 rw[hlen];refine#[.ref s.heap.objs.size,_,I.laid (t':=s.toks) (λb ob q=>ax _ q) (aG _) ?_,rfl,q _<|I.hok.fresh<|aG _]
 exact#[cc (V7 xs lo hi) hz,_,(r.drop<|HT.sIx xs.length 0 lo).take<|HT.sIx xs.length xs.length hi-HT.sIx xs.length 0 lo,kh _ _]
def Zdn(K:al):R2:=λx y H Q=>∃a b xs ys,x=.ref a/\y=.ref b/\SqT K H a xs/\SqT K H b ys/\xs≠[]/\xs.length+ys.length<=bo/\
 (ys=[]->Q (.ref a) H)/\(ys≠[]->∀p,H p=ae->Q (.ref p) (upd H p<|.tup<|xs++ys))
def Vals.nil_iff(r:Vals xs us):us=[]↔xs=[]:=by
 cases r with|nil=>simp|cons _ _=>simp
theorem ZcB:OpR X (eR .Add) (Zdn X.K):=by
 intro pq s σ H x y v u Q I rx ry h;obtain⟨a,b,xs,ys,rfl,rfl,ha,hb,hx,hz,q1,q2⟩:=h;cases rx;cases ry;obtain⟨its,r1,p1,_⟩:=I.tuple ha;obtain⟨its2,r2,p2,_⟩:=I.tuple hb;refine HT.ZbQ p1 p2 (λz=>hx<|r1.nil_iff.mp z) (λz=>#[.ref a,H,I,rfl,q1<|r2.nil_iff.mp z]) (λz=>?_) (by rw[<-r1.length,<-r2.length];exact hz)
 refine#[.ref s.heap.objs.size,_,I.laid (t':=s.toks) (λb ob q=>ax _ q) (aG _) ?_,rfl,q2 (λw=>z<|r2.nil_iff.mpr w) _<|I.hok.fresh<|aG _]
 exact#[by grind,_,r1.append r2,kh _ _]
end
noncomputable def ixN(n:Nat)(i:Int):Option Nat:=if 0<=i then(if i<n then aa i.toNat else ae)else if -(n:Int)<=i then aa (i+n).toNat else ae
noncomputable def atI{α:Type}(xs:List α)(i:Int):Option α:=(ixN xs.length i).bind λj=>xs[j]?
def wQ(h:ixN n i=aa j):seqIndex? i n=aa j/\j<n/\-(n:Int)<=i/\i<n:=by
 unfold ixN at h;by_cases h0:0<=i
 .rw[T9 h0]at h
  by_cases h1:i<n
  .rw[T9 h1]at h
   have e:=am h;exact#[by rw[oO h0 h1,e],by lia,by lia,h1]
  .grind
 .rw[T8 h0]at h
  by_cases h1:-(n:Int)<=i
  .rw[T9 h1]at h
   have e:=am h;exact#[by rw[nH (by lia) h1,e],by lia,h1,by lia]
  .grind
def vc{α:Type}{xs:List α}{i:Int}{v:α}(h:atI xs i=aa v):∃j,seqIndex? i xs.length=aa j/\xs[j]?=aa v/\j<xs.length/\-(xs.length:Int)<=i/\i<xs.length:=by
 unfold atI at h;cases e:ixN xs.length i with
 |none=>rw[e]at h;cases h
 |some j=>
  rw[e]at h;obtain⟨h1,h2,h3,h4⟩:=wQ e;exact#[j,h1,h,h2,h3,h4]
def wz(b:Expr):Prop:=∀o i,subscripted b ai o i=operate [o,i] (kN o i)
def IxR(X:Cx)(r:R2):Prop:=
 ∀(value slice:Expr)(pq:List (aC×fD))(s:aA)(σ:St)(H:Hp)(x y:V)(v u:aq)(Q:VK),Inv X pq σ H s->Zx x v->Zx y u->r x y H Q->
  subscripted slice ai v u=operate [v,u] (kN v u)->bn (aV X.prog X.w) X.A (subscriptTail value slice v u) (EP X pq σ Q) X.xe s
def MtR(X:Cx)(id:String)(r:V->List V->Hp->VK->Prop):Prop:=
 ∀(pq:List (aC×fD))(s:aA)(σ:St)(H:Hp)(x:V)(xs:List V)(v:aq)(us:List aq)(Q:VK),Inv X pq σ H s->Zx x v->Vals xs us->r x xs H Q->
  bn (aV X.prog X.w) X.A (call (.builtin id) (v::us)) (EP X pq σ Q) X.xe s
section
variable{X:Cx}{a b:Expr}{ta tb:TE}{pos:fO}
def IxR.or(h:IxR X r)(h':IxR X r'):IxR X (λx y H Q=>r x y H Q\/r' x y H Q):=by
 intro value slice pq s σ H x y v u Q I rx ry q hs;rcases q with q|q
 .exact h value slice pq s σ H x y v u Q I rx ry q hs
 .exact h' value slice pq s σ H x y v u Q I rx ry q hs
def vz(hr:IxR X r)(ha:PE X a ta)(hb:PE X b tb)(hs:wz b):PE X (.Subscript a b pos) (tOp r ta tb):=by
 intro pq s σ H Q I h;exact pz<|ZdD ha hb I h λv u s2 x y H2 I2 rx ry q=>hr a b pq s2 σ H2 x y v u Q I2 rx ry q<|hs _ _
def ZfJ(K:al):R2:=λx y H Q=>∃p xs i v,x=.ref p/\y=.int i/\SqL K H p xs/\atI xs i=aa v/\Q v H
def Zf7(K:al):R2:=λx y H Q=>∃p xs i v,x=.ref p/\y=.int i/\SqT K H p xs/\atI xs i=aa v/\Q v H
theorem Uw:IxR X (ZfJ X.K):=by
 intro value slice pq s σ H x y v u Q I rx ry h hs;obtain⟨p,xs,i,z,rfl,rfl,hq,he,q⟩:=h;cases rx;obtain⟨t,rfl⟩:=ry;obtain⟨its,r,pl,hz⟩:=I.list hq;obtain⟨j,h1,h2,h3,h4,h5⟩:=vc he;obtain⟨w,ew,rw'⟩:=r.get h2;have hl:=r.length;have hn:=Qs;have fin:EP X pq σ Q w s:=#[z,H,I,rw',q];by_cases h0:0<=i
 .have hj:i.toNat=j:=by
   rw[oO h0 h5]at h1;exact am h1
  exact item_listR pl.isList h0 (by lia) (by grind) fin hs
 .have hj:(i+(its.toArray.size:Int)).toNat=j:=by
   rw[nH (by lia) h4]at h1
   rw[aK,<-hl];exact am h1
  exact lJ pl.isList.typeIs slot_list_getitem.lookup
   (wpAny_getItem_list_neg pl.isList (by lia) (by grind) (by lia) (by grind) #[rfl,fin]) hs
theorem Zd9:IxR X (Zf7 X.K):=by
 intro value slice pq s σ H x y v u Q I rx ry h hs;obtain⟨p,xs,i,z,rfl,rfl,hq,he,q⟩:=h;cases rx;obtain⟨t,rfl⟩:=ry;obtain⟨its,r,pl,hz⟩:=I.tuple hq;obtain⟨j,h1,h2,h3,h4,h5⟩:=vc he;obtain⟨w,ew,rw'⟩:=r.get h2;have hl:=r.length;have hn:=Qs;have fin:EP X pq σ Q w s:=#[z,H,I,rw',q];exact lJ pl.typeIs slot_tuple_getitem.lookup
  (getItem_tuple pl (by lia) (by lia) (by rw[aK,<-hl];exact h1) (by simpa using ew) #[rfl,fin]) hs
def yU(its:List aq)(n j:Nat)(u:aq):fb (·.setIfInBounds j u) {cls:=.type "list",data:=.seq its.toArray n}={cls:=.type "list",data:=.seq (its.set j u).toArray n}:=by
 simp[fb]
theorem Inv.lst{pq:List (aC×fD)}{σ:St}{H:Hp}{s:aA}{p:aC}{xs:List V}(I:Inv X pq σ H s)(h:H p=aa (.lst xs)) :
  ∃(its:List aq)(n:Nat),Vals xs its/\s.heap.get? p=aa {cls:=.type "list",data:=.seq its.toArray n}/\xs.length<=bo:=by
 obtain⟨z,its,n,r,e⟩:=I.hok p _ h;exact#[its,n,r,e,z]
def Inv.lstUpd{pq:List (aC×fD)}{σ:St}{H:Hp}{s:aA}{p:aC}{xs ys:List V}{its its':List aq}{n n':Nat}{f:fD->fD}(I:Inv X pq σ H s)(h:H p=aa (.lst xs))
  (ho:s.heap.get? p=aa {cls:=.type "list",data:=.seq its.toArray n})(hf:f {cls:=.type "list",data:=.seq its.toArray n}={cls:=.type "list",data:=.seq its'.toArray n' })(r:Vals ys its')(hz:ys.length<=bo)(t:Nat) :
  Inv X pq σ (upd H p<|.lst ys) {s with heap:=s.heap.update p f,toks:=t}:=by
 have e:(s.heap.update p f).get? p=aa {cls:=.type "list",data:=.seq its'.toArray n' }:=by
  rw[l7 f ho (by rw[hf]<;>rfl),hf]
 refine I.write (by rw[h];trivial) (.inl rfl) (λb u hb q=>(lK _ _<|Ne.symm hb).trans q) #[_,e] ?_
 exact#[hz,its',n',r,e]
def Zfj:V->V->V->Hp->(Hp->Prop)->Prop:=λo i v H Q=>∃p xs k j,o=.ref p/\i=.int k/\H p=aa (.lst xs)/\ixN xs.length k=aa j/\Q (upd H p<|.lst<|xs.set j v)
theorem qK:PSet X Zfj:=by
 intro pq s σ H o i v ov iv u Q I ro ri rv h;obtain⟨p,xs,k,j,rfl,rfl,hp,hj,q⟩:=h;cases ro;obtain⟨t,rfl⟩:=ri;obtain⟨its,n,r,ho,hz⟩:=I.lst hp;obtain⟨h1,h2,h3,h4⟩:=wQ hj;have hl:=r.length;have hn:=Qs;have I':=
  I.lstUpd hp ho (yU its n j u) (r.set rv j) (by rw[bz];exact hz) s.toks
 by_cases h0:0<=k
 .have hk:k.toNat=j:=by
   rw[oO h0 h4]at h1;exact am h1
  exact PySem.W.ki_setAt ho h0 (by lia) (by grind) (by grind)
 .have hk:(k+(its.toArray.size:Int)).toNat=j:=by
   rw[nH (by lia) h3]at h1
   rw[aK,<-hl];exact am h1
  exact PySem.W.ki_setBack ho (by lia) (by grind) (by lia) (by grind)
theorem Gk(lo hi:Option Int)(n:Nat):(gK lo hi ae n).1=((HT.sIx n 0 lo:Nat):Int)/\(gK lo hi ae n).2.1=((HT.sIx n n hi:Nat):Int)/\(gK lo hi ae n).2.2=1:=by
 refine#[?_,?_,rfl]
 .cases lo with
  |none=>simp[gK,HT.sIx]
  |some i=>
   simp only[gK,HT.sIx,ot,show(1:Int)>0 by decide,if_true]
   by_cases h:i<0
   .grind
   .grind
 .cases hi with
  |none=>simp[gK,HT.sIx]
  |some i=>
   simp only[gK,HT.sIx,ot,show(1:Int)>0 by decide,if_true]
   by_cases h:i<0
   .grind
   .grind
def QM(its:List aq)(lo hi:Option Int):slicePick its.toArray lo hi ae=((its.drop<|HT.sIx its.length 0 lo).take<|HT.sIx its.length its.length hi-HT.sIx its.length 0 lo).toArray:=by
 obtain⟨h1,h2,h3⟩:=Gk lo hi its.toArray.size;unfold slicePick;rw[h1,h2,h3];simp only[sliceRange_one,pick_run,aK]<;>rfl
def Zga(K:al):V->Option Int->Option Int->Hp->VK->Prop:=λx lo hi H Q=>∃a xs,x=.ref a/\SqL K H a xs/\∀p,H p=ae->Q (.ref p) (upd H p<|.lst<|YA xs lo hi)
theorem Zck:SlR X (Zga X.K):=by
 intro pq s σ H x v vl vu lo hi sl Q I rx hs pl pu h;obtain⟨a,xs,rfl,hx,q⟩:=h;cases rx;obtain⟨its,r,ht,hz⟩:=I.list hx;have hlen:=r.length;refine#["list",_,slot_list_getitem.lookup,ht.isList.typeIs,?_];refine wpAny_getItem_list_slice ht.isList hs pl pu .none (by simp) ?_ (by grind)
 rw[QM,<-hlen];refine#[.ref s.heap.objs.size,_,I.laid (t':=s.toks) (λb ob q=>ax _ q) (aG _) ?_,rfl,q _<|I.hok.fresh<|aG _]
 exact#[cc (V7 xs lo hi) hz,_,0,(r.drop<|HT.sIx xs.length 0 lo).take<|HT.sIx xs.length xs.length hi-HT.sIx xs.length 0 lo,aQ _ rfl]
noncomputable def vn:V->Bool
 |.non=>ak
 |.bl _=>ak
 |.int _=>ak
 |.str _=>ak
 |_=>ai
noncomputable def eqV:V->V->Bool
 |.non,.non=>ak
 |.bl a,.bl b=>a == b
 |.bl a,.int b=>(if a then 1 else 0) == b
 |.int a,.bl b=>a == (if b then 1 else 0)
 |.int a,.int b=>a == b
 |.str a,.str b=>a == b
 |_,_=>ai
def Zd3{A:cC}{s:aA}{y x:V}{u v:aq}(ry:Zx y u)(rx:Zx x v)(fy:vn y=ak)(fx:vn x=ak):iz A s u v (eqV y x):=by
 cases y with
 |non=>
  cases ry;cases x with|non=>cases rx;exact iN _|bl b=>cases rx;exact iz.none_bool b|int b=>obtain⟨t,rfl⟩:=rx;exact iz.none_int b t|str b=>obtain⟨t,rfl⟩:=rx;exact iz.none_str b t|_=>exact T7 (fx) aN
 |bl a=>
  cases ry;cases x with|non=>cases rx;exact iz.bool_none a|bl b=>cases rx;exact iz.bool_bool a b|int b=>obtain⟨t,rfl⟩:=rx;exact iz.bool_int a b t|str b=>obtain⟨t,rfl⟩:=rx;exact iz.bool_str a b t|_=>exact T7 (fx) aN
 |int a=>
  obtain⟨t',rfl⟩:=ry;cases x with|non=>cases rx;exact iz.int_none a t'|bl b=>cases rx;exact iz.int_bool a t' b|int b=>obtain⟨t,rfl⟩:=rx;exact nv a t' b t|str b=>obtain⟨t,rfl⟩:=rx;exact mY a t' b t|_=>exact T7 (fx) aN
 |str a=>
  obtain⟨t',rfl⟩:=ry;cases x with|non=>cases rx;exact iz.str_none a t'|bl b=>cases rx;exact iz.str_bool a t' b|int b=>obtain⟨t,rfl⟩:=rx;exact mZ a t' b t|str b=>obtain⟨t,rfl⟩:=rx;exact iz.str_str a t' b t|_=>exact T7 (fx) aN
 |_=>exact T7 (fy) aN
theorem Gq:ZB X (.builtin "len") (λxs H Q=>∃p ys,xs=[.ref p]/\(SqL X.K H p ys\/SqT X.K H p ys)/\Q (.int ys.length) H):=by
 intro pq s σ H xs us Q I r h;obtain⟨p,ys,rfl,hq,q⟩:=h;obtain⟨u,rfl,rx⟩:=Ww r;cases rx;have hn:=Qs;rcases hq with hq|hq
 .obtain⟨its,r',pl,hz⟩:=I.list hq
  have hlen:=r'.length;exact Calls.call_len_list pl.isList (by grind) #[.int ys.length,H,I.tok _,#[s.toks+1,by grind],q]
 .obtain⟨its,r',pl,hz⟩:=I.tuple hq
  have hlen:=r'.length;exact len_tuple pl (by grind) #[.int ys.length,H,I.tok _,#[s.toks+1,by grind],q]
theorem JA:ZB X (.type "list") (λxs H Q=>∃p ys,xs=[.ref p]/\(SqL X.K H p ys\/SqT X.K H p ys)/\∀l,H l=ae->Q (.ref l) (upd H l<|.lst ys)):=by
 intro pq s σ H xs us Q I r h;obtain⟨p,ys,rfl,hq,q⟩:=h;obtain⟨u,rfl,rx⟩:=Ww r;cases rx;have fin:∀(its:List aq),Vals ys its->ys.length<=bo->∀(h':ck)(c':Nat),(∀b o',s.heap.get? b=aa o'->h'.get? b=aa o')->
   h'.get? s.heap.objs.size=aa {cls:=.type "list",dict:=ae,data:=.seq its.toArray c',slots:=#[]}->EP X pq σ Q (.ref s.heap.objs.size) {s with heap:=h' }:=λits r' hz h' c' kp e=>
  #[.ref s.heap.objs.size,_,I.laid (t':=s.toks) kp (aG _) (show Z4 X.prog X.w _ h' _ (.lst ys)from#[hz,its,c',r',e]),rfl,q _<|I.hok.fresh<|aG _]
 rcases hq with hq|hq
 .obtain⟨its,r',pl,hz⟩:=I.list hq
  have hlen:=r'.length;obtain⟨o,ho,hc,n,hd⟩:=pl.isList;exact call_list_seq p (.inl rfl) ho hc hd (λh' c' kp e=>fin its r' hz h' c' kp e) (by grind)
 .obtain⟨its,r',pl,hz⟩:=I.tuple hq
  have hlen:=r'.length;obtain⟨o,ho,hc,n,hd⟩:=pl;exact call_list_seq p (.inr rfl) ho hc hd (λh' c' kp e=>fin its r' hz h' c' kp e) (by grind)
theorem QN:ZB X (.type "tuple") (λxs H Q=>∃p ys,xs=[.ref p]/\((SqL X.K H p ys/\∀l,H l=ae->Q (.ref l) (upd H l<|.tup ys))\/(SqT X.K H p ys/\Q (.ref p) H))):=by
 intro pq s σ H xs us Q I r h;obtain⟨p,ys,rfl,h⟩:=h;obtain⟨u,rfl,rx⟩:=Ww r;cases rx;rcases h with⟨hq,q⟩|⟨hq,q⟩
 .obtain⟨its,r',pl,hz⟩:=I.list hq
  have hlen:=r'.length;refine call_tuple_list pl.isList (λh' kp=>?_) (by grind)
  have I1:=I.kept (t':=s.toks) kp
  have I2:=
   I1.laid (t':=s.toks) (λb o e=>ax _ e) (aG _) (show Z4 X.prog X.w _ _ _ (.tup ys)from#[hz,its,r',kh _ _])
  exact#[.ref h'.objs.size,_,I2,rfl,q _<|I1.hok.fresh<|aG _]
 .obtain⟨its,r',pl,hz⟩:=I.tuple hq
  exact call_tuple_same pl #[.ref p,H,I,rfl,q]
def tyV(K:al)(T:String)(x:V)(H:Hp):Prop:=match x with
 |.str _=>T = "str"
 |.int _=>T = "int"
 |.ref p=>(T = "list"/\∃xs,SqL K H p xs)\/(T = "tuple"/\∃o,K.lookup p=aa o/\o.cls=.type "tuple"/\o.dict=ae)\/
   (T = "dict"/\((∃kvs,H p=aa (.dK kvs))\/∃kvs,H p=aa (.dT kvs)))\/(T = "set"/\∃S n,H p=aa (.set S n))
 |_=>False
def Zem(I:Inv X pq σ H s)(r:Zx x v)(ty:tyV X.K T x H) :
  s.TypeIs v T/\∀a,v=.ref a->∃ob,s.heap.get? a=aa ob/\ob.dict=ae:=by
 cases x with
 |str z=>
  obtain⟨t,rfl⟩:=r;cases(ty)
  exact#[typeIs_str s z t,λ_ e=>nomatch e]
 |int i=>
  obtain⟨t,rfl⟩:=r;cases(ty)
  exact#[lL s i t,λ_ e=>nomatch e]
 |ref p=>
  cases r;rcases ty with⟨rfl,xs,hq⟩|⟨rfl,o,hk,hc,hd⟩|⟨rfl,hk⟩|⟨rfl,S,n,hk⟩
  .obtain⟨its,_,pl,_⟩:=I.list hq
   refine#[pl.isList.typeIs,λa e=>?_]
   cases e;obtain⟨o,n,e,c,hd,_⟩:=pl;exact#[o,e,hd]
  .refine#[#[o,I.kIn p o hk,hc],λa e=>?_]
   cases e;exact#[o,I.kIn _ o hk,hd]
  .have z:∃o,s.heap.get? p=aa o/\o.ExactDict:=by
    rcases hk with⟨kvs,hk⟩|⟨kvs,hk⟩
    .obtain⟨_,_,_,_,o,_,_,e,ex,_⟩:=I.hok p _ hk
     exact#[o,e,ex]
    .obtain⟨_,_,_,_,o,_,_,e,ex,_⟩:=I.hok p _ hk
     exact#[o,e,ex]
   obtain⟨o,e,ex⟩:=z;refine#[#[o,e,ex.1],λa e2=>?_]
   cases e2;exact#[o,e,ex.2.1]
  .obtain⟨o,_,_,_,e,ex,_⟩:=I.hok p _ hk
   refine#[#[o,e,ex.1],λa e2=>?_]
   cases e2;exact#[o,e,ex.2.1]
 |_=>exact False.elim ty
def tBM(K:al)(T:String)(r:V->List V->Hp->VK->Prop)(to:TE)(t:TA):TE:=λσ H Q=>to σ H λx H1=>tyV K T x H1/\t σ H1 λxs H2=>r x xs H2 Q
variable{o e:Expr}{es:List Expr}{to:TE}{t:TA}{name:bi}{apos cpos:fO}{T id:String}{r:V->List V->Hp->VK->Prop}
theorem zU(pa:PlainAttrs T)(slot:Slot T name id)(hty:typeOf (.builtin id)=cD (.type "method_descriptor"))(hm:MtR X id r)(ho:PE X o to)(ha:PA X (e::es) t)
  (hbase:mS o name X.env (bY o X.env)=bY o X.env:=by rfl)
  (hfew:((dz cpos<|az (e::es) X.env).all (λx=>!x.1)&&(backToKw cpos<|oP [] X.env).all (λx=>x.1.isSome)
   && af ((e::es).length+([]:List nI).length+(if([]:List nI).isEmpty then 0 else 1)<30))=ak:=by rfl)
  (hline:(apos.endLine == cpos.line)=ak:=by rfl)(hs:az (e::es) X.env=(ai,bY e X.env)::az es X.env:=by rfl)(hplain:(dz cpos<|az es X.env).any (·.1)=ai:=by rfl) :
  PE X (.Call (.Attribute o name apos) (e::es) [] cpos) (tBM X.K T r to t):=by
 intro pq s σ H Q I h;refine wpAny_Call_method_late hbase hfew hline rfl<|thn (ho pq s σ H _ I h) λv s1 #[x,H1,I1,r1,ty,q1]=>?_
 obtain⟨h1,h2⟩:=Zem I1 r1 ty;refine#[T,id,pa,slot,hty,h1,h2,?_];have hA:=ha cpos pq s1 σ H1 _ I1 q1;rw[hs]at hA ⊢;refine Calls.callWith_builtin (by grind)<|Calls.evalArgs_plain ?_
 exact thn hA<|by rintro us s2 ⟨vs,H2,I2,r2,q2⟩;exact hm pq s2 σ H2 x vs v us Q I2 r1 r2 q2
end
def MtM(X:Cx)(id:String)(r:V->List V->Hp->VK->Prop):Prop:=
 ∀(pq:List (aC×fD))(s:aA)(σ:St)(H:Hp)(x:V)(xs:List V)(v:aq)(us:List aq)(Q:VK),Inv X pq σ H s->Zx x v->Vals xs us->r x xs H Q->
  bn (aV X.prog X.w) X.A (call (.builtin id) (v::us)) (EP X pq σ Q) X.xe s
def Vals.one:∀{x:V}{us:List aq},Vals [x] us->∃u,us=[u]/\Zx x u
 |_,_,.cons r .nil=>#[_,rfl,r]
theorem Vals.reverse(h:Vals xs us):Vals xs.reverse us.reverse:=by
 induction h with|nil=>exact .nil|cons r t ih=>rw[eT,eT];exact Vals.append ih<|.cons r .nil
theorem Vals.rep(h:Vals xs us):∀k:Nat,Vals (aP k xs).flatten (aP k us).flatten
 |0=>.nil
 |k+1=>by
  rw[cF,cF,dD,dD];exact Vals.append h<|Vals.rep h k
theorem VF(its:List aq):∀(k:Nat)(acc:List aq),
  List.foldl (λx1 x2=>x1++x2) acc.toArray (aP k its.toArray)=(acc++(aP k its).flatten).toArray
 |0,acc=>by simp
 |k+1,acc=>by
  have e:acc.toArray++its.toArray=(acc++its).toArray:=by simp
  have e2:(acc++its)++(aP k its).flatten=acc++(aP (k+1) its).flatten:=by grind
  rw[<-e2,<-VF its k (acc++its),<-e,cF,d4]
def Inv.lset{its its':List aq}{n:Nat}{f:Array aq->Array aq}{t':Nat}(I:Inv X pq σ H s)(hH:H l=aa (.lst xs))
  (e:s.heap.get? l=aa {cls:=.type "list",data:=.seq its.toArray n})(hf:f its.toArray=its'.toArray)(hv:Vals ys its')(hz:ys.length<=bo) :
  Inv X pq σ (upd H l<|.lst ys) {s with heap:=s.heap.update l<|fb f,toks:=t' }:=by
 have q:=PySem.IsL.update e f;rw[hf]at q;refine I.write (by rw[hH];exact trivial) (.inl rfl) (λb' u hb hu=>(lK s.heap (fb f)<|Ne.symm hb).trans hu) #[_,q] ?_
 exact#[hz,its',_,hv,q]
def Inv.lnew(I:Inv X pq σ H s)(hv:Vals ys its)(hz:ys.length<=bo) :
  Inv X pq σ (upd H s.heap.objs.size<|.lst ys) {s with heap:=s.heap.push {cls:=.type "list",data:=.seq its.toArray},toks:=t' }:=
 I.laid (λ_ _ q=>ax _ q) (aG _) #[hz,its,0,hv,aQ _ rfl]
theorem Inv.fresh(I:Inv X pq σ H s):H s.heap.objs.size=ae:=I.hok.fresh<|aG _
def Inv.lstM(I:Inv X pq σ H s)(hH:H l=aa (.lst xs)):xs.length<=bo/\∃(its:List aq)(n:Nat),Vals xs its/\xs.length=its.length/\s.heap.get? l=aa {cls:=.type "list",data:=.seq its.toArray n}:=by
 obtain⟨z,its,n,r,e⟩:=I.hok l _ hH;exact#[z,its,n,r,r.length,e]
def Za9(h:n<=bo):gu n=ai:=by
 exact T4 (by lia)
def vy:V->List V->Hp->VK->Prop:=λx vs H Q=>∃l xs y,x=.ref l/\vs=[y]/\H l=aa (.lst xs)/\xs.length<bo/\Q .non (upd H l<|.lst<|xs++[y])
def VM:MtM X "list.append" vy:=by
 intro pq s σ H x vs v us Q I rx rv h;obtain⟨l,xs,y,rfl,rfl,hH,hz,q⟩:=h;cases rx;obtain⟨u,rfl,ru⟩:=rv.one;obtain⟨z,its,n,r,hl,e⟩:=I.lstM hH;refine fR F.slot_list_append #[_,e,rfl] F.entry_list_append (F.args_list_append_2 _ _) (PySem.list_append l its.toArray n u<|by grind) #[e,?_]
 refine#[.non,_,I.lset (its':=its++[u]) hH e (by simp) (r.append<|.cons ru .nil) ?_,rfl,q]
 rw[aX,cE];lia
def ZcG:V->List V->Hp->VK->Prop:=λx vs H Q=>∃l b xs zs,x=.ref l/\vs=[.ref b]/\H l=aa (.lst xs)/\H b=aa (.lst zs)/\xs.length+zs.length<=bo/\Q .non (upd H l<|.lst<|xs++zs)
def uS:MtM X "list.extend" ZcG:=by
 intro pq s σ H x vs v us Q I rx rv h;obtain⟨l,b,xs,zs,rfl,rfl,hH,hB,hz,q⟩:=h;cases rx;obtain⟨u,rfl,ru⟩:=rv.one;cases ru;obtain⟨z,its,n,r,hl,e⟩:=I.lstM hH;obtain⟨z2,its2,n2,r2,hl2,e2⟩:=I.lstM hB;have hsz:its.toArray.size+its2.toArray.size<=bo:=by grind
 have hlong:¬(!its.toArray.isEmpty&&gu (its.toArray.size+its2.toArray.size))=ak:=by
  rw[Za9 hsz,Bool.and_false];exact aN
 refine fR F.slot_list_extend #[_,e,rfl] F.entry_list_extend (F.args_list_extend_2 _ _)
  (AutoSeq1.list_extend_list_list_0 l its.toArray n b its2.toArray n2 hlong (by grind)<|by lia) #[e,e2,?_]
 refine#[.non,_,I.lset (its':=its++its2) hH e (by simp) (r.append r2) ?_,rfl,q]
 rw[aX];lia
def Zbz:R2:=λx y H Q=>∃l b xs zs,x=.ref l/\y=.ref b/\H l=aa (.lst xs)/\H b=aa (.lst zs)/\xs.length+zs.length<=bo/\∀p,H p=ae->Q (.ref p) (upd H p<|.lst<|xs++zs)
def yN:OpR X (eR .Add) Zbz:=by
 intro pq s σ H x y v u Q I rx ry h;obtain⟨l,b,xs,zs,rfl,rfl,hH,hB,hz,q⟩:=h;cases rx;cases ry;obtain⟨z,its,n,r,hl,e⟩:=I.lstM hH;obtain⟨z2,its2,n2,r2,hl2,e2⟩:=I.lstM hB;refine PySem.P.add_list e e2 ?_ (by grind)
 have ea:its.toArray++its2.toArray=(its++its2).toArray:=by simp
 rw[ea];exact#[.ref _,_,I.lnew (t':=s.toks) (r.append r2) (by grind),rfl,q _ I.fresh]
def Jx{α:Type}(xs:List α)(k:Nat):(aP k xs).flatten.length=k*xs.length:=by
 induction k with|zero=>simp|succ k ih=>grind
end L2
namespace Att
open PySem PySem.W PySem.Calls PyProof.Rows
def Ud :∀(ns:List Int)(vs:List aq),WellAll P h vs (ns.map WData.int)->o9 vs ns:=by
 intro ns
 induction ns with
 |nil=>
  intro vs w;rw[i9]at w;cases w;exact .nil
 |cons n ns ih=>
  intro vs w;rw[aW]at w;cases w with
  |cons a b=>
   cases a;exact .cons _ _<|ih _ b
def qh{l:OpenLaw}{n:Nat}(hn:l.most=aa n){P:Params}{h:ck}{args:List WData}{vals:List aq}
  (hpre:l.row.toRowW.claim.pre args=ak)(hwl:WellAll P h vals args) :
  ∃a vs ns,vals=[dJ a]/\args=[WData.list<|ns.map WData.int]/\h.get? a=aa {cls:=.type "list",data:=.seq vs.toArray}/\o9 vs ns/\ns.length<=n:=by
 have hsh:=(pre_splitW hpre).1;have hc:l.pre.holds [] {args:=args}=ak:=(pre_splitW hpre).2;obtain⟨d,r,rfl,h1,h2⟩:=hasAllW_cons hsh;obtain rfl:=hasAllW_nil h2;obtain⟨xs,rfl,h3⟩:=hasW_list h1;obtain⟨ns,rfl⟩:=items_int h3;have hlen:ns.length<=n:=by
  have h4:(WTm.not<|.lt (.lit<|.int (n:Int))<|.len<|.arg 0).holds [] {args:=[.list<|ns.map .int]}=ak:=by
   have h4:=(holds_andW hc).1;rw[hn]at h4;exact h4
  have h5:=condW_of h4<|w_not<|w_lt w_lit<|w_len_list<|w_arg rfl;rw[aw]at h5;refine fq λq=>?_
  have q':(n:Int)<((ns.length:Nat):Int):=by lia
  first
   |(rw[T5 q']at h5;exact T7 h5<|by decide)
   |(simp at h5;lia)
 cases hwl with
 |cons w1 w2=>
  cases w2;cases w1 with|list ho hall=>exact#[_,_,ns,rfl,rfl,ho,Ud ns _ hall,hlen]
def ub(l:OpenLaw)(args:List WData):l.row.toRowW.claim.post args (.bool ak) args=ak:=
 postW_of
  (by first|rfl|decide|simp[WShape.has,WShape.arms,WShape.armsAll])
  (w_eq_bool (w_res rfl) w_lit) rfl
def zr{l:OpenLaw}{n:Nat}{q:bH}{loose:List bi}{XP:(bi->Option aq)->ck->Prop}{YP:bV->ck->Prop}{d:rA}
  (hn:l.most=aa n)(hdf:d.params.defaults=[])
  (call:∀(w:bV)(s₀ s₁:aA)(mg mb:bi->Option aq)(fa:aC)(o:fD)(pm cd doc:aq)(a:aC)(vs:List aq)(ns:List Int),
   Ground q loose [] XP w s₀ mg mb s₁.heap->YP w s₁.heap->
   s₁.heap.get? fa=aa o->o.data=.func (docDef d.name d.params d.body d.scope pm cd doc)->s₁.heap.CodeRec cd d.name->mg d.name=aa (.ref fa)->
   s₁.heap.get? a=aa {cls:=.type "list",data:=.seq vs.toArray}->o9 vs ns->ns.length<=n->s₁.gens = #[]->
   eS (aV l.prog w) mE (.call (.ref fa) #[[.ref a],[]]) (λr s'=>r=.ok (.ret<|.bool ak)/\OldK s₁.heap s'.heap/\s'.os=s₁.os/\iC s'.gens) s₁) :
  WalkO q loose XP YP l.row.toRowW d [] (λf vs=>pA f vs):=by
 intro w s₀ s₁ mg mb G Y fa o pm cd doc dV kV ho hd hcd hD hmg hg args vals as hpre hlay hrd hwl hlo;obtain rfl:dV=.none:=Dflts.none hD hdf;obtain rfl:kV=.none:=Dflts.noKw hD;obtain⟨a,vs,ns,rfl,rfl,hobj,hints,hlen⟩:=qh hn hpre hwl;refine enter_call<|i7 (call w s₀ s₁ mg mb fa o pm cd doc a vs ns G Y ho (fd_plain hd) hcd hmg hobj hints hlen hg) λr s' hq=>?_
 obtain⟨rfl,h2,h3,h4⟩:=hq;exact#[.inl #[.bool ak,.bool ak,[],rfl,λ_=>rfl,.bool ak,ub l _,λ_=>#[gU,λ_ hm=>(nomatch hm)]],h2,h3,h4]
end Att
namespace L2
open PySem PySem.Spec PyProof.Rows
theorem QT:∀{vs:List aq}{ns:List Int},o9 vs ns->Vals (ns.map V.int) vs
 |_,_,.nil=>.nil
 |_,_,.cons n t h=>.cons #[t,rfl]<|QT h
noncomputable def Xl(s:eJ):oq:=match s with
 |.FunctionDef _ a _ _ _ _ _ _ _ _=>a
 |_=>{posonlyargs:=[],args:=[],vararg:=ae,kwonlyargs:=[],kw_defaults:=[],kwarg:=ae,defaults:=[]}
noncomputable def Zz(s:eJ):List eJ:=match s with
 |.FunctionDef _ _ b _ _ _ _ _ _ _=>b
 |_=>[]
noncomputable def Zh(s:eJ):dO:=match s with
 |.FunctionDef _ _ _ _ _ _ sc _ _ _=>sc
 |_=>{kind:=.function,names:=[],isGenerator:=ai,isCoroutine:=ai}
noncomputable abbrev E0:XK:=λ_ _ _=>False
structure Fun(K:al)(x qual:bi)(st:eJ)(f:aC)(fd:cA):Prop where
 ex:∃(oc:aq)(od:Option aC)(kV doc pm:aq)(an:Option aC)(cdv ct:aq)(osl:Array (Option aq)),
  fd=eg x qual (Xl st) (Zz st) (Zh st) .none kV doc pm an cdv ct/\K.lookup f=aa #[oc,od,.func fd,osl]/\kl K cdv qual=ak
 kp:fk K (.ref f)=ak
section
variable{P:bH}{w:bV}{K:al}{mg:bi->Option aq}{base:ck}
def Fun.binds{x qual:bi}{st:eJ}{f:aC}{fd:cA}{ps:List bi}(F:Fun K x qual st f fd)
  (h:∀(kV doc pm:aq)(an:Option aC)(cdv ct:aq)(us:List aq),us.length=ps.length->mi (eg x qual (Xl st) (Zz st) (Zh st) .none kV doc pm an cdv ct) #[us,[]]=cD (ps.zip us)):WV K fd ps []:=by
 obtain⟨oc,od,kV,doc,pm,an,cdv,ct,osl,rfl,lk,hcd⟩:=F.ex;exact .all<|h kV doc pm an cdv ct
def ZeN{x qual:bi}{st:eJ}{f:aC}{oc:aq}{od an:Option aC}{osl:Array (Option aq)}{kV doc pm cdv ct:aq}(l:K.lookup f=aa #[oc,od,.func<|eg x qual (Xl st) (Zz st) (Zh st) .none kV doc pm an cdv ct,osl])
  (c:kl K cdv qual=ak)(k:fk K (.ref f)=ak):Fun K x qual st f (eg x qual (Xl st) (Zz st) (Zh st) .none kV doc pm an cdv ct):=#[#[oc,od,kV,doc,pm,an,cdv,ct,osl,rfl,l,c],k]
end
section
variable{κ:Type}[DecidableEq κ]
noncomputable def Qz(kvs:List (κ×V))(k:κ):Option V:=(kvs.find? λkv=>af<|kv.1=k).map (·.2)
noncomputable def z7(kvs:List (κ×V))(k:κ)(v:V):List (κ×V):=
 if(kvs.any λkv=>af<|kv.1=k)=ak then kvs.map (λkv=>if kv.1=k then(kv.1,v)else kv)else kvs++[(k,v)]
def UW{p:κ×V}{r:List (κ×V)}{k:κ}(e:p.1=k):Qz (p::r) k=aa p.2:=by simp[Qz,eM,e]
def Qc{p:κ×V}{r:List (κ×V)}{k:κ}(e:¬p.1=k):Qz (p::r) k=Qz r k:=by simp[Qz,eM,e]
theorem zF(k:κ):∀kvs:List (κ×V),(kvs.any λkv=>af<|kv.1=k)=(Qz kvs k).isSome
 |[]=>rfl
 |p::r=>by
  rw[fc];by_cases e:p.1=k
  .simp only[UW e,T5 e,Bool.true_or,Option.isSome_some]
  .rw[Qc e,T4 e,iD];exact zF k r
theorem yu(kvs:List (κ×V))(k:κ)(v:V):(z7 kvs k v).length<=kvs.length+1:=by
 unfold z7;split
 .rw[aw];lia
 .rw[aX,aJ,gB];lia
def xx.isSome_eq(r:xx o u):o.isSome=u.isSome:=by
 cases o with
 |none=>cases u with|none=>rfl|some _=>exact(r).elim
 |some _=>cases u with|none=>exact(r).elim|some _=>rfl
def KV.val{kvs:List (κ×V)}{vs:List (κ×aq)}(r:KV kvs vs)(k:κ):xx (Qz kvs k) (nJ vs k):=by
 unfold KV at r
 induction r with
 |nil=>exact dk
 |@cons p q ps qs h t ih=>
  obtain⟨h1,h2⟩:=h;by_cases e:p.1=k
  .have e':=h1.symm.trans e
   have b:nJ (q::qs) k=aa q.2:=by simp[nJ,eM,e']
   rw[UW e,b];exact h2
  .have e':¬q.1=k:=λz=>e (h1.trans z)
   have b:nJ (q::qs) k=nJ qs k:=by simp[nJ,eM,e']
   rw[Qc e,b];exact ih
theorem KV.any(r:KV kvs vs)(k:κ):(kvs.any λkv=>af<|kv.1=k)=vs.any λkv=>af (kv.1=k):=by
 unfold KV at r
 induction r with|nil=>rfl|cons h t ih=>rw[fc,fc,ih,h.1]
def KV.repl(r:KV kvs vs)(k:κ)(ry:Zx y u) :
  KV (kvs.map λkv=>if kv.1=k then(kv.1,y)else kv) (vs.map λkv=>if kv.1=k then(kv.1,u)else kv):=by
 unfold KV at r ⊢
 induction r with
 |nil=>exact .nil
 |@cons p q ps qs h t ih=>
  rw[aW,aW];refine .cons ?_ ih;obtain⟨h1,h2⟩:=h;by_cases e:p.1=k
  .rw[T9 e,T9<|h1.symm.trans e];exact#[h1,ry]
  .rw[T8 e,T8 λz=>e<|h1.trans z];exact#[h1,h2]
def KV.put(r:KV kvs vs)(k:κ)(ry:Zx y u):KV (z7 kvs k y) (stored vs k u):=by
 unfold z7 stored;rw[r.any k];by_cases e:(vs.any λkv=>af<|kv.1=k)=ak
 .rw[T9 e,T9 e];exact r.repl k ry
 .rw[T8 e,T8 e];exact Paired.snoc r #[rfl,ry]
end
def ww(r:Zx (kV k) u):(Yc P w).is k u=ak:=by
 cases k with|inl i=>obtain⟨t,e⟩:=(r);subst e;exact zX P w i t|inr x=>obtain⟨t,e⟩:=(r);subst e;exact za P w x t
theorem QR :∀{ks:List Key}{us:List aq},Vals (ks.map kV) us->ItemsAre (Yc P w) ks us
 |[],_,r=>by rw[i9]at r;cases r;exact .nil
 |k::ks,_,r=>by
  rw[aW]at r;cases r with|cons h t=>exact .cons (ww h)<|QR t
abbrev KT(H:Hp):List (List Key×V)->List (List Key×aC×aq)->Prop:=Paired λp q=>p.1=q.1/\H q.2.1=aa (.tup<|p.1.map kV)/\Zx p.2 q.2.2
def KT.val{H:Hp}{kvs:List (List Key×V)}{xs:List (List Key×aC×aq)}(r:KT H kvs xs)(k:List Key):xx (Qz kvs k) ((rE xs k).map (·.2)):=by
 induction r with
 |nil=>exact dk
 |@cons p q ps qs h t ih=>
  obtain⟨h1,_,h2⟩:=h;by_cases e:p.1=k
  .have e':=h1.symm.trans e
   have b:rE (q::qs) k=aa q.2:=by simp[rE,eM,e']
   rw[UW e,b];exact h2
  .have e':¬q.1=k:=λz=>e (h1.trans z)
   have b:rE (q::qs) k=rE qs k:=by simp[rE,eM,e']
   rw[Qc e,b];exact ih
def Zdt(ok:HOk P w H h)(e:Rd H a u):Z4 P w H h a u:=e.ok ok
def ZaD(ok:HOk P w H h)(e:Rd H a (.dK kvs)):kvs.length<=bo/\(a == eE)=ai/\∃vs,KV kvs vs/\h.DictOf (Yc P w) a vs:=
 Zdt ok e
def ZfA(ok:HOk P w H h)(e:H a=aa (.dK kvs)):kvs.length<=bo/\(a == eE)=ai/\∃vs,KV kvs vs/\h.DictOf (Yc P w) a vs:=ZaD ok<|.inl e
def yM(ok:HOk P w H h)(e:H a=aa (.tup<|ks.map kV)):(oh<|Yc P w).is h ks a:=by
 obtain⟨_,its,r,o,h1,h2,n,h3⟩:=(ok a _ e)
 exact#[o,its.toArray,n,h1,h2,h3,by simpa using QR r]
def Zc0(ok:HOk P w H h)(e:Rd H a (.dT kvs)):kvs.length<=bo/\(a == eE)=ai/\
  ∃xs,KT H kvs xs/\h.DictOfH (oh<|Yc P w) a xs:=by
 obtain⟨z,y,xs,r,o,es,ep,h1,h2,h3,h4,h5⟩:=(Zdt ok e)
 refine#[z,y,xs,r,o,es,ep,h1,h2,h3,h4,λx hx=>?_,h5]
 have all:∀{l:List (List Key×V)}{m:List (List Key×aC×aq)},KT H l m->∀x∈m,(oh<|Yc P w).is h x.1 x.2.1:=by
  intro l m q
  induction q with
  |nil=>intro x hx;exact nomatch hx
  |@cons p q ps qs hq t ih=>
   intro x hx;rcases ay.mp hx with e|hx
   .subst e
    exact yM ok (by rw[<-hq.1];exact hq.2.1)
   .exact ih x hx
 exact all r x hx
def DGet(H:Hp)(a:aC)(y:V)(r:Option V):Prop:=
 (∃kvs k,Rd H a (.dK kvs)/\y=kV k/\r=Qz kvs k)\/∃kvs k b,Rd H a (.dT kvs)/\y=.ref b/\H b=aa (.tup<|k.map kV)/\r=Qz kvs k
def Inv.big(I:Inv X pq σ H s):eE<s.heap.objs.size:=by
 have h:=(I.mod.glob.keeps I.bk).lt;exact dE (by decide) h
def Zf2{Q:aq->aA->Prop}(hu:A.units+1<dH)(I:Inv X pq σ H s)(g:DGet H a y o)(ry:Zx y u)(h:∀s',Inv X pq σ H s'->Q (.bool o.isSome) s') :
  bn (aV X.prog X.w) A (cN .In u<|.ref a) Q E s:=by
 rcases g with⟨kvs,k,e,ey,l⟩|⟨kvs,k,b,e,ey,eb,l⟩
 .subst ey
  obtain⟨z,hd,vs,rel,dd⟩:=ZaD I.hok e;refine wpAny_in_of (ww ry) hd dd.mapOf ?_;rw[<-(rel.val k).isSome_eq,<-l];exact h _<|I.tok _
 .subst ey
  cases(ry)
  obtain⟨z,hd,xs,rel,dd⟩:=Zc0 I.hok e;refine wpAny_in_heap (ny hu) (yM I.hok eb) hd dd ?_;have q:=(rel.val k).isSome_eq;rw[nK]at q;rw[<-q,<-l];exact h _<|I.tok _
def ZcE{Q:aq->aA->Prop}(hu:A.units+1<dH)(I:Inv X pq σ H s)(g:DGet H a y o)(ry:Zx y u)(h:∀s',Inv X pq σ H s'->Q (.bool<|!o.isSome) s') :
  bn (aV X.prog X.w) A (cN .NotIn u<|.ref a) Q E s:=by
 rcases g with⟨kvs,k,e,ey,l⟩|⟨kvs,k,b,e,ey,eb,l⟩
 .subst ey
  obtain⟨z,hd,vs,rel,dd⟩:=ZaD I.hok e;refine wpAny_notIn_of (ww ry) hd dd.mapOf ?_;rw[<-(rel.val k).isSome_eq,<-l];exact h _<|I.tok _
 .subst ey
  cases(ry)
  obtain⟨z,hd,xs,rel,dd⟩:=Zc0 I.hok e;refine wpAny_notIn_heap (ny hu) (yM I.hok eb) hd dd ?_;have q:=(rel.val k).isSome_eq;rw[nK]at q;rw[<-q,<-l];exact h _<|I.tok _
def ZcT(I:Inv X pq σ H s)(mu:Mut (H a))(hs:fU a s.heap h')(he:∃q,h'.get? a=aa q)(new:Z4 X.prog X.w (upd H a ob) h' a ob) :
  Inv X pq σ (upd H a ob) {s with heap:=h',toks:=t' }:=
 I.write mu (.inl rfl) (λb q hb z=>(hs.2 b hb).trans z) he new
def ZeF(z:kvs.length<=bo)(hd:(a == eE)=ai)(rel:KV kvs vs)(dd:h'.DictOf (Yc P w) a vs) :
  Z4 P w H' h' a (.dK kvs):=#[z,hd,vs,rel,dd]
def jz(h:ck)(hb:eE<h.objs.size):Z4 P w H (h.push {cls:=.type "dict",data:=.dict #[]}) h.objs.size (.dK []):=
 #[dQ _,beq_eq_false_iff_ne.mpr<|Ne.symm<|bD hb,[],.nil,ck.DictOf.new h]
def Zbt(h:ck)(hb:eE<h.objs.size):Z4 P w H (h.push {cls:=.type "dict",data:=.dict #[]}) h.objs.size (.dT []):=
 #[dQ _,beq_eq_false_iff_ne.mpr<|Ne.symm<|bD hb,[],.nil,_,#[],0,aQ _ rfl,#[rfl,rfl,rfl],rfl,rfl,pB]
def Zen:TE:=λ_ H Q=>∀p,H p=ae->Q (.ref p) (upd H p<|.dT [])
def Za2:PE X (.Dict [] [] pos) Zen:=λpq s σ H Q I h=>
 wpAny_Dict_empty #[.ref s.heap.objs.size,_,I.laid (t':=s.toks) (λ_ _ q=>ax _ q) (aG _)<|Zbt s.heap I.big,rfl,h _<|I.hok.fresh<|aG _]
def xA:List (TE×TE)->St->Hp->(List (V×V)->Hp->Prop)->Prop
 |[],_,H,Q=>Q [] H
 |(tk,tv)::r,σ,H,Q=>tk σ H λx H1=>tv σ H1 λy H2=>xA r σ H2 λps H3=>Q ((x,y)::ps) H3
abbrev VV:List (V×V)->List (aq×aq)->Prop:=Paired λp q=>Zx p.1 q.1/\Zx p.2 q.2
def PPs(X:Cx)(pos:fO)(keys:List (Option Expr))(values:List Expr)(trs:List (TE×TE)):Prop:=
 ∀(pq:List (aC×fD))(s:aA)(σ:St)(H:Hp)(Q:List (V×V)->Hp->Prop),Inv X pq σ H s->xA trs σ H Q->
  bn (aV X.prog X.w) X.A (evalPairs<|pairTrees keys values X.env pos) (λvs s'=>∃ps H',Inv X pq σ H' s'/\VV ps vs/\Q ps H') X.xe s
def ZcX :PPs X pos [] [] []:=λpq s σ H Q I h=>pairTrees_nil_walk #[[],H,I,.nil,h]
def j9(hk:PE X k tk)(hv:PE X v tv)(hr:PPs X pos ks vs trs) :
  PPs X pos (aa k::ks) (v::vs) ((tk,tv)::trs):=λpq s σ H Q I h=>
 pairTrees_cons_walk (thn (hk pq s σ H _ I h) λu s1 #[x,H1,I1,rx,q1]=>thn (hv pq s1 σ H1 _ I1 q1) λw2 s2 #[y,H2,I2,ry,q2]=>
  thn (hr pq s2 σ H2 _ I2 q2)<|by rintro ws s3 ⟨ps,H3,I3,rel,q3⟩;exact #[(x,y)::ps,H3,I3,.cons #[rx,ry] rel,q3])
noncomputable def Qv(kvs more:List (Key×V)):List (Key×V):=more.foldl (λacc kv=>z7 acc kv.1 kv.2) kvs
def KV.merge:∀{more:List (Key×V)}{rs:List (Key×aq)}{kvs:List (Key×V)}{vs:List (Key×aq)},KV more rs->KV kvs vs->KV (Qv kvs more) (merged vs rs):=by
 intro more rs kvs vs r;unfold KV at r
 induction r generalizing kvs vs with
 |nil=>intro q;exact q
 |@cons p q ps qs h t ih=>
  intro r0;have e:KV (z7 kvs p.1 p.2) (stored vs q.1 q.2):=by
   have:=r0.put p.1 h.2;rw[<-h.1];exact this
  exact ih e
theorem Wx:∀(more kvs:List (Key×V)),(Qv kvs more).length<=kvs.length+more.length
 |[],kvs=>by show kvs.length<=kvs.length+0;lia
 |p::r,kvs=>by
  have h1:=Wx r<|z7 kvs p.1 p.2;have h2:=yu kvs p.1 p.2;show(Qv (z7 kvs p.1 p.2) r).length<=_;rw[aJ];lia
theorem UU :∀{kvs:List (Key×V)}{ws:List (aq×aq)},VV (kvs.map λkv=>(kV kv.1,kv.2)) ws->∃rs,Carries (Yc P w) ws rs/\KV kvs rs
 |[],_,r=>by rw[i9]at r;cases r;exact#[[],dk,.nil]
 |p::kvs,_,r=>by
  rw[aW]at r;cases r with
  |@cons a b as bs h t=>
   obtain⟨rs,c,q⟩:=UU t;obtain⟨b1,b2⟩:=b;exact#[(p.1,b2)::rs,#[ww h.1,rfl,c],.cons #[rfl,h.2] q]
def Zfq(trs:List (TE×TE)):TE:=λσ H Q=>∀p,H p=ae->xA trs σ (upd H p<|.dK []) λps H2=>H2 p=aa (.dK [])/\∃kvs:List (Key×V),ps=kvs.map (λkv=>(kV kv.1,kv.2))/\kvs.length<=15/\Q (.ref p) (upd H2 p<|.dK<|Qv [] kvs)
def Zb3(h:PPs X pos keys values trs)(hall:keys.all (·.isSome)=ak)(hl:keys.length=values.length)(h0:keys≠[])
  (h15:keys.length<=15):PE X (.Dict keys values pos) (Zfq trs):=by
 intro pq s σ H Q I q;have hn:=I.hok.fresh<|aG s.heap.objs.size;have I1:=I.laid (h':=s.heap.push {cls:=.type "dict",data:=.dict #[]}) (t':=s.toks) (λ_ _ q=>ax _ q) (aG _)<|jz s.heap I.big
 refine wpAny_Dict_walk (knd:=Yc X.prog X.w) hall hl h0 h15<|thn (h pq _ σ _ _ I1<|q _ hn) λws s2 #[ps,H2,I2,rel,e,kvs,ep,lk,q2]=>?_
 subst ep;obtain⟨rs,c,rk⟩:=UU rel;obtain⟨z,hd,vs0,r0,dd⟩:=ZfA I2.hok e;cases r0;refine#[rs,c,dd,λh' dd' hs=>#[.ref s.heap.objs.size,_,?_,rfl,q2]]
 have hz:(Qv [] kvs).length<=bo:=by
  have h1:=Wx kvs [];rw[gB]at h1;rw[da];lia
 have he:∃q,h'.get? s.heap.objs.size=aa q:=let #[q,_,_,hq,_]:=dd';#[q,hq];exact ZcT I2 (by rw[e];exact dk) hs he<|ZeF hz hd (rk.merge .nil) dd'
end L2
namespace Pv
open PySem (Str)
inductive V where
 |non|bl (b:Bool)|int (i:Int)|str (x:bi)|tup (xs:List V)|lst (xs:List V)|drw|dct (ks:Option (List<|List Int))|scr (ns:List Int)
 deriving Inhabited
end Pv
namespace Ev
open PySem (Str)
def nos{α:Type}{P:Prop}{b:α}(h:ae=aa b):P:=by cases h
noncomputable def lim:Nat:=16777216
inductive Bop where|add|sub|mul|fdiv|mod|pow
 deriving DecidableEq
inductive Cop where|eq|ne|lt|le|gt|ge|inn|nin
 deriving DecidableEq
inductive Ty where|int|bool|str|tuple|list|dict|cls (c:Nat)
 deriving DecidableEq
inductive Bf where|len|max2|min2|toInt|tuple|list|all|any|sum|sorted|rangeL
 deriving DecidableEq
inductive Mf where|append|extend
 deriving DecidableEq
mutual
inductive E where
 |c (d:Pv.V)|v (i:Nat)
 |tup (es:List E)|lst (es:List E)|dnew
 |bin (op:Bop) (a b:E)|neg (a:E)|not (a:E)|and (a b:E)|or (a b:E)|ite (t a b:E)
 |cmp (op:Cop) (a b:E)|chain (o p:Cop) (a b d:E)
 |ix (a i:E)|sl (a:E) (lo hi:Option E)|rev (a:E)
 |call (f:Nat) (as:List E)|blt (f:Bf) (as:List E)|mt (m:Mf) (o:E) (as:List E)
 |isi (a:E) (ts:List Ty)
 |dput1 (k v:E)
 |comp1 (cap:List Nat) (nl:Nat) (t:List Nat) (it:W) (ifs:List E) (elt:E)
 |comp2 (cap:List Nat) (nl:Nat) (t:List Nat) (it:W) (ifs:List E) (u:List Nat) (jt:W) (jfs:List E) (elt:E)
 |fi (e:E)
 |refu (w:Bool) (e:E)
 |dix (a:E) (k:Bool)
 |callF (f:Nat) (as:List E)
inductive W where
 |of (e:E)|rng1 (a:E)|rng2 (a b:E)|zip (a b:E)|enum (a:E)|rrng (a b:E)
end
inductive Sm where
 |asg (t:List Nat) (e:E)
 |ret (e:E)|ex (e:E)|ite (t:E) (a b:List Sm)|forr (t:List Nat) (it:W) (b:List Sm)
 |raise (c:Nat) (as:List E)
 |mov (i j:Nat)
 |dset (i:Nat) (e:E)|cel (i f:Nat) (as:List E) (b:List Sm)
noncomputable def b2i(b:Bool):Int:=if b then 1 else 0
noncomputable def Zt:Nat:=6
noncomputable def ixN(n:Nat)(i:Int):Option Nat:=if 0<=i then(if i<n then aa i.toNat else ae)else if -(n:Int)<=i then aa (i+n).toNat else ae
noncomputable def at'{α:Type}(xs:List α)(i:Int):Option α:=(ixN xs.length i).bind λj=>xs[j]?
noncomputable def sIx(n d:Nat):Option Int->Nat
 |none=>d
 |some i=>if i<0 then(i+n).toNat else pS i.toNat n
noncomputable def fits(i:Int):Bool:=af<|i.natAbs<2^8000
noncomputable def big:Int:=2^8000
def qL(h:b<1073741824):b<big:=Int.lt_trans h (by decide +kernel)
noncomputable def ltI:List Int->List Int->Bool
 |[],[]=>ai
 |[],_::_=>ak
 |_::_,[]=>ai
 |a::x,b::y=>if a=b then ltI x y else af (a<b)
noncomputable def Wu(x:List Int):List (List Int)->List (List Int)
 |[]=>[x]
 |y::r=>if ltI x y then x::y::r else y::Wu x r
noncomputable def Ye:List (List Int)->List (List Int)
 |[]=>[]
 |x::r=>Wu x<|Ye r
noncomputable def VE{α:Type}(lt:α->α->Bool)(x:α):List α->List α
 |[]=>[x]
 |y::r=>if lt x y then x::y::r else y::VE lt x r
noncomputable def Ym{α:Type}(lt:α->α->Bool):List α->List α
 |[]=>[]
 |x::r=>VE lt x<|Ym lt r
noncomputable def ltP:List (List Int)->List (List Int)->Bool
 |[],[]=>ai
 |[],_::_=>ak
 |_::_,[]=>ai
 |a::x,b::y=>if a=b then ltP x y else ltI a b
noncomputable def X9(is:List Int):Bool:=af (is.length<=1000)&&is.all λi=>af<|-1099511627776<=i/\i<=1099511627776
noncomputable def Wb(rs:List (List Int)):Bool:=af (rs.length<=100000)&&decide rs.Nodup&&rs.all λr=>!r.isEmpty
noncomputable def Z8(ps:List (List<|List Int)):Bool:=af (ps.length<=100000)&&decide ps.Nodup&&(af (ps.length<=1)||ps.all λP=>!P.isEmpty)
noncomputable def Yn(i:Int):Bool:=af<|-(2^62)<=i/\i<2^62
noncomputable def few(i:Int):Bool:=af<|0<=i/\i<=1000
noncomputable def X4:List bi:=["row","part","number","heads","not beside","not in","turn","lot","many","note"]
structure Fn where
 ps:Nat
 ns:Nat
 body:List Sm
end Ev
namespace Pv
open Ev
open PySem (Str)
noncomputable abbrev DS:=Int×Bool
inductive PR(α:Type) where
 |ok (a:α) (s:DS)|ex (c:Nat) (s:DS)|no
noncomputable def PR.bind{α β:Type}(r:PR α)(f:α->DS->PR β):PR β:=match r with
 |.ok a s=>f a s
 |.ex c s=>.ex c s
 |.no=>.no
noncomputable def PR.nox{α:Type}(r:PR α):PR α:=match r with
 |.ex _ _=>.no
 |r=>r
noncomputable def po{α:Type}(o:Option α)(s:DS):PR α:=match o with
 |some a=>.ok a s
 |none=>.no
abbrev Env:=List<|Option V
mutual
noncomputable def V.flat:V->Bool
 |.tup xs=>Z1 xs
 |.lst _=>ai
 |.drw=>ai
 |.dct _=>ai
 |_=>ak
noncomputable def Z1:List V->Bool
 |[]=>ak
 |x::xs=>x.flat&&Z1 xs
end
mutual
noncomputable def ofD:V->Option V
 |.non=>aa .non
 |.bl b=>aa<|.bl b
 |.int i=>aa<|.int i
 |.str x=>aa<|.str x
 |.tup xs=>(ZfE xs).map .tup
 |_=>ae
noncomputable def ZfE:List V->Option (List V)
 |[]=>aa []
 |x::xs=>match ofD x,ZfE xs with
  |some a,aa b=>aa (a::b)
  |_,_=>ae
end
noncomputable def Zs:V->Option Bool
 |.non=>aa ai
 |.bl b=>aa b
 |.int i=>aa<|af<|i≠0
 |.tup xs=>aa<|!xs.isEmpty
 |.lst xs=>aa<|!xs.isEmpty
 |_=>ae
noncomputable def Yt(f:V->V->Option Bool):List V->List V->Option Bool
 |[],[]=>aa ak
 |x::xs,y::ys=>match f x y,Yt f xs ys with
  |some a,aa b=>aa<|a&&b
  |_,_=>ae
 |_,_=>aa ai
noncomputable def eqV:Nat->V->V->Option Bool
 |0,_,_=>ae
 |k+1,x,y=>match x with
  |.non=>match y with
   |.non=>aa ak
   |.bl _|.int _|.str _=>aa ai
   |_=>ae
  |.bl a=>match y with
   |.bl b=>aa<|af<|a=b
   |.int b=>aa<|af<|b2i a=b
   |.non|.str _=>aa ai
   |_=>ae
  |.int a=>match y with
   |.int b=>aa<|af<|a=b
   |.bl b=>aa<|af<|a=b2i b
   |.non|.str _=>aa ai
   |_=>ae
  |.str a=>match y with
   |.str b=>aa<|af<|a=b
   |.non|.bl _|.int _=>aa ai
   |_=>ae
  |.tup xs=>match y with
   |.tup ys=>Yt (eqV k) xs ys
   |_=>ae
  |.lst xs=>match y with
   |.lst ys=>if xs.length=ys.length then Yt (eqV k) xs ys else aa ai
   |_=>ae
  |_=>ae
noncomputable def X1(x:V):List V->Option Bool
 |[]=>aa ai
 |y::ys=>match eqV Zt y x,X1 x ys with
  |some a,aa b=>aa (a||b)
  |_,_=>ae
noncomputable def Yr:V->Ty->Option Bool
 |.non,_=>aa ai
 |.bl _,t=>aa<|af<|t=.bool\/t=.int
 |.int _,t=>aa<|af<|t=.int
 |.str _,t=>aa<|af<|t=.str
 |.tup _,t=>aa<|af<|t=.tuple
 |.lst _,t=>aa<|af<|t=.list
 |.dct ae,t=>aa<|af<|t=.dict
 |_,_=>ae
noncomputable def ZY(x:V):List Ty->Option Bool
 |[]=>aa ai
 |t::ts=>match Yr x t with
  |some ak=>aa ak
  |some ai=>ZY x ts
  |none=>ae
noncomputable def YA(xs:List V)(lo hi:Option Int):List V:=(xs.drop<|sIx xs.length 0 lo).take<|sIx xs.length xs.length hi-sIx xs.length 0 lo
noncomputable def QC(op:Bop)(a b:Int)(s:DS):PR V:=match op with
 |.add=>.ok (.int<|a+b) s
 |.sub=>.ok (.int<|a-b) s
 |.mul=>if(fits a&&fits b)=ak then .ok (.int<|a*b) s else .no
 |.fdiv=>if 0<b/\b<Ev.big then .ok (.int<|a / b) s else .no
 |.mod=>if 0<b then .ok (.int<|a%b) s else .no
 |.pow=>if 0<=b/\b<=1000/\a.natAbs<2^64 then .ok (.int<|a^b.toNat) s else .no
noncomputable def YZ(op:Bop)(x y:V)(s:DS):PR V:=match x with
 |.int a=>match y with
  |.int b=>QC op a b s
  |_=>.no
 |.tup a=>match y with
  |.tup b=>match op with
   |.add=>if a.length+b.length<=lim then .ok (.tup<|a++b) s else .no
   |_=>.no
  |.int b=>match op with
   |.mul=>if 0<=b/\b<1000/\a.length<=1000 then .ok (.tup (aP b.toNat a).flatten) s else .no
   |_=>.no
  |_=>.no
 |.lst a=>match y with
  |.lst b=>match op with
   |.add=>if a.length+b.length<=lim then .ok (.lst<|a++b) s else .no
   |_=>.no
  |.int b=>match op with
   |.mul=>if 0<=b/\b<1000/\a.length<=1000 then .ok (.lst (aP b.toNat a).flatten) s else .no
   |_=>.no
  |_=>.no
 |_=>.no
noncomputable def intsV:List V->Option (List Int)
 |[]=>aa []
 |.int i::r=>(intsV r).map (i :: ·)
 |_::_=>ae
noncomputable def V1(x y:V):Option Bool:=match y with
 |.tup ys=>X1 x ys
 |.lst ys=>X1 x ys
 |.dct (aa ks)=>match x with
  |.tup k=>(intsV k).map λk=>ks.contains k
  |_=>ae
 |_=>ae
noncomputable def ym:V->Bool
 |.non=>ak
 |_=>ai
noncomputable def Zd(r:List Int):V:=.tup<|r.map .int
noncomputable def Yb:List V->Option (List<|List Int)
 |[]=>aa []
 |.tup x::r=>match intsV x,Yb r with
  |some a,aa b=>aa (a::b)
  |_,_=>ae
 |_::_=>ae
noncomputable def int2(x y:V):Option (Int×Int):=match x with
 |.int a=>match y with
  |.int b=>aa (a,b)
  |_=>ae
 |_=>ae
noncomputable def YT(op:Cop)(x y:V):Option V:=match op with
 |.eq=>(eqV Zt x y).map .bl
 |.ne=>(eqV Zt x y).map λb=>.bl !b
 |.lt=>match x with
  |.tup a=>match y with
   |.tup b=>(Yb a).bind λP=>(Yb b).map λQ=>.bl<|ltP P Q
   |_=>ae
  |x=>(int2 x y).map λz=>.bl<|af<|z.1<z.2
 |.gt=>(int2 x y).map λz=>.bl<|af<|z.2<z.1
 |.le=>(int2 x y).map λz=>.bl<|af<|z.1<=z.2
 |.ge=>(int2 x y).map λz=>.bl<|af<|z.2<=z.1
 |.inn=>(V1 x y).map .bl
 |.nin=>(V1 x y).map λb=>.bl !b
noncomputable def ixV(x y:V):Option V:=match x,y with
 |.tup xs,.int i=>at' xs i
 |.lst xs,.int i=>at' xs i
 |.scr xs,.int i=>(at' xs i).map .int
 |_,_=>ae
noncomputable def slV(x:V)(lo hi:Option Int):Option V:=match x with
 |.tup xs=>aa<|.tup<|YA xs lo hi
 |.lst xs=>aa<|.lst<|YA xs lo hi
 |_=>ae
noncomputable def Ze8:V->Option V
 |.tup xs=>aa<|.tup xs.reverse
 |_=>ae
noncomputable def UA:V->Option Bool
 |.non=>aa ai
 |.bl b=>aa b
 |.int i=>aa<|af<|i≠0
 |_=>ae
noncomputable def ZT:List V->Option (List Bool)
 |[]=>aa []
 |x::xs=>match UA x,ZT xs with
  |some b,aa bs=>aa (b::bs)
  |_,_=>ae
noncomputable def Zc(P:List (List Int)):V:=.tup<|P.map Zd
noncomputable def yy:V->Option (List<|List Int)
 |.tup ks=>Yb ks
 |_=>ae
noncomputable def YL:List V->Option (List<|List<|List Int)
 |[]=>aa []
 |x::r=>match yy x,YL r with
  |some a,aa b=>aa (a::b)
  |_,_=>ae
noncomputable def ZcJ:List V->Bool
 |.tup (.int _::_)::_=>ak
 |_=>ai
noncomputable def YK:V->Option (List V)
 |.tup xs=>aa xs
 |.lst xs=>aa xs
 |.scr ns=>aa<|ns.map .int
 |_=>ae
noncomputable def ZS(lo:Int)(n:Nat):List V:=(aH n).map λ(k:Nat)=>.int<|lo+(k:Int)
noncomputable def blt1(f:Bf)(x:V):Option V:=match f with
 |.len=>(YK x).map λxs=>.int xs.length
 |.toInt=>match x with
  |.int a=>aa<|.int a
  |.bl b=>aa<|.int<|b2i b
  |_=>ae
 |.tuple=>(YK x).map .tup
 |.list=>(YK x).map .lst
 |.all=>match x with
  |.lst xs=>(ZT xs).map λbs=>.bl<|bs.all id
  |_=>ae
 |.any=>(YK x).bind λxs=>(ZT xs).map λbs=>.bl<|bs.any id
 |.sum=>match x with
  |.lst xs=>(intsV xs).bind λis=>if X9 is=ak then aa (.int is.sum)else ae
  |_=>ae
 |.sorted=>match x with
  |.lst xs=>if ZcJ xs=ak then(Yb xs).bind λrs=>if Wb rs=ak then aa (.lst<|(Ye rs).map Zd)else ae else(YL xs).bind λps=>if Z8 ps=ak then aa (.lst<|(Ym ltP ps).map Zc)else ae
  |_=>ae
 |.rangeL=>match x with
  |.int i=>if few i then aa (.lst<|ZS 0 i.toNat)else ae
  |_=>ae
 |_=>ae
noncomputable def blt2(f:Bf)(x y:V):Option V:=match x,y with
 |.int a,.int b=>match f with
  |.max2=>aa<|.int (if b>a then b else a)
  |.min2=>aa<|.int (if b<a then b else a)
  |_=>ae
 |_,_=>ae
noncomputable def X2(f:Bf)(as:List V):Option V:=match as with
 |[x]=>blt1 f x
 |[x,y]=>blt2 f x y
 |_=>ae
noncomputable def XF:List Nat->List V->Env->Option Env
 |[],[],ρ=>aa ρ
 |i::t,x::xs,ρ=>XF t xs<|ρ.set i<|aa x
 |_,_,_=>ae
noncomputable def qD:V->Option (List V)
 |.tup xs=>aa xs
 |.lst xs=>aa xs
 |_=>ae
noncomputable def Zp(t:List Nat)(x:V)(ρ:Env):Option Env:=match t with
 |[i]=>aa<|ρ.set i<|aa x
 |t=>match qD x with
  |some xs=>XF t xs ρ
  |none=>ae
abbrev ZA:=Nat->List V->DS->PR V
noncomputable def Z2(cap:List Nat)(nl:Nat)(ρ:Env):Env:=aP nl ae++cap.map λi=>(ρ[i]?).join
noncomputable def mapP(f:V->DS->PR (List V)):List V->DS->PR (List V)
 |[],s=>.ok [] s
 |x::xs,s=>match f x s with
  |.ok ys s=>match mapP f xs s with
   |.ok zs s=>.ok (ys++zs) s
   |_=>.no
  |_=>.no
noncomputable def Zan(w:Bool)(c:Nat):V:=if w then .str (X4.getD c "")else .int c
noncomputable def own(nl:Nat)(t:List Nat):Bool:=t.all λi=>af<|i<nl
noncomputable def own2(nl:Nat)(t u:List Nat):Bool:=own nl t&&u.all λi=>af (i<nl) && !t.contains i
mutual
noncomputable def pv(C:ZA):E->Env->DS->PR V
 |.c d,_,s=>po (ofD d) s
 |.v i,ρ,s=>po (ρ[i]?).join s
 |.tup es,ρ,s=>(pvs C es ρ s).bind λxs s=>if xs.length<=lim then .ok (.tup xs) s else .no
 |.lst es,ρ,s=>(pvs C es ρ s).bind λxs s=>if xs.length<=lim then .ok (.lst xs) s else .no
 |.dnew,_,s=>.ok (.dct ae) s
 |.dput1 k v,ρ,s=>(pv C k ρ s).bind λx s=>(pv C v ρ s).bind λy s=>match x,y with
  |.int _,.int _=>.ok (.dct ae) s
  |_,_=>.no
 |.bin op a b,ρ,s=>(pv C a ρ s).bind λx s=>(pv C b ρ s).bind λy s=>YZ op x y s
 |.neg a,ρ,s=>(pv C a ρ s).bind λx s=>match x with
  |.int i=>.ok (.int<|-i) s
  |_=>.no
 |.not a,ρ,s=>(pv C a ρ s).bind λx s=>(po (Zs x) s).bind λb s=>.ok (.bl !b) s
 |.and a b,ρ,s=>(pv C a ρ s).bind λx s=>match x with
  |.bl c=>if c then pv C b ρ s else .ok (.bl ai) s
  |_=>.no
 |.or a b,ρ,s=>(pv C a ρ s).bind λx s=>match x with
  |.bl c=>if c then .ok (.bl ak) s else pv C b ρ s
  |_=>.no
 |.ite t a b,ρ,s=>(pv C t ρ s).bind λx s=>(po (Zs x) s).bind λc s=>if c then pv C a ρ s else pv C b ρ s
 |.cmp op a b,ρ,s=>(pv C a ρ s).bind λx s=>(pv C b ρ s).bind λy s=>po (YT op x y) s
 |.chain o p a b d,ρ,s=>(pv C a ρ s).bind λx s=>(pv C b ρ s).bind λy s=>(po (YT o x y) s).bind λz s=>match z with
  |.bl c=>if c then(pv C d ρ s).bind λw s=>po (YT p y w) s else .ok (.bl ai) s
  |_=>.no
 |.ix a i,ρ,s=>(pv C a ρ s).bind λx s=>(pv C i ρ s).bind λy s=>po (ixV x y) s
 |.sl a lo hi,ρ,s=>(pv C a ρ s).bind λx s=>(pvo C lo ρ s).bind λl s=>(pvo C hi ρ s).bind λh s=>po (slV x l h) s
 |.rev a,ρ,s=>(pv C a ρ s).bind λx s=>po (Ze8 x) s
 |.call f as,ρ,s=>(pvs C as ρ s).bind λxs s=>C f xs s
 |.blt f as,ρ,s=>(pvs C as ρ s).bind λxs s=>po (X2 f xs) s
 |.mt _ _ _,_,_=>.no
 |.isi a ts,ρ,s=>(pv C a ρ s).bind λx s=>(po (ZY x ts) s).bind λb s=>.ok (.bl b) s
 |.comp1 cap nl t it ifs elt,ρ,s=>if own nl t=ak then(pvw C it ρ s).bind λw s=>
   ((mapP (λx s=>(po (Zp t x<|Z2 cap nl ρ) s).bind λσ s=>(pvt C ifs σ s).bind λb s=>if b then(pv C elt σ s).bind λy s=>.ok [y] s else .ok [] s) w s).bind
    λys s=>if ys.length<=lim then .ok (.lst ys) s else .no).nox
  else .no
 |.comp2 cap nl t it ifs u jt jfs elt,ρ,s=>if own2 nl t u=ak then(pvw C it ρ s).bind λw s=>
   ((mapP (λx s=>(po (Zp t x<|Z2 cap nl ρ) s).bind λσ s=>(pvt C ifs σ s).bind λb s=>if b then
    (pvw C jt σ s).bind λw2 s=>mapP (λx s=>(po (Zp u x σ) s).bind λσ s=>(pvt C jfs σ s).bind λb s=>if b then(pv C elt σ s).bind λy s=>.ok [y] s else .ok [] s) w2 s
    else .ok [] s) w s).bind
    λys s=>if ys.length<=lim then .ok (.lst ys) s else .no).nox
  else .no
 |.fi a,ρ,s=>(pv C a ρ s).bind λx s=>match x with
  |.int i=>if Yn i=ak then .ok (.int i) s else .no
  |_=>.no
 |.refu w e,ρ,s=>match pv C e ρ s with
  |.ok _ s=>.ok .non s
  |.ex c s=>if 1<=c/\c<=10 then .ok (Zan w<|c-1) s else .no
  |.no=>.no
 |.dix a k,ρ,s=>(pv C a ρ s).bind λx s=>match x with
  |.drw=>.ok (if k then .bl s.2 else .int s.1) s
  |_=>.no
 |.callF f as,ρ,s=>(pvs C as ρ s).bind λxs s=>C f xs s
noncomputable def pvs(C:ZA):List E->Env->DS->PR (List V)
 |[],_,s=>.ok [] s
 |e::es,ρ,s=>(pv C e ρ s).bind λx s=>(pvs C es ρ s).bind λxs s=>.ok (x::xs) s
noncomputable def pvo(C:ZA):Option E->Env->DS->PR (Option Int)
 |none,_,s=>.ok ae s
 |some e,ρ,s=>(pv C e ρ s).bind λx s=>match x with
  |.int i=>.ok (aa i) s
  |_=>.no
noncomputable def pvt(C:ZA):List E->Env->DS->PR Bool
 |[],_,s=>.ok ak s
 |e::es,ρ,s=>(pv C e ρ s).bind λx s=>(po (Zs x) s).bind λb s=>if b then pvt C es ρ s else .ok ai s
noncomputable def pvw(C:ZA):W->Env->DS->PR (List V)
 |.rng1 a,ρ,s=>(pv C a ρ s).bind λx s=>match x with
  |.int i=>if Yn i then .ok (ZS 0 i.toNat) s else .no
  |_=>.no
 |.rng2 a b,ρ,s=>(pv C a ρ s).bind λx s=>(pv C b ρ s).bind λy s=>match x,y with
  |.int i,.int j=>if(Yn i&&Yn j)=ak then .ok (ZS i (j-i).toNat) s else .no
  |_,_=>.no
 |.rrng a b,ρ,s=>(pv C a ρ s).bind λx s=>(pv C b ρ s).bind λy s=>match x,y with
  |.int i,.int j=>if(Yn i&&Yn j)=ak then .ok (ZS i (j-i).toNat).reverse s else .no
  |_,_=>.no
 |.zip a b,ρ,s=>(pv C a ρ s).bind λx s=>(pv C b ρ s).bind λy s=>match YK x,YK y with
  |some v,aa w=>.ok ((v.zip w).map λp=>.tup [p.1,p.2]) s
  |_,_=>.no
 |.enum a,ρ,s=>(pv C a ρ s).bind λx s=>match YK x with
  |some w=>.ok (((ZS 0 w.length).zip w).map λp=>.tup [p.1,p.2]) s
  |none=>.no
 |.of e,ρ,s=>(pv C e ρ s).bind λx s=>po (YK x) s
end
inductive FlV where|nx (ρ:Env) (os:List Nat)|ret (v:V)
noncomputable def hide(os:List Nat)(ρ:Env):Env:=ρ.mapIdx λi o=>if os.contains i then ae else o
noncomputable def fresh:E->Bool
 |.lst _=>ak
 |.comp1 .. => ak
 |.comp2 .. => ak
 |.bin .mul (.lst _) _=>ak
 |.blt .list _=>ak
 |.blt .sorted _=>ak
 |.blt .rangeL _=>ak
 |.callF _ _=>ak
 |_=>ai
noncomputable def pvA(C:ZA)(e:E)(ρ:Env)(os:List Nat)(s:DS):PR V:=match os with
 |[]=>pv C e ρ s
 |os=>match pv C e (hide os ρ) s with
  |.ok v s=>.ok v s
  |.ex c s=>.ex c s
  |.no=>(pv C e ρ s).bind λv s=>if v.flat then .ok v s else .no
noncomputable def Xj(C:ZA)(e:E)(ρ:Env)(s:DS):PR Bool:=(pv C e ρ s).bind λx s=>po (Zs x) s
noncomputable def YJ(body:V->Env->List Nat->DS->PR FlV):List V->Env->List Nat->DS->PR FlV
 |[],ρ,os,s=>.ok (.nx ρ os) s
 |x::xs,ρ,os,s=>(body x ρ os s).bind λf s=>match f with
  |.nx ρ os=>YJ body xs ρ os s
  |.ret v=>.ok (.ret v) s
noncomputable def okS(x:Int)(b:Bool):Bool:=af (0<=x)&&(b||decide (x<2147483647))
noncomputable def U0:V->Option DS
 |.lst [.int a,.bl b]=>if okS a b=ak then aa (a,b)else ae
 |_=>ae
noncomputable def Ju(o:Option V):Option V:=o.filter V.flat
noncomputable def Vp(i:Nat)(ρ:Env):Env:=(ρ.take i).map Ju++aP (ρ.length-i) ae
noncomputable def wB:Option (Option V)->Option (List V)
 |some (aa<|.lst xs)=>aa xs
 |_=>ae
mutual
noncomputable def rv(C:ZA)(ms:List Nat):Sm->Env->List Nat->DS->PR FlV
 |.asg [i] e,ρ,os,s=>(pvA C e ρ os s).bind λv s=>if(ms.contains i&&fresh e)=ak then match v with
   |.lst xs=>if Z1 xs=ak/\i<ρ.length then .ok (.nx (ρ.set i<|aa v) (i::os.filter (· != i))) s else .no
   |_=>.no
  else .ok (.nx (ρ.set i<|aa v) (os.filter (· != i))) s
 |.asg t e,ρ,os,s=>(pvA C e ρ os s).bind λv s=>if(t.any os.contains)=ak then .no else(po (Zp t v ρ) s).bind λρ s=>.ok (.nx ρ os) s
 |.ret e,ρ,os,s=>(pv C e ρ s).bind λv s=>.ok (.ret v) s
 |.ex (.mt .append (.v i) [e]),ρ,os,s=>if os.contains i then(po (wB ρ[i]?) s).bind λxs s=>(pv C e ρ s).bind λv s=>if v.flat=ak/\xs.length<lim then .ok (.nx (ρ.set i<|aa<|.lst<|xs++[v]) os) s else .no else .no
 |.ex (.mt .extend (.v i) [e]),ρ,os,s=>if os.contains i then(po (wB ρ[i]?) s).bind λxs s=>(pv C e (hide os ρ) s).bind λv s=>match v with
   |.lst ys=>if Z1 ys=ak/\xs.length+ys.length<=lim then .ok (.nx (ρ.set i<|aa<|.lst<|xs++ys) os) s else .no
   |_=>.no
  else .no
 |.ex e,ρ,os,s=>(pv C e ρ s).bind λ_ s=>.ok (.nx ρ os) s
 |.ite t a b,ρ,os,s=>(Xj C t ρ s).bind λc s=>if c then rvs C ms a ρ os s else rvs C ms b ρ os s
 |.forr t it b,ρ,os,s=>(pvw C it (hide os ρ) s).bind λw s=>YJ (λx ρ os s=>if(t.any os.contains)=ak then .no else if(os.isEmpty||x.flat)=ak then(po (Zp t x ρ) s).bind λρ s=>rvs C ms b ρ os s else .no) w ρ os s
 |.raise c as,ρ,os,s=>(pvs C as ρ s).bind λ_ s=>.ex c s
 |.mov i j,ρ,os,s=>if(os.contains j&&(!os.contains i&&af (i≠j)))=ak then(po (wB ρ[j]?) s).bind λxs s=>.ok (.nx ((ρ.set i<|aa<|.lst xs).set j ae) (os.filter (· != j))) s else .no
 |.dset i e,ρ,os,s=>(pv C e ρ s).bind λv s=>match v with
  |.int x=>if okS x s.2=ak then match(ρ[i]?).join with
   |some .drw=>.ok (.nx ρ os) (x,s.2)
   |_=>.no
   else .no
  |_=>.no
 |.cel i f as b,ρ,os,s=>if os.isEmpty=ak then(pvs C as ρ s).bind λxs s=>(C f xs s).bind λv s=>(po (U0 v) s).bind λd s=>match rvs C ms b ((Vp i ρ).set i<|aa .drw) [] d with
  |.ok (.nx ρ _) _=>.ok (.nx (ρ.map Ju) []) s
  |.ok (.ret v) _=>if v.flat=ak then .ok (.ret v) s else .no
  |_=>.no
  else .no
noncomputable def rvs(C:ZA)(ms:List Nat):List Sm->Env->List Nat->DS->PR FlV
 |[],ρ,os,s=>.ok (.nx ρ os) s
 |m::ss,ρ,os,s=>(rv C ms m ρ os s).bind λf s=>match f with
  |.nx ρ os=>rvs C ms ss ρ os s
  |f=>.ok f s
end
mutual
noncomputable def vj:Sm->List Nat
 |.ex (.mt .append (.v i) _)=>[i]
 |.ex (.mt .extend (.v i) _)=>[i]
 |.ite _ a b=>muts a++muts b
 |.forr _ _ b=>muts b
 |.cel _ _ _ b=>muts b
 |_=>[]
noncomputable def muts:List Sm->List Nat
 |[]=>[]
 |m::ss=>vj m++muts ss
end
noncomputable def ZJ(n:Nat)(xs:List V):Env:=xs.map aa++aP (n-xs.length) ae
noncomputable def We(s:DS)(m:Int):Int×DS:=
 if s.2 then(s.1%m,(s.1 / m,ak))else
  let x:=(s.1*48271+29)%2147483647
  let y:=(x*x+39373*x+7)%2147483629
  let z:=(y*y+16807*y)%2147483587
  (z / 8%m,(x,ai))
noncomputable def Zdp(vs:List V)(s:DS):PR V:=match vs with
 |[.drw,.int m]=>if 0<m/\m<1073741824 then .ok (.int (We s m).1) (We s m).2 else .no
 |_=>.no
noncomputable def Zm(F:List Fn)(tk:Nat):Nat->ZA
 |0,_,_,_=>.no
 |d+1,f,xs,s=>if f=tk then Zdp xs s else match F[f]? with
  |some fn=>if xs.length=fn.ps then(rvs (Zm F tk d) (muts fn.body) fn.body (ZJ fn.ns xs) [] s).bind λf s=>match f with
    |.ret v=>.ok v s
    |.nx _ _=>.ok .non s
   else .no
  |none=>.no
end Pv
namespace Sd
open PySem PySem.Spec PyProof.Rows L2
open Ev (E Sm Fn Bop Cop Ty Bf Mf)
noncomputable abbrev D:=Pv.V
noncomputable abbrev Zv:=Pv.DS
noncomputable abbrev Lc:=Pv.Env
noncomputable abbrev R:=Pv.PR
noncomputable abbrev Calls:=Pv.ZA
structure Mx where
 K:al
 n0:Option aC
 X:aC->Prop
 xz:∀a,n0=aa a->X a
def Scr(K:al)(H:Hp)(a:aC)(ns:List Int):Prop:=
 (∃o,H a=aa (.frz o<|.lst<|ns.map V.int))\/
  ∃(o:fD)(its:Array aq)(n:Nat),K.lookup a=aa o/\o.cls=.type "list"/\o.dict=ae/\o.data=.seq its n/\its.size<=bo/\Vals (ns.map V.int) its.toList
def Scr.sq{K:al}{H:Hp}{a:aC}{ns:List Int}(h:Scr K H a ns):SqL K H a (ns.map V.int):=by
 rcases h with⟨o,h⟩|h
 .exact .inl<|.inr #[o,h]
 .exact .inr h
def Dct(H:Hp)(a:aC):Option (List<|List Int)->Prop
 |none=>(∃vs,H a=aa (.dT vs))\/∃vs,H a=aa (.dK vs)
 |some ks=>∃o vs,H a=aa (.frz o<|.dT vs)/\vs.map (·.1)=ks.map (·.map fv)
mutual
def Rep(ρ:Mx)(H:Hp):D->V->Prop
 |.non,v=>v=.non
 |.bl b,v=>v=.bl b
 |.int i,v=>v=.int i
 |.str x,v=>v=.str x
 |.tup ds,v=>∃a xs,v=.ref a/\H a=aa (.tup xs)/\Rq ρ H ds xs
 |.lst ds,v=>∃a xs,v=.ref a/\H a=aa (.lst xs)/\¬ρ.X a/\Rq ρ H ds xs
 |.drw,v=>∃a,v=.ref a/\ρ.n0=aa a
 |.dct o,v=>∃a,v=.ref a/\Dct H a o
 |.scr ns,v=>∃a,v=.ref a/\Scr ρ.K H a ns
def Rq(ρ:Mx)(H:Hp):List D->List V->Prop
 |[],xs=>xs=[]
 |d::ds,xs=>∃v vs,xs=v::vs/\Rep ρ H d v/\Rq ρ H ds vs
end
structure Fut(ρ:Mx)(H:Hp)(ρ':Mx)(H':Hp):Prop where
 eq:ρ'=ρ
 keep:∀a o,H a=aa o->H' a=aa o\/(ρ.n0=aa a/\∃xs,o=.lst xs)\/((∃ps,o=.tbl ps)/\∃ps,H' a=aa (.tbl ps))
def Fut.refl(ρ:Mx)(H:Hp):Fut ρ H ρ H:=#[rfl,λ_ _ h=>.inl h]
def Fut.trans{ρ ρ1 ρ2:Mx}{H H1 H2:Hp}(a:Fut ρ H ρ1 H1)(b:Fut ρ1 H1 ρ2 H2):Fut ρ H ρ2 H2:=by
 obtain⟨rfl,f⟩:=a;obtain⟨rfl,g⟩:=b;refine#[rfl,λa o h=>(f a o h).elim (λh=>g a o h) λz=>z.elim (λz=>.inr<|.inl z) λ#[e,ps,h]=>?_]
 rcases g a _ h with q|⟨_,xs,q⟩|⟨_,q⟩
 .exact .inr<|.inr #[e,ps,q]
 .cases q
 .exact .inr<|.inr #[e,q]
def Fut.there(f:Fut ρ H ρ' H')(n:ρ.n0≠.some a)(h:H a≠ae):H' a≠ae:=by
 obtain⟨o,e⟩:=kt.mp h;rcases f.keep a o e with q|q|⟨_,_,q⟩
 .rw[q];intro z;cases z
 .exact T7 q.1 n
 .rw[q];intro z;cases z
def Fut.new(f:Fut ρ H ρ' H')(h:H' a=ae)(xd:∀a,ρ.X a->H' a≠ae):H a=ae:=by
 cases q:H a with
 |none=>rfl
 |some o=>
  rcases f.keep a o q with e|e|⟨_,_,e⟩
  .rw[h]at e;cases e
  .exact T7 h<|xd a<|ρ.xz a e.1
  .rw[h]at e;cases e
structure Lat(ρ:Mx)(H:Hp)(ρ':Mx)(H':Hp):Prop where
 K:ρ'.K=ρ.K
 n0:ρ'.n0=ρ.n0
 keep':∀a o,H a=aa o->(∀xs,o=.lst xs->¬ρ.X a)->(∀ps,o≠.tbl ps)->H' a=aa o
 X:∀a,H a≠ae->ρ'.X a->ρ.X a
def Lat.keep(f:Lat ρ H ρ' H')(a:aC)(o:HO)(h:H a=aa o)(x:∀xs,o=.lst xs->¬ρ.X a)(n:∀ps,o≠.tbl ps:=by intro _ z;cases z):H' a=aa o:=f.keep' a o h x n
mutual
theorem Rep.lat(f:Lat ρ H ρ' H'):∀{d:D}{v:V},Rep ρ H d v->Rep ρ' H' d v
 |.non,_,h|.bl _,_,h|.int _,_,h|.str _,_,h=>by exact h
 |.tup ds,v,h=>by
  obtain⟨a,xs,e,t,r⟩:=h;exact#[a,xs,e,f.keep a _ t (λ_ z=>by cases z),r.lat f]
 |.lst ds,v,h=>by
  obtain⟨a,xs,e,t,x,r⟩:=h;exact#[a,xs,e,f.keep a _ t λ_ _=>x,λz=>x (f.X a (by rw[t];intro z;cases z) z),r.lat f]
 |.drw,v,h=>by unfold Rep at h ⊢;rw[f.n0];exact h
 |.dct o,v,h=>by
  obtain⟨a,e,t⟩:=h;refine#[a,e,?_];cases o with
  |none=>
   rcases t with⟨vs,t⟩|⟨vs,t⟩
   .exact .inl #[vs,f.keep a _ t λ_ z=>by cases z]
   .exact .inr #[vs,f.keep a _ t λ_ z=>by cases z]
  |some ks=>obtain⟨o,vs,t,q⟩:=t;exact#[o,vs,f.keep a _ t (λ_ z=>by cases z),q]
 |.scr ns,v,h=>by
  unfold Rep at h ⊢;obtain⟨a,e,t⟩:=h;rw[f.K];refine#[a,e,?_];rcases t with⟨o,t⟩|t
  .exact .inl #[o,f.keep a _ t λ_ z=>by cases z]
  .exact .inr t
theorem Rq.lat(f:Lat ρ H ρ' H'):∀{ds:List D}{xs:List V},Rq ρ H ds xs->Rq ρ' H' ds xs
 |[],_,h=>by exact h
 |d::ds,xs,h=>by
  obtain⟨v,vs,e,r,rs⟩:=h;exact#[v,vs,e,r.lat f,rs.lat f]
end
noncomputable def YY:bi:="law.<locals>.<lambda>"
def Tb(H:Hp):Prop:=∀(P:aC)(ps:Array aq),H P=aa (.tbl ps)->ou ps.toList/\∀(pos:fO)(cv:aq),ki pos ps.toList=aa cv->
 ∃(c:aC)(oc:fD)(vs:Array aq)(t:pU),cv=.ref c/\H c=aa (.frz oc<|.own c)/\oc.data=.fields vs/\vs[1]?=aa (.str YY t)
theorem Tb.upd(h:Tb H)(hp:∀ob u,H p≠aa (.frz ob u))(ho:∀ps,o≠.tbl ps):Tb (upd H p o):=λP ps e=>by
 by_cases z:P=p
 .subst z;rw[Zl]at e;cases e;exact T7 rfl<|ho ps
 .rw[Zj z]at e
  obtain⟨a,b⟩:=h P ps e;refine#[a,λpos cv q=>?_]
  obtain⟨c,oc,vs,t,e1,e2,e3⟩:=b pos cv q;exact#[c,oc,vs,t,e1,by rw[Zj λz=>hp oc (.own c)<|by rw[<-z];exact e2];exact e2,e3]
structure St3(K:al)(ρ:Mx)(S:Zv)(H:Hp):Prop where
 hk:ρ.K=K
 xd:∀a,ρ.X a->H a≠ae
 dw:∀a,ρ.n0=aa a->H a=aa (.lst [.int S.1,.bl S.2])/\Pv.okS S.1 S.2=ak
 tb:Tb H
def Fut.lat(f:Fut ρ H ρ' H'):Lat ρ H ρ' H':=by
 obtain⟨rfl,f⟩:=f;exact#[rfl,rfl,λa o h x n=>(f a o h).elim id λz=>z.elim (λz=>T7 (ρ'.xz a z.1) (let #[xs,e]:=z.2;x xs e))<|by rintro ⟨⟨ps,e⟩,_⟩;exact T7 e<|n ps,λ_ _ h=>h]
def Rep.mono(f:Fut ρ H ρ' H')(h:Rep ρ H d v):Rep ρ' H' d v:=h.lat f.lat
def Rq.mono(f:Fut ρ H ρ' H')(h:Rq ρ H d v):Rq ρ' H' d v:=h.lat f.lat
section
variable{ρ:Mx}{H:Hp}{v:V}
def Rq.nil:Rq ρ H [] []:=by rfl
def Rq.cons{d:D}{v:V}{ds:List D}{vs:List V}(r:Rep ρ H d v)(rs:Rq ρ H ds vs):Rq ρ H (d::ds) (v::vs):=by
 exact#[v,vs,rfl,r,rs]
theorem Rq.length:∀{ds:List D}{xs:List V},Rq ρ H ds xs->xs.length=ds.length
 |[],_,h=>by rw[h];rfl
 |d::ds,xs,h=>by
  obtain⟨v,vs,rfl,_,rs⟩:=h;rw[aJ,aJ,Rq.length rs]
theorem Rq.append:∀{ds es:List D}{xs ys:List V},Rq ρ H ds xs->Rq ρ H es ys->Rq ρ H (ds++es) (xs++ys)
 |[],_,_,_,h,r=>by rw[h];exact r
 |d::ds,_,_,_,h,r=>by
  obtain⟨v,vs,rfl,a,rs⟩:=h;exact Rq.cons a<|Rq.append rs r
theorem Rq.take:∀{ds:List D}{xs:List V}(k:Nat),Rq ρ H ds xs->Rq ρ H (ds.take k) (xs.take k)
 |_,_,0,_=>Rq.nil
 |[],_,k+1,h=>by rw[h];exact Rq.nil
 |d::ds,_,k+1,h=>by
  obtain⟨v,vs,rfl,a,rs⟩:=h;exact Rq.cons a<|Rq.take k rs
theorem Rq.drop:∀{ds:List D}{xs:List V}(k:Nat),Rq ρ H ds xs->Rq ρ H (ds.drop k) (xs.drop k)
 |_,_,0,h=>h
 |[],_,k+1,h=>by rw[h];exact Rq.nil
 |d::ds,_,k+1,h=>by
  obtain⟨v,vs,rfl,a,rs⟩:=h;exact Rq.drop k rs
theorem Rq.get:∀{ds:List D}{xs:List V}{i:Nat}{d:D},Rq ρ H ds xs->ds[i]?=aa d->∃v,xs[i]?=aa v/\Rep ρ H d v
 |[],_,_,_,_,e=>by simp at e
 |d::ds,_,0,_,h,e=>by
  obtain⟨v,vs,rfl,a,rs⟩:=h;simp at e;subst e;exact#[v,rfl,a]
 |d::ds,_,i+1,_,h,e=>by
  obtain⟨v,vs,rfl,a,rs⟩:=h;obtain⟨u,q,r⟩:=Rq.get rs (by simpa using e)
  exact#[u,by simpa using q,r]
theorem Rq.reverse:∀{ds:List D}{xs:List V},Rq ρ H ds xs->Rq ρ H ds.reverse xs.reverse
 |[],_,h=>by rw[h];exact Rq.nil
 |d::ds,_,h=>by
  obtain⟨v,vs,rfl,a,rs⟩:=h;rw[eT,eT];exact Rq.append (Rq.reverse rs)<|Rq.cons a Rq.nil
theorem Rq.rep(h:Rq ρ H ds xs):∀k:Nat,Rq ρ H (aP k ds).flatten (aP k xs).flatten
 |0=>Rq.nil
 |k+1=>by
  rw[cF,cF,dD,dD];exact Rq.append h<|Rq.rep h k
theorem Rq.ints:∀ns:List Int,Rq ρ H (ns.map Pv.V.int) (ns.map V.int)
 |[]=>Rq.nil
 |n::ns=>Rq.cons (by rfl)<|Rq.ints ns
def Rep.int'{i:Int}(h:Rep ρ H (.int i) v):v=.int i:=by exact h
def Rep.bl'{b:Bool}(h:Rep ρ H (.bl b) v):v=.bl b:=by exact h
def Rep.non'(h:Rep ρ H .non v):v=.non:=by exact h
def Rep.str'{x:bi}(h:Rep ρ H (.str x) v):v=.str x:=by exact h
def Rep.tup'{ds:List D}(h:Rep ρ H (.tup ds) v):∃a xs,v=.ref a/\H a=aa (.tup xs)/\Rq ρ H ds xs:=by exact h
def Rep.lst'{ds:List D}(h:Rep ρ H (.lst ds) v):∃a xs,v=.ref a/\H a=aa (.lst xs)/\¬ρ.X a/\Rq ρ H ds xs:=by exact h
def Rep.drw'(h:Rep ρ H .drw v):∃a,v=.ref a/\ρ.n0=aa a:=by exact h
def Rep.dct'(h:Rep ρ H (.dct o) v):∃a,v=.ref a/\Dct H a o:=by exact h
def Rep.scr'(h:Rep ρ H (.scr ns) v):∃a,v=.ref a/\Scr ρ.K H a ns:=by exact h
def ZO(i:Int):Rep ρ H (.int i) (.int i):=by rfl
def Yg(b:Bool):Rep ρ H (.bl b) (.bl b):=by rfl
def Ut:Rep ρ H .non .non:=by rfl
def wD(x:bi):Rep ρ H (.str x) (.str x):=by rfl
def XS(h:H a=aa (.tup xs))(r:Rq ρ H ds xs):Rep ρ H (.tup ds) (.ref a):=by exact#[a,xs,rfl,h,r]
def Wl(h:H a=aa (.lst xs))(x:¬ρ.X a)(r:Rq ρ H ds xs):Rep ρ H (.lst ds) (.ref a):=by exact#[a,xs,rfl,h,x,r]
def Rep.seq(h:Rep ρ H x v)(e:Pv.YK x=aa ds):∃p xs,v=.ref p/\(SqL ρ.K H p xs\/SqT ρ.K H p xs)/\Rq ρ H ds xs:=by
 cases x with|tup es=>cases e;obtain⟨p,xs,rfl,h,r⟩:=h.tup';exact#[p,xs,rfl,.inr<|SqT.of h,r]|lst es=>cases e;obtain⟨p,xs,rfl,h,_,r⟩:=h.lst';exact#[p,xs,rfl,.inl<|SqL.of h,r]|scr ns=>cases e;obtain⟨p,e,q⟩:=h.scr';exact#[p,_,e,.inl q.sq,Rq.ints ns]|_=>cases e
end
structure LocR(ρ:Mx)(H:Hp)(l:Lc)(σ:L2.St):Prop where
 len:l.length=σ.length
 val:∀(i:Nat)(d:D),l[i]?=aa (aa d)->∃v,σ[i]?=aa (aa v)/\Rep ρ H d v
theorem LocR.mono(f:Fut ρ H ρ' H')(r:LocR ρ H l σ):LocR ρ' H' l σ:=
 #[r.len,λi d e=>let #[v,q,h]:=r.val i d e;#[v,q,h.mono f]]
theorem LocR.set(r:LocR ρ H l σ)(i:Nat)(h:Rep ρ H d v):LocR ρ H (l.set i<|aa d) (σ.set i<|aa v):=
 #[by rw[bz,bz];exact r.len,λj e q=>by
  rw[nL]at q ⊢;split at q
  .rename_i hij
   subst hij;split at q
   .rename_i hl
    cases q;rw[T9 rfl,T9<|by rw[<-r.len];exact hl]
    exact#[v,rfl,h]
   .cases q
  .rename_i hij
   rw[T8 hij];exact r.val j e q]
def End{α β:Type}(K:al)(xw:Nat->Hp->Prop)(rep:Mx->Hp->α->β->Prop)(ρ:Mx)(H:Hp)(Q:β->Hp->Prop):R α->Prop
 |.ok d S=>∀ρ' H' v,Fut ρ H ρ' H'->St3 K ρ' S H'->rep ρ' H' d v->Q v H'
 |.ex c S=>∀ρ' H',Fut ρ H ρ' H'->St3 K ρ' S H'->xw c H'
 |.no=>False
section
variable{K:al}{xw:Nat->Hp->Prop}{ρ ρ':Mx}{H H':Hp}{α β α' β':Type}{rep:Mx->Hp->α->β->Prop}{rep':Mx->Hp->α'->β'->Prop}
def End.mono{Q:β->Hp->Prop}(f:Fut ρ H ρ' H')(h:End K xw rep ρ H Q r):End K xw rep ρ' H' Q r:=by
 cases r with|ok d S=>exact λρ2 H2 v g st r=>h ρ2 H2 v (f.trans g) st r|ex c S=>exact λρ2 H2 g st=>h ρ2 H2 (f.trans g) st|no=>exact h
theorem End.bind{Q:β'->Hp->Prop}{Q1:β->Hp->Prop}(h:End K xw rep' ρ H Q (r.bind f))
  (k:∀d S ρ1 H1 v,Fut ρ H ρ1 H1->St3 K ρ1 S H1->rep ρ1 H1 d v->End K xw rep' ρ1 H1 Q (f d S)->Q1 v H1):End K xw rep ρ H Q1 r:=by
 cases r with|ok d S=>exact λρ1 H1 v g st r=>k d S ρ1 H1 v g st r<|End.mono g h|ex c S=>exact h|no=>exact h
theorem End.ok{Q:β->Hp->Prop}(h:End K xw rep ρ H Q (.ok a S))(st:St3 K ρ S H)(r:rep ρ H a v):Q v H:=h ρ H v (Fut.refl ρ H) st r
def End.ob{Q:β'->Hp->Prop}(h:End K xw rep' ρ H Q ((Pv.po o S).bind f)):∃a,o=aa a/\End K xw rep' ρ H Q (f a S):=by
 cases o with|none=>exact h.elim|some a=>exact#[a,rfl,h]
theorem End.po{Q:β->Hp->Prop}(h:End K xw rep ρ H Q (Pv.po o S)):∃a,o=aa a/\End K xw rep ρ H Q (.ok a S):=by
 cases o with|none=>exact h.elim|some a=>exact#[a,rfl,h]
theorem End.map{Q:β->Hp->Prop}(h:End K xw rep ρ H Q (Pv.po (o.map f) S)):∃a,o=aa a/\End K xw rep ρ H Q (.ok (f a) S):=by
 cases o with|none=>exact h.elim|some a=>exact#[a,rfl,h]
def End.ite{c:Prop}[Decidable c]{Q:β->Hp->Prop}(h:End K xw rep ρ H Q (if c then a else b)):(c/\End K xw rep ρ H Q a)\/(¬c/\End K xw rep ρ H Q b):=by
 split at h
 .exact .inl #[‹_›,h]
 .exact .inr #[‹_›,h]
def End.guard{c:Prop}[Decidable c]{Q:β->Hp->Prop}(h:End K xw rep ρ H Q (if c then a else .no)):c/\End K xw rep ρ H Q a:=by
 rcases h.ite with h|⟨_,h⟩
 .exact h
 .exact h.elim
end
abbrev nx:Nat->Hp->Prop:=λ_ _=>False
theorem End.nox{α β:Type}{K:al}{xw:Nat->Hp->Prop}{ρ:Mx}{H:Hp}{rep:Mx->Hp->α->β->Prop}{Q:β->Hp->Prop}{r:R α}(h:End K xw rep ρ H Q r.nox):End K nx rep ρ H Q r:=by
 cases r with|ok d S=>exact h|ex c S=>exact h.elim|no=>exact h
def VJ(_:Mx)(_:Hp)(a b:Bool):Prop:=a=b
def Zf5(_:Mx)(_:Hp)(a b:Option Int):Prop:=a=b
section
variable(X:Cx)(xw:Nat->Hp->Prop)
def tE(f:Lc->Zv->R D):TE:=λσ H Q=>∃ρ l S,St3 X.K ρ S H/\LocR ρ H l σ/\End X.K xw Rep ρ H Q (f l S)
def tA(f:Lc->Zv->R (List D)):TA:=λσ H Q=>∃ρ l S,St3 X.K ρ S H/\LocR ρ H l σ/\End X.K xw Rq ρ H Q (f l S)
def tB3(f:Lc->Zv->R Bool):TT:=λσ H Q=>∃ρ l S,St3 X.K ρ S H/\LocR ρ H l σ/\End X.K xw VJ ρ H Q (f l S)
def tO(f:Lc->Zv->R (Option Int)):TO:=λσ H Q=>∃ρ l S,St3 X.K ρ S H/\LocR ρ H l σ/\End X.K xw Zf5 ρ H Q (f l S)
variable(C:Calls)
def CE(e:Expr)(i:E):Prop:=PE X e<|tE X xw<|Pv.pv C i
def CT(e:Expr)(i:E):Prop:=PT X e<|tB3 X xw<|Pv.Xj C i
def CA(es:List Expr)(is:List E):Prop:=PA X es<|tA X xw<|Pv.pvs C is
def CO(e:Option Expr)(i:Option E):Prop:=PO X e<|tO X xw<|Pv.pvo C i
end
def PE.imp(h:PE X e t)(k:∀σ H Q,t' σ H Q->t σ H Q):PE X e t':=λpq s σ H Q I q=>h pq s σ H Q I<|k σ H Q q
def PT.imp(h:PT X e t)(k:∀σ H Q,t' σ H Q->t σ H Q):PT X e t':=λpq s σ H Q I q=>h pq s σ H Q I<|k σ H Q q
def PA.imp(h:PA X e t)(k:∀σ H Q,t' σ H Q->t σ H Q):PA X e t':=λpos pq s σ H Q I q=>h pos pq s σ H Q I<|k σ H Q q
def PO.imp(h:PO X e t)(k:∀σ H Q,t' σ H Q->t σ H Q):PO X e t':=λpq s σ H Q I q=>h pq s σ H Q I<|k σ H Q q
section
variable{K:al}{ρ ρ':Mx}{S:Zv}{H H':Hp}{a p:aC}
def Zu(hp:H p=ae):Fut ρ H ρ (upd H p o):=#[rfl,λb u h=>.inl<|by rw[Zj<|ZM h hp];exact h]
def St3.fresh(st:St3 K ρ S H)(hp:H p=ae)(ho:∀ps,o≠.tbl ps:=by intro _ z;cases z):St3 K ρ S (upd H p o):=
 have n:∀b,H b≠ae->b≠p:=λb h z=>h (by rw[z];exact hp)
 #[st.hk,λb h=>by rw[Zj<|n b<|st.xd b h];exact st.xd b h,λb h=>by
  have:=st.dw b h;rw[Zj<|n b<|by rw[this.1];intro z;cases z];exact this,st.tb.upd (λob u z=>by rw[hp]at z;cases z) ho]
def St3.nx(st:St3 K ρ S H)(hp:H p=ae):¬ρ.X p:=λz=>st.xd p z hp
end
def WM:Ev.lim=bo:=by rw[da];rfl
section
variable{K:al}{xw:Nat->Hp->Prop}{ρ:Mx}{H:Hp}{S:Zv}{Q:VK}
def End.newT(h:End K xw Rep ρ H Q (.ok (.tup ds) S))(st:St3 K ρ S H)(r:Rq ρ H ds xs):∀p,H p=ae->Q (.ref p) (upd H p<|.tup xs):=λp hp=>
 h ρ _ _ (Zu hp) (st.fresh hp) (XS Zl<|r.mono<|Zu hp)
def End.newL(h:End K xw Rep ρ H Q (.ok (.lst ds) S))(st:St3 K ρ S H)(r:Rq ρ H ds xs):∀p,H p=ae->Q (.ref p) (upd H p<|.lst xs):=λp hp=>
 h ρ _ _ (Zu hp) (st.fresh hp) (Wl Zl (st.nx hp)<|r.mono<|Zu hp)
end
section
variable{X:Cx}{xw:Nat->Hp->Prop}{C:Calls}{e a b c:Expr}{i j k:E}{pos:fO}
def xp{n:Int}{q}:CE X xw C (.Constant (.int n) q pos) (.c<|.int n):=PE.imp WG<|by rintro σ H Q ⟨ρ,l,S,st,lr,h⟩;exact End.ok h st<|ZO n
def qO{n:Bool}{q}:CE X xw C (.Constant (.bool n) q pos) (.c<|.bl n):=PE.imp qT<|by rintro σ H Q ⟨ρ,l,S,st,lr,h⟩;exact End.ok h st<|Yg n
def yC{q}:CE X xw C (.Constant .none q pos) (.c .non):=PE.imp yH<|by rintro σ H Q ⟨ρ,l,S,st,lr,h⟩;exact End.ok h st Ut
def yz{x:bi}{q}:CE X xw C (.Constant (.str x) q pos) (.c<|.str x):=PE.imp Gd<|by rintro σ H Q ⟨ρ,l,S,st,lr,h⟩;exact End.ok h st<|wD x
def Zec(n:Nat){x:bi}(hN:X.N[n]?=aa x:=by rfl)(hv:Vis X.env.scope x:=by first|exact fS rfl|exact ei<|fS rfl|exact ei<|ei rfl)(hd:(x == ("__debug__" : bi))=ai:=by decide)
  (hcd:(x == ("__classdict__" : bi))=ai:=by decide):CE X xw C (.Name x pos) (.v n):=PE.imp (Yk hN hv hd hcd)<|by
 rintro σ H Q ⟨ρ,l,S,st,lr,h⟩;rw[Pv.pv]at h;cases q:l[n]? with
 |none=>rw[q]at h;exact h.elim
 |some o=>
  cases o with
  |none=>rw[q]at h;exact h.elim
  |some d=>
   rw[q]at h;obtain⟨v,q2,r⟩:=lr.val n d q;exact#[v,q2,End.ok h st r]
def xt:CA X xw C [] []:=PA.imp Yf<|by
 rintro σ H Q ⟨ρ,l,S,st,lr,h⟩;rw[Pv.pvs]at h;exact End.ok h st Rq.nil
def Gc{es:List Expr}{is:List E}(ha:CE X xw C e i)(hr:CA X xw C es is)(hs:az (e::es) X.env=(ai,bY e X.env)::az es X.env:=by rfl):CA X xw C (e::es) (i::is):=
 PA.imp (Zw ha hr hs)<|by
  rintro σ H Q ⟨ρ,l,S,st,lr,h⟩;rw[Pv.pvs]at h;exact#[ρ,l,S,st,lr,h.bind λx S1 ρ1 H1 v f1 st1 r1 h1=>#[ρ1,l,S1,st1,lr.mono f1,h1.bind λxs S2 ρ2 H2 vs f2 st2 r2 h2=>h2.ok st2<|Rq.cons (r1.mono f2) r2]]
def yZ{es:List Expr}{is:List E}{q}(h:CA X xw C es is):CE X xw C (.Tuple es q pos) (.tup is):=PE.imp (jw h)<|by
 rintro σ H Q ⟨ρ,l,S,st,lr,h⟩;rw[Pv.pv]at h;refine#[ρ,l,S,st,lr,h.bind λxs S1 ρ1 H1 vs f1 st1 r1 h1=>?_]
 obtain⟨hl,h1⟩:=h1.guard;exact#[by rw[r1.length,<-WM];exact hl,h1.newT st1 r1]
def X6{r:R2}{g:D->D->Zv->R D}(hg:∀{ρ H S x y v u Q},St3 X.K ρ S H->Rep ρ H x v->Rep ρ H y u->End X.K xw Rep ρ H Q (g x y S)->r v u H Q) :
  ∀σ H Q,tE X xw (λl S=>(Pv.pv C i l S).bind λx S=>(Pv.pv C j l S).bind λy S=>g x y S) σ H Q->tOp r (tE X xw<|Pv.pv C i) (tE X xw<|Pv.pv C j) σ H Q:=λσ H Q #[ρ,l,S,st,lr,h]=>
 #[ρ,l,S,st,lr,h.bind λx S1 ρ1 H1 v f1 st1 r1 h1=>#[ρ1,l,S1,st1,lr.mono f1,h1.bind λy S2 ρ2 H2 u f2 st2 r2 h2=>hg st2 (r1.mono f2) r2 h2]]
end
def ji(K:al):R2:=λx y H Q=>∃a b ys,x=.ref a/\y=.ref b/\SqT K H a []/\SqT K H b ys/\Q (.ref b) H
def qp:OpR X (eR .Add) (ji X.K):=by
 intro pq s σ H x y v u Q I rx ry h;obtain⟨a,b,ys,rfl,rfl,ha,hb,q⟩:=h;cases rx;cases ry;obtain⟨its,r1,p1,_⟩:=I.tuple ha;obtain⟨its2,r2,p2,_⟩:=I.tuple hb;have e0:=r1.nil_iff.mpr rfl;obtain⟨⟨cls,dd,data,sl⟩,ho,hc,n,hd⟩:=id p1;obtain⟨⟨cls2,dd2,data2,sl2⟩,ho2,hc2,n2,hd2⟩:=id p2;simp only at hc hd hc2 hd2;subst hc hd hc2 hd2;exact nG #[_,ho,rfl] #[_,ho2,rfl] lg mP gT gJ (gq _ _)
   (tuple_addW0 a b its.toArray its2.toArray n n2 dd dd2 sl sl2<|by rw[e0];rfl) #[ho,ho2,#[.ref b,H,I,rfl,q]]
def ZfM(K:al):V->Option Int->Option Int->Hp->VK->Prop:=λx lo hi H Q=>∃a xs,x=.ref a/\SqT K H a xs/\
 (HT.sIx xs.length 0 lo=0/\HT.sIx xs.length xs.length hi=xs.length)/\Q (.ref a) H
def Wq{prog:bH}{w:bV}{A:cC}{E:aq->aA->Prop}{s:aA}{t sl:aC}{items:Array aq}{vl vu:aq}{lo hi:Option Int}{Q:aq->aA->Prop}(ht:rh s.heap t items)(hs:s.heap.IsSliceOf sl vl vu .none)(pl:kn vl lo)(pu:kn vu hi)
  (hw:HT.sIx items.size 0 lo=0/\HT.sIx items.size items.size hi=items.size)(h:Q (.ref t) s):bn (aV prog w) A (kN (.ref t)<|.ref sl) Q E s:=by
 obtain⟨os,hos,hcs,hds⟩:=id hs;have hTs:s.TypeIs (.ref sl) "slice":=#[os,hos,hcs];unfold kN
 try with_reducible refine cU ?_
 first|refine aj<|aF ?_|skip
 refine aj<|kO ht.typeIs (by decide) ?_
 refine aj (c6 ht.typeIs cB
  (dA cB ht.typeIs iV ?_<|kr _ _))
 show bn _ _ (fQ (.ref t) >>= _) _ _ s;refine aj<|mQ ht ?_;refine aj<|i8 hTs ?_;rw[T9<|by decide]
 refine aj<|HT.XI hs pl pu ?_;have hyes:((((HT.sIx items.size 0 lo:Nat):Int) == 0&&(1:Int) == 1&&(HT.sIx items.size items.size hi-HT.sIx items.size 0 lo) == items.size)=ak):=by
  rw[hw.1,hw.2];simp
 show bn _ _ (if(((HT.sIx items.size 0 lo:Nat):Int) == 0&&(1:Int) == 1&&(HT.sIx items.size items.size hi-HT.sIx items.size 0 lo) == items.size)=ak then _ else _) _ _ s
 rw[T9 hyes];refine aj<|aj<|i8 ht.typeIs<|aF ?_;rw[T9<|by decide]
 exact aj<|fe<|aF #[_,rfl,aF h]
def qM:SlR X (ZfM X.K):=by
 intro pq s σ H x v vl vu lo hi sl Q I rx hs pl pu h;obtain⟨a,xs,rfl,hx,hw,q⟩:=h;cases rx;obtain⟨its,r,ht,hz⟩:=I.tuple hx;have hlen:its.toArray.size=xs.length:=by rw[aK];exact r.length.symm
 refine#["tuple",_,cB.lookup,ht.typeIs,?_];exact Wq ht hs pl pu (by rw[hlen];exact hw) #[.ref a,H,I,rfl,q]
def wW(h:Ev.fits i=ak):mI i<=2^20:=by
 have h1:=T6 h;unfold mI;split
 .exact dQ _
 .rename_i hz
  have hne:i.natAbs≠0:=by intro z;exact hz (by simp[Int.natAbs_eq_zero.mp z])
  have:=(oQ hne).mpr h1;have e:(2:Nat)^20=1048576:=by decide
  omega
def jJ:OpR X (eR .FloorDiv) (rI (λ_ j=>0<j/\j<Ev.big) λi j=>.int<|i / j):=opI λi j _ _ _ _ _ hc q=>by
 have h1:=hc.1;have h2:=hc.2;have hne:j.natAbs≠0:=by omega
 have h3:j.natAbs<2^8000:=by
  have e:(j.natAbs:Int)=j:=Int.natAbs_of_nonneg (by omega)
  have h4:(j.natAbs:Int)<((2^8000:Nat):Int):=by rw[e,Int.natCast_pow];exact h2
  exact Int.ofNat_lt.mp h4
 have h5:=(oQ hne).mpr h3;exact floordiv_int (by omega) (by rw[Int.fdiv_eq_ediv_of_nonneg i<|by omega];exact q)<|.inl<|PyProof.noPylong_of_log2<|by omega
def ZbK:OpR X (eR .Mult) (rI (λi j=>Ev.fits i=ak/\Ev.fits j=ak) λi j=>.int<|i*j):=opI λ_ _ _ _ _ _ _ hc q=>mul_int q<|IntMulOk.of_bits (wW hc.1)<|wW hc.2
def QL:fillsNumberSlot (.type "tuple") "mul" = cD ai:=
 PySem.fillsNumberSlot_seq lj.lookup (by decide +kernel) F.slot_tuple_rmul.lookup (by decide +kernel)
def GO:seqRepeat? (.type "tuple")=cD (aa<|.builtin "tuple.__mul__"):=by
 unfold seqRepeat?
 rw[ow (name:="__mul__") lj.lookup (by decide +kernel),ow (name:="__rmul__") F.slot_tuple_rmul.lookup<|by decide +kernel]
 rfl
def QA(a:Int)(t:pU)(l:aC)(items:Array aq)(n:Nat)(dd:Option aC)(sl:Array (Option aq)) :
  pC (fg.«int.__rmul__» #[[.int a t,.ref l],[]]) (λ_ R s=>s.heap.get? l=aa {cls:=.type "tuple",dict:=dd,data:=.seq items n,slots:=sl}/\R (.ok<|.ret aq.notImplemented) s):=
 .of_wp λprog w A R s h=>by obtain⟨hp,g,d,tk,os⟩:=s;obtain⟨hl,h⟩:=h;wp_walk;exact#[_,rfl,h]
def JT(l:aC)(items:Array aq)(n:Nat)(dd:Option aC)(sl:Array (Option aq))(x:Int)(u:pU)(h0:¬(x < -(2^63)||x>=2^63)=ak)(hc:(items.isEmpty||x == 1)=ak) :
  pC (fg.«tuple.__mul__» #[[.ref l,.int x u],[]]) (λ_ R s=>s.heap.get? l=aa {cls:=.type "tuple",dict:=dd,data:=.seq items n,slots:=sl}/\R (.ok<|.ret<|dJ l) {s with heap:=s.heap,toks:=s.toks}):=
 .of_wp λprog w A R s h=>by obtain⟨hp,g,d,tk,os⟩:=s;obtain⟨hl,h⟩:=h;have f1:=lh;have f2:=dP;wp_walk;rw[T8 h0];wp_walk using dM hl;exact#[_,rfl,h]
def Gh(l:aC)(items:Array aq)(n:Nat)(dd:Option aC)(sl:Array (Option aq))(x:Int)(u:pU)(h0:¬(x < -(2^63)||x>=2^63)=ak)(hc:¬(items.isEmpty||x == 1)=ak)(h1:(x<=0||items.isEmpty)=ak) :
  pC (fg.«tuple.__mul__» #[[.ref l,.int x u],[]]) (λ_ R s=>s.heap.get? l=aa {cls:=.type "tuple",dict:=dd,data:=.seq items n,slots:=sl}/\R (.ok<|.ret<|dJ s.heap.objs.size) {s with heap:=s.heap.push {cls:=.type "tuple",data:=.seq #[]},toks:=s.toks}):=
 .of_wp λprog w A R s h=>by obtain⟨hp,g,d,tk,os⟩:=s;obtain⟨hl,h⟩:=h;have f1:=lh;have f2:=dP;wp_walk;rw[T8 h0];wp_walk using dM hl;exact#[_,rfl,h]
def GS(l:aC)(items:Array aq)(n:Nat)(dd:Option aC)(sl:Array (Option aq))(x:Int)(u:pU)(h0:¬(x < -(2^63)||x>=2^63)=ak)(hc:¬(items.isEmpty||x == 1)=ak)(h1:¬(x<=0||items.isEmpty)=ak)
  (h2:¬(items.size*x>(2^63-1) / 8))(h3:¬ku (items.size*x)=ak)(hsz:((aP x.toNat items).foldl (·++·) #[]).size<=bo) :
  pC (fg.«tuple.__mul__» #[[.ref l,.int x u],[]]) (λ_ R s=>s.heap.get? l=aa {cls:=.type "tuple",dict:=dd,data:=.seq items n,slots:=sl}/\R (.ok<|.ret<|dJ s.heap.objs.size) {s with heap:=s.heap.push {cls:=.type "tuple",data:=.seq ((aP x.toNat items).foldl (·++·) #[])},toks:=s.toks}):=
 .of_wp λprog w A R s h=>by obtain⟨hp,g,d,tk,os⟩:=s;obtain⟨hl,h⟩:=h;have f1:=lh;have f2:=dP;wp_walk;rw[T8 h0];wp_walk using dM hl;rw[T8 h2];wp_walk using dM hl;exact#[_,rfl,h]
def Zdl(K:al):R2:=λx y H Q=>∃a k xs,x=.ref a/\y=.int k/\SqT K H a xs/\(0<=k/\k<1000/\xs.length<=1000)/\
 ((xs=[]\/k=1)->Q (.ref a) H)/\(¬(xs=[]\/k=1)->∀p,H p=ae->Q (.ref p) (upd H p<|.tup (aP k.toNat xs).flatten))
def ZbR :OpR X (eR .Mult) (Zdl X.K):=by
 intro pq s σ H x y v u Q I rx ry h;obtain⟨a,k,xs,rfl,rfl,hx,⟨k0,k1,hz⟩,q1,q2⟩:=h;cases rx;obtain⟨t,rfl⟩:=ry;obtain⟨its,r,pt,_⟩:=I.tuple hx;have hl:=r.length;obtain⟨⟨cls,dd,data,sl⟩,ho,hc,n,hd⟩:=id pt;simp only at hc hd;subst hc hd;have h0:¬(af (k < -(2^63))||decide (k>=2^63))=ak:=by
  rw[T4 (by lia),T4<|by lia];exact aN
 refine kJ (by decide) #[_,ho,rfl] (λs'=>lL s' k t) QL oW iO GO F.slot_int_index.lookup
  (fR iO (lL s k t) ox (nM _ _) (QA k t a its.toArray n dd sl) #[ho,rfl,#[_,ho,rfl],?_])
 have hnil:=r.nil_iff;by_cases c:xs=[]\/k=1
 .have c':(its.toArray.isEmpty||k == 1)=ak:=by
   rcases c with c|c
   .rw[hnil.mpr c];rfl
   .rw[c];simp
  exact fR lj #[_,ho,rfl] kP (kw _ _) (JT a its.toArray n dd sl k t h0 c') #[ho,#[.ref a,H,I,rfl,q1 c]]
 .have ne:=λz=>c (.inl<|hnil.mp z)
  have k1:k≠1:=λz=>c<|.inr z
  have c':¬(its.toArray.isEmpty||k == 1)=ak:=by
   rw[beq_eq_false_iff_ne.mpr k1,Bool.or_false,iG];cases its with|nil=>exact T7 rfl ne|cons _ _=>exact aN
  have fin:∀arr:List aq,arr=(aP k.toNat its).flatten->EP X pq σ Q (dJ s.heap.objs.size) {s with heap:=s.heap.push {cls:=.type "tuple",data:=.seq arr.toArray}}:=λarr e=>by
   subst e;refine#[.ref s.heap.objs.size,_,I.laid (t':=s.toks) (λb ob q=>ax _ q) (aG _) ?_,rfl,q2 c _<|I.hok.fresh<|aG _]
   refine#[?_,_,r.rep k.toNat,kh _ _];rw[Jx,da];have:k.toNat*xs.length<=1000*1000:=gV (by lia) hz
   lia
  by_cases z:k=0
  .have h1:(af (k<=0)||its.toArray.isEmpty)=ak:=by rw[z];rfl
   refine fR lj #[_,ho,rfl] kP (kw _ _) (Gh a its.toArray n dd sl k t h0 c' h1) #[ho,?_];exact fin [] (by rw[z];rfl)
  .have h1:¬(af (k<=0)||its.toArray.isEmpty)=ak:=by
    rw[T4 (by lia),iD,iG]
    cases its with|nil=>exact T7 rfl ne|cons _ _=>exact aN
   have hm:(its.toArray.size:Int)*k<=1000*1000:=by
    rw[aK,<-hl];exact ml (by lia) (by lia) k0 (by lia)
   have joined:(aP k.toNat its.toArray).foldl (·++·) #[]=(aP k.toNat its).flatten.toArray:=by
    have:=VF its k.toNat [];rw[eN]at this;exact this
   have hsz:((aP k.toNat its.toArray).foldl (·++·) #[]).size<=bo:=by
    rw[joined,aK,Jx,da,<-hl];have:k.toNat*xs.length<=1000*1000:=gV (by lia) hz
    lia
   refine fR lj #[_,ho,rfl] kP (kw _ _) (GS a its.toArray n dd sl k t h0 c' h1 (by lia) (by
    unfold ku;rw[T4<|by rw[da];lia]
    exact aN) hsz) #[ho,?_]
   rw[joined];exact fin _ rfl
def Zdw:R2:=λx y H Q=>∃a k xs,x=.ref a/\y=.int k/\H a=aa (.lst xs)/\(0<=k/\k<1000/\xs.length<=1000)/\∀p,H p=ae->Q (.ref p) (upd H p<|.lst (aP k.toNat xs).flatten)
def ZcW :OpR X (eR .Mult) Zdw:=by
 intro pq s σ H x y v u Q I rx ry h;obtain⟨a,k,xs,rfl,rfl,hx,⟨k0,k1,hz⟩,q2⟩:=h;cases rx;obtain⟨t,rfl⟩:=ry;obtain⟨its,r,pl,_⟩:=I.list<|SqL.of hx;have hl:=r.length;obtain⟨⟨cls,dd,data,sl⟩,n,ho,hc,hd2,hd⟩:=id pl;simp only at hc hd hd2;subst hc hd;have hm:k.toNat*its.length<=1000*1000:=gV (by lia) (by lia)
 have hm2:its.length*k.toNat<=1000*1000:=by rw[nN];exact hm
 refine kJ (by decide) #[_,ho,rfl] (λs'=>lL s' k t) noFill_list_mul oW iO repeat_list F.slot_int_index.lookup
  (fR iO (lL s k t) ox (nM _ _) (lm_int_rmul_list_any k t a its.toArray n dd sl) #[ho,rfl,#[_,ho,rfl],
   fR F.slot_list_mul #[_,ho,rfl] F.entry_list_mul (F.args_list_mul_2 _ _) (lm_list_mul_any a its.toArray n dd sl k t (by simp[fg.List.listFitsIndex];lia) (by rw[aK];lia)<|by rw[aK];simp[gu,bo];lia) #[ho,?_]])
 have joined:(aP (if its.toArray.isEmpty=ak then 0 else k.toNat) its.toArray).foldl (λx1 x2=>x1++x2) #[]=(aP k.toNat its).flatten.toArray:=by
  have h0:=VF its k.toNat [];rw[eN]at h0;by_cases z:its=[]
  .subst z
   have e:∀m:Nat,(aP m ([]:List aq)).flatten=[]:=λm=>by induction m with|zero=>rfl|succ m ih=>rw[cF,dD,ih];rfl
   rw[e];rfl
  .rw[T8 (by rw[iG];cases its with|nil=>exact T7 rfl z|cons _ _=>exact aN)]
   exact h0
 rw[joined];refine#[.ref s.heap.objs.size,_,I.laid (t':=s.toks) (λb ob q=>ax _ q) (aG _) ?_,rfl,q2 _<|I.hok.fresh<|aG _]
 refine#[?_,_,0,r.rep k.toNat,aQ _ rfl];rw[Jx,da];rw[hl];lia
section
variable{X:Cx}{xw:Nat->Hp->Prop}{C:Calls}{e a b c:Expr}{i j k:E}{pos:fO}
variable{ρ:Mx}{H:Hp}{S:Zv}{x y:D}{v u:V}{Q:VK}{K:al}
def Zc7(K:al):R2:=λx y H Q=>rI0 (λi j=>.int<|i+j) x y H Q\/(Zdn K x y H Q\/(ji K x y H Q\/Zbz x y H Q))
def ZbI:OpR X (eR .Add) (Zc7 X.K):=ZdP.or<|ZcB.or<|qp.or yN
def Zd7(st:St3 K ρ S H)(rx:Rep ρ H x v)(ry:Rep ρ H y u)(h:End K xw Rep ρ H Q (Pv.YZ .add x y S)):Zc7 K v u H Q:=by
 cases x with
 |int i=>cases y with|int j=>exact .inl #[i,j,rx.int',ry.int',End.ok h st<|ZO _]|_=>exact False.elim h
 |tup ds=>cases y with
  |tup es=>
   obtain⟨hl,h⟩:=End.guard h;obtain⟨p,xs,rfl,hp,r1⟩:=rx.tup';obtain⟨q,ys,rfl,hq,r2⟩:=ry.tup';have l1:=r1.length;have l2:=r2.length;by_cases z:xs=[]
   .subst z
    have e1:=gL.mp l1.symm;subst e1;exact .inr<|.inr<|.inl #[p,q,ys,rfl,rfl,SqT.of hp,SqT.of hq,End.ok h st<|XS hq r2]
   .refine .inr (.inl #[p,q,xs,ys,rfl,rfl,SqT.of hp,SqT.of hq,z,by rw[l1,l2,<-WM];exact hl,λz2=>?_,λ_=>h.newT st<|r1.append r2])
    subst z2;have e2:=gL.mp l2.symm;subst e2;refine End.ok h st ?_;rw[cr];exact XS hp r1
  |_=>exact False.elim h
 |lst ds=>cases y with
  |lst es=>
   obtain⟨hl,h⟩:=End.guard h;obtain⟨p,xs,rfl,hp,_,r1⟩:=rx.lst';obtain⟨q,ys,rfl,hq,_,r2⟩:=ry.lst';exact .inr<|.inr<|.inr #[p,q,xs,ys,rfl,rfl,hp,hq,by rw[r1.length,r2.length,<-WM];exact hl,h.newL st<|r1.append r2]
  |_=>exact False.elim h
 |_=>cases y<;>exact False.elim h
def Zd6(st:St3 K ρ S H)(rx:Rep ρ H x v)(ry:Rep ρ H y u)(h:End K xw Rep ρ H Q (Pv.YZ .sub x y S)):rI0 (λi j=>.int<|i-j) v u H Q:=by
 cases x with
 |int i=>cases y with|int j=>exact#[i,j,rx.int',ry.int',End.ok h st<|ZO _]|_=>exact False.elim h
 |_=>cases y<;>exact False.elim h
def Zdm(K:al):R2:=λx y H Q=>rI (λi j=>Ev.fits i=ak/\Ev.fits j=ak) (λi j=>.int<|i*j) x y H Q\/(Zdl K x y H Q\/Zdw x y H Q)
def Zb5:OpR X (eR .Mult) (Zdm X.K):=ZbK.or<|ZbR.or ZcW
def Zer(st:St3 K ρ S H)(rx:Rep ρ H x v)(ry:Rep ρ H y u)(h:End K xw Rep ρ H Q (Pv.YZ .mul x y S)):Zdm K v u H Q:=by
 cases x with
 |int i=>cases y with
  |int j=>
   obtain⟨hc,h⟩:=End.guard h;exact .inl #[i,j,rx.int',ry.int',(aB _ _).mp hc,End.ok h st<|ZO _]
  |_=>exact False.elim h
 |tup ds=>cases y with
  |int k=>
   obtain⟨⟨h0,h1,h2⟩,h⟩:=End.guard h;obtain⟨p,xs,rfl,hp,r1⟩:=rx.tup';have l1:=r1.length;refine .inr <| .inl #[p,k,xs,rfl,ry.int',SqT.of hp,#[h0,h1,by rw[l1];exact h2],λz=>?_,λ_=>h.newT st<|r1.rep k.toNat]
   refine End.ok h st<|XS hp ?_;rcases z with z|z
   .subst z
    have e1:=gL.mp l1.symm;subst e1;have:∀m:Nat,(aP m ([]:List D)).flatten=[]:=λm=>by induction m with|zero=>rfl|succ m ih=>rw[cF,dD,ih];rfl
    rw[this];exact Rq.nil
   .subst z
    show Rq ρ H (aP 1 ds).flatten xs;rw[cF,List.replicate_zero,dD,List.flatten_nil,cr];exact r1
  |_=>exact False.elim h
 |lst ds=>cases y with
  |int k=>
   obtain⟨⟨h0,h1,h2⟩,h⟩:=End.guard h;obtain⟨p,xs,rfl,hp,_,r1⟩:=rx.lst';exact .inr<|.inr #[p,k,xs,rfl,ry.int',hp,#[h0,h1,by rw[r1.length];exact h2],h.newL st<|r1.rep k.toNat]
  |_=>exact False.elim h
 |_=>cases y<;>exact False.elim h
def ZcR(st:St3 K ρ S H)(rx:Rep ρ H x v)(ry:Rep ρ H y u)(h:End K xw Rep ρ H Q (Pv.YZ .fdiv x y S)):rI (λ_ j=>0<j/\j<Ev.big) (λi j=>.int<|i / j) v u H Q:=by
 cases x with
 |int i=>cases y with
  |int j=>
   obtain⟨hc,h⟩:=End.guard h;exact#[i,j,rx.int',ry.int',hc,End.ok h st<|ZO _]
  |_=>exact False.elim h
 |_=>cases y<;>exact False.elim h
def Zex(st:St3 K ρ S H)(rx:Rep ρ H x v)(ry:Rep ρ H y u)(h:End K xw Rep ρ H Q (Pv.YZ .mod x y S)):rI (λ_ j=>0<j) (λi j=>.int<|i%j) v u H Q:=by
 cases x with
 |int i=>cases y with
  |int j=>
   obtain⟨hc,h⟩:=End.guard h;exact#[i,j,rx.int',ry.int',hc,End.ok h st<|ZO _]
  |_=>exact False.elim h
 |_=>cases y<;>exact False.elim h
theorem ZeO(st:St3 K ρ S H)(rx:Rep ρ H x v)(ry:Rep ρ H y u)(h:End K xw Rep ρ H Q (Pv.YZ .pow x y S)):rI CPow (λi j=>.int<|i^j.toNat) v u H Q:=by
 cases x with
 |int i=>cases y with
  |int j=>
   obtain⟨hc,h⟩:=End.guard h;exact#[i,j,rx.int',ry.int',#[hc.1,by lia,hc.2.2],End.ok h st<|ZO _]
  |_=>exact False.elim h
 |_=>cases y<;>exact False.elim h
def yB(ha:CE X xw C a i)(hb:CE X xw C b j):CE X xw C (.BinOp a .Add b pos) (.bin .add i j):=PE.imp (V9 ZbI ha hb)<|X6 λst rx ry h=>Zd7 st rx ry h
def wc(ha:CE X xw C a i)(hb:CE X xw C b j):CE X xw C (.BinOp a .Sub b pos) (.bin .sub i j):=PE.imp (V9 Zed ha hb)<|X6 λst rx ry h=>Zd6 st rx ry h
def xi(ha:CE X xw C a i)(hb:CE X xw C b j):CE X xw C (.BinOp a .Mult b pos) (.bin .mul i j):=PE.imp (V9 Zb5 ha hb)<|X6 λst rx ry h=>Zer st rx ry h
def J3(ha:CE X xw C a i)(hb:CE X xw C b j):CE X xw C (.BinOp a .FloorDiv b pos) (.bin .fdiv i j):=PE.imp (V9 jJ ha hb)<|X6 λst rx ry h=>ZcR st rx ry h
def xF(ha:CE X xw C a i)(hb:CE X xw C b j):CE X xw C (.BinOp a .Mod b pos) (.bin .mod i j):=PE.imp (V9 ZeU ha hb)<|X6 λst rx ry h=>Zex st rx ry h
def yT(ha:CE X xw C a i)(hb:CE X xw C b j):CE X xw C (.BinOp a .Pow b pos) (.bin .pow i j):=PE.imp (V9 ZeQ ha hb)<|X6 λst rx ry h=>ZeO st rx ry h
def yD(ha:CE X xw C a i):CE X xw C (.UnaryOp .USub a pos) (.neg i):=PE.imp (Zdk jF ha)<|by
 rintro σ H Q ⟨ρ,l,S,st,lr,h⟩;refine#[ρ,l,S,st,lr,End.bind (h) λx S1 ρ1 H1 v f1 st1 r1 h1=>?_]
 cases x with|int n=>exact#[n,r1.int',End.ok h1 st1<|ZO _]|_=>exact False.elim h1
def zS(st:St3 K ρ S H)(rx:Rep ρ H x v)(h:Pv.Zs x=aa n):ZcF K v H n:=by
 cases x with
 |non=>rw[rx.non'];exact(am h).symm
 |bl b=>rw[rx.bl'];exact(am h).symm
 |int i=>
  rw[rx.int'];have h':=am h;rw[<-h'];by_cases z:i=0
  .subst z;rfl
  .rw[T5 z];exact(bne_iff_ne.mpr z).symm
 |tup ds=>
  obtain⟨p,xs,rfl,hp,r⟩:=rx.tup';have h':=am h;refine .inr<|.inl #[xs,SqT.of hp,?_];rw[<-h'];have:=r.length;cases ds<;>cases xs<;>first|rfl|(simp at this)
 |lst ds=>
  obtain⟨p,xs,rfl,hp,_,r⟩:=rx.lst';refine .inl #[xs,SqL.of hp,?_];rw[<-am h];have:=r.length;cases ds<;>cases xs<;>first|rfl|(simp at this)
 |_=>cases h
def xV(ha:CE X xw C a i)(he:∀whole,isTrue a X.env whole=(do let v <-whole;i6 a.pos;gN [v] (rn v)):=by intro _;rfl):CT X xw C a i:=
 PT.imp (Zac ha he)<|by
  rintro σ H Q ⟨ρ,l,S,st,lr,h⟩;refine#[ρ,l,S,st,lr,End.bind (h) λx S1 ρ1 H1 v f1 st1 r1 h1=>?_]
  cases q:Pv.Zs x with|none=>rw[q]at h1;exact False.elim h1|some n=>rw[q]at h1;exact#[n,zS st1 r1 q,End.ok h1 st1 rfl]
def xB(ha:CT X xw C a i):CT X xw C (.UnaryOp .Not a pos) (.not i):=PT.imp (qQ ha)<|by
 rintro σ H Q ⟨ρ,l,S,st,lr,h⟩;refine#[ρ,l,S,st,lr,?_];have h':End X.K xw VJ ρ H Q (((Pv.pv C i l S).bind λx S=>(Pv.po (Pv.Zs x) S).bind λb S=>.ok (.bl !b) S).bind λx S=>Pv.po (Pv.Zs x) S):=h
 show End X.K xw VJ ρ H (λc H1=>Q (!c) H1) ((Pv.pv C i l S).bind λx S=>Pv.po (Pv.Zs x) S)
 cases q:Pv.pv C i l S with
 |no=>rw[q]at h';exact h'
 |ex c S1=>rw[q]at h';exact h'
 |ok x S1=>
  rw[q]at h';show End X.K xw VJ ρ H _ (Pv.po (Pv.Zs x) S1);have h2:End X.K xw VJ ρ H Q (((Pv.po (Pv.Zs x) S1).bind λb S=>.ok (.bl !b) S).bind λx S=>Pv.po (Pv.Zs x) S):=h'
  cases t:Pv.Zs x with
  |none=>rw[t]at h2;exact h2
  |some n=>
   rw[t]at h2;intro ρ1 H1 w f1 st1 e;exact h2 ρ1 H1 (!w) f1 st1 (by rw[<-(e)];rfl)
def yF(ha:CE X xw C a i):CE X xw C (.UnaryOp .Not a pos) (.not i):=by
 intro pq s σ H Q I hq;obtain⟨ρ,l,S,st,lr,h⟩:=hq;have h':=h
 refine UnaryOp_<|thn (ha pq s σ H (λv H1=>∃k,ZcF X.K v H1 k/\Q (.bl !k) H1) I #[ρ,l,S,st,lr,End.bind h' λx S1 ρ1 H1 v f1 st1 r1 h1=>?_]) λv s1 #[x,H1,I1,r1,q1]=>?_
 .cases q:Pv.Zs x with|none=>rw[q]at h1;exact False.elim h1|some n=>rw[q]at h1;exact#[n,zS st1 r1 q,End.ok h1 st1<|Yg _]
 .obtain⟨k,tk,q2⟩:=q1
  refine not_of<|thn (jC pq s1 σ H1 x v (λk' H'=>Q (.bl !k') H') I1 r1 #[k,tk,q2]) λk' s2 #[H2,I2,q3]=>?_
  exact#[.bl<|!k',H2,I2,rfl,q3]
def xG{rest:List Expr}(ha:CE X xw C a i)(hb:CE X xw C (.BoolOp .And (b::rest) pos) j):CE X xw C (.BoolOp .And (a::b::rest) pos) (.and i j):=PE.imp (Zea ha hb)<|by
 rintro σ H Q ⟨ρ,l,S,st,lr,h⟩;refine#[ρ,l,S,st,lr,End.bind (h) λx S1 ρ1 H1 v f1 st1 r1 h1=>?_]
 cases x with
 |bl c=>
  refine#[c,r1.bl',?_];cases c with|true=>exact#[ρ1,l,S1,st1,lr.mono f1,h1]|false=>exact End.ok h1 st1<|Yg _
 |_=>exact False.elim h1
def xq(hc:CT X xw C c k)(ha:CE X xw C a i)(hb:CE X xw C b j):CE X xw C (.IfExp c a b pos) (.ite k i j):=PE.imp (Zae hc ha hb)<|by
 rintro σ H Q ⟨ρ,l,S,st,lr,h⟩;have h':End X.K xw Rep ρ H Q ((Pv.pv C k l S).bind λx S=>(Pv.po (Pv.Zs x) S).bind λc S=>if c then Pv.pv C i l S else Pv.pv C j l S):=h
 refine#[ρ,l,S,st,lr,?_];show End X.K xw VJ ρ H _ ((Pv.pv C k l S).bind λx S=>Pv.po (Pv.Zs x) S)
 cases q:Pv.pv C k l S with
 |no=>rw[q]at h';exact h'
 |ex c S1=>rw[q]at h';exact h'
 |ok x S1=>
  rw[q]at h';have h2:End X.K xw Rep ρ H Q ((Pv.po (Pv.Zs x) S1).bind λc S=>if c then Pv.pv C i l S else Pv.pv C j l S):=h'
  show End X.K xw VJ ρ H _ (Pv.po (Pv.Zs x) S1);cases t:Pv.Zs x with
  |none=>rw[t]at h2;exact h2
  |some n=>
   rw[t]at h2;have h3:=h2
   intro ρ1 H1 w f1 st1 e;have e':n=w:=e;subst e';cases n with|true=>exact#[ρ1,l,S1,st1,lr.mono f1,h3.mono f1]|false=>exact#[ρ1,l,S1,st1,lr.mono f1,h3.mono f1]
def CWh(X:Cx)(xw:Nat->Hp->Prop)(C:Calls)(e:Expr)(i:E):Prop:=PW X e<|tB3 X xw<|Pv.Xj C i
def CWh.ct(h:CWh X xw C e i):CT X xw C e i:=PW.pt h
def PW.imp(h:PW X e t)(k:∀σ H Q,t' σ H Q->t σ H Q):PW X e t':=λwh pq s σ H Q I q=>h wh pq s σ H Q I<|k σ H Q q
def GM(ha:CT X xw C a i):CWh X xw C (.BoolOp .And [a] pos) i:=ZbO ha
def x5(ha:CT X xw C a i):CWh X xw C (.BoolOp .Or [a] pos) i:=Zbk ha
def J1{rest:List Expr}(ha:CT X xw C a i)(hb:CWh X xw C (.BoolOp .And (b::rest) pos) j):CWh X xw C (.BoolOp .And (a::b::rest) pos) (.and i j):=PW.imp (Zei ha hb)<|by
 rintro σ H Q ⟨ρ,l,S,st,lr,h⟩;have h':End X.K xw VJ ρ H Q (((Pv.pv C i l S).bind λx S=>match x with|.bl c=>if c then Pv.pv C j l S else .ok (.bl ai) S|_=>.no).bind λx S=>Pv.po (Pv.Zs x) S):=h
 refine#[ρ,l,S,st,lr,?_];show End X.K xw VJ ρ H _ ((Pv.pv C i l S).bind λx S=>Pv.po (Pv.Zs x) S)
 cases q:Pv.pv C i l S with
 |no=>rw[q]at h';exact h'
 |ex c S1=>rw[q]at h';exact h'
 |ok x S1=>
  rw[q]at h';cases x with
  |bl n=>
   intro ρ1 H1 w f1 st1 e;have e':n=w:=e;subst e';cases n with|true=>exact#[ρ1,l,S1,st1,lr.mono f1,End.mono f1 (h')]|false=>exact(h') ρ1 H1 ai f1 st1 rfl
  |_=>exact False.elim h'
def vU{rest:List Expr}(ha:CT X xw C a i)(hb:CWh X xw C (.BoolOp .Or (b::rest) pos) j):CWh X xw C (.BoolOp .Or (a::b::rest) pos) (.or i j):=PW.imp (Zc6 ha hb)<|by
 rintro σ H Q ⟨ρ,l,S,st,lr,h⟩;have h':End X.K xw VJ ρ H Q (((Pv.pv C i l S).bind λx S=>match x with|.bl c=>if c then .ok (.bl ak) S else Pv.pv C j l S|_=>.no).bind λx S=>Pv.po (Pv.Zs x) S):=h
 refine#[ρ,l,S,st,lr,?_];show End X.K xw VJ ρ H _ ((Pv.pv C i l S).bind λx S=>Pv.po (Pv.Zs x) S)
 cases q:Pv.pv C i l S with
 |no=>rw[q]at h';exact h'
 |ex c S1=>rw[q]at h';exact h'
 |ok x S1=>
  rw[q]at h';cases x with
  |bl n=>
   intro ρ1 H1 w f1 st1 e;have e':n=w:=e;subst e';cases n with|false=>exact#[ρ1,l,S1,st1,lr.mono f1,End.mono f1 (h')]|true=>exact(h') ρ1 H1 ak f1 st1 rfl
  |_=>exact False.elim h'
end
theorem Qa{f:D->D->Option Bool}(hf:∀x y v b,Rep ρ H x v->Rep ρ H y v->f x y=aa b->b=ak):∀{ds es:List D}{xs:List V}{b:Bool},Rq ρ H ds xs->Rq ρ H es xs->Pv.Yt f ds es=aa b->b=ak
 |[],[],_,b,_,_,h=>(am h).symm
 |d::ds,e::es,_,b,r1,r2,h=>by
  obtain⟨v,vs,rfl,a1,b1⟩:=r1;obtain⟨v',vs',e',a2,b2⟩:=r2;cases e';unfold Pv.Yt at h;cases q1:f d e with
  |none=>rw[q1]at h;cases h
  |some p=>
   cases q2:Pv.Yt f ds es with
   |none=>rw[q1,q2]at h;cases h
   |some q=>
    rw[q1,q2]at h;have h':=am h;rw[<-h',hf d e v p a1 a2 q1,Qa hf b1 b2 q2];rfl
 |[],_::_,_,b,r1,r2,h=>by
  have l1:=r1.length;have l2:=r2.length;rw[l1]at l2;simp at l2
 |_::_,[],_,b,r1,r2,h=>by
  have l1:=r1.length;have l2:=r2.length;rw[l1]at l2;simp at l2
def Rep.sc{x y:D}{v:V}(r1:Rep ρ H x v)(r2:Rep ρ H y v)(h:∀a,v≠.ref a):x=y:=by
 cases x<;>cases y<;>unfold Rep at r1 r2<;>subst_vars<;>first
  |rfl
  |(cases r2;rfl)
  |(cases r1;rfl)
  |(obtain⟨a,z,_⟩:=r1;exact T7 z<|h a)
  |(obtain⟨a,z,_⟩:=r2;exact T7 z<|h a)
  |(obtain⟨a,_,z,_⟩:=r1;exact T7 z<|h a)
  |(obtain⟨a,_,z,_⟩:=r2;exact T7 z<|h a)
  |cases r1
  |cases r2
def ZaG{k:Nat}{x:D}{v:V}{b:Bool}(r:Rep ρ H x v)(hv:∀a,v≠.ref a)(h:Pv.eqV (k+1) x x=aa b):b=ak:=by
 cases x<;>first
  |exact(am h).symm
  |(rw[<-am h];exact T5 rfl)
  |exact Ev.nos h
  |(obtain⟨a,_,z,_⟩:=r.tup';exact T7 z<|hv a)
  |(obtain⟨a,_,z,_⟩:=r.lst';exact T7 z<|hv a)
theorem Rep.ref{x:D}{p:aC}(r:Rep ρ H x (.ref p)){y:D}{k:Nat}{b:Bool}(h:Pv.eqV (k+1) x y=aa b\/Pv.eqV (k+1) y x=aa b):(∃ds es,x=.tup ds/\y=.tup es)\/∃ds es,x=.lst ds/\y=.lst es:=by
 cases x with
 |tup ds=>cases y<;>first|exact .inl #[_,_,rfl,rfl]|(rcases h with h|h<;>exact Ev.nos h)
 |lst ds=>cases y<;>first|exact .inr #[_,_,rfl,rfl]|(rcases h with h|h<;>exact Ev.nos h)
 |non=>cases r.non'
 |bl _=>cases r.bl'
 |int _=>cases r.int'
 |str _=>cases r.str'
 |_=>cases y<;>rcases h with h|h<;>exact Ev.nos h
theorem WO:∀(k:Nat)(x y:D)(v:V)(b:Bool),Rep ρ H x v->Rep ρ H y v->Pv.eqV k x y=aa b->b=ak
 |0,_,_,_,_,_,_,h=>by cases h
 |k+1,x,y,v,b,r1,r2,h=>by
  by_cases hv:∃a,v=.ref a
  .obtain⟨p,rfl⟩:=hv
   rcases r1.ref (.inl h)with⟨ds,es,rfl,rfl⟩|⟨ds,es,rfl,rfl⟩
   .obtain⟨_,_,z,e1,q1⟩:=r1.tup'
    cases z;obtain⟨_,_,z,e2,q2⟩:=r2.tup';cases z;rw[e1]at e2;cases e2;exact Qa (λx y v b=>WO k x y v b) q1 q2 h
   .obtain⟨_,_,z,e1,_,q1⟩:=r1.lst'
    cases z;obtain⟨_,_,z,e2,_,q2⟩:=r2.lst';cases z;rw[e1]at e2;cases e2;have h:(if ds.length=es.length then Pv.Yt (Pv.eqV k) ds es else aa ai)=aa b:=h
    rw[T9<|by rw[<-q1.length,q2.length]]at h
    exact Qa (λx y v b=>WO k x y v b) q1 q2 h
  .have hv:=λa z=>hv #[a,z]
   cases r1.sc r2 hv;exact ZaG r1 hv h
noncomputable def eAt(f:D->D->Option Bool)(ds es:List D)(j:Nat):Bool:=match ds[j]?,es[j]? with
 |some x,aa y=>(f x y).getD ai
 |_,_=>ai
theorem Xq{f:D->D->Option Bool}:∀{ds es:List D}{b:Bool},Pv.Yt f ds es=aa b->
  ((aH<|pS ds.length es.length).all (eAt f ds es)&&ds.length == es.length)=b/\∀j x y,ds[j]?=aa x->es[j]?=aa y->f x y=aa (eAt f ds es j)
 |[],[],b,h=>#[am h,λj x y e=>by simp at e]
 |[],_::es,b,h=>#[by rw[<-am h];simp,λj x y e=>by simp at e]
 |_::ds,[],b,h=>#[by rw[<-am h];simp,λj x y _ e=>by simp at e]
 |d::ds,e::es,b,h=>by
  unfold Pv.Yt at h;cases q1:f d e with
  |none=>rw[q1]at h;cases h
  |some p=>
   cases q2:Pv.Yt f ds es with
   |none=>rw[q1,q2]at h;cases h
   |some q=>
    rw[q1,q2]at h;obtain⟨ih,ih2⟩:=Xq q2;have h':=am h;have e0:eAt f (d::ds) (e::es) 0=p:=by simp[eAt,q1]
    have es':∀j,eAt f (d::ds) (e::es) (j+1)=eAt f ds es j:=λj=>by simp[eAt]
    refine#[?_,λj x y hx hy=>?_]
    .rw[<-h',<-ih,aJ,aJ,Nat.succ_min_succ,gW,gv,e0,fW]
     have:((aH<|pS ds.length es.length).all<|eAt f (d::ds) (e::es)∘Nat.succ)=(aH<|pS ds.length es.length).all (eAt f ds es):=by
      exact congrArg (λg=>(aH<|pS ds.length es.length).all g)<|funext λj=>es' j
     rw[this,Bool.and_assoc]
     congr 2
     simp
    .cases j with
     |zero=>
      simp at hx hy;subst hx hy;rw[e0];exact q1
     |succ j=>
      rw[es' j];exact ih2 j x y (by simpa using hx) (by simpa using hy)
def Y3{A:cC}{k:Nat}(h:A.units+(k+1)<dH):A.in1.units+k<dH:=by
 have e:A.in1.units<=A.units+1:=by
  first|exact aG _|(simp[cC.in1,cC.units]<;>lia)
 lia
theorem x9(I:Inv X pq σ H s):∀(k:Nat)(A:cC)(x y:D)(v u:V)(vv uu:aq)(b:Bool),A.units+k<dH->Rep ρ H x v->Rep ρ H y u->Zx v vv->Zx u uu->Pv.eqV k x y=aa b->iz A s vv uu b
 |0,_,_,_,_,_,_,_,_,_,_,_,_,_,h=>by cases h
 |k+1,A,x,y,v,u,vv,uu,b,hu,r1,r2,e1,e2,h=>by
  have flat:vn v=ak->vn u=ak->eqV v u=b->iz A s vv uu b:=λf1 f2 e=>by rw[<-e];exact Zd3 e1 e2 f1 f2
  have bb:∀{a c:Bool},(a == c)=af (a=c):=λ{a c}=>by cases a<;>cases c<;>rfl
  have ii:∀{a c:Int},(a == c)=af (a=c):=λ{a c}=>by rw[cS];simp
  have ss:∀{a c:bi},(a == c)=af (a=c):=λ{a c}=>by rw[cS];simp
  have item:∀{ds es:List D}{xs ys:List V}(j:Nat)(its its2:List aq)(j1:j<its.toArray.size)(j2:j<its2.toArray.size),its.toArray.size=ds.length->its2.toArray.size=es.length->Vals xs its->Vals ys its2->Rq ρ H ds xs->Rq ρ H es ys->(∀j x y,ds[j]?=aa x->es[j]?=aa y->Pv.eqV k x y=aa (eAt (Pv.eqV k) ds es j))->iz A.in1 s its.toArray[j] its2.toArray[j] (eAt (Pv.eqV k) ds es j):=λ{ds es xs ys} j its its2 j1 j2 n1 n2 v1 v2 q1 q2 ea=>by
   have d1:ds[j]?=aa ds[j]:=ag (by lia)
   have d2:es[j]?=aa es[j]:=ag (by lia)
   obtain⟨w1,g1,z1⟩:=q1.get d1;obtain⟨w2,g2,z2⟩:=q2.get d2;obtain⟨m1,k1,y1⟩:=v1.get g1;obtain⟨m2,k2,y2⟩:=v2.get g2;have o1:its.toArray[j]=m1:=by simpa using(aE.mp k1).2
   have o2:its2.toArray[j]=m2:=by simpa using(aE.mp k2).2
   rw[o1,o2];exact x9 I k A.in1 ds[j] es[j] w1 w2 m1 m2 _ (Y3 hu) z1 z2 y1 y2<|ea j _ _ d1 d2
  cases x with
  |non=>
   cases r1.non';cases y with|non=>cases r2.non';exact flat rfl rfl<|am h|bl _=>cases r2.bl';exact flat rfl rfl<|am h|int _=>cases r2.int';exact flat rfl rfl<|am h|str _=>cases r2.str';exact flat rfl rfl<|am h|_=>exact Ev.nos h
  |bl i=>
   cases r1.bl';cases y with|non=>cases r2.non';exact flat rfl rfl<|am h|bl _=>cases r2.bl';exact flat rfl rfl<|bb.trans<|am h|int _=>cases r2.int';exact flat rfl rfl<|ii.trans<|am h|str _=>cases r2.str';exact flat rfl rfl<|am h|_=>exact Ev.nos h
  |int i=>
   cases r1.int';cases y with|non=>cases r2.non';exact flat rfl rfl<|am h|bl _=>cases r2.bl';exact flat rfl rfl<|ii.trans<|am h|int _=>cases r2.int';exact flat rfl rfl<|ii.trans<|am h|str _=>cases r2.str';exact flat rfl rfl<|am h|_=>exact Ev.nos h
  |str i=>
   cases r1.str';cases y with|non=>cases r2.non';exact flat rfl rfl<|am h|bl _=>cases r2.bl';exact flat rfl rfl<|am h|int _=>cases r2.int';exact flat rfl rfl<|am h|str _=>cases r2.str';exact flat rfl rfl<|ss.trans<|am h|_=>exact Ev.nos h
  |tup ds=>
   obtain⟨p,xs,rfl,hp,q1⟩:=r1.tup';cases e1;cases y with
   |tup es=>
    obtain⟨p',ys,rfl,hp',q2⟩:=r2.tup';cases e2;by_cases hpp:p=p'
    .subst hpp
     rw[WO (k+1) (.tup ds) (.tup es) (.ref p) b r1 r2 h];exact iN _
    .obtain⟨its,v1,t1,_⟩:=I.tuple (SqT.of hp)
     obtain⟨its2,v2,t2,_⟩:=I.tuple<|SqT.of hp';have h':=h;obtain⟨ev,ea⟩:=Xq h';have n1:its.toArray.size=ds.length:=by rw[aK,<-v1.length,q1.length]
     have n2:its2.toArray.size=es.length:=by rw[aK,<-v2.length,q2.length]
     refine kx hpp ?_;rw[<-ev,<-n1,<-n2];exact kQ t1 t2 (by lia) λj j1 j2=>item j its its2 j1 j2 n1 n2 v1 v2 q1 q2 ea
   |_=>exact Ev.nos h
  |lst ds=>
   obtain⟨p,xs,rfl,u1,_,q1⟩:=r1.lst';cases e1;cases y with
   |lst es=>
    obtain⟨p',ys,rfl,u2,_,q2⟩:=r2.lst';cases e2;by_cases hpp:p=p'
    .subst hpp
     rw[WO (k+1) (.lst ds) (.lst es) (.ref p) b r1 r2 h];exact iN _
    .obtain⟨its,v1,p1,_⟩:=I.list (SqL.of u1)
     obtain⟨its2,v2,p2,_⟩:=I.list<|SqL.of u2;have n1:its.toArray.size=ds.length:=by rw[aK,<-v1.length,q1.length]
     have n2:its2.toArray.size=es.length:=by rw[aK,<-v2.length,q2.length]
     refine kx hpp ?_;have h2:(if ds.length=es.length then Pv.Yt (Pv.eqV k) ds es else aa ai)=aa b:=h
     by_cases hl:ds.length=es.length
     .rw[T9 hl]at h2
      obtain⟨ev,ea⟩:=Xq h2;have ev':(aH ds.length).all (eAt (Pv.eqV k) ds es)=b:=by
       rw[<-ev,<-hl,nO];simp
      rw[<-ev',<-n1];exact oy p1.isList p2.isList (by lia) (by lia) λj j1 j2=>item j its its2 j1 j2 n1 n2 v1 v2 q1 q2 ea
     .rw[T8 hl]at h2
      rw[<-am h2];exact kT p1.isList p2.isList (bne_iff_ne.mpr<|by lia) (by lia)
   |_=>exact Ev.nos h
  |_=>exact Ev.nos h
def W7(I:Inv X pq σ H s){k:Nat}{A:cC}{ds es:List D}{xs ys:List V}{its its2:List aq}{b:Bool}(hu:A.units+(k+1)<dH)
  (q1:Rq ρ H ds xs)(q2:Rq ρ H es ys)(v1:Vals xs its)(v2:Vals ys its2)(h:Pv.Yt (Pv.eqV k) ds es=aa b) :
  ∀j (h1:j<its.toArray.size) (h2:j<its2.toArray.size),iz A.in1 s its.toArray[j] its2.toArray[j] (eAt (Pv.eqV k) ds es j):=λj j1 j2=>by
 obtain⟨_,ea⟩:=Xq h;have n1:its.toArray.size=ds.length:=by rw[aK,<-v1.length,q1.length]
 have n2:its2.toArray.size=es.length:=by rw[aK,<-v2.length,q2.length]
 have d1:ds[j]?=aa ds[j]:=ag (by lia)
 have d2:es[j]?=aa es[j]:=ag (by lia)
 obtain⟨w1,g1,z1⟩:=q1.get d1;obtain⟨w2,g2,z2⟩:=q2.get d2;obtain⟨m1,k1,y1⟩:=v1.get g1;obtain⟨m2,k2,y2⟩:=v2.get g2;have o1:its.toArray[j]=m1:=by
  have:=aE.mp k1
  simpa using this.2
 have o2:its2.toArray[j]=m2:=by
  have:=aE.mp k2
  simpa using this.2
 rw[o1,o2];exact x9 I k A.in1 ds[j] es[j] w1 w2 m1 m2 _ (Y3 hu) z1 z2 y1 y2<|ea j _ _ d1 d2
def Zby(K:al)(xw:Nat->Hp->Prop)(op:Cop):R2:=λv u H Q=>∃ρ S x y,St3 K ρ S H/\Rep ρ H x v/\Rep ρ H y u/\End K xw Rep ρ H Q (Pv.po (Pv.YT op x y) S)
def Zd2 :∀σ H Q,tE X xw (Pv.pv C<|.cmp op i j) σ H Q->tOp (Zby X.K xw op) (tE X xw<|Pv.pv C i) (tE X xw<|Pv.pv C j) σ H Q:=λσ H Q h=>
 X6 (λ{ρ H S x y v u Q} st rx ry h=>#[ρ,S,x,y,st,rx,ry,h]) σ H Q h
def dI{a c:Int}:(a == c)=af (a=c):=by rw[cS];simp
def wM{H:Hp}{ρ:Mx}{k:Nat}{x y:D}{v u:V}{b:Bool}(rx:Rep ρ H x v)(ry:Rep ρ H y u)(hb:Pv.eqV (k+1) x y=aa b):(scal v u=ak/\af (v=u)=b)\/(∃i j,v=.bl i/\u=.int j/\af (Ev.b2i i=j)=b)\/(∃i j,v=.int i/\u=.bl j/\af (i=Ev.b2i j)=b)\/(∃ds es,x=.tup ds/\y=.tup es/\Pv.Yt (Pv.eqV k) ds es=aa b)\/∃ds es,x=.lst ds/\y=.lst es/\(if ds.length=es.length then Pv.Yt (Pv.eqV k) ds es else aa ai)=aa b:=by
 cases x with
 |non=>cases rx.non';cases y with|non=>cases ry.non';exact .inl #[rfl,am hb▸by simp]|bl _=>cases ry.bl';exact .inl #[rfl,am hb]|int _=>cases ry.int';exact .inl #[rfl,am hb]|str _=>cases ry.str';exact .inl #[rfl,am hb]|_=>exact Ev.nos hb
 |bl i=>cases rx.bl';cases y with|non=>cases ry.non';exact .inl #[rfl,am hb]|bl j=>cases ry.bl';exact .inl #[rfl,am hb▸by simp]|int j=>cases ry.int';exact .inr<|.inl #[i,j,rfl,rfl,am hb]|str _=>cases ry.str';exact .inl #[rfl,am hb]|_=>exact Ev.nos hb
 |int i=>cases rx.int';cases y with|non=>cases ry.non';exact .inl #[rfl,am hb]|bl j=>cases ry.bl';exact .inr<|.inr<|.inl #[i,j,rfl,rfl,am hb]|int _=>cases ry.int';exact .inl #[rfl,am hb▸by simp]|str _=>cases ry.str';exact .inl #[rfl,am hb]|_=>exact Ev.nos hb
 |str i=>cases rx.str';cases y with|non=>cases ry.non';exact .inl #[rfl,am hb]|bl _=>cases ry.bl';exact .inl #[rfl,am hb]|int _=>cases ry.int';exact .inl #[rfl,am hb]|str _=>cases ry.str';exact .inl #[rfl,am hb▸by simp]|_=>exact Ev.nos hb
 |tup ds=>cases y with|tup es=>exact .inr<|.inr<|.inr<|.inl #[ds,es,rfl,rfl,hb]|_=>exact Ev.nos hb
 |lst ds=>cases y with|lst es=>exact .inr<|.inr<|.inr<|.inr #[ds,es,rfl,rfl,hb]|_=>exact Ev.nos hb
 |_=>exact Ev.nos hb
def ZeE(hu:X.A.units+6<dH):OpR X (cN .Eq) (Zby X.K xw .eq):=by
 intro pq s σ H v u vv uu Q I e1 e2 h;obtain⟨ρ,S,x,y,st,rx,ry,h⟩:=h;obtain⟨b,hb,h1⟩:=End.map h;have q:=End.ok h1 st<|Yg b;rcases wM rx ry hb with⟨hs,e⟩|⟨i,j,rfl,rfl,e⟩|⟨i,j,rfl,rfl,e⟩|⟨ds,es,rfl,rfl,hb'⟩|⟨ds,es,rfl,rfl,h2⟩
 .exact Zfm pq s σ H v u vv uu Q I e1 e2 #[hs,by rw[e];exact q]
 .cases e1
  obtain⟨t,rfl⟩:=e2;refine EqBoolInt.eq_bool_int #[.bl b,H,I,?_,q];show cx ((if i then 1 else 0) == j)=cx b
  rw[dI];exact congrArg cx e
 .cases e2
  obtain⟨t,rfl⟩:=e1;refine EqBoolInt.eq_int_bool #[.bl b,H,I,?_,q];show cx (i == (if j then 1 else 0))=cx b
  rw[dI];exact congrArg cx e
 ·
  obtain⟨p,xs,rfl,hp,q1⟩:=rx.tup';cases e1;obtain⟨p',ys,rfl,hp',q2⟩:=ry.tup';cases e2;obtain⟨its,v1,t1,_⟩:=I.tuple<|SqT.of hp;obtain⟨its2,v2,t2,_⟩:=I.tuple<|SqT.of hp';obtain⟨ev,_⟩:=Xq hb';have n1:its.toArray.size=ds.length:=by rw[aK,<-v1.length,q1.length]
  have n2:its2.toArray.size=es.length:=by rw[aK,<-v2.length,q2.length]
  refine kQ t1 t2 (by lia) (W7 I hu q1 q2 v1 v2 hb') X.prog X.w X.xe _ ?_
  rw[n1,n2,ev];exact#[.bl b,H,I,rfl,q]
 ·
  obtain⟨p,xs,rfl,u1,_,q1⟩:=rx.lst';cases e1;obtain⟨p',ys,rfl,u2,_,q2⟩:=ry.lst';cases e2;obtain⟨its,v1,p1,_⟩:=I.list<|SqL.of u1;obtain⟨its2,v2,p2,_⟩:=I.list<|SqL.of u2;have n1:its.toArray.size=ds.length:=by rw[aK,<-v1.length,q1.length]
  have n2:its2.toArray.size=es.length:=by rw[aK,<-v2.length,q2.length]
  by_cases hl:ds.length=es.length
  .rw[T9 hl]at h2
   obtain⟨ev,_⟩:=Xq h2;have ev':(aH ds.length).all (eAt (Pv.eqV 5) ds es)=b:=by
    rw[<-ev,<-hl,nO];simp
   refine oy p1.isList p2.isList (by lia) (by lia) (W7 I hu q1 q2 v1 v2 h2) X.prog X.w X.xe _ ?_
   rw[n1,ev'];exact#[.bl b,H,I,rfl,q]
  .rw[T8 hl]at h2
   refine kT p1.isList p2.isList (bne_iff_ne.mpr<|by lia) (by lia) X.prog X.w X.xe _ ?_
   exact#[.bl b,H,I,congrArg cx<|am h2,q]
def ZdU(hu:X.A.units+6<dH):OpR X (cN .NotEq) (Zby X.K xw .ne):=by
 intro pq s σ H v u vv uu Q I e1 e2 h;obtain⟨ρ,S,x,y,st,rx,ry,h⟩:=h;obtain⟨b,hb,h1⟩:=End.map h;have q:=End.ok h1 st<|Yg _;rcases wM rx ry hb with⟨hs,e⟩|⟨i,j,rfl,rfl,e⟩|⟨i,j,rfl,rfl,e⟩|⟨ds,es,rfl,rfl,hb'⟩|⟨ds,es,rfl,rfl,h2⟩
 .exact Zfk pq s σ H v u vv uu Q I e1 e2 #[hs,by rw[e];exact q]
 .cases e1
  obtain⟨t,rfl⟩:=e2;refine EqBoolInt.ne_bool_int #[.bl !b,H,I,?_,q];show cx (!((if i then 1 else 0) == j))=cx !b
  rw[dI];exact congrArg (λz=>cx !z) e
 .cases e2
  obtain⟨t,rfl⟩:=e1;refine EqBoolInt.ne_int_bool #[.bl !b,H,I,?_,q];show cx (!(i == (if j then 1 else 0)))=cx !b
  rw[dI];exact congrArg (λz=>cx !z) e
 ·
  obtain⟨p,xs,rfl,hp,q1⟩:=rx.tup';cases e1;obtain⟨p',ys,rfl,hp',q2⟩:=ry.tup';cases e2;obtain⟨its,v1,t1,_⟩:=I.tuple<|SqT.of hp;obtain⟨its2,v2,t2,_⟩:=I.tuple<|SqT.of hp';obtain⟨ev,_⟩:=Xq hb';have n1:its.toArray.size=ds.length:=by rw[aK,<-v1.length,q1.length]
  have n2:its2.toArray.size=es.length:=by rw[aK,<-v2.length,q2.length]
  refine SeqAt.RcNeAt.tuples t1 t2 (by lia) (W7 I hu q1 q2 v1 v2 hb') X.prog X.w X.xe _ ?_
  rw[n1,n2,ev];exact#[.bl !b,H,I,rfl,q]
 ·
  obtain⟨p,xs,rfl,u1,_,q1⟩:=rx.lst';cases e1;obtain⟨p',ys,rfl,u2,_,q2⟩:=ry.lst';cases e2;obtain⟨its,v1,p1,_⟩:=I.list<|SqL.of u1;obtain⟨its2,v2,p2,_⟩:=I.list<|SqL.of u2;have n1:its.toArray.size=ds.length:=by rw[aK,<-v1.length,q1.length]
  have n2:its2.toArray.size=es.length:=by rw[aK,<-v2.length,q2.length]
  by_cases hl:ds.length=es.length
  .rw[T9 hl]at h2
   obtain⟨ev,_⟩:=Xq h2;have ev':(aH ds.length).all (eAt (Pv.eqV 5) ds es)=b:=by
    rw[<-ev,<-hl,nO];simp
   refine SeqAt.RcNeAt.lists p1.isList p2.isList (by lia) (by lia) (W7 I hu q1 q2 v1 v2 h2) X.prog X.w X.xe _ ?_
   rw[n1,ev'];exact#[.bl !b,H,I,rfl,q]
  .rw[T8 hl]at h2
   refine SeqAt.RcNeAt.lists_lengths p1.isList p2.isList (bne_iff_ne.mpr<|by lia) (by lia) X.prog X.w X.xe _ ?_
   exact#[.bl !b,H,I,congrArg (λz=>cx !z)<|am h2,q]
theorem JR(hf:∀x x' y v b b',Rep ρ H x v->Rep ρ H x' v->f x y=aa b->f x' y=aa b'->b=b') :
  ∀{ds ds' es:List D}{xs:List V}{b b':Bool},Rq ρ H ds xs->Rq ρ H ds' xs->Pv.Yt f ds es=aa b->Pv.Yt f ds' es=aa b'->b=b'
 |[],[],[],_,b,b',_,_,h,h'=>(am h).symm.trans<|am h'
 |[],[],_::_,_,b,b',_,_,h,h'=>(am h).symm.trans<|am h'
 |_::_,_::_,[],_,b,b',_,_,h,h'=>(am h).symm.trans<|am h'
 |d::ds,d'::ds',e::es,_,b,b',r1,r2,h,h'=>by
  obtain⟨v,vs,rfl,a1,b1⟩:=r1;obtain⟨v',vs',e',a2,b2⟩:=r2;cases e';unfold Pv.Yt at h h';cases q1:f d e with
  |none=>rw[q1]at h;cases h
  |some p=>
   cases q2:Pv.Yt f ds es with
   |none=>rw[q1,q2]at h;cases h
   |some q=>
    cases q3:f d' e with
    |none=>rw[q3]at h';cases h'
    |some p'=>
     cases q4:Pv.Yt f ds' es with
     |none=>rw[q3,q4]at h';cases h'
     |some q'=>
      rw[q1,q2]at h;rw[q3,q4]at h';have z1:=am h;have z2:=am h';rw[<-z1,<-z2,hf d d' e v p p' a1 a2 q1 q3,JR hf b1 b2 q2 q4]
 |[],_::_,_,_,b,b',r1,r2,_,_=>by
  have l1:=r1.length;have l2:=r2.length;rw[l1]at l2;simp at l2
 |_::_,[],_,_,b,b',r1,r2,_,_=>by
  have l1:=r1.length;have l2:=r2.length;rw[l1]at l2;simp at l2
theorem Gu:∀(k:Nat)(x x' y:D)(v:V)(b b':Bool),Rep ρ H x v->Rep ρ H x' v->Pv.eqV k x y=aa b->Pv.eqV k x' y=aa b'->b=b'
 |0,_,_,_,_,_,_,_,_,h,_=>by cases h
 |k+1,x,x',y,v,b,b',r1,r2,h,h'=>by
  by_cases hv:∃a,v=.ref a
  .obtain⟨p,rfl⟩:=hv
   rcases r1.ref (.inl h)with⟨ds,es,rfl,rfl⟩|⟨ds,es,rfl,rfl⟩<;>rcases r2.ref (.inl h')with⟨ds',es',rfl,z⟩|⟨ds',es',rfl,z⟩<;>cases z
   .obtain⟨_,_,z,e1,q1⟩:=r1.tup'
    cases z;obtain⟨_,_,z,e2,q2⟩:=r2.tup';cases z;rw[e1]at e2;cases e2;exact JR (λx x' y v b b'=>Gu k x x' y v b b') q1 q2 h h'
   .obtain⟨_,_,z,e1,_,q1⟩:=r1.lst'
    cases z;obtain⟨_,_,z,e2,_,q2⟩:=r2.lst';cases z;rw[e1]at e2;cases e2;have l:ds'.length=ds.length:=by rw[<-q1.length,q2.length]
    have h:(if ds.length=es.length then Pv.Yt (Pv.eqV k) ds es else aa ai)=aa b:=h
    have h':(if ds'.length=es.length then Pv.Yt (Pv.eqV k) ds' es else aa ai)=aa b':=h'
    rw[l]at h';by_cases c:ds.length=es.length
    .rw[T9 c]at h h'
     exact JR (λx x' y v b b'=>Gu k x x' y v b b') q1 q2 h h'
    .rw[T8 c]at h h'
     exact am<|h.symm.trans h'
  .cases r1.sc r2 λa z=>hv #[a,z]
   exact am<|h.symm.trans h'
theorem GN :∀{ds:List D}{b:Bool},Pv.X1 x ds=aa b->∀d∈ds,∃c,Pv.eqV Ev.Zt d x=aa c
 |[],_,_,d,hd=>by cases hd
 |y::ys,b,h,d,hd=>by
  unfold Pv.X1 at h;cases q1:Pv.eqV Ev.Zt y x with
  |none=>rw[q1]at h;cases h
  |some p=>
   cases q2:Pv.X1 x ys with
   |none=>rw[q1,q2]at h;cases h
   |some q=>
    rcases ay.mp hd with rfl|hd
    .exact#[p,q1]
    .exact GN q2 d hd
theorem vQ :∀{ds:List D}{b:Bool},Pv.X1 x ds=aa b->(ds.any λd=>(Pv.eqV Ev.Zt d x).getD ai)=b
 |[],_,h=>am h
 |y::ys,b,h=>by
  unfold Pv.X1 at h;cases q1:Pv.eqV Ev.Zt y x with
  |none=>rw[q1]at h;cases h
  |some p=>
   cases q2:Pv.X1 x ys with
   |none=>rw[q1,q2]at h;cases h
   |some q=>
    rw[q1,q2]at h;rw[fc,vQ q2,q1,<-am h];rfl
open Classical in
def WT(I:Inv X pq σ H s)(hu:A.units+6<dH)(rx:Rep ρ H x v)(ex:Zx v vv)
  (q:Rq ρ H ds xs)(vs:Vals xs its)(h:Pv.X1 x ds=aa b):∃e:aq->Bool,(∀u,u∈its.toArray->iz A s u vv (e u))/\its.toArray.any e=b:=by
 refine#[λu=>af (∃d∈ds,∃w,Rep ρ H d w/\Zx w u/\Pv.eqV Ev.Zt d x=aa ak),λu hu'=>?_,?_]
 .have hu2:u∈its:=by simpa using hu'
  obtain⟨j,hj,e⟩:=cW hu2;have hl:j<ds.length:=by rw[<-q.length,vs.length];exact hj
  obtain⟨w,g,r⟩:=q.get<|ag hl;obtain⟨u',g',r'⟩:=vs.get g;have eu:u'=u:=by
   rw[ag hj]at g';exact(am g').symm.trans e
  subst eu;obtain⟨c,hc⟩:=GN h ds[j]<|ba hl;have ec:af (∃d∈ds,∃w,Rep ρ H d w/\Zx w u'/\Pv.eqV Ev.Zt d x=aa ak)=c:=by
   cases c with
   |true=>exact T5 #[ds[j],ba hl,w,r,r',hc]
   |false=>
    refine T4 ?_
    rintro ⟨d,hd,w',a1,a2,a3⟩
    cases a2.inj r';exact T7 (Gu 6 d ds[j] x w ak ai a1 r a3 hc) (by decide)
  dsimp only
  rw[ec];exact x9 I 6 A ds[j] x w v u' vv c hu r rx r' ex hc
 .rw[<-vQ h,List.any_toArray,cS,fX,fX]
  constructor
  .rintro ⟨u,hu1,h1⟩
   obtain⟨d,hd,w,a1,a2,a3⟩:=T6 h1;exact#[d,hd,by rw[a3];rfl]
  .rintro ⟨d,hd,h1⟩
   obtain⟨j,hj,e⟩:=cW hd;subst e;obtain⟨w,g,r⟩:=q.get<|ag hj;obtain⟨u,g',r'⟩:=vs.get g;refine#[u,cM g',T5 #[ds[j],hd,w,r,r',?_]];obtain⟨c,hc⟩:=GN h ds[j] hd;rw[hc]at h1 ⊢;exact congrArg aa h1
section
variable{X:Cx}{xw:Nat->Hp->Prop}{C:Calls}{e a b c:Expr}{i j k:E}{pos p p':fO}
def ZdR(hu:X.A.units+7<dH):OpR X (cN .In) (λv u H Q=>∃ρ S x ds b,St3 X.K ρ S H/\Rep ρ H x v/\(Rep ρ H (.tup ds) u\/Rep ρ H (.lst ds) u)/\Pv.X1 x ds=aa b/\Q (.bl b) H):=by
 intro pq s σ H v u vv uu Q I e1 e2 h;obtain⟨ρ,S,x,ds,b,st,rx,ry,hb,q⟩:=h;rcases ry with ry|ry
 .obtain⟨p,xs,rfl,hp,q1⟩:=ry.tup'
  cases e2;obtain⟨its,v1,t1,_⟩:=I.tuple<|SqT.of hp;obtain⟨f,h1,h2⟩:=WT I (Y3 hu) rx e1 q1 v1 hb;exact SeqAt.in_tupleAt f t1 h1 (by rw[h2];exact#[.bl b,H,I,rfl,q])
 .obtain⟨p,xs,rfl,hx,_,q1⟩:=ry.lst'
  cases e2;obtain⟨its,v1,t1,_⟩:=I.list<|SqL.of hx;obtain⟨f,h1,h2⟩:=WT I (Y3 hu) rx e1 q1 v1 hb;exact SeqAt.in_listAt f t1.isList h1 (by rw[h2];exact#[.bl b,H,I,rfl,q])
def Zcg(hu:X.A.units+7<dH):OpR X (cN .NotIn) (λv u H Q=>∃ρ S x ds b,St3 X.K ρ S H/\Rep ρ H x v/\(Rep ρ H (.tup ds) u\/Rep ρ H (.lst ds) u)/\Pv.X1 x ds=aa b/\Q (.bl !b) H):=by
 intro pq s σ H v u vv uu Q I e1 e2 h;obtain⟨ρ,S,x,ds,b,st,rx,ry,hb,q⟩:=h;rcases ry with ry|ry
 .obtain⟨p,xs,rfl,hp,q1⟩:=ry.tup'
  cases e2;obtain⟨its,v1,t1,_⟩:=I.tuple<|SqT.of hp;obtain⟨f,h1,h2⟩:=WT I (Y3 hu) rx e1 q1 v1 hb;exact SeqAt.notIn_tupleAt f t1 h1 (by rw[h2];exact#[.bl !b,H,I,rfl,q])
 .obtain⟨p,xs,rfl,hx,_,q1⟩:=ry.lst'
  cases e2;obtain⟨its,v1,t1,_⟩:=I.list<|SqL.of hx;obtain⟨f,h1,h2⟩:=WT I (Y3 hu) rx e1 q1 v1 hb;exact SeqAt.notIn_listAt f t1.isList h1 (by rw[h2];exact#[.bl !b,H,I,rfl,q])
variable{ρ:Mx}{H:Hp}{S:Zv}{x y:D}{v u:V}{Q:VK}{K:al}
def ZcD(h:Pv.int2 x y=aa z):x=.int z.1/\y=.int z.2:=by
 cases x<;>first|exact Ev.nos h|(cases y<;>first|exact Ev.nos h|(cases h;exact#[rfl,rfl]))
def Gx{f:Int×Int->Bool}(st:St3 K ρ S H)(rx:Rep ρ H x v)(ry:Rep ρ H y u)(h:End K xw Rep ρ H Q (Pv.po ((Pv.int2 x y).map λz=>.bl<|f z) S)):rI0 (λi j=>.bl<|f (i,j)) v u H Q:=by
 obtain⟨z,hz,h⟩:=End.map h;obtain⟨rfl,rfl⟩:=ZcD hz;exact#[_,_,rx.int',ry.int',End.ok h st<|Yg _]
def ZfG(st:St3 K ρ S H)(rx:Rep ρ H x v)(ry:Rep ρ H y u)(h:End K xw Rep ρ H Q (Pv.po (Pv.YT .lt x y) S)):rI0 (λi j=>.bl<|af<|i<j) v u H Q\/∃a b A B,x=.tup a/\y=.tup b/\Pv.Yb a=aa A/\Pv.Yb b=aa B/\Q (.bl<|Ev.ltP A B) H:=by
 cases x with
 |tup a=>cases y with
  |tup b=>
   obtain⟨z,hz,h⟩:=End.po h;obtain⟨A,hA,hz⟩:=cJ.mp hz;obtain⟨B,hB,rfl⟩:=cw.mp hz;exact .inr #[a,b,A,B,rfl,rfl,hA,hB,End.ok h st<|Yg _]
  |_=>exact False.elim h
 |_=>exact .inl<|Gx (f:=λz=>af<|z.1<z.2) st rx ry h
end
section
variable{X:Cx}{xw:Nat->Hp->Prop}{C:Calls}{e a b c:Expr}{i j k:E}{pos p p':fO}
def V6{α β γ:Type}(r:R α)(f:α->Zv->R β)(g:β->Zv->R γ):(r.bind f).bind g=r.bind λa S=>(f a S).bind g:=by cases r<;>rfl
def xZ{α:Type}{o:Option α}{f:α->Bool}{z:D}(h:o.map (λa=>Pv.V.bl<|f a)=aa z):∃b,z=.bl b:=by
 obtain⟨a,_,rfl⟩:=cw.mp h;exact#[_,rfl]
def jd{o:Cop}{x y:D}{S S':Zv}{z:D}(h:Pv.po (Pv.YT o x y) S=.ok z S'):∃b,z=.bl b:=by
 have h:Pv.YT o x y=aa z:=by
  cases q:Pv.YT o x y<;>rw[q]at h<;>cases h;rfl
 cases o with
 |lt=>
  cases x with
  |tup a=>
   cases y with|tup b=>obtain⟨A,_,h⟩:=cJ.mp h;exact xZ h|_=>exact Ev.nos h
  |int i=>exact xZ h
  |_=>exact Ev.nos h
 |_=>exact xZ h
def X0(X:Cx)(xw:Nat->Hp->Prop)(op:rB)(o:Cop):Prop:=OpR X (cN op)<|Zby X.K xw o
def OpR.imp(h:OpR X f r)(k:∀v u H Q,r' v u H Q->r v u H Q):OpR X f r':=λpq s σ H x y v u Q I e1 e2 q=>h pq s σ H x y v u Q I e1 e2<|k x y H Q q
theorem Zbo(hu:X.A.units+7<dH):X0 X xw .Eq .eq:=ZeE (by lia)
theorem ZaH(hu:X.A.units+7<dH):X0 X xw .NotEq .ne:=ZdU (by lia)
def QW(hu:X.A.units+7<dH):X0 X xw .LtE .le:=OpR.imp Zfx<|by rintro v u H Q ⟨ρ,S,x,y,st,rx,ry,h⟩;exact Gx st rx ry h
def Zbl(hu:X.A.units+7<dH):X0 X xw .Gt .gt:=OpR.imp ZeW<|by rintro v u H Q ⟨ρ,S,x,y,st,rx,ry,h⟩;exact Gx (f:=λz=>af<|z.2<z.1) st rx ry h
def qW(hu:X.A.units+7<dH):X0 X xw .GtE .ge:=OpR.imp Zfe<|by rintro v u H Q ⟨ρ,S,x,y,st,rx,ry,h⟩;exact Gx st rx ry h
def zB{ρ:Mx}{H:Hp}{x y:D}{u:V}{b:Bool}(ry:Rep ρ H y u)(h:Pv.V1 x y=aa b) :
  (∃ds,(Rep ρ H (.tup ds) u\/Rep ρ H (.lst ds) u)/\Pv.X1 x ds=aa b)\/
  (∃l k ks,Rep ρ H (.dct<|aa l) u/\x=.tup k/\Pv.intsV k=aa ks/\l.contains ks=b):=by
 cases y with
 |tup ys=>exact .inl #[ys,.inl ry,h]
 |lst ys=>exact .inl #[ys,.inr ry,h]
 |dct o=>
  cases o with
  |none=>exact Ev.nos h
  |some l=>
   cases x with
   |tup k=>
    obtain⟨ks,e,z⟩:=cw.mp h;exact .inr #[l,k,ks,ry,rfl,e,z]
   |_=>exact Ev.nos h
 |_=>exact Ev.nos h
def Xv{op:rB}{o:Cop}(hc:X0 X xw op o)(ha:CE X xw C a i)(hb:CE X xw C b j)(hm:eo op b=ai:=by first|exact Z7 _|rfl|(with_unfolding_all rfl)):CE X xw C (.Compare a [op] [b] pos) (.cmp o i j):=
 PE.imp (Zcn hc ha hb hm) (Zd2)
def Xt{op:rB}{o:Cop}(hc:X0 X xw op o)(ha:CE X xw C a i)(hb:CE X xw C b j)(hm:eo op b=ai:=by first|exact Z7 _|rfl|(with_unfolding_all rfl)):CT X xw C (.Compare a [op] [b] pos) (.cmp o i j):=
 PT.imp (ZbW hc ha hb hm)<|by
  rintro σ H Q ⟨ρ,l,S,st,lr,h⟩;have h':End X.K xw VJ ρ H Q (((Pv.pv C i l S).bind λx S=>(Pv.pv C j l S).bind λy S=>Pv.po (Pv.YT o x y) S).bind λx S=>Pv.po (Pv.Zs x) S):=h
  simp only[V6]at h';refine#[ρ,l,S,st,lr,h'.bind λx S1 ρ1 H1 v f1 st1 r1 h1=>#[ρ1,l,S1,st1,lr.mono f1,h1.bind λy S2 ρ2 H2 u f2 st2 r2 h2=>#[ρ2,S2,x,y,st2,r1.mono f2,r2,?_]]]
  have h3:∀{r:R D},(∀z S',r=.ok z S'->∃b,z=.bl b)->End X.K xw VJ ρ2 H2 Q (r.bind λx S=>Pv.po (Pv.Zs x) S)->End X.K xw Rep ρ2 H2 (λx H'=>∃k,x=V.bl k/\Q k H') r:=λ{r} hr h=>by
   cases r with
   |no=>exact h
   |ex _ _=>exact h
   |ok z S3=>
    obtain⟨b,rfl⟩:=hr z S3 rfl;exact λρ3 H3 w f3 st3 r3=>#[b,r3.bl',h ρ3 H3 b f3 st3 rfl]
  exact h3 (λz S' e=>jd e) h2
def Vl{op op':rB}{o o':Cop}{d:Expr}{k:E}(hc:X0 X xw op o)(hc':X0 X xw op' o')(ha:CE X xw C a i)(hb:CE X xw C b j)(hd:CE X xw C d k)
  (hm:lastMarks [op,op'] [b,d]=ai:=by with_unfolding_all rfl):CE X xw C (.Compare a [op,op'] [b,d] pos) (.chain o o' i j k):=
 PE.imp (Zab hc hc' ha hb hd hm)<|by
  rintro σ H Q ⟨ρ,l,S,st,lr,h⟩;refine#[ρ,l,S,st,lr,End.bind (h) λx S1 ρ1 H1 v f1 st1 r1 h1=>#[ρ1,l,S1,st1,lr.mono f1,h1.bind λy S2 ρ2 H2 u f2 st2 r2 h2=>#[ρ2,S2,x,y,st2,r1.mono f2,r2,h2.bind λz S3 ρ3 H3 w f3 st3 r3 h3=>?_]]]
  cases z with
  |bl n=>
   refine#[n,r3.bl',?_];cases n with|true=>exact#[ρ3,l,S3,st3,((lr.mono f1).mono f2).mono f3,End.bind (h3) λt S4 ρ4 H4 t' f4 st4 r4 h4=>#[ρ4,S4,y,t,st4,(r2.mono f3).mono f4,r4,h4]]|false=>exact End.ok h3 st3<|Yg _
  |_=>exact False.elim h3
end
section
variable{X:Cx}{xw:Nat->Hp->Prop}{C:Calls}{e a b c:Expr}{i j k:E}{pos p p' p2:fO}
variable{ρ:Mx}{H:Hp}{S:Zv}{x y:D}{v u:V}{Q:VK}{K:al}
def VL{d:D}{ks:List D}{k:List Int}(h:Pv.intsV (d::ks)=aa k):∃n r,d=.int n/\Pv.intsV ks=aa r/\k=n::r:=by
 cases d<;>first|exact Ev.nos h|(obtain⟨r,e,z⟩:=cw.mp h;exact#[_,r,rfl,e,z.symm])
theorem Vv:∀{ks:List D}{k:List Int}{xs:List V},Pv.intsV ks=aa k->Rq ρ H ks xs->xs=(k.map (fv:Int->Key)).map kV
 |[],k,xs,h,r=>by cases h;rw[r];rfl
 |d::ks,k,xs,h,r=>by
  obtain⟨v,vs,rfl,a1,b1⟩:=r;obtain⟨n,r,rfl,e,rfl⟩:=VL h;rw[a1.int',Vv e b1];rfl
theorem wf:∀{k k':List Int},k.map (fv:Int->Key)=k'.map fv->k=k'
 |[],[],_=>rfl
 |[],_::_,h=>by simp at h
 |_::_,[],h=>by simp at h
 |a::k,b::k',h=>by
  rw[aW,aW]at h;injection h with h1 h2
  rw[fv.inj h1,wf h2]
def QP{k:List Int}{l:List (List Int)}{vs:List (List Key×V)}(h:vs.map (·.1)=l.map (·.map (fv:Int->Key))):(Qz vs<|k.map fv).isSome=l.contains k:=by
 rw[<-zF,show(vs.any λkv=>af<|kv.1=k.map fv)=(vs.map (·.1)).any λy=>af (y=k.map fv) by rw[List.any_map];rfl,h,List.any_map,List.contains_eq_any_beq]
 congr 1
 funext y
 show af (y.map fv=k.map fv)=(k == y);by_cases z:y=k
 .subst z;simp
 .rw[T4 λw=>z<|wf w,beq_eq_false_iff_ne.mpr<|Ne.symm z]
theorem ZdV(hu:X.A.units+7<dH):OpR X (cN .In) (λv u H Q=>∃a y o,u=.ref a/\v=y/\DGet H a y o/\Q (.bl o.isSome) H):=by
 intro pq s σ H v u vv uu Q I e1 e2 h;obtain⟨a,y,o,rfl,rfl,g,q⟩:=h;cases e2;exact Zf2 (by lia) I g e1 λs' I'=>#[.bl o.isSome,H,I',rfl,q]
theorem Zbu(hu:X.A.units+7<dH):OpR X (cN .NotIn) (λv u H Q=>∃a y o,u=.ref a/\v=y/\DGet H a y o/\Q (.bl !o.isSome) H):=by
 intro pq s σ H v u vv uu Q I e1 e2 h;obtain⟨a,y,o,rfl,rfl,g,q⟩:=h;cases e2;exact ZcE (by lia) I g e1 λs' I'=>#[.bl !o.isSome,H,I',rfl,q]
def jA(hu:X.A.units+7<dH):X0 X xw .In .inn:=OpR.imp ((ZdR hu).or<|ZdV hu)<|by
 rintro v u H Q ⟨ρ,S,x,y,st,rx,ry,h⟩;obtain⟨b,hb,h⟩:=End.map h;have q:=End.ok h st<|Yg _;rcases zB ry hb with⟨ds,hy,hb⟩|⟨l,k,ks,hy,rfl,hk,e⟩
 .exact .inl #[ρ,S,x,ds,b,st,rx,hy,hb,q]
 .obtain⟨p,rfl,o,vs,hx,r⟩:=hy.dct'
  obtain⟨a,xs,rfl,ha,r2⟩:=rx.tup';refine .inr #[p,.ref a,_,rfl,rfl,.inr #[vs,_,a,.inr #[o,hx],rfl,by rw[ha,Vv hk r2],rfl],?_]
  rw[QP r,e];exact q
def yA(hu:X.A.units+7<dH):X0 X xw .NotIn .nin:=OpR.imp ((Zcg hu).or<|Zbu hu)<|by
 rintro v u H Q ⟨ρ,S,x,y,st,rx,ry,h⟩;obtain⟨b,hb,h⟩:=End.map h;have q:=End.ok h st<|Yg _;rcases zB ry hb with⟨ds,hy,hb⟩|⟨l,k,ks,hy,rfl,hk,e⟩
 .exact .inl #[ρ,S,x,ds,b,st,rx,hy,hb,q]
 .obtain⟨p,rfl,o,vs,hx,r⟩:=hy.dct'
  obtain⟨a,xs,rfl,ha,r2⟩:=rx.tup';refine .inr #[p,.ref a,_,rfl,rfl,.inr #[vs,_,a,.inr #[o,hx],rfl,by rw[ha,Vv hk r2],rfl],?_]
  rw[QP r,e];exact q
def ZdF(r:Rq ρ H ds xs)(q:Ev.at' ds n=aa d):∃w,atI xs n=aa w/\Rep ρ H d w:=by
 obtain⟨m,q2,q⟩:=cJ.mp q;obtain⟨w,g,rw'⟩:=r.get q;refine#[w,?_,rw'];unfold atI;rw[r.length,show ixN ds.length n=aa m from q2]
 exact g
def Zbq(ha:CE X xw C a i)(hb:CE X xw C b j)(hs:wz b:=by intro _ _;with_unfolding_all rfl):CE X xw C (.Subscript a b pos) (.ix i j):=PE.imp (vz (Uw.or Zd9) ha hb hs) (X6 λ{ρ H S x y v u Q} st rx ry h=>by
 obtain⟨d,hd,g0⟩:=End.po h;have k:∃ds n,Pv.YK x=aa ds/\y=.int n/\Ev.at' ds n=aa d:=by
  cases y with
  |int n=>
   cases x with
   |tup ds=>exact#[ds,n,rfl,rfl,hd]
   |lst ds=>exact#[ds,n,rfl,rfl,hd]
   |scr ns=>
    obtain⟨z,e,rfl⟩:=cw.mp hd;obtain⟨m,q2,q⟩:=cJ.mp e;refine#[_,n,rfl,rfl,?_];unfold Ev.at';rw[aw,q2];show(ns.map Pv.V.int)[m]?=_;rw[aR,q];rfl
   |_=>exact Ev.nos hd
  |_=>cases x<;>exact Ev.nos hd
 obtain⟨ds,n,e,rfl,hn⟩:=k;obtain⟨p,xs,rfl,hp,r⟩:=rx.seq e;obtain⟨w,g,rw'⟩:=ZdF r hn;rw[st.hk]at hp;have q:=End.ok g0 st rw';rcases hp with hp|hp
 .exact .inl #[p,xs,n,w,rfl,ry.int',hp,g,q]
 .exact .inr #[p,xs,n,w,rfl,ry.int',hp,g,q])
def Gm:CO X xw C ae ae:=PO.imp Zcb<|by rintro σ H Q ⟨ρ,l,S,st,lr,h⟩;exact End.ok h st rfl
def Go(h:CE X xw C e i):CO X xw C (aa e) (aa i):=PO.imp (Z9 h)<|by
 rintro σ H Q ⟨ρ,l,S,st,lr,h⟩;refine#[ρ,l,S,st,lr,End.bind (h) λx S1 ρ1 H1 v f1 st1 r1 h1=>?_]
 cases x with|int n=>exact#[n,r1.int',End.ok h1 st1 rfl]|_=>exact False.elim h1
def JE(n d:Nat)(o:Option Int):Ev.sIx n d o=HT.sIx n d o:=by
 cases o with
 |none=>rfl
 |some i=>first|rfl|(rfl)
def vI(r:Rq ρ H ds xs)(lo hi:Option Int):Rq ρ H (Pv.YA ds lo hi) (YA xs lo hi):=by
 unfold Pv.YA YA;rw[JE,JE,r.length];exact(r.drop _).take _
def jM{lo hi:Option Expr}{il ih:Option E}(ha:CE X xw C a i)(hl:CO X xw C lo il)(hh:CO X xw C hi ih):CE X xw C (.Subscript a (.Slice lo hi ae p2) pos) (.sl i il ih):=
 PE.imp (Za8 (Zeo.or<|qM.or Zck) ha hl hh)<|by
  rintro σ H Q ⟨ρ,l,S,st,lr,h⟩;refine#[ρ,l,S,st,lr,End.bind (h) λx S1 ρ1 H1 v f1 st1 r1 h1=>#[ρ1,l,S1,st1,lr.mono f1,h1.bind λy S2 ρ2 H2 u f2 st2 r2 h2=>#[ρ2,l,S2,st2,(lr.mono f1).mono f2,h2.bind λz S3 ρ3 H3 w f3 st3 r3 h3=>?_]]]
  have e1:y=u:=r2;have e2:z=w:=r3;subst e1 e2;have r0:=(r1.mono f2).mono f3;cases x with
  |tup ds=>
   obtain⟨p,xs,rfl,hp,r⟩:=r0.tup';have h':=h3;by_cases hw:HT.sIx xs.length 0 y=0/\HT.sIx xs.length xs.length z=xs.length
   .refine .inr (.inl #[p,xs,rfl,SqT.of hp,hw,End.ok h' st3 ?_])
    have ew:Pv.YA ds y z=ds:=by
     unfold Pv.YA;rw[JE,JE,<-r.length,hw.1,hw.2,ky,Nat.sub_zero,r.length,fY]
    rw[ew];exact XS hp r
   .exact .inl #[p,xs,rfl,SqT.of hp,hw,h'.newT st3<|vI r y z]
  |lst ds=>
   obtain⟨p,xs,rfl,hp,_,r⟩:=r0.lst';exact .inr<|.inr #[p,xs,rfl,SqL.of hp,End.newL (h3) st3<|vI r y z]
  |_=>exact False.elim h3
def Qw(K:al)(xw:Nat->Hp->Prop)(f:Bf):List V->Hp->VK->Prop:=λvs H Q=>∃ρ S ds,St3 K ρ S H/\Rq ρ H ds vs/\End K xw Rep ρ H Q (Pv.po (Pv.X2 f ds) S)
def ZB.imp{r r':List V->Hp->VK->Prop}(h:ZB X f r)(k:∀vs H Q,r' vs H Q->r vs H Q):ZB X f r':=λpq s σ H xs us Q I e q=>h pq s σ H xs us Q I e<|k xs H Q q
def jY :∀σ H Q,tE X xw (Pv.pv C<|.blt f is) σ H Q->tCB (Qw X.K xw f) (tA X xw<|Pv.pvs C is) σ H Q:=λσ H Q #[ρ,l,S,st,lr,h]=>
 #[ρ,l,S,st,lr,End.bind (h) λxs S1 ρ1 H1 vs f1 st1 r1 h1=>#[ρ1,S1,xs,st1,r1,h1]]
def qA(r:Rq ρ H [d] vs):∃v,vs=[v]/\Rep ρ H d v:=by
 obtain⟨v,ws,rfl,a1,b1⟩:=r;exact#[v,by rw[b1],a1]
def vC{d e:D}{vs:List V}(r:Rq ρ H [d,e] vs):∃v w,vs=[v,w]/\Rep ρ H d v/\Rep ρ H e w:=by
 obtain⟨v,ws,rfl,a1,b1⟩:=r;obtain⟨w,rfl,b2⟩:=qA b1;exact#[v,w,rfl,a1,b2]
def WS{rep:Mx->Hp->D->V->Prop}(h:End K xw rep ρ H Q (Pv.po (Pv.X2 f ds) S))(r:Rq ρ H ds vs)(h1:f≠.max2:=by decide)(h2:f≠.min2:=by decide):∃d v z,vs=[v]/\Rep ρ H d v/\Pv.blt1 f d=aa z/\End K xw rep ρ H Q (.ok z S):=by
 obtain⟨z,hz,g⟩:=End.po h
 match ds,hz with
 |[d],hz=>obtain⟨v,rfl,rv⟩:=qA r;exact#[d,v,z,rfl,rv,hz,g]
 |[x,y],hz=>
  have hz:=hz;cases x<;>first|exact Ev.nos hz|(cases y<;>first|exact Ev.nos hz|(cases f<;>first|exact Ev.nos hz|contradiction))
def Zde(h:End K xw Rep ρ H Q (Pv.po (Pv.X2 f ds) S))(r:Rq ρ H ds vs)(h1:∀d,Pv.blt1 f d=ae):∃m n z,vs=[.int m,.int n]/\Pv.blt2 f (.int m) (.int n)=aa z/\End K xw Rep ρ H Q (.ok z S):=by
 obtain⟨z,hz,g⟩:=End.po h
 match ds,hz with
 |[d],hz=>exact Ev.nos<|(h1 d).symm.trans hz
 |[x,y],hz=>
  have hz:=hz;cases x<;>first|exact Ev.nos hz|(cases y<;>first|exact Ev.nos hz|(obtain⟨v,w,rfl,r1,r2⟩:=vC r;exact#[_,_,z,by rw[r1.int',r2.int'],hz,g]))
def vg:ZB X (.builtin "len") (Qw X.K xw .len):=ZB.imp Gq<|by
 rintro vs H Q ⟨ρ,S,ds,st,r,h⟩;obtain⟨d,v,z,rfl,rv,hz,h⟩:=WS h r;obtain⟨xs,hx,rfl⟩:=cw.mp hz;obtain⟨p,ys,rfl,hq,r2⟩:=rv.seq hx;refine#[p,ys,rfl,by rw[<-st.hk];exact hq,?_]
 rw[r2.length];exact End.ok h st<|ZO _
def v4(hc:X.calm=ak):ZB X (.builtin "max") (Qw X.K xw .max2):=ZB.imp (uV hc)<|by
 rintro vs H Q ⟨ρ,S,ds,st,r,h⟩;obtain⟨m,n,z,rfl,hz,h⟩:=Zde h r λ_=>rfl
 cases hz;exact#[m,n,rfl,End.ok h st<|ZO _]
def va(hc:X.calm=ak):ZB X (.builtin "min") (Qw X.K xw .min2):=ZB.imp (uT hc)<|by
 rintro vs H Q ⟨ρ,S,ds,st,r,h⟩;obtain⟨m,n,z,rfl,hz,h⟩:=Zde h r λ_=>rfl
 cases hz;exact#[m,n,rfl,End.ok h st<|ZO _]
def vq:ZB X (.type "int") (Qw X.K xw .toInt):=ZB.imp qj<|by
 rintro vs H Q ⟨ρ,S,ds,st,r,h⟩;obtain⟨d,v,z,rfl,r1,hz,h⟩:=WS h r;cases d with|int m=>cases hz;exact .inl #[m,by rw[r1.int'],End.ok h st<|ZO _]|bl m=>cases hz;exact .inr #[m,by rw[r1.bl'],End.ok h st<|ZO _]|_=>exact Ev.nos hz
def Q3:ZB X (.type "tuple") (Qw X.K xw .tuple):=ZB.imp QN<|by
 rintro vs H Q ⟨ρ,S,ds,st,r,h⟩;obtain⟨d,v,z,rfl,r1,hz,h⟩:=WS h r;cases d with|tup ds=>cases hz;obtain⟨p,xs,rfl,hp,r2⟩:=r1.tup';exact#[p,xs,rfl,.inr #[SqT.of hp,End.ok h st r1]]|lst ds=>cases hz;obtain⟨p,xs,rfl,hp,_,r2⟩:=r1.lst';exact#[p,xs,rfl,.inl #[SqL.of hp,h.newT st r2]]|scr ns=>cases hz;obtain⟨p,rfl,hp⟩:=r1.scr';rw[st.hk]at hp;exact#[p,_,rfl,.inl #[hp.sq,h.newT st<|Rq.ints ns]]|_=>exact Ev.nos hz
def Xm{f:Bf}{id:String}{x:bi}{es:List Expr}{is:List E}(hc:ZB X (.builtin id) (Qw X.K xw f))(hm:X.mg x=ae)(ha:CA X xw C (e::es) is)(hg:Gl X x:=by rfl)(hv:dv x=aa (.builtin id):=by rfl)(hn:x≠"__name__":=by decide)(hdb:(x == ("__debug__" : bi))=ai:=by decide)
  (he:az (e::es) X.env=(ai,bY e X.env)::az es X.env:=by rfl)(hpl:(dz pos<|az es X.env).any (·.1)=ai:=by rfl):CE X xw C (.Call (.Name x p) (e::es) [] pos) (.blt f is):=
 PE.imp (XG hc hg hm hv ha hn hdb he hpl) jY
def Ui{f:Bf}{id:String}{x:bi}{es:List Expr}{is:List E}(hc:ZB X (.type id) (Qw X.K xw f))(hm:X.mg x=ae)(ha:CA X xw C (e::es) is)(hg:Gl X x:=by rfl)(hv:dv x=aa (.type id):=by rfl)(hn:x≠"__name__":=by decide)(hdb:(x == ("__debug__" : bi))=ai:=by decide)
  (he:az (e::es) X.env=(ai,bY e X.env)::az es X.env:=by rfl)(hpl:(dz pos<|az es X.env).any (·.1)=ai:=by rfl):CE X xw C (.Call (.Name x p) (e::es) [] pos) (.blt f is):=
 PE.imp (Jo hc hg hm hv ha hn hdb he hpl) jY
end
section
variable{X:Cx}{xw:Nat->Hp->Prop}{C:Calls}{e a b c:Expr}{i j k:E}{pos p p' p2:fO}
theorem WC:∀{ds:List D}{bs:List Bool},Pv.ZT ds=aa bs->bs.length=ds.length/\∀j d,ds[j]?=aa d->Pv.UA d=aa (bs.getD j ai)
 |[],bs,h=>by cases h;exact#[rfl,λj d e=>by simp at e]
 |d::ds,bs,h=>by
  unfold Pv.ZT at h;cases q1:Pv.UA d with
  |none=>rw[q1]at h;cases h
  |some b=>
   cases q2:Pv.ZT ds with
   |none=>rw[q1,q2]at h;cases h
   |some cs=>
    rw[q1,q2]at h;cases h;obtain⟨l,ih⟩:=WC q2;refine#[by rw[aJ,aJ,l],λj d' e=>?_]
    cases j with|zero=>simp at e;subst e;simpa using q1|succ j=>simpa using ih j d' (by simpa using e)
def uR(bs:List Bool):(aH bs.length).all (λj=>bs.getD j ai)=bs.all id:=by
 rw[cS,aS,aS]
 constructor
 .intro h b hb
  obtain⟨j,hj,e⟩:=cW hb;have:=h j<|bu.mpr hj
  simpa[ag hj,e]using this
 .intro h j hj
  have hj':=bu.mp hj
  simpa[ag hj']using h bs[j]<|ba hj'
def uL(bs:List Bool):(aH bs.length).any (λj=>bs.getD j ai)=bs.any id:=by
 rw[cS,fX,fX]
 constructor
 .rintro ⟨j,hj,h⟩
  have hj':=bu.mp hj;exact#[bs[j],ba hj',by simpa[ag hj']using h]
 .rintro ⟨b,hb,h⟩
  obtain⟨j,hj,e⟩:=cW hb;exact#[j,bu.mpr hj,by simpa[ag hj,e]using h]
def Va(r:Rep ρ H d v)(e:Zx v u)(h:Pv.UA d=aa n)(s:aA)(Q:Bool->aA->Prop)(E:aq->aA->Prop)(q:Q n s) :
  bn (aV prog w) A (rn u) Q E s:=by
 cases d with
 |non=>cases r.non';cases e;cases h;exact truthy_none q
 |bl b=>cases r.bl';cases e;cases h;exact dU q
 |int m=>
  cases r.int';obtain⟨t,rfl⟩:=e;have h':=am h;refine m8 ?_;have:(m != 0)=n:=by
   rw[<-h'];by_cases z:m=0
   .subst z;rfl
   .rw[T5 z];exact bne_iff_ne.mpr z
  rw[this];exact q
 |_=>cases h
def ux(hc:X.calm=ak):ZB X (.builtin "all") (λvs H Q=>∃ρ ds v bs,vs=[v]/\Rep ρ H (.lst ds) v/\Pv.ZT ds=aa bs/\Q (.bl<|bs.all id) H):=by
 intro pq s σ H vs us Q I r h;obtain⟨ρ,ds,v,bs,rfl,rs,hb,q⟩:=h;obtain⟨p,xs,rfl,hx,_,rx⟩:=rs.lst';obtain⟨u,rfl,ru⟩:=Ww r;cases ru;obtain⟨its,rv,pl,hz⟩:=I.list<|SqL.of hx;obtain⟨lb,tb⟩:=WC hb;have hlt:p<s.heap.objs.size:=by obtain⟨_,e,_⟩:=pl.isList;exact aO e
 have hlen:its.toArray.size=bs.length:=by rw[aK,<-rv.length,rx.length,lb]
 refine call_all_walk<|gX pl.isList #[s.heap.objs.size,[s.heap.objs.size,p],[s.heap.objs.size],its.toArray.size,(λi v=>its.toArray[i]?=aa v),(λi h=>h.IsListIter s.heap.objs.size p i/\h.IsList p its.toArray),λj=>bs.getD j ai,rfl,Walks.list (A:=X.A.in1) (I.ok.hd hc) s.heap.objs.size p (bD hlt) its.toArray,#[#[_,aQ _ rfl,rfl,rfl],pl.isList.push _],?_,?_]
 .intro j v s' Q' E' hv hQ'
  have hj:its[j]?=aa v:=by simpa using hv
  have jl:j<ds.length:=by
   have:=(aE.mp hj).1;rw[<-rv.length,rx.length]at this;exact this
  obtain⟨w',g,r'⟩:=rx.get<|ag jl;obtain⟨u',g',ru'⟩:=rv.get g;rw[hj]at g';cases g';exact Va r' ru' (tb j _<|ag jl) s' Q' E' hQ'
 .intro h' tk hk
  rw[hlen,uR];have kp:=λb o e=>hk b o (λhm=>by
   have:b=s.heap.objs.size:=by simpa using hm
   exact T7 (this▸aO e)<|bS _)<|ax _ e
  exact#[.bl<|bs.all id,H,I.kept (t':=tk) kp,rfl,q]
def vD(hc:X.calm=ak):ZB X (.builtin "all") (Qw X.K xw .all):=ZB.imp (ux hc)<|by
 rintro vs H Q ⟨ρ,S,ds,st,r,h⟩;obtain⟨d,v,z,rfl,r1,hz,h⟩:=WS h r;cases d with|lst ds=>obtain⟨bs,hb,rfl⟩:=cw.mp hz;exact#[ρ,ds,v,bs,rfl,r1,hb,End.ok h st<|Yg _]|_=>exact Ev.nos hz
noncomputable def ZP:Ty->String
 |.int=>"int" | .bool=>"bool" | .str=>"str" | .tuple=>"tuple" | .list=>"list" | .dict=>"dict" | .cls _=>""
def xE{K:al}{ρ:Mx}{H:Hp}{x:D}{v:V}{t:Ty}{n:Bool}(rx:Rep ρ H x v)(ht:∀m,t≠.cls m)(h:Pv.Yr x t=aa n) :
  ∃tv,TyOf K H v tv/\fP K tv (.type<|ZP t)=aa n:=by
 cases x with
 |non=>rw[rx.non'];refine#[_,.non,?_];cases h;cases t<;>first|rfl|exact T7 rfl<|ht _
 |bl b=>rw[rx.bl'];refine#[_,.bl b,?_];cases h;cases t<;>first|rfl|exact T7 rfl<|ht _
 |int b=>rw[rx.int'];refine#[_,.int b,?_];cases h;cases t<;>first|rfl|exact T7 rfl<|ht _
 |str b=>rw[rx.str'];refine#[_,.str b,?_];cases h;cases t<;>first|rfl|exact T7 rfl<|ht _
 |tup ds=>
  obtain⟨p,xs,rfl,hp,_⟩:=rx.tup';refine#[_,.tup hp,?_];cases h;cases t<;>first|rfl|exact T7 rfl<|ht _
 |lst ds=>
  obtain⟨p,xs,rfl,hp,_⟩:=rx.lst';refine#[_,.lst hp,?_];cases h;cases t<;>first|rfl|exact T7 rfl<|ht _
 |dct o=>
  cases o with
  |some _=>exact Ev.nos h
  |none=>
   obtain⟨p,rfl,⟨_,e⟩|⟨_,e⟩⟩:=rx.dct'
   .refine#[_,.dT e,?_];cases h;cases t<;>first|rfl|exact T7 rfl<|ht _
   .refine#[_,.dK e,?_];cases h;cases t<;>first|rfl|exact T7 rfl<|ht _
 |_=>exact Ev.nos h
def qZ(T:String):ZB X (.builtin "isinstance") (λvs H Q=>∃v tv n,vs=[v,.ty T]/\TyOf X.K H v tv/\fP X.K tv (.type T)=aa n/\Q (.bl n) H):=by
 intro pq s σ H vs us Q I r h;obtain⟨v,tv,n,rfl,ty,e,q⟩:=h;obtain⟨u,w',rfl,r1,r2⟩:=yf r;cases r2;exact ua I r1 ty e λtk=>#[.bl n,H,I.tok tk,rfl,q]
def VG{T:bi}{t:Ty}(ht:∀m,t≠.cls m)(hm:X.mg "isinstance" = ae)(hmT:X.mg T=ae)(ha:CE X xw C a i)(hg:Gl X "isinstance":=by rfl)(hgT:Gl X T:=by rfl)(hvT:dv T=aa (.type<|ZP t):=by rfl)(hnT:T≠"__name__":=by decide)(hdT:(T == ("__debug__" : bi))=ai:=by decide)
  (hs1:az [a,.Name T p2] X.env=(ai,bY a X.env)::az [.Name T p2] X.env:=by rfl)(hs2:az [.Name T p2] X.env=(ai,bY (.Name T p2) X.env)::az [] X.env:=by rfl)(hpl:(dz pos<|az [.Name T p2] X.env).any (·.1)=ai:=by rfl) :
  CE X xw C (.Call (.Name "isinstance" p) [a,.Name T p2] [] pos) (.isi i [t]):=
 PE.imp (XG (qZ<|ZP t) hg hm (by rfl) (Zw ha (Zw (Uo (v:=.ty<|ZP t) hgT hmT hvT rfl hnT hdT) Yf hs2) hs1) (by decide) (by decide) hs1 hpl)<|by
  rintro σ H Q ⟨ρ,l,S,st,lr,h⟩;refine#[ρ,l,S,st,lr,End.bind (h) λx S1 ρ1 H1 v f1 st1 r1 h1=>?_]
  obtain⟨n,hn,h2⟩:=End.ob h1;have hn':Pv.Yr x t=aa n:=by
   unfold Pv.ZY at hn;cases q:Pv.Yr x t with|none=>rw[q]at hn;cases hn|some m=>rw[q]at hn;cases m<;>exact hn
  obtain⟨tv,ty,e⟩:=xE r1 ht hn';exact#[v,tv,n,rfl,ty,e,End.ok h2 st1<|Yg _]
def Ze3(P:bH)(w:bV)(K:al)(a:aC)(tab:List (Int×Int)):Prop:=(a == eE)=ai/\∃f:Int->Option aq,(∀h:ck,K.In h->h.MapOf (i4 P w) a f)/\∀k,(tab.lookup k=ae->f k=ae)/\∀j,tab.lookup k=aa j->∃t,f k=aa (.int j t)
def J9:CE X xw C (.Dict [] [] pos) .dnew:=PE.imp Za2 λσ H Q #[ρ,l,S,st,lr,h]=>λp hp=>
 (h) ρ _ _ (Zu hp) (st.fresh hp) (by exact#[p,rfl,.inl #[[],Zl]])
def XT(fr:Bool)(H0:Hp)(ρ:Mx)(H:Hp)(d:D)(v:V):Prop:=Rep ρ H d v/\(fr=ak->∀ds,d=.lst ds->∃a,v=.ref a/\H0 a=ae)
theorem End.fr{K:al}{xw:Nat->Hp->Prop}{ρ:Mx}{H H0:Hp}{Q:VK}{r:R D}{fr:Bool}(h:End K xw Rep ρ H Q r):End K xw (XT fr H0) ρ H Q r:=by
 cases r with|ok d S=>exact λρ' H' v f st r=>h ρ' H' v f st r.1|_=>exact h
end
abbrev Own:=Nat->Option aC
noncomputable def Mx.ex(ρ:Mx)(W:Own):Mx:=#[ρ.K,ρ.n0,λa=>ρ.X a\/∃i,W i=aa a,λa h=>.inl<|ρ.xz a h]
mutual
theorem Rep.flat(hk:ρ'.K=ρ.K)(k:∀a o,H a=aa o->(∀xs,o≠.lst xs)->H' a=aa o):∀{d:D}{v:V},d.flat=ak->Rep ρ H d v->Rep ρ' H' d v
 |.non,_,_,h|.bl _,_,_,h|.int _,_,_,h|.str _,_,_,h=>by exact h
 |.tup ds,v,f,h=>by
  obtain⟨a,xs,e,t,r⟩:=h;exact#[a,xs,e,k a _ t (λ_ z=>by cases z),r.flat hk k<|by exact f]
 |.scr ns,v,_,h=>by
  unfold Rep at h ⊢;obtain⟨a,e,t⟩:=h;rw[hk];refine#[a,e,?_];rcases t with⟨o,t⟩|t
  .exact .inl #[o,k a _ t λ_ z=>by cases z]
  .exact .inr t
 |.lst _,_,f,_|.drw,_,f,_|.dct _,_,f,_=>by cases f
theorem Rq.flat(hk:ρ'.K=ρ.K)(k:∀a o,H a=aa o->(∀xs,o≠.lst xs)->H' a=aa o):∀{ds:List D}{xs:List V},Pv.Z1 ds=ak->Rq ρ H ds xs->Rq ρ' H' ds xs
 |[],_,_,h=>by exact h
 |d::ds,xs,f,h=>by
  obtain⟨v,vs,e,r,rs⟩:=h;have f:=(aB _ _).mp f;exact#[v,vs,e,r.flat hk k f.1,rs.flat hk k f.2]
end
structure Eu(ρ:Mx)(H0:Hp)(W:Own)(l:Lc)(os:List Nat)(σ:L2.St)(H:Hp):Prop where
 fut:Fut ρ H0 ρ H
 xd:∀a,ρ.X a->H0 a≠ae
 len:l.length=σ.length
 osW:∀i,os.contains i=(W i).isSome
 inj:∀i j a,W i=aa a->W j=aa a->i=j
 new:∀i a,W i=aa a->H0 a=ae
 own:∀i a,W i=aa a->∃xs us,l[i]?=aa (aa<|.lst xs)/\Pv.Z1 xs=ak/\σ[i]?=aa (aa<|.ref a)/\H a=aa (.lst us)/\Rq ρ H xs us
 val:∀(i:Nat)(d:D),l[i]?=aa (aa d)->W i=ae->∃v,σ[i]?=aa (aa v)/\Rep (ρ.ex W) H d v
section
variable{K:al}{ρ:Mx}{H0 H H':Hp}{W W':Own}{l:Lc}{os:List Nat}{σ:L2.St}{S:Zv}
def Lat.unex:Lat (ρ.ex W) H ρ H:=#[rfl,rfl,λ_ _ h _ _=>h,λ_ _ x=>.inl x]
theorem Fut.ex(f:Fut ρ H ρ H'):Fut (ρ.ex W) H (ρ.ex W) H':=#[rfl,f.keep]
def St3.unex(st:St3 K (ρ.ex W) S H):St3 K ρ S H:=#[st.hk,λa x=>st.xd a<|.inl x,st.dw,st.tb]
def Eu.nx(h:Eu ρ H0 W l os σ H)(e:W i=aa a):¬ρ.X a:=λz=>h.xd a z<|h.new i a e
theorem Eu.st(h:Eu ρ H0 W l os σ H)(st:St3 K ρ S H):St3 K (ρ.ex W) S H:=
 #[st.hk,λa x=>x.elim (st.xd a) λ#[i,e]=>by(obtain⟨_,_,_,_,_,z,_⟩:=h.own i a e;rw[z];intro q;cases q),st.dw,st.tb]
def Zdv(f:Fut ρ H ρ H')(x:¬ρ.X a)(h:H a=aa o)(n:∀ps,o≠.tbl ps:=by intro _ z;cases z):H' a=aa o:=(f.keep a o h).elim id λz=>z.elim (λz=>T7 (ρ.xz a z.1) x)<|by rintro ⟨⟨ps,e⟩,_⟩;exact T7 e<|n ps
def Eu.all(h:Eu ρ H0 W l os σ H):LocR ρ H l σ:=#[h.len,λi v e=>by
 cases q:W i with
 |none=>obtain⟨d,a,b⟩:=h.val i v e q;exact#[d,a,b.lat Lat.unex]
 |some n=>
  obtain⟨xs,us,a,b,c,d,r⟩:=h.own i n q;rw[a]at e;cases e;exact#[_,c,Wl d (h.nx q) r]]
def ZaN(e:(Pv.hide os l)[i]?=aa (aa v)):l[i]?=aa (aa v)/\os.contains i=ai:=by
 unfold Pv.hide at e;rw[iH]at e;cases q:l[i]? with
 |none=>rw[q]at e;cases e
 |some o=>
  rw[q]at e;have e':(if os.contains i=ak then ae else o)=aa v:=am e
  by_cases c:os.contains i=ak
  .rw[T9 c]at e';cases e'
  .rw[T8 c]at e';exact#[by rw[e'],by simpa using c]
def hide_nil:Pv.hide [] l=l:=by
 unfold Pv.hide;refine cZ λi=>?_
 rw[iH];cases l[i]?<;>rfl
def Eu.nW(h:Eu ρ H0 W l os σ H){i:Nat}(b:os.contains i=ai):W i=ae:=by
 rw[h.osW]at b;cases q:W i with|none=>rfl|some _=>rw[q]at b;cases b
def Eu.hid(h:Eu ρ H0 W l os σ H):LocR (ρ.ex W) H (Pv.hide os l) σ:=#[by unfold Pv.hide;rw[List.length_mapIdx];exact h.len,λi v e=>by
 obtain⟨a,b⟩:=ZaN e;exact h.val i v a<|h.nW b]
theorem Eu.mono(h:Eu ρ H0 W l os σ H)(f:Fut ρ H ρ H'):Eu ρ H0 W l os σ H':=
 #[h.fut.trans f,h.xd,h.len,h.osW,h.inj,h.new,λi a q=>by
  obtain⟨xs,us,p,b,c,d,r⟩:=h.own i a q;exact#[xs,us,p,b,c,Zdv f (h.nx q) d,r.mono f],λi v a b=>by
  obtain⟨d,c,r⟩:=h.val i v a b;exact#[d,c,r.mono f.ex]]
def Gf{α:Type}{l:List (Option α)}{i j:Nat}{o:Option α}{v:α}(e:(l.set i o)[j]?=aa (aa v)):(i=j/\o=aa v/\i<l.length)\/(i≠j/\l[j]?=aa (aa v)):=by
 rw[nL]at e;by_cases c:i=j
 .rw[T9 c]at e
  by_cases z:i<l.length
  .rw[T9 z]at e;exact .inl #[c,am e,z]
  .rw[T8 z]at e;cases e
 .rw[T8 c]at e;exact .inr #[c,e]
theorem Eu.set{i:Nat}{o:Option D}{v:V}(h:Eu ρ H0 W l os σ H)(hi:os.contains i=ai)(r:∀d,o=aa d->Rep (ρ.ex W) H d v):Eu ρ H0 W (l.set i o) os (σ.set i<|aa v) H:=by
 have hw:=h.nW hi;refine#[h.fut,h.xd,by rw[bz,bz];exact h.len,h.osW,h.inj,h.new,λj n q=>?_,λj w e q=>?_]
 .obtain⟨xs,us,a,b,c,e⟩:=h.own j n q
  have ij:i≠j:=λz=>by rw[z,q]at hw;cases hw
  exact#[xs,us,by rw[bc ij];exact a,b,by rw[bc ij];exact c,e]
 .rcases Gf e with⟨rfl,z,hl⟩|⟨c,z⟩
  .exact#[v,bg (by rw[<-h.len];exact hl),r w z]
  .rw[bc c];exact h.val j w z q
noncomputable def UP:List Nat->List V->L2.St->L2.St
 |i::t,x::xs,σ=>UP t xs<|σ.set i<|aa x
 |_,_,σ=>σ
theorem Eu.fill:∀{t:List Nat}{vs:List D}{us:List V}{l l':Lc}{σ:L2.St},Eu ρ H0 W l os σ H->(t.any os.contains)=ai->Rq (ρ.ex W) H vs us->Pv.XF t vs l=aa l'->us.length=t.length/\Eu ρ H0 W l' os (UP t us σ) H
 |[],[],_,l,l',σ,h,_,r,e=>by rw[r];cases e;exact#[rfl,h]
 |[],_::_,_,_,_,_,_,_,_,e=>by cases e
 |_::_,[],_,_,_,_,_,_,_,e=>by cases e
 |i::t,v::vs,_,l,l',σ,h,ht,r,e=>by
  obtain⟨d,ds,rfl,a,b⟩:=r;rw[fc,Bool.or_eq_false_iff]at ht;obtain⟨z,q⟩:=Eu.fill (h.set ht.1 λ_ z=>by cases z;exact a) ht.2 b e
  exact#[by rw[aJ,aJ,z],q]
def tGU(K:al)(t:List Nat):TG:=λv σ H Q=>match t with
 |[i]=>Q (σ.set i<|aa v) H
 |t=>∃a xs,v=.ref a/\(SqT K H a xs\/H a=aa (.lst xs))/\xs.length=t.length/\Q (UP t xs σ) H
def Eu.assign{Q:L2.St->Hp->Prop}(h:Eu ρ H0 W l os σ H)(ht:(t.any os.contains)=ai)(r:Rep (ρ.ex W) H d v)(e:Pv.Zp t d l=aa l')(q:∀σ',Eu ρ H0 W l' os σ' H->Q σ' H):tGU K t v σ H Q:=by
 have gen:∀t:List Nat,(t.any os.contains)=ai->(match Pv.qD d with
   |some xs=>Pv.XF t xs l
   |none=>ae)=aa l'->∃a xs,v=.ref a/\(SqT K H a xs\/H a=aa (.lst xs))/\xs.length=t.length/\Q (UP t xs σ) H:=by
  intro t ht e;cases d with|tup vs=>obtain⟨p,ds,rfl,hp,rs⟩:=r.tup';obtain⟨z,y⟩:=h.fill ht rs e;exact#[p,ds,rfl,.inl<|SqT.of hp,z,q _ y]|lst vs=>obtain⟨p,ds,rfl,hp,_,rs⟩:=r.lst';obtain⟨z,y⟩:=h.fill ht rs e;exact#[p,ds,rfl,.inr hp,z,q _ y]|_=>cases e
 match t,ht,e with
 |[i],ht,e=>cases e;exact q _<|h.set (by simpa using ht) λ_ z=>by cases z;exact r
 |[],ht,e=>exact gen [] ht e
 |i::j::t,ht,e=>exact gen (i::j::t) ht e
noncomputable def noW(W:Own)(i:Nat):Own:=λj=>if j=i then ae else W j
def XU{i j:Nat}{a:aC}(z:noW W i j=aa a):j≠i/\W j=aa a:=by
 unfold noW at z;by_cases c:j=i
 .rw[T9 c]at z;cases z
 .rw[T8 c]at z;exact#[c,z]
theorem Lat.noW{i:Nat}:Lat (ρ.ex W) H (ρ.ex<|noW W i) H:=#[rfl,rfl,λ_ _ h _ _=>h,λ_ _ x=>x.elim .inl λ#[j,e]=>.inr #[j,(XU e).2]]
def WJ{i:Nat}(h:∀i,os.contains i=(W i).isSome)(j:Nat):(os.filter (· != i)).contains j=(noW W i j).isSome:=by
 unfold noW;by_cases c:j=i
 .simp[c]
 .simp only[c,if_false]
  rw[<-h j,cS,io,io,db];simp[c]
def Eu.drop{i:Nat}{o:Option D}{v:V}(h:Eu ρ H0 W l os σ H)(r:∀d,o=aa d->Rep (ρ.ex<|noW W i) H d v):Eu ρ H0 (noW W i) (l.set i o) (os.filter (· != i)) (σ.set i<|aa v) H:=by
 refine#[h.fut,h.xd,by rw[bz,bz];exact h.len,WJ h.osW,λa b n x y=>h.inj a b n (XU x).2 (XU y).2,λj n z=>h.new j n (XU z).2,λj n z=>?_,λj w e z=>?_]
 .obtain⟨xs,us,a,b,c,e⟩:=h.own j n (XU z).2
  have ij:i≠j:=Ne.symm (XU z).1;exact#[xs,us,by rw[bc ij];exact a,b,by rw[bc ij];exact c,e]
 .rcases Gf e with⟨rfl,e,hl⟩|⟨c,e⟩
  .exact#[v,bg (by rw[<-h.len];exact hl),r w e]
  .rw[bc c]
   unfold Sd.noW at z;rw[T8<|Ne.symm c]at z;obtain⟨d',a,b⟩:=h.val j w e z;exact#[d',a,b.lat Lat.noW]
noncomputable def uO(W:Own)(i:Nat)(a:aC):Own:=λj=>if j=i then aa a else W j
def Eu.take(h:Eu ρ H0 W l os σ H)(hd:∀a,ρ.X a->H a≠ae)(f:Fut ρ H ρ H')(hn:H a=ae)(hf:Pv.Z1 xs=ak)(r:Rep (ρ.ex W) H' (.lst xs) (.ref a))(hi:i<l.length) :
  Eu ρ H0 (uO W i a) (l.set i<|aa<|.lst xs) (i::os.filter (· != i)) (σ.set i<|aa<|.ref a) H':=by
 obtain⟨_,us,en,hs,hx,rs⟩:=r.lst';cases en;have h1:=h.mono f;have get:∀{j m},uO W i a j=aa m->(j=i/\a=m)\/(j≠i/\W j=aa m):=λ{j m} z=>by
  unfold uO at z;by_cases c:j=i
  .rw[T9 c]at z;exact .inl #[c,am z]
  .rw[T8 c]at z;exact .inr #[c,z]
 have na:=h.fut.new hn hd;have lt:Lat (ρ.ex W) H (ρ.ex<|uO W i a) H':=#[rfl,rfl,f.ex.lat.keep',λb hb x=>by
  rcases x with x|⟨j,x⟩
  .exact .inl x
  .rcases get x with⟨_,z⟩|⟨_,z⟩
   .exact T7 hn<|z▸hb
   .exact .inr #[j,z]]
 refine#[h1.fut,h.xd,by rw[bz,bz];exact h.len,λj=>?_,λp q m x y=>?_,λj m z=>?_,λj m z=>?_,λj w q z=>?_]
 .have:=WJ (i:=i) h.osW j
  unfold uO;by_cases c:j=i
  .simp[c]
  .unfold noW at this
   rw[T8 c]at this ⊢;rw[List.contains_cons,this,beq_eq_false_iff_ne.mpr c,iD]
 .rcases get x with⟨x1,x2⟩|⟨x1,x2⟩<;>rcases get y with⟨y1,y2⟩|⟨y1,y2⟩
  .rw[x1,y1]
  .exact T7 (.inr #[q,x2▸y2]) hx
  .exact T7 (.inr #[p,y2▸x2]) hx
  .exact h.inj p q m x2 y2
 .rcases get z with⟨_,z⟩|⟨_,z⟩
  .exact z▸na
  .exact h.new j m z
 .rcases get z with⟨z1,z2⟩|⟨z1,z2⟩
  .subst z1 z2
   exact#[xs,us,bg hi,hf,bg (by rw[<-h.len];exact hi),hs,rs.lat Lat.unex]
  .obtain⟨ys,vs,p,b,c,q⟩:=h1.own j m z2
   exact#[ys,vs,by rw[bc<|Ne.symm z1];exact p,b,by rw[bc<|Ne.symm z1];exact c,q]
 .unfold uO at z
  by_cases c:j=i
  .rw[T9 c]at z;cases z
  .rw[T8 c]at z
   rw[bc<|Ne.symm c]at q ⊢;obtain⟨d,p,b⟩:=h.val j w q z;exact#[d,p,b.lat lt]
def Eu.mut(h:Eu ρ H0 W l os σ H)(hw:W i=aa a)(hf:Pv.Z1 ys=ak)(r:Rq ρ H ys us):Eu ρ H0 W (l.set i<|aa<|.lst ys) os σ (upd H a<|.lst us):=by
 obtain⟨xs,vs,p,b,c,e,_⟩:=h.own i a hw;have hi:=(aE.mp p).1;have kp:∀b o,H b=aa o->(∀xs,o≠.lst xs)->upd H a (.lst us) b=aa o:=λb o z n=>by
  rw[Zj λq=>n vs<|by rw[q,e]at z;exact(am z).symm];exact z
 refine#[#[rfl,λb o z=>?_],h.xd,by rw[bz];exact h.len,h.osW,h.inj,h.new,λj m z=>?_,λj w q z=>?_]
 .rw[Zj λq=>by rw[q,h.new i a hw]at z;cases z]
  exact h.fut.keep b o z
 .by_cases k:i=j
  .subst k
   rw[hw]at z;cases z;exact#[ys,us,bg hi,hf,c,Zl,r.flat rfl kp hf]
  .obtain⟨zs,ws,a',b',c',e',r'⟩:=h.own j m z
   exact#[zs,ws,by rw[bc k];exact a',b',c',by rw[Zj λq:m=a=>k<|h.inj i j a hw<|q▸z];exact e',r'.flat rfl kp b']
 .have k:i≠j:=λk=>by rw[<-k,hw]at z;cases z
  rw[bc k]at q;obtain⟨d,a',b'⟩:=h.val j w q z;exact#[d,a',b'.lat #[rfl,rfl,λm o hs nx _=>by rw[Zj λq:m=a=>nx vs (by rw[q,e]at hs;exact(am hs).symm)<|.inr #[i,q▸hw]];exact hs,λ_ _ q=>q]]
def St3.mut{K:al}{i:Nat}{a:aC}{us:List V}(st:St3 K ρ S H)(h:Eu ρ H0 W l os σ H)(hw:W i=aa a):St3 K ρ S (upd H a<|.lst us):=by
 obtain⟨xs,vs,p,b,c,e,_⟩:=h.own i a hw;have ne:∀b,ρ.X b->b≠a:=λb x z=>h.nx hw<|z▸x
 exact#[st.hk,λb x=>by rw[Zj<|ne b x];exact st.xd b x,λb x=>by rw[Zj<|ne b<|ρ.xz b x];exact st.dw b x,st.tb.upd (λo u z=>by rw[e]at z;cases z) λ_ z=>by cases z]
structure Base(ρ:Mx)(H0 H1:Hp):Prop where
 fut:Fut ρ H0 ρ H1
 dom:∀a,H1 a=ae->H0 a=ae
def Eu.rebase(b:Base ρ H0 H1)(x:∀a,ρ.X a->H0 a≠ae)(h:Eu ρ H1 W l os σ H):Eu ρ H0 W l os σ H:=#[b.fut.trans h.fut,x,h.len,h.osW,h.inj,λi a e=>b.dom a<|h.new i a e,h.own,h.val]
open Classical in
noncomputable def QD(H:Hp)(W:Own):Hp:=λa=>if ∃i,W i=aa a then ae else H a
def Eu.off(h:Eu ρ H0 W l os σ H)(hd:∀a,ρ.X a->H a≠ae):Base ρ H0 (QD H W)/\Eu ρ (QD H W) W l os σ H:=by
 have nw:∀a,H0 a≠ae->QD H W a=H a:=λa z=>T8 λ#[i,e]=>z<|h.new i a e
 refine#[#[#[rfl,λa o e=>?_],λa e=>?_],#[rfl,λa o e=>.inl ?_],λa x=>?_,h.len,h.osW,h.inj,λi a e=>T9 #[i,e],h.own,h.val]
 .rw[nw a<|by rw[e];intro z;cases z];exact h.fut.keep a o e
 .cases q:H0 a with
  |none=>rfl
  |some o=>
   rw[nw a<|by rw[q];intro z;cases z]at e
   rw[h.fut.new e hd]at q;cases q
 .unfold QD at e
  split at e
  .cases e
  .exact e
 .rw[nw a<|h.xd a x];exact hd a x
def Eu.walk(h:Eu ρ H0 W l os σ H)(h':Eu ρ (QD H W) W' l' os' σ' H'):Lat (ρ.ex W) H (ρ.ex W') H':=by
 refine#[rfl,rfl,λa o e x n=>?_,λa e x=>?_]
 .have nw:¬∃i,W i=aa a:=by
   rintro ⟨i,w⟩;obtain⟨_,us,_,_,_,z,_⟩:=h.own i a w;rw[e]at z;exact x us (am z)<|.inr #[i,w]
  rcases h'.fut.keep a o (by unfold QD;rw[T8 nw];exact e)with z|⟨z,xs,q⟩|⟨⟨ps,q⟩,_⟩
  .exact z
  .exact T7 (.inl<|ρ.xz a z)<|x xs q
  .exact T7 q<|n ps
 .rcases x with x|⟨i,x⟩
  .exact .inl x
  .have:=h'.new i a x
   unfold QD at this;split at this
   .exact .inr ‹_›
   .exact T7 this e
end
section
variable(X:Cx)(xw:Nat->Hp->Prop)(C:Calls)
def tF(f:Lc->Zv->R D):TE:=λσ H Q=>∃ρ l S,St3 X.K ρ S H/\LocR ρ H l σ/\End X.K xw (XT ak H) ρ H Q (f l S)
def CF(e:Expr)(i:E):Prop:=PE X e<|tF X xw<|Pv.pv C i
end
def CF.ce{X:Cx}{xw:Nat->Hp->Prop}{C:Calls}{e:Expr}{i:E}(h:CF X xw C e i):CE X xw C e i:=PE.imp h<|by rintro σ H Q ⟨ρ,l,S,st,lr,h⟩;exact #[ρ,l,S,st,lr,h.fr]
def End.newF{K:al}{xw:Nat->Hp->Prop}{ρ:Mx}{H0 H:Hp}{Q:VK}{S S0:Zv}{ds:List D}{xs:List V}(h:End K xw (XT ak H0) ρ H Q (.ok (.lst ds) S))(f:Fut ρ H0 ρ H)(s0:St3 K ρ S0 H0)(st:St3 K ρ S H)(r:Rq ρ H ds xs):∀p,H p=ae->Q (.ref p) (upd H p<|.lst xs):=λp hp=>
 h ρ _ _ (Zu hp) (st.fresh hp) #[Wl Zl (st.nx hp)<|r.mono<|Zu hp,λ_ _ _=>#[p,rfl,f.new hp st.xd]]
def zE(K:al)(xw:Nat->Hp->Prop)(f:Bf):List V->Hp->VK->Prop:=λvs H Q=>∃ρ S ds,St3 K ρ S H/\Rq ρ H ds vs/\∃H0 S0,Fut ρ H0 ρ H/\St3 K ρ S0 H0/\End K xw (XT ak H0) ρ H Q (Pv.po (Pv.X2 f ds) S)
def vO{xw:Nat->Hp->Prop}:∀σ H Q,tF X xw (Pv.pv C<|.blt f is) σ H Q->tCB (zE X.K xw f) (tA X xw<|Pv.pvs C is) σ H Q:=λσ H Q #[ρ,l,S,st,lr,h]=>
 #[ρ,l,S,st,lr,End.bind (h) λxs S1 ρ1 H1 vs f1 st1 r1 h1=>by cases f1.eq;exact#[ρ,S1,xs,st1,r1,H,S,f1,st,h1]]
def Jz{X:Cx}{xw:Nat->Hp->Prop}{C:Calls}{e:Expr}{pos p:fO}{f:Bf}{id:String}{x:bi}{es:List Expr}{is:List E}(hc:ZB X (.builtin id) (zE X.K xw f))(hm:X.mg x=ae)(ha:CA X xw C (e::es) is)(hg:Gl X x:=by rfl)(hv:dv x=aa (.builtin id):=by rfl)(hn:x≠"__name__":=by decide)(hdb:(x == ("__debug__" : bi))=ai:=by decide)
  (he:az (e::es) X.env=(ai,bY e X.env)::az es X.env:=by rfl)(hpl:(dz pos<|az es X.env).any (·.1)=ai:=by rfl):CF X xw C (.Call (.Name x p) (e::es) [] pos) (.blt f is):=
 PE.imp (XG hc hg hm hv ha hn hdb he hpl) vO
def JG{X:Cx}{xw:Nat->Hp->Prop}{C:Calls}{e:Expr}{pos p:fO}{f:Bf}{id:String}{x:bi}{es:List Expr}{is:List E}(hc:ZB X (.type id) (zE X.K xw f))(hm:X.mg x=ae)(ha:CA X xw C (e::es) is)(hg:Gl X x:=by rfl)(hv:dv x=aa (.type id):=by rfl)(hn:x≠"__name__":=by decide)(hdb:(x == ("__debug__" : bi))=ai:=by decide)
  (he:az (e::es) X.env=(ai,bY e X.env)::az es X.env:=by rfl)(hpl:(dz pos<|az es X.env).any (·.1)=ai:=by rfl):CF X xw C (.Call (.Name x p) (e::es) [] pos) (.blt f is):=
 PE.imp (Jo hc hg hm hv ha hn hdb he hpl) vO
def yw{X:Cx}{xw:Nat->Hp->Prop}:ZB X (.type "list") (zE X.K xw .list):=ZB.imp JA<|by
 rintro vs H Q ⟨ρ,S,ds,st,r,H0,S0,f0,s0,h⟩;obtain⟨d,v,z,rfl,r1,hz,h⟩:=WS h r;obtain⟨xs,hx,rfl⟩:=cw.mp hz;obtain⟨p,ys,rfl,hq,r2⟩:=r1.seq hx;exact#[p,ys,rfl,by rw[<-st.hk];exact hq,h.newF f0 s0 st r2]
def ZK(fr:Bool)(K:al)(xw:Nat->Hp->Prop)(ρ:Mx)(H0:Hp)(D:Ends):R Pv.FlV->Prop
 |.ok (.nx l os) S=>∀H' σ' W',St3 K ρ S H'->Eu ρ H0 W' l os σ' H'->D.nx σ' H'
 |.ok (.ret d) S=>∀H' v,Fut ρ H0 ρ H'->St3 K ρ S H'->XT fr H0 ρ H' d v->D.rt v H'
 |.ex c S=>∀H',Fut ρ H0 ρ H'->St3 K ρ S H'->xw c H'
 |.no=>False
section
variable{fr:Bool}{K:al}{xw:Nat->Hp->Prop}{ρ:Mx}{H0 H:Hp}{α β:Type}{rep:Mx->Hp->α->β->Prop}{D:Ends}{W:Own}{l:Lc}{os:List Nat}{σ:L2.St}{S:Zv}
theorem ZK.bind{Q1:β->Hp->Prop}(he:Eu ρ H0 W l os σ H)(h:ZK fr K xw ρ H0 D (r.bind f))
  (k:∀d S H1 v,Fut ρ H ρ H1->St3 K ρ S H1->rep ρ H1 d v->ZK fr K xw ρ H0 D (f d S)->Q1 v H1):End K xw rep ρ H Q1 r:=by
 cases r with|ok d S=>exact λρ1 H1 v g st r=>by cases g.eq;exact k d S H1 v g st r h|ex c S=>exact λρ1 H1 g st=>by cases g.eq;exact h H1 (he.fut.trans g) st|no=>exact h
def ZK.bindW{Q1:β->Hp->Prop}(he:Eu ρ H0 W l os σ H)(h:ZK fr K xw ρ H0 D (r.bind f))
  (k:∀d S H1 v,Fut ρ H ρ H1->St3 K ρ S H1->rep (ρ.ex W) H1 d v->ZK fr K xw ρ H0 D (f d S)->Q1 v H1):End K xw rep (ρ.ex W) H Q1 r:=by
 cases r with|ok d S=>exact λρ1 H1 v g st r=>by cases g.eq;exact k d S H1 v #[rfl,g.keep] st.unex r h|ex c S=>exact λρ1 H1 g st=>by cases g.eq;exact h H1 (he.fut.trans #[rfl,g.keep]) st.unex|no=>exact h
def ZK.ob(h:ZK fr K xw ρ H0 D ((Pv.po o S).bind f)):∃a,o=aa a/\ZK fr K xw ρ H0 D (f a S):=by
 cases o with|none=>exact h.elim|some a=>exact#[a,rfl,h]
def ZK.guard{c:Prop}[Decidable c](h:ZK fr K xw ρ H0 D (if c then a else .no)):c/\ZK fr K xw ρ H0 D a:=by
 split at h
 .exact#[‹_›,h]
 .exact h.elim
def ZK.guardN{c:Prop}[Decidable c](h:ZK fr K xw ρ H0 D (if c then .no else a)):¬c/\ZK fr K xw ρ H0 D a:=by
 split at h
 .exact h.elim
 .exact#[‹_›,h]
theorem ZK.rebase(b:Base ρ H0 H1)(x:∀a,ρ.X a->H0 a≠ae)(h:ZK fr K xw ρ H0 D r):ZK fr K xw ρ H1 D r:=by
 cases r with
 |ok f S=>
  cases f with|nx l os=>exact λH' σ' W' st e=>h H' σ' W' st<|e.rebase b x|ret d=>exact λH' v f st r=>h H' v (b.fut.trans f) st #[r.1,λz ds y=>let #[a,e,q]:=r.2 z ds y;#[a,e,b.dom a q]]
 |ex c S=>exact λH' f st=>h H' (b.fut.trans f) st
 |no=>exact h
end
section
variable(X:Cx)(xw:Nat->Hp->Prop)(fr:Bool)
def tS3(f:Lc->List Nat->Zv->R Pv.FlV):TS:=λD σ H=>∃ρ H0 W l os S,St3 X.K ρ S H/\Eu ρ H0 W l os σ H/\ZK fr X.K xw ρ H0 D (f l os S)
variable(C:Calls)(ms:List Nat)
def CS(st:eJ)(s:Sm):Prop:=PS X st<|tS3 X xw fr<|Pv.rv C ms s
def CSs(st:List eJ)(s:List Sm):Prop:=PSs X st<|tS3 X xw fr<|Pv.rvs C ms s
def CG(tg:Expr)(t:List Nat):Prop:=PG X tg<|tGU X.K t
def Zgb(t:List Nat):TGs:=λvs σ H Q=>vs.length=t.length/\Q (UP t vs σ) H
def CGs(tgs:List Expr)(t:List Nat):Prop:=PGs X tgs<|Zgb t
end
def PS.imp(h:PS X e t)(k:∀D σ H,t' D σ H->t D σ H):PS X e t':=λpq s σ H D I q=>h pq s σ H D I<|k D σ H q
def PSs.imp(h:PSs X e t)(k:∀D σ H,t' D σ H->t D σ H):PSs X e t':=λpq s σ H D I q=>h pq s σ H D I<|k D σ H q
def PG.imp(h:PG X e t)(k:∀v σ H Q,t' v σ H Q->t v σ H Q):PG X e t':=λpq s σ H v u Q I r q=>h pq s σ H v u Q I r<|k v σ H Q q
def PGs.imp(h:PGs X e t)(k:∀v σ H Q,t' v σ H Q->t v σ H Q):PGs X e t':=λpq s σ H v u Q I r q=>h pq s σ H v u Q I r<|k v σ H Q q
section
variable{X:Cx}{xw:Nat->Hp->Prop}{fr:Bool}{C:Calls}{ns:List Nat}{e a b c:Expr}{i j k:E}{pos p p' p2:fO}{s0:eJ}{ss:List eJ}{m0:Sm}{ms ms':List Sm}
def yW{es:List Expr}{is:List E}(h:CA X xw C es is):CF X xw C (.List es pos) (.lst is):=PE.imp (UL h)<|by
 rintro σ H Q ⟨ρ,l,S,st,lr,h⟩;rw[Pv.pv]at h;refine#[ρ,l,S,st,lr,h.bind λxs S1 ρ1 H1 vs f1 st1 r1 h1=>?_]
 obtain⟨hl,h1⟩:=h1.guard;cases f1.eq;exact#[by rw[r1.length,<-WM];exact hl,h1.newF f1 st st1 r1]
def yK:CSs X xw fr C ns [] []:=PSs.imp Gy<|by rintro D σ H ⟨ρ,H0,W,l,os,S,st,he,h⟩;exact h H σ W st he
def JV(h1:CS X xw fr C ns s0 m0)(h2:CSs X xw fr C ns ss ms):CSs X xw fr C ns (s0::ss) (m0::ms):=PSs.imp (Yp h1 h2)<|by
 rintro D σ H ⟨ρ,H0,W,l,os,S,st,he,h⟩;refine#[ρ,H0,W,l,os,S,st,he,?_];rw[Pv.rvs]at h;cases q:Pv.rv C ns m0 l os S with
 |no=>rw[q]at h;exact h
 |ex c S1=>rw[q]at h;exact h
 |ok fl S1=>
  rw[q]at h;cases fl with|nx l1 os1=>exact λH1 σ1 W1 st1 he1=>#[ρ,H0,W1,l1,os1,S1,st1,he1,h]|_=>exact h
def xK(he:CE X xw C e i):CS X xw ai C ns (.Return (aa e) pos) (.ret i):=PS.imp (VX he)<|by
 rintro D σ H ⟨ρ,H0,W,l,os,S,st,en,h⟩;rw[Pv.rv]at h;exact#[ρ,l,S,st,en.all,ZK.bind en h λx S1 H1 v f1 st1 r1 h1=>h1 H1 v (en.fut.trans f1) st1 #[r1,λz=>by cases z]]
def zQ{K:al}{ρ:Mx}{H0 H:Hp}{W:Own}{l:Lc}{os:List Nat}{σ:L2.St}{S:Zv}{a:aC}(en:Eu ρ H0 W l os σ H)(st:St3 K ρ S H)(h:H a=ae):H0 a=ae:=en.fut.new h st.xd
def JI(he:CF X xw C e i):CS X xw fr C ns (.Return (aa e) pos) (.ret i):=PS.imp (VX he)<|by
 rintro D σ H ⟨ρ,H0,W,l,os,S,st,en,h⟩;rw[Pv.rv]at h;exact#[ρ,l,S,st,en.all,ZK.bind en h λx S1 H1 v f1 st1 r1 h1=>h1 H1 v (en.fut.trans f1) st1 #[r1.1,λ_ ds y=>let #[a,e,q]:=r1.2 rfl ds y;#[a,e,zQ en st q]]]
def GI{n:Nat}{is:List E}(he:CE X xw C e (.call n is))(hs:eB e ae pos.line X.env=cD ai:=by rfl):CS X xw fr C ns (.Expr e pos) (.ex<|.call n is):=PS.imp (Uh he hs) λD σ H #[ρ,H0,W,l,os,S,st,en,h]=>
 #[ρ,l,S,st,en.all,ZK.bind en (h) λx S1 H1 v f1 st1 r1 h1=>h1 H1 σ W st1<|en.mono f1]
def qR{sa sb:List eJ}(hc:CT X xw C c k)(ha:CSs X xw fr C ns sa ms)(hb:CSs X xw fr C ns sb ms'):CS X xw fr C ns (.If c sa sb pos) (.ite k ms ms'):=PS.imp (Zas hc ha hb)<|by
 rintro D σ H ⟨ρ,H0,W,l,os,S,st,en,h⟩;rw[Pv.rv]at h;refine#[ρ,l,S,st,en.all,ZK.bind en h λx S1 H1 v f1 st1 r1 h1=>?_]
 have e1:x=v:=r1;subst e1;cases x with|true=>exact#[ρ,H0,W,l,os,S1,st1,en.mono f1,h1]|false=>exact#[ρ,H0,W,l,os,S1,st1,en.mono f1,h1]
def GJ{n:Nat}{x:bi}(hN:X.N.Nodup)(hi:X.N[n]?=aa x:=by rfl)(hx:L2.Loc X.env.scope x:=by first|exact fS rfl|exact ei rfl)(hf:X.fn x=ak\/X.env.scope.names.lookup x=aa .local:=by first|exact .inl rfl|exact .inr rfl):CG X (.Name x pos) [n]:=
 PG.imp (Ur hN hi hx hf) λv σ H Q q=>q
def JM:CGs X [] []:=PGs.imp Zcr<|by
 rintro vs σ H Q ⟨h,q⟩;cases vs with|nil=>exact#[rfl,q]|cons _ _=>cases h
def UY{tgs:List Expr}{n:Nat}{t:List Nat}{x:bi}(hN:X.N.Nodup)(h2:CGs X tgs t)(hi:X.N[n]?=aa x:=by rfl)(hx:L2.Loc X.env.scope x:=by first|exact fS rfl|exact ei rfl)(hf:X.fn x=ak\/X.env.scope.names.lookup x=aa .local:=by first|exact .inl rfl|exact .inr rfl)
  (hs:(cy (.Name x pos::tgs) X.env).map (·.2)=ej (.Name x pos) X.env::(cy tgs X.env).map (·.2):=by rfl):CGs X (.Name x pos::tgs) (n::t):=
 PGs.imp (Zbr (Ur hN hi hx hf) h2 hs)<|by
  rintro vs σ H Q ⟨h,q⟩;cases vs with|nil=>cases h|cons v vs=>exact#[v,vs,rfl,Nat.succ.inj h,q]
theorem QU{E:aq->aA->Prop}(hne:t≠it):∀(n i:Nat)(s:aA)(Q:List aq->aA->Prop),s.heap.IsListIter it t i->s.heap.IsList t items->i+n<=items.size->
  (∀h',ck.IsListIter h' it t (i+n)->fU it s.heap h'->Q ((items.toList.drop i).take n) {s with heap:=h' })->bn (aV prog w) A (draw (.ref it) n) Q E s
 |0,i,s,Q,hit,_,_,hQ=>by
  exact aF (by simpa using hQ s.heap hit<|fU.refl ..)
 |n+1,i,s,Q,hit,ht,hle,hQ=>by
  have hlt:i<items.size:=by lia
  refine aj<|lH hit ht (x:=items[i]) (by simp[hlt]) λh₁ hit₁ hs₁=>?_
  refine aj<|cU<|QU hne n (i+1) _ _ hit₁ (ht.extBut hs₁.extBut hne) (by lia) λh₂ hit₂ hs₂=>aF ?_
  have hd:items.toList.drop i=items[i]::items.toList.drop (i+1):=by simp[cq,hlt]
  have:=hQ h₂ (by rw[show i+(n+1)=i+1+n by lia];exact hit₂)<|hs₁.trans hs₂
  rw[hd,List.take_succ_cons]at this;exact this
theorem zy{E:aq->aA->Prop}{x1}{Q:Unit->aA->Prop}(hh:A.handled=ae)(ht:s.heap.IsList t items)
  (hn:(cy elts env).length=items.size)(hstar:(cy elts env).findIdx? (·.1)=ae)
  (h:∀h',iI s.heap.objs.size s.heap h'->bn (aV prog w) A (assignInOrder ((cy elts env).map (·.2)) items.toList) Q E {s with heap:=h' }) :
  bn (aV prog w) A (ej (.Tuple elts x1 pos) env<|.ref t) Q E s:=by
 rw[assign_Tuple];refine aj<|eX ?_;have hlt:t≠s.heap.objs.size:=by obtain⟨o,ho,_⟩:=ht;exact bD<|aO ho
 unfold unpack;rw[hn,hstar];refine aj<|cU ?_;refine aj ?_;refine aj<|wpAny_specialOf ht.typeIs slot_list_iter.lookup ?_;refine aF ?_;simp only[cP,if_false];refine aj<|cU<|gX ht ?_;refine aj<|cU<|QU hlt items.size 0 _ _ #[_,aQ _ rfl,rfl,rfl] (ht.push _) (by lia) λh₁ hit₁ hs₁=>?_
 have hall:mF items.size (oz 0 items.toList)=items.toList:=by
  rw[ky];exact cQ (by simp)
 rw[hall];rw[T8<|by simp]
 have ht₁:=(ht.push _).extBut hs₁.extBut hlt;refine aj<|cU<|l4 hh hit₁ ht₁ (by simp) λh₂ he₂=>?_
 simp only[Option.isSome_none,cP,if_false];exact aF<|h h₂ λb o hb e=>he₂ b o hb<|hs₁.extBut b o hb<|ax _ e
def gTL(K:al)(n:Nat)(t:TGs):TG:=λv σ H Q=>∃a xs,v=.ref a/\(SqT K H a xs\/H a=aa (.lst xs))/\xs.length=n/\t xs σ H Q
def ZfD{X:Cx}{pos:fO}{es:List Expr}{k:Nat}{t:TGs}{n:Nat}(hc:X.calm=ak)(h:PGs X es t)
  (hn:(cy es X.env).length=n:=by rfl)(hst:(cy es X.env).findIdx? (·.1)=ae:=by rfl):PG X (.Tuple es k pos) (gTL X.K n t):=by
 intro pq s σ H v u Q I r hw;obtain⟨a,xs,e1,hq|hq,hl,hw⟩:=hw
 .exact Zeh hc h hn hst pq s σ H v u Q I r #[a,xs,e1,hq,hl,hw]
 .subst e1
  cases r;obtain⟨its,rv,pl,hz⟩:=I.list<|SqL.of hq;refine zy (I.ok.hd hc) pl.isList (by simp[hn,<-hl,rv.length]) hst λh' hx=>?_
  have I1:=I.kept (t':=s.toks) λb o e=>hx b o (bD<|aO e) e
  exact h pq _ σ H xs _ Q I1 (by simpa using rv) hw
def wa{tgs:List Expr}{q2:Nat}{n m:Nat}{r:List Nat}(hc:X.calm=ak)(h:CGs X tgs (n::m::r))(hn:(cy tgs X.env).length=(n::m::r).length:=by rfl)(hst:(cy tgs X.env).findIdx? (·.1)=ae:=by rfl):CG X (.Tuple tgs q2 pos) (n::m::r):=
 PG.imp (ZfD hc h hn hst)<|by rintro v σ H Q ⟨a,xs,e,hp,hl,q⟩;exact #[a,xs,e,hp,hl,hl,q]
def ZK.evA{D:Ends}{K:al}{ρ:Mx}{H0 H:Hp}{W:Own}{l:Lc}{os:List Nat}{σ:L2.St}{S:Zv}{f:Pv.V->Zv->R Pv.FlV}{Q1:VK}(z:Bool)(st:St3 K ρ S H)(en:Eu ρ H0 W l os σ H)(h:ZK fr K xw ρ H0 D ((Pv.pvA C i l os S).bind f))
  (k:∀d S1 H1 v,Fut ρ H ρ H1->St3 K ρ S1 H1->XT z H (ρ.ex W) H1 d v->ZK fr K xw ρ H0 D (f d S1)->Q1 v H1):∃ρ' l' S,St3 K ρ' S H/\LocR ρ' H l' σ/\End K xw (XT z H) ρ' H Q1 (Pv.pv C i l' S):=by
 have hid:ZK fr K xw ρ H0 D ((Pv.pv C i (Pv.hide os l) S).bind f)->∃ρ' l' S,St3 K ρ' S H/\LocR ρ' H l' σ/\End K xw (XT z H) ρ' H Q1 (Pv.pv C i l' S):=λh=>#[ρ.ex W,Pv.hide os l,S,en.st st,en.hid,ZK.bindW en h k]
 cases os with
 |nil=>exact hid (by rw[hide_nil];exact h)
 |cons o os=>
  have h:ZK fr K xw ρ H0 D (Pv.PR.bind (match Pv.pv C i (Pv.hide (o::os) l) S with
   |.ok v s=>.ok v s
   |.ex c s=>.ex c s
   |.no=>(Pv.pv C i l S).bind λv s=>if v.flat then .ok v s else .no) f):=h
  cases q:Pv.pv C i (Pv.hide (o::os) l) S with
  |ok v s=>rw[q]at h;exact hid (by rw[q];exact h)
  |ex c s=>rw[q]at h;exact hid (by rw[q];exact h)
  |no=>
   rw[q]at h;have h:=h
   rw[V6]at h;refine#[ρ,l,S,st,en.all,ZK.bind en h λd S1 H1 v f1 st1 r1 h1=>?_]
   by_cases c:d.flat=ak
   .rw[T9 c]at h1
    exact k d S1 H1 v f1 st1 #[Rep.flat (ρ:=ρ) (ρ':=ρ.ex W) rfl (λ_ _ z _=>z) c r1.1,r1.2] h1
   .rw[T8 c]at h1;exact h1.elim
def End.unfr{K:al}{ρ:Mx}{H H0:Hp}{Q:VK}{r:R D}(h:End K xw (XT ai H0) ρ H Q r):End K xw Rep ρ H Q r:=by
 cases r with|ok d S=>exact λρ' H' v f st r=>h ρ' H' v f st #[r,λz=>by cases z]|_=>exact h
def JX{n:Nat}{tg:Expr}(he:CE X xw C e i)(hg:CG X tg [n])(hf:(ns.contains n&&Pv.fresh i)=ai:=by rfl)(hs:eY [tg] e pos.line X.env=cD ai:=by rfl)(hw:eZ [tg] e X.env=cD ae:=by rfl)
  (h1:(cy [tg] X.env).map (·.2)=[ej tg X.env]:=by rfl):CS X xw fr C ns (.Assign [tg] e pos) (.asg [n] i):=PS.imp (Vy he hg hs hw h1)<|by
 rintro D σ H ⟨ρ,H0,W,l,os,S,st,en,h⟩;rw[Pv.rv]at h;obtain⟨ρ',l',S',a,b,c⟩:=ZK.evA ai st en h λd S1 H1 v f1 st1 r1 h1=>by
  rw[hf,T8 aN]at h1;exact h1 H1 _ _ st1<|(en.mono f1).drop λ_ z=>by cases z;exact r1.1.lat Lat.noW
 exact#[ρ',l',S',a,b,c.unfr]
def Zd0{D:Ends}{ρ:Mx}{H0 H:Hp}{W:Own}{l:Lc}{os:List Nat}{σ:L2.St}{S:Zv}{n:Nat}(st:St3 X.K ρ S H)(en:Eu ρ H0 W l os σ H)(h:ZK fr X.K xw ρ H0 D (Pv.rv C ns (.asg [n] i) l os S)):tF X xw (Pv.pv C i) σ H λx H1=>D.nx (σ.set n<|aa x) H1:=by
 rw[Pv.rv]at h;refine ZK.evA ak st en h λd S1 H1 v f1 st1 r1 h1=>?_
 by_cases c:(ns.contains n&&Pv.fresh i)=ak
 .rw[T9 c]at h1
  cases d with
  |lst xs=>
   obtain⟨⟨hf,hl⟩,h1⟩:=ZK.guard h1;obtain⟨a,rfl,ha⟩:=r1.2 rfl xs rfl;exact h1 H1 _ _ st1<|en.take st.xd f1 ha hf r1.1 hl
  |_=>exact h1.elim
 .rw[T8 c]at h1
  exact h1 H1 _ _ st1<|(en.mono f1).drop λ_ z=>by cases z;exact r1.1.lat Lat.noW
def GE{n:Nat}{tg:Expr}(he:CF X xw C e i)(hg:CG X tg [n])(hs:eY [tg] e pos.line X.env=cD ai:=by rfl)(hw:eZ [tg] e X.env=cD ae:=by rfl)
  (h1:(cy [tg] X.env).map (·.2)=[ej tg X.env]:=by rfl):CS X xw fr C ns (.Assign [tg] e pos) (.asg [n] i):=PS.imp (Vy he hg hs hw h1)<|by rintro D σ H ⟨ρ,H0,W,l,os,S,st,en,h⟩;exact Zd0 st en h
def yL{n m:Nat}{t:List Nat}{tg:Expr}(he:CE X xw C e i)(hg:CG X tg (n::m::t))(hs:eY [tg] e pos.line X.env=cD ai:=by rfl)(hw:eZ [tg] e X.env=cD ae:=by rfl)
  (h1:(cy [tg] X.env).map (·.2)=[ej tg X.env]:=by rfl):CS X xw fr C ns (.Assign [tg] e pos) (.asg (n::m::t) i):=PS.imp (Vy he hg hs hw h1)<|by
 rintro D σ H ⟨ρ,H0,W,l,os,S,st,en,h⟩;rw[Pv.rv]at h
 .obtain⟨ρ',l',S',a,b,c⟩:=ZK.evA (Q1:=λx H1=>tGU X.K (n::m::t) x σ H1 D.nx) ai st en h λd S1 H1 v f1 st1 r1 h1=>by
   obtain⟨ht,h1⟩:=h1.guardN;obtain⟨l',hl,h1⟩:=ZK.ob h1;exact(en.mono f1).assign (by simpa using ht) r1.1 hl λσ' e'=>h1 H1 σ' W st1 e'
  exact#[ρ',l',S',a,b,c.unfr]
 .intro _ z;cases z
end
theorem XJ:∀{a b:List D},Pv.Z1 a=ak->Pv.Z1 b=ak->Pv.Z1 (a++b)=ak
 |[],_,_,h=>h
 |x::a,b,h,h'=>by
  rw[lm,Pv.Z1]at *;have:=(aB _ _).mp h;rw[this.1,XJ this.2 h'];rfl
theorem Eu.at{ρ:Mx}{H0 H:Hp}{W:Own}{l:Lc}{os:List Nat}{σ:L2.St}{i:Nat}{xs:List D}(h:Eu ρ H0 W l os σ H)(hi:os.contains i=ak)(hx:Pv.wB l[i]?=aa xs):∃a,W i=aa a/\Pv.Z1 xs=ak/\σ[i]?=aa (aa<|.ref a)/\∃us,H a=aa (.lst us)/\Rq ρ H xs us:=by
 rw[h.osW]at hi;obtain⟨a,w⟩:=cV.mp hi;obtain⟨ys,us,p,b,c,e,r⟩:=h.own i a w;rw[p]at hx;cases hx;exact#[a,w,b,c,us,e,r]
section
variable{X:Cx}{xw:Nat->Hp->Prop}{fr:Bool}{C:Calls}{ns:List Nat}{e a b c:Expr}{i j k:E}{pos p p' p2:fO}{s0:eJ}{ms ms':List Sm}{n:Nat}{x:bi}
def VW{apos cpos:fO}(he:CE X xw C e i)(hN:X.N[n]?=aa x:=by rfl)(hv:Vis X.env.scope x:=by first|exact fS rfl|exact ei<|fS rfl|exact ei<|ei rfl)(hd:(x == ("__debug__" : bi))=ai:=by decide)
  (hcd:(x == ("__classdict__" : bi))=ai:=by decide)
  (hbase:mS (.Name x p) "append" X.env (bY (.Name x p) X.env)=bY (.Name x p) X.env:=by rfl)
  (hfew:((dz cpos<|az [e] X.env).all (λx=>!x.1)&&(backToKw cpos<|oP [] X.env).all (λx=>x.1.isSome)
   && af (([e]:List Expr).length+([]:List nI).length+(if([]:List nI).isEmpty then 0 else 1)<30))=ak:=by rfl)
  (hline:(apos.endLine == cpos.line)=ak:=by rfl)(hs:az [e] X.env=(ai,bY e X.env)::az [] X.env:=by rfl)(hplain:(dz cpos<|az [] X.env).any (·.1)=ai:=by rfl)
  (hw:eB (.Call (.Attribute (.Name x p) "append" apos) [e] [] cpos) ae pos.line X.env=cD ai:=by rfl) :
  CS X xw fr C ns (.Expr (.Call (.Attribute (.Name x p) "append" apos) [e] [] cpos) pos) (.ex<|.mt .append (.v n) [i]):=
 PS.imp (Uh (zU dW kU kW VM (Yk hN hv hd hcd) (Zw he Yf hs) hbase hfew hline hs hplain) hw)<|by
 rintro D σ H ⟨ρ,H0,W,l,os,S,st,en,h⟩;rw[Pv.rv]at h;obtain⟨c,h⟩:=h.guard;obtain⟨xs,hx,h⟩:=ZK.ob h;obtain⟨a,ha,_,q,us,e1,_⟩:=en.at c hx;refine#[.ref a,q,.inl #[rfl,us,SqL.of e1],ρ,l,S,st,en.all,ZK.bind en h λy S1 H1 v f1 st1 r1 h1=>?_]
 obtain⟨⟨hf,hl⟩,h1⟩:=h1.guard;have en1:=en.mono f1;obtain⟨a',ha',hg,_,us,e2,r'⟩:=en1.at c hx;rw[ha]at ha';cases ha';exact#[a,us,v,rfl,rfl,e2,by rw[r'.length,<-WM];exact hl,h1 _ _ W (st1.mut en1 ha)<|en1.mut ha (XJ hg<|by rw[Pv.Z1,hf];rfl)<|r'.append<|Rq.cons r1 Rq.nil]
def VH{apos cpos:fO}(he:CE X xw C e i)(hN:X.N[n]?=aa x:=by rfl)(hv:Vis X.env.scope x:=by first|exact fS rfl|exact ei<|fS rfl|exact ei<|ei rfl)(hd:(x == ("__debug__" : bi))=ai:=by decide)
  (hcd:(x == ("__classdict__" : bi))=ai:=by decide)
  (hbase:mS (.Name x p) "extend" X.env (bY (.Name x p) X.env)=bY (.Name x p) X.env:=by rfl)
  (hfew:((dz cpos<|az [e] X.env).all (λx=>!x.1)&&(backToKw cpos<|oP [] X.env).all (λx=>x.1.isSome)
   && af (([e]:List Expr).length+([]:List nI).length+(if([]:List nI).isEmpty then 0 else 1)<30))=ak:=by rfl)
  (hline:(apos.endLine == cpos.line)=ak:=by rfl)(hs:az [e] X.env=(ai,bY e X.env)::az [] X.env:=by rfl)(hplain:(dz cpos<|az [] X.env).any (·.1)=ai:=by rfl)
  (hw:eB (.Call (.Attribute (.Name x p) "extend" apos) [e] [] cpos) ae pos.line X.env=cD ai:=by rfl) :
  CS X xw fr C ns (.Expr (.Call (.Attribute (.Name x p) "extend" apos) [e] [] cpos) pos) (.ex<|.mt .extend (.v n) [i]):=
 PS.imp (Uh (zU dW PySem.F.slot_list_extend PySem.F.type_list_extend uS (Yk hN hv hd hcd) (Zw he Yf hs) hbase hfew hline hs hplain) hw)<|by
 rintro D σ H ⟨ρ,H0,W,l,os,S,st,en,h⟩;rw[Pv.rv]at h;obtain⟨c,h⟩:=h.guard;obtain⟨xs,hx,h⟩:=ZK.ob h;obtain⟨a,ha,_,q,us,e1,_⟩:=en.at c hx;refine#[.ref a,q,.inl #[rfl,us,SqL.of e1],ρ.ex W,Pv.hide os l,S,en.st st,en.hid,ZK.bindW en h λy S1 H1 v f1 st1 r1 h1=>?_]
 cases y with
 |lst ys=>
  obtain⟨⟨hf,hl⟩,h1⟩:=ZK.guard h1;have en1:=en.mono f1;obtain⟨a',ha',hg,_,us,e2,r'⟩:=en1.at c hx;rw[ha]at ha';cases ha';obtain⟨b,ws,rfl,e3,_,r3⟩:=r1.lst';have r3:=r3.lat Lat.unex;exact#[a,b,us,ws,rfl,rfl,e2,e3,by rw[r'.length,r3.length,<-WM];exact hl,h1 _ _ W (st1.mut en1 ha)<|en1.mut ha (XJ hg hf)<|r'.append r3]
 |_=>exact h1.elim
def xb{m:Nat}{y:bi}{px py:fO}(hN:X.N.Nodup)(hj:X.N[m]?=aa y:=by rfl)(hv:Vis X.env.scope y:=by first|exact fS rfl|exact ei<|fS rfl|exact ei<|ei rfl)(hd:(y == ("__debug__" : bi))=ai:=by decide)
  (hcd:(y == ("__classdict__" : bi))=ai:=by decide)(hi:X.N[n]?=aa x:=by rfl)(hx:L2.Loc X.env.scope x:=by first|exact fS rfl|exact ei rfl)(hf:X.fn x=ak\/X.env.scope.names.lookup x=aa .local:=by first|exact .inl rfl|exact .inr rfl)
  (hs:eY [.Name x px] (.Name y py) pos.line X.env=cD ai:=by rfl)(hw:eZ [.Name x px] (.Name y py) X.env=cD ae:=by rfl)
  (h1:(cy [.Name x px] X.env).map (·.2)=[ej (.Name x px) X.env]:=by rfl):CS X xw fr C ns (.Assign [.Name x px] (.Name y py) pos) (.mov n m):=
 PS.imp (Vy (Yk hj hv hd hcd) (Ur hN hi hx hf) hs hw h1)<|by
 rintro D σ H ⟨ρ,H0,W,l,os,S,st,en,h⟩;rw[Pv.rv]at h;obtain⟨c,h⟩:=h.guard;obtain⟨c1,c⟩:=(aB _ _).mp c;obtain⟨c2,c3⟩:=(aB _ _).mp c;have c3:n≠m:=T6 c3;have c2:os.contains n=ai:=by simpa using c2
 obtain⟨xs,hx,h⟩:=ZK.ob h;obtain⟨a,ha,hf,q,us,e1,r⟩:=en.at c1 hx;have nx:=en.nx ha;refine#[.ref a,q,h H _ (noW W m) st ?_];have e:=en.drop (i:=m) (o:=ae) (v:=.ref a) λ_ z=>by cases z
 have hl:=(aE.mp q).1;rw[show σ.set m (aa<|.ref a)=σ by
  have:=(aE.mp q).2;rw[<-this];exact List.set_getElem_self hl]at e
 have e:=e.set (o:=aa<|.lst xs) (by
  rw[WJ en.osW];unfold noW;rw[T8 c3,en.nW c2];rfl) λ_ z=>by
   cases z;refine Wl e1 (λx=>x.elim nx λ#[k,w]=>?_)<|Rq.flat (ρ:=ρ) (ρ':=ρ.ex<|noW W m) rfl (λ_ _ z _=>z) hf r
   obtain⟨w1,w2⟩:=XU w;exact w1<|en.inj k m a w2 ha
 rw[List.set_comm _ _<|Ne.symm c3]at e;exact e
end
structure WRel(K:al)(ρ:Mx)(H:Hp)(w:List D)(J:It):Prop where
 go:∀(i:Nat) ρ' S' H',Lat ρ H ρ' H'->St3 K ρ' S' H'->i<w.length->J.go i H'/\∀x H'',J.yld i H' x H''->Fut ρ' H' ρ' H''/\St3 K ρ' S' H''/\∀d,w[i]?=aa d->Rep ρ' H'' d x
 stop:∀ρ' S' H',Lat ρ H ρ' H'->St3 K ρ' S' H'->J.stop w.length H'
section
variable(X:Cx)(xw:Nat->Hp->Prop)
def tW3(f:Lc->Zv->R (List D)):TI:=λσ H Q=>∃ρ l S,St3 X.K ρ S H/\LocR ρ H l σ/\End X.K xw (WRel X.K) ρ H Q (f l S)
def CW(C:Calls)(tg it:Expr)(w:Ev.W):Prop:=PI X tg it<|tW3 X xw<|Pv.pvw C w
end
def PI.imp(h:PI X tg it t)(k:∀σ H Q,t' σ H Q->t σ H Q):PI X tg it t':=λpq s σ H R I q=>h pq s σ H R I<|k σ H R q
section
variable{X:Cx}{xw:Nat->Hp->Prop}{C:Calls}{e a b c tg it:Expr}{i j k:E}{pos p p' p2:fO}
def ZfS(K:al)(tl:TE):TI:=λσ H R=>tl σ H λx H1=>∃a,x=.ref a/\(((∃xs,SqL K H1 a xs)/\R (Itl K a) H1)\/((∃xs,SqT K H1 a xs)/\R (Itt K a) H1))
def ZdG(hl:PE X l tl):PI X tg l (ZfS X.K tl):=by
 intro pq s σ H R I h;refine thn (hl pq s σ H _ I h) λv s1 #[x,H1,I1,r1,a,e,q]=>?_
 subst e;cases r1;rcases q with⟨⟨xs,hq⟩,q⟩|⟨⟨xs,hq⟩,q⟩
 .obtain⟨its,rv,p,hz⟩:=I1.list hq
  refine gX p.isList ?_;refine#[s1.heap.objs.size,[s1.heap.objs.size],_,_,H1,rfl,I1.kept (t':=s1.toks) λb o e=>ax _ e,qi a _,#[_,aQ _ rfl,rfl,rfl],λb hb=>?_,q]
  have e:b=s1.heap.objs.size:=by simpa using hb
  subst e;exact I1.fpOk (aG _)<|I1.hok.fresh<|aG _
 .obtain⟨its,rv,p,hz⟩:=I1.tuple hq
  refine gF (p) ?_
  refine#[s1.heap.objs.size,[s1.heap.objs.size],_,_,H1,rfl,I1.kept (t':=s1.toks) λb o e=>ax _ e,xP a _,#[_,aQ _ rfl,rfl,rfl],λb hb=>?_,q]
  have e:b=s1.heap.objs.size:=by simpa using hb
  subst e;exact I1.fpOk (aG _)<|I1.hok.fresh<|aG _
def VR{K:al}{ρ:Mx}{H:Hp}{ds:List D}{xs:List V}{J:It}(r:Rq ρ H ds xs)(hg:∀ρ' H',Lat ρ H ρ' H'->(∀i x,xs[i]?=aa x->J.go i H'/\∀y H'',J.yld i H' y H''->H''=H'/\y=x)/\∀n,n=xs.length->J.stop n H'):WRel K ρ H ds J where
 go:=λi ρ' S' H' f st hi=>by
  obtain⟨v,g,r'⟩:=(r.lat f).get<|ag hi;obtain⟨a,b⟩:=(hg ρ' H' f).1 i v g;refine#[a,λx H'' y=>?_]
  obtain⟨rfl,rfl⟩:=b x H'' y;exact#[Fut.refl _ _,st,λd hd=>by rw[ag hi]at hd;cases hd;exact r']
 stop:=λρ' S' H' f st=>(hg ρ' H' f).2 _ r.length.symm
def Zao{K K':al}{ρ:Mx}{H:Hp}{ds:List D}{a:aC}{xs:List V}(hp:H a=aa (.tup xs))(r:Rq ρ H ds xs):WRel K ρ H ds (Itt K' a):=VR r λρ' H' f=>by
 have h:=SqT.of (K:=K')<|f.keep a _ hp λ_ z=>by cases z
 exact#[λi x g=>#[#[xs,x,h,g],λy H'' z=>#[z.1,by have:=z.2 xs h;rw[g]at this;exact(am this).symm]],λn e=>#[xs,h,by omega]]
def wY{K K':al}{ρ:Mx}{H:Hp}{ds:List D}{a:aC}{xs:List V}(hp:∀ρ' H',Lat ρ H ρ' H'->SqL K' H' a xs)(r:Rq ρ H ds xs):WRel K ρ H ds (Itl K' a):=VR r λρ' H' f=>by
 have h:=hp ρ' H' f;exact#[λi x g=>#[#[xs,x,h,g],λy H'' z=>#[z.1,by have:=z.2 xs h;rw[g]at this;exact(am this).symm]],λn e=>#[xs,h,by omega]]
def QZ(lo:Int)(n:Nat):(Pv.ZS lo n).length=n:=by unfold Pv.ZS;rw[aw,br]
theorem VS(lo:Int):∀(l:List Nat),Rq ρ H (l.map λ(k:Nat)=>Pv.V.int<|lo+(k:Int)) (l.map λ(k:Nat)=>V.int<|lo+(k:Int))
 |[]=>Rq.nil
 |_::l=>Rq.cons (ZO _)<|VS lo l
def GR{K:al}{ρ:Mx}{H:Hp}{lo:Int}{n:Nat}:WRel K ρ H (Pv.ZS lo n) (Itr lo n):=VR (VS lo<|aH n) λρ' H' f=>by
 refine#[λi x g=>?_,λm e=>?_]
 .have hi:i<n:=by have:=(aE.mp g).1;simpa using this
  rw[aR,cX hi]at g;exact#[hi,λy H'' z=>#[z.1,z.2.trans<|am g]]
 .rw[aw,br]at e;show n<=m;omega
def jN(he:CE X xw C e i):CW X xw C tg e (.of i):=PI.imp (ZdG he)<|by
 rintro σ H Q ⟨ρ,l,S,st,lr,h⟩;rw[Pv.pvw]at h;refine#[ρ,l,S,st,lr,h.bind λx S1 ρ1 H1 v f1 st1 r1 h1=>?_]
 obtain⟨ds,hd,h1⟩:=End.po h1;have q:∀{J},WRel X.K ρ1 H1 ds J->Q J H1:=λw=>End.ok h1 st1 w
 cases x with
 |tup ds=>cases hd;obtain⟨a,xs,rfl,hp,r⟩:=r1.tup';exact#[a,rfl,.inr #[#[xs,SqT.of hp],q<|Zao hp r]]
 |lst ds=>cases hd;obtain⟨a,xs,rfl,hp,hx,r⟩:=r1.lst';exact#[a,rfl,.inl #[#[xs,SqL.of hp],q<|wY (λρ' H' f=>SqL.of<|f.keep a _ hp λ_ _=>hx) r]]
 |scr ns=>
  cases hd;obtain⟨a,rfl,hp⟩:=r1.scr';rw[st1.hk]at hp;refine#[a,rfl,.inl #[#[_,hp.sq],q<|wY (λρ' H' f=>?_)<|Rq.ints ns]]
  rcases hp with⟨o,hp⟩|hp
  .exact .inl<|.inr #[o,f.keep a _ hp λ_ z=>by cases z]
  .exact .inr hp
 |_=>exact Ev.nos hd
def Zdg{α β:Type}{rep:Mx->Hp->α->β->Prop}{ρ:Mx}{l:Lc}{S:Zv}{σ:L2.St}{H:Hp}{Q:β->Hp->Prop}{Q1:List V->Hp->Prop}{g:D->Zv->R α}(st:St3 X.K ρ S H)(lr:LocR ρ H l σ)(h:End X.K xw rep ρ H Q ((Pv.pv C i l S).bind g))
  (k:∀x S1 ρ1 H1 v,St3 X.K ρ1 S1 H1->Rep ρ1 H1 x v->End X.K xw rep ρ1 H1 Q (g x S1)->Q1 [v] H1):tA X xw (Pv.pvs C [i]) σ H Q1:=by
 refine#[ρ,l,S,st,lr,?_];show End X.K xw Rq ρ H _ ((Pv.pv C i l S).bind λx S=>.ok [x] S)
 cases q:Pv.pv C i l S with
 |no=>rw[q]at h;exact h
 |ex c S1=>rw[q]at h;exact h
 |ok x S1=>
  rw[q]at h;intro ρ1 H1 vs f1 st1 r1;obtain⟨v,rfl,r⟩:=qA r1;exact k x S1 ρ1 H1 v st1 r<|End.mono f1 h
def Zai{α β:Type}{rep:Mx->Hp->α->β->Prop}{ρ:Mx}{l:Lc}{S:Zv}{σ:L2.St}{H:Hp}{Q:β->Hp->Prop}{Q1:List V->Hp->Prop}{g:D->D->Zv->R α}(st:St3 X.K ρ S H)(lr:LocR ρ H l σ)(h:End X.K xw rep ρ H Q ((Pv.pv C i l S).bind λx S=>(Pv.pv C j l S).bind λy S=>g x y S))
  (k:∀x y S1 ρ1 H1 v u,St3 X.K ρ1 S1 H1->Rep ρ1 H1 x v->Rep ρ1 H1 y u->End X.K xw rep ρ1 H1 Q (g x y S1)->Q1 [v,u] H1):tA X xw (Pv.pvs C [i,j]) σ H Q1:=by
 refine#[ρ,l,S,st,lr,?_];show End X.K xw Rq ρ H _ ((Pv.pv C i l S).bind λx S=>((Pv.pv C j l S).bind λy S=>.ok [y] S).bind λxs S=>.ok (x::xs) S)
 cases q:Pv.pv C i l S with
 |no=>rw[q]at h;exact h
 |ex c S1=>rw[q]at h;exact h
 |ok x S1=>
  rw[q]at h;have h:End X.K xw rep ρ H Q ((Pv.pv C j l S1).bind λy S=>g x y S):=h
  show End X.K xw Rq ρ H _ (((Pv.pv C j l S1).bind λy S=>.ok [y] S).bind λxs S=>.ok (x::xs) S)
  cases q2:Pv.pv C j l S1 with
  |no=>rw[q2]at h;exact h
  |ex c S2=>rw[q2]at h;exact h
  |ok y S2=>
   rw[q2]at h;intro ρ1 H1 vs f1 st1 r1;obtain⟨v,u,rfl,rv,ru⟩:=vC r1;exact k x y S2 ρ1 H1 v u st1 rv ru<|End.mono f1 h
def Yi(h:Ev.Yn n=ak):-(2^62)<=n/\n<2^62:=T6 h
def JC(hm:X.mg "range" = ae)(ha:CA X xw C [a] [i])(hg:Gl X "range":=by rfl)(hs:az [a] X.env=[(ai,bY a X.env)]:=by rfl):CW X xw C tg (.Call (.Name "range" p) [a] [] pos) (.rng1 i):=
 PI.imp (uN hg hm ha hs) λσ H Q #[ρ,l,S,st,lr,h]=>Zdg st lr h λx S1 ρ1 H1 v st1 r h1=>by
  cases x with
  |int n=>
   obtain⟨hs,h2⟩:=End.guard h1;exact#[n,by rw[r.int'],(Yi hs).1,(Yi hs).2,End.ok h2 st1 GR]
  |_=>exact False.elim h1
def JH(hm:X.mg "range" = ae)(ha:CA X xw C [a,b] [i,j])(hg:Gl X "range":=by rfl)(hs:az [a,b] X.env=[(ai,bY a X.env),(ai,bY b X.env)]:=by rfl)(hs2:az [b] X.env=[(ai,bY b X.env)]:=by rfl) :
  CW X xw C tg (.Call (.Name "range" p) [a,b] [] pos) (.rng2 i j):=
 PI.imp (u4 hg hm ha hs hs2) λσ H Q #[ρ,l,S,st,lr,h]=>Zai st lr h λx y S1 ρ1 H1 v u st1 rv ru h1=>by
  cases x with
  |int n=>cases y with
   |int m=>
    obtain⟨hs,h3⟩:=End.guard h1;obtain⟨s1,s2⟩:=(aB _ _).mp hs;exact#[n,m,by rw[rv.int',ru.int'],#[(Yi s1).1,(Yi s1).2,(Yi s2).1,(Yi s2).2],End.ok (rep:=WRel X.K) h3 st1 GR]
   |_=>exact False.elim h1
  |_=>exact False.elim h1
def x4{body:List eJ}{fr:Bool}{ns:List Nat}{ms:List Sm}{w:Ev.W}{t:List Nat}(hp:PassesOwn (aV X.prog X.w) X.A X.env X.xe)(hc:X.calm=ak)(hw:CW X xw C tg it w)(hg:CG X tg t)(hb:CSs X xw fr C ns body ms)
  (hs:∀x,bB it X.env x=cD x:=by intro _;rfl):CS X xw fr C ns (.For tg it body [] pos) (.forr t w ms):=PS.imp (ZdI hp hc hw hg hb hs)<|by
 rintro D σ H ⟨ρ,H0,W,l,os,S,st,en,h⟩;rw[Pv.rv]at h;refine#[ρ.ex W,Pv.hide os l,S,en.st st,en.hid,ZK.bindW en h λwk S1 H1 J f1 st1 r1 h1=>?_]
 obtain⟨bs,en1⟩:=(en.mono f1).off st1.xd;have h1:=h1.rebase bs en.xd;generalize hB:(λx ρ os s=>if(t.any<|mT os)=ak then(.no:Pv.PR Pv.FlV)else if(os.isEmpty||x.flat)=ak then(Pv.po (Pv.Zp t x ρ) s).bind λρ s=>Pv.rvs C ns ms ρ os s else .no)=B at h1
 let I:Nat->L2.St->Hp->Prop:=λn σ' H'=>∃W' l' os' S',St3 X.K ρ S' H'/\Eu ρ (QD H1 W) W' l' os' σ' H'/\ZK fr X.K xw ρ (QD H1 W) D (Pv.YJ B (wk.drop n) l' os' S')
 refine#[λn m σ' H'=>m=wk.length-n/\n<=wk.length/\I n σ' H',#[wk.length,rfl,dQ _,W,l,os,S1,st1,en1,h1],?_]
 rintro n m σ' H' ⟨rfl,hn,W',l',os',S',st',en',e'⟩
 have lat:=(en.mono f1).walk en';by_cases hlt:n<wk.length
 .right
  rw[cq hlt,Pv.YJ]at e';obtain⟨go,yl⟩:=r1.go n _ S' H' lat (en'.st st') hlt;refine#[go,I<|n+1,λσ2 H2 q=>#[wk.length-(n+1),by omega,rfl,hlt,q],λx H3 y=>?_]
  obtain⟨f3,st3,rp⟩:=yl x H3 y;have rx:=rp _<|ag hlt;have f3:Fut ρ H' ρ H3:=#[rfl,f3.keep];have hBn:B wk[n] l' os' S'=if(t.any<|mT os')=ak then(.no:Pv.PR Pv.FlV)else if(os'.isEmpty||(wk[n]).flat)=ak then(Pv.po (Pv.Zp t wk[n] l') S').bind λρ s=>Pv.rvs C ns ms ρ os' s else .no:=by rw[<-hB]
  rw[hBn]at e';by_cases c:(t.any<|mT os')=ak
  .rw[T9 c]at e';exact e'.elim
  rw[T8 c]at e';by_cases c2:(os'.isEmpty||(wk[n]).flat)=ak
  .rw[T9 c2]at e'
   cases ha:Pv.Zp t wk[n] l' with
   |none=>rw[ha]at e';exact e'.elim
   |some l2=>
    rw[ha]at e';refine(en'.mono f3).assign (by simpa using c) rx ha λσ2 e2=>#[ρ,_,W',l2,os',S',st3.unex,e2,?_]
    have e':ZK fr X.K xw ρ (QD H1 W) D ((Pv.rvs C ns ms l2 os' S').bind _):=e';cases q:Pv.rvs C ns ms l2 os' S' with
    |no=>rw[q]at e';exact e'
    |ex c S2=>rw[q]at e';exact e'
    |ok fl S2=>
     rw[q]at e';cases fl with|nx l3 os3=>exact λH4 σ4 W4 st4 lr4=>#[W4,l3,os3,S2,st4,lr4,e']|ret d=>exact e'
  .rw[T8 c2]at e';exact e'.elim
 .left
  have en2:n=wk.length:=by omega
  subst en2;rw[eC]at e';exact#[r1.stop _ S' H' lat<|en'.st st',e' H' σ' W' st' en']
end
noncomputable def uE(env:Env):List (bi×fm)->List (bi×aC)->List (bi×aC)
 |[],acc=>acc
 |x::r,acc=>uE env r (if(x.2 == cf)=ak then(x.1,(env.cells.lookup x.1).getD 0)::acc else acc)
theorem U5{env:Env}{f:bi×fm->List (bi×aC)->oa (ForInStep<|List<|bi×aC)}:∀(names:List (bi×fm))(acc:List (bi×aC)),
  (∀x∈names,∀c,f x c=cD (.yield (if(x.2 == cf)=ak then(x.1,(env.cells.lookup x.1).getD 0)::c else c)))->mU names acc f=cD (uE env names acc)
 |[],acc,_=>rfl
 |x::r,acc,h=>by
  rw[lS,h x ao,pure_bind];exact U5 r _ λy hy=>h y<|au _ hy
theorem zb :∀(names:List (bi×fm))(acc:List (bi×aC)),(uE env names acc).lookup x=aa c->acc.lookup x=aa c\/(∃y∈names,y.1=x/\y.2=.free/\c=(env.cells.lookup x).getD 0)
 |[],acc,h=>.inl h
 |y::r,acc,h=>by
  rcases zb r _ h with h|⟨z,hz,e⟩
  .grind
  .grind
theorem z8 :∀(names:List (bi×fm))(acc:List (bi×aC)),(acc.lookup x).isSome=ak->((uE env names acc).lookup x).isSome=ak
 |[],acc,h=>h
 |y::r,acc,h=>by
  refine z8 r _ ?_;split
  .grind
  .exact h
theorem zo :∀(names:List (bi×fm))(acc:List (bi×aC)),(x,cf)∈names->((uE env names acc).lookup x).isSome=ak
 |[],acc,h=>by cases h
 |y::r,acc,h=>by
  rcases ay.mp h with h|h
  .subst h
   refine z8 r _ ?_;rw[T9 (by rfl),eD,beq_self_eq_true]
   rfl
  .exact zo r _ h
def WD{scope:dO}{env:Env}(h:∀y∈scope.names,y.2=.free->∃c,env.cells.lookup y.1=aa c) :
  ∃cl,iA scope env=cD cl/\(∀x c,cl.lookup x=aa c->env.cells.lookup x=aa c)/\∀x,(x,cf)∈scope.names->∃c,cl.lookup x=aa c:=by
 refine#[uE env scope.names [],?_,λx c e=>?_,λx hx=>cV.mp<|zo _ _ hx]
 .simp only[iA]
  rw[U5 (env:=env) scope.names [] (λx hx c=>by
   obtain⟨n,kind⟩:=x;by_cases hk:(kind == cf)=ak
   .obtain⟨a,ha⟩:=h (n,kind) hx (eq_of_beq hk)
    have ha':=ha;simp only[hk,if_true,cellOf,ha',pure_bind,Option.getD_some]
   .simp only[hk,if_false]
    rfl),pure_bind]
 .rcases zb _ _ e with e|⟨y,hy,e1,e2,e3⟩
  .cases e
  .grind
noncomputable def cxC(X:Cx)(N:List bi)(scope:dO)(cl:List (bi×aC))(s:aA)(H:Hp)(fp:List aC):Cx:=
 {X with N:=N,s₀:=s,H₀:=H,env:=compEnvC scope cl s.heap.objs.size X.env,outer:=X.stack,ex:=fp,fn:=λ_=>ai,pn:=[],xe:=λ_ _=>False}
def PTs(X:Cx)(ifs:List Expr)(t:TT):Prop:=
 ∀(pq:List (aC×fD))(s:aA)(σ:L2.St)(H:Hp)(Q:Bool->Hp->Prop),Inv X pq σ H s->t σ H Q->
  bn (aV X.prog X.w) X.A (mU ifs ak λc r=>if r=ak then do let ok <-isTrue c X.env (bY c X.env);cD (iP ok)else cD (iP r)) (TP X pq σ Q) X.xe s
def Zch :PTs X [] (λσ H Q=>Q ak H):=λpq s σ H Q I h=>wpAny_tests_nil #[H,I,h]
def ZcZ(h:PT X c t):PTs X [c] t:=λpq s σ H Q I hq=>wpAny_tests_one<|h pq s σ H Q I hq
structure CompScope(sc:dO)(N0:List bi)(scope:dO)(N:List bi)(cap:List Nat)(nl:Nat):Prop where
 kind:scope.kind=.function
 nocell:∀y∈scope.names,y.2≠.cell
 names:∀y∈scope.names,y.2=.local->scope.names.lookup y.1=aa .local
 free:∀y∈scope.names,y.2=.free->sc.names.lookup y.1=aa .cell\/sc.names.lookup y.1=aa .free
 apart:∀y∈scope.names,y.2=.free->scope.names.lookup y.1≠aa .local
 len:N.length=nl+cap.length
 cap:∀p∈cap.zipIdx,N[nl+p.2]?=N0[p.1]?/\(N0[p.1]?).map (λx=>af<|(x,cf)∈scope.names)=aa ak
def CompScope.capt{sc:dO}{N0:List bi}{scope:dO}{N:List bi}{cap:List Nat}{nl:Nat}(h:CompScope sc N0 scope N cap nl)(i j:Nat)(e:cap[i]?=aa j):∃x,N[nl+i]?=aa x/\N0[j]?=aa x/\(x,cf)∈scope.names:=by
 have hm:(j,i)∈cap.zipIdx:=by grind
 obtain⟨h1,h2⟩:=h.cap (j,i) hm;cases q:N0[j]? with|none=>grind|some x=>grind
noncomputable def Xx(cap:List Nat)(nl:Nat)(σ:L2.St):L2.St:=aP nl ae++cap.map λi=>(σ[i]?).join
section
variable{X:Cx}{pq:List (aC×fD)}{σ:L2.St}{H:Hp}{s:aA}
theorem Vc{scope:dO}{env:Env}:∀{names:List (bi×fm)}{x:bi},(names.map λ(n,k)=>if(k == cf&&env.scope.kind == .function&&env.kindOf n == aa .cell)then(n,mV)else(n,k)).lookup x=aa .cell\/
  (names.map λ(n,k)=>if(k == cf&&env.scope.kind == .function&&env.kindOf n == aa .cell)then(n,mV)else(n,k)).lookup x=aa .free->(∀y∈names,y.2≠.cell)->(x,cf)∈names
 |[],x,h,_=>by grind
 |(n,k)::r,x,h,hc=>by
  have ih:=@Vc scope env r x;have hk:=hc (n,k) ao;by_cases e:x=n
  .grind
  .grind
theorem jk{N:List bi}{scope:dO}{cl:List (bi×aC)}{fp:List aC}{cap:List Nat}{nl:Nat}{h1:ck}{tk:Nat}(I:Inv X pq σ H s)(CS:CompScope X.env.scope X.N scope N cap nl)(hN:X.N.Nodup)
  (c1:∀x c,cl.lookup x=aa c->X.env.cells.lookup x=aa c)(c2:∀x,(x,cf)∈scope.names->∃c,cl.lookup x=aa c)
  (hf:∀b∈fp,Vo X pq H b)(hb:∀b∈fp,∃o,s.heap.get? b=aa o)(hns:∃m,h1.Ns s.heap.objs.size m)(hk:∀b o,s.heap.get? b=aa o->h1.get? b=aa o) :
  Inv (cxC X N scope cl s H fp) [] (Xx cap nl σ) H {s with heap:=h1,toks:=tk}:=by
 have bne:∀b∈fp,b≠s.heap.objs.size:=λb hb' e=>by
  obtain⟨o,ho⟩:=hb b hb';exact T7 (aO ho) (by rw[e];exact bS _)
 refine#[#[I.ok.mod,CS.kind,I.ok.glob,I.ok.blt,aG _,λx y c h1 h2=>I.ok.inj x y c (c1 x c h1)<|c1 y c h2,λx hx=>c2 x<|Vc (scope:=scope) hx CS.nocell,λx c h=>(by cases h),I.ok.hd,I.ok.frames,.inl rfl,
  λb hb'=>#[bne b hb',λx c e=>(hf b hb').2.2.2.2.1 x c<|c1 x c e],I.bs,cc I.ok.bsz I.sz,λb o e hb'=>?_,λb hb' hm=>?_,I.stack,I.stkFree],
  rfl,I.bare,Un.kept hk,?_,λx c e=>?_,I.hok.fresh<|aG _,λx c e=>I.freeC x c<|c1 x c e,λp hp=>T7 hp (by simp[cxC]),I.hok.kept hk,?_]
 .rcases(hf b hb').2.2.2.1 with z|z
  .exact I.ok.noex b o e z
  .exact T7 (aO e)<|Nat.not_lt.mpr<|cc I.ok.bsz z
 .rcases ay.mp (I.stkSub b hm)with e|e
  .exact(hf b hb').2.1 e
  .exact(hf b hb').2.2.1 e
 .obtain⟨m1,hm1⟩:=hns
  refine#[m1,hm1,λi x v e1 e2 e3=>?_]
  obtain⟨m,hm,hl⟩:=I.loc;have hi:nl<=i:=by
   by_cases hi:nl<=i
   .exact hi
   .have z:(Xx cap nl σ)[i]?=aa ae:=by
     unfold Xx;rw[bN (by simp;lia),c8,T9<|by lia]
    rw[z]at e2;cases e2
  have e2':(cap.map λi=>(σ[i]?).join)[i-nl]?=aa (aa v):=by
   have:=e2;unfold Xx at this
   rwa [bx (by simp;exact hi),dm]at this
  rw[aR]at e2';cases hj:cap[i-nl]? with
  |none=>rw[hj]at e2';cases e2'
  |some j=>
   rw[hj]at e2';have hv:σ[j]?=aa (aa v):=by
    have:(σ[j]?).join=aa v:=am e2';cases q:σ[j]? with|none=>grind|some o=>grind
   obtain⟨x',n1,n2,fr⟩:=CS.capt _ _ hj;have ex:x'=x:=by
    have:N[nl+(i-nl)]?=aa x:=by rw[show nl+(i-nl)=i by lia];exact e1
    rw[n1]at this;exact am this
   subst ex;have kd:=CS.free _ fr rfl;have vis:Vis X.env.scope x':=by
    rcases kd with z|z
    .exact .inr<|.inl z
    .exact .inr<|.inr z
   obtain⟨u,r,lk⟩:=hl j x' v n2 hv vis;refine#[u,r,?_];rcases lk with⟨k,_⟩|⟨k,c,ec,hc⟩
   .have k':X.env.scope.names.lookup x'=aa .local:=k
    rcases kd with z|z<;>(rw[z]at k';cases k')
   .obtain⟨c',ec'⟩:=c2 x' fr
    have ecc:c'=c:=by
     have:=c1 x' c' ec';rw[ec]at this;exact(am this).symm
    subst ecc;have vis2:=e3;refine .inr #[?_,c',ec',?_]
    .rcases vis2 with z|z|z
     .have z':=z
      exfalso
      have:∀(names:List (bi×fm)),(∀y∈names,y.2=fm.local->y.1≠x')->(names.map λ(n,k)=>if(k == cf&&X.env.scope.kind == .function&&X.env.kindOf n == aa .cell)then(n,mV)else(n,k)).lookup x'≠aa .local:=by
       intro names
       induction names with
       |nil=>intro _ h;cases h
       |cons y r ih=>
        obtain⟨n,k⟩:=y;intro hy h;rw[aW]at h;by_cases e:x'=n
        .subst e
         by_cases c:(k == cf&&X.env.scope.kind == .function&&X.env.kindOf x' == aa .cell)=ak
         .simp only[T9 c,eD,beq_self_eq_true]at h;cases h
         .simp only[T8 c,eD,beq_self_eq_true]at h
          exact hy (x',k) ao (am h) rfl
        .have hb:=beq_eq_false_iff_ne.mpr e
         refine ih (λy hy'=>hy y<|au _ hy') ?_
         by_cases c:(k == cf&&X.env.scope.kind == .function&&X.env.kindOf n == aa .cell)=ak
         .simp only[T9 c,eD,hb]at h;exact h
         .simp only[T8 c,eD,hb]at h;exact h
      refine this scope.names (λy hy hl e=>?_) z'
      have l1:=CS.names y hy hl;rw[e]at l1;exact CS.apart (x',.free) fr rfl l1
     .exact .inl z
     .exact .inr z
    .obtain⟨o,ho,hd⟩:=hc
     exact#[o,hk c' o ho,hd]
 .obtain⟨v,o,ho,hd⟩:=I.cell x c (c1 x c e)
  exact#[v,o,hk c o ho,hd]
 .unfold Xx
  show _=N.length;rw[aX,dm,aw,CS.len]
end
abbrev TEm:=L2.St->Hp->(L2.St->Hp->Prop)->Prop
def yh(X:Cx)(act:oa Fin->oa Fin)(te:TEm):Prop:=
 ∀(pq:List (aC×fD))(s:aA)(σ:L2.St)(H:Hp)(Q:L2.St->Hp->Prop)(k:oa Fin)(QF:Fin->aA->Prop)(EE:aq->aA->Prop),Inv X pq σ H s->te σ H Q->(∀s' σ' H',Inv X pq σ' H' s'->Q σ' H'->bn (aV X.prog X.w) X.A k QF EE s')->
  bn (aV X.prog X.w) X.A (act k) QF EE s
noncomputable def UF(ipos:fO)(tg:Expr)(ifs:List Expr)(act:oa Fin->oa Fin)(it:aq)(env:Env)(c:Code):oa Fin:=do
 i6 ipos
 match <-rq it with
 |none=>cD<|.done .next
 |some v=>
  lR tg it v
  assign tg env v
  let mut ok:=ak
  for c in ifs do
   if ok then ok <-isTrue c env (bY c env)
  if ok then act (again c)else again c
def wn(J:It)(g:TG)(tt:TT)(te:TEm)(W:Nat->Nat->L2.St->Hp->Prop)(Q:L2.St->Hp->Prop):Prop:=∀i m σ' H',W i m σ' H'->
  (J.stop i H'/\Q σ' H')\/(J.go i H'/\∀x H'',J.yld i H' x H''->g x σ' H'' λσ2 H2=>tt σ2 H2 λok H3=>if ok=ak then te σ2 H3 λσ3 H4=>∃m',m'<m/\W (i+1) m' σ3 H4 else ∃m',m'<m/\W (i+1) m' σ2 H3)
def Q4{tn:Nat->ck->Prop}{Rr:rz->aA->Prop}{Q:L2.St->Hp->Prop}{W:Nat->Nat->L2.St->Hp->Prop}
  (hc:Y.calm=ak)(hx:∀a b,Y.xe a b->False)(hT:pD e depth (.ref it) acc Y.env=UF ipos tg ifs act (.ref it) Y.env (.compLoop e depth (.ref it) acc Y.env))(hquiet:(pV e depth (.ref it) acc Y.env).isFrame=ai)
  (hq:(pV e depth (.ref it) acc Y.env).quiet=ak)(T:Turn Y.prog Y.w Y.K tg J fp it tn)(hg:PG Y tg g)(ht:PTs Y ifs tt)(he:yh Y act te)(stat:∀{H':Hp},(∀b∈fp,H' b=ae)->∀b∈fp,Vo Y pq H' b)
  (turn:wn J g tt te W Q)(fin:∀σ H s,Inv Y pq σ H s->Q σ H->Rr (.ok .next) s)
  (I0:Inv Y pq σ H s)(st0:tn 0 s.heap)(fr0:∀b∈fp,H b=ae)(w0:W 0 m σ H)(hden:(aV Y.prog Y.w).den (.compLoop e depth (.ref it) acc Y.env)=(pD e depth (.ref it) acc Y.env).onRaise (λx=>do noteFrame x Y.env;theTreesLotGoes x))
  (hund:Y.A.under (.compLoop e depth (.ref it) acc Y.env)=Y.A):eS (aV Y.prog Y.w) Y.A (.compLoop e depth (.ref it) acc Y.env) Rr s:=by
 refine codeAny_loop hq (λn s'=>∃i σ' H',Inv Y pq σ' H' s'/\tn i s'.heap/\(∀b∈fp,H' b=ae)/\W i n σ' H') (λn s5 hI=>?_) m #[0,σ,H,I0,st0,fr0,w0]
 rw[hund,hden,hT];refine wpAny_noted ?_;obtain⟨i,σ5,H5,I5,st5,fr5,w5⟩:=hI;refine aj<|eX<|aj ?_;rcases turn i n σ5 H5 w5 with⟨stop,qn⟩|⟨go,step⟩
 .refine cI (T.done Y rfl rfl rfl hc i pq s5 σ5 H5 (λ_ _=>False) I5 (stat fr5) st5 stop) (λr s6 #[hr,I6]=>?_) λ_ _ h'=>h'.elim
  subst hr;exact aF<|fin σ5 H5 s6 I6 qn
 .refine cI (T.item Y rfl rfl rfl hc i pq s5 σ5 H5 (λ_ _=>False) I5 (stat fr5) st5 go) (λr s6 #[u,hr,h6]=>?_) λ_ _ h'=>h'.elim
  subst hr;refine aj<|cI h6 (λ_ s7 #[x,H7,I7,r7,y7,st7,fr7]=>?_) λ_ _ h'=>h'.elim
  have I7':=I7.pinned (stat fr7)<|T.obj _ _ st7;have back:∀{σ8:L2.St}{H8:Hp}{s8:aA}{m':Nat},Inv Y (pq++UK fp s7.heap) σ8 H8 s8->m'<n->W (i+1) m' σ8 H8->∃m,m<n/\∃i σ' H',Inv Y pq σ' H' s8/\tn i s8.heap/\(∀b∈fp,H' b=ae)/\W i m σ' H':=λ{σ8 H8 s8 m'} I8 hm w8=>by
   refine#[m',hm,i+1,σ8,H8,I8.unpinned,T.keep _ _ _ st7 λb hb' o e=>(I8.pin (b,o)<|bt _<|bt _<|XO hb' e).1,λb hb'=>?_,w8]
   obtain⟨o,e,d⟩:=T.obj _ _ st7 b hb';exact(I8.pin (b,o)<|bt _<|bt _<|XO hb' e).2.1
  refine aj<|cI (hg _ s7 σ5 H7 x u _ I7' r7<|step x H7 y7) (λ_ s8 #[σ8,H8,I8,q8]=>?_) λ_ _ h'=>(hx _ _ h').elim
  refine aj<|cI (ht _ s8 σ8 H8 _ I8 q8) (λok s9 #[H9,I9,q9]=>?_) λ_ _ h'=>(hx _ _ h').elim
  cases ok with
  |false=>
   rw[T8 aN]at q9;obtain⟨m',hm,w9⟩:=q9;exact aF #[rfl,back I9 hm w9]
  |true=>
   rw[T9 rfl]at q9;exact he _ s9 σ8 H9 _ _ _ _ I9 q9<|by rintro s10 σ10 H10 I10 ⟨m',hm,w10⟩;exact aF #[rfl,back I10 hm w10]
def Vm{Y:Cx}{elt:Expr}{te:TE}{D:aC}(hx:∀a b,Y.xe a b->False)(he:PE Y elt te):yh Y (λk=>(do let _ <-call (.builtin "list.append") [.ref D,<-bY elt Y.env]:oa Unit) >>= λ_=>k) (λσ H Q=>te σ H λy H4=>∃ys,H4 D=aa (.lst ys)/\ys.length<bo/\Q σ (upd H4 D<|.lst<|ys++[y])):=by
 intro pq s σ H Q k QF EE I h hk;refine aj ?_;refine aj<|cI (he pq s σ H _ I h) (λxv s10 #[y,H10,I10,r10,ys,hDy,hz,q]=>?_) λ_ _ h'=>(hx _ _ h').elim
 refine aj<|cI (VM pq s10 σ H10 (.ref D) [y] (.ref D) [xv] (λv H'=>v=.non/\H'=upd H10 D (.lst<|ys++[y])) I10 rfl (.cons r10 .nil) #[D,ys,y,rfl,rfl,hDy,hz,rfl,rfl]) (λ_ s11 #[v11,H11,I11,_,_,eH]=>?_) λ_ _ h'=>(hx _ _ h').elim
 subst eH;exact aF<|hk _ _ _ I11 q
def Ga(wi:TI)(g:TG)(tt:TT)(te:aC->TEm)(cap:List Nat)(nl:Nat):TE:=λσ H Q=>wi σ H λJ H1=>∀D,H1 D=ae->∃W:Nat->Nat->L2.St->Hp->Prop,(∃m,W 0 m (Xx cap nl σ)<|upd H1 D<|.lst [])/\wn J g tt (te D) W λ_ H'=>Q (.ref D) H'
def j8(wi:TI)(g:TG)(tt:TT)(te:TE)(cap:List Nat)(nl:Nat):TE:=λσ H Q=>wi σ H λJ H1=>∀D,H1 D=ae->∃W:Nat->Nat->L2.St->Hp->Prop,(∃m,W 0 m (Xx cap nl σ)<|upd H1 D<|.lst [])/\∀i m σ' H',W i m σ' H'->
  (J.stop i H'/\Q (.ref D) H')\/(J.go i H'/\∀x H'',J.yld i H' x H''->g x σ' H'' λσ2 H2=>tt σ2 H2 λok H3=>if ok=ak then te σ2 H3 λy H4=>∃ys,H4 D=aa (.lst ys)/\ys.length<bo/\∃m',m'<m/\W (i+1) m' σ2 (upd H4 D<|.lst<|ys++[y])else ∃m',m'<m/\W (i+1) m' σ2 H3)
structure Gone(X:Cx)(pq:List (aC×fD))(H:Hp)(s:aA)(C:aC):Prop where
 free:H C=ae
 ns:∃m,s.heap.Ns C m
 loc:C≠X.env.locals
 big:X.s₀.heap.objs.size<=C
 cel:∀x c,X.env.cells.lookup x=aa c->c≠C
 pin:∀p∈X.pn++pq,p.1≠C
def Wp{tg iter elt:Expr}{ifs:List Expr}{scope:dO}{pos fpos:fO}{N:List bi}{cap:List Nat}{nl:Nat}{wi:TI}{g:TG}{tt:TT}{te:aC->TEm}{act:aq->Env->oa Fin->oa Fin}{rest:List Comprehension}{pq:List (aC×fD)}{s:aA}{σ:L2.St}{H:Hp}{Q:VK}{use:Option (aq->oa Unit)}{QQ:aq->aA->Prop}(hc:X.calm=ak)(hN:X.N.Nodup)(CS:CompScope X.env.scope X.N scope N cap nl)(hi:PI X tg iter wi)
  (hT:∀it acc env,pD (.ListComp elt (#[tg,iter,ifs,0]::rest) scope pos) 0 it acc env=UF iter.pos tg ifs (act acc env) it env (.compLoop (.ListComp elt (#[tg,iter,ifs,0]::rest) scope pos) 0 it acc env))
  (hb:∀cl s H fp,PG (cxC X N scope cl s H fp) tg g/\PTs (cxC X N scope cl s H fp) ifs tt/\∀D,yh (cxC X N scope cl s H fp) (act (.ref D) (cxC X N scope cl s H fp).env)<|te D)
  (hs:∀x,bB iter X.env x=cD x)(I:Inv X pq σ H s)(h:Ga wi g tt te cap nl σ H Q)
  (fin:∀D C H5 s6,Inv X pq σ H5 s6->Gone X pq H5 s6 C->Q (.ref D) H5->compPost (aV X.prog X.w) X.A X.xe use QQ (.ref D) C (.ok .next) s6) :
  bn (aV X.prog X.w) X.A (comprehension (.ListComp elt (#[tg,iter,ifs,0]::rest) scope pos) scope X.env fpos (newList []) ai (bY iter X.env) use) QQ X.xe s:=by
 obtain⟨cl,hcl,c1,c2⟩:=WD λy hy hf=>I.ok.has y.1<|CS.free y hy hf
 refine wpAny_comprehension_free rfl hs hcl CS.kind CS.names ?_;refine thn (hi pq s σ H _ I h) λv s1 h1=>thn h1 λitv s2 h2=>?_
 obtain⟨it,fp,tn,J,H2,rfl,I2,T,st2,f2,q2⟩:=h2;obtain⟨W,⟨m0,w0⟩,turn⟩:=q2 s2.heap.objs.size<|I2.hok.fresh<|aG _;refine cu<|mm CS.nocell (by intro y hy;simp at hy) (λh₁ hns₁ hsb₁=>?_) CS.kind
 dsimp only at hns₁ hsb₁ ⊢
 have I3:Inv X pq σ (upd H2 s2.heap.objs.size<|.lst []) {s2 with heap:=s2.heap.push {cls:=.type "list",dict:=ae,data:=.seq ([]:List aq).toArray},toks:=s2.toks}:=
  I2.laid (λb u e=>ax _ e) (aG _) #[dQ _,[],0,.nil,aQ _ rfl]
 generalize hD:s2.heap.objs.size=D at I3 w0 turn hns₁ hsb₁ ⊢;generalize hs3:({s2 with heap:=s2.heap.push {cls:=.type "list",dict:=ae,data:=.seq ([]:List aq).toArray},toks:=s2.toks}:aA)=s3 at I3
 have hh3:s2.heap.push {cls:=.type "list",dict:=ae,data:=.seq ([]:List aq).toArray}=s3.heap:=by rw[<-hs3]
 rw[hh3]at hns₁ hsb₁;have old:∀b o,s2.heap.get? b=aa o->s3.heap.get? b=aa o:=λb o e=>by rw[<-hh3];exact ax _ e
 have neD:∀b∈fp,b≠D:=λb hb' e=>by
  obtain⟨o,ho,_⟩:=T.obj _ _ st2 b hb';exact T7 (aO ho) (by rw[e,<-hD];exact bS _)
 have f3:∀b∈fp,Vo X pq (upd H2 D<|.lst []) b:=λb hb'=>#[by rw[Zj<|neD b hb'];exact(f2 b hb').1,(f2 b hb').2]
 have keep4:=λb o e=>hsb₁.extBut b o (bD<|aO e)<|ax _ e
 have I4:=jk (tk:=s2.toks+([]:List (bi×aq)).length) I3 CS hN c1 c2 f3 (λb hb'=>let #[o,ho,_]:=T.obj _ _ st2 b hb';#[o,old b o ho]) #[_,hns₁] keep4
 have e4:({s3 with heap:=h₁,toks:=s2.toks+([]:List (bi×aq)).length}:aA)={s2 with heap:=h₁,toks:=s2.toks+([]:List (bi×aq)).length}:=by rw[<-hs3]
 rw[e4]at I4;obtain⟨hg,ht,he⟩:=hb cl s3 (upd H2 D<|.lst []) fp;generalize hY:cxC X N scope cl s3 (upd H2 D<|.lst []) fp=Y at I4 hg ht he;have yP:Y.prog=X.prog:=by rw[<-hY];rfl
 have stat:∀{H':Hp},(∀b∈fp,H' b=ae)->∀b∈fp,Vo Y [] H' b:=λhn b hb'=>by
  subst hY;refine#[hn b hb',λe=>?_,λhm=>?_,.inl hb',λx c e=>(f3 b hb').2.2.2.2.1 x c<|c1 x c e,λp hp=>T7 hp<|by simp[cxC]]
  .obtain⟨o,ho,_⟩:=T.obj _ _ st2 b hb'
   have:=aO<|old b o ho;rw[e]at this;exact T7 this<|bS _
  .rcases ay.mp (I3.stkSub b hm)with e|e
   .exact(f3 b hb').2.1 e
   .exact(f3 b hb').2.2.1 e
 subst hY
 let Y:=cxC X N scope cl s3 (upd H2 D<|.lst []) fp
 have st4:tn 0 h₁:=T.keep _ _ _ st2 λb hb' o e=>keep4 b o<|old b o e
 have fr4:=λb hb'=>(f3 b hb').1
 have loop:eS (aV X.prog X.w) X.A (.compLoop (.ListComp elt (#[tg,iter,ifs,0]::rest) scope pos) 0 (.ref it) (.ref D)<|compEnvC scope cl s3.heap.objs.size X.env)
   (compPost (aV X.prog X.w) X.A X.xe use QQ (.ref D) s3.heap.objs.size) {s2 with heap:=h₁,toks:=s2.toks+([]:List (bi×aq)).length}:=by
  refine Q4 (Y:=cxC X N scope cl s3 (upd H2 D<|.lst []) fp) (W:=W) hc (λ_ _ z=>z) (hT _ _ _) rfl rfl T hg ht (he D) stat turn (λσ5 H5 s6 I6 qn=>?_) I4 st4 fr4 w0 rfl rfl
  obtain⟨m6,hn6,_⟩:=I6.loc;have u:=I6.base;have IX:=Inv.call' (s':=s6) (ch:=fp) I3 I6.os #[u.keep,u.slot,u.free,u.there,u.tups,u.frzs,u.tbls] I6.hok I6.bare λb hb'=>#[(f3 b hb').2.2.2.1,(f3 b hb').2.1,(f3 b hb').2.2.2.2.1,λp hp e=>(f3 b hb').2.2.2.2.2 p hp e]
  refine fin D s3.heap.objs.size H5 s6 IX #[I6.free,#[m6,hn6],Ne.symm<|bD I3.lt,I3.sz,λx c e z=>?_,λp hp z=>?_] qn
  .obtain⟨v,q⟩:=I3.cell x c e
   exact T7 q.lt (by rw[z];exact bS _)
  .exact T7 (aO (I3.pin p hp).1) (by rw[z];exact bS _)
 subst hs3;exact codeAny_compStart_list loop<|T.self _ 0 _ _ _ st4 loop
def Gone.inv(G:Gone X pq H s C)(I:Inv X pq σ H s)(hsb:fU C s.heap h'):Inv X pq σ H {s with heap:=h' }:=
 I.turned (t':=s.toks) (λb o hb e=>(hsb.2 b hb).trans e) G.free G.loc (.inr G.big) G.cel G.pin
def Zb7(te:TE)(D:aC):TEm:=λσ H Q=>te σ H λy H4=>∃ys,H4 D=aa (.lst ys)/\ys.length<bo/\Q σ (upd H4 D<|.lst<|ys++[y])
def ZcI(hc:X.calm=ak)(hN:X.N.Nodup)(CS:CompScope X.env.scope X.N scope N cap nl)(hi:PI X tg iter wi)
  (hb:∀cl s H fp,PG (cxC X N scope cl s H fp) tg g/\PTs (cxC X N scope cl s H fp) ifs tt/\PE (cxC X N scope cl s H fp) elt te)
  (hs:∀x,bB iter X.env x=cD x:=by intro _;rfl):PE X (.ListComp elt [#[tg,iter,ifs,0]] scope pos) (j8 wi g tt te cap nl):=by
 intro pq s σ H Q I h;rw[eval_ListComp];refine Wp (act:=λacc env k=>(do let _ <-call (.builtin "list.append") [acc,<-bY elt env]:oa Unit) >>= λ_=>k) hc hN CS hi (λ_ _ _=>rfl) (λcl s H fp=>#[(hb cl s H fp).1,(hb cl s H fp).2.1,λD=>Vm (λ_ _ z=>z) (hb cl s H fp).2.2]) hs I h λD C H5 s6 I6 G q=>?_
 obtain⟨m6,hn6⟩:=G.ns;exact#[m6,hn6,λh' hsb=>#[.ref D,H5,G.inv I6 hsb,rfl,q]]
def qG(hc:X.calm=ak)(hN:X.N.Nodup)(CS:CompScope X.env.scope X.N scope N cap nl)(hi:PI X tg iter wi)
  (hb:∀cl s H fp,PG (cxC X N scope cl s H fp) tg g/\PTs (cxC X N scope cl s H fp) ifs tt/\PE (cxC X N scope cl s H fp) elt te)
  (hsw:eB (.ListComp elt [#[tg,iter,ifs,0]] scope pos) (aa<|.Name y py) spos.line X.env=cD ak)
  (hy:X.N[i]?=aa y)(hx:L2.Loc X.env.scope y)(hf:X.fn y=ak\/X.env.scope.names.lookup y=aa .local)
  (hs:∀x,bB iter X.env x=cD x:=by intro _;rfl):PS X (.Assign [.Name y py] (.ListComp elt [#[tg,iter,ifs,0]] scope pos) spos) (λD σ H=>j8 wi g tt te cap nl σ H λv H1=>D.nx (σ.set i<|aa v) H1):=by
 intro pq s σ H D I h;rw[l8 _ _ _ _ hsw];refine aj<|eX<|aj ?_;refine aj<|cI (Wp (Q:=λv H1=>D.nx (σ.set i<|aa v) H1) (act:=λacc env k=>(do let _ <-call (.builtin "list.append") [acc,<-bY elt env]:oa Unit) >>= λ_=>k) hc hN CS hi (λ_ _ _=>rfl) (λcl s H fp=>#[(hb cl s H fp).1,(hb cl s H fp).2.1,λD=>Vm (λ_ _ z=>z) (hb cl s H fp).2.2]) hs I h λA C H5 s6 I6 G q=>?_) (λ_ s' hq=>aF<|aF hq) λ_ _ e=>e
 refine kL<|VC (v:=V.ref A) I6 hN hy hx rfl (λs7 I7 #[a,hsb,ha]=>?_) hf
 have hCa:C≠a:=by
  rcases ha with e|e
  .rw[e];exact G.loc
  .exact Ne.symm<|G.cel y a e
 obtain⟨m6,hn6⟩:=G.ns;have G7:Gone X pq H5 s7 C:=#[G.free,#[m6,hn6.sameBut hsb hCa],G.loc,G.big,G.cel,G.pin];exact#[m6,hn6.sameBut hsb hCa,λh' hs'=>#[σ.set i<|aa<|.ref A,H5,G7.inv I7 hs',q]]
def Gz(wi:TI)(g:TG)(tt:TT)(te:TEm):TEm:=λσ H Q=>wi σ H λJ H1=>∃W:Nat->Nat->L2.St->Hp->Prop,(∃m,W 0 m σ H1)/\wn J g tt te W Q
def U7(hc:Y.calm=ak)(hx:∀a b,Y.xe a b->False)(hi:PI Y t2 i2 wi)(hg:PG Y t2 g)(ht:PTs Y f2 tt)(he:yh Y act te)
  (hs:∀x,bB i2 Y.env x=cD x)
  (hstart:∀(it:aq)(R:rz->aA->Prop)(s:aA),eS (aV Y.prog Y.w) Y.A (.compLoop (.ListComp elt gens scope pos) 1 it acc Y.env) R s->bn (aV Y.prog Y.w) Y.A (me it) (λit' s'=>eS (aV Y.prog Y.w) Y.A (.compLoop (.ListComp elt gens scope pos) 1 it' acc Y.env) R s') (notedBy (aV Y.prog Y.w) Y.A Y.env λx s'=>R (.error x) s') s->eS (aV Y.prog Y.w) Y.A (.compStart (.ListComp elt gens scope pos) 1 it acc Y.env) R s)
  (hT:∀it,pD (.ListComp elt gens scope pos) 1 it acc Y.env=UF i2.pos t2 f2 act it Y.env (.compLoop (.ListComp elt gens scope pos) 1 it acc Y.env)) :
  yh Y (λk=>do let x <-bY i2 Y.env;i6 i2.pos;let x <-bB i2 Y.env x;let _ <-runOwn (.compStart (.ListComp elt gens scope pos) 1 (<-gN [x] (me x)) acc Y.env) Y.env;k) (Gz wi g tt te):=by
 intro pq s σ H Q k QF EE I h hk;refine aj<|cI (hi pq s σ H _ I h) (λv s1 h1=>aj<|eX<|aj<|eA (hs v)<|aj<|cU<|cI h1 (λitv s2 h2=>?_) λ_ _ z=>(hx _ _ z).elim) λ_ _ z=>(hx _ _ z).elim
 obtain⟨it,fp,tn,J,H2,rfl,I2,T,st2,f2',W,⟨m0,w0⟩,turn⟩:=h2;have stat:∀{H':Hp},(∀b∈fp,H' b=ae)->∀b∈fp,Vo Y pq H' b:=λhn b hb=>#[hn b hb,(f2' b hb).2]
 have loop:eS (aV Y.prog Y.w) Y.A (.compLoop (.ListComp elt gens scope pos) 1 (.ref it) acc Y.env) (λr s'=>match r with|.ok f=>bn (aV Y.prog Y.w) Y.A k QF EE s'|.error x=>cameBackBy (aV Y.prog Y.w) Y.A Y.env EE x s') s2:=
  Q4 hc hx (hT _) rfl rfl T hg ht he stat turn (λσ5 H5 s6 I6 qn=>hk s6 σ5 H5 I6 qn) I2 st2 (λb hb=>(f2' b hb).1) w0 rfl rfl
 exact aj<|wpAny_runOwn<|hstart _ _ _ loop<|T.self _ 0 _ _ _ st2 loop
def Za5{R:rz->aA->Prop}
  (h0:eS (aV prog w) A (.compLoop (.ListComp elt [#[t1,i1,f1,0],#[t2,i2,f2,0]] scope pos) 1 it acc env) R s)
  (h:bn (aV prog w) A (me it) (λit' s'=>eS (aV prog w) A (.compLoop (.ListComp elt [#[t1,i1,f1,0],#[t2,i2,f2,0]] scope pos) 1 it' acc env) R s') (notedBy (aV prog w) A env λx s'=>R (.error x) s') s) :
  eS (aV prog w) A (.compStart (.ListComp elt [#[t1,i1,f1,0],#[t2,i2,f2,0]] scope pos) 1 it acc env) R s:=by
 refine codeAny_of_tree ?_;show bn _ _ ((compStart (.ListComp elt [#[t1,i1,f1,0],#[t2,i2,f2,0]] scope pos) 1 it acc env).onRaise λx=>do noteFrame x env;i6 theWindowsPlace) _ _ s
 refine wpAny_notedAt ?_;refine aj<|wpAny_askSetting<|wpAny_ite ?_;split
 .first|exact aj<|aF<|aF<|bf rfl h0|exact aF<|bf rfl h0
 .first|exact aj<|fe<|aj<|eX<|aj<|cI h (λit' s' h'=>aF<|bf rfl h') λ_ _ x=>x|(refine aj<|fe ?_;exact aj<|eX<|aj<|cI h (λit' s' h'=>aF<|bf rfl h') λ_ _ x=>x)
def qY{t1 i1 t2 i2 elt:Expr}{f1 f2:List Expr}{scope:dO}{pos:fO}{N:List bi}{cap:List Nat}{nl:Nat}{wi wj:TI}{g1 g2:TG}{tt1 tt2:TT}{te:TE}(hc:X.calm=ak)(hN:X.N.Nodup)(CS:CompScope X.env.scope X.N scope N cap nl)(hi:PI X t1 i1 wi)
  (hb:∀cl s H fp,PG (cxC X N scope cl s H fp) t1 g1/\PTs (cxC X N scope cl s H fp) f1 tt1/\PI (cxC X N scope cl s H fp) t2 i2 wj/\PG (cxC X N scope cl s H fp) t2 g2/\PTs (cxC X N scope cl s H fp) f2 tt2/\PE (cxC X N scope cl s H fp) elt te)
  (hs:∀x,bB i1 X.env x=cD x:=by intro _;rfl)(hs2:∀env x,bB i2 env x=cD x:=by intro _ _;rfl) :
  PE X (.ListComp elt [#[t1,i1,f1,0],#[t2,i2,f2,0]] scope pos) (Ga wi g1 tt1 (λD=>Gz wj g2 tt2<|Zb7 te D) cap nl):=by
 intro pq s σ H Q I h;rw[eval_ListComp];refine Wp (act:=λacc env k=>do let x <-bY i2 env;i6 i2.pos;let x <-bB i2 env x;let _ <-runOwn (.compStart (.ListComp elt [#[t1,i1,f1,0],#[t2,i2,f2,0]] scope pos) 1 (<-gN [x] (me x)) acc env) env;k) hc hN CS hi (λ_ _ _=>rfl) (λcl s H fp=>?_) hs I h λD C H5 s6 I6 G q=>?_
 .obtain⟨a1,a2,a3,a4,a5,a6⟩:=hb cl s H fp
  exact#[a1,a2,λD=>U7 hc (λ_ _ z=>z) a3 a4 a5 (Vm (λ_ _ z=>z) a6) (λx=>hs2 _ x) (λit R s k1 k2=>Za5 k1 k2) λit=>rfl]
 .obtain⟨m6,hn6⟩:=G.ns
  exact#[m6,hn6,λh' hsb=>#[.ref D,H5,G.inv I6 hsb,rfl,q]]
def qc(hc:X.calm=ak)(hN:X.N.Nodup)(CS:CompScope X.env.scope X.N scope N cap nl)(hi:PI X t1 i1 wi)
  (hb:∀cl s H fp,PG (cxC X N scope cl s H fp) t1 g1/\PTs (cxC X N scope cl s H fp) f1 tt1/\PI (cxC X N scope cl s H fp) t2 i2 wj/\PG (cxC X N scope cl s H fp) t2 g2/\PTs (cxC X N scope cl s H fp) f2 tt2/\PE (cxC X N scope cl s H fp) elt te)
  (hsw:eB (.ListComp elt [#[t1,i1,f1,0],#[t2,i2,f2,0]] scope pos) (aa<|.Name y py) spos.line X.env=cD ak)
  (hy:X.N[i]?=aa y)(hx:L2.Loc X.env.scope y)(hf:X.fn y=ak\/X.env.scope.names.lookup y=aa .local)
  (hs:∀x,bB i1 X.env x=cD x:=by intro _;rfl)(hs2:∀env x,bB i2 env x=cD x:=by intro _ _;rfl) :
  PS X (.Assign [.Name y py] (.ListComp elt [#[t1,i1,f1,0],#[t2,i2,f2,0]] scope pos) spos) (λD σ H=>Ga wi g1 tt1 (λD=>Gz wj g2 tt2<|Zb7 te D) cap nl σ H λv H1=>D.nx (σ.set i<|aa v) H1):=by
 intro pq s σ H D I h;rw[l8 _ _ _ _ hsw];refine aj<|eX<|aj ?_;refine aj<|cI (Wp (act:=λacc env k=>do let x <-bY i2 env;i6 i2.pos;let x <-bB i2 env x;let _ <-runOwn (.compStart (.ListComp elt [#[t1,i1,f1,0],#[t2,i2,f2,0]] scope pos) 1 (<-gN [x] (me x)) acc env) env;k) hc hN CS hi (λ_ _ _=>rfl) (λcl s H fp=>?_) hs I h λA C H5 s6 I6 G q=>?_) (λ_ s' hq=>aF<|aF hq) λ_ _ e=>e
 .obtain⟨a1,a2,a3,a4,a5,a6⟩:=hb cl s H fp
  exact#[a1,a2,λD=>U7 hc (λ_ _ z=>z) a3 a4 a5 (Vm (λ_ _ z=>z) a6) (λx=>hs2 _ x) (λit R s k1 k2=>Za5 k1 k2) λit=>rfl]
 refine kL<|VC (v:=V.ref A) I6 hN hy hx rfl (λs7 I7 #[a,hsb,ha]=>?_) hf
 have hCa:C≠a:=by
  rcases ha with e|e
  .rw[e];exact G.loc
  .exact Ne.symm<|G.cel y a e
 obtain⟨m6,hn6⟩:=G.ns;have G7:Gone X pq H5 s7 C:=#[G.free,#[m6,hn6.sameBut hsb hCa],G.loc,G.big,G.cel,G.pin];exact#[m6,hn6.sameBut hsb hCa,λh' hs'=>#[σ.set i<|aa<|.ref A,H5,G7.inv I7 hs',q]]
section
variable{X:Cx}{xw:Nat->Hp->Prop}{C:Calls}{e a b c tg it:Expr}{i j k:E}{pos p p' p2:fO}
def CTs(X:Cx)(xw:Nat->Hp->Prop)(C:Calls)(ifs:List Expr)(is:List E):Prop:=PTs X ifs<|tB3 X xw<|Pv.pvt C is
def PTs.imp{X:Cx}{e:List Expr}{t t':TT}(h:PTs X e t)(k:∀σ H Q,t' σ H Q->t σ H Q):PTs X e t':=λpq s σ H Q I q=>h pq s σ H Q I<|k σ H Q q
def JK:CTs X xw C [] []:=PTs.imp Zch<|by rintro σ H Q ⟨ρ,l,S,st,lr,h⟩;exact End.ok (h) st rfl
def Zbw(σ:Lc)(S:Zv):Pv.pvt C [i] σ S=Pv.Xj C i σ S:=by
 show((Pv.pv C i σ S).bind λx S=>(Pv.po (Pv.Zs x) S).bind λb S=>if b then Pv.pvt C [] σ S else .ok ai S)=(Pv.pv C i σ S).bind λx S=>Pv.po (Pv.Zs x) S
 congr 1
 funext x S
 cases Pv.Zs x with|none=>rfl|some b=>cases b<;>rfl
def JO(h:CT X xw C c i):CTs X xw C [c] [i]:=PTs.imp (ZcZ h)<|by rintro σ H Q ⟨ρ,l,S,st,lr,h⟩;exact #[ρ,l,S,st,lr,by rw[<-Zbw];exact h]
def LocR.caught(lr:LocR ρ H l σ)(cap:List Nat)(nl:Nat):LocR ρ H (Pv.Z2 cap nl l) (Xx cap nl σ):=by
 refine#[by unfold Pv.Z2 Xx;simp,λn d e=>?_]
 unfold Pv.Z2 at e;by_cases hn:n<nl
 .rw[bN (by simp;exact hn),c8,T9 hn]at e
  cases e
 .rw[bx (by simp;omega),dm,aR]at e
  unfold Xx;rw[bx (by simp;omega),dm,aR]
  cases q:cap[n-nl]? with
  |none=>rw[q]at e;cases e
  |some m=>
   rw[q]at e;have e':(l[m]?).join=aa d:=am e;have:l[m]?=aa (aa d):=by
    cases z:l[m]? with
    |none=>rw[z]at e';cases e'
    |some o=>rw[z]at e';cases o with|none=>cases e'|some w=>cases e';rfl
   obtain⟨v,hv,r⟩:=lr.val m d this;exact#[v,by show aa ((σ[m]?).join)=_;rw[hv];rfl,r]
noncomputable def Mx.at(ρ:Mx)(A:aC):Mx:=#[ρ.K,ρ.n0,λa=>ρ.X a\/a=A,λa h=>.inl<|ρ.xz a h]
def XW(ρ:Mx)(A:aC)(H H':Hp):Prop:=∀a o,a≠A->H a=aa o->H' a=aa o\/(ρ.n0=aa a/\∃xs,o=.lst xs)\/((∃ps,o=.tbl ps)/\∃ps,H' a=aa (.tbl ps))
def XW.trans(f:XW ρ A H H1)(g:XW ρ A H1 H2):XW ρ A H H2:=λa o n h=>(f a o n h).elim (g a o n) λz=>z.elim (λz=>.inr<|.inl z)<|by
 rintro ⟨e,ps,h⟩;rcases g a _ n h with q|⟨_,xs,q⟩|⟨_,q⟩
 .exact .inr<|.inr #[e,ps,q]
 .cases q
 .exact .inr<|.inr #[e,q]
def XW.of(f:Fut (ρ.at A) H ρ' H1):XW ρ A H H1:=λa o _ h=>f.keep a o h
structure CI(K:al)(ρ:Mx)(A:aC)(acc:List D)(l:Lc)(σ:L2.St)(H:Hp)(S:Zv):Prop where
 st:St3 K (ρ.at A) S H
 lr:LocR (ρ.at A) H l σ
 ac:∃us,H A=aa (.lst us)/\Rq (ρ.at A) H acc us
section
variable{K:al}{ρ:Mx}{A:aC}{acc:List D}{l l':Lc}{σ:L2.St}{H H':Hp}{S S':Zv}
def XW.lat(f:XW ρ A H H')(ha:H A=aa (.lst us)):Lat (ρ.at A) H (ρ.at A) H':=#[rfl,rfl,λa o h x n=>by
 by_cases c:a=A
 .subst c;rw[ha]at h;cases h;exact T7 (.inr rfl)<|x us rfl
 .rcases f a o c h with z|⟨z,xs,e⟩|⟨⟨ps,e⟩,_⟩
  .exact z
  .exact T7 (.inl<|ρ.xz a z)<|x xs e
  .exact T7 e<|n ps,λ_ _ x=>x]
theorem CI.mono(h:CI K ρ A acc l σ H S)(na:ρ.n0≠aa A)(f:Fut (ρ.at A) H ρ' H')(st:St3 K (ρ.at A) S' H'):CI K ρ A acc l σ H' S':=by
 obtain⟨us,e,r⟩:=h.ac;cases f.eq;exact#[st,h.lr.mono f,us,(f.keep A _ e).elim id λz=>z.elim (λz=>T7 z.1 na)<|by rintro ⟨⟨_,z⟩,_⟩;exact (by cases z),r.mono f]
def Zew{Q:L2.St->Hp->Prop}(lr:LocR ρ H l σ)(r:Rep ρ H d v)(e:Pv.Zp t d l=aa l')(q:∀σ',LocR ρ H l' σ'->Q σ' H):tGU K t v σ H Q:=by
 have fill:∀{t:List Nat}{vs:List D}{us:List V}{l l':Lc}{σ:L2.St},LocR ρ H l σ->Rq ρ H vs us->Pv.XF t vs l=aa l'->us.length=t.length/\LocR ρ H l' (UP t us σ):=λ{t}=>by
  induction t with
  |nil=>intro vs us l l' σ h r e;cases vs with|nil=>rw[r];cases e;exact#[rfl,h]|cons _ _=>cases e
  |cons i t ih=>intro vs us l l' σ h r e;cases vs with
   |nil=>cases e
   |cons v vs=>
    obtain⟨d,ds,rfl,a,b⟩:=r;obtain⟨z,q⟩:=ih (h.set i a) b e;exact#[by rw[aJ,aJ,z],q]
 have gen:∀t:List Nat,(match Pv.qD d with
   |some xs=>Pv.XF t xs l
   |none=>ae)=aa l'->∃a xs,v=.ref a/\(SqT K H a xs\/H a=aa (.lst xs))/\xs.length=t.length/\Q (UP t xs σ) H:=by
  intro t e;cases d with|tup vs=>obtain⟨p,ds,rfl,hp,rs⟩:=r.tup';obtain⟨z,y⟩:=fill lr rs e;exact#[p,ds,rfl,.inl<|SqT.of hp,z,q _ y]|lst vs=>obtain⟨p,ds,rfl,hp,_,rs⟩:=r.lst';obtain⟨z,y⟩:=fill lr rs e;exact#[p,ds,rfl,.inr hp,z,q _ y]|_=>cases e
 match t,e with
 |[i],e=>cases e;exact q _<|lr.set i r
 |[],e=>exact gen [] e
 |i::j::t,e=>exact gen (i::j::t) e
theorem Jd:∀{t:List Nat}{vs:List D}{l l':Lc},Pv.XF t vs l=aa l'->l'.length=l.length/\∀j,j∉t->l'[j]?=l[j]?
 |[],[],l,l',h=>by cases h;exact#[rfl,λ_ _=>rfl]
 |[],_::_,_,_,h=>by cases h
 |_::_,[],_,_,h=>by cases h
 |i::t,v::vs,l,l',h=>by
  obtain⟨a,b⟩:=Jd (t:=t) h;exact#[by rw[a,bz],λj hj=>by rw[b j λz=>hj<|au _ z,bc λz=>hj<|by rw[z];exact ao ..]]
def V3(e:Pv.Zp t v l=aa l'):l'.length=l.length/\∀j,j∉t->l'[j]?=l[j]?:=by
 have gen:∀t:List Nat,(match Pv.qD v with
   |some xs=>Pv.XF t xs l
   |none=>ae)=aa l'->l'.length=l.length/\∀j,j∉t->l'[j]?=l[j]?:=λt e=>by
  cases q:Pv.qD v with|none=>rw[q]at e;cases e|some xs=>rw[q]at e;exact Jd e
 match t,e with
 |[i],e=>cases e;exact#[bz ..,λj hj=>bc λz=>hj<|by rw[z];exact ao ..]
 |[],e=>exact gen [] e
 |i::j::t,e=>exact gen (i::j::t) e
def LocR.back(e:Pv.Zp t v l=aa l')(hn:∀i∈t,∀d,l[i]?≠aa (aa d))(lr:LocR ρ H l' σ):LocR ρ H l σ:=by
 obtain⟨a,b⟩:=V3 e;exact#[by rw[<-a];exact lr.len,λi d q=>lr.val i d<|by rw[b i λz=>hn i z d q];exact q]
end
noncomputable def Zdu(C:Calls)(t:List Nat)(is:List E)(G:Lc->Zv->R (List D))(l:Lc)(x:D)(S:Zv):R (List D):=(Pv.po (Pv.Zp t x l) S).bind λl S=>(Pv.pvt C is l S).bind λb S=>if b then G l S else .ok [] S
def Uv{α β:Type}{r:R α}{f:α->Zv->R β}{b:β}{S:Zv}(h:r.bind f=.ok b S):∃a S1,r=.ok a S1/\f a S1=.ok b S:=by
 cases r with|ok a S1=>exact#[a,S1,rfl,h]|ex _ _=>cases h|no=>cases h
def uA(h:Pv.mapP f (x::w) S=.ok rs S2):∃y S1 zs,f x S=.ok y S1/\Pv.mapP f w S1=.ok zs S2/\rs=y++zs:=by
 rw[Pv.mapP]at h;split at h
 .split at h
  .cases h;exact#[_,_,_,‹_›,‹_›,rfl]
  .cases h
 .cases h
def Zfs(K:al)(ρ:Mx)(A:aC)(P:Lc->Prop)(te:TEm)(G:Lc->Zv->R (List D)):Prop:=∀acc l σ H S ys S2 QQ,P l->CI K ρ A acc l σ H S->G l S=.ok ys S2->(acc++ys).length<=Ev.lim->(∀σ3 H3,XW ρ A H H3->CI K ρ A (acc++ys) l σ3 H3 S2->QQ σ3 H3)->te σ H QQ
def UM{ρ ρw:Mx}{A:aC}{Hw:Hp}{w:List D}{J:It}(r:WRel X.K ρw Hw w J)(na:ρ.n0≠aa A){t:List Nat}{is:List E}{te:TEm}{G:Lc->Zv->R (List D)}{P:Lc->Prop}(em:Zfs X.K ρ A P te G){l:Lc}(hn:∀i∈t,∀d,l[i]?≠aa (aa d))(hP:∀x l2,Pv.Zp t x l=aa l2->P l2){acc ys:List D}{σ:L2.St}{H:Hp}{S S2:Zv}{QQ:L2.St->Hp->Prop}
  (hl:∀H',XW ρ A H H'->Lat ρw Hw (ρ.at A) H')(c:CI X.K ρ A acc l σ H S)(h:Pv.mapP (Zdu C t is G l) w S=.ok ys S2)(hz:(acc++ys).length<=Ev.lim)(k:∀σ3 H3,XW ρ A H H3->CI X.K ρ A (acc++ys) l σ3 H3 S2->QQ σ3 H3) :
  ∃W:Nat->Nat->L2.St->Hp->Prop,(∃m,W 0 m σ H)/\wn J (tGU X.K t) (tB3 X nx<|Pv.pvt C is) te W QQ:=by
 refine#[λn m σ' H'=>m=w.length-n/\n<=w.length/\XW ρ A H H'/\∃ac rs S',ac++rs=acc++ys/\Pv.mapP (Zdu C t is G l) (w.drop n) S'=.ok rs S2/\CI X.K ρ A ac l σ' H' S',#[w.length,rfl,dQ _,λ_ _ _ h=>.inl h,acc,ys,S,rfl,h,c],?_]
 rintro n m σ' H' ⟨rfl,hn',ff,ac,rs,S',ea,e',c'⟩
 have lat:=hl H' ff;by_cases hlt:n<w.length
 .right
  rw[cq hlt]at e';obtain⟨y1,S1,r1,q1,q2,rfl⟩:=uA e';obtain⟨go,yl⟩:=r.go n _ S' H' lat c'.st hlt;refine#[go,λx H3 y=>?_]
  obtain⟨f3,st3,rp⟩:=yl x H3 y;have rx:=rp _<|ag hlt;obtain⟨l2,Sa,ha,q1⟩:=Uv q1;obtain⟨b,Sb,hb,q1⟩:=Uv q1;have hal:Pv.Zp t w[n] l=aa l2/\Sa=S':=by
   cases z:Pv.Zp t w[n] l<;>rw[z]at ha<;>cases ha;exact#[rfl,rfl]
  obtain⟨hal,rfl⟩:=hal;have ff3:=ff.trans<|XW.of f3;have c3:=c'.mono na f3 st3;refine Zew c3.lr rx hal λσ2 lr2=>#[ρ.at A,l2,Sa,st3,lr2,?_]
  rw[hb];intro ρ4 H4 b' f4 st4 eb;have eb:=eb;subst eb;cases f4.eq;have ff4:=ff3.trans<|XW.of f4;have c4:=c3.mono na f4 st4;cases b with
  |false=>
   rw[T8 aN]at q1 ⊢;cases q1;exact#[w.length-(n+1),by omega,rfl,hlt,ff4,ac,r1,_,ea,q2,c4.st,(lr2.mono f4).back hal hn,c4.ac]
  |true=>
   rw[T9 rfl]at q1 ⊢;refine em ac l2 σ2 H4 Sb y1 S1 _ (hP _ _ hal) #[c4.st,lr2.mono f4,c4.ac] q1 ?_ λσ3 H5 f5 c5=>#[w.length-(n+1),by omega,rfl,hlt,ff4.trans f5,ac++y1,r1,S1,by rw[bL];exact ea,q2,c5.st,c5.lr.back hal hn,c5.ac]
   rw[<-ea]at hz;simp only[aX]at hz ⊢;omega
 .left
  have en:n=w.length:=by omega
  subst en;rw[eC]at e';cases e';rw[cr]at ea;subst ea;exact#[r.stop _ _ H' lat c'.st,k σ' H' ff c']
def ZaU{ρ:Mx}{A:aC}(na:ρ.n0≠aa A)(ie:E):Zfs X.K ρ A (λ_=>True) (Zb7 (tE X nx<|Pv.pv C ie) A) (λl S=>(Pv.pv C ie l S).bind λy S=>.ok [y] S):=λacc l σ H S ys S2 QQ _ c h hz k=>by
 obtain⟨y,S1,hy,h⟩:=Uv h;cases h;refine#[ρ.at A,l,S,c.st,c.lr,?_];rw[hy];intro ρ4 H4 v f4 st4 r4;cases f4.eq;have c4:=c.mono na f4 st4;obtain⟨us,e,r⟩:=c4.ac;rw[aX]at hz;have hz:acc.length+1<=Ev.lim:=hz;have fa:XW ρ A H4 (upd H4 A<|.lst<|us++[v]):=λa o n h=>.inl (by rw[Zj n];exact h)
 have lt:=fa.lat e;refine#[us,e,by rw[r.length,<-WM];omega,k σ _ ((XW.of f4).trans fa) #[#[st4.hk,λb x=>?_,λb x=>?_,st4.tb.upd (λo u z=>by rw[e]at z;cases z) λ_ z=>by cases z],#[c4.lr.len,λi d q=>let #[u,a,b]:=c4.lr.val i d q;#[u,a,b.lat lt]],_,Zl,(r.lat lt).append<|Rq.cons (r4.lat lt) Rq.nil]]
 .by_cases z:b=A
  .rw[z,Zl];intro q;cases q
  .rw[Zj z];exact st4.xd b x
 .rw[Zj λz=>na<|by rw[<-z];exact x];exact st4.dw b x
def vZ(st:St3 X.K ρ S H)(lr:LocR ρ H l σ)(hA:H A=ae):ρ.n0≠aa A/\CI X.K ρ A [] l σ (upd H A<|.lst []) S/\∀H',XW ρ A (upd H A<|.lst []) H'->Fut ρ H ρ H'/\Lat ρ H (ρ.at A) H':=by
 have ne:∀a,H a≠ae->a≠A:=λa h z=>h<|z▸hA
 have f:∀H',XW ρ A (upd H A<|.lst []) H'->Fut ρ H ρ H'/\Lat ρ H (ρ.at A) H':=λH' g=>by
  have f:Fut ρ H ρ H':=#[rfl,λa o h=>g a o (ne a<|by rw[h];intro z;cases z)<|by rw[Zj<|ne a<|by rw[h];intro z;cases z];exact h]
  exact#[f,rfl,rfl,f.lat.keep',λa h x=>x.elim id λz=>T7 z<|ne a h]
 have s:=st.fresh (o:=.lst []) hA;obtain⟨f1,lt⟩:=f _ λ_ _ _ h=>.inl h
 refine#[λz=>st.xd A (ρ.xz A z) hA,#[#[s.hk,λb x=>x.elim (s.xd b) λz=>(by rw[z,Zl];intro q;cases q),s.dw,s.tb],#[lr.len,λi d q=>let #[u,a,b]:=lr.val i d q;#[u,a,b.lat lt]],[],Zl,Rq.nil],f]
def VB{l:Lc}{cap:List Nat}{nl i:Nat}(h:i<nl)(v:D):(Pv.Z2 cap nl l)[i]?≠aa (aa v):=by
 unfold Pv.Z2;rw[bN (by simpa using h),c8,T9 h]
 intro z;cases z
def zw(f0:Fut ρ H0 ρ H)(hA:H A=ae)(st:St3 X.K ρ S H)(f:Fut ρ H ρ H')(c:CI X.K ρ A ys l σ H' S')(h:End X.K nx (XT ak H0) ρ H Q (.ok (.lst ys) S')):Q (.ref A) H':=by
 obtain⟨us,e,r⟩:=c.ac;have lt:Lat (ρ.at A) H' ρ H':=#[rfl,rfl,λ_ _ h _ _=>h,λ_ _ x=>.inl x]
 refine h ρ H' _ f #[c.st.hk,λb x=>c.st.xd b<|.inl x,c.st.dw,c.st.tb] #[Wl e (st.nx hA)<|r.lat lt,λ_ _ _=>#[A,rfl,f0.new hA st.xd]]
def zt{K:al}{rep:Mx->Hp->D->V->Prop}{ρ:Mx}{H:Hp}{Q:VK}{r:R (List D)}(h:End K xw rep ρ H Q (r.bind λys s=>if ys.length<=Ev.lim then Pv.PR.ok (.lst ys) s else .no).nox):∃ys S,r=.ok ys S/\ys.length<=Ev.lim/\End K nx rep ρ H Q (.ok (.lst ys) S):=by
 cases r with
 |no=>exact h.elim
 |ex c S=>exact h.elim
 |ok ys S=>
  have h:=End.nox h
  obtain⟨hl,h⟩:=End.guard h;exact#[ys,S,rfl,hl,h]
def yj{is:List E}{ie:E}{cap:List Nat}{nl:Nat}{w:Ev.W}{t:List Nat}{σ:L2.St}{H:Hp}{Q:VK}(hyp:tF X xw (Pv.pv C<|.comp1 cap nl t w is ie) σ H Q):j8 (tW3 X xw<|Pv.pvw C w) (tGU X.K t) (tB3 X nx<|Pv.pvt C is) (tE X nx<|Pv.pv C ie) cap nl σ H Q:=by
 obtain⟨ρ,l,S,st,lr,h⟩:=hyp;rw[Pv.pv]at h;obtain⟨ho,h⟩:=End.guard h;refine#[ρ,l,S,st,lr,h.bind λwk S1 ρ1 H1 J f1 st1 r1 h1=>λA hA=>?_]
 cases f1.eq;obtain⟨ys,S2,hm,hl,h1⟩:=zt h1;obtain⟨na,ci,ft⟩:=vZ st1 ((lr.mono f1).caught cap nl) hA;exact UM r1 na (ZaU na ie) (λi hi d=>VB (T6<|aS.mp ho i hi) d) (λ_ _ _=>dk) (λH' f=>(ft H' f).2) ci hm hl λσ3 H3 f3 c3=>zw f1 hA st1 (ft H3 f3).1 c3 h1
def Q2{is js:List E}{ie:E}{cap:List Nat}{nl:Nat}{w w2:Ev.W}{t u:List Nat}{σ:L2.St}{H:Hp}{Q:VK}(hyp:tF X xw (Pv.pv C<|.comp2 cap nl t w is u w2 js ie) σ H Q) :
  Ga (tW3 X xw<|Pv.pvw C w) (tGU X.K t) (tB3 X nx<|Pv.pvt C is) (λD=>Gz (tW3 X nx<|Pv.pvw C w2) (tGU X.K u) (tB3 X nx<|Pv.pvt C js)<|Zb7 (tE X nx<|Pv.pv C ie) D) cap nl σ H Q:=by
 obtain⟨ρ,l,S,st,lr,h⟩:=hyp;rw[Pv.pv]at h;obtain⟨ho,h⟩:=End.guard h;obtain⟨ho,hu⟩:=(aB _ _).mp ho;refine#[ρ,l,S,st,lr,h.bind λwk S1 ρ1 H1 J f1 st1 r1 h1=>λA hA=>?_]
 cases f1.eq;obtain⟨ys,S2,hm,hl,h1⟩:=zt h1;obtain⟨na,ci,ft⟩:=vZ st1 ((lr.mono f1).caught cap nl) hA;have hu:∀i∈u,i<nl/\i∉t:=λi hi=>by
  have:=(aB _ _).mp<|aS.mp hu i hi;exact#[T6 this.1,by simpa using this.2]
 refine UM (P:=λl=>∀i∈u,∀d,l[i]?≠aa (aa d)) r1 na (λacc l σ H S ys S2 QQ pl c h hz k=>?_) (λi hi d=>VB (T6<|aS.mp ho i hi) d) (λx l2 e i hi d=>?_) (λH' f=>(ft H' f).2) ci hm hl λσ3 H3 f3 c3=>zw f1 hA st1 (ft H3 f3).1 c3 h1
 .obtain⟨wk2,S5,hw,h⟩:=Uv h
  refine#[ρ.at A,l,S,c.st,c.lr,?_];rw[hw];intro ρ5 H5 J5 f5 st5 r5;cases f5.eq;have c5:=c.mono na f5 st5;obtain⟨us,e,_⟩:=c5.ac;exact UM r5 na (ZaU na ie) pl (λ_ _ _=>dk) (λH' f=>f.lat e) c5 h hz λσ3 H3 f3 c3=>k σ3 H3 ((XW.of f5).trans f3) c3
 .rw[(V3 e).2 i (hu i hi).2]
  exact VB (hu i hi).1 d
def Qn{elt:Expr}{ifs:List Expr}{is:List E}{ie:E}{scope:dO}{N:List bi}{cap:List Nat}{nl:Nat}{w:Ev.W}{t:List Nat}(hc:X.calm=ak)(hN:X.N.Nodup)(CSc:CompScope X.env.scope X.N scope N cap nl)(hi:CW X xw C tg it w)
  (hb:∀cl s H fp,CG (cxC X N scope cl s H fp) tg t/\CTs (cxC X N scope cl s H fp) nx C ifs is/\CE (cxC X N scope cl s H fp) nx C elt ie)
  (hs:∀x,bB it X.env x=cD x:=by intro _;rfl):CF X xw C (.ListComp elt [#[tg,it,ifs,0]] scope pos) (.comp1 cap nl t w is ie):=
 PE.imp (ZcI (g:=tGU X.K t) (tt:=tB3 X nx<|Pv.pvt C is) (te:=tE X nx<|Pv.pv C ie) hc hN CSc hi (λcl s H fp=>hb cl s H fp) hs) λσ H Q hyp=>yj hyp
def Qm{fr:Bool}{ns:List Nat}{elt:Expr}{ifs:List Expr}{is:List E}{ie:E}{scope:dO}{N:List bi}{cap:List Nat}{nl:Nat}{w:Ev.W}{t:List Nat}{n:Nat}{y:bi}{spos py:fO}(hc:X.calm=ak)(hN:X.N.Nodup)(CSc:CompScope X.env.scope X.N scope N cap nl)(hi:CW X xw C tg it w)
  (hb:∀cl s H fp,CG (cxC X N scope cl s H fp) tg t/\CTs (cxC X N scope cl s H fp) nx C ifs is/\CE (cxC X N scope cl s H fp) nx C elt ie)
  (hsw:eB (.ListComp elt [#[tg,it,ifs,0]] scope pos) (aa<|.Name y py) spos.line X.env=cD ak:=by rfl)
  (hy:X.N[n]?=aa y:=by rfl)(hx:L2.Loc X.env.scope y:=by first|exact fS rfl|exact ei rfl)(hf:X.fn y=ak\/X.env.scope.names.lookup y=aa .local:=by first|exact .inl rfl|exact .inr rfl)
  (hs:∀x,bB it X.env x=cD x:=by intro _;rfl):CS X xw fr C ns (.Assign [.Name y py] (.ListComp elt [#[tg,it,ifs,0]] scope pos) spos) (.asg [n]<|.comp1 cap nl t w is ie):=
 PS.imp (qG (g:=tGU X.K t) (tt:=tB3 X nx<|Pv.pvt C is) (te:=tE X nx<|Pv.pv C ie) hc hN CSc hi (λcl s H fp=>hb cl s H fp) hsw hy hx hf hs)<|by rintro D σ H ⟨ρ,H0,W,l,os,S,st,en,h⟩;exact yj<|Zd0 st en h
def US{elt t1 i1 t2 i2:Expr}{f1' f2':List Expr}{is js:List E}{ie:E}{scope:dO}{N:List bi}{cap:List Nat}{nl:Nat}{w w2:Ev.W}{t u:List Nat}(hc:X.calm=ak)(hN:X.N.Nodup)(CSc:CompScope X.env.scope X.N scope N cap nl)(hi:CW X xw C t1 i1 w)
  (hb:∀cl s H fp,CG (cxC X N scope cl s H fp) t1 t/\CTs (cxC X N scope cl s H fp) nx C f1' is/\CW (cxC X N scope cl s H fp) nx C t2 i2 w2/\CG (cxC X N scope cl s H fp) t2 u/\CTs (cxC X N scope cl s H fp) nx C f2' js/\CE (cxC X N scope cl s H fp) nx C elt ie)
  (hs:∀x,bB i1 X.env x=cD x:=by intro _;rfl)(hs2:∀env x,bB i2 env x=cD x:=by intro _ _;rfl):CF X xw C (.ListComp elt [#[t1,i1,f1',0],#[t2,i2,f2',0]] scope pos) (.comp2 cap nl t w is u w2 js ie):=
 PE.imp (qY (wj:=tW3 X nx<|Pv.pvw C w2) (g1:=tGU X.K t) (tt1:=tB3 X nx<|Pv.pvt C is) (g2:=tGU X.K u) (tt2:=tB3 X nx<|Pv.pvt C js) (te:=tE X nx<|Pv.pv C ie) hc hN CSc hi (λcl s H fp=>hb cl s H fp) hs hs2) λσ H Q hyp=>Q2 hyp
def VA{fr:Bool}{ns:List Nat}{elt t1 i1 t2 i2:Expr}{f1' f2':List Expr}{is js:List E}{ie:E}{scope:dO}{N:List bi}{cap:List Nat}{nl:Nat}{w w2:Ev.W}{t u:List Nat}{n:Nat}{y:bi}{spos py:fO}(hc:X.calm=ak)(hN:X.N.Nodup)(CSc:CompScope X.env.scope X.N scope N cap nl)(hi:CW X xw C t1 i1 w)
  (hb:∀cl s H fp,CG (cxC X N scope cl s H fp) t1 t/\CTs (cxC X N scope cl s H fp) nx C f1' is/\CW (cxC X N scope cl s H fp) nx C t2 i2 w2/\CG (cxC X N scope cl s H fp) t2 u/\CTs (cxC X N scope cl s H fp) nx C f2' js/\CE (cxC X N scope cl s H fp) nx C elt ie)
  (hsw:eB (.ListComp elt [#[t1,i1,f1',0],#[t2,i2,f2',0]] scope pos) (aa<|.Name y py) spos.line X.env=cD ak:=by rfl)
  (hy:X.N[n]?=aa y:=by rfl)(hx:L2.Loc X.env.scope y:=by first|exact fS rfl|exact ei rfl)(hf:X.fn y=ak\/X.env.scope.names.lookup y=aa .local:=by first|exact .inl rfl|exact .inr rfl)
  (hs:∀x,bB i1 X.env x=cD x:=by intro _;rfl)(hs2:∀env x,bB i2 env x=cD x:=by intro _ _;rfl) :
  CS X xw fr C ns (.Assign [.Name y py] (.ListComp elt [#[t1,i1,f1',0],#[t2,i2,f2',0]] scope pos) spos) (.asg [n]<|.comp2 cap nl t w is u w2 js ie):=
 PS.imp (qc (wj:=tW3 X nx<|Pv.pvw C w2) (g1:=tGU X.K t) (tt1:=tB3 X nx<|Pv.pvt C is) (g2:=tGU X.K u) (tt2:=tB3 X nx<|Pv.pvt C js) (te:=tE X nx<|Pv.pv C ie) hc hN CSc hi (λcl s H fp=>hb cl s H fp) hsw hy hx hf hs hs2)<|by rintro D σ H ⟨ρ,H0,W,l,os,S,st,en,h⟩;exact Q2<|Zd0 st en h
end
theorem LocR.start(r:Rq ρ H ds vs)(N:List bi)(n:Nat)(hn:n=N.length):LocR ρ H (Pv.ZJ n ds) (L2.start N vs):=by
 subst hn;have hl:=r.length;refine#[by unfold Pv.ZJ L2.start;simp[hl],λi d e=>?_]
 unfold Pv.ZJ at e;by_cases hi:i<ds.length
 .rw[bN (by simpa using hi),aR]at e
  cases q:ds[i]? with
  |none=>rw[q]at e;cases e
  |some d'=>
   rw[q]at e;cases e;obtain⟨v,hv,r'⟩:=r.get q;refine#[v,?_,r'];unfold L2.start;rw[bN (by simp;lia),aR,hv]
   rfl
 .rw[bx (by simp;lia),c8]at e
  split at e<;>cases e
theorem Eu.start{K:al}{ρ:Mx}{H:Hp}{S:Zv}{ds:List D}{vs:List V}(st:St3 K ρ S H)(r:Rq ρ H ds vs)(N:List bi)(n:Nat)(hn:n=N.length):Eu ρ H (λ_=>ae) (Pv.ZJ n ds) [] (L2.start N vs) H:=by
 have lr:=LocR.start r N n hn;refine#[Fut.refl _ _,st.xd,lr.len,λ_=>rfl,λ_ _ _ h=>?_,λ_ _ h=>?_,λ_ _ h=>?_,λi d e _=>?_]
 .cases h
 .cases h
 .cases h
 .obtain⟨v,a,b⟩:=lr.val i d e
  exact#[v,a,Rep.lat (ρ:=ρ) (ρ':=ρ.ex λ_=>ae) #[rfl,rfl,λ_ _ h _ _=>h,λ_ _ x=>Or.elim x id λ#[_,z]=>by cases z] b]
section
variable{P:bH}{w:bV}{K:al}{mg:bi->Option aq}{base:ck}
noncomputable def JN(C:Calls)(fn:Fn)(ds:List D)(S:Zv):R D:=if ds.length=fn.ps then(Pv.rvs C (Pv.muts fn.body) fn.body (Pv.ZJ fn.ns ds) [] S).bind λf S=>match f with
  |.ret x=>.ok x S
  |.nx _ _=>.ok .non S
 else .no
def zG{C:Calls}{fn:Fn}{fr:Bool}{xw:Nat->Hp->Prop}{ρ:Mx}{H:Hp}{ds:List D}{S:Zv}{Q:VK}{E:L2.Ends}(hE:∀v H',Q v H'->E.rt v H')(hN:∀σ H',Q .non H'->E.nx σ H')(h:End K xw (XT fr H) ρ H Q (JN C fn ds S)):ZK fr K xw ρ H E (Pv.rvs C (Pv.muts fn.body) fn.body (Pv.ZJ fn.ns ds) [] S):=by
 obtain⟨_,h⟩:=End.guard h;cases q:Pv.rvs C (Pv.muts fn.body) fn.body (Pv.ZJ fn.ns ds) [] S with
 |no=>rw[q]at h;exact h
 |ex c S2=>rw[q]at h;exact λH' f st=>h ρ H' f st
 |ok fl S2=>
  rw[q]at h;cases fl with|ret x=>exact λH' v f st r=>hE v H'<|h ρ H' v f st r|nx l os=>exact λH' σ' W' st en=>hN σ' H'<|h ρ H' .non en.fut st #[Ut,λ_ _ z=>by cases z]
end
section
variable{prog:bH}{w:bV}{A:cC}{E:aq->aA->Prop}{s:aA}
theorem uk(n:Nat):cO ((n:Int)-1) (-1) (-1)=n:=by
 unfold cO;have h1:¬((-1:Int)>0):=by decide
 rw[T8 h1];by_cases h:(n:Int)-1 > -1
 .rw[T9 h,show(- -1:Int)=1 by decide,Int.ediv_one]
  lia
 .rw[T8 h]
  lia
def VD{sl:aC}{vk:aq}{n:Nat}{Q:Int×Int×Nat->aA->Prop}(hs:s.heap.IsSliceOf sl .none .none vk)(pk:kn vk (aa<|-1))
  (h:Q ((n:Int)-1,-1,n) s):bn (aV prog w) A (kq (.ref sl)<|cD (n:Int)) Q E s:=by
 obtain⟨os,hos,hcs,hds⟩:=id hs;refine aj<|aj<|cn hos hds rfl<|aj<|cn hos hds rfl<|aj<|cn hos hds rfl<|aF ?_;refine aj<|HT.WI pk ?_;show bn _ _ (if((-1:Int) == 0)=ak then _ else _) _ _ s
 rw[T8<|by decide]
 refine aj<|ko<|aj<|ko<|aj<|aF ?_;show bn _ _ (cD ((n:Int)-1,(-1:Int),cO ((n:Int)-1) (-1)<|-1)) _ _ s;rw[uk];exact aF h
theorem qt(xs:Array aq):((aH xs.size).filterMap λ(k:Nat)=>xs[((xs.size:Int)-1+(k:Int) * -1).toNat]?).toArray=xs.toList.reverse.toArray:=by
 congr 1
 have e:(aH xs.size).filterMap (λ(k:Nat)=>xs[((xs.size:Int)-1+(k:Int) * -1).toNat]?)=((aH xs.size).map λk=>xs.size-1-k).filterMap (xs[·]?):=by
  rw[nk]
  congr 1
  funext k
  have:((xs.size:Int)-1+(k:Int) * -1).toNat=xs.size-1-k:=by lia
  rw[this];rfl
 rw[e,PySem.W.krv_range,List.filterMap_reverse,PySem.W.krv_all]
def WZ{Q:aq->aA->Prop}(ht:rh s.heap t items)(hs:s.heap.IsSliceOf sl .none .none vk)(pk:kn vk (aa<|-1))
  (h:Q (.ref s.heap.objs.size) {s with heap:=s.heap.push {cls:=.type "tuple",data:=.seq items.toList.reverse.toArray}})
  (hsz:items.size<=bo):bn (aV prog w) A (kN (.ref t)<|.ref sl) Q E s:=by
 have htake:sizeOk (.seq items.toList.reverse.toArray):=by
  show items.toList.reverse.toArray.size<=bo;rw[aK,iW,aM];exact hsz
 obtain⟨os,hos,hcs,hds⟩:=id hs;have hTs:s.TypeIs (.ref sl) "slice":=#[os,hos,hcs];unfold kN
 try with_reducible refine cU ?_
 first|refine aj<|aF ?_|skip
 refine aj<|kO ht.typeIs (by decide) ?_
 refine aj (c6 ht.typeIs cB
  (dA cB ht.typeIs iV ?_<|kr _ _))
 show bn _ _ (fQ (.ref t) >>= _) _ _ s;refine aj<|mQ ht ?_;refine aj<|i8 hTs ?_;rw[T9<|by decide]
 refine aj<|VD hs pk ?_;have hno:¬(((items.size:Int)-1 == 0&&(-1:Int) == 1&&items.size == items.size)=ak):=by
  intro q;rw[aB,aB]at q;exact T7 q.1.2 (by decide)
 show bn _ _ (if((items.size:Int)-1 == 0&&(-1:Int) == 1&&items.size == items.size)=ak then _ else _) _ _ s
 rw[T8 hno,qt]
 first
  |exact aj<|cu (aF #[_,rfl,aF h]) htake
  |exact aj<|cu (aj<|aF<|aF #[_,rfl,aF h]) htake
  |exact aj<|aj<|cu (aF<|aF #[_,rfl,aF h]) htake
  |exact aj<|aj<|cu (aF #[_,rfl,aF h]) htake
end
section
variable{X:Cx}{xw:Nat->Hp->Prop}{C:Calls}{e a b c tg it:Expr}{i j k:E}{pos p p' p2 p3:fO}{q1:Option bi}
def xW{e1:Expr}(ha:CE X xw C a i)(h1:CE X xw C e1 (.neg<|.c<|.int 1)):CE X xw C (.Subscript a (.Slice ae ae (aa e1) p2) pos) (.rev i):=by
 intro pq s σ H Q I hq;obtain⟨ρ,l,S,st,lr,h⟩:=hq;have h':=h
 refine pz<|thn (ha pq s σ H (λx H1=>∃ρ1 S1 d,St3 X.K ρ1 S1 H1/\LocR ρ1 H1 l σ/\Rep ρ1 H1 d x/\End X.K xw Rep ρ1 H1 Q (Pv.po (Pv.Ze8 d) S1)) I #[ρ,l,S,st,lr,h'.bind λd S1 ρ1 H1 v f1 st1 r1 h1=>#[ρ1,S1,d,st1,lr.mono f1,r1,h1]]) λv s1 #[x,H1,I1,r1,ρ1,S1,d,st1,lr1,rd,h2]=>?_
 refine wpAny_Slice ?_;rw[mR];refine aF<|aF ?_;rw[evalPart_some];refine thn (h1 pq s1 σ H1 (λy H2=>y=.int (-1)/\∃ρ2,Fut ρ1 H1 ρ2 H2/\St3 X.K ρ2 S1 H2) I1 #[ρ1,l,S1,st1,lr1,λρ2 H2 y f2 st2 ry=>#[ry.int',ρ2,f2,st2]]) λvk s2 #[y,H2,I2,ry,ey,ρ2,f2,st2]=>?_
 subst ey;obtain⟨t,rfl⟩:=ry;have rd2:=rd.mono f2;have h3:=End.mono f2 h2;cases d with
 |tup ds=>
  obtain⟨q,xs,rfl,hp,rs⟩:=rd2.tup';cases r1;have I4:Inv X pq σ H2 {s2 with heap:=s2.heap.push {cls:=.type "slice",data:=.fields [.none,.none,.int (-1) t].toArray}}:=I2.kept (t':=s2.toks) λb ob q=>ax _ q
  obtain⟨its,r,ht,hz⟩:=I4.tuple<|SqT.of hp;have hlen:its.toArray.size=xs.length:=by rw[aK];exact r.length.symm
  refine tail_any ht.typeIs cB.lookup ?_ (by with_unfolding_all rfl)
  refine WZ ht (nr ..) (kn.int _ _) ?_ (by rw[hlen];exact hz)
  refine#[.ref _,_,I4.laid (t':=s2.toks) (o:=.tup xs.reverse) (λb ob q=>ax _ q) (aG _) #[by rw[iW];exact hz,_,r.reverse,kh _ _],rfl,h3.newT st2 rs.reverse _<|I4.hok.fresh<|aG _]
 |_=>exact False.elim h3
end
def yo{a b c}:az (.Constant a b c::es) env=(ai,bY (.Constant a b c) env)::az es env:=rfl
def wo{a b}:az (.Name a b::es) env=(ai,bY (.Name a b) env)::az es env:=rfl
def Zau{a b c}:az (.Tuple a b c::es) env=(ai,bY (.Tuple a b c) env)::az es env:=rfl
def ZaQ{a b}:az (.List a b::es) env=(ai,bY (.List a b) env)::az es env:=rfl
def wq{a b c}:az (.Dict a b c::es) env=(ai,bY (.Dict a b c) env)::az es env:=rfl
def qI{a b c d}:az (.BinOp a b c d::es) env=(ai,bY (.BinOp a b c d) env)::az es env:=rfl
def Zdf{a b c}:az (.UnaryOp a b c::es) env=(ai,bY (.UnaryOp a b c) env)::az es env:=rfl
def Zbb{a b c d}:az (.Compare a b c d::es) env=(ai,bY (.Compare a b c d) env)::az es env:=rfl
def j4{a b c}:az (.Subscript a b c::es) env=(ai,bY (.Subscript a b c) env)::az es env:=rfl
def wm{a b c d}:az (.Call a b c d::es) env=(ai,bY (.Call a b c d) env)::az es env:=rfl
def vh{a b c d}:az (.ListComp a b c d::es) env=(ai,bY (.ListComp a b c d) env)::az es env:=rfl
def XA:List ln->List (Int×Int)->Prop
 |[],[]=>True
 |e::r,(k,j)::q=>(∃t,e.key=.int k t)/\e.hash=hashInt k/\(∃u,e.val=.int j u)/\XA r q
 |_,_=>False
theorem XA.mem :∀{es:List ln}{tab:List (Int×Int)},XA es tab->∀e∈es,∃k,(i4 P w).is k e.key=ak/\e.hash=(i4 P w).hash k
 |[],_,_,e,h=>by cases h
 |e::r,[],h,_,_=>h.elim
 |e::r,(k,j)::q,h,x,hx=>by
  obtain⟨⟨t,h1⟩,h2,_,h4⟩:=h;rcases ay.mp hx with rfl|hx
  .exact#[k,by rw[h1];exact intKind_is P w k t,h2]
  .exact XA.mem h4 x hx
theorem XA.find(k:Int):∀{es:List ln}{tab:List (Int×Int)},XA es tab->(tab.lookup k=ae->(es.find? λe=>(i4 P w).is k e.key)=ae)/\∀j,tab.lookup k=aa j->∃e t,(es.find? λe=>(i4 P w).is k e.key)=aa e/\e.val=.int j t
 |[],[],_=>#[λ_=>rfl,λj h=>by cases h]
 |[],_::_,h=>h.elim
 |e::r,[],h=>h.elim
 |e::r,(k',j')::q,h=>by
  obtain⟨⟨t,h1⟩,h2,⟨u,h3⟩,h4⟩:=h;obtain⟨i1,i2⟩:=XA.find k h4;rw[eD,eM];have hd:(i4 P w).is k e.key=af (k=k'):=KeyKind.is_eq_decide (by rw[h1];exact intKind_is P w k' t) k
  rw[hd];by_cases z:k=k'
  .subst z
   rw[beq_self_eq_true,T5 rfl];exact#[λz=>(by cases z),λj z=>(by cases z;exact#[e,u,rfl,h3])]
  .rw[beq_eq_false_iff_ne.mpr z,T4 z]
   exact#[i1,i2]
def Zcx{P:bH}{w:bV}{K:al}{a:aC}{es:Array ln}{n:Nat}{tab:List (Int×Int)}(hl:K.lookup a=aa #[.type "dict",ae,.dict es n,#[]])(ht:XA es.toList tab)(ha:(a == eE)=ai):Ze3 P w K a tab:=by
 refine#[ha,λk=>findBy (i4 P w).is es k,λh X=>#[_,es,n,X _ _ hl,#[rfl,rfl,rfl],rfl,λe he=>ht.mem e<|mh.mpr he,λ_=>rfl],λk=>?_]
 obtain⟨l⟩:=es;obtain⟨i1,i2⟩:=XA.find k ht;refine#[λz=>?_,λj z=>?_]
 .show((l.toArray.find? λe=>(i4 P w).is k e.key).map (·.val))=ae
  rw[nz,i1 z];rfl
 .obtain⟨e,t,q1,q2⟩:=i2 j z
  refine#[t,?_];show((l.toArray.find? λe=>(i4 P w).is k e.key).map (·.val))=_
  rw[nz,q1];exact congrArg aa q2
def hu7(hr:Room k A):A.units+7<dH:=Nat.lt_of_le_of_lt (by lia) hr.un
end Sd
namespace Sd
open PySem PySem.Spec PyProof.Rows L2
def Src(b:Bool)(h:ck)(it l:aC)(k:Nat):Prop:=match b with
 |true=>h.IsListIter it l k
 |false=>h.IsTupleIter it l k
def YW(b:Bool)(h:ck)(l:aC)(xs:Array aq):Prop:=match b with
 |true=>h.IsList l xs
 |false=>h.IsTuple l xs
def Src.ext(x:Src b h it l k)(e:iI c h h')(n:it≠c):Src b h' it l k:=by
 cases b
 .exact ck.IsTupleIter.extBut x e n
 .exact ck.IsListIter.extBut x e n
def Src.keep(x:Src b h it l k)(e:∀o,h.get? it=aa o->h'.get? it=aa o):Src b h' it l k:=by
 cases b
 .obtain⟨o,ho,r⟩:=x;exact#[o,e o ho,r]
 .obtain⟨o,ho,r⟩:=x;exact#[o,e o ho,r]
def Src.obj(x:Src b h it l k):∃o,h.get? it=aa o/\∀v,o.data≠.cell v:=by
 cases b
 .obtain⟨o,ho,_,d⟩:=x;exact#[o,ho,λv z=>by rw[d]at z;cases z]
 .obtain⟨o,ho,_,d⟩:=x;exact#[o,ho,λv z=>by rw[d]at z;cases z]
def YW.keep(x:YW b h l xs)(e:∀o,h.get? l=aa o->h'.get? l=aa o):YW b h' l xs:=by
 cases b
 .obtain⟨o,ho,r⟩:=x;exact#[o,e o ho,r]
 .obtain⟨o,ho,r⟩:=x;exact#[o,e o ho,r]
def jb{Q:aq->aA->Prop}(hit:s.heap.IsTupleIter it t i)(ht:s.heap.IsTuple t items)(hx:items[i]?=aa x)
  (hQ:∀h',h'.IsTupleIter it t (i+1)->fU it s.heap h'->Q x {s with heap:=h' }):bn (aV prog w) A (eK<|.ref it) Q E s:=by
 obtain⟨o,ho,hc,hd⟩:=id hit;obtain⟨ol,hol,_,nl,hdl⟩:=ht;refine aj<|c6 hit.typeIs eF<|dA eF hit.typeIs kc ?_<|iQ _;show bn _ _ (field (.ref it) 0 >>= _) _ _ s;refine aj<|cn ho hd rfl ?_;show bn _ _ (if(dJ t == bI)=ak then _ else _) _ _ s
 rw[T8<|by exact aN];refine aj<|cn ho hd rfl ?_
 refine aj<|eG hol hdl ?_;simp only[fH,hx];refine aj<|wpAny_setField ho hd (by simp)<|aF #[x,rfl,aF<|hQ _ #[_,l7 _ ho<|fD.isFreed_of_fields<|nA hd _,(fD.cls_mapFields ..).trans hc,?_]<|mJ ..]
 rw[nA hd];simp[gO]
def GA{Q:aq->aA->Prop}(hh:A.handled=ae)(hit:s.heap.IsTupleIter it t i)(ht:s.heap.IsTuple t items)(hx:items[i]?=ae)
  (hE:∀h' e,iI it s.heap h'->(∃o,h'.get? e=aa o/\o.cls=.type "StopIteration")->E (.ref e) {s with heap:=h' }):bn (aV prog w) A (eK<|.ref it) Q E s:=by
 obtain⟨o,ho,hc,hd⟩:=id hit;obtain⟨ol,hol,_,nl,hdl⟩:=ht;refine aj<|c6 hit.typeIs eF<|dA eF hit.typeIs kc ?_<|iQ _;show bn _ _ (field (.ref it) 0 >>= _) _ _ s;refine aj<|cn ho hd rfl ?_;show bn _ _ (if(dJ t == bI)=ak then _ else _) _ _ s
 rw[T8<|by exact aN];refine aj<|cn ho hd rfl ?_
 refine aj<|eG hol hdl ?_;simp only[fH,hx];refine aj<|fe<|aj<|wpAny_setField ho hd (by simp) ?_;show bn _ _ (newExc (.type "StopIteration") [] >>= _) _ _ _
 refine aj ?_;simp only[newExc,newTuple];refine aj<|cu ?_<|by size_fits
 refine aj (eA (by first|rfl|(simp only[firstArgMember];rfl))<|cu ?_<|by size_fits)
 simp only[raiseNew];refine aj<|wpAny_handled ?_;first|rw[hh]|rw[hh]
 exact aj<|aF<|wpAny_throw<|hE _ _ (((mJ ..).extBut.push _).push _) #[_,aQ _ rfl,rfl]
def Vj{Q:aq->aA->Prop}(hit:Src b s.heap it l k)(hl:YW b s.heap l xs)(hx:xs[k]?=aa x)
  (hQ:∀h',Src b h' it l (k+1)->fU it s.heap h'->Q x {s with heap:=h' }):bn (aV prog w) A (eK<|.ref it) Q E s:=by
 cases b
 .exact jb hit hl hx hQ
 .exact wpAny_nextOf_list_item hit hl hx hQ
def Gi{Q:aq->aA->Prop}(hh:A.handled=ae)(hit:Src b s.heap it l k)(hl:YW b s.heap l xs)(hx:xs[k]?=ae)
  (hE:∀h' e,iI it s.heap h'->(∃o,h'.get? e=aa o/\o.cls=.type "StopIteration")->E (.ref e) {s with heap:=h' }):bn (aV prog w) A (eK<|.ref it) Q E s:=by
 cases b
 .exact GA hh hit hl hx hE
 .exact wpAny_nextOf_list_end hh hit hl hx hE
noncomputable def YN(b:Bool)(l:aC):fD:={cls:=.type (if b then "list_iterator" else "tuple_iterator"),data:=.fields [.ref l,.int 0 0].toArray}
def W5{Q:aq->aA->Prop}(hl:YW b s.heap l xs)(h:Q (.ref s.heap.objs.size) {s with heap:=s.heap.push (YN b l)}):bn (aV prog w) A (me<|.ref l) Q E s:=by
 cases b
 .exact gF hl h
 .exact gX hl h
structure ZipSt(b1 b2:Bool)(z TI TO i1 i2 l1 l2:aC)(k:Nat)(f0:aq)(h:ck):Prop where
 zp:oR h z TI TO f0
 ti:lN h TI (.ref i1) (.ref i2)
 to:∃a b,lN h TO a b
 s1:Src b1 h i1 l1 k
 s2:Src b2 h i2 l2 k
def Zar{b1 b2:Bool}{z TI TO i1 i2 l1 l2:aC}{k:Nat}{xs ys:Array aq}{x y:aq}{Q:aq->aA->Prop}(D:mn z TI TO i1 i2 l1 l2)(Z:ZipSt b1 b2 z TI TO i1 i2 l1 l2 k .none s.heap)(hl1:YW b1 s.heap l1 xs)(hl2:YW b2 s.heap l2 ys)(hx:xs[k]?=aa x)(hy:ys[k]?=aa y)
  (hQ:∀h',ZipSt b1 b2 z TI TO i1 i2 l1 l2 (k+1) (gO s.heap.objs.size) h'->lN h' s.heap.objs.size x y->(∀c o,c∉[z,TO,i1,i2]->s.heap.get? c=aa o->h'.get? c=aa o)->Q (.ref s.heap.objs.size) {s with heap:=h' }) :
  bn (aV prog w) A (fg.«zip.__next__» #[[.ref z],[]]) (λfin s'=>∃v,fin=.done (.ret v)/\Q v s') E s:=by
 obtain⟨hz,hTI,⟨a,b,hTO⟩,h1,h2⟩:=Z;show bn _ _ (field (.ref z) 2 >>= _) _ _ _;refine aj<|cn hz rfl (x:=.bool ai) rfl ?_;refine aj<|cn hz rfl (x:=.ref TI) rfl<|aj<|eG hTI rfl ?_;refine aj ?_;refine aj<|cn hz rfl (x:=.none) rfl<|aF ?_;simp only[if_true];refine aj<|fe<|aj<|cn hz rfl (x:=.ref TO) rfl<|aj<|eI hz (by simp) λh₁ hz₁ hs₁=>?_
 replace hz₁:oR h₁ z TI TO .ellipsis:=by exact hz₁
 refine aj ?_;simp only[lq,oX,lS,pE];refine aj<|aj<|kX ?_;refine aj<|Vj (h1.ext hs₁.extBut D.i1z) (hl1.keep λo e=>hs₁.extBut _ o D.l1z e) hx λh₂ h1₂ hs₂=>aF ?_
 have hTO₂:lN h₂ TO a b:=by exact hs₂.extBut _ _ D.TOi1<|hs₁.extBut _ _ D.TOz hTO
 refine aj<|eG hTO₂ rfl<|aj<|iJ hTO₂ λh₃ hTO₃ hs₃=>?_
 replace hTO₃:lN h₃ TO x b:=by exact hTO₃
 refine aj<|oS<|aF<|aj<|aj<|kX ?_;have to3:∀c o,c≠z->c≠TO->c≠i1->s.heap.get? c=aa o->h₃.get? c=aa o:=λc o c1 c2 c3 e=>hs₃.extBut _ _ c2<|hs₂.extBut _ _ c3<|hs₁.extBut _ _ c1 e
 refine aj<|Vj (h2.keep λo e=>to3 _ o D.i2z D.TOi2.symm D.i12.symm e) (hl2.keep λo e=>to3 _ o D.l2z D.l2TO D.l2i1 e) hy λh₄ h2₄ hs₄=>aF ?_
 have hTO₄:lN h₄ TO x b:=by exact hs₄.extBut _ _ D.TOi2 hTO₃
 refine aj<|eG hTO₄ rfl<|aj<|iJ hTO₄ λh₅ hTO₅ hs₅=>?_
 replace hTO₅:lN h₅ TO x y:=by exact hTO₅
 refine aj<|oS<|aF<|aF<|aj<|eG hTO₅ rfl<|aj<|wpAny_newTuple ?_;have hsz:h₅.objs.size=s.heap.objs.size:=by rw[hs₅.1,hs₄.1,hs₃.1,hs₂.1,hs₁.1]
 have to5:=λc o c1 c2 c3 c4 e=>hs₅.extBut _ _ c2<|hs₄.extBut _ _ c4<|to3 c o c1 c2 c3 e
 have hz₅:oR h₅ z TI TO .ellipsis:=by exact hs₅.extBut _ _ D.TOz.symm<|hs₄.extBut _ _ D.i2z.symm<|hs₃.extBut _ _ D.TOz.symm<|hs₂.extBut _ _ D.i1z.symm hz₁
 have h1₅:Src b1 h₅ i1 l1 (k+1):=((h1₂.ext hs₃.extBut D.TOi1.symm).ext hs₄.extBut D.i12).ext hs₅.extBut D.TOi1.symm;have h2₅:Src b2 h₅ i2 l2 (k+1):=h2₄.ext hs₅.extBut D.TOi2.symm;have zl:z<h₅.objs.size:=aO hz₅;refine aj ?_;have hz₆:oR (h₅.push {cls:=.type "tuple",data:=.seq [x,y].toArray}) z TI TO .ellipsis:=by exact ax _ hz₅
 refine aj<|eI hz₆ (by simp) λh₇ hz₇ hs₇=>?_
 replace hz₇:oR h₇ z TI TO (gO h₅.objs.size):=by exact hz₇
 refine eI hz₇ (by simp) λh₈ hz₈ hs₈=>aF #[_,rfl,?_]
 replace hz₈:oR h₈ z TI TO (gO h₅.objs.size):=by exact hz₈
 have up:∀c o,c≠z->h₅.get? c=aa o->h₈.get? c=aa o:=λc o c1 e=>by exact hs₈.extBut _ _ c1<|hs₇.extBut _ _ c1<|ax _ e
 have hT₈:lN h₈ h₅.objs.size x y:=by exact hs₈.extBut _ _ (lG zl)<|hs₇.extBut _ _ (lG zl)<|aQ _ rfl
 show Q (.ref h₅.objs.size) _;rw[hsz]at hz₈ hT₈ ⊢;refine hQ h₈ #[hz₈,up _ _ D.TIz<|to5 _ _ D.TIz D.TITO D.TIi1 D.TIi2 hTI,#[x,y,up _ _ D.TOz hTO₅],h1₅.keep λo e=>up _ o D.i1z e,h2₅.keep λo e=>up _ o D.i2z e] hT₈ λc o hc e=>?_
 simp only[ay,bQ,or_false,not_or]at hc;exact up c o hc.1<|to5 c o hc.1 hc.2.1 hc.2.2.1 hc.2.2.2 e
def QG{b1 b2:Bool}{z TI TO i1 i2 l1 l2:aC}{k:Nat}{xs ys:Array aq}{Q:Fin->aA->Prop}(hh:A.handled=ae)(D:mn z TI TO i1 i2 l1 l2)(Z:ZipSt b1 b2 z TI TO i1 i2 l1 l2 k .none s.heap)(hl1:YW b1 s.heap l1 xs)(hl2:YW b2 s.heap l2 ys)(hend:xs[k]?=ae\/ys[k]?=ae)
  (hE:∀h' e,(∀c o,c∉[z,TO,i1,i2]->s.heap.get? c=aa o->h'.get? c=aa o)->(∃o,h'.get? e=aa o/\o.cls=.type "StopIteration")->E (.ref e) {s with heap:=h' }) :
  bn (aV prog w) A (fg.«zip.__next__» #[[.ref z],[]]) Q E s:=by
 obtain⟨hz,hTI,⟨a,b,hTO⟩,h1,h2⟩:=Z;have hk:∀{c:aC},c∉[z,TO,i1,i2]->c≠z/\c≠TO/\c≠i1/\c≠i2:=λhc=>by
  simp only[ay,bQ,or_false,not_or]at hc;exact hc
 show bn _ _ (field (.ref z) 2 >>= _) _ _ _;refine aj<|cn hz rfl rfl ?_;refine aj<|cn hz rfl (x:=.ref TI) rfl<|aj<|eG hTI rfl ?_;refine aj ?_;refine aj<|cn hz rfl (x:=.none) rfl<|aF ?_;simp only[if_true];refine aj<|fe<|aj<|cn hz rfl (x:=.ref TO) rfl<|aj<|eI hz (by simp) λh₁ hz₁ hs₁=>?_
 replace hz₁:oR h₁ z TI TO .ellipsis:=by exact hz₁
 refine aj ?_;simp only[lq,oX,lS,pE];refine aj<|aj<|kX ?_;have l1₁:=hl1.keep λo e=>hs₁.extBut _ o D.l1z e
 cases hx:xs[k]? with
 |none=>
  refine aj<|Gi hh (h1.ext hs₁.extBut D.i1z) l1₁ hx λh₂ e hs₂ he=>?_
  obtain⟨oe,hoe,hce⟩:=he;have hz₂:oR h₂ z TI TO .ellipsis:=by exact hs₂ _ _ D.i1z.symm hz₁
  have hez:e≠z:=λx=>by subst x;rw[hz₂]at hoe;cases hoe;simp at hce
  exact eI hz₂ (by simp) λh₃ _ hs₃=>hE h₃ e (λc o hc x=>hs₃.extBut _ _ (hk hc).1<|hs₂ _ _ (hk hc).2.2.1<|hs₁.extBut _ _ (hk hc).1 x) #[oe,hs₃.extBut _ _ hez hoe,hce]
 |some x=>
  have hy:ys[k]?=ae:=by rcases hend with q|q;rw[hx]at q;cases q;exact q
  refine aj<|Vj (h1.ext hs₁.extBut D.i1z) l1₁ hx λh₂ h1₂ hs₂=>aF ?_
  have hTO₂:lN h₂ TO a b:=by exact hs₂.extBut _ _ D.TOi1<|hs₁.extBut _ _ D.TOz hTO
  refine aj<|eG hTO₂ rfl<|aj<|iJ hTO₂ λh₃ hTO₃ hs₃=>?_
  refine aj<|oS<|aF<|aj<|aj<|kX ?_;have to3:∀c o,c≠z->c≠TO->c≠i1->s.heap.get? c=aa o->h₃.get? c=aa o:=λc o c1 c2 c3 e=>hs₃.extBut _ _ c2<|hs₂.extBut _ _ c3<|hs₁.extBut _ _ c1 e
  refine aj<|Gi hh (h2.keep λo e=>to3 _ o D.i2z D.TOi2.symm D.i12.symm e) (hl2.keep λo e=>to3 _ o D.l2z D.l2TO D.l2i1 e) hy λh₄ e hs₄ he=>?_
  obtain⟨oe,hoe,hce⟩:=he;have hz₄:oR h₄ z TI TO .ellipsis:=by exact hs₄ _ _ D.i2z.symm<|hs₃.extBut _ _ D.TOz.symm<|hs₂.extBut _ _ D.i1z.symm hz₁
  have hez:e≠z:=λx=>by subst x;rw[hz₄]at hoe;cases hoe;simp at hce
  exact eI hz₄ (by simp) λh₅ _ hs₅=>hE h₅ e (λc o hc x=>hs₅.extBut _ _ (hk hc).1<|hs₄ _ _ (hk hc).2.2.2<|to3 c o (hk hc).1 (hk hc).2.1 (hk hc).2.2.1 x) #[oe,hs₅.extBut _ _ hez hoe,hce]
def xI{b1 b2:Bool}{z TI TO i1 i2 l1 l2:aC}{k:Nat}{xs ys:Array aq}{x y:aq}{Q:Option aq->aA->Prop}(D:mn z TI TO i1 i2 l1 l2)(Z:ZipSt b1 b2 z TI TO i1 i2 l1 l2 k .none s.heap)(hl1:YW b1 s.heap l1 xs)(hl2:YW b2 s.heap l2 ys)(hx:xs[k]?=aa x)(hy:ys[k]?=aa y)
  (hQ:∀h',ZipSt b1 b2 z TI TO i1 i2 l1 l2 (k+1) (gO s.heap.objs.size) h'->lN h' s.heap.objs.size x y->(∀c o,c∉[z,TO,i1,i2]->s.heap.get? c=aa o->h'.get? c=aa o)->Q (aa<|.ref s.heap.objs.size) {s with heap:=h' }) :
  bn (aV prog w) A (rq<|.ref z) Q E s:=by
 have hT:s.TypeIs (.ref z) "zip":=#[_,Z.zp,rfl];exact aj<|mW<|c6 hT iR<|dA iR hT oA (Zar D Z hl1 hl2 hx hy λh' a1 a2 a3=>aF<|hQ h' a1 a2 a3)<|nP _
def U9{b1 b2:Bool}{z TI TO i1 i2 l1 l2:aC}{k:Nat}{xs ys:Array aq}{Q:Option aq->aA->Prop}(hh:A.handled=ae)(D:mn z TI TO i1 i2 l1 l2)(Z:ZipSt b1 b2 z TI TO i1 i2 l1 l2 k .none s.heap)(hl1:YW b1 s.heap l1 xs)(hl2:YW b2 s.heap l2 ys)(hend:xs[k]?=ae\/ys[k]?=ae)
  (hQ:∀h',(∀c o,c∉[z,TO,i1,i2]->s.heap.get? c=aa o->h'.get? c=aa o)->Q ae {s with heap:=h' }):bn (aV prog w) A (rq<|.ref z) Q E s:=by
 have hT:s.TypeIs (.ref z) "zip":=#[_,Z.zp,rfl];refine aj<|mW<|c6 hT iR<|dA iR hT oA (QG hh D Z hl1 hl2 hend λh' e hk he=>?_)<|nP _
 obtain⟨o,ho,hc⟩:=he;exact aj<|wpAny_isInstance #[o,ho,hc] isSubtype_stop<|aF<|hQ _ hk
noncomputable def zH1(h:ck)(b1:Bool)(l1:aC):ck:=h.push<|YN b1 l1
noncomputable def zH2(h:ck)(b1 b2:Bool)(l1 l2:aC):ck:=(zH1 h b1 l1).push<|YN b2 l2
noncomputable def zH3(h:ck)(b1 b2:Bool)(l1 l2:aC):ck:=(zH2 h b1 b2 l1 l2).push {cls:=.type "tuple",data:=.seq [.ref h.objs.size,.ref (zH1 h b1 l1).objs.size].toArray}
noncomputable def zH4(h:ck)(b1 b2:Bool)(l1 l2:aC):ck:=(zH3 h b1 b2 l1 l2).push {cls:=.type "tuple",data:=.seq [.none,.none].toArray}
noncomputable def zH5(h:ck)(b1 b2:Bool)(l1 l2:aC):ck:=(zH4 h b1 b2 l1 l2).push {cls:=.type "zip",data:=.fields [.none,.bool ai,.bool ai,.ref (zH2 h b1 b2 l1 l2).objs.size,.ref (zH3 h b1 b2 l1 l2).objs.size].toArray}
def Zca(b1 b2:Bool)(l1 l2:aC)(xs ys:Array aq) :
  pC (fg.«zip.__new__» #[[.type "zip",.ref l1,.ref l2],[]]) (λ_ R s=>YW b1 s.heap l1 xs/\YW b2 s.heap l2 ys/\R (.ok<|.ret<|.ref (zH4 s.heap b1 b2 l1 l2).objs.size) {s with heap:=zH5 s.heap b1 b2 l1 l2}):=
 .of_wp λprog w A R s h=>by
  obtain⟨hp,g,d,tk,os⟩:=s;obtain⟨hl1,hl2,h⟩:=h;have hsub:=sub_zip;have hL1:=hl1;have hL2:YW b2 (aA.heap #[hp.push<|YN b1 l1,g,d,tk,os]) l2 ys:=hl2.keep λo e=>ax _ e
  wp_walk using W5 hL1,W5 hL2
  exact#[_,rfl,h]
def Zal{Q:aq->aA->Prop}(hl1:YW b1 s.heap l1 xs)(hl2:YW b2 s.heap l2 ys)
  (h:∀h' n,n=s.heap.objs.size->ZipSt b1 b2 (n+4) (n+2) (n+3) n (n+1) l1 l2 0 .none h'->(∀c o,s.heap.get? c=aa o->h'.get? c=aa o)->Q (.ref<|n+4) {s with heap:=h' }) :
  bn (aV prog w) A (call (.type "zip") [.ref l1,.ref l2]) Q E s:=by
 refine callType_new F.called_zip (by decide) (F.typeCall_zip_2 _ _) (F.newCall_zip_2 _ _) (λobj=>F.args_object_init_3 obj _ _) F.entry_zip_new (Zca b1 b2 l1 l2 xs ys) #[hl1,hl2,?_]
 have z1:(zH1 s.heap b1 l1).objs.size=s.heap.objs.size+1:=dR ..;have z2:(zH2 s.heap b1 b2 l1 l2).objs.size=s.heap.objs.size+2:=by unfold zH2;rw[dR,z1]
 have z3:(zH3 s.heap b1 b2 l1 l2).objs.size=s.heap.objs.size+3:=by unfold zH3;rw[dR,z2]
 have z4:(zH4 s.heap b1 b2 l1 l2).objs.size=s.heap.objs.size+4:=by unfold zH4;rw[dR,z3]
 have g5:(zH5 s.heap b1 b2 l1 l2).get? (zH4 s.heap b1 b2 l1 l2).objs.size=aa {cls:=.type "zip",data:=.fields [.none,.bool ai,.bool ai,.ref (zH2 s.heap b1 b2 l1 l2).objs.size,.ref (zH3 s.heap b1 b2 l1 l2).objs.size].toArray}:=aQ _ rfl;have k4:∀c o,(zH4 s.heap b1 b2 l1 l2).get? c=aa o->(zH5 s.heap b1 b2 l1 l2).get? c=aa o:=λc o e=>ax _ e
 have k3:=λc o e=>k4 c o<|ax _ e
 have k2:=λc o e=>k3 c o<|ax _ e
 have k1:=λc o e=>k2 c o<|ax _ e
 have g4:=k4 _ _<|aQ (zH3 s.heap b1 b2 l1 l2) rfl;have g3:=k3 _ _<|aQ (zH2 s.heap b1 b2 l1 l2) rfl;have g2:=k2 _ _<|aQ (zH1 s.heap b1 l1) rfl;have g1:=k1 _ _<|aQ s.heap rfl;rw[z2,z3,z4]at g5;rw[z1,z2]at g3;rw[z3]at g4;rw[z1]at g2;rw[z4];have src:∀b l it,(zH5 s.heap b1 b2 l1 l2).get? it=aa (YN b l)->Src b (zH5 s.heap b1 b2 l1 l2) it l 0:=λb l it e=>by
  cases b
  .exact#[_,e,rfl,rfl]
  .exact#[_,e,rfl,rfl]
 exact#[#[_,g5,rfl],h _ _ rfl #[g5,g3,#[_,_,g4],src b1 l1 _ g1,src b2 l2 _ g2] λc o e=>k1 c o<|ax _ e]
open Ev (E Sm Fn Bop Cop Ty Bf Mf)
def Wj{X:Cx}{pq:List (aC×fD)}{σ:L2.St}{H:Hp}{s:aA}{h':ck}{t':Nat}{ch:List aC}(I:Inv X pq σ H s)(k:∀b o,b∉ch->s.heap.get? b=aa o->h'.get? b=aa o)(hf:∀b∈ch,Vo X pq H b):Inv X pq σ H {s with heap:=h',toks:=t' }:=by
 have nit:∀b u,H b=aa u->b∉ch:=λb u e z=>by have:=(hf b z).1;rw[e]at this;cases this
 refine I.step (g':=s.gens) (d':=s.drawn) (λb hb=>?_) (λb o _ _ hc e _=>k b o hc e) (λb o _ _ hc e _=>#[o.slots,k b o hc e]) (λ_ _ _ _ n=>n) (λb o hc e=>#[o,k b o hc e]) (λ_ _ e=>e) (λ_ _ _ e=>e) (λb ps e=>#[#[],by rw[e];simp]) (λm hm=>?_) (λb u e=>?_) I.bare
 .exact#[(hf b hb).2.2.2.1,(hf b hb).2.1,(hf b hb).2.2.2.2.1,(hf b hb).2.2.2.2.2]
 .obtain⟨o,es,ep,ho,r⟩:=hm
  exact#[o,es,ep,k _ o (λz=>(hf _ z).2.1 rfl) ho,r]
 .refine(I.hok b u e).stay (λc v hc q=>k c v ?_ q) (λ_ q=>q) λ_ _ q=>q
  rcases hc with z|z
  .grind
  .exact nit c _ z
def Jf{h:ck}{o o':fD}{b:aC}(e:(h.push o').get? b=aa o)(n:b≠h.objs.size):h.get? b=aa o:=by
 unfold ck.get? ck.push at *;simp only[Array.getElem?_push]at e;rw[T8 n]at e;exact e
def Wg{a b:Nat}(h:a<b\/b<a):(a:aC)≠b:=λe=>by
 have e':=e;omega
def Sq(b:Bool)(K:al)(H:Hp)(l:aC)(xs:List V):Prop:=match b with
 |true=>SqL K H l xs
 |false=>SqT K H l xs
def Y8(I:Inv X pq σ H s)(h:Sq b X.K H l xs):∃its:List aq,Vals xs its/\YW b s.heap l its.toArray:=by
 cases b
 .obtain⟨its,r,p,_⟩:=I.tuple h;exact#[its,r,p]
 .obtain⟨its,r,p,_⟩:=I.list h;exact#[its,r,p.isList]
def xy(I:Inv X pq σ H s)(h:Sq b X.K H l xs)(h':Sq b X.K H l ys):xs=ys:=by
 cases b
 .exact I.tuple_inj h h'
 .exact I.list_inj h h'
def W8(x:YW b h l xs):l<h.objs.size:=by
 cases b
 .obtain⟨o,ho,_⟩:=x;exact aO ho
 .obtain⟨o,ho,_⟩:=x;exact aO ho
noncomputable def Itz(K:al)(b1 b2:Bool)(l1 l2:aC):It:=
 #[λi H=>∃xs ys x y,Sq b1 K H l1 xs/\Sq b2 K H l2 ys/\xs[i]?=aa x/\ys[i]?=aa y,
  λi H v H'=>∃T x y,(∀xs,Sq b1 K H l1 xs->xs[i]?=aa x)/\(∀ys,Sq b2 K H l2 ys->ys[i]?=aa y)/\H T=ae/\H'=upd H T (.tup [x,y])/\v=.ref T,
  λi H=>∃xs ys,Sq b1 K H l1 xs/\Sq b2 K H l2 ys/\(xs.length<=i\/ys.length<=i)]
def jx{P:bH}{w:bV}{K:al}{elts:List Expr}{kk:Nat}{tp:fO}{b1 b2:Bool}{z TI TO i1 i2 l1 l2:aC}(D:mn z TI TO i1 i2 l1 l2) :
  Turn P w K (.Tuple elts kk tp) (Itz K b1 b2 l1 l2) [z,TI,TO,i1,i2] z (λi h=>ZipSt b1 b2 z TI TO i1 i2 l1 l2 i .none h) where
 mem:=by simp
 obj:=λi h st b hb=>by
  simp only[ay,bQ,or_false]at hb;obtain⟨a,c,hTO⟩:=st.to;rcases hb with e|e|e|e|e<;>subst e
  .exact#[_,st.zp,λv q=>by cases q]
  .exact#[_,st.ti,λv q=>by cases q]
  .grind
  .exact st.s1.obj
  .exact st.s2.obj
 keep:=λi h h' st k=>by
  obtain⟨a,c,hTO⟩:=st.to;exact#[k z (by simp) _ st.zp,k TI (by simp) _ st.ti,#[a,c,k TO (by simp) _ hTO],st.s1.keep λo e=>k i1 (by simp) o e,st.s2.keep λo e=>k i2 (by simp) o e]
 item:=by
  intro X hP hw hK hc i pq s σ H E I hf st hg;subst hP hw hK;obtain⟨xs,ys,x,y,hq1,hq2,hx,hy⟩:=hg;obtain⟨its,rv,o1⟩:=Y8 I hq1;obtain⟨its2,rv2,o2⟩:=Y8 I hq2;obtain⟨u,hu,ru⟩:=rv.get hx;obtain⟨u2,hu2,ru2⟩:=rv2.get hy;refine xI D st o1 o2 (x:=u) (y:=u2) (by simpa using hu) (by simpa using hu2) λh' Z' hT hk=>?_
  have hfree:=I.hok.fresh<|aG _;have ltz:∀b∈[z,TI,TO,i1,i2],b≠s.heap.objs.size:=λb hb e=>by
   simp only[ay,bQ,or_false]at hb;obtain⟨a,c,hTO⟩:=st.to;rcases hb with q|q|q|q|q<;>subst q
   .exact T7 (aO st.zp) (by grind)
   .exact T7 (aO st.ti) (by grind)
   .exact T7 (aO hTO) (by grind)
   .obtain⟨o,ho,_⟩:=st.s1.obj;exact T7 (aO ho) (by grind)
   .obtain⟨o,ho,_⟩:=st.s2.obj;exact T7 (aO ho) (by grind)
  have IA:Inv X pq σ (upd H s.heap.objs.size<|.tup [x,y]) {s with heap:=s.heap.push {cls:=.type "tuple",data:=.seq [u,u2].toArray},toks:=s.toks}:=
   I.laid (λb o e=>ax _ e) (aG _) #[by show 2<=bo;decide,[u,u2],.cons ru<|.cons ru2 .nil,kh _ _]
  have hf2:∀b∈[z,TI,TO,i1,i2],Vo X pq (upd H s.heap.objs.size<|.tup [x,y]) b:=λb hb=>#[by rw[Zj<|ltz b hb];exact(hf b hb).1,(hf b hb).2]
  have IB:Inv X pq σ (upd H s.heap.objs.size<|.tup [x,y]) {s with heap:=h',toks:=s.toks}:=by
   refine Wj (s:={s with heap:=s.heap.push {cls:=.type "tuple",data:=.seq [u,u2].toArray},toks:=s.toks}) (ch:=[z,TO,i1,i2]) IA (λb o hb e=>?_) λb hb=>hf2 b (by grind)
   by_cases hbs:b=s.heap.objs.size
   .subst hbs
    have e':=e;rw[aQ _ rfl]at e';cases e';exact hT
   .refine hk b o hb ?_
    have e':=e;have hlt:=aO e';rw[dR]at hlt;exact Jf e' hbs
  refine#[.ref s.heap.objs.size,rfl,wpAny_letOwnedTupleGo_zip Z'.zp λh2 hz2 hs2=>?_]
  have IC:Inv X pq σ (upd H s.heap.objs.size<|.tup [x,y]) {s with heap:=h2,toks:=s.toks}:=Wj (s:={s with heap:=h',toks:=s.toks}) (ch:=[z]) IB (λb o hb e=>(hs2.2 b<|by simpa using hb).trans e) λb hb=>hf2 b (by simp only[aY]at hb;simp[hb])
  obtain⟨a,c,hTO⟩:=Z'.to;refine#[.ref s.heap.objs.size,_,IC,rfl,#[_,x,y,λzs hz=>by rw[xy I hz hq1];exact hx,λzs hz=>by rw[xy I hz hq2];exact hy,hfree,rfl,rfl],?_,λb hb=>(hf2 b hb).1]
  exact#[hz2,hs2.extBut _ _ D.TIz Z'.ti,#[a,c,hs2.extBut _ _ D.TOz hTO],Z'.s1.ext hs2.extBut D.i1z,Z'.s2.ext hs2.extBut D.i2z]
 done:=by
  intro X hP hw hK hc i pq s σ H E I hf st hg;subst hP hw hK;obtain⟨xs,ys,hq1,hq2,hend⟩:=hg;obtain⟨its,rv,o1⟩:=Y8 I hq1;obtain⟨its2,rv2,o2⟩:=Y8 I hq2;have e1:=rv.length;have e2:=rv2.length;refine U9 (I.ok.hd hc) D st o1 o2 (by grind) λh' hk=>#[rfl,Wj (t':=s.toks) (ch:=[z,TO,i1,i2]) I (λb o hb e=>hk b o hb e) λb hb=>hf b<|by grind]
 self:=λ_ _ _ _ _ st h=>wpAny_pyIter_zip st.zp h
def ZfP(K:al)(ta:TA):TI:=λσ H R=>ta σ H λvs H1=>∃b1 b2 l1 l2,vs=[.ref l1,.ref l2]/\(∃xs,Sq b1 K H1 l1 xs)/\(∃ys,Sq b2 K H1 l2 ys)/\R (Itz K b1 b2 l1 l2) H1
def Zeg{a b:Expr}{ta:TA}{p pos:fO}(hg:Gl X "zip")(hm:X.mg "zip" = ae)(ha:PA X [a,b] ta)(hs:az [a,b] X.env=[(ai,bY a X.env),(ai,bY b X.env)]:=by rfl)(hs2:az [b] X.env=[(ai,bY b X.env)]:=by rfl) :
  PI X (.Tuple elts kk tp) (.Call (.Name "zip" p) [a,b] [] pos) (ZfP X.K ta):=by
 intro pq s σ H R I h;refine pf<|Xc I hg hm (by rfl)<|bP (thn (ha pos pq s σ H _ I h) λus s1 #[vs,H1,I1,r1,q1]=>?_) (by rw[hs,hs2])<|by rw[hs2];rfl
 obtain⟨b1,b2,l1,l2,e,⟨xs,hq1⟩,⟨ys,hq2⟩,q⟩:=q1;subst e;cases r1 with
 |cons r rr=>
  cases rr with
  |cons r' rr=>
   cases rr;cases r;cases r';obtain⟨its,rv,o1⟩:=Y8 I1 hq1;obtain⟨its2,rv2,o2⟩:=Y8 I1 hq2;have lt1:=W8 o1;have lt2:=W8 o2;refine Zal o1 o2 λh' n hn Z hk=>?_
   have I2:=I1.kept (t':=s1.toks) hk
   have q1:(l1:Nat)<n:=by rw[hn];exact lt1
   have q2:(l2:Nat)<n:=by rw[hn];exact lt2
   have D:mn (n+4) (n+2) (n+3) n (n+1) l1 l2:=by constructor<;>first|exact Wg (by omega)|exact Wg<|.inl<|bv q1<|oB n _|exact Wg<|.inl<|bv q2<|oB n _|exact Wg<|.inl q1|exact Wg<|.inl q2
   refine wpAny_pyIter_zip Z.zp #[n+4,[n+4,n+2,n+3,n,n+1],_,_,H1,rfl,I2,jx D,Z,λb hb=>?_,q]
   have hbn:s1.heap.objs.size<=b:=by grind
   exact I1.fpOk hbn<|I1.hok.fresh hbn
def Side(K:al)(ρ:Mx)(H:Hp)(wk:List D)(b:Bool)(l:aC):Prop:=∀ρ' H',Lat ρ H ρ' H'->∃vs,Sq b K H' l vs/\Rq ρ' H' wk vs
def JS{K:al}{ρ:Mx}{H:Hp}{x:D}{v:V}{wk:List D}(hk:ρ.K=K)(r:Rep ρ H x v)(h:Pv.YK x=aa wk):∃b l,v=.ref l/\(∃xs,Sq b K H l xs)/\Side K ρ H wk b l:=by
 cases x with
 |tup ds=>
  obtain⟨a,xs,rfl,hp,rs⟩:=r.tup';cases h;exact#[ai,a,rfl,#[xs,SqT.of hp],λρ' H' f=>#[xs,SqT.of (f.keep a _ hp λ_ z=>by cases z),rs.lat f]]
 |lst ds=>
  obtain⟨a,xs,rfl,hp,hx,rs⟩:=r.lst';cases h;exact#[ak,a,rfl,#[xs,SqL.of hp],λρ' H' f=>#[xs,SqL.of<|f.keep a _ hp λ_ _=>hx,rs.lat f]]
 |scr ns=>
  obtain⟨a,rfl,hp⟩:=r.scr';cases h;rw[hk]at hp;refine#[ak,a,rfl,#[_,hp.sq],λρ' H' f=>#[_,?_,Rq.ints ns]]
  rcases hp with⟨o,hp⟩|hp
  .exact .inl<|.inr #[o,f.keep a _ hp λ_ z=>by cases z]
  .exact .inr hp
 |_=>exact Ev.nos h
def jR{K:al}{ρ:Mx}{H:Hp}{v w:List D}{b1 b2:Bool}{l1 l2:aC}(h1:Side K ρ H v b1 l1)(h2:Side K ρ H w b2 l2):WRel K ρ H ((v.zip w).map λp=>.tup [p.1,p.2]) (Itz K b1 b2 l1 l2) where
 go:=λi ρ' S' H' f st hi=>by
  obtain⟨xs,q1,r1⟩:=h1 ρ' H' f;obtain⟨ys,q2,r2⟩:=h2 ρ' H' f;have hi':i<pS v.length w.length:=by simpa using hi
  obtain⟨x,g1,rx⟩:=r1.get (ag (show i<v.length by omega))
  obtain⟨y,g2,ry⟩:=r2.get (ag (show i<w.length by omega))
  refine#[#[xs,ys,x,y,q1,q2,g1,g2],λu H'' #[T,x',y',e1,e2,hT,eH,eu]=>?_]
  subst eH eu;have ex:=(e1 xs q1).symm.trans g1;have ey:=(e2 ys q2).symm.trans g2;cases ex;cases ey;refine#[Zu hT,st.fresh hT,λd hd=>?_]
  have hz:(v.zip w)[i]?=aa (v[i],w[i]):=gd.mpr #[ag (by omega),ag<|by omega]
  rw[aR,hz]at hd;cases hd;exact XS Zl<|Rq.cons (rx.mono<|Zu hT)<|Rq.cons (ry.mono<|Zu hT) Rq.nil
 stop:=λρ' S' H' f st=>by
  obtain⟨xs,q1,r1⟩:=h1 ρ' H' f;obtain⟨ys,q2,r2⟩:=h2 ρ' H' f;refine#[xs,ys,q1,q2,?_];show xs.length<=((v.zip w).map λp=>Pv.V.tup [p.1,p.2]).length\/_
  rw[r1.length,r2.length,aw,eO];omega
section
variable{X:Cx}{xw:Nat->Hp->Prop}{C:Calls}{a b:Expr}{i j:E}{pos p tp:fO}{elts:List Expr}{kk:Nat}
def yE(hm:X.mg "zip" = ae)(ha:CA X xw C [a,b] [i,j])(hg:Gl X "zip":=by rfl)(hs:az [a,b] X.env=[(ai,bY a X.env),(ai,bY b X.env)]:=by rfl)(hs2:az [b] X.env=[(ai,bY b X.env)]:=by rfl) :
  CW X xw C (.Tuple elts kk tp) (.Call (.Name "zip" p) [a,b] [] pos) (.zip i j):=
 PI.imp (Zeg hg hm ha hs hs2) λσ H Q #[ρ,l,S,st,lr,h]=>Zai st lr h λx y S1 ρ1 H1 v u st1 rv ru h1=>by
  cases e1:Pv.YK x with
  |none=>rw[e1]at h1;exact False.elim h1
  |some v1=>
   cases e2:Pv.YK y with
   |none=>rw[e1,e2]at h1;exact False.elim h1
   |some v2=>
    rw[e1,e2]at h1;obtain⟨b1,l1,rfl,s1,d1⟩:=JS st1.hk rv e1;obtain⟨b2,l2,rfl,s2,d2⟩:=JS st1.hk ru e2;exact#[b1,b2,l1,l2,rfl,s1,s2,End.ok h1 st1<|jR d1 d2]
end
def Jr(hh:A.handled=ae)(b:Bool)(it l:aC)(hne:l≠it)(xs:Array aq) :
  Draws prog w A it [it,l] xs.size (λi v=>xs[i]?=aa v) (λi h=>Src b h it l i/\YW b h l xs) where
 live:=λ_ _ st=>let #[o,ho,_]:=st.1.obj;#[o,ho]
 frame:=λ_ _ _ st hk=>#[st.1.keep λo e=>hk it (by simp) o e,st.2.keep λo e=>hk l (by simp) o e]
 item:=λi s Q E hi st hQ=>Vj st.1 st.2 (bO hi) λh' hit' hs'=>hQ _ h' s.toks (bO hi) #[hit',st.2.keep λo e=>hs'.extBut _ o hne e] hs'
 done:=λs Q E st hE=>Gi hh st.1 st.2 (Array.getElem?_eq_none<|aG _) hE
noncomputable def Ite(K:al)(b:Bool)(l:aC):It:=
 #[λi H=>∃xs x,Sq b K H l xs/\xs[i]?=aa x,
  λi H v H'=>∃T x,(∀xs,Sq b K H l xs->xs[i]?=aa x)/\H T=ae/\H'=upd H T (.tup [.int i,x])/\v=.ref T,
  λi H=>∃xs,Sq b K H l xs/\xs.length=i]
def uF{P:bH}{w:bV}{K:al}{elts:List Expr}{kk:Nat}{tp:fO}{b:Bool}{e it l:aC}(hei:e≠it)(hle:l≠e)(hli:l≠it) :
  Turn P w K (.Tuple elts kk tp) (Ite K b l) [e,it] e (λi h=>(∃old,IsEnum h e it i old)/\Src b h it l i) where
 mem:=by simp
 obj:=λi h st c hc=>by
  simp only[ay,bQ,or_false]at hc;obtain⟨⟨old,he⟩,hs⟩:=st;rcases hc with q|q<;>subst q
  .exact#[_,he,λv q=>by cases q]
  .exact hs.obj
 keep:=λi h h' st k=>by
  obtain⟨⟨old,he⟩,hs⟩:=st;exact#[#[old,k e (by simp) _ he],hs.keep λo q=>k it (by simp) o q]
 item:=by
  intro X hP hw hK hc i pq s σ H E I hf st hg;subst hP hw hK;obtain⟨xs,x,hq,hx⟩:=hg;obtain⟨its,rv,o1⟩:=Y8 I hq;obtain⟨⟨old,he⟩,hs⟩:=st;obtain⟨u,hu,ru⟩:=rv.get hx;have hlt:i<its.toArray.size:=by
   have:=(aE.mp hu).1
   simpa using this
  have hh:X.A.in1.handled=ae:=I.ok.hd hc;refine wpAny_pyNext_enum_itemD (Jr hh b it l hli its.toArray) he #[hs,o1] hlt hei (by simp only[ay,bQ,or_false,not_or];exact#[hei,Ne.symm hle]) λx' h' tk hP ho hst hT hsz hk=>?_
  have ex:x'=u:=by
   have:its.toArray[i]?=aa u:=by simpa using hu
   rw[this]at hP;exact(am hP).symm
  subst ex;have hfree:=I.hok.fresh<|aG _;have ltz:∀c∈[e,it],c≠s.heap.objs.size:=λc hc q=>by
   simp only[ay,bQ,or_false]at hc;rcases hc with z|z<;>subst z
   .exact T7 (aO he) (by rw[q];exact bS _)
   .obtain⟨o,ho,_⟩:=hs.obj;exact T7 (aO ho) (by rw[q];exact bS _)
  have IA:Inv X pq σ (upd H s.heap.objs.size<|.tup [.int i,x]) {s with heap:=s.heap.push {cls:=.type "tuple",data:=.seq [.int i tk,x'].toArray},toks:=tk+1}:=
   I.laid (λc o q=>ax _ q) (aG _) #[by show 2<=bo;decide,[.int i tk,x'],.cons #[tk,rfl]<|.cons ru .nil,kh _ _]
  have hf2:∀c∈[e,it],Vo X pq (upd H s.heap.objs.size<|.tup [.int i,x]) c:=λc hc=>#[by rw[Zj<|ltz c hc];exact(hf c hc).1,(hf c hc).2]
  have IB:Inv X pq σ (upd H s.heap.objs.size<|.tup [.int i,x]) {s with heap:=h',toks:=tk+1}:=by
   refine Wj (s:={s with heap:=s.heap.push {cls:=.type "tuple",data:=.seq [.int i tk,x'].toArray},toks:=tk+1}) (ch:=[e,it]) IA (λc o hc q=>?_) hf2
   by_cases hcs:c=s.heap.objs.size
   .subst hcs
    have q':=q;rw[aQ _ rfl]at q';cases q';exact hT
   .simp only[ay,bQ,or_false,not_or]at hc
    exact hk c o hc.1 hc.2<|Jf q hcs
  refine#[.ref s.heap.objs.size,rfl,wpAny_letOwnedTupleGo_enum ho λh2 he2 hs2=>?_]
  have IC:Inv X pq σ (upd H s.heap.objs.size<|.tup [.int i,x]) {s with heap:=h2,toks:=tk+1}:=Wj (s:={s with heap:=h',toks:=tk+1}) (ch:=[e]) IB (λc o hc q=>(hs2.2 c<|by simpa using hc).trans q) λc hc=>hf2 c (by simp only[aY]at hc;simp[hc])
  refine#[.ref s.heap.objs.size,_,IC,rfl,#[_,x,λzs hz=>by rw[xy I hz hq];exact hx,hfree,rfl,rfl],#[#[x',by simpa using he2],hst.1.ext hs2.extBut<|Ne.symm hei],λc hc=>(hf2 c hc).1]
 done:=by
  intro X hP hw hK hc i pq s σ H E I hf st hg;subst hP hw hK;obtain⟨xs,hq,hend⟩:=hg;obtain⟨its,rv,o1⟩:=Y8 I hq;obtain⟨⟨old,he⟩,hs⟩:=st;have e1:=rv.length;have hh:X.A.in1.handled=ae:=I.ok.hd hc;have en:i=its.toArray.size:=by simp;lia
  subst en;exact wpAny_pyNext_enum_endD (Jr hh b it l hli its.toArray) he #[hs,o1] λh' hx=>#[rfl,Wj (t':=s.toks) (ch:=[e,it]) I (λc o hc q=>hx c o (λz=>hc<|by simp[z]) q) hf]
 self:=λ_ _ _ _ _ st h=>by
  obtain⟨⟨old,he⟩,_⟩:=st;exact nQ he h
section
variable{prog:bH}{w:bV}{A:cC}{E:aq->aA->Prop}{s:aA}
def Zaa(l:aC)(items:Array aq)(n:Nat)(dct:Option aC)(sl:Array (Option aq)) :
  pC (fg.«enumerate.__new__» #[[.type "enumerate",.ref l],[]]) (λ_ R s=>s.heap.get? l=aa {cls:=.type "tuple",dict:=dct,data:=.seq items n,slots:=sl}/\
   R (.ok<|.ret<|.ref (s.heap.push<|YN ai l).objs.size) {s with heap:=(s.heap.push<|YN ai l).push {cls:=.type "enumerate",data:=.fields [.none,.bool ai,.ref s.heap.objs.size,gO 0,.none,.none].toArray}}):=
 .of_wp λprog w A R s h=>by
  obtain⟨hp,g,d,tk,os⟩:=s;obtain⟨hl,h⟩:=h;have hsub:=sub_enumerate;have hL:ck.IsTuple (aA.heap #[hp,g,d,tk,os]) l items:=#[_,hl,rfl,n,rfl]
  wp_walk using gw hl;refine wpAny_stack_any λst=>aF ?_;split
  .rename_i c _ _ _ _ _;cases(c == aq.type "enumerate")<;>(wp_walk using gw hl,gF hL;exact#[_,rfl,h])
  .wp_walk using gw hl,gF hL;exact#[_,rfl,h]
def uy{Q:aq->aA->Prop}(hL:YW b s.heap l xs)
  (h:∀h' n,n=s.heap.objs.size->IsEnum h' (n+1) n 0 .none->Src b h' n l 0->(∀c o,s.heap.get? c=aa o->h'.get? c=aa o)->Q (.ref<|n+1) {s with heap:=h' }):bn (aV prog w) A (call (.type "enumerate") [.ref l]) Q E s:=by
 cases b with
 |true=>exact call_enumerate_list hL λh' a1 a2 _ a4=>h h' _ rfl a1 a2 a4
 |false=>
  obtain⟨⟨c,dct,dt,sl⟩,hl,hc,n,hd⟩:=hL;simp only at hc hd;subst hc hd;refine callType_new F.called_enumerate (by decide) (F.typeCall_enumerate_1 _) (F.newCall_enumerate_1 _) (λobj=>F.args_object_init_2 obj _) F.entry_enumerate_new (Zaa l xs n dct sl) #[hl,?_]
  have hz:(s.heap.push<|YN ai l).objs.size=s.heap.objs.size+1:=dR ..;have g2:=aQ (s.heap.push<|YN ai l) (o:={cls:=.type "enumerate",data:=.fields [.none,.bool ai,.ref s.heap.objs.size,gO 0,.none,.none].toArray}) rfl;have g1:((s.heap.push<|YN ai l).push {cls:=.type "enumerate",data:=.fields [.none,.bool ai,.ref s.heap.objs.size,gO 0,.none,.none].toArray}).get? s.heap.objs.size=aa (YN ai l):=ax _<|aQ _ rfl;rw[hz]at g2 ⊢;exact#[#[_,g2,rfl],h _ _ rfl g2 #[_,g1,rfl,rfl] λc o q=>ax _<|ax _ q]
end
def Zfd(K:al)(ta:TA):TI:=λσ H R=>ta σ H λvs H1=>∃b l,vs=[.ref l]/\(∃xs,Sq b K H1 l xs)/\R (Ite K b l) H1
def ZbP{a:Expr}{ta:TA}{p pos:fO}(hg:Gl X "enumerate")(hm:X.mg "enumerate" = ae)(ha:PA X [a] ta)(hs:az [a] X.env=[(ai,bY a X.env)]:=by rfl):PI X (.Tuple elts kk tp) (.Call (.Name "enumerate" p) [a] [] pos) (Zfd X.K ta):=by
 intro pq s σ H R I h;refine pf<|Xc I hg hm (by rfl)<|bP (thn (ha pos pq s σ H _ I h) λus s1 #[vs,H1,I1,r1,q1]=>?_) hs rfl
 obtain⟨b,l,e,⟨xs,hq⟩,q⟩:=q1;subst e;cases r1 with
 |cons r rr=>
  cases rr;cases r;obtain⟨its,rv,o1⟩:=Y8 I1 hq;have lt1:=W8 o1;refine uy o1 λh' n hn he hs' hk=>?_
  have I2:=I1.kept (t':=s1.toks) hk
  have q1:(l:Nat)<n:=by rw[hn];exact lt1
  refine nQ he #[n+1,[n+1,n],_,_,H1,rfl,I2,uF (Wg<|.inr<|lu n) (Wg<|.inl<|eU q1)<|Wg<|.inl q1,#[#[_,he],hs'],λc hc=>?_,q]
  have hbn:s1.heap.objs.size<=c:=by
   rw[<-hn];simp only[ay,bQ,or_false]at hc;rcases hc with e|e<;>rw[e]
   .exact gM n
   .exact aG n
  exact I1.fpOk hbn<|I1.hok.fresh hbn
def Za1{lo:Int}{n i:Nat}(h:i<n):(Pv.ZS lo n)[i]?=aa (.int<|lo+i):=by
 unfold Pv.ZS;rw[aR,cX h];rfl
def u6{K:al}{ρ:Mx}{H:Hp}{w:List D}{b:Bool}{l:aC}(h1:Side K ρ H w b l):WRel K ρ H (((Pv.ZS 0 w.length).zip w).map λp=>.tup [p.1,p.2]) (Ite K b l) where
 go:=λi ρ' S' H' f st hi=>by
  obtain⟨xs,q1,r1⟩:=h1 ρ' H' f;have hi':i<w.length:=by
   rw[aw,eO,QZ]at hi;lia
  obtain⟨x,g1,rx⟩:=r1.get<|ag hi';refine#[#[xs,x,q1,g1],λu H'' #[T,x',e1,hT,eH,eu]=>?_]
  subst eH eu;have ex:=(e1 xs q1).symm.trans g1;cases ex;refine#[Zu hT,st.fresh hT,λd hd=>?_]
  have hz:((Pv.ZS 0 w.length).zip w)[i]?=aa (.int<|0+i,w[i]):=gd.mpr #[Za1 hi',ag hi'];rw[aR,hz]at hd;cases hd;refine XS Zl<|Rq.cons ?_<|Rq.cons (rx.mono<|Zu hT) Rq.nil;rw[show((0:Int)+i)=i by lia]
  exact ZO _
 stop:=λρ' S' H' f st=>by
  obtain⟨xs,q1,r1⟩:=h1 ρ' H' f;refine#[xs,q1,?_];show xs.length=(((Pv.ZS 0 w.length).zip w).map λp=>Pv.V.tup [p.1,p.2]).length
  rw[aw,eO,QZ,r1.length];lia
section
variable{X:Cx}{xw:Nat->Hp->Prop}{C:Calls}{a b:Expr}{i j:E}{pos p tp:fO}{elts:List Expr}{kk:Nat}
def GK(hm:X.mg "enumerate" = ae)(ha:CA X xw C [a] [i])(hg:Gl X "enumerate":=by rfl)(hs:az [a] X.env=[(ai,bY a X.env)]:=by rfl) :
  CW X xw C (.Tuple elts kk tp) (.Call (.Name "enumerate" p) [a] [] pos) (.enum i):=
 PI.imp (ZbP hg hm ha hs) λσ H Q #[ρ,l,S,st,lr,h]=>Zdg st lr h λx S1 ρ1 H1 v st1 r h1=>by
  cases e1:Pv.YK x with
  |none=>rw[e1]at h1;exact False.elim h1
  |some wk=>
   rw[e1]at h1;obtain⟨b1,l1,rfl,s1,d1⟩:=JS st1.hk r e1;exact#[b1,l1,rfl,s1,End.ok h1 st1<|u6 d1]
end
def Q6(hh:A.handled=ae)(b:Bool)(it l:aC)(hne:l≠it)(xs:Array aq) :
  Walks prog w A it [it,l] [it] xs.size (λi v=>xs[i]?=aa v) (λi h=>Src b h it l i/\YW b h l xs):=by
 cases b
 .exact Walks.tuple hh it l hne xs
 .exact Walks.list hh it l hne xs
def vS{b:Bool}{h:ck}{l:aC}:Src b (h.push<|YN b l) h.objs.size l 0:=by
 cases b
 .exact#[_,aQ _ rfl,rfl,rfl]
 .exact#[_,aQ _ rfl,rfl,rfl]
def Ze2{K:al}{H:Hp}{p:aC}{xs:List V}(h:SqL K H p xs\/SqT K H p xs):∃b,Sq b K H p xs:=by
 rcases h with h|h
 .exact#[ak,h]
 .exact#[ai,h]
def uD(hc:X.calm=ak):ZB X (.builtin "any") (λvs H Q=>∃ρ ds x v bs,ρ.K=X.K/\vs=[v]/\Rep ρ H x v/\Pv.YK x=aa ds/\Pv.ZT ds=aa bs/\Q (.bl<|bs.any id) H):=by
 intro pq s σ H vs us Q I r h;obtain⟨ρ,ds,x,v,bs,hk,rfl,r1,hl,hb,q⟩:=h;obtain⟨l,xs,rfl,hsq,rx⟩:=r1.seq hl;rw[hk]at hsq;obtain⟨kb,hq⟩:=Ze2 hsq;obtain⟨u,rfl,ru⟩:=Ww r;cases ru;obtain⟨its,rv,o1⟩:=Y8 I hq;obtain⟨lb,tb⟩:=WC hb;have hlt:=W8 o1;have hlen:its.toArray.size=bs.length:=by rw[aK,<-rv.length,rx.length,lb]
 refine call_any_walk<|W5 o1 #[s.heap.objs.size,[s.heap.objs.size,l],[s.heap.objs.size],its.toArray.size,_,_,λj=>bs.getD j ai,rfl,Q6 (A:=X.A.in1) (I.ok.hd hc) kb s.heap.objs.size l (bD hlt) its.toArray,#[vS,o1.keep λo q=>ax _ q],?_,?_]
 .intro j v s' Q' E' hv hQ'
  have hj:its[j]?=aa v:=by simpa using hv
  have jl:j<ds.length:=by
   have:=(aE.mp hj).1;rw[<-rv.length,rx.length]at this;exact this
  obtain⟨w',g,r'⟩:=rx.get<|ag jl;obtain⟨u',g',ru'⟩:=rv.get g;rw[hj]at g';cases g';exact Va r' ru' (tb j _<|ag jl) s' Q' E' hQ'
 .intro h' tk hk
  rw[hlen,uL];exact#[.bl<|bs.any id,H,I.kept (t':=tk) λb o e=>hk b o (λhm=>by
   have:b=s.heap.objs.size:=by simpa using hm
   exact T7 (this▸aO e)<|bS _)<|ax _ e,rfl,q]
def wG(hc:X.calm=ak):ZB X (.builtin "any") (Qw X.K xw .any):=ZB.imp (uD hc)<|by
 rintro vs H Q ⟨ρ,S,ds,st,r,h⟩;obtain⟨d,v,z,rfl,r1,hz,h⟩:=WS h r;obtain⟨xs,hx,hz⟩:=cJ.mp hz;obtain⟨bs,hb,rfl⟩:=cw.mp hz;exact#[ρ,xs,d,v,bs,st.hk,rfl,r1,hx,hb,End.ok h st<|Yg _]
theorem Qd :∀{ds:List D}{is:List Int}{xs:List V},Pv.intsV ds=aa is->Rq ρ H ds xs->xs=is.map V.int
 |[],is,xs,h,r=>by cases h;rw[r];rfl
 |d::ds,is,xs,h,r=>by
  obtain⟨v,vs,rfl,a1,b1⟩:=r;obtain⟨n,r,rfl,e,rfl⟩:=VL h;rw[a1.int',Qd e b1];rfl
def Qi(f:Nat->Int)(n:Nat):oC f (n+1)=oC f n+f n:=rfl
def GX:∀(is:List Int),oC (λj=>is.getD j 0) is.length=is.sum:=by
 have gen:∀(is:List Int)(n:Nat),n<=is.length->oC (λj=>is.getD j 0) n=(is.take n).sum:=by
  intro is n
  induction n with
  |zero=>intro _;rfl
  |succ n ih=>
   intro h;rw[Qi,ih (by lia),nS,List.sum_append]
   have:is[n]?=aa is[n]:=ag (by lia)
   simp[this]
 intro is;rw[gen is is.length<|aG _,fY]
theorem Vg(h:∀j,-M<=f j/\f j<=M)(hM:0<=M):∀n:Nat,-(M*n)<=oC f n/\oC f n<=M*n
 |0=>by rw[show oC f 0=0 from rfl];simp
 |n+1=>by
  obtain⟨a,b⟩:=Vg h hM n;obtain⟨c,d⟩:=h n;rw[Qi];have:M*((n+1:Nat):Int)=M*n+M:=by rw[oY,Int.mul_add];simp
  rw[this];lia
def uB(hc:X.calm=ak):ZB X (.builtin "sum") (λvs H Q=>∃ρ ds v is,vs=[v]/\Rep ρ H (.lst ds) v/\Pv.intsV ds=aa is/\Ev.X9 is=ak/\Q (.int is.sum) H):=by
 intro pq s σ H vs us Q I r h;obtain⟨ρ,ds,v,is,rfl,r1,hb,hok,q⟩:=h;obtain⟨l,xs,rfl,hx,_,rx⟩:=r1.lst';obtain⟨u,rfl,ru⟩:=Ww r;cases ru;have hq:Sq ak X.K H l xs:=SqL.of hx;obtain⟨its,rv,o1⟩:=Y8 I hq;have hlt:=W8 o1;have ex:=Qd hb rx;subst ex;have hlen:its.toArray.size=is.length:=by rw[aK,<-rv.length,aw]
 obtain⟨k1,k2⟩:=(aB _ _).mp hok;have k1':=T6 k1;have bd:∀j,-1099511627776<=is.getD j 0/\is.getD j 0<=1099511627776:=λj=>by
  cases e:is[j]? with
  |none=>rw[aD,e];simp
  |some y=>
   have:=T6<|aS.mp k2 y<|cM e;rw[aD,e];exact this
 refine call_sum_walk<|W5 o1 #[s.heap.objs.size,[s.heap.objs.size,l],[s.heap.objs.size],its.toArray.size,_,_,λj=>is.getD j 0,rfl,Q6 (A:=X.A.in1) (I.ok.hd hc) ak s.heap.objs.size l (bD hlt) its.toArray,#[vS,o1.keep λo q=>ax _ q],λb hb=>?_,λj v hv=>?_,λj hj=>?_,?_]
 .rw[dR]
  simp only[ay,bQ,or_false]at hb;rcases hb with q|q<;>rw[q]
  .exact lu _
  .exact eU hlt
 .have hj:its[j]?=aa v:=by simpa using hv
  have jl:j<is.length:=by
   have:=(aE.mp hj).1;rw[<-rv.length,aw]at this;exact this
  obtain⟨u',g',ru'⟩:=rv.get (by rw[aR,ag jl];rfl)
  rw[hj]at g';cases g';obtain⟨t,e⟩:=ru';exact#[t,by rw[e];show k9 is[j] t=k9 (is.getD j 0) t;rw[aD,ag jl];rfl]
 .have b1:=bd j
  have b2:=Vg bd (by lia)<|j+1
  have jl:j+1<=1000:=by lia
  have b3:(1099511627776:Int)*((j+1:Nat):Int)<=1099511627776*1000:=Int.mul_le_mul_of_nonneg_left (by lia) (by lia)
  refine#[show InLong (is.getD j 0)from ?_,?_]<;>(unfold InLong;lia)
 .intro h' tk t' hk
  rw[hlen,GX];exact#[.int is.sum,H,I.kept (t':=tk) λb o e=>hk b o (λhm=>by
   have:b=s.heap.objs.size:=by simpa using hm
   exact T7 (this▸aO e)<|bS _)<|ax _ e,#[t',rfl],q]
def wN(hc:X.calm=ak):ZB X (.builtin "sum") (Qw X.K xw .sum):=ZB.imp (uB hc)<|by
 rintro vs H Q ⟨ρ,S,ds,st,r,h⟩;obtain⟨d,v,z,rfl,r1,hz,h⟩:=WS h r;cases d with
 |lst ds=>
  obtain⟨is,hb,hz⟩:=cJ.mp hz;split at hz
  .cases hz;exact#[ρ,ds,v,is,rfl,r1,hb,‹_›,End.ok h st<|ZO _]
  .cases hz
 |_=>exact Ev.nos hz
end Sd
namespace Tq
open PySem PyProof.Rows
noncomputable def Ys:Bool->bZ->Array bZ->Nat->Nat->Nat->StateT bU oa (Option Nat):=sortPriv% PySem.Builtin.gallop
def xJ(lf:Bool)(k:bZ)(ar:Array bZ)(bs n hn:Nat):Ys lf k ar bs n hn=(do
 let bd (i:Nat):StateT bU oa (Option Bool):=do
  let x <-gf ar (bs+i)
  if lf then lt' x k else return (<-lt' k x).map (!·)
 let mut la:=0
 let mut of:=1
 let mut lo:=0
 let mut hi:=0
 let aa rt <-bd hn|return ae
 if rt then
  let mx:=n-hn
  for _ in [0:n] do
   if of>=mx then break
   let aa mo <-bd (hn+of)|return ae
   if !mo then break
   la:=of
   of:=2*of+1
  lo:=hn+la+1
  hi:=hn+pS of mx
 else
  let mx:=hn+1
  for _ in [0:n] do
   if of>=mx then break
   let aa fo <-bd (hn-of)|return ae
   if fo then break
   la:=of
   of:=2*of+1
  lo:=hn+1-pS of mx
  hi:=hn-la
 for _ in [0:n] do
  if lo>=hi then break
  let m:=lo+(hi-lo) / 2
  let aa mo <-bd m|return ae
  if mo then lo:=m+1 else hi:=m
 return aa hi):=rfl
noncomputable abbrev BT:=Option (Option Nat)×Nat×Nat
def ZaE{F:Nat->BT->StateT bU oa (ForInStep BT)}{n:Nat}{τ:bU}{B:Nat->Bool}{Q:BT->bU->Prop}
  (hF:∀i lo hi (Q:ForInStep BT->bU->Prop),hi<=n->(lo>=hi->Q (.done (ae,lo,hi)) τ)->(lo<hi->Q (.yield (ae,if B (lo+(hi-lo) / 2)=ak then(lo+(hi-lo) / 2+1,hi)else(lo,lo+(hi-lo) / 2))) τ)->l9 (aV prog w) A E s (F i (ae,lo,hi)) Q τ)
  (mono:∀i j,i<=j->j<n->B j=ak->B i=ak)(hq:∀r,r<=n->(∀i,i<n->(B i=ak↔i<r))->Q (ae,r,r) τ){lo hi:Nat}(h1:lo<=hi)(h2:hi<=n)(h3:∀i,i<lo->B i=ak)(h4:∀i,hi<=i->i<n->B i=ai) :
  l9 (aV prog w) A E s (mU [0:n] ((ae,lo,hi):BT) F) Q τ:=by
 have fin:∀lo,lo<=n->(∀i,i<lo->B i=ak)->(∀i,lo<=i->i<n->B i=ai)->Q (ae,lo,lo) τ:=λlo a2 a4 a5=>hq _ a2 λi hi=>by
  refine#[λhB=>?_,a4 i]
  by_cases c:i<lo
  .exact c
  .rw[a5 i (by omega) hi]at hB;cases hB
 refine cG
  (I:=λi c st'=>st'=τ/\c.1=ae/\c.2.1<=c.2.2/\c.2.2<=n/\c.2.2-c.2.1+i<=n/\(∀i,i<c.2.1->B i=ak)/\∀i,c.2.2<=i->i<n->B i=ai) ?_ ?_ #[rfl,rfl,h1,h2,by dsimp only;omega,h3,h4]
 .rintro i ⟨r,lo,hi⟩ st' hi0 hin ⟨rfl,rfl,a1,a2,a3,a4,a5⟩
  dsimp only at a1 a2 a3 a4 a5 ⊢
  refine hF i lo hi _ a2 (λc=>?_) λc=>?_
  .have e:lo=hi:=by omega
   subst e;exact fin lo a2 a4 a5
  .cases hm:B (lo+(hi-lo) / 2)with
   |true=>
    simp only[if_true];exact#[trivial,trivial,by omega,a2,by omega,λj hj=>mono j _ (by omega) (by omega) hm,a5]
   |false=>
    simp only[cP,if_false];refine#[trivial,trivial,by omega,by omega,by omega,a4,λj hj hn=>?_]
    cases hj2:B j with|false=>rfl|true=>rw[mono _ j hj hn hj2]at hm;cases hm
 .rintro ⟨r,lo,hi⟩ st' ⟨rfl,rfl,a1,a2,a3,a4,a5⟩
  dsimp only at a1 a2 a3 a4 a5 ⊢
  have e:lo=hi:=by omega
  subst e;exact fin lo a2 a4 a5
def ZeT{lf:Bool}{k:bZ}{ar:Array bZ}{bs n hn:Nat}{τ:bU}{B:Nat->Bool}{Q:Option Nat->bU->Prop}(hh:hn<n)
  (hb:∀i,i<n->∀Q:Option Bool->bU->Prop,Q (aa<|B i) τ->l9 (aV prog w) A E s (do
   let x <-gf ar (bs+i)
   if lf then lt' x k else return (<-lt' k x).map (!·)) Q τ)
  (mono:∀i j,i<=j->j<n->B j=ak->B i=ak)(hq:∀r,r<=n->(∀i,i<n->(B i=ak↔i<r))->Q (aa r) τ):l9 (aV prog w) A E s (Ys lf k ar bs n hn) Q τ:=by
 have no:∀{i j},i<=j->j<n->B i=ai->B j=ai:=λ{i j} h hj hi=>by
  cases q:B j with|false=>rfl|true=>rw[mono i j h hj q]at hi;cases hi
 rw[xJ]
 dsimp only
 refine aI<|hb hn hh _ ?_
 dsimp only
 cases h0:B hn with
 |true=>
  rw[T9 rfl];refine aI (eV (cG
   (I:=λi (c:BT) st'=>st'=τ/\c.1=ae/\c.2.1<c.2.2/\i<c.2.2/\hn+c.2.1<n/\B (hn+c.2.1)=ak)
   (Q:=λ(c:BT) st'=>st'=τ/\c.1=ae/\c.2.1<c.2.2/\hn+c.2.1<n/\B (hn+c.2.1)=ak/\(n<=hn+c.2.2\/B (hn+c.2.2)=ai)) ?_ ?_ #[rfl,rfl,by decide,by decide,hh,h0]) ?_)
  .rintro i ⟨r,la,f⟩ st' _ hin ⟨rfl,rfl,a1,a2,a3,a4⟩
   dsimp only at a1 a2 a3 a4 ⊢
   by_cases c:f>=n-hn
   .rw[T9 c]
    exact aU #[rfl,rfl,a1,a3,a4,.inl<|by dsimp only;omega]
   .rw[T8 c]
    refine aI<|hb _ (by omega) _ ?_
    dsimp only
    cases hm:B (hn+f)with|true=>exact aU #[rfl,rfl,by dsimp only;omega,by dsimp only;omega,by dsimp only;omega,hm]|false=>exact aU #[rfl,rfl,a1,a3,a4,.inr hm]
  .rintro ⟨r,la,f⟩ st' ⟨rfl,rfl,a1,a2,a3,a4⟩
   dsimp only at a1 a2 a3 a4 ⊢
   exact#[rfl,rfl,a1,a3,a4,.inl<|by omega]
  .rintro ⟨r,la,f⟩ st' ⟨rfl,rfl,a1,a3,a4,a5⟩
   dsimp only at a1 a3 a4 a5 ⊢
   refine aI (ZaE (n:=n) (B:=B) (λi lo hi Q h1 h2 h3=>by
    by_cases c:lo>=hi
    .simp only[T9 c];exact aU<|h2 c
    .simp only[T8 c]
     refine aI<|hb _ (by omega) _ ?_
     have h3:=h3 (by omega)
     cases hm:B (lo+(hi-lo) / 2)<;>(rw[hm]at h3;exact aU h3)) mono (λr hr hB=>aU<|hq r hr hB) (by omega) (by omega) (λi hi=>mono i _ (by omega) a3 a4) λi h1 h2=>?_)
   rcases a5 with a5|a5
   .omega
   .exact no (by omega) h2 a5
 |false=>
  rw[T8<|by simp]
  refine aI (eV (cG
   (I:=λi (c:BT) st'=>st'=τ/\c.1=ae/\c.2.1<c.2.2/\i<c.2.2/\c.2.1<=hn/\B (hn-c.2.1)=ai)
   (Q:=λ(c:BT) st'=>st'=τ/\c.1=ae/\c.2.1<c.2.2/\c.2.1<=hn/\B (hn-c.2.1)=ai/\(hn<c.2.2\/B (hn-c.2.2)=ak)) ?_ ?_ #[rfl,rfl,by decide,by decide,dQ _,h0]) ?_)
  .rintro i ⟨r,la,f⟩ st' _ hin ⟨rfl,rfl,a1,a2,a3,a4⟩
   dsimp only at a1 a2 a3 a4 ⊢
   by_cases c:f>=hn+1
   .rw[T9 c]
    exact aU #[rfl,rfl,a1,a3,a4,.inl<|by dsimp only;omega]
   .rw[T8 c]
    refine aI<|hb _ (by omega) _ ?_
    dsimp only
    cases hm:B (hn-f)with|true=>exact aU #[rfl,rfl,a1,a3,a4,.inr hm]|false=>exact aU #[rfl,rfl,by dsimp only;omega,by dsimp only;omega,by dsimp only;omega,hm]
  .rintro ⟨r,la,f⟩ st' ⟨rfl,rfl,a1,a2,a3,a4⟩
   dsimp only at a1 a2 a3 a4 ⊢
   exact#[rfl,rfl,a1,a3,a4,.inl<|by omega]
  .rintro ⟨r,la,f⟩ st' ⟨rfl,rfl,a1,a3,a4,a5⟩
   dsimp only at a1 a3 a4 a5 ⊢
   refine aI (ZaE (n:=n) (B:=B) (λi lo hi Q h1 h2 h3=>by
    by_cases c:lo>=hi
    .simp only[T9 c];exact aU<|h2 c
    .simp only[T8 c]
     refine aI<|hb _ (by omega) _ ?_
     have h3:=h3 (by omega)
     cases hm:B (lo+(hi-lo) / 2)<;>(rw[hm]at h3;exact aU h3)) mono (λr hr hB=>aU<|hq r hr hB) (by omega) (by omega) (λi hi=>?_) λi h1 h2=>no h1 h2 a4)
   rcases a5 with a5|a5
   .omega
   .exact mono i _ (by omega) (by omega) a5
abbrev Srt(R:α->α->Prop)(l:List α):Prop:=l.Pairwise R
abbrev lr(rk:α->Nat):α->α->Prop:=λx y=>rk x<rk y
abbrev gr(rk:α->Nat):α->α->Prop:=λx y=>rk y<rk x
structure ML(R:α->α->Prop)(T o ra rb:List α):Prop where
 perm:(o++ra++rb).Perm T
 so:Srt R o
 sa:Srt R ra
 sb:Srt R rb
 lt:∀x∈o,∀y,y∈ra\/y∈rb->R x y
def ML.as{T o xs ra rb:List α}(h:ML R T o (xs++ra) rb)(hx:∀x∈xs,∀y∈rb,R x y):ML R T (o++xs) ra rb:=by
 obtain⟨s1,s2,s3⟩:=dS.mp h.sa;refine#[by simpa[bL]using h.perm,dS.mpr #[h.so,s1,λx hx y hy=>h.lt x hx y<|.inl<|cL _ hy],s2,h.sb,λx hx2 y hy=>?_]
 rcases bK.mp hx2 with z|z
 .exact h.lt x z y<|hy.imp (bt _) id
 .rcases hy with hy|hy
  .exact s3 x z y hy
  .exact hx x z y hy
def ML.swap{T o ra rb:List α}(h:ML R T o ra rb):ML R T o rb ra:=by
 refine#[List.Perm.trans ?_ h.perm,h.so,h.sb,h.sa,λx hx y hy=>h.lt x hx y hy.symm]
 rw[bL,bL];exact List.perm_append_comm.append_left _
def ML.bs(h:ML R T o ra (xs++rb))(hx:∀x∈xs,∀y∈ra,R x y):ML R T (o++xs) ra rb:=(h.swap.as hx).swap
def ML.fin{T o ra:List α}(h:ML R T o ra []):(o++ra).Perm T/\Srt R (o++ra):=by
 have h':=ML.as (ra:=[]) (by simpa using h) λx _ y hy=>by cases hy
 exact#[by simpa using h'.perm,h'.so]
def ML.ne(h:ML R T o ra rb)(hT:(T.map rk).Nodup)(hx:x∈ra)(hy:y∈rb):rk x≠rk y:=by
 have n:=((h.perm.map rk).nodup_iff).mpr hT;rw[bM,gY]at n;exact n.2.2 _ (gp<|bt _ hx) _<|gp hy
structure Od(prog:bH)(w:bV)(A:cC)(E:aq->aA->Prop)(s:aA)(κ:gZ)(In:bZ->Prop)(rk:bZ->Nat):Prop where
 ask:∀{x y:bZ}{τ:bU}{Q:Option Bool->bU->Prop},In x->In y->kindOf τ=κ->Q (aa<|af<|rk x<rk y) τ->l9 (aV prog w) A E s (lt' x y) Q τ
def Sg(τ st':bU):Prop:=kindOf st'=kindOf τ/\bj st'=bj τ/\bq st'=bq τ/\gy st'=gy τ
section
variable{In:bZ->Prop}
def ZF{Q:bZ->bU->Prop}(h:ar[i]?=aa x)(hq:Q x τ):l9 (aV prog w) A E s (gf ar i) Q τ:=by
 rw[elem'_eq,h];exact aU hq
def Wo{Q:Unit->bU->Prop}(hq:Q () τ):l9 (aV prog w) A E s (liftM (oi t):StateT bU oa Unit) Q τ:=wpS_lift<|fe #[rfl,hq]
theorem wl(O:Od prog w A E s κ In rk){Q:Option Nat->bU->Prop}(hk:kindOf τ=κ)(ik:In k)(hh:h0<n)(hn:i+n<=ar.size)(ia:∀x∈ar.toList,In x)
  (so:Srt (lr rk) ((ar.toList.drop i).take n))(ne:∀x∈(ar.toList.drop i).take n,rk x≠rk k)
  (hq:∀r,r<=n->(∀x∈((ar.toList.drop i).take n).take r,rk x<rk k)->(∀x∈((ar.toList.drop i).take n).drop r,rk k<rk x)->Q (aa r) τ):l9 (aV prog w) A E s (Ys lf k ar i n h0) Q τ:=by
 generalize hl:(ar.toList.drop i).take n=l at so ne hq;have ll:l.length=n:=by rw[<-hl,bE,bF,aM];lia
 have at_:∀j (hj:j<n),ar[i+j]?=aa (l[j]'(by lia)):=λj hj=>by
  have:ar.toList[i+j]?=aa (l[j]'(by lia)):=by
   subst hl;rw[fI,fJ];exact ag _
  simpa using this
 have mem:∀j (hj:j<n),In (l[j]'(by lia)):=λj hj=>ia _ (by
  have h2:∀x∈l,x∈ar.toList:=λx hx=>by rw[<-hl]at hx;exact cg<|dB hx
  exact h2 _<|ba _)
 have hB:∀j (hj:j<n),((l[j]?).any λx=>af<|rk x<rk k)=af (rk (l[j]'(by lia))<rk k):=λj hj=>by
  rw[ag<|by lia];rfl
 refine ZeT (B:=λj=>(l[j]?).any λx=>af<|rk x<rk k) hh (λj hj Q hQ=>?_) (λa b hab hb h=>?_) λr hr hr2=>hq r hr (λx hx=>?_) λx hx=>?_
 .rw[hB j hj]at hQ
  refine aI<|ZF (at_ j hj) ?_;cases lf with
  |true=>exact O.ask (mem j hj) ik hk hQ
  |false=>
   refine aI<|O.ask ik (mem j hj) hk<|aU ?_;have e:(!decide (rk k<rk (l[j]'(by lia))))=af (rk (l[j]'(by lia))<rk k):=by
    have:=ne _<|ba (n:=j)<|by lia
    by_cases c:rk k<rk (l[j]'(by lia))
    .rw[T5 c,T4<|by lia];rfl
    .rw[T4 c,T5<|by lia];rfl
   show Q (aa<|!decide (rk k<rk (l[j]'(by lia)))) τ
   rw[e];exact hQ
 .rw[hB b hb]at h
  rw[hB a<|by lia]
  rcases Nat.lt_or_eq_of_le hab with c|c
  .have:=bW.mp so a b (by lia) (by lia) c
   have h:=T6 h;exact T5 (by lia)
  .subst c;exact h
 .obtain⟨j,hj,rfl⟩:=cW hx
  rw[bE]at hj;have:=(hr2 j<|by lia).mpr (by lia)
  rw[hB j<|by lia]at this
  rw[fI];exact T6 this
 .obtain⟨j,hj,rfl⟩:=cW hx
  rw[bF]at hj;rw[fJ];have h1:=hr2 (r+j) (by lia)
  rw[hB _<|by lia]at h1
  have h2:=ne _<|ba (n:=r+j)<|by lia
  have h3:¬rk (l[r+j]'(by lia))<rk k:=λz=>T7 (h1.mp<|T5 z) (by lia)
  lia
end
noncomputable abbrev KA:=Array bZ
noncomputable abbrev SM:=StateT bU oa
noncomputable def U6:KA->KA->SM KA:=sortPriv% PySem.Builtin.mergeLo
noncomputable def Jm:Nat->SM Unit:=sortPriv% PySem.Builtin.setMinGallop
def jf(g:Nat):Jm g=modify λs=>pF (kindOf s) (bj s) (bq s) g (gy s):=rfl
noncomputable abbrev dn(a b o:KA)(i j:Nat):KA:=o++a.extract i a.size++b.extract j b.size
noncomputable abbrev ls(a b o:KA)(i j:Nat):KA:=o++b.extract j b.size++a.extract i a.size
noncomputable abbrev T2:=Option KA×KA×Nat×Nat×Nat×Nat
noncomputable abbrev T3:=Option KA×KA×Nat×Nat×Nat×Nat×Nat
noncomputable abbrev T1:=Option KA×KA×Nat×Nat×Nat
noncomputable def F1(a b:KA)(g:Nat)(c:T2):SM (ForInStep T2):=do
 let o:=c.2.1
 let i:=c.2.2.1
 let j:=c.2.2.2.1
 let ca:=c.2.2.2.2.1
 let cb:=c.2.2.2.2.2
 let aa t <-lt' (<-gf b j) (<-gf a i)|return .done (aa<|dn a b o i j,o,i,j,ca,cb)
 if t then
  let o:=o.push<|<-gf b j
  let j:=j+1
  if j == b.size then return .done (aa<|dn a b o i j,o,i,j,0,cb+1)
  if cb+1>=g then return .done (ae,o,i,j,0,cb+1)
  return .yield (ae,o,i,j,0,cb+1)
 else
  let o:=o.push<|<-gf a i
  let i:=i+1
  if i+1 == a.size then return .done (aa<|ls a b o i j,o,i,j,ca+1,0)
  if ca+1>=g then return .done (ae,o,i,j,ca+1,0)
  return .yield (ae,o,i,j,ca+1,0)
noncomputable def G3(a b:KA)(g ca cb i:Nat)(o:KA)(j:Nat):SM (ForInStep T3):=do
 let o:=o.push<|<-gf a i
 let i:=i+1
 if i+1 == a.size then return .done (aa<|ls a b o i j,o,i,j,g,ca,cb)
 if ca<7&&cb<7 then return .done (ae,o,i,j,g,ca,cb)
 return .yield (ae,o,i,j,g,ca,cb)
noncomputable def G2(a b:KA)(g ca cb j:Nat)(o:KA)(i:Nat):SM (ForInStep T3):=do
 let o:=o.push<|<-gf b j
 let j:=j+1
 if j == b.size then return .done (aa<|dn a b o i j,o,i,j,g,ca,cb)
 let aa k <-Ys ak (<-gf a i) b j (b.size-j) 0|return .done (aa<|dn a b o i j,o,i,j,g,ca,cb)
 if k>0 then
  let o:=o++b.extract j (j+k)
  let j:=j+k
  if j == b.size then return .done (aa<|dn a b o i j,o,i,j,g,ca,k)
  else G3 a b g ca k i o j
 else G3 a b g ca k i o j
noncomputable def G1(a b:KA)(o:KA)(i j ca cb g:Nat):SM (ForInStep T3):=do
 Jm g
 let aa k <-Ys ai (<-gf b j) a i (a.size-i) 0|return .done (aa<|dn a b o i j,o,i,j,g,ca,cb)
 if k>0 then
  let o:=o++a.extract i (i+k)
  let i:=i+k
  if i+1 == a.size then return .done (aa<|ls a b o i j,o,i,j,g,k,cb)
  else if i == a.size then return .done (aa<|dn a b o i j,o,i,j,g,k,cb)
  else G2 a b g k cb j o i
 else G2 a b g k cb j o i
noncomputable def F2(a b:KA)(c:T3):SM (ForInStep T3):=
 if c.2.2.2.2.1>1 then G1 a b c.2.1 c.2.2.1 c.2.2.2.1 c.2.2.2.2.2.1 c.2.2.2.2.2.2 (c.2.2.2.2.1-1)
 else G1 a b c.2.1 c.2.2.1 c.2.2.2.1 c.2.2.2.2.2.1 c.2.2.2.2.2.2 c.2.2.2.2.1
noncomputable def F0(a b:KA)(c:T1):SM (ForInStep T1):=do
 let d <-mU [0:a.size+b.size] ((ae,c.2.1,c.2.2.1,c.2.2.2.1,0,0):T2) λ_ d=>F1 a b c.2.2.2.2 d
 kz d.1 (λ_=>do
  oi "list.sort.gallop"
  let e <-mU [0:a.size+b.size] ((ae,d.2.1,d.2.2.1,d.2.2.2.1,c.2.2.2.2+1,d.2.2.2.2.1,d.2.2.2.2.2):T3) λ_ d=>F2 a b d
  kz e.1 (λ_=>do
   Jm (e.2.2.2.2.1+1)
   cD (.yield (ae,e.2.1,e.2.2.1,e.2.2.2.1,e.2.2.2.2.1+1))) λr=>cD<|.done (aa r,e.2.1,e.2.2.1,e.2.2.2.1,e.2.2.2.2.1)) λr=>cD<|.done (aa r,d.2.1,d.2.2.1,d.2.2.2.1,c.2.2.2.2)
def yi(a b:KA):U6 a b=(do
 oi "list.sort.merge-lo"
 let y <-gf b 0
 if 1 == b.size then return dn a b #[y] 0 1
 if 0+1 == a.size then return ls a b #[y] 0 1
 let τ <-get
 let c <-mU [0:a.size+b.size] ((ae,#[y],0,1,gallopOf τ):T1) λ_ c=>F0 a b c
 kz c.1 (λ_=>oU "internal:list.sort.merge-bound") λr=>cD r):=rfl
def Wk(a:KA)(i:Nat):(a.extract i a.size).toList=a.toList.drop i:=by
 rw[iK,gh,<-aM];exact cQ (by rw[bF];exact aG _)
def wA(a:KA)(i k:Nat):(a.extract i<|i+k).toList=(a.toList.drop i).take k:=by
 rw[iK,gh,Nat.add_sub_cancel_left]
def Ya{a:KA}{i:Nat}(h:i<a.size):a.toList.drop i=a[i]::a.toList.drop (i+1):=by
 rw[cq<|by simpa using h];rfl
def td{α:Type}(l:List α)(n r:Nat):(l.drop n).take r++l.drop (n+r)=l.drop n:=by rw[<-kA,cY]
def ZL{a:KA}{i:Nat}(h:i<a.size):a[i]?=aa a[i]:=bO h
section
variable{prog:bH}{w:bV}{A:cC}{E:aq->aA->Prop}{s:aA}{κ:gZ}{In:bZ->Prop}{rk:bZ->Nat}
def ZC{α:Type}{c:Prop}[Decidable c]{x y:SM α}{Q:α->bU->Prop}{τ:bU}(h1:c->l9 (aV prog w) A E s x Q τ)(h2:¬c->l9 (aV prog w) A E s y Q τ):l9 (aV prog w) A E s (if c then x else y) Q τ:=by
 by_cases h:c
 .rw[T9 h];exact h1 h
 .rw[T8 h];exact h2 h
theorem wC(O:Od prog w A E s κ In rk){Q:Option Nat->bU->Prop}(hk:kindOf τ=κ)(ik:In k)(hi:i<ar.size)(ia:∀x∈ar.toList,In x)(so:Srt (lr rk) (ar.toList.drop i))(ne:∀x∈ar.toList.drop i,rk x≠rk k)
  (hq:∀r,i+r<=ar.size->(∀x∈(ar.toList.drop i).take r,rk x<rk k)->(∀x∈ar.toList.drop (i+r),rk k<rk x)->Q (aa r) τ):l9 (aV prog w) A E s (Ys lf k ar i (ar.size-i) 0) Q τ:=by
 have e:(ar.toList.drop i).take (ar.size-i)=ar.toList.drop i:=cQ (by rw[bF,aM];exact aG _)
 refine wl O hk ik (Nat.sub_pos_of_lt hi) (nU<|Nat.add_sub_cancel'<|i5 hi) ia (e.symm▸so) (e.symm▸ne) λr h1 h2 h3=>?_
 rw[e]at h2 h3;rw[kA]at h3;exact hq r (by lia) h2 h3
structure Mg(κ:gZ)(In:bZ->Prop)(rk:bZ->Nat)(a b:KA)(T:List bZ):Prop where
 nd:(T.map rk).Nodup
 ia:∀x∈a.toList,In x
 ib:∀x∈b.toList,In x
 last:∀y∈b.toList,∀x∈a.toList.drop (a.size-1),rk y<rk x
def Res(rk:bZ->Nat)(T:List bZ)(r:KA):Prop:=r.toList.Perm T/\Srt (lr rk) r.toList
abbrev Lo(rk:bZ->Nat)(a b:KA)(T:List bZ)(o:KA)(i j:Nat):Prop:=ML (lr rk) T o.toList (a.toList.drop i)<|b.toList.drop j
structure Iv(rk:bZ->Nat)(a b:KA)(T:List bZ)(o:KA)(i j:Nat):Prop where
 m:Lo rk a b T o i j
 hi:i+1<a.size
 hj:j<b.size
 z:o.size=i+j
variable{a b:KA}{T:List bZ}
def JD(h:Lo rk a b T o i j)(hj:(j == b.size)=ak):Res rk T (dn a b o i j):=by
 have hj:=beq_iff_eq.mp hj;unfold Lo at h;rw[hj,<-aM,eC]at h;have:=h.fin;unfold Res dn;rw[bX,bX,Wk,Wk,hj,<-aM,eC,cr];exact this
def ZbY(h:Lo rk a b T o i j)(hi:(i == a.size)=ak):Res rk T (dn a b o i j):=by
 have hi:=beq_iff_eq.mp hi;unfold Lo at h;rw[hi,<-aM,eC]at h;have:=h.swap.fin;unfold Res dn;rw[bX,bX,Wk,Wk,hi,<-aM,eC,cr];exact this
theorem Jy(G:Mg κ In rk a b T)(h:Lo rk a b T o i j)(hi:(i+1 == a.size)=ak):Res rk T (ls a b o i j):=by
 have hi:=beq_iff_eq.mp hi;have e:a.size-1=i:=by lia
 have:=(ML.bs (by rw[cr];exact h) λy hy x hx=>G.last y (cg hy) x<|by rw[e];exact hx).fin
 unfold Res ls;rw[bX,bX,Wk,Wk];exact this
def Zam(h:Lo rk a b T o i j)(hj:j<b.size)(hy:∀x∈a.toList.drop i,rk b[j]<rk x):Lo rk a b T (o.push b[j]) i (j+1):=by
 unfold Lo at h ⊢;rw[Ya hj]at h;rw[fK];exact ML.bs h λx hx y hy'=>by rw[aY.mp hx];exact hy y hy'
def Zdr(h:Lo rk a b T o i j)(hi:i<a.size)(hx:∀y∈b.toList.drop j,rk a[i]<rk y):Lo rk a b T (o.push a[i]) (i+1) j:=by
 unfold Lo at h ⊢;rw[Ya hi]at h;rw[fK];exact ML.as h λx hx' y hy'=>by rw[aY.mp hx'];exact hx y hy'
def vW(h:Srt (lr rk) (x::l))(hx:rk y<rk x):∀z∈x::l,rk y<rk z:=λz hz=>by
 rcases ay.mp hz with rfl|hz
 .exact hx
 .exact dE hx<|(aZ.mp h).1 z hz
def Qf(h:m<n)(q:¬(m+1 == n)=ak):m+1<n:=gG h λz=>q<|beq_iff_eq.mpr z
theorem ZeZ(O:Od prog w A E s κ In rk)(G:Mg κ In rk a b T){g ca cb:Nat}{r0:Option KA}{τ:bU}{Q:ForInStep T2->bU->Prop}(hk:kindOf τ=κ)(I:Iv rk a b T o i j)
  (hd:∀r c,Res rk T r->Q (.done (aa r,c)) τ)(hb:∀o' i' j' ca cb,Iv rk a b T o' i' j'->o'.size=o.size+1->Q (.done (ae,o',i',j',ca,cb)) τ/\Q (.yield (ae,o',i',j',ca,cb)) τ):l9 (aV prog w) A E s (F1 a b g (r0,o,i,j,ca,cb)) Q τ:=by
 have hi:=dZ I.hi;have ha:a[i]∈a.toList.drop i:=by rw[Ya hi];exact ao ..
 have hb':b[j]'I.hj∈b.toList.drop j:=by rw[Ya I.hj];exact ao ..
 have sa:=I.m.sa;have sb:=I.m.sb;rw[Ya hi]at sa;rw[Ya I.hj]at sb;refine aI<|ZF (ZL I.hj)<|aI<|ZF (ZL hi)<|aI<|O.ask (G.ib _<|cg hb') (G.ia _<|cg ha) hk ?_;by_cases c:rk (b[j]'I.hj)<rk a[i]
 .rw[T5 c]
  refine aI<|ZF (ZL I.hj) ?_;have m:=Zam I.m I.hj (by rw[Ya hi];exact vW sa c)
  have z:(o.push<|b[j]'I.hj).size=o.size+1:=d6 ..;refine ZC (λq=>aU<|hd _ _<|JD m q) λq=>?_
  have h:=hb _ _ _ 0 (cb+1) #[m,I.hi,Qf I.hj q,by rw[z,I.z];lia] z
  exact ZC (λ_=>aU h.1) λ_=>aU h.2
 .rw[T4 c]
  refine aI<|ZF (ZL hi) ?_;have c':=gG (fq c)<|I.m.ne G.nd ha hb';have m:=Zdr I.m hi (by rw[Ya I.hj];exact vW sb c')
  have z:(o.push a[i]).size=o.size+1:=d6 ..;refine ZC (λq=>aU<|hd _ _<|Jy G m q) λq=>?_
  have h:=hb _ _ _ (ca+1) 0 #[m,Qf I.hi q,I.hj,by rw[z,I.z];lia] z
  exact ZC (λ_=>aU h.1) λ_=>aU h.2
theorem Sg.trans(h:Sg s1 s2)(k:Sg s2 s3):Sg s1 s3:=#[k.1.trans h.1,k.2.1.trans h.2.1,k.2.2.1.trans h.2.2.1,k.2.2.2.trans h.2.2.2]
def Uk{Q:Unit->bU->Prop}(h:∀st',Sg τ st'->Q () st'):l9 (aV prog w) A E s (Jm g) Q τ:=by
 rw[jf];exact fz<|h _ #[rfl,rfl,rfl,rfl]
section
variable(O:Od prog w A E s κ In rk)(G:Mg κ In rk a b T)
include O G
theorem Zc1{g ca cb:Nat}{τ:bU}(m:Lo rk a b T o i j)(hi:i+1<a.size)(hj:j<b.size)(z:o.size=i+j)(hx:∀y∈b.toList.drop j,rk a[i]<rk y)
  (hd:∀r c,Res rk T r->Q (.done (aa r,c)) τ)(hb:∀o' i' j' g ca cb,Iv rk a b T o' i' j'->o'.size=o.size+1->Q (.done (ae,o',i',j',g,ca,cb)) τ/\Q (.yield (ae,o',i',j',g,ca,cb)) τ):l9 (aV prog w) A E s (G3 a b g ca cb i o j) Q τ:=by
 have hi':=dZ hi;refine aI<|ZF (ZL hi') ?_;have m:=Zdr m hi' hx;have z':(o.push a[i]).size=o.size+1:=d6 ..;refine ZC (λq=>aU<|hd _ _<|Jy G m q) λq=>?_
 have h:=hb _ _ _ g ca cb #[m,Qf hi q,hj,by rw[z',z];lia] z'
 exact ZC (λ_=>aU h.1) λ_=>aU h.2
theorem Zc2{g ca cb:Nat}{τ:bU}(hk:kindOf τ=κ)(m:Lo rk a b T o i j)(hi:i+1<a.size)(hj:j<b.size)(z:o.size=i+j)(hy:∀x∈a.toList.drop i,rk b[j]<rk x)
  (hd:∀r c,Res rk T r->Q (.done (aa r,c)) τ)(hb:∀o' i' j' g ca cb,Iv rk a b T o' i' j'->o.size<o'.size->Q (.done (ae,o',i',j',g,ca,cb)) τ/\Q (.yield (ae,o',i',j',g,ca,cb)) τ):l9 (aV prog w) A E s (G2 a b g ca cb j o i) Q τ:=by
 have hi':=dZ hi;refine aI<|ZF (ZL hj) ?_;have m:=Zam m hj hy;have z':(o.push b[j]).size=o.size+1:=d6 ..;refine ZC (λq=>aU<|hd _ _<|JD m q) λq=>?_
 have hj:=Qf hj q;have ha:a[i]∈a.toList.drop i:=by rw[Ya hi'];exact ao ..
 refine aI<|ZF (ZL hi')<|aI<|wC O hk (G.ia _<|cg ha) hj G.ib m.sb (λy hy=>(m.ne G.nd ha hy).symm) λr hr h1 h2=>?_
 refine ZC (λ_=>?_) λc=>?_
 .have m2:Lo rk a b T (o.push b[j]++b.extract (j+1) (j+1+r)) i (j+1+r):=by
   unfold Lo;rw[bX,wA];refine ML.bs ?_ λy hy x hx=>?_
   .rw[td];exact m
   .have sa:=m.sa
    rw[Ya hi']at sa hx;exact vW sa (h1 y hy) x hx
  have z2:(o.push b[j]++b.extract (j+1) (j+1+r)).size=o.size+1+r:=by rw[g7,z',gH];lia
  refine ZC (λq=>aU<|hd _ _<|JD m2 q) λq=>?_
  have hj2:=gG hr λz=>q<|beq_iff_eq.mpr z
  exact Zc1 O G m2 hi hj2 (by rw[z2,z];lia) h2 hd λo' i' j' g ca cb I e=>hb o' i' j' g ca cb I (by lia)
 .have e:r=0:=by lia
  subst e;exact Zc1 O G m hi hj (by rw[z',z];lia) h2 hd λo' i' j' g ca cb I e=>hb o' i' j' g ca cb I (by lia)
theorem Zds{g ca cb:Nat}{τ:bU}(hk:kindOf τ=κ)(I:Iv rk a b T o i j)
  (hd:∀r c st',Sg τ st'->Res rk T r->Q (.done (aa r,c)) st')(hb:∀o' i' j' g ca cb st',Sg τ st'->Iv rk a b T o' i' j'->o.size<o'.size->Q (.done (ae,o',i',j',g,ca,cb)) st'/\Q (.yield (ae,o',i',j',g,ca,cb)) st'):l9 (aV prog w) A E s (G1 a b o i j ca cb g) Q τ:=by
 obtain⟨m,hi,hj,z⟩:=I;have hi':=dZ hi;have hb':b[j]∈b.toList.drop j:=by rw[Ya hj];exact ao ..
 refine aI<|Uk λst' sg=>aI<|ZF (ZL hj)<|aI<|wC O (sg.1.trans hk) (G.ib _<|cg hb') hi' G.ia m.sa (λx hx=>m.ne G.nd hx hb') λr hr h1 h2=>?_
 refine ZC (λ_=>?_) λc=>?_
 .have m2:Lo rk a b T (o++a.extract i (i+r)) (i+r) j:=by
   unfold Lo;rw[bX,wA];refine ML.as ?_ λx hx y hy=>?_
   .rw[td];exact m
   .have sb:=m.sb
    rw[Ya hj]at sb hy;exact vW sb (h1 x hx) y hy
  have z2:(o++a.extract i (i+r)).size=o.size+r:=by rw[g7,gH];lia
  refine ZC (λq=>aU<|hd _ _ st' sg<|Jy G m2 q) λq=>ZC (λq=>aU<|hd _ _ st' sg<|ZbY m2 q) λq2=>?_
  have q2:i+r≠a.size:=λz=>q2<|beq_iff_eq.mpr z
  exact Zc2 O G (sg.1.trans hk) m2 (Qf (by lia) q) hj (by rw[z2,z];lia) h2 (λr c=>hd r c st' sg) λo' i' j' g ca cb I e=>hb o' i' j' g ca cb st' sg I (by lia)
 .have e:r=0:=by lia
  subst e;exact Zc2 O G (sg.1.trans hk) m hi hj z h2 (λr c=>hd r c st' sg) λo' i' j' g ca cb I e=>hb o' i' j' g ca cb st' sg I (by lia)
theorem Zfo{g ca cb:Nat}{r0:Option KA}{τ:bU}(hk:kindOf τ=κ)(I:Iv rk a b T o i j)
  (hd:∀r c st',Sg τ st'->Res rk T r->Q (.done (aa r,c)) st')(hb:∀o' i' j' g ca cb st',Sg τ st'->Iv rk a b T o' i' j'->o.size<o'.size->Q (.done (ae,o',i',j',g,ca,cb)) st'/\Q (.yield (ae,o',i',j',g,ca,cb)) st'):l9 (aV prog w) A E s (F2 a b (r0,o,i,j,g,ca,cb)) Q τ:=by
 exact ZC (λ_=>Zds O G hk I hd hb) λ_=>Zds O G hk I hd hb
theorem Ze5{Q:ForInStep T1->bU->Prop}(hk:kindOf τ=κ)(I:Iv rk a b T o i j)
  (hd:∀r c st',Sg τ st'->Res rk T r->Q (.done (aa r,c)) st')(hy:∀o' i' j' g st',Sg τ st'->Iv rk a b T o' i' j'->o.size<o'.size->Q (.yield (ae,o',i',j',g)) st'):l9 (aV prog w) A E s (F0 a b (r0,o,i,j,g)) Q τ:=by
 refine aI (eV (cG
  (I:=λx (c:T2) st'=>st'=τ/\c.1=ae/\Iv rk a b T c.2.1 c.2.2.1 c.2.2.2.1/\o.size+x<=c.2.1.size)
  (Q:=λ(c:T2) st'=>st'=τ/\((∃r,c.1=aa r/\Res rk T r)\/c.1=ae/\Iv rk a b T c.2.1 c.2.2.1 c.2.2.2.1/\o.size<c.2.1.size)) ?_ ?_ #[rfl,rfl,I,aG _]) ?_)
 .rintro x ⟨r,o',i',j',ca,cb⟩ st' _ _ ⟨rfl,rfl,I',hz⟩
  exact ZeZ O G hk I' (λr c h=>#[rfl,.inl #[r,rfl,h]]) λo2 i2 j2 ca cb I2 e=>#[#[rfl,.inr #[rfl,I2,by dsimp only at hz ⊢;lia]],rfl,rfl,I2,by dsimp only at hz ⊢;lia]
 .rintro ⟨r,o',i',j',ca,cb⟩ st' ⟨rfl,rfl,I',hz⟩
  have:=I'.hi;have:=I'.hj;have:=I'.z;lia
 .rintro ⟨r,o',i',j',ca,cb⟩ st' ⟨rfl,⟨r',rfl,h⟩|⟨rfl,I',hz⟩⟩
  .exact aU<|hd _ _ _ #[rfl,rfl,rfl,rfl] h
  .dsimp only at I' hz
   refine aI (Wo (aI (eV (cG
    (I:=λx (c:T3) st''=>Sg st' st''/\c.1=ae/\Iv rk a b T c.2.1 c.2.2.1 c.2.2.2.1/\o'.size+x<=c.2.1.size)
    (Q:=λ(c:T3) st''=>Sg st' st''/\((∃r,c.1=aa r/\Res rk T r)\/c.1=ae/\Iv rk a b T c.2.1 c.2.2.1 c.2.2.2.1/\o'.size<c.2.1.size)) ?_ ?_ #[#[rfl,rfl,rfl,rfl],rfl,I',aG _]) ?_)))
   .rintro x ⟨r,o2,i2,j2,g,ca,cb⟩ st2 _ _ ⟨sg,rfl,I2,hz2⟩
    dsimp only at I2 hz2
    exact Zfo O G (sg.1.trans hk) I2 (λr c st3 s3 h=>#[sg.trans s3,.inl #[r,rfl,h]]) λo3 i3 j3 g ca cb st3 s3 I3 e=>#[#[sg.trans s3,.inr #[rfl,I3,by dsimp only;lia]],sg.trans s3,rfl,I3,by dsimp only;lia]
   .rintro ⟨r,o2,i2,j2,g,ca,cb⟩ st2 ⟨sg,rfl,I2,hz2⟩
    have:=I2.hi;have:=I2.hj;have:=I2.z;lia
   .rintro ⟨r,o2,i2,j2,g,ca,cb⟩ st2 ⟨sg,⟨r',rfl,h⟩|⟨rfl,I2,hz2⟩⟩
    .exact aU<|hd _ _ _ sg h
    .exact aI<|Uk λst3 s3=>aU<|hy _ _ _ _ _ (sg.trans s3) I2<|dE hz hz2
theorem yQ{τ:bU}{Q:KA->bU->Prop}(hk:kindOf τ=κ)(ha:0<a.size)(hb:0<b.size)(sa:Srt (lr rk) a.toList)(sb:Srt (lr rk) b.toList)(hT:(a.toList++b.toList).Perm T)(h0:∀x∈a.toList,rk b[0]<rk x)
  (hq:∀r st',Sg τ st'->Res rk T r->Q r st'):l9 (aV prog w) A E s (U6 a b) Q τ:=by
 rw[yi];refine aI<|Wo<|aI<|ZF (ZL hb) ?_;have m0:Lo rk a b T #[] 0 0:=#[by simpa using hT,.nil,by simpa using sa,by simpa using sb,λx hx=>by cases hx]
 have m:=Zam m0 hb (by simpa using h0)
 have sg0:Sg τ τ:=#[rfl,rfl,rfl,rfl];refine ZC (λq=>aU<|hq _ _ sg0<|JD m q) λq1=>ZC (λq=>aU<|hq _ _ sg0<|Jy G m q) λq2=>aI (g8 (aI (eV (cG
  (I:=λx (c:T1) st''=>Sg τ st''/\c.1=ae/\Iv rk a b T c.2.1 c.2.2.1 c.2.2.2.1/\x<=c.2.1.size)
  (Q:=λ(c:T1) st''=>Sg τ st''/\∃r,c.1=aa r/\Res rk T r) ?_ ?_ #[sg0,rfl,#[m,Qf ha q2,Qf hb q1,rfl],dQ _]) ?_)))
 .rintro x ⟨r,o,i,j,g⟩ st2 _ _ ⟨sg,rfl,I,hz⟩
  dsimp only at I hz
  exact Ze5 O G (sg.1.trans hk) I (λr c st3 s3 h=>#[sg.trans s3,r,rfl,h]) λo3 i3 j3 g st3 s3 I3 e=>#[sg.trans s3,rfl,I3,by dsimp only;lia]
 .rintro ⟨r,o,i,j,g⟩ st2 ⟨sg,rfl,I,hz⟩
  have:=I.hi;have:=I.hj;have:=I.z;lia
 .rintro ⟨r,o,i,j,g⟩ st2 ⟨sg,r',rfl,h⟩
  exact aU<|hq _ _ sg h
end
end
noncomputable def U4:KA->KA->SM KA:=sortPriv% PySem.Builtin.mergeHi
noncomputable abbrev dh(a b o:KA)(i j:Nat):KA:=a.extract 0 i++b.extract 0 j++o.reverse
noncomputable abbrev fh(a b o:KA)(i j:Nat):KA:=b.extract 0 j++a.extract 0 i++o.reverse
noncomputable abbrev U1:=Option KA×Nat×Nat×KA×Nat
noncomputable abbrev U2:=Option KA×Nat×Nat×KA×Nat×Nat
noncomputable abbrev U3:=Option KA×Nat×Nat×KA×Nat×Nat×Nat
noncomputable def H1(a b:KA)(g:Nat)(c:U2):SM (ForInStep U2):=do
 let i:=c.2.1
 let j:=c.2.2.1
 let o:=c.2.2.2.1
 let ca:=c.2.2.2.2.1
 let cb:=c.2.2.2.2.2
 let aa t <-lt' (<-gf b (j-1)) (<-gf a (i-1))|return .done (aa<|dh a b o i j,i,j,o,ca,cb)
 if t then
  let i:=i-1
  let o:=o.push<|<-gf a i
  if i == 0 then return .done (aa<|dh a b o i j,i,j,o,ca+1,0)
  if ca+1>=g then return .done (ae,i,j,o,ca+1,0)
  return .yield (ae,i,j,o,ca+1,0)
 else
  let j:=j-1
  let o:=o.push<|<-gf b j
  if j == 1 then return .done (aa<|fh a b o i j,i,j,o,0,cb+1)
  if cb+1>=g then return .done (ae,i,j,o,0,cb+1)
  return .yield (ae,i,j,o,0,cb+1)
noncomputable def K3(a b:KA)(g ca cb i:Nat)(o:KA)(j:Nat):SM (ForInStep U3):=do
 let i:=i-1
 let o:=o.push<|<-gf a i
 if i == 0 then return .done (aa<|dh a b o i j,i,j,o,g,ca,cb)
 if ca<7&&cb<7 then return .done (ae,i,j,o,g,ca,cb)
 return .yield (ae,i,j,o,g,ca,cb)
noncomputable def K2(a b:KA)(g ca cb j:Nat)(o:KA)(i:Nat):SM (ForInStep U3):=do
 let j:=j-1
 let o:=o.push<|<-gf b j
 if j == 1 then return .done (aa<|fh a b o i j,i,j,o,g,ca,cb)
 let aa t <-Ys ak (<-gf a (i-1)) b 0 j (j-1)|return .done (aa<|dh a b o i j,i,j,o,g,ca,cb)
 if j-t>0 then
  let o:=o++(b.extract t j).reverse
  if t == 1 then return .done (aa<|fh a b o i t,i,t,o,g,ca,j-t)
  else if t == 0 then return .done (aa<|dh a b o i t,i,t,o,g,ca,j-t)
  else K3 a b g ca (j-t) i o t
 else K3 a b g ca (j-t) i o j
noncomputable def K1(a b:KA)(o:KA)(i j ca cb g:Nat):SM (ForInStep U3):=do
 Jm g
 let aa t <-Ys ai (<-gf b (j-1)) a 0 i (i-1)|return .done (aa<|dh a b o i j,i,j,o,g,ca,cb)
 if i-t>0 then
  let o:=o++(a.extract t i).reverse
  if t == 0 then return .done (aa<|dh a b o t j,t,j,o,g,i-t,cb)
  else K2 a b g (i-t) cb j o t
 else K2 a b g (i-t) cb j o i
noncomputable def H2(a b:KA)(c:U3):SM (ForInStep U3):=
 if c.2.2.2.2.1>1 then K1 a b c.2.2.2.1 c.2.1 c.2.2.1 c.2.2.2.2.2.1 c.2.2.2.2.2.2 (c.2.2.2.2.1-1)
 else K1 a b c.2.2.2.1 c.2.1 c.2.2.1 c.2.2.2.2.2.1 c.2.2.2.2.2.2 c.2.2.2.2.1
noncomputable def TT(n:Nat)(f1:Nat->U2->SM (ForInStep U2))(f2:U3->SM (ForInStep U3))(c:U1):SM (ForInStep U1):=do
 let d <-mU [0:n] ((ae,c.2.1,c.2.2.1,c.2.2.2.1,0,0):U2) λ_ d=>f1 c.2.2.2.2 d
 kz d.1 (λ_=>do
  oi "list.sort.gallop"
  let e <-mU [0:n] ((ae,d.2.1,d.2.2.1,d.2.2.2.1,c.2.2.2.2+1,d.2.2.2.2.1,d.2.2.2.2.2):U3) λ_ d=>f2 d
  kz e.1 (λ_=>do
   Jm (e.2.2.2.2.1+1)
   cD (.yield (ae,e.2.1,e.2.2.1,e.2.2.2.1,e.2.2.2.2.1+1))) λr=>cD<|.done (aa r,e.2.1,e.2.2.1,e.2.2.2.1,e.2.2.2.2.1)) λr=>cD<|.done (aa r,d.2.1,d.2.2.1,d.2.2.2.1,c.2.2.2.2)
def zY(a b:KA):U4 a b=(do
 oi "list.sort.merge-hi"
 let x <-gf a (a.size-1)
 if a.size-1 == 0 then return dh a b #[x] (a.size-1) b.size
 if b.size == 1 then return fh a b #[x] (a.size-1) b.size
 let τ <-get
 let c <-mU [0:a.size+b.size] ((ae,a.size-1,b.size,#[x],gallopOf τ):U1) λ_ c=>TT (a.size+b.size) (H1 a b) (H2 a b) c
 kz c.1 (λ_=>oU "internal:list.sort.merge-bound") λr=>cD r):=rfl
def Zaw{a:KA}{t i:Nat}:(a.extract t i).toList=(a.toList.take i).drop t:=by
 rw[iK,gh,List.drop_take]
noncomputable abbrev rv(a:KA)(i:Nat):List bZ:=(a.toList.take i).reverse
def Vk{a:KA}{i:Nat}(h:0<i)(h2:i<=a.size):rv a i=a[i-1]::rv a (i-1):=by
 obtain⟨k,rfl⟩:∃k,i=k+1:=#[i-1,by lia]
 show(a.toList.take<|k+1).reverse=_;rw[List.take_succ_eq_append_getElem (by rw[aM];exact h2),mK];rfl
def Zax{a:KA}{t i:Nat}(h:t<=i):rv a i=((a.toList.take i).drop t).reverse++rv a t:=by
 rw[<-mK];have:=cY t<|a.toList.take i;rw[pG,lT h]at this;rw[this]
section
variable{prog:bH}{w:bV}{A:cC}{E:aq->aA->Prop}{s:aA}{κ:gZ}{In:bZ->Prop}{rk:bZ->Nat}{a b:KA}{T:List bZ}
abbrev Hi(rk:bZ->Nat)(a b:KA)(T:List bZ)(o:KA)(i j:Nat):Prop:=ML (gr rk) T o.toList (rv a i)<|rv b j
structure Ih(rk:bZ->Nat)(a b:KA)(T:List bZ)(o:KA)(i j:Nat):Prop where
 m:Hi rk a b T o i j
 i0:0<i
 i1:i<=a.size
 j0:1<j
 j1:j<=b.size
 z:o.size+i+j=a.size+b.size
def Gb{l:List bZ}{r:KA}(h:l.Perm T/\Srt (gr rk) l)(e:r.toList=l.reverse):Res rk T r:=by
 unfold Res;rw[e];exact#[(fM l).trans h.1,fF.mpr h.2]
def ZcK(h:Hi rk a b T o i j)(hi:(i == 0)=ak):Res rk T (dh a b o i j):=by
 cases beq_iff_eq.mp hi;refine Gb (ML.fin h.swap) ?_;simp
def Zf0(h:Hi rk a b T o i j)(hj:(j == 0)=ak):Res rk T (dh a b o i j):=by
 cases beq_iff_eq.mp hj;refine Gb (ML.fin h) ?_;simp
def Jw(fs:∀x∈a.toList,∀y∈b.toList.take 1,rk y<rk x)(h:Hi rk a b T o i j)(hj:(j == 1)=ak):Res rk T (fh a b o i j):=by
 cases beq_iff_eq.mp hj;have:=(ML.as (by rw[cr];exact h) λx hx y hy=>fs x (dB<|dN.mp hx) y<|dN.mp hy).swap.fin
 refine Gb this ?_;simp
def jq(h:Hi rk a b T o i j)(i0:0<i)(i1:i<=a.size)(hx:∀y∈rv b j,rk y<rk a[i-1]):Hi rk a b T (o.push a[i-1]) (i-1) j:=by
 unfold Hi at h ⊢;rw[Vk i0 i1]at h;rw[fK];exact ML.as h λx hx' y hy'=>by rw[aY.mp hx'];exact hx y hy'
def Zc9(h:Hi rk a b T o i j)(j0:0<j)(j1:j<=b.size)(hx:∀y∈rv a i,rk y<rk b[j-1]):Hi rk a b T (o.push b[j-1]) i (j-1):=by
 unfold Hi at h ⊢;rw[Vk j0 j1]at h;rw[fK];exact ML.bs h λx hx' y hy'=>by rw[aY.mp hx'];exact hx y hy'
def wH{l:List bZ}{x y:bZ}(h:Srt (gr rk) (x::l))(hx:rk x<rk y):∀z∈x::l,rk z<rk y:=λz hz=>by
 rcases ay.mp hz with rfl|hz
 .exact hx
 .exact dE ((aZ.mp h).1 z hz) hx
theorem vJ(O:Od prog w A E s κ In rk){lf:Bool}{k:bZ}{ar:KA}{n:Nat}{τ:bU}{Q:Option Nat->bU->Prop}(hk:kindOf τ=κ)(ik:In k)(hn:0<n)(h1:n<=ar.size)(ia:∀x∈ar.toList,In x)(so:Srt (gr rk) (rv ar n))(ne:∀x∈rv ar n,rk x≠rk k)
  (hq:∀r,r<=n->(∀x∈rv ar r,rk x<rk k)->(∀x∈((ar.toList.take n).drop r).reverse,rk k<rk x)->Q (aa r) τ):l9 (aV prog w) A E s (Ys lf k ar 0 n<|n-1) Q τ:=by
 refine wl O hk ik (Nat.sub_lt hn Nat.one_pos) (by lia) ia (fF.mp so) (λx hx=>ne x<|dN.mpr hx) λr h2 h3 h4=>hq r h2 (λx hx=>h3 x ?_) λx hx=>h4 x<|dN.mp hx
 have hx:=dN.mp hx;rw[pG,lT h2];exact hx
def Uf{a:KA}{i:Nat}(i0:0<i)(i1:i<=a.size):a[i-1]∈rv a i:=by rw[Vk i0 i1];exact ao ..
def zD{a:KA}{i:Nat}{x:bZ}(h:x∈rv a i):x∈a.toList:=dB<|dN.mp h
section
variable(O:Od prog w A E s κ In rk)(G:Mg κ In rk a b T)(fs:∀x∈a.toList,∀y∈b.toList.take 1,rk y<rk x)
include O G fs
theorem ZeV{g ca cb:Nat}{r0:Option KA}{τ:bU}{Q:ForInStep U2->bU->Prop}(hk:kindOf τ=κ)(I:Ih rk a b T o i j)
  (hd:∀r c,Res rk T r->Q (.done (aa r,c)) τ)(hb:∀o' i' j' ca cb,Ih rk a b T o' i' j'->o'.size=o.size+1->Q (.done (ae,i',j',o',ca,cb)) τ/\Q (.yield (ae,i',j',o',ca,cb)) τ):l9 (aV prog w) A E s (H1 a b g (r0,i,j,o,ca,cb)) Q τ:=by
 obtain⟨m,i0,i1,j0,j1,z⟩:=I;have j0':=dZ j0;have hja:j-1<b.size:=by lia
 have hia:i-1<a.size:=by lia
 have ha:=Uf i0 i1;have hb':=Uf j0' j1;have sa:=m.sa;have sb:=m.sb;rw[Vk i0 i1]at sa;rw[Vk j0' j1]at sb;refine aI<|ZF (ZL hja)<|aI<|ZF (ZL hia)<|aI<|O.ask (G.ib _<|zD hb') (G.ia _<|zD ha) hk ?_;by_cases c:rk b[j-1]<rk a[i-1]
 .rw[T5 c]
  refine aI<|ZF (ZL hia) ?_;have m:=jq m i0 i1 (by rw[Vk j0' j1];exact wH sb c)
  have z':(o.push a[i-1]).size=o.size+1:=d6 ..;refine ZC (λq=>aU<|hd _ _<|ZcK m q) λq=>?_
  have q:i-1≠0:=λz=>q<|beq_iff_eq.mpr z
  have h:=hb _ _ _ (ca+1) 0 #[m,by lia,by lia,j0,j1,by lia] z'
  exact ZC (λ_=>aU h.1) λ_=>aU h.2
 .rw[T4 c]
  refine aI<|ZF (ZL hja) ?_;have c':=gG (fq c)<|m.ne G.nd ha hb';have m:=Zc9 m j0' j1 (by rw[Vk i0 i1];exact wH sa c')
  have z':(o.push b[j-1]).size=o.size+1:=d6 ..;refine ZC (λq=>aU<|hd _ _<|Jw fs m q) λq=>?_
  have q:j-1≠1:=λz=>q<|beq_iff_eq.mpr z
  have h:=hb _ _ _ 0 (cb+1) #[m,i0,i1,by lia,by lia,by lia] z'
  exact ZC (λ_=>aU h.1) λ_=>aU h.2
theorem Zdo{g ca cb:Nat}{τ:bU}(I:Ih rk a b T o i j)(hx:∀y∈rv b j,rk y<rk (a[i-1]'(by have:=I.i0;have:=I.i1;lia)))
  (hd:∀r c,Res rk T r->Q (.done (aa r,c)) τ)(hb:∀o' i' j' g ca cb,Ih rk a b T o' i' j'->o'.size=o.size+1->Q (.done (ae,i',j',o',g,ca,cb)) τ/\Q (.yield (ae,i',j',o',g,ca,cb)) τ):l9 (aV prog w) A E s (K3 a b g ca cb i o j) Q τ:=by
 obtain⟨m,i0,i1,j0,j1,z⟩:=I;refine aI<|ZF (ZL<|by lia) ?_
 have m:=jq m i0 i1 hx;have z':(o.push a[i-1]).size=o.size+1:=d6 ..;refine ZC (λq=>aU<|hd _ _<|ZcK m q) λq=>?_
 have q:i-1≠0:=λz=>q<|beq_iff_eq.mpr z
 have h:=hb _ _ _ g ca cb #[m,by lia,by lia,j0,j1,by lia] z'
 exact ZC (λ_=>aU h.1) λ_=>aU h.2
theorem Zdi{g ca cb:Nat}{τ:bU}(hk:kindOf τ=κ)(I:Ih rk a b T o i j)(hy:∀y∈rv a i,rk y<rk (b[j-1]'(by have:=I.j0;have:=I.j1;lia)))
  (hd:∀r c,Res rk T r->Q (.done (aa r,c)) τ)(hb:∀o' i' j' g ca cb,Ih rk a b T o' i' j'->o.size<o'.size->Q (.done (ae,i',j',o',g,ca,cb)) τ/\Q (.yield (ae,i',j',o',g,ca,cb)) τ):l9 (aV prog w) A E s (K2 a b g ca cb j o i) Q τ:=by
 obtain⟨m,i0,i1,j0,j1,z⟩:=I;refine aI<|ZF (ZL<|by lia) ?_
 have m:=Zc9 m (dZ j0) j1 hy;have z':(o.push b[j-1]).size=o.size+1:=d6 ..;refine ZC (λq=>aU<|hd _ _<|Jw fs m q) λq=>?_
 have q:j-1≠1:=λz=>q<|beq_iff_eq.mpr z
 have ha:=Uf i0 i1;refine aI<|ZF (ZL<|by lia)<|aI<|vJ O hk (G.ia _<|zD ha) (by lia) (by lia) G.ib m.sb (λy hy=>(m.ne G.nd ha hy).symm) λr hr h1 h2=>?_
 refine ZC (λc=>?_) λc=>?_
 .have m2:Hi rk a b T (o.push b[j-1]++(b.extract r<|j-1).reverse) i r:=by
   unfold Hi;rw[bX,mq,Zaw];refine ML.bs ?_ λy hy x hx=>?_
   .rw[<-Zax hr];exact m
   .have sa:=m.sa
    rw[Vk i0 i1]at sa hx;exact wH sa (h2 y hy) x hx
  have z2:(o.push b[j-1]++(b.extract r<|j-1).reverse).size=o.size+1+(j-1-r):=by rw[g7,z',nB,gH];lia
  refine ZC (λq=>aU<|hd _ _<|Jw fs m2 q) λq1=>ZC (λq=>aU<|hd _ _<|Zf0 m2 q) λq2=>?_
  have q1:r≠1:=λz=>q1<|beq_iff_eq.mpr z
  have q2:r≠0:=λz=>q2<|beq_iff_eq.mpr z
  exact Zdo O G fs #[m2,i0,i1,by lia,by lia,by lia] h1 hd λo' i' j' g ca cb I e=>hb o' i' j' g ca cb I (by lia)
 .have e:r=j-1:=by lia
  subst e;exact Zdo O G fs #[m,i0,i1,by lia,by lia,by lia] h1 hd λo' i' j' g ca cb I e=>hb o' i' j' g ca cb I (by lia)
theorem Zc5{g ca cb:Nat}{τ:bU}(hk:kindOf τ=κ)(I:Ih rk a b T o i j)
  (hd:∀r c st',Sg τ st'->Res rk T r->Q (.done (aa r,c)) st')(hb:∀o' i' j' g ca cb st',Sg τ st'->Ih rk a b T o' i' j'->o.size<o'.size->Q (.done (ae,i',j',o',g,ca,cb)) st'/\Q (.yield (ae,i',j',o',g,ca,cb)) st'):l9 (aV prog w) A E s (K1 a b o i j ca cb g) Q τ:=by
 obtain⟨m,i0,i1,j0,j1,z⟩:=I;have j0':=dZ j0;have hb':=Uf j0' j1;refine aI<|Uk λst' sg=>aI<|ZF (ZL<|by lia)<|aI<|vJ O (sg.1.trans hk) (G.ib _<|zD hb') i0 i1 G.ia m.sa (λx hx=>m.ne G.nd hx hb') λr hr h1 h2=>?_
 refine ZC (λc=>?_) λc=>?_
 .have m2:Hi rk a b T (o++(a.extract r i).reverse) r j:=by
   unfold Hi;rw[bX,mq,Zaw];refine ML.as ?_ λx hx y hy=>?_
   .rw[<-Zax hr];exact m
   .have sb:=m.sb
    rw[Vk j0' j1]at sb hy;exact wH sb (h2 x hx) y hy
  have z2:(o++(a.extract r i).reverse).size=o.size+(i-r):=by rw[g7,nB,gH];lia
  refine ZC (λq=>aU<|hd _ _ st' sg<|ZcK m2 q) λq=>?_
  have q:r≠0:=λz=>q<|beq_iff_eq.mpr z
  exact Zdi O G fs (sg.1.trans hk) #[m2,by lia,by lia,j0,j1,by lia] h1 (λr c=>hd r c st' sg) λo' i' j' g ca cb I e=>hb o' i' j' g ca cb st' sg I (by lia)
 .have e:r=i:=by lia
  subst e;exact Zdi O G fs (sg.1.trans hk) #[m,i0,i1,j0,j1,z] h1 (λr c=>hd r c st' sg) λo' i' j' g ca cb I e=>hb o' i' j' g ca cb st' sg I (by lia)
theorem Ze7{g ca cb:Nat}{r0:Option KA}{τ:bU}(hk:kindOf τ=κ)(I:Ih rk a b T o i j)
  (hd:∀r c st',Sg τ st'->Res rk T r->Q (.done (aa r,c)) st')(hb:∀o' i' j' g ca cb st',Sg τ st'->Ih rk a b T o' i' j'->o.size<o'.size->Q (.done (ae,i',j',o',g,ca,cb)) st'/\Q (.yield (ae,i',j',o',g,ca,cb)) st'):l9 (aV prog w) A E s (H2 a b (r0,i,j,o,g,ca,cb)) Q τ:=by
 exact ZC (λ_=>Zc5 O G fs hk I hd hb) λ_=>Zc5 O G fs hk I hd hb
theorem Zfv{g:Nat}{r0:Option KA}{τ:bU}{Q:ForInStep U1->bU->Prop}(hk:kindOf τ=κ)(I:Ih rk a b T o i j)
  (hd:∀r c st',Sg τ st'->Res rk T r->Q (.done (aa r,c)) st')(hy:∀o' i' j' g st',Sg τ st'->Ih rk a b T o' i' j'->o.size<o'.size->Q (.yield (ae,i',j',o',g)) st'):l9 (aV prog w) A E s (TT (a.size+b.size) (H1 a b) (H2 a b) (r0,i,j,o,g)) Q τ:=by
 refine aI (eV (cG
  (I:=λx (c:U2) st'=>st'=τ/\c.1=ae/\Ih rk a b T c.2.2.2.1 c.2.1 c.2.2.1/\o.size+x<=c.2.2.2.1.size)
  (Q:=λ(c:U2) st'=>st'=τ/\((∃r,c.1=aa r/\Res rk T r)\/c.1=ae/\Ih rk a b T c.2.2.2.1 c.2.1 c.2.2.1/\o.size<c.2.2.2.1.size)) ?_ ?_ #[rfl,rfl,I,aG _]) ?_)
 .rintro x ⟨r,i',j',o',ca,cb⟩ st' _ _ ⟨rfl,rfl,I',hz⟩
  exact ZeV O G fs hk I' (λr c h=>#[rfl,.inl #[r,rfl,h]]) λo2 i2 j2 ca cb I2 e=>#[#[rfl,.inr #[rfl,I2,by dsimp only at hz ⊢;lia]],rfl,rfl,I2,by dsimp only at hz ⊢;lia]
 .rintro ⟨r,i',j',o',ca,cb⟩ st' ⟨rfl,rfl,I',hz⟩
  have:=I'.i0;have:=I'.j0;have:=I'.z;lia
 .rintro ⟨r,i',j',o',ca,cb⟩ st' ⟨rfl,⟨r',rfl,h⟩|⟨rfl,I',hz⟩⟩
  .exact aU<|hd _ _ _ #[rfl,rfl,rfl,rfl] h
  .dsimp only at I' hz
   refine aI (Wo (aI (eV (cG
    (I:=λx (c:U3) st''=>Sg st' st''/\c.1=ae/\Ih rk a b T c.2.2.2.1 c.2.1 c.2.2.1/\o'.size+x<=c.2.2.2.1.size)
    (Q:=λ(c:U3) st''=>Sg st' st''/\((∃r,c.1=aa r/\Res rk T r)\/c.1=ae/\Ih rk a b T c.2.2.2.1 c.2.1 c.2.2.1/\o'.size<c.2.2.2.1.size)) ?_ ?_ #[#[rfl,rfl,rfl,rfl],rfl,I',aG _]) ?_)))
   .rintro x ⟨r,i2,j2,o2,g,ca,cb⟩ st2 _ _ ⟨sg,rfl,I2,hz2⟩
    dsimp only at I2 hz2
    exact Ze7 O G fs (sg.1.trans hk) I2 (λr c st3 s3 h=>#[sg.trans s3,.inl #[r,rfl,h]]) λo3 i3 j3 g ca cb st3 s3 I3 e=>#[#[sg.trans s3,.inr #[rfl,I3,by dsimp only;lia]],sg.trans s3,rfl,I3,by dsimp only;lia]
   .rintro ⟨r,i2,j2,o2,g,ca,cb⟩ st2 ⟨sg,rfl,I2,hz2⟩
    have:=I2.i0;have:=I2.j0;have:=I2.z;lia
   .rintro ⟨r,i2,j2,o2,g,ca,cb⟩ st2 ⟨sg,⟨r',rfl,h⟩|⟨rfl,I2,hz2⟩⟩
    .exact aU<|hd _ _ _ sg h
    .exact aI<|Uk λst3 s3=>aU<|hy _ _ _ _ _ (sg.trans s3) I2<|dE hz hz2
theorem yY{τ:bU}{Q:KA->bU->Prop}(hk:kindOf τ=κ)(ha:0<a.size)(hb:0<b.size)(sa:Srt (lr rk) a.toList)(sb:Srt (lr rk) b.toList)(hT:(a.toList++b.toList).Perm T)
  (hq:∀r st',Sg τ st'->Res rk T r->Q r st'):l9 (aV prog w) A E s (U4 a b) Q τ:=by
 rw[zY];refine aI<|Wo<|aI<|ZF (ZL<|by lia) ?_
 have ea:rv a a.size=a.toList.reverse:=by show(a.toList.take a.size).reverse=_;rw[<-aM,fY]
 have eb:rv b b.size=b.toList.reverse:=by show(b.toList.take b.size).reverse=_;rw[<-aM,fY]
 have m0:Hi rk a b T #[] a.size b.size:=by
  unfold Hi;rw[ea,eb];exact#[by simpa using((fM _).append<|fM _).trans hT,.nil,fF.mpr sa,fF.mpr sb,λx hx=>by cases hx]
 have m:=jq m0 ha (aG _) λy hy=>G.last y (zD hy) _ (by rw[Ya<|by lia];exact ao ..)
 have sg0:Sg τ τ:=#[rfl,rfl,rfl,rfl];refine ZC (λq=>aU<|hq _ _ sg0<|ZcK m q) λq1=>ZC (λq=>aU<|hq _ _ sg0<|Jw fs m q) λq2=>?_
 have q1:a.size-1≠0:=λz=>q1<|beq_iff_eq.mpr z
 have q2:b.size≠1:=λz=>q2<|beq_iff_eq.mpr z
 refine aI (g8 (aI (eV (cG
  (I:=λx (c:U1) st''=>Sg τ st''/\c.1=ae/\Ih rk a b T c.2.2.2.1 c.2.1 c.2.2.1/\x<=c.2.2.2.1.size)
  (Q:=λ(c:U1) st''=>Sg τ st''/\∃r,c.1=aa r/\Res rk T r) ?_ ?_ #[sg0,rfl,#[m,by dsimp only;lia,by dsimp only;lia,by dsimp only;lia,aG _,by show 1+(a.size-1)+b.size=_;lia],dQ _]) ?_)))
 .rintro x ⟨r,i,j,o,g⟩ st2 _ _ ⟨sg,rfl,I,hz⟩
  dsimp only at I hz
  exact Zfv O G fs (sg.1.trans hk) I (λr c st3 s3 h=>#[sg.trans s3,r,rfl,h]) λo3 i3 j3 g st3 s3 I3 e=>#[sg.trans s3,rfl,I3,by dsimp only;lia]
 .rintro ⟨r,i,j,o,g⟩ st2 ⟨sg,rfl,I,hz⟩
  have:=I.i0;have:=I.j0;have:=I.z;lia
 .rintro ⟨r,i,j,o,g⟩ st2 ⟨sg,r',rfl,h⟩
  exact aU<|hq _ _ sg h
end
end
noncomputable def Kr(rk:bZ->Nat)(xs:Array bZ)(i:Nat):Nat:=match xs[i]? with
 |some p=>rk p
 |none=>0
def Vi(h:xs[i]?=ys[j]?):Kr rk xs i=Kr rk ys j:=by unfold Kr;rw[h]
structure Sb(κ:gZ)(a₀:Array bZ)(P:Array (Nat×Nat×Nat))(lo:Nat)(L:List bZ)(τ:bU):Prop where
 kd:kindOf τ=κ
 pm:(bj τ).Perm a₀
 fl:gy τ=ae
 pd:bq τ=P
 ah:(bj τ).toList.take lo=L
def Up(rk:bZ->Nat)(xs:Array bZ)(lo m:Nat):Prop:=∀i j,lo<=i->i<j->j<lo+m->Kr rk xs i<Kr rk xs j
def Dn(rk:bZ->Nat)(xs:Array bZ)(lo m:Nat):Prop:=∀i j,lo<=i->i<j->j<lo+m->Kr rk xs j<Kr rk xs i
section
variable{κ:gZ}{a₀:Array bZ}{P:Array (Nat×Nat×Nat)}{lo:Nat}{L:List bZ}{τ:bU}{In:bZ->Prop}{rk:bZ->Nat}
theorem Sb.size(h:Sb κ a₀ P lo L τ):(bj τ).size=a₀.size:=h.pm.size_eq
def Sb.in(h:Sb κ a₀ P lo L τ)(ia:∀x∈a₀.toList,In x):∀x∈(bj τ).toList,In x:=λx hx=>ia x<|(bJ.mp h.pm).mem_iff.mp hx
def G5(hi:i<xs.size):Kr rk xs i=rk xs[i]:=by unfold Kr;rw[bO hi]
theorem Sb.ne(h:Sb κ a₀ P lo L τ)(nd:(a₀.toList.map rk).Nodup)(hi:i<a₀.size)(hj:j<a₀.size)(e:Kr rk (bj τ) i=Kr rk (bj τ) j):i=j:=by
 have hs:=h.size;have n:=(((bJ.mp h.pm).map rk).nodup_iff).mpr nd;have g:∀k,k<a₀.size->((bj τ).toList.map rk)[k]?=aa (Kr rk (bj τ) k):=λk hk=>by
  rw[aR,bC,bO (by lia),G5<|by lia];rfl
 exact(g9 (by rw[aw,aM];lia) n).mp (by rw[g i hi,g j hj,e])
def Sb.setA(h:Sb κ a₀ P lo L τ)(hp:xs.Perm (bj τ))(hf:∀k,k<lo->xs[k]?=(bj τ)[k]?):Sb κ a₀ P lo L (setArr τ xs):=
 #[h.kd,hp.trans h.pm,h.fl,h.pd,by
  rw[<-h.ah];refine cZ λk=>?_
  rw[cR,cR];split
  .rw[bC,bC];exact hf k ‹_›
  .rfl]
variable{prog:bH}{w:bV}{A:cC}{E:aq->aA->Prop}{s:aA}
theorem Jb(O:Od prog w A E s κ In rk)(h:Sb κ a₀ P lo L τ)(ia:∀x∈a₀.toList,In x){Q:Option Bool->bU->Prop}(hi:i<a₀.size)(hj:j<a₀.size)(q:Q (aa<|af<|Kr rk (bj τ) i<Kr rk (bj τ) j) τ):l9 (aV prog w) A E s (ltAt' i j) Q τ:=by
 have hs:=h.size;have m:∀k (hk:k<(bj τ).size),In (bj τ)[k]:=λk hk=>h.in ia _ (by simp)
 rw[ltAt'_eq];refine aI<|g8 ?_;refine aI<|ZF (ZL<|by lia)<|aI<|ZF (ZL<|by lia) ?_
 rw[G5 (by lia),G5<|by lia]at q
 exact O.ask (m i _) (m j _) h.kd q
theorem ZdY(xs:Array bZ):Up rk xs lo 1:=λi j a b c=>by lia
theorem Zcz(h1:1<=m)(u:Up rk xs lo m)(c:Kr rk xs (lo+m-1)<Kr rk xs (lo+m)):Up rk xs lo (m+1):=λi j a b d=>by
 by_cases z:j=lo+m
 .subst z
  by_cases y:i=lo+m-1
  .rw[y];exact c
  .exact dE (u i (lo+m-1) a (by lia)<|by lia) c
 .exact u i j a b (by lia)
theorem ZbF(h1:1<=m)(u:Dn rk xs lo m)(c:Kr rk xs (lo+m)<Kr rk xs (lo+m-1)):Dn rk xs lo (m+1):=λi j a b d=>by
 by_cases z:j=lo+m
 .subst z
  by_cases y:i=lo+m-1
  .rw[y];exact c
  .exact dE c<|u i (lo+m-1) a (by lia)<|by lia
 .exact u i j a b (by lia)
theorem jX(O:Od prog w A E s κ In rk)(ia:∀x∈a₀.toList,In x)(nd:(a₀.toList.map rk).Nodup){Q:AscSt->bU->Prop}
  (hF:∀i m (Q:ForInStep AscSt->bU->Prop),1<=m->m<nrem->(Kr rk (bj τ) (lo+m)<Kr rk (bj τ) (lo+m-1)->Q (.done (ae,m)) τ)->(¬Kr rk (bj τ) (lo+m)<Kr rk (bj τ) (lo+m-1)->Q (.yield (ae,m+1)) τ)->l9 (aV prog w) A E s (F i (ae,m)) Q τ)
  (hn:lo+nrem<=a₀.size)(h1:1<=n0)(hl:n0<=nrem)(hB:Sb κ a₀ P lo L τ)(u:Up rk (bj τ) lo n0)
  (q:∀m,n0<=m->m<=nrem->Up rk (bj τ) lo m->(m<nrem->Kr rk (bj τ) (lo+m)<Kr rk (bj τ) (lo+m-1))->Q (ae,m) τ):l9 (aV prog w) A E s (mU [n0:nrem] ((ae,n0):AscSt) F) Q τ:=by
 refine cG (I:=λi c st'=>st'=τ/\c=(ae,i)/\Up rk (bj τ) lo i) ?_ ?_ #[rfl,rfl,u]
 .rintro i c st' ha hb ⟨rfl,rfl,u⟩
  refine hF i i _ (by lia) hb (λc=>q i ha (by lia) u λ_=>c) λc=>#[rfl,rfl,Zcz (by lia) u ?_]
  have:Kr rk (bj st') (lo+i-1)≠Kr rk (bj st') (lo+i):=λe=>by
   have:=hB.ne nd (by lia) (by lia) e
   lia
  lia
 .rintro c st' ⟨rfl,rfl,u⟩
  have e:max n0 nrem=nrem:=by lia
  rw[e]at u ⊢;exact q nrem hl (aG _) u λz=>T7 z<|bS _
theorem qv(O:Od prog w A E s κ In rk)(ia:∀x∈a₀.toList,In x)(nd:(a₀.toList.map rk).Nodup){Q:Option Nat->bU->Prop}(hn:lo+nrem<=a₀.size)(h1:1<=nrem)(hB:Sb κ a₀ P lo L τ)
  (q:∀m st',Sb κ a₀ P lo L st'->1<=m->m<=nrem->Up rk (bj st') lo m->Q (aa m) st'):l9 (aV prog w) A E s (countRun' lo nrem) Q τ:=by
 rw[countRun'_eq];refine aI<|jX O ia nd (λi m Q a b k1 k2=>?_) hn (aG _) h1 hB (ZdY _) λm m1 m2 u c=>?_
 .refine aI (Jb O hB ia (by lia) (by lia) ?_)
  dsimp only
  split
  .exact aU<|k1<|T6 ‹_›
  .exact aU<|k2 λz=>‹¬_› (T5 z)
 dsimp only
 by_cases e:m=nrem
 .rw[T9<|by simpa using e]
  exact aU<|q m τ hB m1 m2 u
 rw[T8<|by simpa using e]
 by_cases c1:m>1
 .rw[T9 c1]
  refine aI<|Jb O hB ia (by lia) (by lia) ?_
  dsimp only
  rw[T9<|T5<|u lo (lo+m-1) (aG _) (by lia)<|by lia]
  exact aU<|q m τ hB m1 m2 u
 rw[T8 c1];obtain rfl:m=1:=by lia
 refine aI<|Wo ?_;have nl:∀i j,i<a₀.size->j<a₀.size->i≠j->¬Kr rk (bj τ) i<Kr rk (bj τ) j->Kr rk (bj τ) j<Kr rk (bj τ) i:=λi j hi hj ne c=>by
  have:Kr rk (bj τ) i≠Kr rk (bj τ) j:=λe=>ne<|hB.ne nd hi hj e
  lia
 have d2:Dn rk (bj τ) lo 2:=λi j a b d=>by
  obtain⟨rfl,rfl⟩:i=lo/\j=lo+1:=by lia
  exact c (by lia)
 refine aI<|eV (cG (I:=λi c st'=>st'=τ/\c=(ae,i,0)/\Dn rk (bj τ) lo i) (Q:=λc st'=>st'=τ/\∃i,c=(ae,i,0)/\2<=i/\i<=nrem/\Dn rk (bj τ) lo i) ?_ ?_ #[rfl,rfl,d2]) ?_
 .rintro i c st' ha hb ⟨rfl,rfl,u⟩
  dsimp only
  refine aI<|Jb O hB ia (by lia) (by lia) ?_
  dsimp only
  split
  .rw[T8<|bS 0]
   exact aU #[rfl,rfl,ZbF (by lia) u<|T6 ‹_›]
  .refine aI (Jb O hB ia (by lia) (by lia) ?_)
   dsimp only
   rw[T9<|T5<|nl (lo+i) (lo+i-1) (by lia) (by lia) (by lia) λz=>‹¬_› (T5 z)]
   exact aU #[rfl,i,rfl,by lia,by lia,u]
 .rintro c st' ⟨rfl,rfl,u⟩
  have e:max (1+1) nrem=nrem:=by lia
  rw[e]at u ⊢;exact#[rfl,nrem,rfl,by lia,aG _,u]
 .rintro c st' ⟨rfl,i,rfl,h2,hi,u⟩
  dsimp only
  rw[T8<|bS 0];refine aI<|wpS_reverse ?_;have hs:=hB.size;have gm:=λk=>getElem?_mirror_all (xs:=bj st') (i:=lo) (j:=lo+i) (by lia) k
  have hB2:=hB.setA (mirror_perm ..) λk hk=>by
   rw[gm k,T8<|by lia]
  have u2:Up rk (mirror (bj st') lo (lo+i)<|(lo+i-lo) / 2) lo i:=λa b h1 h2 h3=>by
   have e:∀k,lo<=k->k<lo+i->Kr rk (mirror (bj st') lo (lo+i)<|(lo+i-lo) / 2) k=Kr rk (bj st') (lo+(lo+i-1-k)):=λk ka kb=>Vi (by rw[gm k,T9 #[ka,kb]];congr 1;lia)
   rw[e a h1 (by lia),e b (by lia) h3]
   exact u _ _ (by lia) (by lia) (by lia)
  refine aI<|jX O ia nd (λi m Q a b k1 k2=>?_) hn (by lia) hi hB2 u2 λm m1 m2 u c=>?_
  .refine aI (Jb O hB2 ia (by dsimp only;lia) (by dsimp only;lia) ?_)
   dsimp only
   split
   .exact aU<|k1<|T6 ‹_›
   .exact aU<|k2 λz=>‹¬_› (T5 z)
  .exact aU<|q m _ hB2 (by lia) m2 u
theorem ZbJ(O:Od prog w A E s κ In rk)(ia:∀x∈a₀.toList,In x)(nd:(a₀.toList.map rk).Nodup){Q:Bool->bU->Prop}(hn:lo+n<=a₀.size)(h1:1<=ok)(hok:ok<=n)(hB:Sb κ a₀ P lo L τ)(u:Up rk (bj τ) lo ok)
  (q:∀st',Sb κ a₀ P lo L st'->Up rk (bj st') lo n->Q ak st'):l9 (aV prog w) A E s (binarySort' lo n ok) Q τ:=by
 rw[binarySort'_eq];refine aI<|eV (cG (I:=λk c st'=>c=(ae,())/\Sb κ a₀ P lo L st'/\Up rk (bj st') lo k) (Q:=λc st'=>c=(ae,())/\Sb κ a₀ P lo L st'/\Up rk (bj st') lo n) ?_ ?_ #[rfl,hB,by rw[Nat.max_eq_left h1];exact u]) ?_
 .rintro k c st' ha hb ⟨rfl,B,u⟩
  have hs:=B.size;refine aI (eV (cG (I:=λx c st2=>st2=st'/\∃l r,c=(ae,l,r)/\l<=r/\r<=k/\r-l<=k-x/\(∀i,i<l->Kr rk (bj st') (lo+i)<Kr rk (bj st') (lo+k))/\∀i,r<=i->i<k->Kr rk (bj st') (lo+k)<Kr rk (bj st') (lo+i))
   (Q:=λc st2=>st2=st'/\∃l r,c=(ae,l,r)/\l<=k/\(∀i,i<l->Kr rk (bj st') (lo+i)<Kr rk (bj st') (lo+k))/\∀i,l<=i->i<k->Kr rk (bj st') (lo+k)<Kr rk (bj st') (lo+i)) ?_ ?_ #[rfl,0,k,rfl,by lia,by lia,by lia,λi hi=>by lia,λi a b=>by lia]) ?_)
  .rintro x c st2 _ hx ⟨rfl,l,r,rfl,g1,g2,g3,g4,g5⟩
   dsimp only
   by_cases c:l>=r
   .rw[T9 c]
    exact aU #[rfl,l,r,rfl,by lia,g4,λi a b=>g5 i (by lia) b]
   .rw[T8 c]
    refine aI<|Jb O B ia (by lia) (by lia) ?_
    dsimp only
    split
    .have cm:=T6 ‹_›
     refine aU #[rfl,l,(l+r) / 2,rfl,by lia,by lia,by lia,g4,λi a b=>?_]
     by_cases y:i=(l+r) / 2
     .rw[y];exact cm
     .exact dE cm<|u _ _ (by lia) (by lia)<|by lia
    .have cm:Kr rk (bj st2) (lo+(l+r) / 2)<Kr rk (bj st2) (lo+k):=by
      have z:¬Kr rk (bj st2) (lo+k)<Kr rk (bj st2) (lo+(l+r) / 2):=λz=>‹¬_› (T5 z)
      have:Kr rk (bj st2) (lo+k)≠Kr rk (bj st2) (lo+(l+r) / 2):=λe=>by
       have:=B.ne nd (by lia) (by lia) e
       lia
      lia
     refine aU #[rfl,(l+r) / 2+1,r,rfl,by lia,by lia,by lia,λi a=>?_,g5]
     by_cases y:i=(l+r) / 2
     .rw[y];exact cm
     .exact dE (u _ _ (by lia) (by lia)<|by lia) cm
  .rintro c st2 ⟨rfl,l,r,rfl,g1,g2,g3,g4,g5⟩
   exact#[rfl,l,r,rfl,by lia,g4,λi a b=>g5 i (by lia) b]
  .rintro c st2 ⟨rfl,l,r,rfl,g2,g4,g5⟩
   dsimp only
   rw[moveDown'_eq];refine aI<|fz<|aU ?_;have gb:=λi=>getElem?_bubble (xs:=bj st2) (src:=lo+k) (by lia) (lo+k-(lo+l)) (by lia) i
   have e1:lo+k-(lo+k-(lo+l))=lo+l:=by lia
   rw[e1]at gb;refine#[rfl,B.setA (bubble_perm ..) λi hi=>?_,λi j a b d=>?_]
   .rw[gb i,T8 (by lia),T8<|by lia]
   .have e:∀i,Kr rk (bubble (bj st2) (lo+k)<|lo+k-(lo+l)) i=if i=lo+l then Kr rk (bj st2) (lo+k)else if lo+l<i/\i<=lo+k then Kr rk (bj st2) (i-1)else Kr rk (bj st2) i:=λi=>by
     have h:=gb i;split at h
     .rw[T9 ‹_›];exact Vi h
     .rw[T8 ‹_›]
      split at h
      .rw[T9 ‹_›];exact Vi h
      .rw[T8 ‹_›];exact Vi h
    rw[e i,e j];have low:∀x,lo<=x->x<lo+l->Kr rk (bj st2) x<Kr rk (bj st2) (lo+k):=λx a b=>by
     have:=g4 (x-lo) (by lia)
     rwa [show lo+(x-lo)=x by lia]at this
    have high:∀x,lo+l<=x->x<lo+k->Kr rk (bj st2) (lo+k)<Kr rk (bj st2) x:=λx a b=>by
     have:=g5 (x-lo) (by lia) (by lia)
     rwa [show lo+(x-lo)=x by lia]at this
    by_cases ci:i=lo+l
    .rw[T9 ci,T8 (by lia),T9<|by lia]
     exact high _ (by lia) (by lia)
    .rw[T8 ci]
     by_cases cj:j=lo+l
     .rw[T9 cj,T8<|by lia]
      exact low _ a (by lia)
     .rw[T8 cj]
      by_cases di:lo+l<i/\i<=lo+k
      .rw[T9 di,T9<|by lia];exact u _ _ (by lia) (by lia) (by lia)
      .rw[T8 di]
       by_cases dj:lo+l<j/\j<=lo+k
       .rw[T9 dj]
        by_cases z:i=j-1
        .lia
        .exact u _ _ a (by lia) (by lia)
       .rw[T8 dj];exact u _ _ a b (by lia)
 .rintro c st' ⟨rfl,B,u⟩
  have e:max (max ok 1) n=n:=by lia
  rw[e]at u;exact#[rfl,B,u]
 .rintro c st' ⟨rfl,B,u⟩
  exact aU<|q st' B u
end
def G8(i:Nat):mergeAt' i=(do
 let t <-get
 let (aa (ia,ma,pw),aa (ib,mb,_)):=((bq t)[i]?,(bq t)[i+1]?)|unsupported "internal:list.sort.pending"
 set (iB t<|((bq t).setIfInBounds i (ia,ma+mb,pw)).eraseIdxIfInBounds<|i+1)
 let aa r <-Ys ai (<-gf (bj t) ib) (bj t) ia ma 0|return ai
 let (ja,la):=(ia+r,ma-r)
 if la == 0 then return ak
 let aa lb <-Ys ak (<-gf (bj t) (ja+la-1)) (bj t) ib mb (mb-1)|return ai
 if lb == 0 then return ak
 let u:=(bj t).extract ja ib
 let v:=(bj t).extract ib<|ib+lb
 let mg <-if la<=lb then U6 u v else U4 u v
 modify λt=>setArr t<|mg.toList.zipIdx.foldl (λa (p,j)=>a.setIfInBounds (ja+j) p)<|bj t
 return (gy<|<-get).isNone):=rfl
theorem GW(b:Nat):∀(m:List bZ)(j:Nat)(a:Array bZ),b+j+m.length<=a.size->((m.zipIdx j).foldl (λa q=>a.setIfInBounds (b+q.2) q.1) a).toList=a.toList.take (b+j)++m++a.toList.drop (b+j+m.length)
 |[],j,a,h=>by simp
 |x::r,j,a,h=>by
  rw[aJ]at h;rw[lq,d4,GW b r (j+1) _<|by rw[Array.size_setIfInBounds];lia]
  dsimp only
  rw[kB,aJ,<-kY b j 1,nS,List.take_set_of_le<|aG _,bg (by simpa using(by lia:b+j<a.size)),List.drop_set_of_lt<|by lia]
  simp[kY,ke 1]
def Runs(rk:bZ->Nat):List (Nat×Nat)->Nat->Nat->List bZ->Prop
 |[],a,b,_=>a=b
 |(i,n)::r,a,b,l=>i=a/\1<=n/\Srt (lr rk) ((l.drop a).take n)/\Runs rk r (a+n) b l
section
theorem Runs.le:∀{r:List (Nat×Nat)}{a b:Nat}{l:List bZ},Runs rk r a b l->a+r.length<=b
 |[],a,b,l,h=>nU h
 |(i,n)::r,a,b,l,#[_,h1,_,h]=>by have:=h.le;rw[aJ];lia
theorem Runs.app:∀{r q:List (Nat×Nat)}{a b:Nat}{l:List bZ},Runs rk (r++q) a b l↔∃c,Runs rk r a c l/\Runs rk q c b l
 |[],q,a,b,l=>#[λh=>#[a,rfl,h],λ#[c,h1,h2]=>by cases h1;exact h2]
 |(i,n)::r,q,a,b,l=>by
  constructor
  .rintro ⟨h1,h2,h3,h4⟩
   obtain⟨c,h5,h6⟩:=Runs.app.mp h4;exact#[c,#[h1,h2,h3,h5],h6]
  .rintro ⟨c,⟨h1,h2,h3,h4⟩,h5⟩
   exact#[h1,h2,h3,Runs.app.mpr #[c,h4,h5]]
theorem Runs.congr:∀{r:List (Nat×Nat)}{a b:Nat}{l l':List bZ},Runs rk r a b l->(∀k,a<=k->k<b->l'[k]?=l[k]?)->Runs rk r a b l'
 |[],a,b,l,l',h,_=>h
 |(i,n)::r,a,b,l,l',#[h1,h2,h3,h4],e=>by
  have:=h4.le;refine#[h1,h2,?_,h4.congr λk ha hb=>e k (by lia) hb]
  have:(l'.drop a).take n=(l.drop a).take n:=cZ λk=>by
   rw[cR,cR,fA,fA];split
   .exact e _ (by lia) (by lia)
   .rfl
  rw[this];exact h3
def JF(hx:Srt (lr rk) x)(hy:Srt (lr rk) y)(h:∀a∈x,∀b∈y,rk a<rk b):Srt (lr rk) (x++y):=dS.mpr #[hx,hy,h]
structure Sc(κ:gZ)(a₀:Array bZ)(τ:bU):Prop where
 kd:kindOf τ=κ
 pm:(bj τ).Perm a₀
 fl:gy τ=ae
variable{In:bZ->Prop}
theorem xC(O:Od prog w A E s κ In rk)(ia:∀x∈a₀.toList,In x)(nd:(a₀.toList.map rk).Nodup){Q:Bool->bU->Prop}(h:Sc κ a₀ τ)(h1:(bq τ)[i]?=aa (a,na,pw))(h2:(bq τ)[i+1]?=aa (a+na,nb,qw))
  (hl:(bj τ).toList=U++(X++(Y++Z)))(lU:U.length=a)(lX:X.length=na)(lY:Y.length=nb)(xa:1<=na)(yb:1<=nb)(sx:Srt (lr rk) X)(sy:Srt (lr rk) Y)
  (q:∀st' M,Sc κ a₀ st'->bq st'=((bq τ).setIfInBounds i (a,na+nb,pw)).eraseIdxIfInBounds (i+1)->(bj st').toList=U++(M++Z)->M.length=na+nb->Srt (lr rk) M->Q ak st'):l9 (aV prog w) A E s (mergeAt' i) Q τ:=by
 have hp:=bJ.mp h.pm;have ial:=λx hx=>ia x<|hp.mem_iff.mp hx
 have ndl:=((hp.map rk).nodup_iff).mpr nd;have hsz:(bj τ).size=a+(na+(nb+Z.length)):=by rw[<-aM,hl];simp[lU,lX,lY]
 have dX:((bj τ).toList.drop a).take na=X:=by rw[hl,<-lU,kC,<-lX,kD]
 have dY:((bj τ).toList.drop<|a+na).take nb=Y:=by rw[hl,<-bL,<-lU,<-lX,<-aX,kC,<-lY,kD]
 have ndXY:∀x∈X,∀y∈Y,rk x≠rk y:=λx hx y hy e=>by
  rw[hl,bM,gY,bM,gY]at ndl;exact ndl.2.1.2.2 _ (gp hx) _ (by rw[bM];exact cL _<|gp hy) e
 have inX:∀x∈X,In x:=λx hx=>ial x (by rw[hl];simp[hx])
 have inY:∀y∈Y,In y:=λy hy=>ial y (by rw[hl];simp[hy])
 obtain⟨y0,Y',rfl⟩:∃y0 Y',Y=y0::Y':=by cases Y with|nil=>simp at lY;lia|cons y Y'=>exact#[y,Y',rfl]
 have e0:(bj τ)[a+na]?=aa y0:=by
  rw[<-bC,hl,<-bL,bx<|by simp;lia]
  simp[lU,lX]
 rw[G8];refine aI<|g8 ?_;rw[h1,h2]
 dsimp only
 refine aI<|fz ?_
 generalize hst:iB τ (((bq τ).setIfInBounds i (a,na+nb,pw)).eraseIdxIfInBounds<|i+1)=st1;have S1:Sc κ a₀ st1:=by rw[<-hst];exact#[h.kd,h.pm,h.fl]
 have P1:bq st1=((bq τ).setIfInBounds i (a,na+nb,pw)).eraseIdxIfInBounds (i+1):=by rw[<-hst]
 have A1:bj st1=bj τ:=by rw[<-hst]
 refine aI<|ZF e0<|aI<|wl O S1.kd (inY y0<|ao ..) xa (by lia) ial (by rw[dX];exact sx) (by rw[dX];exact λx hx=>ndXY x hx y0<|ao ..) λr hr r1 r2=>?_
 rw[dX]at r1 r2
 dsimp only
 have lowY:∀x∈X.take r,∀y∈y0::Y',rk x<rk y:=λx hx y hy=>by
  rcases ay.mp hy with rfl|hy
  .exact r1 x hx
  .exact dE (r1 x hx)<|(aZ.mp sy).1 y hy
 by_cases c:na-r=0
 .rw[T9<|by simpa using c]
  have:X.take r=X:=cQ (by lia)
  rw[this]at lowY;exact aU<|q st1 (X++y0::Y') S1 P1 (by rw[A1,hl,bL]) (by rw[aX,lX,lY])<|JF sx sy lowY
 rw[T8<|by simpa using c]
 have exl:(bj τ)[a+r+(na-r)-1]?=X[na-1]?:=by
  rw[<-bC,hl,bx (by lia),bN<|by lia]
  congr 1;lia
 have xl:X[na-1]?=aa (X[na-1]'(by lia)):=ag _
 generalize hx0:X[na-1]'(by lia)=x0 at xl
 have mx0:x0∈X:=cM xl;have mx1:x0∈X.drop r:=cM (i:=na-1-r) (by rw[fA];rw[<-xl];congr 1;lia)
 have maxX:∀x∈X,x=x0\/rk x<rk x0:=λx hx=>by
  obtain⟨k,hk,rfl⟩:=mr.mp hx;by_cases z:k=na-1
  .subst z;exact .inl hx0
  .right;rw[<-hx0];exact bW.mp sx k (na-1) hk (by lia) (by lia)
 refine aI<|ZF (exl.trans xl)<|aI<|wl O S1.kd (inX x0 mx0) (by lia) (by lia) ial (by rw[dY];exact sy) (by rw[dY];exact λy hy=>Ne.symm<|ndXY x0 mx0 y hy) λt ht t1 t2=>?_
 rw[dY]at t1 t2
 dsimp only
 have t0:t≠0:=λz=>by
  subst z;have a1:=r2 x0 mx1;have a2:=t2 y0<|ao ..;lia
 rw[T8<|by simpa using t0]
 generalize hY:y0::Y'=Y at *;have eu:((bj τ).extract (a+r)<|a+na).toList=X.drop r:=by
  have:a+na=(a+r)+(na-r):=by lia
  rw[this,wA,<-kA,hl,<-lU,kC,iL<|by lia]
  rw[show na-r=(X.drop r).length by rw[bF,lX],kD]
 have ev:((bj τ).extract (a+na)<|a+na+t).toList=Y.take t:=by
  rw[wA,hl,<-bL,<-lU,<-lX,<-aX,kC,iM<|by lia]
 generalize hu:(bj τ).extract (a+r) (a+na)=u at *;generalize hv:(bj τ).extract (a+na) (a+na+t)=v at *;have ul:u.size=na-r:=by rw[<-aM,eu,bF,lX]
 have vl:v.size=t:=by rw[<-aM,ev,bE,lY];lia
 have su:Srt (lr rk) u.toList:=by rw[eu];exact sx.sublist<|List.drop_sublist ..
 have sv:Srt (lr rk) v.toList:=by rw[ev];exact sy.sublist<|kM ..
 have v0:∀x∈u.toList,rk (v[0]'(by lia))<rk x:=λx hx=>by
  have:v.toList[0]?=aa y0:=by
   rw[ev,<-hY];obtain⟨t',rfl⟩:∃t',t=t'+1:=#[t-1,by lia]
   rfl
  have e:v[0]'(by lia)=y0:=by
   rw[bC,bO<|by lia]at this
   exact am this
  rw[e];exact r2 x (by rw[<-eu];exact hx)
 have G:Mg κ In rk u v (u.toList++v.toList):=by
  refine#[?_,λx hx=>inX x<|cg<|eu▸hx,λy hy=>inY y<|dB<|ev▸hy,λy hy x hx=>?_]
  .rw[bM,gY]
   have nx:∀{z:List bZ},Srt (lr rk) z->(z.map rk).Nodup:=λ{z} hz=>dF.mpr<|hz.imp λhab=>bD hab
   refine#[nx su,nx sv,λp hp p' hp' e=>?_]
   obtain⟨x,hx,rfl⟩:=aT.mp hp;obtain⟨y,hy,rfl⟩:=aT.mp hp';exact ndXY x (cg<|eu▸hx) y (dB<|ev▸hy) e
  .have hx:x=x0:=by
    rw[eu,ul,kA,show r+(na-r-1)=na-1 by lia,cq (by lia),show na-1+1=X.length by lia,eC,aY]at hx
    rw[hx];exact hx0
   rw[hx];exact t1 y (by rw[<-ev];exact hy)
 have fin:∀r' st',Sg st1 st'->Res rk (u.toList++v.toList) r'->l9 (aV prog w) A E s (do
   modify λt=>setArr t<|r'.toList.zipIdx.foldl (λz (p,j)=>z.setIfInBounds (a+r+j) p)<|bj t
   return (gy<|<-get).isNone) Q st':=λr' st' sg hr'=>by
  obtain⟨g1,g2,g3,g4⟩:=sg;obtain⟨k1,k2⟩:=hr';have rl:r'.toList.length=(na-r)+t:=by rw[k1.length_eq,aX,aM,aM,ul,vl]
  refine aI<|fz<|aI<|g8<|aU ?_;have fo:=GW (a+r) r'.toList 0 (bj τ) (by lia)
  have el:((r'.toList.zipIdx.foldl (λz (q:bZ×Nat)=>z.setIfInBounds (a+r+q.2) q.1)<|bj τ).toList)=U++((X.take r++(r'.toList++Y.drop t))++Z):=by
   rw[fo,Nat.add_zero,hl,<-lU,List.take_append,oD,rl];have e1:U.length+r-U.length=r:=by lia
   have e2:U.length+r+(na-r+t)-U.length=na+t:=by lia
   rw[e1,e2,cQ (by lia),lO (by lia),eN,iM (by lia),<-lX,oD,lO (by lia),eN,show X.length+t-X.length=t by lia,iL<|by lia]
   simp[bL]
  have hX:X.take r++X.drop r=X:=cY ..;have hYt:Y.take t++Y.drop t=Y:=cY ..;have pM:(X.take r++(r'.toList++Y.drop t)).Perm (X++Y):=by
   rw[eu,ev]at k1;have:(X.take r++(r'.toList++Y.drop t)).Perm (X.take r++((X.drop r++Y.take t)++Y.drop t)):=(k1.append_right _).append_left _;refine this.trans<|lV ?_;rw[bL<|X.drop r,hYt,<-bL,hX]
  rw[g4,S1.fl];refine q (setArr st'<|r'.toList.zipIdx.foldl (λz (q:bZ×Nat)=>z.setIfInBounds (a+r+q.2) q.1)<|bj st') (X.take r++(r'.toList++Y.drop t)) #[g1.trans S1.kd,?_,g4.trans S1.fl] (g3.trans P1) (by rw[<-el,<-A1,<-g2]) (by rw[pM.length_eq,aX,lX,lY]) ?_
  .refine(bJ.mpr ?_).trans h.pm
   rw[g2,A1,el,hl,<-bL X Y Z];exact(pM.append_right _).append_left _
  .have memR:∀z∈r'.toList,z∈X.drop r\/z∈Y.take t:=λz hz=>by
    have:=k1.mem_iff.mp hz;rw[eu,ev]at this;exact bK.mp this
   have sX:=dS.mp<|hX.symm▸sx;have sY:=dS.mp<|hYt.symm▸sy;refine JF sX.1 (JF k2 sY.2.1 λp hp y hy=>?_) λx hx z hz=>?_
   .rcases memR p hp with m|m
    .have:=t2 y hy
     rcases maxX p (cg m)with rfl|m
     .exact this
     .exact dE m this
    .exact sY.2.2 p m y hy
   .rcases bK.mp hz with m|m
    .rcases memR z m with m|m
     .exact sX.2.2 x hx z m
     .exact lowY x hx z<|dB m
    .exact lowY x hx z<|cg m
 by_cases cl:na-r<=t
 .rw[T9 cl]
  exact aI<|yQ O G S1.kd (by lia) (by lia) su sv (cK _) v0 λr' st' sg hr'=>fin r' st' sg hr'
 .rw[T8 cl]
  have fs:∀x∈u.toList,∀y∈v.toList.take 1,rk y<rk x:=λx hx y hy=>by
   have e:=Ya (a:=v) (i:=0) (by lia)
   rw[ky]at e;rw[e]at hy;rw[aY.mp hy];exact v0 x hx
  exact aI<|yY O G fs S1.kd (by lia) (by lia) su sv (cK _) λr' st' sg hr'=>fin r' st' sg hr'
end
section
variable{In:bZ->Prop}
noncomputable abbrev g2(q:Nat×Nat×Nat):Nat×Nat:=(q.1,q.2.1)
noncomputable def pl(τ:bU):List (Nat×Nat):=(bq τ).toList.map g2
def cut2{α:Type}{l:List α}{i:Nat}{x y:α}(h1:l[i]?=aa x)(h2:l[i+1]?=aa y):l=l.take i++(x::y::l.drop (i+2)):=by
 obtain⟨a,e1⟩:=aE.mp h1;obtain⟨b,e2⟩:=aE.mp h2
 conv=>lhs;rw[<-cY i l,cq a,cq b,e1,e2]
theorem WH(O:Od prog w A E s κ In rk)(ia:∀x∈a₀.toList,In x)(nd:(a₀.toList.map rk).Nodup){Q:Bool->bU->Prop}{i b:Nat}{R3:List (Nat×Nat)}(h:Sc κ a₀ τ)(hi:i+1<(bq τ).size)(hb:b<=a₀.size)(hr:Runs rk (pl τ++R3) 0 b (bj τ).toList)
  (q:∀st',Sc κ a₀ st'->(bq st').size=(bq τ).size-1->Runs rk (pl st'++R3) 0 b (bj st').toList->Q ak st'):l9 (aV prog w) A E s (mergeAt' i) Q τ:=by
 obtain⟨⟨a,na,pw⟩,h1⟩:∃x,(bq τ)[i]?=aa x:=#[_,bO<|by lia]
 obtain⟨⟨b1,nb,qw⟩,h2⟩:∃x,(bq τ)[i+1]?=aa x:=#[_,bO hi];have e:=cut2 (by rw[bC];exact h1) (by rw[bC];exact h2)
 generalize hA:(bq τ).toList.take i=RA at e;generalize hC:(bq τ).toList.drop (i+2)=RC at e;have lA:RA.length=i:=by rw[<-hA,bE,aM];lia
 unfold pl at hr;rw[e,bM,bL]at hr;obtain⟨c,r1,r2⟩:=Runs.app.mp hr;obtain⟨z1,n1,s1,z2,n2,s2,r3⟩:=r2
 dsimp only[g2]at z1 n1 s1 z2 n2 s2 r3
 subst z1 z2;have hle:=r3.le;have hsz:(bj τ).toList.length=a₀.size:=by rw[aM];exact h.pm.size_eq
 generalize hl:(bj τ).toList=l at *;have el:l=l.take a++((l.drop a).take na++((l.drop<|a+na).take nb++l.drop (a+na+nb))):=by
  rw[td,td,cY]
 have lU:(l.take a).length=a:=by rw[bE];lia
 refine xC O ia nd h h1 h2 (hl.trans el) lU (by rw[bE,bF];lia) (by rw[bE,bF];lia) n1 n2 s1 s2 λst' M S' hp' hl' lM sM=>?_
 have hpl:(bq st').toList=RA++((a,na+nb,pw)::RC):=by
  rw[hp',Array.toList_eraseIdxIfInBounds,kB,e,List.set_append_right _ _ (by lia),lA,Nat.sub_self]
  rw[List.eraseIdx_append_of_length_le (by lia),lA,show i+1-i=1 by lia]
  rfl
 refine q st' S' ?_ ?_
 .rw[<-aM,hpl,<-aM,e]
  simp
 .have at_:∀k,(k<a\/a+na+nb<=k)->(bj st').toList[k]?=l[k]?:=λk hk=>by
   rw[hl']
   conv=>rhs;rw[el]
   rcases hk with hk|hk
   .rw[bN (by lia),bN<|by lia]
   .rw[bx (by lia),bx (by lia),bx (by lia),<-bL,bx<|by simp;lia]
    congr 1
    simp;lia
  unfold pl;rw[hpl,bM,bL];refine Runs.app.mpr #[a,r1.congr λk _ hk=>at_ k<|.inl hk,rfl,by dsimp only[g2];lia,?_,?_]
  .rw[hl',<-lM,List.drop_left' lU,kD];exact sM
  .rw[<-kY];exact r3.congr λk hk _=>at_ k<|.inr hk
theorem Zak{lo n:Nat}{xs:Array bZ}(hn:lo+n<=xs.size)(u:Up rk xs lo n):Srt (lr rk) ((xs.toList.drop lo).take n):=by
 refine bW.mpr λi j hi hj hij=>?_
 rw[bE,bF,aM]at hi hj;have g:∀k (hk:k<((xs.toList.drop lo).take n).length),((xs.toList.drop lo).take n)[k]=xs[lo+k]'(by rw[bE,bF,aM]at hk;lia):=λk hk=>by
  rw[fI,fJ,Array.getElem_toList]
 rw[g,g];have:=u (lo+i) (lo+j) (by lia) (by lia) (by lia)
 rw[G5 (by lia),G5<|by lia]at this
 exact this
def Jp{P:Array (Nat×Nat×Nat)}{k pw:Nat}:(P.modify k λq=>(q.1,q.2.1,pw)).toList.map g2=P.toList.map g2:=by
 refine cZ λi=>?_
 rw[aR,aR,bC,bC,Array.getElem?_modify];split
 .cases P[i]?<;>rfl
 .rfl
theorem sort_ok(O:Od prog w A E s κ In rk)(ia:∀x∈a₀.toList,In x)(nd:(a₀.toList.map rk).Nodup){Q:Unit->bU->Prop}(hk:kindOf τ=κ)(ha:bj τ=a₀)(hp:bq τ = #[])(hf:gy τ=ae)(h1:1<=a₀.size)
  (q:∀st',(bj st').Perm a₀->gy st'=ae->Srt (lr rk) (bj st').toList->Q () st'):l9 (aV prog w) A E s sortRuns' Q τ:=by
 rw[sortRuns'_eq];refine aI<|g8 ?_;rw[ha]
 dsimp only
 have S0:Sc κ a₀ τ:=#[hk,by rw[ha],hf]
 refine aI (eV (cG
  (I:=λx c st'=>∃lo,c=(ae,lo)/\x<=lo/\lo<=a₀.size/\Sc κ a₀ st'/\Runs rk (pl st') 0 lo (bj st').toList)
  (Q:=λc st'=>c=(ae,a₀.size)/\Sc κ a₀ st'/\Runs rk (pl st') 0 a₀.size (bj st').toList) ?_ ?_ #[0,rfl,aG _,dQ _,S0,by unfold pl;rw[hp];rfl]) ?_)
 .rintro x c st1 _ hx ⟨lo,rfl,g1,g2',S1,R1⟩
  dsimp only
  by_cases c:lo>=a₀.size
  .rw[T9 c]
   obtain rfl:lo=a₀.size:=by lia
   exact aU #[rfl,S1,R1]
  rw[T8 c];have B1:Sb κ a₀ (bq st1) lo ((bj st1).toList.take lo) st1:=#[S1.kd,S1.pm,S1.fl,rfl,rfl];refine aI<|qv O ia nd (by lia) (by lia) B1 λm st2 B2 m1 m2 u2=>?_
  dsimp only
  have done:∀n st3,1<=n->lo+n<=a₀.size->Sc κ a₀ st3->Runs rk (pl st3++[(lo,n)]) 0 (lo+n) (bj st3).toList->∃lo',((ae,lo+n):Option PUnit×Nat)=(ae,lo')/\x+1<=lo'/\lo'<=a₀.size/\Sc κ a₀ (iB st3<|(bq st3).push (lo,n,0))/\Runs rk (pl<|iB st3<|(bq st3).push (lo,n,0)) 0 lo' (bj st3).toList:=λn st3 n1 n2 S3 R3=>
   #[lo+n,rfl,by lia,n2,#[S3.kd,S3.pm,S3.fl],by
    have:pl (iB st3<|(bq st3).push (lo,n,0))=pl st3++[(lo,n)]:=by
     show mv g2 ((bq st3).push (lo,n,0)).toList=_;rw[fK,bM];rfl
    rw[this];exact R3]
  by_cases c2:m<pb a₀.size a₀.size 0
  .rw[T9 c2]
   refine aI<|Wo<|aI<|ZbJ (n:=pS (a₀.size-lo)<|pb a₀.size a₀.size 0) O ia nd (by lia) m1 (by lia) B2 u2 λst5 B u=>?_
   have n1:1<=pS (a₀.size-lo) (pb a₀.size a₀.size 0):=by lia
   have n2:lo+pS (a₀.size-lo) (pb a₀.size a₀.size 0)<=a₀.size:=by lia
   simp only[iE,cP,if_false];generalize pS (a₀.size-lo) (pb a₀.size a₀.size 0)=n at *;clear B2 u2;refine aI<|g8 ?_;have S5:Sc κ a₀ st5:=#[B.kd,B.pm,B.fl];have hz:(bj st5).size=a₀.size:=B.size;have R5:Runs rk (pl st5++[(lo,n)]) 0 (lo+n) (bj st5).toList:=Runs.app.mpr #[lo,by
    unfold pl at R1 ⊢;rw[B.pd];refine R1.congr λk _ hk=>?_
    have e:(mF lo _)[k]?=(mF lo _)[k]?:=congrArg (λl=>l[k]?) B.ah
    rw[cR,cR,T9 hk,T9 hk]at e;exact e,rfl,n1,Zak (by lia) u,rfl]
   cases hbk:(bq st5).back? with
   |none=>
    exact aI<|fz<|aU<|done n st5 n1 n2 S5 R5
   |some q5=>
    obtain⟨x1,x2,x3⟩:=q5
    dsimp only
    refine aI<|eV (cG (I:=λ_ c st3=>c=(ae,())/\Sc κ a₀ st3/\Runs rk (pl st3++[(lo,n)]) 0 (lo+n) (bj st3).toList) ?_ (λc st3 h=>h) #[rfl,S5,R5]) ?_
    .rintro x c st3 _ _ ⟨rfl,S3,R3⟩
     refine aI<|g8 ?_;by_cases c:(bq st3).size>1
     .rw[T9 c,bO<|show(bq st3).size-2<(bq st3).size by lia]
      dsimp only
      split
      .exact aU #[rfl,S3,R3]
      .refine aI (WH O ia nd S3 (by lia) n2 R3 λst4 S4 _ R4=>?_)
       simp only[iE,cP,if_false];exact aU #[rfl,S4,R4]
     .rw[T8 c]
      exact aU #[rfl,S3,R3]
    .rintro c st3 ⟨rfl,S3,R3⟩
     dsimp only
     exact aI (fz (aI (fz (aU (done n (iB st3 _) n1 n2 #[S3.kd,S3.pm,S3.fl] (by
      show Runs rk (mv g2 (Array.modify _ _ _).toList++_) _ _ _;rw[Jp];exact R3))))))
  .rw[T8 c2]
   have n2:lo+m<=a₀.size:=by lia
   refine aI<|g8 ?_;have S5:Sc κ a₀ st2:=#[B2.kd,B2.pm,B2.fl];have hz:(bj st2).size=a₀.size:=B2.size;have R5:Runs rk (pl st2++[(lo,m)]) 0 (lo+m) (bj st2).toList:=Runs.app.mpr #[lo,by
    unfold pl at R1 ⊢;rw[B2.pd];refine R1.congr λk _ hk=>?_
    have e:(mF lo _)[k]?=(mF lo _)[k]?:=congrArg (λl=>l[k]?) B2.ah
    rw[cR,cR,T9 hk,T9 hk]at e;exact e,rfl,m1,Zak (by lia) u2,rfl]
   cases hbk:(bq st2).back? with
   |none=>
    exact aI<|fz<|aU<|done m st2 m1 n2 S5 R5
   |some q5=>
    obtain⟨x1,x2,x3⟩:=q5
    dsimp only
    refine aI<|eV (cG (I:=λ_ c st3=>c=(ae,())/\Sc κ a₀ st3/\Runs rk (pl st3++[(lo,m)]) 0 (lo+m) (bj st3).toList) ?_ (λc st3 h=>h) #[rfl,S5,R5]) ?_
    .rintro x c st3 _ _ ⟨rfl,S3,R3⟩
     refine aI<|g8 ?_;by_cases c:(bq st3).size>1
     .rw[T9 c,bO<|show(bq st3).size-2<(bq st3).size by lia]
      dsimp only
      split
      .exact aU #[rfl,S3,R3]
      .refine aI (WH O ia nd S3 (by lia) n2 R3 λst4 S4 _ R4=>?_)
       simp only[iE,cP,if_false];exact aU #[rfl,S4,R4]
     .rw[T8 c]
      exact aU #[rfl,S3,R3]
    .rintro c st3 ⟨rfl,S3,R3⟩
     dsimp only
     exact aI (fz (aI (fz (aU (done m (iB st3 _) m1 n2 #[S3.kd,S3.pm,S3.fl] (by
      show Runs rk (mv g2 (Array.modify _ _ _).toList++_) _ _ _;rw[Jp];exact R3))))))
 .rintro c st1 ⟨lo,rfl,g1,g2',S1,R1⟩
  obtain rfl:lo=a₀.size:=by lia
  exact#[rfl,S1,R1]
 .rintro c st1 ⟨rfl,S1,R1⟩
  dsimp only
  have len1:=R1.le;refine aI (eV (cG
   (I:=λx c st2=>c=(ae,())/\Sc κ a₀ st2/\Runs rk (pl st2) 0 a₀.size (bj st2).toList/\(bq st2).size<=max 1 (a₀.size-x))
   (Q:=λc st2=>c=(ae,())/\Sc κ a₀ st2/\Runs rk (pl st2) 0 a₀.size (bj st2).toList/\(bq st2).size<=1) ?_ ?_ #[rfl,S1,R1,by unfold pl at len1;rw[aw,aM]at len1;lia]) ?_)
  .rintro x c st2 _ hx ⟨rfl,S2,R2,l2⟩
   refine aI<|g8 ?_;by_cases c:(bq st2).size<=1
   .rw[T9 c]
    exact aU #[rfl,S2,R2,c]
   rw[T8 c];generalize hj:(if(Option.any (λx=>af<|x<((bq st2)[(bq st2).size-2+1]?).elim 0 λx=>x.2.1)<|if(bq st2).size-2>0 then Option.map (λx=>x.2.1) (bq st2)[(bq st2).size-2-1]? else ae)=ak then(bq st2).size-2-1 else(bq st2).size-2)=j
   have hj1:j+1<(bq st2).size:=by
    have g:∀b:Bool,(if b=ak then(bq st2).size-2-1 else(bq st2).size-2)+1<(bq st2).size:=λb=>by cases b<;>simp<;>lia
    rw[<-hj];exact g _
   refine aI<|WH (R3:=[]) O ia nd S2 hj1 (aG _) (by rw[cr];exact R2) λst3 S3 l3 R3=>?_
   rw[cr]at R3;simp only[iE,cP,if_false];exact aU #[rfl,S3,R3,by lia]
  .rintro c st2 ⟨rfl,S2,R2,l2⟩
   exact#[rfl,S2,R2,by lia]
  .rintro c st2 ⟨rfl,S2,R2,l2⟩
   dsimp only
   refine aU<|q st2 S2.pm S2.fl ?_;have hz:(bj st2).toList.length=a₀.size:=by rw[aM];exact S2.pm.size_eq
   unfold pl at R2
   match hP:(bq st2).toList,R2 with
   |[],R2=>exact T7 (show 0=a₀.size from R2) (by lia)
   |[(i,n,pw)],R2=>
    obtain⟨_,_,z,e⟩:=R2;have e:0+n=a₀.size:=e;rw[ky,cQ<|by dsimp only[g2];lia]at z
    exact z
   |_::_::_,_=>rw[<-aM,hP]at l2;simp at l2
end
end Tq
namespace Sq
open PySem PySem.W PyProof.Rows
structure Ord(n:Nat)(lt:Nat->Nat->Bool):Prop where
 tot:∀i j,i<n->j<n->i≠j->lt i j=ai->lt j i=ak
 asy:∀i j,i<n->j<n->lt i j=ak->lt j i=ai
 tr:∀i j k,i<n->j<n->k<n->lt i j=ak->lt j k=ak->lt i k=ak
noncomputable abbrev g(p:Array Nat)(i:Nat):Nat:=p.getD i 0
def Pm(n:Nat)(p:Array Nat):Prop:=p.Perm<|dg<|aH n
theorem Pm.size(h:Pm n p):p.size=n:=by have:=Array.Perm.size_eq h;simpa using this
def Zbd(h:i<p.size):p[i]?=aa (g p i):=by simp[g,h]
def Pm.lt(h:Pm n p)(hi:i<n):g p i<n:=by
 have hs:=h.size;have h1:g p i∈p.toList:=by
  have:p.toList[i]?=aa (g p i):=by rw[bC];exact Zbd (by lia)
  exact cM this
 have h2:p.toList.Perm (aH n):=by simpa using bJ.mp h
 exact bu.mp<|h2.mem_iff.mp h1
def Up(lt:Nat->Nat->Bool)(p:Array Nat)(m:Nat):Prop:=∀i j,i<j->j<m->lt (g p i) (g p j)=ak
theorem Ja{α:Type}{p q:α->Bool}:∀{l:List α},(∀x∈l,p x=ak->q x=ak)->(∃x∈l,q x=ak/\p x=ai)->l.countP p<l.countP q
 |[],_,#[x,hx,_]=>by cases hx
 |y::l,h,#[x,hx,h1,h2]=>by
  have hm:=List.countP_mono_left λz hz=>h z<|au _ hz
  rw[oE,oE];rcases ay.mp hx with rfl|hx
  .rw[h1,h2,T9 rfl,T8 aN];lia
  .have:=Ja (λz hz=>h z<|au _ hz) #[x,hx,h1,h2]
   have hy:=h y<|ao ..;cases e:p y with|false=>rw[T8 aN];lia|true=>rw[hy e,T9 rfl];lia
noncomputable def rank(n:Nat)(lt:Nat->Nat->Bool)(i:Nat):Nat:=(aH n).countP λj=>lt j i
def Uz{n:Nat}{lt:Nat->Nat->Bool}(O:Ord n lt){i j:Nat}(hi:i<n)(hj:j<n):af (rank n lt i<rank n lt j)=lt i j:=by
 have irr:∀k,k<n->lt k k=ai:=λk hk=>by
  cases e:lt k k with|false=>rfl|true=>rw[<-e];exact O.asy k k hk hk e
 have up:=λ{a b} ha hb e=>
  Ja (λx hx h=>O.tr x a b (bu.mp hx) ha hb h e) #[a,bu.mpr ha,e,irr a ha]
 cases e:lt i j with
 |true=>exact T5<|up hi hj e
 |false=>
  refine T4 λh=>?_
  by_cases z:i=j
  .subst z;exact bS _ h
  .exact Nat.lt_asymm h<|up hj hi<|O.tot i j hi hj z e
section
open Classical
noncomputable def idx(vs:List aq)(v:aq):Nat:=if h:∃i:Nat,vs[i]?=aa v then choose h else 0
def yX(nd:vs.Nodup)(h:vs[i]?=aa v):idx vs v=i:=by
 have hx:∃i:Nat,vs[i]?=aa v:=#[i,h];unfold idx;rw[dif_pos hx];have e:=choose_spec hx;have hl:=(aE.mp e).1;exact(g9 hl nd).mp<|e.trans h.symm
end
def ZeI{vs:List aq}{κ:gZ}{lt:Nat->Nat->Bool}(nd:vs.Nodup)(h1:1<=vs.length)(O:Ord vs.length lt)
  (ask:∀i j,i<vs.length->j<vs.length->∀(C:Bool->aA->Prop)(E:aq->aA->Prop),C (lt i j) s->bn (aV prog w) A (keyLt' κ (vs.getD i bI)<|vs.getD j bI) C E s) :
  bn (aV prog w) A ((sortRuns').run<|pF κ (vs.toArray.zip vs.toArray) #[] 7 ae) (λr s'=>s'=s/\∃p,Pm vs.length p/\Up lt p vs.length/\gy r.2=ae/\(bj r.2).map (·.2)=dg (p.toList.map λi=>vs.getD i bI)) E s:=by
 have hz:(vs.toArray.zip vs.toArray).toList=vs.map λv=>(v,v):=by
  rw[ksk_zip];show rF vs vs=_;clear ask O h1 nd
  induction vs with|nil=>rfl|cons v l ih=>rw[bR,ih];rfl
 let rk:bZ->Nat:=λx=>rank vs.length lt<|idx vs x.1
 let In:bZ->Prop:=λx=>∃i:Nat,vs[i]?=aa x.1/\x=(x.1,x.1)
 have atI:∀{x:bZ},In x->idx vs x.1<vs.length/\vs.getD (idx vs x.1) bI=x.1:=λ{x} #[i,e,_]=>by
  rw[yX nd e];exact#[(aE.mp e).1,by rw[aD,e];rfl]
 have od:Tq.Od prog w A E s κ In rk:=⟨λ{x y τ Q} ix iy hk q=>by
  obtain⟨a1,a2⟩:=atI ix;obtain⟨b1,b2⟩:=atI iy;rw[lt'_eq];refine aI<|g8 ?_;rw[hk];have:=ask _ _ a1 b1 (λb s'=>s'=s/\b=lt (idx vs x.1) (idx vs y.1)) (λ_ _=>False) #[rfl,rfl]
  rw[a2,b2]at this;refine aI<|wpS_lift<|mW<|cI this (λb s' h=>?_) λ_ _ h=>h.elim
  obtain⟨rfl,rfl⟩:=h;refine#[rfl,aU ?_];rw[<-Uz O a1 b1];exact q⟩
 have ia:∀x∈(vs.toArray.zip vs.toArray).toList,In x:=λx hx=>by
  rw[hz]at hx;obtain⟨v,hv,rfl⟩:=aT.mp hx;obtain⟨i,hi,e⟩:=mr.mp hv;exact#[i,by rw[ag hi,e],rfl]
 have rks:(vs.toArray.zip vs.toArray).toList.map rk=(aH vs.length).map (rank vs.length lt):=by
  rw[hz,bT];refine cZ λi=>?_
  rw[aR,aR];by_cases h:i<vs.length
  .rw[cX h,ag h]
   exact congrArg (λk=>aa<|rank vs.length lt k)<|yX nd<|ag h
  .rw[dq (by lia),dq<|by rw[br];lia];rfl
 have ndr:((vs.toArray.zip vs.toArray).toList.map rk).Nodup:=by
  rw[rks];refine dF.mpr<|List.Pairwise.imp_of_mem ?_ oF;intro a b ha hb ne e;have ha:=bu.mp ha;have hb:=bu.mp hb;have h1:=Uz O ha hb;have h2:=Uz O hb ha;rw[e,T4<|bS _]at h1 h2;exact T7 (O.tot a b ha hb ne h1.symm) (by rw[<-h2];simp)
 have sz:(vs.toArray.zip vs.toArray).size=vs.length:=by rw[<-aM,hz,aw]
 refine Tq.sort_ok (Q:=λ_ st'=>∃p,Pm vs.length p/\Up lt p vs.length/\gy st'=ae/\(bj st').map (·.2)=dg (p.toList.map λi=>vs.getD i bI)) od ia ndr rfl rfl rfl rfl (by lia) λst' pm fl so=>?_
 have pl:=bJ.mp pm;have inS:=λx hx=>ia x<|pl.mem_iff.mp hx
 have pp:((bj st').toList.map λx=>idx vs x.1).Perm (aH vs.length):=by
  refine(pl.map _).trans<|lV ?_;rw[hz,bT];refine cZ λi=>?_
  rw[aR];by_cases h:i<vs.length
  .rw[cX h,ag h]
   exact congrArg aa<|yX nd<|ag h
  .rw[dq (by lia),dq<|by rw[br];lia];rfl
 have sl:(bj st').toList.length=vs.length:=by rw[pl.length_eq,hz,aw]
 refine#[dg<|(bj st').toList.map λx=>idx vs x.1,bJ.mpr pp,λi j hij hj=>?_,fl,?_]
 .have gk:∀k (hk:k<(bj st').toList.length),g (dg<|(bj st').toList.map λx=>idx vs x.1) k=idx vs ((bj st').toList[k]).1:=λk hk=>by
   show((dg<|(bj st').toList.map λx=>idx vs x.1).getD k 0)=_
   rw[Array.getD_eq_getD_getElem?,List.getElem?_toArray,aR,ag hk];rfl
  rw[gk i (by lia),gk j<|by lia]
  have:=bW.mp so i j (by lia) (by lia) hij
  rw[<-Uz O (atI<|inS _<|ba _).1 (atI<|inS _<|ba _).1];exact T5 this
 .apply lv.mp
  rw[oG,bT];refine ee λx hx=>?_
  have hi:=inS x hx;show x.2=vs.getD (idx vs x.1) bI;rw[(atI hi).2];obtain⟨_,_,e⟩:=hi;rw[e]
open PySem.Calls
def Lat(h h':ck):Prop:=∀b o,h.get? b=aa o->h'.get? b=aa o
structure Asks(prog:bH)(w:bV)(A:cC)(h:ck)(vs:List aq)(κ:gZ)(lt:Nat->Nat->Bool):Prop where
 kind:2<=vs.length->∀(s':aA)(E:aq->aA->Prop)(Q:gZ->aA->Prop),Lat h s'.heap->Q κ s'->bn (aV prog w) A (keyKind' vs.toArray) Q E s'
 nd:vs.Nodup
 cmp:∀i j,i<vs.length->j<vs.length->∀(s':aA)(C:Bool->aA->Prop)(E:aq->aA->Prop),Lat h s'.heap->C (lt i j) s'->bn (aV prog w) A (keyLt' κ (vs.getD i bI)<|vs.getD j bI) C E s'
noncomputable def ltR(b:Bool)(n:Nat)(lt:Nat->Nat->Bool):Nat->Nat->Bool:=λi j=>if b=ak then lt (n-1-i) (n-1-j)else lt i j
def ZbM(O:Ord n lt):Ord n (ltR b n lt):=by
 cases b
 .exact O
 .exact#[λi j hi hj ne h=>O.tot _ _ (by lia) (by lia) (by lia) h,λi j hi hj h=>O.asy _ _ (by lia) (by lia) h,λi j k hi hj hk h1 h2=>O.tr _ _ _ (by lia) (by lia) (by lia) h1 h2]
def zu(hi:i<vs.length):(kZ b vs).getD i bI=vs.getD (if b=ak then vs.length-1-i else i) bI:=by
 cases b
 .rfl
 .show vs.reverse.getD i bI=vs.getD (vs.length-1-i) bI
  simp only[aD];rw[ip hi]
def qk(vs:List aq):(aH vs.length).map (λi=>vs.getD i bI)=vs:=by
 apply cZ
 intro i;rw[aR];by_cases h:i<vs.length
 .rw[cX h];simp[h]
 .simp[fq h]
def list_sort_rev{P:PySem.Fin->aA->Prop}(ho:s.heap.get? a=aa (iS "list" vs.toArray n))(h64:vs.length<=100000)
  (h00:∀b o,h0.get? b=aa o->b≠a/\s.heap.get? b=aa o)(O:Ord vs.length lt)(K:Asks prog w A h0 vs κ lt)
  (h:∀p,Pm vs.length p->Up (ltR b vs.length lt) p vs.length->P (.done<|.ret .none) {s with heap:=sortedHeap s.heap a vs (dg<|kZ b<|p.toList.map λi=>(kZ b vs).getD i bI)}) :
  bn (aV prog w) A (fg.«list.sort» #[[.ref a],[(kf "reverse",.bool b)]]) P E s:=by
 rw[kF];have ha:=aO ho;refine aj<|listItems_at ho rfl ?_;refine aj<|mX ho rfl ?_;obtain⟨e1,ho1⟩:∃e1,(s.heap.update a<|fb λ_=>#[]).get? a=aa (iS "list" #[] e1):=#[_,get?_update_seq ho λ_=>#[]]
 refine aj<|oV ho1 rfl ?_;refine aj<|wpAny_newTuple ?_;refine aj<|wpAny_newList ?_;refine cU ?_;have ho6:(((s.heap.update a<|fb λ_=>#[]).push<|iS "tuple" vs.toArray 0).push<|iS "list" #[] 0).get? a=aa (iS "list" #[] e1):=by
  rw[hJ _ _ _ (by rw[size_push',lw];exact bD<|eU ha),hJ _ _ _<|by rw[lw];exact bD ha]
  exact ho1
 have lat:Lat h0 (((s.heap.update a<|fb λ_=>#[]).push<|iS "tuple" vs.toArray 0).push<|iS "list" #[] 0):=λb o e=>by
  obtain⟨nb,e⟩:=h00 b o e;exact ax _<|ax _<|by rw[mL _ _ _ _ nb];exact e
 generalize hs':((s.heap.update a<|fb λ_=>#[]).push<|iS "tuple" vs.toArray 0).push (iS "list" #[] 0)=h1 at ho6 lat ⊢
 dsimp only
 have step:∀t:oa PySem.Fin,bn (aV prog w) A t P E {s with heap:=h1}->bn (aV prog w) A (if b=ak then(do let _ <-oi "list.sort.reverse";t)else t) P E {s with heap:=h1}:=by
  intro t ht;split
  .exact aj<|fe ht
  .exact ht
 refine step _ ?_;have hrl:=pc b vs;have fin:∀out:List aq,out.length=vs.length->(∃p,Pm vs.length p/\Up (ltR b vs.length lt) p vs.length/\out=p.toList.map λi=>(kZ b vs).getD i bI)->
   P (.done<|.ret .none) {s with heap:=h1.update a (fb λ_=>dg<|kZ b out)}:=by
  rintro out _ ⟨p,h1',h2',rfl⟩
  subst hs';exact h p h1' h2'
 by_cases h2:vs.toArray.size<2
 .rw[T9 h2,T9 h2]
  refine aj<|aF ?_;rw[StateT.run_pure];refine aj<|aF ?_
  dsimp only
  have hz:((bj<|pF general' (if b=ak then(vs.toArray.zip vs.toArray).reverse else vs.toArray.zip vs.toArray) #[] 7 ae).map (·.2))=dg (kZ b vs):=by
   rw[kat_pairs b rfl];apply lv.mp;rw[oG,ksk_zip];exact List.map_snd_zip<|aG _
  rw[hz];refine aj<|oV ho6 rfl ?_;rw[kat_outs];refine aj<|mX ho6 rfl ?_ (hsz2:=by rw[aK];(try rw[pc]);(try rw[pc]);rw[da];lia)
  simp only[bne_self_eq_false,cP,if_false];refine aF<|fin (kZ b vs) (pc b vs) #[dg<|aH vs.length,Array.Perm.refl _,λi j a1 a2=>by rw[aK]at h2;lia,?_]
  rw[<-hrl];exact(qk _).symm
 .rw[T8 h2,T8 h2]
  have l2:2<=vs.length:=by rw[aK]at h2;lia
  refine aj<|K.kind l2 _ _ _ lat ?_;rw[kat_pairs b rfl];have ndR:(kZ b vs).Nodup:=by
   cases b
   .exact K.nd
   .exact(fM vs).nodup_iff.mpr K.nd
  refine aj (cI (ZeI ndR (by lia) (by rw[hrl];exact ZbM (b:=b) O) (by
    rw[hrl];intro i j hi hj C E hC;rw[zu hi,zu hj];cases b
    .exact K.cmp i j hi hj _ _ _ lat hC
    .exact K.cmp _ _ (by simp only[if_true];lia) (by simp only[if_true];lia) _ _ _ lat hC)) ?_ λ_ _ x=>x)
  rintro ⟨⟨⟩,st'⟩ s' ⟨rfl,p,e2,e3,hf,har⟩
  rw[hrl]at e2 e3
  dsimp only
  rw[har];have hl:(p.toList.map λi=>(kZ b vs).getD i bI).length=vs.length:=by rw[aw,aM,e2.size]
  refine aj<|oV ho6 rfl ?_;rw[kat_outs];refine aj<|mX ho6 rfl ?_ (hsz2:=by rw[aK];(try rw[pc]);rw[hl,da];lia)
  rw[hf];simp only[bne_self_eq_false,cP,if_false];exact aF<|fin _ hl #[p,e2,e3,rfl]
def qe(a:aC):fg.«list.sort» #[[.ref a],[]]=fg.«list.sort» #[[.ref a],[(kf "reverse",.bool ai)]]:=by
 rw[PyProof.Rows.list_sort_plain,kF];rfl
def WR{Q:aq->aA->Prop}(hl:s.heap.IsList l vs.toArray)(h64:vs.length<=100000)(O:Ord vs.length lt)(K:Asks prog w A.in1.in1 s.heap vs κ lt)
  (h:∀p,Pm vs.length p->Up (ltR ai vs.length lt) p vs.length->Q (.ref<|s.heap.objs.size+1) {s with heap:=sortedAll s.heap vs (dg<|kZ ai<|p.toList.map λi=>(kZ ai vs).getD i bI)}) :
  bn (aV prog w) A (call (.builtin "sorted") [.ref l]) Q E s:=by
 refine Calls.call_function_entry kind_sorted plain_sorted entry_sorted (args_sorted1 _) ?_;unfold fg.«sorted»;refine aj<|aF ?_;refine aj<|collect_list hl ?_<|by rw[da];lia
 refine aj<|wpAny_newList ?_<|by rw[da];lia
 have hsz:((s.heap.push<|iS "list" #[] 0).update s.heap.objs.size (fb (·++vs.toArray))).objs.size=s.heap.objs.size+1:=by
  rw[lw,size_push']
 have hoL:(((s.heap.push<|iS "list" #[] 0).update s.heap.objs.size (fb (·++vs.toArray))).push<|iS "list" vs.toArray 0).get? (s.heap.objs.size+1)=aa (iS "list" vs.toArray 0):=by
  rw[<-hsz];exact aQ _ rfl
 rw[hsz];refine aj (cU (dA slot_list_sort #[_,hoL,rfl] entry_list_sort (by
  rw[qe];exact list_sort_rev hoL h64 (λb o e=>by
   have hlt:=aO e;refine#[bD<|eU hlt,?_];rw[hJ _ _ _ (by rw[hsz];exact bD<|eU hlt),mL _ _ _ _<|bD hlt,hJ _ _ _<|bD hlt]
   exact e) O K λp a1 a2=>#[_,rfl,aF #[_,rfl,h p a1 a2]])<|args_list_sort _))
end Sq
namespace Sd
open PySem PySem.Spec PyProof.Rows L2
open Ev (E Sm Fn Bop Cop Ty Bf Mf)
section
variable{X:Cx}{pq:List (aC×fD)}{σ:L2.St}{H:Hp}{s:aA}{A:cC}{E:aq->aA->Prop}{b:Bool}{Q:aq->aA->Prop}
def xo(I:Inv X pq σ H s)(rx:Zx x u)(ty:TyOf X.K H x t)(htp:s.heap.get? tp=aa #[.type "tuple",dd,.seq its.toArray n,sl])
  (e:fT X.K t its=aa b)(h:∀tk,Q (.bool b) {s with toks:=tk}):bn (aV X.prog X.w) A (call (.builtin "isinstance") [u,.ref tp]) Q E s:=by
 cases ty with
 |non=>cases(show u=bI from rx);exact de nE I.kIn dk htp e (λz=>nomatch z) h
 |bl y=>cases(rx);exact de nF I.kIn dk htp e (λz=>nomatch z) h
 |int i=>obtain⟨t,q⟩:=(rx);cases q;exact de om I.kIn dk htp e (λz=>nomatch z) h
 |str y=>obtain⟨t,q⟩:=(rx);cases q;exact de on I.kIn dk htp e (λz=>nomatch z) h
 |flt y=>obtain⟨t,q⟩:=(rx);cases q;exact de m9 I.kIn dk htp e (λz=>nomatch z) h
 |@lst a xs ea=>
  cases(rx);obtain⟨_,_,n,_,h1⟩:=(I.hok a _ ea)
  exact de gQ I.kIn #[_,h1,rfl] htp e (λz=>nomatch z) h
 |@frz a ob xs ea=>
  cases(rx);obtain⟨_,_,_,n,_,h1⟩:=(I.hok a _ ea)
  exact de gQ I.kIn #[_,h1,rfl] htp e (λz=>nomatch z) h
 |@tup a xs ea=>
  cases(rx);obtain⟨_,_,_,p⟩:=(I.hok a _ ea)
  obtain⟨o,h1,h2,_⟩:=p;exact de ng I.kIn #[o,h1,h2] htp e (λz=>nomatch z) h
 |@dK a kvs ea=>
  cases(show u=dJ a from rx);obtain⟨_,_,vs,_,p⟩:=(I.hok a _ ea)
  obtain⟨o,es,ep,h1,h2,_⟩:=p;exact de gR I.kIn #[o,h1,h2.1] htp e (λz=>nomatch z) h
 |@dT a kvs ea=>
  cases(show u=dJ a from rx);obtain⟨_,_,xs,_,o,es,ep,h1,h2,_⟩:=(I.hok a _ ea)
  exact de gR I.kIn #[o,h1,h2.1] htp e (λz=>nomatch z) h
 |@ins a C dx fs ea cl ha hn htk hm=>
  cases(show u=dJ a from rx);obtain⟨mA,O,_⟩:=wI I.hok ea
  obtain⟨od,J,_⟩:=O.look;exact de (oo (cl.get _) cl.hd ha hn htk hm) I.kIn J htp e (λz=>nomatch z) h
end
section
variable{X:Cx}{xw:Nat->Hp->Prop}{C:Calls}{e a b c:Expr}{i j k:E}{pos p p' p2 p3:fO}
def u8(T U:String):ZB X (.builtin "isinstance") (λvs H Q=>∃v tv n q,vs=[v,.ref q]/\H q=aa (.tup [.ty T,.ty U])/\TyOf X.K H v tv/\fT X.K tv [.type T,.type U]=aa n/\Q (.bl n) H):=by
 intro pq s σ H vs us Q I r h;obtain⟨v,tv,n,q,rfl,hq,ty,e,qq⟩:=h;obtain⟨u,w',rfl,r1,r2⟩:=yf r;cases r2;obtain⟨its,rv,⟨o,ho,hc,m,hd⟩,_⟩:=I.tuple<|SqT.of hq;obtain⟨cls,dd,data,sl⟩:=o;simp only at hc hd;subst hc hd;obtain⟨z1,z2,rfl,q1,q2⟩:=yf rv;cases q1;cases q2;exact xo I r1 ty ho e λtk=>#[.bl n,H,I.tok tk,rfl,qq]
def TyOf.later{K:al}{H:Hp}{v:V}{tv:aq}{q:aC}{o:HO}(h:TyOf K H v tv)(hq:H q=ae):TyOf K (upd H q o) v tv:=by
 cases h with|non=>exact .non|bl b=>exact .bl b|int b=>exact .int b|str b=>exact .str b|flt b=>exact .flt b|lst e=>exact .lst (by rw[Zj<|ZM e hq];exact e)|frz e=>exact .frz (by rw[Zj<|ZM e hq];exact e)|tup e=>exact .tup (by rw[Zj<|ZM e hq];exact e)|dK e=>exact .dK (by rw[Zj<|ZM e hq];exact e)|dT e=>exact .dT (by rw[Zj<|ZM e hq];exact e)|ins e a1 a2 a3 a4 a5=>exact .ins (by rw[Zj<|ZM e hq];exact e) a1 a2 a3 a4 a5
def TyOf.uniq{K:al}{H:Hp}{v:V}{t1 t2:aq}(h1:TyOf K H v t1)(h2:TyOf K H v t2):t1=t2:=by
 cases h1<;>cases h2<;>first|rfl|simp_all
theorem JQ{T U:bi}{t u:Ty}{k0:Nat}{p4:fO}(ht:∀m,t≠.cls m)(hu:∀m,u≠.cls m)(hm:X.mg "isinstance" = ae)(hmT:X.mg T=ae)(hmU:X.mg U=ae)(ha:CE X xw C a i)(hg:Gl X "isinstance":=by rfl)(hgT:Gl X T:=by rfl)(hgU:Gl X U:=by rfl)(hvT:dv T=aa (.type<|ZP t):=by rfl)(hvU:dv U=aa (.type<|ZP u):=by rfl)(hnT:T≠"__name__":=by decide)(hdT:(T == ("__debug__" : bi))=ai:=by decide)(hnU:U≠"__name__":=by decide)(hdU:(U == ("__debug__" : bi))=ai:=by decide)
  (hs0:az [.Name T p2,.Name U p3] X.env=(ai,bY (.Name T p2) X.env)::az [.Name U p3] X.env:=by rfl)(hs00:az [.Name U p3] X.env=(ai,bY (.Name U p3) X.env)::az [] X.env:=by rfl)
  (hs1:az [a,.Tuple [.Name T p2,.Name U p3] k0 p4] X.env=(ai,bY a X.env)::az [.Tuple [.Name T p2,.Name U p3] k0 p4] X.env:=by rfl)(hs2:az [.Tuple [.Name T p2,.Name U p3] k0 p4] X.env=(ai,bY (.Tuple [.Name T p2,.Name U p3] k0 p4) X.env)::az [] X.env:=by rfl)(hpl:(dz pos<|az [.Tuple [.Name T p2,.Name U p3] k0 p4] X.env).any (·.1)=ai:=by rfl) :
  CE X xw C (.Call (.Name "isinstance" p) [a,.Tuple [.Name T p2,.Name U p3] k0 p4] [] pos) (.isi i [t,u]):=
 PE.imp (XG (u8 (ZP t)<|ZP u) hg hm (by rfl) (Zw ha (Zw (jw<|Zw (Uo (v:=.ty<|ZP t) hgT hmT hvT rfl hnT hdT) (Zw (Uo (v:=.ty<|ZP u) hgU hmU hvU rfl hnU hdU) Yf hs00) hs0) Yf hs2) hs1) (by decide) (by decide) hs1 hpl)<|by
  rintro σ H Q ⟨ρ,l,S,st,lr,h⟩;refine#[ρ,l,S,st,lr,End.bind (h) λx S1 ρ1 H1 v f1 st1 r1 h1=>#[by show 2<=bo;rw[da];lia,λq hq=>?_]]
  obtain⟨n,hn,h2⟩:=End.ob h1;have st2:=st1.fresh (o:=.tup [.ty<|ZP t,.ty<|ZP u]) hq;have f2:=Zu (ρ:=ρ1) (o:=.tup [.ty<|ZP t,.ty<|ZP u]) hq;have fin:=λtv ty e=>(#[v,tv,n,q,rfl,Zl,TyOf.later ty hq,e,h2 ρ1 _ _ f2 st2<|Yg n]:∃v' tv n q',[v,V.ref q]=[v',.ref q']/\upd H1 q (.tup [.ty<|ZP t,.ty<|ZP u]) q'=aa (.tup [.ty<|ZP t,.ty<|ZP u])/\TyOf X.K (upd H1 q<|.tup [.ty<|ZP t,.ty<|ZP u]) v' tv/\fT X.K tv [.type<|ZP t,.type<|ZP u]=aa n/\Q (.bl n) (upd H1 q<|.tup [.ty<|ZP t,.ty<|ZP u]))
  unfold Pv.ZY at hn;cases q1:Pv.Yr x t with
  |none=>rw[q1]at hn;cases hn
  |some m=>
   rw[q1]at hn;obtain⟨tv,ty,e⟩:=xE r1 ht q1;cases m with
   |true=>
    have hn':n=ak:=(am hn).symm;exact fin tv ty (by unfold fT;rw[e,hn'])
   |false=>
    have hn1:(match Pv.Yr x u with
     |some ak=>aa ak
     |some ai=>Pv.ZY x []
     |none=>ae)=aa n:=hn
    cases q2:Pv.Yr x u with
    |none=>rw[q2]at hn1;cases hn1
    |some m2=>
     rw[q2]at hn1;obtain⟨tv2,ty2,e2⟩:=xE r1 hu q2;have et:tv2=tv:=TyOf.uniq ty2 ty;subst et;refine fin tv2 ty ?_;unfold fT;rw[e];unfold fT;rw[e2];cases m2 with|true=>exact hn1|false=>exact hn1
end
end Sd
namespace Sd
open Ev (ltI Wu Ye)
theorem Us:∀{x y:List Int},x≠y->ltI x y=ai->ltI y x=ak
 |[],[],h,_=>T7 rfl h
 |[],_::_,_,h=>by cases h
 |_::_,[],_,_=>rfl
 |a::x,b::y,h,e=>by
  unfold ltI at e ⊢;by_cases c:a=b
  .subst c
   rw[T9 rfl]at e ⊢;exact Us (λz=>h<|by rw[z]) e
  .grind
theorem Ve:∀{x y:List Int},ltI x y=ak->ltI y x=ai
 |[],[],h=>by cases h
 |[],_::_,_=>rfl
 |_::_,[],h=>by cases h
 |a::x,b::y,e=>by
  unfold ltI at e ⊢;by_cases c:a=b
  .subst c
   rw[T9 rfl]at e ⊢;exact Ve e
  .grind
theorem GH:∀{x y z:List Int},ltI x y=ak->ltI y z=ak->ltI x z=ak
 |[],[],_,h,_=>by cases h
 |_::_,[],_,h,_=>by cases h
 |_,_::_,[],_,h=>by cases h
 |[],_::_,_::_,_,_=>rfl
 |a::x,b::y,c::z,e,f=>by
  unfold ltI at e f ⊢;by_cases h1:a=b
  .subst h1
   rw[T9 rfl]at e;by_cases h2:a=c
   .subst h2
    rw[T9 rfl]at f ⊢;exact GH e f
   .grind
  .grind
theorem VN(x:List Int):∀l:List (List Int),(Wu x l).Perm (x::l)
 |[]=>cK _
 |y::r=>by
  unfold Wu;split
  .grind
  .exact((VN x r).cons y).trans<|mw x y r
theorem WK:∀l:List (List Int),(Ye l).Perm l
 |[]=>cK _
 |x::r=>(VN x<|Ye r).trans<|(WK r).cons x
theorem Ub(x:List Int):∀{l:List (List Int)},(∀y∈l,x≠y)->l.Pairwise (λa b=>ltI a b=ak)->(Wu x l).Pairwise (λa b=>ltI a b=ak)
 |[],_,_=>by exact fu ..
 |y::r,hn,h=>by
  rw[aZ]at h;unfold Wu;split
  .rename_i c
   rw[aZ,aZ];refine#[λz hz=>?_,h]
   rcases ay.mp hz with rfl|hz
   .exact c
   .exact GH c<|h.1 z hz
  .rename_i c
   rw[aZ];refine#[λz hz=>?_,Ub x (λy hy=>hn y<|au _ hy) h.2]
   rcases ay.mp ((VN x r).mem_iff.mp hz)with rfl|hz
   .exact Us (hn y<|ao ..) (by simpa using c)
   .exact h.1 z hz
theorem WU:∀{l:List (List Int)},l.Nodup->(Ye l).Pairwise (λa b=>ltI a b=ak)
 |[],_=>gU
 |x::r,h=>by
  rw[dy]at h;exact Ub x (λy hy e=>h.1<|by rw[e];exact(WK r).mem_iff.mp hy)<|WU h.2
theorem Ua:∀{a b:List (List Int)},a.Perm b->a.Pairwise (λx y=>ltI x y=ak)->b.Pairwise (λx y=>ltI x y=ak)->a=b
 |[],b,p,_,_=>(oH p)
 |x::a,[],p,_,_=>by have:=p.length_eq;simp at this
 |x::a,y::b,p,ha,hb=>by
  rw[aZ]at ha hb;have e:x=y:=by
   rcases ay.mp (p.mem_iff.mp<|ao ..)with h|h
   .exact h
   .rcases ay.mp (p.mem_iff.mpr (ao))with h2|h2
    .exact h2.symm
    .have z1:=hb.1 x h
     have z2:=ha.1 y h2;rw[Ve z1]at z2;cases z2
  subst e;rw[Ua (pH x |>.mp p) ha.2 hb.2]
open PySem PySem.Spec PyProof.Rows L2
open Ev (E Sm Fn Bop Cop Ty Bf Mf Wb VE Ym ltP Z8)
noncomputable def QK(fin:Bool):List Int->List Int->Bool
 |[],_=>fin
 |_::_,[]=>fin
 |a::x,b::y=>if a=b then QK fin x y else af (a<b)
theorem JL:∀(x y:List Int),QK (af<|x.length<y.length) x y=ltI x y
 |[],[]=>rfl
 |[],_::_=>by unfold QK ltI;simp
 |_::_,[]=>by unfold QK ltI;simp
 |a::x,b::y=>by
  unfold QK ltI;have:af ((a::x).length<(b::y).length)=af (x.length<y.length):=by simp
  rw[this,JL x y]
theorem zW{C:Bool->aA->Prop}:∀{x y:List Int}{u v:List aq}{i:Nat},Vals (x.map V.int) u->Vals (y.map V.int) v->C (QK fin x y) s->pI prog w A b fin C (u.zip v) i s
 |[],_,_,_,_,.nil,_,h=>by rw[hU];exact iT h
 |_::_,[],_,_,_,_,.nil,h=>by rw[gI];exact iT h
 |a::x,c::y,_,_,i,.cons ra ta,.cons rb tb,h=>by
  obtain⟨t,rfl⟩:=ra;obtain⟨t',rfl⟩:=rb;rw[bR];refine oI<|lc ?_;unfold QK at h;by_cases e:a=c
  .rw[T9 e]at h
   rw[beq_iff_eq.mpr e];exact oZ<|zW ta tb h
  .rw[T8 e]at h
   rw[beq_eq_false_iff_ne.mpr e];refine pJ ?_;cases q:(b&&i == 0)with|true=>exact oneLt_int h|false=>exact o4 _ _<|lt_int h
inductive RowsAt(h:ck):List (List Int)->List aq->Prop where
 |nil:RowsAt h [] []
 |cons {r:List Int} {rs:List (List Int)} {vs:List aq} {a:aC} {o:fD} {us:List aq} {m:Nat} (ho:h.get? a=aa o) (hc:o.cls=.type "tuple") (hd:o.data=.seq us.toArray m) (hv:Vals (r.map V.int) us) (t:RowsAt h rs vs):RowsAt h (r::rs) (.ref a::vs)
theorem Qt:∀{ks:List D}{k:List Int},Pv.intsV ks=aa k->ks=k.map Pv.V.int
 |[],k,h=>by cases h;rfl
 |d::ks,k,h=>by
  obtain⟨n,r,rfl,e,rfl⟩:=VL h;rw[Qt e];rfl
def qg(h:Pv.Yb (d::ds)=aa rs):∃a b,d=Pv.Zd a/\Pv.Yb ds=aa b/\rs=a::b:=by
 cases d with
 |tup x=>
  have h:(match Pv.intsV x,Pv.Yb ds with
   |some a,aa b=>aa (a::b)
   |_,_=>ae)=aa rs:=h
  cases q1:Pv.intsV x with
  |none=>rw[q1]at h;cases h
  |some a=>
   cases q2:Pv.Yb ds with
   |none=>rw[q1,q2]at h;cases h
   |some b=>
    rw[q1,q2]at h;exact#[a,b,congrArg Pv.V.tup<|Qt q1,rfl,(am h).symm]
 |_=>exact Ev.nos h
theorem Rq.intsV:∀{r:List Int}{xs:List V},Rq ρ H (r.map Pv.V.int) xs->xs=r.map V.int
 |[],xs,h=>by exact h
 |n::r,xs,h=>by
  have h':=h;obtain⟨v,vs,rfl,a,b⟩:=h';rw[a.int',Rq.intsV b];rfl
theorem W2(I:Inv X pq σ H s):∀{ds:List D}{rs:List (List Int)}{xs:List V}{its:List aq},Pv.Yb ds=aa rs->Rq ρ H ds xs->Vals xs its->RowsAt s.heap rs its/\ds=rs.map Pv.Zd
 |[],rs,xs,its,h,r,v=>by
  subst r;cases v;cases h;exact#[.nil,rfl]
 |d::ds,rs,xs,its,h,r,v=>by
  obtain⟨x,xs',rfl,r1,r2⟩:=r;cases v with
  |cons v1 v2=>
   obtain⟨a,b,rfl,q2,rfl⟩:=qg h;obtain⟨t,e⟩:=W2 I q2 r2 v2;obtain⟨p,ys,rfl,hp,ry⟩:=r1.tup';have ey:=Rq.intsV ry;subst ey;cases v1;obtain⟨us,rv,⟨o,ho,hc,m,hd⟩,_⟩:=I.tuple<|SqT.of hp;exact#[.cons ho hc hd rv t,by rw[e];rfl]
theorem RowsAt.length{h:ck}:∀{rs:List (List Int)}{vs:List aq},RowsAt h rs vs->rs.length=vs.length
 |_,_,.nil=>rfl
 |_,_,.cons _ _ _ _ t=>by rw[aJ,aJ,RowsAt.length t]
theorem RowsAt.at{h:ck}:∀{rs:List (List Int)}{vs:List aq}(i:Nat),RowsAt h rs vs->i<vs.length->∃a o us m,vs.getD i bI=.ref a/\h.get? a=aa o/\o.data=.seq us.toArray m/\Vals ((rs.getD i []).map V.int) us
 |_,_,_,.nil,hi=>by simp at hi
 |_,_,0,.cons ho hc hd hv t,_=>#[_,_,_,_,rfl,ho,hd,hv]
 |_,_,i+1,.cons ho hc hd hv t,hi=>by
  obtain⟨a,o,us,m,e1,e2,e3,e4⟩:=RowsAt.at i t (by simpa using hi)
  exact#[a,o,us,m,by simpa using e1,e2,e3,by simpa using e4]
theorem RowsAt.tups(k:Sq.Lat h h'):∀{rs:List (List Int)}{vs:List aq},RowsAt h rs vs->(∀r∈rs,r≠[])->∃fs,o5 h' vs fs/\fs.length=vs.length/\∀v∈fs,∃n t,v=k9 n t
 |_,_,.nil,_=>#[[],.nil,rfl,λv hv=>by cases hv]
 |_,_,.cons (r:=r) ho hc hd hv t,hn=>by
  obtain⟨fs,t1,t2,t3⟩:=RowsAt.tups k t λr hr=>hn r<|au _ hr
  have hr:=hn r<|ao ..;cases r with
  |nil=>exact T7 rfl hr
  |cons n r=>
   obtain⟨u,g,rel⟩:=hv.get (i:=0) rfl;refine#[u::fs,.cons (k _ _ ho) hc hd (by simpa using g) t1,by rw[aJ,aJ,t2],λv hv=>?_]
   rcases ay.mp hv with rfl|hv
   .obtain⟨tk,e⟩:=rel
    exact#[n,tk,e]
   .exact t3 v hv
theorem W0:∀{x y:List Int}{us:List aq},Vals (x.map V.int) us->Vals (y.map V.int) us->x=y
 |[],[],_,_,_=>rfl
 |[],_::_,_,.nil,h=>by cases h
 |_::_,[],_,h,.nil=>by cases h
 |a::x,b::y,_,.cons r t,.cons r' t'=>by
  obtain⟨k,rfl⟩:=r;obtain⟨k',e⟩:=r';cases e;rw[W0 t t']
def yr{α:Type}{df:α}{rs:List α}{vs:List aq}(hl:rs.length=vs.length)(nd:rs.Nodup)(h:∀i j,i<vs.length->j<vs.length->vs.getD i bI=vs.getD j bI->rs.getD i df=rs.getD j df):vs.Nodup:=by
 refine bW.mpr λi j hi hj hij e=>?_
 have:=h i j hi hj (by simp[hi,hj,e])
 simp only[aD,ag (show i<rs.length by lia),ag (show j<rs.length by lia)]at this
 exact bW.mp nd i j (by lia) (by lia) hij this
def uj{prog:bH}{w:bV}{A:cC}{h:ck}{rs:List (List Int)}{vs:List aq}(R:RowsAt h rs vs)(nd:rs.Nodup)(hn:∀r∈rs,r≠[]):Sq.Asks prog w A h vs (tuples' ak) (λi j=>ltI (rs.getD i [])<|rs.getD j []):=by
 refine#[λh2 s' E Q k q=>?_,yr (df:=[]) R.length nd λi j hi hj e=>?_,λi j hi hj s' C E k q=>?_]
 .obtain⟨fs,t1,t2,t3⟩:=R.tups k hn
  exact oJ (T:=.type "int") t1 (by lia) (λv hv=>by obtain⟨n,t,rfl⟩:=t3 v hv;exact PySem.W.Looks.of_pure rfl) rfl q
 .obtain⟨a,o,us,m,e1,e2,e3,e4⟩:=R.at i hi
  obtain⟨a',o',us',m',f1,f2,f3,f4⟩:=R.at j hj;rw[e1,f1]at e;cases e;rw[e2]at f2;cases f2;rw[e3]at f3;cases f3;exact W0 e4 f4
 .obtain⟨a,o,us,m,e1,e2,e3,e4⟩:=R.at i hi
  obtain⟨a',o',us',m',f1,f2,f3,f4⟩:=R.at j hj;rw[e1,f1];refine pK (k _ _ e2) e3 (k _ _ f2) f3<|zW e4 f4 ?_;have l1:us.toArray.size=(rs.getD i []).length:=by rw[aK,<-e4.length,aw]
  have l2:us'.toArray.size=(rs.getD j []).length:=by rw[aK,<-f4.length,aw]
  rw[l1,l2,JL];exact q
def qV{rs:List (List Int)}{n:Nat}(hn:rs.Nodup)(hl:rs.length=n):Sq.Ord n (λi j=>ltI (rs.getD i [])<|rs.getD j []):=by
 have hd:∀i j,i<n->j<n->i≠j->rs.getD i []≠rs.getD j []:=λi j hi hj ne e=>by
  simp only[aD]at e;have hi':i<rs.length:=by lia
  have hj':j<rs.length:=by lia
  refine ne<|(g9 hi' hn).mp ?_;rw[ag hi',ag hj']at e ⊢;exact congrArg aa e
 exact#[λi j hi hj ne e=>Us (hd i j hi hj ne) e,λi j _ _ e=>Ve e,λi j k _ _ _ e f=>GH e f]
def UD{α β:Type}(b:Bool)(f:α->β)(l:List α):bw b (l.map f)=(bw b l).map f:=by
 cases b
 .rfl
 .exact lx.symm
def V8{α:Type}(b:Bool)(l:List α):(bw b l).Perm l:=by
 cases b
 .exact cK _
 .exact fM l
def Xn{α:Type}{d:α}{b:Bool}{vs:List α}{i:Nat}(hi:i<vs.length):(bw b vs).getD i d=vs.getD (if b=ak then vs.length-1-i else i) d:=by
 cases b
 .rfl
 .show vs.reverse.getD i d=vs.getD (vs.length-1-i) d
  simp only[aD];rw[ip hi]
def ZaS{rs:List (List Int)}{b:Bool}{p:Array Nat}(hn:rs.Nodup)(h1:Sq.Pm rs.length p)(h2:Sq.Up (Sq.ltR b rs.length λi j=>ltI (rs.getD i [])<|rs.getD j []) p rs.length) :
  (p.toList.map λi=>(bw b rs).getD i [])=Ye rs:=by
 have hp:p.toList.Perm (aH rs.length):=by simpa using bJ.mp h1
 have hl:p.toList.length=rs.length:=by rw[hp.length_eq,br]
 refine Ua ?_ ?_<|WU hn
 .refine((hp.map _).trans ?_).trans (WK rs).symm
  have e:(aH rs.length).map (λi=>(bw b rs).getD i [])=bw b rs:=by
   apply cZ
   intro i;rw[aR];by_cases h:i<rs.length
   .have:i<(bw b rs).length:=by rw[eQ];exact h
    rw[cX h];simp[this]
   .have:(bw b rs).length<=i:=by rw[eQ];lia
    simp[fq h,this]
  rw[e];exact V8 b rs
 .rw[dF,bW]
  intro i j hi hj hij;have g1:p.toList[i]=Sq.g p i:=by
   have:=Sq.Zbd (by simpa using hi)
   rw[<-bC,ag hi]at this;exact am this
  have g2:p.toList[j]=Sq.g p j:=by
   have:=Sq.Zbd (by simpa using hj)
   rw[<-bC,ag hj]at this;exact am this
  rw[g1,g2,Xn (h1.lt<|by lia),Xn<|h1.lt<|by lia]
  have:=h2 i j hij (by lia)
  cases b
  .exact this
  .exact this
def jB{F:List Nat}{xs:List V}{rs:List (List Int)}(h:Rq ρ H (rs.map Pv.Zd) xs)(hF:∀i∈F,i<rs.length):Rq ρ H ((F.map λi=>rs.getD i []).map Pv.Zd) (F.map λi=>xs.getD i V.non):=by
 induction F with
 |nil=>exact Rq.nil
 |cons i F ih=>
  refine Rq.cons ?_<|ih λj hj=>hF j<|au _ hj
  have hi:=hF i<|ao ..;obtain⟨v,g,r⟩:=h.get (by rw[aR,ag hi];rfl)
  show Rep ρ H (Pv.Zd<|rs.getD i []) (xs.getD i V.non);rw[aD,aD,g,ag hi];exact r
def ye{F:List Nat}{xs:List V}{us:List aq}(h:Vals xs us)(hF:∀i∈F,i<xs.length):Vals (F.map λi=>xs.getD i V.non) (F.map λi=>us.getD i bI):=by
 induction F with
 |nil=>exact .nil
 |cons i F ih=>
  refine .cons ?_<|ih λj hj=>hF j<|au _ hj
  have hi:=hF i<|ao ..;obtain⟨u,g,r⟩:=h.get<|ag hi;show Zx (xs.getD i V.non) (us.getD i bI);rw[aD,aD,g,ag hi];exact r
def zj(h:Rq ρ H ds xs):Rq ρ H (bw b ds) (bw b xs):=by
 cases b
 .exact h
 .exact h.reverse
def zN :∀{xs:List V}{us:List aq},Vals xs us->Vals (bw b xs) (bw b us):=by
 cases b
 .exact λh=>h
 .have snoc:∀{xs:List V}{us:List aq}{x:V}{u:aq},Vals xs us->Zx x u->Vals (xs++[x]) (us++[u]):=by
   intro xs us x u h r
   induction h with|nil=>exact .cons r .nil|cons a _ ih=>exact .cons a ih
  intro xs us h;show Vals xs.reverse us.reverse
  induction h with|nil=>exact .nil|cons r t ih=>rw[eT,eT];exact snoc ih r
def Zda(b:Bool):List V->Hp->VK->Prop:=λvs H Q=>∃ρ ds rws v,vs=[v]/\Rep ρ H (.lst ds) v/\Pv.Yb ds=aa rws/\Wb rws=ak/\∀ys,Rq ρ H ((if b then(Ye rws).reverse else Ye rws).map Pv.Zd) ys->∀p,H p=ae->Q (.ref p) (upd H p<|.lst ys)
def u5{pq:List (aC×fD)}{s:aA}{σ:L2.St}{H:Hp}{vs:List V}{us:List aq}{Q:VK}{b:Bool}(I:Inv X pq σ H s)(r:Vals vs us)(h:Zda b vs H Q) :
  ∃(l:aC)(its:List aq)(rs:List (List Int)),us=[.ref l]/\s.heap.IsList l its.toArray/\its.length<=100000/\rs.length=its.length/\Sq.Ord its.length (λi j=>ltI (rs.getD i [])<|rs.getD j [])/\(∀A,Sq.Asks X.prog X.w A s.heap its (tuples' ak) λi j=>ltI (rs.getD i [])<|rs.getD j [])/\
   ∀p,Sq.Pm its.length p->Sq.Up (Sq.ltR b its.length λi j=>ltI (rs.getD i [])<|rs.getD j []) p its.length->
    EP X pq σ Q (.ref<|s.heap.objs.size+1) {s with heap:=sortedAll s.heap its (dg<|bw b<|p.toList.map λi=>(bw b its).getD i bI)}:=by
 obtain⟨ρ,ds,rws,v,rfl,r1,hrw,hok,h3⟩:=h;obtain⟨l,xs,rfl,hx,_,rx⟩:=r1.lst';obtain⟨u,rfl,ru⟩:=Ww r;cases ru;obtain⟨its,rv,pl,hz⟩:=I.list<|SqL.of hx;obtain⟨RA,ed⟩:=W2 I hrw rx rv;obtain⟨hok1,hok3⟩:=(aB _ _).mp hok;obtain⟨hok1,hok2⟩:=(aB _ _).mp hok1;have h64:=T6 hok1;have hnd:=T6 hok2;have hne:∀r∈rws,r≠[]:=λr hr e=>by
  have:=aS.mp hok3 r hr;rw[e]at this;cases this
 have hlen:=RA.length;refine#[l,its,rws,rfl,pl.isList,by lia,hlen,qV hnd hlen,λA=>uj RA hnd hne,λp hp hu=>?_]
 rw[<-hlen]at hp hu;have out:=ZaS hnd hp hu;have hmem:∀i∈p.toList,i<rws.length:=λi hi=>by
  have hp':p.toList.Perm (aH rws.length):=by simpa using bJ.mp hp
  exact bu.mp<|hp'.mem_iff.mp hi
 subst ed;have xl:xs.length=rws.length:=by rw[rx.length,aw]
 have rx1:Rq ρ H ((bw b rws).map Pv.Zd) (bw b xs):=by rw[<-UD];exact zj rx
 have rx2:=jB rx1 (by rw[eQ];exact hmem)
 rw[out]at rx2;have rx3:=zj (b:=b) rx2;have rv2:=zN (b:=b)<|ye (zN (b:=b) rv)<|by rw[eQ,xl];exact hmem
 have eb:(if b=ak then(Ye rws).reverse else Ye rws)=bw b (Ye rws):=rfl
 rw[eb,<-UD]at h3;obtain⟨ep,he⟩:=sortedAll_at s.heap its<|dg<|bw b<|p.toList.map λi=>(bw b its).getD i bI
 refine#[.ref<|s.heap.objs.size+1,_,I.laid (t':=s.toks) (λb ob q=>sortedAll_old q) (gM _) ?_,rfl,h3 _ rx3 _<|I.hok.fresh<|gM _]
 refine#[?_,_,ep,rv2,he];rw[eQ,aw,aM,hp.size,da];lia
def zv:ZB X (.builtin "sorted") (Zda ai):=by
 intro pq s σ H vs us Q I r h;obtain⟨l,its,rs,rfl,h1,h2,h3,h4,h5,h6⟩:=u5 I r h;exact Sq.WR h1 h2 h4 (h5 _) λp a b=>h6 p a b
end Sd
namespace Sd
open PySem PySem.Spec PyProof.Rows L2
open Ev (ltI)
open PySem.SeqAt PySem.MeetsSeq PySem.MeetsSeq2 PySem.MeetsSeq3 PySem.SeqRoads2
open PySem.AutoSeq1 (wpAny_loadPart')
def xm(l b:aC)(u v:List aq)(n n2:Nat)(dd dd2:Option aC)(sl sl2:Array (Option aq))(x y:List Int)(hx:Vals (x.map V.int) u)(hy:Vals (y.map V.int) v) :
  pC (fg.«tuple.__lt__» #[[.ref l,.ref b],[]]) (λA R s=>s.heap.get? l=aa {cls:=.type "tuple",dict:=dd,data:=.seq u.toArray n,slots:=sl}/\s.heap.get? b=aa {cls:=.type "tuple",dict:=dd2,data:=.seq v.toArray n2,slots:=sl2}/\R (.ok<|.ret<|.bool<|ltI x y) s):=
 .of_wp λprog w A R s h=>by
  obtain⟨hp,g,d,tk,os⟩:=s;obtain⟨hl,hb,h⟩:=h;have f2:=dP;rw[<-JL]at h
  wp_walk using iU hl,iU hb,wpAny_forIn_list _ (λrest b s'=>b.1=ae/\s'=#[hp,g,d,tk,os]/\∃x' y' u' v',rest=rF u' v'/\Vals (mv V.int x') u'/\Vals (mv V.int y') v'/\R (.ok<|.ret<|.bool<|QK (af<|x.length<y.length) x' y') #[hp,g,d,tk,os]) _
  case turn=>
   rintro ⟨a,c⟩ rest b s' ⟨hb',rfl,x',y',u',v',hz,hx',hy',hR⟩
   match x',y',u',v',hx',hy',hz,hR with
   |i::x',j::y',_::u',_::v',.cons ra ta,.cons rb tb,hz,hR=>
    obtain⟨t,rfl⟩:=ra;obtain⟨t',rfl⟩:=rb;rw[bR]at hz;injection hz with h1 h2
    cases h1;unfold QK at hR;refine aj<|lc ?_;by_cases e:i=j
    .rw[T9 e]at hR
     rw[beq_iff_eq.mpr e]
     wp_walk
     exact#[rfl,rfl,x',y',u',v',h2,ta,tb,hR]
    .rw[T8 e]at hR
     rw[beq_eq_false_iff_ne.mpr e];simp only[hV,if_true];refine aj<|fe<|aj<|PyProof.Rows.lt_int ?_
     wp_walk
     exact#[_,rfl,by simpa using hR]
   |[],_,_,_,.nil,_,hz,_=>rw[hU]at hz;cases hz
   |_::_,[],_,_,_,.nil,hz,_=>rw[gI]at hz;cases hz
  case fin=>
   rintro ⟨b1,b2⟩ s' ⟨hb',rfl,x',y',u',v',hz,hx',hy',hR⟩
   simp only at hb';subst hb';have hf:QK (af<|x.length<y.length) x' y'=af (x.length<y.length):=by
    match x',y',u',v',hx',hy',hz with
    |[],_,_,_,_,_,_=>rfl
    |_::_,[],_,_,_,_,_=>rfl
    |_::_,_::_,_::_,_::_,.cons _ _,.cons _ _,hz=>rw[bR]at hz;cases hz
   rw[hf]at hR;have l1:u.length=x.length:=by rw[<-hx.length,aw]
   have l2:v.length=y.length:=by rw[<-hy.length,aw]
   wp_walk
   exact#[_,rfl,by simpa[ig,l1,l2]using hR]
  case h=>
   exact#[rfl,rfl,x,y,u,v,by simp,hx,hy,h]
def Zcu{E:aq->aA->Prop}{Q:aq->aA->Prop}(ha:s.heap.get? a=aa o)(hc:o.cls=.type "tuple")(hd:o.data=.seq u.toArray m)(hx:Vals (x.map V.int) u)
  (hb:s.heap.get? b=aa o')(hc':o'.cls=.type "tuple")(hd':o'.data=.seq v.toArray m')(hy:Vals (y.map V.int) v)(hu:A.units<dH)(q:Q (.bool<|ltI x y) s):bn (aV prog w) A (cN .Lt (.ref a)<|.ref b) Q E s:=by
 obtain⟨cls,dd,data,sl⟩:=o;obtain⟨cls2,dd2,data2,sl2⟩:=o';simp only at hc hd hc' hd';subst hc hd hc' hd';exact lP (op:=.Lt) #[_,ha,rfl] #[_,hb,rfl] o6 oK (nV _ _) (xm a b u v m m' dd dd2 sl sl2 x y hx hy) #[ha,hb,#[(λx=>nomatch x),q]] hu
end Sd
namespace Sd
open Ev (ltI ltP VE Ym)
structure StrictB{α:Type}(lt:α->α->Bool):Prop where
 tot:∀{x y},x≠y->lt x y=ai->lt y x=ak
 asy:∀{x y},lt x y=ak->lt y x=ai
 tr:∀{x y z},lt x y=ak->lt y z=ak->lt x z=ak
theorem vm:∀{x y:List (List Int)},x≠y->ltP x y=ai->ltP y x=ak
 |[],[],h,_=>T7 rfl h
 |[],_::_,_,h=>by cases h
 |_::_,[],_,_=>rfl
 |a::x,b::y,h,e=>by
  unfold ltP at e ⊢;by_cases c:a=b
  .subst c
   rw[T9 rfl]at e ⊢;exact vm (λz=>h<|by rw[z]) e
  .rw[T8 c]at e
   rw[T8<|Ne.symm c];exact Us c e
theorem vX:∀{x y:List (List Int)},ltP x y=ak->ltP y x=ai
 |[],[],h=>by cases h
 |[],_::_,_=>rfl
 |_::_,[],h=>by cases h
 |a::x,b::y,e=>by
  unfold ltP at e ⊢;by_cases c:a=b
  .subst c
   rw[T9 rfl]at e ⊢;exact vX e
  .rw[T8 c]at e
   rw[T8<|Ne.symm c];exact Ve e
theorem jV:∀{x y z:List (List Int)},ltP x y=ak->ltP y z=ak->ltP x z=ak
 |[],[],_,h,_=>by cases h
 |_::_,[],_,h,_=>by cases h
 |_,_::_,[],_,h=>by cases h
 |[],_::_,_::_,_,_=>rfl
 |a::x,b::y,c::z,e,f=>by
  unfold ltP at e f ⊢;by_cases h1:a=b
  .subst h1
   rw[T9 rfl]at e;by_cases h2:a=c
   .subst h2
    rw[T9 rfl]at f ⊢;exact jV e f
   .rw[T8 h2]at f ⊢;exact f
  .rw[T8 h1]at e
   by_cases h2:b=c
   .subst h2
    rw[T8 h1];exact e
   .rw[T8 h2]at f
    have g:=GH e f;rw[T8 λz=>by subst z;rw[Ve e]at f;cases f]
    exact g
def Yw:StrictB ltP:=#[vm,vX,jV]
section
variable{α:Type}{lt:α->α->Bool}
theorem VP(x:α):∀l:List α,(VE lt x l).Perm (x::l)
 |[]=>cK _
 |y::r=>by
  unfold VE;split
  .exact cK _
  .exact((VP x r).cons y).trans<|mw x y r
theorem Y6:∀l:List α,(Ym lt l).Perm l
 |[]=>cK _
 |x::r=>(VP x<|Ym lt r).trans<|(Y6 r).cons x
theorem V0(O:StrictB lt)(x:α):∀{l:List α},(∀y∈l,x≠y)->l.Pairwise (λa b=>lt a b=ak)->(VE lt x l).Pairwise (λa b=>lt a b=ak)
 |[],_,_=>by exact fu ..
 |y::r,hn,h=>by
  rw[aZ]at h;unfold VE;split
  .rename_i c
   rw[aZ,aZ];refine#[λz hz=>?_,h]
   rcases ay.mp hz with rfl|hz
   .exact c
   .exact O.tr c<|h.1 z hz
  .rename_i c
   rw[aZ];refine#[λz hz=>?_,V0 O x (λy hy=>hn y<|au _ hy) h.2]
   rcases ay.mp ((VP x r).mem_iff.mp hz)with rfl|hz
   .exact O.tot (hn y<|ao ..) (by simpa using c)
   .exact h.1 z hz
theorem XR(O:StrictB lt):∀{l:List α},l.Nodup->(Ym lt l).Pairwise (λa b=>lt a b=ak)
 |[],_=>gU
 |x::r,h=>by
  rw[dy]at h;exact V0 O x (λy hy e=>h.1<|by rw[e];exact(Y6 r).mem_iff.mp hy)<|XR O h.2
theorem XN(O:StrictB lt):∀{a b:List α},a.Perm b->a.Pairwise (λx y=>lt x y=ak)->b.Pairwise (λx y=>lt x y=ak)->a=b
 |[],b,p,_,_=>(oH p)
 |x::a,[],p,_,_=>by have:=p.length_eq;simp at this
 |x::a,y::b,p,ha,hb=>by
  rw[aZ]at ha hb;have e:x=y:=by
   rcases ay.mp (p.mem_iff.mp<|ao ..)with h|h
   .exact h
   .rcases ay.mp (p.mem_iff.mpr (ao))with h2|h2
    .exact h2.symm
    .have z1:=hb.1 x h
     have z2:=ha.1 y h2;rw[O.asy z1]at z2;cases z2
  subst e;rw[XN O (pH x |>.mp p) ha.2 hb.2]
end
open PySem PySem.Spec PyProof.Rows L2
theorem GF:∀{x:List Int}{u:List aq}{j:Nat}(h:j<u.length),Vals (x.map V.int) u->∃t,u[j]=k9 (x.getD j 0) t
 |[],[],_,h,.nil=>by simp at h
 |_::_,_::_,0,_,.cons ra _=>by obtain⟨t,rfl⟩:=ra;exact#[t,rfl]
 |_::x,_::u,j+1,h,.cons _ ta=>by
  obtain⟨t,e⟩:=GF (by simpa using h) ta
  exact#[t,by simpa using e]
def Zfc:∀{x y:List Int},((aH<|pS x.length y.length).all (λj=>x.getD j 0 == y.getD j 0)&&x.length == y.length)=af (x=y):=by
 intro x y;rw[cS,aB,aS,decide_eq_true_iff]
 constructor
 .rintro ⟨h1,h2⟩
  have h2:x.length=y.length:=by simpa using h2
  apply ly h2;intro i hi hj;have:=h1 i<|bu.mpr<|by lia
  simpa[hi,hj]using this
 .rintro rfl
  exact#[λj _=>by simp,by simp]
def WX(h:ck)(r:List Int)(v:aq):Prop:=∃a o us m,v=.ref a/\h.get? a=aa o/\o.cls=.type "tuple"/\o.data=.seq us.toArray m/\Vals (r.map V.int) us
def WX.lat(k:Sq.Lat h h')(R:WX h r v):WX h' r v:=by
 obtain⟨a,o,us,m,e,ho,hc,hd,hv⟩:=R;exact#[a,o,us,m,e,k _ _ ho,hc,hd,hv]
def vP(hx:WX s.heap x v)(hy:WX s.heap y u)(hu:A.units<dH):iz A s v u (af<|x=y):=by
 obtain⟨a,o,us,m,rfl,ho,hc,hd,hv⟩:=hx;obtain⟨b,o',us',m',rfl,ho',hc',hd',hv'⟩:=hy;have l1:us.toArray.size=x.length:=by rw[aK,<-hv.length,aw]
 have l2:us'.toArray.size=y.length:=by rw[aK,<-hv'.length,aw]
 by_cases e:a=b
 .subst e
  rw[ho]at ho';cases ho';rw[hd]at hd';injection hd' with h1 h2
  have h1:us=us':=by simpa using h1
  subst h1;rw[T5<|W0 hv hv'];exact iN _
 .refine kx e ?_
  have:=kQ #[o,ho,hc,m,hd] #[o',ho',hc',m',hd'] hu (λj h1 h2=>by
   obtain⟨t,e1⟩:=GF (by simpa using h1) hv
   obtain⟨t',e2⟩:=GF (by simpa using h2) hv'
   rw[show us.toArray[j]=us[j]'(by simpa using h1) by simp,show us'.toArray[j]=us'[j]'(by simpa using h2) by simp,e1,e2]
   exact nv _ _ _ _)
  rw[l1,l2,Zfc]at this;exact this
def GY{E:aq->aA->Prop}{Q:aq->aA->Prop}(hx:WX s.heap x v)(hy:WX s.heap y u)(hu:A.units<dH)(q:Q (.bool<|ltI x y) s):bn (aV prog w) A (cN .Lt v u) Q E s:=by
 obtain⟨a,o,us,m,rfl,ho,hc,hd,hv⟩:=hx;obtain⟨b,o',us',m',rfl,ho',hc',hd',hv'⟩:=hy;exact Zcu ho hc hd hv ho' hc' hd' hv' hu q
noncomputable def QH(fin:Bool):List (List Int)->List (List Int)->Bool
 |[],_=>fin
 |_::_,[]=>fin
 |a::x,b::y=>if a=b then QH fin x y else ltI a b
theorem JW:∀(x y:List (List Int)),QH (af<|x.length<y.length) x y=ltP x y
 |[],[]=>rfl
 |[],_::_=>by unfold QH ltP;simp
 |_::_,[]=>by unfold QH ltP;simp
 |a::x,b::y=>by
  unfold QH ltP;have:af ((a::x).length<(b::y).length)=af (x.length<y.length):=by simp
  rw[this,JW x y]
inductive RowsIn(h:ck):List (List Int)->List aq->Prop where
 |nil:RowsIn h [] []
 |cons {r:List Int} {rs:List (List Int)} {v:aq} {vs:List aq} (a:WX h r v) (t:RowsIn h rs vs):RowsIn h (r::rs) (v::vs)
theorem RowsIn.lat(k:Sq.Lat h h'):∀{rs:List (List Int)}{vs:List aq},RowsIn h rs vs->RowsIn h' rs vs
 |_,_,.nil=>.nil
 |_,_,.cons a t=>.cons (a.lat k)<|RowsIn.lat k t
theorem RowsIn.length :∀{rs:List (List Int)}{vs:List aq},RowsIn h rs vs->rs.length=vs.length
 |_,_,.nil=>rfl
 |_,_,.cons _ t=>by rw[aJ,aJ,RowsIn.length t]
theorem G9{C:Bool->aA->Prop}(hu:A.units<dH):∀{x y:List (List Int)}{u v:List aq}{i:Nat},RowsIn s.heap x u->RowsIn s.heap y v->C (QH fin x y) s->pI prog w A ai fin C (u.zip v) i s
 |[],_,_,_,_,.nil,_,h=>by rw[hU];exact iT h
 |_::_,[],_,_,_,_,.nil,h=>by rw[gI];exact iT h
 |a::x,c::y,_,_,i,.cons ra ta,.cons rb tb,h=>by
  rw[bR];refine oI<|vP ra rb hu prog w _ _ ?_;unfold QH at h;by_cases e:a=c
  .rw[T9 e]at h
   rw[T5 e];exact oZ<|G9 hu ta tb h
  .rw[T8 e]at h
   rw[T4 e];refine pJ ?_;exact o4 _ _<|GY ra rb hu h
open Ev (E Sm Fn Bop Cop Ty Bf Mf Wu Ye Wb Z8)
section
variable{α:Type}{lt:α->α->Bool}{df:α}
theorem Zf6(O:StrictB lt){rs:List α}{n:Nat}(hn:rs.Nodup)(hl:rs.length=n):Sq.Ord n (λi j=>lt (rs.getD i df)<|rs.getD j df):=by
 have hd:∀i j,i<n->j<n->i≠j->rs.getD i df≠rs.getD j df:=λi j hi hj ne e=>by
  simp only[aD]at e;have hi':i<rs.length:=by lia
  have hj':j<rs.length:=by lia
  refine ne<|(g9 hi' hn).mp ?_;rw[ag hi',ag hj']at e ⊢;exact congrArg aa e
 exact#[λi j hi hj ne e=>O.tot (hd i j hi hj ne) e,λi j _ _ e=>O.asy e,λi j k _ _ _ e f=>O.tr e f]
theorem ZfN(O:StrictB lt)(hn:rs.Nodup)(h1:Sq.Pm rs.length p)(h2:Sq.Up (Sq.ltR b rs.length λi j=>lt (rs.getD i df)<|rs.getD j df) p rs.length) :
  (p.toList.map λi=>(bw b rs).getD i df)=Ym lt rs:=by
 have hp:p.toList.Perm (aH rs.length):=by simpa using bJ.mp h1
 have hl:p.toList.length=rs.length:=by rw[hp.length_eq,br]
 refine XN O ?_ ?_<|XR O hn
 .refine((hp.map _).trans ?_).trans (Y6 rs).symm
  have e:(aH rs.length).map (λi=>(bw b rs).getD i df)=bw b rs:=by
   apply cZ
   intro i;rw[aR];by_cases h:i<rs.length
   .have:i<(bw b rs).length:=by rw[eQ];exact h
    rw[cX h];simp[this]
   .have:(bw b rs).length<=i:=by rw[eQ];lia
    simp[fq h,this]
  rw[e];exact V8 b rs
 .rw[dF,bW]
  intro i j hi hj hij;have g1:p.toList[i]=Sq.g p i:=by
   have:=Sq.Zbd (by simpa using hi)
   rw[<-bC,ag hi]at this;exact am this
  have g2:p.toList[j]=Sq.g p j:=by
   have:=Sq.Zbd (by simpa using hj)
   rw[<-bC,ag hj]at this;exact am this
  rw[g1,g2,Xn (h1.lt<|by lia),Xn<|h1.lt<|by lia]
  have:=h2 i j hij (by lia)
  cases b
  .exact this
  .exact this
def uX{ρ:Mx}{H:Hp}{enc:α->D}{F:List Nat}{xs:List V}{rs:List α}(h:Rq ρ H (rs.map enc) xs)(hF:∀i∈F,i<rs.length):Rq ρ H ((F.map λi=>rs.getD i df).map enc) (F.map λi=>xs.getD i V.non):=by
 induction F with
 |nil=>exact Rq.nil
 |cons i F ih=>
  refine Rq.cons ?_<|ih λj hj=>hF j<|au _ hj
  have hi:=hF i<|ao ..;obtain⟨v,g,r⟩:=h.get (by rw[aR,ag hi];rfl)
  show Rep ρ H (enc<|rs.getD i df) (xs.getD i V.non);rw[aD,aD,g,ag hi];exact r
end
section
variable{X:Cx}{pq:List (aC×fD)}{σ:L2.St}{H:Hp}{s:aA}{ρ:Mx}
inductive PartsAt(h:ck):List (List (List Int))->List aq->Prop where
 |nil:PartsAt h [] []
 |cons {P:List (List Int)} {ps:List (List<|List Int)} {vs:List aq} {a:aC} {o:fD} {us:List aq} {m:Nat} (ho:h.get? a=aa o) (hc:o.cls=.type "tuple") (hd:o.data=.seq us.toArray m) (hv:RowsIn h P us) (t:PartsAt h ps vs):PartsAt h (P::ps) (.ref a::vs)
theorem RowsAt.ins{h:ck}:∀{rs:List (List Int)}{vs:List aq},RowsAt h rs vs->RowsIn h rs vs
 |_,_,.nil=>.nil
 |_,_,.cons ho hc hd hv t=>.cons #[_,_,_,_,rfl,ho,hc,hd,hv]<|RowsAt.ins t
def xT(h:Pv.YL (d::ds)=aa ps):∃ks a b,d=.tup ks/\Pv.Yb ks=aa a/\Pv.YL ds=aa b/\ps=a::b:=by
 cases d with
 |tup ks=>
  have h:(match Pv.Yb ks,Pv.YL ds with
   |some a,aa b=>aa (a::b)
   |_,_=>ae)=aa ps:=h
  cases q1:Pv.Yb ks with
  |none=>rw[q1]at h;cases h
  |some a=>
   cases q2:Pv.YL ds with|none=>rw[q1,q2]at h;cases h|some b=>rw[q1,q2]at h;exact#[ks,a,b,rfl,q1,rfl,(am h).symm]
 |_=>exact Ev.nos h
theorem zm(I:Inv X pq σ H s):∀{ds:List D}{ps:List (List<|List Int)}{xs:List V}{its:List aq},Pv.YL ds=aa ps->Rq ρ H ds xs->Vals xs its->PartsAt s.heap ps its/\ds=ps.map Pv.Zc
 |[],ps,xs,its,h,r,v=>by
  subst r;cases v;cases h;exact#[.nil,rfl]
 |d::ds,ps,xs,its,h,r,v=>by
  obtain⟨x,xs',rfl,r1,r2⟩:=r;cases v with
  |cons v1 v2=>
   obtain⟨ks,a,b,rfl,q1,q2,rfl⟩:=xT h;obtain⟨t,e⟩:=zm I q2 r2 v2;obtain⟨p,ys,rfl,hp,ry⟩:=r1.tup';cases v1;obtain⟨us,rv,⟨o,ho,hc,m,hd⟩,_⟩:=I.tuple<|SqT.of hp;obtain⟨ra,ek⟩:=W2 I q1 ry rv;exact#[.cons ho hc hd ra.ins t,by rw[e,ek];rfl]
theorem PartsAt.length :∀{ps:List (List<|List Int)}{vs:List aq},PartsAt h ps vs->ps.length=vs.length
 |_,_,.nil=>rfl
 |_,_,.cons _ _ _ _ t=>by rw[aJ,aJ,PartsAt.length t]
theorem PartsAt.at :∀{ps:List (List<|List Int)}{vs:List aq}(i:Nat),PartsAt h ps vs->i<vs.length->∃a o us m,vs.getD i bI=.ref a/\h.get? a=aa o/\o.data=.seq us.toArray m/\RowsIn h (ps.getD i []) us
 |_,_,_,.nil,hi=>by simp at hi
 |_,_,0,.cons ho hc hd hv t,_=>#[_,_,_,_,rfl,ho,hd,hv]
 |_,_,i+1,.cons ho hc hd hv t,hi=>by
  obtain⟨a,o,us,m,e1,e2,e3,e4⟩:=PartsAt.at i t (by simpa using hi)
  exact#[a,o,us,m,by simpa using e1,e2,e3,by simpa using e4]
theorem PartsAt.tups(k:Sq.Lat h h'):∀{ps:List (List<|List Int)}{vs:List aq},PartsAt h ps vs->(∀P∈ps,P≠[])->∃fs,o5 h' vs fs/\fs.length=vs.length/\∀v∈fs,∃r,WX h' r v
 |_,_,.nil,_=>#[[],.nil,rfl,λv hv=>by cases hv]
 |_,_,.cons (P:=P) ho hc hd hv t,hn=>by
  obtain⟨fs,t1,t2,t3⟩:=PartsAt.tups k t λr hr=>hn r<|au _ hr
  have hr:=hn P<|ao ..;cases hv with
  |nil=>exact T7 rfl hr
  |cons a tl=>
   rename_i r rs v vs
   refine#[v::fs,.cons (k _ _ ho) hc hd (by simp) t1,by rw[aJ,aJ,t2],λz hz=>?_]
   rcases ay.mp hz with rfl|hz
   .exact#[r,a.lat k]
   .exact t3 z hz
theorem UQ :∀{P P':List (List Int)}{us:List aq},RowsIn h P us->RowsIn h P' us->P=P'
 |_,_,_,.nil,.nil=>rfl
 |_,_,_,.cons r t,.cons r' t'=>by
  obtain⟨a,o,us,m,rfl,ho,_,hd,hv⟩:=r;obtain⟨a',o',us',m',e,ho',_,hd',hv'⟩:=r';cases e;rw[ho]at ho';cases ho';rw[hd]at hd';cases hd';rw[W0 hv hv',UQ t t']
theorem xj(hu:A.units<dH)(R:PartsAt h ps vs)(nd:ps.Nodup)(hn:2<=vs.length->∀P∈ps,P≠[]):Sq.Asks prog w A h vs (tuples' ai) (λi j=>ltP (ps.getD i [])<|ps.getD j []):=by
 refine#[λh2 s' E Q k q=>?_,yr (df:=[]) R.length nd λi j hi hj e=>?_,λi j hi hj s' C E k q=>?_]
 .obtain⟨fs,t1,t2,t3⟩:=R.tups k (hn h2)
  exact oJ (T:=.type "tuple") t1 (by lia) (λv hv=>by
   obtain⟨r,a,o,us,m,rfl,ho,hc,_,_⟩:=t3 v hv;exact λA Q E s kk qq=>i8 #[o,kk _ _ ho,hc] qq) rfl q
 .obtain⟨a,o,us,m,e1,e2,e3,e4⟩:=R.at i hi
  obtain⟨a',o',us',m',f1,f2,f3,f4⟩:=R.at j hj;rw[e1,f1]at e;cases e;rw[e2]at f2;cases f2;rw[e3]at f3;cases f3;exact UQ e4 f4
 .obtain⟨a,o,us,m,e1,e2,e3,e4⟩:=R.at i hi
  obtain⟨a',o',us',m',f1,f2,f3,f4⟩:=R.at j hj;rw[e1,f1];refine pK (k _ _ e2) e3 (k _ _ f2) f3<|G9 hu (e4.lat k) (f4.lat k) ?_;have l1:us.toArray.size=(ps.getD i []).length:=by rw[aK,<-e4.length]
  have l2:us'.toArray.size=(ps.getD j []).length:=by rw[aK,<-f4.length]
  rw[l1,l2,JW];exact q
end
def x6(hu:X.A.units+2<dH)(I:Inv X pq σ H s)(r:Vals [v] us)(r1:Rep ρ H (.lst ds) v)
  (hps:Pv.YL ds=aa ps)(hok:Z8 ps=ak)(h3:∀ys,Rq ρ H ((Ym ltP ps).map Pv.Zc) ys->∀p,H p=ae->Q (.ref p) (upd H p<|.lst ys)):bn (aV X.prog X.w) X.A (call (.builtin "sorted") us) (EP X pq σ Q) X.xe s:=by
 obtain⟨l,xs,rfl,hx,_,rx⟩:=r1.lst';obtain⟨u,rfl,ru⟩:=Ww r;cases ru;obtain⟨its,rv,pl,hz⟩:=I.list<|SqL.of hx;obtain⟨RA,ed⟩:=zm I hps rx rv;have hlen:=RA.length;obtain⟨hok1,hok3⟩:=(aB _ _).mp hok;obtain⟨hok1,hok2⟩:=(aB _ _).mp hok1;have h64:=T6 hok1;have hnd:=T6 hok2;refine Sq.WR pl.isList (by lia) (Zf6 Yw hnd hlen) (xj hu RA hnd λh2 P hP e=>?_) λp hp hu2=>?_
 .rcases(gC _ _).mp hok3 with h|h
  .have:=T6 h;lia
  .have:=aS.mp h P hP
   rw[e]at this;cases this
 rw[<-hlen]at hp hu2;have out:=ZfN Yw hnd hp hu2
 have hmem:∀i∈p.toList,i<ps.length:=λi hi=>by
  have hp':p.toList.Perm (aH ps.length):=by simpa using bJ.mp hp
  exact bu.mp<|hp'.mem_iff.mp hi
 subst ed;have xl:xs.length=ps.length:=by rw[rx.length,aw]
 have rx2:=uX (df:=[]) rx hmem;have out':(p.toList.map λi=>ps.getD i [])=Ym ltP ps:=out
 rw[out']at rx2;have rv2:=ye rv (by rw[xl];exact hmem)
 obtain⟨ep,he⟩:=sortedAll_at s.heap its<|dg<|p.toList.map λi=>its.getD i bI
 refine#[.ref<|s.heap.objs.size+1,_,I.laid (t':=s.toks) (λb ob q=>sortedAll_old q) (gM _) ?_,rfl,h3 _ rx2 _<|I.hok.fresh<|gM _]
 refine#[?_,_,ep,rv2,he];rw[aw,aM,hp.size,da];lia
def Qg(hu:X.A.units+7<dH):ZB X (.builtin "sorted") (zE X.K xw .sorted):=by
 intro pq s σ H vs us Q I r #[ρ,S,ds,st,rs,H0,S0,f0,s0,h];obtain⟨d,v,z,rfl,r1,hz,h⟩:=WS h rs;cases d with
 |lst ds=>
  have hz:(if Pv.ZcJ ds=ak then(Pv.Yb ds).bind λrs=>if Wb rs=ak then aa (.lst<|(Ye rs).map Pv.Zd)else ae else(Pv.YL ds).bind λps=>if Z8 ps=ak then aa (.lst<|(Ym ltP ps).map Pv.Zc)else ae)=aa z:=hz
  split at hz
  .obtain⟨rws,hr,hz⟩:=cJ.mp hz
   split at hz
   .cases hz;exact zv pq s σ H [v] us Q I r #[ρ,ds,rws,v,rfl,r1,hr,‹_›,λys r=>h.newF f0 s0 st r]
   .cases hz
  .obtain⟨ps,hr,hz⟩:=cJ.mp hz
   split at hz
   .cases hz;exact x6 (by lia) I r r1 hr ‹_› λys r=>h.newF f0 s0 st r
   .cases hz
 |_=>exact Ev.nos hz
def Ue:isSubtype (.type "range_iterator") (.type "reversed")=cD ai:=by rw[isSubtype_type];kernel_rfl
section
variable{prog:bH}{w:bV}{A:cC}{E:aq->aA->Prop}{s:aA}
noncomputable abbrev Zbj(lo:Int)(n:Nat):fD:={cls:=.type "range_iterator",data:=.fields [gO<|lo+n-1,gO n,gO<|-1].toArray}
theorem Wv{r:aC}{lo hi:Int}{t u v:pU}{Q:aq->aA->Prop}(hr:IsRange s.heap r lo hi 1 t u v)(h1:-(2^62)<=lo)(h2:lo<2^62)(h3:-(2^62)<=hi)(h4:hi<2^62)
  (h:Q (.ref s.heap.objs.size) {s with heap:=s.heap.push (Zbj lo (hi-lo).toNat)}):bn (aV prog w) A (call (.builtin "range.__reversed__") [.ref r]) Q E s:=by
 refine dA F.slot_range_reversed #[_,hr,rfl] F.entry_range_reversed ?_<|F.args_range_reversed_1 _;unfold fg.«range.__reversed__»;refine aj<|eA rfl ?_;refine aj<|aj<|cn hr rfl rfl ?_;refine aj<|eA rfl ?_;refine aj<|cn hr rfl rfl ?_;refine aj<|eA rfl ?_;refine aj<|cn hr rfl rfl ?_;refine aj<|eA rfl ?_;refine aF ?_
 have hn:fj lo hi 1=((hi-lo).toNat:Int):=by rw[mO];split<;>lia
 have hs:(cz lo&&cz hi&&cz 1&&cz (-1)&&cz (lo-1)&&cz (fj lo hi 1))=ak:=by
  rw[hn];simp only[cz,aB,T0];lia
 simp only[hs,iE,cP,if_false,if_true];refine aj<|cu<|aF #[_,rfl,?_];rw[hn];have e:lo+(((hi-lo).toNat:Int)-1)*1=lo+((hi-lo).toNat:Int)-1:=by lia
 simp only[e];exact h
def Ws{r:aC}{lo hi:Int}{t u v:pU}{Q₁:aq->aA->Prop}(hr:IsRange s.heap r lo hi 1 t u v)(h1:-(2^62)<=lo)(h2:lo<2^62)(h3:-(2^62)<=hi)(h4:hi<2^62)
  (h:Q₁ (.ref s.heap.objs.size) {s with heap:=s.heap.push (Zbj lo (hi-lo).toNat)}) :
  eS (aV prog w) A (.call (.builtin "reversed.__new__") #[[.type "reversed",.ref r],[]]) (wants Q₁ E) s:=by
 refine codeAny_of_tree ?_;refine aj<|eA (F.newCall_reversed_1 _)<|aF #[plainId_quiet my _,codeAny_builtin F.entry_reversed_new ?_];rw[cC.under_plainId my _];unfold fg.«reversed.__new__»;refine aj<|eA (newClass_reversed _) ?_
 try dsimp only
 refine aj (eA (by first|rfl|kernel_rfl) ?_)
 refine aj (eA (by first|rfl|kernel_rfl) ?_)
 try dsimp only
 refine aj<|wpAny_specialOf #[_,hr,rfl] F.slot_range_reversed.lookup ?_
 try dsimp only
 refine aj<|eA (F.slot_range_reversed.bind _) ?_
 try dsimp only
 first
 |rw[T8 (aN)]
 |(rw[T8<|show¬((iF "range.__reversed__" == bI)=ak)from aN])
 refine aj<|fe ?_;refine aj<|Wv hr h1 h2 h3 h4 ?_
 first
 |exact aF h
 |exact aj<|aF<|aF h
def Wt{r:aC}{lo hi:Int}{t u v:pU}{Q:aq->aA->Prop}(hr:IsRange s.heap r lo hi 1 t u v)(h1:-(2^62)<=lo)(h2:lo<2^62)(h3:-(2^62)<=hi)(h4:hi<2^62)
  (h:Q (.ref s.heap.objs.size) {s with heap:=s.heap.push (Zbj lo (hi-lo).toNat)}):bn (aV prog w) A (call (.type "reversed") [.ref r]) Q E s:=by
 refine callType_other (Q₁:=λobj s₁=>obj=.ref s.heap.objs.size/\s₁={s with heap:=s.heap.push (Zbj lo (hi-lo).toNat)}) (by decide +kernel) F.create_reversed #[_,_,F.mro_reversed] F.made_reversed Ue (F.typeCall_reversed_1 _) (Ws hr h1 h2 h3 h4 #[rfl,rfl]) ?_
 rintro obj s₁ ⟨rfl,rfl⟩
 exact#[#[_,aQ _ rfl,rfl],h]
end
noncomputable def Itrv(lo:Int)(n:Nat):It:=#[λi _=>i<n,λi H x H'=>H'=H/\x=.int (lo+n-1-i),λi _=>n<=i]
def yv{P:bH}{w:bV}{K:al}{tg:Expr}(it:aC)(lo:Int)(n:Nat):Turn P w K tg (Itrv lo n) [it] it (λi h=>IsRangeIter h it (lo+n-1+(i:Nat)*(-1)) ((n:Int)-(i:Nat))<|-1) where
 mem:=by simp
 obj:=λi h st b hb=>by
  have e:b=it:=by simpa using hb
  subst e;exact#[_,st,λv z=>by
   have z':=z;cases z']
 keep:=λi h h' st k=>k it (by simp) _ st
 item:=by
  intro X hP hw hK hc i pq s σ H E I hf st hg;subst hP hw hK;obtain⟨f0,f1,f2,f3,f4,f5⟩:=hf it (by simp)
  have W:=Walks.range (prog:=X.prog) (w:=X.w) (I.ok.hd hc) it (lo+n-1) (-1) n;refine W.item i s _ _ hg st λv h' tk hv st' kk=>?_
  obtain⟨t,rfl⟩:=hv;have I1:Inv X pq σ H {s with heap:=h',toks:=tk}:=I.turned (λb o hb e=>kk b o (by simpa using hb) e) f0 f1 f3 f4 f5
  refine#[_,rfl,wV st' rfl rfl (by decide) #[.int<|lo+n-1-i,H,I1,#[t,?_],#[rfl,rfl],st',λb hb=>(hf b hb).1]]
  have e:lo+n-1+(i:Int) * -1=lo+n-1-i:=by lia
  rw[e]
 done:=by
  intro X hP hw hK hc i pq s σ H E I hf st hg;subst hP hw hK;obtain⟨f0,f1,f2,f3,f4,f5⟩:=hf it (by simp)
  exact lI (I.ok.hd hc) st (by have:n<=i:=hg;lia) λh' eb=>#[rfl,I.turned (t':=s.toks) (λb o hb e=>eb b o hb e) f0 f1 f3 f4 f5]
 self:=λ_ _ _ _ _ st h=>gP st h
section
variable{X:Cx}{xw:Nat->Hp->Prop}{C:Calls}{a b tg:Expr}{i j:E}{pos p p2 p3:fO}
def Zfy(ta:TA):TI:=λσ H R=>ta σ H λvs H1=>∃i j:Int,vs=[.int i,.int j]/\(-(2^62)<=i/\i<2^62/\-(2^62)<=j/\j<2^62)/\R (Itrv i (j-i).toNat) H1
theorem uz{ta:TA}(hgr:Gl X "reversed")(hmr:X.mg "reversed" = ae)(hg:Gl X "range")(hm:X.mg "range" = ae)(ha:PA X [a,b] ta)(hs:az [a,b] X.env=[(ai,bY a X.env),(ai,bY b X.env)])(hs2:az [b] X.env=[(ai,bY b X.env)]) :
  PI X tg (.Call (.Name "reversed" p) [.Call (.Name "range" p2) [a,b] [] p3] [] pos) (Zfy ta):=by
 intro pq s σ H R I h;refine pf<|Xc I hgr hmr (rfl)<|bP (Calls.spliced_cons ?_) rfl rfl
 refine pf<|Xc I hg hm m5<|bP (thn (ha p3 pq s σ H _ I h) λus s1 #[vs,H1,I1,r1,q1]=>?_) (by rw[hs,hs2])<|by rw[hs2];rfl
 obtain⟨lo,hi,e,⟨q1,q2,q3,q4⟩,q⟩:=q1;subst e;cases r1 with
 |cons r rr=>
  cases rr with
  |cons r' rr=>
   cases rr;obtain⟨t,rfl⟩:=r;obtain⟨t',rfl⟩:=r';refine call_range_2<|Calls.spliced_nil ?_;refine Wt (oN ..) q1 q2 q3 q4 ?_;have I2:Inv X pq σ H1 {s1 with heap:=s1.heap.push {cls:=.type "range",data:=.fields [.int lo t,.int hi t',.int 1 s1.toks].toArray},toks:=s1.toks+1}:=I1.kept λb o e=>ax _ e
   have I3:=I2.kept (t':=s1.toks+1) (h':=(s1.heap.push {cls:=.type "range",data:=.fields [.int lo t,.int hi t',.int 1 s1.toks].toArray}).push<|Zbj lo (hi-lo).toNat) λb o e=>ax _ e
   refine gP (aQ _ rfl) ?_;refine#[_,[(s1.heap.push {cls:=.type "range",data:=.fields [.int lo t,.int hi t',.int 1 s1.toks].toArray}).objs.size],_,_,H1,rfl,I3,yv _ lo (hi-lo).toNat,?_,λb hb=>?_,q]
   .rw[show lo+((hi-lo).toNat:Int)-1+((0:Nat):Int)*(-1)=lo+((hi-lo).toNat:Int)-1 by lia,show(((hi-lo).toNat:Nat):Int)-((0:Nat):Int)=((hi-lo).toNat:Int) by lia]
    exact aQ _ rfl
   .have e:b=(s1.heap.push {cls:=.type "range",data:=.fields [.int lo t,.int hi t',.int 1 s1.toks].toArray}).objs.size:=by simpa using hb
    subst e;exact I2.fpOk (aG _)<|I2.hok.fresh<|aG _
theorem xn{lo:Int}{n i:Nat}(h:i<n):(Pv.ZS lo n).reverse[i]?=aa (.int<|lo+n-1-i):=by
 unfold Pv.ZS;rw[<-lx,aR,ip (by simpa using h),br,cX<|by lia]
 simp only[Option.map_some]
 congr 2
 lia
def v8{K:al}{ρ:Mx}{H:Hp}{lo:Int}{n:Nat}:WRel K ρ H (Pv.ZS lo n).reverse (Itrv lo n) where
 go:=λi ρ' S' H' f st hi=>by
  have hi':i<n:=by simpa[Pv.ZS]using hi
  refine#[hi',λx H'' #[e,hx]=>?_]
  subst e hx;refine#[Fut.refl _ _,st,λd hd=>?_]
  rw[xn hi']at hd;cases hd;exact ZO _
 stop:=λρ' S' H' f st=>by show n<=((Pv.ZS lo n).reverse).length;simp[Pv.ZS]
def JP(hmr:X.mg "reversed" = ae)(hm:X.mg "range" = ae)(ha:CA X xw C [a,b] [i,j])(hgr:Gl X "reversed":=by rfl)(hg:Gl X "range":=by rfl)(hs:az [a,b] X.env=[(ai,bY a X.env),(ai,bY b X.env)]:=by rfl)(hs2:az [b] X.env=[(ai,bY b X.env)]:=by rfl) :
  CW X xw C tg (.Call (.Name "reversed" p) [.Call (.Name "range" p2) [a,b] [] p3] [] pos) (.rrng i j):=
 PI.imp (uz hgr hmr hg hm ha hs hs2) λσ H Q #[ρ,l,S,st,lr,h]=>Zai st lr h λx y S1 ρ1 H1 v u st1 rv ru h1=>by
  cases x with
  |int n=>cases y with
   |int m=>
    obtain⟨hs,h3⟩:=End.guard h1;obtain⟨s1,s2⟩:=(aB _ _).mp hs;exact#[n,m,by rw[rv.int',ru.int'],#[(Yi s1).1,(Yi s1).2,(Yi s2).1,(Yi s2).2],End.ok h3 st1 v8]
   |_=>exact False.elim h1
  |_=>exact False.elim h1
end
open PySem.SeqAt PySem.MeetsSeq PySem.MeetsSeq2 PySem.MeetsSeq3 PySem.SeqRoads2
open PySem.AutoSeq1 (wpAny_loadPart')
def we(l b:aC)(u v:List aq)(n n2:Nat)(dd dd2:Option aC)(sl sl2:Array (Option aq))(x y:List (List Int)) :
  pC (fg.«tuple.__lt__» #[[.ref l,.ref b],[]]) (λA R s=>s.heap.get? l=aa {cls:=.type "tuple",dict:=dd,data:=.seq u.toArray n,slots:=sl}/\s.heap.get? b=aa {cls:=.type "tuple",dict:=dd2,data:=.seq v.toArray n2,slots:=sl2}/\A.units+1<dH/\RowsIn s.heap x u/\RowsIn s.heap y v/\R (.ok<|.ret<|.bool<|ltP x y) s):=
 .of_wp λprog w A R s h=>by
  obtain⟨hp,g,d,tk,os⟩:=s;obtain⟨hl,hb,hu,hx,hy,h⟩:=h;have f2:=dP;rw[<-JW]at h
  wp_walk using iU hl,iU hb,wpAny_forIn_list _ (λrest b s'=>b.1=ae/\s'=#[hp,g,d,tk,os]/\∃x' y' u' v',rest=rF u' v'/\RowsIn hp x' u'/\RowsIn hp y' v'/\R (.ok<|.ret<|.bool<|QH (af<|x.length<y.length) x' y') #[hp,g,d,tk,os]) _
  case turn=>
   rintro ⟨a,c⟩ rest b s' ⟨hb',rfl,x',y',u',v',hz,hx',hy',hR⟩
   match x',y',u',v',hx',hy',hz,hR with
   |i::x',j::y',_::u',_::v',.cons ra ta,.cons rb tb,hz,hR=>
    rw[bR]at hz;injection hz with h1 h2
    cases h1;unfold QH at hR;refine aj<|vP ra rb (by lia) prog w _ _ ?_
    by_cases e:i=j
    .rw[T9 e]at hR
     rw[T5 e]
     wp_walk
     exact#[rfl,rfl,x',y',u',v',h2,ta,tb,hR]
    .rw[T8 e]at hR
     rw[T4 e];simp only[hV,if_true];refine aj<|fe<|aj<|GY ra rb (by lia) ?_
     wp_walk
     exact#[_,rfl,by simpa using hR]
   |[],_,_,_,.nil,_,hz,_=>rw[hU]at hz;cases hz
   |_::_,[],_,_,_,.nil,hz,_=>rw[gI]at hz;cases hz
  case fin=>
   rintro ⟨b1,b2⟩ s' ⟨hb',rfl,x',y',u',v',hz,hx',hy',hR⟩
   simp only at hb';subst hb';have hf:QH (af<|x.length<y.length) x' y'=af (x.length<y.length):=by
    match x',y',u',v',hx',hy',hz with
    |[],_,_,_,_,_,_=>rfl
    |_::_,[],_,_,_,_,_=>rfl
    |_::_,_::_,_::_,_::_,.cons _ _,.cons _ _,hz=>rw[bR]at hz;cases hz
   rw[hf]at hR;have l1:u.length=x.length:=by rw[<-hx.length]
   have l2:v.length=y.length:=by rw[<-hy.length]
   wp_walk
   exact#[_,rfl,by simpa[ig,l1,l2]using hR]
  case h=>
   exact#[rfl,rfl,x,y,u,v,by simp,hx,hy,h]
def Zbc{E:aq->aA->Prop}{Q:aq->aA->Prop}(ha:s.heap.get? a=aa o)(hc:o.cls=.type "tuple")(hd:o.data=.seq u.toArray m)(hx:RowsIn s.heap x u)
  (hb:s.heap.get? b=aa o')(hc':o'.cls=.type "tuple")(hd':o'.data=.seq v.toArray m')(hy:RowsIn s.heap y v)(hu:A.units+3<dH)(q:Q (.bool<|ltP x y) s):bn (aV prog w) A (cN .Lt (.ref a)<|.ref b) Q E s:=by
 obtain⟨cls,dd,data,sl⟩:=o;obtain⟨cls2,dd2,data2,sl2⟩:=o';simp only at hc hd hc' hd';subst hc hd hc' hd';exact lP (op:=.Lt) #[_,ha,rfl] #[_,hb,rfl] o6 oK (nV _ _) (we a b u v m m' dd dd2 sl sl2 x y) #[ha,hb,by first|exact hu|(lia)|lia,hx,hy,#[(λx=>nomatch x),q]] (by lia)
def vH(hu:X.A.units+7<dH):X0 X xw .Lt .lt:=by
 intro pq s σ H v0 u0 v u Q I rv ru #[ρ,S,x,y,st,rx,ry,h];rcases ZfG st rx ry h with z|⟨a,b,A,B,rfl,rfl,hA,hB,q⟩
 .exact ZeY pq s σ H v0 u0 v u Q I rv ru z
 .obtain⟨p1,xs,rfl,hp1,r1⟩:=rx.tup'
  obtain⟨p2,ys,rfl,hp2,r2⟩:=ry.tup';cases rv;cases ru;obtain⟨us,w1,⟨o,ho,hc,m,hd⟩,_⟩:=I.tuple<|SqT.of hp1;obtain⟨us',w2,⟨o',ho',hc',m',hd'⟩,_⟩:=I.tuple<|SqT.of hp2;obtain⟨ra,_⟩:=W2 I hA r1 w1;obtain⟨rb,_⟩:=W2 I hB r2 w2;exact Zbc ho hc hd ra.ins ho' hc' hd' rb.ins (by lia) #[.bl<|ltP A B,H,I,rfl,q]
end Sd
namespace Sd
open PySem PySem.Spec PyProof.Rows L2
open Ev (E Sm Fn Bop Cop Ty Bf Mf)
abbrev upI(i:Nat)(v:aq):Prop:=∃t,v=.int (0+i*1) t
theorem vV:∀(us:List aq)(a:Int),(∀(j:Nat) v,us[j]?=aa v->∃t,v=.int (a+j) t)->Vals ((aH us.length).map λ(k:Nat)=>V.int<|a+(k:Int)) us
 |[],_,_=>.nil
 |u::us,a,h=>by
  rw[aJ,gW,aW,bT];obtain⟨t,e⟩:=h 0 u rfl;refine .cons #[t,e] ?_;have:=vV us (a+1) λj v hj=>by
   obtain⟨t,e⟩:=h (j+1) v (by simpa using hj)
   exact#[t,by rw[e];congr 1;lia]
  refine Eq.mp ?_ this
  congr 2
  funext k
  congr 1;lia
def Zb8{acc:Array aq}{n:Nat}(h:ItemsOf upI acc n):Vals ((aH n).map λ(k:Nat)=>V.int<|0+(k:Int)) acc.toList:=by
 have:=vV acc.toList 0 λj v hj=>by
  obtain⟨t,e⟩:=h.2 j v (by simpa using hj)
  exact#[t,by rw[e];congr 1;lia]
 rw[aM,h.1]at this;exact this
section
variable{X:Cx}{xw:Nat->Hp->Prop}{fr:Bool}{C:Calls}{ns:List Nat}{e a:Expr}{i:E}{pos p p' p2:fO}{n:Nat}{x:bi}{q:Option bi}
def J7{q}(ha:CE X xw C a i):CE X xw C (.Subscript a (.Constant (.int 0) q p2) pos) (.dix i ai):=PE.imp (vz Uw ha WG<|by intro _ _;with_unfolding_all rfl)<|by
 rintro σ H Q ⟨ρ,l,S,st,lr,h⟩;rw[Pv.pv]at h;refine#[ρ,l,S,st,lr,h.bind λx S1 ρ1 H1 v f1 st1 r1 h1=>?_]
 cases x with|drw=>obtain⟨p,rfl,hn⟩:=r1.drw';exact#[p,_,0,_,rfl,rfl,SqL.of (st1.dw p hn).1,rfl,End.ok h1 st1<|ZO _]|_=>exact h1.elim
def Gp{q}(ha:CE X xw C a i):CE X xw C (.Subscript a (.Constant (.int 1) q p2) pos) (.dix i ak):=PE.imp (vz Uw ha WG<|by intro _ _;with_unfolding_all rfl)<|by
 rintro σ H Q ⟨ρ,l,S,st,lr,h⟩;rw[Pv.pv]at h;refine#[ρ,l,S,st,lr,h.bind λx S1 ρ1 H1 v f1 st1 r1 h1=>?_]
 cases x with|drw=>obtain⟨p,rfl,hn⟩:=r1.drw';exact#[p,_,1,_,rfl,rfl,SqL.of (st1.dw p hn).1,rfl,End.ok h1 st1<|Yg _]|_=>exact h1.elim
def JZ{q}(he:CE X xw C e i)(hN:X.N[n]?=aa x:=by rfl)(hv:Vis X.env.scope x:=by first|exact fS rfl|exact ei<|fS rfl|exact ei<|ei rfl)(hd:(x == ("__debug__" : bi))=ai:=by decide)
  (hcd:(x == ("__classdict__" : bi))=ai:=by decide)
  (ha:∀v,ej (.Subscript (.Name x p') (.Constant (.int 0) q p2) p) X.env v=(do
   let ov <-gN [v] (bY (.Name x p') X.env)
   let iv <-gN [v,ov] (bY (.Constant (.int 0) q p2) X.env)
   i6 p
   gN [v,ov,iv] (setItem ov iv v)
   release [v,ov,iv] []):=by intro _;rfl)(hs:eY [.Subscript (.Name x p') (.Constant (.int 0) q p2) p] e pos.line X.env=cD ai:=by rfl)(hw:eZ [.Subscript (.Name x p') (.Constant (.int 0) q p2) p] e X.env=cD ae:=by rfl)
  (h1:(cy [.Subscript (.Name x p') (.Constant (.int 0) q p2) p] X.env).map (·.2)=[ej (.Subscript (.Name x p') (.Constant (.int 0) q p2) p) X.env]:=by rfl):CS X xw fr C ns (.Assign [.Subscript (.Name x p') (.Constant (.int 0) q p2) p] e pos) (.dset n i):=
 PS.imp (Vy he (ZdX (Yk hN hv hd hcd) WG (qK) ha) hs hw h1)<|by
 rintro D σ H ⟨ρ,H0,W,l,os,S,st,en,h⟩;rw[Pv.rv]at h;refine#[ρ,l,S,st,en.all,ZK.bind en h λy S1 H1 v f1 st1 r1 h1=>?_]
 cases y with
 |int y=>
  obtain⟨hk,h1⟩:=h1.guard;have hx:l[n]?=aa (aa .drw):=by
   cases z:l[n]? with
   |none=>rw[z]at h1;exact h1.elim
   |some o=>cases o with
    |none=>rw[z]at h1;exact h1.elim
    |some d=>cases d<;>rw[z]at h1<;>first|rfl|exact h1.elim
  rw[hx]at h1;obtain⟨u,hu,r⟩:=(en.mono f1).all.val n .drw hx;obtain⟨a,rfl,hn⟩:=r.drw';obtain⟨e1,_⟩:=st1.dw a hn;refine#[.ref a,hu,a,_,0,0,rfl,rfl,e1,rfl,?_];rw[r1.int'];have f2:Fut ρ H1 ρ (upd H1 a<|.lst [.int y,.bl S1.2]):=#[rfl,λb o z=>by
   by_cases c:b=a
   .subst c;rw[e1]at z;cases z;exact .inr<|.inl #[hn,_,rfl]
   .exact .inl<|by rw[Zj c];exact z]
  refine h1 _ σ W #[st1.hk,λb x=>?_,λb x=>?_,st1.tb.upd (λo u z=>by rw[e1]at z;cases z) λ_ z=>by cases z]<|(en.mono f1).mono f2
  .by_cases c:b=a
   .rw[c];rw[Zl];intro z;cases z
   .rw[Zj c];exact st1.xd b x
  .rw[hn]at x
   cases x;exact#[Zl,hk]
 |_=>exact h1.elim
end
open Ev in
noncomputable def WA:Fn:=#[2,4,
 [.ite (.dix (.v 0) ak) [.asg [2]<|.bin .mod (.dix (.v 0) ai)<|.v 1,
  .dset 0 (.bin .fdiv (.dix (.v 0) ai)<|.v 1),
  .ret (.v 2)] [],
  .dset 0 (.bin .mod (.bin .add (.bin .mul (.dix (.v 0) ai)<|.c<|.int 48271)<|.c<|.int 29)<|.c<|.int 2147483647),
  .asg [3] (.bin .mod (.bin .add (.bin .add (.bin .mul (.dix (.v 0) ai)<|.dix (.v 0) ai)<|.bin .mul (.c<|.int 39373)<|.dix (.v 0) ai)<|.c<|.int 7)<|.c<|.int 2147483629),
  .asg [3] (.bin .mod (.bin .add (.bin .mul (.v 3)<|.v 3)<|.bin .mul (.c<|.int 16807)<|.v 3)<|.c<|.int 2147483587),
  .ret (.bin .mod (.bin .fdiv (.v 3)<|.c<|.int 8)<|.v 1)]]
open Ev Pv in
def Wi(h0:0<=a)(h:a<4294967296):fits a=ak:=by
 refine T5 ?_;have h1:a.natAbs<2^32:=by lia
 exact bv h1<|dC (by decide)<|by decide
open Ev Pv in
def Z3(h:okS s.1 s.2=ak)(m0:0<m)(m1:m<1073741824):JN C WA [.drw,.int m] s=.ok (.int (We s m).1) (We s m).2:=by
 obtain⟨a,b⟩:=s;have hm:muts WA.body=[]:=rfl;unfold JN;rw[hm];have ha:=T6 ((aB _ _).mp h).1;have lt8:(8:Int)<big:=qL (by decide)
 cases b with
 |true=>
  have o2:okS (a / m) ak=ak:=by simp[okS];exact Int.ediv_nonneg ha (by lia)
  simp[WA,We,rvs,rv,pvA,Pv.pv.eq_1,Pv.pv.eq_2,Pv.pv.eq_7,Pv.pv.eq_26,Xj,PR.bind,po,Zs,ZJ,ofD,YZ,Pv.QC,m0,m1,qL m1,o2,hide]
 |false=>
  have hb:a<2147483647:=by simpa using((aB _ _).mp h).2
  have h1:=Wi ha (by lia)
  have x0:0<=(a*48271+29)%2147483647:=by lia
  have x1:(a*48271+29)%2147483647<2147483647:=by lia
  generalize hxx:(a*48271+29)%2147483647=x at x0 x1;have y0:0<=(x*x+39373*x+7)%2147483629:=by lia
  have y1:(x*x+39373*x+7)%2147483629<2147483629:=by lia
  generalize hyy:(x*x+39373*x+7)%2147483629=y at y0 y1;have f1:=Wi x0 (by lia)
  have f2:=Wi y0 (by lia)
  have f3:fits 48271=ak:=Wi (by lia) (by lia)
  have f4:fits 39373=ak:=Wi (by lia) (by lia)
  have f5:fits 16807=ak:=Wi (by lia) (by lia)
  have o2:okS x ai=ak:=by simp[okS,x0,x1]
  simp[WA,We,rvs,rv,pvA,Pv.pv.eq_1,Pv.pv.eq_2,Pv.pv.eq_7,Pv.pv.eq_26,Xj,PR.bind,po,Zs,ZJ,ofD,YZ,Pv.QC,m0,m1,lt8,h1,hxx,hyy,f1,f2,f3,f4,f5,o2,hide]
def ZcL{K:al}{F:List Fn}{tk d:Nat}:∀ρ S H ds vs,St3 K ρ S H->Rq ρ H ds vs->Pv.Zm F tk (d+1) tk ds S=.no\/Pv.Zm F tk (d+1) tk ds S=JN (Pv.Zm F tk d) WA ds S:=λρ S H ds vs st r=>by
 rw[Pv.Zm,T9 rfl];unfold Pv.Zdp;split
 .rename_i m
  obtain⟨v,u,rfl,r1,_⟩:=vC r;obtain⟨a,_,hn⟩:=r1.drw';split
  .rename_i hm
   exact .inr (Z3 (st.dw a hn).2 hm.1 hm.2).symm
  .exact .inl rfl
 .exact .inl rfl
def vx{K:al}{F:List Fn}{tk n d:Nat}{fn:Fn}(hn:n≠tk)(hf:F[n]?=aa fn):∀ρ S H ds vs,St3 K ρ S H->Rq ρ H ds vs->Pv.Zm F tk (d+1) n ds S=.no\/Pv.Zm F tk (d+1) n ds S=JN (Pv.Zm F tk d) fn ds S:=λρ S H ds vs st r=>by
 rw[Pv.Zm,T8 hn,hf]
 all_goals exact .inr rfl
def Zb1(h:Pv.U0 v=aa d):v=.lst [.int d.1,.bl d.2]/\Pv.okS d.1 d.2=ak:=by
 unfold Pv.U0 at h;split at h
 .split at h
  .cases h;exact#[rfl,‹_›]
  .cases h
 .cases h
def GU{l:Lc}{i:Nat}{d:D}(h:(l.map Pv.Ju)[i]?=aa (aa d)):l[i]?=aa (aa d)/\d.flat=ak:=by
 rw[aR]at h;cases q:l[i]? with
 |none=>rw[q]at h;cases h
 |some o=>
  rw[q]at h;have h:=am h;obtain⟨a,b⟩:=Option.filter_eq_some_iff.mp h;exact#[by rw[a],b]
def j5{n:Nat}{l:Lc}{i:Nat}{d:D}(h:(Pv.Vp n l)[i]?=aa (aa d)):l[i]?=aa (aa d)/\d.flat=ak:=by
 unfold Pv.Vp at h;rw[List.getElem?_append]at h;split at h
 .obtain⟨a,b⟩:=GU h
  rw[cR]at a;split at a
  .exact#[a,b]
  .cases a
 .rw[c8]at h
  split at h<;>cases h
def zO :(Pv.Vp n l).length=l.length:=by
 unfold Pv.Vp;rw[aX,aw,bE,dm];omega
def tCl(X:Cx)(xw:Nat->Hp->Prop)(C:Calls)(fi:Nat)(is:List E):TE:=λσ H Q=>tA X xw (Pv.pvs C is) σ H λvs H1=>∃ρ ds S,St3 X.K ρ S H1/\Rq ρ H1 ds vs/\End X.K xw (XT ak H1) ρ H1 Q (C fi ds S)
def ZeR{xw:Nat->Hp->Prop}{fi:Nat}{y:bi}{es:List Expr}{is:List E}{ss:List eJ}{B:List Sm}(hc:PE X (.Call (.Name y p') (e::es) [] p) (tCl X xw C fi is))(hB:CSs X xw fr C ns ss B)(hN:X.N.Nodup)
  (hi:X.N[n]?=aa x:=by rfl)(hx:L2.Loc X.env.scope x:=by first|exact fS rfl|exact ei rfl)(hf:X.fn x=ak\/X.env.scope.names.lookup x=aa .local:=by first|exact .inl rfl|exact .inr rfl)
  (hs:eY [.Name x px] (.Call (.Name y p') (e::es) [] p) pos.line X.env=cD ai:=by rfl)(hw:eZ [.Name x px] (.Call (.Name y p') (e::es) [] p) X.env=cD ae:=by rfl)
  (h1:(cy [.Name x px] X.env).map (·.2)=[ej (.Name x px) X.env]:=by rfl) :
  CSs X xw fr C ns (.Assign [.Name x px] (.Call (.Name y p') (e::es) [] p) pos::ss) [.cel n fi is B]:=
 PSs.imp (Yp (Vy hc (Ur hN hi hx hf) hs hw h1) hB)<|by
 rintro D σ H ⟨ρ,H0,W,l,os,S,st,en,h⟩;have h:ZK fr X.K xw ρ H0 D (Pv.rv C ns (.cel n fi is B) l os S):=by
  rw[Pv.rvs]at h;cases q:Pv.rv C ns (.cel n fi is B) l os S with|no=>rw[q]at h;exact h|ex c s=>rw[q]at h;exact h|ok g s=>rw[q]at h;cases g<;>exact h
 rw[Pv.rv]at h;obtain⟨ho,h⟩:=h.guard;refine#[ρ,l,S,st,en.all,ZK.bind en h λxs S1 H1 vs f1 st1 r1 h1=>?_]
 refine#[ρ,xs,S1,st1,r1,ZK.bind (en.mono f1) h1 λv S2 H2 u f2 st2 r2 h2=>?_]
 obtain⟨d,hd,h3⟩:=ZK.ob h2;obtain⟨rfl,hok⟩:=Zb1 hd;obtain⟨a,rfl,na⟩:=r2.2 rfl _ rfl;obtain⟨_,us,z,ea,_,ru⟩:=r2.1.lst';cases z;obtain⟨u1,u2,rfl,q1,q2⟩:=vC ru;cases q1.int';cases q2.bl';have en2:=(en.mono f1).mono f2;have nX:∀q,ρ.X q->q≠a:=λq x z=>st1.xd q x<|z▸na
 let ρ':Mx:=#[ρ.K,aa a,λq=>ρ.X q\/q=a,λq h=>.inr (am h).symm]
 have st':St3 X.K ρ' d H2:=#[st2.hk,λq x=>x.elim (st2.xd q) λz=>(by rw[z,ea];intro w;cases w),λq x=>(by cases x;exact#[ea,hok]),st2.tb]
 have en':Eu ρ' H2 (λ_=>ae) ((Pv.Vp n l).set n<|aa .drw) [] (σ.set n<|aa<|.ref a) H2:=by
  refine#[Fut.refl _ _,st'.xd,by rw[bz,bz,zO];exact en.len,λ_=>rfl,λ_ _ _ z=>?_,λ_ _ z=>?_,λ_ _ z=>?_,λi w q _=>?_]
  .cases z
  .cases z
  .cases z
  .rcases Gf q with⟨rfl,z,hl⟩|⟨c,z⟩
   .cases z
    exact#[.ref a,bg (by rw[<-en.len,<-zO];exact hl),by exact#[a,rfl,rfl]]
   .obtain⟨z,hfl⟩:=j5 z
    obtain⟨v,hv,r⟩:=en2.all.val i w z;exact#[v,by rw[bc c];exact hv,Rep.flat (ρ:=ρ) (ρ':=ρ'.ex λ_=>ae) rfl (λ_ _ z _=>z) hfl r]
 have n0:∀{b},b≠a->ρ'.n0≠aa b:=λc w=>T7 (am w).symm c
 have keep:∀{H'},Fut ρ' H2 ρ' H'->∀b o,b≠a->H2 b=aa o->(∀ps,o≠.tbl ps)->H' b=aa o:=λ{H'} f b o c z n=>(f.keep b o z).elim id λw=>w.elim (λw=>T7 w.1<|n0 c) λ#[#[ps,e],_]=>T7 e<|n ps
 have back:∀{H':Hp}{s:Zv},Fut ρ' H2 ρ' H'->St3 X.K ρ' s H'->St3 X.K ρ S2 H'/\Fut ρ H0 ρ H':=λ{H' s} f w=>by
  refine#[#[st2.hk,λq x=>?_,λq x=>?_,w.tb],rfl,λb o z=>?_]
  .exact f.there (n0<|nX q x)<|st2.xd q x
  .obtain⟨e1,e2⟩:=st2.dw q x
   exact#[keep f q _ (nX q<|ρ.xz q x) e1 (by intro _ z;cases z),e2]
  .have ne:b≠a:=λc=>by rw[c,zQ (en.mono f1) st1 na]at z;cases z
   rcases en2.fut.keep b o z with y|y|⟨e,ps,y⟩
   .rcases f.keep b o y with q|q|q
    .exact .inl q
    .exact T7 q.1<|n0 ne
    .exact .inr<|.inr q
   .exact .inr<|.inl y
   .rcases f.keep b _ y with q|⟨_,xs,q⟩|⟨_,q⟩
    .exact .inr<|.inr #[e,ps,q]
    .cases q
    .exact .inr<|.inr #[e,q]
 have backE:∀{H':Hp}{s:Zv}{W':Own}{l':Lc}{os':List Nat}{σ':L2.St},Eu ρ' H2 W' l' os' σ' H'->St3 X.K ρ' s H'->St3 X.K ρ S2 H'/\Eu ρ H0 (λ_=>ae) (l'.map Pv.Ju) [] σ' H':=λ{H' s W' l' os' σ'} g w=>by
  obtain⟨a1,a2⟩:=back g.fut w;refine#[a1,a2,en.xd,by rw[aw];exact g.len,λ_=>rfl,λ_ _ _ z=>?_,λ_ _ z=>?_,λ_ _ z=>?_,λi w q _=>?_]
  .cases z
  .cases z
  .cases z
  .obtain⟨z,hfl⟩:=GU q
   obtain⟨v,hv,r⟩:=g.all.val i w z;exact#[v,hv,Rep.flat (ρ:=ρ') (ρ':=ρ.ex λ_=>ae) rfl (λ_ _ z _=>z) hfl r]
 refine#[ρ',H2,λ_=>ae,_,[],d,st',en',?_]
 cases q:Pv.rvs C ns B ((Pv.Vp n l).set n<|aa .drw) [] d with
 |no=>rw[q]at h3;exact h3
 |ex c s=>rw[q]at h3;exact h3.elim
 |ok g s=>
  rw[q]at h3;cases g with
  |nx l' os'=>exact λH' σ' W' w g=>let #[a1,a2]:=backE g w;h3 H' σ' _ a1 a2
  |ret v=>
   obtain⟨hfl,h3⟩:=ZK.guard h3;exact λH' v' f w r=>let #[a1,a2]:=back f w;h3 H' v' a2 a1 #[Rep.flat (ρ:=ρ') (ρ':=ρ) rfl (λ_ _ z _=>z) hfl r.1,λ_ ds z=>by rw[z]at hfl;cases hfl]
section
variable{X:Cx}{xw:Nat->Hp->Prop}{C:Calls}{a:Expr}{i:E}{pos p p2 p3:fO}
theorem ug{ta:TA}(hgt:Gl X "list")(hmt:X.mg "list" = ae)(hg:Gl X "range")(hm:X.mg "range" = ae)(hc:X.calm=ak)(ha:PA X [a] ta)(hs:az [a] X.env=[(ai,bY a X.env)]) :
  PE X (.Call (.Name "list" p) [.Call (.Name "range" p2) [a] [] p3] [] pos) (λσ H Q=>ta σ H λvs H1=>∃j:Int,vs=[.int j]/\0<=j/\j<=1000/\∀l,H1 l=ae->Q (.ref l) (upd H1 l<|.lst<|(aH j.toNat).map λ(k:Nat)=>V.int<|0+(k:Int))):=by
 intro pq s σ H Q I h;refine pf<|Xc I hgt hmt (rfl)<|bP (Calls.spliced_cons ?_) rfl rfl
 refine pf<|Xc I hg hm m5<|bP (thn (ha p3 pq s σ H _ I h) λus s1 #[vs,H1,I1,r1,q1]=>?_) hs rfl
 obtain⟨j,e,q1,q2,q⟩:=q1;subst e;cases r1 with
 |cons r rr=>
  cases rr;obtain⟨t,rfl⟩:=r;refine call_range_1<|Calls.spliced_nil ?_;have hn:fj 0 j 1=(j.toNat:Int):=by rw[mO];split<;>lia
  refine call_list_range (I1.ok.hd hc) (oN ..) (small_one (by lia) (by lia) (by lia)<|by lia) hn (by lia) λh' tk acc c' kp hl hacc=>?_
  refine#[.ref _,_,I1.laid (t':=tk) (o:=.lst<|(aH j.toNat).map λ(k:Nat)=>V.int<|0+(k:Int)) (λb o e=>kp b o<|ax _ e) ?_ #[by rw[aw,br,da];lia,acc.toList,c',Zb8 hacc,hl],rfl,q _<|I1.hok.fresh ?_]
  .rw[dR];exact gM _
  .rw[dR];exact gM _
def Vw(hmt:X.mg "list" = ae)(hm:X.mg "range" = ae)(ha:CA X xw C [a] [i])(hgt:Gl X "list":=by rfl)(hg:Gl X "range":=by rfl)(hc:X.calm=ak:=by rfl)(hs:az [a] X.env=[(ai,bY a X.env)]:=by rfl) :
  CF X xw C (.Call (.Name "list" p) [.Call (.Name "range" p2) [a] [] p3] [] pos) (.blt .rangeL [i]):=
 PE.imp (ug hgt hmt hg hm hc ha hs) λσ H Q #[ρ,l,S,st,lr,h]=>#[ρ,l,S,st,lr,End.bind (h) λxs S1 ρ1 H1 vs f1 st1 r1 h1=>by
  cases f1.eq;obtain⟨d,v,z,rfl,r1,hz,h1⟩:=WS h1 r1;cases d with
  |int n=>
   have hz:(if Ev.few n then aa (Pv.V.lst<|Pv.ZS 0 n.toNat)else ae)=aa z:=hz
   split at hz
   .cases hz
    have hs':=T6<|‹_›
    exact#[n,by rw[r1.int'],hs'.1,hs'.2,h1.newF f1 st st1<|VS 0<|aH n.toNat]
   .cases hz
  |_=>exact Ev.nos hz]
end
end Sd
structure Bx(P:Prop):Prop where
 h:P
namespace Wr
def bx3{P Q R:Prop}(h:Bx P/\Bx Q/\Bx R):P/\Q/\R:=#[h.1.h,h.2.1.h,h.2.2.h]
def bx6{P Q R S T U:Prop}(h:Bx P/\Bx Q/\Bx R/\Bx S/\Bx T/\Bx U):P/\Q/\R/\S/\T/\U:=#[h.1.h,h.2.1.h,h.2.2.1.h,h.2.2.2.1.h,h.2.2.2.2.1.h,h.2.2.2.2.2.h]
def xp{X xw C pos n q}:=Bx.mk<|@Sd.xp X xw C pos n q
def qO{X xw C pos n q}:=Bx.mk<|@Sd.qO X xw C pos n q
def yC{X xw C pos q}:=Bx.mk<|@Sd.yC X xw C pos q
def yz{X xw C pos x q}:=Bx.mk<|@Sd.yz X xw C pos x q
def Zec{X xw C pos}(n){x}(hN hv hd hcd):=Bx.mk<|@Sd.Zec X xw C pos n x hN hv hd hcd
def yZ{X xw C pos es is q}(h):=Bx.mk<|@Sd.yZ X xw C pos es is q<|Bx.h h
def yW{X xw C pos es is}(h):=Bx.mk<|@Sd.yW X xw C pos es is<|Bx.h h
def yB{X xw C a b i j pos}(ha hb):=Bx.mk<|@Sd.yB X xw C a b i j pos (Bx.h ha)<|Bx.h hb
def wc{X xw C a b i j pos}(ha hb):=Bx.mk<|@Sd.wc X xw C a b i j pos (Bx.h ha)<|Bx.h hb
def xi{X xw C a b i j pos}(ha hb):=Bx.mk<|@Sd.xi X xw C a b i j pos (Bx.h ha)<|Bx.h hb
def J3{X xw C a b i j pos}(ha hb):=Bx.mk<|@Sd.J3 X xw C a b i j pos (Bx.h ha)<|Bx.h hb
def xF{X xw C a b i j pos}(ha hb):=Bx.mk<|@Sd.xF X xw C a b i j pos (Bx.h ha)<|Bx.h hb
def yT{X xw C a b i j pos}(ha hb):=Bx.mk<|@Sd.yT X xw C a b i j pos (Bx.h ha)<|Bx.h hb
def yD{X xw C a i pos}(ha):=Bx.mk<|@Sd.yD X xw C a i pos<|Bx.h ha
def yF{X xw C a i pos}(ha):=Bx.mk<|@Sd.yF X xw C a i pos<|Bx.h ha
def xG{X xw C a b i j pos rest}(ha hb):=Bx.mk<|@Sd.xG X xw C a b i j pos rest (Bx.h ha)<|Bx.h hb
def xq{X xw C a b c i j k pos}(hc ha hb):=Bx.mk<|@Sd.xq X xw C a b c i j k pos (Bx.h hc) (Bx.h ha)<|Bx.h hb
def Xv{X xw C a b i j pos op o}(hc ha hb)(hm):=Bx.mk<|@Sd.Xv X xw C a b i j pos op o hc (Bx.h ha) (Bx.h hb) hm
def Vl{X xw C a b i j pos op op' o o' d k}(hc hc' ha hb hd)(hm):=Bx.mk<|@Sd.Vl X xw C a b i j pos op op' o o' d k hc hc' (Bx.h ha) (Bx.h hb) (Bx.h hd) hm
def xW{X xw C a i pos p2 e1}(ha h1):=Bx.mk<|@Sd.xW X xw C a i pos p2 e1 (Bx.h ha)<|Bx.h h1
def jM{X xw C a i pos p2 lo hi il ih}(ha hl hh):=Bx.mk<|@Sd.jM X xw C a i pos p2 lo hi il ih (Bx.h ha) (Bx.h hl)<|Bx.h hh
def Zbq{X xw C a b i j pos}(ha hb)(hs):=Bx.mk<|@Sd.Zbq X xw C a b i j pos (Bx.h ha) (Bx.h hb) hs
def VG{X xw C a i pos p p2 T t}(ht hm hmT ha)(hg hgT hvT hnT hdT hs1 hs2 hpl):=Bx.mk<|@Sd.VG X xw C a i pos p p2 T t ht hm hmT (Bx.h ha) hg hgT hvT hnT hdT hs1 hs2 hpl
def Xm{X xw C e pos p f id x es is}(hc hm ha)(hg hv hn hdb he hpl):=Bx.mk<|@Sd.Xm X xw C e pos p f id x es is hc hm (Bx.h ha) hg hv hn hdb he hpl
def Ui{X xw C e pos p f id x es is}(hc hm ha)(hg hv hn hdb he hpl):=Bx.mk<|@Sd.Ui X xw C e pos p f id x es is hc hm (Bx.h ha) hg hv hn hdb he hpl
def Jz{X xw C e pos p f id x es is}(hc hm ha)(hg hv hn hdb he hpl):=Bx.mk<|@Sd.Jz X xw C e pos p f id x es is hc hm (Bx.h ha) hg hv hn hdb he hpl
def JG{X xw C e pos p f id x es is}(hc hm ha)(hg hv hn hdb he hpl):=Bx.mk<|@Sd.JG X xw C e pos p f id x es is hc hm (Bx.h ha) hg hv hn hdb he hpl
def Zft{X xw C e i}(h):=Bx.mk<|@Sd.CF.ce X xw C e i<|Bx.h h
def xt{X xw C}:=Bx.mk<|@Sd.xt X xw C
def Gc{X xw C e i es is}(ha hr)(hs):=Bx.mk<|@Sd.Gc X xw C e i es is (Bx.h ha) (Bx.h hr) hs
def Gm{X xw C}:=Bx.mk<|@Sd.Gm X xw C
def Go{X xw C e i}(h):=Bx.mk<|@Sd.Go X xw C e i<|Bx.h h
def xB{X xw C a i pos}(ha):=Bx.mk<|@Sd.xB X xw C a i pos<|Bx.h ha
def Xt{X xw C a b i j pos op o}(hc ha hb)(hm):=Bx.mk<|@Sd.Xt X xw C a b i j pos op o hc (Bx.h ha) (Bx.h hb) hm
def xV{X xw C a i}(ha)(he):=Bx.mk<|@Sd.xV X xw C a i (Bx.h ha) he
def J1{X xw C a b i j pos rest}(ha hb):=Bx.mk<|@Sd.J1 X xw C a b i j pos rest (Bx.h ha)<|Bx.h hb
def vU{X xw C a b i j pos rest}(ha hb):=Bx.mk<|@Sd.vU X xw C a b i j pos rest (Bx.h ha)<|Bx.h hb
def GM{X xw C a i pos}(ha):=Bx.mk<|@Sd.GM X xw C a i pos<|Bx.h ha
def x5{X xw C a i pos}(ha):=Bx.mk<|@Sd.x5 X xw C a i pos<|Bx.h ha
def JK{X xw C}:=Bx.mk<|@Sd.JK X xw C
def JO{X xw C c i}(h):=Bx.mk<|@Sd.JO X xw C c i<|Bx.h h
def jN{X xw C e tg i}(he):=Bx.mk<|@Sd.jN X xw C e tg i<|Bx.h he
def JC{X xw C a tg i pos p}(hm ha)(hg hs):=Bx.mk<|@Sd.JC X xw C a tg i pos p hm (Bx.h ha) hg hs
def JH{X xw C a b tg i j pos p}(hm ha)(hg hs hs2):=Bx.mk<|@Sd.JH X xw C a b tg i j pos p hm (Bx.h ha) hg hs hs2
def GJ{X pos n x}(hN)(hi hx hf):=Bx.mk<|@Sd.GJ X pos n x hN hi hx hf
def wa{X pos tgs q2 n m r}(hc h)(hn hst):=Bx.mk<|@Sd.wa X pos tgs q2 n m r hc (Bx.h h) hn hst
def JM{X}:=Bx.mk<|@Sd.JM X
def UY{X pos tgs n t x}(hN h2)(hi hx hf hs):=Bx.mk<|@Sd.UY X pos tgs n t x hN (Bx.h h2) hi hx hf hs
def yK{X xw fr C ns}:=Bx.mk<|@Sd.yK X xw fr C ns
def JV{X xw fr C ns s0 ss m0 ms}(h1 h2):=Bx.mk<|@Sd.JV X xw fr C ns s0 ss m0 ms (Bx.h h1)<|Bx.h h2
def JX{X xw fr C ns e i pos n tg}(he hg)(hf hs hw h1):=Bx.mk<|@Sd.JX X xw fr C ns e i pos n tg (Bx.h he) (Bx.h hg) hf hs hw h1
def GE{X xw fr C ns e i pos n tg}(he hg)(hs hw h1):=Bx.mk<|@Sd.GE X xw fr C ns e i pos n tg (Bx.h he) (Bx.h hg) hs hw h1
def yL{X xw fr C ns e i pos n m t tg}(he hg)(hs hw h1):=Bx.mk<|@Sd.yL X xw fr C ns e i pos n m t tg (Bx.h he) (Bx.h hg) hs hw h1
def VW{X xw fr C ns e i pos p n x apos cpos}(he)(hN hv hd hcd hbase hfew hline hs hplain hw):=Bx.mk<|@Sd.VW X xw fr C ns e i pos p n x apos cpos (Bx.h he) hN hv hd hcd hbase hfew hline hs hplain hw
def VH{X xw fr C ns e i pos p n x apos cpos}(he)(hN hv hd hcd hbase hfew hline hs hplain hw):=Bx.mk<|@Sd.VH X xw fr C ns e i pos p n x apos cpos (Bx.h he) hN hv hd hcd hbase hfew hline hs hplain hw
def xK{X xw C ns e i pos}(he):=Bx.mk<|@Sd.xK X xw C ns e i pos<|Bx.h he
def JI{X xw fr C ns e i pos}(he):=Bx.mk<|@Sd.JI X xw fr C ns e i pos<|Bx.h he
def GI{X xw fr C ns e pos n is}(he)(hs):=Bx.mk<|@Sd.GI X xw fr C ns e pos n is (Bx.h he) hs
def qR{X xw fr C ns c k pos ms ms' sa sb}(hc ha hb):=Bx.mk<|@Sd.qR X xw fr C ns c k pos ms ms' sa sb (Bx.h hc) (Bx.h ha)<|Bx.h hb
def x4{X xw C tg it pos body fr ns ms w t}(hp hc hw hg hb)(hs):=Bx.mk<|@Sd.x4 X xw C tg it pos body fr ns ms w t hp hc (Bx.h hw) (Bx.h hg) (Bx.h hb) hs
def yE{X xw C a b i j pos p tp elts kk}(hm ha)(hg hs hs2):=Bx.mk<|@Sd.yE X xw C a b i j pos p tp elts kk hm (Bx.h ha) hg hs hs2
def GK{X xw C a i pos p tp elts kk}(hm ha)(hg hs):=Bx.mk<|@Sd.GK X xw C a i pos p tp elts kk hm (Bx.h ha) hg hs
def JQ{X xw C a i pos p p2 p3 T U t u k0 p4}(ht hu hm hmT hmU ha)(hg hgT hgU hvT hvU hnT hdT hnU hdU hs0 hs00 hs1 hs2 hpl):=Bx.mk<|@Sd.JQ X xw C a i pos p p2 p3 T U t u k0 p4 ht hu hm hmT hmU (Bx.h ha) hg hgT hgU hvT hvU hnT hdT hnU hdU hs0 hs00 hs1 hs2 hpl
def JP{X xw C a b tg i j pos p p2 p3}(hmr hm ha)(hgr hg hs hs2):=Bx.mk<|@Sd.JP X xw C a b tg i j pos p p2 p3 hmr hm (Bx.h ha) hgr hg hs hs2
def Qn{X xw C tg it pos elt ifs is ie scope N cap nl w t}(hc hN CSc hi)(hb:∀c s H p,Bx _/\Bx _/\Bx _)(hs):=Bx.mk<|@Sd.Qn X xw C tg it pos elt ifs is ie scope N cap nl w t hc hN CSc (Bx.h hi) (λc s H p=>bx3<|hb c s H p) hs
def US{X xw C pos elt t1 i1 t2 i2 f1' f2' is js ie scope N cap nl w w2 t u}(hc hN CSc hi)(hb:∀c s H p,Bx _/\Bx _/\Bx _/\Bx _/\Bx _/\Bx _)(hs hs2):=Bx.mk<|@Sd.US X xw C pos elt t1 i1 t2 i2 f1' f2' is js ie scope N cap nl w w2 t u hc hN CSc (Bx.h hi) (λc s H p=>bx6<|hb c s H p) hs hs2
def Qm{X xw C tg it pos fr ns elt ifs is ie scope N cap nl w t n y spos py}(hc hN CSc hi)(hb:∀c s H p,Bx _/\Bx _/\Bx _)(hsw hy hx hf hs):=Bx.mk<|@Sd.Qm X xw C tg it pos fr ns elt ifs is ie scope N cap nl w t n y spos py hc hN CSc (Bx.h hi) (λc s H p=>bx3<|hb c s H p) hsw hy hx hf hs
def VA{X xw C pos fr ns elt t1 i1 t2 i2 f1' f2' is js ie scope N cap nl w w2 t u n y spos py}(hc hN CSc hi)(hb:∀c s H p,Bx _/\Bx _/\Bx _/\Bx _/\Bx _/\Bx _)(hsw hy hx hf hs hs2):=Bx.mk<|@Sd.VA X xw C pos fr ns elt t1 i1 t2 i2 f1' f2' is js ie scope N cap nl w w2 t u n y spos py hc hN CSc (Bx.h hi) (λc s H p=>bx6<|hb c s H p) hsw hy hx hf hs hs2
def ZaZ{X xw C e i}(h):=Bx.mk<|@Sd.CWh.ct X xw C e i<|Bx.h h
def J9{X xw C pos}:=Bx.mk<|@Sd.J9 X xw C pos
def J7{X xw C a i pos p2 q}(ha):=Bx.mk<|@Sd.J7 X xw C a i pos p2 q<|Bx.h ha
def Gp{X xw C a i pos p2 q}(ha):=Bx.mk<|@Sd.Gp X xw C a i pos p2 q<|Bx.h ha
def JZ{X xw fr C ns e i pos p p' p2 n x q}(he)(hN hv hd hcd ha hs hw h1):=Bx.mk<|@Sd.JZ X xw fr C ns e i pos p p' p2 n x q (Bx.h he) hN hv hd hcd ha hs hw h1
def xb{X xw fr C ns pos n x m y px py}(hN)(hj hv hd hcd hi hx hf hs hw h1):=Bx.mk<|@Sd.xb X xw fr C ns pos n x m y px py hN hj hv hd hcd hi hx hf hs hw h1
def Vw{X xw C a i pos p p2 p3}(hmt hm ha)(hgt hg hc hs):=Bx.mk<|@Sd.Vw X xw C a i pos p p2 p3 hmt hm (Bx.h ha) hgt hg hc hs
end Wr
namespace Gn
open PySem PySem.Spec PyProof.Rows L2
open Ev (E Sm Fn Bop Cop Ty Bf Mf)
open Sd (Calls CompScope cxC hu7)
structure FR where
 x:bi
 st:eJ
 N:List bi
 k:Nat
noncomputable def FR.ps(r:FR):List bi:=r.N.take r.k
noncomputable def scB(N:List bi)(k:Nat)(sc:dO):Bool:=
 (match sc.kind with|.function=>ak|_=>ai)&&(!sc.isCoroutine&&(!sc.isGenerator&&(decide N.Nodup&&((N.take k).all (λx=>af (sc.names.lookup x=aa .local)||decide (sc.names.lookup x=aa .cell))&&sc.names.all λy=>af<|y.2≠.free))))
def VU(h:scB N k sc=ak):FnScope N (N.take k) sc:=by
 unfold scB at h;simp only[aB,kR,T0,aS,gC]at h;obtain⟨h1,h2,h3,h4,h5,h6⟩:=h;refine#[?_,h2,h3,h4,?_,h5,h6]
 .cases e:sc.kind<;>rw[e]at h1<;>first|rfl|cases h1
 .rw[bE]
  by_cases hk:k<=N.length
  .rw[lT hk]
  .rw[Nat.min_eq_right (by omega),fY,cQ<|by omega]
inductive Gv where
 |int (n:Int)|tab (t:List (Int×Int))
 deriving DecidableEq
def Zfl(K:al)(mg:bi->Option aq)(x:bi):Gv->Prop
 |.int n=>∃t:pU,mg x=aa (.int n t)
 |.tab t=>∃tb:aC,(∀P w,Sd.Ze3 P w K tb t)/\mg x=aa (.ref tb)
structure Top(K:al)(mg:bi->Option aq)(fs:List FR)(zs:List bi)(gs:List (bi×Gv))(f:Nat->aC)(fd:Nat->cA):Prop where
 d:∀i r,fs[i]?=aa r->Fun K r.x r.x r.st (f i) (fd i)
 b:∀i r,fs[i]?=aa r->WV K (fd i) r.ps []
 m:∀i r,fs[i]?=aa r->mg r.x=aa (.ref<|f i)
 z:∀x∈zs,mg x=ae
 g:∀y∈gs,Zfl K mg y.1 y.2
def QO(r:FR):Prop:=∀(kV doc pm:aq)(an:Option aC)(cdv ct:aq)(us:List aq),us.length=r.ps.length->mi (eg r.x r.x (Xl r.st) (Zz r.st) (Zh r.st) .none kV doc pm an cdv ct) #[us,[]]=cD (r.ps.zip us)
section
variable{x:bi}{st:eJ}
noncomputable abbrev bA(x:bi)(st:eJ)(kV doc pm:aq)(an:Option aC)(cdv ct:aq)(us:List aq):=mi (eg x x (Xl st) (Zz st) (Zh st) .none kV doc pm an cdv ct) #[us,[]]
def bd1(h:∀kV doc pm an cdv ct a0,bA x st kV doc pm an cdv ct [a0]=cD ((N.take n).zip [a0]))(hl:(N.take n).length=1:=by rfl):QO #[x,st,N,n]:=λkV doc pm an cdv ct us e=>match us,e.trans hl with|[a0],_=>h kV doc pm an cdv ct a0
def bd2(h:∀kV doc pm an cdv ct a0 a1,bA x st kV doc pm an cdv ct [a0,a1]=cD ((N.take n).zip [a0,a1]))(hl:(N.take n).length=2:=by rfl):QO #[x,st,N,n]:=λkV doc pm an cdv ct us e=>match us,e.trans hl with|[a0,a1],_=>h kV doc pm an cdv ct a0 a1
def bd3(h:∀kV doc pm an cdv ct a0 a1 a2,bA x st kV doc pm an cdv ct [a0,a1,a2]=cD ((N.take n).zip [a0,a1,a2]))(hl:(N.take n).length=3:=by rfl):QO #[x,st,N,n]:=λkV doc pm an cdv ct us e=>match us,e.trans hl with|[a0,a1,a2],_=>h kV doc pm an cdv ct a0 a1 a2
def bd4(h:∀kV doc pm an cdv ct a0 a1 a2 a3,bA x st kV doc pm an cdv ct [a0,a1,a2,a3]=cD ((N.take n).zip [a0,a1,a2,a3]))(hl:(N.take n).length=4:=by rfl):QO #[x,st,N,n]:=λkV doc pm an cdv ct us e=>match us,e.trans hl with|[a0,a1,a2,a3],_=>h kV doc pm an cdv ct a0 a1 a2 a3
end
inductive FnsAt(K:al):List FR->List aC->List cA->Prop
 |nil:FnsAt K [] [] []
 |cons {x:bi} {st:eJ} {N:List bi} {n:Nat} {a:aC} {rs:List FR} {as:List aC} {fds:List cA} {oc kV dc pm cd ct:aq} {od an:Option aC} {sl:Array (Option aq)}
   (h1:hZ K bG x=aa (aa<|.ref a)) (h2:K.lookup a=aa #[oc,od,.func<|eg x x (Xl st) (Zz st) (Zh st) .none kV dc pm an cd ct,sl])
   (h3:kl K cd x=ak) (h4:fk K (.ref a)=ak) (h5:QO #[x,st,N,n]) (t:FnsAt K rs as fds) :
   FnsAt K (#[x,st,N,n]::rs) (a::as) (eg x x (Xl st) (Zz st) (Zh st) .none kV dc pm an cd ct::fds)
inductive ZsAt(K:al):List bi->Prop
 |nil:ZsAt K []
 |cons {x:bi} {zs:List bi} (h:hZ K bG x=aa ae) (t:ZsAt K zs):ZsAt K (x::zs)
inductive GsAt(K:al):List (bi×Gv)->Prop
 |nil:GsAt K []
 |cons {x:bi} {n:Int} {u:pU} {gs:List (bi×Gv)} (h:hZ K bG x=aa (aa<|.int n u)) (t:GsAt K gs):GsAt K ((x,.int n)::gs)
 |tab {x:bi} {a:aC} {es:Array ln} {n:Nat} {tb:List (Int×Int)} {gs:List (bi×Gv)} (h:hZ K bG x=aa (aa<|.ref a)) (h2:K.lookup a=aa #[.type "dict",ae,.dict es n,#[]]) (h3:Sd.XA es.toList tb) (h4:(a == eE)=ai) (t:GsAt K gs):GsAt K ((x,.tab tb)::gs)
theorem GsAt.get{K:al}{h:ck}{mg:bi->Option aq}(X:K.In h)(G:h.Ns bG mg):∀{gs:List (bi×Gv)},GsAt K gs->∀y∈gs,Zfl K mg y.1 y.2
 |_,.nil,x,h=>by simp at h
 |_,.cons h t,x,m=>by
  rcases ay.mp m with rfl|m
  .exact#[_,k7 X G h]
  .exact t.get X G x m
 |_,.tab h h2 h3 h4 t,x,m=>by
  rcases ay.mp m with rfl|m
  .exact#[_,λP w=>Sd.Zcx h2 h3 h4,k7 X G h]
  .exact t.get X G x m
theorem FnsAt.get{K:al}{fd0:cA}:∀{fs:List FR}{as:List aC}{fds:List cA},FnsAt K fs as fds->∀i r,fs[i]?=aa r->
  hZ K bG r.x=aa (aa<|.ref<|as.getD i 0)/\Fun K r.x r.x r.st (as.getD i 0) (fds.getD i fd0)/\QO r
 |_,_,_,.nil,i,r,e=>by simp at e
 |_,_,_,.cons h1 h2 h3 h4 h5 t,0,r,e=>by
  simp at e;subst e;exact#[h1,ZeN h2 h3 h4,h5]
 |_,_,_,.cons h1 h2 h3 h4 h5 t,i+1,r,e=>by
  obtain⟨a,b,c⟩:=t.get i r (by simpa using e)
  exact#[by simpa using a,by simpa using b,c]
theorem ZsAt.get{K:al}:∀{zs:List bi},ZsAt K zs->∀x∈zs,hZ K bG x=aa ae
 |_,.nil,x,h=>by simp at h
 |_,.cons h t,x,m=>by
  rcases ay.mp m with rfl|m
  .exact h
  .exact t.get x m
def Top.no{K:al}{mg:bi->Option aq}{x:bi}(T:Top K mg fs zs gs f fd)(h:zs.contains x=ak):mg x=ae:=T.z x (by simpa using h)
noncomputable def csB(sc:dO)(N0:List bi)(scope:dO)(N:List bi)(cap:List Nat)(nl:Nat):Bool:=
 ((N.take nl).all (λx=>af<|scope.names.lookup x=aa .local)&&(af (N.length=nl+cap.length)&&(cap.zipIdx.all (λp=>af (N[nl+p.2]?=N0[p.1]?)&&af ((N0[p.1]?).map (λx=>af<|(x,cf)∈scope.names)=aa ak)) &&
  ((match scope.kind with|.function=>ak|_=>ai)&&scope.names.all λy=>af (y.2≠.cell)&&((!decide (y.2=.local)||decide (scope.names.lookup y.1=aa .local))&&(!decide (y.2=.free)||((af (sc.names.lookup y.1=aa .cell)||decide (sc.names.lookup y.1=aa .free))&&af (scope.names.lookup y.1≠aa .local))))))))
def ZH(h:csB sc N0 scope N cap nl=ak):CompScope sc N0 scope N cap nl:=by
 unfold csB at h;simp only[aB,gC,kR,T0,decide_eq_false_iff_not,aS]at h;obtain⟨_,h1,h2,h3,h4⟩:=h;refine#[?_,λy hy=>(h4 y hy).1,λy hy z=>?_,λy hy z=>?_,λy hy z=>?_,h1,h2]
 .cases e:scope.kind<;>rw[e]at h3<;>first|rfl|cases h3
 .rcases(h4 y hy).2.1 with q|q
  .exact T7 z q
  .exact q
 .rcases(h4 y hy).2.2 with q|q
  .exact T7 z q
  .exact q.1
 .rcases(h4 y hy).2.2 with q|q
  .exact T7 z q
  .exact q.2
end Gn
namespace Sd
open PySem PySem.Spec PyProof.Rows L2
def Fly(h:ck)(e T C:aC):Prop:=
 ∃(oe:fD)(vs:Array aq)(a0:aq)(oT:fD)(ts:Array aq),h.get? e=aa oe/\(oe.cls=.ref C/\vs[0]?=aa a0)/\oe.data=.fields vs/\vs[1]?=aa (.ref T)/\T≠e/\h.get? T=aa oT/\oT.data=.fields ts/\ts[3]?=aa .none
noncomputable def CX1(P:bH)(w:bV):CXT:=λouter H s E e s'=>
 ∃(a T C:aC)(H':Hp),e=.ref a/\s'.os=s.os/\iC s'.gens/\Un (frs outer) [] H H' s.heap s'.heap/\HOk P w H' s'.heap/\Fly s'.heap a T C/\s.heap.get? a=ae/\s.heap.get? T=ae/\H' a=ae/\H' T=ae/\E (.ref C) ae H'
def Z4.there(x:Z4 P w H h a o):∃u,h.get? a=aa u:=by
 cases o with|lst xs=>obtain⟨_,_,_,_,e⟩:=x;exact#[_,e]|tup xs=>obtain⟨_,_,_,_,e,_⟩:=x;exact#[_,e]|dK kvs=>obtain⟨_,_,_,_,o,_,_,e,_⟩:=x;exact#[_,e]|dT kvs=>obtain⟨_,_,_,_,o,_,_,e,_⟩:=x;exact#[_,e]|set S n=>obtain⟨o,_,_,_,e,_⟩:=x;exact#[_,e]|ins C dx fs=>obtain⟨_,_,_,e,_⟩:=x;exact#[_,e]|own y=>obtain⟨_,e⟩:=x;exact#[_,e]|xd fs=>obtain⟨_,⟨_,_,_,e,_⟩,_⟩:=x;exact#[_,e]|rng lo hi=>obtain⟨_,_,_,e⟩:=x;exact#[_,e]|frz ob u=>obtain⟨e,_⟩:=x;exact#[_,e]|tbl ps=>exact#[_,(x)]|met f y=>exact#[_,(x)]|ext φ=>obtain⟨_,⟨_,e⟩,_⟩:=x;exact#[_,e]
theorem FunFrames.rebase{h h' base base':ck}:∀{l:List Env},h.FunFrames base l->(∀b∈frs l,∀o,h.get? b=aa o->∃sl,h'.get? b=aa {o with slots:=sl})->(∀b∈frs l,base'.get? b=ae)->h'.FunFrames base' l
 |[],_,_,_=>trivial
 |env::l,#[hk,#[L,o,hf,hn,ho,hd],hr],k,n=>by
  have hm:L∈frs (env::l):=by unfold frs;rw[cp,hf];exact ao ..
  obtain⟨sl,e⟩:=k L hm o ho;refine#[hk,#[L,_,hf,n L hm,e,hd],FunFrames.rebase hr (λb hb=>k b ?_) λb hb=>n b ?_]
  all_goals unfold frs at hb ⊢;rw[cp,hf];exact au _ hb
structure DefX(X:Cx)(E:XK):Prop where
 xe:X.xe=λe s'=>bn (aV X.prog X.w) X.A (leaving X.env e) (λ_ s''=>CX1 X.prog X.w X.outer X.H₀ X.s₀ E e s'') (λe' s''=>CX1 X.prog X.w X.outer X.H₀ X.s₀ E e' s'') s'
 st:X.stack=X.env::X.outer
 fr:X.env.frame=aa X.env.locals
 ex:X.ex=[]
section
variable{X:Cx}{E:XK}{pq:List (aC×fD)}{σ:L2.St}{H H':Hp}{s s':aA}
def Inv.outside(D:DefX X E)(I:Inv X pq σ H s)(un:Un (frs X.stack) [] H H' s.heap s'.heap)(hos:s'.os=s.os)(bare:iC s'.gens)(hok:HOk X.prog X.w H' s'.heap)(na:s.heap.get? a=ae)(Ha:H' a=ae)
   (hh:∀b∈hid,b∈frs X.stack\/(s.heap.get? b=ae/\H' b=ae))(st:(eL s'.heap hid).StaysIn h')(up:s'.heap.UpToSlots h')(fl:Fly h' a T C)(hT:(eL s'.heap hid).get? T=ae)(hE:E (.ref C) ae H') :
  CX1 X.prog X.w X.outer X.H₀ X.s₀ E (.ref a) {s' with heap:=h' }:=by
 have U1:=I.base;rw[D.ex]at U1;have sub:∀b∈frs X.outer,b∈frs X.stack:=λb hb=>by
  rw[D.st];unfold frs at hb ⊢;rw[cp,D.fr];exact au _ hb
 have own:∀b o,X.s₀.heap.get? b=aa o->b∈frs X.stack->b∈frs X.outer:=λb o e hb=>by
  rw[D.st]at hb;unfold frs at hb ⊢;rw[cp,D.fr]at hb;rcases ay.mp hb with z|z
  .exact T7 (aO e) (by rw[z];exact lz I.ok.above)
  .exact z
 have nx:∀b:aC,b∉([]:List aC):=λb=>by simp
 have frN:∀b∈frs X.stack,H' b=ae:=λb hb=>by
  obtain⟨_,o,ho,_⟩:=I.stack.mem hb;exact un.free b o ho (I.stkFree b hb)<|nx b
 have hidN:∀b∈hid,H' b=ae:=λb hb=>by
  rcases hh b hb with z|z
  .exact frN b z
  .exact z.2
 have old:∀b o,s.heap.get? b=aa o->b∉frs X.stack->b∉hid:=λb o e hb hm=>by
  rcases hh b hm with z|z
  .exact hb z
  .rw[e]at z;cases z.1
 have keep:=λb u e n=>st b u<|gn _ e n
 have nof:∀b∈frs X.stack,∀o,s'.heap.get? b=aa o->∀vs,o.data≠.fields vs:=λb hb o e=>by
  obtain⟨_,o1,ho,hd⟩:=I.stack.mem hb;obtain⟨sl,e1⟩:=un.any ho (I.stkFree b hb)<|nx b;rw[e]at e1;cases e1;exact hd
 have frS:=λb hb o e=>up b o e<|nof b hb o e
 have trk:∀b u,H' b=aa u->b∉hid:=λb u e hm=>by rw[hidN b hm]at e;cases e
 have hT2:∀o,s'.heap.get? T=aa o->H' T=ae/\s.heap.get? T=ae\/False:=λo e=>by
  by_cases hm:T∈hid
  .rcases hh T hm with z|z
   .obtain⟨oe,vs,a0,oT,ts,_,_,_,_,_,g1,g2,_⟩:=fl
    obtain⟨sl,e2⟩:=frS T z o e;rw[g1]at e2;cases e2;exact T7 g2<|nof T z o e ts
   .exact .inl #[z.2,z.1]
  .rw[gn _ e hm]at hT;cases hT
 have there:∀b o,X.s₀.heap.get? b=aa o->∃o',s'.heap.get? b=aa o':=λb o e=>by
  obtain⟨o1,e1⟩:=U1.there b o e<|nx b;exact un.there b o1 e1<|nx b
 refine#[a,T,C,H',rfl,hos.trans I.os,bare,#[λb o e n hb _=>?_,λb o e n hb _=>?_,λb o e n _=>?_,λb o e _=>?_,λb xs e=>un.tups b xs<|U1.tups b xs e,λb o u e=>un.frzs b o u<|U1.frzs b o u e,λb ps e=>?_],λc o e=>?_,fl,?_,?_,Ha,?_,hE]
 .have e1:=U1.keep b o e n hb (nx b)
  have hn:b∉frs X.stack:=λz=>hb<|own b o e z
  exact keep b o (un.keep b o e1 (U1.free b o e n<|nx b) hn<|nx b)<|old b o e1 hn
 .obtain⟨sl,e1⟩:=U1.slot b o e n hb (nx b)
  obtain⟨sl2,e2⟩:=un.slot b _ e1 (U1.free b o e n<|nx b) (sub b hb)<|nx b;obtain⟨sl3,e3⟩:=frS b (sub b hb) _ e2;exact#[sl3,e3]
 .obtain⟨o1,e1⟩:=U1.there b o e (nx b)
  exact un.free b o1 e1 (U1.free b o e n<|nx b)<|nx b
 .obtain⟨o1,e1⟩:=U1.there b o e (nx b)
  obtain⟨o2,e2⟩:=un.there b o1 e1<|nx b;by_cases hm:b∈frs X.stack
  .obtain⟨sl,e3⟩:=frS b hm o2 e2
   exact#[_,e3]
  .exact#[o2,keep b o2 e2<|old b o1 e1 hm]
 .obtain⟨m1,e1⟩:=U1.tbls b ps e
  obtain⟨m2,e2⟩:=un.tbls b _ e1;exact#[m1++m2,by rw[e2,Array.append_assoc]]
 .refine(hok c o e).stay (λb u hb q=>?_) (λ_ q=>q) λ_ _ q=>q
  rcases hb with rfl|hb
  .exact keep _ u q<|trk _ _ e
  .exact keep _ u q<|trk _ _ hb
 .cases q:X.s₀.heap.get? a with
  |none=>rfl
  |some o=>
   obtain⟨o1,e1⟩:=U1.there a o q<|nx a;rw[na]at e1;cases e1
 .cases q:X.s₀.heap.get? T with
  |none=>rfl
  |some o=>
   obtain⟨o1,e1⟩:=U1.there T o q<|nx T;obtain⟨o2,e2⟩:=un.there T o1 e1<|nx T;rcases hT2 o2 e2 with z|z
   .rw[e1]at z;cases z.2
   .exact z.elim
 .cases q:H' T with
  |none=>rfl
  |some u=>
   obtain⟨o,e⟩:=Z4.there<|hok T u q;rcases hT2 o e with z|z
   .rw[q]at z;cases z.1
   .exact z.elim
def ZaV(D:DefX X E):VO (CX1 X.prog X.w) X E:=by
 rintro pq σ H s e s' I ⟨a,T,C,H',rfl,os,bare,un,hok,fly,na,nT,Ha,HT,hE⟩
 rw[D.xe];have nx:∀b:aC,b∉([]:List aC):=λb=>by simp
 have hfr:X.A.frames=aa (X.env::X.outer):=by rw[<-D.st];exact I.ok.frames
 let hid:=frs X.stack++[a,T]
 have hin:∀b∈frs X.stack,b∈hid:=λb hb=>cL _ hb
 have FF:s'.heap.FunFrames (eL s'.heap hid) (X.env::X.outer):=by
  rw[<-D.st];exact FunFrames.rebase I.stack (λb hb o e=>un.any e (I.stkFree b hb)<|nx b) λb hb=>c9 _<|hin b hb
 obtain⟨oe,vs,a0,oT,ts,f1,f2,f3,f4,f5,f6,f7,f8⟩:=fly;refine wpAny_leaves_onW hfr D.fr #[λb o e=>gE _ e,c9 _<|bt _<|ao ..,FF,oe,vs,T,oT,ts,f1,f2,f3,f4,c9 _<|bt _<|au _<|ao ..,f5,f6,f7,f8] λh' fl' up=>?_
 obtain⟨g1,_,_,oe',vs',T',oT',ts',e1,e2,e3,e4,e5,e6,e7,e8,e9⟩:=fl';refine Inv.outside D I un os bare hok na Ha (λb hb=>?_) g1 up #[oe',vs',a0,oT',ts',e1,e2,e3,e4,e6,e7,e8,e9] e5 hE
 rcases bK.mp hb with z|z
 .exact .inl z
 .rcases ay.mp z with rfl|z
  .exact .inr #[na,Ha]
  .rw[aY.mp z];exact .inr #[nT,HT]
end
open Ev (E Sm Fn Bop Cop Ty Bf Mf)
noncomputable abbrev veM:List aq:=[.type "ValueError",.type "Exception",.type "BaseException",.type "object"]
structure Cls1(h:ck)(S C:aC):Prop where
 ob:∃bm N nm q bs hdct sn sub ab col dd k0 k1 k2 k3 k5 mN,h.get? C=aa (excClassObj nm q C N bs bm hdct sn sub ab col dd k0 k1 k2 k3 k5 "ValueError.__new__")/\h.Ns N mN/\mN "__init__" = ae/\OwnTail h veM bm
section
variable{X:Cx}{E:XK}{S C:aC}{x:bi}{np cpos pos:fO}{e:Expr}{es:List Expr}{t:TA}
def ZeJ(C:aC)(E:XK)(t:TA):TS:=λ_ σ H=>t σ H λvs H'=>vs.length<=bo/\E (.ref C) ae H'
def ya(D:DefX X E)(hc:X.calm=ak)(O:Cls1 X.base S C)(hg:Gl X x)(hm:X.mg x=aa (.ref C))(ha:PA X (e::es) t)(hd:(x == ("__debug__" : bi))=ai)
  (he:az (e::es) X.env=(ai,bY e X.env)::az es X.env)(hpl:(dz cpos<|az es X.env).any (·.1)=ai) :
  PS X (.Raise (aa<|.Call (.Name x np) (e::es) [] cpos) ae pos) (ZeJ C E t):=by
 intro pq s σ H Dn I h;obtain⟨bm,N,nm,q,bs,hdct,sn,sub,ab,col,dd,k0,k1,k2,k3,k5,mN,hC,hN,hi,tl⟩:=O.ob;refine wpAny_Raise_call_subT (C:=C) (nm:=nm) (q:=q) (N:=N) (bs:=bs) (hdct:=hdct) (sn:=sn) (sub:=sub) (ab:=ab) (col:=col) (dd:=dd) (k0:=k0) (k1:=k1) (k2:=k2) (k3:=k3) (k5:=k5)
  PySem.F.excBase_ValueError (mN:=mN) (tl.hasType PySem.F.excBase_ValueError.hasBase) (I.ok.hd hc) (by rw[he];show(ai||(dz cpos<|az es X.env).any (·.1))=ai;rw[hpl];rfl) hi (WP I hg hm #[rfl,?_] hd)
 have ha':=ha cpos pq s σ H _ I h;rw[he]at ha' ⊢;refine Calls.evalArgs_plain<|cI ha' (λus s2 #[vs,H2,I2,r2,hl,hE]=>#[rfl,by rw[<-r2.length];exact hl,I2.bk _ _ hC,hN.keeps I2.bk,tl.keeps I2.bk,λh' a hx=>?_]) λ_ _ y=>y
 rw[D.xe];have hfr:X.A.frames=aa (X.env::X.outer):=by rw[<-D.st];exact I2.ok.frames
 let hid:=frs X.stack
 have FF:s2.heap.FunFrames (eL s2.heap hid) (X.env::X.outer):=by
  rw[<-D.st];exact FunFrames.rebase I2.stack (λb hb o e=>#[o.slots,e]) λb hb=>c9 _ hb
 have nx:∀b:aC,b∉([]:List aC):=λb=>by simp
 refine wpAny_leaves_madeW hfr D.fr (λb o e=>gE _ e) FF hx λh2 t fl _ _ up=>?_
 obtain⟨g1,_,_,oe,vs',T,oT,ts,e1,e2,e3,e4,e5,e6,e7,e8,e9⟩:=fl;have na:=hx.new;have Ha:H2 a=ae:=by
  cases q:H2 a with
  |none=>rfl
  |some u=>
   obtain⟨o,e⟩:=Z4.there<|I2.hok a u q;rw[na]at e;cases e
 exact Inv.outside (s':=s2) (H':=H2) D I2 (Un.kept λb o e=>e) rfl I2.bare I2.hok na Ha (λb hb=>.inl hb) g1
  ((ck.UpToSlots.of_keeps hx.keeps).trans up) (T:=T) #[oe,vs',.ref t,oT,ts,e1,e2,e3,e4,e6,e7,e8,e9] e5 hE
abbrev TJ:=L2.St->Hp->(Hp->Prop)->Prop
noncomputable def tJn:TJ:=λ_ H Q=>Q H
noncomputable def tJf(te:TE)(t:TJ):TJ:=λσ H Q=>te σ H λx H1=>∃i:Int,x=.int i/\Ev.Yn i=ak/\t σ H1 Q
def PJ(X:Cx)(es:List Expr)(m:Nat)(t:TJ):Prop:=
 ∀(out:bi)(pq:List (aC×fD))(s:aA)(σ:L2.St)(H:Hp)(Q:Hp->Prop),L2.Inv X pq σ H s->out.length+m<=bo->t σ H Q->
  bn (aV X.prog X.w) X.A (joinParts out<|evalEach es X.env) (λu s'=>∃y H',L2.Inv X pq σ H' s'/\Zx (.str y) u/\Q H') X.xe s
theorem ZeH:PJ X [] 0 tJn:=λout pq s σ H Q I hl h=>joinParts_nil #[out,H,I.tok _,#[_,rfl],h] (by lia)
theorem ZfW{m:Nat}{y:bi}{j:Nat}{pos:fO}(hr:PJ X es m tj):PJ X (.Constant (.str y) j pos::es) (y.length+m) tj:=λout pq s σ H Q I hl h=>by
 refine joinParts_cons<|Calls.Constant_str ?_;have hz:(out++y).length=out.length+y.length:=strLen_append _ _;exact#[by lia,hr (out++y) pq _ σ H Q (I.tok _) (by lia) h]
theorem uZ{i:Int}(h:Ev.Yn i=ak):i.natAbs.log2<63:=by
 have:=T6 h;by_cases hz:i.natAbs=0
 .rw[hz];decide
 .exact(oQ hz).mpr (by lia)
theorem Zf3{m:Nat}{pos:fO}{te:TE}(he:PE X e te)(hr:PJ X es m tj):PJ X (.FormattedValue e (-1) ae pos::es) (64+m) (tJf te tj):=λout pq s σ H Q I hl h=>by
 refine joinParts_cons<|FormattedValue_plain<|thn (he pq s σ H _ I h) λu s1 #[v,H1,I1,r,i,hv,hs,q]=>?_
 subst hv;obtain⟨tk,rfl⟩:=r;have hl63:=uZ hs;refine formatField_int_small (by lia) ?_
 have hz:(kf<|toString i).length<=64:=by
  have:=int_text_length_le (by lia) hl63
  rw[PySem.ofString_length];exact this
 have hz2:(out++kf (toString i)).length=out.length+(kf<|toString i).length:=strLen_append _ _;exact#[by lia,hr _ pq _ σ H1 Q ((I1.tok _).tok _) (by lia) q]
theorem Zct{m:Nat}{v1 v2:Expr}{rest:List Expr}{jp:fO}(h:PJ X (v1::v2::rest) m tj)(hm:m<=bo)(hs:az [.JoinedStr (v1::v2::rest) jp] X.env=(ai,bY (.JoinedStr (v1::v2::rest) jp) X.env)::az [] X.env) :
  PA X [.JoinedStr (v1::v2::rest) jp] (λσ H Q=>tj σ H λH'=>∀y,Q [.str y] H'):=λpos pq s σ H Q I q=>by
 rw[hs];refine Calls.spliced_cons<|JoinedStr_many (pos:=jp)<|thn (h bi.empty pq s σ H _ I (by show 0+m<=_;lia) q) λu s1 #[y,H1,I1,r,q1]=>?_
 exact Calls.spliced_nil #[[.str y],H1,I1,.cons r .nil,q1 y]
end
def xwE(cl:List aC)(E:XK):Nat->Hp->Prop:=λc H=>∃C,cl[c]?=aa C/\E (.ref C) ae H
def End.ex_mono{α β:Type}{K:al}{xw xw':Nat->Hp->Prop}{ρ:Mx}{H:Hp}{rep:Mx->Hp->α->β->Prop}{Q:β->Hp->Prop}{r:R α}(k:∀c H,xw c H->xw' c H)(h:End K xw rep ρ H Q r):End K xw' rep ρ H Q r:=by
 cases r with|ok d S=>exact h|ex c S=>exact λρ' H' f st=>k c H'<|h ρ' H' f st|no=>exact h
section
variable{X:Cx}{E:XK}{S C:aC}{x:bi}{np cpos pos jp p:fO}{e v1 v2:Expr}{es rest:List Expr}{xw:Nat->Hp->Prop}{cl:List aC}{Cc:Calls}{fr:Bool}{ns:List Nat}{n m:Nat}{is:List Ev.E}{i:Ev.E}
def ZaT(D:DefX X E)(hc:X.calm=ak)(O:Cls1 X.base S C)(hn:cl[n]?=aa C)(hg:Gl X x)(hm:X.mg x=aa (.ref C))(hd:(x == ("__debug__" : bi))=ai)
  (he:az [.Constant (.str y) j p] X.env=(ai,bY (.Constant (.str y) j p) X.env)::az [] X.env)(hpl:(dz cpos<|az [] X.env).any (·.1)=ai) :
  CS X (xwE cl E) fr Cc ns (.Raise (aa<|.Call (.Name x np) [.Constant (.str y) j p] [] cpos) ae pos) (.raise n []):=
 PS.imp (ya D hc O hg hm (Zw Gd Yf he) hd he hpl)<|by
  rintro Dn σ H ⟨ρ,H0,W,l,os,S,st,en,h⟩;refine#[by show 1<=bo;decide,?_]
  have h:=h;obtain⟨C',e1,e2⟩:=h H en.fut st;rw[hn]at e1;cases e1;exact e2
def CJ(X:Cx)(xw:Nat->Hp->Prop)(Cc:Calls)(es:List Expr)(m:Nat)(is:List Ev.E):Prop:=PJ X es m λσ H Q=>∃ρ l S,St3 X.K ρ S H/\LocR ρ H l σ/\End X.K xw Rq ρ H (λ_ H'=>Q H') (Pv.pvs Cc is l S)
def PJ.imp{t t':TJ}(h:PJ X es m t)(k:∀σ H Q,t' σ H Q->t σ H Q):PJ X es m t':=λout pq s σ H Q I hl q=>h out pq s σ H Q I hl<|k σ H Q q
def xQ:CJ X xw Cc [] 0 []:=PJ.imp ZeH<|by rintro σ H Q ⟨ρ,l,S,st,lr,h⟩;exact h ρ H [] (Fut.refl _ _) st Rq.nil
def Zep{y:bi}{j:Nat}(hr:CJ X xw Cc es m is):CJ X xw Cc (.Constant (.str y) j p::es) (y.length+m) is:=ZfW hr
def ZeL(he:CE X xw Cc e i)(hr:CJ X xw Cc es m is):CJ X xw Cc (.FormattedValue e (-1) ae p::es) (64+m) (.fi i::is):=
 PJ.imp (Zf3 he hr)<|by
  rintro σ H Q ⟨ρ,l,S,st,lr,h⟩;have h:End X.K xw Rq ρ H (λ_ H'=>Q H') (((Pv.pv Cc i l S).bind λx S=>match x with
   |.int i=>if Ev.Yn i=ak then Pv.PR.ok (Pv.V.int i) S else .no
   |_=>.no).bind λx S=>(Pv.pvs Cc is l S).bind λxs S=>.ok (x::xs) S):=by
   have:=h;rw[Pv.pvs,Pv.pv]at this;exact this
  refine#[ρ,l,S,st,lr,?_];cases q:Pv.pv Cc i l S with
  |no=>rw[q]at h;exact h.elim
  |ex c S1=>rw[q]at h;exact h
  |ok d S1=>
   rw[q]at h;intro ρ1 H1 v f1 st1 r1;have h:=End.mono f1 h;cases d with
   |int k=>
    change End X.K xw Rq ρ1 H1 (λ_ H'=>Q H') ((if Ev.Yn k=ak then Pv.PR.ok (Pv.V.int k) S1 else .no).bind _)at h
    by_cases hk:Ev.Yn k=ak
    .rw[T9 hk]at h
     have e1:v=.int k:=by exact r1
     refine#[k,e1,hk,ρ1,l,S1,st1,lr.mono f1,?_];exact End.bind h λxs S2 ρ2 H2 vs f2 st2 r2 h2=>h2 ρ2 H2 (v::vs) (Fut.refl _ _) st2<|Rq.cons (Rep.mono f2 r1) r2
    .rw[T8 hk]at h
     exact h.elim
   |_=>exact h.elim
def uK(D:DefX X E)(hc:X.calm=ak)(O:Cls1 X.base S C)(hn:cl[n]?=aa C)(hj:CJ X (xwE cl E) Cc (v1::v2::rest) m is)(hml:m<=bo)(hg:Gl X x)(hm:X.mg x=aa (.ref C))(hd:(x == ("__debug__" : bi))=ai)
  (he:az [.JoinedStr (v1::v2::rest) jp] X.env=(ai,bY (.JoinedStr (v1::v2::rest) jp) X.env)::az [] X.env)(hpl:(dz cpos<|az [] X.env).any (·.1)=ai) :
  CS X (xwE cl E) fr Cc ns (.Raise (aa<|.Call (.Name x np) [.JoinedStr (v1::v2::rest) jp] [] cpos) ae pos) (.raise n is):=
 PS.imp (ya D hc O hg hm (Zct hj hml he) hd he hpl)<|by
  rintro Dn σ H ⟨ρ,H0,W,l,os,S,st,en,h⟩;refine#[ρ,l,S,st,en.all,?_];have h:=h
  exact ZK.bind en h λxs S1 H1 vs f1 st1 r1 h1 y=>by
   refine#[by show 1<=bo;decide,?_]
   obtain⟨C',e1,e2⟩:=h1 H1 (en.fut.trans f1) st1;rw[hn]at e1;cases e1;exact e2
def spX(K:al)(cl:List aC)(C:Calls)(fr:Bool)(n:Nat):Sp:=λvs H Q E=>∃ρ ds S,St3 K ρ S H/\Rq ρ H ds vs/\End K (xwE cl E) (XT fr H) ρ H Q (C n ds S)
def zc{kk:Nat}{f:aC}{fd:cA}{ps:List bi}(F:FnOk X.prog X.w X.K X.mg X.base (CX1 X.prog X.w) kk f fd ps (spX X.K cl Cc fr n))(hr:Room kk X.A)(hx:VO (CX1 X.prog X.w) X E)(hw:∀c H,xw c H->xwE cl E c H)(hm:X.mg x=aa (.ref f))(hk:fk X.K (.ref f)=ak)(hb:WV X.K fd ps [])
  (ha:CA X xw Cc (e::es) is)(hg:Gl X x)(hdb:(x == ("__debug__" : bi))=ai)(he:az (e::es) X.env=(ai,bY e X.env)::az es X.env)(hpl:(dz pos<|az es X.env).any (·.1)=ai) :
  CE X xw Cc (.Call (.Name x p) (e::es) [] pos) (.call n is):=
 PE.imp (J6 F hr hg hm hk hb .nil hx ha hdb he hpl) λσ H Q #[ρ,l,S,st,lr,h]=>
  #[ρ,l,S,st,lr,End.bind (h) λxs S1 ρ1 H1 vs f1 st1 r1 h1=>by
   rw[cr];exact#[ρ1,xs,S1,st1,r1,(End.ex_mono hw h1).fr]]
theorem End.new{K:al}{xw:Nat->Hp->Prop}{ρ:Mx}{H H1:Hp}{Q:VK}{r:R D}{S0:Zv}(f:Fut ρ H ρ H1)(st:St3 K ρ S0 H1)(h:End K xw (XT ak H) ρ H1 Q r):End K xw (XT ak H1) ρ H1 Q r:=by
 cases r with|ok d S=>exact λρ' H' v g s r=>h ρ' H' v g s #[r.1,λz ds e=>let #[a,e1,e2]:=r.2 z ds e;#[a,e1,f.new e2 st.xd]]|ex c S=>exact h|no=>exact h
def ju{kk:Nat}{f:aC}{fd:cA}{ps:List bi}(F:FnOk X.prog X.w X.K X.mg X.base (CX1 X.prog X.w) kk f fd ps (spX X.K cl Cc ak n))(hr:Room kk X.A)(hx:VO (CX1 X.prog X.w) X E)(hm:X.mg x=aa (.ref f))(hk:fk X.K (.ref f)=ak)(hb:WV X.K fd ps [])
  (ha:CA X (xwE cl E) Cc (e::es) is)(hg:Gl X x)(hdb:(x == ("__debug__" : bi))=ai)(he:az (e::es) X.env=(ai,bY e X.env)::az es X.env)(hpl:(dz pos<|az es X.env).any (·.1)=ai) :
  CF X (xwE cl E) Cc (.Call (.Name x p) (e::es) [] pos) (.callF n is):=
 PE.imp (J6 F hr hg hm hk hb .nil hx ha hdb he hpl) λσ H Q #[ρ,l,S,st,lr,h]=>
  #[ρ,l,S,st,lr,End.bind (h) λxs S1 ρ1 H1 vs f1 st1 r1 h1=>by
   rw[cr];cases f1.eq;exact#[ρ,xs,S1,st1,r1,End.new f1 st1 h1]]
end
section
variable{P:bH}{w:bV}{K:al}{mg:bi->Option aq}{base:ck}{cl:List aC}
def GV{C C':Calls}{n:Nat}{fn:Fn}{fr:Bool}{x qual:bi}{st:eJ}{f:aC}{fd:cA}{N ps:List bi}{k:Nat}(hF:∀ρ S H ds vs,St3 K ρ S H->Rq ρ H ds vs->C' n ds S=.no\/C' n ds S=JN C fn ds S)(hns:fn.ns=N.length)(hps:fn.ps=ps.length)(Fu:Fun K x qual st f fd)(S:FnScope N ps (Zh st))
  (hb:∀(cdv:aq)(A:cC)(outer:List Env)(s:aA)(H:Hp)(E:XK),Room k (A.deeper<|dL qual (Zh st) s.heap.objs.size f cdv)->
   CSs (X3 (CX1 P w) P w K mg base N qual (Zh st) f cdv A outer s H E) (xwE cl E) fr C (Pv.muts fn.body) (Zz st) fn.body) :
  FnOk P w K mg base (CX1 P w) (k+1) f fd ps (spX K cl C' fr n):=by
 have eq:∀{ρ S H ds vs Q E},St3 K ρ S H->Rq ρ H ds vs->End K (xwE cl E) (XT fr H) ρ H Q (C' n ds S)->End K (xwE cl E) (XT fr H) ρ H Q (JN C fn ds S):=λ{ρ S H ds vs Q E} st r h=>by
  rcases hF ρ S H ds vs st r with e|e
  .rw[e]at h;exact h.elim
  .rw[e]at h;exact h
 obtain⟨oc,od,kV,doc,pm,an,cdv,ct,osl,rfl,lk,hcd⟩:=Fu.ex;refine Zc8 lk hcd S (λvs H Q E #[ρ,ds,S,st,r,h]=>?_) λA outer s H vs Q E hr #[ρ,ds,S',st,r,h]=>#[_,hb cdv A outer s H E hr,ρ,H,λ_=>ae,Pv.ZJ fn.ns ds,[],S',st,Eu.start st r N fn.ns hns,zG (λ_ _ q=>q) (λ_ _ q=>q)<|eq st r h]
 have h:=eq st r h;obtain⟨hl,_⟩:=End.guard h;rw[r.length,hl,hps]
def Za4 :FnOk P w K mg base (CX1 P w) k f fd ps (spX K cl (Pv.Zm F tk 0) fr n):=
 #[λvs H Q E #[ρ,ds,S,st,r,h]=>False.elim h,by rintro A outer s H args us vs Q E hr e0 hb r ⟨ρ,ds,S,st,r',h⟩;exact False.elim h]
def xY{N:List bi}{qual:bi}{sc:dO}{f:aC}{cdv:aq}{A:cC}{outer:List Env}{s:aA}{H:Hp}{E:XK}:DefX (X3 (CX1 P w) P w K mg base N qual sc f cdv A outer s H E) E:=#[rfl,rfl,rfl,rfl]
def Zfr :VO (CX1 X.prog X.w) X E0:=by rintro pq σ H s e s' I ⟨_,_,_,_,_,_,_,_,_,_,_,_,_,_,z⟩;exact z.elim
end
end Sd
namespace Sd
open PySem PySem.Spec PyProof.Rows L2 PySem.W
structure ExK(K:Frag)(C:aC):Prop where
 cd:(clsIn K C).isSome=ak
 ga:pL K (.ref C) "__getattribute__" = aa (aa<|.builtin "BaseException.__getattribute__")
 gx:pL K (.ref C) "__getattr__" = aa ae
 gc:pL K (.ref C) "__class__" = aa (aa<|.builtin "object.__class__")
 be:mroIn K C (.type "BaseException")=aa ak
 ob:mroIn K C (.type "object")=aa ak
section
variable{prog:bH}{w:bV}{A:cC}{E:aq->aA->Prop}{h:ck}{g:Array GenState}{d:Drawn}{t:Nat}{os:OsState}{a C:aC}{o:fD}{K:Frag}
def ZbX{R:rz->aA->Prop}(X:K.In h)(k:ExK K C)(hx:h.get? a=aa o)(hc:o.cls=.ref C)(hq:R (.ok<|.ret<|.ref C) #[h,g,d,t,os]) :
  eS (aV prog w) A (.call (.builtin "getset_descriptor.__get__") #[[.builtin "object.__class__",.ref a,.ref C],[]]) R #[h,g,d,t,os]:=by
 have hT5:=iq;have L1:Looks (aV prog w) h (isSubtype (.ref C)<|.type<|".".intercalate ("object.__class__".cutAt '.').dropLast) ak:=by
  rw[F.owner_object_class];exact looks_mroIn X k.ob
 refine mz F.slot_gs_get.plain F.entry_gs_get<|F.slot_gs_get.check _ _ _ _ _ _ _ _ hT5 (F.args_gs_get _ _ _) ?_
 repeat(any_goals (first|assumption|(with_reducible refine fN hx ?_;rw[hc])|with_reducible refine L1.at ?_|wp_step))
 refine#[Code.quiet_builtin _ (by decide +kernel),codeAny_builtin F.entry_object_class ?_]
 repeat(any_goals (first|assumption|(with_reducible refine fN hx ?_;rw[hc])|wp_step))
def uH{Q:Unit->aA->Prop}(X:K.In h)(k:ExK K C)(hx:h.get? a=aa o)(hc:o.cls=.ref C)(hq:Q () #[h,g,d,t,os]) :
  bn M A (checkBuiltinCall "BaseException.__getattribute__" #[[.ref a,nameV],[]]) Q E #[h,g,d,t,os]:=by
 have hk:builtinKind "BaseException.__getattribute__" = aa .slot:=by decide +kernel
 have hsplit:splitId "BaseException.__getattribute__" = aa ("BaseException","__getattribute__"):=by decide +kernel
 have L1:Looks M h (isSubtype (.ref C)<|.type "BaseException") ak:=looks_mroIn X k.be;have ha:=F.args_bexc_ga (.ref a) nameV;simp only[checkBuiltinCall,hk,hsplit];refine aj ?_;unfold isInstance
 repeat(first|(with_reducible refine fN hx ?_;rw[hc])|with_reducible refine L1.at ?_|wp_step)
 exact hq
def ui{Q:Fin->aA->Prop}(X:K.In h)(k:ExK K C)(hx:h.get? a=aa o)(hc:o.cls=.ref C)(hq:Q (.done<|.ret<|.ref C) #[h,g,d,t,os]) :
  bn (aV prog w) A (fg.«object.__getattribute__» #[[.ref a,.str "__class__" tk],[]]) Q E #[h,g,d,t,os]:=by
 have hT5:=iq;have f5:=iq;have f6:=F.slot_gs_get.lookup;have f7:=F.slot_gs_set.lookup;have L1:Looks (aV prog w) h (nq (.ref C) "__class__") (aa<|.builtin "object.__class__"):=nY X k.gc
 repeat(any_goals (first|assumption|(with_reducible refine fN hx ?_;rw[hc])|with_reducible refine L1.at ?_|wp_step))
 refine ZbX X k hx hc ?_
 repeat(any_goals (first|assumption|wp_step))
def ZdQ{Q:aq->aA->Prop}(X:K.In h)(k:ExK K C)(hx:h.get? a=aa o)(hc:o.cls=.ref C)(hq:Q (.ref C) #[h,g,d,t,os]) :
  bn (aV prog w) A (getAttrBy (.ref a) (.str "__class__" tk) ai) Q E #[h,g,d,t,os]:=by
 have f3:=PySem.F.excAttr_ValueError.ga.bind<|.ref a;have hx2:(iF "BaseException.__getattribute__" == iF "object.__getattribute__")=ai:=by decide +kernel
 have hx1:(onTheHeap (dJ C)&&iF "BaseException.__getattribute__" == iF "object.__getattribute__")=ai:=by rw[hx2];rfl
 have L1:Looks (aV prog w) h (nq (.ref C) "__getattribute__") (aa<|.builtin "BaseException.__getattribute__"):=nY X k.ga;have L2:Looks (aV prog w) h (nq (.ref C) "__getattr__") ae:=nY X k.gx
 repeat(any_goals (first|assumption|(with_reducible refine fN hx ?_;rw[hc])|with_reducible refine L1.at ?_|with_reducible refine L2.at ?_|wp_step))
 refine mz PySem.F.excAttr_ValueError.ga.plain F.entry_bexc_ga<|uH X k hx hc<|ui X k hx hc ?_
 repeat(any_goals (first|assumption|wp_step))
def qo{Q:Option aq->aA->Prop}(X:K.In h)(k:ExK K C)(hx:h.get? a=aa o)(hc:o.cls=.ref C)(hq:Q (aa<|.ref C) #[h,g,d,t+1,os]) :
  bn (aV prog w) A (getAttr? (.ref a) "__class__") Q E #[h,g,d,t,os]:=by
 unfold getAttr? getAttrBy?
 repeat(any_goals (first|assumption|with_reducible apply ZdQ X k hx hc|wp_step))
end
def ZaR{K:Frag}{a C:aC}(k:ExK K C):KitX K (.ref a) (.ref C) (λh=>∃o,h.get? a=aa o/\o.cls=.ref C) where
 ty:=λ_ _ _ #[o,hx,hc]=>hc▸(Looks.ld hx).andThen .now
 it:=λ_ _ X _=>by
  have hcD:=k.cd;unfold clsIn at hcD;split at hcD
  .rename_i c' d' cd' sl' ho
   intro A' Q' E' s' kk q;exact aj<|wpAny_loadPart (kk _ _<|X _ _ ho)<|aF q
  .cases hcD
 ne:=λh tp dd its n sl X htp=>by
  have hcD:=k.cd;refine Bool.eq_false_iff.mpr λq=>?_
  have e:=dJ.inj<|beq_iff_eq.mp q;subst e;unfold clsIn at hcD;split at hcD
  .rename_i c' d' cd' sl' ho
   have z:=(X _ _ ho).symm.trans htp;cases z
  .cases hcD
 ca:=λ{_ _ _ _ _ s} X #[o,hx,hc] q=>by obtain⟨h,g,d,t,os⟩:=s;exact qo X k hx hc q
end Sd
namespace Sd
open PySem PySem.Spec PyProof.Rows L2
def Inv.slots(D:DefX X E)(I:L2.Inv X pq σ H s)(hh:∀b∈hid,b∈frs X.stack\/(X.s₀.heap.get? b=ae/\H b=ae/\∀p∈X.pn++pq,p.1≠b))
  (st:(eL s.heap hid).StaysIn h')(up:s.heap.UpToSlots h'):L2.Inv X pq σ H {s with heap:=h' }:=by
 have keep:=λb u e n=>st b u<|gn _ e n
 have nof:∀b∈frs X.stack,∀o,s.heap.get? b=aa o->∀vs,o.data≠.fields vs:=λb hb o e=>by
  obtain⟨_,o1,ho,hd⟩:=I.stack.mem hb;rw[e]at ho;cases ho;exact hd
 have frS:=λb hb o e=>up b o e<|nof b hb o e
 have frH:=I.stkFree;have sub:∀b∈X.fs,b∈frs X.stack:=λb hb=>by
  change b∈frs X.outer at hb
  rw[D.st];unfold frs at hb ⊢;rw[cp,D.fr];exact au _ hb
 have own:∀b o,X.s₀.heap.get? b=aa o->b∈frs X.stack->b∈X.fs:=λb o e hb=>by
  rw[D.st]at hb;show b∈frs X.outer;unfold frs at hb ⊢;rw[cp,D.fr]at hb;rcases ay.mp hb with z|z
  .exact T7 (aO e) (by rw[z];exact lz I.ok.above)
  .exact z
 have hidN:∀b∈hid,H b=ae:=λb hb=>(hh b hb).elim (frH b) λz=>z.2.1
 have old:∀b o,X.s₀.heap.get? b=aa o->b∉X.fs->b∉hid:=λb o e hb hm=>by
  rcases hh b hm with z|z
  .exact hb<|own b o e z
  .rw[e]at z;cases z.1
 have U:=I.base;refine#[I.ok,I.os,I.bare,#[λb o e n hb hx=>keep b o (U.keep b o e n hb hx)<|old b o e hb,λb o e n hb hx=>?_,U.free,λb o e hx=>?_,U.tups,U.frzs,U.tbls],?_,λy c e=>?_,I.free,I.freeC,λp hp=>?_,λc o e=>?_,I.len]
 .obtain⟨sl,e1⟩:=U.slot b o e n hb hx
  obtain⟨sl2,e2⟩:=frS b (sub b hb) _ e1;exact#[sl2,e2]
 .obtain⟨o1,e1⟩:=U.there b o e hx
  by_cases hm:b∈frs X.stack
  .obtain⟨sl,e2⟩:=frS b hm o1 e1
   exact#[_,e2]
  .refine#[o1,keep b o1 e1 λz=>?_]
   rcases hh b z with q|q
   .exact hm q
   .rw[e]at q;cases q.1
 .obtain⟨m,hn,hl⟩:=I.loc
  refine#[m,up.ns hn,λi x v e1 e2 e3=>?_]
  obtain⟨u,r,q⟩:=hl i x v e1 e2 e3;refine#[u,r,?_];rcases q with q|⟨k,c,e,z⟩
  .exact .inl q
  .refine .inr #[k,c,e,?_]
   obtain⟨o,ho,hd⟩:=z;obtain⟨sl,e2⟩:=up c o ho λvs q=>by rw[hd]at q;cases q
   exact#[_,e2,hd]
 .obtain⟨v,o,ho,hd⟩:=I.cell y c e
  obtain⟨sl,e2⟩:=up c o ho λvs q=>by rw[hd]at q;cases q
  exact#[v,_,e2,hd]
 .obtain⟨e,n,ne,nf,d⟩:=I.pin p hp
  refine#[keep _ _ e λz=>?_,n,ne,nf,d]
  rcases hh p.1 z with q|q
  .rw[D.st]at q;unfold frs at q;rw[cp,D.fr]at q
   rcases ay.mp q with q|q
   .exact ne q
   .exact nf q
  .exact q.2.2 p hp rfl
 .refine(I.hok c o e).stay (λb u hb q=>?_) (λ_ q=>q) λ_ _ q=>q
  have nh:∀b u,H b=aa u->b∉hid:=λb u e hm=>by rw[hidN b hm]at e;cases e
  rcases hb with rfl|hb
  .exact keep _ u q<|nh _ _ e
  .exact keep _ u q<|nh _ _ hb
def Inv.freeze(I:L2.Inv X pq σ H s)(ha:s.heap.get? a=aa o)(Ha:H a=ae)(n0:X.s₀.heap.get? a=ae)(hl:a≠X.env.locals)(hc:∀x c,X.env.cells.lookup x=aa c->c≠a)(hp:∀p∈X.pn++pq,p.1≠a) :
  L2.Inv X pq σ (upd H a<|.frz o<|.own a) s:=by
 have nu:∀b u,H b=aa u->upd H a (.frz o<|.own a) b=aa u:=λb u e=>by rw[Zj λz=>by rw[z,Ha]at e;cases e];exact e
 have nn:∀b,b≠a->H b=ae->upd H a (.frz o<|.own a) b=ae:=λb z e=>by rw[Zj z];exact e
 have U:=I.base;refine#[I.ok,I.os,I.bare,#[U.keep,U.slot,λb o e n hx=>nn b (λz=>by rw[z,n0]at e;cases e)<|U.free b o e n hx,U.there,λb xs e=>nu _ _<|U.tups b xs e,λb o u e=>nu _ _<|U.frzs b o u e,λb ps e=>?_],I.loc,I.cell,nn _ (Ne.symm hl) I.free,λx c e=>nn _ (hc x c e)<|I.freeC x c e,λp hp'=>?_,λc u e=>?_,I.len]
 .obtain⟨more,e1⟩:=U.tbls b ps e
  exact#[more,nu _ _ e1]
 .obtain⟨e,n,r⟩:=I.pin p hp'
  exact#[e,nn _ (hp p hp') n,r]
 .by_cases z:c=a
  .subst z
   rw[Zl]at e;cases e;exact#[ha,_,ha]
  .rw[Zj z]at e
   exact(I.hok c u e).stay (λb v hb q=>q) (λ_ q=>nu _ _ q) λ_ _ q=>nu _ _ q
def Zbx{E:aq->aA->Prop}{Q:Unit->aA->Prop}(I:L2.Inv X pq σ H s)(hN:X.N.Nodup)(hi:X.N[i]?=aa n)(hk:X.env.kindOf n=aa .local)
  (h:∀s',L2.Inv X pq (σ.set i ae) H s'->Q () s'):bn M A (do bindName X.env n .none;unbindBehindTheSuite X.env n pos) Q E s:=by
 obtain⟨m,hn,hl⟩:=id I.loc;have hcls:(X.env.scope.kind == .class||(X.env.scope.kind == .module&&X.env.locals != X.env.globals))=ai:=by rw[I.ok.kind];rfl
 have hiσ:i<σ.length:=by rw[I.len];exact(aE.mp hi).1
 refine wpAny_nameGoes_keeps hk hn hcls λh' v hn' hs=>?_
 obtain⟨oL,_,_,hoL,_⟩:=id hn;have ab:∀b o,X.s₀.heap.get? b=aa o->b≠X.env.locals:=λb o e=>bD<|bv (aO e) I.ok.above
 have U:=I.base;refine h _ #[I.ok,I.os,I.bare,#[λb o e n hb hx=>(hs.2 b<|ab b o e).trans<|U.keep b o e n hb hx,λb o e n hb hx=>?_,U.free,λb o e hx=>?_,U.tups,U.frzs,U.tbls],#[_,hn',λj y v' e1 e2 e3=>?_],λy c e=>?_,I.free,I.freeC,λp hp=>?_,λc o e=>?_,by simpa using I.len]
 .obtain⟨sl,e1⟩:=U.slot b o e n hb hx
  exact#[sl,(hs.2 b<|ab b o e).trans e1]
 .obtain⟨o',e1⟩:=U.there b o e hx
  exact#[o',(hs.2 b<|ab b o e).trans e1]
 .by_cases hj:j=i
  .subst hj
   rw[bg hiσ]at e2;cases e2
  .rw[bc<|Ne.symm hj]at e2
   obtain⟨u',r',q⟩:=hl j y v' e1 e2 e3;refine#[u',r',?_];rcases q with⟨k,e⟩|⟨k,c,e,z⟩
   .refine .inl #[k,?_]
    have:y≠n:=λe=>hj<|Qb hN e1<|e▸hi
    simp[this,e]
   .exact .inr #[k,c,e,z.sameBut hs<|I.cne y c e]
 .obtain⟨w',z⟩:=I.cell y c e
  exact#[w',z.sameBut hs<|I.cne y c e]
 .obtain⟨e,n,ne,nf,d⟩:=I.pin p hp
  exact#[(hs.2 p.1 ne).trans e,n,ne,nf,d]
 .refine(I.hok c o e).stay (λb u hb q=>(hs.2 b λz=>?_).trans q) (λ_ q=>q) λ_ _ q=>q
  subst z;rcases hb with rfl|hb
  .rw[I.free]at e;cases e
  .rw[I.free]at hb;cases hb
noncomputable abbrev Cx.held(X:Cx)(a:aC):Cx:={X with A:=X.A.mark<|aa<|.ref a,calm:=ai,xe:=λ_ _=>False}
theorem Inv.held(I:L2.Inv X pq σ H s):L2.Inv (Cx.held X a) pq σ H s:=
 #[#[I.ok.mod,I.ok.kind,I.ok.glob,I.ok.blt,I.ok.above,I.ok.inj,I.ok.has,I.ok.cab,(λz=>by cases z),I.ok.frames,I.ok.stk,I.ok.exf,I.ok.bs,I.ok.bsz,I.ok.noex,I.ok.exfs,I.ok.funs,I.ok.frf],I.os,I.bare,I.base,I.loc,I.cell,I.free,I.freeC,I.pin,I.hok,I.len]
def Inv.unheld(ok:X.Ok)(I:L2.Inv (Cx.held X a) pq σ H s):L2.Inv X pq σ H s:=
 #[ok,I.os,I.bare,I.base,I.loc,I.cell,I.free,I.freeC,I.pin,I.hok,I.len]
def ZeD{M:Model}{A:cC}{E:aq->aA->Prop}{i:Nat}{x:bi}{pos:fO}{v:V}{Q:aq->aA->Prop}(I:L2.Inv X pq σ H s)(hi:X.N[i]?=aa x)(hv:Vis X.env.scope x)(e:σ[i]?=aa (aa v))(h:∀u,Zx v u->Q u s)
  (hd:(x == ("__debug__" : bi))=ai)(hcd:(x == ("__classdict__" : bi))=ai):bn M A (bY (.Name x pos) X.env) Q E s:=by
 obtain⟨m,hn,hl⟩:=I.loc;obtain⟨u,r,l⟩:=hl i x v hi e hv;rcases l with⟨hk,hm⟩|⟨hk,c,hc,hcell⟩
 .exact kj (md I.ok.kind hk hn hm<|h u r) hd
 .rcases hk with hk|hk
  .exact kj (mG I.ok.kind hk hc hcell<|h u r) hd
  .exact kj (mH I.ok.kind hk hc hcell (h u r) hcd) hd
def ZcU{Dn:Ends}{E1:XK}{g S:aC}{ic ie ir:Nat}{xc n xr xS:bi}{p1 p2 p3 p4 p5 p6 p7 p8 p9:fO}(D:DefX X E)(I:L2.Inv X pq σ H s)(hN:X.N.Nodup)
  (hic:X.N[ic]?=aa xc)(hvc:Vis X.env.scope xc)(hsc:σ[ic]?=aa (aa<|.ref g))(hie:X.N[ie]?=aa n)(hke:X.env.scope.names.lookup n=aa .local)(hir:X.N[ir]?=aa xr)(hlr:X.env.scope.names.lookup xr=aa .local)
  (hgS:Gl X xS)(hmS:X.mg xS=aa (.ref S))(hg:PySem.W.FnAt g s.heap)
  (run:eS (aV X.prog X.w) X.A (.call (.ref g) #[[],[]]) (CR (CX1 X.prog X.w) X.stack X.prog X.w H s (λ_ H'=>Dn.nx σ H') E1) s)
  (hE1:∀C H',E1 (.ref C) ae H'->pN X.K (.ref C) (.ref S)=aa ak/\∀a oe,H' a=ae->oe.cls=.ref C->Dn.nx (((σ.set ie<|aa<|.ref a).set ir<|aa<|.ref a).set ie ae) (upd H' a<|.frz oe<|.own a))
  (hd1:(xc == ("__debug__" : bi))=ai)(hd2:(xc == ("__classdict__" : bi))=ai)(hd3:(n == ("__debug__" : bi))=ai)(hd4:(n == ("__classdict__" : bi))=ai)(hd5:(xS == ("__debug__" : bi))=ai)
  (hs1:eB (.Call (.Name xc p1) [] [] p2) ae p3.line X.env=cD ai)(hs2:eB (.Name n p6) (aa<|.Name xr p5) p7.line X.env=cD ai) :
  bn (aV X.prog X.w) X.A (exec (.Try [.Expr (.Call (.Name xc p1) [] [] p2) p3] [.ExceptHandler (aa<|.Name xS p4) (aa n) [.Assign [.Name xr p5] (.Name n p6) p7] p8] [] [] p9) X.env) (SP X pq Dn) X.xe s:=by
 refine wpAny_Try_except<|fV<|wpAny_Expr_any ?_ I.quiet hs1;refine fw ?_;refine ZeD I hic hvc hsc (λu r=>?_) hd1 hd2
 obtain rfl:u=dJ g:=r;refine PySem.W.callWith_F0 hg<|pj<|i7 run λr s' hq=>?_
 cases r with
 |ok fl=>
  cases fl with
  |ret u=>
   obtain⟨v,H',I',r',q'⟩:=I.after hq;exact gz<|gz #[σ,H',I',q']
  |next=>exact False.elim hq
  |brk=>exact False.elim hq
  |cont=>exact False.elim hq
 |error e=>
  obtain⟨a,T,C,H',rfl,os,bare,un,hok,fly,na,nT,Ha,HT,hE⟩:=hq;obtain⟨exm,fin⟩:=hE1 C H' hE;have nx:∀b:aC,b∉([]:List aC):=λb=>by simp
  have hfr:X.A.frames=aa (X.env::X.outer):=by rw[<-D.st];exact I.ok.frames
  have I1:L2.Inv X pq σ H' s':=by
   obtain⟨hh,gg,d,t,os'⟩:=s';obtain rfl:os'=s.os:=os;exact I.call (h':=hh) (g':=gg) (d':=d) (t':=t) (ch:=[]) un hok bare (λb z=>T7 z<|by simp)
  let hid:=frs X.stack++[a,T]
  have hin:∀b∈frs X.stack,b∈hid:=λb hb=>cL _ hb
  have old0:∀b,s.heap.get? b=ae->X.s₀.heap.get? b=ae:=λb e=>by
   cases q:X.s₀.heap.get? b with
   |none=>rfl
   |some o=>
    have U1:=I.base;rw[D.ex]at U1;obtain⟨o1,e1⟩:=U1.there b o q<|nx b;rw[e]at e1;cases e1
  have pn:∀b,s.heap.get? b=ae->∀p∈X.pn++pq,p.1≠b:=λb e p hp z=>by
   have:=(I.pin p hp).1;rw[z,e]at this;cases this
  have hhid:∀b∈hid,b∈frs X.stack\/(X.s₀.heap.get? b=ae/\H' b=ae/\∀p∈X.pn++pq,p.1≠b):=λb hb=>by
   rcases bK.mp hb with z|z
   .exact .inl z
   .rcases ay.mp z with rfl|z
    .exact .inr #[old0 _ na,Ha,pn _ na]
    .rw[aY.mp z];exact .inr #[old0 _ nT,HT,pn _ nT]
  have FF:s'.heap.FunFrames (eL s'.heap hid) (X.env::X.outer):=by
   rw[<-D.st];exact FunFrames.rebase I1.stack (λb hb o e=>#[o.slots,e]) λb hb=>c9 _<|hin b hb
  obtain⟨oe,vs,a0,oT,ts,f1,f2,f3,f4,f5,f6,f7,f8⟩:=fly;refine wpAny_looks_onW hfr D.fr (cls:=.ref C) (a0:=a0) (e:=a) #[λb o e=>gE _ e,c9 _<|bt _<|ao ..,FF,oe,vs,T,oT,ts,f1,f2,f3,f4,c9 _<|bt _<|au _<|ao ..,f5,f6,f7,f8] λh1 held up1=>?_
  refine wpAny_landsW held λh2 fly2 up2=>?_
  have I2:=Inv.slots D I1 hhid fly2.1<|up1.trans up2
  obtain⟨oe2,ge2,ce2⟩:=fly2.there;have K2:=I2.kIn;refine wpAny_handleBy_cons (codeAny_handlers_test<|WP (X:=Cx.held X a) (Inv.held I2) hgS hmS ?_ hd5) (by intro q;cases q)
  refine(PySem.W.exm_one (h:=h2) K2 (ce2▸(PySem.W.Looks.ld ge2).andThen .now) exm).here ?_;refine codeAny_handlers_suite_as ?_;obtain⟨k1,k2,k3,k4⟩:=fly2;refine wpAny_setFlight_noneW k1 k3 k4 λh3 m1 m2 m3 m4=>?_
  have I3:=Inv.slots D I1 hhid m1<|(up1.trans up2).trans λb o e hn=>#[o.slots,m4 b o e hn]
  obtain⟨oe3,vs3,T3,oT3,ts3,ge3,⟨ce3,_⟩,de3,_⟩:=m3;have I4:=Inv.freeze I3 ge3 Ha (old0 _ na)
   (λz=>by
    obtain⟨m,⟨o,es,ep,ho,hd,_⟩,_⟩:=I3.loc;have e1:=ho;rw[<-z,ge3]at e1;cases e1;rw[de3]at hd;cases hd)
   (λx c e z=>by
    obtain⟨v,o,ho,hd⟩:=I3.cell x c e;have e1:h3.get? c=aa o:=ho;rw[z,ge3]at e1;cases e1;rw[de3]at hd;cases hd) (pn _ na)
  refine UC (X:=X) I4 hN hie (.inl hke) (v:=.ref a) rfl (λs4 I5=>?_)<|.inr hke
  have hiσ:ie<σ.length:=by rw[I.len];exact(aE.mp hie).1
  refine cI ((W9<|Vu (X:=Cx.held X a) (pos:=p7) (pos':=p5) hN hir (.inl hlr) (Yk (pos:=p6) hie (.inl hke) hd3 hd4) hs2<|.inr hlr) pq s4 _ _
   {nx:=λσ' H1=>σ'=(σ.set ie<|aa<|.ref a).set ir (aa<|.ref a)/\H1=upd H' a (.frz oe3<|.own a),rt:=λ_ _=>False} (Inv.held I5) #[.ref a,bg hiσ,rfl,rfl]) (λf s5 hsp=>?_) λ_ _ z=>False.elim z
  cases f with
  |next=>
   obtain⟨σ',H1,J,rfl,rfl⟩:=hsp;exact Zbx (Inv.unheld I.ok J) hN hie hke λs6 I6=>#[_,_,I6,fin a oe3 Ha ce3]
  |ret u=>obtain⟨_,_,_,_,_,z⟩:=hsp;exact z.elim
  |brk=>obtain⟨_,_,_,z⟩:=hsp;exact False.elim z
  |cont=>obtain⟨_,_,_,z⟩:=hsp;exact False.elim z
open Ev (E Sm Fn Bop Cop Ty Bf Mf)
structure Gr(H H':Hp):Prop where
 k:∀b u,H b=aa u->(∀ps,u≠.tbl ps)->H' b=aa u
 t:∀b ps,H b=aa (.tbl ps)->∃qs,H' b=aa (.tbl qs)
def Gr.fut(g:Gr H H'):Fut ρ H ρ H':=#[rfl,λa o e=>by
 cases o with
 |tbl ps=>exact .inr<|.inr #[#[ps,rfl],g.t a ps e]
 |_=>exact .inl<|g.k a _ e λps z=>by cases z]
def St3.grow{K:al}{ρ:Mx}{S:Zv}{H H':Hp}(st:St3 K ρ S H)(g:Gr H H')(tb:Tb H'):St3 K ρ S H':=
 #[st.hk,λa x=>by
  obtain⟨o,e⟩:=kt.mp<|st.xd a x;rcases(g.fut).keep a o e with q|⟨h,_⟩|⟨_,_,q⟩
  .rw[q];intro z;cases z
  .rw[g.k a _ (st.dw a h).1 λps z=>by cases z];intro z;cases z
  .rw[q];exact Option.some_ne_none _,λa h=>#[g.k a _ (st.dw a h).1 λps z=>(by cases z),(st.dw a h).2],tb]
def yO(l:List aq)(h:ou l)(e:ki q (l++[gO a,gO b,c])=aa cv):ki q l=aa cv\/cv=c:=by
 fun_induction ou l with
 |case1=>
  simp only[eN,ki,gO]at e;split at e
  .cases e;exact .inr rfl
  .cases e
 |case2 a' t b' u x rest ih=>
  simp only[lm,ki]at e ⊢;split at e
  .rename_i z;rw[T9 z];exact .inl e
  .rename_i z;rw[T8 z];exact ih h e
 |case3 l h1 h2=>exact h.elim
section
variable{X:Cx}{E:aq->aA->Prop}{pq:List (aC×fD)}{σ:L2.St}{H:Hp}{s:aA}
theorem Inv.grow(I:L2.Inv X pq σ H s){h':ck}{tk:pU}{P:aC}{ps more:Array aq}(hP:H P=aa (.tbl ps))(hx:iI P s.heap h')(hT:h'.get? P=aa {cls:=.none,data:=.fields (ps++more)}){new:List (aC×fD)}
  (hn:∀p∈new,s.heap.objs.size<=p.1/\h'.get? p.1=aa p.2)(nd:(new.map (·.1)).Nodup) :
  let H':=new.foldl (λG p=>upd G p.1<|.frz p.2<|.own p.1)<|upd H P<|.tbl<|ps++more
  L2.Inv X pq σ H' {s with heap:=h',toks:=tk}/\Gr H H'/\(∀p∈new,H' p.1=aa (.frz p.2<|.own p.1))/\H' P=aa (.tbl<|ps++more)/\∀b qs,H' b=aa (.tbl qs)->(b=P/\qs=ps++more)\/H b=aa (.tbl qs):=by
 intro H';have hPs:=Z4.lt<|I.hok P _ hP;have H0:∀b,(∀p∈new,p.1≠b)->H' b=upd H P (.tbl<|ps++more) b:=by
  have gen:∀(l:List (aC×fD))(G:Hp)(b:aC),(∀p∈l,p.1≠b)->l.foldl (λG p=>upd G p.1<|.frz p.2<|.own p.1) G b=G b:=by
   intro l
   induction l with
   |nil=>intro G b _;rfl
   |cons p l ih=>
    intro G b h;rw[d4,ih _ b λq hq=>h q<|au _ hq,Zj<|Ne.symm<|h p<|ao ..]
  exact λb h=>gen new _ b h
 have H1:∀p∈new,H' p.1=aa (.frz p.2<|.own p.1):=by
  have gen:∀(l:List (aC×fD))(G:Hp),(l.map (·.1)).Nodup->∀p∈l,l.foldl (λG p=>upd G p.1<|.frz p.2<|.own p.1) G p.1=aa (.frz p.2<|.own p.1):=by
   intro l
   induction l with
   |nil=>intro G _ p hp;simp at hp
   |cons q l ih=>
    intro G hd p hp;rw[aW,dy]at hd;rw[d4];rcases ay.mp hp with rfl|hp
    .have rest:∀(l:List (aC×fD))(G:Hp)(b:aC),b∉l.map (·.1)->l.foldl (λG p=>upd G p.1<|.frz p.2<|.own p.1) G b=G b:=by
      intro l
      induction l with
      |nil=>intro G b _;rfl
      |cons p l ih=>
       intro G b h;rw[aW,ay,not_or]at h;rw[d4,ih _ b h.2,Zj h.1]
     rw[rest l _ _ hd.1,Zl]
    .exact ih _ hd.2 p hp
  exact gen new _ nd
 have new0:∀b,b<s.heap.objs.size->∀p∈new,p.1≠b:=λb hb p hp z=>by have q:=(hn p hp).1;rw[z]at q;lia
 have old:∀b u,H b=aa u->b≠P->H' b=aa u:=λb u e z=>by
  rw[H0 b<|new0 b<|Z4.lt<|I.hok b u e,Zj z];exact e
 have HP:H' P=aa (.tbl<|ps++more):=by rw[H0 P<|new0 P hPs,Zl]
 have cases':∀b u,H' b=aa u->(∃p∈new,p.1=b/\u=.frz p.2 (.own p.1))\/(b=P/\u=.tbl (ps++more))\/(b≠P/\H b=aa u):=λb u e=>by
  by_cases q:∃p∈new,p.1=b
  .obtain⟨p,hp,rfl⟩:=q
   rw[H1 p hp]at e;cases e;exact .inl #[p,hp,rfl,rfl]
  .rw[H0 b λp hp z=>q #[p,hp,z]]at e
   by_cases z:b=P
   .subst z;rw[Zl]at e;cases e;exact .inr<|.inl #[rfl,rfl]
   .rw[Zj z]at e;exact .inr<|.inr #[z,e]
 have gr:Gr H H':=#[λb u e n=>old b u e λz=>(by rw[z,hP]at e;cases e;exact n ps rfl),λb qs e=>by
  by_cases z:b=P
  .subst z;exact#[_,HP]
  .exact#[qs,old b _ e z]]
 refine#[I.un #[λb o e n _ _=>hx b o (λz=>by rw[z,hP]at n;cases n) e,λb o e n _ _=>#[o.slots,hx b o (λz=>by rw[z,hP]at n;cases n) e],λb o e n _=>?_,λb o e _=>?_,λb xs e=>gr.k b _ e (λps z=>by cases z),λb o u e=>gr.k b _ e (λps z=>by cases z),λb qs e=>?_] λb u e=>?_,gr,H1,HP,λb qs e=>?_]
 .rw[H0 b<|new0 b<|aO e,Zj λz=>by rw[z,hP]at n;cases n];exact n
 .by_cases z:b=P
  .subst z;exact#[_,hT]
  .exact#[o,hx b o z e]
 .by_cases z:b=P
  .subst z;rw[hP]at e;cases e;exact#[more,HP]
  .exact#[#[],by rw[old b _ e z];simp]
 .rcases cases' b u e with⟨p,hp,rfl,rfl⟩|⟨rfl,rfl⟩|⟨z,e0⟩
  .exact#[(hn p hp).2,_,(hn p hp).2]
  .exact hT
  .refine(I.hok b u e0).stay (λc v hc q=>hx c v ?_ q) (λc q=>gr.k c _ q λps z=>by cases z) λc xs q=>gr.k c _ q λps z=>by cases z
   rcases hc with rfl|hc
   .exact z
   .intro y;rw[y,hP]at hc;cases hc
 .rcases cases' b _ e with⟨p,hp,rfl,z⟩|⟨rfl,z⟩|⟨z,e0⟩
  .cases z
  .cases z;exact .inl #[rfl,rfl]
  .exact .inr e0
def Tb.grow(tb:Tb H)(g:Gr H H')(hb:∀b rs,H' b=aa (.tbl rs)->(b=P/\rs=qs)\/H b=aa (.tbl rs))(ht:ou qs.toList)
  (hc:∀pos cv,ki pos qs.toList=aa cv->∃(c:aC)(oc:fD)(vs:Array aq)(t:pU),cv=.ref c/\H' c=aa (.frz oc<|.own c)/\oc.data=.fields vs/\vs[1]?=aa (.str YY t)):Tb H':=λb rs e=>by
 rcases hb b rs e with⟨_,rfl⟩|e0
 .exact#[ht,hc]
 .obtain⟨h1,h2⟩:=tb b rs e0
  refine#[h1,λpos cv q=>?_]
  obtain⟨c,oc,vs,t,e1,e2,e3⟩:=h2 pos cv q;exact#[c,oc,vs,t,e1,g.k c _ e2 (λps z=>by cases z),e3]
def qS{P c:aC}{ps:Array aq}{params:oq}{body:Expr}{scope:dO}{pos:fO}{clos:List (bi×aC)}{Q:aq->aA->Prop}(I:L2.Inv X pq σ H s)(tb:Tb H)(hP:H P=aa (.tbl ps))(hcode:X.env.code=.ref c)(C:du X.base c P)(hB:X.base.BuiltinsAt X.mg P)(hgP:bG≠P)
  (hq:X.env.qual++"<lambda>" = YY)(hcl:iA scope X.env=cD clos)(hdef:defaultsOf params X.env=([],[]))
  (h:∀(g c':aC)(oc:fD)(vs:Array aq)(t:pU)(pm ctv:aq)(H':Hp)(s':aA),L2.Inv X pq σ H' s'->Gr H H'->Tb H'->(∃ps',H' P=aa (.tbl ps'))->H' g=aa (.frz (fE "<lambda>" YY params body scope clos pm c' ctv)<|.own g)->
   H' c'=aa (.frz oc<|.own c')->oc.data=.fields vs->vs[1]?=aa (.str YY t)->Q (.ref g) s') :
  bn (aV X.prog X.w) X.A (bY (.Lambda params body scope pos) X.env) Q E s:=by
 refine PySem.W.kla_eval hdef ?_;rw[hq];have hPo:=I.hok P _ hP;obtain⟨ht,hcs⟩:=tb P ps hP;have hg:=I.ok.mod.glob.keeps I.bk;have hBs:s.heap.BuiltinsAt X.mg P:=by
  obtain⟨bm,o,b1,b2,b3,b4,b5,b6⟩:=hB;exact#[bm,o,b1,b2,b3,b4,I.bk _ _ b5,b6]
 cases q:ki pos ps.toList with
 |some cv=>
  obtain⟨c',oc,vs,t,rfl,e2,e3,e4⟩:=hcs pos cv q;refine PySem.W.kla_makeFunctionHit hcl I.ok.glob hg hcode (C.keeps I.bk) hPo ht q hBs λctv h' tk hk hz=>?_
  have kp:∀b o,s.heap.get? b=aa o->(h'.push<|fE "<lambda>" YY params body scope clos ((X.mg "__name__").getD .none) c' ctv).get? b=aa o:=λb o e=>ax _<|hk b o e
  obtain⟨I',gr,n1,hP',tbs⟩:=Inv.grow I hP (λb o _ e=>kp b o e) (by rw[kG];exact kp _ _ hPo)
   (new:=[(h'.objs.size,fE "<lambda>" YY params body scope clos ((X.mg "__name__").getD .none) c' ctv)]) (λp hp=>by
    rw[aY.mp hp];exact#[hz,aQ _ rfl]) (by simp)
  refine h _ c' oc vs t _ ctv _ _ I' gr (tb.grow gr tbs (by rw[kG];exact ht) λpos' cv' q'=>?_) #[_,hP'] (n1 _<|ao ..) (gr.k _ _ e2 λps z=>by cases z) e3 e4
  rw[kG]at q';obtain⟨c2,oc2,vs2,t2,f1,f2,f3⟩:=hcs pos' cv' q';exact#[c2,oc2,vs2,t2,f1,gr.k _ _ f2 (λps z=>by cases z),f3]
 |none=>
  refine PySem.W.kla_makeFunction hcl I.ok.glob hg hcode (C.keeps I.bk) hPo ht q hgP hBs λc' ctv h' tk hx hge hlt hrec htb=>?_
  obtain⟨c2,oc,vs,t,e2,hoc,hd,hv⟩:=hrec;cases e2;have kp:iI P s.heap (h'.push<|fE "<lambda>" YY params body scope clos ((X.mg "__name__").getD .none) c' ctv):=λb o hb e=>ax _<|hx b o hb e
  have hsz:=cc hge<|i5 hlt;obtain⟨I',gr,n1,hP',tbs⟩:=Inv.grow (tk:=tk) I hP kp (ax _ htb)
   (new:=[(c',oc),(h'.objs.size,fE "<lambda>" YY params body scope clos ((X.mg "__name__").getD .none) c' ctv)]) (λp hp=>by
    rcases ay.mp hp with rfl|hp
    .exact#[hge,ax _ hoc]
    .rw[aY.mp hp];exact#[hsz,aQ _ rfl]) (dy.mpr #[λz=>T7 (aY.mp z)<|bD hlt,dy.mpr #[by simp,pB]])
  refine h _ c' oc vs t _ ctv _ _ I' gr (tb.grow gr tbs (by rw[bX];exact TriplesOk_snoc _ _ _ _ ht) λpos' cv' q'=>?_) #[_,hP'] (n1 _<|au _<|ao ..) (n1 _<|ao ..) hd hv
  rw[bX]at q';rcases yO _ ht q' with z|rfl
  .obtain⟨c2,oc2,vs2,t2,f1,f2,f3⟩:=hcs pos' cv' z
   exact#[c2,oc2,vs2,t2,f1,gr.k _ _ f2 (λps z=>by cases z),f3]
  .exact#[c',oc,vs,t,rfl,n1 _<|ao ..,hd,hv]
end
end Sd
namespace Sd
open PySem PySem.Spec PyProof.Rows L2
noncomputable def cxL(P:bH)(w:bV)(K:al)(mg:bi->Option aq)(base:ck)(N:List bi)(scope:dO)(g:aC)(cd:aq)(clos:List (bi×aC))(A:cC)(outer:List Env)(s:aA)(H:Hp)(E:XK):Cx where
 prog:=P
 w:=w
 K:=K
 mg:=mg
 base:=base
 A:=A.deeper<|fB YY scope s.heap.objs.size g cd clos
 N:=N
 s₀:=s
 H₀:=H
 env:=fB YY scope s.heap.objs.size g cd clos
 outer:=outer
 stack:=fB YY scope s.heap.objs.size g cd clos::outer
 ex:=[]
 calm:=ak
 fn:=λ_=>ai
 pn:=[]
 xe:=λe s'=>bn (aV P w) (A.deeper<|fB YY scope s.heap.objs.size g cd clos) (leaving (fB YY scope s.heap.objs.size g cd clos) e) (λ_ s''=>CX1 P w outer H s E e s'') (λe' s''=>CX1 P w outer H s E e' s'') s'
section
variable{P:bH}{w:bV}{K:al}{mg:bi->Option aq}{base:ck}{N:List bi}{scope:dO}{g c':aC}{clos:List (bi×aC)}{A:cC}{outer:List Env}{s:aA}{H:Hp}{E:XK}
def ZfX :DefX (cxL P w K mg base N scope g cd clos A outer s H E) E:=#[rfl,rfl,rfl,rfl]
structure LamS(scope:dO)(clos:List (bi×aC)):Prop where
 kind:scope.kind=.function
 co:scope.isCoroutine=ai
 gen:scope.isGenerator=ai
 nc:∀x∈scope.names,x.2≠.cell
 vis:∀x,Vis scope x->scope.names.lookup x=aa .free
 has:∀x,scope.names.lookup x=aa .free->∃c,clos.lookup x=aa c
 inj:∀x y c,clos.lookup x=aa c->clos.lookup y=aa c->x=y
def ZaF(hr:Room (k+1) A)(e0:Env0 P w K mg base A outer s H)(L:LamS scope clos)
  (hg:s.heap.get? g=aa (fE "<lambda>" YY params body scope clos pm c' ctv))(hcd:s.heap.CodeRec (.ref c') YY)(hbind:mi (pO "<lambda>" YY params body scope clos pm (.ref c') ctv) #[[],[]]=cD [])
  (hcell:∀x c,clos.lookup x=aa c->(∃v,s.heap.IsCell c v)/\H c=ae)(hlen:σ.length=N.length)
  (hval:∀(i:Nat)(x:bi)(v:V),N[i]?=aa x->σ[i]?=aa (aa v)->scope.names.lookup x=aa .free->∃u c,Zx v u/\clos.lookup x=aa c/\s.heap.IsCell c (aa u))
  (hb:PE (cxL P w K mg base N scope g (.ref c') clos A outer s H E) body t)(ht:t σ H Q) :
  eS (aV P w) A (.call (.ref g) #[[],[]]) (CR (CX1 P w) outer P w H s Q E) s:=by
 have lim:=e0.mod.nolimit.keeps λb o e=>(e0.bs b o e).1
 refine PySem.W.kla_callFunE hr.depth hg rfl L.co L.gen rfl hcd ?_;rw[hbind];refine aF<|mm L.nc (λx hx=>by simp at hx) (λh1 hns hsb=>?_) L.kind
 have hk1:=λb o e=>hsb.extBut b o (bD<|aO e)<|ax _ e
 refine#[lim.keeps hk1,?_];have noA:∀b:aC,b∉(cxL P w K mg base N scope g (.ref c') clos A outer s H E).ex:=λb z=>T7 (show b∈([]:List aC)from z) (by simp)
 have I:L2.Inv (cxL P w K mg base N scope g (.ref c') clos A outer s H E) [] σ H {s with heap:=h1,toks:=s.toks+([]:List (bi×aq)).length}:=by
  refine#[#[e0.mod,L.kind,rfl,rfl,aG _,L.inj,λx hx=>?_,λx c z=>(by cases z),λ_=>hr.hd,mj e0.frames,.inr #[rfl,rfl],λb z=>T7 z<|noA b,e0.bs,e0.bsz,λb _ _=>noA b,λb z=>T7 z<|noA b,e0.funs,e0.frf],
   rfl,e0.bare,Un.kept hk1,#[_,hns,λi x v e1 e2 e3=>?_],λx c e=>?_,e0.hok.fresh<|aG _,λx c e=>(hcell x c e).2,λp hp=>T7 (show p∈([]:List (aC×fD))from hp) (by simp),e0.hok.kept hk1,hlen]
  .have hx:=hx
   rcases hx with z|z
   .exact T7 rfl<|L.nc _<|dG z
   .exact L.has x z
  .have fr:=L.vis x e3
   obtain⟨u,c,r,e,z⟩:=hval i x v e1 e2 fr;refine#[u,r,.inr #[.inr fr,c,e,?_]];obtain⟨o,ho,hd⟩:=z;exact#[o,hk1 _ _ ho,hd]
  .obtain⟨⟨v,o,ho,hd⟩,_⟩:=hcell x c e
   exact#[v,o,hk1 _ _ ho,hd]
 exact PySem.W.kla_codeExpr<|cI (hb [] _ σ H Q I ht) (by rintro u s' ⟨v,H',J,r,q⟩;exact #[v,H',J.os,J.bare,J.base,J.hok,r,q]) λ_ _ y=>y
end
def Zfz(K:al):List V->Hp->VK->Prop:=λvs H Q=>∃a oe C Dv u b,vs=[.ref a,Dv]/\Zx Dv u/\(∀u',Zx Dv u'->u'=u)/\H a=aa (.frz oe<|.own a)/\oe.cls=.ref C/\ExK K C/\fP K (.ref C) u=aa b/\Q (.bl b) H
def ze:ZB X (.builtin "isinstance") (Zfz X.K):=by
 intro pq s σ H xs us Q I r h;obtain⟨a,oe,C,Dv,u,b,rfl,ru,uq,Ha,ce,k,e,q⟩:=h;cases r with
 |cons ra r=>
  cases r with
  |cons rD r=>
   cases r;cases ra;obtain rfl:=uq _ rD;obtain⟨ge,_⟩:=I.hok a _ Ha;exact cT (ZaR k) I.kIn #[oe,ge,ce] e (by intro q;cases q) λtk=>#[.bl b,H,I.tok tk,rfl,q]
def J2:V->List V->Hp->VK->Prop:=λx vs H Q=>∃(l:aC)(bs:List Bool)(j:Nat),x=.ref l/\vs=[.bl ak]/\H l=aa (.lst<|bs.map .bl)/\bs[j]?=aa ak/\(∀m,m<j->bs[m]?=aa ai)/\Q (.int j) H
theorem wE:∀{bs:List Bool}{us:List aq},Vals (bs.map V.bl) us->us=bs.map cx
 |[],_,.nil=>rfl
 |b::bs,_,.cons r t=>by cases r;rw[wE t];rfl
def yg:MtM X "list.index" J2:=by
 intro pq s σ H x vs v us Q I rx rv h;obtain⟨l,bs,j,rfl,rfl,hH,hj,hno,q⟩:=h;cases rx;obtain⟨u,rfl,ru⟩:=rv.one;cases ru;obtain⟨z,its,n,r,hl,e⟩:=I.lstM hH;obtain rfl:=wE r;have hjl:=(aE.mp hj).1;have hsz:(bs.map cx).toArray.size=bs.length:=by simp
 have get:∀m (hm:m<(bs.map cx).toArray.size),(bs.map cx).toArray[m]=cx (bs[m]'(by rw[hsz]at hm;exact hm)):=λm hm=>by simp
 refine fR F.slot_list_index #[_,e,rfl] F.entry_list_index (F.args_list_index_2 _ _) (PySem.SeqAt.list_indexAt l (bs.map cx).toArray n ae #[] (.bool ak) (λy=>y == .bool ak) j (by rw[hsz];exact hjl) (by
  rw[aw]at z;have:bo=16777216:=rfl;lia) (by rw[get];rw[(aE.mp hj).2];rfl) λm hm hmj=>by
   rw[get];have:=aE.mp<|hno m hmj;rw[this.2];rfl) #[e,λy hy=>?_,?_]
 .obtain⟨b,_,rfl⟩:=aT.mp (List.mem_toArray.mp hy)
  cases b
  .exact kH ai ak
  .exact kH ak ak
 .exact#[.int j,H,I.tok _,#[_,rfl],q]
def Zfp{CX:CXT}{P:bH}{w:bV}{K:al}{mg:bi->Option aq}{base:ck}{k:Nat}{f:aC}{x qual:bi}{st:eJ}{fd:cA}{N ps:List bi}{A:cC}{outer:List Env}{s:aA}{H:Hp}{args:Args}{us:List aq}{vs:List V}{Q:VK}{E:XK}
  (Fu:Fun K x qual st f fd)(S:FnScope N ps (Zh st))(hr:Room (k+1) A)(e0:Env0 P w K mg base A outer s H)(hb:mD s fd args (ps.zip us))(r:Vals vs us)(hl:vs.length=ps.length)
  (hbody:∀(cdv:aq)(s1:aA),Room k (A.deeper<|dL qual (Zh st) s.heap.objs.size f cdv)->L2.Inv (X3 CX P w K mg base N qual (Zh st) f cdv A outer s H E) [] (start N vs) H s1->
   bn (aV P w) (A.deeper<|dL qual (Zh st) s.heap.objs.size f cdv) (execs (Zz st)<|dL qual (Zh st) s.heap.objs.size f cdv) (SP (X3 CX P w K mg base N qual (Zh st) f cdv A outer s H E) [] {nx:=λ_ H'=>Q .non H',rt:=Q}) (X3 CX P w K mg base N qual (Zh st) f cdv A outer s H E).xe s1) :
  eS (aV P w) A (.call (.ref f) args) (CR CX outer P w H s Q E) s:=by
 obtain⟨oc,od,kV,doc,pm,an,cdv,ct,osl,rfl,lk,hcd⟩:=Fu.ex;have KX:=e0.mod.kin.keeps λb o e=>(e0.bs b o e).1
 have lim:=e0.mod.nolimit.keeps λb o e=>(e0.bs b o e).1
 have hkind:∀y∈ps.zip us,(Zh st).names.lookup y.1=aa .local\/((Zh st).names.lookup y.1=aa .cell/\((iu (s.heap.objs.size+1) (Zh st).names []).lookup y.1).isSome=ak):=by
  rintro ⟨n,v⟩ hy;rcases S.par n (cH hy).1 with q|q
  .exact .inl q
  .exact .inr #[q,gS _ _ _<|.inl q]
 refine l6 hr.depth (KX _ _ lk) rfl S.co S.gen rfl (nj KX hcd)<|hb _ _ _ _ ?_;refine km S.kind hkind λenv he s1 x=>?_
 subst he;refine#[lim.keeps x.toInCall.keep,codeAny_func ?_];have I:=Je (CX:=CX) (E:=E) S hr.hd e0 hl r x;refine cI (hbody cdv s1 (hr.deeper _) I) (λfl s' hs=>?_) λe s' hs=>hs
 cases fl with
 |ret u=>
  obtain⟨v,σ',H',J,rv,q⟩:=hs;exact#[v,H',J.os,J.bare,J.base,J.hok,rv,q]
 |next=>
  obtain⟨σ',H',J,q⟩:=hs;exact#[.non,H',J.os,J.bare,J.base,J.hok,rfl,q]
 |brk=>
  obtain⟨_,_,_,q⟩:=hs;exact False.elim q
 |cont=>
  obtain⟨_,_,_,q⟩:=hs;exact False.elim q
def wL(Pt:aC)(H:Hp):Prop:=H Pt=aa (.tbl #[])/\∀b,b≠Pt->H b=ae\/∃o xs,H b=aa (.frz o<|.lst xs)
def ue{P:bH}{w:bV}{K:al}{mg mb:bi->Option aq}{CX:CXT}{k:Nat}{fa a c Pt:aC}{fd:cA}{x:bi}{sp:Sp}{s₁:aA}{vs:List aq}{ns:List Int}
  (KX:K.In s₁.heap)(hns:s₁.heap.Ns bG mg)(hb:s₁.heap.Ns pe mb)(hbb:∀x:bi,x≠"__name__"->mb x=dv x)(hlim:s₁.heap.NoLimit)(hg:s₁.gens = #[])
  (hC:du s₁.heap c Pt)(hPt:s₁.heap.get? Pt=aa (pP #[]))(hK:mB K=ak)(hB:s₁.heap.BuiltinsAt mg Pt)
  (ha:s₁.heap.get? a=aa {cls:=.type "list",data:=.seq vs.toArray})(hi:o9 vs ns)(hl:ns.length<=bo)(hr:Room k mE)
  (F:∀base:ck,K.In base->base.Ns bG mg->du base c Pt->base.BuiltinsAt mg Pt->bG≠Pt->FnOk P w K mg base CX k fa fd [x] sp)(hbind:∀(s:aA)(u:aq),mD s fd #[[u],[]] [(x,u)])
  (hsp:∀H:Hp,wL Pt H->SqL K H a (ns.map V.int)->sp [.ref a] H (λv _=>v=.bl ak) λ_ _ _=>False)
  (hCX:∀H e s',CX [] H s₁ (λ_ _ _=>False) e s'->False) :
  eS (aV P w) mE (.call (.ref fa) #[[.ref a],[]]) (λr s'=>r=.ok (.ret<|.bool ak)/\OldK s₁.heap s'.heap/\s'.os=s₁.os/\iC s'.gens) s₁:=by
 have rv:=QT hi;have lenV:=hi.length;have hPa:Pt≠a:=λz=>by grind
 have hKP:K.lookup Pt=ae:=by
  cases q:K.lookup Pt with
  |none=>rfl
  |some o=>
   have e:=KX Pt o q;rw[hPt]at e;cases e;have h2:=aS.mp hK (Pt,pP #[])<|PySem.W.mem_of_lookupK q;exact T7 (show ai=ak from h2) aN
 have core:∀H:Hp,wL Pt H->SqL K H a (ns.map V.int)->HOk P w H s₁.heap->(∀b,H b≠ae->b=a\/b=Pt)->(H a≠ae->K.lookup a=ae)->
   eS (aV P w) mE (.call (.ref fa) #[[.ref a],[]]) (λr s'=>r=.ok (.ret<|.bool ak)/\OldK s₁.heap s'.heap/\s'.os=s₁.os/\iC s'.gens) s₁:=by
  intro H hO hS hok hA hK;have base_of:∀{b:aC}{o:fD},s₁.heap.get? b=aa o->H b=ae->(QJ s₁.heap H).get? b=aa o:=λe n=>qN e n
  have noT:∀{b:aC}{o:fD},s₁.heap.get? b=aa o->b≠a->b≠Pt->H b=ae:=λ{b o} e z1 z2=>by grind
  have noA:∀{b:aC}{o:fD}{es:Array ln}{ep:Nat},s₁.heap.get? b=aa o->o.data=.dict es ep->H b=ae:=λ{b o es ep} e d=>
   noT e (λz=>by grind) λz=>by grind
  have nsK:∀{b:aC}{m:bi->Option aq},s₁.heap.Ns b m->(QJ s₁.heap H).Ns b m:=λ{b m} #[o,es,ep,e,d,r]=>#[o,es,ep,base_of e<|noA e d,d,r]
  have hKb:=λb o e=>base_of (KX b o e) (by grind)
  have hM:Mod K mg (QJ s₁.heap H):=#[hKb,nsK hns,#[mb,nsK hb,hbb],let #[mc,h1,h2]:=hlim;#[mc,nsK h1,h2]];have e0:Env0 P w K mg (QJ s₁.heap H) mE [] s₁ H:=#[rfl,hM,λb o e=>Zb6 e,nU<|u7 _ _,trivial,λb hb=>T7 (show b∈([]:List aC)from hb) (by simp),hok,.of_eq hg]
  have hCb:du (QJ s₁.heap H) c Pt:=by
   obtain⟨o,vs',file,tf,flags,tg,inF,text,tt,e1,r1,r⟩:=hC;refine#[o,vs',file,tf,flags,tg,inF,text,tt,base_of e1<|noT e1 (λz=>?_) λz=>?_,r1,r]
   .grind
   .grind
  have hBb:(QJ s₁.heap H).BuiltinsAt mg Pt:=by
   obtain⟨bm,o,b1,b2,b3,b4,b5,b6,b7,b8⟩:=hB;refine#[bm,o,b1,b2,b3,b4,base_of b5<|noT b5 (λz=>?_) b4,b6,b7,b8]
   subst z;rw[ha]at b5;cases b5;exact T7 (aq.type.inj b6) (by decide)
  have hgP:bG≠Pt:=λz=>by
   obtain⟨o,es,ep,e,d,_⟩:=hns;rw[z,hPt]at e;cases e;cases d
  refine i7 ((F _ hKb (nsK hns) hCb hBb hgP).run mE [] s₁ H #[[.ref a],[]] [.ref a] [.ref a] _ _ hr e0 (hbind s₁<|.ref a) (.cons rfl .nil)<|hsp H hO hS) λr s' h=>?_
  cases r with
  |error e=>exact(hCX H e s' h).elim
  |ok fl=>
   cases fl with
   |next=>exact False.elim h
   |brk=>exact False.elim h
   |cont=>exact False.elim h
   |ret u=>
    obtain⟨v,H',os,bare,un,hok',r',q⟩:=h;have q':v=.bl ak:=q;subst q';obtain rfl:u=cx ak:=r';have keep:=λb o z e=>by
     cases q:H b with
     |none=>exact un.keep b o e q (by intro z;exact T7 (show b∈([]:List aC)from z)<|by simp) (by simp)
     |some u=>
      rcases hO.2 b z with z|⟨ob,xs,z⟩
      .rw[q]at z;cases z
      .have z2:=un.frzs b ob _ z
       obtain⟨e1,_⟩:=hok b _ z;obtain⟨e2,_⟩:=hok' b _ z2;rw[e]at e1;cases e1;exact e2
    obtain⟨more,hm⟩:=un.tbls Pt #[] hO.1;have hT':=hok' Pt _ hm;refine#[rfl,#[λb o e=>?_,λb o e=>?_],os,bare]
    .by_cases z:b=Pt
     .subst z
      rw[hPt]at e;cases e;exact .inr<|.inl #[(hC.tab hPt).isCodeTable,rfl,#[],more,rfl,hT']
     .exact .inl<|keep b o z e
    .by_cases z:b=Pt
     .subst z;exact#[_,hT']
     .grind
 have tbOk:=hPt
 cases hk:K.lookup a with
 |some o=>
  have e:=KX a o hk;rw[ha]at e;cases e;refine core (upd (λ_=>ae) Pt<|.tbl #[]) #[Zl,λb z=>.inl<|Zj z] (.inr #[_,vs.toArray,_,hk,rfl,rfl,rfl,by grind,by simpa using rv]) (λb u z=>?_) (λb z=>?_) λz=>T7 (Zj<|Ne.symm hPa) z
  .by_cases q:b=Pt
   .subst q;rw[Zl]at z;cases z;exact hPt
   .rw[Zj q]at z;cases z
  .by_cases q:b=Pt
   .exact .inr q
   .exact T7 (Zj q) z
 |none=>
  refine core (upd (λb=>if b=a then aa (.frz {cls:=.type "list",data:=.seq vs.toArray}<|.lst<|ns.map V.int)else ae) Pt<|.tbl #[]) #[Zl,λb z=>?_] (.inl<|.inr #[{cls:=.type "list",data:=.seq vs.toArray},by rw[Zj<|Ne.symm hPa];exact T9 rfl]) (λb u z=>?_) (λb z=>?_) λ_=>hk
  .rw[Zj z]
   by_cases hb:b=a
   .grind
   .grind
  .by_cases q:b=Pt
   .subst q;rw[Zl]at z;cases z;exact hPt
   .rw[Zj q]at z
    by_cases hb:b=a
    .have z':=(T9 hb).symm.trans z
     cases z';subst hb;exact#[ha,by grind,vs,_,rv,ha]
    .grind
  .by_cases q:b=Pt
   .exact .inr q
   .rw[Zj q]at z
    by_cases hb:b=a
    .exact .inl hb
    .grind
def jU{l:lW}{n k:Nat}{q:bH}{loose:List bi}{XP:(bi->Option aq)->ck->Prop}{YP:bV->ck->Prop}{d:rA}{K:Params->al}{CX:bV->CXT}{sp:bV->aC->Sp}{x:bi}{c Pt:aC}{dr:rA}
  (hn:l.most=aa n)(hn2:n<=bo)(hdf:d.params.defaults=[])(hr:Room k mE)
  (hY:∀(w:bV)(h:ck),YP w h->(K w.params).In h)(hrec:(recsOf q).find? (λe=>e.name == d.name)=aa dr)(ht:∀w:bV,pW (K w.params) d.name=aa (c,Pt))(hK:∀w:bV,mB (K w.params)=ak)
  (F:∀(w:bV)(mg:bi->Option aq)(fa:aC)(h:ck),(K w.params).In h->h.Ns bG mg->mg d.name=aa (.ref fa)->
   ∃fd:cA,(∀(s:aA)(u:aq),mD s fd #[[u],[]] [(x,u)])/\
    ∀base:ck,(K w.params).In base->base.Ns bG mg->du base c Pt->base.BuiltinsAt mg Pt->bG≠Pt->FnOk l.prog w (K w.params) mg base (CX w) k fa fd [x] (sp w Pt))
  (hsp:∀(w:bV)(H:Hp)(a:aC)(ns:List Int),ns.length<=n->wL Pt H->SqL (K w.params) H a (ns.map V.int)->sp w Pt [.ref a] H (λv _=>v=.bl ak) λ_ _ _=>False)
  (hCX:∀(w:bV)(H:Hp)(s:aA)(e:aq)(s':aA),CX w [] H s (λ_ _ _=>False) e s'->False) :
  pX q loose XP YP l.row.toRowW d [] (λf vs=>pA f vs):=by
 refine Att.zr hn hdf λw s₀ s₁ mg mb fa o pm cd doc a vs ns G Y ho hd hcd hmg hobj hints hlen hg=>?_
 have KX:=hY w _ Y;obtain⟨fd,hb,hF⟩:=F w mg fa _ KX G.T.g hmg;obtain⟨hC,hPt⟩:=PySem.W.tab_of G.T KX hrec<|ht w;obtain⟨bm,ob,b1,b2,b3,b4,b5,b6⟩:=G.T.bmain;have hbP:bm≠Pt:=λz=>by rw[z,hPt]at b3;cases b3;cases b4
 have hbG:bm≠bG:=λz=>by
  obtain⟨o,es,ep,e,hd,_⟩:=G.T.g;rw[z,e]at b3;cases b3;rw[hd]at b6;cases b6
 exact ue KX G.T.g G.T.b G.T.builtins G.T.nolimit hg hC hPt (hK w) #[bm,ob,b1,b2,hbG,hbP,b3,b4,b5,b6] hobj hints (cc hlen hn2) hr hF hb (λH hO hS=>hsp w H a ns hlen hO hS) λH e s'=>hCX w H s₁ e s'
open Ev (E Sm Fn Bop Cop Ty Bf Mf)
noncomputable def Yx:List bi:=["SpaceError","NoRow","NoPart","NoNumber","NoHeads","NotBeside","NotIn","NoTurn","NoLot","TooMany","BadNote"]
structure Errs(K:al)(mg:bi->Option aq)(cl:List aC):Prop where
 len:cl.length=11
 nm:∀(j:Nat)(C:aC)(x:bi),cl[j]?=aa C->Yx[j]?=aa x->mg x=aa (.ref C)
 exk:∀(j:Nat)(C:aC),cl[j+1]?=aa C->ExK K C
 one:∀(i j:Nat)(C D:aC),cl[i+1]?=aa C->cl[j+1]?=aa D->fP K (.ref C) (.ref D)=aa (af<|i=j)
 ve:∀(i:Nat)(C:aC),cl[i+1]?=aa C->fP K (.ref C) (.type "ValueError")=aa ak
 exm:∀(i:Nat)(C S:aC),cl[i+1]?=aa C->cl[0]?=aa S->pN K (.ref C) (.ref S)=aa ak
def tIs(K:al)(ir:Nat)(Dv:V):TE:=tCB (Zfz K)<|YQ (GC ir)<|YQ (tC Dv) J8
structure ErAt(K:al)(cl:List aC)(ir c:Nat)(σ:L2.St)(H:Hp):Prop where
 ex:∃a oe C,σ[ir]?=aa (aa<|.ref a)/\H a=aa (.frz oe<|.own a)/\oe.cls=.ref C/\cl[c+1]?=aa C
theorem ErAt.upd{K:al}{c:Nat}{q:aC}{o:HO}(e:ErAt K cl ir c σ H)(hq:H q=ae):ErAt K cl ir c σ (L2.upd H q o):=by
 obtain⟨a,oe,C,h1,h2,h3⟩:=e.ex;exact#[a,oe,C,h1,by rw[Zj λz=>by rw[z,hq]at h2;cases h2];exact h2,h3]
def ErAt.wr{K:al}{c:Nat}{q:aC}{xs:List V}{o:HO}(e:ErAt K cl ir c σ H)(hq:H q=aa (.lst xs)):ErAt K cl ir c σ (L2.upd H q o):=by
 obtain⟨a,oe,C,h1,h2,h3⟩:=e.ex;exact#[a,oe,C,h1,by rw[Zj λz=>by rw[z,hq]at h2;cases h2];exact h2,h3]
theorem ErAt.set{K:al}{c j:Nat}{v:V}(e:ErAt K cl ir c σ H)(hj:ir≠j):ErAt K cl ir c (σ.set j<|aa v) H:=by
 obtain⟨a,oe,C,h1,h2⟩:=e.ex;exact#[a,oe,C,by rw[bc<|Ne.symm hj];exact h1,h2]
def Xy{K:al}{mg:bi->Option aq}{c j:Nat}{Dj:aC}(R:Errs K mg cl)(e:ErAt K cl ir c σ H)(hj:cl[j+1]?=aa Dj)(q:Q (.bl<|af<|c=j) H):tIs K ir (.ref Dj) σ H Q:=by
 obtain⟨a,oe,C,h1,h2,h3,h4⟩:=e.ex;exact#[.ref a,h1,a,oe,C,.ref Dj,.ref Dj,af<|c=j,rfl,rfl,λu' r=>r,h2,h3,R.exk c C h4,R.one c j C Dj h4 hj,q]
def ZdL{K:al}{mg:bi->Option aq}{c:Nat}(R:Errs K mg cl)(e:ErAt K cl ir c σ H)(q:Q (.bl ak) H):tIs K ir (.ty "ValueError") σ H Q:=by
 obtain⟨a,oe,C,h1,h2,h3,h4⟩:=e.ex;exact#[.ref a,h1,a,oe,C,.ty "ValueError",.type "ValueError",ak,rfl,rfl,λu' r=>r,h2,h3,R.exk c C h4,R.ve c C h4,q]
def ZfI(hi:X.N[ir]?=aa xr)(hv:Vis X.env.scope xr)(hg0:Gl X "isinstance")(hm0:X.mg "isinstance" = ae)(hg:Gl X x)(hm:X.mg x=aa (.ref Dj))(hd1:(xr == ("__debug__" : bi))=ai)(hd2:(xr == ("__classdict__" : bi))=ai)(hd3:(x == ("__debug__" : bi))=ai)
  (hs:az [.Name xr p1,.Name x p2] X.env=(ai,bY (.Name xr p1) X.env)::az [.Name x p2] X.env:=by rfl)(hs2:az [.Name x p2] X.env=(ai,bY (.Name x p2) X.env)::az [] X.env:=by rfl)(hpl:(dz pos<|az [.Name x p2] X.env).any (·.1)=ai:=by rfl) :
  PE X (.Call (.Name "isinstance" p) [.Name xr p1,.Name x p2] [] pos) (tIs X.K ir<|.ref Dj):=
 XG ze hg0 hm0 rfl (Zw (Yk hi hv hd1 hd2) (Zw (ZcN hg hm rfl hd3) Yf hs2) hs) (by decide) (by decide) hs hpl
def Zes(hi:X.N[ir]?=aa xr)(hv:Vis X.env.scope xr)(hg0:Gl X "isinstance")(hm0:X.mg "isinstance" = ae)(hg:Gl X "ValueError")(hm:X.mg "ValueError" = ae)(hd1:(xr == ("__debug__" : bi))=ai)(hd2:(xr == ("__classdict__" : bi))=ai)
  (hs:az [.Name xr p1,.Name "ValueError" p2] X.env=(ai,bY (.Name xr p1) X.env)::az [.Name "ValueError" p2] X.env:=by rfl)(hs2:az [.Name "ValueError" p2] X.env=(ai,bY (.Name "ValueError" p2) X.env)::az [] X.env:=by rfl)(hpl:(dz pos<|az [.Name "ValueError" p2] X.env).any (·.1)=ai:=by rfl) :
  PE X (.Call (.Name "isinstance" p) [.Name xr p1,.Name "ValueError" p2] [] pos) (tIs X.K ir<|.ty "ValueError"):=
 XG ze hg0 hm0 rfl (Zw (Yk hi hv hd1 hd2) (Zw (Uo hg hm rfl rfl) Yf hs2) hs) (by decide) (by decide) hs hpl
def WN(K:al)(ir is:Nat)(cl:List aC)(ts:TT)(rb:TE)(fin:TS):TS:=
 let I:=λj=>tIs K ir<|.ref<|cl.getD (j+1) 0
 JU (Zd5 (tB<|ZfH<|GC ir) (Zaf<|tC .non) jv) (JU (yG (uI<|YQ (I 0)<|YQ (I 1)<|YQ (I 2) J8)<|Qj is)
  (JU (yG (tOp Zbz (GC is)<|uI<|YQ (I 3)<|YQ (I 4)<|YQ (I 5) J8)<|Qj is) (JU (yG (tOp Zbz (GC is)<|uI<|YQ (I 6)<|YQ (I 7)<|YQ (I 8) J8)<|Qj is)
   (JU (Zdd<|tBM K "list" vy (GC is)<|YQ (I 9) J8)<|JU (Zd5 (tOr (ZfB<|tB<|tIs K ir<|.ty "ValueError") ts) (Zaf rb) jv) fin))))
def xX{K:al}{ts:TT}{rb:TE}{fin:TS}{Dn:Ends}(h:σ[ir]?=aa (aa .non))(q:Dn.rt .non H):WN K ir is cl ts rb fin Dn σ H:=by
 refine#[.non,h,ak,rfl,?_]
 change (if ak=ak then _ else _)
 rw[T9 rfl];exact q
def Js(xs:List V):∀ps,HO.lst xs≠.tbl ps:=λ_ z=>by cases z
noncomputable def ZW(c:Nat):List Bool:=(aH 10).map λj=>af<|c=j
def j6:∀c,c<10->(ZW c)[c]?=aa ak:=by decide
def jS:∀c,c<10->∀m,m<c->(ZW c)[m]?=aa ai:=by decide
theorem wO :∀(bs:List Bool),Rq ρ H (bs.map Pv.V.bl) (bs.map V.bl)
 |[]=>Rq.nil
 |b::bs=>Rq.cons (Yg b)<|wO bs
def upd2{H:Hp}{p:aC}{o u:HO}:upd (upd H p o) p u=upd H p u:=by
 funext b
 by_cases z:b=p
 .subst z;rw[Zl,Zl]
 .rw[Zj z,Zj z,Zj z]
def uP{K:al}{mg:bi->Option aq}{ts:TT}{rb:TE}{fi:TS}{Dn:Ends}{c:Nat}{ρ:Mx}{S:Zv}(R:Errs K mg cl)(hc:c<10)(e:ErAt K cl ir c σ H)(hne:ir≠is)(hsl:is<σ.length)(st:St3 K ρ S H)
  (hts:∀(σ':L2.St)(H':Hp)(p:aC)(Q':Bool->Hp->Prop),σ'[is]?=aa (aa<|.ref p)->H' p=aa (.lst<|(ZW c).map .bl)->¬ρ.X p->St3 K ρ S H'->(∀H2,Fut ρ H' ρ H2->St3 K ρ S H2->Q' ai H2)->ts σ' H' Q')
  (fin:∀(σ':L2.St)(H':Hp)(q:aC),σ'[is]?=aa (aa<|.ref q)->σ'.length=σ.length->H' q=aa (.lst<|(ZW c).map .bl)->Fut ρ H ρ H'->St3 K ρ S H'->fi Dn σ' H'):WN K ir is cl ts rb fi Dn σ H:=by
 have cj:∀j,j<10->cl[j+1]?=aa (cl.getD (j+1) 0):=λj hj=>by
  have hl:j+1<cl.length:=by rw[R.len];lia
  rw[ag hl,aD,ag hl];rfl
 obtain⟨a,oe,C,h1,h2,h3,h4⟩:=id e.ex;refine#[.ref a,h1,ai,rfl,?_]
 change (if ai=ak then _ else _)
 rw[T8 aN]
 let A1:HO:=.lst [.bl<|af<|c=0,.bl<|af<|c=1,.bl<|af<|c=2]
 let A2:HO:=.lst [.bl<|af<|c=3,.bl<|af<|c=4,.bl<|af<|c=5]
 let A3:HO:=.lst [.bl<|af<|c=0,.bl<|af<|c=1,.bl<|af<|c=2,.bl<|af<|c=3,.bl<|af<|c=4,.bl<|af<|c=5]
 let A4:HO:=.lst [.bl<|af<|c=6,.bl<|af<|c=7,.bl<|af<|c=8]
 let L5:List Bool:=[af<|c=0,af<|c=1,af<|c=2,af<|c=3,af<|c=4,af<|c=5,af<|c=6,af<|c=7,af<|c=8]
 let A5:HO:=.lst<|L5.map .bl
 let A6:HO:=.lst<|(ZW c).map .bl
 have neq:∀{G:Hp}{b d:aC}{u:HO},G b=aa u->G d=ae->b≠d:=λh1 h2 z=>by rw[z,h2]at h1;cases h1
 refine Xy R e (cj 0<|by lia)<|Xy R e (cj 1<|by lia)<|Xy R e (cj 2<|by lia) #[by show 3<=bo;decide,λq1 hq1=>?_]
 have e1:=(e.upd (o:=A1) hq1).set (j:=is) (v:=.ref q1) hne;have st1:=st.fresh (o:=A1) hq1<|Js _;have f1:Fut ρ H ρ (upd H q1 A1):=Zu hq1;have g1:upd H q1 A1 q1=aa A1:=Zl;have l1:(σ.set is<|aa<|.ref q1).length=σ.length:=bz;refine#[.ref q1,bg hsl,?_];refine Xy R e1 (cj 3<|by lia)<|Xy R e1 (cj 4<|by lia)<|Xy R e1 (cj 5<|by lia) #[by show 3<=bo;decide,λq2 hq2=>?_]
 have g2:upd (upd H q1 A1) q2 A2 q1=aa A1:=by rw[Zj<|neq g1 hq2];exact g1
 have st2:=st1.fresh (o:=A2) hq2<|Js _;have f2:Fut ρ H ρ (upd (upd H q1 A1) q2 A2):=f1.trans<|Zu hq2;refine#[q1,q2,_,_,rfl,rfl,g2,Zl,by show 6<=bo;decide,λq3 hq3=>?_]
 let H3:=upd (upd (upd H q1 A1) q2 A2) q3 A3
 have e3:=((e1.upd (o:=A2) hq2).upd (o:=A3) hq3).set (j:=is) (v:=.ref q3) hne;have st3:St3 K ρ S H3:=st2.fresh (o:=A3) hq3<|Js _;have f3:Fut ρ H ρ H3:=f2.trans<|Zu hq3;have g3:H3 q3=aa A3:=Zl;have l3:((σ.set is<|aa<|.ref q1).set is<|aa<|.ref q3).length=σ.length:=by rw[bz,l1]
 refine#[.ref q3,bg (by rw[l1];exact hsl),?_]
 refine Xy R e3 (cj 6<|by lia)<|Xy R e3 (cj 7<|by lia)<|Xy R e3 (cj 8<|by lia) #[by show 3<=bo;decide,λq4 hq4=>?_]
 have g4:upd H3 q4 A4 q3=aa A3:=by rw[Zj<|neq g3 hq4];exact g3
 have st4:=st3.fresh (o:=A4) hq4<|Js _;have f4:Fut ρ H ρ (upd H3 q4 A4):=f3.trans<|Zu hq4;refine#[q3,q4,_,_,rfl,rfl,g4,Zl,by show 9<=bo;decide,λq5 hq5=>?_]
 let H5:=upd (upd H3 q4 A4) q5 A5
 let σ5:=((σ.set is<|aa<|.ref q1).set is<|aa<|.ref q3).set is<|aa<|.ref q5
 have e5:ErAt K cl ir c σ5 H5:=((e3.upd (o:=A4) hq4).upd (o:=A5) hq5).set (j:=is) (v:=.ref q5) hne;have l5:σ5.length=σ.length:=by rw[bz,l3]
 have v5:σ5[is]?=aa (aa<|.ref q5):=bg (by rw[l3];exact hsl)
 have g5:H5 q5=aa A5:=Zl;refine#[.ref q5,v5,.inl #[rfl,_,SqL.of g5],?_];refine Xy R e5 (cj 9<|by lia) #[q5,_,_,rfl,rfl,g5,by show 9<bo;decide,?_]
 let H6:=upd H5 q5 A6
 have h6:H6=upd (upd H3 q4 A4) q5 A6:=upd2;have st6:St3 K ρ S H6:=by rw[h6];exact st4.fresh (o:=A6) hq5<|Js _
 have f6:Fut ρ H ρ H6:=by rw[h6];exact f4.trans<|Zu hq5
 have e6:ErAt K cl ir c σ5 H6:=e5.wr g5;have g6:H6 q5=aa A6:=Zl;have nx5:¬ρ.X q5:=st4.nx hq5;refine ZdL R e6 #[ak,rfl,?_]
 change (if ai=ak then _ else _)
 rw[T8 aN];refine hts σ5 H6 q5 _ v5 g6 nx5 st6 λH7 f7 st7=>?_
 change (if ai=ak then _ else _)
 rw[T8 aN];exact fin σ5 H7 q5 v5 l5 (Zdv f7 nx5 g6) (f6.trans f7) st7
def rbI:TE:=tUn (rU λi=>.int<|-i)<|tC<|.int 1
def ZdK(K:al)(is:Nat):TS:=Zaf<|tBM K "list" J2 (GC is)<|YQ (tC<|.bl ak) J8
def ZcQ{K:al}{c:Nat}{Dn:Ends}{q:aC}(hc:c<10)(v:σ[is]?=aa (aa<|.ref q))(h:H q=aa (.lst<|(ZW c).map .bl))(k:Dn.rt (.int c) H):ZdK K is Dn σ H:=
 #[.ref q,v,.inl #[rfl,_,SqL.of h],q,ZW c,c,rfl,rfl,h,j6 c hc,jS c hc,k]
noncomputable def tWs:List bi->TA
 |[]=>J8
 |w::ws=>YQ (tC<|.str w)<|tWs ws
theorem jo{Q:List V->Hp->Prop}:∀{ws:List bi} ,Q (ws.map .str) H->tWs ws σ H Q
 |[],h=>h
 |w::ws,h=>jo (ws:=ws) h
def ZdM(K:al)(is iw:Nat):TS:=JU (yG (uI<|tWs Ev.X4)<|Qj iw)<|Zaf<|tOp (ZfJ K) (GC iw)<|tBM K "list" J2 (GC is)<|YQ (tC<|.bl ak) J8
def jh:∀c:Nat,c<10->atI (Ev.X4.map V.str) (c:Int)=aa (.str<|Ev.X4.getD c ""):=by decide +kernel
def Zcq{K:al}{c iw:Nat}{Dn:Ends}{q:aC}{ρ:Mx}{S:Zv}(hc:c<10)(v:σ[is]?=aa (aa<|.ref q))(hw:iw<σ.length)(hne:iw≠is)(h:H q=aa (.lst<|(ZW c).map .bl))(st:St3 K ρ S H)(k:∀H',Fut ρ H ρ H'->St3 K ρ S H'->Dn.rt (.str<|Ev.X4.getD c "") H'):ZdM K is iw Dn σ H:=by
 refine jo #[by decide,λp hp=>?_]
 have hqp:q≠p:=λz=>by rw[z,hp]at h;cases h
 have h1:upd H p (.lst<|Ev.X4.map V.str) q=aa (.lst<|(ZW c).map .bl):=by rw[Zj hqp];exact h
 refine#[.ref p,bg hw,.ref q,by rw[bc hne];exact v,.inl #[rfl,_,SqL.of h1],q,ZW c,c,rfl,rfl,h1,j6 c hc,jS c hc,p,_,_,_,rfl,rfl,SqL.of Zl,jh c hc,?_]
 exact k _ (Zu hp)<|st.fresh hp<|Js _
structure LamIn(X:Cx)(scope:dO)(clos:List (bi×aC)):Prop where
 S:LamS scope clos
 cl:∀x c,clos.lookup x=aa c->X.env.cells.lookup x=aa c
 kd:∀x,scope.names.lookup x=aa .free->X.env.scope.names.lookup x=aa .cell
section
variable{X:Cx}{E:XK}{cl:List aC}{Cc:Calls}{i:Ev.E}{xw:Nat->Hp->Prop}
noncomputable def vR(w:Bool)(c:Nat):V:=if w then .str (Ev.X4.getD c "")else .int c
def ZdJ(w:Bool)(c:Nat):Rep ρ H (Pv.Zan w c) (vR w c):=by
 cases w
 .exact ZO _
 .exact wD _
theorem ZbS{wd:Bool}{rb:TE}{fi:TS}{k:Nat}{f P c S0:aC}{fd:cA}{xf xc xr n xS:bi}{st:eJ}{Nr:List bi}{ic ie ir is:Nat}{params:oq}{body:Expr}{scope:dO}{lp p pos p0 p1 p2 p3 p4 p5 p6 p7 p8 p9 q0 q1:fO}{j0:Nat}{clos:List (bi×aC)}{rest:List eJ}{ts:Cx->TT}
  (D:DefX X E)(hfn:∀x,X.fn x=ak)(hr:Room (k+2) X.A)(R:Errs X.K X.mg cl)(hS0:cl[0]?=aa S0)
  (hP:∃ps,X.H₀ P=aa (.tbl ps))(hcode:X.env.code=.ref c)(C:du X.base c P)(hB:X.base.BuiltinsAt X.mg P)(hgP:bG≠P)(hq:X.env.qual++"<lambda>" = YY)(hcl:iA scope X.env=cD clos)(hdef:defaultsOf params X.env=([],[]))(L:LamIn X scope clos)
  (hbind0:∀pm c' ctv,mi (pO "<lambda>" YY params body scope clos pm (.ref c') ctv) #[[],[]]=cD [])
  (hbody:∀(g:aC)(c':aC)(A:cC)(outer:List Env)(s:aA)(H:Hp)(E1:XK),Room k (A.deeper<|fB YY scope s.heap.objs.size g (.ref c') clos)->CE (cxL X.prog X.w X.K X.mg X.base X.N scope g (.ref c') clos A outer s H E1) (xwE cl E1) Cc body i)
  (hg:Gl X xf)(hm:X.mg xf=aa (.ref f))(hk:fk X.K (.ref f)=ak)(Fu:Fun X.K xf xf st f fd)(Sc:FnScope Nr [xc] (Zh st))(hb:WV X.K fd [xc] [])(hdb:(xf == ("__debug__" : bi))=ai)
  (he:az [.Lambda params body scope lp] X.env=(ai,bY (.Lambda params body scope lp) X.env)::az [] X.env)(hpl:(dz pos<|az [] X.env).any (·.1)=ai)
  (hst:Zz st=.Assign [.Name xr p0] (.Constant .none j0 q0) q1 :: .Try [.Expr (.Call (.Name xc p1) [] [] p2) p3] [.ExceptHandler (aa<|.Name xS p4) (aa n) [.Assign [.Name xr p5] (.Name n p6) p7] p8] [] [] p9::rest)
  (hN:Nr.Nodup)(hic:Nr[ic]?=aa xc)(hic0:ic=0)(hie:Nr[ie]?=aa n)(hir:Nr[ir]?=aa xr)(his:is<Nr.length)(hne:ir≠is)(hne2:ir≠ie)(hne3:ir≠0)
  (hkc:(Zh st).names.lookup xc=aa .local)(hke:(Zh st).names.lookup n=aa .local)(hkr:(Zh st).names.lookup xr=aa .local)(hkS:∀L f cdv,(dL xf (Zh st) L f cdv).kindOf xS=aa .globalImplicit)(hmS:X.mg xS=aa (.ref S0))
  (hd1:(xc == ("__debug__" : bi))=ai)(hd2:(xc == ("__classdict__" : bi))=ai)(hd3:(n == ("__debug__" : bi))=ai)(hd4:(n == ("__classdict__" : bi))=ai)(hd5:(xS == ("__debug__" : bi))=ai)
  (hs0:∀L f cdv,eB (.Constant .none j0 q0) (aa<|.Name xr p0) q1.line (dL xf (Zh st) L f cdv)=cD ai)(hs1:∀L f cdv,eB (.Call (.Name xc p1) [] [] p2) ae p3.line (dL xf (Zh st) L f cdv)=cD ai)
  (hs2:∀L f cdv,eB (.Name n p6) (aa<|.Name xr p5) p7.line (dL xf (Zh st) L f cdv)=cD ai)
  (hrest:∀(cdv:aq)(A:cC)(outer:List Env)(s:aA)(H:Hp),Room (k+1) (A.deeper<|dL xf (Zh st) s.heap.objs.size f cdv)->
   PSs (X3 (CX1 X.prog X.w) X.prog X.w X.K X.mg X.base Nr xf (Zh st) f cdv A outer s H E0) rest (WN X.K ir is cl (ts<|X3 (CX1 X.prog X.w) X.prog X.w X.K X.mg X.base Nr xf (Zh st) f cdv A outer s H E0) rb fi))
  (hts:∀(Y:Cx)(ρ:Mx)(S:Zv)(e:Nat)(σ':L2.St)(H':Hp)(q:aC)(Q':Bool->Hp->Prop),Y.K=X.K->e<10->σ'[is]?=aa (aa<|.ref q)->H' q=aa (.lst<|(ZW e).map .bl)->¬ρ.X q->St3 X.K ρ S H'->(∀H2,Fut ρ H' ρ H2->St3 X.K ρ S H2->Q' ai H2)->ts Y σ' H' Q')
  (hfi:∀(Dn:Ends)(σ':L2.St)(ρ:Mx)(H':Hp)(S:Zv)(e:Nat)(q:aC),e<10->σ'[is]?=aa (aa<|.ref q)->σ'.length=Nr.length->H' q=aa (.lst<|(ZW e).map .bl)->St3 X.K ρ S H'->(∀H2,Fut ρ H' ρ H2->St3 X.K ρ S H2->Dn.rt (vR wd e) H2)->fi Dn σ' H') :
  CE X xw Cc (.Call (.Name xf p) [.Lambda params body scope lp] [] pos) (.refu wd i):=by
 rintro pq s σ H Q I ⟨ρ,l,S,st0,lr,h⟩
 obtain⟨ps0,hP0⟩:=hP;obtain⟨more,hPH⟩:=I.base.tbls P ps0 hP0;refine fw<|WP I hg hm ?_ hdb;refine ni (h₀:=X.base) I.ok.mod.kin hk ?_ he hpl;rw[he];refine Calls.spliced_cons<|qS I st0.tb hPH hcode C hB hgP hq hcl hdef λg c' oc vs t pm ctv H1 s1 I1 gr tb1 _ hg1 hc1 d1 v1=>Calls.spliced_nil #[I1.kIn,?_]
 have nx:∀b:aC,b∉([]:List aC):=λb=>by simp
 have hbd:=hb s1 [.ref g] I1.kIn rfl;have st1:=st0.grow gr tb1;have f1:Fut ρ H ρ H1:=gr.fut;refine pj<|i7 (Zfp (CX:=CX1 X.prog X.w) (k:=k+1) (Q:=Q) (E:=E0) (us:=[.ref g]) (vs:=[.ref g]) Fu Sc hr I1.env0 (by simpa using hbd) (.cons rfl .nil) rfl λcdv s2 hrm I2=>?_) λr s' hq=>?_
 rotate_left
 .cases r with
  |error e=>obtain⟨_,_,_,_,_,_,_,_,_,_,_,_,_,_,z⟩:=hq;exact z.elim
  |ok fl=>
   cases fl with|ret u=>exact I1.after hq|next=>exact False.elim hq|brk=>exact False.elim hq|cont=>exact False.elim hq
 rw[hst]
 let Xr:=X3 (CX1 X.prog X.w) X.prog X.w X.K X.mg X.base Nr xf (Zh st) f cdv X.A X.stack s1 H1 E0
 let D0:Ends:={nx:=λ_ H'=>Q .non H',rt:=Q}
 let σ2:L2.St:=(start Nr [.ref g]).set ir<|aa .non
 have b0:=Vu (X:=Xr) (pos:=q1) (pos':=p0) hN hir (.inl hkr) (yH (j:=j0) (pos:=q0)) (hs0 _ _ _)<|.inr hkr;refine fV<|thn (b0 [] s2 _ H1 {nx:=λσ' H'=>σ'=σ2/\H'=H1,rt:=λ_ _=>False} I2 #[rfl,rfl]) λfl s3 hq3=>?_
 cases fl with
 |ret v=>obtain⟨_,_,_,_,_,z⟩:=hq3;exact z.elim
 |brk=>obtain⟨_,_,_,z⟩:=hq3;exact False.elim z
 |cont=>obtain⟨_,_,_,z⟩:=hq3;exact False.elim z
 |next=>
 obtain⟨σx,Hx,I3,z1,z2⟩:=hq3;rw[z1,z2]at I3
 let E1:XK:=λCv _ H'=>∃e Ce S' ρ',Cv=.ref Ce/\cl[e]?=aa Ce/\Pv.pv Cc i l S=.ex e S'/\Fut ρ H1 ρ' H'/\St3 X.K ρ' S' H'
 have hl0:0<Nr.length:=by have:=(aE.mp hic).1;lia
 have hσl:=I3.len;have hirl:ir<σ2.length:=by rw[hσl];exact(aE.mp hir).1
 have hσ0:σ2[ic]?=aa (aa<|.ref g):=by
  rw[hic0,bc hne3];rfl
 have hσr:σ2[ir]?=aa (aa .non):=bg (by simpa[σ2]using hirl)
 have og:=(I3.hok g _ hg1).1;have oc':=(I3.hok c' _ hc1).1;have notin:∀x c0,X.env.cells.lookup x=aa c0->c0∉frs X.stack:=λx c0 hx hb=>by
  rw[D.st]at hb;unfold frs at hb;rw[cp,D.fr]at hb;rcases ay.mp hb with z|z
  .exact I1.cne x c0 hx z
  .obtain⟨_,o,ho,_⟩:=I1.ok.funs.mem z
   exact T7 (aO ho)<|lz<|I1.ok.cab x c0 (hfn x) hx
 have cellKeep:∀x c0 v,X.env.cells.lookup x=aa c0->s1.heap.IsCell c0 v->s3.heap.IsCell c0 v:=λx c0 v hx #[o,ho,hd]=>
  #[o,I3.base.keep c0 o ho (I1.freeC x c0 hx) (notin x c0 hx)<|nx c0,hd]
 have hEnd:End X.K (xwE cl E1) Rep ρ H1 (λ_ H'=>WN X.K ir is cl (ts Xr) rb fi D0 σ2 H') (Pv.pv Cc i l S):=by
  have h:End X.K xw Rep ρ H Q (match Pv.pv Cc i l S with
   |.ok _ S=>.ok .non S
   |.ex c S=>if 1<=c/\c<=10 then .ok (Pv.Zan wd<|c-1) S else .no
   |.no=>.no):=by
   have h0:=h;rw[Pv.pv]at h0;exact h0
  cases q:Pv.pv Cc i l S with
  |no=>rw[q]at h;exact h.elim
  |ok d S'=>
   rw[q]at h;exact λρ' H' v f st' r=>xX hσr<|h ρ' H' .non (f1.trans f) st' Ut
  |ex e S'=>
   rw[q]at h;have hg:=(End.guard h).1;intro ρ' H' f st';have he:e<cl.length:=by rw[R.len];lia
   exact#[cl[e],ag he,e,cl[e],S',ρ',rfl,ag he,q,f,st']
 refine fV<|thn (ZcU (X:=Xr) (E:=E0) (Dn:={nx:=λσ' H'=>WN X.K ir is cl (ts Xr) rb fi D0 σ' H',rt:=λ_ _=>False}) (E1:=E1) (S:=S0) (ic:=ic) (ie:=ie) (ir:=ir) xY I3 hN hic (.inl hkc) hσ0 hie hke hir hkr (hkS _ _ _) hmS #[_,_,_,_,og] ?run ?e1 hd1 hd2 hd3 hd4 hd5 (hs1 _ _ _)<|hs2 _ _ _) λfl s4 hq4=>?_
 case run=>
  exact ZaF (k:=k) (N:=X.N) (σ:=σ) hrm I3.env0 L.S og #[c',oc,vs,t,rfl,oc',d1,v1] (hbind0 pm c' ctv) (λx c0 e=>#[let #[v,z]:=I1.cell x c0<|L.cl x c0 e;#[v,cellKeep x c0 v (L.cl x c0 e) z],I1.freeC x c0<|L.cl x c0 e]) I1.len
   (λj x v e1 e2 fr=>by
    obtain⟨m,hn,hl⟩:=I1.loc;obtain⟨u,r,lk⟩:=hl j x v e1 e2<|.inr<|.inl<|L.kd x fr;obtain⟨c1,hc1⟩:=L.S.has x fr;rcases lk with⟨k1,_⟩|⟨_,c0,hc0,z⟩
    .have k1:X.env.scope.names.lookup x=aa .local:=k1
     rw[L.kd x fr]at k1;cases k1
    .have:=L.cl x c1 hc1
     rw[hc0]at this;cases this;exact#[u,c1,r,hc1,cellKeep x c1 _ hc0 z])
   (hbody g c' Xr.A Xr.stack s3 H1 E1<|hrm.deeper _) #[ρ,l,S,st1,lr.mono f1,hEnd]
 case e1=>
  rintro Ce H' ⟨e,Ce',S',ρ',z,hce,hev,f,st'⟩
  cases z;have h2:End X.K xw Rep ρ H Q (if 1<=e/\e<=10 then .ok (Pv.Zan wd<|e-1) S' else .no):=by
   have h0:=h;rw[Pv.pv,hev]at h0;exact h0
  obtain⟨hge,h3⟩:=End.guard h2;obtain⟨e',rfl⟩:∃e',e=e'+1:=#[e-1,by lia]
  refine#[R.exm e' Ce S0 hce hS0,λa oe Ha ce=>?_]
  have stA:=st'.fresh (o:=.frz oe<|.own a) Ha;have er:ErAt X.K cl ir e' (((σ2.set ie<|aa<|.ref a).set ir<|aa<|.ref a).set ie ae) (upd H' a<|.frz oe<|.own a):=
   #[a,oe,Ce,by rw[bc<|Ne.symm hne2,bg<|by rw[bz];exact hirl],Zl,ce,hce]
  have len':(((σ2.set ie<|aa<|.ref a).set ir<|aa<|.ref a).set ie ae).length=Nr.length:=by rw[bz,bz,bz];exact hσl
  refine uP R (by lia) er hne (by rw[len'];exact his) stA (λσ' H2 q Q' a1 a2 a3 a4 a5=>hts Xr ρ' S' e' σ' H2 q Q' rfl (by lia) a1 a2 a3 a4 a5) λσ' H2 q b1 b2 b3 f2 st2=>?_
  refine hfi D0 σ' ρ' H2 S' e' q (by lia) b1 (b2.trans len') b3 st2 λH3 f3 st3=>?_
  exact h3 ρ' H3 (vR wd e') (f1.trans<|f.trans<|(Zu Ha).trans<|f2.trans f3) st3 (by rw[Nat.add_sub_cancel];exact ZdJ wd e')
 cases fl with
 |ret v=>obtain⟨_,_,_,_,_,z⟩:=hq4;exact z.elim
 |brk=>obtain⟨_,_,_,z⟩:=hq4;exact False.elim z
 |cont=>obtain⟨_,_,_,z⟩:=hq4;exact False.elim z
 |next=>
  obtain⟨σ4,H4,I4,q4⟩:=hq4;exact hrest cdv X.A X.stack s1 H1 hrm [] s4 σ4 H4 D0 I4 q4
end
noncomputable def ksum(is:Nat):Ev.E:=.cmp .ne (.blt .sum [.comp1 [] 1 [0] (.of<|.v is) []<|.blt .toInt [.v 0]])<|.c<|.int 1
theorem vb:∀(bs:List Bool),Pv.mapP (λx s=>(Pv.po (Pv.Zp [0] x<|Pv.Z2 [] 1 l) s).bind λσ s=>(Pv.pvt Cc [] σ s).bind λb s=>if b then(Pv.pv Cc (.blt .toInt [.v 0]) σ s).bind λy s=>.ok [y] s else .ok [] s) (bs.map .bl) S=.ok (bs.map λb=>.int<|Ev.b2i b) S
 |[]=>rfl
 |b::bs=>by
  rw[aW,Pv.mapP,show((Pv.po (Pv.Zp [0] (Pv.V.bl b)<|Pv.Z2 [] 1 l) S).bind λσ s=>(Pv.pvt Cc [] σ s).bind λb s=>if b then(Pv.pv Cc (.blt .toInt [.v 0]) σ s).bind λy s=>.ok [y] s else .ok [] s)=Pv.PR.ok [Pv.V.int<|Ev.b2i b] S from rfl]
  dsimp only
  rw[vb bs];rfl
theorem yk:∀(bs:List Bool),Pv.intsV (bs.map λb=>Pv.V.int<|Ev.b2i b)=aa (bs.map Ev.b2i)
 |[]=>rfl
 |b::bs=>by rw[aW,Pv.intsV,yk bs];rfl
def vp:∀e,e<10->((ZW e).map Ev.b2i).sum=1/\Ev.X9 ((ZW e).map Ev.b2i)=ak:=by decide
def ZbD(he:e<10)(hl:l[is]?=aa (aa<|.lst<|(ZW e).map .bl)):Pv.Xj Cc (ksum is) l S=.ok ai S:=by
 have w:Pv.pvw Cc (.of<|.v is) l S=.ok ((ZW e).map .bl) S:=by
  rw[Pv.pvw,Pv.pv,hl];rfl
 have c1:Pv.pv Cc (.comp1 [] 1 [0] (.of<|.v is) []<|.blt .toInt [.v 0]) l S=.ok (.lst<|(ZW e).map λb=>.int<|Ev.b2i b) S:=by
  rw[Pv.pv,T9 (show Pv.own 1 [0]=ak from rfl),w]
  rw[show ∀(a:List Pv.V)(s:Pv.DS)(f:List Pv.V->Pv.DS->Pv.PR Pv.V),(Pv.PR.ok a s).bind f=f a s from λ_ _ _=>rfl,vb]
  rfl
 have c2:Pv.pv Cc (.blt .sum [.comp1 [] 1 [0] (.of<|.v is) []<|.blt .toInt [.v 0]]) l S=.ok (.int 1) S:=by
  rw[Pv.pv,Pv.pvs,c1];show Pv.po (Pv.X2 .sum [.lst<|(ZW e).map λb=>.int<|Ev.b2i b]) S=_
  unfold Pv.X2 Pv.blt1;simp only[yk,Option.bind,(vp e he).2,if_true,(vp e he).1];rfl
 unfold Pv.Xj ksum;rw[Pv.pv,c2];rfl
def Zee{Q':Bool->Hp->Prop}{xw:Nat->Hp->Prop}(he:e<10)(h1:σ'[is]?=aa (aa<|.ref q))(h2:H' q=aa (.lst<|(ZW e).map .bl))(h3:¬ρ.X q)(st:St3 Y.K ρ S H')
  (hQ:∀H2,Fut ρ H' ρ H2->St3 Y.K ρ S H2->Q' ai H2):tB3 Y xw (Pv.Xj Cc<|ksum is) σ' H' Q':=by
 have hl:=(aE.mp h1).1;refine#[ρ,(aP σ'.length ae).set is<|aa<|.lst<|(ZW e).map .bl,S,st,#[by simp,λi d e1=>?_],?_]
 .by_cases z:i=is
  .subst z
   rw[bg<|by simpa using hl]at e1
   cases e1;exact#[.ref q,h1,Wl h2 h3<|wO _]
  .rw[bc<|Ne.symm z,c8]at e1
   split at e1<;>cases e1
 .rw[ZbD he<|bg<|by simpa using hl]
  exact λρ2 H2 v f s2 r=>by
   have r:=r;subst r;obtain rfl:=f.eq;exact hQ H2 f s2
def ZcH{xr xs:bi}{ts:TT}{rb:TE}{fi:TS}{badE:Expr}{last:List eJ}{sumE:Expr}{P:Nat->fO}{J:Nat->Nat}(R:Errs X.K X.mg cl)(hN:X.N.Nodup)(hi:X.N[ir]?=aa xr)(hv:X.env.scope.names.lookup xr=aa .local)(hj:X.N[is]?=aa xs)(hw:X.env.scope.names.lookup xs=aa .local)
  (g0:Gl X "isinstance")(m0:X.mg "isinstance" = ae)(g1:Gl X "ValueError")(m1:X.mg "ValueError" = ae)(gc:∀x∈Yx,Gl X x)
  (r1:(xr == ("__debug__" : bi))=ai)(r2:(xr == ("__classdict__" : bi))=ai)(s1:(xs == ("__debug__" : bi))=ai)(s2:(xs == ("__classdict__" : bi))=ai)(hs:PT X sumE ts)
  (l1:((P 30).endLine == (P 31).line)=ak)(hbad:PE X badE rb)(hlast:PSs X last fi) :
  PSs X (.If (.Compare (.Name xr<|P 0) [.Is] [.Constant .none (J 0)<|P 1]<|P 2) [.Return (aa<|.Constant .none (J 1)<|P 3)<|P 4] [] (P 5) ::
   .Assign [.Name xs<|P 6] (.List [.Call (.Name "isinstance"<|P 40) [.Name xr<|P 41,.Name "NoRow"<|P 42] []<|P 43,.Call (.Name "isinstance"<|P 44) [.Name xr<|P 45,.Name "NoPart"<|P 46] []<|P 47,.Call (.Name "isinstance"<|P 48) [.Name xr<|P 49,.Name "NoNumber"<|P 50] []<|P 51]<|P 7) (P 8) ::
   .Assign [.Name xs<|P 9] (.BinOp (.Name xs<|P 10) .Add (.List [.Call (.Name "isinstance"<|P 52) [.Name xr<|P 53,.Name "NoHeads"<|P 54] []<|P 55,.Call (.Name "isinstance"<|P 56) [.Name xr<|P 57,.Name "NotBeside"<|P 58] []<|P 59,.Call (.Name "isinstance"<|P 60) [.Name xr<|P 61,.Name "NotIn"<|P 62] []<|P 63]<|P 11)<|P 12) (P 13) ::
   .Assign [.Name xs<|P 14] (.BinOp (.Name xs<|P 15) .Add (.List [.Call (.Name "isinstance"<|P 64) [.Name xr<|P 65,.Name "NoTurn"<|P 66] []<|P 67,.Call (.Name "isinstance"<|P 68) [.Name xr<|P 69,.Name "NoLot"<|P 70] []<|P 71,.Call (.Name "isinstance"<|P 72) [.Name xr<|P 73,.Name "TooMany"<|P 74] []<|P 75]<|P 16)<|P 17) (P 18) ::
   .Expr (.Call (.Attribute (.Name xs<|P 19) "append"<|P 30) [.Call (.Name "isinstance"<|P 76) [.Name xr<|P 77,.Name "BadNote"<|P 78] []<|P 79] []<|P 31) (P 20) ::
   .If (.BoolOp .Or [.UnaryOp .Not (.Call (.Name "isinstance"<|P 80) [.Name xr<|P 81,.Name "ValueError"<|P 82] []<|P 83)<|P 21,sumE]<|P 22) [.Return (aa badE)<|P 25] [] (P 26) ::
   last) (WN X.K ir is cl ts rb fi):=by
 have cj:∀j (x:bi),j<11->Yx[j]?=aa x->X.mg x=aa (.ref<|cl.getD j 0):=λj x hj e=>by
  have hl:j<cl.length:=by rw[R.len];exact hj
  exact R.nm j _ x (by rw[ag hl,aD,ag hl];rfl) e
 have vr:Vis X.env.scope xr:=.inl hv;have vs:Vis X.env.scope xs:=.inl hw;have is:∀{a b c d:fO}(j:Nat)(x:bi),j<11->Yx[j]?=aa x->(x == ("__debug__" : bi))=ai->PE X (.Call (.Name "isinstance" a) [.Name xr b,.Name x c] [] d) (tIs X.K ir<|.ref<|cl.getD j 0):=λj x h e hd=>
  ZfI hi vr g0 m0 (gc x<|cM e) (cj j x h e) r1 r2 hd
 unfold WN
 dsimp only
 refine Yp (Zas (Zdz<|ZeK<|Yk hi vr r1 r2) (W9<|VX yH) Gy) ?_;refine Yp (Vu hN hj (.inl hw) (UL<|Zw (is 1 "NoRow" (by decide) rfl<|by decide)<|Zw (is 2 "NoPart" (by decide) rfl<|by decide)<|Zw (is 3 "NoNumber" (by decide) rfl<|by decide) Yf) rfl<|.inr hw) ?_
 refine Yp (Vu hN hj (.inl hw) (V9 yN (Yk hj vs s1 s2)<|UL<|Zw (is 4 "NoHeads" (by decide) rfl<|by decide)<|Zw (is 5 "NotBeside" (by decide) rfl<|by decide)<|Zw (is 6 "NotIn" (by decide) rfl<|by decide) Yf) rfl<|.inr hw) ?_
 refine Yp (Vu hN hj (.inl hw) (V9 yN (Yk hj vs s1 s2)<|UL<|Zw (is 7 "NoTurn" (by decide) rfl<|by decide)<|Zw (is 8 "NoLot" (by decide) rfl<|by decide)<|Zw (is 9 "TooMany" (by decide) rfl<|by decide) Yf) rfl<|.inr hw) ?_
 refine Yp (Uh (zU dW kU kW VM (Yk hj vs s1 s2) (Zw (is 10 "BadNote" (by decide) rfl<|by decide) Yf) rfl rfl l1 rfl rfl) rfl) ?_
 exact Yp (Zas (PW.pt<|Zc6 (qQ<|ZdT<|Zes hi vr g0 m0 g1 m1 r1 r2)<|Zbk hs) (W9<|VX hbad) Gy) hlast
def Zfh{xs:bi}{P:Nat->fO}{J:Nat->Nat}(hj:X.N[is]?=aa xs)(hw:X.env.scope.names.lookup xs=aa .local)(s1:(xs == ("__debug__" : bi))=ai)(s2:(xs == ("__classdict__" : bi))=ai)(l2:((P 32).endLine == (P 33).line)=ak) :
  PSs X [.Return (aa<|.Call (.Attribute (.Name xs<|P 27) "index"<|P 32) [.Constant (.bool ak) (J 3)<|P 28] []<|P 33)<|P 29] (ZdK X.K is):=
 W9 (VX<|zU dW lB lC yg (Yk hj (.inl hw) s1 s2) (Zw qT Yf) rfl rfl l2 rfl rfl)
def ZfR{P:Nat->fO}{J:Nat->Nat}:PE X (.UnaryOp .USub (.Constant (.int 1) (J 2)<|P 23)<|P 24) rbI:=Zdk jF WG
structure BS(X:Cx)(s:eJ)(t:TS):Prop where
 h:PS X s t
structure BSs(X:Cx)(s:List eJ)(t:TS):Prop where
 h:PSs X s t
def Zci(hN:X.N.Nodup)(hk:X.N[iw]?=aa xw)(hv:X.env.scope.names.lookup xw=aa .local)(h:PA X es ta):BS X (.Assign [.Name xw p1] (.List es p2) p3) (yG (uI ta)<|Qj iw):=
 ⟨Vu hN hk (.inl hv) (UL h) rfl<|.inr hv⟩
def ZbH(h1:BS X s1 t1)(h2:BS X s2 t2):BSs X [s1,s2] (JU t1 t2):=⟨Yp h1.h<|W9 h2.h⟩
structure BA(X:Cx)(es:List Expr)(ws:List bi):Prop where
 h:PA X es (tWs ws)
def paW(h:BA X es ws):BA X (.Constant (.str x) 0 p::es) (x::ws):=⟨Zw Gd h.h⟩
def Zf1:BA X [] []:=⟨Yf⟩
def ZdW{P:Nat->fO}:BA X [.Constant (.str "row") 0<|P 102,.Constant (.str "part") 0<|P 103,.Constant (.str "number") 0<|P 104,.Constant (.str "heads") 0<|P 105,.Constant (.str "not beside") 0<|P 106,.Constant (.str "not in") 0<|P 107,.Constant (.str "turn") 0<|P 108,.Constant (.str "lot") 0<|P 109,.Constant (.str "many") 0<|P 110,.Constant (.str "note") 0<|P 111] Ev.X4:=
 paW (paW<|paW<|paW<|paW<|paW<|paW<|paW<|paW<|paW Zf1)
def Zfa{xs xw:bi}{iw:Nat}{P:Nat->fO}(hN:X.N.Nodup)(hj:X.N[is]?=aa xs)(hw:X.env.scope.names.lookup xs=aa .local)(s1:(xs == ("__debug__" : bi))=ai)(s2:(xs == ("__classdict__" : bi))=ai)(hk:X.N[iw]?=aa xw)(hv:X.env.scope.names.lookup xw=aa .local)(t1:(xw == ("__debug__" : bi))=ai)(t2:(xw == ("__classdict__" : bi))=ai)(l2:((P 32).endLine == (P 33).line)=ak) :
  BSs X [.Assign [.Name xw<|P 34] (.List [.Constant (.str "row") 0<|P 102,.Constant (.str "part") 0<|P 103,.Constant (.str "number") 0<|P 104,.Constant (.str "heads") 0<|P 105,.Constant (.str "not beside") 0<|P 106,.Constant (.str "not in") 0<|P 107,.Constant (.str "turn") 0<|P 108,.Constant (.str "lot") 0<|P 109,.Constant (.str "many") 0<|P 110,.Constant (.str "note") 0<|P 111]<|P 35)<|P 36,
   .Return (aa<|.Subscript (.Name xw<|P 37) (.Call (.Attribute (.Name xs<|P 27) "index"<|P 32) [.Constant (.bool ak) 0<|P 28] []<|P 33)<|P 38) (P 29)] (ZdM X.K is iw):=by
 refine ZbH (Zci hN hk hv ZdW.h) ⟨?_⟩;refine VX<|vz Uw (Yk hk (.inl hv) t1 t2) (zU dW lB lC yg (Yk hj (.inl hw) s1 s2) (Zw qT Yf) rfl rfl l2 rfl rfl) ?_;intro _ _;with_unfolding_all rfl
end Sd
namespace Gn
open PySem PySem.Spec PyProof.Rows L2
open Ev (E Sm Fn Bop Cop Ty Bf Mf)
open Sd (hu7 Calls CX1 spX xwE Errs Cls1 DefX)
structure Cls(K:al)(mg:bi->Option aq)(base:ck)(cl:List aC):Prop where
 er:Errs K mg cl
 rs:∀(c:Nat)(S C:aC),cl[0]?=aa S->cl[c+1]?=aa C->Cls1 base S C
def yn(P:bH)(w:bV)(K:al)(mg:bi->Option aq)(base:ck)(cl:List aC)(fs:List FR)(F:List Fn)(tk:Nat)(sn:List Nat)(f:Nat->aC)(fd:Nat->cA)(d:Nat):Prop:=
 ∀i r,fs[i]?=aa r->FnOk P w K mg base (CX1 P w) d (f i) (fd i) r.ps (spX K cl (Pv.Zm F tk d) (sn.contains i) i)
def BdX(fs:List FR)(zs:List bi)(gs:List (bi×Gv))(F:List Fn)(tk:Nat)(sn:List Nat)(i:Nat)(r:FR)(fn:Fn):Prop:=
 ∀(P:bH)(w:bV)(K:al)(mg:bi->Option aq)(base:ck)(cl:List aC)(f:Nat->aC)(fd:Nat->cA)(d:Nat),Top K mg fs zs gs f fd->Cls K mg base cl->yn P w K mg base cl fs F tk sn f fd d->r.N.Nodup->
  ∀(cdv:aq)(A:cC)(outer:List Env)(s:aA)(H:Hp)(E:XK),Room d (A.deeper<|dL r.x (Zh r.st) s.heap.objs.size (f i) cdv)->(A.deeper<|dL r.x (Zh r.st) s.heap.objs.size (f i) cdv).units+7<dH->
   Bx (Sd.CSs (X3 (CX1 P w) P w K mg base r.N r.x (Zh r.st) (f i) cdv A outer s H E) (xwE cl E) (sn.contains i) (Pv.Zm F tk d) (Pv.muts fn.body) (Zz r.st) fn.body)
def OkX(fs:List FR)(zs:List bi)(gs:List (bi×Gv))(F:List Fn)(tk:Nat)(sn:List Nat):Nat->List FR->List Fn->Prop
 |_,[],[]=>True
 |i,r::rs,fn::fns=>(fn.ns=r.N.length/\fn.ps=r.ps.length/\scB r.N r.k (Zh r.st)=ak/\BdX fs zs gs F tk sn i r fn)/\OkX fs zs gs F tk sn (i+1) rs fns
 |_,_,_=>False
theorem OkX.get{fs:List FR}{zs:List bi}{gs:List (bi×Gv)}{F:List Fn}{tk:Nat}{sn:List Nat}:∀{rs:List FR}{fns:List Fn}{i0:Nat},OkX fs zs gs F tk sn i0 rs fns->∀i r,rs[i]?=aa r->∃fn,fns[i]?=aa fn/\fn.ns=r.N.length/\fn.ps=r.ps.length/\scB r.N r.k (Zh r.st)=ak/\BdX fs zs gs F tk sn (i0+i) r fn
 |[],_,_,_,i,r,e=>by simp at e
 |_::_,[],_,h,_,_,_=>h.elim
 |r::rs,fn::fns,i0,h,0,r',e=>by
  simp at e;subst e;exact#[fn,rfl,h.1.1,h.1.2.1,h.1.2.2.1,h.1.2.2.2]
 |r::rs,fn::fns,i0,h,i+1,r',e=>by
  obtain⟨g,a,b,c,d,q⟩:=OkX.get h.2 i r' (by simpa using e)
  exact#[g,by simpa using a,b,c,d,by rw[kY,ke 1 i]at q;exact q]
theorem w4{P:bH}{w:bV}{K:al}{mg:bi->Option aq}{base:ck}{cl:List aC}{fs:List FR}{zs:List bi}{gs:List (bi×Gv)}{F G:List Fn}{tk:Nat}{sn:List Nat}{f:Nat->aC}{fd:Nat->cA}(O:OkX fs zs gs F tk sn 0 fs G)(hG:∀(i:Nat)(fn:Fn),G[i]?=aa fn->F[i]?=aa fn)(hT:F[tk]?=aa Sd.WA)(T:Top K mg fs zs gs f fd)(L:Cls K mg base cl):∀d,yn P w K mg base cl fs F tk sn f fd d
 |0=>λi r h=>Sd.Za4
 |d+1=>λi r h=>by
  obtain⟨fn,a,b,c,e,q⟩:=O.get i r h;rw[Nat.zero_add]at q;have S:=VU e;have a:=hG i fn a;have hb:=λcdv A outer s H E hr=>(q P w K mg base cl f fd d T L (w4 O hG hT T L d) S.nd cdv A outer s H E hr<|hu7 hr).h
  by_cases ht:i=tk
  .subst ht
   rw[hT]at a;cases a;exact Sd.GV Sd.ZcL b c (T.d i r h) S hb
  .exact Sd.GV (Sd.vx ht a) b c (T.d i r h) S hb
def Zbn{n:Nat}{x:bi}{E:XK}(D:DefX X E)(T:Top X.K X.mg fs zs gs f fd)(h:yn X.prog X.w X.K X.mg X.base cl fs F tk sn f fd d)(hr:Room d X.A)(ha:Bx (Sd.CA X (xwE cl E) (Pv.Zm F tk d) (e::es) is))(hx:(fs[n]?).map FR.x=aa x)(hg:Gl X x)(hdb:(x == ("__debug__" : bi))=ai)
  (he:az (e::es) X.env=(ai,bY e X.env)::az es X.env)(hpl:(dz pos<|az es X.env).any (·.1)=ai):Bx (Sd.CE X (xwE cl E) (Pv.Zm F tk d) (.Call (.Name x p) (e::es) [] pos)<|.call n is):=by
 cases e0:fs[n]? with
 |none=>rw[e0]at hx;cases hx
 |some r=>
  rw[e0]at hx;obtain rfl:r.x=x:=am hx;exact⟨Sd.zc (h n r e0) hr (Sd.ZaV D) (λ_ _ z=>z) (T.m n r e0) (T.d n r e0).kp (T.b n r e0) ha.h hg hdb he hpl⟩
def ZdA{n:Nat}{x:bi}{E:XK}(D:DefX X E)(T:Top X.K X.mg fs zs gs f fd)(h:yn X.prog X.w X.K X.mg X.base cl fs F tk sn f fd d)(hr:Room d X.A)(ha:Bx (Sd.CA X (xwE cl E) (Pv.Zm F tk d) (e::es) is))(hx:(fs[n]?).map FR.x=aa x)(hk:sn.contains n=ak)(hg:Gl X x)(hdb:(x == ("__debug__" : bi))=ai)
  (he:az (e::es) X.env=(ai,bY e X.env)::az es X.env)(hpl:(dz pos<|az es X.env).any (·.1)=ai):Bx (Sd.CF X (xwE cl E) (Pv.Zm F tk d) (.Call (.Name x p) (e::es) [] pos)<|.callF n is):=by
 cases e0:fs[n]? with
 |none=>rw[e0]at hx;cases hx
 |some r=>
  rw[e0]at hx;obtain rfl:r.x=x:=am hx;have q:=h n r e0;rw[hk]at q;exact⟨Sd.ju q hr (Sd.ZaV D) (T.m n r e0) (T.d n r e0).kp (T.b n r e0) ha.h hg hdb he hpl⟩
def Zeu(T:Top X.K X.mg fs zs gs f fd)(h:yn X.prog X.w X.K X.mg X.base cl fs F tk sn f fd d)(hr:Room d X.A)(ha:Bx (Sd.CA X Sd.nx (Pv.Zm F tk d) (e::es) is))(hx:(fs[n]?).map FR.x=aa x)(hg:Gl X x)(hdb:(x == ("__debug__" : bi))=ai)
  (he:az (e::es) X.env=(ai,bY e X.env)::az es X.env)(hpl:(dz pos<|az es X.env).any (·.1)=ai):Bx (Sd.CE X Sd.nx (Pv.Zm F tk d) (.Call (.Name x p) (e::es) [] pos)<|.call n is):=by
 cases e0:fs[n]? with
 |none=>rw[e0]at hx;cases hx
 |some r=>
  rw[e0]at hx;obtain rfl:r.x=x:=am hx;exact⟨Sd.zc (h n r e0) hr Sd.Zfr (λ_ _ z=>z.elim) (T.m n r e0) (T.d n r e0).kp (T.b n r e0) ha.h hg hdb he hpl⟩
def Zet{x y:bi}{n k:Nat}{px p':fO}{ss:List eJ}{B:List Sm}{E:XK}(D:DefX X E)(T:Top X.K X.mg fs zs gs f fd)(h:yn X.prog X.w X.K X.mg X.base cl fs F tk sn f fd d)(hr:Room d X.A)(ha:Bx (Sd.CA X (xwE cl E) (Pv.Zm F tk d) (e::es) is))(hB:Bx (Sd.CSs X (xwE cl E) fr (Pv.Zm F tk d) ns ss B))(hN:X.N.Nodup)(hx:(fs[k]?).map FR.x=aa y)(hk:sn.contains k=ak)
  (hg:Gl X y)(hdb:(y == ("__debug__" : bi))=ai)(he:az (e::es) X.env=(ai,bY e X.env)::az es X.env)(hpl:(dz p<|az es X.env).any (·.1)=ai)(hi:X.N[n]?=aa x)(hl:L2.Loc X.env.scope x)(hf:X.fn x=ak\/X.env.scope.names.lookup x=aa .local)
  (hs:eY [.Name x px] (.Call (.Name y p') (e::es) [] p) pos.line X.env=cD ai)(hw:eZ [.Name x px] (.Call (.Name y p') (e::es) [] p) X.env=cD ae)(h1:(cy [.Name x px] X.env).map (·.2)=[ej (.Name x px) X.env]) :
  Bx (Sd.CSs X (xwE cl E) fr (Pv.Zm F tk d) ns (.Assign [.Name x px] (.Call (.Name y p') (e::es) [] p) pos::ss) [.cel n k is B]):=by
 cases e0:fs[k]? with
 |none=>rw[e0]at hx;cases hx
 |some r=>
  rw[e0]at hx;obtain rfl:r.x=y:=am hx;have q:=h k r e0;rw[hk]at q;refine⟨Sd.ZeR (Sd.PE.imp (J6 q hr hg (T.m k r e0) (T.d k r e0).kp (T.b k r e0) .nil (Sd.ZaV D) ha.h hdb he hpl) λσ H Q z=>?_) hB.h hN hi hl hf hs hw h1⟩
  unfold Zdx;simp only[cr];exact z
def ZfC{c:Nat}{x y:bi}{k:Nat}{E:XK}(D:DefX X E)(hc:X.calm=ak)(L:Cls X.K X.mg X.base cl)(hx:Sd.Yx[c+1]?=aa x)(hg:Gl X x)(hd:(x == ("__debug__" : bi))=ai)
  (he:az [.Constant (.str y) k p] X.env=(ai,bY (.Constant (.str y) k p) X.env)::az [] X.env)(hpl:(dz cpos<|az [] X.env).any (·.1)=ai) :
  Bx (Sd.CS X (xwE cl E) fr C ns (.Raise (aa<|.Call (.Name x np) [.Constant (.str y) k p] [] cpos) ae pos)<|.raise (c+1) []):=by
 have hl:c+1<cl.length:=by rw[L.er.len];have:=(aE.mp hx).1;exact this
 have h0:0<cl.length:=by lia
 exact⟨Sd.ZaT D hc (L.rs c _ _ (ag h0)<|ag hl) (ag hl) hg (L.er.nm (c+1) _ x (ag hl) hx) hd he hpl⟩
def ZdC{c m:Nat}{x:bi}{E:XK}{v1 v2:Expr}{rest:List Expr}(D:DefX X E)(hc:X.calm=ak)(L:Cls X.K X.mg X.base cl)(hj:Bx (Sd.CJ X (xwE cl E) C (v1::v2::rest) m is))(hml:m<=bo)(hx:Sd.Yx[c+1]?=aa x)(hg:Gl X x)(hd:(x == ("__debug__" : bi))=ai)
  (he:az [.JoinedStr (v1::v2::rest) jp] X.env=(ai,bY (.JoinedStr (v1::v2::rest) jp) X.env)::az [] X.env)(hpl:(dz cpos<|az [] X.env).any (·.1)=ai) :
  Bx (Sd.CS X (xwE cl E) fr C ns (.Raise (aa<|.Call (.Name x np) [.JoinedStr (v1::v2::rest) jp] [] cpos) ae pos)<|.raise (c+1) is):=by
 have hl:c+1<cl.length:=by rw[L.er.len];have:=(aE.mp hx).1;exact this
 have h0:0<cl.length:=by lia
 exact⟨Sd.uK D hc (L.rs c _ _ (ag h0)<|ag hl) (ag hl) hj.h hml hg (L.er.nm (c+1) _ x (ag hl) hx) hd he hpl⟩
open Sd (St3 End Rep Rq LocR Ut)
def spL(Pt:aC)(K:al)(cl:List aC)(C:Calls)(n:Nat):Sp:=λvs H Q E=>(∃ps,H Pt=aa (.tbl ps))/\spX K cl C ai n vs H Q E
section
variable{P:bH}{w:bV}{K:al}{mg:bi->Option aq}{base:ck}{cl:List aC}
def jK{C C':Calls}{n:Nat}{fn:Fn}{x qual:bi}{st:eJ}{f c Pt:aC}{fd:cA}{N ps:List bi}{k:Nat}(hF:∀ρ S H ds vs,St3 K ρ S H->Rq ρ H ds vs->C' n ds S=.no\/C' n ds S=Sd.JN C fn ds S)(hns:fn.ns=N.length)(hps:fn.ps=ps.length)(Fu:Fun K x qual st f fd)(S:FnScope N ps (Zh st))(hcd:fd.code=.ref c)
  (hb:∀(A:cC)(outer:List Env)(s:aA)(H:Hp)(E:XK),(∃ps,H Pt=aa (.tbl ps))->Room k (A.deeper<|dL qual (Zh st) s.heap.objs.size f<|.ref c)->
   Sd.CSs (X3 (CX1 P w) P w K mg base N qual (Zh st) f (.ref c) A outer s H E) (xwE cl E) ai C (Pv.muts fn.body) (Zz st) fn.body) :
  FnOk P w K mg base (CX1 P w) (k+1) f fd ps (spL Pt K cl C' n):=by
 have eq:∀{ρ S H ds vs Q E},St3 K ρ S H->Rq ρ H ds vs->End K (xwE cl E) (Sd.XT ai H) ρ H Q (C' n ds S)->End K (xwE cl E) (Sd.XT ai H) ρ H Q (Sd.JN C fn ds S):=λ{ρ S H ds vs Q E} st r h=>by
  rcases hF ρ S H ds vs st r with e|e
  .rw[e]at h;exact h.elim
  .rw[e]at h;exact h
 obtain⟨oc,od,kV,doc,pm,an,cdv,ct,osl,rfl,lk,hcode⟩:=Fu.ex;obtain rfl:cdv=.ref c:=hcd;refine Zc8 lk hcode S (λvs H Q E #[_,ρ,ds,S,st,r,h]=>?_) λA outer s H vs Q E hr #[hP,ρ,ds,S',st,r,h]=>#[_,hb A outer s H E hP hr,ρ,H,λ_=>ae,Pv.ZJ fn.ns ds,[],S',st,Sd.Eu.start st r N fn.ns hns,Sd.zG (λ_ _ q=>q) (λ_ _ q=>q)<|eq st r h]
 have h:=eq st r h;obtain⟨hl,_⟩:=Sd.End.guard h;rw[r.length,hl,hps]
def Zce(hO:Sd.wL Pt H)(hS:SqL K H a (ns.map V.int))(h:∀s,∃S',C n [.scr ns] s=.ok (.bl ak) S'):spL Pt K cl C n [.ref a] H (λv _=>v=.bl ak) λ_ _ _=>False:=by
 obtain⟨S',e⟩:=h (0,ai);have sc:Sd.Scr K H a ns:=by
  rcases hS with(hS|hS)|hS
  .by_cases z:a=Pt
   .rw[z,hO.1]at hS;cases hS
   .rcases hO.2 a z with z|⟨o,xs,z⟩
    .rw[z]at hS;cases hS
    .rw[z]at hS;cases hS
  .exact .inl hS
  .exact .inr hS
 refine#[#[_,hO.1],#[K,ae,λ_=>False,λ_ h=>by cases h],[.scr ns],(0,ai),#[rfl,λ_ h=>h.elim,λ_ h=>(by cases h),λQ ps e=>?_],Sd.Rq.cons (by exact#[a,rfl,sc]) Sd.Rq.nil,?_]
 .by_cases z:Q=Pt
  .subst z
   rw[hO.1]at e;cases e;exact#[trivial,λpos cv q=>by cases q]
  .rcases hO.2 Q z with z|⟨_,_,z⟩<;>(rw[z]at e;cases e)
 .rw[e]
  exact λρ' H' v _ _ r=>r.1.bl'
end
def BdL(fs:List FR)(zs:List bi)(gs:List (bi×Gv))(F:List Fn)(tk:Nat)(sn:List Nat)(r:FR)(fn:Fn):Prop:=
 ∀(P:bH)(w:bV)(K:al)(mg:bi->Option aq)(base:ck)(cl:List aC)(f:Nat->aC)(fd:Nat->cA)(fL c Pt:aC)(d:Nat),Top K mg fs zs gs f fd->Cls K mg base cl->yn P w K mg base cl fs F tk sn f fd d->r.N.Nodup->
  du base c Pt->base.BuiltinsAt mg Pt->bG≠Pt->
  ∀(A:cC)(outer:List Env)(s:aA)(H:Hp)(E:XK),(∃ps,H Pt=aa (.tbl ps))->Room (d+2) (A.deeper<|dL r.x (Zh r.st) s.heap.objs.size fL<|.ref c)->(A.deeper<|dL r.x (Zh r.st) s.heap.objs.size fL<|.ref c).units+7<dH->
   Bx (Sd.CSs (X3 (CX1 P w) P w K mg base r.N r.x (Zh r.st) fL (.ref c) A outer s H E) (xwE cl E) ai (Pv.Zm F tk d) (Pv.muts fn.body) (Zz r.st) fn.body)
open PySem.W
open Sd (ExK Yx veM)
noncomputable def Zcd(K:Frag)(cl:List aC)(i:Nat)(C:aC):Bool:=
 excIn K C veM "ValueError.__new__" && ((clsIn K C).isSome&&(pL K (.ref C) "__getattribute__" == aa (aa<|.builtin "BaseException.__getattribute__")&&(pL K (.ref C) "__getattr__" == aa ae &&
  (pL K (.ref C) "__class__" == aa (aa<|.builtin "object.__class__")&&(mroIn K C (.type "BaseException") == aa ak&&(mroIn K C (.type "object") == aa ak&&(kitOne K (.ref C) (.type "ValueError") == aa ak &&
   (exmOne K (.ref C) (.ref<|cl.getD 0 0) == aa ak&&(cl.drop 1).zipIdx.all λq=>kitOne K (.ref C) (.ref q.1) == aa (af<|i=q.2)))))))))
noncomputable def QY(K:Frag)(cl:List aC):Bool:=
 decide (cl.length=11)&&((cl.zip Yx).all (λq=>nsIn K bG q.2 == aa (aa<|.ref q.1))&&(cl.drop 1).zipIdx.all λq=>Zcd K cl q.2 q.1)
def Qy{α:Type}{l:List α}{f:α×Nat->Bool}(h:l.zipIdx.all f=ak){i:Nat}{a:α}(e:l[i]?=aa a):f (a,i)=ak:=by
 refine aS.mp h (a,i) ?_;rw[List.mem_zipIdx_iff_getElem?];exact e
section
variable{K:Frag}{cl:List aC}
def zZ(h:QY K cl=ak){i:Nat}{C:aC}(e:cl[i+1]?=aa C):Zcd K cl i C=ak:=by
 unfold QY at h;rw[aB,aB]at h;have e1:(cl.drop 1)[i]?=aa C:=by rw[fA,ke];exact e
 exact Qy h.2.2 e1
def ZbA{hh:ck}{mg:bi->Option aq}(X:K.In hh)(G:hh.Ns bG mg)(h:QY K cl=ak):Errs K mg cl:=by
 have h0:=h;unfold QY at h0;rw[aB,aB,T0]at h0;obtain⟨hl,hn,_⟩:=h0;have parts:∀{i:Nat}{C:aC},cl[i+1]?=aa C->_:=λ{i C} e=>by
  have:=zZ h e;unfold Zcd at this;simp only[aB,beq_iff_eq]at this;exact this
 refine#[hl,λj C x e1 e2=>?_,λj C e=>?_,λi j C D e1 e2=>?_,λi C e=>?_,λi C S e1 e2=>?_]
 .have:=aS.mp hn (C,x) (cM<|by rw[gd];exact#[e1,e2])
  exact mg_of X G<|beq_iff_eq.mp this
 .obtain⟨_,a,b,c,d,e5,e6,_⟩:=parts e
  exact#[a,b,c,d,e5,e6]
 .obtain⟨_,_,_,_,_,_,_,_,_,z⟩:=parts e1
  have e3:(cl.drop 1)[j]?=aa D:=by rw[fA,ke];exact e2
  exact beq_iff_eq.mp<|Qy z e3
 .obtain⟨_,_,_,_,_,_,_,z,_⟩:=parts e
  exact z
 .obtain⟨_,_,_,_,_,_,_,_,z,_⟩:=parts e1
  have:cl.getD 0 0=S:=by rw[aD,e2];rfl
  rw[this]at z;exact z
def ZdE(X:K.In base)(q:excIn K C veM "ValueError.__new__" = ak):Cls1 base S C:=by
 unfold excIn at q;split at q
 case h_2=>cases q
 case h_1 d0 k sl lk=>
  split at q
  case h_2=>cases q
  case h_1 c0 rest s0 s1 s2 s3 made s5 em es=>
   repeat rw[aB]at q
   obtain⟨⟨⟨⟨⟨y1,y2⟩,y3⟩,y4⟩,y5⟩,y6⟩:=q;cases beq_iff_eq.mp y1;cases beq_iff_eq.mp y2;have y3:k.hasDel=ai:=by simpa using y3
   cases k;cases em;cases y3;have es:=lv.mp es;cases es;exact#[rest,_,_,_,_,_,_,_,_,_,d0,s0,s1,s2,s3,s5,_,X _ _ lk,.of_isNs<|isNs_of_in X y5,nsMap_none_of_in X y5<|beq_iff_eq.mp y6,tail_of_in X y4]
def ZcM(X:K.In hh)(G:hh.Ns bG mg)(XB:K.In base)(h:QY K cl=ak):Cls K mg base cl:=by
 refine#[ZbA X G h,λc S C e0 e1=>ZdE XB ?_]
 have:=zZ h e1;unfold Zcd at this;rw[aB]at this;exact this.1
end
end Gn
namespace Gn
open PySem PySem.Spec PyProof.Rows L2
open Ev (E Sm Fn Bop Cop Ty Bf Mf)
open Sd (Calls CX1)
def Zco{l:lW}{w:bV}{K:al}{h:ck}{mg:bi->Option aq}{fa c Pt aL:aC}{fs:List FR}{zs:List bi}{gs:List (bi×Gv)}{F G:List Fn}{tk L:Nat}{sn:List Nat}{fnL:Fn}{fdL:cA}{st:eJ}{N:List bi}{as cl:List aC}{fds:List cA}
  (X:K.In h)(Gs:h.Ns bG mg)(hfa:mg "law" = aa (.ref fa))(O:OkX fs zs gs F tk sn 0 fs G)(hG:∀(i:Nat)(fn:Fn),G[i]?=aa fn->F[i]?=aa fn)(hT:F[tk]?=aa Sd.WA)(hLt:L≠tk)(A:FnsAt K fs as fds)(Z:ZsAt K zs)(Y:GsAt K gs)(Er:QY K cl=ak)
  (AL:FnsAt K [#["law",st,"_law_script" :: N,1]] [aL] [fdL])(hFL:F[L]?=aa fnL)(h1:fnL.ns=N.length+1)(h2:fnL.ps=1)(hsc:scB ("_law_script" :: N) 1 (Zh st)=ak)(B:BdL fs zs gs F tk sn #["law",st,"_law_script" :: N,1] fnL)(hcode:fdL.code=.ref c) :
  ∃fd:cA,(∀(s:aA)(v:aq),mD s fd #[[v],[]] [("_law_script",v)])/\∀base:ck,K.In base->base.Ns bG mg->du base c Pt->base.BuiltinsAt mg Pt->bG≠Pt->FnOk l.prog w K mg base (CX1 l.prog w) 65 fa fd ["_law_script"] (spL Pt K cl (Pv.Zm F tk 63) L):=by
 have T:Top K mg fs zs gs (λi=>as.getD i 0) (λi=>fds.getD i fdL):=
  #[λi r e=>(A.get i r e).2.1,λi r e=>by
   obtain⟨_,F,B⟩:=A.get (fd0:=fdL) i r e;exact F.binds B,λi r e=>k7 X Gs (A.get (fd0:=fdL) i r e).1,λx hx=>PySem.W.mg_none_of X Gs<|Z.get x hx,λy hy=>Y.get X Gs y hy]
 obtain⟨hn,Fu,Bn⟩:=AL.get (fd0:=fdL) 0 _ rfl;have e:=hfa.symm.trans<|k7 X Gs hn;cases e;have S:=VU hsc;refine#[fdL,λs v=>?_,λbase XB GB hC hB hP=>?_]
 .obtain⟨oc,od,kV,doc,pm,an,cdv,ct,osl,e,lk,hcd⟩:=Fu.ex
  have e:fdL=_:=e;rw[e];exact .of_eq<|Bn kV doc pm an cdv ct [v] rfl
 .have Lc:=ZcM X Gs XB Er
  exact jK (k:=64) (N:="_law_script" :: N) (Sd.vx hLt hFL) h1 h2 Fu S hcode λA outer s H E hp hr=>(B l.prog w K mg base cl _ _ _ c Pt 62 T Lc (w4 O hG hT T Lc 62) S.nd hC hB hP A outer s H E hp hr<|Sd.hu7 hr).h
theorem jU{l:lW}{q:bH}{loose:List bi}{XP:(bi->Option aq)->ck->Prop}{YP:bV->ck->Prop}{d:rA}{K:Params->al}{F:List Fn}{tk L:Nat}{c Pt:aC}{dr:rA}{cl:bV->List aC}(hok:∀(ns:List Int) s,∃S,Pv.Zm F tk 63 L [.scr ns] s=.ok (.bl ak) S)(hn:l.most=aa 63)(hdf:d.params.defaults=[])
  (hY:∀(w:bV)(h:ck),YP w h->(K w.params).In h)(hrec:(recsOf q).find? (λe=>e.name == d.name)=aa dr)(ht:∀w:bV,pW (K w.params) d.name=aa (c,Pt))(hK:∀w:bV,mB (K w.params)=ak)
  (hF:∀(w:bV)(mg:bi->Option aq)(fa:aC)(h:ck),(K w.params).In h->h.Ns bG mg->mg d.name=aa (.ref fa)->
   ∃fd:cA,(∀(s:aA)(u:aq),mD s fd #[[u],[]] [("_law_script",u)])/\∀base:ck,(K w.params).In base->base.Ns bG mg->du base c Pt->base.BuiltinsAt mg Pt->bG≠Pt->FnOk l.prog w (K w.params) mg base (CX1 l.prog w) 65 fa fd ["_law_script"] (spL Pt (K w.params) (cl w) (Pv.Zm F tk 63) L)) :
  pX q loose XP YP l.row.toRowW d [] (λf vs=>pA f vs):=
 Sd.jU (sp:=λw Pt=>spL Pt (K w.params) (cl w) (Pv.Zm F tk 63) L) hn (by decide) hdf #[rfl,by decide,by decide] hY hrec ht hK hF (λw H a ns hl hO hS=>Zce hO hS<|hok ns)<|by rintro _ _ _ _ _ ⟨_,_,_,_,_,_,_,_,_,_,_,_,_,_,z⟩;exact z
end Gn
namespace Sd
open PySem PySem.Spec PyProof.Rows L2
open Ev (E Sm Fn Bop Cop Ty Bf Mf)
def jr :CE X xw C (.Dict [aa<|.Constant (.int i) a p1] [.Constant (.int j) b p2] pos) (.dput1 (.c<|.int i)<|.c<|.int j):=
 PE.imp (Zb3 (j9 WG WG ZcX) rfl rfl (by simp)<|by show 1<=15;lia) λσ H Q #[ρ,l,S,st,lr,h]=>λp hp=>
  #[Zl,[(fv i,.int j)],rfl,by show 1<=15;lia,by
   rw[Zcs];have h:=h;exact h ρ _ _ (Zu hp) (st.fresh hp)<|by exact#[p,rfl,.inr #[_,Zl]]]
end Sd
namespace Gn
open PySem PySem.Spec PyProof.Rows L2
open Ev (E Sm Fn Bop Cop Ty Bf Mf)
open Sd (Calls CX1 spX xwE Errs Cls1 DefX LamS LamIn WN tB3 ksum YY Yx)
theorem WB :∀(l:List (bi×fm))(acc:List (bi×aC)),(∀y∈l,y.2=.free->(env.cells.lookup y.1).isSome=ak)->(∀x c,(x,c)∈acc->env.cells.lookup x=aa c)->
  ∃cs,(mU l acc (λy r=>if y.2 == .free then do let a <-cellOf env y.1;cD (iP ((y.1,a)::r))else cD (iP r)):oa _)=cD cs/\(∀x c,(x,c)∈cs->env.cells.lookup x=aa c)/\(∀x c,(x,c)∈acc->(x,c)∈cs)/\∀x,(x,cf)∈l->∃c,(x,c)∈cs
 |[],acc,_,ha=>#[acc,rfl,ha,λ_ _ h=>h,λx h=>by simp at h]
 |(x,k)::l,acc,hl,ha=>by
  by_cases e:k=.free
  .subst e
   have h0:=hl (x,.free) (by simp) rfl
   obtain⟨c,hc⟩:=cV.mp h0;obtain⟨cs,e1,h1,h2,h3⟩:=WB l ((x,c)::acc) (λy hy=>hl y<|by simp[hy]) (λy d hd=>by
    rcases ay.mp hd with z|z
    .cases z;exact hc
    .exact ha y d z)
   refine#[cs,?_,h1,λy d hd=>h2 y d (by simp[hd]),λy hy=>?_]
   .rw[<-e1]
    unfold cellOf;have hc:=hc;simp[hc]
   .rcases ay.mp hy with z|z
    .cases z;exact#[c,h2 x c<|by simp]
    .exact h3 y z
  .obtain⟨cs,e1,h1,h2,h3⟩:=WB l acc (λy hy=>hl y<|by simp[hy]) ha
   refine#[cs,?_,h1,h2,λy hy=>?_]
   .rw[<-e1]
    simp[e]
   .rcases ay.mp hy with z|z
    .cases z;exact T7 rfl e
    .exact h3 y z
def WD(hl:∀y∈scope.names,y.2=.free->(env.cells.lookup y.1).isSome=ak):∃cs,iA scope env=cD cs/\(∀x c,(x,c)∈cs->env.cells.lookup x=aa c)/\∀x,(x,cf)∈scope.names->∃c,(x,c)∈cs:=by
 obtain⟨cs,e,h1,_,h3⟩:=WB scope.names [] hl (λx c h=>by simp at h)
 refine#[cs,?_,h1,h3];rw[<-e];unfold iA;simp
theorem X7:∀(names:List (bi×fm))(n:Nat)(acc:List (bi×aC)),(acc.Pairwise λx y=>x.2≠y.2)->(∀y∈acc,y.2<n)->(iu n names acc).Pairwise λx y=>x.2≠y.2
 |[],_,_,h,_=>h
 |(x,k)::r,n,acc,h,hn=>by
  unfold iu;split
  .refine X7 r (n+1) _ (aZ.mpr #[λy hy z=>?_,h]) λy hy=>?_
   .have:=hn y hy
    exact T7 (z)<|lG this
   .rcases ay.mp hy with rfl|hy
    .exact lu n
    .exact eU<|hn y hy
  .exact X7 r n acc h hn
def Yj{α:Type}{l:List (bi×α)}{x:bi}{a:α}(h:l.lookup x=aa a):(x,a)∈l:=dG h
def um{l:List (bi×aC)}(h:l.Pairwise λx y=>x.2≠y.2){x y:bi}{c:aC}(h1:(x,c)∈l)(h2:(y,c)∈l):x=y:=by
 induction h with
 |nil=>simp at h1
 |cons hd _ ih=>
  rcases ay.mp h1 with z1|z1<;>rcases ay.mp h2 with z2|z2
  .exact congrArg Prod.fst<|z1.trans z2.symm
  .rw[<-z1]at hd;exact T7 rfl<|hd (y,c) z2
  .rw[<-z2]at hd;exact T7 rfl<|hd (x,c) z1
  .exact ih z1 z2
def QB{l:List (bi×aC)}{x:bi}{c:aC}(h:(x,c)∈l):∃d,l.lookup x=aa d:=by
 induction l with
 |nil=>simp at h
 |cons p l ih=>
  obtain⟨y,d⟩:=p;rw[eD];by_cases e:x=y
  .subst e;exact#[d,by simp]
  .rcases ay.mp h with z|z
   .cases z;exact T7 rfl e
   .have:(x == y)=ai:=by simpa using e
    rw[this];exact ih z
noncomputable def Zey(sc scope:dO):Bool:=
 (match scope.kind with|.function=>ak|_=>ai)&&(!scope.isCoroutine&&(!scope.isGenerator&&scope.names.all λy=>af (y.2≠.cell)&&(af (y.2≠.local)&&(!decide (y.2=.free)||decide (sc.names.lookup y.1=aa .cell)))))
def ZdZ{X:Cx}{sc scope:dO}{n:Nat}(hs:X.env.scope=sc)(hc:X.env.cells=iu n sc.names [])(h:Zey sc scope=ak):∃clos,iA scope X.env=cD clos/\LamIn X scope clos:=by
 unfold Zey at h;simp only[aB,kR,T0,aS,gC,decide_eq_false_iff_not]at h;obtain⟨h1,h2,h3,h4⟩:=h;have fr:∀x,(x,cf)∈scope.names->sc.names.lookup x=aa .cell:=λx hx=>by
  rcases(h4 _ hx).2.2 with z|z
  .exact T7 rfl z
  .exact z
 obtain⟨cs,e,c1,c2⟩:=WD λy hy z=>by
  obtain⟨x,k⟩:=y;cases z;obtain⟨c,q⟩:=L2.U8<|fr x hy;rw[hc,q];rfl
 have ap:=X7 sc.names n [] (by simp) (by simp)
 have lk:=λx c q=>c1 x c<|Yj q
 refine#[cs,e,#[?_,h2,h3,λy hy=>(h4 y hy).1,λx v=>?_,λx q=>?_,λx y c q1 q2=>?_],lk,λx q=>?_]
 .cases e:scope.kind<;>rw[e]at h1<;>first|rfl|cases h1
 .rcases v with v|v|v
  .exact T7 rfl (h4 _<|Yj v).2.1
  .exact T7 rfl (h4 _<|Yj v).1
  .exact v
 .obtain⟨c,q⟩:=c2 x (Yj q)
  exact QB q
 .have a1:=Yj (lk x c q1)
  have a2:=Yj<|lk y c q2;rw[hc]at a1 a2;exact um ap a1 a2
 .rw[hs]
  exact fr x<|Yj q
noncomputable abbrev rN(wd:Bool):List bi:=if wd then["_law_call","_law_error","e","_law_sorts","_law_words"]else["_law_call","_law_error","e","_law_sorts"]
noncomputable def Zff(wd:Bool)(P:Nat->fO):Expr:=if wd then .Constant (.str "none of these") 0 (P 24)else .UnaryOp .USub (.Constant (.int 1) 0<|P 23) (P 24)
noncomputable def Zdh(wd:Bool)(P:Nat->fO):List eJ:=if wd then[.Assign [.Name "_law_words"<|P 34] (.List [.Constant (.str "row") 0<|P 102,.Constant (.str "part") 0<|P 103,.Constant (.str "number") 0<|P 104,.Constant (.str "heads") 0<|P 105,.Constant (.str "not beside") 0<|P 106,.Constant (.str "not in") 0<|P 107,.Constant (.str "turn") 0<|P 108,.Constant (.str "lot") 0<|P 109,.Constant (.str "many") 0<|P 110,.Constant (.str "note") 0<|P 111]<|P 35)<|P 36,
   .Return (aa<|.Subscript (.Name "_law_words"<|P 37) (.Call (.Attribute (.Name "_law_sorts"<|P 27) "index"<|P 32) [.Constant (.bool ak) 0<|P 28] []<|P 33)<|P 38) (P 29)]
 else[.Return (aa<|.Call (.Attribute (.Name "_law_sorts"<|P 27) "index"<|P 32) [.Constant (.bool ak) 0<|P 28] []<|P 33)<|P 29]
def rbR(wd:Bool):TE:=if wd then tC (.str "none of these")else Sd.rbI
def fiR(K:al)(wd:Bool):TS:=if wd then Sd.ZdM K 3 4 else Sd.ZdK K 3
noncomputable def wU(wd:Bool)(P:Nat->fO)(sumE:Expr):List eJ:=
 let n:="_law_error"
 let s:="_law_sorts"
 let i:=λ(x:bi) (k:Nat)=>Expr.Call (.Name "isinstance"<|P k) [.Name n<|P<|k+1,.Name x<|P<|k+2] []<|P<|k+3
 .If (.Compare (.Name n<|P 0) [.Is] [.Constant .none 0<|P 1]<|P 2) [.Return (aa<|.Constant .none 0<|P 3)<|P 4] [] (P 5) ::
   .Assign [.Name s<|P 6] (.List [i "NoRow" 40,i "NoPart" 44,i "NoNumber" 48]<|P 7) (P 8) ::
   .Assign [.Name s<|P 9] (.BinOp (.Name s<|P 10) .Add (.List [i "NoHeads" 52,i "NotBeside" 56,i "NotIn" 60]<|P 11)<|P 12) (P 13) ::
   .Assign [.Name s<|P 14] (.BinOp (.Name s<|P 15) .Add (.List [i "NoTurn" 64,i "NoLot" 68,i "TooMany" 72]<|P 16)<|P 17) (P 18) ::
   .Expr (.Call (.Attribute (.Name s<|P 19) "append"<|P 30) [i "BadNote" 76] []<|P 31) (P 20) ::
   .If (.BoolOp .Or [.UnaryOp .Not (i "ValueError" 80)<|P 21,sumE]<|P 22) [.Return (aa<|Zff wd P)<|P 25] [] (P 26)::Zdh wd P
noncomputable def wT(P:Nat->fO):List eJ:=
 [.Assign [.Name "_law_error"<|P 90] (.Constant .none 0<|P 91)<|P 92,.Try [.Expr (.Call (.Name "_law_call"<|P 93) [] []<|P 94)<|P 95] [.ExceptHandler (aa<|.Name "SpaceError"<|P 96) (aa "e") [.Assign [.Name "_law_error"<|P 97] (.Name "e"<|P 98)<|P 99]<|P 100] [] []<|P 101]
noncomputable def wF(b:List eJ):Expr:=match b.getD 7 (.Pass #[0,0,0,0])with
 |.If (.BoolOp _ [_,e] _) _ _ _=>e
 |_=>.Constant .none 0 #[0,0,0,0]
noncomputable def jc(wd:Bool)(P:Nat->fO)(sc:dO):Bool:=
 (rN wd).all (λx=>af<|sc.names.lookup x=aa .local)&&(((["isinstance","ValueError"]:List bi)++Yx).all (λx=>af<|sc.names.lookup x=aa .globalImplicit)&&((P 30).endLine == (P 31).line&&(P 32).endLine == (P 33).line))
noncomputable abbrev cxR(wd:Bool)(P:bH)(w:bV)(K:al)(mg:bi->Option aq)(base:ck)(st:eJ)(f:aC)(cdv:aq)(A:cC)(outer:List Env)(s:aA)(H:Hp):Cx:=X3 (CX1 P w) P w K mg base (rN wd) "_law_refused" (Zh st) f cdv A outer s H E0
def Za7(wd:Bool)(P:bH)(w:bV)(K:al)(mg:bi->Option aq)(base:ck)(cl:List aC)(C:Calls)(d:Nat)(st:eJ)(f:aC):Prop:=
 ∀(cdv:aq)(A:cC)(outer:List Env)(s:aA)(H:Hp),Room (d+1) (A.deeper<|dL "_law_refused" (Zh st) s.heap.objs.size f cdv)->
  PSs (cxR wd P w K mg base st f cdv A outer s H) ((Zz st).drop 2) (WN K 1 3 cl (tB3 (cxR wd P w K mg base st f cdv A outer s H) Sd.nx<|Pv.Xj C<|ksum 3) (rbR wd)<|fiR K wd)
section
variable{wd:Bool}{P:bH}{w:bV}{K:al}{mg:bi->Option aq}{base:ck}{cl:List aC}{fs:List FR}{zs:List bi}{gs:List (bi×Gv)}{F:List Fn}{f:Nat->aC}{fd:Nat->cA}{d nR:Nat}{st:eJ}{Pp:Nat->fO}{C:Calls}
def vA(h:jc wd Pp sc=ak):(∀x∈rN wd,sc.names.lookup x=aa .local)/\(∀x∈(["isinstance","ValueError"]:List bi)++Yx,sc.names.lookup x=aa .globalImplicit)/\((Pp 30).endLine == (Pp 31).line)=ak/\((Pp 32).endLine == (Pp 33).line)=ak:=by
 unfold jc at h;simp only[aB,aS,T0]at h;exact#[h.1,h.2.1,h.2.2.1,h.2.2.2]
def ZeP(T:Top K mg fs zs gs f fd)(L:Cls K mg base cl)(hst:(Zz st).drop 2=wU wd Pp (wF<|Zz st))(hB:jc wd Pp (Zh st)=ak)(hsc:scB (rN wd) 1 (Zh st)=ak)(hz:zs.contains "isinstance" = ak)(hz2:zs.contains "ValueError" = ak)
  (hsum:∀(cdv:aq)(A:cC)(outer:List Env)(s:aA)(H:Hp),(A.deeper<|dL "_law_refused" (Zh st) s.heap.objs.size (f nR) cdv).units+7<dH->Bx (Sd.CT (cxR wd P w K mg base st (f nR) cdv A outer s H) Sd.nx C (wF<|Zz st)<|ksum 3)) :
  Za7 wd P w K mg base cl C d st (f nR):=by
 intro cdv A outer s H hr;obtain⟨b1,b2,b3,b4⟩:=vA hB;rw[hst];have gl:=λx hx=>b2 x hx
 have nd:=(VU hsc).nd;have hs:=(hsum cdv A outer s H<|Sd.hu7 hr).h;have hl:Sd.BSs (cxR wd P w K mg base st (f nR) cdv A outer s H) (Zdh wd Pp) (fiR K wd):=by
  cases wd with|false=>exact⟨Sd.Zfh (J:=λ_=>0) rfl (b1 _<|by simp[rN]) rfl rfl b4⟩|true=>exact Sd.Zfa (iw:=4) nd rfl (b1 _<|by simp[rN]) rfl rfl rfl (b1 _<|by simp[rN]) rfl rfl b4
 have hb:PE (cxR wd P w K mg base st (f nR) cdv A outer s H) (Zff wd Pp) (rbR wd):=by
  cases wd with|false=>exact Sd.ZfR (J:=λ_=>0)|true=>exact Gd
 have hir:(rN wd)[1]?=aa ("_law_error" : bi):=by cases wd<;>rfl
 have his:(rN wd)[3]?=aa ("_law_sorts" : bi):=by cases wd<;>rfl
 have mem:∀x∈[("_law_error" : bi),"_law_sorts"],x∈rN wd:=by cases wd<;>simp[rN]
 exact Sd.ZcH (cl:=cl) (ir:=1) (is:=3) (J:=λ_=>0) (P:=Pp) L.er nd hir (b1 _<|mem _<|by simp) his (b1 _<|mem _<|by simp) (gl _<|by simp) (T.no hz) (gl _<|by simp) (T.no hz2) (λx hx=>gl x<|by simp[hx]) rfl rfl rfl rfl hs b3 hb hl.h
def Zej(he:e<10)(v:σ'[3]?=aa (aa<|.ref q))(hl:σ'.length=(rN wd).length)(h:H' q=aa (.lst<|(Sd.ZW e).map .bl))(st:Sd.St3 K ρ S H')(k:∀H2,Sd.Fut ρ H' ρ H2->Sd.St3 K ρ S H2->Dn.rt (Sd.vR wd e) H2):fiR K wd Dn σ' H':=by
 cases wd with|false=>exact Sd.ZcQ he v h<|k H' (Sd.Fut.refl _ _) st|true=>exact Sd.Zcq he v (by rw[hl];decide) (by decide) h st k
def Ze4{X:Cx}{E:XK}{sc:dO}{n:Nat}{c Pt:aC}{i:Ev.E}{xw:Nat->Hp->Prop}{body:Expr}{scope:dO}{lp p pos:fO}
  (D:DefX X E)(hr:Room (d+2) X.A)(T:Top X.K X.mg fs zs gs f fd)(L:Cls X.K X.mg X.base cl)(RA:Za7 wd X.prog X.w X.K X.mg X.base cl C d st (f nR))(hx:fs[nR]?=aa #["_law_refused",st,rN wd,1])
  (hst:(Zz st).take 2=wT Pp)(hB:jc wd Pp (Zh st)=ak)(hsc:scB (rN wd) 1 (Zh st)=ak)
  (hP:∃ps,X.H₀ Pt=aa (.tbl ps))(CH:du X.base c Pt)(hBi:X.base.BuiltinsAt X.mg Pt)(hgP:bG≠Pt)
  (hfn:X.fn=λ_=>ak)(hcode:X.env.code=.ref c)(hs:X.env.scope=sc)(hc:X.env.cells=iu n sc.names [])(hq:X.env.qual++"<lambda>" = YY)(hl:Zey sc scope=ak)(hg:Gl X "_law_refused")
  (hbody:∀(g:aC)(c':aC)(clos:List (bi×aC))(A:cC)(outer:List Env)(s:aA)(H:Hp)(E1:XK),LamS scope clos->Room d (A.deeper<|fB YY scope s.heap.objs.size g (.ref c') clos)->(A.deeper<|fB YY scope s.heap.objs.size g (.ref c') clos).units+7<dH->Bx (Sd.CE (Sd.cxL X.prog X.w X.K X.mg X.base X.N scope g (.ref c') clos A outer s H E1) (xwE cl E1) C body i)) :
  Bx (Sd.CE X xw C (.Call (.Name "_law_refused" p) [.Lambda #[[],[],ae,[],[],ae,[]] body scope lp] [] pos)<|.refu wd i):=by
 obtain⟨b1,b2,b3,b4⟩:=vA hB;obtain⟨clos,hcl,LI⟩:=ZdZ hs hc hl;have hl0:0<cl.length:=by rw[L.er.len];decide
 have h0:=ag hl0;have hst:Zz st=wT Pp++(Zz st).drop 2:=by rw[<-hst,cY]
 have hic:(rN wd)[0]?=aa ("_law_call" : bi):=by cases wd<;>rfl
 have hie:(rN wd)[2]?=aa ("e" : bi):=by cases wd<;>rfl
 have hir:(rN wd)[1]?=aa ("_law_error" : bi):=by cases wd<;>rfl
 have hil:3<(rN wd).length:=by cases wd<;>decide
 have mem:∀x∈[("_law_call" : bi),"_law_error","e"],x∈rN wd:=by cases wd<;>simp[rN]
 have pr:(#["_law_refused",st,rN wd,1]:FR).ps=[("_law_call" : bi)]:=by cases wd<;>rfl
 have hbn:=T.b nR _ hx;rw[pr]at hbn;have hsc1:=VU hsc;have tk:(rN wd).take 1=[("_law_call" : bi)]:=by cases wd<;>rfl
 rw[tk]at hsc1;exact⟨Sd.ZbS (wd:=wd) (k:=d) (ic:=0) (ie:=2) (ir:=1) (is:=3) (Nr:=rN wd) (n:="e") (ts:=λY=>tB3 Y Sd.nx<|Pv.Xj C<|ksum 3) (fd:=fd nR) D (λx=>by rw[hfn]) hr L.er h0 hP hcode CH hBi hgP hq hcl rfl LI (λpm c' ctv=>rfl)
  (λg c' A outer s H E1 hr=>(hbody g c' clos A outer s H E1 LI.S hr<|Sd.hu7 hr).h) hg (T.m nR _ hx) (T.d nR _ hx).kp (T.d nR _ hx) hsc1 hbn rfl rfl rfl hst (VU hsc).nd hic rfl hie hir hil (by decide) (by decide) (by decide)
  (b1 _<|mem _<|by simp) (b1 _<|mem _<|by simp) (b1 _<|mem _<|by simp) (λ_ _ _=>b2 _<|by simp[Yx]) (L.er.nm 0 _ _ h0 rfl) rfl rfl rfl rfl rfl (λ_ _ _=>rfl) (λ_ _ _=>rfl) (λ_ _ _=>rfl) RA
  (λY ρ S e σ' H' q Q' hK he h1 h2 h3 st' hQ=>Sd.Zee he h1 h2 h3 (hK▸st') λH2 f2 s2=>hQ H2 f2<|hK▸s2)
  (λDn σ' ρ' H' S e q he v hl h st k=>Zej he v hl h st k)⟩
end
theorem jr{i j:Int}{a b:Nat}{p1 p2 pos:fO}:Bx (Sd.CE X xw C (.Dict [aa<|.Constant (.int i) a p1] [.Constant (.int j) b p2] pos)<|.dput1 (.c<|.int i)<|.c<|.int j):=⟨Sd.jr⟩
noncomputable def cjm:List Expr->Nat
 |[]=>0
 |.Constant (.str y) _ _::es=>y.length+cjm es
 |_::es=>64+cjm es
theorem xQ:Bx (Sd.CJ X xw C [] (cjm []) []):=⟨Sd.xQ⟩
theorem Zep(hr:Bx (Sd.CJ X xw C es (cjm es) is)):Bx (Sd.CJ X xw C (.Constant (.str y) j p::es) (cjm (.Constant (.str y) j p::es)) is):=⟨Sd.Zep hr.h⟩
theorem ZeL(he:Bx (Sd.CE X xw C e i))(hr:Bx (Sd.CJ X xw C es (cjm es) is)):Bx (Sd.CJ X xw C (.FormattedValue e (-1) ae p::es) (cjm (.FormattedValue e (-1) ae p::es)) (.fi i::is)):=⟨Sd.ZeL he.h hr.h⟩
def ZdN{c:Nat}{x:bi}{E:XK}{v1 v2:Expr}{rest:List Expr}{cl:List aC}{jp np cpos pos:fO}(D:DefX X E)(hc:X.calm=ak)(L:Cls X.K X.mg X.base cl)(hj:Bx (Sd.CJ X (xwE cl E) C (v1::v2::rest) (cjm (v1::v2::rest)) is))(hml:Nat.ble (cjm (v1::v2::rest)) 100000=ak)(hx:Sd.Yx[c+1]?=aa x)(hg:Gl X x)(hd:(x == ("__debug__" : bi))=ai)
  (he:az [.JoinedStr (v1::v2::rest) jp] X.env=(ai,bY (.JoinedStr (v1::v2::rest) jp) X.env)::az [] X.env)(hpl:(dz cpos<|az [] X.env).any (·.1)=ai) :
  Bx (Sd.CS X (xwE cl E) fr C ns (.Raise (aa<|.Call (.Name x np) [.JoinedStr (v1::v2::rest) jp] [] cpos) ae pos)<|.raise (c+1) is):=
 ZdC D hc L hj (cc (Nat.le_of_ble_eq_true hml)<|by decide) hx hg hd he hpl
def ZaL{fs:List FR}{zs:List bi}{gs:List (bi×Gv)}{F:List Fn}{tk:Nat}{sn:List Nat}{i:Nat}{r:FR}{a b:Nat}:BdX fs zs gs F tk sn i r #[a,b,[.asg []<|.c .non]]:=λP w K mg base cl f fd d T L h hn cdv A outer s H E hr hu=>
 ⟨by
  rintro pq s σ H D I ⟨ρ,H0,W,l,os,S,st,en,h⟩;cases os<;>exact False.elim h⟩
def Zfn(wd:Bool)(fs:List FR)(zs:List bi)(gs:List (bi×Gv))(F:List Fn)(tk nR:Nat)(st:eJ):Prop:=
 ∀(P:bH)(w:bV)(K:al)(mg:bi->Option aq)(base:ck)(f:Nat->aC)(fd:Nat->cA)(d:Nat),Top K mg fs zs gs f fd->(rN wd).Nodup->∀(cdv:aq)(A:cC)(outer:List Env)(s:aA)(H:Hp),(A.deeper<|dL "_law_refused" (Zh st) s.heap.objs.size (f nR) cdv).units+7<dH->Bx (Sd.CT (cxR wd P w K mg base st (f nR) cdv A outer s H) Sd.nx (Pv.Zm F tk d) (wF<|Zz st)<|ksum 3)
def BdR(wd:Bool)(fs:List FR)(zs:List bi)(gs:List (bi×Gv))(F:List Fn)(tk:Nat)(sn:List Nat)(nR:Nat)(st:eJ)(r:FR)(fn:Fn):Prop:=
 ∀(P:bH)(w:bV)(K:al)(mg:bi->Option aq)(base:ck)(cl:List aC)(f:Nat->aC)(fd:Nat->cA)(fL c Pt:aC)(d:Nat),Top K mg fs zs gs f fd->Cls K mg base cl->yn P w K mg base cl fs F tk sn f fd d->Za7 wd P w K mg base cl (Pv.Zm F tk d) d st (f nR)->r.N.Nodup->
  du base c Pt->base.BuiltinsAt mg Pt->bG≠Pt->
  ∀(A:cC)(outer:List Env)(s:aA)(H:Hp)(E:XK),(∃ps,H Pt=aa (.tbl ps))->Room (d+2) (A.deeper<|dL r.x (Zh r.st) s.heap.objs.size fL<|.ref c)->Room d (A.deeper<|dL r.x (Zh r.st) s.heap.objs.size fL<|.ref c)->(A.deeper<|dL r.x (Zh r.st) s.heap.objs.size fL<|.ref c).units+7<dH->
   Bx (Sd.CSs (X3 (CX1 P w) P w K mg base r.N r.x (Zh r.st) fL (.ref c) A outer s H E) (xwE cl E) ai (Pv.Zm F tk d) (Pv.muts fn.body) (Zz r.st) fn.body)
def ZdS{wd:Bool}{fs:List FR}{zs:List bi}{gs:List (bi×Gv)}{F:List Fn}{tk nR:Nat}{sn:List Nat}{st:eJ}{r:FR}{fn:Fn}{Pp:Nat->fO}(S:Zfn wd fs zs gs F tk nR st)(B:BdR wd fs zs gs F tk sn nR st r fn)(hst:(Zz st).drop 2=wU wd Pp (wF<|Zz st))(hB:jc wd Pp (Zh st)=ak)(hsc:scB (rN wd) 1 (Zh st)=ak)(hz:zs.contains "isinstance" = ak)(hz2:zs.contains "ValueError" = ak):BdL fs zs gs F tk sn r fn:=
 λP w K mg base cl f fd fL c Pt d T L h hn hC hBi hP A outer s H E hp hr hu=>
  B P w K mg base cl f fd fL c Pt d T L h (ZeP T L hst hB hsc hz hz2<|S P w K mg base f fd d T (VU hsc).nd) hn hC hBi hP A outer s H E hp hr (hr.mono<|by lia) hu
end Gn
namespace K42
open Ev
noncomputable def UJ:Fn:=#[2,2,
 [.ite (.cmp .lt (.v 1)<|.blt .len [(.v 0)]) [.ret<|.ix (.v 0)<|.v 1] [],
  .ret (.c<|.int 0)]]
noncomputable def JY:Fn:=#[2,3,
 [.asg [2]<|.call 0 [(.v 0),(.v 1)],
  .ite (.cmp .ge (.v 2)<|.bin .pow (.c<|.int 10)<|.c<|.int 18) [.ret<|.lst [(.bin .sub (.v 2)<|.bin .pow (.c<|.int 10)<|.c<|.int 18),(.c<|.bl ak)]] [],
  .ret (.lst [(.bin .mod (.v 2)<|.c<|.int 2147483647),(.c<|.bl ai)])]]
noncomputable def yq:Fn:=#[2,4,
 [.ite (.dix (.v 0) ak) [.asg [2]<|.bin .mod (.dix (.v 0) ai)<|.v 1,
  .dset 0 (.bin .fdiv (.dix (.v 0) ai)<|.v 1),
  .ret (.v 2)] [],
  .dset 0 (.bin .mod (.bin .add (.bin .mul (.dix (.v 0) ai)<|.c<|.int 48271)<|.c<|.int 29)<|.c<|.int 2147483647),
  .asg [3] (.bin .mod (.bin .add (.bin .add (.bin .mul (.dix (.v 0) ai)<|.dix (.v 0) ai)<|.bin .mul (.c<|.int 39373)<|.dix (.v 0) ai)<|.c<|.int 7)<|.c<|.int 2147483629),
  .asg [3] (.bin .mod (.bin .add (.bin .mul (.v 3)<|.v 3)<|.bin .mul (.c<|.int 16807)<|.v 3)<|.c<|.int 2147483587),
  .ret (.bin .mod (.bin .fdiv (.v 3)<|.c<|.int 8)<|.v 1)]]
noncomputable def YV:Fn:=#[2,3,
 [.asg [2]<|.lst [(.tup [(.c<|.int 2),(.tup [(.c<|.int 2),(.c<|.int 1)])]),(.tup [(.c<|.int 4),(.tup [(.c<|.int 2),(.c<|.int 2)])]),(.tup [(.c<|.int 8),(.tup [(.c<|.int 2),(.c<|.int 3)])]),(.tup [(.c<|.int 16),(.tup [(.c<|.int 2),(.c<|.int 4)])]),(.tup [(.c<|.int 32),(.tup [(.c<|.int 2),(.c<|.int 5)])]),(.tup [(.c<|.int 64),(.tup [(.c<|.int 2),(.c<|.int 6)])]),(.tup [(.c<|.int 3),(.tup [(.c<|.int 3),(.c<|.int 1)])]),(.tup [(.c<|.int 9),(.tup [(.c<|.int 3),(.c<|.int 2)])])],
  .asg [2] (.bin .add (.v 2)<|.lst [(.tup [(.c<|.int 27),(.tup [(.c<|.int 3),(.c<|.int 3)])]),(.tup [(.c<|.int 81),(.tup [(.c<|.int 3),(.c<|.int 4)])]),(.tup [(.c<|.int 5),(.tup [(.c<|.int 5),(.c<|.int 1)])]),(.tup [(.c<|.int 25),(.tup [(.c<|.int 5),(.c<|.int 2)])]),(.tup [(.c<|.int 125),(.tup [(.c<|.int 5),(.c<|.int 3)])])]),
  .asg [2] (.comp1 [1] 2 [0,1] (.of<|.v 2) [(.cmp .le (.v 0)<|.v 2)]<|.v 1),
  .ret (.ix (.v 2)<|.call 2 [(.v 0),(.blt .len [(.v 2)])])]]
noncomputable def Xs:Fn:=#[4,4,
 [.ret<|.blt .tuple [(.comp1 [3,0] 2 [0,1] (.zip (.v 1)<|.v 2) []<|.bin .mod (.bin .add (.v 0)<|.bin .mul (.v 2)<|.v 1)<|.ix (.v 3)<|.c<|.int 0)]]]
noncomputable def Yo:Fn:=#[2,8,
 [.asg [2]<|.blt .list [(.v 1)],
  .asg [3] (.lst []),
  .forr [4] (.rng1<|.ix (.v 0)<|.c<|.int 1) [.asg [5]<|.comp1 [4] 1 [0] (.of<|.v 2) [(.cmp .ne (.ix (.v 0)<|.v 1)<|.c<|.int 0)]<|.v 0,
  .ite (.cmp .ne (.v 5)<|.lst []) [.asg [6]<|.ix (.comp1 [5,4,0] 1 [0] (.rng1<|.ix (.v 0)<|.c<|.int 0) [(.cmp .eq (.bin .mod (.bin .mul (.v 0)<|.ix (.ix (.v 1)<|.c<|.int 0)<|.v 2)<|.ix (.v 3)<|.c<|.int 0)<|.c<|.int 1)]<|.v 0)<|.c<|.int 0,
  .asg [7] (.blt .tuple [(.comp1 [6,0] 1 [0] (.of<|.ix (.v 5)<|.c<|.int 0) []<|.bin .mod (.bin .mul (.v 1)<|.v 0)<|.ix (.v 2)<|.c<|.int 0)]),
  .asg [2] (.comp1 [0,7,4] 1 [0] (.of<|.v 2) []<|.call 4 [(.v 1),(.v 0),(.v 2),(.neg<|.ix (.v 0)<|.v 3)]),
  .asg [3] (.bin .add (.comp1 [0,7,4] 1 [0] (.of<|.v 3) []<|.call 4 [(.v 1),(.v 0),(.v 2),(.neg<|.ix (.v 0)<|.v 3)])<|.lst [(.v 7)])] []],
  .ret (.blt .tuple [(.v 3)])]]
noncomputable def YC:Fn:=#[2,2,
 [.ret<|.blt .tuple [(.comp1 [0,1] 1 [0] (.rng1<|.ix (.v 1)<|.c<|.int 1) []<|.call 2 [(.v 1),(.ix (.v 2)<|.c<|.int 0)])]]]
noncomputable def Xo:Fn:=#[2,3,
 [.asg [2]<|.call 2 [(.v 0),(.bin .add (.ix (.v 1)<|.c<|.int 1)<|.c<|.int 1)],
  .ret (.call 5 [(.v 1),(.comp1 [0,1] 1 [0] (.rng1<|.v 2) []<|.call 6 [(.v 1),(.v 2)])])]]
noncomputable def Xa:Fn:=#[3,3,
 [.ret<|.and (.isi (.v 0) [.int])<|.and (.not<|.isi (.v 0) [.bool])<|.chain .le .le (.v 1) (.v 0)<|.v 2]]
noncomputable def YS:Fn:=#[3,3,
 [.ite (.not<|.call 8 [(.v 0),(.v 1),(.v 2)]) [.raise 3 [(.fi<|.v 1),(.fi<|.v 2)]] []]]
noncomputable def YG:Fn:=#[2,6,
 [.asg [2,3]<|.v 0,
  .asg [4] (.lst [(.bin .add (.bin .mul (.tup [(.c<|.int 0)])<|.v 1)<|.tup [(.c<|.int 1)])]),
  .forr [5] (.rng2 (.bin .add (.v 1)<|.c<|.int 1)<|.v 3) [.asg [4]<|.comp2 [2] 2 [0] (.of<|.v 4) [] [1] (.rng1<|.v 2) []<|.bin .add (.v 0)<|.tup [(.v 1)]],
  .ret (.v 4)]]
noncomputable def XV:Fn:=#[2,2,
 [.ret<|.blt .all [(.comp1 [1] 1 [0] (.of<|.v 0) []<|.cmp .eq (.ix (.v 0)<|.v 1)<|.c<|.int 0)]]]
noncomputable def uw:Fn:=#[1,3,
 [.forr [1,2] (.enum<|.v 0) [.ite (.cmp .ne (.v 2)<|.c<|.int 0) [.ret<|.v 1] []],
  .ret (.c .non)]]
noncomputable def YF:Fn:=#[2,5,
 [.asg [2]<|.ite (.v 1) (.bin .add (.call 12 [(.ix (.v 1)<|.neg<|.c<|.int 1)])<|.c<|.int 1)<|.c<|.int 0,
  .asg [3] (.lst []),
  .forr [4] (.rrng (.v 2)<|.blt .len [(.v 0)]) [.ite (.call 11 [(.v 1),(.v 4)]) [.ex<|.mt .extend (.v 3) [(.ix (.v 0)<|.v 4)]] []],
  .ret (.v 3)]]
noncomputable def YI:Fn:=#[2,7,
 [.asg [2,3]<|.v 0,
  .ex (.call 9 [(.v 1),(.c<|.int 0),(.v 3)]),
  .asg [4] (.comp1 [0] 1 [0] (.rng1<|.v 3) []<|.call 10 [(.v 1),(.v 0)]),
  .asg [5] (.lst [(.tup [])]),
  .forr [6] (.rng1<|.v 1) [.asg [5]<|.comp2 [4] 2 [0] (.of<|.v 5) [] [1] (.of<|.call 13 [(.v 2),(.v 0)]) []<|.bin .add (.v 0)<|.tup [(.v 1)]],
  .ret (.v 5)]]
noncomputable def YB:Fn:=#[3,3,
 [.ret<|.cmp .eq (.bin .mod (.blt .sum [(.comp1 [] 2 [0,1] (.zip (.v 1)<|.v 2) []<|.bin .mul (.v 0)<|.v 1)])<|.v 0)<|.c<|.int 0]]
noncomputable def Uu:Fn:=#[2,4,
 [.asg [2,3]<|.v 0,
  .ret (.blt .all [(.comp2 [2,1] 2 [0] (.of<|.v 1) [] [1] (.of<|.v 3) []<|.call 15 [(.v 2),(.v 0),(.v 1)])])]]
noncomputable def XX:Fn:=#[2,2,
 [.ret<|.comp1 [0] 1 [0] (.of<|.call 14 [(.v 0),(.v 1)]) [(.call 16 [(.v 1),(.v 0)])]<|.v 0]]
noncomputable def VY:Fn:=#[1,1,
 [.ret<|.blt .all [(.comp1 [] 2 [0,1] (.zip (.v 0)<|.sl (.v 0) (aa<|.c<|.int 1) ae) []<|.cmp .lt (.v 0)<|.v 1)]]]
noncomputable def Xb:Fn:=#[3,3,
 [.ret<|.and (.cmp .eq (.ix (.ix (.v 0)<|.v 1)<|.v 2)<|.c<|.int 1)<|.call 11 [(.bin .add (.sl (.v 0) ae<|aa<|.v 1)<|.sl (.v 0) (aa<|.bin .add (.v 1)<|.c<|.int 1) ae),(.v 2)]]]
noncomputable def zT:Fn:=#[2,4,
 [.asg [2,3]<|.v 0,
  .ite (.or (.not<|.isi (.v 1) [.tuple])<|.cmp .ne (.blt .len [(.v 1)])<|.v 3) [.ret<|.c<|.bl ai] [],
  .ret (.blt .all [(.comp1 [2] 1 [0] (.of<|.v 1) []<|.call 8 [(.v 0),(.c<|.int 0),(.bin .sub (.v 1)<|.c<|.int 1)])])]]
noncomputable def Vs:Fn:=#[2,3,
 [.ite (.or (.not<|.isi (.v 1) [.tuple])<|.not<|.blt .all [(.comp1 [0] 1 [0] (.of<|.v 1) []<|.call 20 [(.v 1),(.v 0)])]) [.ret<|.c<|.bl ai] [],
  .asg [2] (.comp1 [] 1 [0] (.of<|.v 1) []<|.call 12 [(.v 0)]),
  .ite (.or (.cmp .inn (.c .non)<|.v 2)<|.not<|.call 18 [(.v 2)]) [.ret<|.c<|.bl ai] [],
  .ret (.blt .all [(.comp1 [1] 2 [0,1] (.enum<|.v 2) []<|.call 19 [(.v 2),(.v 0),(.v 1)])])]]
noncomputable def Wc:Fn:=#[2,2,
 [.ite (.not<|.call 21 [(.v 0),(.v 1)]) [.raise 2 []] []]]
noncomputable def XD:Fn:=#[2,2,
 [.ex<|.call 22 [(.v 0),(.v 1)],
  .ret (.call 16 [(.v 0),(.v 1)])]]
noncomputable def ZQ:Fn:=#[3,11,
 [.ite (.cmp .eq (.v 2)<|.tup []) [.ret<|.ix (.lst [(.lst []),(.c .non),(.tup [(.tup [])]),(.tup [(.bin .mul (.tup [(.c<|.int 0)])<|.ix (.v 1)<|.c<|.int 1)]),(.tup [(.bin .mul (.tup [(.c<|.int 1)])<|.bin .add (.ix (.v 1)<|.c<|.int 1)<|.c<|.int 1)]),.dnew,(.c<|.str<|bh "none")])<|.call 2 [(.v 0),(.c<|.int 7)]] [],
  .asg [3] (.call 2 [(.v 0),(.blt .len [(.v 2)])]),
  .asg [4] (.ix (.v 2)<|.v 3),
  .asg [5] (.call 2 [(.v 0),(.ix (.v 1)<|.c<|.int 1)]),
  .asg [6] (.ix (.lst [(.c<|.int 0),(.c<|.int 1),(.ix (.v 1)<|.c<|.int 0),(.bin .sub (.ix (.v 1)<|.c<|.int 0)<|.c<|.int 1),(.neg<|.c<|.int 1),(.c<|.bl ak),(.c .non),(.c<|.str<|bh "1"),(.tup [(.c<|.int 1)]),(.bin .pow (.c<|.int 10)<|.c<|.int 29)])<|.call 2 [(.v 0),(.c<|.int 10)]),
  .asg [7] (.lst [(.bin .add (.bin .add (.sl (.v 4) ae<|aa<|.v 5)<|.tup [(.v 6)])<|.sl (.v 4) (aa<|.bin .add (.v 5)<|.c<|.int 1) ae),(.bin .add (.bin .add (.sl (.v 4) ae<|aa<|.v 5)<|.tup [(.v 6)])<|.sl (.v 4) (aa<|.v 5) ae),(.bin .add (.sl (.v 4) ae<|aa<|.v 5)<|.sl (.v 4) (aa<|.bin .add (.v 5)<|.c<|.int 1) ae),(.blt .list [(.v 4)]),(.c .non)]),
  .asg [7] (.bin .add (.v 7)<|.lst [(.blt .tuple [(.comp1 [1] 1 [0] (.of<|.v 4) []<|.bin .mod (.bin .mul (.c<|.int 2)<|.v 0)<|.ix (.v 1)<|.c<|.int 0)]),(.bin .mul (.tup [(.c<|.int 0)])<|.ix (.v 1)<|.c<|.int 1),(.call 6 [(.v 0),(.v 1)])]),
  .asg [8] (.ix (.v 7)<|.ix (.lst [(.c<|.int 0),(.c<|.int 0),(.c<|.int 0),(.c<|.int 0),(.c<|.int 1),(.c<|.int 2),(.c<|.int 3),(.c<|.int 4),(.c<|.int 5),(.c<|.int 6),(.c<|.int 7)])<|.call 2 [(.v 0),(.c<|.int 11)]),
  .asg [9] (.call 2 [(.v 0),(.c<|.int 8)]),
  .ite (.cmp .lt (.v 9)<|.c<|.int 4) [.ret<|.bin .add (.bin .add (.sl (.v 2) ae<|aa<|.v 3)<|.tup [(.v 8)])<|.sl (.v 2) (aa<|.bin .add (.v 3)<|.c<|.int 1) ae] [],
  .ite (.cmp .lt (.v 9)<|.c<|.int 6) [.ret<|.bin .add (.bin .add (.sl (.v 2) ae<|aa<|.v 3)<|.tup [(.v 8)])<|.sl (.v 2) (aa<|.v 3) ae] [],
  .asg [10] (.lst [(.bin .add (.sl (.v 2) ae<|aa<|.v 3)<|.sl (.v 2) (aa<|.bin .add (.v 3)<|.c<|.int 1) ae),(.rev<|.v 2),(.blt .list [(.v 2)]),(.tup [(.v 2)]),(.bin .add (.v 2)<|.sl (.v 2) (aa<|.neg<|.c<|.int 1) ae),(.bin .add (.sl (.v 2) (aa<|.v 3) ae)<|.sl (.v 2) ae<|aa<|.v 3)]),
  .ret (.ix (.v 10)<|.call 2 [(.v 0),(.c<|.int 6)])]]
noncomputable def WE:Fn:=#[1,2,
 [.asg [1]<|.lst [(.c .non),(.c<|.bl ak),(.c<|.bl ai),(.neg<|.c<|.int 1),(.c<|.int 0),(.c<|.int 1),(.c<|.str<|bh ""),(.c<|.str<|bh "1"),(.tup []),(.lst []),(.tup [(.tup [])]),(.tup [(.tup [(.c<|.int 0)])]),(.tup [(.tup [(.c<|.int 1)])]),(.lst [(.tup [(.c<|.int 1)])]),(.dput1 (.c<|.int 0)<|.c<|.int 1),(.tup [(.c .non)]),(.bin .pow (.c<|.int 10)<|.c<|.int 29)],
  .ret (.ix (.bin .add (.v 1)<|.lst [(.tup [(.tup [(.c<|.int 1),(.c<|.int 0)]),(.tup [(.c<|.int 0),(.c<|.int 1)])]),(.tup [(.tup [(.c<|.bl ak)])]),(.tup [(.tup [(.tup [(.c<|.int 1)])])])])<|.call 2 [(.v 0),(.c<|.int 20)])]]
noncomputable def YU:Fn:=#[2,15,
 [.asg [2,3]<|.v 0,
  .asg [4] (.lst [(.tup [])]),
  .forr [5] (.rng1<|.v 3) [.asg [4]<|.bin .add (.v 4)<|.comp1 [5] 1 [0] (.of<|.v 4) []<|.bin .add (.v 0)<|.tup [(.v 1)]],
  .asg [6] (.lst []),
  .forr [7] (.of<|.comp1 [1] 1 [0] (.of<|.v 4) [(.cmp .eq (.blt .len [(.v 0)])<|.v 1)]<|.v 0) [.asg [8]<|.lst [(.tup [])],
  .forr [9] (.of<|.v 7) [.asg [10]<|.lst [(.tup [])],
  .forr [5] (.rng1<|.v 3) [.asg [11]<|.lst [(.c<|.int 0)],
  .ite (.cmp .eq (.v 5)<|.v 9) [.asg [11]<|.lst [(.c<|.int 1)]] [.ite (.and (.cmp .gt (.v 5)<|.v 9)<|.cmp .nin (.v 5)<|.v 7) [.asg [11]<|.blt .rangeL [(.v 2)]] []],
  .asg [12] (.lst []),
  .forr [13] (.of<|.v 10) [.ex<|.mt .extend (.v 12) [(.comp1 [13] 1 [0] (.of<|.v 11) []<|.bin .add (.v 1)<|.tup [(.v 0)])]],
  .mov 10 12],
  .asg [12] (.lst []),
  .forr [14] (.of<|.v 8) [.ex<|.mt .extend (.v 12) [(.comp1 [14] 1 [0] (.of<|.v 10) []<|.bin .add (.v 1)<|.tup [(.v 0)])]],
  .mov 8 12],
  .ex (.mt .extend (.v 6) [(.v 8)])],
  .ret (.blt .sorted [(.v 6)])]]
noncomputable def YX:Fn:=#[2,4,
 [.forr [2] (.of<|.v 1) [.forr [3] (.of<|.v 1) [.ite (.cmp .ne (.bin .mod (.blt .sum [(.comp1 [] 2 [0,1] (.zip (.v 2)<|.v 3) []<|.bin .mul (.v 0)<|.v 1)])<|.ix (.v 0)<|.c<|.int 0)<|.c<|.int 0) [.ret<|.c<|.bl ai] []]],
  .ret (.c<|.bl ak)]]
noncomputable def Xk:Fn:=#[2,2,
 [.ite (.isi (.v 1) [.tuple,.list]) [.ite (.or (.cmp .ne (.isi (.v 0) [.tuple])<|.isi (.v 1) [.tuple])<|.cmp .ne (.isi (.v 0) [.list])<|.isi (.v 1) [.list]) [.ret<|.c<|.bl ai] [],
  .ret (.and (.cmp .eq (.blt .len [(.v 0)])<|.blt .len [(.v 1)])<|.blt .all [(.comp1 [] 2 [0,1] (.zip (.v 0)<|.v 1) []<|.call 28 [(.v 0),(.v 1)])])] [],
  .ret (.and (.cmp .eq (.v 0)<|.v 1)<|.cmp .eq (.isi (.v 0) [.bool])<|.isi (.v 1) [.bool])]]
noncomputable def Y1:Fn:=#[1,1,
 [.ret<|.and (.isi (.v 0) [.int])<|.not<|.isi (.v 0) [.bool]]]
noncomputable def YD:Fn:=#[2,2,
 [.ite (.or (.not<|.isi (.v 1) [.tuple])<|.cmp .ne (.blt .len [(.v 1)])<|.ix (.v 0)<|.c<|.int 1) [.ret<|.c<|.bl ai] [],
  .ret (.blt .all [(.comp1 [0] 1 [0] (.of<|.v 1) []<|.and (.call 29 [(.v 0)])<|.chain .le .lt (.c<|.int 0) (.v 0)<|.ix (.v 1)<|.c<|.int 0)])]]
noncomputable def Yq:Fn:=#[2,3,
 [.ite (.not<|.isi (.v 1) [.tuple]) [.ret<|.c<|.bl ai] [],
  .forr [2] (.of<|.v 1) [.ite (.or (.not<|.call 30 [(.v 0),(.v 2)])<|.not<|.blt .any [(.v 2)]) [.ret<|.c<|.bl ai] []],
  .ret (.cmp .eq (.call 5 [(.v 0),(.v 1)])<|.v 1)]]
noncomputable def UN:Fn:=#[1,5,
 [.asg []<|.c .non]]
noncomputable def Zdc:Fn:=#[1,13,
 [.forr [1] (.rng1<|.blt .max2 [(.c<|.int 1),(.blt .min2 [(.blt .len [(.v 0)]),(.c<|.int 6)])]) [.cel 2 1 [(.v 0),(.v 1)]
  [.asg [3]<|.call 3 [(.v 2),(.ix (.lst [(.c<|.int 27),(.c<|.int 125)])<|.blt .toInt [(.cmp .eq (.v 1)<|.c<|.int 0)])],
  .asg [4] (.call 2 [(.v 2),(.bin .add (.ix (.v 3)<|.c<|.int 1)<|.c<|.int 1)]),
  .asg [5] (.comp1 [3] 1 [0] (.of<|.call 26 [(.v 3),(.v 4)]) [(.call 27 [(.v 1),(.v 0)])]<|.v 0),
  .forr [6] (.rng1<|.c<|.int 2) [.asg [7]<|.callF 17 [(.v 3),(.v 4)],
  .ite (.not<|.call 28 [(.v 7),(.v 5)]) [.ret<|.c<|.bl ai] [],
  .ex (.mt .append (.v 7) [(.tup [])])],
  .asg [8] (.call 7 [(.v 2),(.v 3)]),
  .forr [9] (.of<|.lst [(.v 8),(.sl (.v 8) ae<|aa<|.c<|.int 1),(.ix (.bin .add (.v 5)<|.lst [(.tup [])])<|.call 2 [(.v 2),(.bin .add (.blt .len [(.v 5)])<|.c<|.int 1)]),(.tup [])]) [.asg [7]<|.call 23 [(.v 3),(.v 9)],
  .ite (.or (.not<|.isi (.v 7) [.bool])<|.cmp .ne (.v 7)<|.call 27 [(.v 3),(.v 9)]) [.ret<|.c<|.bl ai] []],
  .forr [10] (.of<|.lst [(.call 24 [(.v 2),(.v 3),(.v 8)]),(.call 25 [(.v 2)])]) [.asg [11]<|.ix (.lst [(.c .non),(.c<|.str<|bh "part")])<|.blt .toInt [(.not<|.call 31 [(.v 3),(.v 10)])],
  .ite (.cmp .ne (.refu ak<|.call 23 [(.v 3),(.v 10)])<|.v 11) [.ret<|.c<|.bl ai] []],
  .asg [12] (.ix (.lst [(.bin .add (.ix (.v 3)<|.c<|.int 1)<|.c<|.int 1),(.neg<|.c<|.int 1),(.c<|.bl ak),(.c<|.bl ai),(.c .non),(.c<|.str<|bh "1"),(.tup [(.c<|.int 1)]),(.bin .pow (.c<|.int 10)<|.c<|.int 29),(.lst [(.c<|.int 0)]),(.neg<|.bin .pow (.c<|.int 10)<|.c<|.int 29)])<|.call 2 [(.v 2),(.c<|.int 10)]),
  .ite (.cmp .ne (.refu ak<|.call 17 [(.v 3),(.v 12)])<|.c<|.str<|bh "number") [.ret<|.c<|.bl ai] []]],
  .ret (.c<|.bl ak)]]
noncomputable def fns:List Fn:=[UJ,JY,yq,YV,Xs,Yo,YC,Xo,Xa,YS,YG,XV,uw,YF,YI,YB,Uu,XX,VY,Xb,zT,Vs,Wc,XD,ZQ,WE,YU,YX,Xk,Y1,YD,Yq,UN,Zdc]
noncomputable abbrev tk:Nat:=2
noncomputable abbrev sn:List Nat:=[1,17]
end K42
namespace K42
open PySem PySem.Spec PyProof.Rows L2 Wr Gn
open Sd (yo wo Zau ZaQ wq qI Zdf Zbb j4 wm vh Zbo ZaH vH QW Zbl qW jA yA vg v4 va vq Q3 yw vD wG wN Qg)
def top(i:Nat):eJ:=PySem.Challenge.pw_fewspaces_k42_bent_parts.main.body.getD i<|.Pass #[0,0,0,0]
abbrev r0:FR:=#["_law_cell_at",top 33,["_law_script","_law_k"],2]
abbrev r1:FR:=#["_law_state",top 34,["_law_script","_law_k","_law_cell"],2]
abbrev r2:FR:=#["_law_take",top 35,["_law_state_here","_law_many","_law_found","_law_mixed"],2]
abbrev r3:FR:=#["_law_space",top 36,["_law_state_here","_law_most","_law_some"],2]
abbrev r4:FR:=#["_law_plus",top 38,["_law_space_here","_law_one","_law_other","_law_often"],4]
abbrev r5:FR:=#["_law_reduced",top 39,["_law_space_here","_law_rows","_law_rest","_law_found","_law_place","_law_fit","_law_often","_law_one"],2]
abbrev r6:FR:=#["_law_row_of",top 37,["_law_state_here","_law_space_here"],2]
abbrev r7:FR:=#["_law_part",top 40,["_law_state_here","_law_space_here","_law_many"],2]
abbrev r8:FR:=#["is_whole",top 13,["thing","least","greatest"],3]
abbrev r9:FR:=#["need_whole",top 24,["thing","least","greatest"],3]
abbrev r10:FR:=#["rows_headed",top 26,["space","head","p","n","rows","place"],2]
abbrev r11:FR:=#["noughts_at",top 17,["rows","place"],2]
abbrev r12:FR:=#["head_of",top 15,["row","place","number"],1]
abbrev r13:FR:=#["rows_behind",top 27,["headed","part","first","rows","head"],2]
abbrev r14:FR:=#["all_parts",top 25,["space","size","p","n","headed","parts","many"],2]
abbrev r15:FR:=#["are_against",top 16,["p","row","other"],3]
abbrev r16:FR:=#["bends",top 30,["space","part","p","n"],2]
abbrev r17:FR:=#["bent_parts",top 31,["space","size"],2]
abbrev r18:FR:=#["is_rising",top 14,["things"],1]
abbrev r19:FR:=#["stands_alone",top 21,["rows","at","place"],3]
abbrev r20:FR:=#["is_row",top 19,["space","thing","p","n"],2]
abbrev r21:FR:=#["is_part",top 20,["space","thing","places"],2]
abbrev r22:FR:=#["need_part",top 22,["space","thing"],2]
abbrev r23:FR:=#["is_bent",top 29,["space","part"],2]
abbrev r24:FR:=#["_law_bent",top 46,["_law_state_here","_law_space_here","_law_part_here","_law_at","_law_row","_law_k","_law_odd_here","_law_rows","_law_one","_law_kind","_law_some"],3]
abbrev r25:FR:=#["_law_odd",top 45,["_law_state_here","_law_some"],1]
abbrev r26:FR:=#["_law_parts",top 41,["_law_space_here","_law_size","_law_p","_law_n","_law_lots","_law_place","_law_found","_law_some","_law_parts_here","_law_head","_law_lines","_law_numbers","_law_longer","_law_line","_law_part_here"],2]
abbrev r27:FR:=#["_law_bends",top 49,["_law_space_here","_law_part_here","_law_row","_law_other"],2]
abbrev r28:FR:=#["_law_same",top 47,["_law_found","_law_due"],2]
abbrev r29:FR:=#["_law_whole",top 42,["_law_thing"],1]
abbrev r30:FR:=#["_law_is_row",top 43,["_law_space_here","_law_thing"],2]
abbrev r31:FR:=#["_law_is_part",top 44,["_law_space_here","_law_thing","_law_row"],2]
abbrev r32:FR:=#["_law_refused",top 48,["_law_call","_law_error","e","_law_sorts","_law_words"],1]
abbrev r33:FR:=#["law",top 50,["_law_script","_law_k","_law_state_here","_law_space_here","_law_size","_law_due","_law_turn","_law_found","_law_part_here","_law_some","_law_thing","_law_word","_law_odd_here"],1]
noncomputable abbrev rL:FR:=r33
noncomputable abbrev fs:List FR:=[r0,r1,r2,r3,r4,r5,r6,r7,r8,r9,r10,r11,r12,r13,r14,r15,r16,r17,r18,r19,r20,r21,r22,r23,r24,r25,r26,r27,r28,r29,r30,r31,r32]
abbrev zs:List bi:=["all","any","bool","enumerate","int","isinstance","len","list","max","min","range","reversed","sorted","sum","tuple","zip","ValueError"]
abbrev gs:List (bi×Gv):=[]
abbrev n0:List bi:=["_law_rows","_law_space_here","_law_most"]
abbrev n1:List bi:=["_law_first","_law_second","_law_often","_law_space_here"]
abbrev n2:List bi:=["_law_row","_law_place"]
abbrev n3:List bi:=["_law_row","_law_space_here","_law_one","_law_place"]
abbrev n4:List bi:=["_law_number","_law_fit","_law_place","_law_space_here"]
abbrev n5:List bi:=["_law_number","_law_often","_law_space_here"]
abbrev n6:List bi:=["_law_place","_law_state_here","_law_space_here"]
abbrev n7:List bi:=["_law_turn","_law_state_here","_law_space_here"]
abbrev n8:List bi:=["row","number","p"]
abbrev n9:List bi:=["row","place"]
abbrev n10:List bi:=["head","space"]
abbrev n11:List bi:=["part","row","headed"]
abbrev n12:List bi:=["mine","its"]
abbrev n13:List bi:=["row","other","p","part"]
abbrev n14:List bi:=["part","space"]
abbrev n15:List bi:=["one","other"]
abbrev n16:List bi:=["number","p"]
abbrev n17:List bi:=["row"]
abbrev n18:List bi:=["at","place","thing"]
abbrev n19:List bi:=["row","space"]
abbrev n20:List bi:=["_law_number","_law_space_here"]
abbrev n21:List bi:=["_law_row","_law_size"]
abbrev n22:List bi:=["_law_line","_law_part_here"]
abbrev n23:List bi:=["_law_number","_law_line"]
abbrev n24:List bi:=["_law_first","_law_second"]
abbrev n25:List bi:=["_law_one","_law_other"]
abbrev n26:List bi:=["_law_one"]
abbrev n27:List bi:=["_law_part_here","_law_space_here"]
local macro_rules | `(tactic| walk_at "n") => `(tactic| first|exact ZH (N:=n0) (by kernel_rfl!)|exact ZH (N:=n1) (by kernel_rfl!)|exact ZH (N:=n2) (by kernel_rfl!)|exact ZH (N:=n3) (by kernel_rfl!)|exact ZH (N:=n4) (by kernel_rfl!)|exact ZH (N:=n5) (by kernel_rfl!)|exact ZH (N:=n6) (by kernel_rfl!)|exact ZH (N:=n7) (by kernel_rfl!)|exact ZH (N:=n8) (by kernel_rfl!)|exact ZH (N:=n9) (by kernel_rfl!)|exact ZH (N:=n10) (by kernel_rfl!)|exact ZH (N:=n11) (by kernel_rfl!)|exact ZH (N:=n12) (by kernel_rfl!)|exact ZH (N:=n13) (by kernel_rfl!)|exact ZH (N:=n14) (by kernel_rfl!)|exact ZH (N:=n15) (by kernel_rfl!)|exact ZH (N:=n16) (by kernel_rfl!)|exact ZH (N:=n17) (by kernel_rfl!)|exact ZH (N:=n18) (by kernel_rfl!)|exact ZH (N:=n19) (by kernel_rfl!)|exact ZH (N:=n20) (by kernel_rfl!)|exact ZH (N:=n21) (by kernel_rfl!)|exact ZH (N:=n22) (by kernel_rfl!)|exact ZH (N:=n23) (by kernel_rfl!)|exact ZH (N:=n24) (by kernel_rfl!)|exact ZH (N:=n25) (by kernel_rfl!)|exact ZH (N:=n26) (by kernel_rfl!)|exact ZH (N:=n27) (by kernel_rfl!))
local macro_rules | `(tactic| walk_at "e") => `(tactic| first|exact wo|exact yo|exact wm|exact j4|exact Zau|exact qI|exact vh|exact ZaQ|exact Zdf|exact Zbb|exact wq)
local macro_rules | `(tactic| walk_at "z") => `(tactic| exact Top.no (by assumption) (by kernel_rfl!))
local macro_rules | `(tactic| walk_at "v") => `(tactic| first|exact fS (by kernel_rfl!)|exact ei (by kernel_rfl!)|exact ei (fS (by kernel_rfl!))|exact ei (ei (by kernel_rfl!)))
noncomputable def pp(k:Nat):fO:=([#[203,7,203,17],#[203,21,203,25],#[203,7,203,25],#[204,15,204,19],#[204,8,204,19],#[203,4,204,19],#[205,4,205,14],#[205,17,205,114],#[205,4,205,114],#[206,4,206,14],#[206,17,206,27],#[206,30,206,129],#[206,17,206,129],#[206,4,206,129],#[207,4,207,14],#[207,17,207,27],#[207,30,207,126],#[207,17,207,126],#[207,4,207,126],#[208,4,208,14],#[208,4,208,54],#[209,7,209,45],#[209,7,209,101],#[0,0,0,0],#[210,15,210,30],#[210,8,210,30],#[209,4,210,30],#[212,22,212,32],#[212,39,212,43],#[212,4,212,45],#[208,4,208,21],#[208,4,208,54],#[212,22,212,38],#[212,22,212,44],#[211,4,211,14],#[211,17,211,106],#[211,4,211,106],#[212,11,212,21],#[212,11,212,45],#[0,0,0,0],#[205,18,205,28],#[205,29,205,39],#[205,41,205,46],#[205,18,205,47],#[205,49,205,59],#[205,60,205,70],#[205,72,205,78],#[205,49,205,79],#[205,81,205,91],#[205,92,205,102],#[205,104,205,112],#[205,81,205,113],#[206,31,206,41],#[206,42,206,52],#[206,54,206,61],#[206,31,206,62],#[206,64,206,74],#[206,75,206,85],#[206,87,206,96],#[206,64,206,97],#[206,99,206,109],#[206,110,206,120],#[206,122,206,127],#[206,99,206,128],#[207,31,207,41],#[207,42,207,52],#[207,54,207,60],#[207,31,207,61],#[207,63,207,73],#[207,74,207,84],#[207,86,207,91],#[207,63,207,92],#[207,94,207,104],#[207,105,207,115],#[207,117,207,124],#[207,94,207,125],#[208,22,208,32],#[208,33,208,43],#[208,45,208,52],#[208,22,208,53],#[209,11,209,21],#[209,22,209,32],#[209,34,209,44],#[209,11,209,45],#[0,0,0,0],#[0,0,0,0],#[0,0,0,0],#[0,0,0,0],#[0,0,0,0],#[0,0,0,0],#[198,4,198,14],#[198,17,198,21],#[198,4,198,21],#[200,8,200,17],#[200,8,200,19],#[200,8,200,19],#[201,11,201,21],#[202,8,202,18],#[202,21,202,22],#[202,8,202,22],#[201,4,202,22],#[199,4,202,22],#[211,18,211,23],#[211,25,211,31],#[211,33,211,41],#[211,43,211,50],#[211,52,211,64],#[211,66,211,74],#[211,76,211,82],#[211,84,211,89],#[211,91,211,97],#[211,99,211,105]]:List fO).getD k #[0,0,0,0]
def okl:OkX fs zs gs fns tk sn 0 fs (fns.take 33)/\Zfn ak fs zs gs fns tk 32 r32.st/\BdR ak fs zs gs fns tk sn 32 r32.st rL Zdc:=by
 refine#[?a,?b,?c]
 case' a=>repeat'(first|exact dk|refine#[#[rfl,rfl,by decide +kernel,?_],?_]|exact ZaL|intro P w K mg base cl f fd d T L h hn cdv A outer s H E hr hu)
 case' b=>intro P w K mg base f fd d T hn cdv A outer s H hu;unfold Sd.ksum
 case' c=>intro P w K mg base cl f fd fL c Pt d T L h RA hn hC hB hP A outer s H E hp hr hr0 hu
 all_goals
 (repeat'(first
 |(with_reducible show Bx (Sd.CSs _ _ _ _ _ _ [.cel _ _ _ _]));refine Zet Sd.xY (by assumption) (by assumption) (by assumption) ?_ ?_ (by assumption) (by kernel_rfl!) (by kernel_rfl!) (show _=_ from by kernel_rfl!) (by kernel_rfl!) (by walk_at "e") rfl (by kernel_rfl!) (by walk_at "v") (by first|exact .inl rfl|exact .inr<|by kernel_rfl!) (by kernel_rfl!) (by kernel_rfl!) (by kernel_rfl!)
 |(with_reducible show Bx (Sd.CSs _ _ _ _ _ _ _));first|exact yK|refine JV ?_ ?_
 |(with_reducible show Bx (Sd.CA _ _ _ _ _));first|exact xt|refine Gc ?_ ?_ (by walk_at "e")
 |(with_reducible show Bx (Sd.CF _ _ _ _<|.blt .list _));refine JG (x:="list") (f:=.list) yw (by walk_at "z") ?_ (he:=(by walk_at "e")) (hg:=show _=_ from by kernel_rfl!) (hv:=by kernel_rfl!) (hn:=by decide) (hdb:=by kernel_rfl!) (hpl:=by kernel_rfl!)
 |(with_reducible show Bx (Sd.CF _ _ _ _<|.blt .sorted _));refine Jz (x:="sorted") (f:=.sorted) (Qg<|by assumption) (by walk_at "z") ?_ (he:=(by walk_at "e")) (hg:=show _=_ from by kernel_rfl!) (hv:=by kernel_rfl!) (hn:=by decide) (hdb:=by kernel_rfl!) (hpl:=by kernel_rfl!)
 |(with_reducible show Bx (Sd.CF _ _ _ _<|.callF _ _));refine ZdA Sd.xY (by assumption) (by assumption) (by assumption) ?_ (by kernel_rfl!) (by kernel_rfl!) (show _=_ from by kernel_rfl!) (by kernel_rfl!) (by walk_at "e") rfl
 |(with_reducible show Bx (Sd.CF _ _ _ _<|.blt .rangeL _));refine Vw (by walk_at "z") (by walk_at "z") ?_ (hgt:=show _=_ from by kernel_rfl!) (hg:=show _=_ from by kernel_rfl!) (hc:=by kernel_rfl!) (hs:=by kernel_rfl!)
 |(with_reducible show Bx (Sd.CF _ _ _ _<|.lst _));refine yW ?_
 |(with_reducible show Bx (Sd.CF _ _ _ _<|.comp1 _ _ _ _ _ _));refine Qn rfl (by first|assumption|exact T6<|by kernel_rfl!) (by walk_at "n") ?_ (λ_ _ _ _=>#[?_,?_,?_]) (hs:=by intro _;kernel_rfl!)
 |(with_reducible show Bx (Sd.CF _ _ _ _<|.comp2 _ _ _ _ _ _ _ _ _));refine US rfl (by first|assumption|exact T6<|by kernel_rfl!) (by walk_at "n") ?_ (λ_ _ _ _=>#[?_,?_,?_,?_,?_,?_]) (hs:=by intro _;kernel_rfl!) (hs2:=by intro _ _;kernel_rfl!)
 |(with_reducible show Bx (Sd.CE _ _ _ _<|.dix _ ai));refine J7 ?_
 |(with_reducible show Bx (Sd.CE _ _ _ _<|.dix _ ak));refine Gp ?_
 |(with_reducible show Bx (Sd.CE _ _ _ _<|.v _));exact Zec _ (hN:=by kernel_rfl!) (hv:=by walk_at "v") (hd:=by kernel_rfl!) (hcd:=by kernel_rfl!)
 |(with_reducible show Bx (Sd.CE _ _ _ _<|.c _));first|exact xp|exact qO|exact yC|exact yz
 |(with_reducible show Bx (Sd.CE _ _ _ _<|.call _ _));first|refine Zbn Sd.xY (by assumption) (by assumption) (by assumption) ?_ (by kernel_rfl!) (show _=_ from by kernel_rfl!) (by kernel_rfl!) (by walk_at "e") rfl|refine Zeu (by assumption) (by assumption) (by assumption) ?_ (by kernel_rfl!) (show _=_ from by kernel_rfl!) (by kernel_rfl!) (by walk_at "e") rfl|refine Zbn Sd.ZfX (by assumption) (by assumption) (by assumption) ?_ (by kernel_rfl!) (show _=_ from by kernel_rfl!) (by kernel_rfl!) (by walk_at "e") rfl
 |(with_reducible show Bx (Sd.CE _ _ _ _<|.refu _ _));refine Ze4 (Pp:=pp) Sd.xY (by assumption) (by assumption) (by assumption) (by assumption) rfl (by kernel_rfl!) (by kernel_rfl!) (by kernel_rfl!) (by assumption) (by assumption) (by assumption) (by assumption) rfl rfl rfl rfl (by kernel_rfl!) (by kernel_rfl!) (show _=_ from by kernel_rfl!) λ_ _ _ _ _ _ _ _ _ _ _=>?_
 |(with_reducible show Bx (Sd.CE _ _ _ _ .dnew));exact J9
 |(with_reducible show Bx (Sd.CE _ _ _ _<|.dput1 _ _));exact jr
 |(with_reducible show Bx (Sd.CJ _ _ _ _ _ _));first|exact xQ|refine Zep ?_|refine ZeL ?_ ?_
 |(with_reducible show Bx (Sd.CE _ _ _ _<|.ix _ _));refine Zbq ?_ ?_ (hs:=by intro _ _;kernel_rfl!)
 |(with_reducible show Bx (Sd.CE _ _ _ _<|.blt .len _));refine Xm (x:="len") (f:=.len) vg (by walk_at "z") ?_ (he:=(by walk_at "e")) (hg:=show _=_ from by kernel_rfl!) (hv:=by kernel_rfl!) (hn:=by decide) (hdb:=by kernel_rfl!) (hpl:=by kernel_rfl!)
 |(with_reducible show Bx (Sd.CE _ _ _ _<|.blt .tuple _));refine Ui (x:="tuple") (f:=.tuple) Q3 (by walk_at "z") ?_ (he:=(by walk_at "e")) (hg:=show _=_ from by kernel_rfl!) (hv:=by kernel_rfl!) (hn:=by decide) (hdb:=by kernel_rfl!) (hpl:=by kernel_rfl!)
 |(with_reducible show Bx (Sd.CE _ _ _ _<|.blt .all _));refine Xm (x:="all") (f:=.all) (vD rfl) (by walk_at "z") ?_ (he:=(by walk_at "e")) (hg:=show _=_ from by kernel_rfl!) (hv:=by kernel_rfl!) (hn:=by decide) (hdb:=by kernel_rfl!) (hpl:=by kernel_rfl!)
 |(with_reducible show Bx (Sd.CE _ _ _ _<|.blt .any _));refine Xm (x:="any") (f:=.any) (wG rfl) (by walk_at "z") ?_ (he:=(by walk_at "e")) (hg:=show _=_ from by kernel_rfl!) (hv:=by kernel_rfl!) (hn:=by decide) (hdb:=by kernel_rfl!) (hpl:=by kernel_rfl!)
 |(with_reducible show Bx (Sd.CE _ _ _ _<|.blt .toInt _));refine Ui (x:="int") (f:=.toInt) vq (by walk_at "z") ?_ (he:=(by walk_at "e")) (hg:=show _=_ from by kernel_rfl!) (hv:=by kernel_rfl!) (hn:=by decide) (hdb:=by kernel_rfl!) (hpl:=by kernel_rfl!)
 |(with_reducible show Bx (Sd.CE _ _ _ _<|.blt .max2 _));refine Xm (x:="max") (f:=.max2) (v4 rfl) (by walk_at "z") ?_ (he:=(by walk_at "e")) (hg:=show _=_ from by kernel_rfl!) (hv:=by kernel_rfl!) (hn:=by decide) (hdb:=by kernel_rfl!) (hpl:=by kernel_rfl!)
 |(with_reducible show Bx (Sd.CE _ _ _ _<|.blt .min2 _));refine Xm (x:="min") (f:=.min2) (va rfl) (by walk_at "z") ?_ (he:=(by walk_at "e")) (hg:=show _=_ from by kernel_rfl!) (hv:=by kernel_rfl!) (hn:=by decide) (hdb:=by kernel_rfl!) (hpl:=by kernel_rfl!)
 |(with_reducible show Bx (Sd.CE _ _ _ _<|.blt .sum _));refine Xm (x:="sum") (f:=.sum) (wN rfl) (by walk_at "z") ?_ (he:=(by walk_at "e")) (hg:=show _=_ from by kernel_rfl!) (hv:=by kernel_rfl!) (hn:=by decide) (hdb:=by kernel_rfl!) (hpl:=by kernel_rfl!)
 |(with_reducible show Bx (Sd.CE _ _ _ _<|.bin _ _ _));first|refine yB ?_ ?_|refine xF ?_ ?_|refine wc ?_ ?_|refine xi ?_ ?_|refine J3 ?_ ?_|refine yT ?_ ?_
 |(with_reducible show Bx (Sd.CE _ _ _ _<|.tup _));refine yZ ?_
 |(with_reducible show Bx (Sd.CE _ _ _ _<|.neg _));refine yD ?_
 |(with_reducible show Bx (Sd.CE _ _ _ _<|.not _));refine yF ?_
 |(with_reducible show Bx (Sd.CE _ _ _ _<|.cmp .eq _ _));refine Xv (op:=.Eq) (o:=.eq) (Zbo<|by assumption) ?_ ?_ (hm:=by first|exact Z7 _|kernel_rfl!)
 |(with_reducible show Bx (Sd.CE _ _ _ _<|.cmp .ne _ _));refine Xv (op:=.NotEq) (o:=.ne) (ZaH<|by assumption) ?_ ?_ (hm:=by first|exact Z7 _|kernel_rfl!)
 |(with_reducible show Bx (Sd.CE _ _ _ _<|.cmp .lt _ _));refine Xv (op:=.Lt) (o:=.lt) (vH<|by assumption) ?_ ?_ (hm:=by first|exact Z7 _|kernel_rfl!)
 |(with_reducible show Bx (Sd.CE _ _ _ _<|.cmp .le _ _));refine Xv (op:=.LtE) (o:=.le) (QW<|by assumption) ?_ ?_ (hm:=by first|exact Z7 _|kernel_rfl!)
 |(with_reducible show Bx (Sd.CE _ _ _ _<|.cmp .gt _ _));refine Xv (op:=.Gt) (o:=.gt) (Zbl<|by assumption) ?_ ?_ (hm:=by first|exact Z7 _|kernel_rfl!)
 |(with_reducible show Bx (Sd.CE _ _ _ _<|.cmp .ge _ _));refine Xv (op:=.GtE) (o:=.ge) (qW<|by assumption) ?_ ?_ (hm:=by first|exact Z7 _|kernel_rfl!)
 |(with_reducible show Bx (Sd.CE _ _ _ _<|.cmp .inn _ _));refine Xv (op:=.In) (o:=.inn) (jA<|by assumption) ?_ ?_ (hm:=by first|exact Z7 _|kernel_rfl!)
 |(with_reducible show Bx (Sd.CE _ _ _ _<|.cmp .nin _ _));refine Xv (op:=.NotIn) (o:=.nin) (yA<|by assumption) ?_ ?_ (hm:=by first|exact Z7 _|kernel_rfl!)
 |(with_reducible show Bx (Sd.CE _ _ _ _<|.chain _ _ _ _ _));first|refine Vl (op:=.LtE) (o:=.le) (op':=.LtE) (o':=.le) (QW<|by assumption) (QW<|by assumption) ?_ ?_ ?_ (hm:=by kernel_rfl!)|refine Vl (op:=.LtE) (o:=.le) (op':=.Lt) (o':=.lt) (QW<|by assumption) (vH<|by assumption) ?_ ?_ ?_ (hm:=by kernel_rfl!)
 |(with_reducible show Bx (Sd.CE _ _ _ _<|.ite _ _ _));refine xq ?_ ?_ ?_
 |(with_reducible show Bx (Sd.CE _ _ _ _<|.sl _ _ _));refine jM ?_ ?_ ?_
 |(with_reducible show Bx (Sd.CE _ _ _ _<|.rev _));refine xW ?_ ?_
 |(with_reducible show Bx (Sd.CE _ _ _ _<|.isi _ _));first|refine VG (T:="int") (t:=.int) (by intro m h;cases h) (by walk_at "z") (by walk_at "z") ?_ (hg:=show _=_ from by kernel_rfl!) (hgT:=show _=_ from by kernel_rfl!) (hvT:=by kernel_rfl!) (hnT:=by decide) (hdT:=by kernel_rfl!) (hs1:=by kernel_rfl!) (hs2:=by kernel_rfl!) (hpl:=by kernel_rfl!)|refine VG (T:="bool") (t:=.bool) (by intro m h;cases h) (by walk_at "z") (by walk_at "z") ?_ (hg:=show _=_ from by kernel_rfl!) (hgT:=show _=_ from by kernel_rfl!) (hvT:=by kernel_rfl!) (hnT:=by decide) (hdT:=by kernel_rfl!) (hs1:=by kernel_rfl!) (hs2:=by kernel_rfl!) (hpl:=by kernel_rfl!)|refine VG (T:="tuple") (t:=.tuple) (by intro m h;cases h) (by walk_at "z") (by walk_at "z") ?_ (hg:=show _=_ from by kernel_rfl!) (hgT:=show _=_ from by kernel_rfl!) (hvT:=by kernel_rfl!) (hnT:=by decide) (hdT:=by kernel_rfl!) (hs1:=by kernel_rfl!) (hs2:=by kernel_rfl!) (hpl:=by kernel_rfl!)|refine VG (T:="list") (t:=.list) (by intro m h;cases h) (by walk_at "z") (by walk_at "z") ?_ (hg:=show _=_ from by kernel_rfl!) (hgT:=show _=_ from by kernel_rfl!) (hvT:=by kernel_rfl!) (hnT:=by decide) (hdT:=by kernel_rfl!) (hs1:=by kernel_rfl!) (hs2:=by kernel_rfl!) (hpl:=by kernel_rfl!)|refine JQ (T:="tuple") (U:="list") (t:=.tuple) (u:=.list) (by intro m h;cases h) (by intro m h;cases h) (by walk_at "z") (by walk_at "z") (by walk_at "z") ?_ (hg:=show _=_ from by kernel_rfl!) (hgT:=show _=_ from by kernel_rfl!) (hgU:=show _=_ from by kernel_rfl!) (hvT:=by kernel_rfl!) (hvU:=by kernel_rfl!) (hnT:=by decide) (hdT:=by kernel_rfl!) (hnU:=by decide) (hdU:=by kernel_rfl!) (hs0:=by kernel_rfl!) (hs00:=by kernel_rfl!) (hs1:=by kernel_rfl!) (hs2:=by kernel_rfl!) (hpl:=by kernel_rfl!)
 |(first|(with_reducible show Bx (Sd.CE _ _ _ _<|.callF _ _))|(with_reducible show Bx (Sd.CE _ _ _ _<|.blt .rangeL _))|(with_reducible show Bx (Sd.CE _ _ _ _<|.lst _))|(with_reducible show Bx (Sd.CE _ _ _ _<|.comp1 _ _ _ _ _ _))|(with_reducible show Bx (Sd.CE _ _ _ _<|.comp2 _ _ _ _ _ _ _ _ _))|(with_reducible show Bx (Sd.CE _ _ _ _<|.blt .list _))|(with_reducible show Bx (Sd.CE _ _ _ _<|.blt .sorted _)));refine Zft ?_
 |(with_reducible show Bx (Sd.CE _ _ _ _ _));refine xG ?_ ?_
 |(with_reducible show Bx (Sd.CO _ _ _ _ _));first|exact Gm|refine Go ?_
 |(with_reducible show Bx (Sd.CS _ _ _ _ _ _<|.raise _ _));first|exact ZfC Sd.xY rfl (by assumption) (by kernel_rfl!) (show _=_ from by kernel_rfl!) (by kernel_rfl!) (by walk_at "e") rfl|refine ZdN Sd.xY rfl (by assumption) ?_ (by kernel_rfl!) (by kernel_rfl!) (show _=_ from by kernel_rfl!) (by kernel_rfl!) rfl rfl
 |(with_reducible show Bx (Sd.CS _ _ _ _ _ _<|.ret _));first|refine xK ?_|refine JI ?_
 |(with_reducible show Bx (Sd.CS _ _ _ _ _ _<|.mov _ _));exact xb (by assumption) (hj:=by kernel_rfl!) (hv:=by walk_at "v") (hd:=by kernel_rfl!) (hcd:=by kernel_rfl!) (hi:=by kernel_rfl!) (hx:=by walk_at "v") (hf:=by first|exact .inl rfl|exact .inr<|by kernel_rfl!) (hs:=by kernel_rfl!) (hw:=by kernel_rfl!) (h1:=by kernel_rfl!)
 |(with_reducible show Bx (Sd.CS _ _ _ _ _ _<|.dset _ _));refine JZ ?_ (hN:=by kernel_rfl!) (hv:=by walk_at "v") (hd:=by kernel_rfl!) (hcd:=by kernel_rfl!) (ha:=by intro _;kernel_rfl!) (hs:=by kernel_rfl!) (hw:=by kernel_rfl!) (h1:=by kernel_rfl!)
 |(with_reducible show Bx (Sd.CS _ _ _ _ _ _<|.asg _<|.comp1 _ _ _ _ _ _));refine Qm rfl (by assumption) (by walk_at "n") ?_ (λ_ _ _ _=>#[?_,?_,?_]) (hsw:=by kernel_rfl!) (hy:=by kernel_rfl!) (hx:=by walk_at "v") (hf:=by first|exact .inl rfl|exact .inr<|by kernel_rfl!) (hs:=by intro _;kernel_rfl!)
 |(with_reducible show Bx (Sd.CS _ _ _ _ _ _<|.asg _<|.comp2 _ _ _ _ _ _ _ _ _));refine VA rfl (by assumption) (by walk_at "n") ?_ (λ_ _ _ _=>#[?_,?_,?_,?_,?_,?_]) (hsw:=by kernel_rfl!) (hy:=by kernel_rfl!) (hx:=by walk_at "v") (hf:=by first|exact .inl rfl|exact .inr<|by kernel_rfl!) (hs:=by intro _;kernel_rfl!) (hs2:=by intro _ _;kernel_rfl!)
 |(with_reducible show Bx (Sd.CS _ _ _ _ _ _<|.asg [_] _));first|refine JX ?_ ?_ (hf:=by kernel_rfl!) (hs:=by kernel_rfl!) (hw:=by kernel_rfl!) (h1:=by kernel_rfl!)|refine GE ?_ ?_ (hs:=by kernel_rfl!) (hw:=by kernel_rfl!) (h1:=by kernel_rfl!)
 |(with_reducible show Bx (Sd.CS _ _ _ _ _ _<|.asg _ _));refine yL ?_ ?_ (hs:=by kernel_rfl!) (hw:=by kernel_rfl!) (h1:=by kernel_rfl!)
 |(with_reducible show Bx (Sd.CS _ _ _ _ _ _<|.ex<|.mt .append _ _));refine VW ?_ (hN:=by kernel_rfl!) (hv:=by walk_at "v") (hd:=by kernel_rfl!) (hcd:=by kernel_rfl!) (hbase:=by kernel_rfl!) (hfew:=by kernel_rfl!) (hline:=by kernel_rfl!) (hs:=by kernel_rfl!) (hplain:=by kernel_rfl!) (hw:=by kernel_rfl!)
 |(with_reducible show Bx (Sd.CS _ _ _ _ _ _<|.ex<|.mt .extend _ _));refine VH ?_ (hN:=by kernel_rfl!) (hv:=by walk_at "v") (hd:=by kernel_rfl!) (hcd:=by kernel_rfl!) (hbase:=by kernel_rfl!) (hfew:=by kernel_rfl!) (hline:=by kernel_rfl!) (hs:=by kernel_rfl!) (hplain:=by kernel_rfl!) (hw:=by kernel_rfl!)
 |(with_reducible show Bx (Sd.CS _ _ _ _ _ _<|.ex _));refine GI ?_ (hs:=by kernel_rfl!)
 |(with_reducible show Bx (Sd.CS _ _ _ _ _ _<|.ite _ _ _));refine qR ?_ ?_ ?_
 |(with_reducible show Bx (Sd.CS _ _ _ _ _ _<|.forr _ _ _));refine x4 PassesOwn.leaving rfl ?_ ?_ ?_ (hs:=by intro _;kernel_rfl!)
 |(with_reducible show Bx (Sd.CT _ _ _ _<|.not _));refine xB ?_
 |(with_reducible show Bx (Sd.CT _ _ _ _<|.cmp .eq _ _));refine Xt (op:=.Eq) (o:=.eq) (Zbo<|by assumption) ?_ ?_ (hm:=by first|exact Z7 _|kernel_rfl!)
 |(with_reducible show Bx (Sd.CT _ _ _ _<|.cmp .ne _ _));refine Xt (op:=.NotEq) (o:=.ne) (ZaH<|by assumption) ?_ ?_ (hm:=by first|exact Z7 _|kernel_rfl!)
 |(with_reducible show Bx (Sd.CT _ _ _ _<|.cmp .lt _ _));refine Xt (op:=.Lt) (o:=.lt) (vH<|by assumption) ?_ ?_ (hm:=by first|exact Z7 _|kernel_rfl!)
 |(with_reducible show Bx (Sd.CT _ _ _ _<|.cmp .le _ _));refine Xt (op:=.LtE) (o:=.le) (QW<|by assumption) ?_ ?_ (hm:=by first|exact Z7 _|kernel_rfl!)
 |(with_reducible show Bx (Sd.CT _ _ _ _<|.cmp .gt _ _));refine Xt (op:=.Gt) (o:=.gt) (Zbl<|by assumption) ?_ ?_ (hm:=by first|exact Z7 _|kernel_rfl!)
 |(with_reducible show Bx (Sd.CT _ _ _ _<|.cmp .ge _ _));refine Xt (op:=.GtE) (o:=.ge) (qW<|by assumption) ?_ ?_ (hm:=by first|exact Z7 _|kernel_rfl!)
 |(with_reducible show Bx (Sd.CT _ _ _ _<|.cmp .inn _ _));refine Xt (op:=.In) (o:=.inn) (jA<|by assumption) ?_ ?_ (hm:=by first|exact Z7 _|kernel_rfl!)
 |(with_reducible show Bx (Sd.CT _ _ _ _<|.cmp .nin _ _));refine Xt (op:=.NotIn) (o:=.nin) (yA<|by assumption) ?_ ?_ (hm:=by first|exact Z7 _|kernel_rfl!)
 |(with_reducible show Bx (Sd.CT _ _ _ _<|.and _ _));refine ZaZ<|J1 ?_ ?_
 |(with_reducible show Bx (Sd.CT _ _ _ _<|.or _ _));refine ZaZ<|vU ?_ ?_
 |(with_reducible show Bx (Sd.CT _ _ _ _ _));refine xV ?_ (he:=by intro _;kernel_rfl!)
 |(with_reducible show Bx (Sd.CWh _ _ _ _ _));first|refine J1 ?_ ?_|refine GM ?_|refine vU ?_ ?_|refine x5 ?_
 |(with_reducible show Bx (Sd.CTs _ _ _ _ _));first|exact JK|refine JO ?_
 |(with_reducible show Bx (Sd.CW _ _ _ _ _ _));first|refine JC (by walk_at "z") ?_ (hg:=show _=_ from by kernel_rfl!) (hs:=by kernel_rfl!)|refine JH (by walk_at "z") ?_ (hg:=show _=_ from by kernel_rfl!) (hs:=by kernel_rfl!) (hs2:=by kernel_rfl!)|refine JP (by walk_at "z") (by walk_at "z") ?_ (hgr:=show _=_ from by kernel_rfl!) (hg:=show _=_ from by kernel_rfl!) (hs:=by kernel_rfl!) (hs2:=by kernel_rfl!)|refine yE (by walk_at "z") ?_ (hg:=show _=_ from by kernel_rfl!) (hs:=by kernel_rfl!) (hs2:=by kernel_rfl!)|refine GK (by walk_at "z") ?_ (hg:=show _=_ from by kernel_rfl!) (hs:=by kernel_rfl!)|refine jN ?_
 |(with_reducible show Bx (Sd.CG _ _ _));first|exact GJ (by first|assumption|exact T6<|by kernel_rfl!) (hi:=by kernel_rfl!) (hx:=by walk_at "v") (hf:=by first|exact .inl rfl|exact .inr<|by kernel_rfl!)|refine wa rfl ?_ (hn:=by kernel_rfl!) (hst:=by kernel_rfl!)
 |(with_reducible show Bx (Sd.CGs _ _ _));first|exact JM|refine UY (by first|assumption|exact T6<|by kernel_rfl!) ?_ (hi:=by kernel_rfl!) (hx:=by walk_at "v") (hf:=by first|exact .inl rfl|exact .inr<|by kernel_rfl!) (hs:=by kernel_rfl!)))
end K42
namespace La
variable{F:Type}[iX F]
noncomputable abbrev Vec(F:Type):=Nat->F
noncomputable abbrev Pt(F:Type):=List<|Nat×Vec F
noncomputable def pr:Pt F->Vec F->Vec F
 |[],_,_=>0
 |a::P,v,j=>v a.1*a.2 j+pr P v j
structure Rf(P:Pt F):Prop where
 inc:P.Pairwise λa b=>a.1<b.1
 low:∀a∈P,∀j,j<a.1->a.2 j=0
 one:∀a∈P,a.2 a.1=1
 zer:∀a∈P,∀b∈P,a.1≠b.1->b.2 a.1=0
def Mem(P:Pt F)(v:Vec F):Prop:=∀j,v j=pr P v j
theorem Zef(P:Pt F)(u v:Vec F)(c:F)(j:Nat):pr P (λj=>u j+c*v j) j=pr P u j+c*pr P v j:=by
 induction P with|nil=>show(0:F)=0+c*0;grind|cons a P ih=>show(u a.1+c*v a.1)*a.2 j+pr P _ j=(u a.1*a.2 j+pr P u j)+c*(v a.1*a.2 j+pr P v j);grind
theorem Gw(P:Pt F)(u v:Vec F)(c:F)(j:Nat):pr P (λj=>u j-c*v j) j=pr P u j-c*pr P v j:=by
 induction P with|nil=>show(0:F)=0-c*0;grind|cons a P ih=>show(u a.1-c*v a.1)*a.2 j+pr P _ j=(u a.1*a.2 j+pr P u j)-c*(v a.1*a.2 j+pr P v j);grind
def Zbe{P:Pt F}{u v:Vec F}(h:∀b∈P,u b.1=v b.1)(j:Nat):pr P u j=pr P v j:=by
 induction P with
 |nil=>rfl
 |cons a P ih=>
  show u a.1*a.2 j+pr P u j=v a.1*a.2 j+pr P v j;rw[h a<|ao ..,ih λb hb=>h b<|au _ hb]
theorem XM{P:Pt F}{v:Vec F}{j:Nat}(h:∀b∈P,v b.1*b.2 j=0):pr P v j=0:=by
 induction P with
 |nil=>rfl
 |cons a P ih=>
  show v a.1*a.2 j+pr P v j=0;rw[h a<|ao ..,ih λb hb=>h b<|au _ hb];grind
theorem vM{P:Pt F}{v:Vec F}{j:Nat}{a:Nat×Vec F}(inc:P.Pairwise λa b=>a.1<b.1)(ha:a∈P)(h:∀b∈P,b.1≠a.1->v b.1*b.2 j=0):pr P v j=v a.1*a.2 j:=by
 induction P with
 |nil=>cases ha
 |cons b P ih=>
  rw[aZ]at inc;show v b.1*b.2 j+pr P v j=_;rcases ay.mp ha with e|hm
  .subst e
   rw[XM λc hc=>h c (au _ hc) (by have:=inc.1 c hc;lia)];grind
  .rw[ih inc.2 hm λc hc=>h c<|au _ hc,h b (ao ..) (by have:=inc.1 a hm;lia)];grind
def Rf.tail{a:Nat×Vec F}{P:Pt F}(h:Rf (a::P)):Rf P:=
 #[(aZ.mp h.inc).2,λb hb=>h.low b<|au _ hb,λb hb=>h.one b<|au _ hb,λb hb c hc=>h.zer b (au _ hb) c<|au _ hc]
def Rf.nil:Rf ([]:Pt F):=#[gU,λ_ h=>(by cases h),λ_ h=>(by cases h),λ_ h=>(by cases h)]
theorem wP{P:Pt F}(h:Rf P){a:Nat×Vec F}(ha:a∈P)(v:Vec F):pr P v a.1=v a.1:=by
 rw[vM h.inc ha λb hb ne=>by rw[h.zer a ha b hb<|Ne.symm ne];grind,h.one a ha];grind
theorem Vf{P:Pt F}(h:Rf P){a:Nat×Vec F}(ha:a∈P):Mem P a.2:=λj=>by
 rw[vM h.inc ha λb hb ne=>by rw[h.zer b hb a ha ne];grind,h.one a ha];grind
def Vh(c:F)(hu:Mem P u)(hv:Mem P v):Mem P λj=>u j+c*v j:=λj=>by
 rw[Zef,<-hu j,<-hv j]
def Uy(c:F)(hu:Mem P u)(hv:Mem P v):Mem P λj=>u j-c*v j:=λj=>by
 rw[Gw,<-hu j,<-hv j]
theorem UH{P:Pt F}:Mem P λ_=>0:=λj=>(XM λb _=>by grind).symm
def jW{P:Pt F}(h:Rf P)(v:Vec F):Mem P (pr P v):=λj=>Zbe (λb hb=>(wP h hb v).symm) j
theorem ZaP{P:Pt F}{v:Vec F}(h:Mem P v)(z:∀b∈P,v b.1=0)(j:Nat):v j=0:=by
 rw[h j];exact XM λb hb=>by rw[z b hb];grind
theorem Zbs{P:Pt F}(h:Rf P){v:Vec F}(hv:Mem P v){k:Nat}(hk:v k≠0)(hl:∀j,j<k->v j=0):∃a∈P,a.1=k:=by
 have inc:=h.inc;have low:=h.low;have gen:∀Q:Pt F,Q.Pairwise (λa b=>a.1<b.1)->(∀a∈Q,∀j,j<a.1->a.2 j=0)->(∀j,v j=pr Q v j)->∃a∈Q,v a.1≠0/\∀j,j<a.1->v j=0:=by
  intro Q
  induction Q with
  |nil=>intro _ _ e;exact T7 (e k) hk
  |cons a Q ih=>
   intro inc low e;rw[aZ]at inc;by_cases c:v a.1=0
   .obtain⟨b,hb,r⟩:=ih inc.2 (λb hb=>low b<|au _ hb) λj=>by
     have:v j=v a.1*a.2 j+pr Q v j:=e j;rw[c]at this;grind
    exact#[b,au _ hb,r]
   .refine#[a,ao ..,c,λj hj=>?_]
    have e1:v j=v a.1*a.2 j+pr Q v j:=e j;have e2:pr Q v j=0:=XM λb hb=>by rw[low b (au _ hb) j (by have:=inc.1 b hb;lia)];grind
    rw[e1,e2,low a (ao ..) j hj];grind
 obtain⟨a,ha,h1,h2⟩:=gen P inc low hv;refine#[a,ha,?_];by_cases c:a.1<k
 .exact T7 (hl _ c) h1
 .by_cases c2:k<a.1
  .exact T7 (h2 _ c2) hk
  .lia
def Jl{P Q:Pt F}(one0:(1:F)≠0)(hP:Rf P)(hQ:Rf Q)(h:∀v,Mem P v->Mem Q v):∀a∈P,∃b∈Q,b.1=a.1:=λa ha=>
 Zbs hQ (h _<|Vf hP ha) (by rw[hP.one a ha];exact one0) (hP.low a ha)
theorem xg:∀{a b:List Nat},a.Pairwise (· < ·)->b.Pairwise (· < ·)->(∀x,x∈a↔x∈b)->a=b
 |[],[],_,_,_=>rfl
 |[],y::b,_,_,h=>by have:=(h y).mpr<|ao ..;cases this
 |x::a,[],_,_,h=>by have:=(h x).mp<|ao ..;cases this
 |x::a,y::b,ha,hb,h=>by
  rw[aZ]at ha hb;have e:x=y:=by
   rcases ay.mp ((h x).mp<|ao ..)with e|e
   .exact e
   .rcases ay.mp ((h y).mpr<|ao ..)with e'|e'
    .exact e'.symm
    .have:=hb.1 x e;have:=ha.1 y e';lia
  subst e;rw[xg ha.2 hb.2 λz=>?_]
  constructor
  .intro hz
   rcases ay.mp ((h z).mp<|au _ hz)with e|e
   .have:=ha.1 z hz;lia
   .exact e
  .intro hz
   rcases ay.mp ((h z).mpr<|au _ hz)with e|e
   .have:=hb.1 z hz;lia
   .exact e
def Rf.heads{P:Pt F}(h:Rf P):(P.map (·.1)).Pairwise (· < ·):=dF.mpr h.inc
theorem uniq{P Q:Pt F}(one0:(1:F)≠0)(hP:Rf P)(hQ:Rf Q)(h:∀v,Mem P v↔Mem Q v):P=Q:=by
 have eh:=xg hP.heads hQ.heads λx=>by
  constructor
  .intro hx
   obtain⟨a,ha,rfl⟩:=aT.mp hx;obtain⟨b,hb,e⟩:=Jl one0 hP hQ (λv=>(h v).mp) a ha
   exact aT.mpr #[b,hb,e]
  .intro hx
   obtain⟨a,ha,rfl⟩:=aT.mp hx;obtain⟨b,hb,e⟩:=Jl one0 hQ hP (λv=>(h v).mpr) a ha
   exact aT.mpr #[b,hb,e]
 have ev:∀a∈P,∀b∈Q,a.1=b.1->a.2=b.2:=by
  intro a ha b hb e;have hd:=Uy 1 (Vf hP ha)<|(h _).mpr<|Vf hQ hb
  funext j
  have:=ZaP hd (λc hc=>by
   have:c.1∈Q.map (·.1):=by rw[<-eh];exact aT.mpr #[c,hc,rfl]
   obtain⟨c',hc',ec⟩:=aT.mp this;by_cases z:c.1=a.1
   .rw[z,hP.one a ha,e,hQ.one b hb];grind
   .rw[hP.zer c hc a ha z,<-ec,hQ.zer c' hc' b hb<|by lia];grind) j
  grind
 clear h hP hQ
 induction P generalizing Q with
 |nil=>cases Q with|nil=>rfl|cons b Q=>cases eh
 |cons a P ih=>cases Q with
  |nil=>cases eh
  |cons b Q=>
   rw[aW,aW]at eh;injection eh with e1 e2
   have e3:=ev a (ao ..) b (ao ..) e1;rw[ih e2 λx hx y hy=>ev x (au _ hx) y<|au _ hy]
   rw[Prod.ext e1 e3]
noncomputable def ins(x:Nat×Vec F):Pt F->Pt F
 |[]=>[x]
 |y::P=>if x.1<y.1 then x::y::P else y::ins x P
theorem XH(x:Nat×Vec F):∀P:Pt F,(ins x P).Perm (x::P)
 |[]=>cK _
 |y::P=>by
  unfold ins;split
  .exact cK _
  .exact((XH x P).cons y).trans<|mw x y P
theorem wX(x:Nat×Vec F):∀{P:Pt F},P.Pairwise (λa b=>a.1<b.1)->(∀a∈P,a.1≠x.1)->(ins x P).Pairwise λa b=>a.1<b.1
 |[],_,_=>by exact fu ..
 |y::P,h,hn=>by
  have h':=aZ.mp h;unfold ins;split
  .rename_i c
   refine aZ.mpr #[λz hz=>?_,h]
   rcases ay.mp hz with rfl|hz
   .exact c
   .have:=h'.1 z hz;lia
  .rename_i c
   refine aZ.mpr #[λz hz=>?_,wX x h'.2 λa ha=>hn a<|au _ ha]
   rcases ay.mp ((XH x P).mem_iff.mp hz)with rfl|hz
   .have:=hn y<|ao ..;lia
   .exact h'.1 z hz
theorem je(x:Nat×Vec F)(v:Vec F)(j:Nat):∀P:Pt F,pr (ins x P) v j=v x.1*x.2 j+pr P v j
 |[]=>rfl
 |y::P=>by
  unfold ins;split
  .rfl
  .show v y.1*y.2 j+pr (ins x P) v j=v x.1*x.2 j+(v y.1*y.2 j+pr P v j)
   rw[je x v j P];grind
noncomputable def off(h:Nat)(l:Vec F)(a:Nat×Vec F):Nat×Vec F:=(a.1,λj=>a.2 j-a.2 h*l j)
noncomputable def wid(P:Pt F)(h:Nat)(l:Vec F):Pt F:=ins (h,l)<|P.map<|off h l
theorem jG(h:Nat)(l v:Vec F)(j:Nat):∀P:Pt F,pr (P.map<|off h l) v j=pr P v j-pr P v h*l j
 |[]=>by show(0:F)=0-0*l j;grind
 |a::P=>by
  show v a.1*(a.2 j-a.2 h*l j)+pr (P.map<|off h l) v j=(v a.1*a.2 j+pr P v j)-(v a.1*a.2 h+pr P v h)*l j;rw[jG h l v j P];grind
structure Lead(P:Pt F)(h:Nat)(l:Vec F):Prop where
 one:l h=1
 low:∀j,j<h->l j=0
 zer:∀a∈P,l a.1=0
def Lead.ne{P:Pt F}{h:Nat}{l:Vec F}(one0:(1:F)≠0)(L:Lead P h l){a:Nat×Vec F}(ha:a∈P):a.1≠h:=λe=>by
 have:=L.zer a ha;rw[e,L.one]at this;exact one0 this
theorem qE{P:Pt F}{h:Nat}{l:Vec F}(one0:(1:F)≠0)(hP:Rf P)(L:Lead P h l):Rf (wid P h l):=by
 have mem:∀{x},x∈wid P h l->x=(h,l)\/∃a∈P,x=off h l a:=λ{x} hx=>by
  rcases ay.mp ((XH _ _).mem_iff.mp hx)with e|e
  .exact .inl e
  .obtain⟨a,ha,e⟩:=aT.mp e
   exact .inr #[a,ha,e.symm]
 refine#[wX _ ?_ ?_,λx hx j hj=>?_,λx hx=>?_,λx hx y hy ne=>?_]
 .exact dF.mpr hP.inc
 .intro a ha
  obtain⟨b,hb,rfl⟩:=aT.mp ha;exact L.ne (a:=b) one0 hb
 .rcases mem hx with rfl|⟨a,ha,rfl⟩
  .exact L.low j hj
  .show a.2 j-a.2 h*l j=0
   rw[hP.low a ha j hj];by_cases c:h<a.1
   .rw[hP.low a ha h c];grind
   .have:j<a.1:=hj
    rw[L.low j (by have:=L.ne one0 ha;lia)];grind
 .rcases mem hx with rfl|⟨a,ha,rfl⟩
  .exact L.one
  .show a.2 a.1-a.2 h*l a.1=1
   rw[hP.one a ha,L.zer a ha];grind
 .rcases mem hx with rfl|⟨a,ha,rfl⟩
  .rcases mem hy with rfl|⟨b,hb,rfl⟩
   .exact T7 rfl ne
   .show b.2 h-b.2 h*l h=0
    rw[L.one];grind
  .rcases mem hy with rfl|⟨b,hb,rfl⟩
   .exact L.zer a ha
   .show b.2 a.1-b.2 h*l a.1=0
    rw[hP.zer a ha b hb ne,L.zer a ha];grind
def ZcS(P:Pt F)(h:Nat)(l:Vec F):(wid P h l).length=P.length+1:=by
 have:=(XH (h,l)<|P.map<|off h l).length_eq;rw[aJ,aw]at this;exact this
theorem ZcO{P:Pt F}{h:Nat}{l:Vec F}(hP:Rf P)(L:Lead P h l)(u:Vec F):Mem (wid P h l) u↔∃c,Mem P λj=>u j-c*l j:=by
 have e:∀j,pr (wid P h l) u j=u h*l j+(pr P u j-pr P u h*l j):=λj=>by
  unfold wid;rw[je,jG]
 have pl:∀j,pr P l j=0:=λj=>XM λb hb=>by rw[L.zer b hb];grind
 constructor
 .intro hu
  refine#[u h-pr P u h,λj=>?_]
  rw[Gw,pl];have:=hu j;rw[e j]at this;show u j-(u h-pr P u h)*l j=_
  grind
 .rintro ⟨c,hc⟩ j
  rw[e j];have h1:=hc j;have h2:u h-c*l h=_:=hc h;rw[Gw,pl]at h1 h2;rw[L.one]at h2
  grind
noncomputable def rest(P:Pt F)(v:Vec F):Vec F:=λj=>v j-pr P v j
theorem j7(hP:Rf P)(v:Vec F)(ha:a∈P):rest P v a.1=0:=by
 unfold rest;rw[wP hP ha];grind
theorem UZ{P:Pt F}{v:Vec F}:(∀j,rest P v j=0)↔Mem P v:=by
 constructor
 .intro h j;have:=h j;unfold rest at this;grind
 .intro h j;have:=h j;unfold rest;grind
theorem vT{P:Pt F}(hP:Rf P){v:Vec F}{h:Nat}{i:F}(hi:i*rest P v h=1)(hl:∀j,j<h->rest P v j=0):Lead P h λj=>i*rest P v j:=
 #[hi,λj hj=>by rw[hl j hj];grind,λa ha=>by rw[j7 hP v ha];grind]
theorem jH{P:Pt F}(hP:Rf P){v:Vec F}{h:Nat}{i:F}(hi:i*rest P v h=1)(hl:∀j,j<h->rest P v j=0)(u:Vec F) :
  Mem (wid P h λj=>i*rest P v j) u↔∃c,Mem P λj=>u j-c*v j:=by
 rw[ZcO hP<|vT hP hi hl]
 constructor
 .rintro ⟨c,hc⟩
  refine#[c*i,?_];have:=Uy (c*i) hc<|jW hP v;have e:(λj=>(u j-c*(i*rest P v j))-c*i*pr P v j)=λj=>u j-c*i*v j:=by funext j;unfold rest;grind
  rw[e]at this;exact this
 .rintro ⟨c,hc⟩
  refine#[c*rest P v h,?_];have:=Vh c hc<|jW hP v;have e:(λj=>(u j-c*v j)+c*pr P v j)=λj=>u j-c*rest P v h*(i*rest P v j):=by funext j;unfold rest at hi ⊢;grind
  rw[e]at this;exact this
theorem jm(hv:Mem P v)(u:Vec F):Mem P u↔∃c,Mem P λj=>u j-c*v j:=by
 constructor
 .intro h;exact#[0,by have:=Uy 0 h hv;exact this]
 .rintro ⟨c,hc⟩
  have:=Vh c hc hv;have e:(λj=>(u j-c*v j)+c*v j)=u:=by funext j;grind
  rw[e]at this;exact this
variable{F:Type}[iX F][DecidableEq F]
def Supp(n:Nat)(v:Vec F):Prop:=∀j,n<=j->v j=0
structure Pn(n:Nat)(P:Pt F):Prop where
 rf:Rf P
 lt:∀a∈P,a.1<n
 sp:∀a∈P,Supp n a.2
theorem Pn.nil{n:Nat}:Pn n ([]:Pt F):=#[Rf.nil,λ_ h=>(by cases h),λ_ h=>(by cases h)]
theorem Zcp(h:Pn n P)(v:Vec F):Supp n (pr P v):=λj hj=>XM λb hb=>by rw[h.sp b hb j hj];grind
noncomputable def hdV(n:Nat)(v:Vec F):Option Nat:=(aH n).find? λj=>af<|v j≠0
theorem jE{n:Nat}{v:Vec F}(hs:Supp n v)(h:hdV n v=ae)(j:Nat):v j=0:=by
 by_cases c:j<n
 .have:=List.find?_eq_none.mp h j (bu.mpr c)
  simpa using this
 .exact hs j (by lia)
def z6{n:Nat}{v:Vec F}{k:Nat}(h:hdV n v=aa k):k<n/\v k≠0/\∀j,j<k->v j=0:=by
 unfold hdV at h;rw[k8]at h;obtain⟨h1,h2,h3⟩:=h;refine#[bu.mp h2,by simpa using h1,λj hj=>?_]
 have:=h3 j hj
 simpa using this
def Za6{n:Nat}{v:Vec F}{k:Nat}(hk:k<n)(h1:v k≠0)(h2:∀j,j<k->v j=0):hdV n v=aa k:=by
 unfold hdV;rw[k8];exact#[by simpa using h1,bu.mpr hk,λj hj=>by simpa using h2 j hj]
structure Fld(inv:F->F):Prop where
 inv:∀a,a≠0->inv a*a=1
 one0:(1:F)≠0
section
variable{inv:F->F}{n:Nat}
noncomputable def more(inv:F->F)(n:Nat)(P:Pt F)(v:Vec F):Pt F:=match hdV n (rest P v)with
 |none=>P
 |some h=>wid P h λj=>inv (rest P v h)*rest P v j
structure Grow(n:Nat)(P:Pt F)(v:Vec F)(P':Pt F):Prop where
 pn:Pn n P'
 mem:∀u,Mem P' u↔∃c,Mem P λj=>u j-c*v j
 same:Mem P v->P'=P
 len:¬Mem P v->P'.length=P.length+1
theorem Zb2(f:Fld inv){P:Pt F}{v:Vec F}(hP:Pn n P)(hv:Supp n v):Grow n P v (more inv n P v):=by
 have hs:Supp n (rest P v):=λj hj=>by unfold rest;rw[hv j hj,Zcp hP v j hj];grind
 cases q:hdV n (rest P v)with
 |none=>
  have e:more inv n P v=P:=by unfold more;rw[q]
  have hm:=UZ.mp<|jE hs q;rw[e];exact#[hP,jm hm,λ_=>rfl,λh=>T7 hm h]
 |some h=>
  have e:more inv n P v=wid P h λj=>inv (rest P v h)*rest P v j:=by unfold more;rw[q]
  obtain⟨h1,h2,h3⟩:=z6 q;have hi:=f.inv _ h2;have L:=vT hP.rf hi h3;rw[e];refine#[#[qE f.one0 hP.rf L,λa ha=>?_,λa ha=>?_],jH hP.rf hi h3,λhm=>T7 (UZ.mpr hm h) h2,λ_=>ZcS ..]
  .rcases ay.mp ((XH _ _).mem_iff.mp ha)with e|e
   .rw[e];exact h1
   .obtain⟨b,hb,rfl⟩:=aT.mp e
    exact hP.lt b hb
  .rcases ay.mp ((XH _ _).mem_iff.mp ha)with e|e
   .rw[e];intro j hj
    show inv (rest P v h)*rest P v j=0;rw[hs j hj];grind
   .obtain⟨b,hb,rfl⟩:=aT.mp e
    intro j hj;show b.2 j-b.2 h*(inv (rest P v h)*rest P v j)=0;rw[hP.sp b hb j hj,hs j hj];grind
noncomputable def ZaJ(inv:F->F)(n:Nat)(P:Pt F)(vs:List (Vec F)):Pt F:=vs.foldl (more inv n) P
def Ze1(f:Fld inv){P Q:Pt F}(hP:Pn n P)(hQ:Pn n Q)(h:∀v,Mem P v↔Mem Q v):P=Q:=uniq f.one0 hP.rf hQ.rf h
noncomputable def Xd(P:Pt F)(j:Nat):Bool:=(P.map (·.1)).contains j
noncomputable def free(n:Nat)(P:Pt F):List Nat:=(aH n).filter λj=>!Xd P j
noncomputable def av:Pt F->Nat->Vec F
 |[],f,j=>if j=f then 1 else 0
 |a::P,f,j=>if j=a.1 then-a.2 f else av P f j
def XY :Xd P j=ak↔∃a∈P,a.1=j:=by
 unfold Xd;rw[io,aT]
def yR{P:Pt F}{f j:Nat}(h:Xd P j=ai):av P f j=if j=f then 1 else 0:=by
 induction P with
 |nil=>rfl
 |cons a P ih=>
  have h1:¬∃b∈a::P,b.1=j:=λz=>by rw[XY.mpr z]at h;cases h
  show(if j=a.1 then-a.2 f else av P f j)=_
  rw[T8 λz=>h1 #[a,ao ..,z.symm]]
  exact ih (by
   cases q:Xd P j with
   |false=>rfl
   |true=>obtain⟨b,hb,e⟩:=XY.mp q;exact T7 #[b,au _ hb,e] h1)
def Qp :j∈free n P↔j<n/\Xd P j=ai:=by
 unfold free;rw[db,bu];simp
theorem ZbV{P:Pt F}(hP:Pn n P){f:Nat}(hf:f<n):Supp n (av P f):=λj hj=>by
 rw[yR (by
  cases q:Xd P j with
  |false=>rfl
  |true=>obtain⟨b,hb,e⟩:=XY.mp q;have:=hP.lt b hb;lia),T8<|by lia]
noncomputable def perp(inv:F->F)(n:Nat)(P:Pt F):Pt F:=ZaJ inv n []<|(free n P).map<|av P
theorem ur(f:Fld inv){P:Pt F}(hP:Pn n P):(perp inv n P).length+P.length=n:=by
 have gen:∀(L:List Nat)(A:Pt F)(D:List Nat),Pn n A->(∀k∈L,k∈free n P)->L.Nodup->(∀k∈L,k∉D)->(∀u,Mem A u->∀k∈free n P,k∉D->u k=0)->(ZaJ inv n A<|L.map<|av P).length=A.length+L.length:=by
  intro L
  induction L with
  |nil=>intro A D _ _ _ _ _;rfl
  |cons k L ih=>
   intro A D hA hL hn hD hz;rw[dy]at hn;have hk:=hL k<|ao ..;have g:=Zb2 f hA<|ZbV hP (Qp.mp hk).1;have nm:¬Mem A (av P k):=λh=>by
    have:=hz _ h k hk<|hD k<|ao ..;rw[yR (Qp.mp hk).2,T9 rfl]at this;exact f.one0 this
   have:=ih (more inv n A<|av P k) (k::D) g.pn (λj hj=>hL j<|au _ hj) hn.2 (λj hj=>by
    rw[ay]
    rintro (z|z)
    .exact hn.1<|z▸hj
    .exact hD j (au _ hj) z) λu hu j hj hjD=>by
     obtain⟨c,hc⟩:=(g.mem u).mp hu;rw[ay]at hjD;have h1:=hz _ hc j hj λz=>hjD<|.inr z
     rw[yR (Qp.mp hj).2,T8 λz=>hjD<|.inl z]at h1
     grind
   show(ZaJ inv n (more inv n A<|av P k)<|L.map<|av P).length=_;rw[this,g.len nm,aJ];lia
 have h1:=gen (free n P) [] [] Pn.nil (λ_ h=>h) (mC _ oF) (λ_ _ h=>by cases h) λu hu k _ _=>hu k
 have h2:=xg (mC _ List.pairwise_lt_range) hP.rf.heads λx=>by
  rw[db,bu,XY,aT]
  constructor
  .rintro ⟨_,a,ha,e⟩;exact#[a,ha,e]
  .rintro ⟨a,ha,e⟩;exact#[by rw[<-e];exact hP.lt a ha,a,ha,e]
 have h3:((aH n).filter<|Xd P).length+(free n P).length=n:=by
  have gen:∀L:List Nat,(L.filter<|Xd P).length+(L.filter λj=>!Xd P j).length=L.length:=by
   intro L
   induction L with
   |nil=>rfl
   |cons k L ih=>
    rw[lD,lD];cases Xd P k<;>simp<;>lia
  have:=gen<|aH n;rw[br]at this;exact this
 rw[h2,aw]at h3;have h4:(perp inv n P).length=(free n P).length:=by
  have e:(perp inv n P).length=0+(free n P).length:=h1;lia
 lia
end
end La
namespace Rw
open La
open Ev (ltI Wu Ye)
section
variable{p:Nat}[NeZero p]
noncomputable def ph(p:Nat)[NeZero p](a:Int):Fin p:=Fin.ofNat p (a%p).toNat
theorem ppos:(0:Int)<p:=by have:=NeZero.ne p;lia
theorem Xz(a:Int):((ph p a).val:Int)=a%p:=by
 have h:=ppos (p:=p);have h0:=gD a (by lia:(p:Int)≠0)
 have h1:=fC a h;show((((a%p).toNat)%p:Nat):Int)=a%p;rw[Nat.mod_eq_of_lt<|by lia]
 lia
theorem Uq{x y:Fin p}(h:(x.val:Int)=y.val):x=y:=Fin.ext (by lia)
def qu(a b:Int):ph p (a+b)=ph p a+ph p b:=Uq (by
 rw[Xz,Fin.val_add];show(a+b)%p=(((ph p a).val+(ph p b).val:Nat):Int)%p;rw[oY,Xz,Xz,<-Int.add_emod])
def Zba(a b:Int):ph p (a*b)=ph p a*ph p b:=Uq (by
 rw[Xz,Fin.val_mul];show(a*b)%p=(((ph p a).val*(ph p b).val:Nat):Int)%p;rw[Int.natCast_mul,Xz,Xz,<-Int.mul_emod])
def Za3(a:Int):ph p (a%p)=ph p a:=Uq (by rw[Xz,Xz,Int.emod_emod])
def Ux:ph p 0=0:=Uq (by rw[Xz];simp)
theorem Zdy(a:Int):ph p (-a) = - ph p a:=by
 have h:ph p (-a+a)=ph p (-a)+ph p a:=qu _ _;rw[show -a+a=0 by lia,Ux]at h
 grind
def xk{a b:Int}(ha:0<=a/\a<p)(hb:0<=b/\b<p)(h:ph p a=ph p b):a=b:=by
 have:=congrArg (λx:Fin p=>(x.val:Int)) h
 simp only[Xz]at this;rw[kS ha.1 ha.2,kS hb.1 hb.2]at this;exact this
theorem Zfw{a:Int}(ha:0<=a/\a<p):ph p a=0↔a=0:=by
 constructor
 .intro h;exact xk ha #[by lia,ppos] (by rw[h,Ux])
 .rintro rfl;exact Ux
end
abbrev Row:=List Int
def Zr(p n:Nat)(r:Row):Prop:=r.length=n/\∀a∈r,0<=a/\a<(p:Int)
noncomputable def gt(r:Row)(j:Nat):Int:=r.getD j 0
def VZ{p n:Nat}(h0:(0:Int)<p){r:Row}(h:Zr p n r)(j:Nat):0<=gt r j/\gt r j<p:=by
 unfold gt;rw[aD];cases q:r[j]? with|none=>exact#[Int.le_refl _,h0]|some a=>exact h.2 a<|cM q
def wb(h:r.length<=j):gt r j=0:=by unfold gt;rw[aD,dq h];rfl
def Zbp(hl:r.length=s.length)(h:∀j,gt r j=gt s j):r=s:=by
 apply ly hl;intro j h1 h2;have:=h j;unfold gt at this;rw[aD,aD,ag h1,ag h2]at this;exact this
noncomputable def hdI:Row->Option Nat
 |[]=>ae
 |a::r=>if a≠0 then aa 0 else(hdI r).map (· + 1)
theorem Xf:∀{r:Row}{k:Nat},hdI r=aa k->gt r k≠0/\k<r.length/\∀j,j<k->gt r j=0
 |[],k,h=>by cases h
 |a::r,k,h=>by
  unfold hdI at h;by_cases c:a≠0
  .rw[T9 c]at h;cases h;exact#[c,by simp,λj hj=>by lia]
  .rw[T8 c]at h
   cases q:hdI r with
   |none=>rw[q]at h;cases h
   |some m=>
    rw[q]at h;have e:m+1=k:=am h;subst e;obtain⟨h1,h2,h3⟩:=Xf q;refine#[h1,by simp;lia,λj hj=>?_]
    cases j with|zero=>exact nZ.mp c|succ j=>exact h3 j (by lia)
theorem Wd:∀{r:Row},hdI r=ae->∀j,gt r j=0
 |[],_,j=>wb<|dQ _
 |a::r,h,j=>by
  unfold hdI at h;by_cases c:a≠0
  .rw[T9 c]at h;cases h
  .rw[T8 c]at h
   have h':=Option.map_eq_none_iff.mp h;cases j with|zero=>exact nZ.mp c|succ j=>exact Wd h' j
def Zel(h1:gt r k≠0)(h2:∀j,j<k->gt r j=0):hdI r=aa k:=by
 cases q:hdI r with
 |none=>exact T7 (Wd q k) h1
 |some m=>
  obtain⟨a,_,c⟩:=Xf q;have:¬k<m:=λz=>h1<|c k z
  have:¬m<k:=λz=>a<|h2 m z
  rw[show m=k by lia]
section
variable{p n:Nat}[NeZero p]
noncomputable def toV(p:Nat)[NeZero p](r:Row):Vec (Fin p):=λj=>ph p<|gt r j
def Zcm{r s:Row}(hr:Zr p n r)(hs:Zr p n s)(h:toV p r=toV p s):r=s:=
 Zbp (by rw[hr.1,hs.1]) λj=>xk (VZ ppos hr j) (VZ ppos hs j)<|congrFun h j
def zI(hr:Zr p n r):Supp n (toV p r):=λj hj=>by unfold toV;rw[wb (by rw[hr.1];exact hj),Ux]
def YM{r:Row}(hr:Zr p n r){j:Nat}:toV p r j=0↔gt r j=0:=Zfw<|VZ ppos hr j
def Zd8(hr:Zr p n r):hdV n (toV p r)=hdI r:=by
 cases q:hdI r with
 |none=>
  cases q2:hdV n (toV p r)with|none=>rfl|some k=>exact T7 ((YM hr).mpr<|Wd q k) (z6 q2).2.1
 |some k=>
  obtain⟨a,b,c⟩:=Xf q;exact Za6 (by rw[<-hr.1];exact b) (λz=>a<|(YM hr).mp z) λj hj=>(YM hr).mpr<|c j hj
noncomputable def XE(p:Nat)(r o:Row)(k:Int):Row:=eW (λa b=>(a+k*b)%p) r o
noncomputable def X5(p:Nat)(r:Row)(k:Int):Row:=r.map λa=>k*a%p
theorem ZdH(hl:r.length=o.length)(h0:f 0 0=0)(j:Nat):gt (eW f r o) j=f (gt r j) (gt o j):=by
 unfold gt;simp only[aD];rw[List.getElem?_zipWith];by_cases c:j<r.length
 .rw[ag c,ag<|by lia];rfl
 .rw[dq (by lia),dq<|by lia];exact h0.symm
theorem Xe(hr:Zr p n r)(ho:Zr p n o):Zr p n (XE p r o k):=by
 refine#[by unfold XE;rw[iY,hr.1,ho.1];simp,λa ha=>?_]
 unfold XE at ha;rw[<-im]at ha;obtain⟨⟨x,y⟩,_,rfl⟩:=aT.mp ha;exact#[gD _ (by have:=ppos (p:=p);lia),fC _ ppos]
def Gj(hr:Zr p n r)(ho:Zr p n o)(j:Nat):gt (XE p r o k) j=(gt r j+k*gt o j)%p:=by
 unfold XE;rw[ZdH (by rw[hr.1,ho.1])<|by simp]
def Zad(hr:Zr p n r)(ho:Zr p n o):toV p (XE p r o k)=λj=>toV p r j+ph p k*toV p o j:=by
 funext j
 unfold toV;rw[Gj hr ho,Za3,qu,Zba]
def UV(j:Nat):gt (X5 p r k) j=k*gt r j%p:=by
 unfold X5 gt;simp only[aD,aR];cases r[j]?<;>simp
theorem Wn{r:Row}{k:Int}(hr:Zr p n r):Zr p n (X5 p r k):=by
 refine#[by unfold X5;rw[aw,hr.1],λa ha=>?_]
 obtain⟨x,_,rfl⟩:=aT.mp ha;exact#[gD _ (by have:=ppos (p:=p);lia),fC _ ppos]
def uc :toV p (X5 p r k)=λj=>ph p k*toV p r j:=by
 funext j
 unfold toV;rw[UV,Za3,Zba]
noncomputable def toP(p:Nat)[NeZero p](P:List Row):Pt (Fin p):=P.map λr=>((hdI r).getD 0,toV p r)
structure pZ(p n:Nat)[NeZero p](P:List Row):Prop where
 row:∀r∈P,Zr p n r
 pn:Pn n (toP p P)
theorem pZ.nil:pZ p n []:=#[λ_ h=>(by cases h),Pn.nil]
def YE(h:r∈P):((hdI r).getD 0,toV p r)∈toP p P:=aT.mpr #[r,h,rfl]
def pZ.head(one0:(1:Fin p)≠0)(h:pZ p n P)(hr:r∈P):∃k,hdI r=aa k/\k<n/\toV p r k=1:=by
 have h1:=h.pn.rf.one _<|YE hr;cases q:hdI r with
 |none=>
  rw[q]at h1;have:toV p r 0=1:=h1;have z:=(YM<|h.row r hr).mpr<|Wd q 0;rw[z]at this;exact T7 this.symm one0
 |some k=>
  rw[q]at h1;have h2:=h.pn.lt _<|YE hr;rw[q]at h2;exact#[k,rfl,h2,h1]
def ZbT(hP:∀r∈P,Zr p n r)(hQ:∀r∈Q,Zr p n r)(h:toP p P=toP p Q):P=Q:=by
 induction P generalizing Q with
 |nil=>cases Q with|nil=>rfl|cons b Q=>cases h
 |cons a P ih=>cases Q with
  |nil=>cases h
  |cons b Q=>
   have h':=h;injection h' with e1 e2
   have e3:=congrArg Prod.snd e1;rw[Zcm (hP a<|ao ..) (hQ b<|ao ..) e3,ih (λr hr=>hP r<|au _ hr) (λr hr=>hQ r<|au _ hr) e2]
def ZbU(P:List Row):(toP p P).length=P.length:=by unfold toP;rw[aw]
noncomputable def clr(p:Nat)(r o:Row)(h:Nat):Row:=XE p r o<|-(gt r h)
noncomputable def UR(p:Nat)(P:List Row)(r:Row):Row:=P.foldl (λs o=>clr p s o<|(hdI o).getD 0) r
theorem Vd(hr:Zr p n r)(ho:Zr p n o):toV p (clr p r o h)=λj=>toV p r j-toV p r h*toV p o j:=by
 unfold clr;rw[Zad hr ho]
 funext j
 rw[Zdy];show toV p r j+(- toV p r h)*toV p o j=_
 grind
theorem vt:∀{P:List Row}{r:Row},(∀o∈P,Zr p n o)->Rf (toP p P)->Zr p n r->Zr p n (UR p P r)/\toV p (UR p P r)=rest (toP p P) (toV p r)
 |[],r,_,_,hr=>#[hr,by funext j;show toV p r j=toV p r j-0;grind]
 |o::P,r,hP,hf,hr=>by
  have ho:=hP o<|ao ..;have hc:Zr p n (clr p r o<|(hdI o).getD 0):=Xe hr ho;obtain⟨a,b⟩:=vt (λo h=>hP o<|au _ h) hf.tail hc
  refine#[a,?_];show toV p (UR p P<|clr p r o<|(hdI o).getD 0)=_;rw[b,Vd hr ho];have z:∀j,pr (toP p P) (toV p o) j=0:=λj=>XM λc hc=>by
   have:toV p o c.1=0:=by
    have h1:c∈toP p (o::P):=au _ hc;have h2:((hdI o).getD 0,toV p o)∈toP p (o::P):=ao ..;have h3:=(aZ.mp hf.inc).1 c hc;exact hf.zer c h1 _ h2 (by simp only at h3 ⊢;lia)
   rw[this];grind
  funext j
  unfold rest;rw[Gw,z];show toV p r j-toV p r ((hdI o).getD 0)*toV p o j-(pr (toP p P) (toV p r) j-_*0)=toV p r j-(toV p r ((hdI o).getD 0)*toV p o j+pr (toP p P) (toV p r) j)
  grind
def jj(hP:pZ p n P)(hr:Zr p n r):hdI (UR p P r)=ae↔Mem (toP p P) (toV p r):=by
 obtain⟨a,b⟩:=vt hP.row hP.pn.rf hr;rw[<-UZ,<-b]
 constructor
 .intro h j;exact(YM a).mpr<|Wd h j
 .intro h
  cases q:hdI (UR p P r)with|none=>rfl|some k=>exact T7 ((YM a).mp<|h k) (Xf q).1
end
noncomputable def Xh(p:Nat)(a:Int):Int:=if a=1 then 1 else if p=3 then 2 else if a=2 then 3 else if a=3 then 2 else 4
noncomputable def ZbL(p:Nat)[NeZero p](x:Fin p):Fin p:=ph p<|Xh p x.val
class Base(p:Nat):Prop where
 b:p=2\/p=3\/p=5
instance(p:Nat)[h:Base p]:NeZero p:=⟨by rcases h.b with e|e|e<;>lia⟩
section
variable{p n:Nat}[Base p]
def fld2:∀a:Fin 2,a≠0->ZbL 2 a*a=1:=by decide
def fld3:∀a:Fin 3,a≠0->ZbL 3 a*a=1:=by decide
def fld5:∀a:Fin 5,a≠0->ZbL 5 a*a=1:=by decide
def one2:(1:Fin 2)≠0:=by decide
def one3:(1:Fin 3)≠0:=by decide
def one5:(1:Fin 5)≠0:=by decide
def fld:Fld (ZbL p):=by
 rcases(inferInstance:Base p).b with e|e|e<;>subst e
 .exact#[fld2,one2]
 .exact#[fld3,one3]
 .exact#[fld5,one5]
noncomputable def lead(p:Nat)(s:Row)(h:Nat):Row:=X5 p s<|Xh p<|gt s h
noncomputable def ZI(P:List Row):List Nat:=P.map λr=>(hdI r).getD 0
def VI(P:List Row):(toP p P).map (·.1)=ZI P:=by unfold toP ZI;rw[bT];rfl
end
section
variable{p n:Nat}[Base p]
abbrev Mm(p:Nat)[NeZero p](P:List Row)(u:Vec (Fin p)):Prop:=Mem (toP p P) u
def eqP(hA:pZ p n A)(hB:pZ p n B)(h:∀u,Mm p A u↔Mm p B u):A=B:=ZbT hA.row hB.row<|Ze1 fld hA.pn hB.pn h
noncomputable def Xi(p:Nat)(P:List Row)(r:Row):Bool:=(hdI<|UR p P r).isNone
def Z5(hP:pZ p n P)(hr:Zr p n r):Xi p P r=ak↔Mm p P (toV p r):=by
 unfold Mm;rw[<-jj hP hr];unfold Xi;cases hdI (UR p P r)<;>simp
theorem zH(hP:pZ p n P)(hQ:pZ p n Q):P.all (Xi p Q)=ak↔∀u,Mm p P u->Mm p Q u:=by
 rw[aS]
 constructor
 .intro h u hu
  have gen:∀R:Pt (Fin p),(∀a∈R,Mm p Q a.2)->Mm p Q (pr R u):=by
   intro R
   induction R with
   |nil=>intro _;exact UH
   |cons a R ih=>
    intro hR;have:=Vh (u a.1) (ih λb hb=>hR b<|au _ hb)<|hR a<|ao ..
    have e:(λj=>pr R u j+u a.1*a.2 j)=pr (a::R) u:=by funext j;show _=u a.1*a.2 j+pr R u j;grind
    rw[e]at this;exact this
  have:=gen (toP p P) λa ha=>by
   obtain⟨r,hr,rfl⟩:=aT.mp ha;exact(Z5 hQ<|hP.row r hr).mp<|h r hr
  have e:=funext λj=>(hu j).symm
  rw[e]at this;exact this
 .intro h r hr
  exact(Z5 hQ<|hP.row r hr).mpr<|h _<|Vf hP.pn.rf<|YE hr
theorem vf{F:Type}[iX F]{x:Nat×Vec F}:∀{P:Pt F},(∀a∈P,a.1<x.1)->ins x P=P++[x]
 |[],_=>rfl
 |y::P,h=>by
  unfold ins;rw[T8 (by have:=h y<|ao ..;lia),vf λa ha=>h a<|au _ ha];rfl
theorem Jk{P:List Row}{l:Row}{j:Nat}(hP:pZ p n P)(hl:Zr p n l)(hj:j<n)(h1:gt l j=1)(h0:∀i,i<j->gt l i=0)(hh:∀r∈P,(hdI r).getD 0<j):pZ p n (P.map (λo=>clr p o l j)++[l])/\∀r∈P.map (λo=>clr p o l j)++[l],(hdI r).getD 0<j+1:=by
 have one:ph p 1=1:=by rcases(inferInstance:Base p).b with e|e|e<;>subst e<;>rfl
 have hlt:∀a∈toP p P,a.1<j:=λa ha=>by
  unfold toP at ha;obtain⟨r,hr,rfl⟩:=aT.mp ha;exact hh r hr
 have L:Lead (toP p P) j (toV p l):=#[by unfold toV;rw[h1,one],λi hi=>(YM hl).mpr<|h0 i hi,λa ha=>(YM hl).mpr<|h0 _<|hlt a ha]
 have rf:=qE fld.one0 hP.pn.rf L;have ew:wid (toP p P) j (toV p l)=(toP p P).map (off j<|toV p l)++[(j,toV p l)]:=vf λa ha=>by
  obtain⟨b,hb,rfl⟩:=aT.mp ha;exact hlt b hb
 have hx:hdI l=aa j:=Zel (by rw[h1];decide) h0
 have hmem:∀o∈P,off j (toV p l) ((hdI o).getD 0,toV p o)∈wid (toP p P) j (toV p l):=λo ho=>by
  rw[ew];exact cL _<|aT.mpr #[_,YE ho,rfl]
 have eh:∀o∈P,hdI (clr p o l j)=aa ((hdI o).getD 0):=λo ho=>by
  have ho':=hP.row o ho;have hc:Zr p n (clr p o l j):=Xe ho' hl;have ev:toV p (clr p o l j)=(off j (toV p l) ((hdI o).getD 0,toV p o)).2:=Vd ho' hl;rw[<-Zd8 hc,ev];exact Za6 (hP.pn.lt _<|YE ho) (λz=>fld.one0<|(rf.one _<|hmem o ho).symm.trans z)<|rf.low _<|hmem o ho
 have eP:toP p (P.map (λo=>clr p o l j)++[l])=wid (toP p P) j (toV p l):=by
  rw[ew];unfold toP;rw[bM,bT,bT]
  congr 1
  .refine ee λo ho=>?_
   show((hdI<|clr p o l j).getD 0,toV p<|clr p o l j)=off j _ ((hdI o).getD 0,toV p o);rw[eh o ho,Vd (hP.row o ho) hl];rfl
  .show[((hdI l).getD 0,toV p l)]=_
   rw[hx];rfl
 have hrow:∀r∈P.map (λo=>clr p o l j)++[l],Zr p n r:=λr hr=>by
  rcases bK.mp hr with z|z
  .obtain⟨o,ho,rfl⟩:=aT.mp z
   exact Xe (hP.row o ho) hl
  .rw[aY.mp z];exact hl
 refine#[#[hrow,#[by rw[eP];exact rf,λa ha=>?_,λa ha=>?_]],λr hr=>?_]
 .unfold toP at ha
  obtain⟨r,hr,rfl⟩:=aT.mp ha;rcases bK.mp hr with z|z
  .obtain⟨o,ho,rfl⟩:=aT.mp z
   show(hdI _).getD 0<n;rw[eh o ho];exact hP.pn.lt _<|YE ho
  .rw[aY.mp z];rw[hx];exact hj
 .unfold toP at ha
  obtain⟨r,hr,rfl⟩:=aT.mp ha;exact zI<|hrow r hr
 .rcases bK.mp hr with z|z
  .obtain⟨o,ho,rfl⟩:=aT.mp z
   rw[eh o ho];have:=hh o ho;show(hdI o).getD 0<j+1;lia
  .rw[aY.mp z,hx];show j<j+1;lia
theorem Zb4{a:Int}(h0:0<a)(h1:a<p):Xh p a*a%p=1:=by
 rcases(inferInstance:Base p).b with e|e|e<;>subst e
 .have:a=1:=by lia
  subst this;rfl
 .have:a=1\/a=2:=by lia
  rcases this with e|e<;>subst e<;>rfl
 .have:a=1\/a=2\/a=3\/a=4:=by lia
  rcases this with e|e|e|e<;>subst e<;>rfl
theorem qy{a:Int}(h0:0<a)(h1:a<p):(aH p).filter (λk:Nat=>af<|(k:Int)*a%p=1)=[(Xh p a).toNat]/\((Xh p a).toNat:Int)=Xh p a:=by
 rcases(inferInstance:Base p).b with e|e|e<;>subst e
 .have:a=1:=by lia
  subst this;exact#[rfl,rfl]
 .have:a=1\/a=2:=by lia
  rcases this with e|e<;>subst e<;>exact#[rfl,rfl]
 .have:a=1\/a=2\/a=3\/a=4:=by lia
  rcases this with e|e|e|e<;>subst e<;>exact#[rfl,rfl]
structure Red(p n:Nat)[NeZero p](j:Nat)(rest found:List Row):Prop where
 row:∀r∈rest,Zr p n r
 low:∀r∈rest,∀i,i<j->gt r i=0
 part:pZ p n found
 head:∀r∈found,(hdI r).getD 0<j
theorem jP{j:Nat}{rest found:List Row}(h:Red p n j rest found)(hz:∀r∈rest,gt r j=0):Red p n (j+1) rest found:=
 #[h.row,λr hr i hi=>by
   by_cases c:i=j
   .rw[c];exact hz r hr
   .exact h.low r hr i (by lia),h.part,λr hr=>by have:=h.head r hr;lia]
theorem qB{j:Nat}{rest found:List Row}{f:Row}(h:Red p n j rest found)(hj:j<n)(hf:f∈rest)(hz:gt f j≠0):Red p n (j+1) (rest.map λr=>clr p r (lead p f j) j) (found.map (λr=>clr p r (lead p f j) j)++[lead p f j]):=by
 have hfr:=h.row f hf;have hg:=VZ ppos hfr j;have hl:Zr p n (lead p f j):=Wn hfr;have h1:gt (lead p f j) j=1:=by unfold lead;rw[UV];exact Zb4 (by lia) hg.2
 have h0:∀i,i<j->gt (lead p f j) i=0:=λi hi=>by unfold lead;rw[UV,h.low f hf i hi];simp
 obtain⟨a,b⟩:=Jk h.part hl hj h1 h0 h.head;refine#[λr hr=>?_,λr hr i hi=>?_,a,b]
 .obtain⟨o,ho,rfl⟩:=aT.mp hr
  exact Xe (h.row o ho) hl
 .obtain⟨o,ho,rfl⟩:=aT.mp hr
  unfold clr;rw[Gj (h.row o ho) hl];by_cases c:i=j
  .rw[c,h1]
   rw[show gt o j + -(gt o j)*1=0 by lia];rfl
  .rw[h.low o ho i (by lia),h0 i<|by lia];simp
end
end Rw
namespace Pv
open Ev
open Rw
def Za{α β:Type}{a:α}{s:DS}{f:α->DS->PR β}:(PR.ok a s).bind f=f a s:=rfl
def wS(hf:F[f]?=aa fn)(hne:f≠tk)(hl:vs.length=fn.ps):Zm F tk (d+1) f vs s=(rvs (Zm F tk d) (muts fn.body) fn.body (ZJ fn.ns vs) [] s).bind λg s=>match g with
  |.ret v=>.ok v s
  |.nx _ _=>.ok .non s:=by
 rw[Zm,T8 hne,hf];show(if vs.length=fn.ps then _ else _)=_
 rw[T9 hl]
 all_goals rfl
def qr(s:DS)(h:0<m):0<=(We s m).1/\(We s m).1<m:=by
 unfold We;split
 .exact#[gD _ (by lia),fC _ h]
 .exact#[gD _ (by lia),fC _ h]
def zA(s:DS)(h0:0<m)(h1:m<1073741824):∃v s',Zm F tk (d+1) tk [.drw,.int m] s=.ok (.int v) s'/\0<=v/\v<m:=by
 refine#[(We s m).1,(We s m).2,?_,qr s h0];rw[Zm,T9 rfl];show(if 0<m/\m<1073741824 then _ else _)=_
 rw[T9 #[h0,h1]]
theorem Qu{α:Type}{f:V->DS->PR (List V)}{s:DS}{e:α->V}{g:α->V}:∀{l:List α},(∀x∈l,f (e x) s=.ok [g x] s)->mapP f (l.map e) s=.ok (l.map g) s
 |[],_=>rfl
 |x::l,h=>by
  rw[aW,mapP,h x<|ao ..];show(match mapP f (l.map e) s with|.ok zs s=>PR.ok ([g x]++zs) s|_=>.no)=_
  rw[Qu λy hy=>h y<|au _ hy];rfl
theorem V4{α:Type}{f:V->DS->PR (List V)}{s:DS}{e:α->V}{g:α->V}{q:α->Bool}:∀{l:List α},(∀x∈l,f (e x) s=.ok (if q x=ak then[g x]else[]) s)->mapP f (l.map e) s=.ok ((l.filter q).map g) s
 |[],_=>rfl
 |x::l,h=>by
  rw[aW,mapP,h x<|ao ..];show(match mapP f (l.map e) s with|.ok zs s=>PR.ok ((if q x=ak then[g x]else[])++zs) s|_=>.no)=_
  rw[V4 λy hy=>h y<|au _ hy,lD]
  cases q x<;>rfl
theorem QX{α:Type}{f:V->DS->PR (List V)}{s:DS}{e:α->V}{g:α->List V}:∀{l:List α},(∀x∈l,f (e x) s=.ok (g x) s)->mapP f (l.map e) s=.ok (l.flatMap g) s
 |[],_=>rfl
 |x::l,h=>by
  rw[aW,mapP,h x<|ao ..];show(match mapP f (l.map e) s with|.ok zs s=>PR.ok (g x++zs) s|_=>.no)=_
  rw[QX λy hy=>h y<|au _ hy];rfl
theorem Jg{Q:V->Prop}(h:∀x s,∃y s',f x s=.ok [y] s'/\Q y):∀(l:List V)(s:DS),∃ys s',mapP f l s=.ok ys s'/\ys.length=l.length/\∀y∈ys,Q y
 |[],s=>#[[],s,rfl,rfl,λ_ h=>by cases h]
 |x::l,s=>by
  obtain⟨y,s1,e1,q1⟩:=h x s;obtain⟨ys,s2,e2,l2,q2⟩:=Jg h l s1;refine#[y::ys,s2,?_,by rw[aJ,aJ,l2],λz hz=>?_]
  .rw[mapP,e1]
   show(match mapP f l s1 with|.ok zs s=>PR.ok ([y]++zs) s|_=>.no)=_
   rw[e2];rfl
  .rcases ay.mp hz with rfl|hz
   .exact q1
   .exact q2 z hz
noncomputable def QE:Option Nat->V
 |none=>.non
 |some k=>.int k
noncomputable def spV(p n:Nat):V:=.tup [.int p,.int n]
def ZN{a:Int}(h:-4294967296<a)(h':a<4294967296):fits a=ak:=by
 refine T5 ?_;have h1:a.natAbs<2^32:=by lia
 exact bv h1<|dC (by decide)<|by decide
def VQ{α:Type}{xs:List α}{k:Nat}{x:α}(h:xs[k]?=aa x):at' xs (k:Int)=aa x:=by
 have hk:=(aE.mp h).1;unfold at' ixN;rw[T9 (by lia),T9<|by lia]
 rw[show(k:Int).toNat=k by lia];exact h
def Vt{r:Row}{k:Nat}(hk:k<r.length):at' (r.map V.int) (k:Int)=aa (.int<|gt r k):=by
 refine VQ ?_;rw[aR,ag hk];unfold gt;rw[aD,ag hk];rfl
theorem Z0{α:Type}{g:α->Bool}:∀l:List α,ZT (l.map λx=>.bl<|g x)=aa (l.map g)
 |[]=>rfl
 |x::l=>by rw[aW,ZT,Z0 l];rfl
theorem Qk{α:Type}{f:V->V->Option Bool}{e:α->V}{d:α->α->Bool}(hd:∀a b,d a b=ak↔a=b)(h:∀a b,f (e a) (e b)=aa (d a b)):∀a b:List α,∃c,Yt f (a.map e) (b.map e)=aa c/\(c=ak↔a=b)
 |[],[]=>#[ak,rfl,by simp]
 |[],_::_=>#[ai,rfl,by simp]
 |_::_,[]=>#[ai,rfl,by simp]
 |x::a,y::b=>by
  obtain⟨c,e1,e2⟩:=Qk hd h a b;refine#[d x y&&c,?_,?_]
  .rw[aW,aW,Yt,h,e1]
  .rw[aB,hd,e2];simp
def ZcV(k:Nat)(a b:Row):eqV (k+2) (Zd a) (Zd b)=aa (af<|a=b):=by
 show Yt (eqV<|k+1) (a.map .int) (b.map .int)=_;obtain⟨c,e1,e2⟩:=Qk (f:=eqV<|k+1) (e:=V.int) (λa b=>by simp) (λa b=>rfl) a b
 rw[e1,show c=af (a=b) by rw[cS,e2];simp]
def Zah(k:Nat)(a b:List Row):eqV (k+3) (Zc a) (Zc b)=aa (af<|a=b):=by
 show Yt (eqV<|k+2) (a.map Zd) (b.map Zd)=_;obtain⟨c,e1,e2⟩:=Qk (λa b=>by simp) (λa b=>ZcV k a b) a b
 rw[e1,show c=af (a=b) by rw[cS,e2];simp]
theorem WY:∀(r o:Row),((r.map V.int).zip<|o.map V.int).map (λq=>V.tup [q.1,q.2])=(r.zip o).map λq=>V.tup [.int q.1,.int q.2]
 |[],_=>rfl
 |_::_,[]=>rfl
 |a::r,b::o=>by rw[aW,aW,bR,aW,bR,aW,WY r o]
theorem Y4:∀r:Row,intsV (r.map V.int)=aa r
 |[]=>rfl
 |a::r=>by show(intsV<|r.map V.int).map (a :: ·)=_;rw[Y4 r];rfl
theorem Yz:∀P:List Row,Yb (P.map Zd)=aa P
 |[]=>rfl
 |r::P=>by
  show(match intsV (r.map V.int),Yb (P.map Zd)with|some a,aa b=>aa (a::b)|_,_=>ae)=_
  rw[Y4,Yz P]
theorem WL:∀r:Row,Z1 (r.map V.int)=ak
 |[]=>rfl
 |a::r=>WL r
def ZcA(n:Nat):ZS 0 n=(aH n).map λ(k:Nat)=>V.int (k:Int):=by
 refine ee λk _=>?_
 simp
def Z9{α:Type}{a:α}{s:DS}:po (aa a) s=.ok a s:=rfl
section
variable{C:ZA}{cap:List Nat}{nl:Nat}{t:List Nat}{it:W}{elt tst:E}{ρ:Env}{s:DS}{α:Type}
def Zy{l:List α}{e g:α->V}(hw:pvw C it ρ s=.ok (l.map e) s)(hl:l.length<=lim)(h:∀x∈l,∃σ,Zp t (e x) (Z2 cap nl ρ)=aa σ/\pv C elt σ s=.ok (g x) s)(ho:own nl t=ak:=by rfl):pv C (.comp1 cap nl t it [] elt) ρ s=.ok (.lst<|l.map g) s:=by
 rw[pv,T9 ho,hw,Za,Qu λx hx=>by
  obtain⟨σ,e1,e2⟩:=h x hx;rw[e1,Z9,Za,pvt,Za];rw[e2];rfl]
 rw[Za,T9<|by rw[aw];exact hl];rfl
def Yl{l:List α}{e g:α->V}{q:α->Bool}(hw:pvw C it ρ s=.ok (l.map e) s)(hl:l.length<=lim)(h:∀x∈l,∃σ v,Zp t (e x) (Z2 cap nl ρ)=aa σ/\pv C tst σ s=.ok v s/\Zs v=aa (q x)/\(q x=ak->pv C elt σ s=.ok (g x) s))(ho:own nl t=ak:=by rfl):pv C (.comp1 cap nl t it [tst] elt) ρ s=.ok (.lst<|(l.filter q).map g) s:=by
 rw[pv,T9 ho,hw,Za,V4 (q:=q) λx hx=>by
  obtain⟨σ,v,e1,e2,e3,e4⟩:=h x hx;rw[e1,Z9,Za,pvt,e2,Za,e3,Z9,Za];cases c:q x with
  |true=>
   rw[T9 rfl,pvt,Za,T9 rfl,T9 rfl,e4 c];rfl
  |false=>rw[T8 (by simp),Za,T8 (by simp),T8<|by simp]]
 rw[Za,T9<|by rw[aw];exact cc (fG ..) hl];rfl
def Ql{β:Type}{u:List Nat}{jt:W}{l:List α}{e:α->V}{m:α->List β}{e2:β->V}{g:α->β->V}(hw:pvw C it ρ s=.ok (l.map e) s)(hl:(l.flatMap λx=>(m x).map<|g x).length<=lim)
  (h:∀x∈l,∃σ,Zp t (e x) (Z2 cap nl ρ)=aa σ/\pvw C jt σ s=.ok ((m x).map e2) s/\∀y∈m x,∃σ',Zp u (e2 y) σ=aa σ'/\pv C elt σ' s=.ok (g x y) s)(ho:own2 nl t u=ak:=by rfl):pv C (.comp2 cap nl t it [] u jt [] elt) ρ s=.ok (.lst<|l.flatMap λx=>(m x).map<|g x) s:=by
 rw[pv,T9 ho,hw,Za,QX λx hx=>by
  obtain⟨σ,e1,e3,e4⟩:=h x hx;rw[e1,Z9,Za,pvt,Za,T9 rfl,e3,Za];exact Qu λy hy=>by
   obtain⟨σ',f1,f2⟩:=e4 y hy;rw[f1,Z9,Za,pvt,Za];rw[f2];rfl]
 rw[Za,T9 hl];rfl
def QS{Q:V->Prop}(hw:pvw C it ρ s=.ok (ZS 0 k) s)(hl:k<=lim)(h:∀(x:V)(s:DS),∃σ y s',Zp t x (Z2 cap nl ρ)=aa σ/\pv C elt σ s=.ok y s'/\Q y)(ho:own nl t=ak:=by rfl) :
  ∃ys s',pv C (.comp1 cap nl t it [] elt) ρ s=.ok (.lst ys) s'/\ys.length=k/\∀y∈ys,Q y:=by
 obtain⟨ys,s',e1,e2,e3⟩:=Jg (f:=λx s=>(po (Zp t x<|Z2 cap nl ρ) s).bind λσ s=>(pvt C [] σ s).bind λb s=>if b then(pv C elt σ s).bind λy s=>.ok [y] s else .ok [] s) (λx s=>by
  obtain⟨σ,y,s',f1,f2,f3⟩:=h x s;refine#[y,s',?_,f3];rw[f1,Z9,Za,pvt,Za];rw[f2];rfl) (ZS 0 k) s
 have hk:(ZS 0 k).length=k:=by unfold ZS;simp
 refine#[ys,s',?_,by rw[e2,hk],e3]
 rw[pv,T9 ho,hw,Za,e1,Za,T9<|by rw[e2,hk];exact hl];rfl
end
def jL{xs:List V}{k:Nat}(h:k<=xs.length):YA xs ae (aa (k:Int))=xs.take k:=by
 show(xs.drop 0).take ((if(k:Int)<0 then((k:Int)+xs.length).toNat else pS (k:Int).toNat xs.length)-0)=_
 rw[T8 (by lia),show pS (k:Int).toNat xs.length-0=k by lia];rfl
def G4{xs:List V}{i:Int}{k:Nat}(hi:i=k)(h:k<=xs.length):YA xs (aa i) ae=xs.drop k:=by
 subst hi;show(xs.drop<|if(k:Int)<0 then((k:Int)+xs.length).toNat else pS (k:Int).toNat xs.length).take (xs.length-(if(k:Int)<0 then((k:Int)+xs.length).toNat else pS (k:Int).toNat xs.length))=_
 rw[T8 (by lia),show pS (k:Int).toNat xs.length=k by lia]
 exact cQ (by rw[bF];lia)
def ZaK{xs:List V}:YA xs (aa 1) ae=xs.tail:=by
 cases xs with|nil=>rfl|cons x xs=>exact G4 rfl (by simp)
noncomputable def Zf(k:Nat):V:=.int k
def J0(n:Nat):ZS 0 n=(aH n).map Zf:=by rw[ZcA];rfl
def XC(h0:0<=i)(h1:i<1000000):Yn i=ak:=by
 unfold Yn;have e:(2:Int)^62=4611686018427387904:=by decide
 rw[e];exact T5 #[by lia,by lia]
def Zq(hf:F[f]?=aa fn)(hne:f≠tk)(hl:vs.length=fn.ps)(h:rvs (Zm F tk d) (muts fn.body) fn.body (ZJ fn.ns vs) [] s=.ok (.ret v) s'):Zm F tk (d+1) f vs s=.ok v s':=by
 rw[wS hf hne hl,h];rfl
def wR(hf:F[f]?=aa fn)(hne:f≠tk)(hl:vs.length=fn.ps)(h:rvs (Zm F tk d) (muts fn.body) fn.body (ZJ fn.ns vs) [] s=.ok (.nx ρ os) s'):Zm F tk (d+1) f vs s=.ok .non s':=by
 rw[wS hf hne hl,h];rfl
def Zi(h:rv C ms m ρ os s=.ok (.nx ρ' os') s'):rvs C ms (m::l) ρ os s=rvs C ms l ρ' os' s':=by rw[rvs,h];rfl
def Zk(h:rv C ms m ρ os s=.ok (.ret v) s'):rvs C ms (m::l) ρ os s=.ok (.ret v) s':=by rw[rvs,h];rfl
def ZG(h:pv C e ρ s=.ok v s'):rv C ms (.ret e) ρ os s=.ok (.ret v) s':=by rw[rv,h];rfl
def Zdb(h:pv C (.call f as) ρ s=.ok v s'):rv C ms (.ex<|.call f as) ρ os s=.ok (.nx ρ os) s':=by
 have:rv C ms (.ex<|.call f as) ρ os s=(pv C (.call f as) ρ s).bind λ_ s=>.ok (.nx ρ os) s:=by
  rw[rv]
  all_goals(intro _ _ z;cases z)
 rw[this,h];rfl
def Yu{b:Bool}{t:E}{x y:List Sm}(h:Xj C t ρ s=.ok b s'):rv C ms (.ite t x y) ρ os s=if b=ak then rvs C ms x ρ os s' else rvs C ms y ρ os s':=by rw[rv,h];rfl
def Yh{v:V}{b:Bool}{t:E}(h:pv C t ρ s=.ok v s')(hb:Zs v=aa b):Xj C t ρ s=.ok b s':=by unfold Xj;rw[h,Za,hb];rfl
def Zo{f:Nat}{as:List E}{vs:List V}{v:V}{s1:DS}(h:pvs C as ρ s=.ok vs s1)(hc:C f vs s1=.ok v s'):pv C (.call f as) ρ s=.ok v s':=by rw[pv,h];exact hc
def Ze:pvs C [] ρ s=.ok [] s:=by rw[pvs]
def Zb{e:E}{es:List E}{v:V}{vs:List V}{s1:DS}(h:pv C e ρ s=.ok v s1)(h2:pvs C es ρ s1=.ok vs s'):pvs C (e::es) ρ s=.ok (v::vs) s':=by rw[pvs,h,Za,h2];rfl
def Zg{i:Nat}{v:V}(h:ρ[i]?=aa (aa v)):pv C (.v i) ρ s=.ok v s:=by rw[pv,h];rfl
def ZE{i:Nat}{e:E}{v:V}(h:pv C e ρ s=.ok v s')(hm:(ms.contains i&&fresh e)=ai):rv C ms (.asg [i] e) ρ [] s=.ok (.nx (ρ.set i<|aa v) []) s':=by
 rw[rv];show(pv C e ρ s).bind _=_;rw[h,Za,T8<|by rw[hm];simp];rfl
def YH{e:E}{n:Nat}(h:pv C e ρ s=.ok (.int n) s')(hn:n<1000000):pvw C (.rng1 e) ρ s=.ok ((aH n).map Zf) s':=by
 rw[pvw,h,Za];show(if Yn (n:Int)=ak then PR.ok (ZS 0 (n:Int).toNat) s' else .no)=_
 rw[T9 (XC (by lia)<|by lia),fH,J0]
def Vq{α:Type}{t:List Nat}{it:W}{b:List Sm}{L:List α}{e:α->V}(I:List α->Env->Prop)(hw:pvw C it (hide os ρ) s=.ok (L.map e) s)(hI:I L ρ)(ht:(t.any os.contains)=ai)
  (h:∀x l ρ,I (x::l) ρ->(os.isEmpty||(e x).flat)=ak/\∃ρ1 ρ',Zp t (e x) ρ=aa ρ1/\rvs C ms b ρ1 os s=.ok (.nx ρ' os) s/\I l ρ') :
  ∃ρ',I [] ρ'/\rv C ms (.forr t it b) ρ os s=.ok (.nx ρ' os) s:=by
 rw[rv,hw,Za];clear hw
 induction L generalizing ρ with
 |nil=>exact#[ρ,hI,rfl]
 |cons x L ih=>
  obtain⟨f,ρ1,ρ',b1,b2,b3⟩:=h x L ρ hI;obtain⟨ρ2,c1,c2⟩:=ih b3;refine#[ρ2,c1,?_];rw[aW,YJ,T8 (by rw[ht];simp),T9 f,b1,Z9,Za,b2,Za]
  exact c2
def Um{σ α:Type}{t:List Nat}{it:W}{b:List Sm}{L:List α}{e:α->V}{step:σ->α->σ}{ρ:σ->Option V->Env}{st:σ}{o:Option V}(I:List α->σ->Prop)(hw:pvw C it (hide os<|ρ st o) s=.ok (L.map e) s)(hI:I L st)(ht:(t.any os.contains)=ai)
  (h:∀x l st o,I (x::l) st->I l (step st x)/\(os.isEmpty||(e x).flat)=ak/\∃ρ1 o',Zp t (e x) (ρ st o)=aa ρ1/\rvs C ms b ρ1 os s=.ok (.nx (ρ (step st x) o') os) s) :
  ∃o',I [] (L.foldl step st)/\rv C ms (.forr t it b) (ρ st o) os s=.ok (.nx (ρ (L.foldl step st) o') os) s:=by
 rw[rv,hw,Za];clear hw
 induction L generalizing st o with
 |nil=>exact#[o,hI,rfl]
 |cons x L ih=>
  obtain⟨a,f,ρ1,o',b1,b2⟩:=h x L st o hI;obtain⟨o2,c1,c2⟩:=ih a;refine#[o2,c1,?_];rw[aW,YJ,T8 (by rw[ht];simp),T9 f,b1,Z9,Za,b2,Za]
  exact c2
def pvF:(∀a,fresh (.lst a)=ak)/\(∀a b,fresh (.bin .mul (.lst a) b)=ak)/\(∀b,Zs (.bl b)=aa b)/\(∀i,Zs (.int i)=aa (af<|i≠0))/\(∀xs,Zs (.tup xs)=aa (!xs.isEmpty))/\(∀xs,Zs (.lst xs)=aa (!xs.isEmpty))/\(Zs .non=aa ai)/\(∀xs i,ixV (.tup xs) (.int i)=at' xs i)/\(∀xs i,ixV (.lst xs) (.int i)=at' xs i)/\(∀xs,YK (.tup xs)=aa xs)/\(∀xs,YK (.lst xs)=aa xs)/\(∀x,X2 .len [x]=(YK x).map λxs=>.int xs.length)/\(∀x,X2 .tuple [x]=(YK x).map .tup)/\(∀x,X2 .list [x]=(YK x).map .lst)/\(∀xs,X2 .all [.lst xs]=(ZT xs).map λbs=>.bl<|bs.all id)/\(∀a b,X2 .max2 [.int a,.int b]=aa (.int (if b>a then b else a)))/\(∀a b,X2 .min2 [.int a,.int b]=aa (.int (if b<a then b else a)))/\(∀a,X2 .toInt [.int a]=aa (.int a))/\(∀a,X2 .toInt [.bl a]=aa (.int<|b2i a))/\(∀a b s,YZ .add (.int a) (.int b) s=.ok (.int<|a+b) s)/\(∀a b s,YZ .sub (.int a) (.int b) s=.ok (.int<|a-b) s)/\(∀a b s,YZ .mul (.int a) (.int b) s=if(fits a&&fits b)=ak then .ok (.int<|a*b) s else .no)/\(∀a b s,YZ .mod (.int a) (.int b) s=if 0<b then .ok (.int<|a%b) s else .no)/\(∀a b s,YZ .add (.tup a) (.tup b) s=if a.length+b.length<=lim then .ok (.tup<|a++b) s else .no)/\(∀a b s,YZ .mul (.tup a) (.int b) s=if 0<=b/\b<1000/\a.length<=1000 then .ok (.tup (aP b.toNat a).flatten) s else .no)/\(∀a b s,YZ .mul (.lst a) (.int b) s=if 0<=b/\b<1000/\a.length<=1000 then .ok (.lst (aP b.toNat a).flatten) s else .no)/\(∀a b s,YZ .add (.lst a) (.lst b) s=if a.length+b.length<=lim then .ok (.lst<|a++b) s else .no)/\(∀x y,YT .eq x y=(eqV Zt x y).map .bl)/\(∀x y,YT .ne x y=(eqV Zt x y).map λb=>.bl !b)/\(∀a b,YT .lt (.int a) (.int b)=aa (.bl<|af<|a<b))/\(∀a b,YT .gt (.int a) (.int b)=aa (.bl<|af<|b<a))/\(∀a b,YT .le (.int a) (.int b)=aa (.bl<|af<|a<=b))/\(∀a b,YT .ge (.int a) (.int b)=aa (.bl<|af<|b<=a))/\(∀x y,YT .inn x y=(V1 x y).map .bl)/\(∀x y,YT .nin x y=(V1 x y).map λb=>.bl !b)/\(ym .non=ak)/\(∀b,ym (.bl b)=ai)/\(∀b,ym (.int b)=ai)/\(∀b,ym (.tup b)=ai)/\(∀b,ym (.lst b)=ai)/\(ofD .non=aa .non)/\(∀b,ofD (.bl b)=aa (.bl b))/\(∀b,ofD (.int b)=aa (.int b))/\(∀ρ,XF [] [] ρ=aa ρ)/\(∀i t x xs ρ,XF (i::t) (x::xs) ρ=XF t xs (ρ.set i<|aa x))/\(∀i x ρ,Zp [i] x ρ=aa (ρ.set i<|aa x))/\(∀i j t xs ρ,Zp (i::j::t) (.tup xs) ρ=XF (i::j::t) xs ρ)/\(∀i j t xs ρ,Zp (i::j::t) (.lst xs) ρ=XF (i::j::t) xs ρ)/\(∀k a b,eqV (k+1) (.int a) (.int b)=aa (af<|a=b))/\(∀k a b,eqV (k+1) (.bl a) (.bl b)=aa (af<|a=b))/\(∀k a b,eqV (k+1) (.tup a) (.tup b)=Yt (eqV k) a b)/\(∀k a b,eqV (k+1) (.lst a) (.lst b)=if a.length=b.length then Yt (eqV k) a b else aa ai):=
 #[λ_=>rfl,λ_ _=>rfl,λ_=>rfl,λ_=>rfl,λ_=>rfl,λ_=>rfl,rfl,λ_ _=>rfl,λ_ _=>rfl,λ_=>rfl,λ_=>rfl,λ_=>rfl,λ_=>rfl,λ_=>rfl,λ_=>rfl,λ_ _=>rfl,λ_ _=>rfl,λ_=>rfl,λ_=>rfl,λ_ _ _=>rfl,λ_ _ _=>rfl,λ_ _ _=>rfl,λ_ _ _=>rfl,λ_ _ _=>rfl,λ_ _ _=>rfl,λ_ _ _=>rfl,λ_ _ _=>rfl,λ_ _=>rfl,λ_ _=>rfl,λ_ _=>rfl,λ_ _=>rfl,λ_ _=>rfl,λ_ _=>rfl,λ_ _=>rfl,λ_ _=>rfl,rfl,λ_=>rfl,λ_=>rfl,λ_=>rfl,λ_=>rfl,rfl,λ_=>rfl,λ_=>rfl,λ_=>rfl,λ_ _ _ _ _=>rfl,λ_ _ _=>rfl,λ_ _ _ _ _=>rfl,λ_ _ _ _ _=>rfl,λ_ _ _=>rfl,λ_ _ _=>rfl,λ_ _ _=>rfl,λ_ _ _=>rfl]
def pvE:=bf (bf (bf (bf (bf pvF<|bf @Za @Z9)<|bf @Xj.eq_1<|bf @ZJ.eq_1 @hide.eq_1)<|bf (bf @Z2.eq_1<|bf @Option.join.eq_1.{0} @lim.eq_1)<|bf (bf @rvs.eq_1 @rvs.eq_2)<|bf @rv.eq_1 @rv.eq_2)<|bf (bf (bf @rv.eq_3<|bf @rv.eq_4 @rv.eq_5)<|bf (bf @rv.eq_6 @rv.eq_7)<|bf @rv.eq_8 @rv.eq_9)<|bf (bf @pvA.eq_1<|bf @pvA.eq_2 @pvs.eq_1)<|bf (bf @pvs.eq_2 @pvo.eq_1)<|bf @pvo.eq_2 @pvt.eq_1)<|bf (bf (bf (bf @pvt.eq_2<|bf @pvw.eq_1 @pvw.eq_2)<|bf (bf @pvw.eq_3 @pvw.eq_4)<|bf @pvw.eq_5 @pvw.eq_6)<|bf (bf @pv.eq_1<|bf @pv.eq_2 @pv.eq_3)<|bf (bf @pv.eq_4 @pv.eq_5)<|bf @pv.eq_6 @pv.eq_7)<|bf (bf (bf @pv.eq_8<|bf @pv.eq_9 @pv.eq_10)<|bf (bf @pv.eq_11 @pv.eq_12)<|bf @pv.eq_13 @pv.eq_14)<|bf (bf @pv.eq_15<|bf @pv.eq_16 @pv.eq_17)<|bf (bf @pv.eq_18 @pv.eq_19)<|bf @pv.eq_20 @pv.eq_21
end Pv
namespace K42
open Ev Pv Rw La
noncomputable abbrev CV(d:Nat):ZA:=Zm fns 2 d
theorem Q9(C:ZA)(s:DS)(v:V):∀(r:Row)(k:Nat)(a b:Option V),∃a' b',YJ (λx ρ os s=>if(([1,2]:List Nat).any os.contains)=ak then .no else if(os.isEmpty||x.flat)=ak then(po (Zp [1,2] x ρ) s).bind λρ s=>rvs C [] [.ite (.cmp .ne (.v 2)<|.c<|.int 0) [.ret<|.v 1] []] ρ os s else .no)
   (((ZS k r.length).zip<|r.map V.int).map λp=>V.tup [p.1,p.2]) [aa v,a,b] [] s=match hdI r with
    |some m=>.ok (.ret<|.int (k+m:Nat)) s
    |none=>.ok (.nx [aa v,a',b'] []) s
 |[],k,a,b=>#[a,b,rfl]
 |x::r,k,a,b=>by
  have er:ZS k (x::r).length=.int k::ZS (k+1:Nat) r.length:=by
   unfold ZS;rw[aJ,gW,aW,bT];refine List.cons_eq_cons.mpr #[by simp,?_]
   .refine ee λj _=>?_
    show V.int ((k:Int)+((j+1:Nat):Int))=V.int (((k+1:Nat):Int)+(j:Int))
    congr 1
    lia
  obtain⟨a',b',ih⟩:=Q9 C s v r (k+1) (aa<|.int k)<|aa<|.int x;refine#[a',b',?_];rw[er,aW,bR,aW,YJ];by_cases c:x=0
  .subst c
   have e0:hdI (0::r)=(hdI r).map (· + 1):=by rw[hdI,T8<|by simp]
   have e1:(if(([1,2]:List Nat).any ([]:List Nat).contains)=ak then(.no:PR FlV)else if(([]:List Nat).isEmpty||(V.tup [V.int k,V.int 0]).flat)=ak then(po (Zp [1,2] (V.tup [.int k,.int 0]) [aa v,a,b]) s).bind λρ s=>rvs C [] [.ite (.cmp .ne (.v 2)<|.c<|.int 0) [.ret<|.v 1] []] ρ [] s else .no)=.ok (.nx [aa v,aa<|.int k,aa<|.int 0] []) s:=by
    simp[pvE,Zt]
   rw[e1,Za,e0];show YJ _ _ [aa v,aa<|.int k,aa<|.int 0] [] s=_;rw[ih];cases hdI r with|none=>rfl|some m=>show PR.ok (FlV.ret<|.int ((k+1+m:Nat):Int)) s=PR.ok (FlV.ret<|.int ((k+(m+1):Nat):Int)) s;congr 3;lia
  .have e0:hdI (x::r)=aa 0:=by rw[hdI,T9 c]
   have e1:(if(([1,2]:List Nat).any ([]:List Nat).contains)=ak then(.no:PR FlV)else if(([]:List Nat).isEmpty||(V.tup [V.int k,V.int x]).flat)=ak then(po (Zp [1,2] (V.tup [.int k,.int x]) [aa v,a,b]) s).bind λρ s=>rvs C [] [.ite (.cmp .ne (.v 2)<|.c<|.int 0) [.ret<|.v 1] []] ρ [] s else .no)=.ok (.ret<|.int k) s:=by
    simp[pvE,Zt,c]
   rw[e1,Za,e0];rfl
def wg(d:Nat)(r:Row)(s:DS):CV (d+1) 12 [Zd r] s=.ok (QE<|hdI r) s:=by
 rw[CV,wS rfl (by decide) rfl]
 obtain⟨a,b,e⟩:=Q9 (Zm fns 2 d) s (Zd r) r 0 ae ae;show((rv _ [] (.forr [1,2] (.enum<|.v 0) _) [aa<|Zd r,ae,ae] [] s).bind _).bind _=_;have e2:rv (Zm fns 2 d) [] (.forr [1,2] (.enum<|.v 0) [.ite (.cmp .ne (.v 2)<|.c<|.int 0) [.ret<|.v 1] []]) [aa<|Zd r,ae,ae] [] s=match hdI r with
    |some m=>.ok (.ret<|.int (m:Nat)) s
    |none=>.ok (.nx [aa<|Zd r,a,b] []) s:=by
  rw[rv];have ew:pvw (Zm fns 2 d) (.enum<|.v 0) (hide [] [aa<|Zd r,ae,ae]) s=.ok (((ZS 0 r.length).zip<|r.map V.int).map λp=>V.tup [p.1,p.2]) s:=by
   simp[pvE,Zd]
  rw[ew,Za];simp only[Nat.zero_add,Int.natCast_zero]at e;exact e
 rw[e2];cases hdI r with|none=>rfl|some m=>rfl
section
variable{p n:Nat}[Base p]
def QI:(p:Int)<=5/\(2:Int)<=p:=by rcases(inferInstance:Base p).b with e|e|e<;>subst e<;>decide
end
section
variable{p n:Nat}[Base p]
def Y5(C:ZA)(ms:List Nat){i j:Nat}{ρ:Env}{os:List Nat}{s:DS}{e:E}(h:pvA C e ρ os s=.ok (spV p n) s)(ho:os.contains i=ai/\os.contains j=ai):rv C ms (.asg [i,j] e) ρ os s=.ok (.nx ((ρ.set i<|aa<|.int p).set j<|aa<|.int n) os) s:=by
 rw[rv,h,Za,T8<|by simpa using ho]
 .rfl
 .simp
theorem dsum{P:List Row}(hP:pZ p n P):P.length<=n:=by
 have:=ur fld hP.pn;rw[ZbU]at this;lia
end
end K42
namespace Rw
open La
open Ev (ltI Wu Ye)
section
variable{p n:Nat}[Base p]
noncomputable def YR(r q:Row):Int:=(eW (· * ·) r q).sum
noncomputable def Yv(p:Nat)(P:List Row):Bool:=P.all λr=>P.all λq=>af<|YR r q%p=0
noncomputable def Wa(p:Nat)(rs:List Row):List Row:=rs.flatMap λr=>(aH p).map λ(k:Nat)=>r++[(k:Int)]
noncomputable def ZR(p n h:Nat):List Row:=(aH<|n-(h+1)).foldl (λrs _=>Wa p rs) [aP h 0++[1]]
noncomputable def Z6(P:List Row):Nat:=match P.getLast? with
 |some r=>(hdI r).getD 0+1
 |none=>0
noncomputable def WF(n f:Nat):List Nat:=((aH<|n-f).map (f + ·)).reverse
noncomputable def xD(p n:Nat)(P:List Row)(st:List Row)(h:Nat):List Row:=if(P.all λr=>af<|gt r h=0)=ak then st++ZR p n h else st
noncomputable def Jc(p n:Nat)(P:List Row):List Row:=(WF n<|Z6 P).foldl (xD p n P) []
noncomputable def zg(p n:Nat)(Ps:List (List Row)):List (List Row):=Ps.flatMap λP=>(Jc p n P).map λr=>P++[r]
noncomputable def Yd(p n:Nat):Nat->List (List Row)
 |0=>[[]]
 |k+1=>zg p n<|Yd p n k
def ZcC(p h m:Nat)(r:Row):Prop:=∃t:Row,r=aP h 0++1::t/\t.length=m/\∀a∈t,0<=a/\a<(p:Int)
theorem Zb0{h m:Nat}{rs:List Row}(H:∀r∈rs,ZcC p h m r):∀r∈Wa p rs,ZcC p h (m+1) r:=λr hr=>by
 obtain⟨q,hq,hr⟩:=fZ.mp hr;obtain⟨k,hk,rfl⟩:=aT.mp hr;obtain⟨t,rfl,ht,hb⟩:=H q hq;have hk':=bu.mp hk;refine#[t++[(k:Int)],by simp,by simp[ht],λa ha=>?_]
 rcases bK.mp ha with z|z
 .exact hb a z
 .rw[aY.mp z];exact#[by lia,by lia]
def G6(rs:List Row):(Wa p rs).length=rs.length*p:=by
 unfold Wa;rw[iZ];simp only[aw,br];rw[lZ,h7]
theorem zd{h:Nat}:∀(L:List Nat){m:Nat}{rs:List Row},(∀r∈rs,ZcC p h m r)->(∀r∈L.foldl (λrs _=>Wa p rs) rs,ZcC p h (m+L.length) r)/\(L.foldl (λrs _=>Wa p rs) rs).length=rs.length*p^L.length
 |[],m,rs,H=>#[H,by simp]
 |_::L,m,rs,H=>by
  obtain⟨a,b⟩:=zd L<|Zb0 H;refine#[λr hr=>?_,?_]
  .have:=a r hr
   rw[show m+1+L.length=m+(L.length+1) by lia]at this
   exact this
  .rw[d4,b,G6,aJ,kg,pY,nN p]
theorem Jt{h:Nat}(hh:h<n):(∀r∈ZR p n h,Zr p n r/\gt r h=1/\∀i,i<h->gt r i=0)/\(ZR p n h).length=p^(n-(h+1)):=by
 have hone:(1:Int)<p:=by rcases(inferInstance:Base p).b with e|e|e<;>subst e<;>decide
 obtain⟨a,b⟩:=zd (p:=p) (aH<|n-(h+1)) λr hr=>#[[],by rw[aY.mp hr],rfl,λa ha=>by cases ha]
 refine#[λr hr=>?_,by unfold ZR;rw[b];simp]
 obtain⟨t,rfl,ht,hb⟩:=a r hr;rw[br]at ht;refine#[#[by simp[ht];lia,λx hx=>?_],?_,λi hi=>?_]
 .rcases bK.mp hx with z|z
  .rw[(List.mem_replicate.mp z).2];exact#[by lia,by lia]
  .rcases ay.mp z with rfl|z
   .exact#[by lia,hone]
   .exact hb x z
 .unfold gt;rw[aD,bx<|by simp];simp
 .unfold gt;rw[aD,bN (by simpa using hi),c8];simp[hi]
theorem zK{P:List Row}{r:Row}:∀(L:List Nat)(st:List Row),r∈L.foldl (xD p n P) st->r∈st\/∃h∈L,(∀q∈P,gt q h=0)/\r∈ZR p n h
 |[],st,hr=>.inl hr
 |h::L,st,hr=>by
  rcases zK L (xD p n P st h) hr with z|⟨k,hk,z⟩
  .unfold xD at z
   split at z
   .rename_i c
    rcases bK.mp z with z|z
    .exact .inl z
    .exact .inr #[h,ao ..,λq hq=>T6<|aS.mp c q hq,z]
   .exact .inl z
  .exact .inr #[k,au _ hk,z]
theorem Qr{f h:Nat}:h∈WF n f↔f<=h/\h<n:=by
 unfold WF;rw[dN,aT]
 constructor
 .rintro ⟨k,hk,rfl⟩
  have:=bu.mp hk;lia
 .rintro ⟨a,b⟩
  exact#[h-f,bu.mpr (by lia),by lia]
def uU{P:List Row}{r:Row}(hr:r∈Jc p n P):∃h,Z6 P<=h/\h<n/\(∀q∈P,gt q h=0)/\r∈ZR p n h:=by
 rcases zK _ _ hr with z|⟨h,hh,a,b⟩
 .cases z
 .obtain⟨x,y⟩:=Qr.mp hh
  exact#[h,x,y,a,b]
theorem ZaI{P:List Row}(hP:pZ p n P){r:Row}(hr:r∈P):(hdI r).getD 0<Z6 P:=by
 have hi:=hP.pn.rf.inc;unfold toP at hi;rw[dF]at hi;unfold Z6;cases e:P.getLast? with
 |none=>rw[kK]at e;rw[e]at hr;cases hr
 |some q=>
  obtain⟨P',rfl⟩:=gj.mp e;show _<(hdI q).getD 0+1;rcases bK.mp hr with z|z
  .have:=(dS.mp hi).2.2 r z q (aY.mpr rfl)
   simp only at this;lia
  .rw[aY.mp z];lia
def Zaz{o l:Row}{j:Nat}(ho:Zr p n o)(hl:Zr p n l)(h:gt o j=0):clr p o l j=o:=by
 refine Zbp ?_ λk=>?_
 .exact(Xe ho hl).1.trans ho.1.symm
 .unfold clr
  rw[Gj ho hl,h];have:=VZ ppos ho k;simp only[Int.neg_zero,Int.zero_mul,Int.add_zero];exact kS this.1 this.2
def Zbv{P:List Row}{r:Row}(hP:pZ p n P)(hr:r∈Jc p n P):pZ p n (P++[r]):=by
 obtain⟨h,h1,h2,h3,h4⟩:=uU hr;obtain⟨hrow,hone,hzero⟩:=(Jt h2).1 r h4;have:=Jk hP hrow h2 hone hzero λq hq=>bv (ZaI hP hq) h1
 have e:P.map (λo=>clr p o r h)=P:=by
  conv=>rhs;rw[<-List.map_id P]
  exact ee λo ho=>Zaz (hP.row o ho) hrow<|h3 o ho
 rw[e]at this;exact this.1
theorem Y9:∀(k:Nat),∀P∈Yd p n k,pZ p n P/\P.length=k
 |0,P,hP=>by rw[aY.mp hP];exact#[pZ.nil,rfl]
 |k+1,P,hP=>by
  obtain⟨Q,hQ,hP⟩:=fZ.mp hP;obtain⟨r,hr,rfl⟩:=aT.mp hP;obtain⟨a,b⟩:=Y9 k Q hQ;exact#[Zbv a hr,by simp[b]]
end
end Rw
namespace Rw
open Ev (ltP Ym Z8)
noncomputable def Zfg(p n:Nat):Bool:=(aH<|n+1).all λk=>af<|(Yd p n k).length<=1395
noncomputable def G0:List (Nat×Nat):=[(2,1),(2,2),(2,3),(2,4),(3,1),(3,2),(3,3),(5,1),(5,2)]
noncomputable def GQ:List (Nat×Nat):=[(2,5),(2,6),(3,4),(5,3)]
def Zbm:((G0++GQ).all λs=>Zfg s.1 s.2)=ak:=by decide +kernel
open La
section
variable{p n:Nat}[Base p]
theorem yc(hW:pZ p n W)(hr:Zr p n r)(hl:Zr p n l)(h1:Xi p W l=ak)(h2:Xi p W (clr p r l j)=ak):Xi p W r=ak:=by
 rw[Z5 hW hr];have a:=(Z5 hW hl).mp h1;have b:=(Z5 hW<|Xe hr hl).mp h2;rw[show toV p (XE p r l<|-gt r j)=_ from Vd hr hl]at b
 have c:=Vh (toV p r j) b a;have e:(λk=>(toV p r k-toV p r j*toV p l k)+toV p r j*toV p l k)=toV p r:=by funext k;grind
 rw[e]at c;exact c
def qz(hW:pZ p n W)(hr:Zr p n r)(hl:Zr p n l)(h1:Xi p W l=ak)(h2:Xi p W r=ak):Xi p W (clr p r l j)=ak:=by
 show Xi p W (XE p r l<|-gt r j)=ak;rw[Z5 hW<|Xe hr hl];rw[show toV p (XE p r l<|-gt r j)=_ from Vd hr hl]
 exact Uy (toV p r j) ((Z5 hW hr).mp h2)<|(Z5 hW hl).mp h1
theorem qJ(hW:pZ p n W)(hr:Zr p n r)(h:Xi p W r=ak):Xi p W (X5 p r k)=ak:=by
 rw[Z5 hW<|Wn hr];rw[uc];have:=Vh (ph p k) (UH)<|(Z5 hW hr).mp h;have e:(λj=>(0:Fin p)+ph p k*toV p r j)=λj=>ph p k*toV p r j:=by funext j;grind
 rw[e]at this;exact this
def ZbN(hW:pZ p n W)(hr:Zr p n r)(h:∀i,gt r i=0):Xi p W r=ak:=by
 rw[Z5 hW hr];have e:toV p r=λ_=>0:=by funext k;exact(YM hr).mpr<|h k
 rw[e];exact UH
def vY(hW:pZ p n W)(hr:r∈W):Xi p W r=ak:=by
 rw[Z5 hW<|hW.row r hr];exact Vf hW.pn.rf<|YE hr
def Bk(p n:Nat)[NeZero p](R rest found:List Row):Prop:=∀W,pZ p n W->(((∀r∈rest,Xi p W r=ak)/\∀r∈found,Xi p W r=ak)↔∀r∈R,Xi p W r=ak)
def Bk.take{R rest found:List Row}{j:Nat}{f:Row}(B:Bk p n R rest found)(h:Red p n j rest found)(hf:f∈rest):Bk p n R (rest.map λr=>clr p r (lead p f j) j) (found.map (λr=>clr p r (lead p f j) j)++[lead p f j]):=λW hW=>by
 have hl:Zr p n (lead p f j):=Wn<|h.row f hf;rw[<-B W hW]
 constructor
 .intro#[h1,h2]
  have l1:=h2 _<|bt _<|aY.mpr rfl;exact#[λr hr=>yc hW (h.row r hr) hl l1<|h1 _<|aT.mpr #[r,hr,rfl],λr hr=>yc hW (h.part.row r hr) hl l1<|h2 _<|cL _<|aT.mpr #[r,hr,rfl]]
 .intro#[h1,h2]
  have l1:Xi p W (lead p f j)=ak:=qJ hW (h.row f hf)<|h1 f hf;refine#[λr hr=>?_,λr hr=>?_]
  .obtain⟨o,ho,rfl⟩:=aT.mp hr
   exact qz hW (h.row o ho) hl l1<|h1 o ho
  .rcases bK.mp hr with hr|hr
   .obtain⟨o,ho,rfl⟩:=aT.mp hr
    exact qz hW (h.part.row o ho) hl l1<|h2 o ho
   .rw[aY.mp hr];exact l1
def Bk.fin{R rest found:List Row}{j:Nat}(B:Bk p n R rest found)(h:Red p n j rest found)(hj:n<=j):∀r∈R,Xi p found r=ak:=
 (B found h.part).mp #[λr hr=>ZbN h.part (h.row r hr) λi=>by
  by_cases c:i<j
  .exact h.low r hr i c
  .exact wb (by rw[(h.row r hr).1];omega),λr hr=>vY h.part hr]
structure Spans(p n:Nat)[NeZero p](R P:List Row):Prop where
 part:pZ p n P
 holds:∀r∈R,Xi p P r=ak
 least:∀W,pZ p n W->(∀r∈R,Xi p W r=ak)->∀r∈P,Xi p W r=ak
def Spans.uniq(hP:Spans p n R P)(hQ:Spans p n R Q):P=Q:=
 eqP hP.part hQ.part λu=>#[(zH hP.part hQ.part).mp (aS.mpr<|hP.least Q hQ.part hQ.holds) u,(zH hQ.part hP.part).mp (aS.mpr<|hQ.least P hP.part hP.holds) u]
def Spans.self(hP:pZ p n P):Spans p n P P:=#[hP,λr hr=>vY hP hr,λW hW h=>h]
def Bk.spans{R rest found:List Row}{j:Nat}(B:Bk p n R rest found)(h:Red p n j rest found)(hj:n<=j):Spans p n R found:=#[h.part,B.fin h hj,λW hW hR=>((B W hW).mpr hR).2]
end
noncomputable def rise(hs:List Nat):Bool:=(hs.zip hs.tail).all λq=>af<|q.1<q.2
theorem UT:∀{hs:List Nat},rise hs=ak↔hs.Pairwise (· < ·)
 |[]=>by simp[rise]
 |[a]=>by simp[rise]
 |a::b::l=>by
  have ih:=UT (hs:=b::l);unfold rise at ih ⊢;rw[pQ,bR,gv,aB,T0];rw[pQ]at ih
  constructor
  .intro#[h1,h2]
   have h3:=ih.mp h2;refine aZ.mpr #[λx hx=>?_,h3]
   rcases ay.mp hx with rfl|hx
   .exact h1
   .exact dE h1<|(aZ.mp h3).1 x hx
  .intro h
   obtain⟨h1,h2⟩:=aZ.mp h;exact#[h1 b<|ao ..,ih.mpr h2]
noncomputable def Vr(R:List Row)(i k:Nat):Bool:=af (gt (R.getD i []) k=1)&&(R.take i++R.drop (i+1)).all λr=>af<|gt r k=0
noncomputable def UX(R:List Row):Bool:=(R.all λr=>(hdI r).isSome)&&(rise (ZI R)&&(aH R.length).all λi=>Vr R i<|(ZI R).getD i 0)
section
variable{p n:Nat}[Base p]
def GL{R:List Row}{i:Nat}(hi:i<R.length):R.getD i []=R[i]:=by rw[aD,ag hi];rfl
def UO(hi:i<R.length):(ZI R).getD i 0=(hdI R[i]).getD 0:=by
 unfold ZI;rw[aD,aR,ag hi];rfl
def ZeM{R:List Row}{i j:Nat}(hj:j<R.length)(h:j≠i):R[j]∈R.take i++R.drop (i+1):=by
 by_cases c:j<i
 .refine cL _ ?_
  have hl:j<(R.take i).length:=by rw[bE];omega
  rw[<-fI];exact ba hl
 .refine bt _ ?_
  have hl:j-(i+1)<(R.drop<|i+1).length:=by rw[bF];omega
  have e:(R.drop<|i+1)[j-(i+1)]=R[j]:=by rw[fJ];congr 1;omega
  rw[<-e];exact ba hl
def Jj{R:List Row}{i:Nat}{r:Row}(h:r∈R.take i++R.drop (i+1)):∃j,∃(hj:j<R.length),j≠i/\R[j]=r:=by
 rcases bK.mp h with z|z
 .obtain⟨j,hj,e⟩:=cW z
  rw[bE]at hj;exact#[j,by omega,by omega,by rw[<-e,fI]]
 .obtain⟨j,hj,e⟩:=cW z
  rw[bF]at hj;exact#[i+1+j,by omega,by omega,by rw[<-e,fJ]]
def jy:ph p 1=1:=by
 rcases(inferInstance:Base p).b with e|e|e<;>subst e<;>rfl
def vB(hr:Zr p n r):toV p r k=1↔gt r k=1:=by
 have hb:=(inferInstance:Base p).b
 constructor
 .intro h
  refine xk (VZ ppos hr k) #[by omega,by omega] ?_
  rw[jy];exact h
 .intro h
  unfold toV;rw[h,jy]
def Jq{R:List Row}(hR:∀r∈R,Zr p n r):UX R=ak↔pZ p n R:=by
 unfold UX;simp only[aB,aS,bu]
 constructor
 .intro#[h1,h2,h3]
  have hd:∀i (hi:i<R.length),∃k,hdI R[i]=aa k/\gt R[i] k=1/\∀j (hj:j<R.length),j≠i->gt R[j] k=0:=λi hi=>by
   obtain⟨k,hk⟩:=cV.mp<|h1 _<|ba hi;have a:=h3 i hi;unfold Vr at a;rw[UO hi,GL hi,hk,aB,T0,aS]at a;exact#[k,hk,a.1,λj hj ne=>T6<|a.2 _<|ZeM hj ne]
  have inc:=UT.mp h2;have memP:∀a∈toP p R,∃i,∃(hi:i<R.length),a=((hdI R[i]).getD 0,toV p R[i]):=λa ha=>by
   obtain⟨r,hr,rfl⟩:=aT.mp ha;obtain⟨i,hi,rfl⟩:=cW hr;exact#[i,hi,rfl]
  refine#[hR,#[#[?_,λa ha j hj=>?_,λa ha=>?_,λa ha b hb ne=>?_],λa ha=>?_,λa ha=>?_]]
  .rw[<-VI (p:=p)]at inc
   exact dF.mp inc
  .obtain⟨i,hi,rfl⟩:=memP a ha
   obtain⟨k,hk,_,_⟩:=hd i hi;rw[hk]at hj;exact(YM<|hR _<|ba hi).mpr<|(Xf hk).2.2 j hj
  .obtain⟨i,hi,rfl⟩:=memP a ha
   obtain⟨k,hk,h,_⟩:=hd i hi;rw[hk];exact(vB<|hR _<|ba hi).mpr h
  .obtain⟨i,hi,rfl⟩:=memP a ha
   obtain⟨j,hj,rfl⟩:=memP b hb;obtain⟨k,hk,_,h⟩:=hd i hi;rw[hk];refine(YM<|hR _<|ba hj).mpr<|h j hj λe=>?_
   subst e;exact ne rfl
  .obtain⟨i,hi,rfl⟩:=memP a ha
   obtain⟨k,hk,_,_⟩:=hd i hi;rw[hk,<-(hR _<|ba hi).1];exact(Xf hk).2.1
  .obtain⟨i,hi,rfl⟩:=memP a ha
   exact zI<|hR _<|ba hi
 .intro hP
  have hk:∀r∈R,∃k,hdI r=aa k/\k<n/\toV p r k=1:=λr hr=>hP.head fld.one0 hr
  refine#[λr hr=>?_,UT.mpr ?_,λi hi=>?_]
  .obtain⟨k,e,_⟩:=hk r hr
   rw[e];rfl
  .rw[<-VI (p:=p)];exact hP.pn.rf.heads
  .obtain⟨k,e,_,h1⟩:=hk _ (ba hi)
   unfold Vr;rw[UO hi,GL hi,e,aB,T0,aS];refine#[(vB<|hR _<|ba hi).mp h1,λr hr=>?_]
   obtain⟨j,hj,ne,rfl⟩:=Jj hr;refine T5 ?_;obtain⟨k2,e2,_,_⟩:=hk _<|ba hj;have hh:((hdI R[i]).getD 0,toV p R[i]).1≠((hdI R[j]).getD 0,toV p R[j]).1:=by
    have inc:(ZI R).Pairwise (· < ·):=by rw[<-VI (p:=p)];exact hP.pn.rf.heads
    have pw:=bW.mp inc;have li:(ZI R).length=R.length:=by unfold ZI;rw[aw]
    have gi:∀m (hm:m<R.length),(ZI R)[m]'(by omega)=(hdI R[m]).getD 0:=λm hm=>by unfold ZI;rw[List.getElem_map]
    intro z;have z:=z;rcases Nat.lt_or_gt_of_ne ne with c|c
    .have:=pw j i (by omega) (by omega) c
     rw[gi j hj,gi i hi]at this;omega
    .have:=pw i j (by omega) (by omega) c
     rw[gi j hj,gi i hi]at this;omega
   have:=hP.pn.rf.zer _ (YE<|ba hi) _ (YE<|ba hj) hh;rw[e]at this;exact(YM<|hR _<|ba hj).mp this
end
end Rw
namespace K42
open Ev Pv Rw La
def W3{F:List Fn}{tk d f c:Nat}{vs:List V}{s s':DS}{fn:Fn}(hf:F[f]?=aa fn)(hne:f≠tk)(hl:vs.length=fn.ps)(h:rvs (Zm F tk d) (muts fn.body) fn.body (ZJ fn.ns vs) [] s=.ex c s'):Zm F tk (d+1) f vs s=.ex c s':=by
 rw[wS hf hne hl,h];rfl
def Qx{C:ZA}{ms:List Nat}{m:Sm}{l:List Sm}{ρ:Env}{os:List Nat}{s s':DS}{c:Nat}(h:rv C ms m ρ os s=.ex c s'):rvs C ms (m::l) ρ os s=.ex c s':=by rw[rvs,h];rfl
def Wf{C:ZA}{ρ:Env}{s s1 s':DS}{f c:Nat}{as:List E}{vs:List V}(h:pvs C as ρ s=.ok vs s1)(hc:C f vs s1=.ex c s'):pv C (.call f as) ρ s=.ex c s':=by rw[pv,h];exact hc
def ZaA{C:ZA}{ms:List Nat}{ρ:Env}{os:List Nat}{s s':DS}{f c:Nat}{as:List E}(h:pv C (.call f as) ρ s=.ex c s'):rv C ms (.ex<|.call f as) ρ os s=.ex c s':=by
 rw[rv,h]
 .rfl
 all_goals(intro i e z;cases z)
mutual
noncomputable def okV:V->Bool
 |.tup xs=>Y0 xs
 |.lst xs=>Y0 xs
 |.drw=>ai
 |.scr _=>ai
 |.dct (aa _)=>ai
 |_=>ak
noncomputable def Y0:List V->Bool
 |[]=>ak
 |x::xs=>okV x&&Y0 xs
end
theorem Xw:∀{xs:List V},Y0 xs=ak->∀x∈xs,okV x=ak
 |[],_,x,h=>by cases h
 |y::xs,h,x,m=>by
  obtain⟨h1,h2⟩:=(aB _ _).mp h;rcases ay.mp m with rfl|m
  .exact h1
  .exact Xw h2 x m
noncomputable def isW(x:V)(lo hi:Int):Bool:=match x with
 |.int i=>af (lo<=i)&&af (i<=hi)
 |_=>ai
def ZeA{x:V}{lo hi:Int}(h:∀i,x≠.int i):isW x lo hi=ai:=by
 cases x with|int i=>exact T7 rfl<|h i|_=>rfl
def Zbh{x:V}(hx:okV x=ak):(∃i,x=.int i)\/(∃b,x=.bl b)\/ZY x [.int]=aa ai/\∀i,x≠.int i:=by
 cases x with
 |int i=>exact .inl #[i,rfl]
 |bl b=>exact .inr<|.inl #[b,rfl]
 |drw=>cases hx
 |scr _=>cases hx
 |dct o=>cases o with|none=>exact .inr<|.inr #[rfl,nofun]|some _=>cases hx
 |_=>exact .inr<|.inr #[rfl,nofun]
def GG{x:V}(hx:okV x=ak):(∃xs,x=.tup xs)\/ZY x [.tuple]=aa ai/\∀xs,x≠.tup xs:=by
 cases x with
 |tup xs=>exact .inl #[xs,rfl]
 |drw=>cases hx
 |scr _=>cases hx
 |dct o=>cases o with|none=>exact .inr #[rfl,nofun]|some _=>cases hx
 |_=>exact .inr #[rfl,nofun]
def Qo(d:Nat){x:V}{lo hi:Int}(s:DS)(hx:okV x=ak):CV (d+1) 8 [x,.int lo,.int hi] s=.ok (.bl<|isW x lo hi) s:=by
 refine Zq rfl (by decide) rfl ?_
 rcases Zbh hx with⟨i,rfl⟩|⟨b,rfl⟩|⟨ha,no⟩
 .by_cases h:lo<=i
  .simp[Xa,pvE,isW,ZY,Yr,h]
  .simp[Xa,pvE,isW,ZY,Yr,h]
 .simp[Xa,pvE,isW,ZY,Yr]
 .rw[ZeA no]
  simp[Xa,pvE,ha]
noncomputable def ZX(p n:Nat)(x:V):Bool:=match x with
 |.tup xs=>af (xs.length=n)&&xs.all λv=>isW v 0<|(p:Int)-1
 |_=>ai
def qF{p n:Nat}{x:V}(h:∀xs,x≠.tup xs):ZX p n x=ai:=by
 cases x with|tup xs=>exact T7 rfl<|h xs|_=>rfl
theorem vi{p:Nat}:∀{xs:List V},(xs.all λv=>isW v 0<|(p:Int)-1)=ak->∃r:Row,xs=r.map .int/\∀a∈r,0<=a/\a<(p:Int)
 |[],_=>#[[],rfl,λ_ h=>by cases h]
 |x::xs,h=>by
  rw[gv,aB]at h;obtain⟨r,rfl,hr⟩:=vi h.2;cases x with
  |int i=>
   have:=h.1;simp only[isW,aB,T0]at this;refine#[i::r,rfl,λa ha=>?_]
   rcases ay.mp ha with rfl|ha
   .lia
   .exact hr a ha
  |_=>cases h.1
def ZaW{p n:Nat}{x:V}(h:ZX p n x=ak):∃r:Row,x=Zd r/\Zr p n r:=by
 cases x with
 |tup xs=>
  unfold ZX at h;rw[aB,T0]at h;obtain⟨r,rfl,hr⟩:=vi h.2;exact#[r,rfl,by simpa using h.1,hr]
 |_=>cases h
def Zc4{p n:Nat}{r:Row}(hr:Zr p n r):ZX p n (Zd r)=ak:=by
 unfold ZX Zd;rw[aB,T0,aw];refine#[hr.1,aS.mpr λv hv=>?_]
 obtain⟨a,ha,rfl⟩:=aT.mp hv;have:=hr.2 a ha;simp only[isW,aB,T0];lia
theorem JJ:∀r:Row,Y0 (r.map .int)=ak
 |[]=>rfl
 |a::r=>JJ r
def Zap(r:Row):okV (Zd r)=ak:=JJ r
section
variable{p n:Nat}[Base p]
theorem ZcP(d:Nat){x:V}(s:DS)(hn:n<=6)(hx:okV x=ak):CV (d+2) 20 [spV p n,x] s=.ok (.bl<|ZX p n x) s:=by
 refine Zq rfl (by decide) rfl ?_
 dsimp only[zT]
 rw[Zi<|Y5 (p:=p) (n:=n) _ _ (by simp[pvE])<|by simp]
 rcases GG hx with⟨xs,rfl⟩|⟨ha,no⟩
 ·
  by_cases hl:xs.length=n
  .rw[Zi (ρ':=[aa<|spV p n,aa<|.tup xs,aa<|.int p,aa<|.int n]) (os':=[]) (s':=s)<|by simp[pvE,ZY,Yr,Zt,hl]]
   refine Zk<|ZG ?_;have hc:=Zy (C:=CV<|d+1) (cap:=[2]) (nl:=1) (t:=[0]) (it:=.of<|.v 1) (elt:=.call 8 [(.v 0),(.c<|.int 0),(.bin .sub (.v 1)<|.c<|.int 1)]) (ρ:=[aa<|spV p n,aa<|.tup xs,aa<|.int p,aa<|.int n]) (s:=s) (l:=xs) (e:=id) (g:=λv=>V.bl<|isW v 0<|(p:Int)-1)
    (by simp[pvE]) (by unfold lim;lia) (λv hv=>#[_,rfl,by
     have e:=Qo d (lo:=0) (hi:=(p:Int)-1) s<|Xw hx v hv;simp[pvE,e]])
   have ht:=Z0 (g:=λv:V=>isW v 0<|(p:Int)-1) xs
   simp[pvE,hc,ht,ZX,hl]
  .refine Zk ?_
   simp[pvE,ZY,Yr,Zt,ZX,hl];lia
 .rw[qF no]
  exact Zk (by simp[pvE,ha])
theorem uQ(d:Nat){hs:List Nat}(s:DS)(hl:hs.length<=1000):CV (d+1) 18 [.lst<|hs.map Zf] s=.ok (.bl<|rise hs) s:=by
 refine Zq rfl (by decide) rfl ?_
 have ez:∀(a b:List Nat),((a.map Zf).zip<|b.map Zf).map (λq=>V.tup [q.1,q.2])=(a.zip b).map λq=>V.tup [Zf q.1,Zf q.2]:=by
  intro a
  induction a with
  |nil=>intro b;rfl
  |cons x a ih=>intro b;cases b with|nil=>rfl|cons y b=>simp only[aW,bR];rw[ih]
 have hc:=Zy (C:=CV d) (cap:=[]) (nl:=2) (t:=[0,1]) (it:=.zip (.v 0)<|.sl (.v 0) (aa<|.c<|.int 1) ae) (elt:=.cmp .lt (.v 0)<|.v 1) (ρ:=[aa<|.lst<|hs.map Zf]) (s:=s) (l:=hs.zip hs.tail) (g:=λq=>V.bl<|af<|q.1<q.2)
  (by
   have e1:YA (hs.map Zf) (aa 1) ae=hs.tail.map Zf:=by rw[ZaK,rc]
   simp[pvE,slV,e1];rw[<-rc,ez]) (by rw[eO];unfold lim;lia) (λq hq=>#[_,rfl,by simp[pvE,Zf]])
 have ht:=Z0 (g:=λq:Nat×Nat=>af<|q.1<q.2)<|hs.zip hs.tail
 simp[VY,pvE,hc,ht,rise]
theorem xU(d:Nat){R:List Row}{k:Nat}(s:DS)(hl:R.length<=1000)(hk:∀r∈R,k<r.length):CV (d+1) 11 [Zc R,.int k] s=.ok (.bl<|R.all λr=>af<|gt r k=0) s:=by
 refine Zq rfl (by decide) rfl ?_
 have hc:=Zy (C:=CV d) (cap:=[1]) (nl:=1) (t:=[0]) (it:=.of<|.v 0) (elt:=.cmp .eq (.ix (.v 0)<|.v 1)<|.c<|.int 0) (ρ:=[aa<|Zc R,aa<|.int k]) (s:=s) (l:=R) (e:=Zd) (g:=λr=>V.bl<|af<|gt r k=0)
  (by simp[pvE,Zc]) (by unfold lim;lia) (λr hr=>#[_,rfl,by
   have:=Vt<|hk r hr;simp[pvE,Zd,this,Zt]])
 have ht:=Z0 (g:=λr:Row=>af<|gt r k=0) R
 simp[XV,pvE,hc,ht]
theorem Gg(d:Nat){R:List Row}{i k:Nat}(s:DS)(hR:∀r∈R,Zr p n r)(hl:R.length<=1000)(hi:i<R.length)(hk:k<n):CV (d+2) 19 [Zc R,Zf i,Zf k] s=.ok (.bl<|Vr R i k) s:=by
 refine Zq rfl (by decide) rfl ?_
 show rvs (CV<|d+1) [] Xb.body [aa<|Zc R,aa<|.int i,aa<|.int k] [] s=_
 dsimp only[Xb]
 have hrow:=hR _<|ba hi;have e1:at' (R.map Zd) (i:Int)=aa (Zd R[i]):=VQ (by rw[aR,ag hi];rfl)
 have e2:=Vt (k:=k) (by rw[hrow.1];exact hk)
 have e3:=xU d (R:=R.take i++R.drop (i+1)) (k:=k) s (by rw[aX,bE,bF];lia) (λr hr=>by
  obtain⟨j,hj,ne,rfl⟩:=Jj hr;rw[(hR _<|ba hj).1];exact hk)
 have c1:YA (R.map Zd) ae (aa (i:Int))=(R.take i).map Zd:=by rw[jL (by rw[aw];lia),re]
 have c2:YA (R.map Zd) (aa<|(i:Int)+1) ae=(R.drop<|i+1).map Zd:=by rw[G4 (k:=i+1) (by lia) (by rw[aw];lia),List.map_drop]
 have g0:pv (CV<|d+1) (.ix (.ix (.v 0)<|.v 1)<|.v 2) [aa<|Zc R,aa<|.int i,aa<|.int k] s=.ok (.int<|gt R[i] k) s:=by
  rw[pv,pv,Zg rfl,Za,Zg rfl,Za];show((po (at' (R.map Zd) (i:Int)) s).bind _)=_;rw[e1,Z9,Za,Zg rfl,Za];show po (at' (R[i].map V.int) (k:Int)) s=_;rw[e2];rfl
 have g1:pv (CV<|d+1) (.cmp .eq (.ix (.ix (.v 0)<|.v 1)<|.v 2)<|.c<|.int 1) [aa<|Zc R,aa<|.int i,aa<|.int k] s=.ok (.bl<|af<|gt R[i] k=1) s:=by
  rw[pv,g0,Za];simp[pvE,ofD,Zt]
 have g2:pv (CV<|d+1) (.bin .add (.sl (.v 0) ae<|aa<|.v 1)<|.sl (.v 0) (aa<|.bin .add (.v 1)<|.c<|.int 1) ae) [aa<|Zc R,aa<|.int i,aa<|.int k] s=.ok (Zc<|R.take i++R.drop (i+1)) s:=by
  have c3:(R.take i).length+(R.drop<|i+1).length<=16777216:=by rw[bE,bF];lia
  rw[bE,bF]at c3;simp[pvE,Zc,slV,c1,c2,c3]
 have g3:=Zo (Zb g2<|Zb (Zg (i:=2) rfl) Ze) e3;refine Zk<|ZG ?_;rw[pv,g1,Za];unfold Vr;rw[GL hi];cases af (gt R[i] k=1)with|true=>exact g3|false=>rfl
theorem vo:∀R:List Row,X1 .non (R.map λr=>QE<|hdI r)=aa (!(R.all λr=>(hdI r).isSome))
 |[]=>rfl
 |r::R=>by
  show(match eqV Zt (QE<|hdI r) .non,X1 .non (R.map λr=>QE<|hdI r)with|some a,aa b=>aa (a||b)|_,_=>ae)=_
  rw[vo R,gv];cases hdI r with|none=>simp[QE,eqV,Zt]|some k=>simp[QE,eqV,Zt]
def Zaj{R:List Row}(h:(R.all λr=>(hdI r).isSome)=ak):R.map (λr=>QE<|hdI r)=(ZI R).map Zf:=by
 unfold ZI;rw[bT];refine ee λr hr=>?_
 obtain⟨k,hk⟩:=cV.mp<|aS.mp h r hr;show QE (hdI r)=Zf ((hdI r).getD 0);rw[hk];rfl
theorem Zav(d:Nat){R:List Row}(s:DS)(hn:n<=6)(hR:∀r∈R,Zr p n r)(hl:R.length<=1000):rvs (CV<|d+2) [] (Vs.body.drop 1) [aa<|spV p n,aa<|Zc R,ae] [] s=.ok (.ret<|.bl<|UX R) s:=by
 show rvs _ _ (.asg [2] (.comp1 [] 1 [0] (.of<|.v 1) []<|.call 12 [(.v 0)]) ::
  .ite (.or (.cmp .inn (.c .non)<|.v 2)<|.not<|.call 18 [(.v 2)]) [.ret<|.c<|.bl ai] [] ::
  .ret (.blt .all [(.comp1 [1] 2 [0,1] (.enum<|.v 2) []<|.call 19 [(.v 2),(.v 0),(.v 1)])])::[]) _ _ _=_
 have hc2:=Zy (C:=CV<|d+2) (cap:=[]) (nl:=1) (t:=[0]) (it:=.of<|.v 1) (elt:=.call 12 [(.v 0)]) (ρ:=[aa<|spV p n,aa<|Zc R,ae]) (s:=s) (l:=R) (e:=Zd) (g:=λr=>QE<|hdI r)
  (by simp[pvE,Zc]) (by unfold lim;lia) (λx hx=>#[_,rfl,by
   have e:=wg (d+1) x s;simp[pvE,e]])
 rw[Zi (ρ':=[aa<|spV p n,aa<|Zc R,aa<|.lst<|R.map λr=>QE<|hdI r]) (os':=[]) (s':=s)<|by simp[pvE,hc2]]
 have hin:=vo R;unfold UX;cases hh:R.all λr=>(hdI r).isSome with
 |false=>
  rw[hh]at hin;exact Zk (by simp[pvE,V1,hin])
 |true=>
  rw[hh]at hin;rw[Zaj hh]at hin ⊢;have hln:(ZI R).length=R.length:=by unfold ZI;rw[aw]
  have e3:=uQ (d+1) (hs:=ZI R) s (by lia)
  cases hr:rise (ZI R)with
  |false=>
   rw[hr]at e3;exact Zk (by simp[pvE,V1,hin,e3])
  |true=>
  rw[hr]at e3;rw[Zi (ρ':=[aa<|spV p n,aa<|Zc R,aa<|.lst<|(ZI R).map Zf]) (os':=[]) (s':=s)<|by simp[pvE,V1,hin,e3]]
  refine Zk<|ZG ?_;have ew:((ZS 0 (ZI R).length).zip<|(ZI R).map Zf).map (λq=>V.tup [q.1,q.2])=(aH R.length).map λi=>V.tup [Zf i,Zf<|(ZI R).getD i 0]:=by
   apply ly
   .simp[ZS,hln]
   .intro i h1 h2
    have h3:i<R.length:=by simpa using h2
    have h4:i<(ZI R).length:=by lia
    simp[ZS,Zf,h4]
  have hc3:=Zy (C:=CV<|d+2) (cap:=[1]) (nl:=2) (t:=[0,1]) (elt:=.call 19 [(.v 2),(.v 0),(.v 1)]) (s:=s) (l:=aH R.length)
   (by
    have:pvw (CV<|d+2) (.enum<|.v 2) [aa<|spV p n,aa<|Zc R,aa<|.lst<|(ZI R).map Zf] s=.ok (((ZS 0 ((ZI R).map Zf).length).zip<|(ZI R).map Zf).map λq=>V.tup [q.1,q.2]) s:=by simp[pvE]
    rw[this,aw,ew]) (by rw[br];unfold lim;lia) (λi hi=>#[_,rfl,by
    have hi':=bu.mp hi;have hk:(ZI R).getD i 0<n:=by
     rw[UO hi'];obtain⟨k,hk⟩:=cV.mp<|aS.mp hh _<|ba hi';rw[hk,<-(hR _<|ba hi').1];exact(Xf hk).2.1
    exact Zo (Zb (Zg rfl)<|Zb (Zg rfl)<|Zb (Zg rfl) Ze)<|Gg d s hR hl hi' hk])
  have ht3:=Z0 (g:=λi:Nat=>Vr R i<|(ZI R).getD i 0)<|aH R.length
  rw[pv,Zb hc3 Ze,Za];show po ((ZT _).map λbs=>V.bl<|bs.all id) s=_
  rw[ht3];show PR.ok (V.bl<|(mv _ _).all id) s=_;rw[fW];rfl
noncomputable def isP(p n:Nat)(x:V):Bool:=match x with
 |.tup xs=>xs.all (ZX p n)&&match Yb xs with
  |some R=>UX R
  |none=>ai
 |_=>ai
theorem Wm:∀{xs:List V},xs.all (ZX p n)=ak->∃R:List Row,xs=R.map Zd/\∀r∈R,Zr p n r
 |[],_=>#[[],rfl,λ_ h=>by cases h]
 |x::xs,h=>by
  rw[gv,aB]at h;obtain⟨R,rfl,hR⟩:=Wm h.2;obtain⟨r,rfl,hr⟩:=ZaW h.1;refine#[r::R,rfl,λa ha=>?_]
  rcases ay.mp ha with rfl|ha
  .exact hr
  .exact hR a ha
def UB{x:V}:isP p n x=ak↔∃P,x=Zc P/\pZ p n P:=by
 constructor
 .intro h
  cases x with
  |tup xs=>
   unfold isP at h;rw[aB]at h;obtain⟨R,rfl,hR⟩:=Wm h.1;have h2:=h.2;rw[Yz]at h2;exact#[R,rfl,(Jq hR).mp h2]
  |_=>cases h
 .rintro ⟨P,rfl,hP⟩
  show(_&&_)=ak;rw[aB,Yz];refine#[aS.mpr λv hv=>?_,(Jq hP.row).mpr hP]
  obtain⟨r,hr,rfl⟩:=aT.mp hv;exact Zc4<|hP.row r hr
def jI{x:V}(h:∀xs,x≠.tup xs):isP p n x=ai:=by
 cases x with|tup xs=>exact T7 rfl<|h xs|_=>rfl
theorem qX(d:Nat){x:V}(s:DS)(hn:n<=6)(hx:okV x=ak)(hl:∀xs,x=.tup xs->xs.length<=1000):CV (d+3) 21 [spV p n,x] s=.ok (.bl<|isP p n x) s:=by
 refine Zq rfl (by decide) rfl ?_
 show rvs (CV<|d+2) [] (.ite (.or (.not<|.isi (.v 1) [.tuple])<|.not<|.blt .all [(.comp1 [0] 1 [0] (.of<|.v 1) []<|.call 20 [(.v 1),(.v 0)])]) [.ret<|.c<|.bl ai] []::Vs.body.drop 1) [aa<|spV p n,aa x,ae] [] s=_;rcases GG hx with⟨xs,rfl⟩|⟨ha,no⟩
 ·
  have hl:=hl xs rfl;have hc1:=Zy (C:=CV<|d+2) (cap:=[0]) (nl:=1) (t:=[0]) (it:=.of<|.v 1) (elt:=.call 20 [(.v 1),(.v 0)]) (ρ:=[aa<|spV p n,aa<|.tup xs,ae]) (s:=s) (l:=xs) (e:=id) (g:=λv=>V.bl<|ZX p n v)
   (by simp[pvE]) (by unfold lim;lia) (λv hv=>#[_,rfl,by
    have e:=ZcP (p:=p) d s hn<|Xw hx v hv;simp[pvE,e]])
  have ht:=Z0 (g:=λv:V=>ZX p n v) xs
  have hpt:ZY (.tup xs) [.tuple]=aa ak:=rfl;cases ha:xs.all (ZX p n)with
  |false=>
   have hf:(xs.map λv=>ZX p n v).all id=ai:=by rw[fW];exact ha
   refine Zk ?_;simp[pvE,hpt,hc1,ht,isP,ha,hf]
  |true=>
   have hf:(xs.map λv=>ZX p n v).all id=ak:=by rw[fW];exact ha
   rw[Zi (ρ':=[aa<|spV p n,aa<|.tup xs,ae]) (os':=[]) (s':=s)<|by simp[pvE,hpt,hc1,ht,hf]]
   obtain⟨R,rfl,hR⟩:=Wm (p:=p) ha;have e:=Zav d s hn hR (by simpa using hl)
   have eb:isP p n (.tup<|R.map Zd)=UX R:=by
    show((R.map Zd).all (ZX p n)&&match Yb (R.map Zd)with|some R=>UX R|none=>ai)=_
    rw[ha,Yz];rfl
   rw[eb];exact e
 .rw[jI no]
  exact Zk (by simp[pvE,ha])
theorem GP:∀P:List Row,Y0 (P.map Zd)=ak
 |[]=>rfl
 |r::P=>by
  show(okV (Zd r)&&Y0 (P.map Zd))=ak;rw[Zap,GP P];rfl
def Zcc(P:List Row):okV (Zc P)=ak:=GP P
def yJ{P:List Row}(hP:pZ p n P):∀xs,Zc P=.tup xs->xs.length<=n:=λxs e=>by
 cases e;rw[aw];exact dsum hP
def UG(d:Nat){x:V}(s:DS)(hn:n<=6)(hx:okV x=ak)(hl:∀xs,x=.tup xs->xs.length<=1000):CV (d+4) 22 [spV p n,x] s=if isP p n x=ak then .ok .non s else .ex 2 s:=by
 have e:=qX (p:=p) d s hn hx hl;cases h:isP p n x with
 |true=>
  rw[h]at e;refine wR (ρ:=[aa<|spV p n,aa x]) (os:=[]) rfl (by decide) rfl ?_
  simp[Wc,pvE,e]
 |false=>
  rw[h]at e;refine W3 rfl (by decide) rfl ?_
  simp[Wc,pvE,e];rfl
theorem qm(d:Nat){P:List Row}(s:DS)(hn:n<=6)(hP:pZ p n P):CV (d+4) 22 [spV p n,Zc P] s=.ok .non s:=by
 have e:=UG (p:=p) d s hn (Zcc P) λxs z=>by have:=yJ hP xs z;lia
 rw[T9<|UB.mpr #[P,rfl,hP]]at e;exact e
end
section
variable{p n:Nat}[Base p]
def ix0{C:ZA}{i:Nat}{ρ:Env}{s:DS}(h:ρ[i]?=aa (aa<|spV p n)):pv C (.ix (.v i)<|.c<|.int 0) ρ s=.ok (.int p) s:=by
 rw[pv,Zg h,Za,pv];rfl
def ix1{C:ZA}{i:Nat}{ρ:Env}{s:DS}(h:ρ[i]?=aa (aa<|spV p n)):pv C (.ix (.v i)<|.c<|.int 1) ρ s=.ok (.int n) s:=by
 rw[pv,Zg h,Za,pv];rfl
def Ug{C:ZA}{e:E}{x:V}{xs:List V}{ρ:Env}{s:DS}(h:pv C e ρ s=.ok (.lst (x::xs)) s):pv C (.ix e<|.c<|.int 0) ρ s=.ok x s:=by
 rw[pv,h,Za,pv];show po (at' (x::xs) 0) s=_;simp[at',ixN,po]
theorem jn(d:Nat){r o:Row}{k:Int}(s:DS)(hn:n<=6)(hr:Zr p n r)(ho:Zr p n o)(hk:-1000<k/\k<1000):CV (d+1) 4 [spV p n,Zd r,Zd o,.int k] s=.ok (Zd<|XE p r o k) s:=by
 refine Zq (fn:=Xs) rfl (by decide) rfl ?_
 show rvs (CV d) [] Xs.body [aa<|spV p n,aa<|Zd r,aa<|Zd o,aa<|.int k] [] s=_
 dsimp only[Xs]
 have hp:=QI (p:=p);have hc:=Zy (C:=CV d) (cap:=[3,0]) (nl:=2) (t:=[0,1]) (it:=.zip (.v 1)<|.v 2) (elt:=.bin .mod (.bin .add (.v 0)<|.bin .mul (.v 2)<|.v 1)<|.ix (.v 3)<|.c<|.int 0) (ρ:=[aa<|spV p n,aa<|Zd r,aa<|Zd o,aa<|.int k]) (s:=s) (l:=r.zip o) (e:=λq=>V.tup [.int q.1,.int q.2]) (g:=λq=>V.int<|(q.1+k*q.2)%p)
  (by simp[pvE,Zd,WY]) (by rw[eO,hr.1,ho.1];unfold lim;lia) (λq hq=>by
   have h2:=ho.2 q.2 (cH hq).2;refine#[_,rfl,?_];have f1:=ZN (a:=k) (by lia) (by lia)
   have f2:=ZN (a:=q.2) (by lia) (by lia)
   have hp0:0<p:=by lia
   have e0:=ix0 (p:=p) (n:=n) (C:=CV d) (i:=3) (ρ:=[aa<|.int q.1,aa<|.int q.2,aa<|.int k,aa<|spV p n]) (s:=s) rfl;show pv (CV d) _ [aa<|.int q.1,aa<|.int q.2,aa<|.int k,aa<|spV p n] s=_;have g:pv (CV d) (.bin .add (.v 0)<|.bin .mul (.v 2)<|.v 1) [aa<|.int q.1,aa<|.int q.2,aa<|.int k,aa<|spV p n] s=.ok (.int<|q.1+k*q.2) s:=by simp[pvE,f1,f2]
   rw[pv,g,Za,e0,Za];simp[pvF,hp0])
 have e:(r.zip o).map (λq=>V.int<|(q.1+k*q.2)%p)=(XE p r o k).map V.int:=by
  unfold XE;rw[<-im,bT];rfl
 refine Zk<|ZG ?_;rw[pv,Zb hc Ze,e];rfl
theorem Qh(d:Nat)(s:DS)(hn:n<=6):∃r s',CV (d+2) 6 [.drw,spV p n] s=.ok (Zd r) s'/\Zr p n r:=by
 have hp:=QI (p:=p);obtain⟨ys,s',e1,e2,e3⟩:=QS (C:=CV<|d+1) (cap:=[0,1]) (nl:=1) (t:=[0]) (it:=.rng1<|.ix (.v 1)<|.c<|.int 1) (elt:=.call 2 [(.v 1),(.ix (.v 2)<|.c<|.int 0)]) (ρ:=[aa .drw,aa<|spV p n]) (s:=s) (k:=n) (Q:=λy=>∃a:Int,y=.int a/\0<=a/\a<p)
  (by rw[J0];exact YH (ix1 rfl)<|by lia) (by unfold lim;lia) (λx s=>by
   obtain⟨v,s',f1,f2,f3⟩:=zA (F:=fns) (tk:=2) (d:=d) (m:=p) s (by lia) (by lia)
   refine#[[aa x,aa .drw,aa<|spV p n],.int v,s',rfl,Zo (Zb (Zg rfl)<|Zb (ix0 (p:=p) (n:=n) rfl) Ze) f1,v,rfl,f2,f3])
 have:∃r:Row,ys=r.map V.int/\∀a∈r,0<=a/\a<(p:Int):=by
  clear e1 e2
  induction ys with
  |nil=>exact#[[],rfl,λ_ h=>by cases h]
  |cons y ys ih=>
   obtain⟨r,h1,h2⟩:=ih λz hz=>e3 z<|au _ hz
   obtain⟨a,rfl,h3⟩:=e3 y<|ao ..;refine#[a::r,by rw[h1];rfl,λx hx=>?_]
   rcases ay.mp hx with rfl|hx
   .exact h3
   .exact h2 x hx
 obtain⟨r,rfl,h2⟩:=this;refine#[r,s',Zq (fn:=YC) rfl (by decide) rfl ?_,by simpa using e2,h2]
 show rvs (CV<|d+1) [] YC.body [aa .drw,aa<|spV p n] [] s=_
 dsimp only[YC]
 refine Zk<|ZG ?_;rw[pv,Zb e1 Ze];rfl
noncomputable def ZbG:List Sm:=[.asg [5]<|.comp1 [4] 1 [0] (.of<|.v 2) [(.cmp .ne (.ix (.v 0)<|.v 1)<|.c<|.int 0)]<|.v 0,
  .ite (.cmp .ne (.v 5)<|.lst []) [.asg [6]<|.ix (.comp1 [5,4,0] 1 [0] (.rng1<|.ix (.v 0)<|.c<|.int 0) [(.cmp .eq (.bin .mod (.bin .mul (.v 0)<|.ix (.ix (.v 1)<|.c<|.int 0)<|.v 2)<|.ix (.v 3)<|.c<|.int 0)<|.c<|.int 1)]<|.v 0)<|.c<|.int 0,
  .asg [7] (.blt .tuple [(.comp1 [6,0] 1 [0] (.of<|.ix (.v 5)<|.c<|.int 0) []<|.bin .mod (.bin .mul (.v 1)<|.v 0)<|.ix (.v 2)<|.c<|.int 0)]),
  .asg [2] (.comp1 [0,7,4] 1 [0] (.of<|.v 2) []<|.call 4 [(.v 1),(.v 0),(.v 2),(.neg<|.ix (.v 0)<|.v 3)]),
  .asg [3] (.bin .add (.comp1 [0,7,4] 1 [0] (.of<|.v 3) []<|.call 4 [(.v 1),(.v 0),(.v 2),(.neg<|.ix (.v 0)<|.v 3)])<|.lst [(.v 7)])] []]
theorem jT(d:Nat){rest found:List Row}{j:Nat}{v:V}{a5 a6 a7:Option V}(s:DS)(hn:n<=6)(hj:j<n){R:List Row}(hR:Red p n j rest found)(hB:Bk p n R rest found)(hl:rest.length<=1000)(hl2:found.length<=1000):∃rest' found' b5 b6 b7,rvs (CV<|d+1) [] ZbG [aa<|spV p n,aa v,aa<|.lst<|rest.map Zd,aa<|.lst<|found.map Zd,aa<|Zf j,a5,a6,a7] [] s=.ok (.nx [aa<|spV p n,aa v,aa<|.lst<|rest'.map Zd,aa<|.lst<|found'.map Zd,aa<|Zf j,b5,b6,b7] []) s/\Red p n (j+1) rest' found'/\rest'.length=rest.length/\found'.length<=found.length+1/\Bk p n R rest' found':=by
 have hp:=QI (p:=p);have hatj:=λr hr=>Vt (by rw[(hR.row r hr).1];exact hj)
 have hc1:=Yl (C:=CV<|d+1) (cap:=[4]) (nl:=1) (t:=[0]) (it:=.of<|.v 2) (tst:=.cmp .ne (.ix (.v 0)<|.v 1)<|.c<|.int 0) (elt:=.v 0) (ρ:=[aa<|spV p n,aa v,aa<|.lst<|rest.map Zd,aa<|.lst<|found.map Zd,aa<|Zf j,a5,a6,a7]) (s:=s) (l:=rest) (e:=Zd) (g:=Zd) (q:=λr=>af<|gt r j≠0)
  (by simp[pvE]) (by unfold lim;lia) (λr hr=>#[[aa<|Zd r,aa<|Zf j],.bl<|af<|gt r j≠0,rfl,by
   have:=hatj r hr;simp[pvE,Zd,Zf,this,Zt],rfl,λ_=>Zg rfl])
 unfold ZbG;rw[Zi<|ZE hc1 rfl];show ∃rest' found' b5 b6 b7,rvs (CV<|d+1) [] _ [aa<|spV p n,aa v,aa<|.lst<|rest.map Zd,aa<|.lst<|found.map Zd,aa<|Zf j,aa<|.lst<|(rest.filter λr=>af<|gt r j≠0).map Zd,_,_] [] s=_/\_
 cases q:rest.filter λr=>af (gt r j≠0)with
 |nil=>
  refine#[rest,found,aa<|.lst<|[].map Zd,a6,a7,?_,jP hR λr hr=>?_,rfl,by lia,hB]
  .have e1:Xj (CV<|d+1) (.cmp .ne (.v 5)<|.lst []) [aa<|spV p n,aa v,aa<|.lst<|rest.map Zd,aa<|.lst<|found.map Zd,aa<|Zf j,aa<|.lst<|[].map Zd,a6,a7] s=.ok ai s:=by
    refine Yh (v:=.bl ai) ?_ rfl;rw[pv,Zg (v:=.lst []) rfl];simp[pvE,Zt,Yt]
   rw[Zi ((Yu e1).trans<|by rw[T8 (by simp),rvs]),rvs]
  .have:=List.filter_eq_nil_iff.mp q r hr
   simpa using this
 |cons f fs=>
  have hf:f∈rest/\gt f j≠0:=by
   have:f∈rest.filter λr=>af (gt r j≠0):=by rw[q];exact ao ..
   rw[db]at this;exact#[this.1,by simpa using this.2]
  have hfr:=hR.row f hf.1;have hg:=VZ ppos hfr j;obtain⟨io1,io2⟩:=qy (p:=p) (a:=gt f j) (by lia) hg.2
  have hl1:Zr p n (lead p f j):=Wn hfr;have hi:0<=Xh p (gt f j)/\Xh p (gt f j)<1000:=by
   unfold Xh
   repeat' split
   all_goals lia
  let ρ0:Env:=[aa<|spV p n,aa v,aa<|.lst<|rest.map Zd,aa<|.lst<|found.map Zd,aa<|Zf j,aa<|.lst<|(f::fs).map Zd,a6,a7]
  have e1:Xj (CV<|d+1) (.cmp .ne (.v 5)<|.lst []) ρ0 s=.ok ak s:=by
   refine Yh (v:=.bl ak) ?_ rfl;rw[pv,Zg (v:=.lst<|(f::fs).map Zd) rfl];simp[pvE,Zt]
  have ef:pv (CV<|d+1) (.ix (.v 5)<|.c<|.int 0) ρ0 s=.ok (Zd f) s:=by
   exact Ug<|Zg rfl
  have hatf:=Vt (r:=f) (k:=j) (by rw[hfr.1];exact hj)
  have hc2:=Yl (C:=CV<|d+1) (cap:=[5,4,0]) (nl:=1) (t:=[0]) (it:=.rng1<|.ix (.v 0)<|.c<|.int 0) (tst:=.cmp .eq (.bin .mod (.bin .mul (.v 0)<|.ix (.ix (.v 1)<|.c<|.int 0)<|.v 2)<|.ix (.v 3)<|.c<|.int 0)<|.c<|.int 1) (elt:=.v 0) (ρ:=ρ0) (s:=s) (l:=aH p) (e:=Zf) (g:=Zf) (q:=λk=>af<|(k:Int)*gt f j%p=1)
   (YH (ix0 rfl)<|by lia) (by rw[br];unfold lim;lia) (λk hk=>#[[aa<|Zf k,aa<|.lst<|(f::fs).map Zd,aa<|Zf j,aa<|spV p n],.bl<|af<|(k:Int)*gt f j%p=1,rfl,by
    have hk':=bu.mp hk;have f1:=ZN (a:=(k:Int)) (by lia) (by lia)
    have f2:=ZN (a:=gt f j) (by lia) (by lia)
    have g1:pv (CV<|d+1) (.ix (.ix (.v 1)<|.c<|.int 0)<|.v 2) [aa<|Zf k,aa<|.lst<|(f::fs).map Zd,aa<|Zf j,aa<|spV p n] s=.ok (.int<|gt f j) s:=by
     have g0:pv (CV<|d+1) (.ix (.v 1)<|.c<|.int 0) [aa<|Zf k,aa<|.lst<|(f::fs).map Zd,aa<|Zf j,aa<|spV p n] s=.ok (Zd f) s:=by
      exact Ug<|Zg rfl
     rw[pv,g0,Za,Zg (v:=Zf j) rfl,Za];show po (at' (f.map V.int) (j:Int)) s=_;rw[hatf];rfl
    have g2:=ix0 (p:=p) (n:=n) (C:=CV<|d+1) (i:=3) (ρ:=[aa<|Zf k,aa<|.lst<|(f::fs).map Zd,aa<|Zf j,aa<|spV p n]) (s:=s) rfl;have g3:pv (CV<|d+1) (.bin .mul (.v 0)<|.ix (.ix (.v 1)<|.c<|.int 0)<|.v 2) [aa<|Zf k,aa<|.lst<|(f::fs).map Zd,aa<|Zf j,aa<|spV p n] s=.ok (.int<|(k:Int)*gt f j) s:=by
     rw[pv,Zg (v:=Zf k) rfl,Za,g1,Za];simp[Zf,YZ,QC,f1,f2]
    have hp0:0<p:=by lia
    rw[pv,pv,g3,Za,g2,Za];simp[pvE,Zt,hp0],rfl,λ_=>Zg rfl])
  rw[io1]at hc2;have e6:pv (CV<|d+1) (.ix (.comp1 [5,4,0] 1 [0] (.rng1<|.ix (.v 0)<|.c<|.int 0) [(.cmp .eq (.bin .mod (.bin .mul (.v 0)<|.ix (.ix (.v 1)<|.c<|.int 0)<|.v 2)<|.ix (.v 3)<|.c<|.int 0)<|.c<|.int 1)]<|.v 0)<|.c<|.int 0) ρ0 s=.ok (.int<|Xh p<|gt f j) s:=by
   have:=Ug hc2;rw[Zf,io2]at this;exact this
  let ρ1:Env:=[aa<|spV p n,aa v,aa<|.lst<|rest.map Zd,aa<|.lst<|found.map Zd,aa<|Zf j,aa<|.lst<|(f::fs).map Zd,aa<|.int<|Xh p<|gt f j,a7]
  have ef1:pv (CV<|d+1) (.ix (.v 5)<|.c<|.int 0) ρ1 s=.ok (Zd f) s:=by
   exact Ug<|Zg rfl
  have hc3:=Zy (C:=CV<|d+1) (cap:=[6,0]) (nl:=1) (t:=[0]) (it:=.of<|.ix (.v 5)<|.c<|.int 0) (elt:=.bin .mod (.bin .mul (.v 1)<|.v 0)<|.ix (.v 2)<|.c<|.int 0) (ρ:=ρ1) (s:=s) (l:=f) (e:=V.int) (g:=λa=>V.int<|Xh p (gt f j)*a%p)
   (by rw[pvw,ef1];rfl) (by rw[hfr.1];unfold lim;lia) (λa ha=>#[[aa<|.int a,aa<|.int<|Xh p<|gt f j,aa<|spV p n],rfl,by
    have h2:=hfr.2 a ha;have f1:=ZN (a:=Xh p<|gt f j) (by lia) (by lia)
    have f2:=ZN (a:=a) (by lia) (by lia)
    have g2:=ix0 (p:=p) (n:=n) (C:=CV<|d+1) (i:=2) (ρ:=[aa<|.int a,aa<|.int<|Xh p<|gt f j,aa<|spV p n]) (s:=s) rfl;have hp0:0<p:=by lia
    have g:pv (CV<|d+1) (.bin .mul (.v 1)<|.v 0) [aa<|.int a,aa<|.int<|Xh p<|gt f j,aa<|spV p n] s=.ok (.int<|Xh p (gt f j)*a) s:=by simp[pvE,f1,f2]
    rw[pv,g,Za,g2,Za];simp[pvF,hp0]])
  have el:f.map (λa=>V.int<|Xh p (gt f j)*a%p)=(lead p f j).map V.int:=by unfold lead X5;rw[bT];rfl
  rw[el]at hc3;have e7:pv (CV<|d+1) (.blt .tuple [(.comp1 [6,0] 1 [0] (.of<|.ix (.v 5)<|.c<|.int 0) []<|.bin .mod (.bin .mul (.v 1)<|.v 0)<|.ix (.v 2)<|.c<|.int 0)]) ρ1 s=.ok (Zd<|lead p f j) s:=by
   rw[pv,Zb hc3 Ze];rfl
  let ρ2:Env:=[aa<|spV p n,aa v,aa<|.lst<|rest.map Zd,aa<|.lst<|found.map Zd,aa<|Zf j,aa<|.lst<|(f::fs).map Zd,aa<|.int<|Xh p<|gt f j,aa<|Zd<|lead p f j]
  have elt:∀r:Row,Zr p n r->pv (CV<|d+1) (.call 4 [(.v 1),(.v 0),(.v 2),(.neg<|.ix (.v 0)<|.v 3)]) [aa<|Zd r,aa<|spV p n,aa<|Zd<|lead p f j,aa<|Zf j] s=.ok (Zd<|clr p r (lead p f j) j) s:=λr hr=>by
   have hgr:=VZ ppos hr j;have h3:=Vt (r:=r) (k:=j) (by rw[hr.1];exact hj)
   have g1:pv (CV<|d+1) (.neg<|.ix (.v 0)<|.v 3) [aa<|Zd r,aa<|spV p n,aa<|Zd<|lead p f j,aa<|Zf j] s=.ok (.int<|-(gt r j)) s:=by
    simp[pvE,Zd,Zf,h3]
   exact Zo (Zb (Zg rfl)<|Zb (Zg rfl)<|Zb (Zg rfl)<|Zb g1 Ze)<|jn d s hn hr hl1 #[by lia,by lia]
  have hc4:=Zy (C:=CV<|d+1) (cap:=[0,7,4]) (nl:=1) (t:=[0]) (it:=.of<|.v 2) (ρ:=ρ2) (s:=s) (l:=rest) (e:=Zd)
   (by rw[pvw,Zg (v:=.lst<|rest.map Zd) rfl];rfl) (by unfold lim;lia) (λr hr=>#[_,rfl,elt r<|hR.row r hr])
  let ρ3:Env:=[aa<|spV p n,aa v,aa<|.lst<|rest.map λr=>Zd<|clr p r (lead p f j) j,aa<|.lst<|found.map Zd,aa<|Zf j,aa<|.lst<|(f::fs).map Zd,aa<|.int<|Xh p<|gt f j,aa<|Zd<|lead p f j]
  have hc5:=Zy (C:=CV<|d+1) (cap:=[0,7,4]) (nl:=1) (t:=[0]) (it:=.of<|.v 3) (ρ:=ρ3) (s:=s) (l:=found) (e:=Zd) (g:=λr=>Zd<|clr p r (lead p f j) j)
   (by rw[pvw,Zg (v:=.lst<|found.map Zd) rfl];rfl) (by unfold lim;lia) (λr hr=>#[_,rfl,elt r<|hR.part.row r hr])
  have e9:pv (CV<|d+1) (.bin .add (.comp1 [0,7,4] 1 [0] (.of<|.v 3) []<|.call 4 [(.v 1),(.v 0),(.v 2),(.neg<|.ix (.v 0)<|.v 3)])<|.lst [(.v 7)]) ρ3 s=.ok (.lst<|(found.map λr=>Zd<|clr p r (lead p f j) j)++[Zd<|lead p f j]) s:=by
   have hll:pv (CV<|d+1) (.lst [(.v 7)]) ρ3 s=.ok (.lst [Zd<|lead p f j]) s:=by
    rw[pv,Zb (Zg (v:=Zd<|lead p f j) rfl) Ze,Za,T9<|by simp[lim]]
   rw[pv,hc5,Za,hll,Za];show(if(found.map λr=>Zd<|clr p r (lead p f j) j).length+[Zd<|lead p f j].length<=lim then _ else _)=_
   rw[T9<|by rw[aw,cE];unfold lim;lia]
  refine#[rest.map λr=>clr p r (lead p f j) j,found.map (λr=>clr p r (lead p f j) j)++[lead p f j],aa<|.lst<|(f::fs).map Zd,aa<|.int<|Xh p<|gt f j,aa<|Zd<|lead p f j,?_,qB hR hj hf.1 hf.2,by rw[aw],by simp,hB.take hR hf.1]
  rw[Zi (ρ':=[aa<|spV p n,aa v,aa<|.lst<|rest.map λr=>Zd<|clr p r (lead p f j) j,aa<|.lst<|(found.map λr=>Zd<|clr p r (lead p f j) j)++[Zd<|lead p f j],aa<|Zf j,aa<|.lst<|(f::fs).map Zd,aa<|.int<|Xh p<|gt f j,aa<|Zd<|lead p f j]) (os':=[]) (s':=s) ((Yu e1).trans (by
   rw[T9 rfl,Zi<|ZE e6 rfl];show rvs _ _ _ ρ1 [] s=_;rw[Zi<|ZE e7 rfl];show rvs _ _ _ ρ2 [] s=_;rw[Zi<|ZE hc4 rfl];show rvs _ _ _ ρ3 [] s=_;rw[Zi<|ZE e9 rfl,rvs];rfl)),rvs]
  rw[bT,bM,bT];rfl
theorem yV{n j:Nat}{x:Nat}{l:List Nat}(h:x::l=(aH n).drop j):x=j/\j<n/\l=(aH n).drop (j+1):=by
 have hj:j<n:=by
  by_cases c:j<n
  .exact c
  .rw[List.drop_eq_nil_of_le<|by rw[br];lia]at h;cases h
 rw[cq<|by rw[br];exact hj]at h
 injection h with h1 h2
 exact#[by rw[h1,List.getElem_range],hj,h2]
theorem V2(d:Nat){R:List Row}{v:V}(s:DS)(hn:n<=6)(hR:∀r∈R,Zr p n r)(hl:R.length<=1000)(hv:YK v=aa (R.map Zd)):∃P,CV (d+2) 5 [spV p n,v] s=.ok (Zc P) s/\Spans p n R P:=by
 let I:List Nat->Env->Prop:=λl ρ=>∃rest found j a4 a5 a6 a7,ρ=[aa<|spV p n,aa v,aa<|.lst<|rest.map Zd,aa<|.lst<|found.map Zd,a4,a5,a6,a7]/\l=(aH n).drop j/\Red p n j rest found/\rest.length<=1000/\found.length<=j/\Bk p n R rest found
 obtain⟨ρ',hI,e⟩:=Vq (C:=CV<|d+1) (ms:=[]) (t:=[4]) (it:=.rng1<|.ix (.v 0)<|.c<|.int 1) (b:=ZbG) (L:=aH n) (e:=Zf) (os:=[]) (s:=s) (ρ:=[aa<|spV p n,aa v,aa<|.lst<|R.map Zd,aa<|.lst [],ae,ae,ae,ae]) I
  (YH (ix1 rfl)<|by lia) #[R,[],0,ae,ae,ae,ae,rfl,rfl,#[hR,λr _ i hi=>by lia,pZ.nil,λr hr=>by cases hr],hl,aG _,λW hW=>#[λh=>h.1,λh=>#[h,λr hr=>by cases hr]]] rfl (λx l ρ hx=>by
   obtain⟨rest,found,j,a4,a5,a6,a7,rfl,hl',hred,h1,h2,h3⟩:=hx;obtain⟨rfl,hj,hl2⟩:=yV hl';obtain⟨rest',found',b5,b6,b7,e1,e2,e3,e4,e5⟩:=jT (p:=p) (n:=n) d (rest:=rest) (found:=found) (j:=x) (v:=v) (a5:=a5) (a6:=a6) (a7:=a7) s hn hj hred h3 h1 (by lia)
   exact#[rfl,_,_,rfl,e1,rest',found',x+1,_,_,_,_,rfl,hl2,e2,by lia,by lia,e5])
 obtain⟨rest,found,j,a4,a5,a6,a7,rfl,hz,hred,_,_,hB⟩:=hI;have hj:n<=j:=by
  have:=congrArg List.length hz;rw[bF,br,gB]at this;lia
 refine#[found,Zq (fn:=Yo) rfl (by decide) rfl ?_,hB.spans hred hj]
 show rvs (CV<|d+1) [] Yo.body [aa<|spV p n,aa v,ae,ae,ae,ae,ae,ae] [] s=_
 dsimp only[Yo]
 have hlst:pv (CV<|d+1) (.blt .list [(.v 1)]) [aa<|spV p n,aa v,ae,ae,ae,ae,ae,ae] s=.ok (.lst<|R.map Zd) s:=by
  rw[pv,Zb (Zg (v:=v) rfl) Ze,Za];show po ((YK v).map V.lst) s=_;rw[hv];rfl
 rw[Zi<|ZE hlst rfl];show rvs _ _ _ [aa<|spV p n,aa v,aa<|.lst<|R.map Zd,ae,ae,ae,ae,ae] _ _=_;rw[Zi (ρ':=[aa<|spV p n,aa v,aa<|.lst<|R.map Zd,aa<|.lst [],ae,ae,ae,ae]) (os':=[]) (s':=s)<|by simp[pvE]]
 show rvs _ _ (.forr [4] (.rng1<|.ix (.v 0)<|.c<|.int 1) ZbG::_) _ _ _=_;rw[Zi e];exact Zk<|ZG<|by simp[pvE,Zc]
theorem qU(d:Nat)(s:DS)(hn:n<=6):∃P s',CV (d+3) 7 [.drw,spV p n] s=.ok (Zc P) s'/\pZ p n P:=by
 obtain⟨v,s1,f1,f2,f3⟩:=zA (F:=fns) (tk:=2) (d:=d+1) (m:=(n:Int)+1) s (by lia) (by lia)
 obtain⟨k,rfl⟩:∃k:Nat,v=k:=#[v.toNat,by lia]
 obtain⟨ys,s2,e1,e2,e3⟩:=QS (C:=CV<|d+2) (cap:=[0,1]) (nl:=1) (t:=[0]) (it:=.rng1<|.v 2) (elt:=.call 6 [(.v 1),(.v 2)]) (ρ:=[aa .drw,aa<|spV p n,aa<|.int k]) (s:=s1) (k:=k) (Q:=λy=>∃r:Row,y=Zd r/\Zr p n r)
  (by rw[J0];exact YH (Zg rfl)<|by lia) (by unfold lim;lia) (λx s=>by
   obtain⟨r,s',g1,g2⟩:=Qh (p:=p) (n:=n) d s hn;exact#[[aa x,aa .drw,aa<|spV p n],Zd r,s',rfl,Zo (Zb (Zg rfl)<|Zb (Zg rfl) Ze) g1,r,rfl,g2])
 have:∃R:List Row,ys=R.map Zd/\∀r∈R,Zr p n r:=by
  clear e1 e2
  induction ys with
  |nil=>exact#[[],rfl,λ_ h=>by cases h]
  |cons y ys ih=>
   obtain⟨r,h1,h2⟩:=ih λz hz=>e3 z<|au _ hz
   obtain⟨a,rfl,h3⟩:=e3 y<|ao ..;refine#[a::r,by rw[h1];rfl,λx hx=>?_]
   rcases ay.mp hx with rfl|hx
   .exact h3
   .exact h2 x hx
 obtain⟨R,rfl,hR⟩:=this;rw[aw]at e2;obtain⟨P,e4,hP⟩:=V2 (p:=p) (n:=n) d (v:=.lst<|R.map Zd) s2 hn hR (by lia) rfl
 refine#[P,s2,Zq (fn:=Xo) rfl (by decide) rfl ?_,hP.part]
 show rvs (CV<|d+2) [] Xo.body [aa .drw,aa<|spV p n,ae] [] s=_
 dsimp only[Xo]
 have g1:pv (CV<|d+2) (.bin .add (.ix (.v 1)<|.c<|.int 1)<|.c<|.int 1) [aa .drw,aa<|spV p n,ae] s=.ok (.int<|(n:Int)+1) s:=by
  rw[pv,ix1 (p:=p) (n:=n) rfl];simp[pvE]
 rw[Zi<|ZE (Zo (Zb (Zg rfl)<|Zb g1 Ze) f1) rfl];exact Zk<|ZG<|Zo (Zb (Zg rfl)<|Zb e1 Ze) e4
end
def Zc3{c:Bool}(h1:pv C a ρ s=.ok (.bl ai) s)(h2:pv C b ρ s=.ok (.bl c) s):pv C (.or a b) ρ s=.ok (.bl c) s:=by rw[pv,h1];exact h2
def Zev{c c':Bool}(h1:pv C a ρ s=.ok (.bl c) s)(h2:pv C b ρ s=.ok (.bl c') s):pv C (.and a b) ρ s=.ok (.bl<|c&&c') s:=by
 rw[pv,h1];cases c
 .rfl
 .exact h2
def Vz{c:Bool}(h1:pv C a ρ s=.ok (.bl c) s):pv C (.not a) ρ s=.ok (.bl !c) s:=by rw[pv,h1];rfl
def Jv{P Q:List Row}(h1:pv C a ρ s=.ok (Zc P) s)(h2:pv C b ρ s=.ok (Zc Q) s):pv C (.cmp .eq a b) ρ s=.ok (.bl<|af<|P=Q) s:=by
 rw[pv,h1,Za,h2,Za];show po ((eqV Zt (Zc P)<|Zc Q).map V.bl) s=_;rw[Zt,Zah];rfl
def guard{ms:List Nat}{t:E}{x l:List Sm}(h:pv C t ρ s=.ok (.bl ai) s):rvs C ms (.ite t x []::l) ρ [] s=rvs C ms l ρ [] s:=by
 rw[Zi<|(Yu<|Yh h rfl).trans<|by rw[T8 (by simp),rvs]]
def Zbg{P:List Row}(h1:pv C a ρ s=.ok (Zc P) s):pv C (.blt .len [a]) ρ s=.ok (.int P.length) s:=by
 rw[pv,Zb h1 Ze,Za];show po (aa<|V.int (P.map Zd).length) s=_;rw[aw];rfl
def Zay{x y:Int}(h1:pv C a ρ s=.ok (.int x) s)(h2:pv C b ρ s=.ok (.int y) s):pv C (.bin .add a b) ρ s=.ok (.int<|x+y) s:=by
 rw[pv,h1,Za,h2,Za];rfl
def VT{x y:List V}(h1:pv C a ρ s=.ok (.lst x) s)(h2:pv C b ρ s=.ok (.lst y) s)(h:x.length+y.length<=lim):pv C (.bin .add a b) ρ s=.ok (.lst<|x++y) s:=by
 rw[pv,h1,Za,h2,Za];show(if x.length+y.length<=lim then _ else _)=_
 rw[T9 h]
noncomputable def menu:List (Nat×Nat×Nat):=[(2,2,1),(4,2,2),(8,2,3),(16,2,4),(32,2,5),(64,2,6),(3,3,1),(9,3,2),(27,3,3),(81,3,4),(5,5,1),(25,5,2),(125,5,3)]
def ZbB:∀q∈menu,(q.2.1=2\/q.2.1=3\/q.2.1=5)/\1<=q.2.2/\q.2.2<=6/\q.2∈G0++GQ:=by decide
def ut(d:Nat){m:Int}(s:DS)(hm:2<=m):∃p n s',CV (d+2) 3 [.drw,.int m] s=.ok (spV p n) s'/\(p=2\/p=3\/p=5)/\1<=n/\n<=6/\(p,n)∈G0++GQ:=by
 let L:=menu.filter λq=>af<|(q.1:Int)<=m
 have hL:0<L.length:=List.length_pos_of_mem (a:=(2,2,1))<|db.mpr #[ao ..,T5 hm];have hL2:L.length<=13:=fG ..;have hc:=Yl (C:=CV<|d+1) (cap:=[1]) (nl:=2) (t:=[0,1]) (it:=.of<|.v 2) (tst:=.cmp .le (.v 0)<|.v 2) (elt:=.v 1) (ρ:=[aa .drw,aa<|.int m,aa<|.lst<|menu.map λq=>.tup [.int q.1,spV q.2.1 q.2.2]]) (s:=s) (l:=menu) (e:=λq=>.tup [.int q.1,spV q.2.1 q.2.2]) (g:=λq=>spV q.2.1 q.2.2) (q:=λq=>af<|(q.1:Int)<=m)
  (by rw[pvw,Zg (v:=.lst<|menu.map λq=>.tup [.int q.1,spV q.2.1 q.2.2]) rfl];rfl) (by decide) (λq _=>#[[aa<|.int q.1,aa<|spV q.2.1 q.2.2,aa<|.int m],.bl<|af<|(q.1:Int)<=m,rfl,by
   rw[pv,Zg (v:=.int q.1) rfl,Za,Zg (v:=.int m) rfl];rfl,rfl,λ_=>Zg rfl])
 obtain⟨v,s',f1,f2,f3⟩:=zA (F:=fns) (tk:=2) (d:=d) (m:=L.length) s (by omega) (by omega)
 obtain⟨k,rfl⟩:∃k:Nat,v=k:=#[v.toNat,by omega]
 have hk:k<L.length:=by omega
 have hq:=ZbB _ (db.mp<|ba hk).1;refine#[L[k].2.1,L[k].2.2,s',Zq (fn:=YV) rfl (by decide) rfl ?_,hq]
 show rvs (CV<|d+1) [] YV.body [aa .drw,aa<|.int m,ae] [] s=_
 dsimp only[YV]
 rw[Zi (ρ':=[aa .drw,aa<|.int m,aa<|.lst<|(menu.take 8).map λq=>.tup [.int q.1,spV q.2.1 q.2.2]]) (os':=[]) (s':=s)<|by simp[pvE,menu,spV]]
 rw[Zi (ρ':=[aa .drw,aa<|.int m,aa<|.lst<|menu.map λq=>.tup [.int q.1,spV q.2.1 q.2.2]]) (os':=[]) (s':=s)<|by simp[pvE,menu,spV]]
 rw[Zi<|ZE hc rfl];show rvs _ _ _ [aa .drw,aa<|.int m,aa<|.lst<|L.map λq=>spV q.2.1 q.2.2] _ _=_
 refine Zk<|ZG ?_;have e1:pv (CV<|d+1) (.blt .len [(.v 2)]) [aa .drw,aa<|.int m,aa<|.lst<|L.map λq=>spV q.2.1 q.2.2] s=.ok (.int L.length) s:=by
  rw[pv,Zb (Zg (v:=.lst<|L.map λq=>spV q.2.1 q.2.2) rfl) Ze,Za]
  show po (aa<|V.int (L.map λq=>spV q.2.1 q.2.2).length) s=_
  rw[aw];rfl
 rw[pv,Zg (v:=.lst<|L.map λq=>spV q.2.1 q.2.2) rfl,Za,Zo (Zb (Zg rfl)<|Zb e1 Ze) f1,Za]
 show po (at' (L.map λq=>spV q.2.1 q.2.2) (k:Int)) s'=_
 rw[VQ (x:=spV L[k].2.1 L[k].2.2)<|by rw[aR,ag hk];rfl];rfl
section
variable{p n:Nat}[Base p]
theorem zq(d:Nat){P:List Row}{h:Nat}(s:DS)(hP:∀r∈P,Zr p n r)(hl:P.length<=1000)(hh:h<n):CV (d+1) 11 [Zc P,Zf h] s=.ok (.bl<|P.all λr=>af<|gt r h=0) s:=by
 refine Zq rfl (by decide) rfl ?_
 have hc:=Zy (C:=CV d) (cap:=[1]) (nl:=1) (t:=[0]) (it:=.of<|.v 0) (elt:=.cmp .eq (.ix (.v 0)<|.v 1)<|.c<|.int 0) (ρ:=[aa<|Zc P,aa<|Zf h]) (s:=s) (l:=P) (e:=Zd) (g:=λr=>V.bl<|af<|gt r h=0)
  (by simp[pvE,Zc]) (by unfold lim;lia) (λr hr=>#[_,rfl,by
   have:=Vt (r:=r) (k:=h) (by rw[(hP r hr).1];exact hh)
   simp[pvE,Zd,Zf,this,Zt]])
 have ht:=Z0 (g:=λr:Row=>af<|gt r h=0) P
 simp[XV,pvE,hc,ht,fW,Function.comp]
def xM(d:Nat){i lo hi:Int}(s:DS)(h1:lo<=i)(h2:i<=hi):CV (d+2) 9 [.int i,.int lo,.int hi] s=.ok .non s:=by
 have e:=Qo d (x:=.int i) (lo:=lo) (hi:=hi) s rfl;refine wR (ρ:=[aa<|.int i,aa<|.int lo,aa<|.int hi]) (os:=[]) rfl (by decide) rfl ?_
 simp[YS,pvE,e,isW,h1,h2]
def Ze0(h:Nat):(aP h [V.int 0]).flatten=(aP h (0:Int)).map V.int:=by
 induction h with|zero=>rfl|succ k ih=>rw[cF,dD,ih];rfl
theorem Zbi{C:ZA}{ρ:Env}{s:DS}{a b:E}{i j:Nat}(h1:pv C a ρ s=.ok (.int i) s)(h2:pv C b ρ s=.ok (.int j) s)(hi:i<1000000)(hj:j<1000000):pvw C (.rng2 a b) ρ s=.ok ((aH<|j-i).map λk=>Zf<|i+k) s:=by
 rw[pvw,h1,Za,h2,Za];show(if(Yn (i:Int)&&Yn (j:Int))=ak then PR.ok (ZS i ((j:Int)-i).toNat) s else .no)=_
 rw[XC (by lia) (by lia),XC (by lia) (by lia),T9<|show(ak&&ak)=ak from rfl,show((j:Int)-i).toNat=j-i by lia]
 rfl
theorem zP(d:Nat){h:Nat}(s:DS)(hn:n<=6)(hh:h<n):CV (d+1) 10 [spV p n,Zf h] s=.ok (.lst<|(ZR p n h).map Zd) s:=by
 refine Zq (fn:=YG) rfl (by decide) rfl ?_
 show rvs (CV d) [] YG.body [aa<|spV p n,aa<|Zf h,ae,ae,ae,ae] [] s=_
 dsimp only[YG]
 have hp:=QI (p:=p);rw[Zi<|Y5 (p:=p) (n:=n) _ _ (by simp[pvE])<|by simp]
 have er:=Ze0 h;rw[Zi (ρ':=[aa<|spV p n,aa<|Zf h,aa<|.int p,aa<|.int n,aa<|.lst<|[aP h (0:Int)++[1]].map Zd,ae]) (os':=[]) (s':=s) (by
  have h1:(h:Int)<1000:=by lia
  have h2:h+1<=lim:=by unfold lim;lia
  have h3:(aP h<|V.int 0).length+1<=16777216:=by rw[dm];lia
  rw[nC]at er;have h4:h<=16777215:=by lia
  simp[pvE,Zf,h1,er,Zd,h4])]
 obtain⟨o',hI,e⟩:=Um (C:=CV d) (ms:=[]) (t:=[5]) (it:=.rng2 (.bin .add (.v 1)<|.c<|.int 1)<|.v 3) (b:=[.asg [4]<|.comp2 [2] 2 [0] (.of<|.v 4) [] [1] (.rng1<|.v 2) []<|.bin .add (.v 0)<|.tup [(.v 1)]]) (L:=aH<|n-(h+1)) (e:=λk=>Zf<|h+1+k) (step:=λrs _=>Wa p rs) (ρ:=λst o=>[aa<|spV p n,aa<|Zf h,aa<|.int p,aa<|.int n,aa<|.lst<|st.map Zd,o]) (st:=[aP h (0:Int)++[1]]) (o:=ae) (os:=[]) (s:=s) (λl st=>st.length*5^l.length<=15625/\∀r∈st,r.length+l.length<=1000)
  (Zbi (by simp[pvE,Zf]) (by simp[pvE]) (by lia)<|by lia) #[by
   have:5^(n-(h+1))<=5^6:=dC (by lia) (by lia)
   simp only[cE,br];lia,λr hr=>by rw[aY.mp hr];simp;lia] rfl (λx l st o hst=>by
  obtain⟨h3,h4⟩:=hst;have hsl:(Wa p st).length=st.length*p:=G6 st;have hb:st.length*p*5^l.length<=15625:=by
   have:st.length*p<=st.length*5:=mM _ (by lia)
   have h4:st.length*p*5^l.length<=st.length*5*5^l.length:=Nat.mul_le_mul_right _ this;rw[aJ,kg]at h3;have h5:st.length*5*5^l.length=st.length*(5^l.length*5):=by rw[pY,nN 5]
   lia
  have hlim:st.length*p<=15625:=cc (Nat.le_mul_of_pos_right _<|Nat.pow_pos<|by lia) hb
  refine#[#[by rw[hsl];exact hb,λr hr=>?_],rfl,_,aa<|Zf<|h+1+x,rfl,?_]
  .unfold Wa at hr
   obtain⟨q,hq,hr⟩:=fZ.mp hr;obtain⟨k,_,rfl⟩:=aT.mp hr;have:=h4 q hq;rw[aJ]at this;rw[aX,cE];lia
  .show rvs (CV d) [] _ [aa<|spV p n,aa<|Zf h,aa<|.int p,aa<|.int n,aa<|.lst<|st.map Zd,aa<|Zf<|h+1+x] [] s=_
   have hc:=Ql (C:=CV d) (cap:=[2]) (nl:=2) (t:=[0]) (u:=[1]) (it:=.of<|.v 4) (jt:=.rng1<|.v 2) (elt:=.bin .add (.v 0)<|.tup [(.v 1)]) (ρ:=[aa<|spV p n,aa<|Zf h,aa<|.int p,aa<|.int n,aa<|.lst<|st.map Zd,aa<|Zf<|h+1+x]) (s:=s) (l:=st) (e:=Zd) (m:=λ_=>aH p) (e2:=Zf) (g:=λr k=>Zd<|r++[(k:Int)])
    (by simp[pvE]) (by rw[iZ];simp only[aw,br];rw[lZ,h7];unfold lim;lia) (λr hr=>#[_,rfl,by
     exact YH (n:=p) (Zg rfl) (by lia),λk hk=>#[_,rfl,by
     have hr':=h4 r hr;have h6:r.length+1<=16777216:=by lia
     simp[pvE,Zd,Zf,h6]]])
   have ef:(st.flatMap λr=>(aH p).map λ(k:Nat)=>Zd<|r++[(k:Int)])=(Wa p st).map Zd:=by
    unfold Wa;rw[lE];exact congrArg (λf=>st.flatMap f)<|funext λr=>by rw[bT];rfl
   rw[ef]at hc;rw[Zi<|ZE hc rfl,rvs];rfl)
 rw[Zi e];exact Zk<|ZG<|Zg rfl
theorem qP{C:ZA}{ρ:Env}{s:DS}{a b:E}{i j:Nat}(h1:pv C a ρ s=.ok (.int i) s)(h2:pv C b ρ s=.ok (.int j) s)(hi:i<1000000)(hj:j<1000000):pvw C (.rrng a b) ρ s=.ok ((WF j i).map Zf) s:=by
 rw[pvw,h1,Za,h2,Za];show(if(Yn (i:Int)&&Yn (j:Int))=ak then PR.ok (ZS i ((j:Int)-i).toNat).reverse s else .no)=_
 rw[XC (by lia) (by lia),XC (by lia) (by lia),T9<|show(ak&&ak)=ak from rfl,show((j:Int)-i).toNat=j-i by lia]
 unfold WF ZS;rw[lx,bT];rfl
theorem ZbC{r:Row}{P:List Row}:at' ((P++[r]).map Zd) (-1)=aa (Zd r):=by
 have e:ixN ((P++[r]).map Zd).length (-1)=aa P.length:=by
  rw[aw,aX,cE];unfold ixN;rw[T8 (by lia),T9 (by lia),show(-1+((P.length+1:Nat):Int)).toNat=P.length by lia]
 unfold at';rw[e];show((P++[r]).map Zd)[P.length]?=_;rw[aR,bx<|aG _,Nat.sub_self];rfl
def qH(d:Nat){P:List Row}{v:V}{a2 a3 a4:Option V}(s:DS)(hP:pZ p n P):pv (CV<|d+1) (.ite (.v 1) (.bin .add (.call 12 [(.ix (.v 1)<|.neg<|.c<|.int 1)])<|.c<|.int 1)<|.c<|.int 0) [aa v,aa<|Zc P,a2,a3,a4] s=.ok (Zf<|Z6 P) s:=by
 unfold Z6;cases e:P.getLast? with
 |none=>
  rw[kK]at e;subst e;simp[pvE,Zc,Zf]
 |some r=>
  obtain⟨P',rfl⟩:=gj.mp e;obtain⟨k,h1,h2,h3⟩:=hP.head fld.one0 (r:=r) (by simp)
  have e1:=wg d r s;rw[h1]at e1;have e2:pv (CV<|d+1) (.ix (.v 1)<|.neg<|.c<|.int 1) [aa v,aa<|Zc<|P'++[r],a2,a3,a4] s=.ok (Zd r) s:=by
   have:=ZbC (r:=r) (P:=P');simp only[bM,aW,i9]at this;simp[pvE,Zc,this]
  have e3:pv (CV<|d+1) (.call 12 [(.ix (.v 1)<|.neg<|.c<|.int 1)]) [aa v,aa<|Zc<|P'++[r],a2,a3,a4] s=.ok (.int k) s:=Zo (Zb e2 Ze) e1;have e4:pv (CV<|d+1) (.v 1) [aa v,aa<|Zc<|P'++[r],a2,a3,a4] s=.ok (Zc<|P'++[r]) s:=Zg rfl;rw[pv,e4,Za];show(po (aa<|!((P'++[r]).map Zd).isEmpty) s).bind _=_;have:((P'++[r]).map Zd).isEmpty=ai:=by cases P'<;>rfl
  rw[this,Z9,Za];show pv (CV<|d+1) (.bin .add _ _) _ s=_;rw[pv,e3,Za,pv];simp[h1,pvE,Zf]
theorem V5:∀L:List Row,Z1 (L.map Zd)=ak
 |[]=>rfl
 |r::L=>by
  show(V.flat (Zd r)&&Z1 (L.map Zd))=ak;rw[V5 L,Bool.and_true];exact WL r
theorem zC(d:Nat){P:List Row}(s:DS)(hn:n<=6)(hP:pZ p n P):CV (d+2) 13 [.lst<|(aH n).map λh=>.lst<|(ZR p n h).map Zd,Zc P] s=.ok (.lst<|(Jc p n P).map Zd) s:=by
 refine Zq (fn:=YF) rfl (by decide) rfl ?_
 have hd:=dsum hP;have hp:=QI (p:=p)
 let v:V:=.lst<|(aH n).map λh=>.lst<|(ZR p n h).map Zd
 show rvs (CV<|d+1) [3] YF.body [aa v,aa<|Zc P,ae,ae,ae] [] s=_
 dsimp only[YF]
 rw[Zi<|ZE (qH d s hP) rfl];show rvs (CV<|d+1) [3] _ [aa v,aa<|Zc P,aa<|Zf<|Z6 P,ae,ae] [] s=_;rw[Zi (ρ':=[aa v,aa<|Zc P,aa<|Zf<|Z6 P,aa<|.lst<|([]:List Row).map Zd,ae]) (os':=[3]) (s':=s) (by
  rw[rv];simp[pvE];rfl)]
 have hf:Z6 P<=n:=by
  unfold Z6;cases e:P.getLast? with
  |none=>exact dQ _
  |some r=>
   obtain⟨P',rfl⟩:=gj.mp e;have:=hP.pn.lt _ (YE (p:=p) (show r∈P'++[r] by simp))
   exact this
 obtain⟨o',hI,e⟩:=Um (C:=CV<|d+1) (ms:=[3]) (t:=[4]) (it:=.rrng (.v 2)<|.blt .len [(.v 0)]) (b:=[.ite (.call 11 [(.v 1),(.v 4)]) [.ex<|.mt .extend (.v 3) [(.ix (.v 0)<|.v 4)]] []]) (L:=WF n<|Z6 P) (e:=Zf) (step:=xD p n P) (ρ:=λst o=>[aa v,aa<|Zc P,aa<|Zf<|Z6 P,aa<|.lst<|st.map Zd,o]) (st:=[]) (o:=ae) (os:=[3]) (s:=s) (λl st=>(∀h∈l,h<n)/\st.length+15625*l.length<=100000)
  (by
   have e1:pv (CV<|d+1) (.blt .len [(.v 0)]) (hide [3] [aa v,aa<|Zc P,aa<|Zf<|Z6 P,aa<|.lst<|([]:List Row).map Zd,ae]) s=.ok (.int n) s:=by
    simp[pvE,v]
   exact qP (by simp[pvE,Zf]) e1 (by lia)<|by lia) #[λh hh=>(Qr.mp hh).2,by
   unfold WF;simp;lia] rfl (λx l st o hst=>by
  obtain⟨h1,h2⟩:=hst;have hx:=h1 x<|ao ..;have hl:(ZR p n x).length<=15625:=by
   rw[(Jt hx).2];have a1:p^(n-(x+1))<=5^(n-(x+1)):=Nat.pow_le_pow_left (by lia) _
   have a2:5^(n-(x+1))<=5^6:=dC (by lia) (by lia)
   lia
  have e2:=zq (p:=p) d (h:=x) s hP.row (by lia) hx
  rw[aJ]at h2;refine#[#[λh hh=>h1 h<|au _ hh,?_],rfl,_,aa<|Zf x,rfl,?_]
  .unfold xD
   split
   .rw[aX];lia
   .lia
  .show rvs (CV<|d+1) [3] _ [aa v,aa<|Zc P,aa<|Zf<|Z6 P,aa<|.lst<|st.map Zd,aa<|Zf x] [3] s=_
   have e3:Xj (CV<|d+1) (.call 11 [(.v 1),(.v 4)]) [aa v,aa<|Zc P,aa<|Zf<|Z6 P,aa<|.lst<|st.map Zd,aa<|Zf x] s=.ok (P.all λr=>af<|gt r x=0) s:=Yh (Zo (Zb (Zg rfl)<|Zb (Zg rfl) Ze) e2) rfl
   unfold xD;by_cases c:(P.all λr=>af<|gt r x=0)=ak
   .rw[T9 c]
    have e4:at' ((aH n).map λh=>V.lst<|(ZR p n h).map Zd) (x:Int)=aa (.lst<|(ZR p n x).map Zd):=VQ (by rw[aR,cX hx];rfl)
    have e5:rv (CV<|d+1) [3] (.ex<|.mt .extend (.v 3) [(.ix (.v 0)<|.v 4)]) [aa v,aa<|Zc P,aa<|Zf<|Z6 P,aa<|.lst<|st.map Zd,aa<|Zf x] [3] s=.ok (.nx [aa v,aa<|Zc P,aa<|Zf<|Z6 P,aa<|.lst<|(st++ZR p n x).map Zd,aa<|Zf x] [3]) s:=by
     have e6:pv (CV<|d+1) (.ix (.v 0)<|.v 4) (hide [3] [aa v,aa<|Zc P,aa<|Zf<|Z6 P,aa<|.lst<|st.map Zd,aa<|Zf x]) s=.ok (.lst<|(ZR p n x).map Zd) s:=by
      simp[pvE,v,Zf,e4]
     rw[rv,T9<|by rfl]
     show(PR.ok (st.map Zd) s).bind _=_;rw[Za,e6,Za];show(if Z1 ((ZR p n x).map Zd)=ak/\(st.map Zd).length+((ZR p n x).map Zd).length<=lim then _ else _)=_
     rw[T9 #[V5 _,by rw[aw,aw];unfold lim;lia],bM]
     rfl
    rw[Zi ((Yu e3).trans<|by rw[T9 c,Zi e5,rvs]),rvs]
   .rw[T8 c]
    rw[Zi ((Yu e3).trans<|by rw[T8 c,rvs]),rvs])
 rw[Zi e];exact Zk<|ZG<|Zg rfl
theorem v9(d:Nat){k:Nat}(s:DS)(hn:n<=6)(hk:k<=n)(hl:∀j,j<=n->(Yd p n j).length<=1395):CV (d+3) 14 [spV p n,Zf k] s=.ok (.lst<|(Yd p n k).map Zc) s:=by
 refine Zq (fn:=YI) rfl (by decide) rfl ?_
 show rvs (CV<|d+2) [] YI.body [aa<|spV p n,aa<|Zf k,ae,ae,ae,ae,ae] [] s=_
 dsimp only[YI]
 rw[Zi<|Y5 (p:=p) (n:=n) _ _ (by simp[pvE])<|by simp]
 show rvs (CV<|d+2) [] _ [aa<|spV p n,aa<|Zf k,aa<|.int p,aa<|.int n,ae,ae,ae] [] s=_;rw[Zi<|Zdb<|Zo (Zb (Zg rfl)<|Zb (by rw[pv];rfl)<|Zb (Zg rfl) Ze)<|xM d (i:=k) (lo:=0) (hi:=n) s (by lia)<|by lia]
 have hc:=Zy (C:=CV<|d+2) (cap:=[0]) (nl:=1) (t:=[0]) (it:=.rng1<|.v 3) (elt:=.call 10 [(.v 1),(.v 0)]) (ρ:=[aa<|spV p n,aa<|Zf k,aa<|.int p,aa<|.int n,ae,ae,ae]) (s:=s) (l:=aH n) (e:=Zf) (g:=λh=>V.lst<|(ZR p n h).map Zd)
  (YH (n:=n) (Zg rfl)<|by lia) (by rw[br];unfold lim;lia) (λh hh=>#[_,rfl,Zo (Zb (Zg rfl)<|Zb (Zg rfl) Ze)<|zP (d+1) s hn<|bu.mp hh])
 rw[Zi<|ZE hc rfl]
 let v:V:=.lst<|(aH n).map λh=>.lst<|(ZR p n h).map Zd
 show rvs (CV<|d+2) [] _ [aa<|spV p n,aa<|Zf k,aa<|.int p,aa<|.int n,aa v,ae,ae] [] s=_;rw[Zi (ρ':=[aa<|spV p n,aa<|Zf k,aa<|.int p,aa<|.int n,aa v,aa<|.lst<|(Yd p n 0).map Zc,ae]) (os':=[]) (s':=s)<|by simp[pvE,Yd,Zc]]
 obtain⟨o',hI,e⟩:=Um (C:=CV<|d+2) (ms:=[]) (t:=[6]) (it:=.rng1<|.v 1) (b:=[.asg [5]<|.comp2 [4] 2 [0] (.of<|.v 5) [] [1] (.of<|.call 13 [(.v 2),(.v 0)]) []<|.bin .add (.v 0)<|.tup [(.v 1)]]) (L:=aH k) (e:=Zf) (step:=λPs _=>zg p n Ps) (ρ:=λst o=>[aa<|spV p n,aa<|Zf k,aa<|.int p,aa<|.int n,aa v,aa<|.lst<|st.map Zc,o]) (st:=Yd p n 0) (o:=ae) (os:=[]) (s:=s) (λl st=>∃j,j+l.length=k/\st=Yd p n j)
  (YH (n:=k) (Zg rfl)<|by lia) #[0,by simp,rfl] rfl (λx l st o hst=>by
  obtain⟨j,hj,rfl⟩:=hst;rw[aJ]at hj;refine#[#[j+1,by lia,rfl],rfl,_,aa<|Zf x,rfl,?_]
  show rvs (CV<|d+2) [] _ [aa<|spV p n,aa<|Zf k,aa<|.int p,aa<|.int n,aa v,aa<|.lst<|(Yd p n j).map Zc,aa<|Zf x] [] s=_;have ef:((Yd p n j).flatMap λP=>(Jc p n P).map λr=>Zc<|P++[r])=(Yd p n<|j+1).map Zc:=by
   show _=(zg p n<|Yd p n j).map Zc;unfold zg;rw[lE];exact congrArg (λf=>(Yd p n j).flatMap f)<|funext λP=>by rw[bT];rfl
  have hc:=Ql (C:=CV<|d+2) (cap:=[4]) (nl:=2) (t:=[0]) (u:=[1]) (it:=.of<|.v 5) (jt:=.of<|.call 13 [(.v 2),(.v 0)]) (elt:=.bin .add (.v 0)<|.tup [(.v 1)]) (ρ:=[aa<|spV p n,aa<|Zf k,aa<|.int p,aa<|.int n,aa v,aa<|.lst<|(Yd p n j).map Zc,aa<|Zf x]) (s:=s) (l:=Yd p n j) (e:=Zc) (m:=Jc p n) (e2:=Zd) (g:=λP r=>Zc<|P++[r])
   (by simp[pvE]) (by rw[ef,aw];have:=hl (j+1) (by lia);unfold lim;lia) (λP hP=>by
    obtain⟨h1,h2⟩:=Y9 j P hP;refine#[_,rfl,?_,λr hr=>#[_,rfl,?_]]
    .rw[pvw,Zo (Zb (Zg (v:=v) rfl)<|Zb (Zg (v:=Zc P) rfl) Ze)<|zC d s hn h1]
     rfl
    .have h3:P.length+1<=16777216:=by lia
     simp[pvE,Zc,h3])
  rw[ef]at hc;rw[Zi<|ZE hc rfl,rvs];rfl)
 have ek:(aH k).foldl (λPs _=>zg p n Ps) (Yd p n 0)=Yd p n k:=by
  obtain⟨j,h1,h2⟩:=hI;rw[h2];rw[gB]at h1;rw[show j=k by lia]
 rw[ek]at e;rw[Zi e];exact Zk<|ZG<|Zg rfl
end
def ZU{i:Int}:pv C (.c<|.int i) ρ s=.ok (.int i) s:=by rw[pv];rfl
def pick{i:E}{v:Int}(h1:pv C a ρ s=.ok (.lst xs) s1)(h2:pv C i ρ s1=.ok (.int v) s2)(h0:0<=v)(hv:v<xs.length):∃x,x∈xs/\pv C (.ix a i) ρ s=.ok x s2:=by
 obtain⟨k,rfl⟩:∃k:Nat,v=k:=#[v.toNat,by lia]
 have hk:k<xs.length:=by lia
 refine#[xs[k],ba hk,?_];rw[pv,h1,Za,h2,Za];show po (at' xs (k:Int)) s2=_;rw[VQ<|ag hk];rfl
def Z3(d:Nat)(s:DS){m:Int}{ρ:Env}{i:Nat}{e:E}(hd:ρ[i]?=aa (aa .drw))(he:pv (CV<|d+1) e ρ s=.ok (.int m) s)(h0:0<m)(h1:m<1000):∃v s',pv (CV<|d+1) (.call 2 [(.v i),e]) ρ s=.ok (.int v) s'/\0<=v/\v<m:=by
 obtain⟨v,s',e1,b⟩:=zA s h0 (by lia)
 exact#[v,s',Zo (Zb (Zg hd)<|Zb he Ze) e1,b]
def Wh(h1:pv C a ρ s=.ok (.tup xs) s)(h2:pv C b ρ s=.ok (.tup ys) s)(h:xs.length+ys.length<=1000):pv C (.bin .add a b) ρ s=.ok (.tup<|xs++ys) s:=by
 rw[pv,h1,Za,h2,Za];show(if xs.length+ys.length<=lim then _ else _)=_
 rw[T9<|by unfold lim;lia]
def vd(h1:pv C a ρ s=.ok (.tup xs) s){k:Int}(h2:pv C b ρ s=.ok (.int k) s):pv C (.sl a ae<|aa b) ρ s=.ok (.tup<|YA xs ae<|aa k) s:=by
 rw[pv,h1,Za,pvo,Za,pvo,h2,Za];rfl
def Ul(h1:pv C a ρ s=.ok (.tup xs) s){k:Int}(h2:pv C b ρ s=.ok (.int k) s):pv C (.sl a (aa b) ae) ρ s=.ok (.tup<|YA xs (aa k) ae) s:=by
 rw[pv,h1,Za,pvo,h2,Za];show((PR.ok (aa k) s).bind λl s=>(pvo C ae ρ s).bind λh s=>po (slV (.tup xs) l h) s)=_
 rw[Za,pvo,Za];rfl
def XZ{lo hi:Option Int}:(YA xs lo hi).length<=xs.length:=by
 unfold YA;rw[bE,bF];lia
def zV(h:∀x∈xs,okV x=ak):Y0 xs=ak:=by
 induction xs with
 |nil=>rfl
 |cons x xs ih=>
  show(okV x&&Y0 xs)=ak;rw[h x<|ao ..,ih λy hy=>h y<|au _ hy];rfl
def Wy{lo hi:Option Int}(h:Y0 xs=ak):Y0 (YA xs lo hi)=ak:=
 zV λx hx=>Xw h x<|cg<|dB hx
def Qe(h:Y0 xs=ak)(h2:Y0 ys=ak):Y0 (xs++ys)=ak:=
 zV λx hx=>by
  rcases bK.mp hx with z|z
  .exact Xw h x z
  .exact Xw h2 x z
def Xp(h:pv C a ρ s=.ok x s):pv C (.tup [a]) ρ s=.ok (.tup [x]) s:=by
 rw[pv,Zb h Ze];rfl
def wx{α:Type}{ms:List Nat}{i:Nat}{it:W}{b:List Sm}{L:List α}{e:α->V}{q:α->Bool}{v:V}{ρ:Option V->Env}(o:Option V)(hw:pvw C it (hide []<|ρ o) s=.ok (L.map e) s)(hs:∀o x,(ρ o).set i (aa x)=ρ (aa x))(hb:∀x∈L,rvs C ms b (ρ<|aa<|e x) [] s=if q x=ak then .ok (.ret v) s else .ok (.nx (ρ<|aa<|e x) []) s) :
  (L.any q=ak->rv C ms (.forr [i] it b) (ρ o) [] s=.ok (.ret v) s)/\(L.any q=ai->∃o',rv C ms (.forr [i] it b) (ρ o) [] s=.ok (.nx (ρ o') []) s):=by
 rw[rv,hw,Za];clear hw
 induction L generalizing o with
 |nil=>exact#[λh=>(by cases h),λ_=>#[o,rfl]]
 |cons x L ih=>
  have ih:=ih (aa<|e x) λy hy=>hb y<|au _ hy
  have h1:=hb x<|ao ..;have step:YJ (λx ρ os s=>if(([i]:List Nat).any os.contains)=ak then .no else if(os.isEmpty||x.flat)=ak then(po (Zp [i] x ρ) s).bind λρ s=>rvs C ms b ρ os s else .no) ((x::L).map e) (ρ o) [] s=if q x=ak then .ok (.ret v) s else YJ (λx ρ os s=>if(([i]:List Nat).any os.contains)=ak then .no else if(os.isEmpty||x.flat)=ak then(po (Zp [i] x ρ) s).bind λρ s=>rvs C ms b ρ os s else .no) (L.map e) (ρ<|aa<|e x) [] s:=by
   rw[aW,YJ,T8 (by simp),T9<|by rfl]
   show((PR.ok ((ρ o).set i<|aa<|e x) s).bind λρ s=>rvs C ms b ρ [] s).bind _=_
   rw[Za,hs o<|e x,h1];cases q x<;>rfl
  rw[step,fc];cases hq:q x with
  |true=>exact#[λ_=>rfl,λh=>(by cases h)]
  |false=>
   rw[T8 (by simp),iD]
   exact ih
def Th(m:Nat)(x:V):Prop:=okV x=ak/\∀xs,x=.tup xs->xs.length<=m
def Xu{m:Nat}(h:Y0 xs=ak)(hl:xs.length<=m):Th m (.tup xs):=#[h,λys e=>by cases e;exact hl]
theorem wu{Q:V->Prop}:∀{es:List E},(∀e∈es,∃v,pv C e ρ s=.ok v s/\Q v)->∃vs,pvs C es ρ s=.ok vs s/\vs.length=es.length/\∀v∈vs,Q v
 |[],_=>#[[],Ze,rfl,λ_ h=>by cases h]
 |e::es,h=>by
  obtain⟨v,e1,q1⟩:=h e<|ao ..;obtain⟨vs,e2,l2,q2⟩:=wu λe he=>h e<|au _ he
  refine#[v::vs,Zb e1 e2,by rw[aJ,aJ,l2],λu hu=>?_]
  rcases ay.mp hu with rfl|hu
  .exact q1
  .exact q2 u hu
section
variable{p n:Nat}[Base p]
noncomputable def isI(x:V):Bool:=match x with
 |.int _=>ak
 |_=>ai
def Zeb{x:V}(h:∀i,x≠.int i):isI x=ai:=by
 cases x with|int i=>exact T7 rfl<|h i|_=>rfl
def qf(d:Nat){x:V}(s:DS)(hx:okV x=ak):CV (d+1) 29 [x] s=.ok (.bl<|isI x) s:=by
 refine Zq rfl (by decide) rfl ?_
 rcases Zbh hx with⟨i,rfl⟩|⟨b,rfl⟩|⟨ha,no⟩
 .simp[Y1,pvE,ZY,Yr,isI]
 .simp[Y1,pvE,ZY,Yr,isI]
 .rw[Zeb no]
  simp[Y1,pvE,ha]
theorem xH(d:Nat){x:V}(s:DS)(hn:n<=6)(hx:okV x=ak):CV (d+2) 30 [spV p n,x] s=.ok (.bl<|ZX p n x) s:=by
 refine Zq (fn:=YD) rfl (by decide) rfl ?_
 show rvs (CV<|d+1) [] YD.body [aa<|spV p n,aa x] [] s=_
 dsimp only[YD]
 have e1:=ix1 (p:=p) (n:=n) (C:=CV<|d+1) (i:=0) (ρ:=[aa<|spV p n,aa x]) (s:=s) rfl;rcases GG hx with⟨xs,rfl⟩|⟨ha,no⟩
 ·
  have g:pv (CV<|d+1) (.or (.not<|.isi (.v 1) [.tuple])<|.cmp .ne (.blt .len [(.v 1)])<|.ix (.v 0)<|.c<|.int 1) [aa<|spV p n,aa<|.tup xs] s=.ok (.bl !(af<|xs.length=n)) s:=by
   rw[pv];have:pv (CV<|d+1) (.not<|.isi (.v 1) [.tuple]) [aa<|spV p n,aa<|.tup xs] s=.ok (.bl ai) s:=by simp[pvE,ZY,Yr]
   rw[this,Za];show pv _ (.cmp .ne _ _) _ _=_;rw[pv];have:pv (CV<|d+1) (.blt .len [(.v 1)]) [aa<|spV p n,aa<|.tup xs] s=.ok (.int xs.length) s:=by simp[pvE]
   rw[this,Za,e1,Za];show po (aa<|V.bl !(af<|(xs.length:Int)=n)) s=_;rw[show(af<|(xs.length:Int)=n)=af (xs.length=n) by rw[decide_eq_decide];lia];rfl
  by_cases hl:xs.length=n
  .rw[T5 hl]at g
   rw[guard g];refine Zk<|ZG ?_;have hc:=Zy (C:=CV<|d+1) (cap:=[0]) (nl:=1) (t:=[0]) (it:=.of<|.v 1) (elt:=.and (.call 29 [(.v 0)])<|.chain .le .lt (.c<|.int 0) (.v 0)<|.ix (.v 1)<|.c<|.int 0) (ρ:=[aa<|spV p n,aa<|.tup xs]) (s:=s) (l:=xs) (e:=id) (g:=λv=>V.bl<|isW v 0<|(p:Int)-1)
    (by simp[pvE]) (by unfold lim;lia) (λv hv=>#[[aa v,aa<|spV p n],rfl,by
     have e:=Zo (Zb (Zg (C:=CV<|d+1) (i:=0) (ρ:=[aa v,aa<|spV p n]) (s:=s) rfl) Ze)<|qf d s<|Xw hx v hv;have e0:=ix0 (p:=p) (n:=n) (C:=CV<|d+1) (i:=1) (ρ:=[aa v,aa<|spV p n]) (s:=s) rfl;rw[pv,e,Za];cases v with
     |int i=>
      show pv _ _ _ _=_;rw[pv,ZU,Za,Zg rfl,Za];show(po (aa<|V.bl<|af<|0<=i) s).bind _=_;rw[Z9,Za];by_cases c:0<=i
      .rw[T5 c]
       show(if ak=ak then _ else _)=_
       rw[T9 rfl,e0,Za];show po (aa<|V.bl<|af<|i<(p:Int)) s=PR.ok (V.bl<|af (0<=i)&&af (i<=(p:Int)-1)) s;rw[T5 c,rg,show af (i<(p:Int))=af (i<=(p:Int)-1) by rw[decide_eq_decide];lia];rfl
      .rw[T4 c]
       show _=PR.ok (V.bl<|af (0<=i)&&af (i<=(p:Int)-1)) s;rw[T4 c];rfl
     |_=>rfl])
   have ht:=Z0 (g:=λv:V=>isW v 0<|(p:Int)-1) xs
   rw[pv,Zb hc Ze,Za];show po ((ZT _).map λbs=>V.bl<|bs.all id) s=_
   rw[ht];show PR.ok (V.bl<|(xs.map _).all id) s=PR.ok (V.bl<|af (xs.length=n)&&_) s;rw[fW,T5 hl];rfl
  .rw[T4 hl,hV]at g
   refine Zk ?_;rw[Yu<|Yh g rfl,T9 rfl,Zk<|ZG (v:=.bl ai)<|by rw[pv];rfl]
   show _=PR.ok (FlV.ret<|V.bl<|af (xs.length=n)&&_) s;rw[T4 hl];rfl
 .rw[qF no]
  exact Zk (by simp[pvE,ha])
noncomputable def Zcj(v:V):Bool:=match v with
 |.tup xs=>match intsV xs with
  |some r=>(hdI r).isSome
  |none=>ai
 |_=>ai
theorem Uc:∀r:Row,ZT (r.map V.int)=aa (r.map λa=>af<|a≠0)
 |[]=>rfl
 |a::r=>by rw[aW,ZT,Uc r];rfl
theorem jg:∀r:Row,(r.map λa=>af<|a≠0).any id=(hdI r).isSome
 |[]=>rfl
 |a::r=>by
  rw[aW,fc,jg r,hdI];by_cases c:a=0
  .subst c
   rw[T8<|by simp]
   cases hdI r<;>rfl
  .rw[T9 c,T5 c];rfl
def ZbE{C:ZA}{ρ:Env}{i:Nat}{r:Row}(s:DS)(h:ρ[i]?=aa (aa<|Zd r)):pv C (.blt .any [(.v i)]) ρ s=.ok (.bl (hdI r).isSome) s:=by
 rw[pv,Zb (Zg h) Ze,Za];show po ((ZT<|r.map V.int).map λbs=>V.bl<|bs.any id) s=_
 rw[Uc];show PR.ok (V.bl _) s=_;rw[jg]
def zx(d:Nat){x:V}(s:DS)(hn:n<=6)(hx:okV x=ak)(hl:∀xs,x=.tup xs->xs.length<=1000):CV (d+3) 31 [spV p n,x] s=.ok (.bl<|isP p n x) s:=by
 refine Zq (fn:=Yq) rfl (by decide) rfl ?_
 show rvs (CV<|d+2) [] Yq.body [aa<|spV p n,aa x,ae] [] s=_
 dsimp only[Yq]
 rcases GG hx with⟨xs,rfl⟩|⟨ha,no⟩
 ·
  have hl:=hl xs rfl;rw[guard<|by simp[pvE,ZY,Yr]]
  obtain⟨f1,f2⟩:=wx (C:=CV<|d+2) (ms:=[]) (s:=s) (i:=2) (it:=.of<|.v 1) (b:=[.ite (.or (.not<|.call 30 [(.v 0),(.v 2)])<|.not<|.blt .any [(.v 2)]) [.ret<|.c<|.bl ai] []]) (L:=xs) (e:=id) (q:=λv=>!(ZX p n v&&Zcj v)) (v:=.bl ai) (ρ:=λo=>[aa<|spV p n,aa<|.tup xs,o]) ae
   (by rw[List.map_id];simp[pvE]) (λ_ _=>rfl) (λv hv=>by
    have e:=xH (p:=p) d s hn<|Xw hx v hv;have e1:=Zo (Zb (Zg (C:=CV<|d+2) (i:=0) (v:=spV p n) (ρ:=[aa<|spV p n,aa<|.tup xs,aa v]) (s:=s) rfl)<|Zb (Zg (i:=2) (v:=v) rfl) Ze) e;show rvs _ _ _ [aa<|spV p n,aa<|.tup xs,aa v] _ _=if _ then _ else PR.ok (FlV.nx [aa<|spV p n,aa<|.tup xs,aa v] []) s
    cases hb:ZX p n v with
    |false=>
     rw[hb]at e1;rw[T9<|by simp[hb]]
     refine Zk ?_;rw[Yu (Yh (v:=.bl ak) (b:=ak) (by rw[pv,Vz e1];rfl) rfl),T9 rfl]
     exact Zk<|ZG<|by rw[pv];rfl
    |true=>
     rw[hb]at e1;obtain⟨r,rfl,hr⟩:=ZaW hb;have e2:=ZbE (C:=CV<|d+2) (ρ:=[aa<|spV p n,aa<|.tup xs,aa<|Zd r]) (i:=2) s rfl;have e3:Zcj (Zd r)=(hdI r).isSome:=by
      show(match intsV (r.map V.int)with|some r=>(hdI r).isSome|none=>ai)=_
      rw[Y4]
     have e4:=Yh (v:=.bl !(hdI r).isSome) (Zc3 (Vz e1)<|Vz e2) rfl;rw[e3,rg];cases hh:(hdI r).isSome with
     |false=>
      rw[hh,hV]at e4;rw[hV,T9 rfl];refine Zk ?_;rw[Yu e4,T9 rfl];exact Zk<|ZG<|by rw[pv];rfl
     |true=>
      rw[hh]at e4;rw[T8 (by simp),Zi ((Yu e4).trans<|by rw[T8 (by simp),rvs]),rvs])
  cases ha:xs.any λv=>!(ZX p n v&&Zcj v)with
  |true=>
   rw[Zk<|f1 ha];have:isP p n (.tup xs)=ai:=by
    cases hp:isP p n (.tup xs)with
    |false=>rfl
    |true=>
     exfalso
     obtain⟨P,e,hP⟩:=UB.mp hp;cases e;obtain⟨v,hv,hq⟩:=fX.mp ha;obtain⟨r,hr,rfl⟩:=aT.mp hv;obtain⟨k,hk,_⟩:=hP.head fld.one0 hr;have e3:Zcj (Zd r)=(hdI r).isSome:=by
      show(match intsV (r.map V.int)with|some r=>(hdI r).isSome|none=>ai)=_
      rw[Y4]
     rw[Zc4<|hP.row r hr,e3,hk]at hq;cases hq
   rw[this]
  |false=>
   obtain⟨o,f3⟩:=f2 ha;rw[Zi f3];have hall:∀v∈xs,ZX p n v=ak:=λv hv=>by
    have:=nD.mp ha v hv;simp at this;exact this.1
   obtain⟨R,rfl,hR⟩:=Wm (p:=p)<|aS.mpr hall;obtain⟨P,e4,hS⟩:=V2 (p:=p) (n:=n) d (v:=.tup<|R.map Zd) s hn hR (by simpa using hl) rfl
   refine Zk<|ZG ?_;have e5:=Jv (C:=CV<|d+2) (ρ:=[aa<|spV p n,aa<|Zc R,o]) (Zo (Zb (Zg (i:=0) rfl)<|Zb (Zg (i:=1) rfl) Ze) e4)<|Zg (i:=1) (v:=Zc R) rfl;rw[show af (P=R)=isP p n (.tup<|R.map Zd)from ?_]at e5
   .exact e5
   .rw[cS,T0,UB]
    constructor
    .rintro rfl
     exact#[P,rfl,hS.part]
    .rintro ⟨Q,e,hQ⟩
     have e:Zc R=Zc Q:=e;have e:R=Q:=by
      have:=congrArg (λv=>match v with|V.tup ks=>Yb ks|_=>ae) e
      have:Yb (R.map Zd)=Yb (Q.map Zd):=this;rw[Yz,Yz]at this;exact am this
     subst e;exact hS.uniq<|Spans.self hQ
 .rw[jI no]
  exact Zk (by simp[pvE,ha])
end
end K42
namespace Rw
open La
open Ev (ltP Ym VE)
noncomputable def Qq{α:Type}(lt:α->α->Bool):Nat->List α->List α->List α
 |0,a,b=>a++b
 |_+1,[],b=>b
 |_+1,a,[]=>a
 |f+1,x::a,y::b=>if lt x y then x::Qq lt f a (y::b)else y::Qq lt f (x::a) b
theorem X8{α:Type}(lt:α->α->Bool):∀(f:Nat)(a b:List α),(Qq lt f a b).Perm (a++b)
 |0,a,b=>cK _
 |_+1,[],b=>cK _
 |_+1,x::a,[]=>by show(x::a).Perm _;simp
 |f+1,x::a,y::b=>by
  unfold Qq;split
  .exact(X8 lt f a (y::b)).cons x
  .exact((X8 lt f (x::a) b).cons y).trans List.perm_middle.symm
noncomputable def zh{α:Type}(lt:α->α->Bool):Nat->List α->List α
 |0,l=>l
 |f+1,l=>if l.length<=1 then l else Qq lt l.length (zh lt f<|l.take<|l.length / 2) (zh lt f<|l.drop<|l.length / 2)
theorem Wz{α:Type}(lt:α->α->Bool):∀(f:Nat)(l:List α),(zh lt f l).Perm l
 |0,l=>cK _
 |f+1,l=>by
  unfold zh;split
  .exact cK _
  .refine(X8 ..).trans<|((Wz lt f _).append<|Wz lt f _).trans<|lV<|cY ..
noncomputable def YO(n:Nat):List (List Nat):=(aH n).foldl (λl k=>l++l.map λr=>r++[k]) [[]]
noncomputable def Y7(p:Nat)(aa:List Nat)(h k:Nat):List Int:=if k=h then[1]else if k>h/\k∉aa then(aH p).map λ(j:Nat)=>(j:Int)else[0]
noncomputable def grow{α:Type}(L:List (List α))(M:List α):List (List α):=L.flatMap λx=>M.map λy=>x++[y]
noncomputable def ZZ(p n:Nat)(aa:List Nat)(h:Nat):List Row:=(aH n).foldl (λl k=>grow l<|Y7 p aa h k) [[]]
noncomputable def Yy(p n:Nat)(aa:List Nat):List (List Row):=aa.foldl (λl h=>grow l<|ZZ p n aa h) [[]]
noncomputable def GT(p n k:Nat):List (List Row):=((YO n).filter λr=>af<|r.length=k).flatMap<|Yy p n
noncomputable def Zeq{α:Type}(lt:α->α->Bool):List α->Bool
 |[]=>ak
 |[_]=>ak
 |x::y::l=>lt x y&&Zeq lt (y::l)
theorem wv{α:Type}{lt:α->α->Bool}(O:Sd.StrictB lt):∀{l:List α},Zeq lt l=ak->l.Pairwise λa b=>lt a b=ak
 |[],_=>.nil
 |[x],_=>fu ..
 |x::y::l,h=>by
  obtain⟨h1,h2⟩:=(aB _ _).mp h;have ih:=wv O h2;refine aZ.mpr #[λz hz=>?_,ih]
  rcases ay.mp hz with rfl|hz
  .exact h1
  .exact O.tr h1<|(aZ.mp ih).1 z hz
noncomputable def ZfQ(q:Nat×Nat):Bool:=(aH<|q.2+1).all λk=>af (zh ltP 12 (GT q.1 q.2 k)=Yd q.1 q.2 k)&&Zeq ltP (Yd q.1 q.2 k)
def wt:∀q∈G0++GQ,ZfQ q=ak:=by decide +kernel
def Zd4{α:Type}{lt:α->α->Bool}(O:Sd.StrictB lt){l:List α}(h:l.Pairwise λa b=>lt a b=ak):l.Nodup:=h.imp λ{a b} h e=>by
 subst e;have:=O.asy h;rw[h]at this;cases this
def Zcl{p n k:Nat}(h:(p,n)∈G0++GQ)(hk:k<=n):(Yd p n k).Pairwise λa b=>ltP a b=ak:=
 wv Sd.Yw ((aB _ _).mp<|aS.mp (wt _ h) k<|bu.mpr<|by lia).2
def ZaM{p n k:Nat}(h:(p,n)∈G0++GQ)(hk:k<=n)(hl:(Yd p n k).length<=1395)(he:∀P∈Yd p n k,P.length=k):Ym ltP (GT p n k)=Yd p n k/\Ev.Z8 (GT p n k)=ak:=by
 have c:=T6 ((aB _ _).mp<|aS.mp (wt _ h) k<|bu.mpr<|by lia).1
 have pm:(GT p n k).Perm (Yd p n k):=c▸(Wz ltP 12 _).symm;have inc:=Zcl h hk;have nd:=pm.nodup_iff.mpr<|Zd4 Sd.Yw inc;refine#[Sd.XN Sd.Yw ((Sd.Y6 _).trans pm) (Sd.XR Sd.Yw nd) inc,?_];unfold Ev.Z8;rw[aB,aB,gC,T0,T0,T0,aS];refine#[#[by rw[pm.length_eq];lia,nd],?_]
 cases k with
 |zero=>left;rw[pm.length_eq];exact aG _
 |succ k=>
  right
  intro P hP;have:=he P<|pm.mem_iff.mp hP;cases P with|nil=>cases this|cons _ _=>rfl
end Rw
namespace K42
open Ev Pv Rw La
def Vx(r:Row):V.flat (Zd r)=ak:=WL r
theorem Y2{α:Type}{f:α->V}:∀(l:List α),(∀x∈l,(f x).flat=ak)->Z1 (l.map f)=ak
 |[],_=>rfl
 |x::l,h=>by
  show(V.flat (f x)&&Z1 (l.map f))=ak;rw[h x<|ao ..,Y2 l λy hy=>h y<|au _ hy];rfl
def Xg(P:List Row):V.flat (Zc P)=ak:=Y2 P λr _=>Vx r
noncomputable def Zn(r:List Nat):V:=.tup<|r.map Zf
def y8(r:List Nat):V.flat (Zn r)=ak:=Y2 r λ_ _=>rfl
def zM{α β γ:Type}{i j k m:Nat}{e1:α->V}{e2:β->V}{e3:γ->V}{op:α->β->γ}{L:List α}{M:List β}{ρ:List γ->Option V->Env}{o:Option V}(hw:pvw C (.of<|.v j) (hide os<|ρ [] o) s=.ok (L.map e1) s)(ho:os.contains m=ak)(ht:os.contains i=ai)
  (hs:∀acc acc' x,(ρ acc x)[m]?=aa (aa<|.lst<|acc.map e3)/\(ρ acc x).set m (aa<|.lst<|acc'.map e3)=ρ acc' x/\∀v,(ρ acc x).set i (aa v)=ρ acc (aa v))(f1:∀x,(e1 x).flat=ak)(f3:∀z,(e3 z).flat=ak)
  (hc:∀acc x,x∈L->pv C (.comp1 [i] 1 [0] (.of<|.v k) []<|.bin .add (.v 1)<|.tup [(.v 0)]) (hide os<|ρ acc<|aa<|e1 x) s=.ok (.lst<|M.map λy=>e3<|op x y) s)(hl:L.length*M.length<=100000) :
  ∃o',rv C ms (.forr [i] (.of<|.v j) [.ex<|.mt .extend (.v m) [(.comp1 [i] 1 [0] (.of<|.v k) []<|.bin .add (.v 1)<|.tup [(.v 0)])]]) (ρ [] o) os s=.ok (.nx (ρ (L.flatMap λx=>M.map<|op x) o') os) s:=by
 obtain⟨o',_,e⟩:=Um (C:=C) (t:=[i]) (b:=[.ex<|.mt .extend (.v m) [(.comp1 [i] 1 [0] (.of<|.v k) []<|.bin .add (.v 1)<|.tup [(.v 0)])]]) (L:=L) (e:=e1) (step:=λ(acc:List γ) (x:α)=>acc++M.map (op x)) (st:=[]) (o:=o) (os:=os) (s:=s)
  (λl acc=>acc.length+l.length*M.length<=100000/\∀x∈l,x∈L) hw #[by rw[gB];lia,λ_ h=>h] (by simpa using ht) (λx l acc o1 hI=>by
   obtain⟨hI,hm⟩:=hI;rw[aJ,Nat.succ_mul]at hI;refine#[#[by rw[aX,aw];lia,λx hx=>hm x<|au _ hx],by rw[f1];simp,ρ acc<|aa<|e1 x,aa<|e1 x,congrArg aa<|(hs acc acc o1).2.2<|e1 x,?_]
   rw[Zi (ρ':=ρ (acc++M.map (op x))<|aa<|e1 x) (os':=os) (s':=s) ?_,rvs];rw[rv,T9 ho,(hs acc acc _).1];show(PR.ok (acc.map e3) s).bind _=_;rw[Za,hc acc x<|hm x<|ao ..,Za];show(if Z1 (M.map λy=>e3<|op x y)=ak/\_<=lim then _ else _)=_
   rw[T9 #[Y2 M λy _=>f3 _,by rw[aw,aw];unfold lim;lia]]
   have:(acc.map e3++M.map λy=>e3<|op x y)=(acc++M.map (op x)).map e3:=by rw[bM,bT];rfl
   rw[this,(hs acc (acc++M.map (op x)) _).2.1])
 have hf:∀(l:List α)(acc:List γ),l.foldl (λacc x=>acc++M.map (op x)) acc=acc++l.flatMap λx=>M.map (op x):=λl=>by
  induction l with|nil=>intro acc;simp|cons r l ih=>intro acc;rw[d4,ih,h8,bL]
 rw[hf,eN]at e;exact#[o',e]
def XQ{ρ:Env}{s':DS}{i o:Nat}{e:E}{v:V}(h:pv C e (hide (o::os) ρ) s=.ok v s')(hm:(ms.contains i&&fresh e)=ai):rv C ms (.asg [i] e) ρ (o::os) s=.ok (.nx (ρ.set i<|aa v) ((o::os).filter (· != i))) s':=by
 have h1:pvA C e ρ (o::os) s=.ok v s':=by unfold pvA;dsimp only;rw[h]
 rw[rv,h1,Za,T8<|by rw[hm];simp]
def xN{ρ:Env}{s':DS}{i o:Nat}{e:E}{xs:List V}(h:pv C e (hide (o::os) ρ) s=.ok (.lst xs) s')(hm:(ms.contains i&&fresh e)=ak)(hf:Z1 xs=ak)(hi:i<ρ.length):rv C ms (.asg [i] e) ρ (o::os) s=.ok (.nx (ρ.set i<|aa<|.lst xs) (i::(o::os).filter (· != i))) s':=by
 have h1:pvA C e ρ (o::os) s=.ok (.lst xs) s':=by unfold pvA;dsimp only;rw[h]
 rw[rv,h1,Za,T9 hm];show(if Z1 xs=ak/\i<ρ.length then _ else _)=_
 rw[T9 #[hf,hi]]
def xR{ρ:Env}{a b:E}{xs:List V}{y:V}(h1:pv C a ρ s=.ok (.tup xs) s)(h2:pv C b ρ s=.ok y s)(hl:xs.length<=1000):pv C (.bin .add a<|.tup [b]) ρ s=.ok (.tup<|xs++[y]) s:=by
 rw[pv,h1,Za,Xp h2,Za];show(if xs.length+1<=lim then PR.ok (V.tup<|xs++[y]) s else .no)=_
 rw[T9<|by unfold lim;lia]
section
variable{p n:Nat}[Base p]
noncomputable def lpE(p n k:Nat)(a4 a5 a6 a7 a8 a9 a10 a11 a12 a13 a14:Option V):Env:=[aa<|spV p n,aa<|Zf k,aa<|.int p,aa<|.int n,a4,a5,a6,a7,a8,a9,a10,a11,a12,a13,a14]
noncomputable def Vb:List Sm:=[.asg [11]<|.lst [(.c<|.int 0)],
  .ite (.cmp .eq (.v 5)<|.v 9) [.asg [11]<|.lst [(.c<|.int 1)]] [.ite (.and (.cmp .gt (.v 5)<|.v 9)<|.cmp .nin (.v 5)<|.v 7) [.asg [11]<|.blt .rangeL [(.v 2)]] []],
  .asg [12] (.lst []),
  .forr [13] (.of<|.v 10) [.ex<|.mt .extend (.v 12) [(.comp1 [13] 1 [0] (.of<|.v 11) []<|.bin .add (.v 1)<|.tup [(.v 0)])]],
  .mov 10 12]
theorem zk(j:Nat):∀hs:List Nat,X1 (Zf j) (hs.map Zf)=aa (af<|j∈hs)
 |[]=>rfl
 |h::l=>by
  show(match eqV Zt (Zf h) (Zf j),X1 (Zf j) (l.map Zf)with
   |some a,aa b=>aa (a||b)
   |_,_=>ae)=_
  rw[zk j l];show aa (af ((h:Int)=(j:Int))||decide (j∈l))=_
  congr 1
  by_cases e:h=j
  .subst e;simp
  .have:¬(h:Int)=(j:Int):=by lia
   simp[this,Ne.symm e]
def W6{p n k:Nat}{a4 a5 a6 a7 a8 a9 a10 a11 a12 a13 a14:Option V}:hide [6] (lpE p n k a4 a5 a6 a7 a8 a9 a10 a11 a12 a13 a14)=lpE p n k a4 a5 ae a7 a8 a9 a10 a11 a12 a13 a14:=by simp[hide,lpE,lF]
def Ge{p n k:Nat}{a4 a5 a6 a7 a8 a9 a10 a11 a12 a13 a14:Option V}:hide [12,6] (lpE p n k a4 a5 a6 a7 a8 a9 a10 a11 a12 a13 a14)=lpE p n k a4 a5 ae a7 a8 a9 a10 a11 ae a13 a14:=by simp[hide,lpE,lF]
theorem qa{k j h:Nat}{some':List Nat}{L:List Row}{a4 a6 a8 a11 a12 a13 a14:Option V}(s:DS)(hL:L.length*5<=100000)(hr:∀r∈L,r.length<=900) :
  ∃b11 b13,rvs C [12,12,6] Vb (lpE p n k a4 (aa<|Zf j) a6 (aa<|Zn some') a8 (aa<|Zf h) (aa<|.lst<|L.map Zd) a11 a12 a13 a14) [6] s=.ok (.nx (lpE p n k a4 (aa<|Zf j) a6 (aa<|Zn some') a8 (aa<|Zf h) (aa<|.lst<|(grow L<|Y7 p some' h j).map Zd) b11 ae b13 a14) [6]) s:=by
 have hp:=QI (p:=p)
 let ρ (b11 b12 b13:Option V):Env:=lpE p n k a4 (aa<|Zf j) a6 (aa<|Zn some') a8 (aa<|Zf h) (aa<|.lst<|L.map Zd) b11 b12 b13 a14
 let N:List Int:=Y7 p some' h j
 have hN:N.length<=5:=by
  show(Y7 p some' h j).length<=5;unfold Y7;split
  .decide
  .split
   .rw[aw,br];lia
   .decide
 have e1:∀x,rvs C [12,12,6] Vb (ρ x a12 a13) [6] s=rvs C [12,12,6] (Vb.drop 2) (ρ (aa<|.lst<|N.map V.int) a12 a13) [6] s:=λx=>by
  show rvs C _ (_::_::_) _ _ s=_;have c0:pv C (.lst [(.c<|.int 0)]) (hide [6]<|ρ x a12 a13) s=.ok (.lst [.int 0]) s:=by rw[W6,pv,Zb ZU Ze];rfl
  rw[Zi<|XQ c0 rfl];show rvs C _ (_::Vb.drop 2) (ρ (aa<|.lst [.int 0]) a12 a13) [6] s=_;have t1:pv C (.cmp .eq (.v 5)<|.v 9) (ρ (aa<|.lst [.int 0]) a12 a13) s=.ok (.bl<|af<|(j:Int)=(h:Int)) s:=by
   rw[pv,Zg (v:=Zf j) rfl,Za,Zg (v:=Zf h) rfl];rfl
  by_cases c1:j=h
  .have hN1:N=[1]:=by show Y7 p some' h j=_;unfold Y7;rw[T9 c1]
   rw[Zi (ρ':=ρ (aa<|.lst<|N.map V.int) a12 a13) (os':=[6]) (s':=s) ?_];rw[Yu<|Yh t1 rfl,T9<|T5<|by lia]
   have c2:pv C (.lst [(.c<|.int 1)]) (hide [6]<|ρ (aa<|.lst [.int 0]) a12 a13) s=.ok (.lst [.int 1]) s:=by rw[W6,pv,Zb ZU Ze];rfl
   rw[Zi<|XQ c2 rfl,rvs,hN1];rfl
  .rw[Zi (ρ':=ρ (aa<|.lst<|N.map V.int) a12 a13) (os':=[6]) (s':=s) ?_]
   rw[Yu<|Yh t1 rfl,T8<|by rw[T0];lia]
   have t2:pv C (.and (.cmp .gt (.v 5)<|.v 9)<|.cmp .nin (.v 5)<|.v 7) (ρ (aa<|.lst [.int 0]) a12 a13) s=.ok (.bl<|af (j>h)&&af (j∉some')) s:=by
    have u1:pv C (.cmp .gt (.v 5)<|.v 9) (ρ (aa<|.lst [.int 0]) a12 a13) s=.ok (.bl<|af<|j>h) s:=by
     rw[pv,Zg (v:=Zf j) rfl,Za,Zg (v:=Zf h) rfl,Za];show po (aa<|V.bl<|af<|(h:Int)<(j:Int)) s=_;rw[show af ((h:Int)<(j:Int))=af (j>h)from decide_eq_decide.mpr<|by lia];rfl
    have u2:pv C (.cmp .nin (.v 5)<|.v 7) (ρ (aa<|.lst [.int 0]) a12 a13) s=.ok (.bl<|af<|j∉some') s:=by
     rw[pv,Zg (v:=Zf j) rfl,Za,Zg (v:=Zn some') rfl,Za];show po ((X1 (Zf j)<|some'.map Zf).map λb=>V.bl !b) s=_
     rw[zk];show PR.ok (V.bl !(af<|j∈some')) s=_;rw[decide_not]
    exact Zev u1 u2
   rw[Zi (ρ':=ρ (aa<|.lst<|N.map V.int) a12 a13) (os':=[6]) (s':=s) ?_,rvs];rw[Yu<|Yh t2 rfl];by_cases c2:j>h/\j∉some'
   .have hN1:N=(aH p).map λ(j:Nat)=>(j:Int):=by show Y7 p some' h j=_;unfold Y7;rw[T8 c1,T9 c2]
    rw[T9<|by rw[T5 c2.1,T5 c2.2];rfl]
    have c3:pv C (.blt .rangeL [(.v 2)]) (hide [6]<|ρ (aa<|.lst [.int 0]) a12 a13) s=.ok (.lst<|N.map V.int) s:=by
     rw[W6,pv,Zb (Zg (v:=.int p) rfl) Ze,Za,hN1];show po (if few (p:Int)=ak then aa (V.lst<|ZS 0 (p:Int).toNat)else ae) s=_
     rw[T9 (by unfold few;exact T5<|by lia),fH]
     unfold ZS;rw[bT];show PR.ok (V.lst<|(aH p).map λ(k:Nat)=>V.int<|0+(k:Int)) s=_
     simp only[Int.zero_add];rfl
    rw[Zi<|XQ c3 rfl,rvs];rfl
   .have hN1:N=[0]:=by show Y7 p some' h j=_;unfold Y7;rw[T8 c1,T8 c2]
    rw[T8 (by rw[<-o7];rw[T0];exact c2),rvs,hN1];rfl
 refine#[aa<|.lst<|N.map V.int,?_];have e2:rvs C [12,12,6] (Vb.drop 2) (ρ (aa<|.lst<|N.map V.int) a12 a13) [6] s=rvs C [12,12,6] (Vb.drop 3) (ρ (aa<|.lst<|N.map V.int) (aa<|.lst<|([]:List Row).map Zd) a13) [12,6] s:=by
  have c0:pv C (.lst []) (hide [6]<|ρ (aa<|.lst<|N.map V.int) a12 a13) s=.ok (.lst []) s:=by rw[pv,pvs];rfl
  show rvs C _ (_::Vb.drop 3) _ _ s=_;rw[Zi<|xN c0 rfl rfl<|by show 12<15;decide];rfl
 obtain⟨b13,e3⟩:=zM (C:=C) (ms:=[12,12,6]) (os:=[12,6]) (s:=s) (i:=13) (j:=10) (k:=11) (m:=12) (e1:=Zd) (e2:=V.int) (e3:=Zd) (op:=λr y=>r++[y]) (L:=L) (M:=N) (ρ:=λacc x=>ρ (aa<|.lst<|N.map V.int) (aa<|.lst<|acc.map Zd) x) (o:=a13)
  (by
   rw[Ge,pvw,Zg (v:=.lst<|L.map Zd) rfl];rfl) rfl rfl (λacc acc' x=>#[rfl,rfl,λv=>rfl]) Vx Vx (λacc r hm=>by
   rw[Ge];refine Zy (C:=C) (cap:=[13]) (nl:=1) (t:=[0]) (it:=.of<|.v 11) (s:=s) (l:=N) (e:=V.int) (g:=λy=>Zd<|r++[y]) (by rw[pvw,Zg (v:=.lst<|N.map V.int) rfl];rfl) (by unfold lim;lia) λy _=>#[[aa<|.int y,aa<|Zd r],rfl,?_]
   rw[xR (xs:=r.map V.int) (y:=.int y) (Zg rfl) (Zg rfl) (by rw[aw];have:=hr r hm;lia)]
   show PR.ok (V.tup<|r.map V.int++[V.int y]) s=PR.ok (V.tup<|(r++[y]).map V.int) s;rw[bM];rfl) (cc (mM _ hN) hL)
 have hg:(L.flatMap λr=>N.map λy=>r++[y])=grow L N:=rfl
 rw[hg]at e3;refine#[b13,?_];rw[e1 a11,e2];show rvs C _ (_::[.mov 10 12]) _ _ s=_;rw[Zi e3];rw[Zi (ρ':=lpE p n k a4 (aa<|Zf j) a6 (aa<|Zn some') a8 (aa<|Zf h) (aa<|.lst<|(grow L N).map Zd) (aa<|.lst<|N.map V.int) ae b13 a14) (os':=[6]) (s':=s) (by rw[rv];rfl),rvs]
end
section
variable{p n:Nat}[Base p]
noncomputable def wJ:List Sm:=[.asg [10]<|.lst [(.tup [])],.forr [5] (.rng1<|.v 3) Vb,.asg [12]<|.lst [],
  .forr [14] (.of<|.v 8) [.ex<|.mt .extend (.v 12) [(.comp1 [14] 1 [0] (.of<|.v 10) []<|.bin .add (.v 1)<|.tup [(.v 0)])]],
  .mov 8 12]
def yp{α:Type}(L:List (List α))(M:List α):(grow L M).length=L.length*M.length:=by
 unfold grow
 induction L with|nil=>simp|cons x L ih=>rw[h8,aX,ih,aw,aJ,Nat.succ_mul,ke]
theorem Zat(some':List Nat)(h j:Nat):(Y7 p some' h j).length<=5:=by
 have hp:=QI (p:=p);unfold Y7;split
 .decide
 .split
  .rw[aw,br];lia
  .decide
theorem uW{k h:Nat}{some':List Nat}{a4 a5 a6 a8 a11 a12 a13 a14:Option V}(s:DS)(hn:n<=6) :
  ∃b5 b11 b12 b13,rv C [12,12,6] (.forr [5] (.rng1<|.v 3) Vb) (lpE p n k a4 a5 a6 (aa<|Zn some') a8 (aa<|Zf h) (aa<|.lst<|[([]:Row)].map Zd) a11 a12 a13 a14) [6] s=.ok (.nx (lpE p n k a4 b5 a6 (aa<|Zn some') a8 (aa<|Zf h) (aa<|.lst<|(ZZ p n some' h).map Zd) b11 b12 b13 a14) [6]) s:=by
 obtain⟨ρ',⟨L,c5,c11,c12,c13,rfl,hf,_⟩,e⟩:=Vq (C:=C) (t:=[5]) (it:=.rng1<|.v 3) (e:=Zf) (os:=[6]) (s:=s)
  (λl ρ=>∃(L:List Row)(c5 c11 c12 c13:Option V),ρ=lpE p n k a4 c5 a6 (aa<|Zn some') a8 (aa<|Zf h) (aa<|.lst<|L.map Zd) c11 c12 c13 a14/\l.foldl (λl j=>grow l<|Y7 p some' h j) L=ZZ p n some' h/\∃j,j+l.length=n/\L.length<=5^j/\∀r∈L,r.length<=j)
  (by rw[W6];exact YH (Zg rfl)<|by lia) #[[[]],a5,a11,a12,a13,rfl,rfl,0,by rw[br];lia,by decide,λr hr=>by rw[aY.mp hr];exact aG _] rfl (λx l ρ hI=>by
   obtain⟨L,c5,c11,c12,c13,rfl,hf,j,hj,hl,hr⟩:=hI;rw[aJ]at hj;have h5:5^j<=5^5:=dC (by decide) (by lia)
   have h6:(5:Nat)^5=3125:=by decide
   obtain⟨b11,b13,e1⟩:=qa (C:=C) (p:=p) (n:=n) (k:=k) (j:=x) (h:=h) (some':=some') (L:=L) (a4:=a4) (a6:=a6) (a8:=a8) s (by lia) (λr h=>by have:=hr r h;lia)
   refine#[rfl,_,_,rfl,e1,grow L<|Y7 p some' h x,_,b11,ae,b13,rfl,hf,j+1,by lia,?_,λr hm=>?_]
   .rw[yp,kg];exact gV hl<|Zat ..
   .obtain⟨q,hq,hm⟩:=fZ.mp hm
    obtain⟨y,_,rfl⟩:=aT.mp hm;rw[aX,cE];have:=hr q hq;lia)
 rw[kI]at hf;subst hf;exact#[c5,c11,c12,c13,e]
theorem uv{k h:Nat}{some':List Nat}{Ps:List (List Row)}{a4 a5 a6 a10 a11 a12 a13 a14:Option V}(s:DS)(hn:n<=6)(hP:Ps.length*(ZZ p n some' h).length<=100000)(hl:(ZZ p n some' h).length<=100000)(hr:∀P∈Ps,P.length<=900) :
  ∃b5 b10 b11 b13 b14,rvs C [12,12,6] wJ (lpE p n k a4 a5 a6 (aa<|Zn some') (aa<|.lst<|Ps.map Zc) (aa<|Zf h) a10 a11 a12 a13 a14) [6] s=.ok (.nx (lpE p n k a4 b5 a6 (aa<|Zn some') (aa<|.lst<|(grow Ps<|ZZ p n some' h).map Zc) (aa<|Zf h) b10 b11 ae b13 b14) [6]) s:=by
 unfold wJ;have c0:pv C (.lst [(.tup [])]) (hide [6]<|lpE p n k a4 a5 a6 (aa<|Zn some') (aa<|.lst<|Ps.map Zc) (aa<|Zf h) a10 a11 a12 a13 a14) s=.ok (.lst<|[([]:Row)].map Zd) s:=by
  rw[W6,pv,Zb (v:=.tup []) (by rw[pv,pvs];rfl) Ze];rfl
 rw[Zi<|XQ c0 rfl];obtain⟨b5,b11,b12,b13,e1⟩:=uW (C:=C) (p:=p) (n:=n) (k:=k) (h:=h) (some':=some') (a4:=a4) (a5:=a5) (a6:=a6) (a11:=a11) (a12:=a12) (a13:=a13) (a14:=a14) s hn;show ∃b5 b10 b11 b13 b14,rvs C _ _ (lpE p n k a4 a5 a6 (aa<|Zn some') (aa<|.lst<|Ps.map Zc) (aa<|Zf h) (aa<|.lst<|[([]:Row)].map Zd) a11 a12 a13 a14) [6] s=_;rw[Zi e1]
 let Z:=ZZ p n some' h
 have c1:pv C (.lst []) (hide [6]<|lpE p n k a4 b5 a6 (aa<|Zn some') (aa<|.lst<|Ps.map Zc) (aa<|Zf h) (aa<|.lst<|Z.map Zd) b11 b12 b13 a14) s=.ok (.lst []) s:=by rw[pv,pvs];rfl
 rw[Zi<|xN c1 rfl rfl<|by show 12<15;decide]
 let ρ (acc:List (List Row)) (x:Option V):Env:=lpE p n k a4 b5 a6 (aa<|Zn some') (aa<|.lst<|Ps.map Zc) (aa<|Zf h) (aa<|.lst<|Z.map Zd) b11 (aa<|.lst<|acc.map Zc) b13 x
 obtain⟨b14,e3⟩:=zM (C:=C) (ms:=[12,12,6]) (os:=[12,6]) (s:=s) (i:=14) (j:=8) (k:=10) (m:=12) (e1:=Zc) (e2:=Zd) (e3:=Zc) (op:=λP y=>P++[y]) (L:=Ps) (M:=Z) (ρ:=ρ) (o:=a14)
  (by rw[Ge,pvw,Zg rfl];rfl) rfl rfl (λacc acc' x=>#[rfl,rfl,λv=>rfl]) Xg Xg (λacc P hm=>by
   rw[Ge];refine Zy (C:=C) (cap:=[14]) (nl:=1) (t:=[0]) (it:=.of<|.v 10) (s:=s) (l:=Z) (e:=Zd) (by rw[pvw,Zg rfl];rfl) (by show(ZZ p n some' h).length<=lim;unfold lim;lia) λy _=>#[[aa<|Zd y,aa<|Zc P],rfl,?_]
   rw[xR (xs:=P.map Zd) (y:=Zd y) (Zg rfl) (Zg rfl) (by rw[aw];have:=hr P hm;lia)]
   show PR.ok (V.tup<|P.map Zd++[Zd y]) s=PR.ok (V.tup<|(P++[y]).map Zd) s;rw[bM];rfl) hP
 refine#[b5,aa<|.lst<|Z.map Zd,b11,b13,b14,?_];show rvs C _ (_::[.mov 8 12]) (ρ [] a14) [12,6] s=_;rw[Zi e3];rw[Zi (ρ':=lpE p n k a4 b5 a6 (aa<|Zn some') (aa<|.lst<|(grow Ps Z).map Zc) (aa<|Zf h) (aa<|.lst<|Z.map Zd) b11 ae b13 b14) (os':=[6]) (s':=s) (by rw[rv];rfl),rvs]
noncomputable def chk(p n:Nat)(some':List Nat)(a:Nat×Bool)(h:Nat):Nat×Bool:=(a.1*(ZZ p n some' h).length,a.2&&af (a.1*(ZZ p n some' h).length<=20000/\(ZZ p n some' h).length<=20000))
theorem Zdq{some':List Nat}:∀(l:List Nat)(m:Nat)(b:Bool),(l.foldl (chk p n some') (m,b)).2=ak->b=ak
 |[],_,_,h=>h
 |x::l,m,b,h=>((aB _ _).mp<|Zdq l _ _ h).1
noncomputable def ZaX:List Sm:=[.asg [8]<|.lst [(.tup [])],.forr [9] (.of<|.v 7) wJ,.ex<|.mt .extend (.v 6) [(.v 8)]]
theorem qd{k:Nat}{some':List Nat}{F:List (List Row)}{a4 a5 a8 a9 a10 a11 a12 a13 a14:Option V}(s:DS)(hn:n<=6)(hc:(some'.foldl (chk p n some') (1,ak)).2=ak)(hs:some'.length<=6)(hF:F.length+(Yy p n some').length<=100000) :
  ∃b5 b8 b9 b10 b11 b12 b13 b14,rvs C [12,12,6] ZaX (lpE p n k a4 a5 (aa<|.lst<|F.map Zc) (aa<|Zn some') a8 a9 a10 a11 a12 a13 a14) [6] s=.ok (.nx (lpE p n k a4 b5 (aa<|.lst<|(F++Yy p n some').map Zc) (aa<|Zn some') b8 b9 b10 b11 b12 b13 b14) [6]) s:=by
 unfold ZaX;have c0:pv C (.lst [(.tup [])]) (hide [6]<|lpE p n k a4 a5 (aa<|.lst<|F.map Zc) (aa<|Zn some') a8 a9 a10 a11 a12 a13 a14) s=.ok (.lst<|[([]:List Row)].map Zc) s:=by
  rw[W6,pv,Zb (by rw[pv,pvs];rfl) Ze];rfl
 rw[Zi<|XQ c0 rfl]
 let ρ (Ps:List (List Row)) (a5 a9 a10 a11 a12 a13 a14:Option V):Env:=lpE p n k a4 a5 (aa<|.lst<|F.map Zc) (aa<|Zn some') (aa<|.lst<|Ps.map Zc) a9 a10 a11 a12 a13 a14
 show ∃b5 b8 b9 b10 b11 b12 b13 b14,rvs C _ _ (ρ [[]] a5 a9 a10 a11 a12 a13 a14) [6] s=_;obtain⟨ρ',⟨Ps,d5,d9,d10,d11,d12,d13,d14,rfl,hf,_⟩,e⟩:=Vq (C:=C) (t:=[9]) (it:=.of<|.v 7) (b:=wJ) (L:=some') (e:=Zf) (os:=[6]) (s:=s)
  (λl ρ'=>∃(Ps:List (List Row))(d5 d9 d10 d11 d12 d13 d14:Option V),ρ'=ρ Ps d5 d9 d10 d11 d12 d13 d14/\l.foldl (λl h=>grow l<|ZZ p n some' h) Ps=Yy p n some'/\(l.foldl (chk p n some') (Ps.length,ak)).2=ak/\∃j,j+l.length=some'.length/\∀P∈Ps,P.length<=j)
  (by rw[W6,pvw,Zg rfl];rfl) #[[[]],a5,a9,a10,a11,a12,a13,a14,rfl,rfl,hc,0,by lia,λP hP=>by rw[aY.mp hP];exact aG _] rfl (λx l ρ' hI=>by
   obtain⟨Ps,d5,d9,d10,d11,d12,d13,d14,rfl,hf,hk,j,hj,hr⟩:=hI;rw[aJ]at hj;have hb:Ps.length*(ZZ p n some' x).length<=20000/\(ZZ p n some' x).length<=20000:=T6 ((aB _ _).mp<|Zdq (p:=p) (n:=n) (some':=some') l _ _ hk).2;obtain⟨b5,b10,b11,b13,b14,e1⟩:=uv (C:=C) (p:=p) (n:=n) (k:=k) (h:=x) (some':=some') (Ps:=Ps) (a4:=a4) (a5:=d5) (a10:=d10) (a11:=d11) (a12:=d12) (a13:=d13) (a14:=d14) s hn (by lia) (by lia) (λP h=>by have:=hr P h;lia)
   have h1:(ak&&af (Ps.length*(ZZ p n some' x).length<=20000/\(ZZ p n some' x).length<=20000))=ak:=by rw[T5 hb];rfl
   refine#[rfl,_,_,rfl,e1,grow Ps<|ZZ p n some' x,b5,_,b10,b11,ae,b13,b14,rfl,hf,?_,j+1,by lia,λP hm=>?_]
   .have hk':(l.foldl (chk p n some') (Ps.length*(ZZ p n some' x).length,ak&&af (Ps.length*(ZZ p n some' x).length<=20000/\(ZZ p n some' x).length<=20000))).2=ak:=hk
    rw[h1]at hk';rw[yp];exact hk'
   .obtain⟨q,hq,hm⟩:=fZ.mp hm
    obtain⟨y,_,rfl⟩:=aT.mp hm;rw[aX,cE];have:=hr q hq;lia)
 rw[kI]at hf;subst hf;rw[Zi e];refine#[d5,aa<|.lst<|(Yy p n some').map Zc,d9,d10,d11,d12,d13,d14,?_];rw[Zi (ρ':=lpE p n k a4 d5 (aa<|.lst<|(F++Yy p n some').map Zc) (aa<|Zn some') (aa<|.lst<|(Yy p n some').map Zc) d9 d10 d11 d12 d13 d14) (os':=[6]) (s':=s) ?_,rvs];rw[rv];show(if ak=ak then((PR.ok (F.map Zc) s).bind λxs s=>(pv C (.v 8) (hide [6]<|ρ (Yy p n some') d5 d9 d10 d11 d12 d13 d14) s).bind _)else _)=_
 rw[T9 rfl,Za,W6,Zg rfl,Za];show(if Z1 ((Yy p n some').map Zc)=ak/\(F.map Zc).length+((Yy p n some').map Zc).length<=lim then _ else _)=_
 rw[T9 #[Y2 _ λP _=>Xg P,by rw[aw,aw];unfold lim;lia],<-bM];rfl
end
noncomputable def Zf4(q:Nat×Nat):Bool:=(YO q.2).all λr=>(r.foldl (chk q.1 q.2 r) (1,ak)).2&&af (r.length<=6)
def Zb9:∀q∈G0++GQ,Zf4 q=ak:=by decide +kernel
def yd{C:ZA}{ρ:Env}{s:DS}{a:E}{Ps:List (List Row)}(h1:pv C a ρ s=.ok (.lst<|Ps.map Zc) s)(h:Z8 Ps=ak):pv C (.blt .sorted [a]) ρ s=.ok (.lst<|(Ym ltP Ps).map Zc) s:=by
 have pm:∀Ps:List (List Row),YL (Ps.map Zc)=aa Ps:=λPs=>by
  induction Ps with
  |nil=>rfl
  |cons P Ps ih=>
   show(match yy (Zc P),YL (Ps.map Zc)with
    |some a,aa b=>aa (a::b)
    |_,_=>ae)=_
   rw[ih,show yy (Zc P)=aa P from Yz P]
 have se:∀Ps:List (List Row),ZcJ (Ps.map Zc)=ai:=λPs=>by
  cases Ps with|nil=>rfl|cons P Ps=>cases P<;>rfl
 rw[pv,Zb h1 Ze,Za];show po (if ZcJ (Ps.map Zc)=ak then _ else(YL<|Ps.map Zc).bind λps=>if Z8 ps=ak then aa (V.lst<|(Ym ltP ps).map Zc)else ae) s=_
 rw[T8 (by rw[se];simp),pm]
 show po (if Z8 Ps=ak then _ else _) s=_
 rw[T9 h];rfl
section
variable{p n:Nat}[Base p]
theorem jQ:∀m,((aH m).foldl (λ(l:List (List Nat)) k=>l++l.map λr=>r++[k]) [[]]).length=2^m:=λm=>by
 induction m with|zero=>rfl|succ m ih=>rw[List.range_succ,List.foldl_append,d4,kI,aX,aw,ih,kg];lia
theorem ud(d:Nat){k:Nat}(s:DS)(hq:(p,n)∈G0++GQ)(hn:n<=6)(hk:k<=n)(hl:∀j,j<=n->(Yd p n j).length<=1395):CV (d+1) 26 [spV p n,Zf k] s=.ok (.lst<|(Yd p n k).map Zc) s:=by
 obtain⟨so,ok⟩:=ZaM hq hk (hl k hk) λP hP=>(Y9 k P hP).2
 refine Zq (fn:=YU) rfl (by decide) rfl ?_
 let ρ (a4 a5 a6 a7 a8 a9 a10 a11 a12 a13 a14:Option V):Env:=lpE p n k a4 a5 a6 a7 a8 a9 a10 a11 a12 a13 a14
 show rvs (CV d) [12,12,6] YU.body [aa<|spV p n,aa<|Zf k,ae,ae,ae,ae,ae,ae,ae,ae,ae,ae,ae,ae,ae] [] s=_
 dsimp only[YU]
 rw[Zi<|Y5 (p:=p) (n:=n) (CV d) _ (i:=2) (j:=3) (by show pv _ _ _ _=_;exact Zg rfl) #[rfl,rfl]]
 show rvs _ _ _ (ρ ae ae ae ae ae ae ae ae ae ae ae) [] s=_;have c0:pv (CV d) (.lst [(.tup [])]) (ρ ae ae ae ae ae ae ae ae ae ae ae) s=.ok (.lst<|[([]:List Nat)].map Zn) s:=by
  rw[pv,Zb (v:=.tup []) (by rw[pv,pvs];rfl) Ze];rfl
 rw[Zi<|ZE c0 rfl];show rvs _ _ _ (ρ (aa<|.lst<|[([]:List Nat)].map Zn) ae ae ae ae ae ae ae ae ae ae) [] s=_;obtain⟨ρ',⟨L,b5,rfl,hf,_⟩,e1⟩:=Vq (C:=CV d) (ms:=[12,12,6]) (t:=[5]) (it:=.rng1<|.v 3) (b:=[.asg [4]<|.bin .add (.v 4)<|.comp1 [5] 1 [0] (.of<|.v 4) []<|.bin .add (.v 0)<|.tup [(.v 1)]]) (L:=aH n) (e:=Zf) (os:=[]) (s:=s) (ρ:=ρ (aa<|.lst<|[([]:List Nat)].map Zn) ae ae ae ae ae ae ae ae ae ae)
  (λl ρ'=>∃(L:List (List Nat))(b5:Option V),ρ'=ρ (aa<|.lst<|L.map Zn) b5 ae ae ae ae ae ae ae ae ae/\l.foldl (λ(l:List (List Nat)) k=>l++l.map λr=>r++[k]) L=YO n/\∃j,j+l.length=n/\L.length=2^j/\∀r∈L,r.length<=j)
  (YH (Zg rfl)<|by lia) #[[[]],ae,rfl,rfl,0,by rw[br];lia,rfl,λr hr=>by rw[aY.mp hr];exact aG _] rfl (λx l ρ' hI=>by
   obtain⟨L,b5,rfl,hf,j,hj,hL,hr⟩:=hI;rw[aJ]at hj;have h5:2^j<=2^6:=dC (by decide) (by lia)
   have h6:(2:Nat)^6=64:=by decide
   refine#[rfl,ρ (aa<|.lst<|L.map Zn) (aa<|Zf x) ae ae ae ae ae ae ae ae ae,ρ (aa<|.lst<|(L++L.map λr=>r++[x]).map Zn) (aa<|Zf x) ae ae ae ae ae ae ae ae ae,rfl,?_,L++L.map λr=>r++[x],aa<|Zf x,rfl,hf,j+1,by lia,by rw[aX,aw,hL,kg];lia,λr hm=>?_]
   .have hc:=Zy (C:=CV d) (cap:=[5]) (nl:=1) (t:=[0]) (it:=.of<|.v 4) (elt:=.bin .add (.v 0)<|.tup [(.v 1)]) (ρ:=ρ (aa<|.lst<|L.map Zn) (aa<|Zf x) ae ae ae ae ae ae ae ae ae) (s:=s) (l:=L) (e:=Zn) (g:=λr=>Zn<|r++[x]) (by rw[pvw,Zg (v:=.lst<|L.map Zn) rfl];rfl) (by unfold lim;lia) (λr hm=>#[[aa<|Zn r,aa<|Zf x],rfl,by
     rw[xR (xs:=r.map Zf) (y:=Zf x) (Zg rfl) (Zg rfl) (by rw[aw];have:=hr r hm;lia)]
     show PR.ok (V.tup<|r.map Zf++[Zf x]) s=PR.ok (V.tup<|(r++[x]).map Zf) s;rw[bM];rfl])
    have ha:=VT (x:=L.map Zn) (y:=L.map λr=>Zn<|r++[x]) (a:=.v 4) (Zg rfl) hc (by rw[aw,aw];unfold lim;lia)
    have:(L.map Zn++L.map λr=>Zn<|r++[x])=(L++L.map λr=>r++[x]).map Zn:=by rw[bM,bT];rfl
    rw[this]at ha;rw[Zi<|ZE ha rfl,rvs];rfl
   .rcases bK.mp hm with z|z
    .have:=hr r z;lia
    .obtain⟨q,hq,rfl⟩:=aT.mp z
     rw[aX,cE];have:=hr q hq;lia)
 rw[kI]at hf;subst hf;rw[Zi e1];have c1:rv (CV d) [12,12,6] (.asg [6]<|.lst []) (ρ (aa<|.lst<|(YO n).map Zn) b5 ae ae ae ae ae ae ae ae ae) [] s=.ok (.nx (ρ (aa<|.lst<|(YO n).map Zn) b5 (aa<|.lst<|([]:List (List Row)).map Zc) ae ae ae ae ae ae ae ae) [6]) s:=by
  simp[pvE,Z1,ρ,lpE]
 rw[Zi c1];have ll:(YO n).length<=64:=by
  have e:(YO n).length=2^n:=jQ n;rw[e];exact cc (dC (by decide) hn) (by decide)
 have hch:=aS.mp<|Zb9 _ hq;have w7:pvw (CV d) (.of<|.comp1 [1] 1 [0] (.of<|.v 4) [(.cmp .eq (.blt .len [(.v 0)])<|.v 1)]<|.v 0) (hide [6]<|ρ (aa<|.lst<|(YO n).map Zn) b5 (aa<|.lst<|([]:List (List Row)).map Zc) ae ae ae ae ae ae ae ae) s=.ok (((YO n).filter λr=>af<|r.length=k).map Zn) s:=by
  rw[W6,pvw,Yl (C:=CV d) (cap:=[1]) (nl:=1) (t:=[0]) (it:=.of<|.v 4) (tst:=.cmp .eq (.blt .len [(.v 0)])<|.v 1) (elt:=.v 0) (s:=s) (l:=YO n) (e:=Zn) (g:=Zn) (q:=λr=>af<|r.length=k) (by rw[pvw,Zg (v:=.lst<|(YO n).map Zn) rfl];rfl) (by unfold lim;lia) (λr _=>#[[aa<|Zn r,aa<|Zf k],.bl<|af<|r.length=k,rfl,by
   rw[pv,pv,Zb (Zg (v:=Zn r) rfl) Ze,Za];show(PR.ok (V.int ((r.map Zf).length:Int)) s).bind _=_;rw[Za,Zg (v:=Zf k) rfl,Za,aw];show po (aa<|V.bl<|af<|(r.length:Int)=(k:Int)) s=_;rw[show af ((r.length:Int)=(k:Int))=af (r.length=k)from decide_eq_decide.mpr<|by lia];rfl,rfl,λ_=>Zg rfl])]
  rfl
 have tot:(GT p n k).length<=1395:=by
  rw[<-(Sd.Y6 (lt:=ltP)<|GT p n k).length_eq,so];exact hl k hk
 obtain⟨ρ2,⟨F,d5,d7,d8,d9,d10,d11,d12,d13,d14,rfl,hf,_⟩,e2⟩:=Vq (C:=CV d) (ms:=[12,12,6]) (t:=[7]) (it:=.of<|.comp1 [1] 1 [0] (.of<|.v 4) [(.cmp .eq (.blt .len [(.v 0)])<|.v 1)]<|.v 0) (b:=ZaX) (L:=(YO n).filter λr=>af<|r.length=k) (e:=Zn) (os:=[6]) (s:=s) (ρ:=ρ (aa<|.lst<|(YO n).map Zn) b5 (aa<|.lst<|([]:List (List Row)).map Zc) ae ae ae ae ae ae ae ae)
  (λl ρ'=>∃(F:List (List Row))(d5 d7 d8 d9 d10 d11 d12 d13 d14:Option V),ρ'=ρ (aa<|.lst<|(YO n).map Zn) d5 (aa<|.lst<|F.map Zc) d7 d8 d9 d10 d11 d12 d13 d14/\F++l.flatMap (Yy p n)=GT p n k/\∀r∈l,r∈YO n)
  w7 #[[],b5,ae,ae,ae,ae,ae,ae,ae,ae,rfl,rfl,λr hr=>(db.mp hr).1] rfl (λr l ρ' hI=>by
   obtain⟨F,d5,d7,d8,d9,d10,d11,d12,d13,d14,rfl,hf,hm⟩:=hI;obtain⟨k1,k2⟩:=(aB _ _).mp<|hch r<|hm r<|ao ..;have hF:F.length+(Yy p n r).length<=1395:=by
    rw[<-hf,h8]at tot;simp only[aX]at tot;lia
   obtain⟨b5',b8,b9,b10,b11,b12,b13,b14,e3⟩:=qd (C:=CV d) (p:=p) (n:=n) (k:=k) (some':=r) (F:=F) (a4:=aa<|.lst<|(YO n).map Zn) (a5:=d5) (a8:=d8) (a9:=d9) (a10:=d10) (a11:=d11) (a12:=d12) (a13:=d13) (a14:=d14) s hn k1 (T6 k2) (by lia)
   exact#[by rw[y8];rfl,_,_,rfl,e3,F++Yy p n r,b5',_,b8,b9,b10,b11,b12,b13,b14,rfl,by rw[bL];exact hf,λq hq=>hm q<|au _ hq])
 refine (Zi e2).trans ?_;rw[List.flatMap_nil,cr]at hf;subst hf;refine Zk<|ZG ?_;rw[yd (Ps:=GT p n k) (Zg rfl) ok,so]
end
noncomputable def GD:List V:=[.non,.bl ak,.bl ai,.int<|-1,.int 0,.int 1,.str<|bh "",.str<|bh "1",.tup [],.lst [],.tup [.tup []],.tup [.tup [.int 0]],.tup [.tup [.int 1]],.lst [.tup [.int 1]],.dct ae,.tup [.non],.int<|10^29]
noncomputable def uo:List V:=[.tup [.tup [.int 1,.int 0],.tup [.int 0,.int 1]],.tup [.tup [.bl ak]],.tup [.tup [.tup [.int 1]]]]
def ZeG:∀v∈GD++uo,okV v=ak:=by
 intro v h;refine Xw ?_ v h;rfl
def uC:∀v∈GD++uo,∀xs,v=.tup xs->xs.length<=1000:=by
 intro v h xs e;subst e;simp only[GD,uo,lm,eN,ay,bQ,or_false,reduceCtorEq,false_or,V.tup.injEq]at h;rcases h with rfl|rfl|rfl|rfl|rfl|rfl|rfl|rfl<;>decide
def ZbZ(d:Nat)(s:DS):∃x s',CV (d+2) 25 [.drw] s=.ok x s'/\Th 1000 x:=by
 obtain⟨v,s1,t1,t2,t3⟩:=Z3 d s (m:=20) (i:=0) (ρ:=[aa .drw,aa<|.lst GD]) rfl ZU (by decide) (by decide)
 have e1:pv (CV<|d+1) (.bin .add (.v 1)<|.lst [(.tup [(.tup [(.c<|.int 1),(.c<|.int 0)]),(.tup [(.c<|.int 0),(.c<|.int 1)])]),(.tup [(.tup [(.c<|.bl ak)])]),(.tup [(.tup [(.tup [(.c<|.int 1)])])])]) [aa .drw,aa<|.lst GD] s=.ok (.lst<|GD++uo) s:=by
  have g:pv (CV<|d+1) (.lst [(.tup [(.tup [(.c<|.int 1),(.c<|.int 0)]),(.tup [(.c<|.int 0),(.c<|.int 1)])]),(.tup [(.tup [(.c<|.bl ak)])]),(.tup [(.tup [(.tup [(.c<|.int 1)])])])]) [aa .drw,aa<|.lst GD] s=.ok (.lst uo) s:=by simp[pvE,ofD,uo]
  exact VT (Zg rfl) g (by decide)
 obtain⟨x,hx,e2⟩:=pick e1 t1 t2 t3;refine#[x,s1,Zq rfl (by decide) rfl ?_,ZeG x hx,uC x hx]
 show rvs (CV<|d+1) [] WE.body [aa .drw,ae] [] s=_
 dsimp only[WE]
 rw[Zi (ρ':=[aa .drw,aa<|.lst GD]) (os':=[]) (s':=s)<|by simp[pvE,ofD,GD,pv.eq_6,YZ,QC]]
 exact Zk<|ZG e2
def JB{i:Int}{k:Nat}(he:pv C e ρ s=.ok (.int k) s)(hk:k<1000):∃ys,pv C (.bin .mul (.tup [(.c<|.int i)]) e) ρ s=.ok (.tup ys) s/\Y0 ys=ak/\ys.length<=1000:=by
 refine#[(aP k [V.int i]).flatten,?_,zV λx hx=>?_,?_]
 .rw[pv,Xp ZU,Za,he,Za]
  show(if 0<=(k:Int)/\(k:Int)<1000/\[V.int i].length<=1000 then PR.ok (V.tup (aP (k:Int).toNat [V.int i]).flatten) s else .no)=_
  rw[T9 #[by lia,by lia,by show 1<=1000;lia],fH]
 .obtain⟨l,hl,hx⟩:=List.mem_flatten.mp hx
  rw[List.eq_of_mem_replicate hl]at hx;rw[aY.mp hx];rfl
 .rw[List.length_flatten,nC]
  simp;lia
def WW{Q:V->Prop}{es:List E}(hl:es.length<=1000)(h:∀e∈es,∃v,pv C e ρ s=.ok v s/\Q v):∃vs,pv C (.lst es) ρ s=.ok (.lst vs) s/\vs.length=es.length/\∀v∈vs,Q v:=by
 obtain⟨vs,e,l,q⟩:=wu h;refine#[vs,?_,l,q];rw[pv,e,Za,T9<|by unfold lim;lia]
def WQ{k:Int}(h:pv C a ρ s=.ok (.int k) s):pv C (.bin .add a<|.c<|.int 1) ρ s=.ok (.int<|k+1) s:=Zay h ZU
def yS{ms:List Nat}{t:E}{z l:List Sm}(h:pv C t ρ s=.ok (.bl ai) s):rvs C ms (.ite t z []::l) ρ [] s=rvs C ms l ρ [] s:=guard h
def J4{lo hi:E}{j k:Int}(ha:pv C a ρ s=.ok (.tup xs) s)(hlo:pv C lo ρ s=.ok (.int j) s)(hhi:pv C hi ρ s=.ok (.int k) s)(hb:pv C b ρ s=.ok x s)(hl:xs.length<=400)(ho:Y0 xs=ak)(hx:okV x=ak):∃ys,pv C (.bin .add (.bin .add (.sl a ae<|aa lo)<|.tup [b])<|.sl a (aa hi) ae) ρ s=.ok (.tup ys) s/\Y0 ys=ak/\ys.length<=1000:=by
 have l1:=XZ (xs:=xs) (lo:=ae) (hi:=aa j);have l2:=XZ (xs:=xs) (lo:=aa k) (hi:=ae);refine#[(YA xs ae (aa j)++[x])++YA xs (aa k) ae,Wh (Wh (vd ha hlo) (Xp hb)<|by simp;lia) (Ul ha hhi) (by simp;lia),Qe (Qe (Wy ho) ?_)<|Wy ho,by simp;lia]
 show(okV x&&ak)=ak;rw[hx];rfl
def vN{lo hi:E}{j k:Int}(ha:pv C a ρ s=.ok (.tup xs) s)(hlo:pv C lo ρ s=.ok (.int j) s)(hhi:pv C hi ρ s=.ok (.int k) s)(hl:xs.length<=400)(ho:Y0 xs=ak):∃ys,pv C (.bin .add (.sl a ae<|aa lo)<|.sl a (aa hi) ae) ρ s=.ok (.tup ys) s/\Y0 ys=ak/\ys.length<=1000:=by
 have l1:=XZ (xs:=xs) (lo:=ae) (hi:=aa j);have l2:=XZ (xs:=xs) (lo:=aa k) (hi:=ae);exact#[_,Wh (vd ha hlo) (Ul ha hhi) (by lia),Qe (Wy ho)<|Wy ho,by simp;lia]
section
variable{p n:Nat}[Base p]
theorem qb(d:Nat)(s:DS)(hn:n<=6):∃x s',CV (d+3) 24 [.drw,spV p n,Zc []] s=.ok x s'/\Th 1000 x:=by
 let ρ:Env:=[aa .drw,aa<|spV p n,aa<|Zc [],ae,ae,ae,ae,ae,ae,ae,ae]
 have e1:∀s,pv (CV<|d+2) (.ix (.v 1)<|.c<|.int 1) ρ s=.ok (.int n) s:=λs=>ix1 rfl
 obtain⟨vs,e2,l2,q2⟩:=WW (C:=CV<|d+2) (ρ:=ρ) (s:=s) (Q:=Th 1000) (es:=[(.lst []),(.c .non),(.tup [(.tup [])]),(.tup [(.bin .mul (.tup [(.c<|.int 0)])<|.ix (.v 1)<|.c<|.int 1)]),(.tup [(.bin .mul (.tup [(.c<|.int 1)])<|.bin .add (.ix (.v 1)<|.c<|.int 1)<|.c<|.int 1)]),.dnew,(.c<|.str<|bh "none")]) (by decide) (λe he=>by
  simp only[ay,bQ,or_false]at he;have nt:∀x:V,okV x=ak->(∀xs,x≠.tup xs)->Th 1000 x:=λx h1 h2=>#[h1,λxs e=>T7 e<|h2 xs]
  rcases he with rfl|rfl|rfl|rfl|rfl|rfl|rfl
  .exact#[.lst [],by simp[pvE],nt _ rfl λxs z=>by cases z]
  .exact#[.non,by rw[pv];rfl,nt _ rfl λxs z=>by cases z]
  .exact#[.tup [.tup []],by simp[pvE],Xu rfl<|by decide]
  .obtain⟨ys,g,ho,_⟩:=JB (i:=0) (e1 s) (by lia)
   exact#[_,Xp g,Xu (by show(Y0 ys&&ak)=ak;rw[ho];rfl)<|by show 1<=1000;decide]
  .obtain⟨ys,g,ho,_⟩:=JB (ρ:=ρ) (s:=s) (i:=1) (k:=n+1) (by have:=WQ<|e1 s;rw[this];rfl) (by lia)
   exact#[_,Xp g,Xu (by show(Y0 ys&&ak)=ak;rw[ho];rfl)<|by show 1<=1000;decide]
  .exact#[.dct ae,by rw[pv],nt _ rfl λxs z=>by cases z]
  .exact#[.str<|bh "none",by rw[pv];rfl,nt _ rfl λxs z=>by cases z])
 obtain⟨v,s1,t1,t2,t3⟩:=Z3 (d+1) s (m:=7) (i:=0) (ρ:=ρ) rfl ZU (by decide) (by decide)
 obtain⟨x,hx,e3⟩:=pick e2 t1 t2 (by rw[l2];exact t3)
 refine#[x,s1,Zq rfl (by decide) rfl ?_,q2 x hx]
 show rvs (CV<|d+2) [] ZQ.body ρ [] s=_
 dsimp only[ZQ]
 have g:pv (CV<|d+2) (.cmp .eq (.v 2)<|.tup []) ρ s=.ok (.bl ak) s:=by
  have:=Jv (C:=CV<|d+2) (ρ:=ρ) (s:=s) (P:=[]) (Q:=[]) (a:=.v 2) (b:=.tup []) (Zg rfl) (by rw[pv,pvs];rfl)
  rw[T5 rfl]at this;exact this
 refine Zk ?_;rw[Yu<|Yh g rfl,T9 rfl];exact Zk<|ZG e3
theorem uY(d:Nat){P:List Row}(s:DS)(hn:n<=6)(h1:1<=n)(hP:pZ p n P)(h0:P≠[]):∃x s',CV (d+3) 24 [.drw,spV p n,Zc P] s=.ok x s'/\Th 1000 x:=by
 have hz:=dsum hP;have hpos:0<P.length:=List.length_pos_iff.mpr h0
 let ρ (a3 a4 a5 a6 a7 a8 a9 a10:Option V):Env:=[aa .drw,aa<|spV p n,aa<|Zc P,a3,a4,a5,a6,a7,a8,a9,a10]
 have ep:∀a3 a4 a5 a6 a7 a8 a9 a10 s,pv (CV<|d+2) (.v 2) (ρ a3 a4 a5 a6 a7 a8 a9 a10) s=.ok (.tup<|P.map Zd) s:=λ_ _ _ _ _ _ _ _ s=>Zg rfl
 have e0:∀a3 a4 a5 a6 a7 a8 a9 a10 s,pv (CV<|d+2) (.ix (.v 1)<|.c<|.int 0) (ρ a3 a4 a5 a6 a7 a8 a9 a10) s=.ok (.int p) s:=λ_ _ _ _ _ _ _ _ s=>ix0 rfl
 have e1:∀a3 a4 a5 a6 a7 a8 a9 a10 s,pv (CV<|d+2) (.ix (.v 1)<|.c<|.int 1) (ρ a3 a4 a5 a6 a7 a8 a9 a10) s=.ok (.int n) s:=λ_ _ _ _ _ _ _ _ s=>ix1 rfl
 have op:=GP P;have lp:(P.map Zd).length<=400:=by rw[aw];lia
 obtain⟨v1,s1,t1,t2,t3⟩:=Z3 (d+1) s (m:=P.length) (i:=0) (e:=.blt .len [(.v 2)]) (ρ:=ρ ae ae ae ae ae ae ae ae) rfl (Zbg<|Zg rfl) (by lia) (by lia)
 obtain⟨j,rfl⟩:∃j:Nat,v1=j:=#[v1.toNat,by lia]
 have hj:j<P.length:=by lia
 have hr:=hP.row _<|ba hj;have er:pv (CV<|d+2) (.ix (.v 2)<|.v 3) (ρ (aa<|.int j) ae ae ae ae ae ae ae) s1=.ok (Zd P[j]) s1:=by
  rw[pv,Zg rfl,Za,Zg rfl,Za];show po (at' (P.map Zd) (j:Int)) s1=_;rw[VQ (x:=Zd P[j])<|by rw[aR,ag hj];rfl];rfl
 obtain⟨v2,s2,u1,u2,u3⟩:=Z3 (d+1) s1 (m:=n) (i:=0) (e:=.ix (.v 1)<|.c<|.int 1) (ρ:=ρ (aa<|.int j) (aa<|Zd P[j]) ae ae ae ae ae ae) rfl (e1 ..) (by lia) (by lia)
 let ρ5:Env:=ρ (aa<|.int j) (aa<|Zd P[j]) (aa<|.int v2) ae ae ae ae ae
 obtain⟨os,m1,m2,m3⟩:=WW (C:=CV<|d+2) (ρ:=ρ5) (s:=s2) (Q:=λv=>okV v=ak) (es:=[(.c<|.int 0),(.c<|.int 1),(.ix (.v 1)<|.c<|.int 0),(.bin .sub (.ix (.v 1)<|.c<|.int 0)<|.c<|.int 1),(.neg<|.c<|.int 1),(.c<|.bl ak),(.c .non),(.c<|.str<|bh "1"),(.tup [(.c<|.int 1)]),(.bin .pow (.c<|.int 10)<|.c<|.int 29)]) (by decide) (λe he=>by
  simp only[ay,bQ,or_false]at he;rcases he with rfl|rfl|rfl|rfl|rfl|rfl|rfl|rfl|rfl|rfl
  .exact#[_,ZU,rfl]
  .exact#[_,ZU,rfl]
  .exact#[_,e0 ..,rfl]
  .exact#[.int<|(p:Int)-1,by rw[pv,e0,Za,ZU,Za];rfl,rfl]
  .exact#[.int<|-1,by rw[pv,ZU];rfl,rfl]
  .exact#[.bl ak,by rw[pv];rfl,rfl]
  .exact#[.non,by rw[pv];rfl,rfl]
  .exact#[.str<|bh "1",by rw[pv];rfl,rfl]
  .exact#[_,Xp ZU,rfl]
  .exact#[.int<|10^29,by simp[pvE,ofD,YZ,QC],rfl])
 obtain⟨v3,s3,w1,w2,w3⟩:=Z3 (d+1) s2 (m:=10) (i:=0) (e:=.c<|.int 10) (ρ:=ρ5) rfl ZU (by decide) (by decide)
 obtain⟨od,hod,e6⟩:=pick m1 w1 w2 (by rw[m2];exact w3)
 have ho:=m3 od hod
 let ρ6 (a7:Option V):Env:=ρ (aa<|.int j) (aa<|Zd P[j]) (aa<|.int v2) (aa od) a7 ae ae ae
 have e4:∀a s,pv (CV<|d+2) (.v 4) (ρ6 a) s=.ok (.tup<|P[j].map .int) s:=λa s=>Zg rfl
 have e5:∀a s,pv (CV<|d+2) (.v 5) (ρ6 a) s=.ok (.int v2) s:=λa s=>Zg rfl
 have or':=JJ P[j];have lr:(P[j].map V.int).length<=400:=by rw[aw,hr.1];lia
 have tok:∀ys,Y0 ys=ak->okV (.tup ys)=ak:=λys h=>h
 obtain⟨ra,a1,a2,a3⟩:=WW (C:=CV<|d+2) (ρ:=ρ6 ae) (s:=s3) (Q:=λv=>okV v=ak) (es:=[(.bin .add (.bin .add (.sl (.v 4) ae<|aa<|.v 5)<|.tup [(.v 6)])<|.sl (.v 4) (aa<|.bin .add (.v 5)<|.c<|.int 1) ae),(.bin .add (.bin .add (.sl (.v 4) ae<|aa<|.v 5)<|.tup [(.v 6)])<|.sl (.v 4) (aa<|.v 5) ae),(.bin .add (.sl (.v 4) ae<|aa<|.v 5)<|.sl (.v 4) (aa<|.bin .add (.v 5)<|.c<|.int 1) ae),(.blt .list [(.v 4)]),(.c .non)]) (by decide) (λe he=>by
  simp only[ay,bQ,or_false]at he;rcases he with rfl|rfl|rfl|rfl|rfl
  .obtain⟨ys,g,h,_⟩:=J4 (e4 ae s3) (e5 ae s3) (WQ<|e5 ae s3) (Zg (i:=6) (v:=od) rfl) lr or' ho
   exact#[_,g,h]
  .obtain⟨ys,g,h,_⟩:=J4 (e4 ae s3) (e5 ae s3) (e5 ae s3) (Zg (i:=6) (v:=od) rfl) lr or' ho
   exact#[_,g,h]
  .obtain⟨ys,g,h,_⟩:=vN (e4 ae s3) (e5 ae s3) (WQ<|e5 ae s3) lr or'
   exact#[_,g,h]
  .exact#[.lst<|P[j].map .int,by rw[pv,Zb (e4 ae s3) Ze];rfl,or']
  .exact#[.non,by rw[pv];rfl,rfl])
 have hp:=QI (p:=p);have b1:=Zy (C:=CV<|d+2) (cap:=[1]) (nl:=1) (t:=[0]) (it:=.of<|.v 4) (elt:=.bin .mod (.bin .mul (.c<|.int 2)<|.v 0)<|.ix (.v 1)<|.c<|.int 0) (ρ:=ρ6<|aa<|.lst ra) (s:=s3) (l:=P[j]) (e:=V.int) (g:=λa=>V.int<|2*a%p)
  (by rw[pvw,e4];rfl) (by rw[hr.1];unfold lim;lia) (λa ha=>#[[aa<|.int a,aa<|spV p n],rfl,by
   have h2:=hr.2 a ha;have f1:=ZN (a:=2) (by lia) (by lia)
   have f2:=ZN (a:=a) (by lia) (by lia)
   have g2:=ix0 (p:=p) (n:=n) (C:=CV<|d+2) (i:=1) (ρ:=[aa<|.int a,aa<|spV p n]) (s:=s3) rfl;have g:pv (CV<|d+2) (.bin .mul (.c<|.int 2)<|.v 0) [aa<|.int a,aa<|spV p n] s3=.ok (.int<|2*a) s3:=by simp[pvE,ofD,YZ,QC,f1,f2]
   have hp0:(0:Int)<p:=by lia
   rw[pv,g,Za,g2,Za];show(if(0:Int)<p then _ else _)=_
   rw[T9 hp0]])
 have b2:pv (CV<|d+2) (.blt .tuple [(.comp1 [1] 1 [0] (.of<|.v 4) []<|.bin .mod (.bin .mul (.c<|.int 2)<|.v 0)<|.ix (.v 1)<|.c<|.int 0)]) (ρ6<|aa<|.lst ra) s3=.ok (.tup<|P[j].map λa=>V.int<|2*a%p) s3:=by
  rw[pv,Zb b1 Ze];rfl
 obtain⟨zs,b3,b4,_⟩:=JB (C:=CV<|d+2) (ρ:=ρ6<|aa<|.lst ra) (s:=s3) (i:=0) (k:=n) (e1 ..) (by lia)
 obtain⟨r2,s4,b5,b6⟩:=Qh (p:=p) (n:=n) d s3 hn;have b7:pv (CV<|d+2) (.lst [(.blt .tuple [(.comp1 [1] 1 [0] (.of<|.v 4) []<|.bin .mod (.bin .mul (.c<|.int 2)<|.v 0)<|.ix (.v 1)<|.c<|.int 0)]),(.bin .mul (.tup [(.c<|.int 0)])<|.ix (.v 1)<|.c<|.int 1),(.call 6 [(.v 0),(.v 1)])]) (ρ6<|aa<|.lst ra) s3=.ok (.lst [.tup<|P[j].map λa=>V.int<|2*a%p,.tup zs,Zd r2]) s4:=by
  rw[pv,Zb b2<|Zb b3<|Zb (Zo (Zb (Zg rfl)<|Zb (Zg rfl) Ze) b5) Ze];rfl
 let rb:List V:=ra++[.tup<|P[j].map λa=>V.int<|2*a%p,.tup zs,Zd r2]
 have hrb:∀v∈rb,okV v=ak:=λv hv=>by
  rcases bK.mp hv with z|z
  .exact a3 v z
  .simp only[ay,bQ,or_false]at z
   rcases z with rfl|rfl|rfl
   .exact tok _ (zV λx hx=>by obtain⟨a,_,rfl⟩:=aT.mp hx;rfl)
   .exact tok _ b4
   .exact Zap r2
 have lrb:rb.length=8:=by show(ra++_).length=8;rw[aX,a2];rfl
 have b8:pv (CV<|d+2) (.bin .add (.v 7)<|.lst [(.blt .tuple [(.comp1 [1] 1 [0] (.of<|.v 4) []<|.bin .mod (.bin .mul (.c<|.int 2)<|.v 0)<|.ix (.v 1)<|.c<|.int 0)]),(.bin .mul (.tup [(.c<|.int 0)])<|.ix (.v 1)<|.c<|.int 1),(.call 6 [(.v 0),(.v 1)])]) (ρ6<|aa<|.lst ra) s3=.ok (.lst rb) s4:=by
  rw[pv,Zg (v:=.lst ra) rfl,Za,b7,Za];show(if ra.length+3<=lim then _ else _)=_
  rw[T9<|by rw[a2];decide]
 obtain⟨v5,s5,c1,c2,c3⟩:=Z3 (d+1) s4 (m:=11) (i:=0) (e:=.c<|.int 11) (ρ:=ρ6<|aa<|.lst rb) rfl ZU (by decide) (by decide)
 obtain⟨ix,hix,c4⟩:=pick (a:=.lst [(.c<|.int 0),(.c<|.int 0),(.c<|.int 0),(.c<|.int 0),(.c<|.int 1),(.c<|.int 2),(.c<|.int 3),(.c<|.int 4),(.c<|.int 5),(.c<|.int 6),(.c<|.int 7)]) (xs:=[.int 0,.int 0,.int 0,.int 0,.int 1,.int 2,.int 3,.int 4,.int 5,.int 6,.int 7]) (s:=s4) (s1:=s4) (by simp[pvE,ofD]) c1 c2 c3
 obtain⟨q,rfl,hq0,hq⟩:∃q:Int,ix=.int q/\0<=q/\q<8:=by
  simp at hix;rcases hix with rfl|rfl|rfl|rfl|rfl|rfl|rfl|rfl<;>exact#[_,rfl,by decide,by decide]
 obtain⟨one,hone,c5⟩:=pick (a:=.v 7) (Zg (v:=.lst rb) rfl) c4 hq0 (by rw[lrb];exact hq)
 have oone:=hrb one hone
 let ρ8 (a9 a10:Option V):Env:=ρ (aa<|.int j) (aa<|Zd P[j]) (aa<|.int v2) (aa od) (aa<|.lst rb) (aa one) a9 a10
 obtain⟨v6,s6,g1,g2,g3⟩:=Z3 (d+1) s5 (m:=8) (i:=0) (e:=.c<|.int 8) (ρ:=ρ8 ae ae) rfl ZU (by decide) (by decide)
 have e3:∀a b s,pv (CV<|d+2) (.v 3) (ρ8 a b) s=.ok (.int j) s:=λ_ _ s=>Zg rfl
 have lt9:∀k:Int,pv (CV<|d+2) (.cmp .lt (.v 9)<|.c<|.int k) (ρ8 (aa<|.int v6) ae) s6=.ok (.bl<|af<|v6<k) s6:=λk=>by
  rw[pv,Zg (v:=.int v6) rfl,Za,ZU,Za];rfl
 have start:∀x s',rvs (CV<|d+2) [] (ZQ.body.drop 9) (ρ8 (aa<|.int v6) ae) [] s6=.ok (.ret x) s'->CV (d+3) 24 [.drw,spV p n,Zc P] s=.ok x s':=λx s' h=>by
  refine Zq (fn:=ZQ) rfl (by decide) rfl ?_
  show rvs (CV<|d+2) [] ZQ.body (ρ ae ae ae ae ae ae ae ae) [] s=_;have g:pv (CV<|d+2) (.cmp .eq (.v 2)<|.tup []) (ρ ae ae ae ae ae ae ae ae) s=.ok (.bl ai) s:=by
   have:=Jv (C:=CV<|d+2) (ρ:=ρ ae ae ae ae ae ae ae ae) (s:=s) (P:=P) (Q:=[]) (a:=.v 2) (b:=.tup []) (Zg rfl) (by rw[pv,pvs];rfl)
   rw[T4 h0]at this;exact this
  dsimp only[ZQ]
  rw[guard g,Zi<|ZE t1 rfl];show rvs _ _ _ (ρ (aa<|.int j) ae ae ae ae ae ae ae) _ _=_;rw[Zi<|ZE er rfl];show rvs _ _ _ (ρ (aa<|.int j) (aa<|Zd P[j]) ae ae ae ae ae ae) _ _=_;rw[Zi<|ZE u1 rfl];show rvs _ _ _ ρ5 _ _=_;rw[Zi<|ZE e6 rfl];show rvs _ _ _ (ρ6 ae) _ _=_;rw[Zi<|ZE a1 rfl];show rvs _ _ _ (ρ6<|aa<|.lst ra) _ _=_;rw[Zi<|ZE b8 rfl];show rvs _ _ _ (ρ6<|aa<|.lst rb) _ _=_;rw[Zi<|ZE c5 rfl];show rvs _ _ _ (ρ8 ae ae) _ _=_;rw[Zi<|ZE g1 rfl];exact h
 by_cases k4:v6<4
 .obtain⟨ys,h1,h2,h3⟩:=J4 (x:=one) (b:=.v 8) (ep ..) (e3 (aa<|.int v6) ae s6) (WQ<|e3 (aa<|.int v6) ae s6) (Zg rfl) lp op oone
  refine#[.tup ys,s6,start _ _ ?_,Xu h2 h3]
  dsimp only[ZQ,oz]
  refine Zk ?_;rw[Yu<|Yh (lt9 4) rfl,T9<|T5 k4];exact Zk<|ZG h1
 by_cases k6:v6<6
 .obtain⟨ys,h1,h2,h3⟩:=J4 (x:=one) (b:=.v 8) (ep ..) (e3 (aa<|.int v6) ae s6) (e3 (aa<|.int v6) ae s6) (Zg rfl) lp op oone
  refine#[.tup ys,s6,start _ _ ?_,Xu h2 h3]
  dsimp only[ZQ,oz]
  have z:=lt9 4;rw[T4 k4]at z;rw[yS z];refine Zk ?_;rw[Yu<|Yh (lt9 6) rfl,T9<|T5 k6];exact Zk<|ZG h1
 let ρ9 (a10:Option V):Env:=ρ8 (aa<|.int v6) a10
 obtain⟨ws,y1,y2,y3⟩:=WW (C:=CV<|d+2) (ρ:=ρ9 ae) (s:=s6) (Q:=Th 1000) (es:=[(.bin .add (.sl (.v 2) ae<|aa<|.v 3)<|.sl (.v 2) (aa<|.bin .add (.v 3)<|.c<|.int 1) ae),(.rev<|.v 2),(.blt .list [(.v 2)]),(.tup [(.v 2)]),(.bin .add (.v 2)<|.sl (.v 2) (aa<|.neg<|.c<|.int 1) ae),(.bin .add (.sl (.v 2) (aa<|.v 3) ae)<|.sl (.v 2) ae<|aa<|.v 3)]) (by decide) (λe he=>by
  simp only[ay,bQ,or_false]at he;have ep':pv (CV<|d+2) (.v 2) (ρ9 ae) s6=.ok (.tup<|P.map Zd) s6:=ep ..;have e3':=e3 (aa<|.int v6) ae s6;rcases he with rfl|rfl|rfl|rfl|rfl|rfl
  .obtain⟨ys,h1,h2,h3⟩:=vN ep' e3' (WQ e3') lp op
   exact#[_,h1,Xu h2 h3]
  .refine#[.tup (P.map Zd).reverse,by rw[pv,ep'];rfl,Xu (zV λx hx=>Xw op x<|dN.mp hx)<|by rw[iW];lia]
  .exact#[.lst<|P.map Zd,by rw[pv,Zb ep' Ze];rfl,op,λxs z=>by cases z]
  .exact#[_,Xp ep',Xu (by show(Y0 _&&ak)=ak;rw[op];rfl)<|by show 1<=1000;decide]
  .have l1:=XZ (xs:=P.map Zd) (lo:=aa<|-1) (hi:=ae)
   exact#[_,Wh ep' (Ul ep' (k:=-1)<|by rw[pv,ZU];rfl) (by lia),Xu (Qe op<|Wy op)<|by rw[aX];lia]
  .have l1:=XZ (xs:=P.map Zd) (lo:=aa (j:Int)) (hi:=ae)
   have l2:=XZ (xs:=P.map Zd) (lo:=ae) (hi:=aa (j:Int));exact#[_,Wh (Ul ep' e3') (vd ep' e3') (by lia),Xu (Qe (Wy op)<|Wy op)<|by rw[aX];lia])
 obtain⟨v7,s7,z1,z2,z3⟩:=Z3 (d+1) s6 (m:=6) (i:=0) (e:=.c<|.int 6) (ρ:=ρ9<|aa<|.lst ws) rfl ZU (by decide) (by decide)
 obtain⟨x,hx,z4⟩:=pick (a:=.v 10) (Zg (v:=.lst ws) rfl) z1 z2 (by rw[y2];exact z3)
 refine#[x,s7,start _ _ ?_,y3 x hx]
 dsimp only[ZQ,oz]
 have z:=lt9 4;rw[T4 k4]at z;have zz:=lt9 6;rw[T4 k6]at zz;rw[yS z,yS zz,Zi<|ZE y1 rfl];exact Zk<|ZG z4
def Zaq(d:Nat){P:List Row}(s:DS)(hn:n<=6)(h1:1<=n)(hP:pZ p n P):∃x s',CV (d+3) 24 [.drw,spV p n,Zc P] s=.ok x s'/\Th 1000 x:=by
 cases P with|nil=>exact qb d s hn|cons r P=>exact uY d s hn h1 hP (by simp)
end
end K42
namespace Lv
open Ev Pv
noncomputable def UI:Fn:=#[2,2,[.ite (.cmp .lt (.v 1)<|.blt .len [(.v 0)]) [.ret<|.ix (.v 0)<|.v 1] [],.ret<|.c<|.int 0]]
noncomputable def Uj(c:Nat):Fn:=#[2,3,[.asg [2]<|.call c [(.v 0),(.v 1)],.ite (.cmp .ge (.v 2)<|.bin .pow (.c<|.int 10)<|.c<|.int 18) [.ret<|.lst [(.bin .sub (.v 2)<|.bin .pow (.c<|.int 10)<|.c<|.int 18),(.c<|.bl ak)]] [],.ret<|.lst [(.bin .mod (.v 2)<|.c<|.int 2147483647),(.c<|.bl ai)]]]
noncomputable def wZ(nn:Nat)(M:Int)(st:Nat)(B:List Sm):Fn:=#[1,nn,[.forr [1] (.rng1<|.blt .max2 [(.c<|.int 1),(.blt .min2 [(.blt .len [(.v 0)]),(.c<|.int M)])]) [.cel 2 st [(.v 0),(.v 1)] B],.ret<|.c<|.bl ak]]
def Zcw(ht:ca≠tk)(hC:F[ca]?=aa UI)(d:Nat)(k0:0<=k):∃c,Zm F tk (d+1) ca [.scr ns,.int k] s=.ok (.int c) s:=by
 by_cases c:k<ns.length
 .have hk:k.toNat<ns.length:=by lia
  refine#[ns[k.toNat],?_];simp[Zm,ht,hC,UI,rvs,rv,pvs,Pv.pv.eq_1,Pv.pv.eq_2,pv,Xj,PR.bind,po,ZJ,YT,int2,X2,blt1,YK,Zs,ixV,at',ixN,k0,c,hk,ofD]
 .refine#[0,?_]
  simp[Zm,ht,hC,UI,rvs,rv,pvs,pv,Xj,PR.bind,po,ZJ,YT,int2,X2,blt1,YK,Zs,ixV,at',ixN,k0,c,ofD]
def jD(ht:ca≠tk)(hts:st≠tk)(hC:F[ca]?=aa UI)(hS:F[st]?=aa (Uj ca))(d:Nat)(k0:0<=k):∃v d0,Zm F tk (d+2) st [.scr ns,.int k] s=.ok v s/\U0 v=aa d0/\okS d0.1 d0.2=ak:=by
 obtain⟨c,e⟩:=Zcw ht hC (s:=s) (ns:=ns) d k0;rw[show d+2=(d+1)+1 from rfl,Zm,T8 hts,hS]
 generalize Zm F tk (d+1)=C at e ⊢;by_cases h:10^18<=c
 .have h':(1000000000000000000:Int)<=c:=by simpa using h
  have o:okS (c-1000000000000000000) ak=ak:=by simp[okS];lia
  refine#[.lst [.int<|c-1000000000000000000,.bl ak],(c-1000000000000000000,ak),?_,by simp[U0,o],o]
  simp[Uj,rvs,rv,pvA,pvs,pv,Xj,PR.bind,po,ZJ,YT,int2,Zs,ofD,YZ,Pv.QC,e,h',muts,vj,lim]
 .have h':¬(1000000000000000000:Int)<=c:=by simpa using h
  have o:okS (c%2147483647) ai=ak:=by simp[okS];lia
  refine#[.lst [.int<|c%2147483647,.bl ai],(c%2147483647,ai),?_,by simp[U0,o],o]
  simp[Uj,rvs,rv,pvA,pvs,pv,Xj,PR.bind,po,ZJ,YT,int2,Zs,ofD,YZ,Pv.QC,e,h',muts,vj,lim]
theorem z5(P:Env->Prop):∀(xs:List V),(∀x∈xs,∀ρ s,P ρ->∃ρ' s',P ρ'/\body x ρ [] s=.ok (.nx ρ' []) s')->∀ρ s,P ρ->∃ρ' s',P ρ'/\YJ body xs ρ [] s=.ok (.nx ρ' []) s'
 |[],_,ρ,s,h=>#[ρ,s,h,rfl]
 |x::xs,hb,ρ,s,h=>by
  obtain⟨ρ1,s1,h1,e1⟩:=hb x (ao ..) ρ s h;obtain⟨ρ2,s2,h2,e2⟩:=z5 P xs (λy hy=>hb y<|au _ hy) ρ1 s1 h1
  refine#[ρ2,s2,h2,?_];rw[YJ,e1];exact e2
def hide_nil :hide [] ρ=ρ:=by
 unfold hide;apply cZ
 intro i;rw[iH];cases ρ[i]?<;>rfl
def jO(h0:ρ[0]?=aa (aa<|.scr ns))(h1:ρ[1]?=aa (aa<|.int k))(hl:ρ.length=nn+3):(Vp 2 ρ).set 2 (aa .drw)=aa (.scr ns)::aa (.int k)::aa .drw::aP nn ae:=by
 match ρ,h0,h1,hl with
 |a::b::l,h0,h1,hl=>
  cases h0;cases h1;have:l.length=nn+1:=by simpa using hl
  unfold Vp;simp[Ju,V.flat,this,cF]
def law_of(d:Nat)(ht:ca≠tk)(hts:st≠tk)(htl:L≠tk)(hC:F[ca]?=aa UI)(hS:F[st]?=aa (Uj ca))(hL:F[L]?=aa (wZ (nn+3) M st B))(hM:M<2^62)
  (hv:∀(o:Option V)(k:Nat)(s:DS),∃ρ os s',rvs (Zm F tk<|d+2) (muts B) B (o::aa (.int k)::aa .drw::aP nn ae) [] s=.ok (.nx ρ os) s'/\ρ[0]?=aa o/\ρ.length=nn+3)(ns:List Int)(s:DS) :
  ∃S,Zm F tk (d+3) L [.scr ns] s=.ok (.bl ak) S:=by
 rw[show d+3=(d+2)+1 from rfl,Zm,T8 htl,hL]
 have hst:=λk (k0:0<=k) s=>jD ht hts hC hS (s:=s) (ns:=ns) (k:=k) d k0
 generalize Zm F tk (d+2)=C at hv hst ⊢;have hr:∃m,pvw C (.rng1<|.blt .max2 [(.c<|.int 1),(.blt .min2 [(.blt .len [(.v 0)]),(.c<|.int M)])]) (ZJ (nn+3) [.scr ns]) s=.ok (ZS 0 m) s:=by
  have e:pv C (.blt .max2 [(.c<|.int 1),(.blt .min2 [(.blt .len [(.v 0)]),(.c<|.int M)])]) (ZJ (nn+3) [.scr ns]) s=.ok (.int<|if(if M<(ns.length:Int)then M else(ns.length:Int))>1 then(if M<(ns.length:Int)then M else(ns.length:Int))else 1) s:=by
   simp[pv,pvs,PR.bind,po,ZJ,ofD,X2,blt1,blt2,YK]
  rw[pvw,e];refine#[_,(T9 ?_ :)];refine T5 ?_;split<;>split<;>lia
 obtain⟨m,hr⟩:=hr;have hm:muts (wZ (nn+3) M st B).body=muts B:=by simp[wZ,muts,vj]
 simp only[hm];show ∃S,(if 1=1 then _ else _)=_
 rw[T9 rfl];unfold wZ;simp only;rw[rvs,rv,hide_nil,hr]
 let body:V->Env->List Nat->DS->PR FlV:=λx ρ os s=>if([1].any os.contains)=ak then .no else if(os.isEmpty||x.flat)=ak then(po (Zp [1] x ρ) s).bind λρ s=>rvs C (muts B) [.cel 2 st [(.v 0),(.v 1)] B] ρ os s else .no
 have hb:∀x∈ZS 0 m,∀ρ s,(ρ[0]?=aa (aa<|.scr ns)/\ρ.length=nn+3)->∃ρ' s',(ρ'[0]?=aa (aa<|.scr ns)/\ρ'.length=nn+3)/\body x ρ [] s=.ok (.nx ρ' []) s':=by
  intro x hx ρ s #[h0,hl];obtain⟨k,_,rfl⟩:=aT.mp hx;rw[Int.zero_add];obtain⟨v,d0,e1,e2,e3⟩:=hst (k:Int) (by lia) s
  obtain⟨ρ2,os2,s2,e4,h2,l2⟩:=hv (aa<|.scr ns) k d0;have q0:(ρ.set 1<|aa<|.int (k:Int))[0]?=aa (aa<|.scr ns):=by rw[bc<|by decide];exact h0
  have q1:(ρ.set 1<|aa<|.int (k:Int))[1]?=aa (aa<|.int (k:Int)):=bg (by lia)
  have ql:(ρ.set 1<|aa<|V.int (k:Int)).length=nn+3:=by rw[bz];exact hl
  have a:pvs C [(.v 0),(.v 1)] (ρ.set 1<|aa<|.int (k:Int)) s=.ok [.scr ns,.int (k:Int)] s:=by
   simp only[pvs,pv,q0,q1,PR.bind,po,Option.join];rfl
  refine#[ρ2.map Ju,s,#[by rw[aR,h2];rfl,by rw[aw];exact l2],?_]
  show(rvs C (muts B) [.cel 2 st [(.v 0),(.v 1)] B] (ρ.set 1<|aa<|.int (k:Int)) [] s)=_;rw[rvs,rv,T9 (by rfl),a]
  show PR.bind (PR.bind (C st [.scr ns,.int (k:Int)] s) _) _=_;rw[e1];show PR.bind (PR.bind (po (U0 v) s) _) _=_;rw[e2];simp only[po,PR.bind,jO q0 q1 ql,e4,rvs]
 obtain⟨ρ,s',h,e⟩:=z5 (λρ=>ρ[0]?=aa (aa<|.scr ns)/\ρ.length=nn+3) (ZS 0 m) hb (ZJ (nn+3) [.scr ns]) s #[rfl,by simp[ZJ]]
 refine#[s',?_];show PR.bind (PR.bind (YJ body (ZS 0 m) _ _ s) _) _=_;rw[e];rfl
end Lv
namespace K42
open Ev Pv Rw La
theorem z9:∀r q:Row,(r.zip q).map (λx=>x.1*x.2)=eW (· * ·) r q
 |[],_=>by simp
 |_::_,[]=>by simp
 |a::r,b::q=>by
  show a*b::(r.zip q).map (λx=>x.1*x.2)=a*b::eW (· * ·) r q
  rw[z9 r q]
section
variable{p n:Nat}[Base p]
theorem zJ(d:Nat){r q:Row}(s:DS)(hn:n<=6)(hr:Zr p n r)(hq:Zr p n q):CV (d+1) 15 [.int p,Zd r,Zd q] s=.ok (.bl<|af<|YR r q%p=0) s:=by
 have hp:=QI (p:=p);refine Zq (fn:=YB) rfl (by decide) rfl ?_
 have hc:=Zy (C:=CV d) (cap:=[]) (nl:=2) (t:=[0,1]) (it:=.zip (.v 1)<|.v 2) (elt:=.bin .mul (.v 0)<|.v 1) (ρ:=[aa<|.int p,aa<|Zd r,aa<|Zd q]) (s:=s) (l:=r.zip q) (e:=λx=>V.tup [.int x.1,.int x.2]) (g:=λx=>V.int<|x.1*x.2)
  (by simp[pvE,Zd,WY]) (by rw[eO,hr.1,hq.1];unfold lim;lia) (λx hx=>by
   have h1:=hr.2 x.1 (cH hx).1;have h2:=hq.2 x.2 (cH hx).2;have f1:=ZN (a:=x.1) (by lia) (by lia)
   have f2:=ZN (a:=x.2) (by lia) (by lia)
   exact#[_,rfl,by simp[pvE,f1,f2]])
 show rvs (CV d) [] YB.body [aa<|.int p,aa<|Zd r,aa<|Zd q] [] s=_
 dsimp only[YB]
 have e1:pv (CV d) (.blt .sum [(.comp1 [] 2 [0,1] (.zip (.v 1)<|.v 2) []<|.bin .mul (.v 0)<|.v 1)]) [aa<|.int p,aa<|Zd r,aa<|Zd q] s=.ok (.int<|YR r q) s:=by
  rw[pv,Zb hc Ze,Za];show po ((intsV<|(r.zip q).map λx=>V.int<|x.1*x.2).bind λis=>if X9 is=ak then aa (V.int is.sum)else ae) s=_
  have e2:((r.zip q).map λx=>V.int<|x.1*x.2)=((r.zip q).map λx=>x.1*x.2).map V.int:=by rw[bT];rfl
  rw[e2,Y4,z9];show po (if X9 (eW (· * ·) r q)=ak then aa (V.int<|YR r q)else ae) s=_
  have e3:X9 (eW (· * ·) r q)=ak:=by
   unfold X9;rw[aB,T0,aS];refine#[by rw[iY,hr.1];lia,λi hi=>?_]
   rw[<-z9]at hi;obtain⟨x,hx,rfl⟩:=aT.mp hi;have h1:=hr.2 x.1 (cH hx).1;have h2:=hq.2 x.2 (cH hx).2;have h3:0<=x.1*x.2:=pR h1.1 h2.1;have h4:x.1*x.2<=5*5:=ml (by lia) (by lia) h2.1 (by lia)
   simp only[T0];lia
  rw[T9 e3];rfl
 have hp0:(0:Int)<p:=ppos;have e4:pv (CV d) (.bin .mod (.blt .sum [(.comp1 [] 2 [0,1] (.zip (.v 1)<|.v 2) []<|.bin .mul (.v 0)<|.v 1)])<|.v 0) [aa<|.int p,aa<|Zd r,aa<|Zd q] s=.ok (.int<|YR r q%p) s:=by
  rw[pv,e1,Za,Zg (v:=.int p) rfl,Za];show(if 0<(p:Int)then _ else _)=_
  rw[T9 hp0]
 refine Zk<|ZG ?_;rw[pv,e4,Za,pv];rfl
theorem zL{α β:Type}(f:α->β->Bool)(m:List β):∀l:List α,((l.flatMap λx=>m.map<|f x).all id)=l.all λx=>m.all (f x)
 |[]=>rfl
 |x::l=>by
  rw[h8,List.all_append,zL f m l,gv,fW];rfl
theorem Zdj(d:Nat){P:List Row}(s:DS)(hn:n<=6)(hP:pZ p n P):CV (d+2) 16 [spV p n,Zc P] s=.ok (.bl<|Yv p P) s:=by
 have hd:=dsum hP;refine Zq (fn:=Uu) rfl (by decide) rfl ?_
 show rvs (CV<|d+1) [] Uu.body [aa<|spV p n,aa<|Zc P,ae,ae] [] s=_
 dsimp only[Uu]
 rw[Zi<|Y5 (p:=p) (n:=n) _ _ (by simp[pvE])<|by simp]
 show rvs (CV<|d+1) [] _ [aa<|spV p n,aa<|Zc P,aa<|.int p,aa<|.int n] [] s=_;have hc:=Ql (C:=CV<|d+1) (cap:=[2,1]) (nl:=2) (t:=[0]) (u:=[1]) (it:=.of<|.v 1) (jt:=.of<|.v 3) (elt:=.call 15 [(.v 2),(.v 0),(.v 1)]) (ρ:=[aa<|spV p n,aa<|Zc P,aa<|.int p,aa<|.int n]) (s:=s) (l:=P) (e:=Zd) (m:=λ_=>P) (e2:=Zd) (g:=λr q=>V.bl<|af<|YR r q%p=0)
  (by simp[pvE,Zc]) (by
   rw[iZ];simp only[aw];rw[lZ,h7];have:=gV (cc hd hn)<|cc hd hn;unfold lim;lia) (λr hr=>#[_,rfl,by simp[pvE,Zc],λq hq=>#[_,rfl,Zo (Zb (Zg rfl)<|Zb (Zg rfl)<|Zb (Zg rfl) Ze)<|zJ d s hn (hP.row r hr)<|hP.row q hq]])
 have ef:(P.flatMap λr=>P.map λq=>V.bl<|af<|YR r q%p=0)=(P.flatMap λr=>P.map λq=>af<|YR r q%p=0).map V.bl:=by
  rw[lE];exact congrArg (λf=>P.flatMap f)<|funext λr=>by rw[bT];rfl
 rw[ef]at hc;refine Zk<|ZG ?_;rw[pv,Zb hc Ze,Za];show po ((ZT<|(P.flatMap λr=>P.map λq=>af<|YR r q%p=0).map V.bl).map λbs=>V.bl<|bs.all id) s=_
 have ht:=Z0 (g:=id)<|P.flatMap λr=>P.map λq=>af<|YR r q%p=0
 simp only[id]at ht;rw[ht];show PR.ok (V.bl<|((P.flatMap λr=>P.map λq=>af<|YR r q%p=0).map λx=>x).all id) s=_
 rw[List.map_id',zL];rfl
def wK(d:Nat){P:List Row}(s:DS)(hn:n<=6)(hP:pZ p n P):CV (d+5) 23 [spV p n,Zc P] s=.ok (.bl<|Yv p P) s:=by
 refine Zq (fn:=XD) rfl (by decide) rfl ?_
 show rvs (CV<|d+4) [] XD.body [aa<|spV p n,aa<|Zc P] [] s=_
 dsimp only[XD]
 rw[Zi<|Zdb<|Zo (Zb (Zg rfl)<|Zb (Zg rfl) Ze)<|qm d s hn hP];exact Zk<|ZG<|Zo (Zb (Zg rfl)<|Zb (Zg rfl) Ze)<|Zdj (d+2) s hn hP
theorem xh(d:Nat){k:Nat}(s:DS)(hn:n<=6)(hk:k<=n)(hl:∀j,j<=n->(Yd p n j).length<=1395):CV (d+4) 17 [spV p n,Zf k] s=.ok (.lst<|((Yd p n k).filter<|Yv p).map Zc) s:=by
 refine Zq rfl (by decide) rfl ?_
 have hc:=Yl (cap:=[0]) (nl:=1) (t:=[0]) (it:=.of<|.call 14 [(.v 0),(.v 1)]) (tst:=.call 16 [(.v 1),(.v 0)]) (elt:=.v 0) (ρ:=[aa<|spV p n,aa<|Zf k]) (s:=s) (e:=Zc) (g:=Zc)
  (by rw[pvw,Zo (Zb (Zg rfl)<|Zb (Zg (v:=Zf k) rfl) Ze)<|v9 d s hn hk hl];rfl) (by have:=hl k hk;unfold lim;lia) (λP hP=>by
   obtain⟨h1,h2⟩:=Y9 k P hP;exact#[[aa<|Zc P,aa<|spV p n],.bl<|Yv p P,rfl,Zo (Zb (Zg rfl)<|Zb (Zg rfl) Ze)<|Zdj (d+1) s hn h1,rfl,λ_=>Zg rfl])
 exact Zk<|ZG hc
end
section
variable{p n:Nat}[Base p]
def ZaY(d:Nat)(a:Int)(s:DS):CV (d+1) 28 [.int a,.int a] s=.ok (.bl ak) s:=by
 refine Zq rfl (by decide) rfl ?_
 simp[Xk,pvE,ZY,Yr,YT,eqV,Zt]
theorem GZ(d:Nat){α:Type}{f:α->V}{l:List α}(s:DS)(hl:l.length<=1000)(h:∀x∈l,CV d 28 [f x,f x] s=.ok (.bl ak) s):CV (d+1) 28 [.tup<|l.map f,.tup<|l.map f] s=.ok (.bl ak) s:=by
 refine Zq rfl (by decide) rfl ?_
 dsimp only[Xk]
 refine Zk ?_;have hz:((l.map f).zip<|l.map f).map (λq=>V.tup [q.1,q.2])=l.map λx=>V.tup [f x,f x]:=by
  clear h hl
  induction l with|nil=>rfl|cons x l ih=>rw[aW,bR,aW,ih];rfl
 have hc:=Zy (C:=CV d) (cap:=[]) (nl:=2) (t:=[0,1]) (it:=.zip (.v 0)<|.v 1) (elt:=.call 28 [(.v 0),(.v 1)]) (ρ:=[aa<|.tup<|l.map f,aa<|.tup<|l.map f]) (s:=s) (l:=l)
  (by
   rw[pvw,Zg rfl,Za,Zg rfl,Za];show PR.ok (((l.map f).zip<|l.map f).map λq=>V.tup [q.1,q.2]) s=_
   rw[hz]) (by unfold lim;lia) (λx hx=>#[_,rfl,Zo (Zb (Zg rfl)<|Zb (Zg rfl) Ze)<|h x hx])
 have ht:=Z0 (g:=λ_:α=>ak) l
 have ha:(l.map λ_=>ak).all id=ak:=by induction l<;>simp
 simp[pvE,ZY,Yr,YT,eqV,Zt,hc,ht,ha]
theorem uM(d:Nat){P:List Row}(s:DS)(hn:n<=6)(hP:pZ p n P):CV (d+3) 28 [Zc P,Zc P] s=.ok (.bl ak) s:=
 GZ (d+2) s (by have:=dsum hP;lia) λr hr=>GZ (d+1) s (by rw[(hP.row r hr).1];lia) λa _=>ZaY d a s
theorem Zag(d:Nat){α:Type}{f:α->V}{l:List α}(s:DS)(hl:l.length<=10000)(h:∀x∈l,CV d 28 [f x,f x] s=.ok (.bl ak) s):CV (d+1) 28 [.lst<|l.map f,.lst<|l.map f] s=.ok (.bl ak) s:=by
 refine Zq rfl (by decide) rfl ?_
 dsimp only[Xk]
 refine Zk ?_;have hz:((l.map f).zip<|l.map f).map (λq=>V.tup [q.1,q.2])=l.map λx=>V.tup [f x,f x]:=by
  clear h hl
  induction l with|nil=>rfl|cons x l ih=>rw[aW,bR,aW,ih];rfl
 have hc:=Zy (C:=CV d) (cap:=[]) (nl:=2) (t:=[0,1]) (it:=.zip (.v 0)<|.v 1) (elt:=.call 28 [(.v 0),(.v 1)]) (ρ:=[aa<|.lst<|l.map f,aa<|.lst<|l.map f]) (s:=s) (l:=l)
  (by
   rw[pvw,Zg rfl,Za,Zg rfl,Za];show PR.ok (((l.map f).zip<|l.map f).map λq=>V.tup [q.1,q.2]) s=_
   rw[hz]) (by unfold lim;lia) (λx hx=>#[_,rfl,Zo (Zb (Zg rfl)<|Zb (Zg rfl) Ze)<|h x hx])
 have ht:=Z0 (g:=λ_:α=>ak) l
 have ha:(l.map λ_=>ak).all id=ak:=by induction l<;>simp
 simp[pvE,ZY,Yr,YT,eqV,Zt,hc,ht,ha]
def xO(d:Nat){L:List (List Row)}(s:DS)(hn:n<=6)(hl:L.length<=10000)(hP:∀P∈L,pZ p n P):CV (d+4) 28 [.lst<|L.map Zc,.lst<|L.map Zc] s=.ok (.bl ak) s:=
 Zag (d+3) s hl λP h=>uM d s hn<|hP P h
theorem Q7(d:Nat){P:List Row}(s:DS)(hn:n<=6)(hP:pZ p n P):CV (d+1) 27 [spV p n,Zc P] s=.ok (.bl<|Yv p P) s:=by
 have hp:=QI (p:=p);refine Zq (fn:=YX) rfl (by decide) rfl ?_
 let ρ (a2 a3:Option V):Env:=[aa<|spV p n,aa<|Zc P,a2,a3]
 show rvs (CV d) [] YX.body (ρ ae ae) [] s=_
 dsimp only[YX]
 let T:E:=.cmp .ne (.bin .mod (.blt .sum [(.comp1 [] 2 [0,1] (.zip (.v 2)<|.v 3) []<|.bin .mul (.v 0)<|.v 1)])<|.ix (.v 0)<|.c<|.int 0)<|.c<|.int 0
 have tst:∀r∈P,∀q∈P,pv (CV d) T (ρ (aa<|Zd r)<|aa<|Zd q) s=.ok (.bl<|!decide (YR r q%p=0)) s:=λr hr q hq=>by
  have hr:=hP.row r hr;have hq:=hP.row q hq;have hc:=Zy (C:=CV d) (cap:=[]) (nl:=2) (t:=[0,1]) (it:=.zip (.v 2)<|.v 3) (elt:=.bin .mul (.v 0)<|.v 1) (ρ:=ρ (aa<|Zd r)<|aa<|Zd q) (s:=s) (l:=r.zip q) (g:=λx=>V.int<|x.1*x.2)
   (by
    rw[pvw,Zg (v:=Zd r) rfl,Za,Zg (v:=Zd q) rfl,Za];show PR.ok (((r.map V.int).zip<|q.map V.int).map λx=>V.tup [x.1,x.2]) s=_
    rw[WY]) (by rw[eO,hr.1,hq.1];unfold lim;lia) (λx hx=>by
    have h1:=hr.2 x.1 (cH hx).1;have h2:=hq.2 x.2 (cH hx).2;have f1:=ZN (a:=x.1) (by lia) (by lia)
    have f2:=ZN (a:=x.2) (by lia) (by lia)
    exact#[_,rfl,by simp[pvE,f1,f2]])
  have e1:pv (CV d) (.blt .sum [(.comp1 [] 2 [0,1] (.zip (.v 2)<|.v 3) []<|.bin .mul (.v 0)<|.v 1)]) (ρ (aa<|Zd r)<|aa<|Zd q) s=.ok (.int<|YR r q) s:=by
   rw[pv,Zb hc Ze,Za];show po ((intsV<|(r.zip q).map λx=>V.int<|x.1*x.2).bind λis=>if X9 is=ak then aa (V.int is.sum)else ae) s=_
   have e2:((r.zip q).map λx=>V.int<|x.1*x.2)=((r.zip q).map λx=>x.1*x.2).map V.int:=by rw[bT];rfl
   rw[e2,Y4,z9];show po (if X9 (eW (· * ·) r q)=ak then aa (V.int<|YR r q)else ae) s=_
   have e3:X9 (eW (· * ·) r q)=ak:=by
    unfold X9;rw[aB,T0,aS];refine#[by rw[iY,hr.1];lia,λi hi=>?_]
    rw[<-z9]at hi;obtain⟨x,hx,rfl⟩:=aT.mp hi;have h1:=hr.2 x.1 (cH hx).1;have h2:=hq.2 x.2 (cH hx).2;have h3:0<=x.1*x.2:=pR h1.1 h2.1;have h4:x.1*x.2<=5*5:=ml (by lia) (by lia) h2.1 (by lia)
    simp only[T0];lia
   rw[T9 e3];rfl
  rw[pv,pv,e1,Za,ix0 (p:=p) (n:=n) rfl,Za];show((if 0<(p:Int)then PR.ok (V.int<|YR r q%p) s else .no).bind _)=_
  rw[T9 ppos,Za,ZU];rfl
 have inner:∀r∈P,∀a3,∃a3',rvs (CV d) [] [.forr [3] (.of<|.v 1) [.ite T [.ret<|.c<|.bl ai] []]] (ρ (aa<|Zd r) a3) [] s=if(P.any λq=>!decide (YR r q%p=0))=ak then .ok (.ret<|.bl ai) s else .ok (.nx (ρ (aa<|Zd r) a3') []) s:=λr hr a3=>by
  obtain⟨g1,g2⟩:=wx (C:=CV d) (ms:=[]) (s:=s) (i:=3) (it:=.of<|.v 1) (b:=[.ite T [.ret<|.c<|.bl ai] []]) (L:=P) (e:=Zd) (q:=λq=>!decide (YR r q%p=0)) (v:=.bl ai) (ρ:=λo=>ρ (aa<|Zd r) o) a3
   (by rw[pvw,Zg (v:=Zc P) rfl];rfl) (λ_ _=>rfl) (λq hq=>by
    have t:=Yh (tst r hr q hq) rfl;rw[rvs,Yu t];cases(!decide (YR r q%p=0))with
    |true=>rw[T9 rfl,T9 rfl,Zk<|ZG (v:=.bl ai)<|by rw[pv];rfl];rfl
    |false=>rw[T8 (by simp),T8 (by simp),rvs];rfl)
  cases h:P.any λq=>!decide (YR r q%p=0)with
  |true=>exact#[ae,by rw[T9 rfl,Zk<|g1 h]]
  |false=>
   obtain⟨o,g⟩:=g2 h;exact#[o,by rw[T8 (by simp),Zi g,rvs]]
 have outer:∀(L:List Row),(∀r∈L,r∈P)->∀a2 a3,∃a2' a3',YJ (λx ρ os s=>if(([2]:List Nat).any os.contains)=ak then .no else if(os.isEmpty||x.flat)=ak then(po (Zp [2] x ρ) s).bind λρ s=>rvs (CV d) [] [.forr [3] (.of<|.v 1) [.ite T [.ret<|.c<|.bl ai] []]] ρ os s else .no) (L.map Zd) (ρ a2 a3) [] s=if(L.any λr=>P.any λq=>!decide (YR r q%p=0))=ak then .ok (.ret<|.bl ai) s else .ok (.nx (ρ a2' a3') []) s:=λL=>by
  induction L with
  |nil=>intro _ a2 a3;exact#[a2,a3,rfl]
  |cons r L ih=>
   intro h a2 a3;obtain⟨c3,e1⟩:=inner r (h r<|ao ..) a3;obtain⟨d2,d3,e2⟩:=ih (λq hq=>h q<|au _ hq) (aa<|Zd r) c3
   refine#[d2,d3,?_];rw[aW,YJ,T8 (by simp),T9<|by rfl]
   show((PR.ok (ρ (aa<|Zd r) a3) s).bind λρ s=>rvs (CV d) [] [.forr [3] (.of<|.v 1) [.ite T [.ret<|.c<|.bl ai] []]] ρ [] s).bind _=_
   rw[Za,e1,fc];cases P.any λq=>!decide (YR r q%p=0)with|true=>rw[T9 rfl];rfl|false=>rw[T8 (by simp),Za,iD];exact e2
 obtain⟨d2,d3,e⟩:=outer P (λ_ h=>h) ae ae
 have hw:pvw (CV d) (.of<|.v 1) (hide []<|ρ ae ae) s=.ok (P.map Zd) s:=by show pvw _ _ (ρ ae ae) s=_;rw[pvw,Zg (v:=Zc P) rfl];rfl
 have hb:Yv p P = !(P.any λr=>P.any λq=>!decide (YR r q%p=0)):=by
  show(P.all λr=>P.all λq=>af<|YR r q%p=0)=_
  simp[List.all_eq_not_any_not]
 rw[hb];rw[rvs,rv,hw,Za,e];cases(P.any λr=>P.any λq=>!decide (YR r q%p=0))with|true=>rw[T9 rfl];rfl|false=>rw[T8 (by simp),Za];exact Zk<|ZG<|by rw[pv];rfl
end
def ZcY{C:ZA}{ρ:Env}{s s':DS}{e:E}{w:Bool}{v:V}(h:pv C e ρ s=.ok v s'):pv C (.refu w e) ρ s=.ok .non s':=by rw[pv,h]
def vK{C:ZA}{ρ:Env}{s s':DS}{e:E}{w:Bool}{c:Nat}(h:pv C e ρ s=.ex c s')(hc:1<=c/\c<=10):pv C (.refu w e) ρ s=.ok (Zan w<|c-1) s':=by
 rw[pv,h];show(if 1<=c/\c<=10 then _ else _)=_
 rw[T9 hc]
def ne_str{C:ZA}{ρ:Env}{s:DS}{a b:E}{x:PySem.Str}(h1:pv C a ρ s=.ok (.str x) s)(h2:pv C b ρ s=.ok (.str x) s):pv C (.cmp .ne a b) ρ s=.ok (.bl ai) s:=by
 rw[pv,h1,Za,h2,Za];show po (aa<|V.bl !(af<|x=x)) s=_;rw[T5 rfl];rfl
def zf{C:ZA}{ρ:Env}{s s1 s':DS}{f:Nat}{as:List E}{vs:List V}{v:V}(h:pvs C as ρ s=.ok vs s1)(hc:C f vs s1=.ok v s'):pv C (.callF f as) ρ s=.ok v s':=by rw[pv,h];exact hc
def ZdO{C:ZA}{ms os:List Nat}{ρ:Env}{s:DS}{t:E}{x l:List Sm}(h:pv C t ρ s=.ok (.bl ai) s):rvs C ms (.ite t x []::l) ρ os s=rvs C ms l ρ os s:=by
 rw[Zi (ρ':=ρ) (os':=os) (s':=s)<|by rw[Yu<|Yh h rfl,T8 (by simp),rvs]]
def qx{p n:Nat}[Base p]{P Q:List Row}(h:pZ p n P)(s:Q.Sublist P):pZ p n Q:=by
 have m:(toP p Q).Sublist (toP p P):=s.map _;exact#[λr hr=>h.row r<|s.subset hr,#[#[h.pn.rf.inc.sublist m,λa ha=>h.pn.rf.low a<|m.subset ha,λa ha=>h.pn.rf.one a<|m.subset ha,λa ha b hb=>h.pn.rf.zer a (m.subset ha) b<|m.subset hb],λa ha=>h.pn.lt a<|m.subset ha,λa ha=>h.pn.sp a<|m.subset ha]]
section
variable{p n:Nat}[Base p]
def Zbf(d:Nat){x:V}(s:DS)(hn:n<=6)(hx:Th 1000 x)(h:isP p n x=ai):CV (d+5) 23 [spV p n,x] s=.ex 2 s:=by
 have e:=UG (p:=p) d s hn hx.1 hx.2;rw[T8<|by rw[h];simp]at e
 refine W3 rfl (by decide) rfl ?_
 dsimp only[XD]
 exact Qx<|ZaA<|Wf (Zb (Zg rfl)<|Zb (Zg rfl) Ze) e
theorem zi(d:Nat){x:V}{hi:Nat}(s:DS)(hx:okV x=ak)(h:isW x 0 hi=ai)(hh:hi<=1000):CV (d+2) 9 [x,.int 0,.int hi] s=.ex 3 s:=by
 have e:=Qo d (lo:=0) (hi:=hi) s hx;refine W3 rfl (by decide) rfl ?_
 let ρ:Env:=[aa x,aa<|.int 0,aa<|.int hi]
 show rvs (CV<|d+1) [] YS.body ρ [] s=_
 dsimp only[YS]
 have t:pv (CV<|d+1) (.not<|.call 8 [(.v 0),(.v 1),(.v 2)]) ρ s=.ok (.bl ak) s:=by
  rw[pv,Zo (Zb (Zg (v:=x) rfl)<|Zb (Zg rfl)<|Zb (Zg rfl) Ze) e,h];rfl
 refine Qx ?_;rw[Yu<|Yh t rfl,T9 rfl];refine Qx ?_;have f1:pv (CV<|d+1) (.fi<|.v 1) ρ s=.ok (.int 0) s:=by rw[pv,Zg rfl];rfl
 have f2:pv (CV<|d+1) (.fi<|.v 2) ρ s=.ok (.int hi) s:=by
  rw[pv,Zg rfl,Za];show(if Yn (hi:Int)=ak then _ else _)=_
  rw[T9<|XC (by lia)<|by lia]
 rw[rv,Zb f1<|Zb f2 Ze];rfl
theorem yI(d:Nat){x:V}(s:DS)(hn:n<=6)(hx:okV x=ak)(h:isW x 0 n=ai):CV (d+3) 14 [spV p n,x] s=.ex 3 s:=by
 refine W3 rfl (by decide) rfl ?_
 dsimp only[YI]
 rw[Zi<|Y5 _ _ (by show pv _ _ _ _=_;exact Zg rfl) #[rfl,rfl]]
 exact Qx<|ZaA<|Wf (Zb (Zg rfl)<|Zb (by rw[pv];rfl)<|Zb (Zg rfl) Ze)<|zi d s hx h<|by lia
def zn(d:Nat){x:V}(s:DS)(hn:n<=6)(hx:okV x=ak)(h:isW x 0 n=ai):CV (d+4) 17 [spV p n,x] s=.ex 3 s:=by
 refine W3 rfl (by decide) rfl ?_
 show rvs (CV<|d+3) [] XX.body [aa<|spV p n,aa x] [] s=_
 dsimp only[XX]
 refine Qx ?_;have e:pvw (CV<|d+3) (.of<|.call 14 [(.v 0),(.v 1)]) [aa<|spV p n,aa x] s=.ex 3 s:=by
  rw[pvw,Wf (Zb (Zg rfl)<|Zb (Zg rfl) Ze)<|yI d s hn hx h];rfl
 rw[rv,pv,T9 (show own 1 [0]=ak from rfl),e];rfl
end
noncomputable def Q8:List Sm:=[.asg [7]<|.callF 17 [(.v 3),(.v 4)],
  .ite (.not<|.call 28 [(.v 7),(.v 5)]) [.ret<|.c<|.bl ai] [],
  .ex (.mt .append (.v 7) [(.tup [])])]
noncomputable def yt:List Sm:=[.asg [7]<|.call 23 [(.v 3),(.v 9)],
  .ite (.or (.not<|.isi (.v 7) [.bool])<|.cmp .ne (.v 7)<|.call 27 [(.v 3),(.v 9)]) [.ret<|.c<|.bl ai] []]
noncomputable def ZaC:List Sm:=[.asg [11]<|.ix (.lst [(.c .non),(.c<|.str<|bh "part")])<|.blt .toInt [(.not<|.call 31 [(.v 3),(.v 10)])],
  .ite (.cmp .ne (.refu ak<|.call 23 [(.v 3),(.v 10)])<|.v 11) [.ret<|.c<|.bl ai] []]
noncomputable def Zcf:List E:=[(.bin .add (.ix (.v 3)<|.c<|.int 1)<|.c<|.int 1),(.neg<|.c<|.int 1),(.c<|.bl ak),(.c<|.bl ai),(.c .non),(.c<|.str<|bh "1"),(.tup [(.c<|.int 1)]),(.bin .pow (.c<|.int 10)<|.c<|.int 29),(.lst [(.c<|.int 0)]),(.neg<|.bin .pow (.c<|.int 10)<|.c<|.int 29)]
noncomputable def wy:List Sm:=[.asg [3]<|.call 3 [(.v 2),(.ix (.lst [(.c<|.int 27),(.c<|.int 125)])<|.blt .toInt [(.cmp .eq (.v 1)<|.c<|.int 0)])],
  .asg [4] (.call 2 [(.v 2),(.bin .add (.ix (.v 3)<|.c<|.int 1)<|.c<|.int 1)]),
  .asg [5] (.comp1 [3] 1 [0] (.of<|.call 26 [(.v 3),(.v 4)]) [(.call 27 [(.v 1),(.v 0)])]<|.v 0),
  .forr [6] (.rng1<|.c<|.int 2) Q8,
  .asg [8] (.call 7 [(.v 2),(.v 3)]),
  .forr [9] (.of<|.lst [(.v 8),(.sl (.v 8) ae<|aa<|.c<|.int 1),(.ix (.bin .add (.v 5)<|.lst [(.tup [])])<|.call 2 [(.v 2),(.bin .add (.blt .len [(.v 5)])<|.c<|.int 1)]),(.tup [])]) yt,
  .forr [10] (.of<|.lst [(.call 24 [(.v 2),(.v 3),(.v 8)]),(.call 25 [(.v 2)])]) ZaC,
  .asg [12] (.ix (.lst Zcf)<|.call 2 [(.v 2),(.c<|.int 10)]),
  .ite (.cmp .ne (.refu ak<|.call 17 [(.v 3),(.v 12)])<|.c<|.str<|bh "number") [.ret<|.c<|.bl ai] []]
noncomputable def kE(o0:Option V)(k p n:Nat)(a4 a5 a6 a7 a8 a9 a10 a11 a12:Option V):Env:=[o0,aa<|.int k,aa .drw,aa<|spV p n,a4,a5,a6,a7,a8,a9,a10,a11,a12]
def vG{o0:Option V}{k p n:Nat}{a4 a5 a6 a7 a8 a9 a10 a11 a12:Option V}:hide [7] (kE o0 k p n a4 a5 a6 a7 a8 a9 a10 a11 a12)=kE o0 k p n a4 a5 a6 ae a8 a9 a10 a11 a12:=by simp[hide,kE,lF]
section
variable{p n:Nat}[Base p]
theorem Q0(d:Nat){o0:Option V}{k z:Nat}{a6 a7 a8 a9 a10 a11 a12:Option V}{os:List Nat}(s:DS)(ho:os=[]\/os=[7])(hn:n<=6)(hz:z<=n)(hl:∀j,j<=n->(Yd p n j).length<=1395) :
  ∃b7,rvs (CV<|d+9) [7] Q8 (kE o0 k p n (aa<|Zf z) (aa<|.lst<|((Yd p n z).filter<|Yv p).map Zc) a6 a7 a8 a9 a10 a11 a12) os s=.ok (.nx (kE o0 k p n (aa<|Zf z) (aa<|.lst<|((Yd p n z).filter<|Yv p).map Zc) a6 b7 a8 a9 a10 a11 a12) [7]) s:=by
 let B:=(Yd p n z).filter<|Yv p
 have hB:B.length<=1395:=cc (fG ..)<|hl z hz;have bp:=xh (p:=p) (n:=n) (d+5) (k:=z) s hn hz hl
 let ρ (x:Option V):Env:=kE o0 k p n (aa<|Zf z) (aa<|.lst<|B.map Zc) a6 x a8 a9 a10 a11 a12
 have e1:rv (CV<|d+9) [7] (.asg [7]<|.callF 17 [(.v 3),(.v 4)]) (ρ a7) os s=.ok (.nx (ρ<|aa<|.lst<|B.map Zc) [7]) s:=by
  have fl:Z1 (B.map Zc)=ak:=Y2 _ λP _=>Xg P
  rcases ho with rfl|rfl
  .rw[rv]
   show(pv (CV<|d+9) _ (ρ a7) s).bind _=_;rw[zf (Zb (Zg (v:=spV p n) rfl)<|Zb (Zg (v:=Zf z) rfl) Ze) bp,Za,T9<|show(([7]:List Nat).contains 7&&fresh (.callF 17 [(.v 3),(.v 4)]))=ak from rfl]
   exact T9<|#[fl,by show 7<13;decide]
  .rw[xN (s':=s) (by rw[vG];exact zf (Zb (Zg (v:=spV p n) rfl)<|Zb (Zg (v:=Zf z) rfl) Ze) bp) rfl fl<|by show 7<13;decide];rfl
 refine#[aa<|.lst<|B.map Zc++[.tup []],?_];unfold Q8;rw[Zi e1,ZdO<|Vz<|Zo (Zb (Zg rfl)<|Zb (Zg (v:=.lst<|B.map Zc) rfl) Ze)<|xO (p:=p) (n:=n) (d+5) s hn (by lia) λP hP=>(Y9 z P (db.mp hP).1).1]
 rw[Zi (ρ':=ρ<|aa<|.lst<|B.map Zc++[.tup []]) (os':=[7]) (s':=s) ?_,rvs];rw[rv];show(if ak=ak then(PR.ok (B.map Zc) s).bind _ else _)=_
 rw[T9 rfl,Za,show pv (CV<|d+9) (.tup []) (ρ<|aa<|.lst<|B.map Zc) s=.ok (.tup []) s by rw[pv,pvs];rfl,Za]
 rw[T9 #[rfl,by rw[aw];unfold lim;lia]];rfl
def uJ(d:Nat){o0:Option V}{k:Nat}{P:List Row}{a4 a5 a6 a7 a8 a10 a11 a12:Option V}{os:List Nat}(s:DS)(ho:os=[]\/os=[7])(hn:n<=6)(hP:pZ p n P) :
  ∃b7,rvs (CV<|d+9) [7] yt (kE o0 k p n a4 a5 a6 a7 a8 (aa<|Zc P) a10 a11 a12) os s=.ok (.nx (kE o0 k p n a4 a5 a6 b7 a8 (aa<|Zc P) a10 a11 a12) []) s:=by
 have ib:=wK (n:=n) (d+4) s hn hP
 let ρ (x:Option V):Env:=kE o0 k p n a4 a5 a6 x a8 (aa<|Zc P) a10 a11 a12
 have e1:rv (CV<|d+9) [7] (.asg [7]<|.call 23 [(.v 3),(.v 9)]) (ρ a7) os s=.ok (.nx (ρ<|aa<|.bl<|Yv p P) []) s:=by
  rcases ho with rfl|rfl
  .rw[ZE (Zo (Zb (Zg rfl)<|Zb (Zg rfl) Ze) ib) rfl];rfl
  .rw[XQ (by rw[vG];exact Zo (Zb (Zg rfl)<|Zb (Zg rfl) Ze) ib) rfl];rfl
 refine#[aa<|.bl<|Yv p P,?_];unfold yt;rw[Zi e1];have a1:pv (CV<|d+9) (.isi (.v 7) [.bool]) (ρ<|aa<|.bl<|Yv p P) s=.ok (.bl ak) s:=by
  rw[pv,Zg rfl];rfl
 have a2:pv (CV<|d+9) (.cmp .ne (.v 7)<|.call 27 [(.v 3),(.v 9)]) (ρ<|aa<|.bl<|Yv p P) s=.ok (.bl ai) s:=by
  rw[pv,Zg rfl,Za,Zo (Zb (Zg rfl)<|Zb (Zg rfl) Ze)<|Q7 (d+8) s hn hP,Za];show po (aa<|V.bl !(af<|Yv p P=Yv p P)) s=_;rw[T5 rfl];rfl
 rw[guard<|Zc3 (Vz a1) a2,rvs]
theorem zR(d:Nat){o0:Option V}{k:Nat}{a4 a5 a6 a8 a10 a11 a12:Option V}(s:DS)(hn:n<=6):∀(L:List (List Row)),(∀P∈L,pZ p n P)->∀(os:List Nat)(a7 a9:Option V),(os=[]\/os=[7])->
  ∃b7 b9 os',YJ (λx ρ os s=>if(([9]:List Nat).any os.contains)=ak then .no else if(os.isEmpty||x.flat)=ak then(po (Zp [9] x ρ) s).bind λρ s=>rvs (CV<|d+9) [7] yt ρ os s else .no) (L.map Zc) (kE o0 k p n a4 a5 a6 a7 a8 a9 a10 a11 a12) os s=.ok (.nx (kE o0 k p n a4 a5 a6 b7 a8 b9 a10 a11 a12) os') s/\(L≠[]->os'=[])
 |[],_,os,a7,a9,_=>#[a7,a9,os,rfl,λh=>T7 rfl h]
 |P::L,hL,os,a7,a9,ho=>by
  obtain⟨c7,e1⟩:=uJ (p:=p) (n:=n) d (k:=k) (P:=P) (a8:=a8) s ho hn<|hL P<|ao ..;obtain⟨b7,b9,os',e2,h2⟩:=zR d (o0:=o0) (k:=k) (a4:=a4) (a5:=a5) (a6:=a6) (a8:=a8) s hn L (λQ hQ=>hL Q<|au _ hQ) [] c7 (aa<|Zc P)<|.inl rfl
  refine#[b7,b9,os',?_,λ_=>?_]
  .have h9:(([9]:List Nat).any os.contains)=ai:=by rcases ho with rfl|rfl<;>rfl
   rw[aW,YJ,T8 (by rw[h9];simp),T9<|by rw[Xg];simp]
   show((PR.ok (kE o0 k p n a4 a5 a6 a7 a8 (aa<|Zc P) a10 a11 a12) s).bind λρ s=>rvs (CV<|d+9) [7] yt ρ os s).bind _=_
   rw[Za,e1,Za];exact e2
  .by_cases hl:L=[]
   .subst hl
    cases e2;rfl
   .exact h2 hl
def vF(d:Nat){x:V}(s:DS)(hn:n<=6)(hx:Th 1000 x){o0:Option V}{k:Nat}{a4 a5 a6 a7 a8 a9 a11 a12:Option V}:∃b,rvs (CV<|d+9) [7] ZaC (kE o0 k p n a4 a5 a6 a7 a8 a9 (aa x) a11 a12) [] s=.ok (.nx (kE o0 k p n a4 a5 a6 a7 a8 a9 (aa x) b a12) []) s:=by
 have e1:=zx (p:=p) (n:=n) (d+6) s hn hx.1 hx.2
 let ρ (b:Option V):Env:=kE o0 k p n a4 a5 a6 a7 a8 a9 (aa x) b a12
 have w:pv (CV<|d+9) (.ix (.lst [(.c .non),(.c<|.str<|bh "part")])<|.blt .toInt [(.not<|.call 31 [(.v 3),(.v 10)])]) (ρ a11) s=.ok (if(!isP p n x)=ak then .str (bh "part")else .non) s:=by
  have g1:pv (CV<|d+9) (.lst [(.c .non),(.c<|.str<|bh "part")]) (ρ a11) s=.ok (.lst [.non,.str<|bh "part"]) s:=by simp[pvE,ofD]
  rw[pv,g1,Za,pv,Zb (Vz<|Zo (Zb (Zg rfl)<|Zb (Zg (v:=x) rfl) Ze) e1) Ze,Za];cases isP p n x<;>rfl
 refine#[aa<|if(!isP p n x)=ak then .str (bh "part")else .non,?_]
 unfold ZaC;rw[Zi<|ZE w rfl];cases hp:isP p n x with
 |true=>
  obtain⟨P,rfl,hP⟩:=UB.mp hp;have j:pv (CV<|d+9) (.cmp .ne (.refu ak<|.call 23 [(.v 3),(.v 10)])<|.v 11) (ρ<|aa .non) s=.ok (.bl ai) s:=by
   rw[pv,ZcY<|Zo (Zb (Zg (i:=3) rfl)<|Zb (Zg (i:=10) rfl) Ze)<|wK (d+4) s hn hP,Za,Zg (v:=.non) rfl];rfl
  show rvs _ _ _ (ρ<|aa .non) [] s=_;rw[guard j,rvs];rfl
 |false=>
  have j:pv (CV<|d+9) (.cmp .ne (.refu ak<|.call 23 [(.v 3),(.v 10)])<|.v 11) (ρ<|aa<|.str<|bh "part") s=.ok (.bl ai) s:=
   ne_str (vK (w:=ak) (Wf (Zb (Zg (i:=3) rfl)<|Zb (Zg (i:=10) (v:=x) rfl) Ze)<|Zbf (d+4) s hn hx hp) #[by decide,by decide]) (Zg rfl)
  show rvs _ _ _ (ρ<|aa<|.str<|bh "part") [] s=_;rw[guard j,rvs];rfl
end
def ZaB{p n:Nat}[Base p]{C:ZA}{ρ:Env}{s:DS}(hn:n<=6)(h:ρ[3]?=aa (aa<|spV p n)):∃vs,pv C (.lst Zcf) ρ s=.ok (.lst vs) s/\vs.length=10/\∀v∈vs,okV v=ak/\isW v 0 n=ai:=by
 obtain⟨vs,e1,e2,e3⟩:=WW (C:=C) (s:=s) (Q:=λv=>okV v=ak/\isW v 0 n=ai) (es:=Zcf) (by decide) (λe he=>by
  have ten:pv C (.bin .pow (.c<|.int 10)<|.c<|.int 29) ρ s=.ok (.int<|10^29) s:=by simp[pvE,ofD,YZ,Pv.QC]
  have w1:∀{i:Int},¬(0<=i/\i<=(n:Int))->isW (.int i) 0 n=ai:=λ{i} c=>by
   show(af (0<=i)&&af (i<=(n:Int)))=ai;rw[<-o7];exact T4 c
  unfold Zcf at he;simp only[ay,oM,or_false]at he;rcases he with rfl|rfl|rfl|rfl|rfl|rfl|rfl|rfl|rfl|rfl
  .exact#[.int<|(n:Int)+1,by rw[pv,ix1 h,Za,ZU];rfl,rfl,w1<|by lia]
  .exact#[.int<|-1,by rw[pv,ZU];rfl,rfl,w1<|by lia]
  .exact#[.bl ak,by rw[pv];rfl,rfl,rfl]
  .exact#[.bl ai,by rw[pv];rfl,rfl,rfl]
  .exact#[.non,by rw[pv];rfl,rfl,rfl]
  .exact#[.str<|bh "1",by rw[pv];rfl,rfl,rfl]
  .exact#[.tup [.int 1],Xp ZU,rfl,rfl]
  .exact#[.int<|10^29,ten,rfl,w1<|by lia]
  .exact#[.lst [.int 0],by rw[pv,Zb ZU Ze];rfl,rfl,rfl]
  .exact#[.int<|-(10^29),by rw[pv,ten];rfl,rfl,w1<|by lia])
 exact#[vs,e1,by rw[e2];rfl,e3]
def jZ(d:Nat)(o0:Option V)(k:Nat)(s:DS):∃ρ' os' s',rvs (CV<|d+9) (muts wy) wy (o0::aa (.int k)::aa .drw::aP 10 ae) [] s=.ok (.nx ρ' os') s'/\ρ'[0]?=aa o0/\ρ'.length=10+3:=by
 show ∃ρ' os' s',rvs (CV<|d+9) [7] wy _ [] s=.ok (.nx ρ' os') s'/\_/\_;unfold wy
 let ρ0:Env:=[o0,aa<|.int k,aa .drw,ae,ae,ae,ae,ae,ae,ae,ae,ae,ae]
 show ∃ρ' os' s',rvs (CV<|d+9) [7] _ ρ0 [] s=.ok (.nx ρ' os') s'/\ρ'[0]?=aa o0/\ρ'.length=10+3;obtain⟨m,e0,hm⟩:∃m:Int,pv (CV<|d+9) (.ix (.lst [(.c<|.int 27),(.c<|.int 125)])<|.blt .toInt [(.cmp .eq (.v 1)<|.c<|.int 0)]) ρ0 s=.ok (.int m) s/\2<=m:=by
  have g1:pv (CV<|d+9) (.lst [(.c<|.int 27),(.c<|.int 125)]) ρ0 s=.ok (.lst [.int 27,.int 125]) s:=by simp[pvE,ofD]
  have g2:pv (CV<|d+9) (.blt .toInt [(.cmp .eq (.v 1)<|.c<|.int 0)]) ρ0 s=.ok (.int<|b2i<|af<|(k:Int)=0) s:=by
   rw[pv,Zb (v:=.bl<|af<|(k:Int)=0) (by rw[pv,Zg (v:=.int k) rfl,Za,ZU];rfl) Ze];rfl
  by_cases c:(k:Int)=0
  .refine#[125,?_,by lia]
   rw[pv,g1,Za,g2,Za,T5 c];rfl
  .refine#[27,?_,by lia]
   rw[pv,g1,Za,g2,Za,T4 c];rfl
 obtain⟨p,n,s1,f1,f2,f3,f4,f5⟩:=ut (d+7) (m:=m) s hm;have hB:Base p:=⟨f2⟩;have hl:∀j,j<=n->(Yd p n j).length<=1395:=λj hj=>T6<|aS.mp (aS.mp Zbm (p,n) f5) j<|bu.mpr<|by lia
 rw[Zi<|ZE (Zo (Zb (Zg rfl)<|Zb e0 Ze) f1) rfl]
 let ρ (a4 a5 a6 a7 a8 a9 a10 a11 a12:Option V):Env:=kE o0 k p n a4 a5 a6 a7 a8 a9 a10 a11 a12
 show ∃ρ' os' s',rvs _ _ _ (ρ ae ae ae ae ae ae ae ae ae) [] s1=.ok (.nx ρ' os') s'/\ρ'[0]?=aa o0/\ρ'.length=10+3;have w5:pv (CV<|d+9) (.bin .add (.ix (.v 3)<|.c<|.int 1)<|.c<|.int 1) (ρ ae ae ae ae ae ae ae ae ae) s1=.ok (.int<|(n:Int)+1) s1:=by
  rw[pv,ix1 (p:=p) (n:=n) rfl,Za,ZU];rfl
 obtain⟨zz,s2,w6,z0,z1⟩:=Z3 (d+8) s1 (m:=(n:Int)+1) (ρ:=ρ ae ae ae ae ae ae ae ae ae) (i:=2) (e:=.bin .add (.ix (.v 3)<|.c<|.int 1)<|.c<|.int 1) rfl w5 (by lia) (by lia)
 obtain⟨z,rfl⟩:∃z:Nat,zz=z:=#[zz.toNat,by lia]
 have hz:z<=n:=by lia
 rw[Zi<|ZE w6 rfl];show ∃ρ' os' s',rvs _ _ _ (ρ (aa<|Zf z) ae ae ae ae ae ae ae ae) [] s2=.ok (.nx ρ' os') s'/\ρ'[0]?=aa o0/\ρ'.length=10+3
 let B:=(Yd p n z).filter<|Yv p
 have hBl:B.length<=1395:=cc (fG ..)<|hl z hz;have hBP:∀P∈B,pZ p n P:=λP hP=>(Y9 z P (db.mp hP).1).1
 have hc:=Yl (C:=CV<|d+9) (cap:=[3]) (nl:=1) (t:=[0]) (it:=.of<|.call 26 [(.v 3),(.v 4)]) (tst:=.call 27 [(.v 1),(.v 0)]) (elt:=.v 0) (ρ:=ρ (aa<|Zf z) ae ae ae ae ae ae ae ae) (s:=s2) (l:=Yd p n z) (e:=Zc) (g:=Zc) (q:=Yv p)
  (by rw[pvw,Zo (Zb (Zg (v:=spV p n) rfl)<|Zb (Zg (v:=Zf z) rfl) Ze)<|ud (d+8) s2 f5 f4 hz hl];rfl) (by have:=hl z hz;unfold lim;lia) (λP hP=>#[[aa<|Zc P,aa<|spV p n],.bl<|Yv p P,rfl,Zo (Zb (Zg rfl)<|Zb (Zg rfl) Ze)<|Q7 (d+8) s2 f4 (Y9 z P hP).1,rfl,λ_=>Zg rfl])
 rw[Zi<|ZE hc rfl]
 let D:Option V:=aa<|.lst<|B.map Zc
 show ∃ρ' os' s',rvs _ _ _ (ρ (aa<|Zf z) D ae ae ae ae ae ae ae) [] s2=.ok (.nx ρ' os') s'/\ρ'[0]?=aa o0/\ρ'.length=10+3;obtain⟨b7,t1⟩:=Q0 (p:=p) (n:=n) d (o0:=o0) (k:=k) (z:=z) (a6:=aa<|Zf 0) (a7:=ae) (a8:=ae) (a9:=ae) (a10:=ae) (a11:=ae) (a12:=ae) s2 (.inl rfl) f4 hz hl;obtain⟨c7,t2⟩:=Q0 (p:=p) (n:=n) d (o0:=o0) (k:=k) (z:=z) (a6:=aa<|Zf 1) (a7:=b7) (a8:=ae) (a9:=ae) (a10:=ae) (a11:=ae) (a12:=ae) s2 (.inr rfl) f4 hz hl;have t3:rv (CV<|d+9) [7] (.forr [6] (.rng1<|.c<|.int 2) Q8) (ρ (aa<|Zf z) D ae ae ae ae ae ae ae) [] s2=.ok (.nx (ρ (aa<|Zf z) D (aa<|Zf 1) c7 ae ae ae ae ae) [7]) s2:=by
  have hw:pvw (CV<|d+9) (.rng1<|.c<|.int 2) (hide []<|ρ (aa<|Zf z) D ae ae ae ae ae ae ae) s2=.ok ([0,1].map Zf) s2:=YH (n:=2) ZU (by decide)
  rw[rv,hw,Za,aW,aW,i9,YJ,T8 (by simp),T9<|by rfl]
  show((PR.ok (ρ (aa<|Zf z) D (aa<|Zf 0) ae ae ae ae ae ae) s2).bind λρ s=>rvs (CV<|d+9) [7] Q8 ρ [] s).bind _=_
  rw[Za,t1,Za];show YJ _ _ _ _ _=_;rw[YJ,T8 (by simp),T9<|by rfl]
  show((PR.ok (ρ (aa<|Zf z) D (aa<|Zf 1) b7 ae ae ae ae ae) s2).bind λρ s=>rvs (CV<|d+9) [7] Q8 ρ [7] s).bind _=_
  rw[Za,t2,Za];rfl
 rw[Zi t3];obtain⟨P,s3,p1,hP⟩:=qU (p:=p) (n:=n) (d+6) s2 f4;rw[Zi<|XQ (by rw[vG];exact Zo (Zb (Zg rfl)<|Zb (Zg rfl) Ze) p1) rfl]
 show ∃ρ' os' s',rvs _ _ _ (ρ (aa<|Zf z) D (aa<|Zf 1) c7 (aa<|Zc P) ae ae ae ae) [7] s3=.ok (.nx ρ' os') s'/\ρ'[0]?=aa o0/\ρ'.length=10+3
 let ρh:Env:=kE o0 k p n (aa<|Zf z) D (aa<|Zf 1) ae (aa<|Zc P) ae ae ae ae
 obtain⟨Q,s4,q1,hQ⟩:∃Q s4,pv (CV<|d+9) (.ix (.bin .add (.v 5)<|.lst [(.tup [])])<|.call 2 [(.v 2),(.bin .add (.blt .len [(.v 5)])<|.c<|.int 1)]) ρh s3=.ok (Zc Q) s4/\pZ p n Q:=by
  have v0:pv (CV<|d+9) (.tup []) ρh s3=.ok (.tup []) s3:=by rw[pv,pvs];rfl
  have v1:pv (CV<|d+9) (.lst [(.tup [])]) ρh s3=.ok (.lst [.tup []]) s3:=by rw[pv,Zb v0 Ze];rfl
  have v2:=VT (a:=.v 5) (x:=B.map Zc) (Zg (ρ:=ρh) rfl) v1 (by rw[aw];show B.length+1<=lim;unfold lim;lia)
  have v3:pv (CV<|d+9) (.bin .add (.blt .len [(.v 5)])<|.c<|.int 1) ρh s3=.ok (.int<|(B.length:Int)+1) s3:=by
   rw[pv,pv,Zb (Zg (v:=.lst<|B.map Zc) rfl) Ze,Za];show(PR.ok (V.int ((B.map Zc).length:Int)) s3).bind _=_;rw[Za,ZU,Za,aw];rfl
  obtain⟨v,s4,t1,h1,h2⟩:=zA (F:=fns) (tk:=2) (d:=d+8) (m:=(B.length:Int)+1) s3 (by lia) (by lia)
  have t2:pv (CV<|d+9) (.call 2 [(.v 2),(.bin .add (.blt .len [(.v 5)])<|.c<|.int 1)]) ρh s3=.ok (.int v) s4:=Zo (Zb (Zg (v:=.drw) rfl)<|Zb v3 Ze) t1;obtain⟨x,hx,e⟩:=pick v2 t2 h1 (by rw[aX,aw,cE];lia)
  rcases bK.mp hx with hx|hx
  .obtain⟨Q,hQ,rfl⟩:=aT.mp hx
   exact#[Q,s4,e,hBP Q hQ]
  .rw[aY.mp hx]at e
   exact#[[],s4,e,pZ.nil]
 have w7:pvw (CV<|d+9) (.of<|.lst [(.v 8),(.sl (.v 8) ae<|aa<|.c<|.int 1),(.ix (.bin .add (.v 5)<|.lst [(.tup [])])<|.call 2 [(.v 2),(.bin .add (.blt .len [(.v 5)])<|.c<|.int 1)]),(.tup [])]) (hide [7]<|ρ (aa<|Zf z) D (aa<|Zf 1) c7 (aa<|Zc P) ae ae ae ae) s3=.ok ([P,P.take 1,Q,[]].map Zc) s4:=by
  rw[vG];have v1:pv (CV<|d+9) (.sl (.v 8) ae<|aa<|.c<|.int 1) ρh s3=.ok (Zc<|P.take 1) s3:=by
   rw[vd (a:=.v 8) (b:=.c<|.int 1) (xs:=P.map Zd) (Zg rfl) (k:=1) ZU];have:YA (P.map Zd) ae (aa 1)=(P.take 1).map Zd:=by
    rw[re];cases P with|nil=>rfl|cons r P=>exact jL (k:=1) (by simp)
   rw[this];rfl
  have v3:pv (CV<|d+9) (.tup []) ρh s4=.ok (.tup []) s4:=by rw[pv,pvs];rfl
  show pvw _ _ ρh s3=_;rw[pvw,pv,Zb (Zg (v:=Zc P) rfl)<|Zb v1<|Zb q1<|Zb v3 Ze];rfl
 have p4:∀R∈[P,P.take 1,Q,[]],pZ p n R:=by
  intro R hR;simp only[ay,oM,or_false]at hR;rcases hR with rfl|rfl|rfl|rfl
  .exact hP
  .exact qx hP<|kM ..
  .exact hQ
  .exact pZ.nil
 obtain⟨d7,d9,os',g1,g2⟩:=zR (p:=p) (n:=n) d (o0:=o0) (k:=k) (a4:=aa<|Zf z) (a5:=D) (a6:=aa<|Zf 1) (a8:=aa<|Zc P) (a10:=ae) (a11:=ae) (a12:=ae) s4 f4 [P,P.take 1,Q,[]] p4 [7] c7 ae<|.inr rfl;obtain rfl:=g2 (by simp)
 rw[Zi (ρ':=ρ (aa<|Zf z) D (aa<|Zf 1) d7 (aa<|Zc P) d9 ae ae ae) (os':=[]) (s':=s4)<|by rw[rv,w7,Za];exact g1]
 obtain⟨x1,s5,b1,u1⟩:=Zaq (p:=p) (n:=n) (d+6) s4 f4 f3 hP;obtain⟨x2,s6,b2,u2⟩:=ZbZ (d+7) s5
 let ρt (a10 a11:Option V):Env:=ρ (aa<|Zf z) D (aa<|Zf 1) d7 (aa<|Zc P) d9 a10 a11 ae
 have w8:pvw (CV<|d+9) (.of<|.lst [(.call 24 [(.v 2),(.v 3),(.v 8)]),(.call 25 [(.v 2)])]) (hide []<|ρt ae ae) s4=.ok [x1,x2] s6:=by
  rw[Lv.hide_nil,pvw,pv,Zb (Zo (Zb (Zg rfl)<|Zb (Zg rfl)<|Zb (Zg rfl) Ze) b1)<|Zb (Zo (Zb (Zg rfl) Ze) b2) Ze];rfl
 obtain⟨c1,k1⟩:=vF (p:=p) (n:=n) d s6 f4 u1 (o0:=o0) (k:=k) (a4:=aa<|Zf z) (a5:=D) (a6:=aa<|Zf 1) (a7:=d7) (a8:=aa<|Zc P) (a9:=d9) (a11:=ae) (a12:=ae);obtain⟨c2,k2⟩:=vF (p:=p) (n:=n) d s6 f4 u2 (o0:=o0) (k:=k) (a4:=aa<|Zf z) (a5:=D) (a6:=aa<|Zf 1) (a7:=d7) (a8:=aa<|Zc P) (a9:=d9) (a11:=c1) (a12:=ae);rw[Zi (ρ':=ρt (aa x2) c2) (os':=[]) (s':=s6) (by
  rw[rv,w8,Za,YJ,T8 (by simp),T9<|by rfl]
  show((PR.ok (ρt (aa x1) ae) s6).bind λρ s=>rvs (CV<|d+9) [7] ZaC ρ [] s).bind _=_
  rw[Za,k1,Za];show YJ _ _ _ _ _=_;rw[YJ,T8 (by simp),T9<|by rfl]
  show((PR.ok (ρt (aa x2) c1) s6).bind λρ s=>rvs (CV<|d+9) [7] ZaC ρ [] s).bind _=_
  rw[Za,k2,Za];rfl)]
 obtain⟨vs,o1,o2,o3⟩:=ZaB (p:=p) (n:=n) (C:=CV<|d+9) (ρ:=ρt (aa x2) c2) (s:=s6) f4 rfl;obtain⟨v,s7,q2,v0,v1⟩:=Z3 (d+8) s6 (m:=10) (ρ:=ρt (aa x2) c2) (i:=2) (e:=.c<|.int 10) rfl ZU (by decide) (by decide)
 obtain⟨y,m4,q4⟩:=pick o1 q2 v0 (by lia)
 rw[Zi<|ZE q4 rfl]
 let ρu:Env:=ρ (aa<|Zf z) D (aa<|Zf 1) d7 (aa<|Zc P) d9 (aa x2) c2<|aa y
 show ∃ρ' os' s',rvs _ _ _ ρu [] s7=.ok (.nx ρ' os') s'/\ρ'[0]?=aa o0/\ρ'.length=10+3;have j:pv (CV<|d+9) (.cmp .ne (.refu ak<|.call 17 [(.v 3),(.v 12)])<|.c<|.str<|bh "number") ρu s7=.ok (.bl ai) s7:=
  ne_str (vK (w:=ak) (Wf (Zb (Zg (i:=3) (v:=spV p n) rfl)<|Zb (Zg (i:=12) (v:=y) rfl) Ze)<|zn (d+5) s7 f4 (o3 y m4).1 (o3 y m4).2) #[by decide,by decide]) (by rw[pv];rfl)
 rw[guard j,rvs];exact#[ρu,[],s7,rfl,rfl,rfl]
def law_ok(ns:List Int)(s:DS):∃S,Zm fns 2 63 33 [.scr ns] s=.ok (.bl ak) S:=
 Lv.law_of (d:=60) (by decide) (by decide) (by decide) rfl rfl rfl (by decide) (jZ 53) ns s
end K42
namespace PySem.W.Fast
def tw17314930248007911565:=0
def tw9759662386372903630:=0
def tw18055847836888070323:=0
def tw52579115717008593:=0
def tw3086264499059482694:=0
def tw16005131019796733504:=0
def tw3569432837388166950:=0
def tw231329667191207383:=0
def tw18008336169035528345:=0
def tw1008773156557669885:=0
def tw14551958572544289108:=0
def tw4375033532973375917:=0
def tw2728875344974352207:=0
def tw5400523917924127012:=0
def tw9735249343346086941:=0
def tw13893783628455371308:=0
def tw5894990691554163259:=0
def tw16893826155637188400:=0
def tw12344695614824508949:=0
def tw6365022116792503089:=0
def tw10465698526373309825:=0
def tw4948864469204355004:=0
def tw16794636982351564980:=0
def tw7549035807370091232:=0
def tw6596290634678338429:=0
def tw13545883618427883590:=0
def tw17549195049017296426:=0
def tw3439179693061180771:=0
def tw5828706587151778802:=0
def tw9272928826985480984:=0
def tw7326009854902901674:=0
def tw9083759359795075750:=0
def tw9515544952409819575:=0
def tw11787173280349060118:=0
def tw8193158633285894742:=0
def tw8932455378677237410:=0
def tw1196135968794250157:=0
def tw6799516805485032616:=0
def tw11738193180096865817:=0
def tw17378793760068038919:=0
def tw4159245765987873461:=0
def tw8503843586262863951:=0
def tw12395704282631291348:=0
def tw15265764653171678556:=0
def tw6522562657845070709:=0
def tw2021653789194703503:=0
def tw4345506553827655869:=0
def tw869199352022762703:=0
def tw356460409401386747:=0
def tw3881784943802797074:=0
def tw6270680389549443834:=0
def tw10781391596060521745:=0
def tw14504102848772892821:=0
def tw1588744315219259234:=0
def tw6462262034044995616:=0
def tw7942857576281228428:=0
def tw13444069327989618674:=0
def tw15164288818020812834:=0
def tw11559667728743198488:=0
def tw17184511912711591435:=0
def tw8679391342480102444:=0
def tw3082407953930402425:=0
def tw15498462680546556607:=0
def tw13899395220185713339:=0
def tw10931264217200010462:=0
def tw16875386106811966177:=0
def tw9211827726821409097:=0
def tw10670395337220173634:=0
def tw8158729252275378161:=0
def tw4604627269270470545:=0
def tw4797251489842731090:=0
def tw13846699479063150927:=0
def tw4575467695544229861:=0
def tw894248485144892555:=0
def tw1945429937898935827:=0
def tw12318041070750346114:=0
def tw2073352734297555902:=0
def tw12436019912400916693:=0
def tw3107550877513590980:=0
def tw4442881540866522979:=0
def tw11222685983042523935:=0
def tw12577678899341302481:=0
def tw3458441470959334997:=0
def tw1089237619205825620:=0
def tw15528802539291700978:=0
def tw7527723528514371665:=0
def tw12648910215884845443:=0
def tw2118837890043176618:=0
def tw1117378421088424010:=0
def tw16776985480475694707:=0
def tw15610971034448069276:=0
def tw16649484307538709204:=0
def tw18248123795630675884:=0
def tw17064760005014842651:=0
def tw10824546056454558890:=0
def tw35929840532635386:=0
def tw12606809234744117834:=0
def tw12368057102272022637:=0
def tw1129122602663966776:=0
def tw10620509482951171742:=0
def tw16818995639429433593:=0
def tw6640178603802418387:=0
def tw7006880635666904924:=0
def tw17691744130687161923:=0
def tw4403444101552014283:=0
def tw1485099050158797306:=0
def tw6603249887133285381:=0
def tw9502901441481134352:=0
def tw6179348630063865313:=0
def tw157058620523830326:=0
def tw5848378371512853275:=0
def tw7463952288626957918:=0
def tw9195541737026063306:=0
def tw4823929965214918257:=0
def tw14658621845832155305:=0
def tw16089549160339282664:=0
def tw16123984722290494395:=0
def tw785983188816352356:=0
def tw1399520849612755362:=0
def tw2930057474586005269:=0
def tw14590234494818381035:=0
def tw17356667331369234953:=0
def tw6419631348185847765:=0
def tw5716848154423771422:=0
def tw12859264353403047138:=0
def tw6399927034872946420:=0
def tw7037797030219078492:=0
def tw8102184985647288899:=0
def tw3851552923579513189:=0
def tw2512741266711747163:=0
def tw2865392617541894889:=0
def tw2068328407258245845:=0
def tw15502665066943473776:=0
def tw10568228641289238839:=0
def tw2840162263816101287:=0
def tw6415268587372419907:=0
def tw9518071042040267539:=0
def tw14235667484737109246:=0
def tw17580575766282762606:=0
def tw7747888594419091715:=0
def tw2160733293525592869:=0
def tw872700478985575301:=0
def tw11731776372380003699:=0
def tw16522697058415454946:=0
def tw13321561571881669811:=0
def tw15372754255153909695:=0
def tw10547120428551055416:=0
def tw2800814723530069775:=0
def tw4709443725600243803:=0
def tw10552474353990705274:=0
def tw17548989457986596135:=0
def tw5818942071901661546:=0
def tw6249906457617705104:=0
def tw11502773189980292945:=0
def tw432764829118367920:=0
def tw5871405094653741959:=0
def tw1004198727292127084:=0
def tw4503934721403290737:=0
def tw4639779330230228528:=0
def tw12377638463928767847:=0
def tw2982768192673535267:=0
def tw13649170339224101077:=0
def tw2635131322326675023:=0
def tw15633175716065774308:=0
def tw10883282937844581477:=0
def tw18221365240820737877:=0
def tw17555017205131056370:=0
def tw5967862358476768647:=0
def tw725903016127747403:=0
def tw4524526629037072875:=0
def tw2559175104300782962:=0
def tw15633476578321562448:=0
def tw8799409865338716378:=0
def tw14764390054001656639:=0
def tw1767622187251968577:=0
def tw2349317162221030037:=0
def tw589834160684420226:=0
def tw8268621405590918615:=0
def tw11613435215192623951:=0
def tw17375692542538329205:=0
def tw5410873124099950259:=0
def tw7193277703293650026:=0
def tw16127279293627434768:=0
def tw16363004702414405758:=0
def tw6084170224148449713:=0
def tw5229589898845304152:=0
def tw4077319518839858754:=0
def tw1984370556880225713:=0
def tw17312293163789409136:=0
def tw14412848951889780869:=0
end PySem.W.Fast
open PySem PySem.W PyProof.Rows Gn
set_option maxRecDepth 100000 in
set_option maxHeartbeats 0 in
theorem PySem.Challenge.cw_fewspaces_k42_bent_parts_holds : PySem.Challenge.rw_fewspaces_k42_bent_parts.Holds := by
  w_on; o_law; k_head; (case hw => w_witness2)
  k_fill
  refine Gn.jU (l := PySem.Challenge.rw_fewspaces_k42_bent_parts) (F := K42.fns) (tk := K42.tk) (L := 33) (c := 342) (Pt := 340) (cl := fun _ => [24, 37, 49, 61, 73, 85, 97, 109, 121, 133, 145]) (fun ns s => K42.law_ok ns s) rfl rfl (fun w h Y => PySem.W.km_in_of Y) rfl (fun w => by kernel_rfl!) (fun w => by kernel_rfl!) ?F
  case F =>
    intro w mg fa h KX G hmg;refine' Gn.Zco (fs := K42.fs) (zs := K42.zs) (gs := K42.gs) (sn := K42.sn) KX G hmg K42.okl.1 (fun i fn e => by rw [cR] at e; split at e; exact e; cases e) rfl (by decide) ?A ?Z ?Y ?E ?L rfl rfl rfl (by decide +kernel) (Gn.ZdS (Pp := K42.pp) K42.okl.2.1 K42.okl.2.2 (by kernel_rfl!) (by kernel_rfl!) (by kernel_rfl!) (by kernel_rfl!) (by kernel_rfl!)) ?R
    case A => repeat' (first|exact FnsAt.nil|refine' FnsAt.cons ?h1 ?h2 ?h3 ?h4 ?h5 ?_; (case h1 => k_is); (case h2 => k_is); (case h3 => k_is); (case h4 => k_is); (case h5 => first|exact bd1 fun _ _ _ _ _ _ _ => rfl|exact bd2 fun _ _ _ _ _ _ _ _ => rfl|exact bd3 fun _ _ _ _ _ _ _ _ _ => rfl|exact bd4 fun _ _ _ _ _ _ _ _ _ _ => rfl|exact bd5 fun _ _ _ _ _ _ _ _ _ _ _ => rfl|exact bd6 fun _ _ _ _ _ _ _ _ _ _ _ _ => rfl))
    case L => repeat' (first|exact FnsAt.nil|refine' FnsAt.cons ?h1 ?h2 ?h3 ?h4 ?h5 ?_; (case h1 => k_is); (case h2 => k_is); (case h3 => k_is); (case h4 => k_is); (case h5 => first|exact bd1 fun _ _ _ _ _ _ _ => rfl|exact bd2 fun _ _ _ _ _ _ _ _ => rfl|exact bd3 fun _ _ _ _ _ _ _ _ _ => rfl|exact bd4 fun _ _ _ _ _ _ _ _ _ _ => rfl|exact bd5 fun _ _ _ _ _ _ _ _ _ _ _ => rfl|exact bd6 fun _ _ _ _ _ _ _ _ _ _ _ _ => rfl))
    case Z => repeat' (first|exact ZsAt.nil|refine' ZsAt.cons ?h1 ?_; (case h1 => k_is))
    case Y => repeat' (first|exact GsAt.nil|refine' GsAt.cons ?h1 ?_; (case h1 => k_is))
    case E => kernel_rfl!
    case R => rfl
