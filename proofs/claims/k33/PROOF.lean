import PyProof.Rows.All
import Wide.All
import OpenK.AllK
import Wide.FinOn
import Lean
import PyProof.EqAt
import PyProof.EqKinds
import PyProof.TupleCall
import PySem.Str
import PyProof.CodeObj
import PyProof.ListMulAny
import PyProof.NeKinds
import PyProof.ConsumeWalk
import PyProof.CompFree
import PyProof.Cells
import PyProof.ZipIter
import PyProof.Draws
import PyProof.EnumMake
import PyProof.SumWalk
import PyProof.Rows.SortRuns
import KE.KSortTup
import PyProof.Rows.SortRev
import PyProof.FactsAll.tuple
import KE.KRevIter
import PyProof.FactsAll.range_2
import PyProof.ListRange
import PyProof.TupleOfSeq
import PyProof.TupleOfGen
import PyProof.CallType
import PyProof.DictWalks
import PyProof.IsiH_list
import PyProof.RulesTry
import KE.KDictOf
import KE.KDictSum
import PyProof.Rows.SetFrom
import PyProof.FactsAll.set
import KE.KSortKey
import PySem.Challenge.RW_fewspaces_k33_heads
set_option Elab.async false
set_option linter.all false
set_option compiler.extract_closed false
set_option maxRecDepth 100000
set_option maxHeartbeats 0
local macro_rules
|`(#[$x,$y])=>`(⟨$x,$y⟩)
|`(#[$x,$y,$z,*])=>`(⟨$x,$y,$z,*⟩)
abbrev T9:=@if_pos
abbrev T8:=@if_neg
abbrev T7:=@absurd
abbrev T6:=@of_decide_eq_true
abbrev T5:=@decide_eq_true
abbrev T4:=@decide_eq_false
abbrev T0:=@decide_eq_true_eq
open Option renaming some->aa,none->ag,map_eq_some_iff->bF,isSome_iff_exists->bO,bind_eq_some_iff->cQ,isSome_map->iT,isSome_some->mm,getD_none->nc,getD_some->nk,map_some->nZ
open PySem renaming wpAny_bind->ab,Value->ap,wpAny_pure->aq,Shared->ax,starEach->aH,Addr->aL,model->aS,wpAny->aX,sizeLine->bi,Str->bB,Program->bG,wpAny_holding->bH,foldedSetIterable->bJ,wpAny_newObj_type->bQ,wpAny_call_entry->bW,World->b0,assignEach->b7,sizeLine_eq->cc,Heap->ck,wpAny_callSpecial?_slot->cx,eval->cD,compareOp->cF,mainGlobals->cG,wpAny_mono->cJ,FuncData->cS,Around->cZ,sysModules->c7,wpAny_field->c9,bootBuiltins->db,Builtin->dr,cLine->dv,assign->dF,wpAny_standAt->dP,swapsWithSole->dQ,swappedStores->dR,cellsFrom->dS,backTo->dW,wpAny_seqItems->d3,wpAny_setField_rec->d4,binaryOp->ei,NameKind->ej,wpAny_rule->eI,mem_of_lookup->eK,Scope->eL,wpAny_askSetting->eN,wpAny_setField->eO,wpAny_of_eq->eT,wpAny_typeNameOfWhole_keyiter->eU,intKind->eV,wpAny_Call_Name_kw->eW,codeAny_builtin->eZ,wpAny_truthy_bool->fe,codeAny->fg,wpAny_pyIter_list->fj,Obj->fw,rawInt->fz,swapsWith->fD,DictEntry->fF,Stmt->fK,behindInMarks->fM,wpAny_typeNameOf_keyiter->fT,wpAny_passesOwn->fU,call_meets->fY,wpAny_pyIter_tuple->fZ,sliceBounds->ga,codeAny_mono->gl,wpAny_setState_of->gC,intKind_is->gJ,wpAny_isInstance->gK,holding->gO,wpAny_attempt->gP,wpAny_updateSeq_pair->gS,Pos->gW,wpAny_loadPart'->hG,wpAny_typeOf->h8,pyIter->ip,tupleKind_room_in1->iz,firstArgMember->iF,wpAny_binaryOp_repeat_ref->iO,wpAny_assign_Name->iR,wpAny_pyIter_slot->iW,pyNext->iX,wpAny_onRaise->i6,wpAny_newList->ke,wpAny_eqBool_int->ki,tupleKind->kj,noFill_tuple_add->kl,standAt->kB,wpAny_pyNext_list_item->kC,IsPart->kF,typeIs_int->kI,IsPair->kK,richCompare_meets_room->kM,letOwnedTupleGo->kO,pushCells_keeps->kR,codeAny_of_tree->kS,wpAny_pyNext_list_end->kY,exec_Assign_Name_used->kZ,wpAny_isOneOf_keyiter->k7,builtinLookup_eq_fast->k8,ZipApart->ln,isSubtype_stop->lq,isSubtype_type->lz,getItem->lD,callerA->lG,wpAny_setEntries_of->lL,seq_tuple_add->lQ,attributeBase->lR,wpAny_handled->lT,plainId_quiet->lZ,builtinsNs->md,BindsTo->mz,concat_meets->mC,wpAny_sequenceKey->mD,seqIndex_neg->mE,Keyword->mF,valueAt->mI,wpAny_pyIter_enum->mO,wpAny_dictEntries->mU,wpAny_storeSet_of->mV,seqSlot_of->ng,pushCells->np,seqIndex_of->nF,keywordEach->nG,wpAny_alloc->nH,wpAny_throw->nI,IsZip->nJ,wpAny_letGo->nK,unsupported->nL,Sem->nP,wpAny_Name->oa,wpAny_load->og,rule->oh,bindArgs->om,call->oo,atKey->oq,Meets->ou,compTurn->ox,setsByText->oI,again->oP,bindL->oQ,bindC->oR,hashInt->oT,setItem->oU,Result->oV,newExc->oW,ItemsOf->oX,ret->o0
open List renaming getElem?_eq_getElem->ae,mem_cons_of_mem->aj,mem_cons_self->al,length_map->aw,size_toArray->ay,range->az,mem_cons->aB,getD_eq_getElem?_getD->aC,replicate->aD,getElem?_map->aJ,length_cons->aK,mem_map->aO,mem_range->aP,all_eq_true->aT,getElem?_eq_some_iff->aU,pairwise_cons->aV,getElem_mem->aW,length_range->aZ,map_cons->a9,length_append->ba,mem_singleton->bh,getElem?_set_ne->bo,getElem?_append_right->bq,pairwise_iff_getElem->bu,append_assoc->bv,length_take->bw,length_drop->bx,mem_append_right->bC,getElem?_eq_none->bD,getElem?_append_left->bI,ext_getElem?->bK,lookup_cons->bL,replicate_succ->bM,map_append->bN,length_replicate->bR,zip_cons_cons->bS,getElem?_set_self->bU,map_map->bV,mem_filter->bX,append_nil->bY,length_set->bZ,drop_eq_getElem_cons->b9,mem_of_mem_drop->cf,toArray->cg,getElem?_range->cq,getElem?_replicate->cw,not_mem_nil->cy,pairwise_map->cA,take_of_length_le->cC,getElem_of_mem->cH,contains_iff_mem->cK,take_append_drop->cL,flatten_cons->cO,getElem?_take->cU,mem_append->cV,mem_flatMap->c0,map_congr_left->c8,length_singleton->da,foldl_cons->de,nodup_cons->dy,mem_append_left->dG,mem_of_getElem?->dH,mem_of_mem_take->dJ,drop_length->dU,pairwise_reverse->d6,find?_cons->d9,pairwise_append->eA,reverse_perm->eC,mem_reverse->eQ,pairwise_singleton->eR,filter_cons->eS,length_filter_le->fc,nodup_append->fk,getElem_take->fm,getElem_drop->fq,getElem?_inj->fu,getElem?_mapIdx->fB,any_eq_true->fG,extract_eq_take_drop->fJ,mem_map_of_mem->fL,any_cons->fP,all_cons->fQ,nil_append->fV,length_zip->fW,zip_nil_right->f8,length_eq_zero_iff->gc,reverse_cons->gu,zip_nil_left->gB,sum_replicate_nat->gE,take_length->gI,ext_getElem->gM,isEmpty_toArray->gQ,drop_append_of_le_length->gU,take_append_of_le_length->gV,forIn_cons->gZ,filterMap_cons->hV,length_flatMap->hZ,all_map->ic,take->io,drop_zero->iE,drop_drop->iH,getElem?_drop->iJ,drop_left->iK,take_left->iL,getElem?_zip_eq_some->iP,length->iS,contains->i5,find?_range_eq_some->kf,map_tail->kg,eq_of_mem_replicate->kh,zipIdx_cons->kt,map_toArray->ky,sublist_nil->kA,range_succ_eq_map->kJ,drop_of_length_le->kL,of_mem_zip->kP,range_succ->kX,getElem?_reverse->k5,forIn_nil->lp,mem_iff_getElem->lv,map->lw,reverse_append->lJ,mem_filterMap->me,find?_toArray->mn,take_sublist->mB,getElem?_set->mJ,foldl_append->m3,flatMap_cons->m4,drop_append->nr,countP_cons->nt,nodup_range->nu,perm_middle->nD,map_flatMap->nE,zipIdx_nil->nS,map_const'->n6,nodup_nil->ot,take_take->oz,perm_cons->oA,tail_cons->oJ,drop->oS,zip->oZ
open Decidable renaming decide->af
open Bool renaming true->ai,false->am,and_eq_true->aA,false_ne_true->aM,false_eq_true->cB,eq_iff_iff->cE,or_eq_true->ee,false_or->iY,not_true->i8,false_and->lc,true_and->l6,not_eq_true'->mX,and_false->on,not_false->oE
open Option.some renaming inj->ak
open PySem.W renaming Frag->ao,katRev->aY,kia_one->cW,kia_tup->cX,fnOf->dO,kitAny->d5,kat_len->eg,keepIn->fA,kitx_list->gh,kitx_dict->gj,nsIn->gD,kat_nil->g9,codeIn->iu,KdlSrc->iN,katRev->kc,cellsFrom_some->kD,instObj->kN,OpenLaw->kQ,lookIn->lg,kitOne->lj,mg_of->l4,kitx_float->mh,kitx_tuple->mi,kitx_none->mw,kitx_bool->my,plainGet->m5,kitx_int->m7,kitx_str->m8,kitx_own->m9,kat_cons->nz,kat_kind->nA,kat_yes->nT,kat_one->nU,KatTups->nV,kat_len->n9,findIn->oj,KatLex->oB,kat_no->oC,kat_lt->oD,WalkO->oN
open PySem.Heap renaming get?_push_of_some->au,lt_size->aE,get?_push_size->aG,size_push->cT,get?_update_self->dB,SameBut->dN,get?_push_ne->gz,ExtBut->gR,size_update->kw,get?_update_other->kH,get?_update_ne->lK
open Array renaming length_toList->aF,getElem?_toList->bc,getElem?_eq_getElem->bj,perm_iff_toList_perm->bm,toList_append->cu,size_push->dM,toList_push->eB,size_extract->f7,getElem?_eq_none->gw,size_append->gx,toList_extract->gT,toList_setIfInBounds->iI,toList_inj->ku,mem_toList_iff->lh,toList_reverse->lu,size_reverse->mq,toList->mv,toList_map->nv,range->nO
open PyProof.Rows renaming wpS_bind->aI,wpS_pure->aQ,arrOf->be,pendingOf->bf,SortSt->bP,Keyed->bT,wpS_forRange->cr,callWith_type1->cM,slot_tuple_getitem->dA,wpS_mono->eo,seqObj->eJ,wpS_modify->eX,SortKind->fC,elem'->fI,failedOf->fS,IntsAre->gp,wpS_get->gy,callWith_builtin1->gG,setPending->gL,envOfC->iq,list_sort_rev->iM,AllBare->iQ,subscriptTail_builtinR->kG,entry_list_sort->kW,wpS->k9,slot_list_sort->lx,args_list_sort->ly,entry_tuple_getitem->lH,listUpdate_at->lV,args_tuple_getitem->mj,size_push'->mr,plain_sorted->mQ,entry_sorted->mR,args_sorted1->mS,seqEpoch_at->nM,kind_sorted->nN,minRun'->n8,IsTup->oY
open Nat renaming le_refl->aN,ne_of_lt->bn,lt_of_lt_of_le->bp,lt_irrefl->br,le_trans->cp,lt_succ_of_lt->cP,lt_trans->dq,zero_le->dz,le_of_not_lt->dC,lt_of_succ_lt->dL,pow_le_pow_right->eD,le_add_right->eP,ne_of_gt->fE,lt_of_le_of_ne->f6,le_succ->gd,le_of_lt->gg,mul_comm->h9,mul_le_mul->iC,add_assoc->i7,lt_succ_self->kr,min_eq_left->kT,mul_assoc->l5,add_comm->mG,le_of_eq->mH,min_self->mL,pow_succ->mZ
open And renaming intro->aR
open PySem.Value renaming none->bg,ref->cn,bool->dg,int->e9,type->l9,isStrOf->oM
open List.Perm renaming refl->bz,swap->gA,of_eq->kU,nil_eq->ny
open PySem.NameKind renaming free->bE,cell->cz
open PySem.Heap.SameBut renaming update->cI,refl->mM
open True renaming intro->cR
open Sum renaming inl->cY,inr->lC
open Pure renaming pure->c6
open PySem.Obj renaming data_mapFields->dm,mapSeq->eG,isFreed_of_fields->fb,cls_mapFields->gv,mapFields->lW,putSet->oG
open Int renaming toNat_natCast->du,emod_lt_of_pos->eY,emod_eq_of_lt->fv,emod_nonneg->fX,ofNat->gN,toNat_of_nonneg->lN
open PySem.AutoSeq1 renaming wpAny_loadPart'->dD,sub_tuple_tuple->dE,wpAny_loadPart'->fR,idx_int->kn
open PySem.F renaming slot_tuple_iterator_next->dZ,args_tuple_add_2->fN,entry_tuple_add->f9,slot_tuple_add->gn,slot_int_rmul->gY,args_tuple_iterator_next_1->g7,slot_zip_next->g8,slot_dict_keyiterator_next->hJ,entry_tuple_iterator_next->ig,args_tuple_mul_2->iB,entry_tuple_mul->iU,slot_tuple_mul->ko,plainAttrs_list->kq,plain_list_iadd->kx,args_int_rmul_2->mK,args_zip_next_1->mN,args_tuple_lt_2->mT,entry_int_rmul->nh,entry_zip_next->nq,entry_tuple_lt->nB,slot_dict_iter->nC,fills_int_mul->nQ,slot_tuple_lt->nY,plain_set_new->n3,slot_set_iter->n4
open PySem.Builtin.Slice renaming slicePlaces->d7,sliceAdjust->fH
open PySem.Builtin.SmallTypes renaming nextOf->d8
open PySem.Around renaming under_plainId->eE
open PySem.SetTable renaming insertAt->eF,grown->oF,below->oH
open LawfulBEq renaming eq_of_beq->eM
open PySem.Builtin.List renaming listTooLong->fO,listLengthHint->im
open PyProof.Rows.F renaming plain_set_update_loop->gf,entry_set_update_loop->kz
open List.Pairwise renaming nil->gq,imp_of_mem->i9,filter->lB
open PySem.Builtin.Tuple renaming tupleCompareSizes->gF,tupleItemsOf->iw,tupleTooMany->iA
open PySem.SeqAt renaming EqAt->gH
open PySem.SeqAt.EqAt renaming same->gX,of_refs->iD,int_str->l7,str_int->l8,int_int->ml
open Break renaming runK->iG
open PySem.SeqAt.RcAt renaming tuples->iV,lists_lengths->iZ,lists->ni
open PyProof.Rows.IsTup renaming new->km
open PySem.Builtin.Dict renaming showsAll->k6
open ForIn renaming forIn->lm
open PySem.Builtin.Int renaming intBits->lI
open Lean.Grind renaming CommRing->lO
open PySem.P renaming truthy_int->mf
open PySem.Str renaming ofString->mP
open PySem.pickOrder renaming go->mW
open Classical renaming not_not->mY
open Or renaming inr->nj
open ForInStep renaming yield->nR
open PySem.PassesOwn renaming never->n5
open PySem.Walks renaming list->ow
open PyProof.Rows.SortSt renaming mk'->oy
open Min renaming min->oK
open PySem.Code renaming compLoop->oO
namespace L2
open PySem PySem.Spec PyProof.Rows
abbrev Key:=Sum Int bB
noncomputable def Qg:Key->ap->Bool
 |.inl k,v=>ap.isInt k v
 |.inr x,v=>oM x v
noncomputable def ZeP(w:b0):Key->Int
 |.inl k=>oT k
 |.inr x=>hashStr w x
def ZR:∀{k:Key}{v:ap},Qg k v=ai->(∃i t,k=cY i/\v=e9 i t)\/(∃x t,k=lC x/\v=ap.str x t)
 |.inl i,v,h=>by
  obtain⟨t,e⟩:=ap.isInt_shape h;exact .inl #[i,t,rfl,e]
 |.inr x,v,h=>by
  obtain⟨t,e⟩:=ap.isStrOf_shape h;exact .inr #[x,t,rfl,e]
def wG(i:Int)(t:Tok):Qg (.inl i) (.int i t)=ai:=by simp[Qg,ap.isInt]
def wc(x:bB)(t:Tok):Qg (.inr x) (.str x t)=ai:=by simp[Qg,oM]
def ZbS(a b:Int):af ((cY a:Key)=cY b)=(a == b):=by
 by_cases e:a=b
 .subst e;simp
 .have h:¬(cY a:Key)=cY b:=λq=>e (cY.inj q)
  rw[T4 h];exact(beq_eq_false_iff_ne.mpr e).symm
def Zcg(a b:bB):af ((lC a:Key)=lC b)=af (a=b):=by
 by_cases e:a=b
 .subst e;simp
 .have h:¬(lC a:Key)=lC b:=λq=>e (lC.inj q)
  rw[T4 h,T4 e]
def ZcA(a:Int)(b:bB):af ((cY a:Key)=lC b)=am:=T4 (λq=>nomatch q)
def ZcD(a:bB)(b:Int):af ((lC a:Key)=cY b)=am:=T4 (λq=>nomatch q)
noncomputable def Z3(prog:bG)(w:b0):PySem.KeyKind prog w Key where
 is:=Qg
 hash:=ZeP w
 inj:=λv a b ha hb=>by
  rcases ZR ha with⟨i,t,rfl,rfl⟩|⟨x,t,rfl,rfl⟩
  .rcases ZR hb with⟨j,u,rfl,e⟩|⟨y,u,rfl,e⟩
   .injection e with e1 _;rw[e1]
   .exact nomatch e
  .rcases ZR hb with⟨j,u,rfl,e⟩|⟨y,u,rfl,e⟩
   .exact nomatch e
   .injection e with e1 _;rw[e1]
 byValue:=λk v h=>by
  rcases ZR h with⟨i,t,rfl,rfl⟩|⟨x,t,rfl,rfl⟩<;>rfl
 pyHash:=λhv h=>by
  rcases ZR hv with⟨i,t,rfl,rfl⟩|⟨x,t,rfl,rfl⟩
  .exact wpAny_pyHash_int h
  .exact wpAny_pyHash_str h
 eqBool:=λhu hv h=>by
  rcases ZR hu with⟨i,t,rfl,rfl⟩|⟨x,t,rfl,rfl⟩
  .rcases ZR hv with⟨j,u,rfl,rfl⟩|⟨y,u,rfl,rfl⟩
   .rw[ZbS]at h;exact ki h
   .rw[ZcA]at h;exact l7 i t y u _ _ _ _ h
  .rcases ZR hv with⟨j,u,rfl,rfl⟩|⟨y,u,rfl,rfl⟩
   .rw[ZcD]at h;exact l8 x t j u _ _ _ _ h
   .rw[Zcg]at h;exact wpAny_eqBool_str h
 «strs»:=λk x t v h=>by
  rcases ZR h with⟨i,u,rfl,e⟩|⟨y,u,rfl,e⟩
  .exact nomatch e
  .injection e with e1 _
   subst e1;cases v<;>rfl
def JP(prog:bG)(w:b0)(i:Int)(t:Tok):(Z3 prog w).is (.inl i) (.int i t)=ai:=wG i t
def JA(prog:bG)(w:b0)(x:bB)(t:Tok):(Z3 prog w).is (.inr x) (.str x t)=ai:=wc x t
inductive V where
 |non|bl (b:Bool)|int (i:Int)|str (x:bB)|byt (b:Array UInt8)|flt (b:UInt64)|ref (a:aL)|ty (n:String)
 deriving DecidableEq
def Zx:V->ap->Prop
 |.non,u=>u=bg
 |.bl b,u=>u=dg b
 |.int i,u=>∃t,u=e9 i t
 |.str x,u=>∃t,u=ap.str x t
 |.byt b,u=>∃t,u=ap.bytes b t
 |.flt b,u=>∃t,u=ap.float b t
 |.ref a,u=>u=cn a
 |.ty n,u=>u=l9 n
abbrev Vals:List V->List ap->Prop:=Paired Zx
theorem Vals.length{xs:List V}{us:List ap}(r:Vals xs us):xs.length=us.length:=Paired.length r
theorem Vals.get:∀{xs:List V}{us:List ap}{i:Nat}{x:V},Vals xs us->xs[i]?=aa x->∃u,us[i]?=aa u/\Zx x u
 |_,_,_,_,.nil,e=>by simp at e
 |_,_,0,_,.cons r _,e=>by simp at e;subst e;exact#[_,rfl,r]
 |_,_,i+1,x,.cons _ t,e=>by
  obtain⟨u,h1,h2⟩:=Vals.get t (by simpa using e)
  exact#[u,by simpa using h1,h2]
theorem Vals.set(r:Zx x u):∀{xs:List V}{us:List ap}(i:Nat),Vals xs us->Vals (xs.set i x) (us.set i u)
 |_,_,_,.nil=>.nil
 |_,_,0,.cons _ t=>.cons r t
 |_,_,i+1,.cons q t=>.cons q<|Vals.set r i t
theorem Vals.append:∀{xs ys:List V}{us ws:List ap},Vals xs us->Vals ys ws->Vals (xs++ys) (us++ws)
 |_,_,_,_,.nil,s=>s
 |_,_,_,_,.cons r t,s=>.cons r<|Vals.append t s
theorem Vals.take:∀{xs:List V}{us:List ap}(n:Nat),Vals xs us->Vals (xs.take n) (us.take n)
 |_,_,0,_=>.nil
 |_,_,_+1,.nil=>.nil
 |_,_,n+1,.cons r t=>.cons r<|Vals.take n t
theorem Vals.drop:∀{xs:List V}{us:List ap}(n:Nat),Vals xs us->Vals (xs.drop n) (us.drop n)
 |_,_,0,r=>r
 |_,_,_+1,.nil=>.nil
 |_,_,n+1,.cons _ t=>Vals.drop n t
def zQ:Option V->Option ap->Prop
 |some v,aa u=>Zx v u
 |none,ag=>True
 |_,_=>False
def KV{κ:Type}:List (κ×V)->List (κ×ap)->Prop:=Paired λ(p:κ×V) (q:κ×ap)=>p.1=q.1/\Zx p.2 q.2
noncomputable def kV:Key->V
 |.inl i=>.int i
 |.inr x=>.str x
inductive HO where
 |lst (xs:List V)
 |tup (xs:List V)
 |dK (kvs:List (Key×V))|dT (kvs:List (List Key×V))
 |set (S:Int->Bool) (n:Nat)
 |ins (C dx:aL) (fs:List (bB×V))
 |own (x:aL)
 |xd (fs:List (bB×V))
 |met (f x:aL)
 |rng (lo hi:Int)
 |frz (o:fw) (u:HO)
 |tbl (ps:Array ap)
 |ext (φ:ck->Prop)
abbrev Hp:=aL->Option HO
noncomputable def upd(H:Hp)(a:aL)(o:HO):Hp:=λb=>if b=a then aa o else H b
def ZD :upd H a o a=aa o:=by unfold upd;rw[T9 rfl]
def Zl(h:b≠a):upd H a o b=H b:=by unfold upd;rw[T8 h]
def Zbl{H:Hp}{a b:aL}{o u:HO}(h:H a=aa o)(h':H b=aa u)(d:o≠u):a≠b:=by
 intro e;subst e;rw[h]at h';exact d<|ak h'
def ZM{H:Hp}{a b:aL}{o:HO}(h:H a=aa o)(h':H b=ag):a≠b:=by
 intro e;subst e;rw[h]at h';cases h'
section
variable(P:bG)(w:b0)
def Ym(H:Hp)(h:ck)(a:aL):HO->Prop
 |.lst xs=>xs.length<=bi/\∃(its:List ap)(n:Nat),Vals xs its/\h.get? a=aa {cls:=.type "list",data:=.seq its.toArray n}
 |.tup xs=>xs.length<=bi/\∃its:List ap,Vals xs its/\oY h a its.toArray
 |.dK kvs=>kvs.length<=bi/\(a == c7)=am/\∃vs,KV kvs vs/\h.DictOf (Z3 P w) a vs
 |.dT kvs=>kvs.length<=bi/\(a == c7)=am/\∃xs:List (List Key×aL×ap),
   Paired (λ(p:List Key×V) (q:List Key×aL×ap)=>p.1=q.1/\H q.2.1=aa (.tup<|p.1.map kV)/\Zx p.2 q.2.2) kvs xs/\
   ∃o es ep,h.get? a=aa o/\o.ExactDict/\o.data=.dict es ep/\es.toList=xs.map (entryOfKey<|kj<|Z3 P w)/\(xs.map (·.1)).Nodup
 |.set S n=>h.SetOf (eV P w) a S n
 |.ins C dx fs=>H dx=aa (.own a)/\fs.length<=1000/\dx≠a/\h.get? a=aa (kN C dx)/\
   ∃mA,h.Ns1 dx mA/\(∀f,zQ (fs.lookup f)<|mA f)/\PySem.Within mA (fs.map (·.1))
 |.own _=>∃o,h.get? a=aa o
 |.xd fs=>∃mA,h.Ns1 a mA/\∀f,zQ (fs.lookup f)<|mA f
 |.rng lo hi=>∃t u v,h.get? a=aa {cls:=.type "range",data:=.fields [.int lo t,.int hi u,.int 1 v].toArray}
 |.frz o u=>h.get? a=aa o/\Ym H h a u
 |.tbl ps=>h.get? a=aa {cls:=.none,data:=.fields ps}
 |.met f x=>h.get? a=aa (PySem.W.methodObj (.ref f)<|.ref x)
 |.ext φ=>φ h/\(∃o,h.get? a=aa o)/\∀h1 h2:ck,φ h1->(∀o,h1.get? a=aa o->h2.get? a=aa o)->φ h2
def HOk(H:Hp)(h:ck):Prop:=∀a o,H a=aa o->Ym P w H h a o
end
theorem Ym.lt(x:Ym P w H h a o):a<h.objs.size:=by
 cases o with|lst xs=>obtain⟨_,_,_,_,e⟩:=x;exact aE e|tup xs=>obtain⟨_,_,_,p⟩:=x;exact p.lt|dK kvs=>obtain⟨_,_,_,_,o,_,_,e,_⟩:=x;exact aE e|dT kvs=>obtain⟨_,_,_,_,o,_,_,e,_⟩:=x;exact aE e|set S n=>obtain⟨o,_,_,_,e,_⟩:=x;exact aE e|ins C dx fs=>obtain⟨_,_,_,e,_⟩:=x;exact aE e|own y=>obtain⟨_,e⟩:=x;exact aE e|xd fs=>obtain⟨_,⟨_,_,_,e,_⟩,_⟩:=x;exact aE e|rng lo hi=>obtain⟨_,_,_,e⟩:=x;exact aE e|frz ob u=>obtain⟨e,_⟩:=x;exact aE e|tbl ps=>exact aE (x)|met f y=>exact aE (x)|ext φ=>obtain⟨_,⟨_,e⟩,_⟩:=x;exact aE e
theorem Paired.mapP{B β:Type}{F G:B->β->Prop}:∀{l₁:List B}{l₂:List β},Paired F l₁ l₂->(∀a b,F a b->G a b)->Paired G l₁ l₂
 |_,_,.nil,_=>.nil
 |_,_,.cons r t,f=>.cons (f _ _ r)<|Paired.mapP t f
def Ym.stay(x:Ym P w H h a o)(k:∀b u,(b=a\/H b=aa (.own a))->h.get? b=aa u->h'.get? b=aa u)
  (ho:∀b,H b=aa (.own a)->H' b=aa (.own a))(ht:∀b xs,H b=aa (.tup xs)->H' b=aa (.tup xs)):Ym P w H' h' a o:=by
 induction o with
 |lst xs=>obtain⟨z,its,n,r,e⟩:=x;exact#[z,its,n,r,k _ _ (.inl rfl) e]
 |tup xs=>obtain⟨z,its,r,ob,e,c⟩:=x;exact#[z,its,r,ob,k _ _ (.inl rfl) e,c]
 |dK kvs=>obtain⟨z,y,vs,r,ob,es,ep,e,c⟩:=x;exact#[z,y,vs,r,ob,es,ep,k _ _ (.inl rfl) e,c]
 |dT kvs=>
  obtain⟨z,y,xs,r,ob,es,ep,e,c⟩:=x;exact#[z,y,xs,Paired.mapP r λp q z=>#[z.1,ht _ _ z.2.1,z.2.2],ob,es,ep,k _ _ (.inl rfl) e,c]
 |set S n=>obtain⟨ob,es,ep,t,e,c⟩:=x;exact#[ob,es,ep,t,k _ _ (.inl rfl) e,c]
 |ins C dx fs=>
  obtain⟨d,z,ne,e,mA,⟨od,es,ep,e2,c⟩,r⟩:=x;exact#[ho _ d,z,ne,k _ _ (.inl rfl) e,mA,#[od,es,ep,k _ _ (.inr d) e2,c],r]
 |own y=>obtain⟨ob,e⟩:=x;exact#[ob,k _ _ (.inl rfl) e]
 |xd fs=>obtain⟨mA,⟨od,es,ep,e,c⟩,r⟩:=x;exact#[mA,#[od,es,ep,k _ _ (.inl rfl) e,c],r]
 |rng lo hi=>obtain⟨t,u,v,e⟩:=x;exact#[t,u,v,k _ _ (.inl rfl) e]
 |frz ob u ih=>obtain⟨e,q⟩:=x;exact#[k _ _ (.inl rfl) e,ih q]
 |tbl ps=>
  have e:=x;exact k a _ (.inl rfl) e
 |met f y=>
  have e:=x;exact k a _ (.inl rfl) e
 |ext φ=>obtain⟨p,⟨o,e⟩,st⟩:=x;exact#[st _ _ p λo q=>k _ _ (.inl rfl) q,#[o,k _ _ (.inl rfl) e],st]
theorem HOk.lt(x:HOk P w H h)(e:H a=aa o):a<h.objs.size:=(x a o e).lt
def HOk.fresh(x:HOk P w H h)(e:h.objs.size<=a):H a=ag:=by
 cases q:H a with|none=>rfl|some u=>exact T7 (bp (x.lt q) e)<|br _
def HOk.kept(x:HOk P w H h)(k:∀b u,h.get? b=aa u->h'.get? b=aa u):HOk P w H h':=λa o e=>
 (x a o e).stay (λb u _ q=>k b u q) (λ_ q=>q) λ_ _ q=>q
def HOk.laid(x:HOk P w H h)(k:∀b u,h.get? b=aa u->h'.get? b=aa u)(hp:h.objs.size<=a)(new:Ym P w (upd H a o) h' a o):HOk P w (upd H a o) h':=λb u e=>by
 have hn:=x.fresh hp;by_cases hb:b=a
 .subst hb;rw[ZD]at e;cases e;exact new
 .rw[Zl hb]at e
  exact(x b u e).stay (λc v _ q=>k c v q) (λc q=>by rw[Zl<|ZM q hn];exact q) λc xs q=>by rw[Zl<|ZM q hn];exact q
def Rd(H:Hp)(a:aL)(u:HO):Prop:=H a=aa u\/∃o,H a=aa (.frz o u)
def Rd.ok(r:Rd H a u)(x:HOk P w H h):Ym P w H h a u:=by
 rcases r with r|⟨o,r⟩
 .exact x a u r
 .obtain⟨_,q⟩:=x a _ r
  exact q
def Mut:Option HO->Prop
 |some (.lst _)=>True
 |some (.dK _)=>True
 |some (.dT _)=>True
 |some (.set _ _)=>True
 |some (.ins _ _ _)=>True
 |some (.ext _)=>True
 |_=>False
def HOk.write(ok:HOk P w H h)(mu:Mut (H x))(he:e=x\/H e=aa (.own x))(k:∀b u,b≠e->h.get? b=aa u->h'.get? b=aa u)(heo:∃u,h'.get? e=aa u)
  (new:Ym P w (upd H x o') h' x o'):HOk P w (upd H x o') h':=λb u q=>by
 have nown:∀c y,H c=aa (.own y)->c≠x:=λc y r z=>by subst z;rw[r]at mu;exact mu
 have ntup:∀c xs,H c=aa (.tup xs)->c≠x:=λc xs r z=>by subst z;rw[r]at mu;exact mu
 by_cases hb:b=x
 .subst hb;rw[ZD]at q;cases q;exact new
 .rw[Zl hb]at q
  by_cases hbe:b=e
  .have q':H b=aa (.own x):=by
    rcases he with z|z
    .exact T7 (hbe.trans z) hb
    .rw[hbe];exact z
   rw[q]at q';cases q';obtain⟨v,hv⟩:=heo;exact#[v,by rw[hbe];exact hv]
  .refine(ok b u q).stay (λc v hc r=>k c v ?_ r) (λc r=>by rw[Zl<|nown c b r];exact r) λc xs r=>by rw[Zl<|ntup c xs r];exact r
   rcases hc with rfl|hc
   .exact hbe
   .rintro rfl
    rcases he with z|z
    .exact nown c b hc z
    .rw[hc]at z;cases z;exact hb rfl
structure Un(fs ex:List aL)(H H':Hp)(h h':ck):Prop where
 keep:∀b o,h.get? b=aa o->H b=ag->b∉fs->b∉ex->h'.get? b=aa o
 slot:∀b o,h.get? b=aa o->H b=ag->b∈fs->b∉ex->∃sl,h'.get? b=aa {o with slots:=sl}
 free:∀b o,h.get? b=aa o->H b=ag->b∉ex->H' b=ag
 there:∀b o,h.get? b=aa o->b∉ex->∃o',h'.get? b=aa o'
 tups:∀b xs,H b=aa (.tup xs)->H' b=aa (.tup xs)
 frzs:∀b o u,H b=aa (.frz o u)->H' b=aa (.frz o u)
 tbls:∀b ps,H b=aa (.tbl ps)->∃more,H' b=aa (.tbl<|ps++more)
def Un.any(u:Un fs ex H H1 h h1)(q:h.get? b=aa ob)(n:H b=ag)(hx:b∉ex):∃sl,h1.get? b=aa {ob with slots:=sl}:=by
 by_cases hb:b∈fs
 .exact u.slot b ob q n hb hx
 .exact#[ob.slots,u.keep b ob q n hb hx]
def Un.kept(k:∀b u,h.get? b=aa u->h'.get? b=aa u):Un fs ex H H h h':=
 #[λb ob q _ _ _=>k b ob q,λb ob q _ _ _=>#[ob.slots,k b ob q],λ_ _ _ n _=>n,λb ob q _=>#[ob,k b ob q],λ_ _ q=>q,λ_ _ _ q=>q,λ_ ps q=>#[#[],by rw[q];simp]]
def Un.refl:Un fs ex H H h h:=Un.kept λ_ _ q=>q
def Un.laid(k:∀b u,h.get? b=aa u->h'.get? b=aa u)(hp:h.objs.size<=a)(hn:H a=ag):Un fs ex H (upd H a o) h h' where
 keep:=λb u q _ _ _=>k b u q
 slot:=λb u q _ _ _=>#[u.slots,k b u q]
 free:=λb u q n _=>by rw[Zl<|bn<|bp (aE q) hp];exact n
 there:=λb u q _=>#[u,k b u q]
 tups:=λb xs q=>by rw[Zl<|ZM q hn];exact q
 frzs:=λb u xs q=>by rw[Zl<|ZM q hn];exact q
 tbls:=λb ps q=>#[#[],by rw[Zl<|ZM q hn,q];simp]
def Un.write(mu:Mut (H x))(he:e=x\/H e=aa (.own x))(k:∀b u,b≠e->h.get? b=aa u->h'.get? b=aa u)(heo:∃u,h'.get? e=aa u):Un fs ex H (upd H x o) h h':=by
 have hx:∀b,H b=ag->b≠x:=λb n z=>by subst z;rw[n]at mu;exact mu
 have hb:∀b,H b=ag->b≠e:=λb n z=>by
  subst z;rcases he with r|r
  .exact hx b n r
  .rw[n]at r;cases r
 have hm:∀b u,H b=aa u->¬Mut (aa u)->b≠x:=λb u q nm z=>by subst z;rw[q]at mu;exact nm mu
 refine#[λb u q n _ _=>k b u (hb b n) q,λb u q n _ _=>#[u.slots,k b u (hb b n) q],λb u q n _=>by rw[Zl<|hx b n];exact n,λb u q _=>?_,
  λb xs q=>by rw[Zl<|hm b _ q λz=>z];exact q,λb u xs q=>by rw[Zl<|hm b _ q λz=>z];exact q,λb ps q=>#[#[],by rw[Zl<|hm b _ q λz=>z,q];simp]]
 by_cases hbe:b=e
 .subst hbe;exact heo
 .exact#[u,k b u hbe q]
noncomputable def trk(h:ck)(H:Hp):List aL:=(az h.objs.size).filter λa=>(H a).isSome
noncomputable def Jt(h:ck)(H:Hp):ck:=PySem.W.hideAll h<|trk h H
def wd(h:ck)(H:Hp):(Jt h H).objs.size=h.objs.size:=PySem.W.hideAll_size _ _
def uQ(e:h.get? b=aa o)(n:H b=ag):(Jt h H).get? b=aa o:=
 PySem.W.hideAll_get _ e λhm=>by
  have q:=(bX.mp hm).2;rw[n]at q;simp at q
def jx(e:(Jt h H).get? b=aa o):h.get? b=aa o/\H b=ag:=by
 have e':=PySem.W.of_hideAll (trk h H) e;refine#[e',?_];cases q:H b with
 |none=>rfl
 |some x=>
  have hm:b∈trk h H:=bX.mpr #[aP.mpr<|aE e',by simp[q]]
  have z:(Jt h H).get? b=ag:=PySem.W.hideAll_none (trk h H) hm;rw[z]at e;cases e
structure Mod(K:ao)(mg:bB->Option ap)(base:ck):Prop where
 kin:K.In base
 glob:base.Ns cG mg
 blt:∃mb,base.Ns md mb/\∀x:bB,x≠"__name__"->mb x=db x
 nolimit:base.NoLimit
structure Cx where
 prog:bG
 w:b0
 K:ao
 mg:bB->Option ap
 base:ck
 A:cZ
 N:List bB
 s₀:ax
 H₀:Hp
 env:Env
 outer:List Env
 stack:List Env
 ex:List aL
 fn:bB->Bool
 calm:Bool
 pn:List (aL×fw)
 xe:ap->ax->Prop
noncomputable def frs(l:List Env):List aL:=l.filterMap (·.frame)
noncomputable abbrev Cx.fs(X:Cx):List aL:=frs X.outer
def Vis(sc:eL)(x:bB):Prop:=sc.names.lookup x=aa .local\/sc.names.lookup x=aa .cell\/sc.names.lookup x=aa .free
def Loc(sc:eL)(x:bB):Prop:=sc.names.lookup x=aa .local\/sc.names.lookup x=aa .cell
def Look(env:Env)(h:ck)(m:bB->Option ap)(x:bB)(u:ap):Prop:=
 (env.kindOf x=aa .local/\m x=aa u)\/((env.kindOf x=aa .cell\/env.kindOf x=aa .free)/\∃c,env.cells.lookup x=aa c/\h.IsCell c (aa u))
structure Cx.Ok(X:Cx):Prop where
 mod:Mod X.K X.mg X.base
 kind:X.env.scope.kind=.function
 glob:X.env.globals=cG
 blt:X.env.builtins=md
 above:X.s₀.heap.objs.size<=X.env.locals
 inj:∀x y c,X.env.cells.lookup x=aa c->X.env.cells.lookup y=aa c->x=y
 has:∀x,(X.env.kindOf x=aa .cell\/X.env.kindOf x=aa .free)->∃c,X.env.cells.lookup x=aa c
 cab:∀x c,X.fn x=ai->X.env.cells.lookup x=aa c->X.s₀.heap.objs.size<=c
 hd:X.calm=ai->X.A.handled=ag
 frames:X.A.frames=aa X.stack
 stk:X.stack=X.outer\/(X.stack=X.env::X.outer/\X.env.frame=aa X.env.locals)
 exf:∀b∈X.ex,b≠X.env.locals/\∀x c,X.env.cells.lookup x=aa c->c≠b
 bs:∀b o,X.base.get? b=aa o->X.s₀.heap.get? b=aa o/\X.H₀ b=ag
 bsz:X.base.objs.size<=X.s₀.heap.objs.size
 noex:∀b o,X.base.get? b=aa o->b∉X.ex
 exfs:∀b∈X.ex,b∉X.fs
 funs:X.s₀.heap.FunFrames X.base X.outer
 frf:∀b∈X.fs,X.H₀ b=ag
structure Inv(X:Cx)(pq:List (aL×fw))(Z:List (Option V))(H:Hp)(s:ax):Prop where
 ok:X.Ok
 os:s.os=X.s₀.os
 bare:iQ s.gens
 base:Un X.fs X.ex X.H₀ H X.s₀.heap s.heap
 loc:∃m,s.heap.Ns X.env.locals m/\∀(i:Nat)(x:bB)(v:V),X.N[i]?=aa x->Z[i]?=aa (aa v)->Vis X.env.scope x->∃u,Zx v u/\Look X.env s.heap m x u
 cell:∀x c,X.env.cells.lookup x=aa c->∃v,s.heap.IsCell c v
 free:H X.env.locals=ag
 freeC:∀x c,X.env.cells.lookup x=aa c->H c=ag
 pin:∀p∈X.pn++pq,s.heap.get? p.1=aa p.2/\H p.1=ag/\p.1≠X.env.locals/\p.1∉X.fs/\∀v,p.2.data≠.cell v
 hok:HOk X.prog X.w H s.heap
 len:Z.length=X.N.length
section
variable{X:Cx}{pq:List (aL×fw)}{Z:List (Option V)}{H H':Hp}{s:ax}{h':ck}
def Cx.Ok.nofr(ok:X.Ok)(e:X.base.get? b=aa o):b∉X.fs:=λhb=>by
 have:=(ok.funs.mem hb).1;rw[e]at this;cases this
theorem Inv.bs(I:Inv X pq Z H s):∀b o,X.base.get? b=aa o->s.heap.get? b=aa o/\H b=ag:=λb o e=>
 #[I.base.keep b o (I.ok.bs b o e).1 (I.ok.bs b o e).2 (I.ok.nofr e)<|I.ok.noex b o e,I.base.free b o (I.ok.bs b o e).1 (I.ok.bs b o e).2<|I.ok.noex b o e]
def Inv.bk(I:Inv X pq Z H s):∀b o,X.base.get? b=aa o->s.heap.get? b=aa o:=λb o e=>(I.bs b o e).1
theorem Inv.mod(I:Inv X pq Z H s):Mod X.K X.mg X.base:=I.ok.mod
def Inv.kIn(I:Inv X pq Z H s):X.K.In s.heap:=I.ok.mod.kin.keeps I.bk
theorem Inv.lt(I:Inv X pq Z H s):X.env.locals<s.heap.objs.size:=let #[_,hn,_]:=I.loc;hn.lt
def Inv.sz(I:Inv X pq Z H s):X.s₀.heap.objs.size<=s.heap.objs.size:=cp I.ok.above<|gg I.lt
def Inv.nofs(I:Inv X pq Z H s)(h:s.heap.objs.size<=a):a∉X.fs:=λhb=>by
 obtain⟨_,o,ho,_⟩:=I.ok.funs.mem hb;exact T7 (bp (aE ho)<|cp I.sz h)<|br _
def Inv.cne(I:Inv X pq Z H s):∀x c,X.env.cells.lookup x=aa c->c≠X.env.locals:=λx c e z=>by
 obtain⟨v,o,ho,hd⟩:=I.cell x c e;obtain⟨m,⟨o',es,ep,ho',hd',_⟩,_⟩:=I.loc;rw[z,ho']at ho;cases ho;rw[hd']at hd;cases hd
theorem Inv.funs(I:Inv X pq Z H s):s.heap.FunFrames X.base X.outer:=by
 have all:∀(l:List Env),(∀b∈frs l,b∈X.fs)->X.s₀.heap.FunFrames X.base l->s.heap.FunFrames X.base l:=by
  intro l
  induction l with
  |nil=>intro _ _;trivial
  |cons env r ih=>
   intro hs hl;obtain⟨hk,⟨L,o,hf,hn,ho,hd⟩,hr⟩:=hl;have hL:=hs L (by unfold frs;rw[hV,hf];exact al)
   obtain⟨sl,e⟩:=I.base.slot L o ho (I.ok.frf L hL) hL λz=>I.ok.exfs L z hL
   exact#[hk,#[L,_,hf,hn,e,hd],ih (λb hb=>hs b<|by unfold frs;rw[hV,hf];exact aj _ hb) hr]
 exact all X.outer (λ_ hb=>hb) I.ok.funs
theorem Inv.stack(I:Inv X pq Z H s):s.heap.FunFrames X.base X.stack:=by
 rcases I.ok.stk with e|⟨e,hf⟩
 .rw[e];exact I.funs
 .rw[e]
  obtain⟨m,hn,_⟩:=I.loc;refine .cons (by rw[I.ok.kind];decide) hf hn ?_ I.funs
  exact ck.get?_none_of_le<|cp I.ok.bsz I.ok.above
def Inv.stkSub(I:Inv X pq Z H s):∀b∈frs X.stack,b∈X.env.locals::X.fs:=λb hb=>by
 rcases I.ok.stk with e|⟨e,hf⟩
 .rw[e]at hb;exact aj _ hb
 .rw[e]at hb
  unfold frs at hb;rw[hV,hf]at hb;exact hb
def Inv.stkFree(I:Inv X pq Z H s):∀b∈frs X.stack,H b=ag:=λb hb=>by
 rcases aB.mp (I.stkSub b hb)with e|hb
 .rw[e];exact I.free
 .obtain⟨_,o,ho,_⟩:=I.ok.funs.mem hb
  exact I.base.free b o ho (I.ok.frf b hb) λz=>I.ok.exfs b z hb
def Inv.step{g':Array GenState}{t':Nat}{d':Drawn}{ch:List aL}(I:Inv X pq Z H s)
  (hch:∀b∈ch,(b∈X.ex\/X.s₀.heap.objs.size<=b)/\b≠X.env.locals/\(∀x c,X.env.cells.lookup x=aa c->c≠b)/\∀p∈X.pn++pq,p.1≠b)
  (keep:∀b o,b≠X.env.locals->b∉X.fs->b∉ch->s.heap.get? b=aa o->H b=ag->h'.get? b=aa o)
  (slot:∀b o,b≠X.env.locals->b∈X.fs->b∉ch->s.heap.get? b=aa o->H b=ag->∃sl,h'.get? b=aa {o with slots:=sl})(free:∀b o,b∉ch->s.heap.get? b=aa o->H b=ag->H' b=ag)
  (there:∀b o,b∉ch->s.heap.get? b=aa o->∃o',h'.get? b=aa o')
  (tups:∀b xs,H b=aa (.tup xs)->H' b=aa (.tup xs))(frzs:∀b o u,H b=aa (.frz o u)->H' b=aa (.frz o u))(tbls:∀b ps,H b=aa (.tbl ps)->∃more,H' b=aa (.tbl<|ps++more))
  (ns:∀m,s.heap.Ns X.env.locals m->h'.Ns X.env.locals m)(hok:HOk X.prog X.w H' h')(hg:iQ g') :
  Inv X pq Z H' {s with heap:=h',gens:=g',drawn:=d',toks:=t' }:=by
 have neL:∀b o,X.s₀.heap.get? b=aa o->b≠X.env.locals:=λb o e=>bn<|bp (aE e) I.ok.above
 have neC:∀b o,X.s₀.heap.get? b=aa o->b∉X.ex->b∉ch:=λb o e hx hb=>by
  rcases(hch b hb).1 with z|z
  .exact hx z
  .exact T7 (bp (aE e) z)<|br _
 have cellK:∀x c,X.env.cells.lookup x=aa c->∀v,s.heap.IsCell c v->h'.IsCell c v:=by
  rintro x c e v ⟨o,ho,hd⟩;have nch:=λz=>(hch c z).2.2.1 x c e rfl
  by_cases hc:c∈X.fs
  .obtain⟨sl,q⟩:=slot c o (I.cne x c e) hc nch ho (I.freeC x c e)
   exact#[_,q,hd]
  .exact#[o,keep c o (I.cne x c e) hc nch ho<|I.freeC x c e,hd]
 refine#[I.ok,I.os,hg,#[λb o e n hb hx=>?_,λb o e n hb hx=>?_,λb o e n hx=>?_,λb o e hx=>?_,λb xs e=>tups b xs<|I.base.tups b xs e,λb o xs e=>frzs b o xs<|I.base.frzs b o xs e,λb ps e=>?_],?_,λx c e=>?_,?_,λx c e=>?_,λp hp=>?_,hok,I.len]
 .exact keep b o (neL b o e) hb (neC b o e hx) (I.base.keep b o e n hb hx)<|I.base.free b o e n hx
 .obtain⟨sl,e1⟩:=I.base.slot b o e n hb hx
  obtain⟨sl',e2⟩:=slot b _ (neL b o e) hb (neC b o e hx) e1<|I.base.free b o e n hx;exact#[sl',e2]
 .obtain⟨o',e1⟩:=I.base.there b o e hx
  exact free b o' (neC b o e hx) e1<|I.base.free b o e n hx
 .obtain⟨o',e1⟩:=I.base.there b o e hx
  exact there b o' (neC b o e hx) e1
 .obtain⟨m1,e1⟩:=I.base.tbls b ps e
  obtain⟨m2,e2⟩:=tbls b _ e1;exact#[m1++m2,by rw[e2,Array.append_assoc]]
 .obtain⟨m,hn,hl⟩:=I.loc
  refine#[m,ns m hn,λi x v e1 e2 e3=>?_]
  obtain⟨u,r,l⟩:=hl i x v e1 e2 e3;refine#[u,r,?_];rcases l with l|⟨k,c,e,z⟩
  .exact .inl l
  .exact .inr #[k,c,e,cellK x c e _ z]
 .obtain⟨v,z⟩:=I.cell x c e
  exact#[v,cellK x c e v z]
 .obtain⟨m,⟨o,_,_,ho,_⟩,_⟩:=I.loc
  exact free _ o (λz=>(hch _ z).2.1 rfl) ho I.free
 .obtain⟨v,o,ho,hd⟩:=I.cell x c e
  exact free c o (λz=>(hch c z).2.2.1 x c e rfl) ho<|I.freeC x c e
 .obtain⟨e,n,ne,nf,d⟩:=I.pin p hp
  have nch:=λz=>(hch p.1 z).2.2.2 p hp rfl
  exact#[keep p.1 p.2 ne nf nch e n,free p.1 p.2 nch e n,ne,nf,d]
def Inv.un{t':Nat}(I:Inv X pq Z H s)(u:Un X.fs [] H H' s.heap h')(hok:HOk X.prog X.w H' h'):Inv X pq Z H' {s with heap:=h',toks:=t' }:=by
 obtain⟨m,⟨o,es,ep,ho,r⟩,_⟩:=id I.loc;obtain⟨sl,hL⟩:=u.any ho I.free (by simp)
 exact I.step (g':=s.gens) (d':=s.drawn) (ch:=[]) (λ_ z=>nomatch z) (λb o _ hb _ e n=>u.keep b o e n hb<|by simp) (λb o _ hb _ e n=>u.slot b o e n hb<|by simp) (λb o _ e n=>u.free b o e n<|by simp) (λb o _ e=>u.there b o e<|by simp) u.tups u.frzs u.tbls (λm' hm=>by
  obtain⟨o',es',ep',ho',r'⟩:=hm;rw[ho]at ho';cases ho';exact#[_,es',ep',hL,r']) hok I.bare
def Inv.call{g':Array GenState}{t':Nat}{d':Drawn}{ch:List aL}(I:Inv X pq Z H s)(u:Un (frs X.stack) ch H H' s.heap h')(hok:HOk X.prog X.w H' h')(hg:iQ g')
  (hch:∀b∈ch,(b∈X.ex\/X.s₀.heap.objs.size<=b)/\b≠X.env.locals/\(∀x c,X.env.cells.lookup x=aa c->c≠b)/\∀p∈X.pn++pq,p.1≠b) :
  Inv X pq Z H' {s with heap:=h',gens:=g',drawn:=d',toks:=t' }:=by
 obtain⟨m,⟨o,es,ep,ho,r⟩,_⟩:=id I.loc;obtain⟨sl,hL⟩:=u.any ho I.free λz=>(hch _ z).2.1 rfl
 exact I.step hch (λb o hL hb hc e n=>u.keep b o e n (λz=>(aB.mp<|I.stkSub b z).elim hL hb) hc) (λb o _ _ hc e n=>u.any e n hc) (λb o hc e n=>u.free b o e n hc) (λb o hc e=>u.there b o e hc) u.tups u.frzs u.tbls (λm' hm=>by
  obtain⟨o',es',ep',ho',r'⟩:=hm;rw[ho]at ho';cases ho';exact#[_,es',ep',hL,r']) hok hg
def Inv.turned{t':Nat}{it:aL}(I:Inv X pq Z H s)(k:∀b o,b≠it->s.heap.get? b=aa o->h'.get? b=aa o)(hn:H it=ag)(hL:it≠X.env.locals)
  (h1:it∈X.ex\/X.s₀.heap.objs.size<=it)(h2:∀x c,X.env.cells.lookup x=aa c->c≠it)(h3:∀p∈X.pn++pq,p.1≠it):Inv X pq Z H {s with heap:=h',toks:=t' }:=by
 have nit:∀b u,H b=aa u->b≠it:=λb u e z=>by rw[z,hn]at e;cases e
 refine I.step (g':=s.gens) (d':=s.drawn) (ch:=[it]) (λb hb=>?_) (λb o _ _ hc e _=>k b o (λz=>hc<|by simp[z]) e) (λb o _ _ hc e _=>#[o.slots,k b o (λz=>hc<|by simp[z]) e]) (λ_ _ _ _ n=>n)
  (λb o hc e=>#[o,k b o (λz=>hc<|by simp[z]) e]) (λ_ _ e=>e) (λ_ _ _ e=>e) (λb ps e=>#[#[],by rw[e];simp]) (λm hm=>?_) (λb u e=>?_) I.bare
 .have e:b=it:=by simpa using hb
  subst e;exact#[h1,hL,h2,h3]
 .obtain⟨o,es,ep,ho,r⟩:=hm
  exact#[o,es,ep,k _ o (Ne.symm hL) ho,r]
 .refine(I.hok b u e).stay (λc v hc q=>k c v ?_ q) (λ_ q=>q) λ_ _ q=>q
  rcases hc with z|z
  .rw[z];exact nit b u e
  .exact nit c _ z
def Inv.tok(I:Inv X pq Z H s)(t:Nat):Inv X pq Z H {s with toks:=t}:=I.un (h':=s.heap) (t':=t) Un.refl I.hok
theorem Inv.kept(I:Inv X pq Z H s)(k:∀b u,s.heap.get? b=aa u->h'.get? b=aa u):Inv X pq Z H {s with heap:=h',toks:=t' }:=I.un (Un.kept k)<|I.hok.kept k
theorem Inv.laid(I:Inv X pq Z H s)(k:∀b u,s.heap.get? b=aa u->h'.get? b=aa u)(hp:s.heap.objs.size<=a)(new:Ym X.prog X.w (upd H a o) h' a o) :
  Inv X pq Z (upd H a o) {s with heap:=h',toks:=t' }:=I.un (Un.laid k hp<|I.hok.fresh hp)<|I.hok.laid k hp new
theorem Inv.write(I:Inv X pq Z H s)(mu:Mut (H x))(he:e=x\/H e=aa (.own x))(k:∀b u,b≠e->s.heap.get? b=aa u->h'.get? b=aa u)(heo:∃u,h'.get? e=aa u)
  (new:Ym X.prog X.w (upd H x o) h' x o):Inv X pq Z (upd H x o) {s with heap:=h',toks:=t' }:=I.un (Un.write mu he k heo)<|I.hok.write mu he k heo new
def Inv.pins_of(I:Inv X pq Z H s)(h:∀p∈pins',s.heap.get? p.1=aa p.2/\H p.1=ag/\p.1≠X.env.locals/\p.1∉X.fs/\∀v,p.2.data≠.cell v):Inv X pins' Z H s:=
 #[I.ok,I.os,I.bare,I.base,I.loc,I.cell,I.free,I.freeC,λp hp=>(cV.mp hp).elim (λz=>I.pin p<|dG _ z)<|h p,I.hok,I.len]
def Ga{N:List bB}(hN:N.Nodup){i j:Nat}{x:bB}(a:N[i]?=aa x)(b:N[j]?=aa x):i=j:=by
 obtain⟨h1,e1⟩:=aU.mp a;obtain⟨h2,e2⟩:=aU.mp b;exact(List.getElem_inj hN).mp<|e1.trans e2.symm
def W8{M:Model}{A:cZ}{E:ap->ax->Prop}{i:Nat}{x:bB}{v:V}{u:ap}{Q:Unit->ax->Prop}(I:Inv X pq Z H s)(hN:X.N.Nodup)(hi:X.N[i]?=aa x)(hx:Loc X.env.scope x)(r:Zx v u)
  (h:∀s',Inv X pq (Z.set i<|aa v) H s'->(∃a,dN a s.heap s'.heap/\(a=X.env.locals\/X.env.cells.lookup x=aa a))->Q () s')(hf:X.fn x=ai\/X.env.scope.names.lookup x=aa .local:=by first|exact .inl rfl|exact .inr rfl|assumption):aX M A (storeName X.env x u) Q E s:=by
 obtain⟨m,hn,hl⟩:=id I.loc;have hcls:(X.env.scope.kind == .class||(X.env.scope.kind == .module&&X.env.locals != X.env.globals))=am:=by rw[I.ok.kind];rfl
 have hiσ:i<Z.length:=by rw[I.len];exact(aU.mp hi).1
 have cne:=I.cne;have tracked:∀{a:aL}{h':ck},(∃o,s.heap.get? a=aa o/\H a=ag)->dN a s.heap h'->HOk X.prog X.w H h':=λ{a h'} ha hs b ob e=>by
  obtain⟨_,_,hfree⟩:=ha;refine(I.hok b ob e).stay (λc w' hc q=>(hs.2 c ?_).trans q) (λ_ q=>q) λ_ _ q=>q
  rintro rfl
  rcases hc with rfl|hc
  .rw[hfree]at e;cases e
  .rw[hfree]at hc;cases hc
 rcases hx with hk|hk
 .refine wpAny_storeName_local hk hn (λh' hn' hs=>?_) hcls
  obtain⟨oL,_,_,hoL,_⟩:=id hn;refine h _ #[I.ok,I.os,I.bare,#[λb o e n hb hx=>?_,λb o e n hb hx=>?_,I.base.free,λb o e hx=>?_,I.base.tups,I.base.frzs,I.base.tbls],#[_,hn',λj y v' e1 e2 e3=>?_],λy c e=>?_,I.free,I.freeC,λp hp=>?_,tracked #[oL,hoL,I.free] hs,by simpa using I.len] #[_,hs,.inl rfl]
  .exact(hs.2 b<|bn<|bp (aE e) I.ok.above).trans<|I.base.keep b o e n hb hx
  .obtain⟨sl,e1⟩:=I.base.slot b o e n hb hx
   exact#[sl,(hs.2 b<|bn<|bp (aE e) I.ok.above).trans e1]
  .obtain⟨o',e1⟩:=I.base.there b o e hx
   exact#[o',(hs.2 b<|bn<|bp (aE e) I.ok.above).trans e1]
  .by_cases hj:j=i
   .subst hj
    rw[hi]at e1;cases e1;rw[bU hiσ]at e2;cases e2;exact#[u,r,.inl #[hk,by simp]]
   .rw[bo<|Ne.symm hj]at e2
    obtain⟨u',r',q⟩:=hl j y v' e1 e2 e3;refine#[u',r',?_];rcases q with⟨k,e⟩|⟨k,c,e,z⟩
    .refine .inl #[k,?_]
     have:y≠x:=λe=>hj<|Ga hN e1<|e▸hi
     simp[this,e]
    .exact .inr #[k,c,e,z.sameBut hs<|cne y c e]
  .obtain⟨w',z⟩:=I.cell y c e
   exact#[w',z.sameBut hs<|cne y c e]
  .obtain⟨e,n,ne,nf,d⟩:=I.pin p hp
   exact#[(hs.2 p.1 ne).trans e,n,ne,nf,d]
 .have hfn:X.fn x=ai:=by
   rcases hf with z|z
   .exact z
   .rw[z]at hk;cases hk
  obtain⟨c,hc⟩:=I.ok.has x<|.inl hk;obtain⟨w',z⟩:=I.cell x c hc;refine wpAny_storeName_cell I.ok.kind hk hc z λh' hc' hs=>?_
  obtain⟨oc,hoc,hocd⟩:=id z;refine h {s with heap:=h' } #[I.ok,I.os,I.bare,#[λb o e n hb hx=>?_,λb o e n hb hx=>?_,I.base.free,λb o e hx=>?_,I.base.tups,I.base.frzs,I.base.tbls],#[m,hn.sameBut hs<|Ne.symm<|cne x c hc,λj y v' e1 e2 e3=>?_],λy c' e=>?_,I.free,I.freeC,λp hp=>?_,tracked #[oc,hoc,I.freeC x c hc] hs,by simpa using I.len] #[c,hs,.inr hc]
  .exact(hs.2 b<|bn<|bp (aE e)<|I.ok.cab x c hfn hc).trans<|I.base.keep b o e n hb hx
  .obtain⟨sl,e1⟩:=I.base.slot b o e n hb hx
   exact#[sl,(hs.2 b<|bn<|bp (aE e)<|I.ok.cab x c hfn hc).trans e1]
  .obtain⟨o',e1⟩:=I.base.there b o e hx
   exact#[o',(hs.2 b<|bn<|bp (aE e)<|I.ok.cab x c hfn hc).trans e1]
  .by_cases hj:j=i
   .subst hj
    rw[hi]at e1;cases e1;rw[bU hiσ]at e2;cases e2;exact#[u,r,.inr #[.inl hk,c,hc,hc']]
   .rw[bo<|Ne.symm hj]at e2
    obtain⟨u',r',q⟩:=hl j y v' e1 e2 e3;refine#[u',r',?_];rcases q with q|⟨k,c',e,z'⟩
    .exact .inl q
    .refine .inr #[k,c',e,z'.sameBut hs ?_]
     rintro rfl
     exact hj<|Ga hN e1<|I.ok.inj _ _ _ e hc▸hi
  .by_cases hcc:c'=c
   .subst hcc;exact#[_,hc']
   .obtain⟨w2,z2⟩:=I.cell y c' e
    exact#[w2,z2.sameBut hs hcc]
  .obtain⟨e,n,ne,nf,d⟩:=I.pin p hp
   refine#[(hs.2 p.1 ?_).trans e,n,ne,nf,d];intro q;rw[q,hoc]at e;have q':=ak e;exact d w' (by rw[<-q'];exact hocd)
def qo{E:ap->ax->Prop}{Q:Unit->ax->Prop}(I:Inv X pq Z H s)(hN:X.N.Nodup)(hi:X.N[i]?=aa x)(hx:Loc X.env.scope x)(r:Zx v u)
  (h:∀s',Inv X pq (Z.set i<|aa v) H s'->Q () s')(hf:X.fn x=ai\/X.env.scope.names.lookup x=aa .local:=by first|exact .inl rfl|exact .inr rfl|assumption):aX M A (storeName X.env x u) Q E s:=
 W8 I hN hi hx r (λs' I' _=>h s' I') hf
def Inv.call'(I:Inv X pq Z H s)(ho:s'.os=s.os)(u:Un (frs X.stack) ch H H' s.heap s'.heap)(hok:HOk X.prog X.w H' s'.heap)(hg:iQ s'.gens)
  (hch:∀b∈ch,(b∈X.ex\/X.s₀.heap.objs.size<=b)/\b≠X.env.locals/\(∀x c,X.env.cells.lookup x=aa c->c≠b)/\∀p∈X.pn++pq,p.1≠b):Inv X pq Z H' s':=by
 obtain⟨h',g',d',t',o'⟩:=s';have e:=ho;subst e;exact I.call (g':=g') (t':=t') (d':=d') u hok hg hch
end
abbrev XK:=ap->Option aL->Hp->Prop
abbrev St:=List<|Option V
abbrev VK:=V->Hp->Prop
abbrev TE:=St->Hp->VK->Prop
abbrev TT:=St->Hp->(Bool->Hp->Prop)->Prop
abbrev TA:=St->Hp->(List V->Hp->Prop)->Prop
structure Ends where
 nx:St->Hp->Prop
 rt:VK
 bk:St->Hp->Prop:=λ_ _=>False
 ct:St->Hp->Prop:=λ_ _=>False
abbrev TS:=Ends->St->Hp->Prop
def EP(X:Cx)(pq:List (aL×fw))(Z:St)(Q:VK)(u:ap)(s':ax):Prop:=∃v H',Inv X pq Z H' s'/\Zx v u/\Q v H'
def TP(X:Cx)(pq:List (aL×fw))(Z:St)(Q:Bool->Hp->Prop)(b:Bool)(s':ax):Prop:=∃H',Inv X pq Z H' s'/\Q b H'
def AP(X:Cx)(pq:List (aL×fw))(Z:St)(Q:List V->Hp->Prop)(us:List ap)(s':ax):Prop:=∃vs H',Inv X pq Z H' s'/\Vals vs us/\Q vs H'
def SP(X:Cx)(pq:List (aL×fw))(D:Ends)(f:Flow)(s':ax):Prop:=
 match f with
 |.next=>∃σ' H',Inv X pq σ' H' s'/\D.nx σ' H'
 |.brk=>∃σ' H',Inv X pq σ' H' s'/\D.bk σ' H'
 |.cont=>∃σ' H',Inv X pq σ' H' s'/\D.ct σ' H'
 |.ret u=>∃v σ' H',Inv X pq σ' H' s'/\Zx v u/\D.rt v H'
def PE(X:Cx)(e:Expr)(t:TE):Prop:=
 ∀(pq:List (aL×fw))(s:ax)(Z:St)(H:Hp)(Q:VK),Inv X pq Z H s->t Z H Q->aX (aS X.prog X.w) X.A (cD e X.env) (EP X pq Z Q) X.xe s
def PT(X:Cx)(e:Expr)(t:TT):Prop:=
 ∀(pq:List (aL×fw))(s:ax)(Z:St)(H:Hp)(Q:Bool->Hp->Prop),Inv X pq Z H s->t Z H Q->aX (aS X.prog X.w) X.A (isTrue e X.env<|cD e X.env) (TP X pq Z Q) X.xe s
def PW(X:Cx)(e:Expr)(t:TT):Prop:=
 ∀(whole:nP ap)(pq:List (aL×fw))(s:ax)(Z:St)(H:Hp)(Q:Bool->Hp->Prop),Inv X pq Z H s->t Z H Q->aX (aS X.prog X.w) X.A (isTrue e X.env whole) (TP X pq Z Q) X.xe s
def PW.pt(h:PW X e t):PT X e t:=h _
def PA(X:Cx)(es:List Expr)(t:TA):Prop:=
 ∀(pos:gW)(pq:List (aL×fw))(s:ax)(Z:St)(H:Hp)(Q:List V->Hp->Prop),Inv X pq Z H s->t Z H Q->aX (aS X.prog X.w) X.A (spliced<|dW pos<|aH es X.env) (AP X pq Z Q) X.xe s
def PS(X:Cx)(st:fK)(t:TS):Prop:=
 ∀(pq:List (aL×fw))(s:ax)(Z:St)(H:Hp)(D:Ends),Inv X pq Z H s->t D Z H->aX (aS X.prog X.w) X.A (exec st X.env) (SP X pq D) X.xe s
def PSs(X:Cx)(st:List fK)(t:TS):Prop:=
 ∀(pq:List (aL×fw))(s:ax)(Z:St)(H:Hp)(D:Ends),Inv X pq Z H s->t D Z H->aX (aS X.prog X.w) X.A (execs st X.env) (SP X pq D) X.xe s
def thn{B:Type}{t:nP B}{Q Q':B->ax->Prop}{M:Model}{A:cZ}{E:ap->ax->Prop}{s:ax}(h:aX M A t Q E s)(hQ:∀a s,Q a s->Q' a s):aX M A t Q' E s:=cJ h hQ λ_ _ x=>x
def ZeO(i:Nat):TE:=λZ H Q=>∃v,Z[i]?=aa (aa v)/\Q v H
def tC(v:V):TE:=λ_ H Q=>Q v H
def Wa(hN:X.N[i]?=aa x)(hv:Vis X.env.scope x)(hd:(x == ("__debug__" : bB))=am:=by decide)(hcd:(x == ("__classdict__" : bB))=am:=by decide):PE X (.Name x pos) (ZeO i):=by
 intro pq s Z H Q I h;obtain⟨v,e,h⟩:=h;obtain⟨m,hn,hl⟩:=I.loc;obtain⟨u,r,l⟩:=hl i x v hN e hv;have fin:EP X pq Z Q u s:=#[v,H,I,r,h];rcases l with⟨hk,hm⟩|⟨hk,c,hc,hcell⟩
 .exact oa (wpAny_loadName_local I.ok.kind hk hn hm fin) hd
 .rcases hk with hk|hk
  .exact oa (wpAny_loadName_cell I.ok.kind hk hc hcell fin) hd
  .exact oa (wpAny_loadName_free I.ok.kind hk hc hcell fin hcd) hd
def Jg{i j pos}:PE X (.Constant (.int i) j pos) (tC<|.int i):=λ_ _ _ H _ I h=>wpAny_Constant_int #[.int i,H,I.tok _,#[_,rfl],h]
def ZbE{b j pos}:PE X (.Constant (.bool b) j pos) (tC<|.bl b):=λ_ _ _ H _ I h=>Constant_bool #[.bl b,H,I,rfl,h]
def ZbG{j pos}:PE X (.Constant .none j pos) (tC .non):=λ_ _ _ H _ I h=>Constant_none #[.non,H,I,rfl,h]
def Gl(X:Cx)(x:bB):Prop:=X.env.kindOf x=aa .globalImplicit
def Zao{E:ap->ax->Prop}{Q:ap->ax->Prop}(I:Inv X pq Z H s)(hg:Gl X x)(hm:X.mg x=aa u)(h:Q u s)
  (hd:(x == ("__debug__" : bB))=am:=by decide):aX (aS X.prog X.w) X.A (cD (.Name x pos) X.env) Q E s:=
 Calls.Name_function_global I.ok.kind hg (Calls.loadGlobal_global (by rw[I.ok.glob];exact I.mod.glob.keeps I.bk) hm h) hd
def Xd{E:ap->ax->Prop}{Q:ap->ax->Prop}(I:Inv X pq Z H s)(hg:Gl X x)(hm:X.mg x=ag)(hv:db x=aa u)(h:Q u s)
  (hn:x≠"__name__":=by decide)(hd:(x == ("__debug__" : bB))=am:=by decide):aX (aS X.prog X.w) X.A (cD (.Name x pos) X.env) Q E s:=by
 obtain⟨mb,h1,h2⟩:=I.mod.blt;exact Calls.Name_function_global I.ok.kind hg (Calls.loadGlobal_builtin (by rw[I.ok.glob];exact I.mod.glob.keeps I.bk) hm (by rw[I.ok.blt];exact h1.keeps I.bk) ((h2 x hn).trans hv) h) hd
def Jf(hg:Gl X x)(hm:X.mg x=ag)(hv:db x=aa u)(r:Zx v u)(hn:x≠"__name__":=by decide)(hd:(x == ("__debug__" : bB))=am:=by decide):PE X (.Name x pos) (tC v):=
 λ_ _ _ H _ I h=>Xd I hg hm hv #[v,H,I,r,h] hn hd
def ZeM(t u:TT):TT:=λZ H Q=>t Z H λc H1=>if c=ai then u Z H1 Q else Q am H1
def tOr(t u:TT):TT:=λZ H Q=>t Z H λc H1=>if c=ai then Q ai H1 else u Z H1 Q
def Zep(t:TT):TT:=λZ H Q=>t Z H λc H1=>Q (!c) H1
def Zar(ha:PT X a tA):PW X (.BoolOp .And [a] pos) tA:=by
 intro wh pq s Z H Q I h;refine isTrue_and<|thn (ha pq s Z H Q I h) λc s1 e=>?_
 cases c with|true=>exact isTrue_and_nil e|false=>exact e
def Zcm(ha:PT X a tA):PW X (.BoolOp .Or [a] pos) tA:=by
 intro wh pq s Z H Q I h;refine isTrue_or<|thn (ha pq s Z H Q I h) λc s1 e=>?_
 cases c with|false=>exact isTrue_or_nil e|true=>exact e
def ZcR(ha:PT X a tA)(hb:PW X (.BoolOp .And (b::rest) pos) tB'):PW X (.BoolOp .And (a::b::rest) pos) (ZeM tA tB'):=by
 intro wh pq s Z H Q I h;refine isTrue_and<|thn (ha pq s Z H _ I h) λc s1 #[H1,I1,q1]=>?_
 cases c with|true=>exact hb wh pq s1 Z H1 Q I1 q1|false=>exact#[H1,I1,q1]
def Zd3(ha:PT X a tA)(hb:PW X (.BoolOp .Or (b::rest) pos) tB'):PW X (.BoolOp .Or (a::b::rest) pos) (tOr tA tB'):=by
 intro wh pq s Z H Q I h;refine isTrue_or<|thn (ha pq s Z H _ I h) λc s1 #[H1,I1,q1]=>?_
 cases c with|true=>exact#[H1,I1,q1]|false=>exact hb wh pq s1 Z H1 Q I1 q1
def Zcr(ha:PT X a tA):PT X (.UnaryOp .Not a pos) (Zep tA):=by
 intro pq s Z H Q I h;exact isTrue_not<|ha pq s Z H (λc H1=>Q (!c) H1) I h
def Zd2(ta tb:TE):TE:=λZ H Q=>ta Z H λx H1=>∃c,x=.bl c/\if c=ai then tb Z H1 Q else Q (.bl am) H1
def ZbL{op}{t:TE}(h:PE X a t):PE X (.BoolOp op [a] pos) t:=λpq s Z H Q I hw=>BoolOp_one<|h pq s Z H Q I hw
def Zcc(ha:PE X a ta)(hb:PE X (.BoolOp .And (b::rest) pos) tb):PE X (.BoolOp .And (a::b::rest) pos) (Zd2 ta tb):=by
 intro pq s Z H Q I h;refine BoolOp_and<|thn (ha pq s Z H _ I h) λv s1 #[x,H1,I1,r1,q1]=>?_
 obtain⟨c,rfl,q1⟩:=q1;cases r1;refine fe ?_;cases c with|true=>exact hb pq s1 Z H1 Q I1 q1|false=>exact#[.bl am,H1,I1,rfl,q1]
def SqL(K:ao)(H:Hp)(a:aL)(xs:List V):Prop:=
 Rd H a (.lst xs)\/
  ∃(o:fw)(its:Array ap)(n:Nat),K.lookup a=aa o/\o.cls=.type "list"/\o.dict=ag/\o.data=.seq its n/\its.size<=bi/\Vals xs its.toList
def SqT(K:ao)(H:Hp)(a:aL)(xs:List V):Prop:=
 Rd H a (.tup xs)\/
  ∃(o:fw)(its:Array ap)(n:Nat),K.lookup a=aa o/\o.cls=.type "tuple"/\o.data=.seq its n/\its.size<=bi/\Vals xs its.toList
noncomputable def Zet:ap->Option V
 |.none=>aa .non
 |.bool b=>aa<|.bl b
 |.int i _=>aa<|.int i
 |.str x _=>aa<|.str x
 |.bytes b _=>aa<|.byt b
 |.float b _=>aa<|.flt b
 |.ref a=>aa<|.ref a
 |.type n=>aa<|.ty n
 |_=>ag
def Zx.abs(r:Zx x u):Zet u=aa x:=by
 cases x with|non=>cases r;rfl|bl _=>cases r;rfl|int _=>obtain⟨t,rfl⟩:=r;rfl|str _=>obtain⟨t,rfl⟩:=r;rfl|byt _=>obtain⟨t,rfl⟩:=r;rfl|flt _=>obtain⟨t,rfl⟩:=r;rfl|ref _=>cases r;rfl|ty _=>cases r;rfl
def Zx.inj{x y:V}{u:ap}(r:Zx x u)(q:Zx y u):x=y:=ak<|r.abs.symm.trans q.abs
theorem Vals.inj:∀{xs ys:List V}{us:List ap},Vals xs us->Vals ys us->xs=ys
 |_,_,_,.nil,.nil=>rfl
 |_,_,_,.cons r t,.cons r' t'=>by rw[r.inj r',Vals.inj t t']
def SqL.of{K:ao}(h:H a=aa (.lst xs)):SqL K H a xs:=.inl<|.inl h
def SqT.of{K:ao}(h:H a=aa (.tup xs)):SqT K H a xs:=.inl<|.inl h
def Inv.list(I:Inv X pq Z H s)(h:SqL X.K H a xs):∃its:List ap,Vals xs its/\PlainL s.heap a its.toArray/\xs.length<=bi:=by
 rcases h with h|⟨o,its,n,hk,hc,hd,hs,hz,r⟩
 .obtain⟨z,its,n,r,e⟩:=h.ok I.hok
  exact#[its,r,#[_,n,e,rfl,rfl,rfl],z]
 .refine#[its.toList,r,#[o,n,I.kIn a o hk,hc,hd,by simpa using hs],?_]
  have e:=r.length;simp only[aF]at e;lia
def Inv.tuple(I:Inv X pq Z H s)(h:SqT X.K H a xs):∃its:List ap,Vals xs its/\oY s.heap a its.toArray/\xs.length<=bi:=by
 rcases h with h|⟨o,its,n,hk,hc,hs,hz,r⟩
 .obtain⟨z,its,r,p⟩:=h.ok I.hok
  exact#[its,r,p,z]
 .refine#[its.toList,r,#[o,I.kIn a o hk,hc,n,by simpa using hs],?_]
  have e:=r.length;simp only[aF]at e;lia
def Inv.list_inj(I:Inv X pq Z H s)(h:SqL X.K H a xs)(h':SqL X.K H a ys):xs=ys:=by
 obtain⟨its,r,⟨o,n,e,_,_,d⟩,_⟩:=I.list h;obtain⟨its',r',⟨o',n',e',_,_,d'⟩,_⟩:=I.list h';rw[e]at e';cases e';rw[d]at d';injection d' with d1 _
 have:its=its':=by simpa using congrArg mv d1
 subst this;exact r.inj r'
def Inv.tuple_inj(I:Inv X pq Z H s)(h:SqT X.K H a xs)(h':SqT X.K H a ys):xs=ys:=by
 obtain⟨its,r,⟨o,e,_,n,d⟩,_⟩:=I.tuple h;obtain⟨its',r',⟨o',e',_,n',d'⟩,_⟩:=I.tuple h';rw[e]at e';cases e';rw[d]at d';injection d' with d1 _
 have:its=its':=by simpa using congrArg mv d1
 subst this;exact r.inj r'
noncomputable abbrev Cx.wish(X:Cx)(E:ap->ax->Prop):Cx:={X with xe:=E}
noncomputable abbrev Cx.nox(X:Cx):Cx:=X.wish λ_ _=>False
theorem Cx.Ok.wish{X:Cx}(ok:X.Ok)(E:ap->ax->Prop):(X.wish E).Ok:=
 #[ok.mod,ok.kind,ok.glob,ok.blt,ok.above,ok.inj,ok.has,ok.cab,ok.hd,ok.frames,ok.stk,ok.exf,ok.bs,ok.bsz,ok.noex,ok.exfs,ok.funs,ok.frf]
def Cx.Ok.unwish{X:Cx}{E:ap->ax->Prop}(ok:(X.wish E).Ok):X.Ok:=
 #[ok.mod,ok.kind,ok.glob,ok.blt,ok.above,ok.inj,ok.has,ok.cab,ok.hd,ok.frames,ok.stk,ok.exf,ok.bs,ok.bsz,ok.noex,ok.exfs,ok.funs,ok.frf]
section
variable{X:Cx}{pq:List (aL×fw)}{Z:St}{H:Hp}{s:ax}{E:ap->ax->Prop}
theorem Inv.wish(I:Inv X pq Z H s)(E:ap->ax->Prop):Inv (X.wish E) pq Z H s:=#[I.ok.wish E,I.os,I.bare,I.base,I.loc,I.cell,I.free,I.freeC,I.pin,I.hok,I.len]
theorem Inv.unwish(I:Inv (X.wish E) pq Z H s):Inv X pq Z H s:=#[I.ok.unwish,I.os,I.bare,I.base,I.loc,I.cell,I.free,I.freeC,I.pin,I.hok,I.len]
theorem SP.unwish{D:Ends}{f:Flow}{s':ax}(h:SP (X.wish E) pq D f s'):SP X pq D f s':=by
 cases f with|next=>obtain⟨σ',H',I,q⟩:=h;exact#[σ',H',I.unwish,q]|brk=>obtain⟨σ',H',I,q⟩:=h;exact#[σ',H',I.unwish,q]|cont=>obtain⟨σ',H',I,q⟩:=h;exact#[σ',H',I.unwish,q]|ret u=>obtain⟨v,σ',H',I,r,q⟩:=h;exact#[v,σ',H',I.unwish,r,q]
theorem PSs.nox{st:List fK}{t:TS}(h:PSs X.nox st t):PSs X st t:=λpq s Z H D I hw=>
 cJ (h pq s Z H D (I.wish _) hw) (λ_ _ q=>q.unwish) λ_ _ z=>False.elim z
end
section
variable{X:Cx}{st:fK}{rest:List fK}{t u:TS}{e:Expr}{te:TE}{pos:gW}
def Zef:TS:=λD Z H=>D.nx Z H
def ZeL(t u:TS):TS:=λD Z H=>t {D with nx:=u D} Z H
def ZaI:PSs X [] Zef:=λ_ _ Z H _ I h=>wpAny_execs_nil #[Z,H,I,h]
def JO(h1:PS X st t)(h2:PSs X rest u):PSs X (st::rest) (ZeL t u):=by
 intro pq s Z H D I h;refine wpAny_execs_cons<|thn (h1 pq s Z H {D with nx:=u D} I h) λf s1 q=>?_
 cases f with
 |next=>
  obtain⟨σ',H',I',q⟩:=q;exact h2 pq s1 σ' H' D I' q
 |ret v=>exact q
 |brk=>exact q
 |cont=>exact q
def Inv.quiet(I:Inv X pq Z H s):interactive X.env=am:=by simp[interactive,I.ok.kind]
def Zd9(te:TE):TS:=λD Z H=>te Z H λ_ H1=>D.nx Z H1
def Jo(he:PE X e te)(hs:fD e ag pos.line X.env=c6 am:=by rfl):PS X (.Expr e pos) (Zd9 te):=by
 intro pq s Z H D I h;exact wpAny_Expr_any (thn (he pq s Z H _ I h)<|by rintro v s1 ⟨x,H1,I1,r1,q1⟩;exact #[Z,H1,I1,q1]) I.quiet hs
def ZeQ(te:TE):TS:=λD Z H=>te Z H D.rt
def zJ(he:PE X e te):PS X (.Return (aa e) pos) (ZeQ te):=by
 intro pq s Z H D I h;exact wpAny_Return_some<|thn (he pq s Z H _ I h)<|by rintro v s1 ⟨x,H1,I1,r1,q1⟩;exact #[x,Z,H1,I1,r1,q1]
def Zen(c:TT)(t u:TS):TS:=λD Z H=>c Z H λb H1=>if b=ai then t D Z H1 else u D Z H1
def ZdB{c:Expr}{a b:List fK}{tc:TT}(hc:PT X c tc)(ha:PSs X a t)(hb:PSs X b u):PS X (.If c a b pos) (Zen tc t u):=by
 intro pq s Z H D I h;refine wpAny_If<|thn (hc pq s Z H _ I h) λd s1 #[H1,I1,q1]=>?_
 cases d with|true=>exact ha pq s1 Z H1 D I1 q1|false=>exact hb pq s1 Z H1 D I1 q1
end
abbrev TG:=V->St->Hp->(St->Hp->Prop)->Prop
abbrev TGs:=List V->St->Hp->(St->Hp->Prop)->Prop
def PG(X:Cx)(target:Expr)(t:TG):Prop:=
 ∀(pq:List (aL×fw))(s:ax)(Z:St)(H:Hp)(v:V)(u:ap)(Q:St->Hp->Prop),Inv X pq Z H s->Zx v u->t v Z H Q->
  aX (aS X.prog X.w) X.A (assign target X.env u) (λ_ s'=>∃σ' H',Inv X pq σ' H' s'/\Q σ' H') X.xe s
def PGs(X:Cx)(ts:List Expr)(t:TGs):Prop:=
 ∀(pq:List (aL×fw))(s:ax)(Z:St)(H:Hp)(vs:List V)(us:List ap)(Q:St->Hp->Prop),Inv X pq Z H s->Vals vs us->t vs Z H Q->
  aX (aS X.prog X.w) X.A (assignInOrder ((b7 ts X.env).map (·.2)) us) (λ_ s'=>∃σ' H',Inv X pq σ' H' s'/\Q σ' H') X.xe s
abbrev TSet:=V->V->V->Hp->(Hp->Prop)->Prop
def PSet(X:Cx)(t:TSet):Prop:=
 ∀(pq:List (aL×fw))(s:ax)(Z:St)(H:Hp)(o i v:V)(ov iv u:ap)(Q:Hp->Prop),Inv X pq Z H s->Zx o ov->Zx i iv->Zx v u->t o i v H Q->
  aX (aS X.prog X.w) X.A (oU ov iv u) (λ_ s'=>∃H',Inv X pq Z H' s'/\Q H') X.xe s
section
variable{X:Cx}{pos:gW}
def ZdV(i:Nat):TG:=λv Z H Q=>Q (Z.set i<|aa v) H
def VS(hN:X.N.Nodup)(hi:X.N[i]?=aa x)(hx:Loc X.env.scope x)(hf:X.fn x=ai\/X.env.scope.names.lookup x=aa .local:=by first|exact .inl rfl|exact .inr rfl|assumption):PG X (.Name x pos) (ZdV i):=by
 intro pq s Z H v u Q I r h;exact iR<|qo I hN hi hx r (λs' I'=>#[_,H,I',h]) hf
def ZeF:TGs:=λvs Z H Q=>vs=[]/\Q Z H
def Zdp(t:TG)(u:TGs):TGs:=λvs Z H Q=>∃v r,vs=v::r/\t v Z H λσ' H'=>u r σ' H' Q
def jR:PGs X [] ZeF:=by
 intro pq s Z H vs us Q I r h;obtain⟨e,h⟩:=h;subst e;cases r;exact assignInOrder_nil #[Z,H,I,h]
def uS{e:Expr}{es:List Expr}{t:TG}{u:TGs}(h1:PG X e t)(h2:PGs X es u)
  (hs:(b7 (e::es) X.env).map (·.2)=assign e X.env::(b7 es X.env).map (·.2):=by rfl):PGs X (e::es) (Zdp t u):=by
 intro pq s Z H vs us Q I r h;obtain⟨v,vr,e1,h⟩:=h;subst e1;cases r with
 |cons r rr=>
  rw[hs];refine assignInOrder_cons<|thn (h1 pq s Z H _ _ _ I r h) λ_ s1 #[σ1,H1,I1,q1]=>?_
  exact h2 pq s1 σ1 H1 _ _ Q I1 rr q1
def Zek(K:ao)(n:Nat)(t:TGs):TG:=λv Z H Q=>∃a xs,v=.ref a/\SqT K H a xs/\xs.length=n/\t xs Z H Q
def Zdb(hc:X.calm=ai)(h:PGs X es t)
  (hn:(b7 es X.env).length=n:=by rfl)(hst:(b7 es X.env).findIdx? (·.1)=ag:=by rfl):PG X (.Tuple es k pos) (Zek X.K n t):=by
 intro pq s Z H v u Q I r hw;obtain⟨a,xs,e1,hq,hl,hw⟩:=hw;subst e1;cases r;obtain⟨its,rv,ht,hz⟩:=I.tuple hq;refine assign_Tuple_tuple (I.ok.hd hc) ht (by simp[hn,<-hl,rv.length]) hst λh' hx=>?_
 have I1:=I.kept (t':=s.toks) λb o e=>hx b o (bn<|aE e) e
 exact h pq _ Z H xs _ Q I1 (by simpa using rv) hw
def Zes(to ti:TE)(t:TSet):TG:=λv Z H Q=>to Z H λo H1=>ti Z H1 λi H2=>t o i v H2 λH3=>Q Z H3
def ZcP{o i:Expr}{to ti:TE}{t:TSet}(ho:PE X o to)(hi:PE X i ti)(hs:PSet X t)
  (ha:∀v,assign (.Subscript o i pos) X.env v=(do
   let ov <-gO [v] (cD o X.env)
   let iv <-gO [v,ov] (cD i X.env)
   kB pos
   gO [v,ov,iv] (oU ov iv v)
   release [v,ov,iv] []):=by intro _;rfl):PG X (.Subscript o i pos) (Zes to ti t):=by
 intro pq s Z H v u Q I r h;rw[ha];refine ab<|bH<|thn (ho pq s Z H _ I h) λov s1 #[x,H1,I1,r1,q1]=>?_
 refine ab<|bH<|thn (hi pq s1 Z H1 _ I1 q1) λiv s2 #[y,H2,I2,r2,q2]=>?_
 refine ab<|dP<|ab<|bH<|thn (hs pq s2 Z H2 x y v ov iv u _ I2 r1 r2 r q2) λ_ s3 #[H3,I3,q3]=>?_
 exact wpAny_release #[Z,H3,I3,q3]
def ZeN(te:TE)(g:TG):TS:=λD Z H=>te Z H λx H1=>g x Z H1 D.nx
def Wh{tg e:Expr}{te:TE}{g:TG}(he:PE X e te)(hg:PG X tg g)(hs:dQ [tg] e pos.line X.env=c6 am:=by rfl)(hw:dR [tg] e X.env=c6 ag:=by rfl)
  (h1:(b7 [tg] X.env).map (·.2)=[assign tg X.env]:=by rfl):PS X (.Assign [tg] e pos) (ZeN te g):=by
 intro pq s Z H D I h;refine wpAny_Assign_stores (thn (he pq s Z H _ I h) λv s1 #[x,H1,I1,r1,q1]=>?_) hs hw
 rw[h1];exact thn (hg pq s1 Z H1 x v _ I1 r1 q1) λ_ s2 q=>q
end
structure It where
 go:Nat->Hp->Prop
 yld:Nat->Hp->V->Hp->Prop
 stop:Nat->Hp->Prop
def WL(X:Cx)(pq:List (aL×fw))(H:Hp)(b:aL):Prop:=
 H b=ag/\b≠X.env.locals/\b∉X.fs/\(b∈X.ex\/X.s₀.heap.objs.size<=b)/\(∀x c,X.env.cells.lookup x=aa c->c≠b)/\∀p∈X.pn++pq,p.1≠b
def Inv.fpOk(I:Inv X pq Z H s)(hb:s.heap.objs.size<=b)(hn:H' b=ag):WL X pq H' b:=by
 refine#[hn,fE<|bp I.lt hb,I.nofs hb,.inr<|cp I.sz hb,λx c e z=>?_,λp hp z=>?_]
 .obtain⟨v,q⟩:=I.cell x c e
  exact T7 (bp q.lt<|by rw[z];exact hb)<|br _
 .exact T7 (bp (aE (I.pin p hp).1)<|by rw[z];exact hb)<|br _
structure Turn(P:bG)(w:b0)(K:ao)(tg:Expr)(J:It)(fp:List aL)(it:aL)(tn:Nat->ck->Prop):Prop where
 mem:it∈fp
 obj:∀i h,tn i h->∀b∈fp,∃o,h.get? b=aa o/\∀v,o.data≠.cell v
 keep:∀i h h',tn i h->(∀b∈fp,∀o,h.get? b=aa o->h'.get? b=aa o)->tn i h'
 item:∀(X:Cx),X.prog=P->X.w=w->X.K=K->X.calm=ai->∀(i:Nat)(pq:List (aL×fw))(s:ax)(Z:St)(H:Hp)(E:ap->ax->Prop),Inv X pq Z H s->(∀b∈fp,WL X pq H b)->tn i s.heap->J.go i H->
  aX (aS P w) X.A (iX<|.ref it) (λr s1=>∃u,r=aa u/\
   aX (aS P w) X.A (kO tg (.ref it) u) (λ_ s2=>∃x H',Inv X pq Z H' s2/\Zx x u/\J.yld i H x H'/\tn (i+1) s2.heap/\∀b∈fp,H' b=ag) E s1) E s
 done:∀(X:Cx),X.prog=P->X.w=w->X.K=K->X.calm=ai->∀(i:Nat)(pq:List (aL×fw))(s:ax)(Z:St)(H:Hp)(E:ap->ax->Prop),Inv X pq Z H s->(∀b∈fp,WL X pq H b)->tn i s.heap->J.stop i H->
  aX (aS P w) X.A (iX<|.ref it) (λr s1=>r=ag/\Inv X pq Z H s1) E s
 self:∀(A:cZ)(i:Nat)(s:ax)(Q:ap->ax->Prop)(E:ap->ax->Prop),tn i s.heap->Q (.ref it) s->aX (aS P w) A (ip<|.ref it) Q E s
abbrev TI:=St->Hp->(It->Hp->Prop)->Prop
def PIE(X:Cx)(pq:List (aL×fw))(Z:St)(tg:Expr)(R:It->Hp->Prop)(itv:ap)(s2:ax):Prop:=
 ∃(it:aL)(fp:List aL)(tn:Nat->ck->Prop)(J:It)(H':Hp),itv=.ref it/\Inv X pq Z H' s2/\Turn X.prog X.w X.K tg J fp it tn/\tn 0 s2.heap/\(∀b∈fp,WL X pq H' b)/\R J H'
def PI(X:Cx)(tg iter:Expr)(wi:TI):Prop:=
 ∀(pq:List (aL×fw))(s:ax)(Z:St)(H:Hp)(R:It->Hp->Prop),Inv X pq Z H s->wi Z H R->
  aX (aS X.prog X.w) X.A (cD iter X.env) (λv s1=>aX (aS X.prog X.w) X.A (ip v) (PIE X pq Z tg R) X.xe s1) X.xe s
def um{E:ap->ax->Prop}{Q:Unit->ax->Prop}(ho:s.heap.get? it=aa o)(hc:o.cls=.type n)(hd:o.data=.fields vs)
  (hn:["enumerate","zip","dict_itemiterator","dict_reverseitemiterator","odict_iterator","itertools.zip_longest","itertools.pairwise"].contains n=am)(hQ:Q () s):aX M A (kO tg (.ref it) u) Q E s:=by
 cases tg<;>first
  |exact aq hQ
  |(cases u<;>first
    |exact aq hQ
    |(refine ab (og ho ?_)
      rw[hc,hd];show aX M A (if(["enumerate","zip","dict_itemiterator","dict_reverseitemiterator","odict_iterator","itertools.zip_longest","itertools.pairwise"].contains n&&vs[0]? == aa (fz _))=ai then _ else _) Q E s
      rw[T8 (by intro h;rw[hn,lc]at h;cases h)]
      exact aq hQ))
noncomputable def Itl(K:ao)(a:aL):It:=
 #[λi H=>∃xs x,SqL K H a xs/\xs[i]?=aa x,λi H x H'=>H'=H/\∀xs,SqL K H a xs->xs[i]?=aa x,λi H=>∃xs,SqL K H a xs/\xs.length<=i]
noncomputable def Itt(K:ao)(a:aL):It:=
 #[λi H=>∃xs x,SqT K H a xs/\xs[i]?=aa x,λi H x H'=>H'=H/\∀xs,SqT K H a xs->xs[i]?=aa x,λi H=>∃xs,SqT K H a xs/\xs.length<=i]
noncomputable def Itr(lo:Int)(n:Nat):It:=#[λi _=>i<n,λi H x H'=>H'=H/\x=.int (lo+i),λi _=>n<=i]
def wg{P:bG}{w:b0}{K:ao}{tg:Expr}(a it:aL):Turn P w K tg (Itl K a) [it] it (λi h=>h.IsListIter it a i) where
 mem:=by simp
 obj:=λi h st b hb=>by
  have e:b=it:=by simpa using hb
  subst e;obtain⟨o,e,c,d⟩:=st;exact#[o,e,λv z=>by rw[d]at z;cases z]
 keep:=λi h h' st k=>st.at λo e=>k it (by simp) o e
 item:=by
  intro X hP hw hK hc i pq s Z H E I hf st hg;subst hP hw hK;obtain⟨xs,x,hq,hx⟩:=hg;obtain⟨its,rv,p,hz⟩:=I.list hq;obtain⟨u,hu,ru⟩:=rv.get hx;obtain⟨f0,f1,f2,f3,f4,f5⟩:=hf it (by simp)
  refine kC st p.isList (by simpa using hu) λh' st' sb=>?_
  have I1:=I.turned (t':=s.toks) (λb o hb e=>(sb.2 b hb).trans e) f0 f1 f3 f4 f5
  obtain⟨o,e,c,d⟩:=id st';exact#[u,rfl,um e c d (by decide) #[x,H,I1,ru,#[rfl,λys hy=>by rw[I.list_inj hy hq];exact hx],st',λb hb=>(hf b hb).1]]
 done:=by
  intro X hP hw hK hc i pq s Z H E I hf st hg;subst hP hw hK;obtain⟨xs,hq,hx⟩:=hg;obtain⟨its,rv,p,hz⟩:=I.list hq;obtain⟨f0,f1,f2,f3,f4,f5⟩:=hf it (by simp)
  have hl:=rv.length;exact kY (I.ok.hd hc) st p.isList (by simp;lia) λh' eb=>#[rfl,I.turned (t':=s.toks) (λb o hb e=>eb b o hb e) f0 f1 f3 f4 f5]
 self:=λ_ _ _ _ _ st h=>wpAny_pyIter_listiter st h
def zr{P:bG}{w:b0}{K:ao}{tg:Expr}(a it:aL):Turn P w K tg (Itt K a) [it] it (λi h=>h.IsTupleIter it a i) where
 mem:=by simp
 obj:=λi h st b hb=>by
  have e:b=it:=by simpa using hb
  subst e;obtain⟨o,e,c,d⟩:=st;exact#[o,e,λv z=>by rw[d]at z;cases z]
 keep:=λi h h' st k=>st.at λo e=>k it (by simp) o e
 item:=by
  intro X hP hw hK hc i pq s Z H E I hf st hg;subst hP hw hK;obtain⟨xs,x,hq,hx⟩:=hg;obtain⟨its,rv,p,hz⟩:=I.tuple hq;obtain⟨u,hu,ru⟩:=rv.get hx;obtain⟨f0,f1,f2,f3,f4,f5⟩:=hf it (by simp)
  refine wpAny_pyNext_tuple_item st (p) (by simpa using hu) λh' st' sb=>?_
  have I1:=I.turned (t':=s.toks) (λb o hb e=>(sb.2 b hb).trans e) f0 f1 f3 f4 f5
  obtain⟨o,e,c,d⟩:=id st';exact#[u,rfl,um e c d (by decide) #[x,H,I1,ru,#[rfl,λys hy=>by rw[I.tuple_inj hy hq];exact hx],st',λb hb=>(hf b hb).1]]
 done:=by
  intro X hP hw hK hc i pq s Z H E I hf st hg;subst hP hw hK;obtain⟨xs,hq,hx⟩:=hg;obtain⟨its,rv,p,hz⟩:=I.tuple hq;obtain⟨f0,f1,f2,f3,f4,f5⟩:=hf it (by simp)
  have hl:=rv.length;exact wpAny_pyNext_tuple_end (I.ok.hd hc) st (p) (by simp;lia) λh' eb=>#[rfl,I.turned (t':=s.toks) (λb o hb e=>eb b o hb e) f0 f1 f3 f4 f5]
 self:=λ_ _ _ _ _ st h=>wpAny_pyIter_tupleiter st h
def zO{P:bG}{w:b0}{K:ao}{tg:Expr}(it:aL)(lo:Int)(n:Nat):Turn P w K tg (Itr lo n) [it] it (λi h=>IsRangeIter h it (lo+(i:Nat)*1) ((n:Int)-(i:Nat)) 1) where
 mem:=by simp
 obj:=λi h st b hb=>by
  have e:b=it:=by simpa using hb
  subst e;exact#[_,st,λv z=>by
   have z':=z;cases z']
 keep:=λi h h' st k=>k it (by simp) _ st
 item:=by
  intro X hP hw hK hc i pq s Z H E I hf st hg;subst hP hw hK;obtain⟨f0,f1,f2,f3,f4,f5⟩:=hf it (by simp)
  have W:=Walks.range (prog:=X.prog) (w:=X.w) (I.ok.hd hc) it lo 1 n;refine W.item i s _ _ hg st λv h' tk hv st' kk=>?_
  obtain⟨t,rfl⟩:=hv;have I1:Inv X pq Z H {s with heap:=h',toks:=tk}:=I.turned (λb o hb e=>kk b o (by simpa using hb) e) f0 f1 f3 f4 f5
  refine#[_,rfl,um st' rfl rfl (by decide) #[.int<|lo+i,H,I1,#[t,?_],#[rfl,rfl],st',λb hb=>(hf b hb).1]]
  rw[Int.mul_one]
 done:=by
  intro X hP hw hK hc i pq s Z H E I hf st hg;subst hP hw hK;obtain⟨f0,f1,f2,f3,f4,f5⟩:=hf it (by simp)
  exact wpAny_pyNext_range_end (I.ok.hd hc) st (by have:n<=i:=hg;lia) λh' eb=>#[rfl,I.turned (t':=s.toks) (λb o hb e=>eb b o hb e) f0 f1 f3 f4 f5]
 self:=λ_ _ _ _ _ st h=>wpAny_pyIter_rangeiter st h
section
variable{X:Cx}{tg:Expr}
theorem J8{pq:List (aL×fw)}{Z:St}{H:Hp}{s:ax}{R:It->Hp->Prop}{E:ap->ax->Prop}{lo hi:Int}{t u v:Tok}{tk:Nat}(I:Inv X pq Z H s)(h1:-(2^62)<=lo)(h2:lo<2^62)(h3:-(2^62)<=hi)(h4:hi<2^62)
  (q:R (Itr lo (hi-lo).toNat) H):aX (aS X.prog X.w) X.A (ip<|.ref s.heap.objs.size) (PIE X pq Z tg R) E {s with heap:=s.heap.push {cls:=.type "range",data:=.fields [.int lo t,.int hi u,.int 1 v].toArray},toks:=tk}:=by
 refine wpAny_pyIter_range (IsRange.new ..) (small_one h1 h2 h3 h4) ?_;have I1:Inv X pq Z H {s with heap:=s.heap.push {cls:=.type "range",data:=.fields [.int lo t,.int hi u,.int 1 v].toArray},toks:=tk}:=I.kept λb o e=>au _ e
 refine#[(s.heap.push {cls:=.type "range",data:=.fields [.int lo t,.int hi u,.int 1 v].toArray}).objs.size,[(s.heap.push {cls:=.type "range",data:=.fields [.int lo t,.int hi u,.int 1 v].toArray}).objs.size],_,_,H,rfl,
  I1.kept (t':=tk) λb o e=>au _ e,zO _ lo (hi-lo).toNat,?_,λb hb=>?_,q]
 .have e1:lo+((0:Nat):Int)*1=lo:=by simp
  have e2:(((hi-lo).toNat:Nat):Int)-((0:Nat):Int)=dr.Range.rangeSize lo hi 1:=by rw[rangeSize_one];split<;>lia
  rw[e1,e2];exact aG _ rfl
 .have e:b=(s.heap.push {cls:=.type "range",data:=.fields [.int lo t,.int hi u,.int 1 v].toArray}).objs.size:=by simpa using hb
  subst e;exact I1.fpOk (aN _)<|I1.hok.fresh<|aN _
def ZdO(ta:TA):TI:=λZ H R=>ta Z H λvs H1=>∃j:Int,vs=[.int j]/\-(2^62)<=j/\j<2^62/\R (Itr 0 j.toNat) H1
def ZdP(ta:TA):TI:=λZ H R=>ta Z H λvs H1=>∃i j:Int,vs=[.int i,.int j]/\(-(2^62)<=i/\i<2^62/\-(2^62)<=j/\j<2^62)/\R (Itr i (j-i).toNat) H1
theorem xL{a:Expr}{ta:TA}{p pos:gW}(hg:Gl X "range")(hm:X.mg "range" = ag)(ha:PA X [a] ta)(hs:aH [a] X.env=[(am,cD a X.env)]:=by rfl):PI X tg (.Call (.Name "range" p) [a] [] pos) (ZdO ta):=by
 intro pq s Z H R I h;refine Call_<|Xd I hg hm boot_range<|cM (thn (ha pos pq s Z H _ I h) λus s1 #[vs,H1,I1,r1,q1]=>?_) hs rfl
 obtain⟨j,e,q1,q2,q⟩:=q1;subst e;cases r1 with
 |cons r rr=>
  cases rr;obtain⟨t,rfl⟩:=r;exact call_range_1<|J8 I1 (by lia) (by lia) q1 q2 (by simpa using q)
def we{a b:Expr}{ta:TA}{p pos:gW}(hg:Gl X "range")(hm:X.mg "range" = ag)(ha:PA X [a,b] ta)(hs:aH [a,b] X.env=[(am,cD a X.env),(am,cD b X.env)]:=by rfl)(hs2:aH [b] X.env=[(am,cD b X.env)]:=by rfl) :
  PI X tg (.Call (.Name "range" p) [a,b] [] pos) (ZdP ta):=by
 intro pq s Z H R I h;refine Call_<|Xd I hg hm boot_range<|cM (thn (ha pos pq s Z H _ I h) λus s1 #[vs,H1,I1,r1,q1]=>?_) (by rw[hs,hs2]) (by rw[hs2];rfl)
 obtain⟨i,j,e,⟨q1,q2,q3,q4⟩,q⟩:=q1;subst e;cases r1 with
 |cons r rr=>
  cases rr with
  |cons r' rr=>
   cases rr;obtain⟨t,rfl⟩:=r;obtain⟨t',rfl⟩:=r';exact call_range_2<|J8 I1 q1 q2 q3 q4 q
def ZeH(wi:TI)(g:TG)(tb:TS):TS:=λD Z H=>wi Z H λJ H1=>∃W:Nat->Nat->St->Hp->Prop,(∃m,W 0 m Z H1)/\∀i m Z H,W i m Z H->
 (J.stop i H/\D.nx Z H)\/(J.go i H/\∃N:St->Hp->Prop,(∀σ' H',N σ' H'->∃m',m'<m/\W (i+1) m' σ' H')/\∀x H',J.yld i H x H'->g x Z H' λσ2 H2=>tb {D with nx:=N,ct:=N,bk:=D.nx} σ2 H2)
noncomputable def V5(fp:List aL)(h:ck):List (aL×fw):=fp.filterMap λb=>(h.get? b).map λo=>(b,o)
def Y6(hb:b∈fp)(e:h.get? b=aa o):(b,o)∈V5 fp h:=me.mpr #[b,hb,by rw[e];rfl]
def wt(hp:p∈V5 fp h):p.1∈fp/\h.get? p.1=aa p.2:=by
 obtain⟨b,hb,e⟩:=me.mp hp;cases q:h.get? b with
 |none=>rw[q]at e;cases e
 |some o=>
  rw[q]at e;have e':=ak e;subst e';exact#[hb,q]
def Inv.pinned(I:Inv X pq Z H s)(hf:∀b∈fp,WL X pq H b)(ho:∀b∈fp,∃o,s.heap.get? b=aa o/\∀v,o.data≠.cell v):Inv X (pq++V5 fp s.heap) Z H s:=
 I.pins_of λp hp=>(cV.mp hp).elim (λz=>I.pin p<|bC _ z) λz=>by
  obtain⟨hb,e⟩:=wt z;obtain⟨f0,f1,f2,_⟩:=hf p.1 hb;obtain⟨o,e',d⟩:=ho p.1 hb;rw[e]at e';cases e';exact#[e,f0,f1,f2,d]
def Inv.unpinned(I:Inv X (pq++pl) Z H s):Inv X pq Z H s:=I.pins_of λp hp=>I.pin p<|bC _<|dG _ hp
def qQ{iter:Expr}{body:List fK}{wi:TI}{g:TG}{tb:TS}{pos:gW}(hp:PassesOwn (aS X.prog X.w) X.A X.env X.xe)(hc:X.calm=ai)(hi:PI X tg iter wi)(hg:PG X tg g)(hb:PSs X body tb)
  (hs:∀x,bJ iter X.env x=c6 x:=by intro _;rfl):PS X (.For tg iter body [] pos) (ZeH wi g tb):=by
 intro pq s Z H D I h;refine wpAny_For (thn (hi pq s Z H _ I h) λv s1 h1=>thn h1 λitv s2 h2=>?_) hs
 obtain⟨it,fp,tn,J,H2,e,I2,T,st2,f2,W,⟨m0,w0⟩,turn⟩:=h2;subst e;have stat:∀{H':Hp},(∀b∈fp,H' b=ag)->∀b∈fp,WL X pq H' b:=λhn b hb=>#[hn b hb,(f2 b hb).2]
 refine codeAny_forLoop_any (λn s'=>∃i σ' H',Inv X pq σ' H' s'/\tn i s'.heap/\(∀b∈fp,H' b=ag)/\W i n σ' H') ?_ m0 #[0,Z,H2,I2,st2,λb hb=>(f2 b hb).1,w0]
 rintro n s3 ⟨i,σ3,H3,I3,st3,fr3,w3⟩
 rcases turn i n σ3 H3 w3 with⟨stop,qn⟩|⟨go,N,hN,step⟩
 .refine fU hp (thn (T.done X rfl rfl rfl hc i pq s3 σ3 H3 X.xe I3 (stat fr3) st3 stop) λr s4 #[hr,I4]=>?_)
  subst hr;exact wpAny_execs_nil #[σ3,H3,I4,qn]
 .refine fU hp (thn (T.item X rfl rfl rfl hc i pq s3 σ3 H3 X.xe I3 (stat fr3) st3 go) λr s4 #[u,hr,h4]=>?_)
  subst hr;refine fU hp<|thn h4 λ_ s5 #[x,H5,I5,r5,y5,st5,fr5]=>?_
  have I5':=I5.pinned (stat fr5)<|T.obj _ _ st5;refine fU hp<|thn (hg _ s5 σ3 H5 x u _ I5' r5<|step x H5 y5) λ_ s6 #[σ6,H6,I6,q6]=>?_
  refine fU hp<|thn (hb _ s6 σ6 H6 _ I6 q6) λf s7 q7=>?_
  have oP:∀{σ7:St}{H7:Hp},Inv X (pq++V5 fp s5.heap) σ7 H7 s7->N σ7 H7->∃m,m<n/\∃i σ' H',Inv X pq σ' H' s7/\tn i s7.heap/\(∀b∈fp,H' b=ag)/\W i m σ' H':=λ{σ7 H7} I7 n7=>by
   obtain⟨m',hm,w7⟩:=hN σ7 H7 n7;refine#[m',hm,i+1,σ7,H7,I7.unpinned,T.keep _ _ _ st5 λb hb o e=>(I7.pin (b,o)<|bC _<|bC _<|Y6 hb e).1,λb hb=>?_,w7]
   obtain⟨o,e,d⟩:=T.obj _ _ st5 b hb;exact(I7.pin (b,o)<|bC _<|bC _<|Y6 hb e).2.1
  cases f with|next=>obtain⟨σ7,H7,I7,n7⟩:=q7;exact oP I7 n7|cont=>obtain⟨σ7,H7,I7,n7⟩:=q7;exact oP I7 n7|brk=>obtain⟨σ7,H7,I7,q7⟩:=q7;exact#[σ7,H7,I7.unpinned,q7]|ret v=>obtain⟨x7,σ7,H7,I7,r7,q7⟩:=q7;exact#[x7,σ7,H7,I7.unpinned,r7,q7]
end
abbrev R2:=V->V->Hp->VK->Prop
def OpR(X:Cx)(f:ap->ap->nP ap)(r:R2):Prop:=
 ∀(pq:List (aL×fw))(s:ax)(Z:St)(H:Hp)(x y:V)(v u:ap)(Q:VK),Inv X pq Z H s->Zx x v->Zx y u->r x y H Q->
  aX (aS X.prog X.w) X.A (f v u) (EP X pq Z Q) X.xe s
def ZH(X:Cx)(f:ap)(r:List V->Hp->VK->Prop):Prop:=
 ∀(pq:List (aL×fw))(s:ax)(Z:St)(H:Hp)(xs:List V)(us:List ap)(Q:VK),Inv X pq Z H s->Vals xs us->r xs H Q->
  aX (aS X.prog X.w) X.A (call f us) (EP X pq Z Q) X.xe s
def ZeA(X:Cx)(r:V->Hp->(Bool->Hp->Prop)->Prop):Prop:=
 ∀(pq:List (aL×fw))(s:ax)(Z:St)(H:Hp)(x:V)(v:ap)(Q:Bool->Hp->Prop),Inv X pq Z H s->Zx x v->r x H Q->
  aX (aS X.prog X.w) X.A (truthy v) (TP X pq Z Q) X.xe s
def tOp(r:R2)(ta tb:TE):TE:=λZ H Q=>ta Z H λx H1=>tb Z H1 λy H2=>r x y H2 Q
def rI(C:Int->Int->Prop)(g:Int->Int->V):R2:=λx y H Q=>∃i j,x=.int i/\y=.int j/\C i j/\Q (g i j) H
def rI0(g:Int->Int->V):R2:=λx y H Q=>∃i j,x=.int i/\y=.int j/\Q (g i j) H
def Zc0(ha:PE X a ta)(hb:PE X b tb){pq:List (aL×fw)}{s:ax}{Z:St}{H:Hp}{R:V->V->Hp->Prop}(I:Inv X pq Z H s)
  (h:ta Z H λx H1=>tb Z H1 λy H2=>R x y H2){Q:ap->ax->Prop}{f:ap->ap->nP ap}
  (hf:∀v u s2 x y H2,Inv X pq Z H2 s2->Zx x v->Zx y u->R x y H2->aX (aS X.prog X.w) X.A (f v u) Q X.xe s2) :
  aX (aS X.prog X.w) X.A (cD a X.env) (λv s₁=>aX (aS X.prog X.w) X.A (cD b X.env) (λu s₂=>aX (aS X.prog X.w) X.A (f v u) Q X.xe s₂) X.xe s₁) X.xe s:=by
 refine thn (ha pq s Z H _ I h) λv s1 #[x,H1,I1,r1,q1]=>?_
 refine thn (hb pq s1 Z H1 _ I1 q1) λu s2 #[y,H2,I2,r2,q2]=>?_
 exact hf v u s2 x y H2 I2 r1 r2 q2
def Qn(ho:OpR X (ei op) r)(ha:PE X a ta)(hb:PE X b tb):PE X (.BinOp a op b pos) (tOp r ta tb):=by
 intro pq s Z H Q I h;exact wpAny_BinOp<|Zc0 ha hb I h λv u s2 x y H2 I2 rx ry q=>ho pq s2 Z H2 x y v u Q I2 rx ry q
def opI{f:ap->ap->nP ap}{C:Int->Int->Prop}{g:Int->Int->Int}
  (oh:∀(i j:Int)(t u:Tok)(s:ax)(Q:ap->ax->Prop)(E:ap->ax->Prop),C i j->Q (.int (g i j) s.toks) {s with toks:=s.toks+1}->aX (aS X.prog X.w) X.A (f (.int i t)<|.int j u) Q E s) :
  OpR X f (rI C λi j=>.int<|g i j):=by
 intro pq s Z H x y v u Q I rx ry h;obtain⟨i,j,rfl,rfl,hc,q⟩:=h;obtain⟨t,rfl⟩:=rx;obtain⟨t',rfl⟩:=ry;exact oh i j t t' s _ _ hc #[.int<|g i j,H,I.tok _,#[_,rfl],q]
def ZdD{f:ap->ap->nP ap}{g:Int->Int->Int}
  (oh:∀(i j:Int)(t u:Tok)(s:ax)(Q:ap->ax->Prop)(E:ap->ax->Prop),Q (.int (g i j) s.toks) {s with toks:=s.toks+1}->aX (aS X.prog X.w) X.A (f (.int i t)<|.int j u) Q E s) :
  OpR X f (rI0 λi j=>.int<|g i j):=by
 intro pq s Z H x y v u Q I rx ry h;obtain⟨i,j,rfl,rfl,q⟩:=h;obtain⟨t,rfl⟩:=rx;obtain⟨t',rfl⟩:=ry;exact oh i j t t' s _ _ #[.int<|g i j,H,I.tok _,#[_,rfl],q]
def jp{f:ap->ap->nP ap}{g:Int->Int->Bool}
  (oh:∀(i j:Int)(t u:Tok)(s:ax)(Q:ap->ax->Prop)(E:ap->ax->Prop),Q (.bool<|g i j) s->aX (aS X.prog X.w) X.A (f (.int i t)<|.int j u) Q E s) :
  OpR X f (rI0 λi j=>.bl<|g i j):=by
 intro pq s Z H x y v u Q I rx ry h;obtain⟨i,j,rfl,rfl,q⟩:=h;obtain⟨t,rfl⟩:=rx;obtain⟨t',rfl⟩:=ry;exact oh i j t t' s _ _ #[.bl<|g i j,H,I,rfl,q]
def CPow(i j:Int):Prop:=0<=j/\j<=1000000/\i.natAbs<2^64
def ZbI:OpR X (ei .Add) (rI0 λi j=>.int<|i+j):=ZdD λ_ _ _ _ _ _ _ q=>add_int q
def Zcj:OpR X (ei .Sub) (rI0 λi j=>.int<|i-j):=ZdD λ_ _ _ _ _ _ _ q=>sub_int q
def ZcM:OpR X (ei .Mod) (rI (λ_ j=>0<j) λi j=>.int<|i%j):=opI λi j _ _ _ _ _ hc q=>by
 have h1:=hc;exact mod_int' (by lia) (by rw[Int.fmod_eq_emod_of_nonneg i (by lia)];exact q)
def Zca:OpR X (ei .Pow) (rI CPow λi j=>.int<|i^j.toNat):=opI λ_ _ _ _ _ _ _ hc q=>pow_int_small hc.1 hc.2.1 hc.2.2 q
noncomputable def scal:V->V->Bool
 |.non,.non=>ai|.non,.int _=>ai|.int _,.non=>ai|.non,.bl _=>ai|.bl _,.non=>ai|.non,.str _=>ai|.str _,.non=>ai
 |.int _,.int _=>ai|.bl _,.bl _=>ai|.str _,.str _=>ai|.byt _,.byt _=>ai
 |.int _,.str _=>ai|.str _,.int _=>ai|.bl _,.str _=>ai|.str _,.bl _=>ai
 |_,_=>am
def rEq:R2:=λx y H Q=>scal x y=ai/\Q (.bl<|af<|x=y) H
def rNe:R2:=λx y H Q=>scal x y=ai/\Q (.bl<|!decide (x=y)) H
def y9 :af (V.int i=V.int j)=(i == j):=by
 rw[cE];simp
def vG :af (V.bl i=V.bl j)=(i == j):=by
 rw[cE];simp
def yt :af (V.str i=V.str j)=(i == j):=by
 rw[cE];simp
def xA :af (V.byt i=V.byt j)=(i.toList == j.toList):=by
 rw[cE];cases i;cases j;simp
section
variable{X:Cx}{a b c:Expr}{ta tb tc:TE}{pos:gW}
def ZA(I:Inv X pq Z H s)(q:Q (.bl k) H)(e:k=k'):EP X pq Z Q (.bool k') s:=by
 subst e;exact#[.bl k,H,I,rfl,q]
def Zdm:OpR X (cF .Eq) rEq:=by
 intro pq s Z H x y v u Q I rx ry h;obtain⟨hs,q⟩:=h;cases x with
 |non=>
  cases rx;cases y with|non=>cases ry;exact PySem.EqNone.eq_none_none<|ZA I q (by simp)|bl j=>cases ry;exact PySem.EqNone.eq_none_bool<|ZA I q (by simp)|int j=>obtain⟨t',rfl⟩:=ry;exact PySem.EqNone.eq_none_int<|ZA I q (by simp)|str j=>obtain⟨t',rfl⟩:=ry;exact PySem.EqNone.eq_none_str<|ZA I q (by simp)|_=>exact T7 (hs) aM
 |bl i=>
  cases rx;cases y with|non=>cases ry;exact PySem.EqNone.eq_bool_none<|ZA I q (by simp)|bl j=>cases ry;exact eq_bool<|ZA I q vG|str j=>obtain⟨t',rfl⟩:=ry;exact PySem.EqMixed.eq_bool_str<|ZA I q (by simp)|_=>exact T7 (hs) aM
 |int i=>
  obtain⟨t,rfl⟩:=rx;cases y with|non=>cases ry;exact PySem.EqNone.eq_int_none<|ZA I q (by simp)|int j=>obtain⟨t',rfl⟩:=ry;exact eq_int<|ZA I q y9|str j=>obtain⟨t',rfl⟩:=ry;exact PySem.EqMixed.eq_int_str<|ZA I q (by simp)|_=>exact T7 (hs) aM
 |str i=>
  obtain⟨t,rfl⟩:=rx;cases y with|non=>cases ry;exact PySem.EqNone.eq_str_none<|ZA I q (by simp)|bl j=>cases ry;exact PySem.EqMixed.eq_str_bool<|ZA I q (by simp)|int j=>obtain⟨t',rfl⟩:=ry;exact PySem.EqMixed.eq_str_int<|ZA I q (by simp)|str j=>obtain⟨t',rfl⟩:=ry;exact eq_str<|ZA I q yt|_=>exact T7 (hs) aM
 |byt i=>
  obtain⟨t,rfl⟩:=rx;cases y with|byt j=>obtain⟨t',rfl⟩:=ry;exact PySem.W.eq_bytes<|ZA I q xA|_=>exact T7 (hs) aM
 |_=>cases y<;>exact T7 (hs) aM
def Zdv:OpR X (cF .NotEq) rNe:=by
 intro pq s Z H x y v u Q I rx ry h;obtain⟨hs,q⟩:=h;cases x with
 |non=>
  cases rx;cases y with|non=>cases ry;exact PySem.EqNone.ne_none_none<|ZA I q (by simp)|bl j=>cases ry;exact PySem.EqNone.ne_none_bool<|ZA I q (by simp)|int j=>obtain⟨t',rfl⟩:=ry;exact PySem.EqNone.ne_none_int<|ZA I q (by simp)|str j=>obtain⟨t',rfl⟩:=ry;exact PySem.EqNone.ne_none_str<|ZA I q (by simp)|_=>exact T7 (hs) aM
 |bl i=>
  cases rx;cases y with|non=>cases ry;exact PySem.EqNone.ne_bool_none<|ZA I q (by simp)|bl j=>cases ry;exact ne_bool<|ZA I q<|congrArg not vG|str j=>obtain⟨t',rfl⟩:=ry;exact PySem.EqMixed.ne_bool_str<|ZA I q (by simp)|_=>exact T7 (hs) aM
 |int i=>
  obtain⟨t,rfl⟩:=rx;cases y with|non=>cases ry;exact PySem.EqNone.ne_int_none<|ZA I q (by simp)|int j=>obtain⟨t',rfl⟩:=ry;exact ne_int<|ZA I q<|congrArg not y9|str j=>obtain⟨t',rfl⟩:=ry;exact PySem.EqMixed.ne_int_str<|ZA I q (by simp)|_=>exact T7 (hs) aM
 |str i=>
  obtain⟨t,rfl⟩:=rx;cases y with|non=>cases ry;exact PySem.EqNone.ne_str_none<|ZA I q (by simp)|bl j=>cases ry;exact PySem.EqMixed.ne_str_bool<|ZA I q (by simp)|int j=>obtain⟨t',rfl⟩:=ry;exact PySem.EqMixed.ne_str_int<|ZA I q (by simp)|str j=>obtain⟨t',rfl⟩:=ry;exact ne_str<|ZA I q<|congrArg not yt|_=>exact T7 (hs) aM
 |byt i=>
  obtain⟨t,rfl⟩:=rx;cases y with|byt j=>obtain⟨t',rfl⟩:=ry;exact PySem.W.ne_bytes<|ZA I q<|congrArg not xA|_=>exact T7 (hs) aM
 |_=>cases y<;>exact T7 (hs) aM
def Zdn:OpR X (cF .Lt) (rI0 λi j=>.bl<|af<|i<j):=jp λ_ _ _ _ _ _ _ q=>lt_int q
def ZdZ:OpR X (cF .LtE) (rI0 λi j=>.bl<|af<|i<=j):=jp λ_ _ _ _ _ _ _ q=>le_int q
def Zdy:OpR X (cF .Gt) (rI0 λi j=>.bl<|af<|j<i):=jp λ_ _ _ _ _ _ _ q=>gt_int q
def Zd8:OpR X (cF .GtE) (rI0 λi j=>.bl<|af<|j<=i):=jp λ_ _ _ _ _ _ _ q=>ge_int q
def OpR.or(h:OpR X f r)(h':OpR X f r'):OpR X f (λx y H Q=>r x y H Q\/r' x y H Q):=by
 intro pq s Z H x y v u Q I rx ry q;rcases q with q|q
 .exact h pq s Z H x y v u Q I rx ry q
 .exact h' pq s Z H x y v u Q I rx ry q
def ZcI(b:Expr)(h:op≠.In:=by decide)(h2:op≠.NotIn:=by decide):fM op b=am:=by
 have e1:(op == CmpOp.In)=am:=by cases op<;>first|rfl|exact T7 rfl h
 have e2:(op == CmpOp.NotIn)=am:=by cases op<;>first|rfl|exact T7 rfl h2
 cases b<;>simp[fM,e1,e2]
def ZaR(ho:OpR X (cF op) r)(ha:PE X a ta)(hb:PE X b tb)(hm:fM op b=am):PE X (.Compare a [op] [b] pos) (tOp r ta tb):=by
 intro pq s Z H Q I h;exact wpAny_Compare1 (Zc0 ha hb I h λv u s2 x y H2 I2 rx ry q=>ho pq s2 Z H2 x y v u Q I2 rx ry q) hm
def Zdl(t:TE):TT:=λZ H Q=>t Z H λx H'=>∃k,x=.bl k/\Q k H'
def ZaO(ho:OpR X (cF op) r)(ha:PE X a ta)(hb:PE X b tb)(hm:fM op b=am):PT X (.Compare a [op] [b] pos) (Zdl<|tOp r ta tb):=by
 intro pq s Z H Q I h;refine wpAny_isTrue_Compare1 (thn (ha pq s Z H _ I h) λv s1 #[x,H1,I1,r1,q1]=>thn (hb pq s1 Z H1 _ I1 q1) λu s2 #[y,H2,I2,r2,q2]=>
  thn (ho pq s2 Z H2 x y v u _ I2 r1 r2 q2) λc s3 #[z,H3,I3,r3,k,e,q3]=>?_) hm
 subst e;cases r3;exact fe #[H3,I3,q3]
def Zc1(r r':R2)(ta tb tc:TE):TE:=λZ H Q=>ta Z H λx H1=>tb Z H1 λy H2=>r x y H2 λz H3=>∃k,z=.bl k/\
 (if k=ai then tc Z H3 λw' H4=>r' y w' H4 Q else Q (.bl am) H3)
def qz(ho:OpR X (cF op) r)(ho':OpR X (cF op') r')(ha:PE X a ta)(hb:PE X b tb)(hc:PE X c tc)
  (hm:lastMarks [op,op'] [b,c]=am:=by with_unfolding_all rfl):PE X (.Compare a [op,op'] [b,c] pos) (Zc1 r r' ta tb tc):=by
 intro pq s Z H Q I h;refine Compare_chain (thn (ha pq s Z H _ I h) λv s1 #[x,H1,I1,r1,q1]=>chain_link (thn (hb pq s1 Z H1 _ I1 q1) λu s2 #[y,H2,I2,r2,q2]=>
  thn (ho pq s2 Z H2 x y v u _ I2 r1 r2 q2) λd s3 #[z,H3,I3,r3,k,e,q3]=>?_)) hm
 subst e;cases r3;refine fe ?_;cases k with|false=>exact ite_ff #[.bl am,H3,I3,rfl,q3]|true=>exact ite_tt<|chain_last<|thn (hc pq s3 Z H3 _ I3 q3)<|by rintro w' s4 ⟨z',H4,I4,r4,q4⟩;exact ho' pq s4 Z H4 y z' u w' Q I4 r2 r4 q4
def jo(K:ao)(x:V)(H:Hp)(k:Bool):Prop:=
 match x with
 |.non=>k=am
 |.bl b=>k=b
 |.int i=>k=(i != 0)
 |.str y=>y.length<=bi/\k=((y.length:Int) != 0)
 |.byt y=>y.size<=bi/\k=((y.size:Int) != 0)
 |.ref p=>(∃xs,SqL K H p xs/\k = !xs.isEmpty)\/(∃xs,SqT K H p xs/\k = !xs.isEmpty)\/∃kvs,H p=aa (.dK kvs)/\k = !kvs.isEmpty
 |_=>False
def yd{κ:Type}{kvs:List (κ×V)}{vs:List (κ×ap)}(r:KV kvs vs):(!vs.isEmpty) = !kvs.isEmpty:=by
 cases r<;>rfl
def UC{xs:List V}{its:List ap}(r:Vals xs its):(!its.toArray.isEmpty) = !xs.isEmpty:=by
 cases r<;>simp
def UD:(bi:Nat)<2^63:=by rw[cc];decide
theorem qV:ZeA X (λx H Q=>∃k,jo X.K x H k/\Q k H):=by
 intro pq s Z H x v Q I rx h;obtain⟨k,e,q⟩:=h;have hl:=UD;have hs:=cc;cases x with
 |non=>
  cases rx;have e':=e;subst e';exact truthy_none #[H,I,q]
 |bl b=>
  cases rx;have e':k=b:=e;subst e';exact fe #[H,I,q]
 |int i=>
  obtain⟨t,rfl⟩:=rx;have e':=e;subst e';exact mf #[H,I,q]
 |str y=>
  obtain⟨t,rfl⟩:=rx;obtain⟨hy,e'⟩:=e;subst e';exact PySem.P.truthy_str (by lia) #[H,I.tok _,q]
 |byt y=>
  obtain⟨t,rfl⟩:=rx;obtain⟨hy,e'⟩:=e;subst e';exact PySem.W.truthy_bytes (by lia) #[H,I.tok _,q]
 |ref p=>
  cases rx;have e':=e;rcases e' with⟨xs,hx,e'⟩|⟨xs,hx,e'⟩|⟨kvs,hx,e'⟩
  .subst e'
   obtain⟨its,r,pl,hz⟩:=I.list hx;have hlen:=r.length;exact wpAny_truthy_list pl.isList (by simp only[ay];lia) #[H,I.tok _,by rw[UC r];exact q]
  .subst e'
   obtain⟨its,r,pl,hz⟩:=I.tuple hx;have hlen:=r.length;exact truthy_tuple pl (by simp only[ay];lia) #[H,I.tok _,by rw[UC r];exact q]
  .subst e'
   obtain⟨hz,hS,vs,r,m⟩:=I.hok p _ hx;have hlen:=Paired.length r;exact wpAny_truthy_dict hS m (by lia) #[H,I.tok _,by rw[yd r];exact q]
 |_=>exact(e).elim
def qI(ha:PE X a ta)(he:∀whole,isTrue a X.env whole=(do let v <-whole;kB a.pos;gO [v] (truthy v))) :
  PT X a (λZ H Q=>ta Z H λx H'=>∃k,jo X.K x H' k/\Q k H'):=by
 intro pq s Z H Q I h;exact isTrue_plain (thn (ha pq s Z H _ I h)<|by rintro v s1 ⟨x,H1,I1,r1,q1⟩;exact qV pq s1 Z H1 x v Q I1 r1 q1)<|he _
def X2(r:Vals [x] us):∃u,us=[u]/\Zx x u:=by
 cases r with|cons r1 r2=>cases r2;exact#[_,rfl,r1]
def GS(r:Vals [x,y] us):∃u w',us=[u,w']/\Zx x u/\Zx y w':=by
 cases r with
 |cons r1 r2=>
  cases r2 with|cons r3 r4=>cases r4;exact#[_,_,rfl,r1,r3]
def wM(hc:X.calm=ai):ZH X (.builtin "max") (λxs H Q=>∃i j,xs=[.int i,.int j]/\Q (.int (if j>i then j else i)) H):=by
 intro pq s Z H xs us Q I r h;obtain⟨i,j,rfl,q⟩:=h;obtain⟨u,w',rfl,⟨t,rfl⟩,⟨t',rfl⟩⟩:=GS r;refine max_two_ints (I.ok.hd hc) λh' tk k=>#[_,H,I.kept k,?_,q]
 by_cases hj:j>i
 .rw[T9 hj,T9 hj];exact#[_,rfl]
 .rw[T8 hj,T8 hj];exact#[_,rfl]
def wR(hc:X.calm=ai):ZH X (.builtin "min") (λxs H Q=>∃i j,xs=[.int i,.int j]/\Q (.int (if j<i then j else i)) H):=by
 intro pq s Z H xs us Q I r h;obtain⟨i,j,rfl,q⟩:=h;obtain⟨u,w',rfl,⟨t,rfl⟩,⟨t',rfl⟩⟩:=GS r;refine min_two_ints (I.ok.hd hc) λh' tk k=>#[_,H,I.kept k,?_,q]
 by_cases hj:j<i
 .rw[T9 hj,T9 hj];exact#[_,rfl]
 .rw[T8 hj,T8 hj];exact#[_,rfl]
def xU:ZH X (.type "int") (λxs H Q=>(∃i,xs=[.int i]/\Q (.int i) H)\/∃k,xs=[.bl k]/\Q (.int (if k then 1 else 0)) H):=by
 intro pq s Z H xs us Q I r h;rcases h with⟨i,rfl,q⟩|⟨k,rfl,q⟩
 .obtain⟨u,rfl,t,rfl⟩:=X2 r
  exact call_int_int #[.int i,H,I,#[_,rfl],q]
 .obtain⟨u,rfl,r1⟩:=X2 r
  cases r1;exact call_int_bool #[.int (if k then 1 else 0),H,I.tok _,#[_,rfl],q]
end
structure ObjM(h:ck)(x dx C:aL)(mA:bB->Option ap):Prop where
 obj:h.get? x=aa (kN C dx)
 ns:h.Ns1 dx mA
 ne:dx≠x
def xO{h:ck}{dx:aL}{mA:bB->Option ap}(n:h.Ns1 dx mA):∃od,h.get? dx=aa od/\∀name,lg name od=aa (mA name):=by
 obtain⟨o,es,ep,ho,hd,hk,_,hm⟩:=n;refine#[o,ho,λname=>?_]
 have e:=hm name;unfold nsFind findBy at e;rw[<-Array.find?_toList]at e;unfold lg;rw[hd]
 dsimp only
 split
 .rename_i y q
  rw[q]at e;exact congrArg aa e
 .rename_i q
  rw[q]at e;have a:es.toList.any (·.refKey)=am:=by
   rw[List.any_eq_false];intro y hy;obtain⟨z,t,hkey⟩:=hk y<|lh.mp hy;simp[fF.refKey,hkey]
  have a':¬es.toList.any (·.refKey)=ai:=by rw[a];exact aM
  rw[T8 a'];exact congrArg aa e
def ObjM.look(I:ObjM h x dx C mA):∃od,PySem.W.InstAt h x (kN C dx) C (aa od)/\∀name,lg name od=aa (mA name):=
 let #[od,ho,hl]:=xO I.ns
 #[od,#[I.obj,rfl,rfl,ho],hl]
section
variable{P:bG}{w:b0}{H H':Hp}{h h':ck}{a C dx:aL}{fs fs':List (bB×V)}
def xI(hok:HOk P w H h)(e:H a=aa (.ins C dx fs)):∃mA,ObjM h a dx C mA/\(∀f,zQ (fs.lookup f)<|mA f)/\PySem.Within mA (fs.map (·.1))/\fs.length<=1000/\H dx=aa (.own a):=by
 obtain⟨d,z,ne,ob,mA,n,r,q⟩:=(hok a _ e)
 exact#[mA,#[ob,n,ne],r,q,z,d]
end
structure Cls(K:ao)(C:aL):Prop where
 pg:m5 K C bB.empty=ai
 hd:PySem.W.hasDictIn K C=ai
 po:PySem.W.plainOver K C=ai
 sa:oj K (.ref C) "__setattr__" = aa (aa<|.builtin "object.__setattr__")
def Cls.get{K:ao}{C:aL}(c:Cls K C)(f:bB):m5 K C f=ai:=c.pg
section
variable{X:Cx}{pq:List (aL×fw)}{Z:St}{H:Hp}{s:ax}{A:cZ}{E:ap->ax->Prop}{Q:ap->ax->Prop}{c:ap}{b:Bool}
inductive TyOf(K:ao)(H:Hp):V->ap->Prop where
 |non:TyOf K H .non (.type "NoneType")
 |bl (x:Bool):TyOf K H (.bl x) (.type "bool")
 |int (i:Int):TyOf K H (.int i) (.type "int")
 |str (x:bB):TyOf K H (.str x) (.type "str")
 |flt (x:UInt64):TyOf K H (.flt x) (.type "float")
 |lst {a:aL} {xs:List V} (e:H a=aa (.lst xs)):TyOf K H (.ref a) (.type "list")
 |frz {a:aL} {o:fw} {xs:List V} (e:H a=aa (.frz o<|.lst xs)):TyOf K H (.ref a) (.type "list")
 |tup {a:aL} {xs:List V} (e:H a=aa (.tup xs)):TyOf K H (.ref a) (.type "tuple")
 |dK {a:aL} {kvs:List (Key×V)} (e:H a=aa (.dK kvs)):TyOf K H (.ref a) (.type "dict")
 |dT {a:aL} {kvs:List (List Key×V)} (e:H a=aa (.dT kvs)):TyOf K H (.ref a) (.type "dict")
 |ins {a C dx:aL} {fs:List (bB×V)} (e:H a=aa (.ins C dx fs)) (cl:Cls K C) (ha:oj K (.ref C) "__class__" = aa (aa<|.builtin "object.__class__"))
   (hn:PySem.W.specialIn K (.builtin "object.__class__") "__get__" = aa (aa<|.builtin "getset_descriptor.__get__")) (htk:PySem.W.takesIn K (.builtin "object.__class__")=aa ai)
   (hm:PySem.W.mroIn K C (.type "object")=aa ai):TyOf K H (.ref a) (.ref C)
def wD(I:Inv X pq Z H s)(rx:Zx x u)(ty:TyOf X.K H x t)(e:lj X.K t c=aa b)(h:∀tk,Q (.bool b) {s with toks:=tk}) :
  aX (aS X.prog X.w) A (call (.builtin "isinstance") [u,c]) Q E s:=by
 cases ty with
 |non=>cases(show u=bg from rx);exact cW mw I.kIn cR e (λz=>nomatch z) h
 |bl y=>cases(rx);exact cW my I.kIn cR e (λz=>nomatch z) h
 |int i=>obtain⟨t,q⟩:=(rx);cases q;exact cW m7 I.kIn cR e (λz=>nomatch z) h
 |str y=>obtain⟨t,q⟩:=(rx);cases q;exact cW m8 I.kIn cR e (λz=>nomatch z) h
 |flt y=>obtain⟨t,q⟩:=(rx);cases q;exact cW mh I.kIn cR e (λz=>nomatch z) h
 |@lst a xs ea=>
  cases(rx)
  obtain⟨_,_,n,_,h1⟩:=(I.hok a _ ea)
  exact cW gh I.kIn #[_,h1,rfl] e (λz=>nomatch z) h
 |@frz a ob xs ea=>
  cases(rx)
  obtain⟨_,_,_,n,_,h1⟩:=(I.hok a _ ea)
  exact cW gh I.kIn #[_,h1,rfl] e (λz=>nomatch z) h
 |@tup a xs ea=>
  cases(rx)
  obtain⟨_,_,_,p⟩:=(I.hok a _ ea)
  obtain⟨o,h1,h2,_⟩:=p;exact cW mi I.kIn #[o,h1,h2] e (λz=>nomatch z) h
 |@dK a kvs ea=>
  cases(show u=cn a from rx)
  obtain⟨_,_,vs,_,p⟩:=(I.hok a _ ea)
  obtain⟨o,es,ep,h1,h2,_⟩:=p;exact cW gj I.kIn #[o,h1,h2.1] e (λz=>nomatch z) h
 |@dT a kvs ea=>
  cases(show u=cn a from rx)
  obtain⟨_,_,xs,_,o,es,ep,h1,h2,_⟩:=(I.hok a _ ea)
  exact cW gj I.kIn #[o,h1,h2.1] e (λz=>nomatch z) h
 |@ins a C dx fs ea cl ha hn htk hm=>
  cases(show u=cn a from rx)
  obtain⟨mA,O,_⟩:=xI I.hok ea;obtain⟨od,J,_⟩:=O.look;exact cW (m9 (cl.get _) cl.hd ha hn htk hm) I.kIn J e (λz=>nomatch z) h
end
structure Room(k:Nat)(A:cZ):Prop where
 hd:A.handled=ag
 dp:A.depth+3*k+5<recursionLimit
 un:A.units+16*k+200<dv
theorem Room.deeper(r:Room (k+1) A)(env:Env):Room k (A.deeper env):=
 #[r.hd,by have:=r.dp;show A.depth+1+3*k+5<_;lia,by have:=r.un;show A.units+3+16*k+200<_;lia]
theorem Room.depth(r:Room k A):A.depth<recursionLimit:=by have:=r.dp;lia
def ZeI:TA:=λ_ H Q=>Q [] H
def Zd1(ta:TE)(tr:TA):TA:=λZ H Q=>ta Z H λx H1=>tr Z H1 λxs H2=>Q (x::xs) H2
section
variable{X:Cx}{e:Expr}{es:List Expr}{te:TE}{t:TA}{pos:gW}
def Vh:PA X [] ZeI:=λ_ _ _ _ H Q I h=>Calls.spliced_nil #[[],H,I,.nil,h]
def Yu(ha:PE X e te)(hr:PA X es t)(hs:aH (e::es) X.env=(am,cD e X.env)::aH es X.env:=by rfl):PA X (e::es) (Zd1 te t):=by
 intro pos pq s Z H Q I h;rw[hs];refine Calls.spliced_cons<|thn (ha pq s Z H _ I h) λu s1 #[x,H1,I1,r1,q1]=>?_
 exact thn (hr pos pq s1 Z H1 _ I1 q1)<|by rintro us s2 ⟨xs,H2,I2,r2,q2⟩;exact #[x::xs,H2,I2,.cons r1 r2,q2]
def Zeq(t:TA):TE:=λZ H Q=>t Z H λxs H1=>xs.length<=bi/\∀p,H1 p=ag->Q (.ref p) (upd H1 p<|.tup xs)
def ZeG(t:TA):TE:=λZ H Q=>t Z H λxs H1=>xs.length<=bi/\∀p,H1 p=ag->Q (.ref p) (upd H1 p<|.lst xs)
def vZ{x1}(h:PA X es t):PE X (.Tuple es x1 pos) (Zeq t):=by
 intro pq s Z H Q I hq;refine wpAny_Tuple_spliced<|thn (h pos pq s Z H _ I hq) λus s1 #[xs,H1,I1,r,z,q]=>#[by rw[<-r.length];exact z,?_]
 have hf:=I1.hok.fresh<|aN _;refine#[.ref s1.heap.objs.size,upd H1 s1.heap.objs.size<|.tup xs,I1.laid (t':=s1.toks) (λb u e=>au _ e) (aN _) ?_,rfl,q _ hf]
 exact#[z,us,r,#[_,aG _ rfl,rfl,_,rfl]]
def Zch(h:PA X es t):PE X (.List es pos) (ZeG t):=by
 intro pq s Z H Q I hq;refine wpAny_List_spliced<|thn (h pos pq s Z H _ I hq) λus s1 #[xs,H1,I1,r,z,q]=>#[by rw[<-r.length];exact z,?_]
 have hf:=I1.hok.fresh<|aN _;refine#[.ref s1.heap.objs.size,upd H1 s1.heap.objs.size<|.lst xs,I1.laid (t':=s1.toks) (λb u e=>au _ e) (aN _) ?_,rfl,q _ hf]
 exact#[z,us,0,r,aG _ rfl]
end
abbrev Sp:=List V->Hp->VK->XK->Prop
abbrev CXT:=List Env->Hp->ax->XK->ap->ax->Prop
structure Env0(P:bG)(w:b0)(K:ao)(mg:bB->Option ap)(base:ck)(A:cZ)(outer:List Env)(s:ax)(H:Hp):Prop where
 frames:A.frames=aa outer
 mod:Mod K mg base
 bs:∀b o,base.get? b=aa o->s.heap.get? b=aa o/\H b=ag
 bsz:base.objs.size<=s.heap.objs.size
 funs:s.heap.FunFrames base outer
 frf:∀b∈frs outer,H b=ag
 hok:HOk P w H s.heap
 bare:iQ s.gens
def CE(outer:List Env)(P:bG)(w:b0)(H:Hp)(s:ax)(Q:VK)(u:ap)(s':ax):Prop:=
 ∃v H',s'.os=s.os/\iQ s'.gens/\Un (frs outer) [] H H' s.heap s'.heap/\HOk P w H' s'.heap/\Zx v u/\Q v H'
def CR(CX:CXT)(outer:List Env)(P:bG)(w:b0)(H:Hp)(s:ax)(Q:VK)(E:XK)(r:oV)(s':ax):Prop:=
 match r with
 |.ok (.ret u)=>CE outer P w H s Q u s'
 |.ok _=>False
 |.error e=>CX outer H s E e s'
structure FnOk(P:bG)(w:b0)(K:ao)(mg:bB->Option ap)(base:ck)(CX:CXT)(k:Nat)(f:aL)(fd:cS)(ps:List bB)(sp:Sp):Prop where
 len:∀vs H Q E,sp vs H Q E->vs.length=ps.length
 run:∀(A:cZ)(outer:List Env)(s:ax)(H:Hp)(args:Args)(us:List ap)(vs:List V)(Q:VK)(E:XK),Room k A->Env0 P w K mg base A outer s H->mz s fd args (ps.zip us)->Vals vs us->sp vs H Q E->
  fg (aS P w) A (.call (.ref f) args) (CR CX outer P w H s Q E) s
section
variable{X:Cx}{pq:List (aL×fw)}{Z:St}{H:Hp}{s s':ax}
def Inv.env0(I:Inv X pq Z H s):Env0 X.prog X.w X.K X.mg X.base X.A X.stack s H:=
 #[I.ok.frames,I.ok.mod,I.bs,cp I.ok.bsz I.sz,I.stack,I.stkFree,I.hok,I.bare]
def Inv.after(I:Inv X pq Z H s)(h:CE X.stack X.prog X.w H s Q u s'):EP X pq Z Q u s':=by
 obtain⟨v,H',os,bare,un,hok,r,q⟩:=h;obtain⟨hh,g,d,t,os'⟩:=s';obtain rfl:os'=s.os:=os;exact#[v,H',I.call (h':=hh) (g':=g) (d':=d) (t':=t) un hok bare (λb z=>T7 z (by simp)),r,q]
end
def Zby(sp:Sp)(dvs:List V)(E:XK)(t:TA):TE:=λZ H Q=>t Z H λvs H1=>sp (vs++dvs) H1 Q E
def Vq(K:ao)(fd:cS)(ps:List bB)(ds:List ap):Prop:=
 ∀(s:ax)(us:List ap),K.In s.heap->(us++ds).length=ps.length->mz s fd #[us,[]] (ps.zip<|us++ds)
def Vq.all{K:ao}{fd:cS}{ps:List bB}(h:∀us:List ap,us.length=ps.length->om fd #[us,[]]=c6 (ps.zip us)):Vq K fd ps []:=λs us _ hl=>by
 rw[bY]at hl ⊢;exact .of_eq<|h us hl
def zP(CX:CXT)(X:Cx)(E:XK):Prop:=∀(pq:List (aL×fw))(Z:St)(H:Hp)(s:ax)(e:ap)(s':ax),Inv X pq Z H s->CX X.stack H s E e s'->X.xe e s'
section
variable{X:Cx}{CX:CXT}{k:Nat}{f C:aL}{fd:cS}{ps:List bB}{sp:Sp}{dvs:List V}{ds:List ap}{E:XK}{x m:bB}{p pos apos:gW}{e o:Expr}{es:List Expr}{ta:TE}{t:TA}
def Zc3(F:FnOk X.prog X.w X.K X.mg X.base CX k f fd ps sp)(hr:Room k X.A)(hb:Vq X.K fd ps ds)(hd:Vals dvs ds)(hx:zP CX X E)
  (I:Inv X pq Z H s)(r:Vals vs us)(h:sp (vs++dvs) H Q E):aX (aS X.prog X.w) X.A (call (.ref f) us) (EP X pq Z Q) X.xe s:=by
 have r2:=r.append hd;have hl:(us++ds).length=ps.length:=by rw[<-r2.length];exact F.len _ _ _ _ h
 refine wpAny_call<|gl (F.run X.A X.stack s H #[us,[]] (us++ds) (vs++dvs) Q E hr I.env0 (hb s us I.kIn hl) r2 h) λr s' hq=>?_
 cases r with
 |error e=>exact hx pq Z H s e s' I hq
 |ok fl=>
  cases fl with|ret u=>exact I.after hq|next=>exact False.elim hq|brk=>exact False.elim hq|cont=>exact False.elim hq
def Jv(F:FnOk X.prog X.w X.K X.mg X.base CX k f fd ps sp)(hr:Room k X.A)(hg:Gl X x)(hm:X.mg x=aa (.ref f))(hk:fA X.K (.ref f)=ai)(hb:Vq X.K fd ps ds)(hd:Vals dvs ds)(hx:zP CX X E)
  (ha:PA X (e::es) t)(hdb:(x == ("__debug__" : bB))=am:=by decide)(he:aH (e::es) X.env=(am,cD e X.env)::aH es X.env:=by rfl)(hpl:(dW pos<|aH es X.env).any (·.1)=am:=by rfl) :
  PE X (.Call (.Name x p) (e::es) [] pos) (Zby sp dvs E t):=by
 intro pq s Z H Q I h;refine eW<|Zao I hg hm ?_ hdb;refine PySem.W.callWith_K I.ok.mod.kin hk (thn (ha pos pq s Z H _ I h) λus s1 #[vs,H1,I1,r,q]=>#[I1.kIn,?_]) he hpl
 exact Zc3 F hr hb hd hx I1 r q
end
structure FnScope(N P:List bB)(sc:eL):Prop where
 kind:sc.kind=.function
 co:sc.isCoroutine=am
 gen:sc.isGenerator=am
 nd:N.Nodup
 pre:N.take P.length=P
 par:∀x∈P,sc.names.lookup x=aa .local\/sc.names.lookup x=aa .cell
 nofree:∀y∈sc.names,y.2≠.free
theorem U9{kindOf:bB->Option ej}{x:bB}:∀{binds:List (bB×ap)}{m:bB->Option ap},(∀v,(x,v)∉binds)->oQ kindOf binds m x=m x
 |[],_,_=>rfl
 |(n,v)::r,m,h=>by
  unfold oQ;rw[U9 λw hw=>h w<|aj _ hw]
  split
  .have:x≠n:=by rintro rfl;exact h v al
   simp[this]
  .rfl
theorem Qz{kindOf:bB->Option ej}{x:bB}:∀{binds:List (bB×ap)}{m:bB->Option ap},(∀v,(x,v)∉binds)->oR kindOf binds m x=m x
 |[],_,_=>rfl
 |(n,v)::r,m,h=>by
  unfold oR;rw[Qz λw hw=>h w<|aj _ hw]
  split
  .rfl
  .have:x≠n:=by rintro rfl;exact h v al
   simp[this]
theorem U7{kindOf:bB->Option ej}{x:bB}{v:ap}:∀{P:List bB}{vs:List ap}{i:Nat}{m:bB->Option ap},P.Nodup->P[i]?=aa x->vs[i]?=aa v->kindOf x=aa .local->
  oQ kindOf (P.zip vs) m x=aa v
 |[],_,_,_,_,h,_,_=>by simp at h
 |_::_,[],_,_,_,_,h,_=>by simp at h
 |p::P,w::vs,0,m,nd,h1,h2,hk=>by
  simp at h1 h2;subst h1;subst h2;show oQ kindOf ((p,w)::P.zip vs) m p=_;unfold oQ;rw[U9 λv hv=>(dy.mp nd).1 (kP hv).1,T9 hk]
  simp
 |p::P,w::vs,i+1,m,nd,h1,h2,hk=>by
  unfold oQ;exact U7 (dy.mp nd).2 (by simpa using h1) (by simpa using h2) hk
theorem Qj{kindOf:bB->Option ej}{x:bB}{v:ap}:∀{P:List bB}{vs:List ap}{i:Nat}{m:bB->Option ap},P.Nodup->P[i]?=aa x->vs[i]?=aa v->kindOf x≠aa .local->
  oR kindOf (P.zip vs) m x=aa v
 |[],_,_,_,_,h,_,_=>by simp at h
 |_::_,[],_,_,_,_,h,_=>by simp at h
 |p::P,w::vs,0,m,nd,h1,h2,hk=>by
  simp at h1 h2;subst h1;subst h2;show oR kindOf ((p,w)::P.zip vs) m p=_;unfold oR;rw[Qz λv hv=>(dy.mp nd).1 (kP hv).1,T8 hk]
  simp
 |p::P,w::vs,i+1,m,nd,h1,h2,hk=>by
  unfold oR;exact Qj (dy.mp nd).2 (by simpa using h1) (by simpa using h2) hk
noncomputable def start(N:List bB)(vs:List V):St:=vs.map aa++aD (N.length-vs.length) ag
noncomputable def JD(CX:CXT)(P:bG)(w:b0)(K:ao)(mg:bB->Option ap)(base:ck)(N:List bB)(qual:bB)(scope:eL)(f:aL)(cd:ap)(A:cZ)(outer:List Env)(s:ax)(H:Hp)(E:XK):Cx where
 prog:=P
 w:=w
 K:=K
 mg:=mg
 base:=base
 A:=A.deeper<|iq qual scope s.heap.objs.size f cd
 N:=N
 s₀:=s
 H₀:=H
 env:=iq qual scope s.heap.objs.size f cd
 outer:=outer
 stack:=iq qual scope s.heap.objs.size f cd::outer
 ex:=[]
 calm:=ai
 fn:=λ_=>ai
 pn:=[]
 xe:=λe s'=>aX (aS P w) (A.deeper<|iq qual scope s.heap.objs.size f cd) (leaving (iq qual scope s.heap.objs.size f cd) e) (λ_ s''=>CX outer H s E e s'') (λe' s''=>CX outer H s E e' s'') s'
def GV{sc:eL}{n:Nat}{x:bB}(h:sc.names.lookup x=aa .cell):∃c,(dS n sc.names []).lookup x=aa c:=by
 have q:=kD sc.names n []<|.inl h;exact bO.mp q
def wa{CX:CXT}{P:bG}{w:b0}{K:ao}{mg:bB->Option ap}{base:ck}{N ps:List bB}{qual:bB}{scope:eL}{f:aL}{cd:ap}{A:cZ}{outer:List Env}{s s1:ax}{H:Hp}{E:XK}{us:List ap}{vs:List V}
  (S:FnScope N ps scope)(hd:A.handled=ag)(e0:Env0 P w K mg base A outer s H)(hl:vs.length=ps.length)(r:Vals vs us)
  (x:InCallC s s.heap.objs.size (oQ (iq qual scope s.heap.objs.size f cd).kindOf (ps.zip us) λ_=>ag) (dS (s.heap.objs.size+1) scope.names []) (oR (iq qual scope s.heap.objs.size f cd).kindOf (ps.zip us) λ_=>ag) s1) :
  Inv (JD CX P w K mg base N qual scope f cd A outer s H E) [] (start N vs) H s1:=by
 have hpl:ps.length<=N.length:=by have:=congrArg iS S.pre;rw[bw]at this;lia
 obtain⟨h1,tk,rfl,hk⟩:=x.done;have noA:∀b:aL,b∉(JD CX P w K mg base N qual scope f cd A outer s H E).ex:=λb z=>T7 (show b∈([]:List aL)from z) (by simp)
 refine#[#[e0.mod,S.kind,rfl,rfl,aN _,λy z c h1 h2=>?_,λy hy=>?_,λy c _ h=>?_,λ_=>hd,cZ.frames_deeper e0.frames,.inr #[rfl,rfl],λb z=>T7 z<|noA b,e0.bs,e0.bsz,λb _ _=>noA b,λb z=>T7 z<|noA b,e0.funs,e0.frf],
  rfl,e0.bare,Un.kept hk,#[_,x.toInCall.ns,λi y v h1 h2 h3=>?_],λy c h=>#[_,x.cell y c h],e0.hok.fresh<|aN _,λy c h=>?_,λp hp=>T7 (show p∈([]:List (aL×fw))from hp) (by simp),e0.hok.kept hk,?_]
 .exact name_of_addr x.apart (eK h1)<|eK h2
 .have hy:=hy
  rcases hy with hy|hy
  .exact GV hy
  .exact T7 rfl<|S.nofree _<|eK hy
 .exact gg<|x.above y c<|eK h
 .have hi:i<vs.length:=by
   unfold start at h2;by_cases hi:i<vs.length
   .exact hi
   .rw[bq<|by simpa using hi]at h2
    rw[cw]at h2;split at h2<;>cases h2
  have ha:vs[i]?=aa v:=by
   unfold start at h2;rw[bI (by simpa using hi),aJ]at h2
   cases e:vs[i]? with|none=>rw[e]at h2;cases h2|some a=>rw[e]at h2;cases h2;rfl
  obtain⟨u,hu,rv⟩:=r.get ha;have hp:ps[i]?=aa y:=by
   rw[<-S.pre,List.getElem?_take_of_lt (by lia)];exact h1
  have ndP:ps.Nodup:=by rw[<-S.pre];exact S.nd.sublist<|mB _ _
  refine#[u,rv,?_];rcases S.par y (dH hp)with k|k
  .exact .inl #[k,U7 ndP hp hu k]
  .obtain⟨c,e⟩:=GV k
   refine .inr #[.inl k,c,e,?_];have q:=x.cell y c e;rw[Qj ndP hp hu<|by show scope.names.lookup y≠_;rw[k];decide]at q
   exact q
 .exact e0.hok.fresh<|gg<|x.above y c<|eK h
 .unfold start
  show _=N.length;rw[ba,aw,bR];lia
def ZdJ{CX:CXT}{P:bG}{w:b0}{K:ao}{mg:bB->Option ap}{base:ck}{k:Nat}{f:aL}{name qual:bB}{params:Arguments}{body:List fK}{scope:eL}{dV kV doc pm cdv ct oc:ap}{an od:Option aL}
  {osl:Array (Option ap)}{N ps:List bB}{sp:Sp}(lk:K.lookup f=aa #[oc,od,.func<|dO name qual params body scope dV kV doc pm an cdv ct,osl])(hcd:iu K cdv qual=ai)(S:FnScope N ps scope)
  (len:∀vs H Q E,sp vs H Q E->vs.length=ps.length)
  (hbody:∀(A:cZ)(outer:List Env)(s:ax)(H:Hp)(vs:List V)(Q:VK)(E:XK),Room k (A.deeper<|iq qual scope s.heap.objs.size f cdv)->sp vs H Q E->
   ∃t,PSs (JD CX P w K mg base N qual scope f cdv A outer s H E) body t/\t {nx:=λ_ H'=>Q .non H',rt:=Q} (start N vs) H) :
  FnOk P w K mg base CX (k+1) f (dO name qual params body scope dV kV doc pm an cdv ct) ps sp:=by
 refine#[len,λA outer s H args us vs Q E hr e0 hb r hsp=>?_]
 have hl:=len _ _ _ _ hsp;have KX:=e0.mod.kin.keeps λb o e=>(e0.bs b o e).1
 have lim:=e0.mod.nolimit.keeps λb o e=>(e0.bs b o e).1
 have hkind:∀y∈ps.zip us,scope.names.lookup y.1=aa .local\/(scope.names.lookup y.1=aa .cell/\((dS (s.heap.objs.size+1) scope.names []).lookup y.1).isSome=ai):=by
  rintro ⟨n,v⟩ hy;rcases S.par n (kP hy).1 with q|q
  .exact .inl q
  .exact .inr #[q,kD _ _ _<|.inl q]
 refine codeAny_call_function hr.depth (KX _ _ lk) rfl S.co S.gen rfl (PySem.W.codeRec_of KX hcd)<|hb _ _ _ _ ?_;refine wpAny_newFunctionEnv_cells S.kind hkind λenv he s1 x=>?_
 subst he;refine#[lim.keeps x.toInCall.keep,codeAny_func ?_];obtain⟨t,ht,hq⟩:=hbody A outer s H vs Q E (hr.deeper _) hsp;have I:Inv (JD CX P w K mg base N qual scope f cdv A outer s H E) [] (start N vs) H s1:=wa S hr.hd e0 hl r x;refine cJ (ht [] s1 (start N vs) H _ I hq) (λfl s' hs=>?_) λe s' hs=>hs
 have fin:∀{σ':St}{H':Hp}{v:V}{u:ap},Inv (JD CX P w K mg base N qual scope f cdv A outer s H E) [] σ' H' s'->Zx v u->Q v H'->CE outer P w H s Q u s':=
  λ{σ' H' v u} J rv q=>#[v,H',J.os,J.bare,J.base,J.hok,rv,q]
 cases fl with
 |ret u=>
  obtain⟨v,σ',H',J,rv,q⟩:=hs;exact fin J rv q
 |next=>
  obtain⟨σ',H',J,q⟩:=hs;exact fin (v:=V.non) J rfl q
 |brk=>
  obtain⟨_,_,_,q⟩:=hs;exact False.elim q
 |cont=>
  obtain⟨_,_,_,q⟩:=hs;exact False.elim q
section
variable{X:Cx}{x:bB}{p pos:gW}{e:Expr}{es:List Expr}{t:TA}{id T:String}{r:List V->Hp->VK->Prop}
def tCB(r:List V->Hp->VK->Prop)(t:TA):TE:=λZ H Q=>t Z H λvs H1=>r vs H1 Q
def WH(hc:ZH X (.builtin id) r)(hg:Gl X x)(hm:X.mg x=ag)(hv:db x=aa (.builtin id))(ha:PA X (e::es) t)(hn:x≠"__name__":=by decide)(hdb:(x == ("__debug__" : bB))=am:=by decide)
  (he:aH (e::es) X.env=(am,cD e X.env)::aH es X.env:=by rfl)(hpl:(dW pos<|aH es X.env).any (·.1)=am:=by rfl):PE X (.Call (.Name x p) (e::es) [] pos) (tCB r t):=by
 intro pq s Z H Q I h;refine eW<|Xd I hg hm hv ?_ hn hdb;exact gG (thn (ha pos pq s Z H _ I h)<|by rintro us s1 ⟨vs,H1,I1,r1,q1⟩;exact hc pq s1 Z H1 vs us Q I1 r1 q1) he hpl
def U6(hc:ZH X (.type T) r)(hg:Gl X x)(hm:X.mg x=ag)(hv:db x=aa (.type T))(ha:PA X (e::es) t)(hn:x≠"__name__":=by decide)(hdb:(x == ("__debug__" : bB))=am:=by decide)
  (he:aH (e::es) X.env=(am,cD e X.env)::aH es X.env:=by rfl)(hpl:(dW pos<|aH es X.env).any (·.1)=am:=by rfl):PE X (.Call (.Name x p) (e::es) [] pos) (tCB r t):=by
 intro pq s Z H Q I h;refine eW<|Xd I hg hm hv ?_ hn hdb;exact cM (thn (ha pos pq s Z H _ I h)<|by rintro us s1 ⟨vs,H1,I1,r1,q1⟩;exact hc pq s1 Z H1 vs us Q I1 r1 q1) he hpl
end
end L2
namespace HT
open PySem PyProof.Rows
section
variable{prog:bG}{w:b0}{A:cZ}{E:ap->ax->Prop}{s:ax}
def ZaM{Q:ap->ax->Prop}(ht:oY s.heap t vs.toArray)(hb:oY s.heap b ws.toArray)(hv:vs≠[])
  (h1:ws=[]->Q (.ref t) s)(h2:ws≠[]->Q (.ref s.heap.objs.size) {s with heap:=s.heap.push {cls:=.type "tuple",data:=.seq (vs++ws).toArray}})
  (hsz:vs.length+ws.length<=bi):aX (aS prog w) A (ei .Add (.ref t)<|.ref b) Q E s:=by
 obtain⟨⟨cls,dd,data,sl⟩,ho,hc,n,hd⟩:=id ht;obtain⟨⟨cls2,dd2,data2,sl2⟩,ho2,hc2,n2,hd2⟩:=id hb;simp only at hc hd hc2 hd2;subst hc hd hc2 hd2;have e:vs.toArray++ws.toArray=(vs++ws).toArray:=by simp
 by_cases hw:ws=[]
 .exact mC #[_,ho,rfl] #[_,ho2,rfl] kl lQ gn f9 (fN _ _)
   (tuple_addW1 t b vs.toArray ws.toArray n n2 dd dd2 sl sl2 (by simpa using hv)<|by simp[hw]) #[ho,ho2,h1 hw]
 .refine mC #[_,ho,rfl] #[_,ho2,rfl] kl lQ gn f9 (fN _ _)
   (tuple_addW2 t b vs.toArray ws.toArray n n2 dd dd2 sl sl2 (by simpa using hv) (by simpa using hw)<|by rw[ay,ay];exact hsz) #[ho,ho2,?_]
  rw[e];exact h2 hw
noncomputable def sIx(n d:Nat):Option Int->Nat
 |none=>d
 |some v=>if v<0 then(v+(n:Int)).toNat else oK v.toNat n
theorem Zcy(n d:Nat)(hd:d<=n)(o:Option Int):sIx n d o<=n:=by
 cases o with
 |none=>exact hd
 |some v=>
  show(if v<0 then(v+(n:Int)).toNat else oK v.toNat n)<=n
  by_cases hv:v<0
  .rw[T9 hv];lia
  .rw[T8 hv];exact Nat.min_le_right _ _
theorem yB(v:Int)(n d:Nat):(if v<0 then max (v+(n:Int)) 0 else oK v (n:Int))=((sIx n d (aa v):Nat):Int):=by
 show(if v<0 then max (v+(n:Int)) 0 else oK v (n:Int))=(((if v<0 then(v+(n:Int)).toNat else oK v.toNat n):Nat):Int)
 by_cases hv:v<0
 .simp only[T9 hv];lia
 .simp only[T8 hv];lia
theorem zy(lo hi:Option Int)(n:Nat):fH lo hi 1 (n:Int)=(((sIx n 0 lo:Nat):Int),((sIx n n hi:Nat):Int)):=by
 have h1:¬((1:Int)<0):=by lia
 unfold fH;simp only[h1,if_false];refine Prod.ext ?_ ?_
 .cases lo with|none=>rfl|some v=>exact yB v n 0
 .cases hi with|none=>rfl|some v=>exact yB v n n
theorem zU(i j:Nat):d7 (i:Int) (j:Int) 1=j-i:=by
 unfold d7;have h1:(1:Int)>0:=by lia
 simp only[h1,if_true,Int.ediv_one];split<;>lia
def Uz{Q:Option Int->ax->Prop}(p:kF v o)(h:Q o s):aX (aS prog w) A (dr.Slice.slicePartIndex v) Q E s:=by
 cases p with|none=>exact slicePart_none h|int i t=>exact slicePart_int h
def YZ{sl:aL}{vl vu:ap}{lo hi:Option Int}{n:Nat}{Q:Int×Int×Nat->ax->Prop}(hs:s.heap.IsSliceOf sl vl vu .none)(pl:kF vl lo)(pu:kF vu hi)
  (h:Q (((sIx n 0 lo:Nat):Int),1,sIx n n hi-sIx n 0 lo) s):aX (aS prog w) A (dr.Slice.sliceApplied (.ref sl)<|c6 (n:Int)) Q E s:=by
 obtain⟨os,hos,hcs,hds⟩:=id hs;refine ab<|ab<|c9 hos hds rfl<|ab<|c9 hos hds rfl<|ab<|c9 hos hds rfl<|aq ?_;refine ab<|slicePart_none ?_;show aX _ _ (if((1:Int) == 0)=ai then _ else _) _ _ s
 rw[T8 (by decide)]
 refine ab<|Uz pl<|ab<|Uz pu<|ab<|aq ?_;show aX _ _ (match fH lo hi 1 (n:Int)with|(lo,hi)=>c6 (lo,(1:Int),d7 lo hi 1)) _ _ s
 rw[zy lo hi n];show aX _ _ (c6 (((sIx n 0 lo:Nat):Int),(1:Int),d7 ((sIx n 0 lo:Nat):Int) ((sIx n n hi:Nat):Int) 1)) _ _ s;rw[zU];exact aq h
theorem ub(xs:Array ap)(i k:Nat):((az k).filterMap λ(m:Nat)=>xs[((i:Int)+(m:Int)*1).toNat]?).toArray=((xs.toList.drop i).take k).toArray:=by
 have e:(λ(m:Nat)=>xs[((i:Int)+(m:Int)*1).toNat]?)=λm=>xs[i+m]?:=by
  funext m
  have:((i:Int)+(m:Int)*1).toNat=i+m:=by lia
  rw[this]
 rw[e];have:=pick_run xs i k;rw[List.filterMap_map]at this;have e2:((λx=>xs[x]?)∘λx=>i+x)=λm=>xs[i+m]?:=rfl
 rw[e2]at this;rw[this]
theorem WO{t sl:aL}{items:Array ap}{vl vu:ap}{lo hi:Option Int}{Q:ap->ax->Prop}(ht:oY s.heap t items)(hs:s.heap.IsSliceOf sl vl vu .none)(pl:kF vl lo)(pu:kF vu hi)
  (hw:¬(sIx items.size 0 lo=0/\sIx items.size items.size hi=items.size))
  (h:Q (.ref s.heap.objs.size) {s with heap:=s.heap.push {cls:=.type "tuple",data:=.seq ((items.toList.drop<|sIx items.size 0 lo).take<|sIx items.size items.size hi-sIx items.size 0 lo).toArray}})
  (hsz:items.size<=bi):aX (aS prog w) A (lD (.ref t)<|.ref sl) Q E s:=by
 have htake:sizeOk (.seq ((items.toList.drop<|sIx items.size 0 lo).take<|sIx items.size items.size hi-sIx items.size 0 lo).toArray):=by
  show((items.toList.drop<|sIx items.size 0 lo).take<|sIx items.size items.size hi-sIx items.size 0 lo).toArray.size<=bi;rw[ay,bw,bx,aF];lia
 have hj:sIx items.size items.size hi<=items.size:=Zcy _ _ (aN _) hi;obtain⟨os,hos,hcs,hds⟩:=id hs;have hTs:s.TypeIs (.ref sl) "slice":=#[os,hos,hcs];unfold lD
 try with_reducible refine bH ?_
 first|refine ab<|aq ?_|skip
 refine ab<|mD ht.typeIs (by decide) ?_
 refine ab (cx ht.typeIs dA
  (bW dA ht.typeIs lH ?_<|mj _ _))
 show aX _ _ (iw (.ref t) >>= _) _ _ s;refine ab<|tupleItemsOf_ ht ?_;refine ab<|h8 hTs ?_;rw[T9 (by decide)]
 refine ab<|YZ hs pl pu ?_;have hno:¬((((sIx items.size 0 lo:Nat):Int) == 0&&(1:Int) == 1&&(sIx items.size items.size hi-sIx items.size 0 lo) == items.size)=ai):=by
  intro q;rw[aA,aA]at q;have q1:=eM q.1.1;have q2:=eM q.2;exact hw #[by lia,by lia]
 show aX _ _ (if(((sIx items.size 0 lo:Nat):Int) == 0&&(1:Int) == 1&&(sIx items.size items.size hi-sIx items.size 0 lo) == items.size)=ai then _ else _) _ _ s
 rw[T8 hno,ub]
 first
  |exact ab<|bQ (aq #[_,rfl,aq h]) htake
  |exact ab<|bQ (ab<|aq<|aq #[_,rfl,aq h]) htake
  |exact ab<|ab<|bQ (aq<|aq #[_,rfl,aq h]) htake
  |exact ab<|ab (m:=dr.Tuple.tupleExact _)<|bQ (aq #[_,rfl,aq h]) htake
end
end HT
namespace L2
open PySem PySem.Spec PyProof.Rows
abbrev TO:=St->Hp->(Option Int->Hp->Prop)->Prop
def PO(X:Cx)(e:Option Expr)(t:TO):Prop:=
 ∀(pq:List (aL×fw))(s:ax)(Z:St)(H:Hp)(Q:Option Int->Hp->Prop),Inv X pq Z H s->t Z H Q->
  aX (aS X.prog X.w) X.A (evalPart e X.env) (λu s'=>∃o H',Inv X pq Z H' s'/\kF u o/\Q o H') X.xe s
def jn:TO:=λ_ H Q=>Q ag H
def ZdG(t:TE):TO:=λZ H Q=>t Z H λx H1=>∃i,x=.int i/\Q (aa i) H1
section
variable{X:Cx}{e:Expr}{te:TE}{lo hi:Option Expr}{tl th:TO}{pos p2:gW}
def jk:PO X ag jn:=by
 intro pq s Z H Q I h;rw[evalPart_none];exact aq #[ag,H,I,.none,h]
def Zs(h:PE X e te):PO X (aa e) (ZdG te):=by
 intro pq s Z H Q I hw;rw[evalPart_some];refine thn (h pq s Z H _ I hw) λu s1 #[x,H1,I1,r1,q1]=>?_
 obtain⟨i,rfl,q⟩:=q1;obtain⟨t,rfl⟩:=r1;exact#[aa i,H1,I1,.int i t,q]
def SlR(X:Cx)(r:V->Option Int->Option Int->Hp->VK->Prop):Prop:=
 ∀(pq:List (aL×fw))(s:ax)(Z:St)(H:Hp)(x:V)(v vl vu:ap)(lo hi:Option Int)(sl:aL)(Q:VK),Inv X pq Z H s->Zx x v->s.heap.IsSliceOf sl vl vu .none->kF vl lo->kF vu hi->r x lo hi H Q->
  ∃T id,typeLookup (.type T) "__getitem__" = c6 (aa<|.builtin id)/\s.TypeIs v T/\aX (aS X.prog X.w) X.A (lD v<|.ref sl) (EP X pq Z Q) X.xe s
def SlR.or{r r':V->Option Int->Option Int->Hp->VK->Prop}(h:SlR X r)(h':SlR X r'):SlR X (λx lo hi H Q=>r x lo hi H Q\/r' x lo hi H Q):=by
 intro pq s Z H x v vl vu lo hi sl Q I rx hs pl pu q;rcases q with q|q
 .exact h pq s Z H x v vl vu lo hi sl Q I rx hs pl pu q
 .exact h' pq s Z H x v vl vu lo hi sl Q I rx hs pl pu q
def tSl(r:V->Option Int->Option Int->Hp->VK->Prop)(te:TE)(tl th:TO):TE:=λZ H Q=>te Z H λx H1=>tl Z H1 λl H2=>th Z H2 λu H3=>r x l u H3 Q
def qi{r:V->Option Int->Option Int->Hp->VK->Prop}(hr:SlR X r)(he:PE X e te)(hl:PO X lo tl)(hu:PO X hi th):PE X (.Subscript e (.Slice lo hi ag p2) pos) (tSl r te tl th):=by
 intro pq s Z H Q I h;refine Subscript_<|thn (he pq s Z H _ I h) λv s1 #[x,H1,I1,r1,q1]=>?_
 refine wpAny_Slice<|thn (hl pq s1 Z H1 _ I1 q1) λvl s2 #[l,H2,I2,pl,q2]=>thn (hu pq s2 Z H2 _ I2 q2) λvu s3 #[u,H3,I3,pu,q3]=>?_
 rw[evalPart_none];refine aq ?_;have I4:Inv X pq Z H3 {s3 with heap:=s3.heap.push {cls:=.type "slice",data:=.fields [vl,vu,.none].toArray}}:=I3.kept (t':=s3.toks) λb ob q=>au _ q
 obtain⟨T,id,hT,ht,hg⟩:=hr pq {s3 with heap:=s3.heap.push {cls:=.type "slice",data:=.fields [vl,vu,.none].toArray}} Z H3 x v vl vu l u s3.heap.objs.size Q I4 r1 (ck.IsSliceOf.new ..) pl pu q3
 exact tail_any ht hT hg (by with_unfolding_all rfl)
noncomputable def Y2(xs:List V)(lo hi:Option Int):List V:=(xs.drop<|HT.sIx xs.length 0 lo).take<|HT.sIx xs.length xs.length hi-HT.sIx xs.length 0 lo
theorem VH(xs:List V)(lo hi:Option Int):(Y2 xs lo hi).length<=xs.length:=by
 unfold Y2;rw[bw,bx];lia
def ZeE(K:ao):V->Option Int->Option Int->Hp->VK->Prop:=λx lo hi H Q=>∃a xs,x=.ref a/\SqT K H a xs/\
 ¬(HT.sIx xs.length 0 lo=0/\HT.sIx xs.length xs.length hi=xs.length)/\∀p,H p=ag->Q (.ref p) (upd H p<|.tup<|Y2 xs lo hi)
def Zb5:SlR X (ZeE X.K):=by
 intro pq s Z H x v vl vu lo hi sl Q I rx hs pl pu h;obtain⟨a,xs,rfl,hx,hw,q⟩:=h;cases rx;obtain⟨its,r,ht,hz⟩:=I.tuple hx;have hlen:its.toArray.size=xs.length:=by rw[ay];exact r.length.symm
 refine#["tuple",_,dA.lookup,ht.typeIs,?_];refine HT.WO ht hs pl pu (by rw[hlen];exact hw) ?_ (by rw[hlen];exact hz)
 rw[hlen];refine#[.ref s.heap.objs.size,_,I.laid (t':=s.toks) (λb ob q=>au _ q) (aN _) ?_,rfl,q _<|I.hok.fresh<|aN _]
 exact#[cp (VH xs lo hi) hz,_,(r.drop<|HT.sIx xs.length 0 lo).take<|HT.sIx xs.length xs.length hi-HT.sIx xs.length 0 lo,km _ _]
def Zbt(K:ao):R2:=λx y H Q=>∃a b xs ys,x=.ref a/\y=.ref b/\SqT K H a xs/\SqT K H b ys/\xs≠[]/\xs.length+ys.length<=bi/\
 (ys=[]->Q (.ref a) H)/\(ys≠[]->∀p,H p=ag->Q (.ref p) (upd H p<|.tup<|xs++ys))
def Vals.nil_iff(r:Vals xs us):us=[]↔xs=[]:=by
 cases r with|nil=>simp|cons _ _=>simp
def Zap:OpR X (ei .Add) (Zbt X.K):=by
 intro pq s Z H x y v u Q I rx ry h;obtain⟨a,b,xs,ys,rfl,rfl,ha,hb,hx,hz,q1,q2⟩:=h;cases rx;cases ry;obtain⟨its,r1,p1,_⟩:=I.tuple ha;obtain⟨its2,r2,p2,_⟩:=I.tuple hb;refine HT.ZaM p1 p2 (λz=>hx<|r1.nil_iff.mp z) (λz=>#[.ref a,H,I,rfl,q1<|r2.nil_iff.mp z]) (λz=>?_) (by rw[<-r1.length,<-r2.length];exact hz)
 refine#[.ref s.heap.objs.size,_,I.laid (t':=s.toks) (λb ob q=>au _ q) (aN _) ?_,rfl,q2 (λw=>z<|r2.nil_iff.mpr w) _<|I.hok.fresh<|aN _]
 exact#[by rw[ba];exact hz,_,r1.append r2,km _ _]
end
noncomputable def ixN(n:Nat)(i:Int):Option Nat:=if 0<=i then(if i<n then aa i.toNat else ag)else if -(n:Int)<=i then aa (i+n).toNat else ag
noncomputable def atI{B:Type}(xs:List B)(i:Int):Option B:=(ixN xs.length i).bind λj=>xs[j]?
def yo(h:ixN n i=aa j):seqIndex? i n=aa j/\j<n/\-(n:Int)<=i/\i<n:=by
 unfold ixN at h;by_cases h0:0<=i
 .rw[T9 h0]at h
  by_cases h1:i<n
  .rw[T9 h1]at h
   have e:=ak h;exact#[by rw[nF h0 h1,e],by lia,by lia,h1]
  .rw[T8 h1]at h;cases h
 .rw[T8 h0]at h
  by_cases h1:-(n:Int)<=i
  .rw[T9 h1]at h
   have e:=ak h;exact#[by rw[mE (by lia) h1,e],by lia,h1,by lia]
  .rw[T8 h1]at h;cases h
def yT{B:Type}{xs:List B}{i:Int}{v:B}(h:atI xs i=aa v):∃j,seqIndex? i xs.length=aa j/\xs[j]?=aa v/\j<xs.length/\-(xs.length:Int)<=i/\i<xs.length:=by
 unfold atI at h;cases e:ixN xs.length i with
 |none=>rw[e]at h;cases h
 |some j=>
  rw[e]at h;obtain⟨h1,h2,h3,h4⟩:=yo e;exact#[j,h1,h,h2,h3,h4]
def xq(b:Expr):Prop:=∀o i,subscripted b am o i=operate [o,i] (lD o i)
def IxR(X:Cx)(r:R2):Prop:=
 ∀(value slice:Expr)(pq:List (aL×fw))(s:ax)(Z:St)(H:Hp)(x y:V)(v u:ap)(Q:VK),Inv X pq Z H s->Zx x v->Zx y u->r x y H Q->
  subscripted slice am v u=operate [v,u] (lD v u)->aX (aS X.prog X.w) X.A (subscriptTail value slice v u) (EP X pq Z Q) X.xe s
def MtR(X:Cx)(id:String)(r:V->List V->Hp->VK->Prop):Prop:=
 ∀(pq:List (aL×fw))(s:ax)(Z:St)(H:Hp)(x:V)(xs:List V)(v:ap)(us:List ap)(Q:VK),Inv X pq Z H s->Zx x v->Vals xs us->r x xs H Q->
  aX (aS X.prog X.w) X.A (call (.builtin id) (v::us)) (EP X pq Z Q) X.xe s
section
variable{X:Cx}{a b:Expr}{ta tb:TE}{pos:gW}
def IxR.or(h:IxR X r)(h':IxR X r'):IxR X (λx y H Q=>r x y H Q\/r' x y H Q):=by
 intro value slice pq s Z H x y v u Q I rx ry q hs;rcases q with q|q
 .exact h value slice pq s Z H x y v u Q I rx ry q hs
 .exact h' value slice pq s Z H x y v u Q I rx ry q hs
def qT(hr:IxR X r)(ha:PE X a ta)(hb:PE X b tb)(hs:xq b):PE X (.Subscript a b pos) (tOp r ta tb):=by
 intro pq s Z H Q I h;exact Subscript_<|Zc0 ha hb I h λv u s2 x y H2 I2 rx ry q=>hr a b pq s2 Z H2 x y v u Q I2 rx ry q<|hs _ _
def Zei(K:ao):R2:=λx y H Q=>∃p xs i v,x=.ref p/\y=.int i/\SqL K H p xs/\atI xs i=aa v/\Q v H
def Zeo(K:ao):R2:=λx y H Q=>∃p xs i v,x=.ref p/\y=.int i/\SqT K H p xs/\atI xs i=aa v/\Q v H
theorem Je:IxR X (Zei X.K):=by
 intro value slice pq s Z H x y v u Q I rx ry h hs;obtain⟨p,xs,i,z,rfl,rfl,hq,he,q⟩:=h;cases rx;obtain⟨t,rfl⟩:=ry;obtain⟨its,r,pl,hz⟩:=I.list hq;obtain⟨j,h1,h2,h3,h4,h5⟩:=yT he;obtain⟨w,ew,rw'⟩:=r.get h2;have hl:=r.length;have hn:=UD;have fin:EP X pq Z Q w s:=#[z,H,I,rw',q];by_cases h0:0<=i
 .have hj:i.toNat=j:=by
   rw[nF h0 h5]at h1;exact ak h1
  exact item_listR pl.isList h0 (by lia) (by rw[hj];simpa using ew) fin hs
 .have hj:(i+(its.toArray.size:Int)).toNat=j:=by
   rw[mE (by lia) h4]at h1
   rw[ay,<-hl];exact ak h1
  exact kG pl.isList.typeIs slot_list_getitem.lookup
   (wpAny_getItem_list_neg pl.isList (by lia) (by rw[ay]<;>lia) (by lia) (by rw[hj];simpa using ew) #[rfl,fin]) hs
theorem ZbU:IxR X (Zeo X.K):=by
 intro value slice pq s Z H x y v u Q I rx ry h hs;obtain⟨p,xs,i,z,rfl,rfl,hq,he,q⟩:=h;cases rx;obtain⟨t,rfl⟩:=ry;obtain⟨its,r,pl,hz⟩:=I.tuple hq;obtain⟨j,h1,h2,h3,h4,h5⟩:=yT he;obtain⟨w,ew,rw'⟩:=r.get h2;have hl:=r.length;have hn:=UD;have fin:EP X pq Z Q w s:=#[z,H,I,rw',q];exact kG pl.typeIs slot_tuple_getitem.lookup
  (getItem_tuple pl (by lia) (by lia) (by rw[ay,<-hl];exact h1) (by simpa using ew) #[rfl,fin]) hs
def yg(its:List ap)(n j:Nat)(u:ap):eG (·.setIfInBounds j u) {cls:=.type "list",data:=.seq its.toArray n}={cls:=.type "list",data:=.seq (its.set j u).toArray n}:=by
 simp[eG]
theorem Inv.lst{pq:List (aL×fw)}{Z:St}{H:Hp}{s:ax}{p:aL}{xs:List V}(I:Inv X pq Z H s)(h:H p=aa (.lst xs)) :
  ∃(its:List ap)(n:Nat),Vals xs its/\s.heap.get? p=aa {cls:=.type "list",data:=.seq its.toArray n}/\xs.length<=bi:=by
 obtain⟨z,its,n,r,e⟩:=I.hok p _ h;exact#[its,n,r,e,z]
def Inv.lstUpd{pq:List (aL×fw)}{Z:St}{H:Hp}{s:ax}{p:aL}{xs ys:List V}{its its':List ap}{n n':Nat}{f:fw->fw}(I:Inv X pq Z H s)(h:H p=aa (.lst xs))
  (ho:s.heap.get? p=aa {cls:=.type "list",data:=.seq its.toArray n})(hf:f {cls:=.type "list",data:=.seq its.toArray n}={cls:=.type "list",data:=.seq its'.toArray n' })(r:Vals ys its')(hz:ys.length<=bi)(t:Nat) :
  Inv X pq Z (upd H p<|.lst ys) {s with heap:=s.heap.update p f,toks:=t}:=by
 have e:(s.heap.update p f).get? p=aa {cls:=.type "list",data:=.seq its'.toArray n' }:=by
  rw[dB f ho (by rw[hf]<;>rfl),hf]
 refine I.write (by rw[h];trivial) (.inl rfl) (λb u hb q=>(kH _ _<|Ne.symm hb).trans q) #[_,e] ?_
 exact#[hz,its',n',r,e]
def ZdK:V->V->V->Hp->(Hp->Prop)->Prop:=λo i v H Q=>∃p xs k j,o=.ref p/\i=.int k/\H p=aa (.lst xs)/\ixN xs.length k=aa j/\Q (upd H p<|.lst<|xs.set j v)
theorem uZ:PSet X ZdK:=by
 intro pq s Z H o i v ov iv u Q I ro ri rv h;obtain⟨p,xs,k,j,rfl,rfl,hp,hj,q⟩:=h;cases ro;obtain⟨t,rfl⟩:=ri;obtain⟨its,n,r,ho,hz⟩:=I.lst hp;obtain⟨h1,h2,h3,h4⟩:=yo hj;have hl:=r.length;have hn:=UD;have I':=
  I.lstUpd hp ho (yg its n j u) (r.set rv j) (by rw[bZ];exact hz) s.toks
 by_cases h0:0<=k
 .have hk:k.toNat=j:=by
   rw[nF h0 h4]at h1;exact ak h1
  exact PySem.W.ki_setAt ho h0 (by lia) (by rw[ay,<-hl];exact h4) (by rw[hk];exact#[_,I',q])
 .have hk:(k+(its.toArray.size:Int)).toNat=j:=by
   rw[mE (by lia) h3]at h1
   rw[ay,<-hl];exact ak h1
  exact PySem.W.ki_setBack ho (by lia) (by rw[ay,<-hl];exact h3) (by lia) (by rw[hk];exact#[_,I',q])
theorem QW(lo hi:Option Int)(n:Nat):(ga lo hi ag n).1=((HT.sIx n 0 lo:Nat):Int)/\(ga lo hi ag n).2.1=((HT.sIx n n hi:Nat):Int)/\(ga lo hi ag n).2.2=1:=by
 refine#[?_,?_,rfl]
 .cases lo with
  |none=>simp[ga,HT.sIx]
  |some i=>
   simp only[ga,HT.sIx,nc,show(1:Int)>0 by decide,if_true]
   by_cases h:i<0
   .simp only[h,if_true]<;>lia
   .simp only[h,if_false]<;>lia
 .cases hi with
  |none=>simp[ga,HT.sIx]
  |some i=>
   simp only[ga,HT.sIx,nc,show(1:Int)>0 by decide,if_true]
   by_cases h:i<0
   .simp only[h,if_true]<;>lia
   .simp only[h,if_false]<;>lia
def UI(its:List ap)(lo hi:Option Int):slicePick its.toArray lo hi ag=((its.drop<|HT.sIx its.length 0 lo).take<|HT.sIx its.length its.length hi-HT.sIx its.length 0 lo).toArray:=by
 obtain⟨h1,h2,h3⟩:=QW lo hi its.toArray.size;unfold slicePick;rw[h1,h2,h3];simp only[sliceRange_one,pick_run,ay]<;>rfl
def Zev(K:ao):V->Option Int->Option Int->Hp->VK->Prop:=λx lo hi H Q=>∃a xs,x=.ref a/\SqL K H a xs/\∀p,H p=ag->Q (.ref p) (upd H p<|.lst<|Y2 xs lo hi)
theorem ju:SlR X (Zev X.K):=by
 intro pq s Z H x v vl vu lo hi sl Q I rx hs pl pu h;obtain⟨a,xs,rfl,hx,q⟩:=h;cases rx;obtain⟨its,r,ht,hz⟩:=I.list hx;have hlen:=r.length;refine#["list",_,slot_list_getitem.lookup,ht.isList.typeIs,?_];refine wpAny_getItem_list_slice ht.isList hs pl pu .none (by simp) ?_ (by rw[ay]<;>lia)
 rw[UI,<-hlen];refine#[.ref s.heap.objs.size,_,I.laid (t':=s.toks) (λb ob q=>au _ q) (aN _) ?_,rfl,q _<|I.hok.fresh<|aN _]
 exact#[cp (VH xs lo hi) hz,_,0,(r.drop<|HT.sIx xs.length 0 lo).take<|HT.sIx xs.length xs.length hi-HT.sIx xs.length 0 lo,aG _ rfl]
noncomputable def yU:V->Bool
 |.non=>ai
 |.bl _=>ai
 |.int _=>ai
 |.str _=>ai
 |_=>am
noncomputable def eqV:V->V->Bool
 |.non,.non=>ai
 |.bl a,.bl b=>a == b
 |.bl a,.int b=>(if a then 1 else 0) == b
 |.int a,.bl b=>a == (if b then 1 else 0)
 |.int a,.int b=>a == b
 |.str a,.str b=>a == b
 |_,_=>am
def Zco{A:cZ}{s:ax}{y x:V}{u v:ap}(ry:Zx y u)(rx:Zx x v)(fy:yU y=ai)(fx:yU x=ai):gH A s u v (eqV y x):=by
 cases y with
 |non=>
  cases ry;cases x with|non=>cases rx;exact gX _|bl b=>cases rx;exact gH.none_bool b|int b=>obtain⟨t,rfl⟩:=rx;exact gH.none_int b t|str b=>obtain⟨t,rfl⟩:=rx;exact gH.none_str b t|_=>exact T7 (fx) aM
 |bl a=>
  cases ry;cases x with|non=>cases rx;exact gH.bool_none a|bl b=>cases rx;exact gH.bool_bool a b|int b=>obtain⟨t,rfl⟩:=rx;exact gH.bool_int a b t|str b=>obtain⟨t,rfl⟩:=rx;exact gH.bool_str a b t|_=>exact T7 (fx) aM
 |int a=>
  obtain⟨t',rfl⟩:=ry;cases x with|non=>cases rx;exact gH.int_none a t'|bl b=>cases rx;exact gH.int_bool a t' b|int b=>obtain⟨t,rfl⟩:=rx;exact ml a t' b t|str b=>obtain⟨t,rfl⟩:=rx;exact l7 a t' b t|_=>exact T7 (fx) aM
 |str a=>
  obtain⟨t',rfl⟩:=ry;cases x with|non=>cases rx;exact gH.str_none a t'|bl b=>cases rx;exact gH.str_bool a t' b|int b=>obtain⟨t,rfl⟩:=rx;exact l8 a t' b t|str b=>obtain⟨t,rfl⟩:=rx;exact gH.str_str a t' b t|_=>exact T7 (fx) aM
 |_=>exact T7 (fy) aM
theorem Jr:ZH X (.builtin "len") (λxs H Q=>∃p ys,xs=[.ref p]/\(SqL X.K H p ys\/SqT X.K H p ys)/\Q (.int ys.length) H):=by
 intro pq s Z H xs us Q I r h;obtain⟨p,ys,rfl,hq,q⟩:=h;obtain⟨u,rfl,rx⟩:=X2 r;cases rx;have hn:=UD;rcases hq with hq|hq
 .obtain⟨its,r',pl,hz⟩:=I.list hq
  have hlen:=r'.length;exact Calls.call_len_list pl.isList (by simp only[ay]<;>lia) #[.int ys.length,H,I.tok _,#[s.toks+1,by rw[ay,hlen]],q]
 .obtain⟨its,r',pl,hz⟩:=I.tuple hq
  have hlen:=r'.length;exact len_tuple pl (by simp only[ay]<;>lia) #[.int ys.length,H,I.tok _,#[s.toks+1,by rw[ay,hlen]],q]
theorem UP:ZH X (.type "tuple") (λxs H Q=>∃p ys,xs=[.ref p]/\((SqL X.K H p ys/\∀l,H l=ag->Q (.ref l) (upd H l<|.tup ys))\/(SqT X.K H p ys/\Q (.ref p) H))):=by
 intro pq s Z H xs us Q I r h;obtain⟨p,ys,rfl,h⟩:=h;obtain⟨u,rfl,rx⟩:=X2 r;cases rx;rcases h with⟨hq,q⟩|⟨hq,q⟩
 .obtain⟨its,r',pl,hz⟩:=I.list hq
  have hlen:=r'.length;refine call_tuple_list pl.isList (λh' kp=>?_) (by simp only[ay]<;>lia)
  have I1:=I.kept (t':=s.toks) kp
  have I2:=
   I1.laid (t':=s.toks) (λb o e=>au _ e) (aN _) (show Ym X.prog X.w _ _ _ (.tup ys)from#[hz,its,r',km _ _])
  exact#[.ref h'.objs.size,_,I2,rfl,q _<|I1.hok.fresh<|aN _]
 .obtain⟨its,r',pl,hz⟩:=I.tuple hq
  exact call_tuple_same pl #[.ref p,H,I,rfl,q]
def tyV(K:ao)(T:String)(x:V)(H:Hp):Prop:=match x with
 |.str _=>T = "str"
 |.int _=>T = "int"
 |.ref p=>(T = "list"/\∃xs,SqL K H p xs)\/(T = "tuple"/\∃o,K.lookup p=aa o/\o.cls=.type "tuple"/\o.dict=ag)\/
   (T = "dict"/\((∃kvs,H p=aa (.dK kvs))\/∃kvs,H p=aa (.dT kvs)))\/(T = "set"/\∃S n,H p=aa (.set S n))
 |_=>False
def Zb0(I:Inv X pq Z H s)(r:Zx x v)(ty:tyV X.K T x H) :
  s.TypeIs v T/\∀a,v=.ref a->∃ob,s.heap.get? a=aa ob/\ob.dict=ag:=by
 cases x with
 |str z=>
  obtain⟨t,rfl⟩:=r;cases(ty)
  exact#[typeIs_str s z t,λ_ e=>nomatch e]
 |int i=>
  obtain⟨t,rfl⟩:=r;cases(ty)
  exact#[kI s i t,λ_ e=>nomatch e]
 |ref p=>
  cases r;rcases ty with⟨rfl,xs,hq⟩|⟨rfl,o,hk,hc,hd⟩|⟨rfl,hk⟩|⟨rfl,S,n,hk⟩
  .obtain⟨its,_,pl,_⟩:=I.list hq
   refine#[pl.isList.typeIs,λa e=>?_]
   cases e;obtain⟨o,n,e,c,hd,_⟩:=pl;exact#[o,e,hd]
  .refine#[#[o,I.kIn p o hk,hc],λa e=>?_]
   cases e;exact#[o,I.kIn _ o hk,hd]
  .have z:∃o,s.heap.get? p=aa o/\o.ExactDict:=by
    rcases hk with⟨kvs,hk⟩|⟨kvs,hk⟩
    .obtain⟨_,_,_,_,o,_,_,e,ex,_⟩:=I.hok p _ hk
     exact#[o,e,ex]
    .obtain⟨_,_,_,_,o,_,_,e,ex,_⟩:=I.hok p _ hk
     exact#[o,e,ex]
   obtain⟨o,e,ex⟩:=z;refine#[#[o,e,ex.1],λa e2=>?_]
   cases e2;exact#[o,e,ex.2.1]
  .obtain⟨o,_,_,_,e,ex,_⟩:=I.hok p _ hk
   refine#[#[o,e,ex.1],λa e2=>?_]
   cases e2;exact#[o,e,ex.2.1]
 |_=>exact False.elim ty
def tBM(K:ao)(T:String)(r:V->List V->Hp->VK->Prop)(to:TE)(t:TA):TE:=λZ H Q=>to Z H λx H1=>tyV K T x H1/\t Z H1 λxs H2=>r x xs H2 Q
variable{o e:Expr}{es:List Expr}{to:TE}{t:TA}{name:bB}{apos cpos:gW}{T id:String}{r:V->List V->Hp->VK->Prop}
def Zbh(pa:PlainAttrs T)(slot:Slot T name id)(hty:typeOf (.builtin id)=c6 (.type "method_descriptor"))(hm:MtR X id r)(ho:PE X o to)(ha:PA X (e::es) t)
  (hbase:lR o name X.env (cD o X.env)=cD o X.env:=by rfl)
  (hfew:((dW cpos<|aH (e::es) X.env).all (λx=>!x.1)&&(backToKw cpos<|nG [] X.env).all (λx=>x.1.isSome)
   && af ((e::es).length+([]:List mF).length+(if([]:List mF).isEmpty then 0 else 1)<30))=ai:=by rfl)
  (hline:(apos.endLine == cpos.line)=ai:=by rfl)(hs:aH (e::es) X.env=(am,cD e X.env)::aH es X.env:=by rfl)(hplain:(dW cpos<|aH es X.env).any (·.1)=am:=by rfl) :
  PE X (.Call (.Attribute o name apos) (e::es) [] cpos) (tBM X.K T r to t):=by
 intro pq s Z H Q I h;refine wpAny_Call_method_late hbase hfew hline rfl<|thn (ho pq s Z H _ I h) λv s1 #[x,H1,I1,r1,ty,q1]=>?_
 obtain⟨h1,h2⟩:=Zb0 I1 r1 ty;refine#[T,id,pa,slot,hty,h1,h2,?_];have hA:=ha cpos pq s1 Z H1 _ I1 q1;rw[hs]at hA ⊢;refine Calls.callWith_builtin (by show(am||(dW cpos<|aH es X.env).any (·.1))=am;rw[hplain]<;>rfl)<|Calls.evalArgs_plain ?_
 exact thn hA<|by rintro us s2 ⟨vs,H2,I2,r2,q2⟩;exact hm pq s2 Z H2 x vs v us Q I2 r1 r2 q2
end
def MtM(X:Cx)(id:String)(r:V->List V->Hp->VK->Prop):Prop:=
 ∀(pq:List (aL×fw))(s:ax)(Z:St)(H:Hp)(x:V)(xs:List V)(v:ap)(us:List ap)(Q:VK),Inv X pq Z H s->Zx x v->Vals xs us->r x xs H Q->
  aX (aS X.prog X.w) X.A (call (.builtin id) (v::us)) (EP X pq Z Q) X.xe s
def Vals.one:∀{x:V}{us:List ap},Vals [x] us->∃u,us=[u]/\Zx x u
 |_,_,.cons r .nil=>#[_,rfl,r]
theorem Vals.rep(h:Vals xs us):∀k:Nat,Vals (aD k xs).flatten (aD k us).flatten
 |0=>.nil
 |k+1=>by
  rw[bM,bM,cO,cO];exact Vals.append h<|Vals.rep h k
theorem Vf(its:List ap):∀(k:Nat)(acc:List ap),
  List.foldl (λx1 x2=>x1++x2) acc.toArray (aD k its.toArray)=(acc++(aD k its).flatten).toArray
 |0,acc=>by simp
 |k+1,acc=>by
  have e:acc.toArray++its.toArray=(acc++its).toArray:=by simp
  have e2:(acc++its)++(aD k its).flatten=acc++(aD (k+1) its).flatten:=by
   rw[bM,cO,bv]
  rw[<-e2,<-Vf its k (acc++its),<-e,bM,de]
section
variable{X:Cx}{pq:List (aL×fw)}{Z:St}{H:Hp}{s:ax}{l b:aL}{xs ys zs:List V}
def Inv.lset{its its':List ap}{n:Nat}{f:Array ap->Array ap}{t':Nat}(I:Inv X pq Z H s)(hH:H l=aa (.lst xs))
  (e:s.heap.get? l=aa {cls:=.type "list",data:=.seq its.toArray n})(hf:f its.toArray=its'.toArray)(hv:Vals ys its')(hz:ys.length<=bi) :
  Inv X pq Z (upd H l<|.lst ys) {s with heap:=s.heap.update l<|eG f,toks:=t' }:=by
 have q:=PySem.IsL.update e f;rw[hf]at q;refine I.write (by rw[hH];exact trivial) (.inl rfl) (λb' u hb hu=>(kH s.heap (eG f)<|Ne.symm hb).trans hu) #[_,q] ?_
 exact#[hz,its',_,hv,q]
def Inv.lnew(I:Inv X pq Z H s)(hv:Vals ys its)(hz:ys.length<=bi) :
  Inv X pq Z (upd H s.heap.objs.size<|.lst ys) {s with heap:=s.heap.push {cls:=.type "list",data:=.seq its.toArray},toks:=t' }:=
 I.laid (λ_ _ q=>au _ q) (aN _) #[hz,its,0,hv,aG _ rfl]
theorem Inv.fresh(I:Inv X pq Z H s):H s.heap.objs.size=ag:=I.hok.fresh<|aN _
def Inv.lstM(I:Inv X pq Z H s)(hH:H l=aa (.lst xs)):xs.length<=bi/\∃(its:List ap)(n:Nat),Vals xs its/\xs.length=its.length/\s.heap.get? l=aa {cls:=.type "list",data:=.seq its.toArray n}:=by
 obtain⟨z,its,n,r,e⟩:=I.hok l _ hH;exact#[z,its,n,r,r.length,e]
theorem ud(h:n<=bi):fO n=am:=by
 exact T4 (by lia)
end
section
variable{X:Cx}
def Zae:V->List V->Hp->VK->Prop:=λx vs H Q=>∃l xs y,x=.ref l/\vs=[y]/\H l=aa (.lst xs)/\xs.length<bi/\Q .non (upd H l<|.lst<|xs++[y])
theorem Qm:MtM X "list.append" Zae:=by
 intro pq s Z H x vs v us Q I rx rv h;obtain⟨l,xs,y,rfl,rfl,hH,hz,q⟩:=h;cases rx;obtain⟨u,rfl,ru⟩:=rv.one;obtain⟨z,its,n,r,hl,e⟩:=I.lstM hH;refine fY F.slot_list_append #[_,e,rfl] F.entry_list_append (F.args_list_append_2 _ _) (PySem.list_append l its.toArray n u<|by rw[ay];lia) #[e,?_]
 refine#[.non,_,I.lset (its':=its++[u]) hH e (by simp) (r.append<|.cons ru .nil) ?_,rfl,q]
 rw[ba,da];lia
def jN:V->List V->Hp->VK->Prop:=λx vs H Q=>∃l b xs zs,x=.ref l/\vs=[.ref b]/\H l=aa (.lst xs)/\H b=aa (.lst zs)/\xs.length+zs.length<=bi/\Q .non (upd H l<|.lst<|xs++zs)
theorem wz:MtM X "list.extend" jN:=by
 intro pq s Z H x vs v us Q I rx rv h;obtain⟨l,b,xs,zs,rfl,rfl,hH,hB,hz,q⟩:=h;cases rx;obtain⟨u,rfl,ru⟩:=rv.one;cases ru;obtain⟨z,its,n,r,hl,e⟩:=I.lstM hH;obtain⟨z2,its2,n2,r2,hl2,e2⟩:=I.lstM hB;have hsz:its.toArray.size+its2.toArray.size<=bi:=by rw[ay,ay];lia
 have hlong:¬(!its.toArray.isEmpty&&fO (its.toArray.size+its2.toArray.size))=ai:=by
  rw[ud hsz,on];exact aM
 refine fY F.slot_list_extend #[_,e,rfl] F.entry_list_extend (F.args_list_extend_2 _ _)
  (AutoSeq1.list_extend_list_list_0 l its.toArray n b its2.toArray n2 hlong (by rw[ay];lia)<|by lia) #[e,e2,?_]
 refine#[.non,_,I.lset (its':=its++its2) hH e (by simp) (r.append r2) ?_,rfl,q]
 rw[ba];lia
def Zdz:R2:=λx y H Q=>∃l b xs zs,x=.ref l/\y=.ref b/\H l=aa (.lst xs)/\H b=aa (.lst zs)/\xs.length+zs.length<=bi/\∀p,H p=ag->Q (.ref p) (upd H p<|.lst<|xs++zs)
theorem Zcx:OpR X (ei .Add) Zdz:=by
 intro pq s Z H x y v u Q I rx ry h;obtain⟨l,b,xs,zs,rfl,rfl,hH,hB,hz,q⟩:=h;cases rx;cases ry;obtain⟨z,its,n,r,hl,e⟩:=I.lstM hH;obtain⟨z2,its2,n2,r2,hl2,e2⟩:=I.lstM hB;refine PySem.P.add_list e e2 ?_ (by rw[ay,ay];lia)
 have ea:its.toArray++its2.toArray=(its++its2).toArray:=by simp
 rw[ea];exact#[.ref _,_,I.lnew (t':=s.toks) (r.append r2) (by rw[ba];lia),rfl,q _ I.fresh]
def Q4{B:Type}(xs:List B)(k:Nat):(aD k xs).flatten.length=k*xs.length:=by
 induction k with|zero=>simp|succ k ih=>rw[bM,cO,ba,ih,Nat.succ_mul,mG]
end
end L2
namespace Att
open PySem PySem.W PySem.Calls PyProof.Rows
def VI :∀(ns:List Int)(vs:List ap),WellAll P h vs (ns.map WData.int)->gp vs ns:=by
 intro ns
 induction ns with
 |nil=>
  intro vs w;rw[List.map_nil]at w;cases w;exact .nil
 |cons n ns ih=>
  intro vs w;rw[a9]at w;cases w with
  |cons a b=>
   cases a;exact .cons _ _<|ih _ b
def xP{l:OpenLaw}{n:Nat}(hn:l.most=aa n){P:Params}{h:ck}{args:List WData}{vals:List ap}
  (hpre:l.row.toRowW.claim.pre args=ai)(hwl:WellAll P h vals args) :
  ∃a vs ns,vals=[cn a]/\args=[WData.list<|ns.map WData.int]/\h.get? a=aa {cls:=.type "list",data:=.seq vs.toArray}/\gp vs ns/\ns.length<=n:=by
 have hsh:=(pre_splitW hpre).1;have hc:l.pre.holds [] {args:=args}=ai:=(pre_splitW hpre).2;obtain⟨d,r,rfl,h1,h2⟩:=hasAllW_cons hsh;obtain rfl:=hasAllW_nil h2;obtain⟨xs,rfl,h3⟩:=hasW_list h1;obtain⟨ns,rfl⟩:=items_int h3;have hlen:ns.length<=n:=by
  have h4:(WTm.not<|.lt (.lit<|.int (n:Int))<|.len<|.arg 0).holds [] {args:=[.list<|ns.map .int]}=ai:=by
   have h4:=(holds_andW hc).1;rw[hn]at h4;exact h4
  have h5:=condW_of h4<|w_not<|w_lt w_lit<|w_len_list<|w_arg rfl;rw[aw]at h5;refine dC λq=>?_
  have q':(n:Int)<((ns.length:Nat):Int):=by lia
  first
   |(rw[T5 q']at h5;exact T7 h5 (by decide))
   |(simp at h5;lia)
 cases hwl with
 |cons w1 w2=>
  cases w2;cases w1 with|list ho hall=>exact#[_,_,ns,rfl,rfl,ho,VI ns _ hall,hlen]
def wX(l:OpenLaw)(args:List WData):l.row.toRowW.claim.post args (.bool ai) args=ai:=
 postW_of
  (by first|rfl|decide|simp[WShape.has,WShape.arms,WShape.armsAll])
  (w_eq_bool (w_res rfl) w_lit) rfl
def GN{l:OpenLaw}{n:Nat}{q:bG}{loose:List bB}{XP:(bB->Option ap)->ck->Prop}{YP:b0->ck->Prop}{d:DefRec}
  (hn:l.most=aa n)(hdf:d.params.defaults=[])
  (call:∀(w:b0)(s₀ s₁:ax)(mg mb:bB->Option ap)(fa:aL)(o:fw)(pm cd doc:ap)(a:aL)(vs:List ap)(ns:List Int),
   Ground q loose [] XP w s₀ mg mb s₁.heap->YP w s₁.heap->
   s₁.heap.get? fa=aa o->o.data=.func (docDef d.name d.params d.body d.scope pm cd doc)->s₁.heap.CodeRec cd d.name->mg d.name=aa (.ref fa)->
   s₁.heap.get? a=aa {cls:=.type "list",data:=.seq vs.toArray}->gp vs ns->ns.length<=n->s₁.gens = #[]->
   fg (aS l.prog w) lG (.call (.ref fa) #[[.ref a],[]]) (λr s'=>r=.ok (.ret<|.bool ai)/\OldK s₁.heap s'.heap/\s'.os=s₁.os/\iQ s'.gens) s₁) :
  WalkO q loose XP YP l.row.toRowW d [] (λf vs=>oo f vs):=by
 intro w s₀ s₁ mg mb G Y fa o pm cd doc dV kV ho hd hcd hD hmg hg args vals as hpre hlay hrd hwl hlo;obtain rfl:dV=.none:=Dflts.none hD hdf;obtain rfl:kV=.none:=Dflts.noKw hD;obtain⟨a,vs,ns,rfl,rfl,hobj,hints,hlen⟩:=xP hn hpre hwl;refine enter_call<|gl (call w s₀ s₁ mg mb fa o pm cd doc a vs ns G Y ho (fd_plain hd) hcd hmg hobj hints hlen hg) λr s' hq=>?_
 obtain⟨rfl,h2,h3,h4⟩:=hq;exact#[.inl #[.bool ai,.bool ai,[],rfl,λ_=>rfl,.bool ai,wX l _,λ_=>#[gq,λ_ hm=>(nomatch hm)]],h2,h3,h4]
end Att
namespace L2
open PySem PySem.Spec PyProof.Rows
theorem YV:∀{vs:List ap}{ns:List Int},gp vs ns->Vals (ns.map V.int) vs
 |_,_,.nil=>.nil
 |_,_,.cons n t h=>.cons #[t,rfl]<|YV h
def Only(H:Hp):Prop:=∀b,H b=ag\/∃o xs,H b=aa (.frz o<|.lst xs)
def vz{P:bG}{w:b0}{K:ao}{mg mb:bB->Option ap}{CX:CXT}{k:Nat}{fa a:aL}{fd:cS}{x:bB}{sp:Sp}{s₁:ax}{vs:List ap}{ns:List Int}
  (KX:K.In s₁.heap)(hns:s₁.heap.Ns cG mg)(hb:s₁.heap.Ns md mb)(hbb:∀x:bB,x≠"__name__"->mb x=db x)(hlim:s₁.heap.NoLimit)(hg:s₁.gens = #[])
  (ha:s₁.heap.get? a=aa {cls:=.type "list",data:=.seq vs.toArray})(hi:gp vs ns)(hl:ns.length<=bi)(hr:Room k lG)
  (F:∀base:ck,K.In base->base.Ns cG mg->FnOk P w K mg base CX k fa fd [x] sp)(hbind:∀(s:ax)(u:ap),mz s fd #[[u],[]] [(x,u)])
  (hsp:∀H:Hp,Only H->SqL K H a (ns.map V.int)->sp [.ref a] H (λv _=>v=.bl ai) λ_ _ _=>False)
  (hCX:∀H e s',CX [] H s₁ (λ_ _ _=>False) e s'->False) :
  fg (aS P w) lG (.call (.ref fa) #[[.ref a],[]]) (λr s'=>r=.ok (.ret<|.bool ai)/\OldK s₁.heap s'.heap/\s'.os=s₁.os/\iQ s'.gens) s₁:=by
 have rv:=YV hi;have lenV:=hi.length;have core:∀H:Hp,Only H->SqL K H a (ns.map V.int)->HOk P w H s₁.heap->(∀b,H b≠ag->b=a)->(H a≠ag->K.lookup a=ag)->
   fg (aS P w) lG (.call (.ref fa) #[[.ref a],[]]) (λr s'=>r=.ok (.ret<|.bool ai)/\OldK s₁.heap s'.heap/\s'.os=s₁.os/\iQ s'.gens) s₁:=by
  intro H hO hS hok hA hK;have base_of:∀{b:aL}{o:fw},s₁.heap.get? b=aa o->H b=ag->(Jt s₁.heap H).get? b=aa o:=λe n=>uQ e n
  have noA:∀{b:aL}{o:fw}{es:Array fF}{ep:Nat},s₁.heap.get? b=aa o->o.data=.dict es ep->H b=ag:=λ{b o es ep} e d=>by
   cases q:H b with
   |none=>rfl
   |some u=>
    have e':b=a:=hA b (by rw[q];simp)
    subst e';rw[ha]at e;cases e;have d':Data.seq vs.toArray _=Data.dict es ep:=d;cases d'
  have nsK:∀{b:aL}{m:bB->Option ap},s₁.heap.Ns b m->(Jt s₁.heap H).Ns b m:=λ{b m} #[o,es,ep,e,d,r]=>#[o,es,ep,base_of e<|noA e d,d,r]
  have hKb:K.In (Jt s₁.heap H):=λb o e=>base_of (KX b o e) (by
   cases q:H b with
   |none=>rfl
   |some u=>
    have e':b=a:=hA b (by rw[q];simp)
    subst e';rw[hK<|by rw[q];simp]at e;cases e)
  have hM:Mod K mg (Jt s₁.heap H):=#[hKb,nsK hns,#[mb,nsK hb,hbb],let #[mc,h1,h2]:=hlim;#[mc,nsK h1,h2]];have e0:Env0 P w K mg (Jt s₁.heap H) lG [] s₁ H:=#[rfl,hM,λb o e=>jx e,mH<|wd _ _,trivial,λb hb=>T7 (show b∈([]:List aL)from hb) (by simp),hok,.of_eq hg]
  refine gl ((F _ hKb<|nsK hns).run lG [] s₁ H #[[.ref a],[]] [.ref a] [.ref a] _ _ hr e0 (hbind s₁<|.ref a) (.cons rfl .nil)<|hsp H hO hS) λr s' h=>?_
  cases r with
  |error e=>exact(hCX H e s' h).elim
  |ok fl=>
   cases fl with
   |next=>exact False.elim h
   |brk=>exact False.elim h
   |cont=>exact False.elim h
   |ret u=>
    obtain⟨v,H',os,bare,un,hok',r',q⟩:=h;have q':v=.bl ai:=q;subst q';obtain rfl:u=dg ai:=r';refine#[rfl,OldK.of_keep λb o e=>?_,os,bare]
    cases q:H b with
    |none=>exact un.keep b o e q (by intro z;exact T7 (show b∈([]:List aL)from z)<|by simp) (by simp)
    |some u=>
     rcases hO b with z|⟨ob,xs,z⟩
     .rw[q]at z;cases z
     .have z2:=un.frzs b ob _ z
      obtain⟨e1,_⟩:=hok b _ z;obtain⟨e2,_⟩:=hok' b _ z2;rw[e]at e1;cases e1;exact e2
 cases hk:K.lookup a with
 |some o=>
  have e:=KX a o hk;rw[ha]at e;cases e;refine core (λ_=>ag) (λ_=>.inl rfl) (.inr #[_,vs.toArray,_,hk,rfl,rfl,rfl,by rw[ay,lenV];exact hl,by simpa using rv]) (λb u z=>by have z':(ag:Option HO)=aa u:=z;cases z') (λb z=>T7 rfl z) λz=>T7 rfl z
 |none=>
  refine core (λb=>if b=a then aa (.frz {cls:=.type "list",data:=.seq vs.toArray}<|.lst<|ns.map V.int)else ag) (λb=>?_) (.inl<|.inr #[{cls:=.type "list",data:=.seq vs.toArray},T9 rfl]) (λb u z=>?_) (λb z=>?_) λ_=>hk
  .by_cases hb:b=a
   .exact .inr #[_,_,T9 hb]
   .exact .inl<|T8 hb
  .by_cases hb:b=a
   .have z':=(T9 hb).symm.trans z
    cases z';subst hb;exact#[ha,by rw[aw];exact hl,vs,_,rv,ha]
   .have z':=(T8 hb).symm.trans z
    cases z'
  .by_cases hb:b=a
   .exact hb
   .exact T7 (T8 hb) z
def jq{l:kQ}{n k:Nat}{q:bG}{loose:List bB}{XP:(bB->Option ap)->ck->Prop}{YP:b0->ck->Prop}{d:DefRec}{K:Params->ao}{CX:b0->CXT}{sp:b0->Sp}{x:bB}
  (hn:l.most=aa n)(hn2:n<=bi)(hdf:d.params.defaults=[])(hr:Room k lG)
  (hY:∀(w:b0)(h:ck),YP w h->(K w.params).In h)
  (F:∀(w:b0)(mg:bB->Option ap)(fa:aL)(h:ck),(K w.params).In h->h.Ns cG mg->mg d.name=aa (.ref fa)->
   ∃fd:cS,(∀(s:ax)(u:ap),mz s fd #[[u],[]] [(x,u)])/\
    ∀base:ck,(K w.params).In base->base.Ns cG mg->FnOk l.prog w (K w.params) mg base (CX w) k fa fd [x] (sp w))
  (hsp:∀(w:b0)(H:Hp)(a:aL)(ns:List Int),ns.length<=n->Only H->SqL (K w.params) H a (ns.map V.int)->sp w [.ref a] H (λv _=>v=.bl ai) λ_ _ _=>False)
  (hCX:∀(w:b0)(H:Hp)(s:ax)(e:ap)(s':ax),CX w [] H s (λ_ _ _=>False) e s'->False) :
  oN q loose XP YP l.row.toRowW d [] (λf vs=>oo f vs):=by
 refine Att.GN hn hdf λw s₀ s₁ mg mb fa o pm cd doc a vs ns G Y ho hd hcd hmg hobj hints hlen hg=>?_
 have KX:=hY w _ Y;obtain⟨fd,hb,hF⟩:=F w mg fa _ KX G.T.g hmg;exact vz KX G.T.g G.T.b G.T.builtins G.T.nolimit hg hobj hints (cp hlen hn2) hr hF hb (λH hO hS=>hsp w H a ns hlen hO hS) λH e s'=>hCX w H s₁ e s'
noncomputable def YK(s:fK):Arguments:=match s with
 |.FunctionDef _ a _ _ _ _ _ _ _ _=>a
 |_=>{posonlyargs:=[],args:=[],vararg:=ag,kwonlyargs:=[],kw_defaults:=[],kwarg:=ag,defaults:=[]}
noncomputable def Yh(s:fK):List fK:=match s with
 |.FunctionDef _ _ b _ _ _ _ _ _ _=>b
 |_=>[]
noncomputable def Zz(s:fK):eL:=match s with
 |.FunctionDef _ _ _ _ _ _ sc _ _ _=>sc
 |_=>{kind:=.function,names:=[],isGenerator:=am,isCoroutine:=am}
noncomputable abbrev CX0:CXT:=λ_ _ _ _ _ _=>False
noncomputable abbrev E0:XK:=λ_ _ _=>False
def uw{X:Cx}:zP CX0 X E0:=λ_ _ _ _ _ _ _ h=>h.elim
structure Fun(K:ao)(x qual:bB)(st:fK)(f:aL)(fd:cS):Prop where
 ex:∃(oc:ap)(od:Option aL)(kV doc pm:ap)(an:Option aL)(cdv ct:ap)(osl:Array (Option ap)),
  fd=dO x qual (YK st) (Yh st) (Zz st) .none kV doc pm an cdv ct/\K.lookup f=aa #[oc,od,.func fd,osl]/\iu K cdv qual=ai
 kp:fA K (.ref f)=ai
section
variable{P:bG}{w:b0}{K:ao}{mg:bB->Option ap}{base:ck}
def Fun.ok{x qual:bB}{st:fK}{f:aL}{fd:cS}{N ps:List bB}{k:Nat}{sp:Sp}(F:Fun K x qual st f fd)(S:FnScope N ps (Zz st))(len:∀vs H Q E,sp vs H Q E->vs.length=ps.length)
  (hbody:∀(cdv:ap)(A:cZ)(outer:List Env)(s:ax)(H:Hp)(vs:List V)(Q:VK)(E:XK),Room k (A.deeper<|iq qual (Zz st) s.heap.objs.size f cdv)->sp vs H Q E->
   ∃t,PSs (JD CX0 P w K mg base N qual (Zz st) f cdv A outer s H E).nox (Yh st) t/\t {nx:=λ_ H'=>Q .non H',rt:=Q} (start N vs) H):FnOk P w K mg base CX0 (k+1) f fd ps sp:=by
 obtain⟨oc,od,kV,doc,pm,an,cdv,ct,osl,rfl,lk,hcd⟩:=F.ex;refine ZdJ lk hcd S len λA outer s H vs Q E hr hsp=>?_
 obtain⟨t,h,q⟩:=hbody cdv A outer s H vs Q E hr hsp;exact#[t,h.nox,q]
def Fun.binds{x qual:bB}{st:fK}{f:aL}{fd:cS}{ps:List bB}(F:Fun K x qual st f fd)
  (h:∀(kV doc pm:ap)(an:Option aL)(cdv ct:ap)(us:List ap),us.length=ps.length->om (dO x qual (YK st) (Yh st) (Zz st) .none kV doc pm an cdv ct) #[us,[]]=c6 (ps.zip us)):Vq K fd ps []:=by
 obtain⟨oc,od,kV,doc,pm,an,cdv,ct,osl,rfl,lk,hcd⟩:=F.ex;exact .all<|h kV doc pm an cdv ct
def ZbM{x qual:bB}{st:fK}{f:aL}{oc:ap}{od an:Option aL}{osl:Array (Option ap)}{kV doc pm cdv ct:ap}(l:K.lookup f=aa #[oc,od,.func<|dO x qual (YK st) (Yh st) (Zz st) .none kV doc pm an cdv ct,osl])
  (c:iu K cdv qual=ai)(k:fA K (.ref f)=ai):Fun K x qual st f (dO x qual (YK st) (Yh st) (Zz st) .none kV doc pm an cdv ct):=#[#[oc,od,kV,doc,pm,an,cdv,ct,osl,rfl,l,c],k]
end
section
variable{κ:Type}[DecidableEq κ]
noncomputable def VJ(kvs:List (κ×V))(k:κ):Option V:=(kvs.find? λkv=>af<|kv.1=k).map (·.2)
noncomputable def Wc(kvs:List (κ×V))(k:κ)(v:V):List (κ×V):=
 if(kvs.any λkv=>af<|kv.1=k)=ai then kvs.map (λkv=>if kv.1=k then(kv.1,v)else kv)else kvs++[(k,v)]
def Ud{p:κ×V}{r:List (κ×V)}{k:κ}(e:p.1=k):VJ (p::r) k=aa p.2:=by simp[VJ,d9,e]
def Ui{p:κ×V}{r:List (κ×V)}{k:κ}(e:¬p.1=k):VJ (p::r) k=VJ r k:=by simp[VJ,d9,e]
theorem XD(k:κ):∀kvs:List (κ×V),(kvs.any λkv=>af<|kv.1=k)=(VJ kvs k).isSome
 |[]=>rfl
 |p::r=>by
  rw[fP];by_cases e:p.1=k
  .simp only[Ud e,T5 e,Bool.true_or,mm]
  .rw[Ui e,T4 e,iY];exact XD k r
theorem Vs(kvs:List (κ×V))(k:κ)(v:V):(Wc kvs k v).length<=kvs.length+1:=by
 unfold Wc;split
 .rw[aw];lia
 .rw[ba,aK,List.length_nil];lia
def vj{kvs:List (κ×V)}{k:κ}(v:V)(h:VJ kvs k=ag):Wc kvs k v=kvs++[(k,v)]:=by
 unfold Wc;rw[XD,h];exact T8 (by decide)
def zQ.isSome_eq(r:zQ o u):o.isSome=u.isSome:=by
 cases o with
 |none=>cases u with|none=>rfl|some _=>exact(r).elim
 |some _=>cases u with|none=>exact(r).elim|some _=>rfl
def KV.val{kvs:List (κ×V)}{vs:List (κ×ap)}(r:KV kvs vs)(k:κ):zQ (VJ kvs k) (mI vs k):=by
 unfold KV at r
 induction r with
 |nil=>exact cR
 |@cons p q ps qs h t ih=>
  obtain⟨h1,h2⟩:=h;by_cases e:p.1=k
  .have e':=h1.symm.trans e
   have b:mI (q::qs) k=aa q.2:=by simp[mI,d9,e']
   rw[Ud e,b];exact h2
  .have e':¬q.1=k:=λz=>e (h1.trans z)
   have b:mI (q::qs) k=mI qs k:=by simp[mI,d9,e']
   rw[Ui e,b];exact ih
theorem KV.any(r:KV kvs vs)(k:κ):(kvs.any λkv=>af<|kv.1=k)=vs.any λkv=>af (kv.1=k):=by
 unfold KV at r
 induction r with|nil=>rfl|cons h t ih=>rw[fP,fP,ih,h.1]
def KV.repl(r:KV kvs vs)(k:κ)(ry:Zx y u) :
  KV (kvs.map λkv=>if kv.1=k then(kv.1,y)else kv) (vs.map λkv=>if kv.1=k then(kv.1,u)else kv):=by
 unfold KV at r ⊢
 induction r with
 |nil=>exact .nil
 |@cons p q ps qs h t ih=>
  rw[a9,a9];refine .cons ?_ ih;obtain⟨h1,h2⟩:=h;by_cases e:p.1=k
  .rw[T9 e,T9<|h1.symm.trans e];exact#[h1,ry]
  .rw[T8 e,T8 λz=>e<|h1.trans z];exact#[h1,h2]
def KV.put(r:KV kvs vs)(k:κ)(ry:Zx y u):KV (Wc kvs k y) (stored vs k u):=by
 unfold Wc stored;rw[r.any k];by_cases e:(vs.any λkv=>af<|kv.1=k)=ai
 .rw[T9 e,T9 e];exact r.repl k ry
 .rw[T8 e,T8 e];exact Paired.snoc r #[rfl,ry]
theorem KV.length{kvs:List (κ×V)}{vs:List (κ×ap)}(r:KV kvs vs):kvs.length=vs.length:=Paired.length r
end
def yS(r:Zx (kV k) u):(Z3 P w).is k u=ai:=by
 cases k with|inl i=>obtain⟨t,e⟩:=(r);subst e;exact JP P w i t|inr x=>obtain⟨t,e⟩:=(r);subst e;exact JA P w x t
theorem Qo :∀{ks:List Key}{us:List ap},Vals (ks.map kV) us->ItemsAre (Z3 P w) ks us
 |[],_,r=>by rw[List.map_nil]at r;cases r;exact .nil
 |k::ks,_,r=>by
  rw[a9]at r;cases r with|cons h t=>exact .cons (yS h)<|Qo t
abbrev KT(H:Hp):List (List Key×V)->List (List Key×aL×ap)->Prop:=Paired λp q=>p.1=q.1/\H q.2.1=aa (.tup<|p.1.map kV)/\Zx p.2 q.2.2
def KT.val{H:Hp}{kvs:List (List Key×V)}{xs:List (List Key×aL×ap)}(r:KT H kvs xs)(k:List Key):zQ (VJ kvs k) ((oq xs k).map (·.2)):=by
 induction r with
 |nil=>exact cR
 |@cons p q ps qs h t ih=>
  obtain⟨h1,_,h2⟩:=h;by_cases e:p.1=k
  .have e':=h1.symm.trans e
   have b:oq (q::qs) k=aa q.2:=by simp[oq,d9,e']
   rw[Ud e,b];exact h2
  .have e':¬q.1=k:=λz=>e (h1.trans z)
   have b:oq (q::qs) k=oq qs k:=by simp[oq,d9,e']
   rw[Ui e,b];exact ih
def KT.repl{H:Hp}{kvs:List (List Key×V)}{xs:List (List Key×aL×ap)}(r:KT H kvs xs)(k:List Key){y:V}{u:ap}(ry:Zx y u) :
  KT H (kvs.map λkv=>if kv.1=k then(kv.1,y)else kv) (xs.map<|putAt k u):=by
 induction r with
 |nil=>exact .nil
 |@cons p q ps qs h t ih=>
  rw[a9,a9];refine .cons ?_ ih;obtain⟨h1,h2,h3⟩:=h;unfold putAt;by_cases e:p.1=k
  .rw[T9 e,T9<|h1.symm.trans e];exact#[h1,h2,ry]
  .rw[T8 e,T8 λz=>e<|h1.trans z];exact#[h1,h2,h3]
def KT.put{H:Hp}{kvs:List (List Key×V)}{xs:List (List Key×aL×ap)}(r:KT H kvs xs)(k:List Key){b:aL}{y:V}{u:ap}(hb:H b=aa (.tup<|k.map kV))(ry:Zx y u) :
  KT H (Wc kvs k y) (storedH xs k b u):=by
 have e:(kvs.any λkv=>af<|kv.1=k)=(oq xs k).isSome:=by
  rw[XD,(r.val k).isSome_eq,iT]
 unfold Wc storedH;rw[e];by_cases q:(oq xs k).isSome=ai
 .rw[T9 q,T9 q];exact r.repl k ry
 .rw[T8 q,T8 q];exact Paired.snoc r #[rfl,hb,ry]
def KT.keeps{H H':Hp}{kvs:List (List Key×V)}{xs:List (List Key×aL×ap)}(r:KT H kvs xs)(ht:∀b ys,H b=aa (.tup ys)->H' b=aa (.tup ys)):KT H' kvs xs:=
 Paired.mapP r λ_ _ z=>#[z.1,ht _ _ z.2.1,z.2.2]
def Zbb(ok:HOk P w H h)(e:Rd H a u):Ym P w H h a u:=e.ok ok
def uI(ok:HOk P w H h)(e:Rd H a (.dK kvs)):kvs.length<=bi/\(a == c7)=am/\∃vs,KV kvs vs/\h.DictOf (Z3 P w) a vs:=
 Zbb ok e
def ZdM(ok:HOk P w H h)(e:H a=aa (.dK kvs)):kvs.length<=bi/\(a == c7)=am/\∃vs,KV kvs vs/\h.DictOf (Z3 P w) a vs:=uI ok<|.inl e
def Ur(ok:HOk P w H h)(e:H a=aa (.tup<|ks.map kV)):(kj<|Z3 P w).is h ks a:=by
 obtain⟨_,its,r,o,h1,h2,n,h3⟩:=(ok a _ e)
 exact#[o,its.toArray,n,h1,h2,h3,by simpa using Qo r]
def w6(ok:HOk P w H h)(e:Rd H a (.dT kvs)):kvs.length<=bi/\(a == c7)=am/\
  ∃xs,KT H kvs xs/\h.DictOfH (kj<|Z3 P w) a xs:=by
 obtain⟨z,y,xs,r,o,es,ep,h1,h2,h3,h4,h5⟩:=(Zbb ok e)
 refine#[z,y,xs,r,o,es,ep,h1,h2,h3,h4,λx hx=>?_,h5]
 have all:∀{l:List (List Key×V)}{m:List (List Key×aL×ap)},KT H l m->∀x∈m,(kj<|Z3 P w).is h x.1 x.2.1:=by
  intro l m q
  induction q with
  |nil=>intro x hx;exact nomatch hx
  |@cons p q ps qs hq t ih=>
   intro x hx;rcases aB.mp hx with e|hx
   .subst e
    exact Ur ok (by rw[<-hq.1];exact hq.2.1)
   .exact ih x hx
 exact all r x hx
def Zbc{kvs:List (List Key×V)}(ok:HOk P w H h)(e:H a=aa (.dT kvs)):kvs.length<=bi/\(a == c7)=am/\
  ∃xs,KT H kvs xs/\h.DictOfH (kj<|Z3 P w) a xs:=w6 ok<|.inl e
def DGet(H:Hp)(a:aL)(y:V)(r:Option V):Prop:=
 (∃kvs k,Rd H a (.dK kvs)/\y=kV k/\r=VJ kvs k)\/∃kvs k b,Rd H a (.dT kvs)/\y=.ref b/\H b=aa (.tup<|k.map kV)/\r=VJ kvs k
def DPut(H:Hp)(a:aL)(y v:V)(H':Hp):Prop:=
 (∃kvs k,H a=aa (.dK kvs)/\y=kV k/\kvs.length<bi/\H'=upd H a (.dK<|Wc kvs k v))\/
 ∃kvs k b,H a=aa (.dT kvs)/\y=.ref b/\H b=aa (.tup<|k.map kV)/\kvs.length<bi/\H'=upd H a (.dT<|Wc kvs k v)
def DPut.t{H:Hp}{a b:aL}{kvs:List (List Key×V)}{k:List Key}{v:V}(e:H a=aa (.dT kvs))(eb:H b=aa (.tup<|k.map kV))(hl:kvs.length<bi) :
  DPut H a (.ref b) v (upd H a<|.dT<|Wc kvs k v):=.inr #[kvs,k,b,e,rfl,eb,hl,rfl]
def Inv.big(I:Inv X pq Z H s):c7<s.heap.objs.size:=by
 have h:=(I.mod.glob.keeps I.bk).lt;exact dq (by decide) h
def ZeJ{Q:ap->ax->Prop}(hu:A.units+1<dv)(I:Inv X pq Z H s)(g:DGet H a y o)(ry:Zx y u)(h:∀s',Inv X pq Z H s'->Q (.bool o.isSome) s') :
  aX (aS X.prog X.w) A (cF .In u<|.ref a) Q E s:=by
 rcases g with⟨kvs,k,e,ey,l⟩|⟨kvs,k,b,e,ey,eb,l⟩
 .subst ey
  obtain⟨z,hd,vs,rel,dd⟩:=uI I.hok e;refine wpAny_in_of (yS ry) hd dd.mapOf ?_;rw[<-(rel.val k).isSome_eq,<-l];exact h _<|I.tok _
 .subst ey
  cases(ry)
  obtain⟨z,hd,xs,rel,dd⟩:=w6 I.hok e;refine wpAny_in_heap (iz hu) (Ur I.hok eb) hd dd ?_;have q:=(rel.val k).isSome_eq;rw[iT]at q;rw[<-q,<-l];exact h _<|I.tok _
def jw{Q:ap->ax->Prop}(hu:A.units+1<dv)(I:Inv X pq Z H s)(g:DGet H a y o)(ry:Zx y u)(h:∀s',Inv X pq Z H s'->Q (.bool<|!o.isSome) s') :
  aX (aS X.prog X.w) A (cF .NotIn u<|.ref a) Q E s:=by
 rcases g with⟨kvs,k,e,ey,l⟩|⟨kvs,k,b,e,ey,eb,l⟩
 .subst ey
  obtain⟨z,hd,vs,rel,dd⟩:=uI I.hok e;refine wpAny_notIn_of (yS ry) hd dd.mapOf ?_;rw[<-(rel.val k).isSome_eq,<-l];exact h _<|I.tok _
 .subst ey
  cases(ry)
  obtain⟨z,hd,xs,rel,dd⟩:=w6 I.hok e;refine wpAny_notIn_heap (iz hu) (Ur I.hok eb) hd dd ?_;have q:=(rel.val k).isSome_eq;rw[iT]at q;rw[<-q,<-l];exact h _<|I.tok _
def Ju(I:Inv X pq Z H s)(mu:Mut (H a))(hs:dN a s.heap h')(he:∃q,h'.get? a=aa q)(new:Ym X.prog X.w (upd H a ob) h' a ob) :
  Inv X pq Z (upd H a ob) {s with heap:=h',toks:=t' }:=
 I.write mu (.inl rfl) (λb q hb z=>(hs.2 b hb).trans z) he new
def ZcQ(z:kvs.length<=bi)(hd:(a == c7)=am)(rel:KV kvs vs)(dd:h'.DictOf (Z3 P w) a vs) :
  Ym P w H' h' a (.dK kvs):=#[z,hd,vs,rel,dd]
def xJ{H':Hp}{Q:Unit->ax->Prop}(hu:A.units+1<dv)(I:Inv X pq Z H s)(g:DPut H a y v H')(ry:Zx y u)(rv:Zx v r)(h:∀s',Inv X pq Z H' s'->Q () s') :
  aX (aS X.prog X.w) A (oU (.ref a) u r) Q E s:=by
 rcases g with⟨kvs,k,e,ey,l,eH⟩|⟨kvs,k,b,e,ey,eb,l,eH⟩
 .subst ey eH
  obtain⟨z,hd,vs,rel,dd⟩:=ZdM I.hok e;have hz:vs.length<=bi:=by rw[<-rel.length];exact z
  have hl:(Wc kvs k v).length<=bi:=by have:=Vs kvs k v;lia
  refine wpAny_setItem_pairs (hsz:=hz) (yS ry) dd λh' dd' hs=>h _ ?_
  have he:∃q,h'.get? a=aa q:=let #[q,_,_,hq,_]:=dd';#[q,hq];exact Ju I (by rw[e];exact cR) hs he<|ZcQ hl hd (rel.put k rv) dd'
 .subst ey eH
  cases(show u=cn b from ry)
  obtain⟨z,hd,xs,rel,dd⟩:=Zbc I.hok e;have hz:xs.length<=bi:=by rw[<-Paired.length rel];exact z
  have hl:(Wc kvs k v).length<=bi:=by have:=Vs kvs k v;lia
  refine wpAny_setItem_heap (hsz:=hz) (iz hu) (Ur I.hok eb) dd λh' dd' hs=>h _ ?_
  obtain⟨q,es,ep,hq,h2,h3,h4,_,h5⟩:=dd';refine Ju I (by rw[e];exact cR) hs #[q,hq] #[hl,hd,_,(rel.put k eb rv).keeps λc ys ec=>?_,q,es,ep,hq,h2,h3,h4,h5]
  rw[Zl (Zbl ec e (λz=>nomatch z))]
  exact ec
def Zdi(td ty tv:TE):TS:=λD Z H=>tv Z H λv H1=>td Z H1 λx H2=>ty Z H2 λy H3=>∃a H4,x=.ref a/\DPut H3 a y v H4/\D.nx Z H4
section
variable{X:Cx}{o i e value:Expr}{pos pos' tpos:gW}{td ty tv:TE}
def ZaB(hu:X.A.units+1<dv)(ho:PE X o td)(hi:PE X i ty)(hv:PE X value tv)(hs:fD value (aa<|.Subscript o i pos') pos.line X.env=c6 am) :
  PS X (.Assign [.Subscript o i pos'] value pos) (Zdi td ty tv):=by
 intro pq s Z H D I h;refine wpAny_Assign_Subscript (thn (hv pq s Z H _ I h) λr s1 #[v,H1,I1,rv,q1]=>thn (ho pq s1 Z H1 _ I1 q1) λu s2 #[x,H2,I2,rx,q2]=>thn (hi pq s2 Z H2 _ I2 q2) λiv s3 #[y,H3,I3,ry,a,H4,ex,g,q3]=>?_) hs
 subst ex;obtain rfl:u=cn a:=rx;exact xJ hu I3 g ry rv λs4 I4=>#[Z,H4,I4,q3]
end
def qj(h:ck)(hb:c7<h.objs.size):Ym P w H (h.push {cls:=.type "dict",data:=.dict #[]}) h.objs.size (.dT []):=
 #[dz _,beq_eq_false_iff_ne.mpr<|Ne.symm<|bn hb,[],.nil,_,#[],0,aG _ rfl,#[rfl,rfl,rfl],rfl,rfl,ot]
def zu:List (TE×TE)->St->Hp->(List (V×V)->Hp->Prop)->Prop
 |[],_,H,Q=>Q [] H
 |(tk,tv)::r,Z,H,Q=>tk Z H λx H1=>tv Z H1 λy H2=>zu r Z H2 λps H3=>Q ((x,y)::ps) H3
abbrev VV:List (V×V)->List (ap×ap)->Prop:=Paired λp q=>Zx p.1 q.1/\Zx p.2 q.2
def PPs(X:Cx)(pos:gW)(keys:List (Option Expr))(values:List Expr)(trs:List (TE×TE)):Prop:=
 ∀(pq:List (aL×fw))(s:ax)(Z:St)(H:Hp)(Q:List (V×V)->Hp->Prop),Inv X pq Z H s->zu trs Z H Q->
  aX (aS X.prog X.w) X.A (evalPairs<|pairTrees keys values X.env pos) (λvs s'=>∃ps H',Inv X pq Z H' s'/\VV ps vs/\Q ps H') X.xe s
def Za8 :PPs X pos [] [] []:=λpq s Z H Q I h=>pairTrees_nil_walk #[[],H,I,.nil,h]
def v8(hk:PE X k tk)(hv:PE X v tv)(hr:PPs X pos ks vs trs) :
  PPs X pos (aa k::ks) (v::vs) ((tk,tv)::trs):=λpq s Z H Q I h=>
 pairTrees_cons_walk (thn (hk pq s Z H _ I h) λu s1 #[x,H1,I1,rx,q1]=>thn (hv pq s1 Z H1 _ I1 q1) λw2 s2 #[y,H2,I2,ry,q2]=>
  thn (hr pq s2 Z H2 _ I2 q2)<|by rintro ws s3 ⟨ps,H3,I3,rel,q3⟩;exact #[(x,y)::ps,H3,I3,.cons #[rx,ry] rel,q3])
end L2
namespace Pv
open PySem (Str)
inductive V where
 |non|bl (b:Bool)|int (i:Int)|str (x:bB)|tup (xs:List V)|lst (xs:List V)|drw|dct (ks:Option (List<|List Int))|scr (ns:List Int)
 |dow (ks:List (List Int))
 deriving Inhabited
end Pv
namespace Ev
open PySem (Str)
def nos{B:Type}{P:Prop}{b:B}(h:ag=aa b):P:=by cases h
noncomputable def lim:Nat:=16777216
inductive Bop where|add|sub|mul|fdiv|mod|pow
 deriving DecidableEq
inductive Cop where|eq|ne|lt|le|gt|ge|is|isn|inn|nin
 deriving DecidableEq
inductive Ty where|int|bool|str|tuple|list|dict|cls (c:Nat)
 deriving DecidableEq
inductive Bf where|len|max2|min2|toInt|tuple|list|all|any|sum|sorted|sortedR|dictP|listD|sortedD|sortedS|rangeT|rangeL
 deriving DecidableEq
inductive Mf where|append|extend|index
 deriving DecidableEq
mutual
inductive E where
 |c (d:Pv.V)|v (i:Nat)
 |tup (es:List E)|lst (es:List E)|dnew
 |bin (op:Bop) (a b:E)|neg (a:E)|not (a:E)|and (a b:E)|or (a b:E)|ite (t a b:E)
 |cmp (op:Cop) (a b:E)|chain (o p:Cop) (a b d:E)
 |ix (a i:E)|sl (a:E) (lo hi:Option E)|rev (a:E)
 |call (f:Nat) (as:List E)|blt (f:Bf) (as:List E)|mt (m:Mf) (o:E) (as:List E)
 |isi (a:E) (ts:List Ty)
 |inT (a:E) (tab:List (Int×Int))|getT (tab:List (Int×Int)) (a:E)
 |dput1 (k v:E)
 |comp1 (cap:List Nat) (nl:Nat) (t:List Nat) (it:W) (ifs:List E) (elt:E)
 |comp2 (cap:List Nat) (nl:Nat) (t:List Nat) (it:W) (ifs:List E) (u:List Nat) (jt:W) (jfs:List E) (elt:E)
 |fi (e:E)
 |refu (w:Bool) (e:E)
 |dix (a:E) (k:Bool)
 |callF (f:Nat) (as:List E)
inductive W where
 |of (e:E)|rng1 (a:E)|rng2 (a b:E)|zip (a b:E)|enum (a:E)|rrng (a b:E)|rtup (a:E)|dk (e:E)
end
inductive Sm where
 |asg (t:List Nat) (e:E)|par (t:List Nat) (es:List E)|aug (i:Nat) (op:Bop) (e:E)|put (o i e:E)|dput (o i e:E)
 |ret (e:E)|ex (e:E)|ite (t:E) (a b:List Sm)|forr (t:List Nat) (it:W) (b:List Sm)|whl (t:E) (b:List Sm)
 |raise (c:Nat) (as:List E)|pas|brk|cnt
 |mov (i j:Nat)
 |dset (i:Nat) (e:E)|cel (i f:Nat) (as:List E) (b:List Sm)
 |retO (i:Nat)
 |dnw (i:Nat) (k:E)|forF (t:List Nat) (e:E) (b:List Sm)
 |lnw (i:Nat) (es:List E)|cat (i:Nat) (es:List E)|app (i:Nat) (e:E)
noncomputable def b2i(b:Bool):Int:=if b then 1 else 0
noncomputable def Zr:Nat:=6
noncomputable def ixN(n:Nat)(i:Int):Option Nat:=if 0<=i then(if i<n then aa i.toNat else ag)else if -(n:Int)<=i then aa (i+n).toNat else ag
noncomputable def at'{B:Type}(xs:List B)(i:Int):Option B:=(ixN xs.length i).bind λj=>xs[j]?
noncomputable def sIx(n d:Nat):Option Int->Nat
 |none=>d
 |some i=>if i<0 then(i+n).toNat else oK i.toNat n
noncomputable def fits(i:Int):Bool:=af<|i.natAbs<2^8000
noncomputable def big:Int:=2^8000
def qE(h:b<1073741824):b<big:=Int.lt_trans h (by decide +kernel)
noncomputable def ltI:List Int->List Int->Bool
 |[],[]=>am
 |[],_::_=>ai
 |_::_,[]=>am
 |a::x,b::y=>if a=b then ltI x y else af (a<b)
noncomputable def YH(x:List Int):List (List Int)->List (List Int)
 |[]=>[x]
 |y::r=>if ltI x y then x::y::r else y::YH x r
noncomputable def Zu:List (List Int)->List (List Int)
 |[]=>[]
 |x::r=>YH x<|Zu r
noncomputable def Vk{B:Type}(lt:B->B->Bool)(x:B):List B->List B
 |[]=>[x]
 |y::r=>if lt x y then x::y::r else y::Vk lt x r
noncomputable def Z7{B:Type}(lt:B->B->Bool):List B->List B
 |[]=>[]
 |x::r=>Vk lt x<|Z7 lt r
noncomputable def ltP:List (List Int)->List (List Int)->Bool
 |[],[]=>am
 |[],_::_=>ai
 |_::_,[]=>am
 |a::x,b::y=>if a=b then ltP x y else ltI a b
noncomputable def Zeg(is:List Int):Bool:=af (is.length<=1000)&&is.all λi=>af<|-1099511627776<=i/\i<=1099511627776
noncomputable def Ya(rs:List (List Int)):Bool:=af (rs.length<=100000)&&decide rs.Nodup&&rs.all λr=>!r.isEmpty
noncomputable def ZY(ps:List (List<|List Int)):Bool:=af (ps.length<=100000)&&decide ps.Nodup&&(af (ps.length<=1)||ps.all λP=>!P.isEmpty)
noncomputable def ZbX(ks:List (List Int)):Bool:=af (ks.length<=lim)&&decide ks.Nodup
noncomputable def YA(i:Int):Bool:=af<|-(2^62)<=i/\i<2^62
noncomputable def few(i:Int):Bool:=af<|0<=i/\i<=1000
noncomputable def uW:Nat:=1000
noncomputable def ZcV:List bB:=["row","part","number","heads","not beside","not in","turn","lot","many","note"]
structure Fn where
 ps:Nat
 ns:Nat
 body:List Sm
end Ev
namespace Pv
open Ev
open PySem (Str)
noncomputable abbrev DS:=Int×Bool
inductive PR(B:Type) where
 |ok (a:B) (s:DS)|ex (c:Nat) (s:DS)|no
noncomputable def PR.bind{B β:Type}(r:PR B)(f:B->DS->PR β):PR β:=match r with
 |.ok a s=>f a s
 |.ex c s=>.ex c s
 |.no=>.no
noncomputable def PR.nox{B:Type}(r:PR B):PR B:=match r with
 |.ex _ _=>.no
 |r=>r
noncomputable def po{B:Type}(o:Option B)(s:DS):PR B:=match o with
 |some a=>.ok a s
 |none=>.no
abbrev Env:=List<|Option V
mutual
noncomputable def V.flat:V->Bool
 |.tup xs=>Z8 xs
 |.lst _=>am
 |.drw=>am
 |.dct _=>am
 |.dow _=>am
 |_=>ai
noncomputable def Z8:List V->Bool
 |[]=>ai
 |x::xs=>x.flat&&Z8 xs
end
mutual
noncomputable def ofD:V->Option V
 |.non=>aa .non
 |.bl b=>aa<|.bl b
 |.int i=>aa<|.int i
 |.str x=>aa<|.str x
 |.tup xs=>(ZdY xs).map .tup
 |_=>ag
noncomputable def ZdY:List V->Option (List V)
 |[]=>aa []
 |x::xs=>match ofD x,ZdY xs with
  |some a,aa b=>aa (a::b)
  |_,_=>ag
end
noncomputable def Zn:V->Option Bool
 |.non=>aa am
 |.bl b=>aa b
 |.int i=>aa<|af<|i≠0
 |.tup xs=>aa<|!xs.isEmpty
 |.lst xs=>aa<|!xs.isEmpty
 |_=>ag
noncomputable def YE(f:V->V->Option Bool):List V->List V->Option Bool
 |[],[]=>aa ai
 |x::xs,y::ys=>match f x y,YE f xs ys with
  |some a,aa b=>aa<|a&&b
  |_,_=>ag
 |_,_=>aa am
noncomputable def eqV:Nat->V->V->Option Bool
 |0,_,_=>ag
 |k+1,x,y=>match x with
  |.non=>match y with
   |.non=>aa ai
   |.bl _|.int _|.str _=>aa am
   |_=>ag
  |.bl a=>match y with
   |.bl b=>aa<|af<|a=b
   |.int b=>aa<|af<|b2i a=b
   |.non|.str _=>aa am
   |_=>ag
  |.int a=>match y with
   |.int b=>aa<|af<|a=b
   |.bl b=>aa<|af<|a=b2i b
   |.non|.str _=>aa am
   |_=>ag
  |.str a=>match y with
   |.str b=>aa<|af<|a=b
   |.non|.bl _|.int _=>aa am
   |_=>ag
  |.tup xs=>match y with
   |.tup ys=>YE (eqV k) xs ys
   |_=>ag
  |.lst xs=>match y with
   |.lst ys=>if xs.length=ys.length then YE (eqV k) xs ys else aa am
   |_=>ag
  |_=>ag
noncomputable def Wj(x:V):List V->Option Bool
 |[]=>aa am
 |y::ys=>match eqV Zr y x,Wj x ys with
  |some a,aa b=>aa (a||b)
  |_,_=>ag
noncomputable def Yz:V->Ty->Option Bool
 |.non,_=>aa am
 |.bl _,t=>aa<|af<|t=.bool\/t=.int
 |.int _,t=>aa<|af<|t=.int
 |.str _,t=>aa<|af<|t=.str
 |.tup _,t=>aa<|af<|t=.tuple
 |.lst _,t=>aa<|af<|t=.list
 |.dct ag,t=>aa<|af<|t=.dict
 |_,_=>ag
noncomputable def Z9(x:V):List Ty->Option Bool
 |[]=>aa am
 |t::ts=>match Yz x t with
  |some ai=>aa ai
  |some am=>Z9 x ts
  |none=>ag
noncomputable def Y2(xs:List V)(lo hi:Option Int):List V:=(xs.drop<|sIx xs.length 0 lo).take<|sIx xs.length xs.length hi-sIx xs.length 0 lo
noncomputable def uH(op:Bop)(a b:Int)(s:DS):PR V:=match op with
 |.add=>.ok (.int<|a+b) s
 |.sub=>.ok (.int<|a-b) s
 |.mul=>if(fits a&&fits b)=ai then .ok (.int<|a*b) s else .no
 |.fdiv=>if 0<b/\b<Ev.big then .ok (.int<|a / b) s else .no
 |.mod=>if 0<b then .ok (.int<|a%b) s else .no
 |.pow=>if 0<=b/\b<=1000/\a.natAbs<2^64 then .ok (.int<|a^b.toNat) s else .no
noncomputable def Y3(op:Bop)(x y:V)(s:DS):PR V:=match x with
 |.int a=>match y with
  |.int b=>uH op a b s
  |_=>.no
 |.tup a=>match y with
  |.tup b=>match op with
   |.add=>if a.length+b.length<=lim then .ok (.tup<|a++b) s else .no
   |_=>.no
  |.int b=>match op with
   |.mul=>if 0<=b/\b<1000/\a.length<=1000 then .ok (.tup (aD b.toNat a).flatten) s else .no
   |_=>.no
  |_=>.no
 |.lst a=>match y with
  |.lst b=>match op with
   |.add=>if a.length+b.length<=lim then .ok (.lst<|a++b) s else .no
   |_=>.no
  |.int b=>match op with
   |.mul=>if 0<=b/\b<1000/\a.length<=1000 then .ok (.lst (aD b.toNat a).flatten) s else .no
   |_=>.no
  |_=>.no
 |_=>.no
noncomputable def Zez(op:Bop)(x y:V)(s:DS):PR V:=match x,y with
 |.int _,.int _=>Y3 op x y s
 |_,_=>.no
noncomputable def intsV:List V->Option (List Int)
 |[]=>aa []
 |.int i::r=>(intsV r).map (i :: ·)
 |_::_=>ag
noncomputable def VC(x y:V):Option Bool:=match y with
 |.tup ys=>Wj x ys
 |.lst ys=>Wj x ys
 |.dct (aa ks)=>match x with
  |.tup k=>(intsV k).map λk=>ks.contains k
  |_=>ag
 |.dow ks=>match x with
  |.tup k=>(intsV k).map λk=>ks.contains k
  |_=>ag
 |_=>ag
noncomputable def Vw:V->Bool
 |.non=>ai
 |_=>am
noncomputable def Zb(r:List Int):V:=.tup<|r.map .int
noncomputable def Z2:List V->Option (List<|List Int)
 |[]=>aa []
 |.tup x::r=>match intsV x,Z2 r with
  |some a,aa b=>aa (a::b)
  |_,_=>ag
 |_::_=>ag
noncomputable def int2(x y:V):Option (Int×Int):=match x with
 |.int a=>match y with
  |.int b=>aa (a,b)
  |_=>ag
 |_=>ag
noncomputable def isV(x y:V):Option Bool:=match y with
 |.non=>aa<|Vw x
 |.bl b=>match x with
  |.bl a=>aa<|af<|a=b
  |_=>ag
 |_=>ag
noncomputable def Yk(op:Cop)(x y:V):Option V:=match op with
 |.eq=>(eqV Zr x y).map .bl
 |.ne=>(eqV Zr x y).map λb=>.bl !b
 |.lt=>match x with
  |.tup a=>match y with
   |.tup b=>(Z2 a).bind λP=>(Z2 b).map λQ=>.bl<|ltP P Q
   |_=>ag
  |x=>(int2 x y).map λz=>.bl<|af<|z.1<z.2
 |.gt=>(int2 x y).map λz=>.bl<|af<|z.2<z.1
 |.le=>(int2 x y).map λz=>.bl<|af<|z.1<=z.2
 |.ge=>(int2 x y).map λz=>.bl<|af<|z.2<=z.1
 |.is=>(isV x y).map .bl
 |.isn=>(isV x y).map λb=>.bl !b
 |.inn=>(VC x y).map .bl
 |.nin=>(VC x y).map λb=>.bl !b
noncomputable def ixV(x y:V):Option V:=match x,y with
 |.tup xs,.int i=>at' xs i
 |.lst xs,.int i=>at' xs i
 |.scr xs,.int i=>(at' xs i).map .int
 |_,_=>ag
noncomputable def slV(x:V)(lo hi:Option Int):Option V:=match x with
 |.tup xs=>aa<|.tup<|Y2 xs lo hi
 |.lst xs=>aa<|.lst<|Y2 xs lo hi
 |_=>ag
noncomputable def Zeu:V->Option V
 |.tup xs=>aa<|.tup xs.reverse
 |_=>ag
noncomputable def VX:V->Option Bool
 |.non=>aa am
 |.bl b=>aa b
 |.int i=>aa<|af<|i≠0
 |_=>ag
noncomputable def ZV:List V->Option (List Bool)
 |[]=>aa []
 |x::xs=>match VX x,ZV xs with
  |some b,aa bs=>aa (b::bs)
  |_,_=>ag
noncomputable def Ze(P:List (List Int)):V:=.tup<|P.map Zb
noncomputable def zh:V->Option (List<|List Int)
 |.tup ks=>Z2 ks
 |_=>ag
noncomputable def Yt:List V->Option (List<|List<|List Int)
 |[]=>aa []
 |x::r=>match zh x,Yt r with
  |some a,aa b=>aa (a::b)
  |_,_=>ag
noncomputable def Zam:List V->Bool
 |.tup (.int _::_)::_=>ai
 |_=>am
noncomputable def Yv:V->Option (List V)
 |.tup xs=>aa xs
 |.lst xs=>aa xs
 |.scr ns=>aa<|ns.map .int
 |_=>ag
noncomputable def Zec:V->Option (List V)
 |.dct (aa ks)=>aa<|ks.map Zb
 |_=>ag
noncomputable def ZU(lo:Int)(n:Nat):List V:=(az n).map λ(k:Nat)=>.int<|lo+(k:Int)
noncomputable def Zds:V->Option (List Int)
 |.tup [.tup k,.bl b]=>if b=ai then intsV k else ag
 |_=>ag
noncomputable def vT:List V->Option (List<|List Int)
 |[]=>aa []
 |v::r=>(Zds v).bind λa=>(vT r).map (a :: ·)
noncomputable def X6:List V->Option (List Nat)
 |[]=>aa []
 |.int i::r=>if 0<=i/\i<6 then(X6 r).map (i.toNat :: ·)else ag
 |_=>ag
noncomputable def blt1(f:Bf)(x:V):Option V:=match f with
 |.len=>(Yv x).map λxs=>.int xs.length
 |.toInt=>match x with
  |.int a=>aa<|.int a
  |.bl b=>aa<|.int<|b2i b
  |_=>ag
 |.tuple=>(Yv x).map .tup
 |.list=>(Yv x).map .lst
 |.all=>match x with
  |.lst xs=>(ZV xs).map λbs=>.bl<|bs.all id
  |_=>ag
 |.any=>(Yv x).bind λxs=>(ZV xs).map λbs=>.bl<|bs.any id
 |.sum=>match x with
  |.lst xs=>(intsV xs).bind λis=>if Zeg is=ai then aa (.int is.sum)else ag
  |_=>ag
 |.sorted=>match x with
  |.lst xs=>if Zam xs=ai then(Z2 xs).bind λrs=>if Ya rs=ai then aa (.lst<|(Zu rs).map Zb)else ag else(Yt xs).bind λps=>if ZY ps=ai then aa (.lst<|(Z7 ltP ps).map Ze)else ag
  |_=>ag
 |.sortedR=>match x with
  |.lst xs=>(Z2 xs).bind λrs=>if Ya rs=ai then aa (.lst<|(Zu rs).reverse.map Zb)else ag
  |_=>ag
 |.rangeT=>match x with
  |.int i=>if few i then aa (.tup<|ZU 0 i.toNat)else ag
  |_=>ag
 |.rangeL=>match x with
  |.int i=>if few i then aa (.lst<|ZU 0 i.toNat)else ag
  |_=>ag
 |.listD=>match x with
  |.dow ks=>aa<|.lst<|ks.map Zb
  |_=>ag
 |.sortedD=>match x with
  |.dow ks=>if Ya ks=ai then aa (.lst<|(Zu ks).map Zb)else ag
  |_=>ag
 |.sortedS=>match x with
  |.lst xs=>(X6 xs).map λks=>.lst (((az 6).filter ks.contains).map λk:Nat=>.int k)
  |_=>ag
 |.dictP=>match x with
  |.lst xs=>(vT xs).bind λks=>if ZbX ks=ai then aa (.dct<|aa ks)else ag
  |_=>ag
 |_=>ag
noncomputable def blt2(f:Bf)(x y:V):Option V:=match x,y with
 |.int a,.int b=>match f with
  |.max2=>aa<|.int (if b>a then b else a)
  |.min2=>aa<|.int (if b<a then b else a)
  |_=>ag
 |_,_=>ag
noncomputable def XC(f:Bf)(as:List V):Option V:=match as with
 |[x]=>blt1 f x
 |[x,y]=>blt2 f x y
 |_=>ag
noncomputable def YJ:List Nat->List V->Env->Option Env
 |[],[],O=>aa O
 |i::t,x::xs,O=>YJ t xs<|O.set i<|aa x
 |_,_,_=>ag
noncomputable def u4:V->Option (List V)
 |.tup xs=>aa xs
 |.lst xs=>aa xs
 |_=>ag
noncomputable def Zi(t:List Nat)(x:V)(O:Env):Option Env:=match t with
 |[i]=>aa<|O.set i<|aa x
 |t=>match u4 x with
  |some xs=>YJ t xs O
  |none=>ag
abbrev Zq:=Nat->List V->DS->PR V
noncomputable def ZQ(cap:List Nat)(nl:Nat)(O:Env):Env:=aD nl ag++cap.map λi=>(O[i]?).join
noncomputable def mapP(f:V->DS->PR (List V)):List V->DS->PR (List V)
 |[],s=>.ok [] s
 |x::xs,s=>match f x s with
  |.ok ys s=>match mapP f xs s with
   |.ok zs s=>.ok (ys++zs) s
   |_=>.no
  |_=>.no
noncomputable def ZeR(w:Bool)(c:Nat):V:=if w then .str (ZcV.getD c "")else .int c
noncomputable def own(nl:Nat)(t:List Nat):Bool:=t.all λi=>af<|i<nl
noncomputable def own2(nl:Nat)(t u:List Nat):Bool:=own nl t&&u.all λi=>af (i<nl) && !t.contains i
mutual
noncomputable def pv(C:Zq):E->Env->DS->PR V
 |.c d,_,s=>po (ofD d) s
 |.v i,O,s=>po (O[i]?).join s
 |.tup es,O,s=>(pvs C es O s).bind λxs s=>if xs.length<=lim then .ok (.tup xs) s else .no
 |.lst es,O,s=>(pvs C es O s).bind λxs s=>if xs.length<=lim then .ok (.lst xs) s else .no
 |.dnew,_,s=>.ok (.dct ag) s
 |.dput1 k v,O,s=>(pv C k O s).bind λx s=>(pv C v O s).bind λy s=>match x,y with
  |.int _,.int _=>.ok (.dct ag) s
  |_,_=>.no
 |.bin op a b,O,s=>(pv C a O s).bind λx s=>(pv C b O s).bind λy s=>Y3 op x y s
 |.neg a,O,s=>(pv C a O s).bind λx s=>match x with
  |.int i=>.ok (.int<|-i) s
  |_=>.no
 |.not a,O,s=>(pv C a O s).bind λx s=>(po (Zn x) s).bind λb s=>.ok (.bl !b) s
 |.and a b,O,s=>(pv C a O s).bind λx s=>match x with
  |.bl c=>if c then pv C b O s else .ok (.bl am) s
  |_=>.no
 |.or a b,O,s=>(pv C a O s).bind λx s=>match x with
  |.bl c=>if c then .ok (.bl ai) s else pv C b O s
  |_=>.no
 |.ite t a b,O,s=>(pv C t O s).bind λx s=>(po (Zn x) s).bind λc s=>if c then pv C a O s else pv C b O s
 |.cmp op a b,O,s=>(pv C a O s).bind λx s=>(pv C b O s).bind λy s=>po (Yk op x y) s
 |.chain o p a b d,O,s=>(pv C a O s).bind λx s=>(pv C b O s).bind λy s=>(po (Yk o x y) s).bind λz s=>match z with
  |.bl c=>if c then(pv C d O s).bind λw s=>po (Yk p y w) s else .ok (.bl am) s
  |_=>.no
 |.ix a i,O,s=>(pv C a O s).bind λx s=>(pv C i O s).bind λy s=>po (ixV x y) s
 |.sl a lo hi,O,s=>(pv C a O s).bind λx s=>(pvo C lo O s).bind λl s=>(pvo C hi O s).bind λh s=>po (slV x l h) s
 |.rev a,O,s=>(pv C a O s).bind λx s=>po (Zeu x) s
 |.call f as,O,s=>(pvs C as O s).bind λxs s=>C f xs s
 |.blt f as,O,s=>(pvs C as O s).bind λxs s=>po (XC f xs) s
 |.mt _ _ _,_,_=>.no
 |.isi a ts,O,s=>(pv C a O s).bind λx s=>(po (Z9 x ts) s).bind λb s=>.ok (.bl b) s
 |.inT a tab,O,s=>(pv C a O s).bind λx s=>match x with
  |.int i=>.ok (.bl ((tab.map (·.1)).contains i)) s
  |_=>.no
 |.getT tab a,O,s=>(pv C a O s).bind λx s=>match x with
  |.int i=>(po (tab.lookup i) s).bind λj s=>.ok (.int j) s
  |_=>.no
 |.comp1 cap nl t it ifs elt,O,s=>if own nl t=ai then(pvw C it O s).bind λw s=>
   ((mapP (λx s=>(po (Zi t x<|ZQ cap nl O) s).bind λZ s=>(pvt C ifs Z s).bind λb s=>if b then(pv C elt Z s).bind λy s=>.ok [y] s else .ok [] s) w s).bind
    λys s=>if ys.length<=lim then .ok (.lst ys) s else .no).nox
  else .no
 |.comp2 cap nl t it ifs u jt jfs elt,O,s=>if own2 nl t u=ai then(pvw C it O s).bind λw s=>
   ((mapP (λx s=>(po (Zi t x<|ZQ cap nl O) s).bind λZ s=>(pvt C ifs Z s).bind λb s=>if b then
    (pvw C jt Z s).bind λw2 s=>mapP (λx s=>(po (Zi u x Z) s).bind λZ s=>(pvt C jfs Z s).bind λb s=>if b then(pv C elt Z s).bind λy s=>.ok [y] s else .ok [] s) w2 s
    else .ok [] s) w s).bind
    λys s=>if ys.length<=lim then .ok (.lst ys) s else .no).nox
  else .no
 |.fi a,O,s=>(pv C a O s).bind λx s=>match x with
  |.int i=>if YA i=ai then .ok (.int i) s else .no
  |_=>.no
 |.refu w e,O,s=>match pv C e O s with
  |.ok _ s=>.ok .non s
  |.ex c s=>if 1<=c/\c<=10 then .ok (ZeR w<|c-1) s else .no
  |.no=>.no
 |.dix a k,O,s=>(pv C a O s).bind λx s=>match x with
  |.drw=>.ok (if k then .bl s.2 else .int s.1) s
  |_=>.no
 |.callF f as,O,s=>(pvs C as O s).bind λxs s=>C f xs s
noncomputable def pvs(C:Zq):List E->Env->DS->PR (List V)
 |[],_,s=>.ok [] s
 |e::es,O,s=>(pv C e O s).bind λx s=>(pvs C es O s).bind λxs s=>.ok (x::xs) s
noncomputable def pvo(C:Zq):Option E->Env->DS->PR (Option Int)
 |none,_,s=>.ok ag s
 |some e,O,s=>(pv C e O s).bind λx s=>match x with
  |.int i=>.ok (aa i) s
  |_=>.no
noncomputable def pvt(C:Zq):List E->Env->DS->PR Bool
 |[],_,s=>.ok ai s
 |e::es,O,s=>(pv C e O s).bind λx s=>(po (Zn x) s).bind λb s=>if b then pvt C es O s else .ok am s
noncomputable def pvw(C:Zq):W->Env->DS->PR (List V)
 |.rng1 a,O,s=>(pv C a O s).bind λx s=>match x with
  |.int i=>if YA i then .ok (ZU 0 i.toNat) s else .no
  |_=>.no
 |.rng2 a b,O,s=>(pv C a O s).bind λx s=>(pv C b O s).bind λy s=>match x,y with
  |.int i,.int j=>if(YA i&&YA j)=ai then .ok (ZU i (j-i).toNat) s else .no
  |_,_=>.no
 |.rrng a b,O,s=>(pv C a O s).bind λx s=>(pv C b O s).bind λy s=>match x,y with
  |.int i,.int j=>if(YA i&&YA j)=ai then .ok (ZU i (j-i).toNat).reverse s else .no
  |_,_=>.no
 |.rtup a,O,s=>(pv C a O s).bind λx s=>match x with
  |.tup xs=>.ok xs.reverse s
  |_=>.no
 |.zip a b,O,s=>(pv C a O s).bind λx s=>(pv C b O s).bind λy s=>match Yv x,Yv y with
  |some v,aa w=>.ok ((v.zip w).map λp=>.tup [p.1,p.2]) s
  |_,_=>.no
 |.enum a,O,s=>(pv C a O s).bind λx s=>match Yv x with
  |some w=>.ok (((ZU 0 w.length).zip w).map λp=>.tup [p.1,p.2]) s
  |none=>.no
 |.of e,O,s=>(pv C e O s).bind λx s=>po (Yv x) s
 |.dk e,O,s=>(pv C e O s).bind λx s=>po (Zec x) s
end
inductive FlV where|nx (O:Env) (os:List Nat)|ret (v:V)|brk (O:Env) (os:List Nat)|cnt (O:Env) (os:List Nat)
noncomputable def hide(os:List Nat)(O:Env):Env:=O.mapIdx λi o=>if os.contains i then ag else o
noncomputable def fresh:E->Bool
 |.lst _=>ai
 |.comp1 .. => ai
 |.comp2 .. => ai
 |.bin .mul (.lst _) _=>ai
 |.blt .list _=>ai
 |.blt .sorted _=>ai
 |.blt .rangeL _=>ai
 |.blt .listD _=>ai
 |.blt .sortedD _=>ai
 |.blt .sortedS _=>ai
 |.callF _ _=>ai
 |_=>am
noncomputable def GD:V->Bool
 |.lst xs=>Z8 xs
 |_=>am
noncomputable def pvA(C:Zq)(e:E)(O:Env)(os:List Nat)(s:DS):PR V:=match os with
 |[]=>pv C e O s
 |os=>match pv C e (hide os O) s with
  |.ok v s=>.ok v s
  |.ex c s=>.ex c s
  |.no=>(pv C e O s).bind λv s=>if(v.flat||fresh e&&GD v)=ai then .ok v s else .no
noncomputable def Zex(C:Zq)(es:List E)(O:Env)(os:List Nat)(s:DS):PR (List V):=match os with
 |[]=>pvs C es O s
 |os=>match pvs C es (hide os O) s with
  |.ok v s=>.ok v s
  |.ex c s=>.ex c s
  |.no=>(pvs C es O s).bind λv s=>if Z8 v then .ok v s else .no
noncomputable def Wm(C:Zq)(e:E)(O:Env)(s:DS):PR Bool:=(pv C e O s).bind λx s=>po (Zn x) s
noncomputable def Y4(body:V->Env->List Nat->DS->PR FlV):List V->Env->List Nat->DS->PR FlV
 |[],O,os,s=>.ok (.nx O os) s
 |x::xs,O,os,s=>(body x O os s).bind λf s=>match f with
  |.nx O os=>Y4 body xs O os s
  |.cnt O os=>Y4 body xs O os s
  |.brk O os=>.ok (.nx O os) s
  |.ret v=>.ok (.ret v) s
noncomputable def zg(test:Env->DS->PR Bool)(body:Env->List Nat->DS->PR FlV):Nat->Env->List Nat->DS->PR FlV
 |0,_,_,_=>.no
 |n+1,O,os,s=>(test O s).bind λb s=>if b then(body O os s).bind λf s=>match f with
  |.nx O os=>zg test body n O os s
  |.cnt O os=>zg test body n O os s
  |.brk O os=>.ok (.nx O os) s
  |.ret v=>.ok (.ret v) s
  else .ok (.nx O os) s
noncomputable def okS(x:Int)(b:Bool):Bool:=af (0<=x)&&(b||decide (x<2147483647))
noncomputable def V2:V->Option DS
 |.lst [.int a,.bl b]=>if okS a b=ai then aa (a,b)else ag
 |_=>ag
noncomputable def Vv(o:Option V):Option V:=o.filter V.flat
noncomputable def Wo(i:Nat)(O:Env):Env:=(O.take i).map Vv++aD (O.length-i) ag
noncomputable def Zd6:Option (Option V)->Option (List<|List Int)
 |some (aa<|.dow ks)=>aa ks
 |_=>ag
noncomputable def Yl(ks:List (List Int))(k:List Int):List (List Int):=if ks.contains k then ks else ks++[k]
noncomputable def Zb6:V->Option (List Int)
 |.tup k=>intsV k
 |_=>ag
noncomputable def isT:V->Bool
 |.bl ai=>ai
 |_=>am
noncomputable def X3:Option (Option V)->Option (List V)
 |some (aa<|.lst xs)=>aa xs
 |_=>ag
mutual
noncomputable def rv(C:Zq)(ms:List Nat):Sm->Env->List Nat->DS->PR FlV
 |.asg [i] e,O,os,s=>(pvA C e O os s).bind λv s=>if(ms.contains i&&fresh e)=ai then match v with
   |.lst xs=>if Z8 xs=ai/\i<O.length then .ok (.nx (O.set i<|aa v) (i::os.filter (· != i))) s else .no
   |_=>.no
  else .ok (.nx (O.set i<|aa v) (os.filter (· != i))) s
 |.asg t e,O,os,s=>(pvA C e O os s).bind λv s=>if(t.any os.contains)=ai then .no else(po (Zi t v O) s).bind λO s=>.ok (.nx O os) s
 |.par t es,O,os,s=>(Zex C es O os s).bind λvs s=>if(t.any os.contains)=ai then .no else(po (YJ t vs O) s).bind λO s=>.ok (.nx O os) s
 |.aug i op e,O,os,s=>if os.contains i then .no else(po (O[i]?).join s).bind λx s=>(pv C e O s).bind λy s=>(Zez op x y s).bind λz s=>.ok (.nx (O.set i<|aa z) os) s
 |.put (.v i) k e,O,os,s=>if os.contains i then(pv C e O s).bind λv s=>if v.flat then(po (X3 O[i]?) s).bind λxs s=>(pv C k O s).bind λy s=>match y with
   |.int n=>(po (ixN xs.length n) s).bind λj s=>.ok (.nx (O.set i<|aa<|.lst<|xs.set j v) os) s
   |_=>.no
  else .no else .no
 |.put _ _ _,_,_,_=>.no
 |.dput (.v i) k e,O,os,s=>if os.contains i then(pv C e O s).bind λv s=>if isT v=ai then(po (Zd6 O[i]?) s).bind λks s=>(pv C k O s).bind λy s=>(po (Zb6 y) s).bind λr s=>if ks.length<lim then .ok (.nx (O.set i<|aa<|.dow<|Yl ks r) os) s else .no
  else .no else .no
 |.dput _ _ _,_,_,_=>.no
 |.ret e,O,os,s=>(pv C e O s).bind λv s=>.ok (.ret v) s
 |.ex (.mt .append (.v i) [e]),O,os,s=>if os.contains i then(po (X3 O[i]?) s).bind λxs s=>(pv C e O s).bind λv s=>if v.flat=ai/\xs.length<lim then .ok (.nx (O.set i<|aa<|.lst<|xs++[v]) os) s else .no else .no
 |.ex (.mt .extend (.v i) [e]),O,os,s=>if os.contains i then(po (X3 O[i]?) s).bind λxs s=>(pv C e (hide os O) s).bind λv s=>match v with
   |.lst ys=>if Z8 ys=ai/\xs.length+ys.length<=lim then .ok (.nx (O.set i<|aa<|.lst<|xs++ys) os) s else .no
   |_=>.no
  else .no
 |.ex e,O,os,s=>(pv C e O s).bind λ_ s=>.ok (.nx O os) s
 |.ite t a b,O,os,s=>(Wm C t O s).bind λc s=>if c then rvs C ms a O os s else rvs C ms b O os s
 |.forr t it b,O,os,s=>(pvw C it (hide os O) s).bind λw s=>Y4 (λx O os s=>if(t.any os.contains)=ai then .no else(po (Zi t x O) s).bind λO s=>rvs C ms b O os s) w O os s
 |.whl t b,O,os,s=>zg (Wm C t) (rvs C ms b) uW O os s
 |.raise c as,O,os,s=>(pvs C as O s).bind λ_ s=>.ex c s
 |.pas,O,os,s=>.ok (.nx O os) s
 |.brk,O,os,s=>.ok (.brk O os) s
 |.cnt,O,os,s=>.ok (.cnt O os) s
 |.mov i j,O,os,s=>if(os.contains j&&(!os.contains i&&af (i≠j)))=ai then(po (X3 O[j]?) s).bind λxs s=>.ok (.nx ((O.set i<|aa<|.lst xs).set j ag) (os.filter (· != j))) s else .no
 |.dset i e,O,os,s=>(pv C e O s).bind λv s=>match v with
  |.int x=>if okS x s.2=ai then match(O[i]?).join with
   |some .drw=>.ok (.nx O os) (x,s.2)
   |_=>.no
   else .no
  |_=>.no
 |.cel i f as b,O,os,s=>if os.isEmpty=ai then(pvs C as O s).bind λxs s=>(C f xs s).bind λv s=>(po (V2 v) s).bind λd s=>match rvs C ms b ((Wo i O).set i<|aa .drw) [] d with
  |.ok (.nx O _) _=>.ok (.nx (O.map Vv) []) s
  |.ok (.cnt O _) _=>.ok (.cnt (O.map Vv) []) s
  |.ok (.brk O _) _=>.ok (.brk (O.map Vv) []) s
  |.ok (.ret v) _=>if v.flat=ai then .ok (.ret v) s else .no
  |_=>.no
  else .no
 |.retO i,O,os,s=>if os.contains i then(po (X3 O[i]?) s).bind λxs s=>.ok (.ret<|.lst xs) s else .no
 |.dnw i k,O,os,s=>(pv C k O s).bind λy s=>(po (Zb6 y) s).bind λr s=>if i<O.length then .ok (.nx (O.set i<|aa<|.dow [r]) (i::os.filter (· != i))) s else .no
 |.lnw i es,O,os,s=>(pvs C es (hide os O) s).bind λxs s=>if xs.length<=lim/\i<O.length then .ok (.nx (O.set i<|aa<|.lst xs) (i::os.filter (· != i))) s else .no
 |.cat i es,O,os,s=>if os.contains i then(po (X3 O[i]?) s).bind λxs s=>(pvs C es (hide os O) s).bind λys s=>if ys.length<=lim/\xs.length+ys.length<=lim/\i<O.length then .ok (.nx (O.set i<|aa<|.lst<|xs++ys) (i::os.filter (· != i))) s else .no else .no
 |.app i e,O,os,s=>if os.contains i then(po (X3 O[i]?) s).bind λxs s=>(pv C e (hide os O) s).bind λv s=>if xs.length<lim then .ok (.nx (O.set i<|aa<|.lst<|xs++[v]) os) s else .no else .no
 |.forF t e b,O,os,s=>(pvA C e O os s).bind λv s=>match v with
  |.lst w=>Y4 (λx O os s=>if(t.any os.contains)=ai then .no else(po (Zi t x O) s).bind λO s=>rvs C ms b O os s) w O os s
  |_=>.no
noncomputable def rvs(C:Zq)(ms:List Nat):List Sm->Env->List Nat->DS->PR FlV
 |[],O,os,s=>.ok (.nx O os) s
 |m::ss,O,os,s=>(rv C ms m O os s).bind λf s=>match f with
  |.nx O os=>rvs C ms ss O os s
  |f=>.ok f s
end
mutual
noncomputable def xg:Sm->List Nat
 |.put (.v i) _ _=>[i]
 |.ex (.mt .append (.v i) _)=>[i]
 |.ex (.mt .extend (.v i) _)=>[i]
 |.ite _ a b=>muts a++muts b
 |.forr _ _ b=>muts b
 |.whl _ b=>muts b
 |.cel _ _ _ b=>muts b
 |.retO i=>[i]
 |.dput (.v i) _ _=>[i]
 |.forF _ _ b=>muts b
 |_=>[]
noncomputable def muts:List Sm->List Nat
 |[]=>[]
 |m::ss=>xg m++muts ss
end
noncomputable def ZN(n:Nat)(xs:List V):Env:=xs.map aa++aD (n-xs.length) ag
noncomputable def Xs(s:DS)(m:Int):Int×DS:=
 if s.2 then(s.1%m,(s.1 / m,ai))else
  let x:=(s.1*48271+29)%2147483647
  let y:=(x*x+39373*x+7)%2147483629
  let z:=(y*y+16807*y)%2147483587
  (z / 8%m,(x,am))
noncomputable def Zbv(vs:List V)(s:DS):PR V:=match vs with
 |[.drw,.int m]=>if 0<m/\m<1073741824 then .ok (.int (Xs s m).1) (Xs s m).2 else .no
 |_=>.no
noncomputable def Zk(F:List Fn)(tk:Nat):Nat->Zq
 |0,_,_,_=>.no
 |d+1,f,xs,s=>if f=tk then Zbv xs s else match F[f]? with
  |some fn=>if xs.length=fn.ps then(rvs (Zk F tk d) (muts fn.body) fn.body (ZN fn.ns xs) [] s).bind λf s=>match f with
    |.ret v=>.ok v s
    |.nx _ _=>.ok .non s
    |_=>.no
   else .no
  |none=>.no
end Pv
namespace Sd
open PySem PySem.Spec PyProof.Rows L2
open Ev (E Sm Fn Bop Cop Ty Bf Mf)
noncomputable abbrev D:=Pv.V
noncomputable abbrev Zt:=Pv.DS
noncomputable abbrev Lc:=Pv.Env
noncomputable abbrev R:=Pv.PR
noncomputable abbrev Calls:=Pv.Zq
structure Mx where
 K:ao
 n0:Option aL
 X:aL->Prop
 xz:∀a,n0=aa a->X a
def Scr(K:ao)(H:Hp)(a:aL)(ns:List Int):Prop:=
 (∃o,H a=aa (.frz o<|.lst<|ns.map V.int))\/
  ∃(o:fw)(its:Array ap)(n:Nat),K.lookup a=aa o/\o.cls=.type "list"/\o.dict=ag/\o.data=.seq its n/\its.size<=bi/\Vals (ns.map V.int) its.toList
def Scr.sq{K:ao}{H:Hp}{a:aL}{ns:List Int}(h:Scr K H a ns):SqL K H a (ns.map V.int):=by
 rcases h with⟨o,h⟩|h
 .exact .inl<|.inr #[o,h]
 .exact .inr h
def Dct(H:Hp)(a:aL):Option (List<|List Int)->Prop
 |none=>∃vs,H a=aa (.dK vs)
 |some ks=>∃o vs,H a=aa (.frz o<|.dT vs)/\vs.map (·.1)=ks.map (·.map cY)
mutual
def Rep(O:Mx)(H:Hp):D->V->Prop
 |.non,v=>v=.non
 |.bl b,v=>v=.bl b
 |.int i,v=>v=.int i
 |.str x,v=>v=.str x
 |.tup ds,v=>∃a xs,v=.ref a/\H a=aa (.tup xs)/\Rq O H ds xs
 |.lst ds,v=>∃a xs,v=.ref a/\H a=aa (.lst xs)/\¬O.X a/\Rq O H ds xs
 |.drw,v=>∃a,v=.ref a/\O.n0=aa a
 |.dct o,v=>∃a,v=.ref a/\Dct H a o
 |.scr ns,v=>∃a,v=.ref a/\Scr O.K H a ns
 |.dow ks,v=>∃a vs,v=.ref a/\H a=aa (.dT vs)/\¬O.X a/\vs.map (·.1)=ks.map (·.map cY)
def Rq(O:Mx)(H:Hp):List D->List V->Prop
 |[],xs=>xs=[]
 |d::ds,xs=>∃v vs,xs=v::vs/\Rep O H d v/\Rq O H ds vs
end
structure Fut(O:Mx)(H:Hp)(ρ':Mx)(H':Hp):Prop where
 eq:ρ'=O
 keep:∀a o,H a=aa o->H' a=aa o\/(O.n0=aa a/\∃xs,o=.lst xs)\/((∃ps,o=.tbl ps)/\∃ps,H' a=aa (.tbl ps))
def Fut.refl(O:Mx)(H:Hp):Fut O H O H:=#[rfl,λ_ _ h=>.inl h]
def Fut.trans{O ρ1 ρ2:Mx}{H H1 H2:Hp}(a:Fut O H ρ1 H1)(b:Fut ρ1 H1 ρ2 H2):Fut O H ρ2 H2:=by
 obtain⟨rfl,f⟩:=a;obtain⟨rfl,g⟩:=b;refine#[rfl,λa o h=>(f a o h).elim (λh=>g a o h) λz=>z.elim (λz=>.inr<|.inl z) λ#[e,ps,h]=>?_]
 rcases g a _ h with q|⟨_,xs,q⟩|⟨_,q⟩
 .exact .inr<|.inr #[e,ps,q]
 .cases q
 .exact .inr<|.inr #[e,q]
def Fut.there(f:Fut O H ρ' H')(n:O.n0≠.some a)(h:H a≠ag):H' a≠ag:=by
 obtain⟨o,e⟩:=Option.ne_none_iff_exists'.mp h;rcases f.keep a o e with q|q|⟨_,_,q⟩
 .rw[q];intro z;cases z
 .exact T7 q.1 n
 .rw[q];intro z;cases z
def Fut.new(f:Fut O H ρ' H')(h:H' a=ag)(xd:∀a,O.X a->H' a≠ag):H a=ag:=by
 cases q:H a with
 |none=>rfl
 |some o=>
  rcases f.keep a o q with e|e|⟨_,_,e⟩
  .rw[h]at e;cases e
  .exact T7 h<|xd a<|O.xz a e.1
  .rw[h]at e;cases e
structure Lat(O:Mx)(H:Hp)(ρ':Mx)(H':Hp):Prop where
 K:ρ'.K=O.K
 n0:ρ'.n0=O.n0
 keep':∀a o,H a=aa o->(∀xs,o=.lst xs->¬O.X a)->(∀ps,o≠.tbl ps)->(∀vs,o=.dT vs->¬O.X a)->H' a=aa o
 X:∀a,H a≠ag->ρ'.X a->O.X a
def Lat.keep(f:Lat O H ρ' H')(a:aL)(o:HO)(h:H a=aa o)(x:∀xs,o=.lst xs->¬O.X a)(n:∀ps,o≠.tbl ps:=by intro _ z;cases z)(m:∀vs,o=.dT vs->¬O.X a:=by intro _ z;cases z):H' a=aa o:=f.keep' a o h x n m
mutual
theorem Rep.lat(f:Lat O H ρ' H'):∀{d:D}{v:V},Rep O H d v->Rep ρ' H' d v
 |.non,_,h|.bl _,_,h|.int _,_,h|.str _,_,h=>by exact h
 |.tup ds,v,h=>by
  obtain⟨a,xs,e,t,r⟩:=h;exact#[a,xs,e,f.keep a _ t (λ_ z=>by cases z),r.lat f]
 |.lst ds,v,h=>by
  obtain⟨a,xs,e,t,x,r⟩:=h;exact#[a,xs,e,f.keep a _ t λ_ _=>x,λz=>x (f.X a (by rw[t];intro z;cases z) z),r.lat f]
 |.drw,v,h=>by unfold Rep at h ⊢;rw[f.n0];exact h
 |.dct o,v,h=>by
  obtain⟨a,e,t⟩:=h;refine#[a,e,?_];cases o with|none=>obtain⟨vs,t⟩:=t;exact#[vs,f.keep a _ t λ_ z=>by cases z]|some ks=>obtain⟨o,vs,t,q⟩:=t;exact#[o,vs,f.keep a _ t (λ_ z=>by cases z),q]
 |.scr ns,v,h=>by
  unfold Rep at h ⊢;obtain⟨a,e,t⟩:=h;rw[f.K];refine#[a,e,?_];rcases t with⟨o,t⟩|t
  .exact .inl #[o,f.keep a _ t λ_ z=>by cases z]
  .exact .inr t
 |.dow ks,v,h=>by
  unfold Rep at h ⊢;obtain⟨a,vs,e,t,x,q⟩:=h;exact#[a,vs,e,f.keep a _ t (λ_ z=>by cases z) (by intro _ z;cases z) λ_ _=>x,λz=>x (f.X a (by rw[t];intro z;cases z) z),q]
theorem Rq.lat(f:Lat O H ρ' H'):∀{ds:List D}{xs:List V},Rq O H ds xs->Rq ρ' H' ds xs
 |[],_,h=>by exact h
 |d::ds,xs,h=>by
  obtain⟨v,vs,e,r,rs⟩:=h;exact#[v,vs,e,r.lat f,rs.lat f]
end
noncomputable def Zej:bB:="law.<locals>.<lambda>"
def Tb(H:Hp):Prop:=∀(P:aL)(ps:Array ap),H P=aa (.tbl ps)->TriplesOk ps.toList/\∀(pos:gW)(cv:ap),codeAmong pos ps.toList=aa cv->
 ∃(c:aL)(oc:fw)(vs:Array ap)(t:Tok),cv=.ref c/\H c=aa (.frz oc<|.own c)/\oc.data=.fields vs/\vs[1]?=aa (.str Zej t)
theorem Tb.upd(h:Tb H)(hp:∀ob u,H p≠aa (.frz ob u))(ho:∀ps,o≠.tbl ps):Tb (upd H p o):=λP ps e=>by
 by_cases z:P=p
 .subst z;rw[ZD]at e;cases e;exact T7 rfl<|ho ps
 .rw[Zl z]at e
  obtain⟨a,b⟩:=h P ps e;refine#[a,λpos cv q=>?_]
  obtain⟨c,oc,vs,t,e1,e2,e3⟩:=b pos cv q;exact#[c,oc,vs,t,e1,by rw[Zl λz=>hp oc (.own c) (by rw[<-z];exact e2)];exact e2,e3]
structure St3(K:ao)(O:Mx)(S:Zt)(H:Hp):Prop where
 hk:O.K=K
 xd:∀a,O.X a->H a≠ag
 dw:∀a,O.n0=aa a->H a=aa (.lst [.int S.1,.bl S.2])/\Pv.okS S.1 S.2=ai
 tb:Tb H
def Fut.lat(f:Fut O H ρ' H'):Lat O H ρ' H':=by
 obtain⟨rfl,f⟩:=f;exact#[rfl,rfl,λa o h x n _=>(f a o h).elim id λz=>z.elim (λz=>T7 (ρ'.xz a z.1) (let #[xs,e]:=z.2;x xs e))<|by rintro ⟨⟨ps,e⟩,_⟩;exact T7 e<|n ps,λ_ _ h=>h]
def Rep.mono(f:Fut O H ρ' H')(h:Rep O H d v):Rep ρ' H' d v:=h.lat f.lat
def Rq.mono(f:Fut O H ρ' H')(h:Rq O H d v):Rq ρ' H' d v:=h.lat f.lat
section
variable{O:Mx}{H:Hp}{v:V}
def Rq.nil:Rq O H [] []:=by rfl
def Rq.cons{d:D}{v:V}{ds:List D}{vs:List V}(r:Rep O H d v)(rs:Rq O H ds vs):Rq O H (d::ds) (v::vs):=by
 exact#[v,vs,rfl,r,rs]
theorem Rq.length:∀{ds:List D}{xs:List V},Rq O H ds xs->xs.length=ds.length
 |[],_,h=>by rw[h];rfl
 |d::ds,xs,h=>by
  obtain⟨v,vs,rfl,_,rs⟩:=h;rw[aK,aK,Rq.length rs]
theorem Rq.append:∀{ds es:List D}{xs ys:List V},Rq O H ds xs->Rq O H es ys->Rq O H (ds++es) (xs++ys)
 |[],_,_,_,h,r=>by rw[h];exact r
 |d::ds,_,_,_,h,r=>by
  obtain⟨v,vs,rfl,a,rs⟩:=h;exact Rq.cons a<|Rq.append rs r
theorem Rq.take:∀{ds:List D}{xs:List V}(k:Nat),Rq O H ds xs->Rq O H (ds.take k) (xs.take k)
 |_,_,0,_=>Rq.nil
 |[],_,k+1,h=>by rw[h];exact Rq.nil
 |d::ds,_,k+1,h=>by
  obtain⟨v,vs,rfl,a,rs⟩:=h;exact Rq.cons a<|Rq.take k rs
theorem Rq.drop:∀{ds:List D}{xs:List V}(k:Nat),Rq O H ds xs->Rq O H (ds.drop k) (xs.drop k)
 |_,_,0,h=>h
 |[],_,k+1,h=>by rw[h];exact Rq.nil
 |d::ds,_,k+1,h=>by
  obtain⟨v,vs,rfl,a,rs⟩:=h;exact Rq.drop k rs
theorem Rq.get:∀{ds:List D}{xs:List V}{i:Nat}{d:D},Rq O H ds xs->ds[i]?=aa d->∃v,xs[i]?=aa v/\Rep O H d v
 |[],_,_,_,_,e=>by simp at e
 |d::ds,_,0,_,h,e=>by
  obtain⟨v,vs,rfl,a,rs⟩:=h;simp at e;subst e;exact#[v,rfl,a]
 |d::ds,_,i+1,_,h,e=>by
  obtain⟨v,vs,rfl,a,rs⟩:=h;obtain⟨u,q,r⟩:=Rq.get rs (by simpa using e)
  exact#[u,by simpa using q,r]
theorem Rq.reverse:∀{ds:List D}{xs:List V},Rq O H ds xs->Rq O H ds.reverse xs.reverse
 |[],_,h=>by rw[h];exact Rq.nil
 |d::ds,_,h=>by
  obtain⟨v,vs,rfl,a,rs⟩:=h;rw[gu,gu];exact Rq.append (Rq.reverse rs)<|Rq.cons a Rq.nil
theorem Rq.rep(h:Rq O H ds xs):∀k:Nat,Rq O H (aD k ds).flatten (aD k xs).flatten
 |0=>Rq.nil
 |k+1=>by
  rw[bM,bM,cO,cO];exact Rq.append h<|Rq.rep h k
theorem Rq.ints:∀ns:List Int,Rq O H (ns.map Pv.V.int) (ns.map V.int)
 |[]=>Rq.nil
 |n::ns=>Rq.cons (by rfl)<|Rq.ints ns
def Rep.int'{i:Int}(h:Rep O H (.int i) v):v=.int i:=by exact h
def Rep.bl'{b:Bool}(h:Rep O H (.bl b) v):v=.bl b:=by exact h
def Rep.non'(h:Rep O H .non v):v=.non:=by exact h
def Rep.str'{x:bB}(h:Rep O H (.str x) v):v=.str x:=by exact h
def Rep.tup'{ds:List D}(h:Rep O H (.tup ds) v):∃a xs,v=.ref a/\H a=aa (.tup xs)/\Rq O H ds xs:=by exact h
def Rep.lst'{ds:List D}(h:Rep O H (.lst ds) v):∃a xs,v=.ref a/\H a=aa (.lst xs)/\¬O.X a/\Rq O H ds xs:=by exact h
def Rep.drw'(h:Rep O H .drw v):∃a,v=.ref a/\O.n0=aa a:=by exact h
def Rep.dct'(h:Rep O H (.dct o) v):∃a,v=.ref a/\Dct H a o:=by exact h
def Rep.scr'(h:Rep O H (.scr ns) v):∃a,v=.ref a/\Scr O.K H a ns:=by exact h
def Rep.dow'{ks:List (List Int)}(h:Rep O H (.dow ks) v):∃a vs,v=.ref a/\H a=aa (.dT vs)/\¬O.X a/\vs.map (·.1)=ks.map (·.map cY):=by unfold Rep at h;exact h
def ZW(i:Int):Rep O H (.int i) (.int i):=by rfl
def Ye(b:Bool):Rep O H (.bl b) (.bl b):=by rfl
def yW:Rep O H .non .non:=by rfl
def YL(h:H a=aa (.tup xs))(r:Rq O H ds xs):Rep O H (.tup ds) (.ref a):=by exact#[a,xs,rfl,h,r]
def Xh(h:H a=aa (.lst xs))(x:¬O.X a)(r:Rq O H ds xs):Rep O H (.lst ds) (.ref a):=by exact#[a,xs,rfl,h,x,r]
def Rep.seq(h:Rep O H x v)(e:Pv.Yv x=aa ds):∃p xs,v=.ref p/\(SqL O.K H p xs\/SqT O.K H p xs)/\Rq O H ds xs:=by
 cases x with|tup es=>cases e;obtain⟨p,xs,rfl,h,r⟩:=h.tup';exact#[p,xs,rfl,.inr<|SqT.of h,r]|lst es=>cases e;obtain⟨p,xs,rfl,h,_,r⟩:=h.lst';exact#[p,xs,rfl,.inl<|SqL.of h,r]|scr ns=>cases e;obtain⟨p,e,q⟩:=h.scr';exact#[p,_,e,.inl q.sq,Rq.ints ns]|_=>cases e
end
structure LocR(O:Mx)(H:Hp)(l:Lc)(Z:L2.St):Prop where
 len:l.length=Z.length
 val:∀(i:Nat)(d:D),l[i]?=aa (aa d)->∃v,Z[i]?=aa (aa v)/\Rep O H d v
theorem LocR.mono(f:Fut O H ρ' H')(r:LocR O H l Z):LocR ρ' H' l Z:=
 #[r.len,λi d e=>let #[v,q,h]:=r.val i d e;#[v,q,h.mono f]]
theorem LocR.set(r:LocR O H l Z)(i:Nat)(h:Rep O H d v):LocR O H (l.set i<|aa d) (Z.set i<|aa v):=
 #[by rw[bZ,bZ];exact r.len,λj e q=>by
  rw[mJ]at q ⊢;split at q
  .rename_i hij
   subst hij;split at q
   .rename_i hl
    cases q;rw[T9 rfl,T9 (by rw[<-r.len];exact hl)]
    exact#[v,rfl,h]
   .cases q
  .rename_i hij
   rw[T8 hij];exact r.val j e q]
def End{B β:Type}(K:ao)(xw:Nat->Hp->Prop)(rep:Mx->Hp->B->β->Prop)(O:Mx)(H:Hp)(Q:β->Hp->Prop):R B->Prop
 |.ok d S=>∀ρ' H' v,Fut O H ρ' H'->St3 K ρ' S H'->rep ρ' H' d v->Q v H'
 |.ex c S=>∀ρ' H',Fut O H ρ' H'->St3 K ρ' S H'->xw c H'
 |.no=>False
section
variable{K:ao}{xw:Nat->Hp->Prop}{O ρ':Mx}{H H':Hp}{B β α' β':Type}{rep:Mx->Hp->B->β->Prop}{rep':Mx->Hp->α'->β'->Prop}
def End.mono{Q:β->Hp->Prop}(f:Fut O H ρ' H')(h:End K xw rep O H Q r):End K xw rep ρ' H' Q r:=by
 cases r with|ok d S=>exact λρ2 H2 v g st r=>h ρ2 H2 v (f.trans g) st r|ex c S=>exact λρ2 H2 g st=>h ρ2 H2 (f.trans g) st|no=>exact h
theorem End.bind{Q:β'->Hp->Prop}{Q1:β->Hp->Prop}(h:End K xw rep' O H Q (r.bind f))
  (k:∀d S ρ1 H1 v,Fut O H ρ1 H1->St3 K ρ1 S H1->rep ρ1 H1 d v->End K xw rep' ρ1 H1 Q (f d S)->Q1 v H1):End K xw rep O H Q1 r:=by
 cases r with|ok d S=>exact λρ1 H1 v g st r=>k d S ρ1 H1 v g st r<|End.mono g h|ex c S=>exact h|no=>exact h
theorem End.ok{Q:β->Hp->Prop}(h:End K xw rep O H Q (.ok a S))(st:St3 K O S H)(r:rep O H a v):Q v H:=h O H v (Fut.refl O H) st r
def End.ob{Q:β'->Hp->Prop}(h:End K xw rep' O H Q ((Pv.po o S).bind f)):∃a,o=aa a/\End K xw rep' O H Q (f a S):=by
 cases o with|none=>exact h.elim|some a=>exact#[a,rfl,h]
theorem End.po{Q:β->Hp->Prop}(h:End K xw rep O H Q (Pv.po o S)):∃a,o=aa a/\End K xw rep O H Q (.ok a S):=by
 cases o with|none=>exact h.elim|some a=>exact#[a,rfl,h]
theorem End.map{Q:β->Hp->Prop}(h:End K xw rep O H Q (Pv.po (o.map f) S)):∃a,o=aa a/\End K xw rep O H Q (.ok (f a) S):=by
 cases o with|none=>exact h.elim|some a=>exact#[a,rfl,h]
def End.ite{c:Prop}[Decidable c]{Q:β->Hp->Prop}(h:End K xw rep O H Q (if c then a else b)):(c/\End K xw rep O H Q a)\/(¬c/\End K xw rep O H Q b):=by
 split at h
 .exact .inl #[‹_›,h]
 .exact .inr #[‹_›,h]
def End.guard{c:Prop}[Decidable c]{Q:β->Hp->Prop}(h:End K xw rep O H Q (if c then a else .no)):c/\End K xw rep O H Q a:=by
 rcases h.ite with h|⟨_,h⟩
 .exact h
 .exact h.elim
end
abbrev nx:Nat->Hp->Prop:=λ_ _=>False
theorem End.nox{B β:Type}{K:ao}{xw:Nat->Hp->Prop}{O:Mx}{H:Hp}{rep:Mx->Hp->B->β->Prop}{Q:β->Hp->Prop}{r:R B}(h:End K xw rep O H Q r.nox):End K nx rep O H Q r:=by
 cases r with|ok d S=>exact h|ex c S=>exact h.elim|no=>exact h
def WC(_:Mx)(_:Hp)(a b:Bool):Prop:=a=b
def Zey(_:Mx)(_:Hp)(a b:Option Int):Prop:=a=b
section
variable(X:Cx)(xw:Nat->Hp->Prop)
def tE(f:Lc->Zt->R D):TE:=λZ H Q=>∃O l S,St3 X.K O S H/\LocR O H l Z/\End X.K xw Rep O H Q (f l S)
def tA(f:Lc->Zt->R (List D)):TA:=λZ H Q=>∃O l S,St3 X.K O S H/\LocR O H l Z/\End X.K xw Rq O H Q (f l S)
def tB3(f:Lc->Zt->R Bool):TT:=λZ H Q=>∃O l S,St3 X.K O S H/\LocR O H l Z/\End X.K xw WC O H Q (f l S)
def tO(f:Lc->Zt->R (Option Int)):TO:=λZ H Q=>∃O l S,St3 X.K O S H/\LocR O H l Z/\End X.K xw Zey O H Q (f l S)
variable(C:Calls)
structure CE(e:Expr)(i:E):Prop where
 h:PE X e (tE X xw<|Pv.pv C i)
structure CT(e:Expr)(i:E):Prop where
 h:PT X e (tB3 X xw<|Pv.Wm C i)
structure CA(es:List Expr)(is:List E):Prop where
 h:PA X es (tA X xw<|Pv.pvs C is)
structure CO(e:Option Expr)(i:Option E):Prop where
 h:PO X e (tO X xw<|Pv.pvo C i)
end
def PE.imp(h:PE X e t)(k:∀Z H Q,t' Z H Q->t Z H Q):PE X e t':=λpq s Z H Q I q=>h pq s Z H Q I<|k Z H Q q
def PT.imp(h:PT X e t)(k:∀Z H Q,t' Z H Q->t Z H Q):PT X e t':=λpq s Z H Q I q=>h pq s Z H Q I<|k Z H Q q
def PA.imp(h:PA X e t)(k:∀Z H Q,t' Z H Q->t Z H Q):PA X e t':=λpos pq s Z H Q I q=>h pos pq s Z H Q I<|k Z H Q q
def PO.imp(h:PO X e t)(k:∀Z H Q,t' Z H Q->t Z H Q):PO X e t':=λpq s Z H Q I q=>h pq s Z H Q I<|k Z H Q q
section
variable{K:ao}{O ρ':Mx}{S:Zt}{H H':Hp}{a p:aL}
def ZO(hp:H p=ag):Fut O H O (upd H p o):=#[rfl,λb u h=>.inl (by rw[Zl<|ZM h hp];exact h)]
def St3.fresh(st:St3 K O S H)(hp:H p=ag)(ho:∀ps,o≠.tbl ps:=by intro _ z;cases z):St3 K O S (upd H p o):=
 have n:∀b,H b≠ag->b≠p:=λb h z=>h (by rw[z];exact hp)
 #[st.hk,λb h=>by rw[Zl<|n b<|st.xd b h];exact st.xd b h,λb h=>by
  have:=st.dw b h;rw[Zl<|n b (by rw[this.1];intro z;cases z)];exact this,st.tb.upd (λob u z=>by rw[hp]at z;cases z) ho]
def St3.nx(st:St3 K O S H)(hp:H p=ag):¬O.X p:=λz=>st.xd p z hp
end
def XH:Ev.lim=bi:=by rw[cc];rfl
section
variable{K:ao}{xw:Nat->Hp->Prop}{O:Mx}{H:Hp}{S:Zt}{Q:VK}
def End.newT(h:End K xw Rep O H Q (.ok (.tup ds) S))(st:St3 K O S H)(r:Rq O H ds xs):∀p,H p=ag->Q (.ref p) (upd H p<|.tup xs):=λp hp=>
 h O _ _ (ZO hp) (st.fresh hp) (YL ZD<|r.mono<|ZO hp)
def End.newL(h:End K xw Rep O H Q (.ok (.lst ds) S))(st:St3 K O S H)(r:Rq O H ds xs):∀p,H p=ag->Q (.ref p) (upd H p<|.lst xs):=λp hp=>
 h O _ _ (ZO hp) (st.fresh hp) (Xh ZD (st.nx hp)<|r.mono<|ZO hp)
end
section
variable{X:Cx}{xw:Nat->Hp->Prop}{C:Calls}{e a b c:Expr}{i j k:E}{pos:gW}
def ZcG{n:Int}{q}:CE X xw C (.Constant (.int n) q pos) (.c<|.int n):=.mk <| PE.imp Jg<|by rintro Z H Q ⟨O,l,S,st,lr,h⟩;exact End.ok h st<|ZW n
def Zdx{n:Bool}{q}:CE X xw C (.Constant (.bool n) q pos) (.c<|.bl n):=.mk <| PE.imp ZbE<|by rintro Z H Q ⟨O,l,S,st,lr,h⟩;exact End.ok h st<|Ye n
def Zdd{q}:CE X xw C (.Constant .none q pos) (.c .non):=.mk <| PE.imp ZbG<|by rintro Z H Q ⟨O,l,S,st,lr,h⟩;exact End.ok h st yW
def ZeD(n:Nat){x:bB}(hN:X.N[n]?=aa x)(hv:Vis X.env.scope x)(hd:(x == ("__debug__" : bB))=am)
  (hcd:(x == ("__classdict__" : bB))=am):CE X xw C (.Name x pos) (.v n):=.mk <| PE.imp (Wa hN hv hd hcd)<|by
 rintro Z H Q ⟨O,l,S,st,lr,h⟩;rw[Pv.pv]at h;cases q:l[n]? with
 |none=>rw[q]at h;exact h.elim
 |some o=>
  cases o with
  |none=>rw[q]at h;exact h.elim
  |some d=>
   rw[q]at h;obtain⟨v,q2,r⟩:=lr.val n d q;exact#[v,q2,End.ok h st r]
def Zct:CA X xw C [] []:=.mk <| PA.imp Vh<|by
 rintro Z H Q ⟨O,l,S,st,lr,h⟩;rw[Pv.pvs]at h;exact End.ok h st Rq.nil
def j5{es:List Expr}{is:List E}(ha:CE X xw C e i)(hr:CA X xw C es is)(hs:aH (e::es) X.env=(am,cD e X.env)::aH es X.env):CA X xw C (e::es) (i::is):=.mk <|
 PA.imp (Yu ha.h hr.h hs)<|by
  rintro Z H Q ⟨O,l,S,st,lr,h⟩;rw[Pv.pvs]at h;exact#[O,l,S,st,lr,h.bind λx S1 ρ1 H1 v f1 st1 r1 h1=>#[ρ1,l,S1,st1,lr.mono f1,h1.bind λxs S2 ρ2 H2 vs f2 st2 r2 h2=>h2.ok st2<|Rq.cons (r1.mono f2) r2]]
def ZcT{es:List Expr}{is:List E}{q}(h:CA X xw C es is):CE X xw C (.Tuple es q pos) (.tup is):=.mk <| PE.imp (vZ h.h)<|by
 rintro Z H Q ⟨O,l,S,st,lr,h⟩;rw[Pv.pv]at h;refine#[O,l,S,st,lr,h.bind λxs S1 ρ1 H1 vs f1 st1 r1 h1=>?_]
 obtain⟨hl,h1⟩:=h1.guard;exact#[by rw[r1.length,<-XH];exact hl,h1.newT st1 r1]
def XA{r:R2}{g:D->D->Zt->R D}(hg:∀{O H S x y v u Q},St3 X.K O S H->Rep O H x v->Rep O H y u->End X.K xw Rep O H Q (g x y S)->r v u H Q) :
  ∀Z H Q,tE X xw (λl S=>(Pv.pv C i l S).bind λx S=>(Pv.pv C j l S).bind λy S=>g x y S) Z H Q->tOp r (tE X xw<|Pv.pv C i) (tE X xw<|Pv.pv C j) Z H Q:=λZ H Q #[O,l,S,st,lr,h]=>
 #[O,l,S,st,lr,h.bind λx S1 ρ1 H1 v f1 st1 r1 h1=>#[ρ1,l,S1,st1,lr.mono f1,h1.bind λy S2 ρ2 H2 u f2 st2 r2 h2=>hg st2 (r1.mono f2) r2 h2]]
end
def vk(K:ao):R2:=λx y H Q=>∃a b ys,x=.ref a/\y=.ref b/\SqT K H a []/\SqT K H b ys/\Q (.ref b) H
def uN:OpR X (ei .Add) (vk X.K):=by
 intro pq s Z H x y v u Q I rx ry h;obtain⟨a,b,ys,rfl,rfl,ha,hb,q⟩:=h;cases rx;cases ry;obtain⟨its,r1,p1,_⟩:=I.tuple ha;obtain⟨its2,r2,p2,_⟩:=I.tuple hb;have e0:=r1.nil_iff.mpr rfl;obtain⟨⟨cls,dd,data,sl⟩,ho,hc,n,hd⟩:=id p1;obtain⟨⟨cls2,dd2,data2,sl2⟩,ho2,hc2,n2,hd2⟩:=id p2;simp only at hc hd hc2 hd2;subst hc hd hc2 hd2;exact mC #[_,ho,rfl] #[_,ho2,rfl] kl lQ gn f9 (fN _ _)
   (tuple_addW0 a b its.toArray its2.toArray n n2 dd dd2 sl sl2<|by rw[e0];rfl) #[ho,ho2,#[.ref b,H,I,rfl,q]]
def Zem(K:ao):V->Option Int->Option Int->Hp->VK->Prop:=λx lo hi H Q=>∃a xs,x=.ref a/\SqT K H a xs/\
 (HT.sIx xs.length 0 lo=0/\HT.sIx xs.length xs.length hi=xs.length)/\Q (.ref a) H
def X1{prog:bG}{w:b0}{A:cZ}{E:ap->ax->Prop}{s:ax}{t sl:aL}{items:Array ap}{vl vu:ap}{lo hi:Option Int}{Q:ap->ax->Prop}(ht:oY s.heap t items)(hs:s.heap.IsSliceOf sl vl vu .none)(pl:kF vl lo)(pu:kF vu hi)
  (hw:HT.sIx items.size 0 lo=0/\HT.sIx items.size items.size hi=items.size)(h:Q (.ref t) s):aX (aS prog w) A (lD (.ref t)<|.ref sl) Q E s:=by
 obtain⟨os,hos,hcs,hds⟩:=id hs;have hTs:s.TypeIs (.ref sl) "slice":=#[os,hos,hcs];unfold lD
 try with_reducible refine bH ?_
 first|refine ab<|aq ?_|skip
 refine ab<|mD ht.typeIs (by decide) ?_
 refine ab (cx ht.typeIs dA
  (bW dA ht.typeIs lH ?_<|mj _ _))
 show aX _ _ (iw (.ref t) >>= _) _ _ s;refine ab<|tupleItemsOf_ ht ?_;refine ab<|h8 hTs ?_;rw[T9 (by decide)]
 refine ab<|HT.YZ hs pl pu ?_;have hyes:((((HT.sIx items.size 0 lo:Nat):Int) == 0&&(1:Int) == 1&&(HT.sIx items.size items.size hi-HT.sIx items.size 0 lo) == items.size)=ai):=by
  rw[hw.1,hw.2];simp
 show aX _ _ (if(((HT.sIx items.size 0 lo:Nat):Int) == 0&&(1:Int) == 1&&(HT.sIx items.size items.size hi-HT.sIx items.size 0 lo) == items.size)=ai then _ else _) _ _ s
 rw[T9 hyes];refine ab<|ab<|h8 ht.typeIs<|aq ?_;rw[T9 (by decide)]
 exact ab<|eI<|aq #[_,rfl,aq h]
def vq:SlR X (Zem X.K):=by
 intro pq s Z H x v vl vu lo hi sl Q I rx hs pl pu h;obtain⟨a,xs,rfl,hx,hw,q⟩:=h;cases rx;obtain⟨its,r,ht,hz⟩:=I.tuple hx;have hlen:its.toArray.size=xs.length:=by rw[ay];exact r.length.symm
 refine#["tuple",_,dA.lookup,ht.typeIs,?_];exact X1 ht hs pl pu (by rw[hlen];exact hw) #[.ref a,H,I,rfl,q]
def xu(h:Ev.fits i=ai):lI i<=2^20:=by
 have h1:=T6 h;unfold lI;split
 .exact dz _
 .rename_i hz
  have hne:i.natAbs≠0:=by intro z;exact hz (by simp[Int.natAbs_eq_zero.mp z])
  have:=(Nat.log2_lt hne).mpr h1;have e:(2:Nat)^20=1048576:=by decide
  omega
def uc:OpR X (ei .FloorDiv) (rI (λ_ j=>0<j/\j<Ev.big) λi j=>.int<|i / j):=opI λi j _ _ _ _ _ hc q=>by
 have h1:=hc.1;have h2:=hc.2;have hne:j.natAbs≠0:=by omega
 have h3:j.natAbs<2^8000:=by
  have e:(j.natAbs:Int)=j:=Int.natAbs_of_nonneg (by omega)
  have h4:(j.natAbs:Int)<((2^8000:Nat):Int):=by rw[e,Int.natCast_pow];exact h2
  exact Int.ofNat_lt.mp h4
 have h5:=(Nat.log2_lt hne).mpr h3;exact floordiv_int (by omega) (by rw[Int.fdiv_eq_ediv_of_nonneg i (by omega)];exact q)<|.inl<|PyProof.noPylong_of_log2 (by omega)
def Zaz:OpR X (ei .Mult) (rI (λi j=>Ev.fits i=ai/\Ev.fits j=ai) λi j=>.int<|i*j):=opI λ_ _ _ _ _ _ _ hc q=>mul_int q<|IntMulOk.of_bits (xu hc.1)<|xu hc.2
def UO:fillsNumberSlot (.type "tuple") "mul" = c6 am:=
 PySem.fillsNumberSlot_seq ko.lookup (by decide +kernel) F.slot_tuple_rmul.lookup (by decide +kernel)
def Jl:seqRepeat? (.type "tuple")=c6 (aa<|.builtin "tuple.__mul__"):=by
 unfold seqRepeat?
 rw[ng (name:="__mul__") ko.lookup (by decide +kernel),ng (name:="__rmul__") F.slot_tuple_rmul.lookup (by decide +kernel)]
 rfl
def V8(a:Int)(t:Tok)(l:aL)(items:Array ap)(n:Nat)(dd:Option aL)(sl:Array (Option ap)) :
  ou (dr.«int.__rmul__» #[[.int a t,.ref l],[]]) (λ_ R s=>s.heap.get? l=aa {cls:=.type "tuple",dict:=dd,data:=.seq items n,slots:=sl}/\R (.ok<|.ret ap.notImplemented) s):=
 .of_wp λprog w A R s h=>by obtain⟨hp,g,d,tk,os⟩:=s;obtain⟨hl,h⟩:=h;wp_walk;exact#[_,rfl,h]
def QO(l:aL)(items:Array ap)(n:Nat)(dd:Option aL)(sl:Array (Option ap))(x:Int)(u:Tok)(h0:¬(x < -(2^63)||x>=2^63)=ai)(hc:(items.isEmpty||x == 1)=ai) :
  ou (dr.«tuple.__mul__» #[[.ref l,.int x u],[]]) (λ_ R s=>s.heap.get? l=aa {cls:=.type "tuple",dict:=dd,data:=.seq items n,slots:=sl}/\R (.ok<|.ret<|cn l) {s with heap:=s.heap,toks:=s.toks}):=
 .of_wp λprog w A R s h=>by obtain⟨hp,g,d,tk,os⟩:=s;obtain⟨hl,h⟩:=h;have f1:=kn;have f2:=dE;wp_walk;rw[T8 h0];wp_walk using dD hl;exact#[_,rfl,h]
def QV(l:aL)(items:Array ap)(n:Nat)(dd:Option aL)(sl:Array (Option ap))(x:Int)(u:Tok)(h0:¬(x < -(2^63)||x>=2^63)=ai)(hc:¬(items.isEmpty||x == 1)=ai)(h1:(x<=0||items.isEmpty)=ai) :
  ou (dr.«tuple.__mul__» #[[.ref l,.int x u],[]]) (λ_ R s=>s.heap.get? l=aa {cls:=.type "tuple",dict:=dd,data:=.seq items n,slots:=sl}/\R (.ok<|.ret<|cn s.heap.objs.size) {s with heap:=s.heap.push {cls:=.type "tuple",data:=.seq #[]},toks:=s.toks}):=
 .of_wp λprog w A R s h=>by obtain⟨hp,g,d,tk,os⟩:=s;obtain⟨hl,h⟩:=h;have f1:=kn;have f2:=dE;wp_walk;rw[T8 h0];wp_walk using dD hl;exact#[_,rfl,h]
def JC(l:aL)(items:Array ap)(n:Nat)(dd:Option aL)(sl:Array (Option ap))(x:Int)(u:Tok)(h0:¬(x < -(2^63)||x>=2^63)=ai)(hc:¬(items.isEmpty||x == 1)=ai)(h1:¬(x<=0||items.isEmpty)=ai)
  (h2:¬(items.size*x>(2^63-1) / 8))(h3:¬iA (items.size*x)=ai)(hsz:((aD x.toNat items).foldl (·++·) #[]).size<=bi) :
  ou (dr.«tuple.__mul__» #[[.ref l,.int x u],[]]) (λ_ R s=>s.heap.get? l=aa {cls:=.type "tuple",dict:=dd,data:=.seq items n,slots:=sl}/\R (.ok<|.ret<|cn s.heap.objs.size) {s with heap:=s.heap.push {cls:=.type "tuple",data:=.seq ((aD x.toNat items).foldl (·++·) #[])},toks:=s.toks}):=
 .of_wp λprog w A R s h=>by obtain⟨hp,g,d,tk,os⟩:=s;obtain⟨hl,h⟩:=h;have f1:=kn;have f2:=dE;wp_walk;rw[T8 h0];wp_walk using dD hl;rw[T8 h2];wp_walk using dD hl;exact#[_,rfl,h]
def Zbf(K:ao):R2:=λx y H Q=>∃a k xs,x=.ref a/\y=.int k/\SqT K H a xs/\(0<=k/\k<1000/\xs.length<=1000)/\
 ((xs=[]\/k=1)->Q (.ref a) H)/\(¬(xs=[]\/k=1)->∀p,H p=ag->Q (.ref p) (upd H p<|.tup (aD k.toNat xs).flatten))
def jd :OpR X (ei .Mult) (Zbf X.K):=by
 intro pq s Z H x y v u Q I rx ry h;obtain⟨a,k,xs,rfl,rfl,hx,⟨k0,k1,hz⟩,q1,q2⟩:=h;cases rx;obtain⟨t,rfl⟩:=ry;obtain⟨its,r,pt,_⟩:=I.tuple hx;have hl:=r.length;obtain⟨⟨cls,dd,data,sl⟩,ho,hc,n,hd⟩:=id pt;simp only at hc hd;subst hc hd;have h0:¬(af (k < -(2^63))||decide (k>=2^63))=ai:=by
  rw[T4 (by lia),T4 (by lia)];exact aM
 refine iO (by decide) #[_,ho,rfl] (λs'=>kI s' k t) UO nQ gY Jl F.slot_int_index.lookup
  (fY gY (kI s k t) nh (mK _ _) (V8 k t a its.toArray n dd sl) #[ho,rfl,#[_,ho,rfl],?_])
 have hnil:=r.nil_iff;by_cases c:xs=[]\/k=1
 .have c':(its.toArray.isEmpty||k == 1)=ai:=by
   rcases c with c|c
   .rw[hnil.mpr c];rfl
   .rw[c];simp
  exact fY ko #[_,ho,rfl] iU (iB _ _) (QO a its.toArray n dd sl k t h0 c') #[ho,#[.ref a,H,I,rfl,q1 c]]
 .have ne:=λz=>c (.inl<|hnil.mp z)
  have k1:k≠1:=λz=>c<|.inr z
  have c':¬(its.toArray.isEmpty||k == 1)=ai:=by
   rw[beq_eq_false_iff_ne.mpr k1,Bool.or_false,gQ];cases its with|nil=>exact T7 rfl ne|cons _ _=>exact aM
  have fin:∀arr:List ap,arr=(aD k.toNat its).flatten->EP X pq Z Q (cn s.heap.objs.size) {s with heap:=s.heap.push {cls:=.type "tuple",data:=.seq arr.toArray}}:=λarr e=>by
   subst e;refine#[.ref s.heap.objs.size,_,I.laid (t':=s.toks) (λb ob q=>au _ q) (aN _) ?_,rfl,q2 c _<|I.hok.fresh<|aN _]
   refine#[?_,_,r.rep k.toNat,km _ _];rw[Q4,cc];have:k.toNat*xs.length<=1000*1000:=iC (by lia) hz
   lia
  by_cases z:k=0
  .have h1:(af (k<=0)||its.toArray.isEmpty)=ai:=by rw[z];rfl
   refine fY ko #[_,ho,rfl] iU (iB _ _) (QV a its.toArray n dd sl k t h0 c' h1) #[ho,?_];exact fin [] (by rw[z];rfl)
  .have h1:¬(af (k<=0)||its.toArray.isEmpty)=ai:=by
    rw[T4 (by lia),iY,gQ]
    cases its with|nil=>exact T7 rfl ne|cons _ _=>exact aM
   have hm:(its.toArray.size:Int)*k<=1000*1000:=by
    rw[ay,<-hl];exact Int.mul_le_mul (by lia) (by lia) k0 (by lia)
   have joined:(aD k.toNat its.toArray).foldl (·++·) #[]=(aD k.toNat its).flatten.toArray:=by
    have:=Vf its k.toNat [];rw[fV]at this;exact this
   have hsz:((aD k.toNat its.toArray).foldl (·++·) #[]).size<=bi:=by
    rw[joined,ay,Q4,cc,<-hl];have:k.toNat*xs.length<=1000*1000:=iC (by lia) hz
    lia
   refine fY ko #[_,ho,rfl] iU (iB _ _) (JC a its.toArray n dd sl k t h0 c' h1 (by lia) (by
    unfold iA;rw[T4 (by rw[cc];lia)]
    exact aM) hsz) #[ho,?_]
   rw[joined];exact fin _ rfl
def ZbB:R2:=λx y H Q=>∃a k xs,x=.ref a/\y=.int k/\H a=aa (.lst xs)/\(0<=k/\k<1000/\xs.length<=1000)/\∀p,H p=ag->Q (.ref p) (upd H p<|.lst (aD k.toNat xs).flatten)
def jM :OpR X (ei .Mult) ZbB:=by
 intro pq s Z H x y v u Q I rx ry h;obtain⟨a,k,xs,rfl,rfl,hx,⟨k0,k1,hz⟩,q2⟩:=h;cases rx;obtain⟨t,rfl⟩:=ry;obtain⟨its,r,pl,_⟩:=I.list<|SqL.of hx;have hl:=r.length;obtain⟨⟨cls,dd,data,sl⟩,n,ho,hc,hd2,hd⟩:=id pl;simp only at hc hd hd2;subst hc hd;have hm:k.toNat*its.length<=1000*1000:=iC (by lia) (by lia)
 have hm2:its.length*k.toNat<=1000*1000:=by rw[h9];exact hm
 refine iO (by decide) #[_,ho,rfl] (λs'=>kI s' k t) noFill_list_mul nQ gY repeat_list F.slot_int_index.lookup
  (fY gY (kI s k t) nh (mK _ _) (lm_int_rmul_list_any k t a its.toArray n dd sl) #[ho,rfl,#[_,ho,rfl],
   fY F.slot_list_mul #[_,ho,rfl] F.entry_list_mul (F.args_list_mul_2 _ _) (lm_list_mul_any a its.toArray n dd sl k t (by simp[dr.List.listFitsIndex];lia) (by rw[ay];lia)<|by rw[ay];simp[fO,bi];lia) #[ho,?_]])
 have joined:(aD (if its.toArray.isEmpty=ai then 0 else k.toNat) its.toArray).foldl (λx1 x2=>x1++x2) #[]=(aD k.toNat its).flatten.toArray:=by
  have h0:=Vf its k.toNat [];rw[fV]at h0;by_cases z:its=[]
  .subst z
   have e:∀m:Nat,(aD m ([]:List ap)).flatten=[]:=λm=>by induction m with|zero=>rfl|succ m ih=>rw[bM,cO,ih];rfl
   rw[e];rfl
  .rw[T8 (by rw[gQ];cases its with|nil=>exact T7 rfl z|cons _ _=>exact aM)]
   exact h0
 rw[joined];refine#[.ref s.heap.objs.size,_,I.laid (t':=s.toks) (λb ob q=>au _ q) (aN _) ?_,rfl,q2 _<|I.hok.fresh<|aN _]
 refine#[?_,_,0,r.rep k.toNat,aG _ rfl];rw[Q4,cc];rw[hl];lia
section
variable{X:Cx}{xw:Nat->Hp->Prop}{C:Calls}{e a b c:Expr}{i j k:E}{pos:gW}
variable{O:Mx}{H:Hp}{S:Zt}{x y:D}{v u:V}{Q:VK}{K:ao}
def Zbg(K:ao):R2:=λx y H Q=>rI0 (λi j=>.int<|i+j) x y H Q\/(Zbt K x y H Q\/(vk K x y H Q\/Zdz x y H Q))
def Za1:OpR X (ei .Add) (Zbg X.K):=ZbI.or<|Zap.or<|uN.or Zcx
def Zb7(st:St3 K O S H)(rx:Rep O H x v)(ry:Rep O H y u)(h:End K xw Rep O H Q (Pv.Y3 .add x y S)):Zbg K v u H Q:=by
 cases x with
 |int i=>cases y with|int j=>exact .inl #[i,j,rx.int',ry.int',End.ok h st<|ZW _]|_=>exact False.elim h
 |tup ds=>cases y with
  |tup es=>
   obtain⟨hl,h⟩:=End.guard h;obtain⟨p,xs,rfl,hp,r1⟩:=rx.tup';obtain⟨q,ys,rfl,hq,r2⟩:=ry.tup';have l1:=r1.length;have l2:=r2.length;by_cases z:xs=[]
   .subst z
    have e1:=gc.mp l1.symm;subst e1;exact .inr<|.inr<|.inl #[p,q,ys,rfl,rfl,SqT.of hp,SqT.of hq,End.ok h st<|YL hq r2]
   .refine .inr (.inl #[p,q,xs,ys,rfl,rfl,SqT.of hp,SqT.of hq,z,by rw[l1,l2,<-XH];exact hl,λz2=>?_,λ_=>h.newT st<|r1.append r2])
    subst z2;have e2:=gc.mp l2.symm;subst e2;refine End.ok h st ?_;rw[bY];exact YL hp r1
  |_=>exact False.elim h
 |lst ds=>cases y with
  |lst es=>
   obtain⟨hl,h⟩:=End.guard h;obtain⟨p,xs,rfl,hp,_,r1⟩:=rx.lst';obtain⟨q,ys,rfl,hq,_,r2⟩:=ry.lst';exact .inr<|.inr<|.inr #[p,q,xs,ys,rfl,rfl,hp,hq,by rw[r1.length,r2.length,<-XH];exact hl,h.newL st<|r1.append r2]
  |_=>exact False.elim h
 |_=>cases y<;>exact False.elim h
def Zdh(st:St3 K O S H)(rx:Rep O H x v)(ry:Rep O H y u)(h:End K xw Rep O H Q (Pv.Y3 .sub x y S)):rI0 (λi j=>.int<|i-j) v u H Q:=by
 cases x with
 |int i=>cases y with|int j=>exact#[i,j,rx.int',ry.int',End.ok h st<|ZW _]|_=>exact False.elim h
 |_=>cases y<;>exact False.elim h
def Zbm(K:ao):R2:=λx y H Q=>rI (λi j=>Ev.fits i=ai/\Ev.fits j=ai) (λi j=>.int<|i*j) x y H Q\/(Zbf K x y H Q\/ZbB x y H Q)
def jZ:OpR X (ei .Mult) (Zbm X.K):=Zaz.or<|jd.or jM
def ZcH(st:St3 K O S H)(rx:Rep O H x v)(ry:Rep O H y u)(h:End K xw Rep O H Q (Pv.Y3 .mul x y S)):Zbm K v u H Q:=by
 cases x with
 |int i=>cases y with
  |int j=>
   obtain⟨hc,h⟩:=End.guard h;exact .inl #[i,j,rx.int',ry.int',(aA _ _).mp hc,End.ok h st<|ZW _]
  |_=>exact False.elim h
 |tup ds=>cases y with
  |int k=>
   obtain⟨⟨h0,h1,h2⟩,h⟩:=End.guard h;obtain⟨p,xs,rfl,hp,r1⟩:=rx.tup';have l1:=r1.length;refine .inr <| .inl #[p,k,xs,rfl,ry.int',SqT.of hp,#[h0,h1,by rw[l1];exact h2],λz=>?_,λ_=>h.newT st<|r1.rep k.toNat]
   refine End.ok h st<|YL hp ?_;rcases z with z|z
   .subst z
    have e1:=gc.mp l1.symm;subst e1;have:∀m:Nat,(aD m ([]:List D)).flatten=[]:=λm=>by induction m with|zero=>rfl|succ m ih=>rw[bM,cO,ih];rfl
    rw[this];exact Rq.nil
   .subst z
    show Rq O H (aD 1 ds).flatten xs;rw[bM,List.replicate_zero,cO,List.flatten_nil,bY];exact r1
  |_=>exact False.elim h
 |lst ds=>cases y with
  |int k=>
   obtain⟨⟨h0,h1,h2⟩,h⟩:=End.guard h;obtain⟨p,xs,rfl,hp,_,r1⟩:=rx.lst';exact .inr<|.inr #[p,k,xs,rfl,ry.int',hp,#[h0,h1,by rw[r1.length];exact h2],h.newL st<|r1.rep k.toNat]
  |_=>exact False.elim h
 |_=>cases y<;>exact False.elim h
def ZaQ(st:St3 K O S H)(rx:Rep O H x v)(ry:Rep O H y u)(h:End K xw Rep O H Q (Pv.Y3 .fdiv x y S)):rI (λ_ j=>0<j/\j<Ev.big) (λi j=>.int<|i / j) v u H Q:=by
 cases x with
 |int i=>cases y with
  |int j=>
   obtain⟨hc,h⟩:=End.guard h;exact#[i,j,rx.int',ry.int',hc,End.ok h st<|ZW _]
  |_=>exact False.elim h
 |_=>cases y<;>exact False.elim h
def ZbQ(st:St3 K O S H)(rx:Rep O H x v)(ry:Rep O H y u)(h:End K xw Rep O H Q (Pv.Y3 .mod x y S)):rI (λ_ j=>0<j) (λi j=>.int<|i%j) v u H Q:=by
 cases x with
 |int i=>cases y with
  |int j=>
   obtain⟨hc,h⟩:=End.guard h;exact#[i,j,rx.int',ry.int',hc,End.ok h st<|ZW _]
  |_=>exact False.elim h
 |_=>cases y<;>exact False.elim h
theorem Zcb(st:St3 K O S H)(rx:Rep O H x v)(ry:Rep O H y u)(h:End K xw Rep O H Q (Pv.Y3 .pow x y S)):rI CPow (λi j=>.int<|i^j.toNat) v u H Q:=by
 cases x with
 |int i=>cases y with
  |int j=>
   obtain⟨hc,h⟩:=End.guard h;exact#[i,j,rx.int',ry.int',#[hc.1,by lia,hc.2.2],End.ok h st<|ZW _]
  |_=>exact False.elim h
 |_=>cases y<;>exact False.elim h
def Zcq(ha:CE X xw C a i)(hb:CE X xw C b j):CE X xw C (.BinOp a .Add b pos) (.bin .add i j):=.mk <| PE.imp (Qn Za1 ha.h hb.h) (XA λst rx ry h=>Zb7 st rx ry h)
def ZbT(ha:CE X xw C a i)(hb:CE X xw C b j):CE X xw C (.BinOp a .Sub b pos) (.bin .sub i j):=.mk <| PE.imp (Qn Zcj ha.h hb.h) (XA λst rx ry h=>Zdh st rx ry h)
def ZcJ(ha:CE X xw C a i)(hb:CE X xw C b j):CE X xw C (.BinOp a .Mult b pos) (.bin .mul i j):=.mk <| PE.imp (Qn jZ ha.h hb.h) (XA λst rx ry h=>ZcH st rx ry h)
def jV(ha:CE X xw C a i)(hb:CE X xw C b j):CE X xw C (.BinOp a .FloorDiv b pos) (.bin .fdiv i j):=.mk <| PE.imp (Qn uc ha.h hb.h) (XA λst rx ry h=>ZaQ st rx ry h)
def Zc5(ha:CE X xw C a i)(hb:CE X xw C b j):CE X xw C (.BinOp a .Mod b pos) (.bin .mod i j):=.mk <| PE.imp (Qn ZcM ha.h hb.h) (XA λst rx ry h=>ZbQ st rx ry h)
def Zcl(ha:CE X xw C a i)(hb:CE X xw C b j):CE X xw C (.BinOp a .Pow b pos) (.bin .pow i j):=.mk <| PE.imp (Qn Zca ha.h hb.h) (XA λst rx ry h=>Zcb st rx ry h)
def Gx(st:St3 K O S H)(rx:Rep O H x v)(h:Pv.Zn x=aa n):jo K v H n:=by
 cases x with
 |non=>rw[rx.non'];exact(ak h).symm
 |bl b=>rw[rx.bl'];exact(ak h).symm
 |int i=>
  rw[rx.int'];have h':=ak h;rw[<-h'];by_cases z:i=0
  .subst z;rfl
  .rw[T5 z];exact(bne_iff_ne.mpr z).symm
 |tup ds=>
  obtain⟨p,xs,rfl,hp,r⟩:=rx.tup';have h':=ak h;refine .inr<|.inl #[xs,SqT.of hp,?_];rw[<-h'];have:=r.length;cases ds<;>cases xs<;>first|rfl|(simp at this)
 |lst ds=>
  obtain⟨p,xs,rfl,hp,_,r⟩:=rx.lst';refine .inl #[xs,SqL.of hp,?_];rw[<-ak h];have:=r.length;cases ds<;>cases xs<;>first|rfl|(simp at this)
 |_=>cases h
def ZbZ(ha:CE X xw C a i)(he:∀whole,isTrue a X.env whole=(do let v <-whole;kB a.pos;gO [v] (truthy v))):CT X xw C a i:=.mk <|
 PT.imp (qI ha.h he)<|by
  rintro Z H Q ⟨O,l,S,st,lr,h⟩;refine#[O,l,S,st,lr,End.bind (show End X.K xw WC O H Q ((Pv.pv C i l S).bind λx S=>Pv.po (Pv.Zn x) S)from h) λx S1 ρ1 H1 v f1 st1 r1 h1=>?_]
  cases q:Pv.Zn x with|none=>rw[q]at h1;exact False.elim h1|some n=>rw[q]at h1;exact#[n,Gx st1 r1 q,End.ok h1 st1 rfl]
def ZcC(ha:CT X xw C a i):CT X xw C (.UnaryOp .Not a pos) (.not i):=.mk <| PT.imp (Zcr ha.h)<|by
 rintro Z H Q ⟨O,l,S,st,lr,h⟩;refine#[O,l,S,st,lr,?_];have h':End X.K xw WC O H Q (((Pv.pv C i l S).bind λx S=>(Pv.po (Pv.Zn x) S).bind λb S=>.ok (.bl !b) S).bind λx S=>Pv.po (Pv.Zn x) S):=h
 show End X.K xw WC O H (λc H1=>Q (!c) H1) ((Pv.pv C i l S).bind λx S=>Pv.po (Pv.Zn x) S)
 cases q:Pv.pv C i l S with
 |no=>rw[q]at h';exact h'
 |ex c S1=>rw[q]at h';exact h'
 |ok x S1=>
  rw[q]at h';show End X.K xw WC O H _ (Pv.po (Pv.Zn x) S1);have h2:End X.K xw WC O H Q (((Pv.po (Pv.Zn x) S1).bind λb S=>.ok (.bl !b) S).bind λx S=>Pv.po (Pv.Zn x) S):=h'
  cases t:Pv.Zn x with
  |none=>rw[t]at h2;exact h2
  |some n=>
   rw[t]at h2;intro ρ1 H1 w f1 st1 e;exact h2 ρ1 H1 (!w) f1 st1 (by rw[<-(e)];rfl)
def ZcZ(ha:CE X xw C a i):CE X xw C (.UnaryOp .Not a pos) (.not i):=.mk <| by
 intro pq s Z H Q I hq;obtain⟨O,l,S,st,lr,h⟩:=hq;have h':=h
 refine UnaryOp_<|thn (ha.h pq s Z H (λv H1=>∃k,jo X.K v H1 k/\Q (.bl !k) H1) I #[O,l,S,st,lr,End.bind h' λx S1 ρ1 H1 v f1 st1 r1 h1=>?_]) λv s1 #[x,H1,I1,r1,q1]=>?_
 .cases q:Pv.Zn x with|none=>rw[q]at h1;exact False.elim h1|some n=>rw[q]at h1;exact#[n,Gx st1 r1 q,End.ok h1 st1<|Ye _]
 .obtain⟨k,tk,q2⟩:=q1
  refine not_of<|thn (qV pq s1 Z H1 x v (λk' H'=>Q (.bl !k') H') I1 r1 #[k,tk,q2]) λk' s2 #[H2,I2,q3]=>?_
  exact#[.bl<|!k',H2,I2,rfl,q3]
def Zci{rest:List Expr}(ha:CE X xw C a i)(hb:CE X xw C (.BoolOp .And (b::rest) pos) j):CE X xw C (.BoolOp .And (a::b::rest) pos) (.and i j):=.mk <| PE.imp (Zcc ha.h hb.h)<|by
 rintro Z H Q ⟨O,l,S,st,lr,h⟩;refine#[O,l,S,st,lr,End.bind (h) λx S1 ρ1 H1 v f1 st1 r1 h1=>?_]
 cases x with
 |bl c=>
  refine#[c,r1.bl',?_];cases c with|true=>exact#[ρ1,l,S1,st1,lr.mono f1,h1]|false=>exact End.ok h1 st1<|Ye _
 |_=>exact False.elim h1
def Zb4{op}(ha:CE X xw C a i):CE X xw C (.BoolOp op [a] pos) i:=.mk <| ZbL ha.h
structure CWh(X:Cx)(xw:Nat->Hp->Prop)(C:Calls)(e:Expr)(i:E):Prop where
 h:PW X e (tB3 X xw<|Pv.Wm C i)
def CWh.ct(h:CWh X xw C e i):CT X xw C e i:=.mk <| PW.pt h.h
def PW.imp(h:PW X e t)(k:∀Z H Q,t' Z H Q->t Z H Q):PW X e t':=λwh pq s Z H Q I q=>h wh pq s Z H Q I<|k Z H Q q
def Za7(ha:CT X xw C a i):CWh X xw C (.BoolOp .And [a] pos) i:=.mk <| Zar ha.h
def ZcN(ha:CT X xw C a i):CWh X xw C (.BoolOp .Or [a] pos) i:=.mk <| Zcm ha.h
def vV{rest:List Expr}(ha:CT X xw C a i)(hb:CWh X xw C (.BoolOp .And (b::rest) pos) j):CWh X xw C (.BoolOp .And (a::b::rest) pos) (.and i j):=.mk <| PW.imp (ZcR ha.h hb.h)<|by
 rintro Z H Q ⟨O,l,S,st,lr,h⟩;have h':End X.K xw WC O H Q (((Pv.pv C i l S).bind λx S=>match x with|.bl c=>if c then Pv.pv C j l S else .ok (.bl am) S|_=>.no).bind λx S=>Pv.po (Pv.Zn x) S):=h
 refine#[O,l,S,st,lr,?_];show End X.K xw WC O H _ ((Pv.pv C i l S).bind λx S=>Pv.po (Pv.Zn x) S)
 cases q:Pv.pv C i l S with
 |no=>rw[q]at h';exact h'
 |ex c S1=>rw[q]at h';exact h'
 |ok x S1=>
  rw[q]at h';cases x with
  |bl n=>
   intro ρ1 H1 w f1 st1 e;have e':n=w:=e;subst e';cases n with|true=>exact#[ρ1,l,S1,st1,lr.mono f1,End.mono f1 (show End X.K xw WC O H Q ((Pv.pv C j l S1).bind λx S=>Pv.po (Pv.Zn x) S)from h')]|false=>exact(show End X.K xw WC O H Q (.ok am S1)from h') ρ1 H1 am f1 st1 rfl
  |_=>exact False.elim h'
def Zbx{rest:List Expr}(ha:CT X xw C a i)(hb:CWh X xw C (.BoolOp .Or (b::rest) pos) j):CWh X xw C (.BoolOp .Or (a::b::rest) pos) (.or i j):=.mk <| PW.imp (Zd3 ha.h hb.h)<|by
 rintro Z H Q ⟨O,l,S,st,lr,h⟩;have h':End X.K xw WC O H Q (((Pv.pv C i l S).bind λx S=>match x with|.bl c=>if c then .ok (.bl ai) S else Pv.pv C j l S|_=>.no).bind λx S=>Pv.po (Pv.Zn x) S):=h
 refine#[O,l,S,st,lr,?_];show End X.K xw WC O H _ ((Pv.pv C i l S).bind λx S=>Pv.po (Pv.Zn x) S)
 cases q:Pv.pv C i l S with
 |no=>rw[q]at h';exact h'
 |ex c S1=>rw[q]at h';exact h'
 |ok x S1=>
  rw[q]at h';cases x with
  |bl n=>
   intro ρ1 H1 w f1 st1 e;have e':n=w:=e;subst e';cases n with|false=>exact#[ρ1,l,S1,st1,lr.mono f1,End.mono f1 (h')]|true=>exact(h') ρ1 H1 ai f1 st1 rfl
  |_=>exact False.elim h'
end
theorem V1{f:D->D->Option Bool}(hf:∀x y v b,Rep O H x v->Rep O H y v->f x y=aa b->b=ai):∀{ds es:List D}{xs:List V}{b:Bool},Rq O H ds xs->Rq O H es xs->Pv.YE f ds es=aa b->b=ai
 |[],[],_,b,_,_,h=>(ak h).symm
 |d::ds,e::es,_,b,r1,r2,h=>by
  obtain⟨v,vs,rfl,a1,b1⟩:=r1;obtain⟨v',vs',e',a2,b2⟩:=r2;cases e';unfold Pv.YE at h;cases q1:f d e with
  |none=>rw[q1]at h;cases h
  |some p=>
   cases q2:Pv.YE f ds es with
   |none=>rw[q1,q2]at h;cases h
   |some q=>
    rw[q1,q2]at h;have h':=ak h;rw[<-h',hf d e v p a1 a2 q1,V1 hf b1 b2 q2];rfl
 |[],_::_,_,b,r1,r2,h=>by
  have l1:=r1.length;have l2:=r2.length;rw[l1]at l2;simp at l2
 |_::_,[],_,b,r1,r2,h=>by
  have l1:=r1.length;have l2:=r2.length;rw[l1]at l2;simp at l2
def Rep.sc{x y:D}{v:V}(r1:Rep O H x v)(r2:Rep O H y v)(h:∀a,v≠.ref a):x=y:=by
 cases x<;>cases y<;>unfold Rep at r1 r2<;>subst_vars<;>first
  |rfl
  |(cases r2;rfl)
  |(cases r1;rfl)
  |(obtain⟨a,z,_⟩:=r1;exact T7 z<|h a)
  |(obtain⟨a,z,_⟩:=r2;exact T7 z<|h a)
  |(obtain⟨a,_,z,_⟩:=r1;exact T7 z<|h a)
  |(obtain⟨a,_,z,_⟩:=r2;exact T7 z<|h a)
  |cases r1
  |cases r2
def vB{k:Nat}{x:D}{v:V}{b:Bool}(r:Rep O H x v)(hv:∀a,v≠.ref a)(h:Pv.eqV (k+1) x x=aa b):b=ai:=by
 cases x<;>first
  |exact(ak h).symm
  |(rw[<-ak h];exact T5 rfl)
  |exact Ev.nos h
  |(obtain⟨a,_,z,_⟩:=r.tup';exact T7 z<|hv a)
  |(obtain⟨a,_,z,_⟩:=r.lst';exact T7 z<|hv a)
theorem Rep.ref{x:D}{p:aL}(r:Rep O H x (.ref p)){y:D}{k:Nat}{b:Bool}(h:Pv.eqV (k+1) x y=aa b\/Pv.eqV (k+1) y x=aa b):(∃ds es,x=.tup ds/\y=.tup es)\/∃ds es,x=.lst ds/\y=.lst es:=by
 cases x with
 |tup ds=>cases y<;>first|exact .inl #[_,_,rfl,rfl]|(rcases h with h|h<;>exact Ev.nos h)
 |lst ds=>cases y<;>first|exact .inr #[_,_,rfl,rfl]|(rcases h with h|h<;>exact Ev.nos h)
 |non=>cases r.non'
 |bl _=>cases r.bl'
 |int _=>cases r.int'
 |str _=>cases r.str'
 |_=>cases y<;>rcases h with h|h<;>exact Ev.nos h
theorem Ww:∀(k:Nat)(x y:D)(v:V)(b:Bool),Rep O H x v->Rep O H y v->Pv.eqV k x y=aa b->b=ai
 |0,_,_,_,_,_,_,h=>by cases h
 |k+1,x,y,v,b,r1,r2,h=>by
  by_cases hv:∃a,v=.ref a
  .obtain⟨p,rfl⟩:=hv
   rcases r1.ref (.inl h)with⟨ds,es,rfl,rfl⟩|⟨ds,es,rfl,rfl⟩
   .obtain⟨_,_,z,e1,q1⟩:=r1.tup'
    cases z;obtain⟨_,_,z,e2,q2⟩:=r2.tup';cases z;rw[e1]at e2;cases e2;exact V1 (λx y v b=>Ww k x y v b) q1 q2 h
   .obtain⟨_,_,z,e1,_,q1⟩:=r1.lst'
    cases z;obtain⟨_,_,z,e2,_,q2⟩:=r2.lst';cases z;rw[e1]at e2;cases e2;have h:(if ds.length=es.length then Pv.YE (Pv.eqV k) ds es else aa am)=aa b:=h
    rw[T9<|by rw[<-q1.length,q2.length]]at h
    exact V1 (λx y v b=>Ww k x y v b) q1 q2 h
  .have hv:=λa z=>hv #[a,z]
   cases r1.sc r2 hv;exact vB r1 hv h
noncomputable def eAt(f:D->D->Option Bool)(ds es:List D)(j:Nat):Bool:=match ds[j]?,es[j]? with
 |some x,aa y=>(f x y).getD am
 |_,_=>am
theorem YM{f:D->D->Option Bool}:∀{ds es:List D}{b:Bool},Pv.YE f ds es=aa b->
  ((az<|oK ds.length es.length).all (eAt f ds es)&&ds.length == es.length)=b/\∀j x y,ds[j]?=aa x->es[j]?=aa y->f x y=aa (eAt f ds es j)
 |[],[],b,h=>#[ak h,λj x y e=>by simp at e]
 |[],_::es,b,h=>#[by rw[<-ak h];simp,λj x y e=>by simp at e]
 |_::ds,[],b,h=>#[by rw[<-ak h];simp,λj x y _ e=>by simp at e]
 |d::ds,e::es,b,h=>by
  unfold Pv.YE at h;cases q1:f d e with
  |none=>rw[q1]at h;cases h
  |some p=>
   cases q2:Pv.YE f ds es with
   |none=>rw[q1,q2]at h;cases h
   |some q=>
    rw[q1,q2]at h;obtain⟨ih,ih2⟩:=YM q2;have h':=ak h;have e0:eAt f (d::ds) (e::es) 0=p:=by simp[eAt,q1]
    have es':∀j,eAt f (d::ds) (e::es) (j+1)=eAt f ds es j:=λj=>by simp[eAt]
    refine#[?_,λj x y hx hy=>?_]
    .rw[<-h',<-ih,aK,aK,Nat.succ_min_succ,kJ,fQ,e0,ic]
     have:((az<|oK ds.length es.length).all<|eAt f (d::ds) (e::es)∘Nat.succ)=(az<|oK ds.length es.length).all (eAt f ds es):=by
      exact congrArg (λg=>(az<|oK ds.length es.length).all g)<|funext λj=>es' j
     rw[this,Bool.and_assoc]
     congr 2
     simp
    .cases j with
     |zero=>
      simp at hx hy;subst hx hy;rw[e0];exact q1
     |succ j=>
      rw[es' j];exact ih2 j x y (by simpa using hx) (by simpa using hy)
def Yy{A:cZ}{k:Nat}(h:A.units+(k+1)<dv):A.in1.units+k<dv:=by
 have e:A.in1.units<=A.units+1:=by
  first|exact aN _|(simp[cZ.in1,cZ.units]<;>lia)
 lia
theorem zX(I:Inv X pq Z H s):∀(k:Nat)(A:cZ)(x y:D)(v u:V)(vv uu:ap)(b:Bool),A.units+k<dv->Rep O H x v->Rep O H y u->Zx v vv->Zx u uu->Pv.eqV k x y=aa b->gH A s vv uu b
 |0,_,_,_,_,_,_,_,_,_,_,_,_,_,h=>by cases h
 |k+1,A,x,y,v,u,vv,uu,b,hu,r1,r2,e1,e2,h=>by
  have flat:yU v=ai->yU u=ai->eqV v u=b->gH A s vv uu b:=λf1 f2 e=>by rw[<-e];exact Zco e1 e2 f1 f2
  have bb:∀{a c:Bool},(a == c)=af (a=c):=λ{a c}=>by cases a<;>cases c<;>rfl
  have ii:∀{a c:Int},(a == c)=af (a=c):=λ{a c}=>by rw[cE];simp
  have ss:∀{a c:bB},(a == c)=af (a=c):=λ{a c}=>by rw[cE];simp
  have item:∀{ds es:List D}{xs ys:List V}(j:Nat)(its its2:List ap)(j1:j<its.toArray.size)(j2:j<its2.toArray.size),its.toArray.size=ds.length->its2.toArray.size=es.length->Vals xs its->Vals ys its2->Rq O H ds xs->Rq O H es ys->(∀j x y,ds[j]?=aa x->es[j]?=aa y->Pv.eqV k x y=aa (eAt (Pv.eqV k) ds es j))->gH A.in1 s its.toArray[j] its2.toArray[j] (eAt (Pv.eqV k) ds es j):=λ{ds es xs ys} j its its2 j1 j2 n1 n2 v1 v2 q1 q2 ea=>by
   have d1:ds[j]?=aa ds[j]:=ae (by lia)
   have d2:es[j]?=aa es[j]:=ae (by lia)
   obtain⟨w1,g1,z1⟩:=q1.get d1;obtain⟨w2,g2,z2⟩:=q2.get d2;obtain⟨m1,k1,y1⟩:=v1.get g1;obtain⟨m2,k2,y2⟩:=v2.get g2;have o1:its.toArray[j]=m1:=by simpa using(aU.mp k1).2
   have o2:its2.toArray[j]=m2:=by simpa using(aU.mp k2).2
   rw[o1,o2];exact zX I k A.in1 ds[j] es[j] w1 w2 m1 m2 _ (Yy hu) z1 z2 y1 y2<|ea j _ _ d1 d2
  cases x with
  |non=>
   cases r1.non';cases y with|non=>cases r2.non';exact flat rfl rfl<|ak h|bl _=>cases r2.bl';exact flat rfl rfl<|ak h|int _=>cases r2.int';exact flat rfl rfl<|ak h|str _=>cases r2.str';exact flat rfl rfl<|ak h|_=>exact Ev.nos h
  |bl i=>
   cases r1.bl';cases y with|non=>cases r2.non';exact flat rfl rfl<|ak h|bl _=>cases r2.bl';exact flat rfl rfl<|bb.trans<|ak h|int _=>cases r2.int';exact flat rfl rfl<|ii.trans<|ak h|str _=>cases r2.str';exact flat rfl rfl<|ak h|_=>exact Ev.nos h
  |int i=>
   cases r1.int';cases y with|non=>cases r2.non';exact flat rfl rfl<|ak h|bl _=>cases r2.bl';exact flat rfl rfl<|ii.trans<|ak h|int _=>cases r2.int';exact flat rfl rfl<|ii.trans<|ak h|str _=>cases r2.str';exact flat rfl rfl<|ak h|_=>exact Ev.nos h
  |str i=>
   cases r1.str';cases y with|non=>cases r2.non';exact flat rfl rfl<|ak h|bl _=>cases r2.bl';exact flat rfl rfl<|ak h|int _=>cases r2.int';exact flat rfl rfl<|ak h|str _=>cases r2.str';exact flat rfl rfl<|ss.trans<|ak h|_=>exact Ev.nos h
  |tup ds=>
   obtain⟨p,xs,rfl,hp,q1⟩:=r1.tup';cases e1;cases y with
   |tup es=>
    obtain⟨p',ys,rfl,hp',q2⟩:=r2.tup';cases e2;by_cases hpp:p=p'
    .subst hpp
     rw[Ww (k+1) (.tup ds) (.tup es) (.ref p) b r1 r2 h];exact gX _
    .obtain⟨its,v1,t1,_⟩:=I.tuple (SqT.of hp)
     obtain⟨its2,v2,t2,_⟩:=I.tuple<|SqT.of hp';have h':=h;obtain⟨ev,ea⟩:=YM h';have n1:its.toArray.size=ds.length:=by rw[ay,<-v1.length,q1.length]
     have n2:its2.toArray.size=es.length:=by rw[ay,<-v2.length,q2.length]
     refine iD hpp ?_;rw[<-ev,<-n1,<-n2];exact iV t1 t2 (by lia) λj j1 j2=>item j its its2 j1 j2 n1 n2 v1 v2 q1 q2 ea
   |_=>exact Ev.nos h
  |lst ds=>
   obtain⟨p,xs,rfl,u1,_,q1⟩:=r1.lst';cases e1;cases y with
   |lst es=>
    obtain⟨p',ys,rfl,u2,_,q2⟩:=r2.lst';cases e2;by_cases hpp:p=p'
    .subst hpp
     rw[Ww (k+1) (.lst ds) (.lst es) (.ref p) b r1 r2 h];exact gX _
    .obtain⟨its,v1,p1,_⟩:=I.list (SqL.of u1)
     obtain⟨its2,v2,p2,_⟩:=I.list<|SqL.of u2;have n1:its.toArray.size=ds.length:=by rw[ay,<-v1.length,q1.length]
     have n2:its2.toArray.size=es.length:=by rw[ay,<-v2.length,q2.length]
     refine iD hpp ?_;have h2:(if ds.length=es.length then Pv.YE (Pv.eqV k) ds es else aa am)=aa b:=h
     by_cases hl:ds.length=es.length
     .rw[T9 hl]at h2
      obtain⟨ev,ea⟩:=YM h2;have ev':(az ds.length).all (eAt (Pv.eqV k) ds es)=b:=by
       rw[<-ev,<-hl,mL];simp
      rw[<-ev',<-n1];exact ni p1.isList p2.isList (by lia) (by lia) λj j1 j2=>item j its its2 j1 j2 n1 n2 v1 v2 q1 q2 ea
     .rw[T8 hl]at h2
      rw[<-ak h2];exact iZ p1.isList p2.isList (bne_iff_ne.mpr<|by lia) (by lia)
   |_=>exact Ev.nos h
  |_=>exact Ev.nos h
def Wn(I:Inv X pq Z H s){k:Nat}{A:cZ}{ds es:List D}{xs ys:List V}{its its2:List ap}{b:Bool}(hu:A.units+(k+1)<dv)
  (q1:Rq O H ds xs)(q2:Rq O H es ys)(v1:Vals xs its)(v2:Vals ys its2)(h:Pv.YE (Pv.eqV k) ds es=aa b) :
  ∀j (h1:j<its.toArray.size) (h2:j<its2.toArray.size),gH A.in1 s its.toArray[j] its2.toArray[j] (eAt (Pv.eqV k) ds es j):=λj j1 j2=>by
 obtain⟨_,ea⟩:=YM h;have n1:its.toArray.size=ds.length:=by rw[ay,<-v1.length,q1.length]
 have n2:its2.toArray.size=es.length:=by rw[ay,<-v2.length,q2.length]
 have d1:ds[j]?=aa ds[j]:=ae (by lia)
 have d2:es[j]?=aa es[j]:=ae (by lia)
 obtain⟨w1,g1,z1⟩:=q1.get d1;obtain⟨w2,g2,z2⟩:=q2.get d2;obtain⟨m1,k1,y1⟩:=v1.get g1;obtain⟨m2,k2,y2⟩:=v2.get g2;have o1:its.toArray[j]=m1:=by
  have:=aU.mp k1
  simpa using this.2
 have o2:its2.toArray[j]=m2:=by
  have:=aU.mp k2
  simpa using this.2
 rw[o1,o2];exact zX I k A.in1 ds[j] es[j] w1 w2 m1 m2 _ (Yy hu) z1 z2 y1 y2<|ea j _ _ d1 d2
def ZaK(K:ao)(xw:Nat->Hp->Prop)(op:Cop):R2:=λv u H Q=>∃O S x y,St3 K O S H/\Rep O H x v/\Rep O H y u/\End K xw Rep O H Q (Pv.po (Pv.Yk op x y) S)
def Zcf :∀Z H Q,tE X xw (Pv.pv C<|.cmp op i j) Z H Q->tOp (ZaK X.K xw op) (tE X xw<|Pv.pv C i) (tE X xw<|Pv.pv C j) Z H Q:=λZ H Q h=>
 XA (λ{O H S x y v u Q} st rx ry h=>#[O,S,x,y,st,rx,ry,h]) Z H Q h
def dI{a c:Int}:(a == c)=af (a=c):=by rw[cE];simp
def yA{H:Hp}{O:Mx}{k:Nat}{x y:D}{v u:V}{b:Bool}(rx:Rep O H x v)(ry:Rep O H y u)(hb:Pv.eqV (k+1) x y=aa b):(scal v u=ai/\af (v=u)=b)\/(∃i j,v=.bl i/\u=.int j/\af (Ev.b2i i=j)=b)\/(∃i j,v=.int i/\u=.bl j/\af (i=Ev.b2i j)=b)\/(∃ds es,x=.tup ds/\y=.tup es/\Pv.YE (Pv.eqV k) ds es=aa b)\/∃ds es,x=.lst ds/\y=.lst es/\(if ds.length=es.length then Pv.YE (Pv.eqV k) ds es else aa am)=aa b:=by
 cases x with
 |non=>cases rx.non';cases y with|non=>cases ry.non';exact .inl #[rfl,ak hb▸by simp]|bl _=>cases ry.bl';exact .inl #[rfl,ak hb]|int _=>cases ry.int';exact .inl #[rfl,ak hb]|str _=>cases ry.str';exact .inl #[rfl,ak hb]|_=>exact Ev.nos hb
 |bl i=>cases rx.bl';cases y with|non=>cases ry.non';exact .inl #[rfl,ak hb]|bl j=>cases ry.bl';exact .inl #[rfl,ak hb▸by simp]|int j=>cases ry.int';exact .inr<|.inl #[i,j,rfl,rfl,ak hb]|str _=>cases ry.str';exact .inl #[rfl,ak hb]|_=>exact Ev.nos hb
 |int i=>cases rx.int';cases y with|non=>cases ry.non';exact .inl #[rfl,ak hb]|bl j=>cases ry.bl';exact .inr<|.inr<|.inl #[i,j,rfl,rfl,ak hb]|int _=>cases ry.int';exact .inl #[rfl,ak hb▸by simp]|str _=>cases ry.str';exact .inl #[rfl,ak hb]|_=>exact Ev.nos hb
 |str i=>cases rx.str';cases y with|non=>cases ry.non';exact .inl #[rfl,ak hb]|bl _=>cases ry.bl';exact .inl #[rfl,ak hb]|int _=>cases ry.int';exact .inl #[rfl,ak hb]|str _=>cases ry.str';exact .inl #[rfl,ak hb▸by simp]|_=>exact Ev.nos hb
 |tup ds=>cases y with|tup es=>exact .inr<|.inr<|.inr<|.inl #[ds,es,rfl,rfl,hb]|_=>exact Ev.nos hb
 |lst ds=>cases y with|lst es=>exact .inr<|.inr<|.inr<|.inr #[ds,es,rfl,rfl,hb]|_=>exact Ev.nos hb
 |_=>exact Ev.nos hb
def Zcp(hu:X.A.units+6<dv):OpR X (cF .Eq) (ZaK X.K xw .eq):=by
 intro pq s Z H v u vv uu Q I e1 e2 h;obtain⟨O,S,x,y,st,rx,ry,h⟩:=h;obtain⟨b,hb,h1⟩:=End.map h;have q:=End.ok h1 st<|Ye b;rcases yA rx ry hb with⟨hs,e⟩|⟨i,j,rfl,rfl,e⟩|⟨i,j,rfl,rfl,e⟩|⟨ds,es,rfl,rfl,hb'⟩|⟨ds,es,rfl,rfl,h2⟩
 .exact Zdm pq s Z H v u vv uu Q I e1 e2 #[hs,by rw[e];exact q]
 .cases e1
  obtain⟨t,rfl⟩:=e2;refine EqBoolInt.eq_bool_int #[.bl b,H,I,?_,q];show dg ((if i then 1 else 0) == j)=dg b
  rw[dI];exact congrArg dg e
 .cases e2
  obtain⟨t,rfl⟩:=e1;refine EqBoolInt.eq_int_bool #[.bl b,H,I,?_,q];show dg (i == (if j then 1 else 0))=dg b
  rw[dI];exact congrArg dg e
 ·
  obtain⟨p,xs,rfl,hp,q1⟩:=rx.tup';cases e1;obtain⟨p',ys,rfl,hp',q2⟩:=ry.tup';cases e2;obtain⟨its,v1,t1,_⟩:=I.tuple<|SqT.of hp;obtain⟨its2,v2,t2,_⟩:=I.tuple<|SqT.of hp';obtain⟨ev,_⟩:=YM hb';have n1:its.toArray.size=ds.length:=by rw[ay,<-v1.length,q1.length]
  have n2:its2.toArray.size=es.length:=by rw[ay,<-v2.length,q2.length]
  refine iV t1 t2 (by lia) (Wn I hu q1 q2 v1 v2 hb') X.prog X.w X.xe _ ?_
  rw[n1,n2,ev];exact#[.bl b,H,I,rfl,q]
 ·
  obtain⟨p,xs,rfl,u1,_,q1⟩:=rx.lst';cases e1;obtain⟨p',ys,rfl,u2,_,q2⟩:=ry.lst';cases e2;obtain⟨its,v1,p1,_⟩:=I.list<|SqL.of u1;obtain⟨its2,v2,p2,_⟩:=I.list<|SqL.of u2;have n1:its.toArray.size=ds.length:=by rw[ay,<-v1.length,q1.length]
  have n2:its2.toArray.size=es.length:=by rw[ay,<-v2.length,q2.length]
  by_cases hl:ds.length=es.length
  .rw[T9 hl]at h2
   obtain⟨ev,_⟩:=YM h2;have ev':(az ds.length).all (eAt (Pv.eqV 5) ds es)=b:=by
    rw[<-ev,<-hl,mL];simp
   refine ni p1.isList p2.isList (by lia) (by lia) (Wn I hu q1 q2 v1 v2 h2) X.prog X.w X.xe _ ?_
   rw[n1,ev'];exact#[.bl b,H,I,rfl,q]
  .rw[T8 hl]at h2
   refine iZ p1.isList p2.isList (bne_iff_ne.mpr<|by lia) (by lia) X.prog X.w X.xe _ ?_
   exact#[.bl b,H,I,congrArg dg<|ak h2,q]
def ZcO(hu:X.A.units+6<dv):OpR X (cF .NotEq) (ZaK X.K xw .ne):=by
 intro pq s Z H v u vv uu Q I e1 e2 h;obtain⟨O,S,x,y,st,rx,ry,h⟩:=h;obtain⟨b,hb,h1⟩:=End.map h;have q:=End.ok h1 st<|Ye _;rcases yA rx ry hb with⟨hs,e⟩|⟨i,j,rfl,rfl,e⟩|⟨i,j,rfl,rfl,e⟩|⟨ds,es,rfl,rfl,hb'⟩|⟨ds,es,rfl,rfl,h2⟩
 .exact Zdv pq s Z H v u vv uu Q I e1 e2 #[hs,by rw[e];exact q]
 .cases e1
  obtain⟨t,rfl⟩:=e2;refine EqBoolInt.ne_bool_int #[.bl !b,H,I,?_,q];show dg (!((if i then 1 else 0) == j))=dg !b
  rw[dI];exact congrArg (λz=>dg !z) e
 .cases e2
  obtain⟨t,rfl⟩:=e1;refine EqBoolInt.ne_int_bool #[.bl !b,H,I,?_,q];show dg (!(i == (if j then 1 else 0)))=dg !b
  rw[dI];exact congrArg (λz=>dg !z) e
 ·
  obtain⟨p,xs,rfl,hp,q1⟩:=rx.tup';cases e1;obtain⟨p',ys,rfl,hp',q2⟩:=ry.tup';cases e2;obtain⟨its,v1,t1,_⟩:=I.tuple<|SqT.of hp;obtain⟨its2,v2,t2,_⟩:=I.tuple<|SqT.of hp';obtain⟨ev,_⟩:=YM hb';have n1:its.toArray.size=ds.length:=by rw[ay,<-v1.length,q1.length]
  have n2:its2.toArray.size=es.length:=by rw[ay,<-v2.length,q2.length]
  refine SeqAt.RcNeAt.tuples t1 t2 (by lia) (Wn I hu q1 q2 v1 v2 hb') X.prog X.w X.xe _ ?_
  rw[n1,n2,ev];exact#[.bl !b,H,I,rfl,q]
 ·
  obtain⟨p,xs,rfl,u1,_,q1⟩:=rx.lst';cases e1;obtain⟨p',ys,rfl,u2,_,q2⟩:=ry.lst';cases e2;obtain⟨its,v1,p1,_⟩:=I.list<|SqL.of u1;obtain⟨its2,v2,p2,_⟩:=I.list<|SqL.of u2;have n1:its.toArray.size=ds.length:=by rw[ay,<-v1.length,q1.length]
  have n2:its2.toArray.size=es.length:=by rw[ay,<-v2.length,q2.length]
  by_cases hl:ds.length=es.length
  .rw[T9 hl]at h2
   obtain⟨ev,_⟩:=YM h2;have ev':(az ds.length).all (eAt (Pv.eqV 5) ds es)=b:=by
    rw[<-ev,<-hl,mL];simp
   refine SeqAt.RcNeAt.lists p1.isList p2.isList (by lia) (by lia) (Wn I hu q1 q2 v1 v2 h2) X.prog X.w X.xe _ ?_
   rw[n1,ev'];exact#[.bl !b,H,I,rfl,q]
  .rw[T8 hl]at h2
   refine SeqAt.RcNeAt.lists_lengths p1.isList p2.isList (bne_iff_ne.mpr<|by lia) (by lia) X.prog X.w X.xe _ ?_
   exact#[.bl !b,H,I,congrArg (λz=>dg !z)<|ak h2,q]
theorem Jc(hf:∀x x' y v b b',Rep O H x v->Rep O H x' v->f x y=aa b->f x' y=aa b'->b=b') :
  ∀{ds ds' es:List D}{xs:List V}{b b':Bool},Rq O H ds xs->Rq O H ds' xs->Pv.YE f ds es=aa b->Pv.YE f ds' es=aa b'->b=b'
 |[],[],[],_,b,b',_,_,h,h'=>(ak h).symm.trans<|ak h'
 |[],[],_::_,_,b,b',_,_,h,h'=>(ak h).symm.trans<|ak h'
 |_::_,_::_,[],_,b,b',_,_,h,h'=>(ak h).symm.trans<|ak h'
 |d::ds,d'::ds',e::es,_,b,b',r1,r2,h,h'=>by
  obtain⟨v,vs,rfl,a1,b1⟩:=r1;obtain⟨v',vs',e',a2,b2⟩:=r2;cases e';unfold Pv.YE at h h';cases q1:f d e with
  |none=>rw[q1]at h;cases h
  |some p=>
   cases q2:Pv.YE f ds es with
   |none=>rw[q1,q2]at h;cases h
   |some q=>
    cases q3:f d' e with
    |none=>rw[q3]at h';cases h'
    |some p'=>
     cases q4:Pv.YE f ds' es with
     |none=>rw[q3,q4]at h';cases h'
     |some q'=>
      rw[q1,q2]at h;rw[q3,q4]at h';have z1:=ak h;have z2:=ak h';rw[<-z1,<-z2,hf d d' e v p p' a1 a2 q1 q3,Jc hf b1 b2 q2 q4]
 |[],_::_,_,_,b,b',r1,r2,_,_=>by
  have l1:=r1.length;have l2:=r2.length;rw[l1]at l2;simp at l2
 |_::_,[],_,_,b,b',r1,r2,_,_=>by
  have l1:=r1.length;have l2:=r2.length;rw[l1]at l2;simp at l2
theorem Jw:∀(k:Nat)(x x' y:D)(v:V)(b b':Bool),Rep O H x v->Rep O H x' v->Pv.eqV k x y=aa b->Pv.eqV k x' y=aa b'->b=b'
 |0,_,_,_,_,_,_,_,_,h,_=>by cases h
 |k+1,x,x',y,v,b,b',r1,r2,h,h'=>by
  by_cases hv:∃a,v=.ref a
  .obtain⟨p,rfl⟩:=hv
   rcases r1.ref (.inl h)with⟨ds,es,rfl,rfl⟩|⟨ds,es,rfl,rfl⟩<;>rcases r2.ref (.inl h')with⟨ds',es',rfl,z⟩|⟨ds',es',rfl,z⟩<;>cases z
   .obtain⟨_,_,z,e1,q1⟩:=r1.tup'
    cases z;obtain⟨_,_,z,e2,q2⟩:=r2.tup';cases z;rw[e1]at e2;cases e2;exact Jc (λx x' y v b b'=>Jw k x x' y v b b') q1 q2 h h'
   .obtain⟨_,_,z,e1,_,q1⟩:=r1.lst'
    cases z;obtain⟨_,_,z,e2,_,q2⟩:=r2.lst';cases z;rw[e1]at e2;cases e2;have l:ds'.length=ds.length:=by rw[<-q1.length,q2.length]
    have h:(if ds.length=es.length then Pv.YE (Pv.eqV k) ds es else aa am)=aa b:=h
    have h':(if ds'.length=es.length then Pv.YE (Pv.eqV k) ds' es else aa am)=aa b':=h'
    rw[l]at h';by_cases c:ds.length=es.length
    .rw[T9 c]at h h'
     exact Jc (λx x' y v b b'=>Jw k x x' y v b b') q1 q2 h h'
    .rw[T8 c]at h h'
     exact ak<|h.symm.trans h'
  .cases r1.sc r2 λa z=>hv #[a,z]
   exact ak<|h.symm.trans h'
theorem Jk :∀{ds:List D}{b:Bool},Pv.Wj x ds=aa b->∀d∈ds,∃c,Pv.eqV Ev.Zr d x=aa c
 |[],_,_,d,hd=>by cases hd
 |y::ys,b,h,d,hd=>by
  unfold Pv.Wj at h;cases q1:Pv.eqV Ev.Zr y x with
  |none=>rw[q1]at h;cases h
  |some p=>
   cases q2:Pv.Wj x ys with
   |none=>rw[q1,q2]at h;cases h
   |some q=>
    rcases aB.mp hd with rfl|hd
    .exact#[p,q1]
    .exact Jk q2 d hd
theorem xD :∀{ds:List D}{b:Bool},Pv.Wj x ds=aa b->(ds.any λd=>(Pv.eqV Ev.Zr d x).getD am)=b
 |[],_,h=>ak h
 |y::ys,b,h=>by
  unfold Pv.Wj at h;cases q1:Pv.eqV Ev.Zr y x with
  |none=>rw[q1]at h;cases h
  |some p=>
   cases q2:Pv.Wj x ys with
   |none=>rw[q1,q2]at h;cases h
   |some q=>
    rw[q1,q2]at h;rw[fP,xD q2,q1,<-ak h];rfl
open Classical in
def WE(I:Inv X pq Z H s)(hu:A.units+6<dv)(rx:Rep O H x v)(ex:Zx v vv)
  (q:Rq O H ds xs)(vs:Vals xs its)(h:Pv.Wj x ds=aa b):∃e:ap->Bool,(∀u,u∈its.toArray->gH A s u vv (e u))/\its.toArray.any e=b:=by
 refine#[λu=>af (∃d∈ds,∃w,Rep O H d w/\Zx w u/\Pv.eqV Ev.Zr d x=aa ai),λu hu'=>?_,?_]
 .have hu2:u∈its:=by simpa using hu'
  obtain⟨j,hj,e⟩:=cH hu2;have hl:j<ds.length:=by rw[<-q.length,vs.length];exact hj
  obtain⟨w,g,r⟩:=q.get<|ae hl;obtain⟨u',g',r'⟩:=vs.get g;have eu:u'=u:=by
   rw[ae hj]at g';exact(ak g').symm.trans e
  subst eu;obtain⟨c,hc⟩:=Jk h ds[j]<|aW hl;have ec:af (∃d∈ds,∃w,Rep O H d w/\Zx w u'/\Pv.eqV Ev.Zr d x=aa ai)=c:=by
   cases c with
   |true=>exact T5 #[ds[j],aW hl,w,r,r',hc]
   |false=>
    refine T4 ?_
    rintro ⟨d,hd,w',a1,a2,a3⟩
    cases a2.inj r';exact T7 (Jw 6 d ds[j] x w ai am a1 r a3 hc) (by decide)
  dsimp only
  rw[ec];exact zX I 6 A ds[j] x w v u' vv c hu r rx r' ex hc
 .rw[<-xD h,List.any_toArray,cE,fG,fG]
  constructor
  .rintro ⟨u,hu1,h1⟩
   obtain⟨d,hd,w,a1,a2,a3⟩:=T6 h1;exact#[d,hd,by rw[a3];rfl]
  .rintro ⟨d,hd,h1⟩
   obtain⟨j,hj,e⟩:=cH hd;subst e;obtain⟨w,g,r⟩:=q.get<|ae hj;obtain⟨u,g',r'⟩:=vs.get g;refine#[u,dH g',T5 #[ds[j],hd,w,r,r',?_]];obtain⟨c,hc⟩:=Jk h ds[j] hd;rw[hc]at h1 ⊢;exact congrArg aa h1
section
variable{X:Cx}{xw:Nat->Hp->Prop}{C:Calls}{e a b c:Expr}{i j k:E}{pos p p':gW}
def ZcY(hu:X.A.units+7<dv):OpR X (cF .In) (λv u H Q=>∃O S x ds b,St3 X.K O S H/\Rep O H x v/\(Rep O H (.tup ds) u\/Rep O H (.lst ds) u)/\Pv.Wj x ds=aa b/\Q (.bl b) H):=by
 intro pq s Z H v u vv uu Q I e1 e2 h;obtain⟨O,S,x,ds,b,st,rx,ry,hb,q⟩:=h;rcases ry with ry|ry
 .obtain⟨p,xs,rfl,hp,q1⟩:=ry.tup'
  cases e2;obtain⟨its,v1,t1,_⟩:=I.tuple<|SqT.of hp;obtain⟨f,h1,h2⟩:=WE I (Yy hu) rx e1 q1 v1 hb;exact SeqAt.in_tupleAt f t1 h1 (by rw[h2];exact#[.bl b,H,I,rfl,q])
 .obtain⟨p,xs,rfl,hx,_,q1⟩:=ry.lst'
  cases e2;obtain⟨its,v1,t1,_⟩:=I.list<|SqL.of hx;obtain⟨f,h1,h2⟩:=WE I (Yy hu) rx e1 q1 v1 hb;exact SeqAt.in_listAt f t1.isList h1 (by rw[h2];exact#[.bl b,H,I,rfl,q])
def jG(hu:X.A.units+7<dv):OpR X (cF .NotIn) (λv u H Q=>∃O S x ds b,St3 X.K O S H/\Rep O H x v/\(Rep O H (.tup ds) u\/Rep O H (.lst ds) u)/\Pv.Wj x ds=aa b/\Q (.bl !b) H):=by
 intro pq s Z H v u vv uu Q I e1 e2 h;obtain⟨O,S,x,ds,b,st,rx,ry,hb,q⟩:=h;rcases ry with ry|ry
 .obtain⟨p,xs,rfl,hp,q1⟩:=ry.tup'
  cases e2;obtain⟨its,v1,t1,_⟩:=I.tuple<|SqT.of hp;obtain⟨f,h1,h2⟩:=WE I (Yy hu) rx e1 q1 v1 hb;exact SeqAt.notIn_tupleAt f t1 h1 (by rw[h2];exact#[.bl !b,H,I,rfl,q])
 .obtain⟨p,xs,rfl,hx,_,q1⟩:=ry.lst'
  cases e2;obtain⟨its,v1,t1,_⟩:=I.list<|SqL.of hx;obtain⟨f,h1,h2⟩:=WE I (Yy hu) rx e1 q1 v1 hb;exact SeqAt.notIn_listAt f t1.isList h1 (by rw[h2];exact#[.bl !b,H,I,rfl,q])
variable{O:Mx}{H:Hp}{S:Zt}{x y:D}{v u:V}{Q:VK}{K:ao}
def Za0(h:Pv.int2 x y=aa z):x=.int z.1/\y=.int z.2:=by
 cases x<;>first|exact Ev.nos h|(cases y<;>first|exact Ev.nos h|(cases h;exact#[rfl,rfl]))
def QE{f:Int×Int->Bool}(st:St3 K O S H)(rx:Rep O H x v)(ry:Rep O H y u)(h:End K xw Rep O H Q (Pv.po ((Pv.int2 x y).map λz=>.bl<|f z) S)):rI0 (λi j=>.bl<|f (i,j)) v u H Q:=by
 obtain⟨z,hz,h⟩:=End.map h;obtain⟨rfl,rfl⟩:=Za0 hz;exact#[_,_,rx.int',ry.int',End.ok h st<|Ye _]
def Zdj(st:St3 K O S H)(rx:Rep O H x v)(ry:Rep O H y u)(h:End K xw Rep O H Q (Pv.po (Pv.Yk .lt x y) S)):rI0 (λi j=>.bl<|af<|i<j) v u H Q\/∃a b A B,x=.tup a/\y=.tup b/\Pv.Z2 a=aa A/\Pv.Z2 b=aa B/\Q (.bl<|Ev.ltP A B) H:=by
 cases x with
 |tup a=>cases y with
  |tup b=>
   obtain⟨z,hz,h⟩:=End.po h;obtain⟨A,hA,hz⟩:=cQ.mp hz;obtain⟨B,hB,rfl⟩:=bF.mp hz;exact .inr #[a,b,A,B,rfl,rfl,hA,hB,End.ok h st<|Ye _]
  |_=>exact False.elim h
 |_=>exact .inl<|QE (f:=λz=>af<|z.1<z.2) st rx ry h
end
section
variable{X:Cx}{xw:Nat->Hp->Prop}{C:Calls}{e a b c:Expr}{i j k:E}{pos p p':gW}
def XF{B β γ:Type}(r:R B)(f:B->Zt->R β)(g:β->Zt->R γ):(r.bind f).bind g=r.bind λa S=>(f a S).bind g:=by cases r<;>rfl
def zm{B:Type}{o:Option B}{f:B->Bool}{z:D}(h:o.map (λa=>Pv.V.bl<|f a)=aa z):∃b,z=.bl b:=by
 obtain⟨a,_,rfl⟩:=bF.mp h;exact#[_,rfl]
def uM{o:Cop}{x y:D}{S S':Zt}{z:D}(h:Pv.po (Pv.Yk o x y) S=.ok z S'):∃b,z=.bl b:=by
 have h:Pv.Yk o x y=aa z:=by
  cases q:Pv.Yk o x y<;>rw[q]at h<;>cases h;rfl
 cases o with
 |lt=>
  cases x with
  |tup a=>
   cases y with|tup b=>obtain⟨A,_,h⟩:=cQ.mp h;exact zm h|_=>exact Ev.nos h
  |int i=>exact zm h
  |_=>exact Ev.nos h
 |_=>exact zm h
def Xq(X:Cx)(xw:Nat->Hp->Prop)(op:CmpOp)(o:Cop):Prop:=OpR X (cF op)<|ZaK X.K xw o
def OpR.imp(h:OpR X f r)(k:∀v u H Q,r' v u H Q->r v u H Q):OpR X f r':=λpq s Z H x y v u Q I e1 e2 q=>h pq s Z H x y v u Q I e1 e2<|k x y H Q q
theorem uL(hu:X.A.units+7<dv):Xq X xw .Eq .eq:=Zcp (by lia)
theorem vi(hu:X.A.units+7<dv):Xq X xw .NotEq .ne:=ZcO (by lia)
def UY(hu:X.A.units+7<dv):Xq X xw .LtE .le:=OpR.imp ZdZ<|by rintro v u H Q ⟨O,S,x,y,st,rx,ry,h⟩;exact QE st rx ry h
def uB(hu:X.A.units+7<dv):Xq X xw .Gt .gt:=OpR.imp Zdy<|by rintro v u H Q ⟨O,S,x,y,st,rx,ry,h⟩;exact QE (f:=λz=>af<|z.2<z.1) st rx ry h
def uF(hu:X.A.units+7<dv):Xq X xw .GtE .ge:=OpR.imp Zd8<|by rintro v u H Q ⟨O,S,x,y,st,rx,ry,h⟩;exact QE st rx ry h
def GB{O:Mx}{H:Hp}{x y:D}{u:V}{b:Bool}(ry:Rep O H y u)(h:Pv.VC x y=aa b) :
  (∃ds,(Rep O H (.tup ds) u\/Rep O H (.lst ds) u)/\Pv.Wj x ds=aa b)\/
  (∃(l:List (List Int))(k:List D)(ks:List Int),(∃(p:aL)(vs:List (List Key×V)),u=.ref p/\Rd H p (.dT vs)/\vs.map (·.1)=l.map (·.map cY))/\x=.tup k/\Pv.intsV k=aa ks/\l.contains ks=b):=by
 cases y with
 |tup ys=>exact .inl #[ys,.inl ry,h]
 |lst ys=>exact .inl #[ys,.inr ry,h]
 |dct o=>
  cases o with
  |none=>exact Ev.nos h
  |some l=>
   cases x with
   |tup k=>
    obtain⟨ks,e,z⟩:=bF.mp h;obtain⟨p,e1,o,vs,e2,e3⟩:=ry.dct';exact .inr #[l,k,ks,#[p,vs,e1,.inr #[o,e2],e3],rfl,e,z]
   |_=>exact Ev.nos h
 |dow l=>
  cases x with
  |tup k=>
   obtain⟨ks,e,z⟩:=bF.mp h;obtain⟨p,vs,e1,e2,_,e3⟩:=ry.dow';exact .inr #[l,k,ks,#[p,vs,e1,.inl e2,e3],rfl,e,z]
  |_=>exact Ev.nos h
 |_=>exact Ev.nos h
def Xu{op:CmpOp}{o:Cop}(hc:Xq X xw op o)(ha:CE X xw C a i)(hb:CE X xw C b j)(hm:fM op b=am):CE X xw C (.Compare a [op] [b] pos) (.cmp o i j):=.mk <|
 PE.imp (ZaR hc ha.h hb.h hm) (Zcf)
def XB{op:CmpOp}{o:Cop}(hc:Xq X xw op o)(ha:CE X xw C a i)(hb:CE X xw C b j)(hm:fM op b=am):CT X xw C (.Compare a [op] [b] pos) (.cmp o i j):=.mk <|
 PT.imp (ZaO hc ha.h hb.h hm)<|by
  rintro Z H Q ⟨O,l,S,st,lr,h⟩;have h':End X.K xw WC O H Q (((Pv.pv C i l S).bind λx S=>(Pv.pv C j l S).bind λy S=>Pv.po (Pv.Yk o x y) S).bind λx S=>Pv.po (Pv.Zn x) S):=h
  simp only[XF]at h';refine#[O,l,S,st,lr,h'.bind λx S1 ρ1 H1 v f1 st1 r1 h1=>#[ρ1,l,S1,st1,lr.mono f1,h1.bind λy S2 ρ2 H2 u f2 st2 r2 h2=>#[ρ2,S2,x,y,st2,r1.mono f2,r2,?_]]]
  have h3:∀{r:R D},(∀z S',r=.ok z S'->∃b,z=.bl b)->End X.K xw WC ρ2 H2 Q (r.bind λx S=>Pv.po (Pv.Zn x) S)->End X.K xw Rep ρ2 H2 (λx H'=>∃k,x=V.bl k/\Q k H') r:=λ{r} hr h=>by
   cases r with
   |no=>exact h
   |ex _ _=>exact h
   |ok z S3=>
    obtain⟨b,rfl⟩:=hr z S3 rfl;exact λρ3 H3 w f3 st3 r3=>#[b,r3.bl',h ρ3 H3 b f3 st3 rfl]
  exact h3 (λz S' e=>uM e) h2
def Gy{op op':CmpOp}{o o':Cop}{d:Expr}{k:E}(hc:Xq X xw op o)(hc':Xq X xw op' o')(ha:CE X xw C a i)(hb:CE X xw C b j)(hd:CE X xw C d k)
  (hm:lastMarks [op,op'] [b,d]=am):CE X xw C (.Compare a [op,op'] [b,d] pos) (.chain o o' i j k):=.mk <|
 PE.imp (qz hc hc' ha.h hb.h hd.h hm)<|by
  rintro Z H Q ⟨O,l,S,st,lr,h⟩;refine#[O,l,S,st,lr,End.bind (show End X.K xw Rep O H Q ((Pv.pv C i l S).bind _)from h) λx S1 ρ1 H1 v f1 st1 r1 h1=>#[ρ1,l,S1,st1,lr.mono f1,h1.bind λy S2 ρ2 H2 u f2 st2 r2 h2=>#[ρ2,S2,x,y,st2,r1.mono f2,r2,h2.bind λz S3 ρ3 H3 w f3 st3 r3 h3=>?_]]]
  cases z with
  |bl n=>
   refine#[n,r3.bl',?_];cases n with|true=>exact#[ρ3,l,S3,st3,((lr.mono f1).mono f2).mono f3,End.bind (show End X.K xw Rep ρ3 H3 Q ((Pv.pv C k l S3).bind _)from h3) λt S4 ρ4 H4 t' f4 st4 r4 h4=>#[ρ4,S4,y,t,st4,(r2.mono f3).mono f4,r4,h4]]|false=>exact End.ok h3 st3<|Ye _
  |_=>exact False.elim h3
end
section
variable{X:Cx}{xw:Nat->Hp->Prop}{C:Calls}{e a b c:Expr}{i j k:E}{pos p p' p2:gW}
variable{O:Mx}{H:Hp}{S:Zt}{x y:D}{v u:V}{Q:VK}{K:ao}
def Qh{d:D}{ks:List D}{k:List Int}(h:Pv.intsV (d::ks)=aa k):∃n r,d=.int n/\Pv.intsV ks=aa r/\k=n::r:=by
 cases d<;>first|exact Ev.nos h|(obtain⟨r,e,z⟩:=bF.mp h;exact#[_,r,rfl,e,z.symm])
theorem XQ:∀{ks:List D}{k:List Int}{xs:List V},Pv.intsV ks=aa k->Rq O H ks xs->xs=(k.map (cY:Int->Key)).map kV
 |[],k,xs,h,r=>by cases h;rw[r];rfl
 |d::ks,k,xs,h,r=>by
  obtain⟨v,vs,rfl,a1,b1⟩:=r;obtain⟨n,r,rfl,e,rfl⟩:=Qh h;rw[a1.int',XQ e b1];rfl
theorem xp:∀{k k':List Int},k.map (cY:Int->Key)=k'.map cY->k=k'
 |[],[],_=>rfl
 |[],_::_,h=>by simp at h
 |_::_,[],h=>by simp at h
 |a::k,b::k',h=>by
  rw[a9,a9]at h;injection h with h1 h2
  rw[cY.inj h1,xp h2]
def Vm{k:List Int}{l:List (List Int)}{vs:List (List Key×V)}(h:vs.map (·.1)=l.map (·.map (cY:Int->Key))):(VJ vs<|k.map cY).isSome=l.contains k:=by
 rw[<-XD,show(vs.any λkv=>af<|kv.1=k.map cY)=(vs.map (·.1)).any λy=>af (y=k.map cY) by rw[List.any_map];rfl,h,List.any_map,List.contains_eq_any_beq]
 congr 1
 funext y
 show af (y.map cY=k.map cY)=(k == y);by_cases z:y=k
 .subst z;simp
 .rw[T4 λw=>z<|xp w,beq_eq_false_iff_ne.mpr<|Ne.symm z]
theorem Zck(hu:X.A.units+7<dv):OpR X (cF .In) (λv u H Q=>∃a y o,u=.ref a/\v=y/\DGet H a y o/\Q (.bl o.isSome) H):=by
 intro pq s Z H v u vv uu Q I e1 e2 h;obtain⟨a,y,o,rfl,rfl,g,q⟩:=h;cases e2;exact ZeJ (by lia) I g e1 λs' I'=>#[.bl o.isSome,H,I',rfl,q]
theorem jr(hu:X.A.units+7<dv):OpR X (cF .NotIn) (λv u H Q=>∃a y o,u=.ref a/\v=y/\DGet H a y o/\Q (.bl !o.isSome) H):=by
 intro pq s Z H v u vv uu Q I e1 e2 h;obtain⟨a,y,o,rfl,rfl,g,q⟩:=h;cases e2;exact jw (by lia) I g e1 λs' I'=>#[.bl !o.isSome,H,I',rfl,q]
def vO(hu:X.A.units+7<dv):Xq X xw .In .inn:=OpR.imp ((ZcY hu).or<|Zck hu)<|by
 rintro v u H Q ⟨O,S,x,y,st,rx,ry,h⟩;obtain⟨b,hb,h⟩:=End.map h;have q:=End.ok h st<|Ye _;rcases GB ry hb with⟨ds,hy,hb⟩|⟨l,k,ks,hy,rfl,hk,e⟩
 .exact .inl #[O,S,x,ds,b,st,rx,hy,hb,q]
 .obtain⟨p,vs,rfl,hx,r⟩:=hy
  obtain⟨a,xs,rfl,ha,r2⟩:=rx.tup';refine .inr #[p,.ref a,_,rfl,rfl,.inr #[vs,_,a,hx,rfl,by rw[ha,XQ hk r2],rfl],?_]
  rw[Vm r,e];exact q
def zL(hu:X.A.units+7<dv):Xq X xw .NotIn .nin:=OpR.imp ((jG hu).or<|jr hu)<|by
 rintro v u H Q ⟨O,S,x,y,st,rx,ry,h⟩;obtain⟨b,hb,h⟩:=End.map h;have q:=End.ok h st<|Ye _;rcases GB ry hb with⟨ds,hy,hb⟩|⟨l,k,ks,hy,rfl,hk,e⟩
 .exact .inl #[O,S,x,ds,b,st,rx,hy,hb,q]
 .obtain⟨p,vs,rfl,hx,r⟩:=hy
  obtain⟨a,xs,rfl,ha,r2⟩:=rx.tup';refine .inr #[p,.ref a,_,rfl,rfl,.inr #[vs,_,a,hx,rfl,by rw[ha,XQ hk r2],rfl],?_]
  rw[Vm r,e];exact q
def ZcX(r:Rq O H ds xs)(q:Ev.at' ds n=aa d):∃w,atI xs n=aa w/\Rep O H d w:=by
 obtain⟨m,q2,q⟩:=cQ.mp q;obtain⟨w,g,rw'⟩:=r.get q;refine#[w,?_,rw'];unfold atI;rw[r.length,show ixN ds.length n=aa m from q2]
 exact g
def Zd4(ha:CE X xw C a i)(hb:CE X xw C b j)(hs:xq b):CE X xw C (.Subscript a b pos) (.ix i j):=.mk <| PE.imp (qT (Je.or ZbU) ha.h hb.h hs) (XA λ{O H S x y v u Q} st rx ry h=>by
 obtain⟨d,hd,g0⟩:=End.po h;have k:∃ds n,Pv.Yv x=aa ds/\y=.int n/\Ev.at' ds n=aa d:=by
  cases y with
  |int n=>
   cases x with
   |tup ds=>exact#[ds,n,rfl,rfl,hd]
   |lst ds=>exact#[ds,n,rfl,rfl,hd]
   |scr ns=>
    obtain⟨z,e,rfl⟩:=bF.mp hd;obtain⟨m,q2,q⟩:=cQ.mp e;refine#[_,n,rfl,rfl,?_];unfold Ev.at';rw[aw,q2];show(ns.map Pv.V.int)[m]?=_;rw[aJ,q];rfl
   |_=>exact Ev.nos hd
  |_=>cases x<;>exact Ev.nos hd
 obtain⟨ds,n,e,rfl,hn⟩:=k;obtain⟨p,xs,rfl,hp,r⟩:=rx.seq e;obtain⟨w,g,rw'⟩:=ZcX r hn;rw[st.hk]at hp;have q:=End.ok g0 st rw';rcases hp with hp|hp
 .exact .inl #[p,xs,n,w,rfl,ry.int',hp,g,q]
 .exact .inr #[p,xs,n,w,rfl,ry.int',hp,g,q])
def ZaN:CO X xw C ag ag:=.mk <| PO.imp jk<|by rintro Z H Q ⟨O,l,S,st,lr,h⟩;exact End.ok h st rfl
def Zad(h:CE X xw C e i):CO X xw C (aa e) (aa i):=.mk <| PO.imp (Zs h.h)<|by
 rintro Z H Q ⟨O,l,S,st,lr,h⟩;refine#[O,l,S,st,lr,End.bind (h) λx S1 ρ1 H1 v f1 st1 r1 h1=>?_]
 cases x with|int n=>exact#[n,r1.int',End.ok h1 st1 rfl]|_=>exact False.elim h1
def QU(n d:Nat)(o:Option Int):Ev.sIx n d o=HT.sIx n d o:=by
 cases o with
 |none=>rfl
 |some i=>first|rfl|(rfl)
def yF(r:Rq O H ds xs)(lo hi:Option Int):Rq O H (Pv.Y2 ds lo hi) (Y2 xs lo hi):=by
 unfold Pv.Y2 Y2;rw[QU,QU,r.length];exact(r.drop _).take _
def Zdw{lo hi:Option Expr}{il ih:Option E}(ha:CE X xw C a i)(hl:CO X xw C lo il)(hh:CO X xw C hi ih):CE X xw C (.Subscript a (.Slice lo hi ag p2) pos) (.sl i il ih):=.mk <|
 PE.imp (qi (Zb5.or<|vq.or ju) ha.h hl.h hh.h)<|by
  rintro Z H Q ⟨O,l,S,st,lr,h⟩;refine#[O,l,S,st,lr,End.bind (h) λx S1 ρ1 H1 v f1 st1 r1 h1=>#[ρ1,l,S1,st1,lr.mono f1,h1.bind λy S2 ρ2 H2 u f2 st2 r2 h2=>#[ρ2,l,S2,st2,(lr.mono f1).mono f2,h2.bind λz S3 ρ3 H3 w f3 st3 r3 h3=>?_]]]
  have e1:y=u:=r2;have e2:z=w:=r3;subst e1 e2;have r0:=(r1.mono f2).mono f3;cases x with
  |tup ds=>
   obtain⟨p,xs,rfl,hp,r⟩:=r0.tup';have h':=h3;by_cases hw:HT.sIx xs.length 0 y=0/\HT.sIx xs.length xs.length z=xs.length
   .refine .inr (.inl #[p,xs,rfl,SqT.of hp,hw,End.ok h' st3 ?_])
    have ew:Pv.Y2 ds y z=ds:=by
     unfold Pv.Y2;rw[QU,QU,<-r.length,hw.1,hw.2,iE,Nat.sub_zero,r.length,gI]
    rw[ew];exact YL hp r
   .exact .inl #[p,xs,rfl,SqT.of hp,hw,h'.newT st3<|yF r y z]
  |lst ds=>
   obtain⟨p,xs,rfl,hp,_,r⟩:=r0.lst';exact .inr<|.inr #[p,xs,rfl,SqL.of hp,End.newL (h3) st3<|yF r y z]
  |_=>exact False.elim h3
def UM(K:ao)(xw:Nat->Hp->Prop)(f:Bf):List V->Hp->VK->Prop:=λvs H Q=>∃O S ds,St3 K O S H/\Rq O H ds vs/\End K xw Rep O H Q (Pv.po (Pv.XC f ds) S)
def ZH.imp{r r':List V->Hp->VK->Prop}(h:ZH X f r)(k:∀vs H Q,r' vs H Q->r vs H Q):ZH X f r':=λpq s Z H xs us Q I e q=>h pq s Z H xs us Q I e<|k xs H Q q
def vK :∀Z H Q,tE X xw (Pv.pv C<|.blt f is) Z H Q->tCB (UM X.K xw f) (tA X xw<|Pv.pvs C is) Z H Q:=λZ H Q #[O,l,S,st,lr,h]=>
 #[O,l,S,st,lr,End.bind (h) λxs S1 ρ1 H1 vs f1 st1 r1 h1=>#[ρ1,S1,xs,st1,r1,h1]]
def uU(r:Rq O H [d] vs):∃v,vs=[v]/\Rep O H d v:=by
 obtain⟨v,ws,rfl,a1,b1⟩:=r;exact#[v,by rw[b1],a1]
def yu{d e:D}{vs:List V}(r:Rq O H [d,e] vs):∃v w,vs=[v,w]/\Rep O H d v/\Rep O H e w:=by
 obtain⟨v,ws,rfl,a1,b1⟩:=r;obtain⟨w,rfl,b2⟩:=uU b1;exact#[v,w,rfl,a1,b2]
def VB{rep:Mx->Hp->D->V->Prop}(h:End K xw rep O H Q (Pv.po (Pv.XC f ds) S))(r:Rq O H ds vs)(h1:f≠.max2:=by decide)(h2:f≠.min2:=by decide):∃d v z,vs=[v]/\Rep O H d v/\Pv.blt1 f d=aa z/\End K xw rep O H Q (.ok z S):=by
 obtain⟨z,hz,g⟩:=End.po h
 match ds,hz with
 |[d],hz=>obtain⟨v,rfl,rv⟩:=uU r;exact#[d,v,z,rfl,rv,hz,g]
 |[x,y],hz=>
  have hz:=hz;cases x<;>first|exact Ev.nos hz|(cases y<;>first|exact Ev.nos hz|(cases f<;>first|exact Ev.nos hz|contradiction))
def Zbe(h:End K xw Rep O H Q (Pv.po (Pv.XC f ds) S))(r:Rq O H ds vs)(h1:∀d,Pv.blt1 f d=ag):∃m n z,vs=[.int m,.int n]/\Pv.blt2 f (.int m) (.int n)=aa z/\End K xw Rep O H Q (.ok z S):=by
 obtain⟨z,hz,g⟩:=End.po h
 match ds,hz with
 |[d],hz=>exact Ev.nos<|(h1 d).symm.trans hz
 |[x,y],hz=>
  have hz:=hz;cases x<;>first|exact Ev.nos hz|(cases y<;>first|exact Ev.nos hz|(obtain⟨v,w,rfl,r1,r2⟩:=yu r;exact#[_,_,z,by rw[r1.int',r2.int'],hz,g]))
def xy:ZH X (.builtin "len") (UM X.K xw .len):=ZH.imp Jr<|by
 rintro vs H Q ⟨O,S,ds,st,r,h⟩;obtain⟨d,v,z,rfl,rv,hz,h⟩:=VB h r;obtain⟨xs,hx,rfl⟩:=bF.mp hz;obtain⟨p,ys,rfl,hq,r2⟩:=rv.seq hx;refine#[p,ys,rfl,by rw[<-st.hk];exact hq,?_]
 rw[r2.length];exact End.ok h st<|ZW _
def xr(hc:X.calm=ai):ZH X (.builtin "max") (UM X.K xw .max2):=ZH.imp (wM hc)<|by
 rintro vs H Q ⟨O,S,ds,st,r,h⟩;obtain⟨m,n,z,rfl,hz,h⟩:=Zbe h r λ_=>rfl
 cases hz;exact#[m,n,rfl,End.ok h st<|ZW _]
def yI(hc:X.calm=ai):ZH X (.builtin "min") (UM X.K xw .min2):=ZH.imp (wR hc)<|by
 rintro vs H Q ⟨O,S,ds,st,r,h⟩;obtain⟨m,n,z,rfl,hz,h⟩:=Zbe h r λ_=>rfl
 cases hz;exact#[m,n,rfl,End.ok h st<|ZW _]
def yE:ZH X (.type "int") (UM X.K xw .toInt):=ZH.imp xU<|by
 rintro vs H Q ⟨O,S,ds,st,r,h⟩;obtain⟨d,v,z,rfl,r1,hz,h⟩:=VB h r;cases d with|int m=>cases hz;exact .inl #[m,by rw[r1.int'],End.ok h st<|ZW _]|bl m=>cases hz;exact .inr #[m,by rw[r1.bl'],End.ok h st<|ZW _]|_=>exact Ev.nos hz
def UW:ZH X (.type "tuple") (UM X.K xw .tuple):=ZH.imp UP<|by
 rintro vs H Q ⟨O,S,ds,st,r,h⟩;obtain⟨d,v,z,rfl,r1,hz,h⟩:=VB h r;cases d with|tup ds=>cases hz;obtain⟨p,xs,rfl,hp,r2⟩:=r1.tup';exact#[p,xs,rfl,.inr #[SqT.of hp,End.ok h st r1]]|lst ds=>cases hz;obtain⟨p,xs,rfl,hp,_,r2⟩:=r1.lst';exact#[p,xs,rfl,.inl #[SqL.of hp,h.newT st r2]]|scr ns=>cases hz;obtain⟨p,rfl,hp⟩:=r1.scr';rw[st.hk]at hp;exact#[p,_,rfl,.inl #[hp.sq,h.newT st<|Rq.ints ns]]|_=>exact Ev.nos hz
def WM{f:Bf}{id:String}{x:bB}{es:List Expr}{is:List E}(hc:ZH X (.builtin id) (UM X.K xw f))(hm:X.mg x=ag)(ha:CA X xw C (e::es) is)(hg:Gl X x)(hv:db x=aa (.builtin id))(hn:x≠"__name__")(hdb:(x == ("__debug__" : bB))=am)
  (he:aH (e::es) X.env=(am,cD e X.env)::aH es X.env)(hpl:(dW pos<|aH es X.env).any (·.1)=am):CE X xw C (.Call (.Name x p) (e::es) [] pos) (.blt f is):=.mk <|
 PE.imp (WH hc hg hm hv ha.h hn hdb he hpl) vK
def yV{f:Bf}{id:String}{x:bB}{es:List Expr}{is:List E}(hc:ZH X (.type id) (UM X.K xw f))(hm:X.mg x=ag)(ha:CA X xw C (e::es) is)(hg:Gl X x)(hv:db x=aa (.type id))(hn:x≠"__name__")(hdb:(x == ("__debug__" : bB))=am)
  (he:aH (e::es) X.env=(am,cD e X.env)::aH es X.env)(hpl:(dW pos<|aH es X.env).any (·.1)=am):CE X xw C (.Call (.Name x p) (e::es) [] pos) (.blt f is):=.mk <|
 PE.imp (U6 hc hg hm hv ha.h hn hdb he hpl) vK
end
section
variable{X:Cx}{xw:Nat->Hp->Prop}{C:Calls}{e a b c:Expr}{i j k:E}{pos p p' p2:gW}
theorem Wk:∀{ds:List D}{bs:List Bool},Pv.ZV ds=aa bs->bs.length=ds.length/\∀j d,ds[j]?=aa d->Pv.VX d=aa (bs.getD j am)
 |[],bs,h=>by cases h;exact#[rfl,λj d e=>by simp at e]
 |d::ds,bs,h=>by
  unfold Pv.ZV at h;cases q1:Pv.VX d with
  |none=>rw[q1]at h;cases h
  |some b=>
   cases q2:Pv.ZV ds with
   |none=>rw[q1,q2]at h;cases h
   |some cs=>
    rw[q1,q2]at h;cases h;obtain⟨l,ih⟩:=Wk q2;refine#[by rw[aK,aK,l],λj d' e=>?_]
    cases j with|zero=>simp at e;subst e;simpa using q1|succ j=>simpa using ih j d' (by simpa using e)
def wF(bs:List Bool):(az bs.length).all (λj=>bs.getD j am)=bs.all id:=by
 rw[cE,aT,aT]
 constructor
 .intro h b hb
  obtain⟨j,hj,e⟩:=cH hb;have:=h j<|aP.mpr hj
  simpa[ae hj,e]using this
 .intro h j hj
  have hj':=aP.mp hj
  simpa[ae hj']using h bs[j]<|aW hj'
def wI(bs:List Bool):(az bs.length).any (λj=>bs.getD j am)=bs.any id:=by
 rw[cE,fG,fG]
 constructor
 .rintro ⟨j,hj,h⟩
  have hj':=aP.mp hj;exact#[bs[j],aW hj',by simpa[ae hj']using h]
 .rintro ⟨b,hb,h⟩
  obtain⟨j,hj,e⟩:=cH hb;exact#[j,aP.mpr hj,by simpa[ae hj,e]using h]
def WP(r:Rep O H d v)(e:Zx v u)(h:Pv.VX d=aa n)(s:ax)(Q:Bool->ax->Prop)(E:ap->ax->Prop)(q:Q n s) :
  aX (aS prog w) A (truthy u) Q E s:=by
 cases d with
 |non=>cases r.non';cases e;cases h;exact truthy_none q
 |bl b=>cases r.bl';cases e;cases h;exact fe q
 |int m=>
  cases r.int';obtain⟨t,rfl⟩:=e;have h':=ak h;refine mf ?_;have:(m != 0)=n:=by
   rw[<-h'];by_cases z:m=0
   .subst z;rfl
   .rw[T5 z];exact bne_iff_ne.mpr z
  rw[this];exact q
 |_=>cases h
def xY(hc:X.calm=ai):ZH X (.builtin "all") (λvs H Q=>∃O ds v bs,vs=[v]/\Rep O H (.lst ds) v/\Pv.ZV ds=aa bs/\Q (.bl<|bs.all id) H):=by
 intro pq s Z H vs us Q I r h;obtain⟨O,ds,v,bs,rfl,rs,hb,q⟩:=h;obtain⟨p,xs,rfl,hx,_,rx⟩:=rs.lst';obtain⟨u,rfl,ru⟩:=X2 r;cases ru;obtain⟨its,rv,pl,hz⟩:=I.list<|SqL.of hx;obtain⟨lb,tb⟩:=Wk hb;have hlt:p<s.heap.objs.size:=by obtain⟨_,e,_⟩:=pl.isList;exact aE e
 have hlen:its.toArray.size=bs.length:=by rw[ay,<-rv.length,rx.length,lb]
 refine call_all_walk<|fj pl.isList #[s.heap.objs.size,[s.heap.objs.size,p],[s.heap.objs.size],its.toArray.size,(λi v=>its.toArray[i]?=aa v),(λi h=>h.IsListIter s.heap.objs.size p i/\h.IsList p its.toArray),λj=>bs.getD j am,rfl,ow (A:=X.A.in1) (I.ok.hd hc) s.heap.objs.size p (bn hlt) its.toArray,#[#[_,aG _ rfl,rfl,rfl],pl.isList.push _],?_,?_]
 .intro j v s' Q' E' hv hQ'
  have hj:its[j]?=aa v:=by simpa using hv
  have jl:j<ds.length:=by
   have:=(aU.mp hj).1;rw[<-rv.length,rx.length]at this;exact this
  obtain⟨w',g,r'⟩:=rx.get<|ae jl;obtain⟨u',g',ru'⟩:=rv.get g;rw[hj]at g';cases g';exact WP r' ru' (tb j _<|ae jl) s' Q' E' hQ'
 .intro h' tk hk
  rw[hlen,wF];have kp:=λb o e=>hk b o (λhm=>by
   have:b=s.heap.objs.size:=by simpa using hm
   exact T7 (this▸aE e)<|br _)<|au _ e
  exact#[.bl<|bs.all id,H,I.kept (t':=tk) kp,rfl,q]
def xf(hc:X.calm=ai):ZH X (.builtin "all") (UM X.K xw .all):=ZH.imp (xY hc)<|by
 rintro vs H Q ⟨O,S,ds,st,r,h⟩;obtain⟨d,v,z,rfl,r1,hz,h⟩:=VB h r;cases d with|lst ds=>obtain⟨bs,hb,rfl⟩:=bF.mp hz;exact#[O,ds,v,bs,rfl,r1,hb,End.ok h st<|Ye _]|_=>exact Ev.nos hz
noncomputable def ZG:Ty->String
 |.int=>"int" | .bool=>"bool" | .str=>"str" | .tuple=>"tuple" | .list=>"list" | .dict=>"dict" | .cls _=>""
def zF{K:ao}{O:Mx}{H:Hp}{x:D}{v:V}{t:Ty}{n:Bool}(rx:Rep O H x v)(ht:∀m,t≠.cls m)(h:Pv.Yz x t=aa n) :
  ∃tv,TyOf K H v tv/\lj K tv (.type<|ZG t)=aa n:=by
 cases x with
 |non=>rw[rx.non'];refine#[_,.non,?_];cases h;cases t<;>first|rfl|exact T7 rfl<|ht _
 |bl b=>rw[rx.bl'];refine#[_,.bl b,?_];cases h;cases t<;>first|rfl|exact T7 rfl<|ht _
 |int b=>rw[rx.int'];refine#[_,.int b,?_];cases h;cases t<;>first|rfl|exact T7 rfl<|ht _
 |str b=>rw[rx.str'];refine#[_,.str b,?_];cases h;cases t<;>first|rfl|exact T7 rfl<|ht _
 |tup ds=>
  obtain⟨p,xs,rfl,hp,_⟩:=rx.tup';refine#[_,.tup hp,?_];cases h;cases t<;>first|rfl|exact T7 rfl<|ht _
 |lst ds=>
  obtain⟨p,xs,rfl,hp,_⟩:=rx.lst';refine#[_,.lst hp,?_];cases h;cases t<;>first|rfl|exact T7 rfl<|ht _
 |dct o=>
  cases o with
  |some _=>exact Ev.nos h
  |none=>
   obtain⟨p,rfl,_,e⟩:=rx.dct';refine#[_,.dK e,?_];cases h;cases t<;>first|rfl|exact T7 rfl<|ht _
 |_=>exact Ev.nos h
def qA(T:String):ZH X (.builtin "isinstance") (λvs H Q=>∃v tv n,vs=[v,.ty T]/\TyOf X.K H v tv/\lj X.K tv (.type T)=aa n/\Q (.bl n) H):=by
 intro pq s Z H vs us Q I r h;obtain⟨v,tv,n,rfl,ty,e,q⟩:=h;obtain⟨u,w',rfl,r1,r2⟩:=GS r;cases r2;exact wD I r1 ty e λtk=>#[.bl n,H,I.tok tk,rfl,q]
def QJ{T:bB}{t:Ty}(ht:∀m,t≠.cls m)(hm:X.mg "isinstance" = ag)(hmT:X.mg T=ag)(ha:CE X xw C a i)(hg:Gl X "isinstance")(hgT:Gl X T)(hvT:db T=aa (.type<|ZG t))(hnT:T≠"__name__")(hdT:(T == ("__debug__" : bB))=am)
  (hs1:aH [a,.Name T p2] X.env=(am,cD a X.env)::aH [.Name T p2] X.env)(hs2:aH [.Name T p2] X.env=(am,cD (.Name T p2) X.env)::aH [] X.env)(hpl:(dW pos<|aH [.Name T p2] X.env).any (·.1)=am) :
  CE X xw C (.Call (.Name "isinstance" p) [a,.Name T p2] [] pos) (.isi i [t]):=.mk <|
 PE.imp (WH (qA<|ZG t) hg hm (by rfl) (Yu ha.h (Yu (Jf (v:=.ty<|ZG t) hgT hmT hvT rfl hnT hdT) Vh hs2) hs1) (by decide) (by decide) hs1 hpl)<|by
  rintro Z H Q ⟨O,l,S,st,lr,h⟩;refine#[O,l,S,st,lr,End.bind (show End X.K xw Rep O H Q ((Pv.pv C i l S).bind _)from h) λx S1 ρ1 H1 v f1 st1 r1 h1=>?_]
  obtain⟨n,hn,h2⟩:=End.ob h1;have hn':Pv.Yz x t=aa n:=by
   unfold Pv.Z9 at hn;cases q:Pv.Yz x t with|none=>rw[q]at hn;cases hn|some m=>rw[q]at hn;cases m<;>exact hn
  obtain⟨tv,ty,e⟩:=zF r1 ht hn';exact#[v,tv,n,rfl,ty,e,End.ok h2 st1<|Ye _]
def ZdF(P:bG)(w:b0)(K:ao)(a:aL)(tab:List (Int×Int)):Prop:=(a == c7)=am/\∃f:Int->Option ap,(∀h:ck,K.In h->h.MapOf (eV P w) a f)/\∀k,(tab.lookup k=ag->f k=ag)/\∀j,tab.lookup k=aa j->∃t,f k=aa (.int j t)
def XZ(fr:Bool)(H0:Hp)(O:Mx)(H:Hp)(d:D)(v:V):Prop:=Rep O H d v/\(fr=ai->∀ds,d=.lst ds->∃a,v=.ref a/\H0 a=ag)
theorem End.fr{K:ao}{xw:Nat->Hp->Prop}{O:Mx}{H H0:Hp}{Q:VK}{r:R D}{fr:Bool}(h:End K xw Rep O H Q r):End K xw (XZ fr H0) O H Q r:=by
 cases r with|ok d S=>exact λρ' H' v f st r=>h ρ' H' v f st r.1|_=>exact h
def spF(K:ao)(C:Calls)(fr:Bool)(n:Nat):Sp:=λvs H Q _=>∃O ds S,St3 K O S H/\Rq O H ds vs/\End K (λ_ _=>False) (XZ fr H) O H Q (C n ds S)
def Zba{n kk:Nat}{fr:Bool}{f:aL}{fd:cS}{ps:List bB}{x:bB}{es:List Expr}{is:List E}(F:FnOk X.prog X.w X.K X.mg X.base CX0 kk f fd ps (spF X.K C fr n))(hr:Room kk X.A)(hm:X.mg x=aa (.ref f))(hk:fA X.K (.ref f)=ai)(hb:Vq X.K fd ps [])
  (ha:CA X (λ_ _=>False) C (e::es) is)(hg:Gl X x:=by rfl)(hdb:(x == ("__debug__" : bB))=am:=by decide)(he:aH (e::es) X.env=(am,cD e X.env)::aH es X.env:=by rfl)(hpl:(dW pos<|aH es X.env).any (·.1)=am:=by rfl) :
  CE X (λ_ _=>False) C (.Call (.Name x p) (e::es) [] pos) (.call n is):=.mk <|
 PE.imp (Jv F hr hg hm hk hb .nil uw ha.h hdb he hpl) λZ H Q #[O,l,S,st,lr,h]=>
  #[O,l,S,st,lr,End.bind (show End X.K (λ_ _=>False) Rep O H Q ((Pv.pvs C is l S).bind _)from h) λxs S1 ρ1 H1 vs f1 st1 r1 h1=>by
   rw[bY];exact#[ρ1,xs,S1,st1,r1,h1.fr]]
end
abbrev Own:=Nat->Option aL
noncomputable def Mx.ex(O:Mx)(W:Own):Mx:=#[O.K,O.n0,λa=>O.X a\/∃i,W i=aa a,λa h=>.inl<|O.xz a h]
mutual
theorem Rep.flat(hk:ρ'.K=O.K)(k:∀a o,H a=aa o->(∀xs,o≠.lst xs)->(∀vs,o≠.dT vs)->H' a=aa o):∀{d:D}{v:V},d.flat=ai->Rep O H d v->Rep ρ' H' d v
 |.non,_,_,h|.bl _,_,_,h|.int _,_,_,h|.str _,_,_,h=>by exact h
 |.tup ds,v,f,h=>by
  obtain⟨a,xs,e,t,r⟩:=h;exact#[a,xs,e,k a _ t (λ_ z=>by cases z) (λ_ z=>by cases z),r.flat hk k (by exact f)]
 |.scr ns,v,_,h=>by
  unfold Rep at h ⊢;obtain⟨a,e,t⟩:=h;rw[hk];refine#[a,e,?_];rcases t with⟨o,t⟩|t
  .exact .inl #[o,k a _ t (λ_ z=>by cases z) λ_ z=>by cases z]
  .exact .inr t
 |.lst _,_,f,_|.drw,_,f,_|.dct _,_,f,_|.dow _,_,f,_=>by cases f
theorem Rq.flat(hk:ρ'.K=O.K)(k:∀a o,H a=aa o->(∀xs,o≠.lst xs)->(∀vs,o≠.dT vs)->H' a=aa o):∀{ds:List D}{xs:List V},Pv.Z8 ds=ai->Rq O H ds xs->Rq ρ' H' ds xs
 |[],_,_,h=>by exact h
 |d::ds,xs,f,h=>by
  obtain⟨v,vs,e,r,rs⟩:=h;have f:=(aA _ _).mp f;exact#[v,vs,e,r.flat hk k f.1,rs.flat hk k f.2]
end
def Xr(O:Mx)(H:Hp)(a:aL):D->Prop
 |.lst xs=>∃us,H a=aa (.lst us)/\Rq O H xs us
 |.dow ks=>∃vs,H a=aa (.dT vs)/\vs.map (·.1)=ks.map (·.map cY)
 |_=>False
def Xr.ob{O:Mx}{H:Hp}{a:aL}{d:D}(h:Xr O H a d):(∃us,H a=aa (.lst us))\/∃vs,H a=aa (.dT vs):=by
 cases d with|lst xs=>obtain⟨us,e,_⟩:=h;exact .inl #[us,e]|dow ks=>obtain⟨vs,e,_⟩:=h;exact .inr #[vs,e]|_=>exact h.elim
def Xr.ne{O:Mx}{H:Hp}{a:aL}{d:D}(h:Xr O H a d):H a≠ag:=by
 rcases h.ob with⟨_,z⟩|⟨_,z⟩<;>(rw[z];intro q;cases q)
def Xr.rep{O:Mx}{H:Hp}{a:aL}{d:D}(h:Xr O H a d)(x:¬O.X a):Rep O H d (.ref a):=by
 cases d with|lst xs=>obtain⟨us,e,r⟩:=h;exact Xh e x r|dow ks=>obtain⟨vs,e,q⟩:=h;unfold Rep;exact#[a,vs,rfl,e,x,q]|_=>exact h.elim
theorem Xr.lat{O ρ':Mx}{H H':Hp}{a:aL}{d:D}(h:Xr O H a d)(f:Lat O H ρ' H')(e:H' a=H a):Xr ρ' H' a d:=by
 cases d with|lst xs=>obtain⟨us,q,r⟩:=h;exact#[us,e.trans q,r.lat f]|dow ks=>obtain⟨vs,q,r⟩:=h;exact#[vs,e.trans q,r]|_=>exact h
def Lat.own{O:Mx}{H:Hp}{b:aL}{o':HO}(x:O.X b)(hb:(∃us,H b=aa (.lst us))\/∃vs,H b=aa (.dT vs)):Lat O H O (upd H b o'):=#[rfl,rfl,λc u z nx _ nd=>by
 rw[Zl (λq=>by
  rw[q]at z;rcases hb with⟨_,e⟩|⟨_,e⟩<;>(rw[e]at z;cases z)
  .exact nx _ rfl<|q▸x
  .exact nd _ rfl<|q▸x)]
 exact z,λ_ _ z=>z]
structure Eu(O:Mx)(H0:Hp)(W:Own)(l:Lc)(os:List Nat)(Z:L2.St)(H:Hp):Prop where
 fut:Fut O H0 O H
 xd:∀a,O.X a->H0 a≠ag
 len:l.length=Z.length
 osW:∀i,os.contains i=(W i).isSome
 inj:∀i j a,W i=aa a->W j=aa a->i=j
 new:∀i a,W i=aa a->H0 a=ag
 own:∀i a,W i=aa a->∃d,l[i]?=aa (aa d)/\Z[i]?=aa (aa<|.ref a)/\Xr (O.ex W) H a d
 val:∀(i:Nat)(d:D),l[i]?=aa (aa d)->W i=ag->∃v,Z[i]?=aa (aa v)/\Rep (O.ex W) H d v
section
variable{K:ao}{O:Mx}{H0 H H':Hp}{W W':Own}{l:Lc}{os:List Nat}{Z:L2.St}{S:Zt}
def Lat.unex:Lat (O.ex W) H O H:=#[rfl,rfl,λ_ _ h _ _ _=>h,λ_ _ x=>.inl x]
theorem Fut.ex(f:Fut O H O H'):Fut (O.ex W) H (O.ex W) H':=#[rfl,f.keep]
def St3.unex(st:St3 K (O.ex W) S H):St3 K O S H:=#[st.hk,λa x=>st.xd a<|.inl x,st.dw,st.tb]
def Eu.nx(h:Eu O H0 W l os Z H)(e:W i=aa a):¬O.X a:=λz=>h.xd a z<|h.new i a e
theorem Eu.st(h:Eu O H0 W l os Z H)(st:St3 K O S H):St3 K (O.ex W) S H:=
 #[st.hk,λa x=>x.elim (st.xd a) λ#[i,e]=>(let #[_,_,_,z]:=h.own i a e;z.ne),st.dw,st.tb]
def vf(f:Fut O H O H')(x:¬O.X a)(h:H a=aa o)(n:∀ps,o≠.tbl ps:=by intro _ z;cases z):H' a=aa o:=(f.keep a o h).elim id λz=>z.elim (λz=>T7 (O.xz a z.1) x)<|by rintro ⟨⟨ps,e⟩,_⟩;exact T7 e<|n ps
def Eu.all(h:Eu O H0 W l os Z H):LocR O H l Z:=#[h.len,λi v e=>by
 cases q:W i with
 |none=>obtain⟨d,a,b⟩:=h.val i v e q;exact#[d,a,b.lat Lat.unex]
 |some n=>
  obtain⟨d,a,c,r⟩:=h.own i n q;rw[a]at e;cases e;exact#[_,c,(r.lat Lat.unex rfl).rep<|h.nx q]]
def vH(e:(Pv.hide os l)[i]?=aa (aa v)):l[i]?=aa (aa v)/\os.contains i=am:=by
 unfold Pv.hide at e;rw[fB]at e;cases q:l[i]? with
 |none=>rw[q]at e;cases e
 |some o=>
  rw[q]at e;have e':(if os.contains i=ai then ag else o)=aa v:=ak e
  by_cases c:os.contains i=ai
  .rw[T9 c]at e';cases e'
  .rw[T8 c]at e';exact#[by rw[e'],by simpa using c]
def hide_nil:Pv.hide [] l=l:=by
 unfold Pv.hide;refine bK λi=>?_
 rw[fB];cases l[i]?<;>rfl
def Eu.nW(h:Eu O H0 W l os Z H){i:Nat}(b:os.contains i=am):W i=ag:=by
 rw[h.osW]at b;cases q:W i with|none=>rfl|some _=>rw[q]at b;cases b
def Eu.hid(h:Eu O H0 W l os Z H):LocR (O.ex W) H (Pv.hide os l) Z:=#[by unfold Pv.hide;rw[List.length_mapIdx];exact h.len,λi v e=>by
 obtain⟨a,b⟩:=vH e;exact h.val i v a<|h.nW b]
theorem Eu.mono(h:Eu O H0 W l os Z H)(f:Fut O H O H'):Eu O H0 W l os Z H':=
 #[h.fut.trans f,h.xd,h.len,h.osW,h.inj,h.new,λi a q=>by
  obtain⟨d,p,c,r⟩:=h.own i a q;exact#[d,p,c,r.lat f.ex.lat (by rcases r.ob with⟨_,e⟩|⟨_,e⟩<;>rw[vf f (h.nx q) e,e])],λi v a b=>by
  obtain⟨d,c,r⟩:=h.val i v a b;exact#[d,c,r.mono f.ex]]
def Jm{B:Type}{l:List (Option B)}{i j:Nat}{o:Option B}{v:B}(e:(l.set i o)[j]?=aa (aa v)):(i=j/\o=aa v/\i<l.length)\/(i≠j/\l[j]?=aa (aa v)):=by
 rw[mJ]at e;by_cases c:i=j
 .rw[T9 c]at e
  by_cases z:i<l.length
  .rw[T9 z]at e;exact .inl #[c,ak e,z]
  .rw[T8 z]at e;cases e
 .rw[T8 c]at e;exact .inr #[c,e]
theorem Eu.set{i:Nat}{o:Option D}{v:V}(h:Eu O H0 W l os Z H)(hi:os.contains i=am)(r:∀d,o=aa d->Rep (O.ex W) H d v):Eu O H0 W (l.set i o) os (Z.set i<|aa v) H:=by
 have hw:=h.nW hi;refine#[h.fut,h.xd,by rw[bZ,bZ];exact h.len,h.osW,h.inj,h.new,λj n q=>?_,λj w e q=>?_]
 .obtain⟨d,a,c,e⟩:=h.own j n q
  have ij:i≠j:=λz=>by rw[z,q]at hw;cases hw
  exact#[d,by rw[bo ij];exact a,by rw[bo ij];exact c,e]
 .rcases Jm e with⟨rfl,z,hl⟩|⟨c,z⟩
  .exact#[v,bU (by rw[<-h.len];exact hl),r w z]
  .rw[bo c];exact h.val j w z q
noncomputable def Uq:List Nat->List V->L2.St->L2.St
 |i::t,x::xs,Z=>Uq t xs<|Z.set i<|aa x
 |_,_,Z=>Z
theorem Eu.fill:∀{t:List Nat}{vs:List D}{us:List V}{l l':Lc}{Z:L2.St},Eu O H0 W l os Z H->(t.any os.contains)=am->Rq (O.ex W) H vs us->Pv.YJ t vs l=aa l'->us.length=t.length/\Eu O H0 W l' os (Uq t us Z) H
 |[],[],_,l,l',Z,h,_,r,e=>by rw[r];cases e;exact#[rfl,h]
 |[],_::_,_,_,_,_,_,_,_,e=>by cases e
 |_::_,[],_,_,_,_,_,_,_,e=>by cases e
 |i::t,v::vs,_,l,l',Z,h,ht,r,e=>by
  obtain⟨d,ds,rfl,a,b⟩:=r;rw[fP,Bool.or_eq_false_iff]at ht;obtain⟨z,q⟩:=Eu.fill (h.set ht.1 λ_ z=>by cases z;exact a) ht.2 b e
  exact#[by rw[aK,aK,z],q]
def tGU(K:ao)(t:List Nat):TG:=λv Z H Q=>match t with
 |[i]=>Q (Z.set i<|aa v) H
 |t=>∃a xs,v=.ref a/\(SqT K H a xs\/H a=aa (.lst xs))/\xs.length=t.length/\Q (Uq t xs Z) H
def Eu.assign{Q:L2.St->Hp->Prop}(h:Eu O H0 W l os Z H)(ht:(t.any os.contains)=am)(r:Rep (O.ex W) H d v)(e:Pv.Zi t d l=aa l')(q:∀σ',Eu O H0 W l' os σ' H->Q σ' H):tGU K t v Z H Q:=by
 have gen:∀t:List Nat,(t.any os.contains)=am->(match Pv.u4 d with
   |some xs=>Pv.YJ t xs l
   |none=>ag)=aa l'->∃a xs,v=.ref a/\(SqT K H a xs\/H a=aa (.lst xs))/\xs.length=t.length/\Q (Uq t xs Z) H:=by
  intro t ht e;cases d with|tup vs=>obtain⟨p,ds,rfl,hp,rs⟩:=r.tup';obtain⟨z,y⟩:=h.fill ht rs e;exact#[p,ds,rfl,.inl<|SqT.of hp,z,q _ y]|lst vs=>obtain⟨p,ds,rfl,hp,_,rs⟩:=r.lst';obtain⟨z,y⟩:=h.fill ht rs e;exact#[p,ds,rfl,.inr hp,z,q _ y]|_=>cases e
 match t,ht,e with
 |[i],ht,e=>cases e;exact q _<|h.set (by simpa using ht) λ_ z=>by cases z;exact r
 |[],ht,e=>exact gen [] ht e
 |i::j::t,ht,e=>exact gen (i::j::t) ht e
noncomputable def noW(W:Own)(i:Nat):Own:=λj=>if j=i then ag else W j
def Xg{i j:Nat}{a:aL}(z:noW W i j=aa a):j≠i/\W j=aa a:=by
 unfold noW at z;by_cases c:j=i
 .rw[T9 c]at z;cases z
 .rw[T8 c]at z;exact#[c,z]
theorem Lat.noW{i:Nat}:Lat (O.ex W) H (O.ex<|noW W i) H:=#[rfl,rfl,λ_ _ h _ _ _=>h,λ_ _ x=>x.elim .inl λ#[j,e]=>.inr #[j,(Xg e).2]]
def Wg{i:Nat}(h:∀i,os.contains i=(W i).isSome)(j:Nat):(os.filter (· != i)).contains j=(noW W i j).isSome:=by
 unfold noW;by_cases c:j=i
 .simp[c]
 .simp only[c,if_false]
  rw[<-h j,cE,cK,cK,bX];simp[c]
def Eu.drop{i:Nat}{o:Option D}{v:V}(h:Eu O H0 W l os Z H)(r:∀d,o=aa d->Rep (O.ex<|noW W i) H d v):Eu O H0 (noW W i) (l.set i o) (os.filter (· != i)) (Z.set i<|aa v) H:=by
 refine#[h.fut,h.xd,by rw[bZ,bZ];exact h.len,Wg h.osW,λa b n x y=>h.inj a b n (Xg x).2 (Xg y).2,λj n z=>h.new j n (Xg z).2,λj n z=>?_,λj w e z=>?_]
 .obtain⟨d,a,c,e⟩:=h.own j n (Xg z).2
  have ij:i≠j:=Ne.symm (Xg z).1;exact#[d,by rw[bo ij];exact a,by rw[bo ij];exact c,e.lat Lat.noW rfl]
 .rcases Jm e with⟨rfl,e,hl⟩|⟨c,e⟩
  .exact#[v,bU (by rw[<-h.len];exact hl),r w e]
  .rw[bo c]
   unfold Sd.noW at z;rw[T8<|Ne.symm c]at z;obtain⟨d',a,b⟩:=h.val j w e z;exact#[d',a,b.lat Lat.noW]
noncomputable def QR(W:Own)(i:Nat)(a:aL):Own:=λj=>if j=i then aa a else W j
def Eu.takeO{i:Nat}{a:aL}{d:D}(h:Eu O H0 W l os Z H)(hd:∀a,O.X a->H a≠ag)(f:Fut O H O H')(hn:H a=ag)(hx:¬(O.ex W).X a)(r:Xr (O.ex<|QR W i a) H' a d)(hi:i<l.length) :
  Eu O H0 (QR W i a) (l.set i<|aa d) (i::os.filter (· != i)) (Z.set i<|aa<|.ref a) H':=by
 have h1:=h.mono f;have get:∀{j m},QR W i a j=aa m->(j=i/\a=m)\/(j≠i/\W j=aa m):=λ{j m} z=>by
  unfold QR at z;by_cases c:j=i
  .rw[T9 c]at z;exact .inl #[c,ak z]
  .rw[T8 c]at z;exact .inr #[c,z]
 have na:H0 a=ag:=h.fut.new hn hd;have lt:Lat (O.ex W) H (O.ex<|QR W i a) H':=#[rfl,rfl,f.ex.lat.keep',λb hb x=>by
  rcases x with x|⟨j,x⟩
  .exact .inl x
  .rcases get x with⟨_,z⟩|⟨_,z⟩
   .exact T7 hn<|z▸hb
   .exact .inr #[j,z]]
 refine#[h1.fut,h.xd,by rw[bZ,bZ];exact h.len,λj=>?_,λp q m x y=>?_,λj m z=>?_,λj m z=>?_,λj w q z=>?_]
 .have:=Wg (i:=i) h.osW j
  unfold QR;by_cases c:j=i
  .simp[c]
  .unfold noW at this
   rw[T8 c]at this ⊢;rw[List.contains_cons,this,beq_eq_false_iff_ne.mpr c,iY]
 .rcases get x with⟨x1,x2⟩|⟨x1,x2⟩<;>rcases get y with⟨y1,y2⟩|⟨y1,y2⟩
  .rw[x1,y1]
  .exact T7 (.inr #[q,x2▸y2]) hx
  .exact T7 (.inr #[p,y2▸x2]) hx
  .exact h.inj p q m x2 y2
 .rcases get z with⟨_,z⟩|⟨_,z⟩
  .exact z▸na
  .exact h.new j m z
 .rcases get z with⟨z1,z2⟩|⟨z1,z2⟩
  .subst z1 z2
   exact#[d,bU hi,bU (by rw[<-h.len];exact hi),r]
  .obtain⟨d',p,c,q⟩:=h.own j m z2
   exact#[d',by rw[bo<|Ne.symm z1];exact p,by rw[bo<|Ne.symm z1];exact c,q.lat lt (by rcases q.ob with⟨_,e⟩|⟨_,e⟩<;>rw[vf f (h.nx z2) e,e])]
 .unfold QR at z
  by_cases c:j=i
  .rw[T9 c]at z;cases z
  .rw[T8 c]at z
   rw[bo<|Ne.symm c]at q ⊢;obtain⟨d,p,b⟩:=h.val j w q z;exact#[d,p,b.lat lt]
def Eu.take(h:Eu O H0 W l os Z H)(hd:∀a,O.X a->H a≠ag)(f:Fut O H O H')(hn:H a=ag)(hf:Pv.Z8 xs=ai)(r:Rep (O.ex W) H' (.lst xs) (.ref a))(hi:i<l.length) :
  Eu O H0 (QR W i a) (l.set i<|aa<|.lst xs) (i::os.filter (· != i)) (Z.set i<|aa<|.ref a) H':=by
 obtain⟨_,us,en,hs,hx,rs⟩:=r.lst';cases en;exact h.takeO (d:=.lst xs) hd f hn hx #[us,hs,rs.flat (O:=O.ex W) (ρ':=O.ex<|QR W i a) rfl (λ_ _ z _ _=>z) hf] hi
def Eu.mutO{i:Nat}{a:aL}{d':D}{o':HO}(h:Eu O H0 W l os Z H)(hw:W i=aa a)(r:Xr (O.ex W) (upd H a o') a d'):Eu O H0 W (l.set i<|aa d') os Z (upd H a o'):=by
 obtain⟨d,p,c,e⟩:=h.own i a hw;have hi:i<l.length:=(aU.mp p).1;have lt:Lat (O.ex W) H (O.ex W) (upd H a o'):=Lat.own (show(O.ex W).X a from nj #[i,hw]) e.ob
 refine#[#[rfl,λb o z=>?_],h.xd,by rw[bZ];exact h.len,h.osW,h.inj,h.new,λj m z=>?_,λj w q z=>?_]
 .rw[Zl λq=>by rw[q,h.new i a hw]at z;cases z]
  exact h.fut.keep b o z
 .by_cases k:i=j
  .subst k
   rw[hw]at z;cases z;exact#[d',bU hi,c,r]
  .obtain⟨d2,a',c',e'⟩:=h.own j m z
   exact#[d2,by rw[bo k];exact a',c',e'.lat lt<|Zl λq:m=a=>k<|h.inj i j a hw<|q▸z]
 .have k:i≠j:=λk=>by rw[<-k,hw]at z;cases z
  rw[bo k]at q;obtain⟨d,a',b'⟩:=h.val j w q z;exact#[d,a',b'.lat lt]
def Eu.mut(h:Eu O H0 W l os Z H)(hw:W i=aa a)(r:Rq (O.ex W) H ys us):Eu O H0 W (l.set i<|aa<|.lst ys) os Z (upd H a<|.lst us):=by
 obtain⟨d,p,c,e⟩:=h.own i a hw;exact h.mutO hw (d':=.lst ys) #[us,ZD,r.lat<|Lat.own (show(O.ex W).X a from nj #[i,hw]) e.ob]
def St3.mut{K:ao}{i:Nat}{a:aL}{o':HO}(st:St3 K O S H)(h:Eu O H0 W l os Z H)(hw:W i=aa a)(ht:∀ps,o'≠.tbl ps:=by intro _ z;cases z):St3 K O S (upd H a o'):=by
 obtain⟨d,p,c,e⟩:=h.own i a hw;have ne:∀b,O.X b->b≠a:=λb x z=>h.nx hw<|z▸x
 exact#[st.hk,λb x=>by rw[Zl<|ne b x];exact st.xd b x,λb x=>by rw[Zl<|ne b<|O.xz b x];exact st.dw b x,st.tb.upd (λo u z=>by rcases e.ob with⟨_,e⟩|⟨_,e⟩<;>(rw[e]at z;cases z)) ht]
structure Base(O:Mx)(H0 H1:Hp):Prop where
 fut:Fut O H0 O H1
 dom:∀a,H1 a=ag->H0 a=ag
def Eu.rebase(b:Base O H0 H1)(x:∀a,O.X a->H0 a≠ag)(h:Eu O H1 W l os Z H):Eu O H0 W l os Z H:=#[b.fut.trans h.fut,x,h.len,h.osW,h.inj,λi a e=>b.dom a<|h.new i a e,h.own,h.val]
open Classical in
noncomputable def UL(H:Hp)(W:Own):Hp:=λa=>if ∃i,W i=aa a then ag else H a
def Eu.off(h:Eu O H0 W l os Z H)(hd:∀a,O.X a->H a≠ag):Base O H0 (UL H W)/\Eu O (UL H W) W l os Z H:=by
 have nw:∀a,H0 a≠ag->UL H W a=H a:=λa z=>T8 λ#[i,e]=>z<|h.new i a e
 refine#[#[#[rfl,λa o e=>?_],λa e=>?_],#[rfl,λa o e=>.inl ?_],λa x=>?_,h.len,h.osW,h.inj,λi a e=>T9 #[i,e],h.own,h.val]
 .rw[nw a (by rw[e];intro z;cases z)];exact h.fut.keep a o e
 .cases q:H0 a with
  |none=>rfl
  |some o=>
   rw[nw a<|by rw[q];intro z;cases z]at e
   rw[h.fut.new e hd]at q;cases q
 .unfold UL at e
  split at e
  .cases e
  .exact e
 .rw[nw a<|h.xd a x];exact hd a x
def Eu.walk(h:Eu O H0 W l os Z H)(h':Eu O (UL H W) W' l' os' σ' H'):Lat (O.ex W) H (O.ex W') H':=by
 refine#[rfl,rfl,λa o e x n nd=>?_,λa e x=>?_]
 .have nw:¬∃i,W i=aa a:=by
   rintro ⟨i,w⟩;obtain⟨_,_,_,z⟩:=h.own i a w;rcases z.ob with⟨us,z⟩|⟨us,z⟩<;>rw[e]at z
   .exact x us (ak z)<|.inr #[i,w]
   .exact nd us (ak z)<|.inr #[i,w]
  rcases h'.fut.keep a o (by unfold UL;rw[T8 nw];exact e)with z|⟨z,xs,q⟩|⟨⟨ps,q⟩,_⟩
  .exact z
  .exact T7 (.inl<|O.xz a z)<|x xs q
  .exact T7 q<|n ps
 .rcases x with x|⟨i,x⟩
  .exact .inl x
  .have:=h'.new i a x
   unfold UL at this;split at this
   .exact .inr ‹_›
   .exact T7 this e
end
section
variable(X:Cx)(xw:Nat->Hp->Prop)(C:Calls)
def tF(f:Lc->Zt->R D):TE:=λZ H Q=>∃O l S,St3 X.K O S H/\LocR O H l Z/\End X.K xw (XZ ai H) O H Q (f l S)
structure CF(e:Expr)(i:E):Prop where
 h:PE X e (tF X xw<|Pv.pv C i)
end
def CF.ce{X:Cx}{xw:Nat->Hp->Prop}{C:Calls}{e:Expr}{i:E}(h:CF X xw C e i):CE X xw C e i:=.mk <| PE.imp h.h<|by rintro Z H Q ⟨O,l,S,st,lr,h⟩;exact #[O,l,S,st,lr,h.fr]
def End.newF{K:ao}{xw:Nat->Hp->Prop}{O:Mx}{H0 H:Hp}{Q:VK}{S S0:Zt}{ds:List D}{xs:List V}(h:End K xw (XZ ai H0) O H Q (.ok (.lst ds) S))(f:Fut O H0 O H)(s0:St3 K O S0 H0)(st:St3 K O S H)(r:Rq O H ds xs):∀p,H p=ag->Q (.ref p) (upd H p<|.lst xs):=λp hp=>
 h O _ _ (ZO hp) (st.fresh hp) #[Xh ZD (st.nx hp)<|r.mono<|ZO hp,λ_ _ _=>#[p,rfl,f.new hp st.xd]]
def UT(K:ao)(xw:Nat->Hp->Prop)(f:Bf):List V->Hp->VK->Prop:=λvs H Q=>∃O S ds,St3 K O S H/\Rq O H ds vs/\∃H0 S0,Fut O H0 O H/\St3 K O S0 H0/\End K xw (XZ ai H0) O H Q (Pv.po (Pv.XC f ds) S)
def xi{xw:Nat->Hp->Prop}:∀Z H Q,tF X xw (Pv.pv C<|.blt f is) Z H Q->tCB (UT X.K xw f) (tA X xw<|Pv.pvs C is) Z H Q:=λZ H Q #[O,l,S,st,lr,h]=>
 #[O,l,S,st,lr,End.bind (h) λxs S1 ρ1 H1 vs f1 st1 r1 h1=>by cases f1.eq;exact#[O,S1,xs,st1,r1,H,S,f1,st,h1]]
def yM{X:Cx}{xw:Nat->Hp->Prop}{C:Calls}{e:Expr}{pos p:gW}{f:Bf}{id:String}{x:bB}{es:List Expr}{is:List E}(hc:ZH X (.builtin id) (UT X.K xw f))(hm:X.mg x=ag)(ha:CA X xw C (e::es) is)(hg:Gl X x)(hv:db x=aa (.builtin id))(hn:x≠"__name__")(hdb:(x == ("__debug__" : bB))=am)
  (he:aH (e::es) X.env=(am,cD e X.env)::aH es X.env)(hpl:(dW pos<|aH es X.env).any (·.1)=am):CF X xw C (.Call (.Name x p) (e::es) [] pos) (.blt f is):=.mk <|
 PE.imp (WH hc hg hm hv ha.h hn hdb he hpl) xi
def jQ{X:Cx}{xw:Nat->Hp->Prop}{C:Calls}{e:Expr}{pos p:gW}{f:Bf}{id:String}{x:bB}{es:List Expr}{is:List E}(hc:ZH X (.type id) (UT X.K xw f))(hm:X.mg x=ag)(ha:CA X xw C (e::es) is)(hg:Gl X x)(hv:db x=aa (.type id))(hn:x≠"__name__")(hdb:(x == ("__debug__" : bB))=am)
  (he:aH (e::es) X.env=(am,cD e X.env)::aH es X.env)(hpl:(dW pos<|aH es X.env).any (·.1)=am):CF X xw C (.Call (.Name x p) (e::es) [] pos) (.blt f is):=.mk <|
 PE.imp (U6 hc hg hm hv ha.h hn hdb he hpl) xi
def Zw(fr:Bool)(K:ao)(xw:Nat->Hp->Prop)(O:Mx)(H0:Hp)(D:Ends):R Pv.FlV->Prop
 |.ok (.nx l os) S=>∀H' σ' W',St3 K O S H'->Eu O H0 W' l os σ' H'->D.nx σ' H'
 |.ok (.brk l os) S=>∀H' σ' W',St3 K O S H'->Eu O H0 W' l os σ' H'->D.bk σ' H'
 |.ok (.cnt l os) S=>∀H' σ' W',St3 K O S H'->Eu O H0 W' l os σ' H'->D.ct σ' H'
 |.ok (.ret d) S=>∀H' v,Fut O H0 O H'->St3 K O S H'->XZ fr H0 O H' d v->D.rt v H'
 |.ex c S=>∀H',Fut O H0 O H'->St3 K O S H'->xw c H'
 |.no=>False
section
variable{fr:Bool}{K:ao}{xw:Nat->Hp->Prop}{O:Mx}{H0 H:Hp}{B β:Type}{rep:Mx->Hp->B->β->Prop}{D:Ends}{W:Own}{l:Lc}{os:List Nat}{Z:L2.St}{S:Zt}
theorem Zw.bind{Q1:β->Hp->Prop}(he:Eu O H0 W l os Z H)(h:Zw fr K xw O H0 D (r.bind f))
  (k:∀d S H1 v,Fut O H O H1->St3 K O S H1->rep O H1 d v->Zw fr K xw O H0 D (f d S)->Q1 v H1):End K xw rep O H Q1 r:=by
 cases r with|ok d S=>exact λρ1 H1 v g st r=>by cases g.eq;exact k d S H1 v g st r h|ex c S=>exact λρ1 H1 g st=>by cases g.eq;exact h H1 (he.fut.trans g) st|no=>exact h
def Zw.bindW{Q1:β->Hp->Prop}(he:Eu O H0 W l os Z H)(h:Zw fr K xw O H0 D (r.bind f))
  (k:∀d S H1 v,Fut O H O H1->St3 K O S H1->rep (O.ex W) H1 d v->Zw fr K xw O H0 D (f d S)->Q1 v H1):End K xw rep (O.ex W) H Q1 r:=by
 cases r with|ok d S=>exact λρ1 H1 v g st r=>by cases g.eq;exact k d S H1 v #[rfl,g.keep] st.unex r h|ex c S=>exact λρ1 H1 g st=>by cases g.eq;exact h H1 (he.fut.trans #[rfl,g.keep]) st.unex|no=>exact h
def Zw.ob(h:Zw fr K xw O H0 D ((Pv.po o S).bind f)):∃a,o=aa a/\Zw fr K xw O H0 D (f a S):=by
 cases o with|none=>exact h.elim|some a=>exact#[a,rfl,h]
def Zw.guard{c:Prop}[Decidable c](h:Zw fr K xw O H0 D (if c then a else .no)):c/\Zw fr K xw O H0 D a:=by
 split at h
 .exact#[‹_›,h]
 .exact h.elim
def Zw.guardN{c:Prop}[Decidable c](h:Zw fr K xw O H0 D (if c then .no else a)):¬c/\Zw fr K xw O H0 D a:=by
 split at h
 .exact h.elim
 .exact#[‹_›,h]
theorem Zw.rebase(b:Base O H0 H1)(x:∀a,O.X a->H0 a≠ag)(h:Zw fr K xw O H0 D r):Zw fr K xw O H1 D r:=by
 cases r with
 |ok f S=>
  cases f with|nx l os=>exact λH' σ' W' st e=>h H' σ' W' st<|e.rebase b x|brk l os=>exact λH' σ' W' st e=>h H' σ' W' st<|e.rebase b x|cnt l os=>exact λH' σ' W' st e=>h H' σ' W' st<|e.rebase b x|ret d=>exact λH' v f st r=>h H' v (b.fut.trans f) st #[r.1,λz ds y=>let #[a,e,q]:=r.2 z ds y;#[a,e,b.dom a q]]
 |ex c S=>exact λH' f st=>h H' (b.fut.trans f) st
 |no=>exact h
end
section
variable(X:Cx)(xw:Nat->Hp->Prop)(fr:Bool)
def tS3(f:Lc->List Nat->Zt->R Pv.FlV):TS:=λD Z H=>∃O H0 W l os S,St3 X.K O S H/\Eu O H0 W l os Z H/\Zw fr X.K xw O H0 D (f l os S)
variable(C:Calls)(ms:List Nat)
structure CS(st:fK)(s:Sm):Prop where
 h:PS X st (tS3 X xw fr<|Pv.rv C ms s)
structure CSs(st:List fK)(s:List Sm):Prop where
 h:PSs X st (tS3 X xw fr<|Pv.rvs C ms s)
structure CG(tg:Expr)(t:List Nat):Prop where
 h:PG X tg (tGU X.K t)
def ZeC(t:List Nat):TGs:=λvs Z H Q=>vs.length=t.length/\Q (Uq t vs Z) H
structure CGs(tgs:List Expr)(t:List Nat):Prop where
 h:PGs X tgs (ZeC t)
end
def PS.imp(h:PS X e t)(k:∀D Z H,t' D Z H->t D Z H):PS X e t':=λpq s Z H D I q=>h pq s Z H D I<|k D Z H q
def PSs.imp(h:PSs X e t)(k:∀D Z H,t' D Z H->t D Z H):PSs X e t':=λpq s Z H D I q=>h pq s Z H D I<|k D Z H q
def PG.imp(h:PG X e t)(k:∀v Z H Q,t' v Z H Q->t v Z H Q):PG X e t':=λpq s Z H v u Q I r q=>h pq s Z H v u Q I r<|k v Z H Q q
def PGs.imp(h:PGs X e t)(k:∀v Z H Q,t' v Z H Q->t v Z H Q):PGs X e t':=λpq s Z H v u Q I r q=>h pq s Z H v u Q I r<|k v Z H Q q
section
variable{X:Cx}{xw:Nat->Hp->Prop}{fr:Bool}{C:Calls}{ns:List Nat}{e a b c:Expr}{i j k:E}{pos p p' p2:gW}{s0:fK}{ss:List fK}{m0:Sm}{ms ms':List Sm}
def ZbV{es:List Expr}{is:List E}(h:CA X xw C es is):CF X xw C (.List es pos) (.lst is):=.mk <| PE.imp (Zch h.h)<|by
 rintro Z H Q ⟨O,l,S,st,lr,h⟩;rw[Pv.pv]at h;refine#[O,l,S,st,lr,h.bind λxs S1 ρ1 H1 vs f1 st1 r1 h1=>?_]
 obtain⟨hl,h1⟩:=h1.guard;cases f1.eq;exact#[by rw[r1.length,<-XH];exact hl,h1.newF f1 st st1 r1]
def Zc8:CSs X xw fr C ns [] []:=.mk <| PSs.imp ZaI<|by rintro D Z H ⟨O,H0,W,l,os,S,st,he,h⟩;exact h H Z W st he
def ZaU(h1:CS X xw fr C ns s0 m0)(h2:CSs X xw fr C ns ss ms):CSs X xw fr C ns (s0::ss) (m0::ms):=.mk <| PSs.imp (JO h1.h h2.h)<|by
 rintro D Z H ⟨O,H0,W,l,os,S,st,he,h⟩;refine#[O,H0,W,l,os,S,st,he,?_];rw[Pv.rvs]at h;cases q:Pv.rv C ns m0 l os S with
 |no=>rw[q]at h;exact h
 |ex c S1=>rw[q]at h;exact h
 |ok fl S1=>
  rw[q]at h;cases fl with|nx l1 os1=>exact λH1 σ1 W1 st1 he1=>#[O,H0,W1,l1,os1,S1,st1,he1,h]|_=>exact h
def Zcz(he:CE X xw C e i):CS X xw am C ns (.Return (aa e) pos) (.ret i):=.mk <| PS.imp (zJ he.h)<|by
 rintro D Z H ⟨O,H0,W,l,os,S,st,en,h⟩;rw[Pv.rv]at h;exact#[O,l,S,st,en.all,Zw.bind en h λx S1 H1 v f1 st1 r1 h1=>h1 H1 v (en.fut.trans f1) st1 #[r1,λz=>by cases z]]
def J4{K:ao}{O:Mx}{H0 H:Hp}{W:Own}{l:Lc}{os:List Nat}{Z:L2.St}{S:Zt}{a:aL}(en:Eu O H0 W l os Z H)(st:St3 K O S H)(h:H a=ag):H0 a=ag:=en.fut.new h st.xd
def Zax(he:CF X xw C e i):CS X xw fr C ns (.Return (aa e) pos) (.ret i):=.mk <| PS.imp (zJ he.h)<|by
 rintro D Z H ⟨O,H0,W,l,os,S,st,en,h⟩;rw[Pv.rv]at h;exact#[O,l,S,st,en.all,Zw.bind en h λx S1 H1 v f1 st1 r1 h1=>h1 H1 v (en.fut.trans f1) st1 #[r1.1,λ_ ds y=>let #[a,e,q]:=r1.2 rfl ds y;#[a,e,J4 en st q]]]
def jU{n:Nat}{is:List E}(he:CE X xw C e (.call n is))(hs:fD e ag pos.line X.env=c6 am):CS X xw fr C ns (.Expr e pos) (.ex<|.call n is):=.mk <| PS.imp (Jo he.h hs) λD Z H #[O,H0,W,l,os,S,st,en,h]=>
 #[O,l,S,st,en.all,Zw.bind en (show Zw fr X.K xw O H0 D ((Pv.pv C (.call n is) l S).bind λ_ s=>.ok (.nx l os) s)from h) λx S1 H1 v f1 st1 r1 h1=>h1 H1 Z W st1<|en.mono f1]
def Zd0{sa sb:List fK}(hc:CT X xw C c k)(ha:CSs X xw fr C ns sa ms)(hb:CSs X xw fr C ns sb ms'):CS X xw fr C ns (.If c sa sb pos) (.ite k ms ms'):=.mk <| PS.imp (ZdB hc.h ha.h hb.h)<|by
 rintro D Z H ⟨O,H0,W,l,os,S,st,en,h⟩;rw[Pv.rv]at h;refine#[O,l,S,st,en.all,Zw.bind en h λx S1 H1 v f1 st1 r1 h1=>?_]
 have e1:x=v:=r1;subst e1;cases x with|true=>exact#[O,H0,W,l,os,S1,st1,en.mono f1,h1]|false=>exact#[O,H0,W,l,os,S1,st1,en.mono f1,h1]
def jf{n:Nat}{x:bB}(hN:X.N.Nodup)(hi:X.N[n]?=aa x)(hx:L2.Loc X.env.scope x)(hf:X.fn x=ai\/X.env.scope.names.lookup x=aa .local):CG X (.Name x pos) [n]:=.mk <|
 PG.imp (VS hN hi hx hf) λv Z H Q q=>q
def ZaS:CGs X [] []:=.mk <| PGs.imp jR<|by
 rintro vs Z H Q ⟨h,q⟩;cases vs with|nil=>exact#[rfl,q]|cons _ _=>cases h
def qN{tgs:List Expr}{n:Nat}{t:List Nat}{x:bB}(hN:X.N.Nodup)(h2:CGs X tgs t)(hi:X.N[n]?=aa x)(hx:L2.Loc X.env.scope x)(hf:X.fn x=ai\/X.env.scope.names.lookup x=aa .local)
  (hs:(b7 (.Name x pos::tgs) X.env).map (·.2)=dF (.Name x pos) X.env::(b7 tgs X.env).map (·.2)):CGs X (.Name x pos::tgs) (n::t):=.mk <|
 PGs.imp (uS (VS hN hi hx hf) h2.h hs)<|by
  rintro vs Z H Q ⟨h,q⟩;cases vs with|nil=>cases h|cons v vs=>exact#[v,vs,rfl,Nat.succ.inj h,q]
theorem U0{E:ap->ax->Prop}(hne:t≠it):∀(n i:Nat)(s:ax)(Q:List ap->ax->Prop),s.heap.IsListIter it t i->s.heap.IsList t items->i+n<=items.size->
  (∀h',ck.IsListIter h' it t (i+n)->dN it s.heap h'->Q ((items.toList.drop i).take n) {s with heap:=h' })->aX (aS prog w) A (draw (.ref it) n) Q E s
 |0,i,s,Q,hit,_,_,hQ=>by
  exact aq (by simpa using hQ s.heap hit<|mM ..)
 |n+1,i,s,Q,hit,ht,hle,hQ=>by
  have hlt:i<items.size:=by lia
  refine ab<|kC hit ht (x:=items[i]) (by simp[hlt]) λh₁ hit₁ hs₁=>?_
  refine ab<|bH<|U0 hne n (i+1) _ _ hit₁ (ht.extBut hs₁.extBut hne) (by lia) λh₂ hit₂ hs₂=>aq ?_
  have hd:items.toList.drop i=items[i]::items.toList.drop (i+1):=by simp[b9,hlt]
  have:=hQ h₂ (by rw[show i+(n+1)=i+1+n by lia];exact hit₂)<|hs₁.trans hs₂
  rw[hd,List.take_succ_cons]at this;exact this
theorem GE{E:ap->ax->Prop}{x1}{Q:Unit->ax->Prop}(hh:A.handled=ag)(ht:s.heap.IsList t items)
  (hn:(b7 elts env).length=items.size)(hstar:(b7 elts env).findIdx? (·.1)=ag)
  (h:∀h',gR s.heap.objs.size s.heap h'->aX (aS prog w) A (assignInOrder ((b7 elts env).map (·.2)) items.toList) Q E {s with heap:=h' }) :
  aX (aS prog w) A (dF (.Tuple elts x1 pos) env<|.ref t) Q E s:=by
 rw[assign_Tuple];refine ab<|dP ?_;have hlt:t≠s.heap.objs.size:=by obtain⟨o,ho,_⟩:=ht;exact bn<|aE ho
 unfold unpack;rw[hn,hstar];refine ab<|bH ?_;refine ab ?_;refine ab<|wpAny_specialOf ht.typeIs slot_list_iter.lookup ?_;refine aq ?_;simp only[cB,if_false];refine ab<|bH<|fj ht ?_;refine ab<|bH<|U0 hlt items.size 0 _ _ #[_,aG _ rfl,rfl,rfl] (ht.push _) (by lia) λh₁ hit₁ hs₁=>?_
 have hall:io items.size (oS 0 items.toList)=items.toList:=by
  rw[iE];exact cC (by simp)
 rw[hall];rw[T8 (by simp)]
 have ht₁:=(ht.push _).extBut hs₁.extBut hlt;refine ab<|bH<|kY hh hit₁ ht₁ (by simp) λh₂ he₂=>?_
 simp only[Option.isSome_none,cB,if_false];exact aq<|h h₂ λb o hb e=>he₂ b o hb<|hs₁.extBut b o hb<|au _ e
def gTL(K:ao)(n:Nat)(t:TGs):TG:=λv Z H Q=>∃a xs,v=.ref a/\(SqT K H a xs\/H a=aa (.lst xs))/\xs.length=n/\t xs Z H Q
def ZdW{X:Cx}{pos:gW}{es:List Expr}{k:Nat}{t:TGs}{n:Nat}(hc:X.calm=ai)(h:PGs X es t)
  (hn:(b7 es X.env).length=n:=by rfl)(hst:(b7 es X.env).findIdx? (·.1)=ag:=by rfl):PG X (.Tuple es k pos) (gTL X.K n t):=by
 intro pq s Z H v u Q I r hw;obtain⟨a,xs,e1,hq|hq,hl,hw⟩:=hw
 .exact Zdb hc h hn hst pq s Z H v u Q I r #[a,xs,e1,hq,hl,hw]
 .subst e1
  cases r;obtain⟨its,rv,pl,hz⟩:=I.list<|SqL.of hq;refine GE (I.ok.hd hc) pl.isList (by simp[hn,<-hl,rv.length]) hst λh' hx=>?_
  have I1:=I.kept (t':=s.toks) λb o e=>hx b o (bn<|aE e) e
  exact h pq _ Z H xs _ Q I1 (by simpa using rv) hw
def Zdf{tgs:List Expr}{q2:Nat}{n m:Nat}{r:List Nat}(hc:X.calm=ai)(h:CGs X tgs (n::m::r))(hn:(b7 tgs X.env).length=(n::m::r).length)(hst:(b7 tgs X.env).findIdx? (·.1)=ag):CG X (.Tuple tgs q2 pos) (n::m::r):=.mk <|
 PG.imp (ZdW hc h.h hn hst)<|by rintro v Z H Q ⟨a,xs,e,hp,hl,q⟩;exact #[a,xs,e,hp,hl,hl,q]
def Zw.evA{D:Ends}{K:ao}{O:Mx}{H0 H:Hp}{W:Own}{l:Lc}{os:List Nat}{Z:L2.St}{S:Zt}{f:Pv.V->Zt->R Pv.FlV}{Q1:VK}(z:Bool)(hz:Pv.fresh i=ai->z=ai)(st:St3 K O S H)(en:Eu O H0 W l os Z H)(h:Zw fr K xw O H0 D ((Pv.pvA C i l os S).bind f))
  (k:∀d S1 H1 v,Fut O H O H1->St3 K O S1 H1->XZ z H (O.ex W) H1 d v->Zw fr K xw O H0 D (f d S1)->Q1 v H1):∃ρ' l' S,St3 K ρ' S H/\LocR ρ' H l' Z/\End K xw (XZ z H) ρ' H Q1 (Pv.pv C i l' S):=by
 have hid:Zw fr K xw O H0 D ((Pv.pv C i (Pv.hide os l) S).bind f)->∃ρ' l' S,St3 K ρ' S H/\LocR ρ' H l' Z/\End K xw (XZ z H) ρ' H Q1 (Pv.pv C i l' S):=λh=>#[O.ex W,Pv.hide os l,S,en.st st,en.hid,Zw.bindW en h k]
 cases os with
 |nil=>exact hid (by rw[hide_nil];exact h)
 |cons o os=>
  have h:Zw fr K xw O H0 D (Pv.PR.bind (match Pv.pv C i (Pv.hide (o::os) l) S with
   |.ok v s=>.ok v s
   |.ex c s=>.ex c s
   |.no=>(Pv.pv C i l S).bind λv s=>if(v.flat||Pv.fresh i&&Pv.GD v)=ai then .ok v s else .no) f):=h
  cases q:Pv.pv C i (Pv.hide (o::os) l) S with
  |ok v s=>rw[q]at h;exact hid (by rw[q];exact h)
  |ex c s=>rw[q]at h;exact hid (by rw[q];exact h)
  |no=>
   rw[q]at h;have h:Zw fr K xw O H0 D (((Pv.pv C i l S).bind λv s=>if(v.flat||Pv.fresh i&&Pv.GD v)=ai then Pv.PR.ok v s else .no).bind f):=h
   rw[XF]at h;refine#[O,l,S,st,en.all,Zw.bind en h λd S1 H1 v f1 st1 r1 h1=>?_]
   by_cases c:(d.flat||Pv.fresh i&&Pv.GD d)=ai
   case neg=>rw[T8 c]at h1;exact h1.elim
   rw[T9 c]at h1;refine k d S1 H1 v f1 st1 #[?_,r1.2] h1;rcases(ee _ _).mp c with c|c
   .exact Rep.flat (O:=O) (ρ':=O.ex W) rfl (λ_ _ z _ _=>z) c r1.1
   .obtain⟨c1,c2⟩:=(aA _ _).mp c
    cases d with
    |lst xs=>
     obtain⟨a,rfl,ha⟩:=r1.2 (hz c1) xs rfl;obtain⟨_,us,e,hs,hx,rs⟩:=r1.1.lst';cases e;exact Xh hs (λx=>x.elim hx λ#[i,w]=>let #[_,_,_,z]:=en.own i a w;T7 ha z.ne)<|rs.flat (O:=O) (ρ':=O.ex W) rfl (λ_ _ z _ _=>z) c2
    |_=>cases c2
def End.unfr{K:ao}{O:Mx}{H H0:Hp}{Q:VK}{r:R D}(h:End K xw (XZ am H0) O H Q r):End K xw Rep O H Q r:=by
 cases r with|ok d S=>exact λρ' H' v f st r=>h ρ' H' v f st #[r,λz=>by cases z]|_=>exact h
def Zav{n:Nat}{tg:Expr}(he:CE X xw C e i)(hg:CG X tg [n])(hf:Pv.fresh i=am)(hs:dQ [tg] e pos.line X.env=c6 am)(hw:dR [tg] e X.env=c6 ag)
  (h1:(b7 [tg] X.env).map (·.2)=[dF tg X.env]):CS X xw fr C ns (.Assign [tg] e pos) (.asg [n] i):=.mk <| PS.imp (Wh he.h hg.h hs hw h1)<|by
 rintro D Z H ⟨O,H0,W,l,os,S,st,en,h⟩;rw[Pv.rv]at h;obtain⟨ρ',l',S',a,b,c⟩:=Zw.evA (Q1:=λx H1=>tGU X.K [n] x Z H1 D.nx) am (λz=>by rw[hf]at z;cases z) st en h λd S1 H1 v f1 st1 r1 h1=>by
  rw[hf,on,T8 aM]at h1;exact h1 H1 _ _ st1<|(en.mono f1).drop (o:=aa d) λ_ z=>by cases z;exact r1.1.lat Lat.noW
 exact#[ρ',l',S',a,b,c.unfr]
def ZcK{D:Ends}{O:Mx}{H0 H:Hp}{W:Own}{l:Lc}{os:List Nat}{Z:L2.St}{S:Zt}{n:Nat}(st:St3 X.K O S H)(en:Eu O H0 W l os Z H)(h:Zw fr X.K xw O H0 D (Pv.rv C ns (.asg [n] i) l os S)):tF X xw (Pv.pv C i) Z H λx H1=>D.nx (Z.set n<|aa x) H1:=by
 rw[Pv.rv]at h;refine Zw.evA ai (λ_=>rfl) st en h λd S1 H1 v f1 st1 r1 h1=>?_
 by_cases c:(ns.contains n&&Pv.fresh i)=ai
 .rw[T9 c]at h1
  cases d with
  |lst xs=>
   obtain⟨⟨hf,hl⟩,h1⟩:=Zw.guard h1;obtain⟨a,rfl,ha⟩:=r1.2 rfl xs rfl;exact h1 H1 _ _ st1<|en.take st.xd f1 ha hf r1.1 hl
  |_=>exact h1.elim
 .rw[T8 c]at h1
  exact h1 H1 _ _ st1<|(en.mono f1).drop (o:=aa d) λ_ z=>by cases z;exact r1.1.lat Lat.noW
def jK{n:Nat}{tg:Expr}(he:CF X xw C e i)(hg:CG X tg [n])(hs:dQ [tg] e pos.line X.env=c6 am)(hw:dR [tg] e X.env=c6 ag)
  (h1:(b7 [tg] X.env).map (·.2)=[dF tg X.env]):CS X xw fr C ns (.Assign [tg] e pos) (.asg [n] i):=.mk <| PS.imp (Wh he.h hg.h hs hw h1)<|by rintro D Z H ⟨O,H0,W,l,os,S,st,en,h⟩;exact ZcK st en h
def ZbK{n m:Nat}{t:List Nat}{tg:Expr}(he:CE X xw C e i)(hg:CG X tg (n::m::t))(hf:Pv.fresh i=am)(hs:dQ [tg] e pos.line X.env=c6 am)(hw:dR [tg] e X.env=c6 ag)
  (h1:(b7 [tg] X.env).map (·.2)=[dF tg X.env]):CS X xw fr C ns (.Assign [tg] e pos) (.asg (n::m::t) i):=.mk <| PS.imp (Wh he.h hg.h hs hw h1)<|by
 rintro D Z H ⟨O,H0,W,l,os,S,st,en,h⟩;rw[Pv.rv]at h
 .obtain⟨ρ',l',S',a,b,c⟩:=Zw.evA (Q1:=λx H1=>tGU X.K (n::m::t) x Z H1 D.nx) am (λz=>by rw[hf]at z;cases z) st en h λd S1 H1 v f1 st1 r1 h1=>by
   obtain⟨ht,h1⟩:=h1.guardN;obtain⟨l',hl,h1⟩:=Zw.ob h1;exact(en.mono f1).assign (by simpa using ht) r1.1 hl λσ' e'=>h1 H1 σ' W st1 e'
  exact#[ρ',l',S',a,b,c.unfr]
 .intro _ z;cases z
end
theorem Eu.at{O:Mx}{H0 H:Hp}{W:Own}{l:Lc}{os:List Nat}{Z:L2.St}{i:Nat}{xs:List D}(h:Eu O H0 W l os Z H)(hi:os.contains i=ai)(hx:Pv.X3 l[i]?=aa xs):∃a,W i=aa a/\Z[i]?=aa (aa<|.ref a)/\∃us,H a=aa (.lst us)/\Rq (O.ex W) H xs us:=by
 rw[h.osW]at hi;obtain⟨a,w⟩:=bO.mp hi;obtain⟨d,p,c,r⟩:=h.own i a w;rw[p]at hx;cases d with|lst ys=>cases hx;exact#[a,w,c,r]|_=>cases hx
section
variable{X:Cx}{xw:Nat->Hp->Prop}{fr:Bool}{C:Calls}{ns:List Nat}{e a b c:Expr}{i j k:E}{pos p p' p2:gW}{s0:fK}{ms ms':List Sm}{n:Nat}{x:bB}
def x5{apos cpos:gW}(he:CE X xw C e i)(hN:X.N[n]?=aa x)(hv:Vis X.env.scope x)(hd:(x == ("__debug__" : bB))=am)
  (hcd:(x == ("__classdict__" : bB))=am)
  (hbase:lR (.Name x p) "append" X.env (cD (.Name x p) X.env)=cD (.Name x p) X.env)
  (hfew:((dW cpos<|aH [e] X.env).all (λx=>!x.1)&&(backToKw cpos<|nG [] X.env).all (λx=>x.1.isSome)
   && af (([e]:List Expr).length+([]:List mF).length+(if([]:List mF).isEmpty then 0 else 1)<30))=ai)
  (hline:(apos.endLine == cpos.line)=ai)(hs:aH [e] X.env=(am,cD e X.env)::aH [] X.env)(hplain:(dW cpos<|aH [] X.env).any (·.1)=am)
  (hw:fD (.Call (.Attribute (.Name x p) "append" apos) [e] [] cpos) ag pos.line X.env=c6 am) :
  CS X xw fr C ns (.Expr (.Call (.Attribute (.Name x p) "append" apos) [e] [] cpos) pos) (.ex<|.mt .append (.v n) [i]):=.mk <|
 PS.imp (Jo (Zbh kq PySem.F.slot_list_append PySem.F.type_list_append Qm (Wa hN hv hd hcd) (Yu he.h Vh hs) hbase hfew hline hs hplain) hw)<|by
 rintro D Z H ⟨O,H0,W,l,os,S,st,en,h⟩;rw[Pv.rv]at h;obtain⟨c,h⟩:=h.guard;obtain⟨xs,hx,h⟩:=Zw.ob h;obtain⟨a,ha,q,us,e1,_⟩:=en.at c hx;refine#[.ref a,q,.inl #[rfl,us,SqL.of e1],O,l,S,st,en.all,Zw.bind en h λy S1 H1 v f1 st1 r1 h1=>?_]
 obtain⟨⟨hf,hl⟩,h1⟩:=h1.guard;have en1:=en.mono f1;obtain⟨a',ha',_,us,e2,r'⟩:=en1.at c hx;rw[ha]at ha';cases ha';exact#[a,us,v,rfl,rfl,e2,by rw[r'.length,<-XH];exact hl,h1 _ _ W (st1.mut en1 ha)<|en1.mut ha<|r'.append<|Rq.cons (Rep.flat (O:=O) (ρ':=O.ex W) rfl (λ_ _ z _ _=>z) hf r1) Rq.nil]
def x9{apos cpos:gW}(he:CE X xw C e i)(hN:X.N[n]?=aa x)(hv:Vis X.env.scope x)(hd:(x == ("__debug__" : bB))=am)
  (hcd:(x == ("__classdict__" : bB))=am)
  (hbase:lR (.Name x p) "extend" X.env (cD (.Name x p) X.env)=cD (.Name x p) X.env)
  (hfew:((dW cpos<|aH [e] X.env).all (λx=>!x.1)&&(backToKw cpos<|nG [] X.env).all (λx=>x.1.isSome)
   && af (([e]:List Expr).length+([]:List mF).length+(if([]:List mF).isEmpty then 0 else 1)<30))=ai)
  (hline:(apos.endLine == cpos.line)=ai)(hs:aH [e] X.env=(am,cD e X.env)::aH [] X.env)(hplain:(dW cpos<|aH [] X.env).any (·.1)=am)
  (hw:fD (.Call (.Attribute (.Name x p) "extend" apos) [e] [] cpos) ag pos.line X.env=c6 am) :
  CS X xw fr C ns (.Expr (.Call (.Attribute (.Name x p) "extend" apos) [e] [] cpos) pos) (.ex<|.mt .extend (.v n) [i]):=.mk <|
 PS.imp (Jo (Zbh kq PySem.F.slot_list_extend PySem.F.type_list_extend wz (Wa hN hv hd hcd) (Yu he.h Vh hs) hbase hfew hline hs hplain) hw)<|by
 rintro D Z H ⟨O,H0,W,l,os,S,st,en,h⟩;rw[Pv.rv]at h;obtain⟨c,h⟩:=h.guard;obtain⟨xs,hx,h⟩:=Zw.ob h;obtain⟨a,ha,q,us,e1,_⟩:=en.at c hx;refine#[.ref a,q,.inl #[rfl,us,SqL.of e1],O.ex W,Pv.hide os l,S,en.st st,en.hid,Zw.bindW en h λy S1 H1 v f1 st1 r1 h1=>?_]
 cases y with
 |lst ys=>
  obtain⟨⟨hf,hl⟩,h1⟩:=Zw.guard h1;have en1:=en.mono f1;obtain⟨a',ha',_,us,e2,r'⟩:=en1.at c hx;rw[ha]at ha';cases ha';obtain⟨b,ws,rfl,e3,_,r3⟩:=r1.lst';exact#[a,b,us,ws,rfl,rfl,e2,e3,by rw[r'.length,r3.length,<-XH];exact hl,h1 _ _ W (st1.mut en1 ha)<|en1.mut ha<|r'.append r3]
 |_=>exact h1.elim
def v6{n:Nat}:CS X (λ_ _=>False) fr C ns s0 (.raise n []):=.mk <| λpq s Z H D I #[O,H0,W,l,os,S,st,en,h]=>
 False.elim ((show Zw fr X.K (λ_ _=>False) O H0 D (.ex n S)from h) H en.fut st)
def ZaV{m:Nat}{y:bB}{py:gW}(hj:X.N[m]?=aa y)(hv:Vis X.env.scope y)(hd:(y == ("__debug__" : bB))=am)(hcd:(y == ("__classdict__" : bB))=am) :
  CS X xw fr C ns (.Return (aa<|.Name y py) pos) (.retO m):=.mk <| PS.imp (zJ<|Wa hj hv hd hcd)<|by
 rintro D Z H ⟨O,H0,W,l,os,S,st,en,h⟩;rw[Pv.rv]at h;obtain⟨c1,h⟩:=h.guard;obtain⟨xs,hx,h⟩:=Zw.ob h;obtain⟨a,ha,q,us,e1,r⟩:=en.at c1 hx;exact#[.ref a,q,h H (.ref a) en.fut st #[Xh e1 (en.nx ha)<|r.lat Lat.unex,λ_ ds z=>#[a,rfl,en.new _ a ha]]]
def Zcn{m:Nat}{y:bB}{px py:gW}(hN:X.N.Nodup)(hj:X.N[m]?=aa y)(hv:Vis X.env.scope y)(hd:(y == ("__debug__" : bB))=am)
  (hcd:(y == ("__classdict__" : bB))=am)(hi:X.N[n]?=aa x)(hx:L2.Loc X.env.scope x)(hf:X.fn x=ai\/X.env.scope.names.lookup x=aa .local)
  (hs:dQ [.Name x px] (.Name y py) pos.line X.env=c6 am)(hw:dR [.Name x px] (.Name y py) X.env=c6 ag)
  (h1:(b7 [.Name x px] X.env).map (·.2)=[dF (.Name x px) X.env]):CS X xw fr C ns (.Assign [.Name x px] (.Name y py) pos) (.mov n m):=.mk <|
 PS.imp (Wh (Wa hj hv hd hcd) (VS hN hi hx hf) hs hw h1)<|by
 rintro D Z H ⟨O,H0,W,l,os,S,st,en,h⟩;rw[Pv.rv]at h;obtain⟨c,h⟩:=h.guard;obtain⟨c1,c⟩:=(aA _ _).mp c;obtain⟨c2,c3⟩:=(aA _ _).mp c;have c3:n≠m:=T6 c3;have c2:os.contains n=am:=by simpa using c2
 obtain⟨xs,hx,h⟩:=Zw.ob h;obtain⟨a,ha,q,us,e1,r⟩:=en.at c1 hx;have nx:=en.nx ha;refine#[.ref a,q,h H _ (noW W m) st ?_];have e:=en.drop (i:=m) (o:=ag) (v:=.ref a) λ_ z=>by cases z
 have hl:m<Z.length:=(aU.mp q).1;rw[show Z.set m (aa<|.ref a)=Z by
  have:=(aU.mp q).2;rw[<-this];exact List.set_getElem_self hl]at e
 have e:=e.set (i:=n) (o:=aa<|.lst xs) (v:=.ref a) (by
  rw[Wg en.osW];unfold noW;rw[T8 c3,en.nW c2];rfl) λ_ z=>by
   cases z;refine Xh e1 (λx=>x.elim nx λ#[k,w]=>?_)<|r.lat Lat.noW
   obtain⟨w1,w2⟩:=Xg w;exact w1<|en.inj k m a w2 ha
 rw[List.set_comm _ _<|Ne.symm c3]at e;exact e
end
structure WRel(K:ao)(O:Mx)(H:Hp)(w:List D)(J:It):Prop where
 go:∀(i:Nat) ρ' S' H',Lat O H ρ' H'->St3 K ρ' S' H'->i<w.length->J.go i H'/\∀x H'',J.yld i H' x H''->Fut ρ' H' ρ' H''/\St3 K ρ' S' H''/\∀d,w[i]?=aa d->Rep ρ' H'' d x
 stop:∀ρ' S' H',Lat O H ρ' H'->St3 K ρ' S' H'->J.stop w.length H'
section
variable(X:Cx)(xw:Nat->Hp->Prop)
def tW3(f:Lc->Zt->R (List D)):TI:=λZ H Q=>∃O l S,St3 X.K O S H/\LocR O H l Z/\End X.K xw (WRel X.K) O H Q (f l S)
structure CW(C:Calls)(tg it:Expr)(w:Ev.W):Prop where
 h:PI X tg it (tW3 X xw<|Pv.pvw C w)
end
def PI.imp(h:PI X tg it t)(k:∀Z H Q,t' Z H Q->t Z H Q):PI X tg it t':=λpq s Z H R I q=>h pq s Z H R I<|k Z H R q
section
variable{X:Cx}{xw:Nat->Hp->Prop}{C:Calls}{e a b c tg it:Expr}{i j k:E}{pos p p' p2:gW}
def Zeh(K:ao)(tl:TE):TI:=λZ H R=>tl Z H λx H1=>∃a,x=.ref a/\(((∃xs,SqL K H1 a xs)/\R (Itl K a) H1)\/((∃xs,SqT K H1 a xs)/\R (Itt K a) H1))
def vU(hl:PE X l tl):PI X tg l (Zeh X.K tl):=by
 intro pq s Z H R I h;refine thn (hl pq s Z H _ I h) λv s1 #[x,H1,I1,r1,a,e,q]=>?_
 subst e;cases r1;rcases q with⟨⟨xs,hq⟩,q⟩|⟨⟨xs,hq⟩,q⟩
 .obtain⟨its,rv,p,hz⟩:=I1.list hq
  refine fj p.isList ?_;refine#[s1.heap.objs.size,[s1.heap.objs.size],_,_,H1,rfl,I1.kept (t':=s1.toks) λb o e=>au _ e,wg a _,#[_,aG _ rfl,rfl,rfl],λb hb=>?_,q]
  have e:b=s1.heap.objs.size:=by simpa using hb
  subst e;exact I1.fpOk (aN _)<|I1.hok.fresh<|aN _
 .obtain⟨its,rv,p,hz⟩:=I1.tuple hq
  refine fZ (p) ?_
  refine#[s1.heap.objs.size,[s1.heap.objs.size],_,_,H1,rfl,I1.kept (t':=s1.toks) λb o e=>au _ e,zr a _,#[_,aG _ rfl,rfl,rfl],λb hb=>?_,q]
  have e:b=s1.heap.objs.size:=by simpa using hb
  subst e;exact I1.fpOk (aN _)<|I1.hok.fresh<|aN _
def WS{K:ao}{O:Mx}{H:Hp}{ds:List D}{xs:List V}{J:It}(r:Rq O H ds xs)(hg:∀ρ' H',Lat O H ρ' H'->(∀i x,xs[i]?=aa x->J.go i H'/\∀y H'',J.yld i H' y H''->H''=H'/\y=x)/\∀n,n=xs.length->J.stop n H'):WRel K O H ds J where
 go:=λi ρ' S' H' f st hi=>by
  obtain⟨v,g,r'⟩:=(r.lat f).get<|ae hi;obtain⟨a,b⟩:=(hg ρ' H' f).1 i v g;refine#[a,λx H'' y=>?_]
  obtain⟨rfl,rfl⟩:=b x H'' y;exact#[Fut.refl _ _,st,λd hd=>by rw[ae hi]at hd;cases hd;exact r']
 stop:=λρ' S' H' f st=>(hg ρ' H' f).2 _ r.length.symm
def v9{K K':ao}{O:Mx}{H:Hp}{ds:List D}{a:aL}{xs:List V}(hp:H a=aa (.tup xs))(r:Rq O H ds xs):WRel K O H ds (Itt K' a):=WS r λρ' H' f=>by
 have h:=SqT.of (K:=K')<|f.keep a _ hp λ_ z=>by cases z
 exact#[λi x g=>#[#[xs,x,h,g],λy H'' z=>#[z.1,by have:=z.2 xs h;rw[g]at this;exact(ak this).symm]],λn e=>#[xs,h,by omega]]
def QA{K K':ao}{O:Mx}{H:Hp}{ds:List D}{a:aL}{xs:List V}(hp:∀ρ' H',Lat O H ρ' H'->SqL K' H' a xs)(r:Rq O H ds xs):WRel K O H ds (Itl K' a):=WS r λρ' H' f=>by
 have h:=hp ρ' H' f;exact#[λi x g=>#[#[xs,x,h,g],λy H'' z=>#[z.1,by have:=z.2 xs h;rw[g]at this;exact(ak this).symm]],λn e=>#[xs,h,by omega]]
def US(lo:Int)(n:Nat):(Pv.ZU lo n).length=n:=by unfold Pv.ZU;rw[aw,aZ]
theorem Ql(lo:Int):∀(l:List Nat),Rq O H (l.map λ(k:Nat)=>Pv.V.int<|lo+(k:Int)) (l.map λ(k:Nat)=>V.int<|lo+(k:Int))
 |[]=>Rq.nil
 |_::l=>Rq.cons (ZW _)<|Ql lo l
def JH{K:ao}{O:Mx}{H:Hp}{lo:Int}{n:Nat}:WRel K O H (Pv.ZU lo n) (Itr lo n):=WS (Ql lo<|az n) λρ' H' f=>by
 refine#[λi x g=>?_,λm e=>?_]
 .have hi:i<n:=by have:=(aU.mp g).1;simpa using this
  rw[aJ,cq hi]at g;exact#[hi,λy H'' z=>#[z.1,z.2.trans<|ak g]]
 .rw[aw,aZ]at e;show n<=m;omega
def ZdR(he:CE X xw C e i):CW X xw C tg e (.of i):=.mk <| PI.imp (vU he.h)<|by
 rintro Z H Q ⟨O,l,S,st,lr,h⟩;rw[Pv.pvw]at h;refine#[O,l,S,st,lr,h.bind λx S1 ρ1 H1 v f1 st1 r1 h1=>?_]
 obtain⟨ds,hd,h1⟩:=End.po h1;have q:∀{J},WRel X.K ρ1 H1 ds J->Q J H1:=λw=>End.ok h1 st1 w
 cases x with
 |tup ds=>cases hd;obtain⟨a,xs,rfl,hp,r⟩:=r1.tup';exact#[a,rfl,.inr #[#[xs,SqT.of hp],q<|v9 hp r]]
 |lst ds=>cases hd;obtain⟨a,xs,rfl,hp,hx,r⟩:=r1.lst';exact#[a,rfl,.inl #[#[xs,SqL.of hp],q<|QA (λρ' H' f=>SqL.of<|f.keep a _ hp λ_ _=>hx) r]]
 |scr ns=>
  cases hd;obtain⟨a,rfl,hp⟩:=r1.scr';rw[st1.hk]at hp;refine#[a,rfl,.inl #[#[_,hp.sq],q<|QA (λρ' H' f=>?_)<|Rq.ints ns]]
  rcases hp with⟨o,hp⟩|hp
  .exact .inl<|.inr #[o,f.keep a _ hp λ_ z=>by cases z]
  .exact .inr hp
 |_=>exact Ev.nos hd
def ZbC{B β:Type}{rep:Mx->Hp->B->β->Prop}{O:Mx}{l:Lc}{S:Zt}{Z:L2.St}{H:Hp}{Q:β->Hp->Prop}{Q1:List V->Hp->Prop}{g:D->Zt->R B}(st:St3 X.K O S H)(lr:LocR O H l Z)(h:End X.K xw rep O H Q ((Pv.pv C i l S).bind g))
  (k:∀x S1 ρ1 H1 v,St3 X.K ρ1 S1 H1->Rep ρ1 H1 x v->End X.K xw rep ρ1 H1 Q (g x S1)->Q1 [v] H1):tA X xw (Pv.pvs C [i]) Z H Q1:=by
 refine#[O,l,S,st,lr,?_];show End X.K xw Rq O H _ ((Pv.pv C i l S).bind λx S=>.ok [x] S)
 cases q:Pv.pv C i l S with
 |no=>rw[q]at h;exact h
 |ex c S1=>rw[q]at h;exact h
 |ok x S1=>
  rw[q]at h;intro ρ1 H1 vs f1 st1 r1;obtain⟨v,rfl,r⟩:=uU r1;exact k x S1 ρ1 H1 v st1 r<|End.mono f1 h
def Zbp{B β:Type}{rep:Mx->Hp->B->β->Prop}{O:Mx}{l:Lc}{S:Zt}{Z:L2.St}{H:Hp}{Q:β->Hp->Prop}{Q1:List V->Hp->Prop}{g:D->D->Zt->R B}(st:St3 X.K O S H)(lr:LocR O H l Z)(h:End X.K xw rep O H Q ((Pv.pv C i l S).bind λx S=>(Pv.pv C j l S).bind λy S=>g x y S))
  (k:∀x y S1 ρ1 H1 v u,St3 X.K ρ1 S1 H1->Rep ρ1 H1 x v->Rep ρ1 H1 y u->End X.K xw rep ρ1 H1 Q (g x y S1)->Q1 [v,u] H1):tA X xw (Pv.pvs C [i,j]) Z H Q1:=by
 refine#[O,l,S,st,lr,?_];show End X.K xw Rq O H _ ((Pv.pv C i l S).bind λx S=>((Pv.pv C j l S).bind λy S=>.ok [y] S).bind λxs S=>.ok (x::xs) S)
 cases q:Pv.pv C i l S with
 |no=>rw[q]at h;exact h
 |ex c S1=>rw[q]at h;exact h
 |ok x S1=>
  rw[q]at h;have h:End X.K xw rep O H Q ((Pv.pv C j l S1).bind λy S=>g x y S):=h
  show End X.K xw Rq O H _ (((Pv.pv C j l S1).bind λy S=>.ok [y] S).bind λxs S=>.ok (x::xs) S)
  cases q2:Pv.pv C j l S1 with
  |no=>rw[q2]at h;exact h
  |ex c S2=>rw[q2]at h;exact h
  |ok y S2=>
   rw[q2]at h;intro ρ1 H1 vs f1 st1 r1;obtain⟨v,u,rfl,rv,ru⟩:=yu r1;exact k x y S2 ρ1 H1 v u st1 rv ru<|End.mono f1 h
def YW(h:Ev.YA n=ai):-(2^62)<=n/\n<2^62:=T6 h
def jz(hm:X.mg "range" = ag)(ha:CA X xw C [a] [i])(hg:Gl X "range")(hs:aH [a] X.env=[(am,cD a X.env)]):CW X xw C tg (.Call (.Name "range" p) [a] [] pos) (.rng1 i):=.mk <|
 PI.imp (xL hg hm ha.h hs) λZ H Q #[O,l,S,st,lr,h]=>ZbC st lr h λx S1 ρ1 H1 v st1 r h1=>by
  cases x with
  |int n=>
   obtain⟨hs,h2⟩:=End.guard h1;exact#[n,by rw[r.int'],(YW hs).1,(YW hs).2,End.ok (rep:=WRel X.K) h2 st1 JH]
  |_=>exact False.elim h1
def j7(hm:X.mg "range" = ag)(ha:CA X xw C [a,b] [i,j])(hg:Gl X "range")(hs:aH [a,b] X.env=[(am,cD a X.env),(am,cD b X.env)])(hs2:aH [b] X.env=[(am,cD b X.env)]) :
  CW X xw C tg (.Call (.Name "range" p) [a,b] [] pos) (.rng2 i j):=.mk <|
 PI.imp (we hg hm ha.h hs hs2) λZ H Q #[O,l,S,st,lr,h]=>Zbp st lr h λx y S1 ρ1 H1 v u st1 rv ru h1=>by
  cases x with
  |int n=>cases y with
   |int m=>
    obtain⟨hs,h3⟩:=End.guard h1;obtain⟨s1,s2⟩:=(aA _ _).mp hs;exact#[n,m,by rw[rv.int',ru.int'],#[(YW s1).1,(YW s1).2,(YW s2).1,(YW s2).2],End.ok (rep:=WRel X.K) h3 st1 JH]
   |_=>exact False.elim h1
  |_=>exact False.elim h1
def yZ{D:Ends}{Z:L2.St}{O:Mx}{H0 H1:Hp}{W:Own}{l:Lc}{os:List Nat}{S1:Zt}{J:It}{wk:List Pv.V}{fr:Bool}{ns:List Nat}{ms:List Sm}{t:List Nat}(st1:St3 X.K O S1 H1)(en:Eu O H0 W l os Z H1)(r1:WRel X.K (O.ex W) H1 wk J)
  (h1:Zw fr X.K xw O H0 D (Pv.Y4 (λx O os s=>if(t.any<|i5 os)=ai then(.no:Pv.PR Pv.FlV)else(Pv.po (Pv.Zi t x O) s).bind λO s=>Pv.rvs C ns ms O os s) wk l os S1)):∃W:Nat->Nat->L2.St->Hp->Prop,(∃m,W 0 m Z H1)/\∀i m Z H,W i m Z H->
   (J.stop i H/\D.nx Z H)\/(J.go i H/\∃N:L2.St->Hp->Prop,(∀σ' H',N σ' H'->∃m',m'<m/\W (i+1) m' σ' H')/\∀x H',J.yld i H x H'->tGU X.K t x Z H' λσ2 H2=>tS3 X xw fr (Pv.rvs C ns ms) {D with nx:=N,ct:=N,bk:=D.nx} σ2 H2):=by
 obtain⟨bs,en1⟩:=en.off st1.xd;have h1:=h1.rebase bs en.xd;generalize hB:(λx O os s=>if(t.any<|i5 os)=ai then(.no:Pv.PR Pv.FlV)else(Pv.po (Pv.Zi t x O) s).bind λO s=>Pv.rvs C ns ms O os s)=B at h1
 let I:Nat->L2.St->Hp->Prop:=λn σ' H'=>∃W' l' os' S',St3 X.K O S' H'/\Eu O (UL H1 W) W' l' os' σ' H'/\Zw fr X.K xw O (UL H1 W) D (Pv.Y4 B (wk.drop n) l' os' S')
 refine#[λn m σ' H'=>m=wk.length-n/\n<=wk.length/\I n σ' H',#[wk.length,rfl,dz _,W,l,os,S1,st1,en1,h1],?_]
 rintro n m σ' H' ⟨rfl,hn,W',l',os',S',st',en',e'⟩
 have lat:=en.walk en';by_cases hlt:n<wk.length
 .right
  rw[b9 hlt,Pv.Y4]at e';obtain⟨go,yl⟩:=r1.go n _ S' H' lat (en'.st st') hlt;refine#[go,I<|n+1,λσ2 H2 q=>#[wk.length-(n+1),by omega,rfl,hlt,q],λx H3 y=>?_]
  obtain⟨f3,st3,rp⟩:=yl x H3 y;have rx:=rp _<|ae hlt;have f3:Fut O H' O H3:=#[rfl,f3.keep];have hBn:B wk[n] l' os' S'=if(t.any<|i5 os')=ai then(.no:Pv.PR Pv.FlV)else(Pv.po (Pv.Zi t wk[n] l') S').bind λO s=>Pv.rvs C ns ms O os' s:=by rw[<-hB]
  rw[hBn]at e';by_cases c:(t.any<|i5 os')=ai
  .rw[T9 c]at e';exact e'.elim
  rw[T8 c]at e';cases ha:Pv.Zi t wk[n] l' with
  |none=>rw[ha]at e';exact e'.elim
  |some l2=>
   rw[ha]at e';refine(en'.mono f3).assign (by simpa using c) rx ha λσ2 e2=>#[O,_,W',l2,os',S',st3.unex,e2,?_]
   have e':Zw fr X.K xw O (UL H1 W) D ((Pv.rvs C ns ms l2 os' S').bind _):=e';cases q:Pv.rvs C ns ms l2 os' S' with
   |no=>rw[q]at e';exact e'
   |ex c S2=>rw[q]at e';exact e'
   |ok fl S2=>
    rw[q]at e';cases fl with|nx l3 os3=>exact λH4 σ4 W4 st4 lr4=>#[W4,l3,os3,S2,st4,lr4,e']|cnt l3 os3=>exact λH4 σ4 W4 st4 lr4=>#[W4,l3,os3,S2,st4,lr4,e']|brk l3 os3=>exact e'|ret d=>exact e'
 .left
  have en2:n=wk.length:=by omega
  subst en2;rw[dU]at e';exact#[r1.stop _ S' H' lat<|en'.st st',e' H' σ' W' st' en']
def ZbP{body:List fK}{fr:Bool}{ns:List Nat}{ms:List Sm}{w:Ev.W}{t:List Nat}(hp:PassesOwn (aS X.prog X.w) X.A X.env X.xe)(hc:X.calm=ai)(hw:CW X xw C tg it w)(hg:CG X tg t)(hb:CSs X xw fr C ns body ms)
  (hs:∀x,bJ it X.env x=c6 x):CS X xw fr C ns (.For tg it body [] pos) (.forr t w ms):=.mk <| PS.imp (qQ hp hc hw.h hg.h hb.h hs)<|by
 rintro D Z H ⟨O,H0,W,l,os,S,st,en,h⟩;rw[Pv.rv]at h;refine#[O.ex W,Pv.hide os l,S,en.st st,en.hid,Zw.bindW en h λwk S1 H1 J f1 st1 r1 h1=>yZ st1 (en.mono f1) r1 h1]
def jh{body:List fK}{fr:Bool}{ns:List Nat}{ms:List Sm}{t:List Nat}(hp:PassesOwn (aS X.prog X.w) X.A X.env X.xe)(hc:X.calm=ai)(he:CF X xw C it i)(hg:CG X tg t)(hb:CSs X xw fr C ns body ms)
  (hs:∀x,bJ it X.env x=c6 x):CS X xw fr C ns (.For tg it body [] pos) (.forF t i ms):=.mk <| PS.imp (qQ hp hc (vU he.h) hg.h hb.h hs)<|by
 rintro D Z H ⟨O,H0,W,l,os,S,st,en,h⟩;rw[Pv.rv]at h;refine Zw.evA ai (λ_=>rfl) st en h λd S1 H1 v f1 st1 r1 h1=>?_
 cases d with|lst ds=>obtain⟨a,xs,rfl,hp,hx,r⟩:=r1.1.lst';exact#[a,rfl,.inl #[#[xs,SqL.of hp],yZ st1 (en.mono f1) (QA (λρ' H' f=>SqL.of<|f.keep a _ hp λ_ _=>hx) r) h1]]|_=>exact h1.elim
end
end Sd
namespace Sd
open PySem PySem.Spec PyProof.Rows L2
noncomputable def wS(env:Env):List (bB×ej)->List (bB×aL)->List (bB×aL)
 |[],acc=>acc
 |x::r,acc=>wS env r (if(x.2 == bE)=ai then(x.1,(env.cells.lookup x.1).getD 0)::acc else acc)
theorem V9{env:Env}{f:bB×ej->List (bB×aL)->nP (ForInStep<|List<|bB×aL)}:∀(names:List (bB×ej))(acc:List (bB×aL)),
  (∀x∈names,∀c,f x c=c6 (.yield (if(x.2 == bE)=ai then(x.1,(env.cells.lookup x.1).getD 0)::c else c)))->lm names acc f=c6 (wS env names acc)
 |[],acc,_=>rfl
 |x::r,acc,h=>by
  rw[gZ,h x al,pure_bind];exact V9 r _ λy hy=>h y<|aj _ hy
theorem Gi :∀(names:List (bB×ej))(acc:List (bB×aL)),(wS env names acc).lookup x=aa c->acc.lookup x=aa c\/(∃y∈names,y.1=x/\y.2=.free/\c=(env.cells.lookup x).getD 0)
 |[],acc,h=>.inl h
 |y::r,acc,h=>by
  rcases Gi r _ h with h|⟨z,hz,e⟩
  .by_cases hf:(y.2 == bE)=ai
   .rw[T9 hf,bL]at h
    cases q:(x == y.1)with
    |true=>
     rw[q]at h;have e:=eM q;exact .inr #[y,al,e.symm,eM hf,by rw[e];exact(ak h).symm]
    |false=>rw[q]at h;exact .inl h
   .rw[T8 hf]at h;exact .inl h
  .exact .inr #[z,aj _ hz,e]
theorem Gm :∀(names:List (bB×ej))(acc:List (bB×aL)),(acc.lookup x).isSome=ai->((wS env names acc).lookup x).isSome=ai
 |[],acc,h=>h
 |y::r,acc,h=>by
  refine Gm r _ ?_;split
  .rw[bL]
   cases(x == y.1)with|true=>rfl|false=>exact h
  .exact h
theorem GW :∀(names:List (bB×ej))(acc:List (bB×aL)),(x,bE)∈names->((wS env names acc).lookup x).isSome=ai
 |[],acc,h=>by cases h
 |y::r,acc,h=>by
  rcases aB.mp h with h|h
  .subst h
   refine Gm r _ ?_;rw[T9 (by rfl),bL,beq_self_eq_true]
   rfl
  .exact GW r _ h
def zf{scope:eL}{env:Env}(h:∀y∈scope.names,y.2=.free->∃c,env.cells.lookup y.1=aa c) :
  ∃cl,closureFor scope env=c6 cl/\(∀x c,cl.lookup x=aa c->env.cells.lookup x=aa c)/\∀x,(x,bE)∈scope.names->∃c,cl.lookup x=aa c:=by
 refine#[wS env scope.names [],?_,λx c e=>?_,λx hx=>bO.mp<|GW _ _ hx]
 .simp only[closureFor]
  rw[V9 (env:=env) scope.names [] (λx hx c=>by
   obtain⟨n,kind⟩:=x;by_cases hk:(kind == bE)=ai
   .obtain⟨a,ha⟩:=h (n,kind) hx (eM hk)
    have ha':=ha;simp only[hk,if_true,cellOf,ha',pure_bind,nk]
   .simp only[hk,if_false]
    rfl),pure_bind]
 .rcases Gi _ _ e with e|⟨y,hy,e1,e2,e3⟩
  .cases e
  .obtain⟨a,ha⟩:=h y hy e2
   rw[e1]at ha;rw[e3,ha];rfl
theorem WW{x:bB}{c:aL}{lo:Nat}:∀(names:List (bB×ej))(h:ck)(acc:List (bB×aL)),lo<=h.objs.size->(dS h.objs.size names acc).lookup x=aa c->
  ((x,cz)∉names/\acc.lookup x=aa c)\/((x,cz)∈names/\lo<=c/\(np h names).IsCell c ag)
 |[],h,acc,_,e=>.inl #[by simp,e]
 |(name,kind)::r,h,acc,hlo,e=>by
  unfold dS at e;unfold np;split at e
  .rename_i hk
   rw[T9 hk];have hk:=eM hk;subst hk;rw[<-cT h {cls:=.type "cell",data:=.cell ag}]at e;rcases WW r (h.push {cls:=.type "cell",data:=.cell ag}) ((name,h.objs.size)::acc) (cp hlo<|by rw[cT];exact gd _) e with⟨e1,e2⟩|⟨e1,e2⟩
   .rw[bL]at e2
    cases hb:x == name with
    |true=>
     rw[hb]at e2;cases e2;have:=eM hb;subst this;exact .inr #[al,hlo,_,kR _ _ _ _<|aG _ rfl,rfl]
    |false=>
     rw[hb]at e2;refine .inl #[λhm=>?_,e2]
     rcases aB.mp hm with q|q
     .cases q
      rw[beq_self_eq_true]at hb;cases hb
     .exact e1 q
   .exact .inr #[aj _ e1,e2]
  .rename_i hk
   rw[T8 hk];rcases WW r _ _ hlo e with⟨e1,e2⟩|⟨e1,e2⟩
   .refine .inl #[λhm=>?_,e2]
    rcases aB.mp hm with q|q
    .cases q
     exact hk rfl
    .exact e1 q
   .exact .inr #[aj _ e1,e2]
theorem Ve:∀(names:List (bB×ej))(n:Nat)(acc:List (bB×aL)),(∀x c,acc.lookup x=aa c->c<n)->(∀x y c,acc.lookup x=aa c->acc.lookup y=aa c->x=y)->
  ∀x y c,(dS n names acc).lookup x=aa c->(dS n names acc).lookup y=aa c->x=y
 |[],n,acc,_,h=>h
 |(name,kind)::r,n,acc,hl,h=>by
  unfold dS;split
  .refine Ve r (n+1) _ (λx c e=>?_) λx y c e1 e2=>?_
   .rw[bL]at e
    split at e
    .cases e;exact kr _
    .exact cP<|hl x c e
   .rw[bL]at e1 e2
    cases p:x == name<;>cases q:y == name<;>rw[p]at e1<;>rw[q]at e2
    .exact h x y c e1 e2
    .cases e2;exact T7 (hl x _ e1)<|br _
    .cases e1;exact T7 (hl y _ e2)<|br _
    .rw[eM p,eM q]
  .exact Ve r n acc hl h
theorem W0{x:bB}:∀(names:List (bB×ej))(n:Nat)(acc:List (bB×aL)),(∃c,acc.lookup x=aa c)\/(x,cz)∈names->∃c,(dS n names acc).lookup x=aa c
 |[],n,acc,h=>h.elim (λh=>h) λh=>by cases h
 |(name,kind)::r,n,acc,h=>by
  unfold dS;split
  .refine W0 r _ _ ?_
   cases hb:x == name with
   |true=>exact .inl #[n,by rw[bL,hb]]
   |false=>
    rcases h with⟨c,e⟩|h
    .exact .inl #[c,by rw[bL,hb];exact e]
    .rcases aB.mp h with q|q
     .cases q
      rw[beq_self_eq_true]at hb;cases hb
     .exact .inr q
  .rename_i hk
   refine W0 r _ _<|h.imp (λh=>h) λh=>?_
   rcases aB.mp h with q|q
   .cases q
    exact T7 rfl hk
   .exact q
def zC{M:Model}{A:cZ}{E:ap->ax->Prop}{s:ax}{scope:eL}{g:aL}{cl:List (bB×aL)}{q:bB}{env:Env}{Q:Env->ax->Prop}
  (h:Q (newEnv scope s.heap.objs.size g (dS (s.heap.objs.size+1) scope.names cl) q ag .none (aa env) md) {s with heap:=np (s.heap.push {cls:=.type "dict",data:=.dict #[]}) scope.names}) :
  aX M A (newFunctionEnv scope g cl [] q ag .none<|aa env) Q E s:=by
 simp only[newFunctionEnv,mm,if_true];refine ab<|nH ?_;refine ab<|wpAny_layCells _ (λname kind cells=>by cases hkc:kind == cz<;>simp[hkc]) _ _ _ _ ?_
 rw[show({s with heap:=s.heap.push {cls:=.type "dict",data:=.dict #[]}}:ax).heap.objs.size=s.heap.objs.size+1 from cT ..]
 exact aq h
noncomputable def cxC(X:Cx)(N:List bB)(scope:eL)(cl:List (bB×aL))(s:ax)(H:Hp)(fp:List aL):Cx:=
 {X with N:=N,s₀:=s,H₀:=H,env:=compEnvC scope cl s.heap.objs.size X.env,outer:=X.stack,ex:=fp,fn:=λx=>scope.names.any λy=>y.2 == .cell&&y.1 == x,pn:=[],xe:=λ_ _=>False}
def PTs(X:Cx)(ifs:List Expr)(t:TT):Prop:=
 ∀(pq:List (aL×fw))(s:ax)(Z:L2.St)(H:Hp)(Q:Bool->Hp->Prop),Inv X pq Z H s->t Z H Q->
  aX (aS X.prog X.w) X.A (lm ifs ai λc r=>if r=ai then do let ok <-isTrue c X.env (cD c X.env);c6 (nR ok)else c6 (nR r)) (TP X pq Z Q) X.xe s
def Zaa :PTs X [] (λZ H Q=>Q ai H):=λpq s Z H Q I h=>wpAny_tests_nil #[H,I,h]
def jX(h:PT X c t):PTs X [c] t:=λpq s Z H Q I hq=>wpAny_tests_one<|h pq s Z H Q I hq
structure CompScope(sc:eL)(N0:List bB)(scope:eL)(N:List bB)(cap:List Nat)(nl:Nat):Prop where
 kind:scope.kind=.function
 cell:∀y∈scope.names,y.2=.cell->(y.1,bE)∉scope.names
 names:∀y∈scope.names,y.2=.local->scope.names.lookup y.1=aa .local
 free:∀y∈scope.names,y.2=.free->sc.names.lookup y.1=aa .cell\/sc.names.lookup y.1=aa .free
 apart:∀y∈scope.names,y.2=.free->scope.names.lookup y.1≠aa .local
 len:N.length=nl+cap.length
 cap:∀p∈cap.zipIdx,N[nl+p.2]?=N0[p.1]?/\(N0[p.1]?).map (λx=>af<|(x,bE)∈scope.names)=aa ai
def CompScope.capt{sc:eL}{N0:List bB}{scope:eL}{N:List bB}{cap:List Nat}{nl:Nat}(h:CompScope sc N0 scope N cap nl)(i j:Nat)(e:cap[i]?=aa j):∃x,N[nl+i]?=aa x/\N0[j]?=aa x/\(x,bE)∈scope.names:=by
 have hm:(j,i)∈cap.zipIdx:=by
  rw[List.mem_zipIdx_iff_getElem?];exact e
 obtain⟨h1,h2⟩:=h.cap (j,i) hm;cases q:N0[j]? with
 |none=>rw[q]at h2;cases h2
 |some x=>
  rw[q]at h1 h2
  exact#[x,h1,rfl,T6<|ak h2]
noncomputable def YC(cap:List Nat)(nl:Nat)(Z:L2.St):L2.St:=aD nl ag++cap.map λi=>(Z[i]?).join
section
variable{X:Cx}{pq:List (aL×fw)}{Z:L2.St}{H:Hp}{s:ax}
theorem WG{env:Env}{x:bB}:∀{names:List (bB×ej)},(names.map λ(n,k)=>if(k == bE&&env.scope.kind == .function&&env.kindOf n == aa .cell)then(n,cz)else(n,k)).lookup x=aa .cell\/
  (names.map λ(n,k)=>if(k == bE&&env.scope.kind == .function&&env.kindOf n == aa .cell)then(n,cz)else(n,k)).lookup x=aa .free->(x,bE)∈names\/(x,cz)∈names
 |[],h=>by rcases h with h|h<;>cases h
 |(n,k)::r,h=>by
  have ih:=@WG env x r;rw[a9]at h;by_cases e:x=n
  .subst e
   by_cases c:(k == bE&&env.scope.kind == .function&&env.kindOf x == aa .cell)=ai
   .have:=(aA _ _).mp c
    rw[eM ((aA _ _).mp this.1).1];exact .inl al
   .simp only[T8 c,bL,beq_self_eq_true,Option.some.injEq]at h
    rcases h with h|h
    .rw[h];exact .inr al
    .rw[h];exact .inl al
  .have hb:(x == n)=am:=beq_eq_false_iff_ne.mpr e
   refine(ih ?_).imp (aj _)<|aj _;by_cases c:(k == bE&&env.scope.kind == .function&&env.kindOf n == aa .cell)=ai
   .simpa only[T9 c,bL,hb]using h
   .simpa only[T8 c,bL,hb]using h
theorem vd{N:List bB}{scope:eL}{cl:List (bB×aL)}{fp:List aL}{cap:List Nat}{nl:Nat}{h1:ck}{tk:Nat}(I:Inv X pq Z H s)(CS:CompScope X.env.scope X.N scope N cap nl)(hN:X.N.Nodup)
  (c1:∀x c,cl.lookup x=aa c->((x,cz)∉scope.names/\X.env.cells.lookup x=aa c)\/((x,cz)∈scope.names/\s.heap.objs.size<=c/\h1.IsCell c ag))(c2:∀x,(x,bE)∈scope.names\/(x,cz)∈scope.names->∃c,cl.lookup x=aa c)
  (c3:∀x y c,cl.lookup x=aa c->cl.lookup y=aa c->x=y)(hf:∀b∈fp,WL X pq H b)(hb:∀b∈fp,∃o,s.heap.get? b=aa o)(hns:∃m,h1.Ns s.heap.objs.size m)(hk:∀b o,s.heap.get? b=aa o->h1.get? b=aa o) :
  Inv (cxC X N scope cl s H fp) [] (YC cap nl Z) H {s with heap:=h1,toks:=tk}:=by
 have bne:∀b∈fp,b≠s.heap.objs.size:=λb hb' e=>by
  obtain⟨o,ho⟩:=hb b hb';exact T7 (aE ho) (by rw[e];exact br _)
 refine#[#[I.ok.mod,CS.kind,I.ok.glob,I.ok.blt,aN _,c3,λx hx=>c2 x<|WG (env:=X.env) hx,λx c h e=>?_,I.ok.hd,I.ok.frames,.inl rfl,
  λb hb'=>#[bne b hb',λx c e=>(c1 x c e).elim (λq=>(hf b hb').2.2.2.2.1 x c q.2) λq z=>?_],I.bs,cp I.ok.bsz I.sz,λb o e hb'=>?_,λb hb' hm=>?_,I.stack,I.stkFree],
  rfl,I.bare,Un.kept hk,?_,λx c e=>?_,I.hok.fresh<|aN _,λx c e=>(c1 x c e).elim (λq=>I.freeC x c q.2) λq=>I.hok.fresh q.2.1,λp hp=>T7 hp (by simp[cxC]),I.hok.kept hk,?_]
 .rcases c1 x c e with q|q
  .obtain⟨y,hy,e⟩:=fG.mp h
   obtain⟨e1,e2⟩:=(aA _ _).mp e;obtain⟨y,k⟩:=y;have a1:k=.cell:=eM e1;have a2:y=x:=eM e2;subst a1 a2;exact T7 hy q.1
  .exact q.2.1
 .obtain⟨o,ho⟩:=hb b hb'
  have:=aE ho;rw[<-z]at this;exact T7 q.2.1<|Nat.not_le.mpr this
 .rcases(hf b hb').2.2.2.1 with z|z
  .exact I.ok.noex b o e z
  .exact T7 (aE e)<|Nat.not_lt.mpr<|cp I.ok.bsz z
 .rcases aB.mp (I.stkSub b hm)with e|e
  .exact(hf b hb').2.1 e
  .exact(hf b hb').2.2.1 e
 .obtain⟨m1,hm1⟩:=hns
  refine#[m1,hm1,λi x v e1 e2 e3=>?_]
  obtain⟨m,hm,hl⟩:=I.loc;have hi:nl<=i:=by
   by_cases hi:nl<=i
   .exact hi
   .have z:(YC cap nl Z)[i]?=aa ag:=by
     unfold YC;rw[bI (by simp;lia),cw,T9 (by lia)]
    rw[z]at e2;cases e2
  have e2':(cap.map λi=>(Z[i]?).join)[i-nl]?=aa (aa v):=by
   have:(YC cap nl Z)[i]?=aa (aa v):=e2;unfold YC at this
   rwa [bq (by simp;exact hi),bR]at this
  rw[aJ]at e2';cases hj:cap[i-nl]? with
  |none=>rw[hj]at e2';cases e2'
  |some j=>
   rw[hj]at e2';have hv:Z[j]?=aa (aa v):=by
    have:(Z[j]?).join=aa v:=ak e2';cases q:Z[j]? with
    |none=>rw[q]at this;cases this
    |some o=>rw[q]at this;cases o with|none=>cases this|some w=>cases this;rfl
   obtain⟨x',n1,n2,fr⟩:=CS.capt _ _ hj;have ex:x'=x:=by
    have:N[nl+(i-nl)]?=aa x:=by rw[show nl+(i-nl)=i by lia];exact e1
    rw[n1]at this;exact ak this
   subst ex;have kd:=CS.free _ fr rfl;have vis:Vis X.env.scope x':=by
    rcases kd with z|z
    .exact .inr<|.inl z
    .exact .inr<|.inr z
   obtain⟨u,r,lk⟩:=hl j x' v n2 hv vis;refine#[u,r,?_];rcases lk with⟨k,_⟩|⟨k,c,ec,hc⟩
   .have k':X.env.scope.names.lookup x'=aa .local:=k
    rcases kd with z|z<;>(rw[z]at k';cases k')
   .obtain⟨c',ec'⟩:=c2 x' (.inl fr)
    have ecc:c'=c:=by
     have:=(c1 x' c' ec').elim (λq=>q.2) λq=>T7 fr<|CS.cell _ q.1 rfl
     rw[ec]at this;exact(ak this).symm
    subst ecc;have vis2:Vis (relabel scope X.env) x':=e3;refine .inr #[?_,c',ec',?_]
    .rcases vis2 with z|z|z
     .have z':(scope.names.map λ(n,k)=>if(k == bE&&X.env.scope.kind == .function&&X.env.kindOf n == aa .cell)then(n,cz)else(n,k)).lookup x'=aa .local:=z
      exfalso
      have:∀(names:List (bB×ej)),(∀y∈names,y.2=ej.local->y.1≠x')->(names.map λ(n,k)=>if(k == bE&&X.env.scope.kind == .function&&X.env.kindOf n == aa .cell)then(n,cz)else(n,k)).lookup x'≠aa .local:=by
       intro names
       induction names with
       |nil=>intro _ h;cases h
       |cons y r ih=>
        obtain⟨n,k⟩:=y;intro hy h;rw[a9]at h;by_cases e:x'=n
        .subst e
         by_cases c:(k == bE&&X.env.scope.kind == .function&&X.env.kindOf x' == aa .cell)=ai
         .simp only[T9 c,bL,beq_self_eq_true]at h;cases h
         .simp only[T8 c,bL,beq_self_eq_true]at h
          exact hy (x',k) al (ak h) rfl
        .have hb:(x' == n)=am:=beq_eq_false_iff_ne.mpr e
         refine ih (λy hy'=>hy y<|aj _ hy') ?_
         by_cases c:(k == bE&&X.env.scope.kind == .function&&X.env.kindOf n == aa .cell)=ai
         .simp only[T9 c,bL,hb]at h;exact h
         .simp only[T8 c,bL,hb]at h;exact h
      refine this scope.names (λy hy hl e=>?_) z'
      have l1:=CS.names y hy hl;rw[e]at l1;exact CS.apart (x',.free) fr rfl l1
     .exact .inl z
     .exact .inr z
    .obtain⟨o,ho,hd⟩:=hc
     exact#[o,hk c' o ho,hd]
 .rcases c1 x c e with q|q
  .obtain⟨v,o,ho,hd⟩:=I.cell x c q.2
   exact#[v,o,hk c o ho,hd]
  .exact#[ag,q.2.2]
 .unfold YC
  show _=N.length;rw[ba,bR,aw,CS.len]
end
abbrev TEm:=L2.St->Hp->(L2.St->Hp->Prop)->Prop
def Gg(X:Cx)(act:nP Fin->nP Fin)(te:TEm):Prop:=
 ∀(pq:List (aL×fw))(s:ax)(Z:L2.St)(H:Hp)(Q:L2.St->Hp->Prop)(k:nP Fin)(QF:Fin->ax->Prop)(EE:ap->ax->Prop),Inv X pq Z H s->te Z H Q->(∀s' σ' H',Inv X pq σ' H' s'->Q σ' H'->aX (aS X.prog X.w) X.A k QF EE s')->
  aX (aS X.prog X.w) X.A (act k) QF EE s
noncomputable def Uv(ipos:gW)(tg:Expr)(ifs:List Expr)(act:nP Fin->nP Fin)(it:ap)(env:Env)(c:Code):nP Fin:=do
 kB ipos
 match <-iX it with
 |none=>c6<|.done .next
 |some v=>
  kO tg it v
  assign tg env v
  let mut ok:=ai
  for c in ifs do
   if ok then ok <-isTrue c env (cD c env)
  if ok then act (oP c)else oP c
def yX(J:It)(g:TG)(tt:TT)(te:TEm)(W:Nat->Nat->L2.St->Hp->Prop)(Q:L2.St->Hp->Prop):Prop:=∀i m σ' H',W i m σ' H'->
  (J.stop i H'/\Q σ' H')\/(J.go i H'/\∀x H'',J.yld i H' x H''->g x σ' H'' λσ2 H2=>tt σ2 H2 λok H3=>if ok=ai then te σ2 H3 λσ3 H4=>∃m',m'<m/\W (i+1) m' σ3 H4 else ∃m',m'<m/\W (i+1) m' σ2 H3)
def Qb{tn:Nat->ck->Prop}{Rr:oV->ax->Prop}{Q:L2.St->Hp->Prop}{W:Nat->Nat->L2.St->Hp->Prop}
  (hc:Y.calm=ai)(hx:∀a b,Y.xe a b->False)(hT:ox e depth (.ref it) acc Y.env=Uv ipos tg ifs act (.ref it) Y.env (.compLoop e depth (.ref it) acc Y.env))(hquiet:(oO e depth (.ref it) acc Y.env).isFrame=am)
  (hq:(oO e depth (.ref it) acc Y.env).quiet=ai)(T:Turn Y.prog Y.w Y.K tg J fp it tn)(hg:PG Y tg g)(ht:PTs Y ifs tt)(he:Gg Y act te)(stat:∀{H':Hp},(∀b∈fp,H' b=ag)->∀b∈fp,WL Y pq H' b)
  (turn:yX J g tt te W Q)(fin:∀Z H s,Inv Y pq Z H s->Q Z H->Rr (.ok .next) s)
  (I0:Inv Y pq Z H s)(st0:tn 0 s.heap)(fr0:∀b∈fp,H b=ag)(w0:W 0 m Z H)(hden:(aS Y.prog Y.w).den (.compLoop e depth (.ref it) acc Y.env)=(ox e depth (.ref it) acc Y.env).onRaise (λx=>do noteFrame x Y.env;theTreesLotGoes x))
  (hund:Y.A.under (.compLoop e depth (.ref it) acc Y.env)=Y.A):fg (aS Y.prog Y.w) Y.A (.compLoop e depth (.ref it) acc Y.env) Rr s:=by
 refine codeAny_loop hq (λn s'=>∃i σ' H',Inv Y pq σ' H' s'/\tn i s'.heap/\(∀b∈fp,H' b=ag)/\W i n σ' H') (λn s5 hI=>?_) m #[0,Z,H,I0,st0,fr0,w0]
 rw[hund,hden,hT];refine wpAny_noted ?_;obtain⟨i,σ5,H5,I5,st5,fr5,w5⟩:=hI;refine ab<|dP<|ab ?_;rcases turn i n σ5 H5 w5 with⟨stop,qn⟩|⟨go,step⟩
 .refine cJ (T.done Y rfl rfl rfl hc i pq s5 σ5 H5 (λ_ _=>False) I5 (stat fr5) st5 stop) (λr s6 #[hr,I6]=>?_) λ_ _ h'=>h'.elim
  subst hr;exact aq<|fin σ5 H5 s6 I6 qn
 .refine cJ (T.item Y rfl rfl rfl hc i pq s5 σ5 H5 (λ_ _=>False) I5 (stat fr5) st5 go) (λr s6 #[u,hr,h6]=>?_) λ_ _ h'=>h'.elim
  subst hr;refine ab<|cJ h6 (λ_ s7 #[x,H7,I7,r7,y7,st7,fr7]=>?_) λ_ _ h'=>h'.elim
  have I7':=I7.pinned (stat fr7)<|T.obj _ _ st7;have back:∀{σ8:L2.St}{H8:Hp}{s8:ax}{m':Nat},Inv Y (pq++V5 fp s7.heap) σ8 H8 s8->m'<n->W (i+1) m' σ8 H8->∃m,m<n/\∃i σ' H',Inv Y pq σ' H' s8/\tn i s8.heap/\(∀b∈fp,H' b=ag)/\W i m σ' H':=λ{σ8 H8 s8 m'} I8 hm w8=>by
   refine#[m',hm,i+1,σ8,H8,I8.unpinned,T.keep _ _ _ st7 λb hb' o e=>(I8.pin (b,o)<|bC _<|bC _<|Y6 hb' e).1,λb hb'=>?_,w8]
   obtain⟨o,e,d⟩:=T.obj _ _ st7 b hb';exact(I8.pin (b,o)<|bC _<|bC _<|Y6 hb' e).2.1
  refine ab<|cJ (hg _ s7 σ5 H7 x u _ I7' r7<|step x H7 y7) (λ_ s8 #[σ8,H8,I8,q8]=>?_) λ_ _ h'=>(hx _ _ h').elim
  refine ab<|cJ (ht _ s8 σ8 H8 _ I8 q8) (λok s9 #[H9,I9,q9]=>?_) λ_ _ h'=>(hx _ _ h').elim
  cases ok with
  |false=>
   rw[T8 aM]at q9;obtain⟨m',hm,w9⟩:=q9;exact aq #[rfl,back I9 hm w9]
  |true=>
   rw[T9 rfl]at q9;exact he _ s9 σ8 H9 _ _ _ _ I9 q9<|by rintro s10 σ10 H10 I10 ⟨m',hm,w10⟩;exact aq #[rfl,back I10 hm w10]
def Um{Y:Cx}{elt:Expr}{te:TE}{D:aL}(hx:∀a b,Y.xe a b->False)(he:PE Y elt te):Gg Y (λk=>(do let _ <-call (.builtin "list.append") [.ref D,<-cD elt Y.env]:nP Unit) >>= λ_=>k) (λZ H Q=>te Z H λy H4=>∃ys,H4 D=aa (.lst ys)/\ys.length<bi/\Q Z (upd H4 D<|.lst<|ys++[y])):=by
 intro pq s Z H Q k QF EE I h hk;refine ab ?_;refine ab<|cJ (he pq s Z H _ I h) (λxv s10 #[y,H10,I10,r10,ys,hDy,hz,q]=>?_) λ_ _ h'=>(hx _ _ h').elim
 refine ab<|cJ (Qm pq s10 Z H10 (.ref D) [y] (.ref D) [xv] (λv H'=>v=.non/\H'=upd H10 D (.lst<|ys++[y])) I10 rfl (.cons r10 .nil) #[D,ys,y,rfl,rfl,hDy,hz,rfl,rfl]) (λ_ s11 #[v11,H11,I11,_,_,eH]=>?_) λ_ _ h'=>(hx _ _ h').elim
 subst eH;exact aq<|hk _ _ _ I11 q
def zK(wi:TI)(g:TG)(tt:TT)(te:aL->TEm)(cap:List Nat)(nl:Nat):TE:=λZ H Q=>wi Z H λJ H1=>∀D,H1 D=ag->∃W:Nat->Nat->L2.St->Hp->Prop,(∃m,W 0 m (YC cap nl Z)<|upd H1 D<|.lst [])/\yX J g tt (te D) W λ_ H'=>Q (.ref D) H'
def vR(wi:TI)(g:TG)(tt:TT)(te:TE)(cap:List Nat)(nl:Nat):TE:=λZ H Q=>wi Z H λJ H1=>∀D,H1 D=ag->∃W:Nat->Nat->L2.St->Hp->Prop,(∃m,W 0 m (YC cap nl Z)<|upd H1 D<|.lst [])/\∀i m σ' H',W i m σ' H'->
  (J.stop i H'/\Q (.ref D) H')\/(J.go i H'/\∀x H'',J.yld i H' x H''->g x σ' H'' λσ2 H2=>tt σ2 H2 λok H3=>if ok=ai then te σ2 H3 λy H4=>∃ys,H4 D=aa (.lst ys)/\ys.length<bi/\∃m',m'<m/\W (i+1) m' σ2 (upd H4 D<|.lst<|ys++[y])else ∃m',m'<m/\W (i+1) m' σ2 H3)
structure Gone(X:Cx)(pq:List (aL×fw))(H:Hp)(s:ax)(C:aL):Prop where
 free:H C=ag
 ns:∃m,s.heap.Ns C m
 loc:C≠X.env.locals
 big:X.s₀.heap.objs.size<=C
 cel:∀x c,X.env.cells.lookup x=aa c->c≠C
 pin:∀p∈X.pn++pq,p.1≠C
def WU{tg iter elt:Expr}{ifs:List Expr}{scope:eL}{pos fpos:gW}{N:List bB}{cap:List Nat}{nl:Nat}{wi:TI}{g:TG}{tt:TT}{te:aL->TEm}{act:ap->Env->nP Fin->nP Fin}{rest:List Comprehension}{pq:List (aL×fw)}{s:ax}{Z:L2.St}{H:Hp}{Q:VK}{use:Option (ap->nP Unit)}{QQ:ap->ax->Prop}(hc:X.calm=ai)(hN:X.N.Nodup)(CS:CompScope X.env.scope X.N scope N cap nl)(hi:PI X tg iter wi)
  (hT:∀it acc env,ox (.ListComp elt (#[tg,iter,ifs,0]::rest) scope pos) 0 it acc env=Uv iter.pos tg ifs (act acc env) it env (.compLoop (.ListComp elt (#[tg,iter,ifs,0]::rest) scope pos) 0 it acc env))
  (hb:∀cl s H fp,PG (cxC X N scope cl s H fp) tg g/\PTs (cxC X N scope cl s H fp) ifs tt/\∀D,Gg (cxC X N scope cl s H fp) (act (.ref D) (cxC X N scope cl s H fp).env)<|te D)
  (hs:∀x,bJ iter X.env x=c6 x)(I:Inv X pq Z H s)(h:zK wi g tt te cap nl Z H Q)
  (fin:∀D C H5 s6,Inv X pq Z H5 s6->Gone X pq H5 s6 C->Q (.ref D) H5->compPost (aS X.prog X.w) X.A X.xe use QQ (.ref D) C (.ok .next) s6) :
  aX (aS X.prog X.w) X.A (comprehension (.ListComp elt (#[tg,iter,ifs,0]::rest) scope pos) scope X.env fpos (newList []) am (cD iter X.env) use) QQ X.xe s:=by
 obtain⟨cl,hcl,c1,c2⟩:=zf (scope:=scope) (env:=X.env) λy hy hf=>I.ok.has y.1<|CS.free y hy hf
 refine wpAny_comprehension_free (use:=use) rfl hs hcl CS.kind CS.names ?_;refine thn (hi pq s Z H _ I h) λv s1 h1=>thn h1 λitv s2 h2=>?_
 obtain⟨it,fp,tn,J,H2,rfl,I2,T,st2,f2,q2⟩:=h2;obtain⟨W,⟨m0,w0⟩,turn⟩:=q2 s2.heap.objs.size<|I2.hok.fresh<|aN _;refine bQ<|zC ?_
 dsimp only
 have I3:Inv X pq Z (upd H2 s2.heap.objs.size<|.lst []) {s2 with heap:=s2.heap.push {cls:=.type "list",dict:=ag,data:=.seq ([]:List ap).toArray},toks:=s2.toks}:=
  I2.laid (λb u e=>au _ e) (aN _) #[dz _,[],0,.nil,aG _ rfl]
 generalize hD:s2.heap.objs.size=D at I3 w0 turn ⊢;generalize hs3:({s2 with heap:=s2.heap.push {cls:=.type "list",dict:=ag,data:=.seq ([]:List ap).toArray},toks:=s2.toks}:ax)=s3 at I3
 have hh3:s2.heap.push {cls:=.type "list",dict:=ag,data:=.seq ([]:List ap).toArray}=s3.heap:=by rw[<-hs3]
 rw[hh3];have old:∀b o,s2.heap.get? b=aa o->s3.heap.get? b=aa o:=λb o e=>by rw[<-hh3];exact au _ e
 have neD:∀b∈fp,b≠D:=λb hb' e=>by
  obtain⟨o,ho,_⟩:=T.obj _ _ st2 b hb';exact T7 (aE ho) (by rw[e,<-hD];exact br _)
 have f3:∀b∈fp,WL X pq (upd H2 D<|.lst []) b:=λb hb'=>#[by rw[Zl<|neD b hb'];exact(f2 b hb').1,(f2 b hb').2]
 generalize hh4:np (s3.heap.push {cls:=.type "dict",data:=.dict #[]}) scope.names=h₁;have keep4:∀b o,s3.heap.get? b=aa o->h₁.get? b=aa o:=λb o e=>by rw[<-hh4];exact kR _ _ b o<|au _ e
 have hns₁:∃m,h₁.Ns s3.heap.objs.size m:=#[_,by rw[<-hh4];exact(ck.Ns.new s3.heap<|.type "dict").keeps<|kR _ _]
 have lt3:∀x c,cl.lookup x=aa c->c<s3.heap.objs.size+1:=λx c e=>by
  obtain⟨v,q⟩:=I3.cell x c<|c1 x c e;exact cP q.lt
 have c3:=Ve scope.names _ cl lt3 λx y c h1 h2=>I.ok.inj x y c (c1 x c h1)<|c1 y c h2
 have c2':∀x,(x,bE)∈scope.names\/(x,cz)∈scope.names->∃c,(dS (s3.heap.objs.size+1) scope.names cl).lookup x=aa c:=λx hx=>W0 _ _ _<|hx.imp (c2 x) λh=>h
 have c1':∀x c,(dS (s3.heap.objs.size+1) scope.names cl).lookup x=aa c->((x,cz)∉scope.names/\X.env.cells.lookup x=aa c)\/((x,cz)∈scope.names/\s3.heap.objs.size<=c/\h₁.IsCell c ag):=λx c e=>by
  rw[<-cT s3.heap {cls:=.type "dict",data:=.dict #[]}]at e;refine(WW (lo:=s3.heap.objs.size) _ _ _ (by rw[cT];exact gd _) e).imp (λq=>#[q.1,c1 x c q.2]) λq=>?_
  rw[hh4]at q;exact q
 generalize dS (s3.heap.objs.size+1) scope.names cl=cl at c1' c2' c3;have I4:=vd (tk:=s2.toks) I3 CS hN c1' c2' c3 f3 (λb hb'=>let #[o,ho,_]:=T.obj _ _ st2 b hb';#[o,old b o ho]) hns₁ keep4
 have e4:({s3 with heap:=h₁,toks:=s2.toks}:ax)={s2 with heap:=h₁,toks:=s2.toks}:=by rw[<-hs3]
 rw[e4]at I4;obtain⟨hg,ht,he⟩:=hb cl s3 (upd H2 D<|.lst []) fp;generalize hY:cxC X N scope cl s3 (upd H2 D<|.lst []) fp=Y at I4 hg ht he;have yP:Y.prog=X.prog:=by rw[<-hY];rfl
 have stat:∀{H':Hp},(∀b∈fp,H' b=ag)->∀b∈fp,WL Y [] H' b:=λhn b hb'=>by
  subst hY;refine#[hn b hb',λe=>?_,λhm=>?_,.inl hb',λx c e=>(c1' x c e).elim (λq=>(f3 b hb').2.2.2.2.1 x c q.2) λq z=>?_,λp hp=>T7 hp (by simp[cxC])]
  .obtain⟨o,ho,_⟩:=T.obj _ _ st2 b hb'
   have:=aE<|old b o ho;rw[e]at this;exact T7 this<|br _
  .rcases aB.mp (I3.stkSub b hm)with e|e
   .exact(f3 b hb').2.1 e
   .exact(f3 b hb').2.2.1 e
  .obtain⟨o,ho,_⟩:=T.obj _ _ st2 b hb'
   have:=aE<|old b o ho;rw[<-z]at this;exact T7 q.2.1<|Nat.not_le.mpr this
 subst hY
 let Y:=cxC X N scope cl s3 (upd H2 D<|.lst []) fp
 have st4:tn 0 h₁:=T.keep _ _ _ st2 λb hb' o e=>keep4 b o<|old b o e
 have fr4:∀b∈fp,upd H2 D (HO.lst []) b=ag:=λb hb'=>(f3 b hb').1
 have loop:fg (aS X.prog X.w) X.A (.compLoop (.ListComp elt (#[tg,iter,ifs,0]::rest) scope pos) 0 (.ref it) (.ref D)<|compEnvC scope cl s3.heap.objs.size X.env)
   (compPost (aS X.prog X.w) X.A X.xe use QQ (.ref D) s3.heap.objs.size) {s2 with heap:=h₁,toks:=s2.toks}:=by
  refine Qb (Y:=cxC X N scope cl s3 (upd H2 D<|.lst []) fp) (pq:=[]) (W:=W) (Q:=λ_ H'=>Q (.ref D) H') hc (λ_ _ z=>z) (hT _ _ _) rfl rfl T hg ht (he D) stat turn (λσ5 H5 s6 I6 qn=>?_) I4 st4 fr4 w0 rfl rfl
  obtain⟨m6,hn6,_⟩:=I6.loc;have u:=I6.base;have IX:Inv X pq Z H5 s6:=Inv.call' (s':=s6) (ch:=fp) I3 I6.os #[u.keep,u.slot,u.free,u.there,u.tups,u.frzs,u.tbls] I6.hok I6.bare λb hb'=>#[(f3 b hb').2.2.2.1,(f3 b hb').2.1,(f3 b hb').2.2.2.2.1,λp hp e=>(f3 b hb').2.2.2.2.2 p hp e]
  refine fin D s3.heap.objs.size H5 s6 IX #[I6.free,#[m6,hn6],Ne.symm<|bn I3.lt,I3.sz,λx c e z=>?_,λp hp z=>?_] qn
  .obtain⟨v,q⟩:=I3.cell x c e
   exact T7 q.lt (by rw[z];exact br _)
  .exact T7 (aE (I3.pin p hp).1) (by rw[z];exact br _)
 subst hs3;exact codeAny_compStart_list loop<|T.self _ 0 _ _ _ st4 loop
def Gone.inv(G:Gone X pq H s C)(I:Inv X pq Z H s)(hsb:dN C s.heap h'):Inv X pq Z H {s with heap:=h' }:=
 I.turned (t':=s.toks) (λb o hb e=>(hsb.2 b hb).trans e) G.free G.loc (.inr G.big) G.cel G.pin
def Zde(te:TE)(D:aL):TEm:=λZ H Q=>te Z H λy H4=>∃ys,H4 D=aa (.lst ys)/\ys.length<bi/\Q Z (upd H4 D<|.lst<|ys++[y])
def Zah(hc:X.calm=ai)(hN:X.N.Nodup)(CS:CompScope X.env.scope X.N scope N cap nl)(hi:PI X tg iter wi)
  (hb:∀cl s H fp,PG (cxC X N scope cl s H fp) tg g/\PTs (cxC X N scope cl s H fp) ifs tt/\PE (cxC X N scope cl s H fp) elt te)
  (hs:∀x,bJ iter X.env x=c6 x:=by intro _;rfl):PE X (.ListComp elt [#[tg,iter,ifs,0]] scope pos) (vR wi g tt te cap nl):=by
 intro pq s Z H Q I h;rw[eval_ListComp];refine WU (act:=λacc env k=>(do let _ <-call (.builtin "list.append") [acc,<-cD elt env]:nP Unit) >>= λ_=>k) hc hN CS hi (λ_ _ _=>rfl) (λcl s H fp=>#[(hb cl s H fp).1,(hb cl s H fp).2.1,λD=>Um (λ_ _ z=>z) (hb cl s H fp).2.2]) hs I h λD C H5 s6 I6 G q=>?_
 obtain⟨m6,hn6⟩:=G.ns;exact#[m6,hn6,λh' hsb=>#[.ref D,H5,G.inv I6 hsb,rfl,q]]
def qv(hc:X.calm=ai)(hN:X.N.Nodup)(CS:CompScope X.env.scope X.N scope N cap nl)(hi:PI X tg iter wi)
  (hb:∀cl s H fp,PG (cxC X N scope cl s H fp) tg g/\PTs (cxC X N scope cl s H fp) ifs tt/\PE (cxC X N scope cl s H fp) elt te)
  (hsw:fD (.ListComp elt [#[tg,iter,ifs,0]] scope pos) (aa<|.Name y py) spos.line X.env=c6 ai)
  (hy:X.N[i]?=aa y)(hx:L2.Loc X.env.scope y)(hf:X.fn y=ai\/X.env.scope.names.lookup y=aa .local)
  (hs:∀x,bJ iter X.env x=c6 x:=by intro _;rfl):PS X (.Assign [.Name y py] (.ListComp elt [#[tg,iter,ifs,0]] scope pos) spos) (λD Z H=>vR wi g tt te cap nl Z H λv H1=>D.nx (Z.set i<|aa v) H1):=by
 intro pq s Z H D I h;rw[kZ _ _ _ _ hsw];refine ab<|dP<|ab ?_;refine ab<|cJ (WU (Q:=λv H1=>D.nx (Z.set i<|aa v) H1) (act:=λacc env k=>(do let _ <-call (.builtin "list.append") [acc,<-cD elt env]:nP Unit) >>= λ_=>k) hc hN CS hi (λ_ _ _=>rfl) (λcl s H fp=>#[(hb cl s H fp).1,(hb cl s H fp).2.1,λD=>Um (λ_ _ z=>z) (hb cl s H fp).2.2]) hs I h λA C H5 s6 I6 G q=>?_) (λ_ s' hq=>aq<|aq hq) λ_ _ e=>e
 refine iR<|W8 (v:=V.ref A) I6 hN hy hx rfl (λs7 I7 #[a,hsb,ha]=>?_) hf
 have hCa:C≠a:=by
  rcases ha with e|e
  .rw[e];exact G.loc
  .exact Ne.symm<|G.cel y a e
 obtain⟨m6,hn6⟩:=G.ns;have G7:Gone X pq H5 s7 C:=#[G.free,#[m6,hn6.sameBut hsb hCa],G.loc,G.big,G.cel,G.pin];exact#[m6,hn6.sameBut hsb hCa,λh' hs'=>#[Z.set i<|aa<|.ref A,H5,G7.inv I7 hs',q]]
def zT(wi:TI)(g:TG)(tt:TT)(te:TEm):TEm:=λZ H Q=>wi Z H λJ H1=>∃W:Nat->Nat->L2.St->Hp->Prop,(∃m,W 0 m Z H1)/\yX J g tt te W Q
def yh(hc:Y.calm=ai)(hx:∀a b,Y.xe a b->False)(hi:PI Y t2 i2 wi)(hg:PG Y t2 g)(ht:PTs Y f2 tt)(he:Gg Y act te)
  (hs:∀x,bJ i2 Y.env x=c6 x)
  (hstart:∀(it:ap)(R:oV->ax->Prop)(s:ax),fg (aS Y.prog Y.w) Y.A (.compLoop (.ListComp elt gens scope pos) 1 it acc Y.env) R s->aX (aS Y.prog Y.w) Y.A (ip it) (λit' s'=>fg (aS Y.prog Y.w) Y.A (.compLoop (.ListComp elt gens scope pos) 1 it' acc Y.env) R s') (notedBy (aS Y.prog Y.w) Y.A Y.env λx s'=>R (.error x) s') s->fg (aS Y.prog Y.w) Y.A (.compStart (.ListComp elt gens scope pos) 1 it acc Y.env) R s)
  (hT:∀it,ox (.ListComp elt gens scope pos) 1 it acc Y.env=Uv i2.pos t2 f2 act it Y.env (.compLoop (.ListComp elt gens scope pos) 1 it acc Y.env)) :
  Gg Y (λk=>do let x <-cD i2 Y.env;kB i2.pos;let x <-bJ i2 Y.env x;let _ <-runOwn (.compStart (.ListComp elt gens scope pos) 1 (<-gO [x] (ip x)) acc Y.env) Y.env;k) (zT wi g tt te):=by
 intro pq s Z H Q k QF EE I h hk;refine ab<|cJ (hi pq s Z H _ I h) (λv s1 h1=>ab<|dP<|ab<|eT (hs v)<|ab<|bH<|cJ h1 (λitv s2 h2=>?_) λ_ _ z=>(hx _ _ z).elim) λ_ _ z=>(hx _ _ z).elim
 obtain⟨it,fp,tn,J,H2,rfl,I2,T,st2,f2',W,⟨m0,w0⟩,turn⟩:=h2;have stat:∀{H':Hp},(∀b∈fp,H' b=ag)->∀b∈fp,WL Y pq H' b:=λhn b hb=>#[hn b hb,(f2' b hb).2]
 have loop:fg (aS Y.prog Y.w) Y.A (.compLoop (.ListComp elt gens scope pos) 1 (.ref it) acc Y.env) (λr s'=>match r with|.ok f=>aX (aS Y.prog Y.w) Y.A k QF EE s'|.error x=>cameBackBy (aS Y.prog Y.w) Y.A Y.env EE x s') s2:=
  Qb hc hx (hT _) rfl rfl T hg ht he stat turn (λσ5 H5 s6 I6 qn=>hk s6 σ5 H5 I6 qn) I2 st2 (λb hb=>(f2' b hb).1) w0 rfl rfl
 exact ab<|wpAny_runOwn<|hstart _ _ _ loop<|T.self _ 0 _ _ _ st2 loop
def ZbN{R:oV->ax->Prop}
  (h0:fg (aS prog w) A (.compLoop (.ListComp elt [#[t1,i1,f1,0],#[t2,i2,f2,0]] scope pos) 1 it acc env) R s)
  (h:aX (aS prog w) A (ip it) (λit' s'=>fg (aS prog w) A (.compLoop (.ListComp elt [#[t1,i1,f1,0],#[t2,i2,f2,0]] scope pos) 1 it' acc env) R s') (notedBy (aS prog w) A env λx s'=>R (.error x) s') s) :
  fg (aS prog w) A (.compStart (.ListComp elt [#[t1,i1,f1,0],#[t2,i2,f2,0]] scope pos) 1 it acc env) R s:=by
 refine kS ?_;show aX _ _ ((compStart (.ListComp elt [#[t1,i1,f1,0],#[t2,i2,f2,0]] scope pos) 1 it acc env).onRaise λx=>do noteFrame x env;kB theWindowsPlace) _ _ s
 refine wpAny_notedAt ?_;refine ab<|eN<|wpAny_ite ?_;split
 .first|exact ab<|aq<|aq<|aR rfl h0|exact aq<|aR rfl h0
 .first|exact ab<|eI<|ab<|dP<|ab<|cJ h (λit' s' h'=>aq<|aR rfl h') λ_ _ x=>x|(refine ab<|eI ?_;exact ab<|dP<|ab<|cJ h (λit' s' h'=>aq<|aR rfl h') λ_ _ x=>x)
def wv(hc:X.calm=ai)(hN:X.N.Nodup)(CS:CompScope X.env.scope X.N scope N cap nl)(hi:PI X t1 i1 wi)
  (hb:∀cl s H fp,PG (cxC X N scope cl s H fp) t1 g1/\PTs (cxC X N scope cl s H fp) f1 tt1/\PI (cxC X N scope cl s H fp) t2 i2 wj/\PG (cxC X N scope cl s H fp) t2 g2/\PTs (cxC X N scope cl s H fp) f2 tt2/\PE (cxC X N scope cl s H fp) elt te)
  (hsw:fD (.ListComp elt [#[t1,i1,f1,0],#[t2,i2,f2,0]] scope pos) (aa<|.Name y py) spos.line X.env=c6 ai)
  (hy:X.N[i]?=aa y)(hx:L2.Loc X.env.scope y)(hf:X.fn y=ai\/X.env.scope.names.lookup y=aa .local)
  (hs:∀x,bJ i1 X.env x=c6 x:=by intro _;rfl)(hs2:∀env x,bJ i2 env x=c6 x:=by intro _ _;rfl) :
  PS X (.Assign [.Name y py] (.ListComp elt [#[t1,i1,f1,0],#[t2,i2,f2,0]] scope pos) spos) (λD Z H=>zK wi g1 tt1 (λD=>zT wj g2 tt2<|Zde te D) cap nl Z H λv H1=>D.nx (Z.set i<|aa v) H1):=by
 intro pq s Z H D I h;rw[kZ _ _ _ _ hsw];refine ab<|dP<|ab ?_;refine ab<|cJ (WU (act:=λacc env k=>do let x <-cD i2 env;kB i2.pos;let x <-bJ i2 env x;let _ <-runOwn (.compStart (.ListComp elt [#[t1,i1,f1,0],#[t2,i2,f2,0]] scope pos) 1 (<-gO [x] (ip x)) acc env) env;k) hc hN CS hi (λ_ _ _=>rfl) (λcl s H fp=>?_) hs I h λA C H5 s6 I6 G q=>?_) (λ_ s' hq=>aq<|aq hq) λ_ _ e=>e
 .obtain⟨a1,a2,a3,a4,a5,a6⟩:=hb cl s H fp
  exact#[a1,a2,λD=>yh hc (λ_ _ z=>z) a3 a4 a5 (Um (λ_ _ z=>z) a6) (λx=>hs2 _ x) (λit R s k1 k2=>ZbN k1 k2) λit=>rfl]
 refine iR<|W8 (v:=V.ref A) I6 hN hy hx rfl (λs7 I7 #[a,hsb,ha]=>?_) hf
 have hCa:C≠a:=by
  rcases ha with e|e
  .rw[e];exact G.loc
  .exact Ne.symm<|G.cel y a e
 obtain⟨m6,hn6⟩:=G.ns;have G7:Gone X pq H5 s7 C:=#[G.free,#[m6,hn6.sameBut hsb hCa],G.loc,G.big,G.cel,G.pin];exact#[m6,hn6.sameBut hsb hCa,λh' hs'=>#[Z.set i<|aa<|.ref A,H5,G7.inv I7 hs',q]]
open Ev (E Sm Fn Bop Cop Ty Bf Mf)
section
variable{X:Cx}{xw:Nat->Hp->Prop}{C:Calls}{e a b c tg it:Expr}{i j k:E}{pos p p' p2:gW}
structure CTs(X:Cx)(xw:Nat->Hp->Prop)(C:Calls)(ifs:List Expr)(is:List E):Prop where
 h:PTs X ifs (tB3 X xw<|Pv.pvt C is)
def PTs.imp{X:Cx}{e:List Expr}{t t':TT}(h:PTs X e t)(k:∀Z H Q,t' Z H Q->t Z H Q):PTs X e t':=λpq s Z H Q I q=>h pq s Z H Q I<|k Z H Q q
def ZaP:CTs X xw C [] []:=.mk <| PTs.imp Zaa<|by rintro Z H Q ⟨O,l,S,st,lr,h⟩;exact End.ok (h) st rfl
def Zan(Z:Lc)(S:Zt):Pv.pvt C [i] Z S=Pv.Wm C i Z S:=by
 show((Pv.pv C i Z S).bind λx S=>(Pv.po (Pv.Zn x) S).bind λb S=>if b then Pv.pvt C [] Z S else .ok am S)=(Pv.pv C i Z S).bind λx S=>Pv.po (Pv.Zn x) S
 congr 1
 funext x S
 cases Pv.Zn x with|none=>rfl|some b=>cases b<;>rfl
def ZaG(h:CT X xw C c i):CTs X xw C [c] [i]:=.mk <| PTs.imp (jX h.h)<|by rintro Z H Q ⟨O,l,S,st,lr,h⟩;exact #[O,l,S,st,lr,by rw[<-Zan];exact h]
def LocR.caught(lr:LocR O H l Z)(cap:List Nat)(nl:Nat):LocR O H (Pv.ZQ cap nl l) (YC cap nl Z):=by
 refine#[by unfold Pv.ZQ YC;simp,λn d e=>?_]
 unfold Pv.ZQ at e;by_cases hn:n<nl
 .rw[bI (by simp;exact hn),cw,T9 hn]at e
  cases e
 .rw[bq (by simp;omega),bR,aJ]at e
  unfold YC;rw[bq (by simp;omega),bR,aJ]
  cases q:cap[n-nl]? with
  |none=>rw[q]at e;cases e
  |some m=>
   rw[q]at e;have e':(l[m]?).join=aa d:=ak e;have:l[m]?=aa (aa d):=by
    cases z:l[m]? with
    |none=>rw[z]at e';cases e'
    |some o=>rw[z]at e';cases o with|none=>cases e'|some w=>cases e';rfl
   obtain⟨v,hv,r⟩:=lr.val m d this;exact#[v,by show aa ((Z[m]?).join)=_;rw[hv];rfl,r]
noncomputable def Mx.at(O:Mx)(A:aL):Mx:=#[O.K,O.n0,λa=>O.X a\/a=A,λa h=>.inl<|O.xz a h]
def Y8(O:Mx)(A:aL)(H H':Hp):Prop:=∀a o,a≠A->H a=aa o->H' a=aa o\/(O.n0=aa a/\∃xs,o=.lst xs)\/((∃ps,o=.tbl ps)/\∃ps,H' a=aa (.tbl ps))
def Y8.trans(f:Y8 O A H H1)(g:Y8 O A H1 H2):Y8 O A H H2:=λa o n h=>(f a o n h).elim (g a o n) λz=>z.elim (λz=>.inr<|.inl z)<|by
 rintro ⟨e,ps,h⟩;rcases g a _ n h with q|⟨_,xs,q⟩|⟨_,q⟩
 .exact .inr<|.inr #[e,ps,q]
 .cases q
 .exact .inr<|.inr #[e,q]
def Y8.of(f:Fut (O.at A) H ρ' H1):Y8 O A H H1:=λa o _ h=>f.keep a o h
structure CI(K:ao)(O:Mx)(A:aL)(acc:List D)(l:Lc)(Z:L2.St)(H:Hp)(S:Zt):Prop where
 st:St3 K (O.at A) S H
 lr:LocR (O.at A) H l Z
 ac:∃us,H A=aa (.lst us)/\Rq (O.at A) H acc us
section
variable{K:ao}{O:Mx}{A:aL}{acc:List D}{l l':Lc}{Z:L2.St}{H H':Hp}{S S':Zt}
def Y8.lat(f:Y8 O A H H')(ha:H A=aa (.lst us)):Lat (O.at A) H (O.at A) H':=#[rfl,rfl,λa o h x n _=>by
 by_cases c:a=A
 .subst c;rw[ha]at h;cases h;exact T7 (.inr rfl)<|x us rfl
 .rcases f a o c h with z|⟨z,xs,e⟩|⟨⟨ps,e⟩,_⟩
  .exact z
  .exact T7 (.inl<|O.xz a z)<|x xs e
  .exact T7 e<|n ps,λ_ _ x=>x]
theorem CI.mono(h:CI K O A acc l Z H S)(na:O.n0≠aa A)(f:Fut (O.at A) H ρ' H')(st:St3 K (O.at A) S' H'):CI K O A acc l Z H' S':=by
 obtain⟨us,e,r⟩:=h.ac;cases f.eq;exact#[st,h.lr.mono f,us,(f.keep A _ e).elim id λz=>z.elim (λz=>T7 z.1 na)<|by rintro ⟨⟨_,z⟩,_⟩;exact (by cases z),r.mono f]
def Zb3{Q:L2.St->Hp->Prop}(lr:LocR O H l Z)(r:Rep O H d v)(e:Pv.Zi t d l=aa l')(q:∀σ',LocR O H l' σ'->Q σ' H):tGU K t v Z H Q:=by
 have fill:∀{t:List Nat}{vs:List D}{us:List V}{l l':Lc}{Z:L2.St},LocR O H l Z->Rq O H vs us->Pv.YJ t vs l=aa l'->us.length=t.length/\LocR O H l' (Uq t us Z):=λ{t}=>by
  induction t with
  |nil=>intro vs us l l' Z h r e;cases vs with|nil=>rw[r];cases e;exact#[rfl,h]|cons _ _=>cases e
  |cons i t ih=>intro vs us l l' Z h r e;cases vs with
   |nil=>cases e
   |cons v vs=>
    obtain⟨d,ds,rfl,a,b⟩:=r;obtain⟨z,q⟩:=ih (h.set i a) b e;exact#[by rw[aK,aK,z],q]
 have gen:∀t:List Nat,(match Pv.u4 d with
   |some xs=>Pv.YJ t xs l
   |none=>ag)=aa l'->∃a xs,v=.ref a/\(SqT K H a xs\/H a=aa (.lst xs))/\xs.length=t.length/\Q (Uq t xs Z) H:=by
  intro t e;cases d with|tup vs=>obtain⟨p,ds,rfl,hp,rs⟩:=r.tup';obtain⟨z,y⟩:=fill lr rs e;exact#[p,ds,rfl,.inl<|SqT.of hp,z,q _ y]|lst vs=>obtain⟨p,ds,rfl,hp,_,rs⟩:=r.lst';obtain⟨z,y⟩:=fill lr rs e;exact#[p,ds,rfl,.inr hp,z,q _ y]|_=>cases e
 match t,e with
 |[i],e=>cases e;exact q _<|lr.set i r
 |[],e=>exact gen [] e
 |i::j::t,e=>exact gen (i::j::t) e
theorem Qe:∀{t:List Nat}{vs:List D}{l l':Lc},Pv.YJ t vs l=aa l'->l'.length=l.length/\∀j,j∉t->l'[j]?=l[j]?
 |[],[],l,l',h=>by cases h;exact#[rfl,λ_ _=>rfl]
 |[],_::_,_,_,h=>by cases h
 |_::_,[],_,_,h=>by cases h
 |i::t,v::vs,l,l',h=>by
  obtain⟨a,b⟩:=Qe (t:=t) h;exact#[by rw[a,bZ],λj hj=>by rw[b j λz=>hj<|aj _ z,bo λz=>hj (by rw[z];exact al ..)]]
def Vt(e:Pv.Zi t v l=aa l'):l'.length=l.length/\∀j,j∉t->l'[j]?=l[j]?:=by
 have gen:∀t:List Nat,(match Pv.u4 v with
   |some xs=>Pv.YJ t xs l
   |none=>ag)=aa l'->l'.length=l.length/\∀j,j∉t->l'[j]?=l[j]?:=λt e=>by
  cases q:Pv.u4 v with|none=>rw[q]at e;cases e|some xs=>rw[q]at e;exact Qe e
 match t,e with
 |[i],e=>cases e;exact#[bZ ..,λj hj=>bo λz=>hj (by rw[z];exact al ..)]
 |[],e=>exact gen [] e
 |i::j::t,e=>exact gen (i::j::t) e
def LocR.back(e:Pv.Zi t v l=aa l')(hn:∀i∈t,∀d,l[i]?≠aa (aa d))(lr:LocR O H l' Z):LocR O H l Z:=by
 obtain⟨a,b⟩:=Vt e;exact#[by rw[<-a];exact lr.len,λi d q=>lr.val i d (by rw[b i λz=>hn i z d q];exact q)]
end
noncomputable def Zbo(C:Calls)(t:List Nat)(is:List E)(G:Lc->Zt->R (List D))(l:Lc)(x:D)(S:Zt):R (List D):=(Pv.po (Pv.Zi t x l) S).bind λl S=>(Pv.pvt C is l S).bind λb S=>if b then G l S else .ok [] S
def VM{B β:Type}{r:R B}{f:B->Zt->R β}{b:β}{S:Zt}(h:r.bind f=.ok b S):∃a S1,r=.ok a S1/\f a S1=.ok b S:=by
 cases r with|ok a S1=>exact#[a,S1,rfl,h]|ex _ _=>cases h|no=>cases h
def wn(h:Pv.mapP f (x::w) S=.ok rs S2):∃y S1 zs,f x S=.ok y S1/\Pv.mapP f w S1=.ok zs S2/\rs=y++zs:=by
 rw[Pv.mapP]at h;split at h
 .split at h
  .cases h;exact#[_,_,_,‹_›,‹_›,rfl]
  .cases h
 .cases h
def ZdX(K:ao)(O:Mx)(A:aL)(P:Lc->Prop)(te:TEm)(G:Lc->Zt->R (List D)):Prop:=∀acc l Z H S ys S2 QQ,P l->CI K O A acc l Z H S->G l S=.ok ys S2->(acc++ys).length<=Ev.lim->(∀σ3 H3,Y8 O A H H3->CI K O A (acc++ys) l σ3 H3 S2->QQ σ3 H3)->te Z H QQ
def Ug{O ρw:Mx}{A:aL}{Hw:Hp}{w:List D}{J:It}(r:WRel X.K ρw Hw w J)(na:O.n0≠aa A){t:List Nat}{is:List E}{te:TEm}{G:Lc->Zt->R (List D)}{P:Lc->Prop}(em:ZdX X.K O A P te G){l:Lc}(hn:∀i∈t,∀d,l[i]?≠aa (aa d))(hP:∀x l2,Pv.Zi t x l=aa l2->P l2){acc ys:List D}{Z:L2.St}{H:Hp}{S S2:Zt}{QQ:L2.St->Hp->Prop}
  (hl:∀H',Y8 O A H H'->Lat ρw Hw (O.at A) H')(c:CI X.K O A acc l Z H S)(h:Pv.mapP (Zbo C t is G l) w S=.ok ys S2)(hz:(acc++ys).length<=Ev.lim)(k:∀σ3 H3,Y8 O A H H3->CI X.K O A (acc++ys) l σ3 H3 S2->QQ σ3 H3) :
  ∃W:Nat->Nat->L2.St->Hp->Prop,(∃m,W 0 m Z H)/\yX J (tGU X.K t) (tB3 X nx<|Pv.pvt C is) te W QQ:=by
 refine#[λn m σ' H'=>m=w.length-n/\n<=w.length/\Y8 O A H H'/\∃ac rs S',ac++rs=acc++ys/\Pv.mapP (Zbo C t is G l) (w.drop n) S'=.ok rs S2/\CI X.K O A ac l σ' H' S',#[w.length,rfl,dz _,λ_ _ _ h=>.inl h,acc,ys,S,rfl,h,c],?_]
 rintro n m σ' H' ⟨rfl,hn',ff,ac,rs,S',ea,e',c'⟩
 have lat:=hl H' ff;by_cases hlt:n<w.length
 .right
  rw[b9 hlt]at e';obtain⟨y1,S1,r1,q1,q2,rfl⟩:=wn e';obtain⟨go,yl⟩:=r.go n _ S' H' lat c'.st hlt;refine#[go,λx H3 y=>?_]
  obtain⟨f3,st3,rp⟩:=yl x H3 y;have rx:=rp _<|ae hlt;obtain⟨l2,Sa,ha,q1⟩:=VM q1;obtain⟨b,Sb,hb,q1⟩:=VM q1;have hal:Pv.Zi t w[n] l=aa l2/\Sa=S':=by
   cases z:Pv.Zi t w[n] l<;>rw[z]at ha<;>cases ha;exact#[rfl,rfl]
  obtain⟨hal,rfl⟩:=hal;have ff3:=ff.trans<|Y8.of f3;have c3:=c'.mono na f3 st3;refine Zb3 c3.lr rx hal λσ2 lr2=>#[O.at A,l2,Sa,st3,lr2,?_]
  rw[hb];intro ρ4 H4 b' f4 st4 eb;have eb:=eb;subst eb;cases f4.eq;have ff4:=ff3.trans<|Y8.of f4;have c4:=c3.mono na f4 st4;cases b with
  |false=>
   rw[T8 aM]at q1 ⊢;cases q1;exact#[w.length-(n+1),by omega,rfl,hlt,ff4,ac,r1,_,ea,q2,c4.st,(lr2.mono f4).back hal hn,c4.ac]
  |true=>
   rw[T9 rfl]at q1 ⊢;refine em ac l2 σ2 H4 Sb y1 S1 _ (hP _ _ hal) #[c4.st,lr2.mono f4,c4.ac] q1 ?_ λσ3 H5 f5 c5=>#[w.length-(n+1),by omega,rfl,hlt,ff4.trans f5,ac++y1,r1,S1,by rw[bv];exact ea,q2,c5.st,c5.lr.back hal hn,c5.ac]
   rw[<-ea]at hz;simp only[ba]at hz ⊢;omega
 .left
  have en:n=w.length:=by omega
  subst en;rw[dU]at e';cases e';rw[bY]at ea;subst ea;exact#[r.stop _ _ H' lat c'.st,k σ' H' ff c']
def vL{O:Mx}{A:aL}(na:O.n0≠aa A)(ie:E):ZdX X.K O A (λ_=>True) (Zde (tE X nx<|Pv.pv C ie) A) (λl S=>(Pv.pv C ie l S).bind λy S=>.ok [y] S):=λacc l Z H S ys S2 QQ _ c h hz k=>by
 obtain⟨y,S1,hy,h⟩:=VM h;cases h;refine#[O.at A,l,S,c.st,c.lr,?_];rw[hy];intro ρ4 H4 v f4 st4 r4;cases f4.eq;have c4:=c.mono na f4 st4;obtain⟨us,e,r⟩:=c4.ac;rw[ba]at hz;have hz:acc.length+1<=Ev.lim:=hz;have fa:Y8 O A H4 (upd H4 A<|.lst<|us++[v]):=λa o n h=>.inl (by rw[Zl n];exact h)
 have lt:=fa.lat e;refine#[us,e,by rw[r.length,<-XH];omega,k Z _ ((Y8.of f4).trans fa) #[#[st4.hk,λb x=>?_,λb x=>?_,st4.tb.upd (λo u z=>by rw[e]at z;cases z) λ_ z=>by cases z],#[c4.lr.len,λi d q=>let #[u,a,b]:=c4.lr.val i d q;#[u,a,b.lat lt]],_,ZD,(r.lat lt).append<|Rq.cons (r4.lat lt) Rq.nil]]
 .by_cases z:b=A
  .rw[z,ZD];intro q;cases q
  .rw[Zl z];exact st4.xd b x
 .rw[Zl λz=>na (by rw[<-z];exact x)];exact st4.dw b x
def yR(st:St3 X.K O S H)(lr:LocR O H l Z)(hA:H A=ag):O.n0≠aa A/\CI X.K O A [] l Z (upd H A<|.lst []) S/\∀H',Y8 O A (upd H A<|.lst []) H'->Fut O H O H'/\Lat O H (O.at A) H':=by
 have ne:∀a,H a≠ag->a≠A:=λa h z=>h<|z▸hA
 have f:∀H',Y8 O A (upd H A<|.lst []) H'->Fut O H O H'/\Lat O H (O.at A) H':=λH' g=>by
  have f:Fut O H O H':=#[rfl,λa o h=>g a o (ne a<|by rw[h];intro z;cases z) (by rw[Zl<|ne a (by rw[h];intro z;cases z)];exact h)]
  exact#[f,rfl,rfl,f.lat.keep',λa h x=>x.elim id λz=>T7 z<|ne a h]
 have s:=st.fresh (o:=.lst []) hA;obtain⟨f1,lt⟩:=f _ λ_ _ _ h=>.inl h
 refine#[λz=>st.xd A (O.xz A z) hA,#[#[s.hk,λb x=>x.elim (s.xd b) λz=>(by rw[z,ZD];intro q;cases q),s.dw,s.tb],#[lr.len,λi d q=>let #[u,a,b]:=lr.val i d q;#[u,a,b.lat lt]],[],ZD,Rq.nil],f]
def Vg{l:Lc}{cap:List Nat}{nl i:Nat}(h:i<nl)(v:D):(Pv.ZQ cap nl l)[i]?≠aa (aa v):=by
 unfold Pv.ZQ;rw[bI (by simpa using h),cw,T9 h]
 intro z;cases z
def Gu(f0:Fut O H0 O H)(hA:H A=ag)(st:St3 X.K O S H)(f:Fut O H O H')(c:CI X.K O A ys l Z H' S')(h:End X.K nx (XZ ai H0) O H Q (.ok (.lst ys) S')):Q (.ref A) H':=by
 obtain⟨us,e,r⟩:=c.ac;have lt:Lat (O.at A) H' O H':=#[rfl,rfl,λ_ _ h _ _ _=>h,λ_ _ x=>.inl x]
 refine h O H' _ f #[c.st.hk,λb x=>c.st.xd b<|.inl x,c.st.dw,c.st.tb] #[Xh e (st.nx hA)<|r.lat lt,λ_ _ _=>#[A,rfl,f0.new hA st.xd]]
def GX{K:ao}{rep:Mx->Hp->D->V->Prop}{O:Mx}{H:Hp}{Q:VK}{r:R (List D)}(h:End K xw rep O H Q (r.bind λys s=>if ys.length<=Ev.lim then Pv.PR.ok (.lst ys) s else .no).nox):∃ys S,r=.ok ys S/\ys.length<=Ev.lim/\End K nx rep O H Q (.ok (.lst ys) S):=by
 cases r with
 |no=>exact h.elim
 |ex c S=>exact h.elim
 |ok ys S=>
  have h:=End.nox h
  obtain⟨hl,h⟩:=End.guard h;exact#[ys,S,rfl,hl,h]
def JT{is:List E}{ie:E}{cap:List Nat}{nl:Nat}{w:Ev.W}{t:List Nat}{Z:L2.St}{H:Hp}{Q:VK}(hyp:tF X xw (Pv.pv C<|.comp1 cap nl t w is ie) Z H Q):vR (tW3 X xw<|Pv.pvw C w) (tGU X.K t) (tB3 X nx<|Pv.pvt C is) (tE X nx<|Pv.pv C ie) cap nl Z H Q:=by
 obtain⟨O,l,S,st,lr,h⟩:=hyp;rw[Pv.pv]at h;obtain⟨ho,h⟩:=End.guard h;refine#[O,l,S,st,lr,h.bind λwk S1 ρ1 H1 J f1 st1 r1 h1=>λA hA=>?_]
 cases f1.eq;obtain⟨ys,S2,hm,hl,h1⟩:=GX h1;obtain⟨na,ci,ft⟩:=yR st1 ((lr.mono f1).caught cap nl) hA;exact Ug r1 na (vL na ie) (λi hi d=>Vg (T6<|aT.mp ho i hi) d) (λ_ _ _=>cR) (λH' f=>(ft H' f).2) ci hm hl λσ3 H3 f3 c3=>Gu f1 hA st1 (ft H3 f3).1 c3 h1
def wx{is js:List E}{ie:E}{cap:List Nat}{nl:Nat}{w w2:Ev.W}{t u:List Nat}{Z:L2.St}{H:Hp}{Q:VK}(hyp:tF X xw (Pv.pv C<|.comp2 cap nl t w is u w2 js ie) Z H Q) :
  zK (tW3 X xw<|Pv.pvw C w) (tGU X.K t) (tB3 X nx<|Pv.pvt C is) (λD=>zT (tW3 X nx<|Pv.pvw C w2) (tGU X.K u) (tB3 X nx<|Pv.pvt C js)<|Zde (tE X nx<|Pv.pv C ie) D) cap nl Z H Q:=by
 obtain⟨O,l,S,st,lr,h⟩:=hyp;rw[Pv.pv]at h;obtain⟨ho,h⟩:=End.guard h;obtain⟨ho,hu⟩:=(aA _ _).mp ho;refine#[O,l,S,st,lr,h.bind λwk S1 ρ1 H1 J f1 st1 r1 h1=>λA hA=>?_]
 cases f1.eq;obtain⟨ys,S2,hm,hl,h1⟩:=GX h1;obtain⟨na,ci,ft⟩:=yR st1 ((lr.mono f1).caught cap nl) hA;have hu:∀i∈u,i<nl/\i∉t:=λi hi=>by
  have:=(aA _ _).mp<|aT.mp hu i hi;exact#[T6 this.1,by simpa using this.2]
 refine Ug (P:=λl=>∀i∈u,∀d,l[i]?≠aa (aa d)) r1 na (λacc l Z H S ys S2 QQ pl c h hz k=>?_) (λi hi d=>Vg (T6<|aT.mp ho i hi) d) (λx l2 e i hi d=>?_) (λH' f=>(ft H' f).2) ci hm hl λσ3 H3 f3 c3=>Gu f1 hA st1 (ft H3 f3).1 c3 h1
 .obtain⟨wk2,S5,hw,h⟩:=VM h
  refine#[O.at A,l,S,c.st,c.lr,?_];rw[hw];intro ρ5 H5 J5 f5 st5 r5;cases f5.eq;have c5:=c.mono na f5 st5;obtain⟨us,e,_⟩:=c5.ac;exact Ug r5 na (vL na ie) pl (λ_ _ _=>cR) (λH' f=>f.lat e) c5 h hz λσ3 H3 f3 c3=>k σ3 H3 ((Y8.of f5).trans f3) c3
 .rw[(Vt e).2 i (hu i hi).2]
  exact Vg (hu i hi).1 d
def uT{elt:Expr}{ifs:List Expr}{is:List E}{ie:E}{scope:eL}{N:List bB}{cap:List Nat}{nl:Nat}{w:Ev.W}{t:List Nat}(hc:X.calm=ai)(hN:X.N.Nodup)(CSc:CompScope X.env.scope X.N scope N cap nl)(hi:CW X xw C tg it w)
  (hb:∀cl s H fp,CG (cxC X N scope cl s H fp) tg t/\CTs (cxC X N scope cl s H fp) nx C ifs is/\CE (cxC X N scope cl s H fp) nx C elt ie)
  (hs:∀x,bJ it X.env x=c6 x):CF X xw C (.ListComp elt [#[tg,it,ifs,0]] scope pos) (.comp1 cap nl t w is ie):=.mk <|
 PE.imp (Zah (g:=tGU X.K t) (tt:=tB3 X nx<|Pv.pvt C is) (te:=tE X nx<|Pv.pv C ie) hc hN CSc hi.h (λcl s H fp=>have#[a,b,c]:=hb cl s H fp;#[a.h,b.h,c.h]) hs) λZ H Q hyp=>JT hyp
def vX{fr:Bool}{ns:List Nat}{elt:Expr}{ifs:List Expr}{is:List E}{ie:E}{scope:eL}{N:List bB}{cap:List Nat}{nl:Nat}{w:Ev.W}{t:List Nat}{n:Nat}{y:bB}{spos py:gW}(hc:X.calm=ai)(hN:X.N.Nodup)(CSc:CompScope X.env.scope X.N scope N cap nl)(hi:CW X xw C tg it w)
  (hb:∀cl s H fp,CG (cxC X N scope cl s H fp) tg t/\CTs (cxC X N scope cl s H fp) nx C ifs is/\CE (cxC X N scope cl s H fp) nx C elt ie)
  (hsw:fD (.ListComp elt [#[tg,it,ifs,0]] scope pos) (aa<|.Name y py) spos.line X.env=c6 ai)
  (hy:X.N[n]?=aa y)(hx:L2.Loc X.env.scope y)(hf:X.fn y=ai\/X.env.scope.names.lookup y=aa .local)
  (hs:∀x,bJ it X.env x=c6 x):CS X xw fr C ns (.Assign [.Name y py] (.ListComp elt [#[tg,it,ifs,0]] scope pos) spos) (.asg [n]<|.comp1 cap nl t w is ie):=.mk <|
 PS.imp (qv (g:=tGU X.K t) (tt:=tB3 X nx<|Pv.pvt C is) (te:=tE X nx<|Pv.pv C ie) hc hN CSc hi.h (λcl s H fp=>have#[a,b,c]:=hb cl s H fp;#[a.h,b.h,c.h]) hsw hy hx hf hs)<|by rintro D Z H ⟨O,H0,W,l,os,S,st,en,h⟩;exact JT<|ZcK st en h
def wb{fr:Bool}{ns:List Nat}{elt t1 i1 t2 i2:Expr}{f1' f2':List Expr}{is js:List E}{ie:E}{scope:eL}{N:List bB}{cap:List Nat}{nl:Nat}{w w2:Ev.W}{t u:List Nat}{n:Nat}{y:bB}{spos py:gW}(hc:X.calm=ai)(hN:X.N.Nodup)(CSc:CompScope X.env.scope X.N scope N cap nl)(hi:CW X xw C t1 i1 w)
  (hb:∀cl s H fp,CG (cxC X N scope cl s H fp) t1 t/\CTs (cxC X N scope cl s H fp) nx C f1' is/\CW (cxC X N scope cl s H fp) nx C t2 i2 w2/\CG (cxC X N scope cl s H fp) t2 u/\CTs (cxC X N scope cl s H fp) nx C f2' js/\CE (cxC X N scope cl s H fp) nx C elt ie)
  (hsw:fD (.ListComp elt [#[t1,i1,f1',0],#[t2,i2,f2',0]] scope pos) (aa<|.Name y py) spos.line X.env=c6 ai)
  (hy:X.N[n]?=aa y)(hx:L2.Loc X.env.scope y)(hf:X.fn y=ai\/X.env.scope.names.lookup y=aa .local)
  (hs:∀x,bJ i1 X.env x=c6 x)(hs2:∀env x,bJ i2 env x=c6 x) :
  CS X xw fr C ns (.Assign [.Name y py] (.ListComp elt [#[t1,i1,f1',0],#[t2,i2,f2',0]] scope pos) spos) (.asg [n]<|.comp2 cap nl t w is u w2 js ie):=.mk <|
 PS.imp (wv (wj:=tW3 X nx<|Pv.pvw C w2) (g1:=tGU X.K t) (tt1:=tB3 X nx<|Pv.pvt C is) (g2:=tGU X.K u) (tt2:=tB3 X nx<|Pv.pvt C js) (te:=tE X nx<|Pv.pv C ie) hc hN CSc hi.h (λcl s H fp=>have#[a,b,c,d,e,f]:=hb cl s H fp;#[a.h,b.h,c.h,d.h,e.h,f.h]) hsw hy hx hf hs hs2)<|by rintro D Z H ⟨O,H0,W,l,os,S,st,en,h⟩;exact wx<|ZcK st en h
end
theorem LocR.start(r:Rq O H ds vs)(N:List bB)(n:Nat)(hn:n=N.length):LocR O H (Pv.ZN n ds) (L2.start N vs):=by
 subst hn;have hl:=r.length;refine#[by unfold Pv.ZN L2.start;simp[hl],λi d e=>?_]
 unfold Pv.ZN at e;by_cases hi:i<ds.length
 .rw[bI (by simpa using hi),aJ]at e
  cases q:ds[i]? with
  |none=>rw[q]at e;cases e
  |some d'=>
   rw[q]at e;cases e;obtain⟨v,hv,r'⟩:=r.get q;refine#[v,?_,r'];unfold L2.start;rw[bI (by simp;lia),aJ,hv]
   rfl
 .rw[bq (by simp;lia),cw]at e
  split at e<;>cases e
theorem Eu.start{K:ao}{O:Mx}{H:Hp}{S:Zt}{ds:List D}{vs:List V}(st:St3 K O S H)(r:Rq O H ds vs)(N:List bB)(n:Nat)(hn:n=N.length):Eu O H (λ_=>ag) (Pv.ZN n ds) [] (L2.start N vs) H:=by
 have lr:=LocR.start r N n hn;refine#[Fut.refl _ _,st.xd,lr.len,λ_=>rfl,λ_ _ _ h=>?_,λ_ _ h=>?_,λ_ _ h=>?_,λi d e _=>?_]
 .cases h
 .cases h
 .cases h
 .obtain⟨v,a,b⟩:=lr.val i d e
  exact#[v,a,Rep.lat (O:=O) (ρ':=O.ex λ_=>ag) #[rfl,rfl,λ_ _ h _ _ _=>h,λ_ _ x=>Or.elim x id λ#[_,z]=>by cases z] b]
section
variable{P:bG}{w:b0}{K:ao}{mg:bB->Option ap}{base:ck}
noncomputable def Gd(C:Calls)(fn:Fn)(ds:List D)(S:Zt):R D:=if ds.length=fn.ps then(Pv.rvs C (Pv.muts fn.body) fn.body (Pv.ZN fn.ns ds) [] S).bind λf S=>match f with
  |.ret x=>.ok x S
  |.nx _ _=>.ok .non S
  |_=>.no
 else .no
def ux{C:Calls}{fn:Fn}{fr:Bool}{xw:Nat->Hp->Prop}{O:Mx}{H:Hp}{ds:List D}{S:Zt}{Q:VK}{E:L2.Ends}(hE:∀v H',Q v H'->E.rt v H')(hN:∀Z H',Q .non H'->E.nx Z H')(h:End K xw (XZ fr H) O H Q (Gd C fn ds S)):Zw fr K xw O H E (Pv.rvs C (Pv.muts fn.body) fn.body (Pv.ZN fn.ns ds) [] S):=by
 obtain⟨_,h⟩:=End.guard h;cases q:Pv.rvs C (Pv.muts fn.body) fn.body (Pv.ZN fn.ns ds) [] S with
 |no=>rw[q]at h;exact h
 |ex c S2=>rw[q]at h;exact λH' f st=>h O H' f st
 |ok fl S2=>
  rw[q]at h;cases fl with|ret x=>exact λH' v f st r=>hE v H'<|h O H' v f st r|nx l os=>exact λH' σ' W' st en=>hN σ' H'<|h O H' .non en.fut st #[yW,λ_ _ z=>by cases z]|brk l os=>exact False.elim h|cnt l os=>exact False.elim h
def uV{C C':Calls}{n:Nat}{fn:Fn}{fr:Bool}{x qual:bB}{st:fK}{f:aL}{fd:cS}{N ps:List bB}{k:Nat}(hF:∀O S H ds vs,St3 K O S H->Rq O H ds vs->C' n ds S=.no\/C' n ds S=Gd C fn ds S)(hns:fn.ns=N.length)(hps:fn.ps=ps.length)(Fu:Fun K x qual st f fd)(S:FnScope N ps (Zz st))
  (hb:∀(cdv:ap)(A:cZ)(outer:List Env)(s:ax)(H:Hp)(E:XK),Room k (A.deeper<|iq qual (Zz st) s.heap.objs.size f cdv)->
   CSs (JD CX0 P w K mg base N qual (Zz st) f cdv A outer s H E).nox (λ_ _=>False) fr C (Pv.muts fn.body) (Yh st) fn.body) :
  FnOk P w K mg base CX0 (k+1) f fd ps (spF K C' fr n):=by
 have eq:∀{O S H ds vs Q},St3 K O S H->Rq O H ds vs->End K (λ_ _=>False) (XZ fr H) O H Q (C' n ds S)->End K (λ_ _=>False) (XZ fr H) O H Q (Gd C fn ds S):=λ{O S H ds vs Q} st r h=>by
  rcases hF O S H ds vs st r with e|e
  .rw[e]at h;exact h.elim
  .rw[e]at h;exact h
 refine Fu.ok S (λvs H Q E #[O,ds,S,st,r,h]=>?_) λcdv A outer s H vs Q E hr #[O,ds,S',st,r,h]=>#[_,(hb cdv A outer s H E hr).h,O,H,λ_=>ag,Pv.ZN fn.ns ds,[],S',st,Eu.start st r N fn.ns hns,ux (λ_ _ q=>q) (λ_ _ q=>q)<|eq st r h]
 have h:=eq st r h;unfold Gd at h;obtain⟨hl,_⟩:=End.guard h;rw[r.length,hl,hps]
def yK{F:List Fn}{tk n k:Nat}{fr:Bool}{f:aL}{fd:cS}{ps:List bB}:FnOk P w K mg base CX0 k f fd ps (spF K (Pv.Zk F tk 0) fr n):=
 #[λvs H Q E #[O,ds,S,st,r,h]=>False.elim h,by rintro A outer s H args us vs Q E hr e0 hb r ⟨O,ds,S,st,r',h⟩;exact False.elim h]
end
def Gk{a b c}:aH (.Constant a b c::es) env=(am,cD (.Constant a b c) env)::aH es env:=rfl
def yy{a b}:aH (.Name a b::es) env=(am,cD (.Name a b) env)::aH es env:=rfl
def uP{a b c}:aH (.Tuple a b c::es) env=(am,cD (.Tuple a b c) env)::aH es env:=rfl
def vE{a b c d}:aH (.BinOp a b c d::es) env=(am,cD (.BinOp a b c d) env)::aH es env:=rfl
def v5{a b c d}:aH (.Compare a b c d::es) env=(am,cD (.Compare a b c d) env)::aH es env:=rfl
def vo{a b c}:aH (.Subscript a b c::es) env=(am,cD (.Subscript a b c) env)::aH es env:=rfl
def xE{a b c d}:aH (.Call a b c d::es) env=(am,cD (.Call a b c d) env)::aH es env:=rfl
def yN{a b c d}:aH (.ListComp a b c d::es) env=(am,cD (.ListComp a b c d) env)::aH es env:=rfl
def YT:List fF->List (Int×Int)->Prop
 |[],[]=>True
 |e::r,(k,j)::q=>(∃t,e.key=.int k t)/\e.hash=oT k/\(∃u,e.val=.int j u)/\YT r q
 |_,_=>False
theorem YT.mem :∀{es:List fF}{tab:List (Int×Int)},YT es tab->∀e∈es,∃k,(eV P w).is k e.key=ai/\e.hash=(eV P w).hash k
 |[],_,_,e,h=>by cases h
 |e::r,[],h,_,_=>h.elim
 |e::r,(k,j)::q,h,x,hx=>by
  obtain⟨⟨t,h1⟩,h2,_,h4⟩:=h;rcases aB.mp hx with rfl|hx
  .exact#[k,by rw[h1];exact gJ P w k t,h2]
  .exact YT.mem h4 x hx
theorem YT.find(k:Int):∀{es:List fF}{tab:List (Int×Int)},YT es tab->(tab.lookup k=ag->(es.find? λe=>(eV P w).is k e.key)=ag)/\∀j,tab.lookup k=aa j->∃e t,(es.find? λe=>(eV P w).is k e.key)=aa e/\e.val=.int j t
 |[],[],_=>#[λ_=>rfl,λj h=>by cases h]
 |[],_::_,h=>h.elim
 |e::r,[],h=>h.elim
 |e::r,(k',j')::q,h=>by
  obtain⟨⟨t,h1⟩,h2,⟨u,h3⟩,h4⟩:=h;obtain⟨i1,i2⟩:=YT.find k h4;rw[bL,d9];have hd:(eV P w).is k e.key=af (k=k'):=KeyKind.is_eq_decide (by rw[h1];exact gJ P w k' t) k
  rw[hd];by_cases z:k=k'
  .subst z
   rw[beq_self_eq_true,T5 rfl];exact#[λz=>(by cases z),λj z=>(by cases z;exact#[e,u,rfl,h3])]
  .rw[beq_eq_false_iff_ne.mpr z,T4 z]
   exact#[i1,i2]
def Za3{P:bG}{w:b0}{K:ao}{a:aL}{es:Array fF}{n:Nat}{tab:List (Int×Int)}(hl:K.lookup a=aa #[.type "dict",ag,.dict es n,#[]])(ht:YT es.toList tab)(ha:(a == c7)=am):ZdF P w K a tab:=by
 refine#[ha,λk=>findBy (eV P w).is es k,λh X=>#[_,es,n,X _ _ hl,#[rfl,rfl,rfl],rfl,λe he=>ht.mem e<|lh.mpr he,λ_=>rfl],λk=>?_]
 obtain⟨l⟩:=es;obtain⟨i1,i2⟩:=YT.find k ht;refine#[λz=>?_,λj z=>?_]
 .show((l.toArray.find? λe=>(eV P w).is k e.key).map (·.val))=ag
  rw[mn,i1 z];rfl
 .obtain⟨e,t,q1,q2⟩:=i2 j z
  refine#[t,?_];show((l.toArray.find? λe=>(eV P w).is k e.key).map (·.val))=_
  rw[mn,q1];exact congrArg aa q2
def hu7(hr:Room k A):A.units+7<dv:=Nat.lt_of_le_of_lt (by lia) hr.un
def uf{K:ao}{C:Calls}{n:Nat}{H:Hp}{a:aL}{ns:List Int}(hO:Only H)(hS:SqL K H a (ns.map V.int))(h:∀s,∃S',C n [.scr ns] s=.ok (.bl ai) S'):spF K C am n [.ref a] H (λv _=>v=.bl ai) λ_ _ _=>False:=by
 obtain⟨S',e⟩:=h (0,am);have sc:Scr K H a ns:=by
  rcases hS with(hS|hS)|hS
  .rcases hO a with z|⟨o,xs,z⟩
   .rw[z]at hS;cases hS
   .rw[z]at hS;cases hS
  .exact .inl hS
  .exact .inr hS
 refine#[#[K,ag,λ_=>False,λ_ h=>by cases h],[.scr ns],(0,am),#[rfl,λ_ h=>h.elim,λ_ h=>(by cases h),λP ps e=>by rcases hO P with z|⟨_,_,z⟩<;>(rw[z]at e;cases e)],Rq.cons (by unfold Rep;exact#[a,rfl,sc]) Rq.nil,?_]
 rw[e];exact λρ' H' v _ _ r=>r.1.bl'
end Sd
namespace Sd
open PySem PySem.Spec PyProof.Rows L2
def Src(b:Bool)(h:ck)(it l:aL)(k:Nat):Prop:=match b with
 |true=>h.IsListIter it l k
 |false=>h.IsTupleIter it l k
def Yw(b:Bool)(h:ck)(l:aL)(xs:Array ap):Prop:=match b with
 |true=>h.IsList l xs
 |false=>h.IsTuple l xs
def Src.ext(x:Src b h it l k)(e:gR c h h')(n:it≠c):Src b h' it l k:=by
 cases b
 .exact ck.IsTupleIter.extBut x e n
 .exact ck.IsListIter.extBut x e n
def Src.keep(x:Src b h it l k)(e:∀o,h.get? it=aa o->h'.get? it=aa o):Src b h' it l k:=by
 cases b
 .obtain⟨o,ho,r⟩:=x;exact#[o,e o ho,r]
 .obtain⟨o,ho,r⟩:=x;exact#[o,e o ho,r]
def Src.obj(x:Src b h it l k):∃o,h.get? it=aa o/\∀v,o.data≠.cell v:=by
 cases b
 .obtain⟨o,ho,_,d⟩:=x;exact#[o,ho,λv z=>by rw[d]at z;cases z]
 .obtain⟨o,ho,_,d⟩:=x;exact#[o,ho,λv z=>by rw[d]at z;cases z]
def Yw.keep(x:Yw b h l xs)(e:∀o,h.get? l=aa o->h'.get? l=aa o):Yw b h' l xs:=by
 cases b
 .obtain⟨o,ho,r⟩:=x;exact#[o,e o ho,r]
 .obtain⟨o,ho,r⟩:=x;exact#[o,e o ho,r]
def ue{Q:ap->ax->Prop}(hit:s.heap.IsTupleIter it t i)(ht:s.heap.IsTuple t items)(hx:items[i]?=aa x)
  (hQ:∀h',h'.IsTupleIter it t (i+1)->dN it s.heap h'->Q x {s with heap:=h' }):aX (aS prog w) A (d8<|.ref it) Q E s:=by
 obtain⟨o,ho,hc,hd⟩:=id hit;obtain⟨ol,hol,_,nl,hdl⟩:=ht;refine ab<|cx hit.typeIs dZ<|bW dZ hit.typeIs ig ?_<|g7 _;show aX _ _ (field (.ref it) 0 >>= _) _ _ s;refine ab<|c9 ho hd rfl ?_;show aX _ _ (if(cn t == bg)=ai then _ else _) _ _ s
 rw[T8 (by exact aM)];refine ab<|c9 ho hd rfl ?_
 refine ab<|d3 hol hdl ?_;simp only[du,hx];refine ab<|eO ho hd (by simp)<|aq #[x,rfl,aq<|hQ _ #[_,dB _ ho<|fb<|dm hd _,(gv ..).trans hc,?_]<|cI ..]
 rw[dm hd];simp[fz]
def Jb{Q:ap->ax->Prop}(hh:A.handled=ag)(hit:s.heap.IsTupleIter it t i)(ht:s.heap.IsTuple t items)(hx:items[i]?=ag)
  (hE:∀h' e,gR it s.heap h'->(∃o,h'.get? e=aa o/\o.cls=.type "StopIteration")->E (.ref e) {s with heap:=h' }):aX (aS prog w) A (d8<|.ref it) Q E s:=by
 obtain⟨o,ho,hc,hd⟩:=id hit;obtain⟨ol,hol,_,nl,hdl⟩:=ht;refine ab<|cx hit.typeIs dZ<|bW dZ hit.typeIs ig ?_<|g7 _;show aX _ _ (field (.ref it) 0 >>= _) _ _ s;refine ab<|c9 ho hd rfl ?_;show aX _ _ (if(cn t == bg)=ai then _ else _) _ _ s
 rw[T8 (by exact aM)];refine ab<|c9 ho hd rfl ?_
 refine ab<|d3 hol hdl ?_;simp only[du,hx];refine ab<|eI<|ab<|eO ho hd (by simp) ?_;show aX _ _ (oW (.type "StopIteration") [] >>= _) _ _ _
 refine ab ?_;simp only[oW,newTuple];refine ab<|bQ ?_ (by size_fits)
 refine ab (eT (by first|rfl|(simp only[iF];rfl))<|bQ ?_ (by size_fits))
 simp only[raiseNew];refine ab<|lT ?_;first|rw[hh]|rw[hh]
 exact ab<|aq<|nI<|hE _ _ (((cI ..).extBut.push _).push _) #[_,aG _ rfl,rfl]
def Wq{Q:ap->ax->Prop}(hit:Src b s.heap it l k)(hl:Yw b s.heap l xs)(hx:xs[k]?=aa x)
  (hQ:∀h',Src b h' it l (k+1)->dN it s.heap h'->Q x {s with heap:=h' }):aX (aS prog w) A (d8<|.ref it) Q E s:=by
 cases b
 .exact ue hit hl hx hQ
 .exact wpAny_nextOf_list_item hit hl hx hQ
def Jd{Q:ap->ax->Prop}(hh:A.handled=ag)(hit:Src b s.heap it l k)(hl:Yw b s.heap l xs)(hx:xs[k]?=ag)
  (hE:∀h' e,gR it s.heap h'->(∃o,h'.get? e=aa o/\o.cls=.type "StopIteration")->E (.ref e) {s with heap:=h' }):aX (aS prog w) A (d8<|.ref it) Q E s:=by
 cases b
 .exact Jb hh hit hl hx hE
 .exact wpAny_nextOf_list_end hh hit hl hx hE
noncomputable def Yr(b:Bool)(l:aL):fw:={cls:=.type (if b then "list_iterator" else "tuple_iterator"),data:=.fields [.ref l,.int 0 0].toArray}
def UA{Q:ap->ax->Prop}(hl:Yw b s.heap l xs)(h:Q (.ref s.heap.objs.size) {s with heap:=s.heap.push (Yr b l)}):aX (aS prog w) A (ip<|.ref l) Q E s:=by
 cases b
 .exact fZ hl h
 .exact fj hl h
structure ZipSt(b1 b2:Bool)(z TI TO i1 i2 l1 l2:aL)(k:Nat)(f0:ap)(h:ck):Prop where
 zp:nJ h z TI TO f0
 ti:kK h TI (.ref i1) (.ref i2)
 to:∃a b,kK h TO a b
 s1:Src b1 h i1 l1 k
 s2:Src b2 h i2 l2 k
def qf{b1 b2:Bool}{z TI TO i1 i2 l1 l2:aL}{k:Nat}{xs ys:Array ap}{x y:ap}{Q:ap->ax->Prop}(D:ln z TI TO i1 i2 l1 l2)(Z:ZipSt b1 b2 z TI TO i1 i2 l1 l2 k .none s.heap)(hl1:Yw b1 s.heap l1 xs)(hl2:Yw b2 s.heap l2 ys)(hx:xs[k]?=aa x)(hy:ys[k]?=aa y)
  (hQ:∀h',ZipSt b1 b2 z TI TO i1 i2 l1 l2 (k+1) (fz s.heap.objs.size) h'->kK h' s.heap.objs.size x y->(∀c o,c∉[z,TO,i1,i2]->s.heap.get? c=aa o->h'.get? c=aa o)->Q (.ref s.heap.objs.size) {s with heap:=h' }) :
  aX (aS prog w) A (dr.«zip.__next__» #[[.ref z],[]]) (λfin s'=>∃v,fin=.done (.ret v)/\Q v s') E s:=by
 obtain⟨hz,hTI,⟨a,b,hTO⟩,h1,h2⟩:=Z;show aX _ _ (field (.ref z) 2 >>= _) _ _ _;refine ab<|c9 hz rfl (x:=.bool am) rfl ?_;refine ab<|c9 hz rfl (x:=.ref TI) rfl<|ab<|d3 hTI rfl ?_;refine ab ?_;refine ab<|c9 hz rfl (x:=.none) rfl<|aq ?_;simp only[if_true];refine ab<|eI<|ab<|c9 hz rfl (x:=.ref TO) rfl<|ab<|d4 hz (by simp) λh₁ hz₁ hs₁=>?_
 replace hz₁:nJ h₁ z TI TO .ellipsis:=by exact hz₁
 refine ab ?_;simp only[kt,nS,gZ,lp];refine ab<|ab<|i6 ?_;refine ab<|Wq (h1.ext hs₁.extBut D.i1z) (hl1.keep λo e=>hs₁.extBut _ o D.l1z e) hx λh₂ h1₂ hs₂=>aq ?_
 have hTO₂:kK h₂ TO a b:=by exact hs₂.extBut _ _ D.TOi1<|hs₁.extBut _ _ D.TOz hTO
 refine ab<|d3 hTO₂ rfl<|ab<|gS hTO₂ λh₃ hTO₃ hs₃=>?_
 replace hTO₃:kK h₃ TO x b:=by exact hTO₃
 refine ab<|nK<|aq<|ab<|ab<|i6 ?_;have to3:∀c o,c≠z->c≠TO->c≠i1->s.heap.get? c=aa o->h₃.get? c=aa o:=λc o c1 c2 c3 e=>hs₃.extBut _ _ c2<|hs₂.extBut _ _ c3<|hs₁.extBut _ _ c1 e
 refine ab<|Wq (h2.keep λo e=>to3 _ o D.i2z D.TOi2.symm D.i12.symm e) (hl2.keep λo e=>to3 _ o D.l2z D.l2TO D.l2i1 e) hy λh₄ h2₄ hs₄=>aq ?_
 have hTO₄:kK h₄ TO x b:=by exact hs₄.extBut _ _ D.TOi2 hTO₃
 refine ab<|d3 hTO₄ rfl<|ab<|gS hTO₄ λh₅ hTO₅ hs₅=>?_
 replace hTO₅:kK h₅ TO x y:=by exact hTO₅
 refine ab<|nK<|aq<|aq<|ab<|d3 hTO₅ rfl<|ab<|wpAny_newTuple ?_;have hsz:h₅.objs.size=s.heap.objs.size:=by rw[hs₅.1,hs₄.1,hs₃.1,hs₂.1,hs₁.1]
 have to5:=λc o c1 c2 c3 c4 e=>hs₅.extBut _ _ c2<|hs₄.extBut _ _ c4<|to3 c o c1 c2 c3 e
 have hz₅:nJ h₅ z TI TO .ellipsis:=by exact hs₅.extBut _ _ D.TOz.symm<|hs₄.extBut _ _ D.i2z.symm<|hs₃.extBut _ _ D.TOz.symm<|hs₂.extBut _ _ D.i1z.symm hz₁
 have h1₅:Src b1 h₅ i1 l1 (k+1):=((h1₂.ext hs₃.extBut D.TOi1.symm).ext hs₄.extBut D.i12).ext hs₅.extBut D.TOi1.symm;have h2₅:Src b2 h₅ i2 l2 (k+1):=h2₄.ext hs₅.extBut D.TOi2.symm;have zl:z<h₅.objs.size:=aE hz₅;refine ab ?_;have hz₆:nJ (h₅.push {cls:=.type "tuple",data:=.seq [x,y].toArray}) z TI TO .ellipsis:=by exact au _ hz₅
 refine ab<|d4 hz₆ (by simp) λh₇ hz₇ hs₇=>?_
 replace hz₇:nJ h₇ z TI TO (fz h₅.objs.size):=by exact hz₇
 refine d4 hz₇ (by simp) λh₈ hz₈ hs₈=>aq #[_,rfl,?_]
 replace hz₈:nJ h₈ z TI TO (fz h₅.objs.size):=by exact hz₈
 have up:∀c o,c≠z->h₅.get? c=aa o->h₈.get? c=aa o:=λc o c1 e=>by exact hs₈.extBut _ _ c1<|hs₇.extBut _ _ c1<|au _ e
 have hT₈:kK h₈ h₅.objs.size x y:=by exact hs₈.extBut _ _ (fE zl)<|hs₇.extBut _ _ (fE zl)<|aG _ rfl
 show Q (.ref h₅.objs.size) _;rw[hsz]at hz₈ hT₈ ⊢;refine hQ h₈ #[hz₈,up _ _ D.TIz<|to5 _ _ D.TIz D.TITO D.TIi1 D.TIi2 hTI,#[x,y,up _ _ D.TOz hTO₅],h1₅.keep λo e=>up _ o D.i1z e,h2₅.keep λo e=>up _ o D.i2z e] hT₈ λc o hc e=>?_
 simp only[aB,cy,or_false,not_or]at hc;exact up c o hc.1<|to5 c o hc.1 hc.2.1 hc.2.2.1 hc.2.2.2 e
def UN{b1 b2:Bool}{z TI TO i1 i2 l1 l2:aL}{k:Nat}{xs ys:Array ap}{Q:Fin->ax->Prop}(hh:A.handled=ag)(D:ln z TI TO i1 i2 l1 l2)(Z:ZipSt b1 b2 z TI TO i1 i2 l1 l2 k .none s.heap)(hl1:Yw b1 s.heap l1 xs)(hl2:Yw b2 s.heap l2 ys)(hend:xs[k]?=ag\/ys[k]?=ag)
  (hE:∀h' e,(∀c o,c∉[z,TO,i1,i2]->s.heap.get? c=aa o->h'.get? c=aa o)->(∃o,h'.get? e=aa o/\o.cls=.type "StopIteration")->E (.ref e) {s with heap:=h' }) :
  aX (aS prog w) A (dr.«zip.__next__» #[[.ref z],[]]) Q E s:=by
 obtain⟨hz,hTI,⟨a,b,hTO⟩,h1,h2⟩:=Z;have hk:∀{c:aL},c∉[z,TO,i1,i2]->c≠z/\c≠TO/\c≠i1/\c≠i2:=λhc=>by
  simp only[aB,cy,or_false,not_or]at hc;exact hc
 show aX _ _ (field (.ref z) 2 >>= _) _ _ _;refine ab<|c9 hz rfl rfl ?_;refine ab<|c9 hz rfl (x:=.ref TI) rfl<|ab<|d3 hTI rfl ?_;refine ab ?_;refine ab<|c9 hz rfl (x:=.none) rfl<|aq ?_;simp only[if_true];refine ab<|eI<|ab<|c9 hz rfl (x:=.ref TO) rfl<|ab<|d4 hz (by simp) λh₁ hz₁ hs₁=>?_
 replace hz₁:nJ h₁ z TI TO .ellipsis:=by exact hz₁
 refine ab ?_;simp only[kt,nS,gZ,lp];refine ab<|ab<|i6 ?_;have l1₁:=hl1.keep λo e=>hs₁.extBut _ o D.l1z e
 cases hx:xs[k]? with
 |none=>
  refine ab<|Jd hh (h1.ext hs₁.extBut D.i1z) l1₁ hx λh₂ e hs₂ he=>?_
  obtain⟨oe,hoe,hce⟩:=he;have hz₂:nJ h₂ z TI TO .ellipsis:=by exact hs₂ _ _ D.i1z.symm hz₁
  have hez:e≠z:=λx=>by subst x;rw[hz₂]at hoe;cases hoe;simp at hce
  exact d4 hz₂ (by simp) λh₃ _ hs₃=>hE h₃ e (λc o hc x=>hs₃.extBut _ _ (hk hc).1<|hs₂ _ _ (hk hc).2.2.1<|hs₁.extBut _ _ (hk hc).1 x) #[oe,hs₃.extBut _ _ hez hoe,hce]
 |some x=>
  have hy:ys[k]?=ag:=by rcases hend with q|q;rw[hx]at q;cases q;exact q
  refine ab<|Wq (h1.ext hs₁.extBut D.i1z) l1₁ hx λh₂ h1₂ hs₂=>aq ?_
  have hTO₂:kK h₂ TO a b:=by exact hs₂.extBut _ _ D.TOi1<|hs₁.extBut _ _ D.TOz hTO
  refine ab<|d3 hTO₂ rfl<|ab<|gS hTO₂ λh₃ hTO₃ hs₃=>?_
  refine ab<|nK<|aq<|ab<|ab<|i6 ?_;have to3:∀c o,c≠z->c≠TO->c≠i1->s.heap.get? c=aa o->h₃.get? c=aa o:=λc o c1 c2 c3 e=>hs₃.extBut _ _ c2<|hs₂.extBut _ _ c3<|hs₁.extBut _ _ c1 e
  refine ab<|Jd hh (h2.keep λo e=>to3 _ o D.i2z D.TOi2.symm D.i12.symm e) (hl2.keep λo e=>to3 _ o D.l2z D.l2TO D.l2i1 e) hy λh₄ e hs₄ he=>?_
  obtain⟨oe,hoe,hce⟩:=he;have hz₄:nJ h₄ z TI TO .ellipsis:=by exact hs₄ _ _ D.i2z.symm<|hs₃.extBut _ _ D.TOz.symm<|hs₂.extBut _ _ D.i1z.symm hz₁
  have hez:e≠z:=λx=>by subst x;rw[hz₄]at hoe;cases hoe;simp at hce
  exact d4 hz₄ (by simp) λh₅ _ hs₅=>hE h₅ e (λc o hc x=>hs₅.extBut _ _ (hk hc).1<|hs₄ _ _ (hk hc).2.2.2<|to3 c o (hk hc).1 (hk hc).2.1 (hk hc).2.2.1 x) #[oe,hs₅.extBut _ _ hez hoe,hce]
def yi{b1 b2:Bool}{z TI TO i1 i2 l1 l2:aL}{k:Nat}{xs ys:Array ap}{x y:ap}{Q:Option ap->ax->Prop}(D:ln z TI TO i1 i2 l1 l2)(Z:ZipSt b1 b2 z TI TO i1 i2 l1 l2 k .none s.heap)(hl1:Yw b1 s.heap l1 xs)(hl2:Yw b2 s.heap l2 ys)(hx:xs[k]?=aa x)(hy:ys[k]?=aa y)
  (hQ:∀h',ZipSt b1 b2 z TI TO i1 i2 l1 l2 (k+1) (fz s.heap.objs.size) h'->kK h' s.heap.objs.size x y->(∀c o,c∉[z,TO,i1,i2]->s.heap.get? c=aa o->h'.get? c=aa o)->Q (aa<|.ref s.heap.objs.size) {s with heap:=h' }) :
  aX (aS prog w) A (iX<|.ref z) Q E s:=by
 have hT:s.TypeIs (.ref z) "zip":=#[_,Z.zp,rfl];exact ab<|gP<|cx hT g8<|bW g8 hT nq (qf D Z hl1 hl2 hx hy λh' a1 a2 a3=>aq<|hQ h' a1 a2 a3)<|mN _
def V3{b1 b2:Bool}{z TI TO i1 i2 l1 l2:aL}{k:Nat}{xs ys:Array ap}{Q:Option ap->ax->Prop}(hh:A.handled=ag)(D:ln z TI TO i1 i2 l1 l2)(Z:ZipSt b1 b2 z TI TO i1 i2 l1 l2 k .none s.heap)(hl1:Yw b1 s.heap l1 xs)(hl2:Yw b2 s.heap l2 ys)(hend:xs[k]?=ag\/ys[k]?=ag)
  (hQ:∀h',(∀c o,c∉[z,TO,i1,i2]->s.heap.get? c=aa o->h'.get? c=aa o)->Q ag {s with heap:=h' }):aX (aS prog w) A (iX<|.ref z) Q E s:=by
 have hT:s.TypeIs (.ref z) "zip":=#[_,Z.zp,rfl];refine ab<|gP<|cx hT g8<|bW g8 hT nq (UN hh D Z hl1 hl2 hend λh' e hk he=>?_)<|mN _
 obtain⟨o,ho,hc⟩:=he;exact ab<|gK #[o,ho,hc] lq<|aq<|hQ _ hk
noncomputable def zH1(h:ck)(b1:Bool)(l1:aL):ck:=h.push<|Yr b1 l1
noncomputable def zH2(h:ck)(b1 b2:Bool)(l1 l2:aL):ck:=(zH1 h b1 l1).push<|Yr b2 l2
noncomputable def zH3(h:ck)(b1 b2:Bool)(l1 l2:aL):ck:=(zH2 h b1 b2 l1 l2).push {cls:=.type "tuple",data:=.seq [.ref h.objs.size,.ref (zH1 h b1 l1).objs.size].toArray}
noncomputable def zH4(h:ck)(b1 b2:Bool)(l1 l2:aL):ck:=(zH3 h b1 b2 l1 l2).push {cls:=.type "tuple",data:=.seq [.none,.none].toArray}
noncomputable def zH5(h:ck)(b1 b2:Bool)(l1 l2:aL):ck:=(zH4 h b1 b2 l1 l2).push {cls:=.type "zip",data:=.fields [.none,.bool am,.bool am,.ref (zH2 h b1 b2 l1 l2).objs.size,.ref (zH3 h b1 b2 l1 l2).objs.size].toArray}
def jI(b1 b2:Bool)(l1 l2:aL)(xs ys:Array ap) :
  ou (dr.«zip.__new__» #[[.type "zip",.ref l1,.ref l2],[]]) (λ_ R s=>Yw b1 s.heap l1 xs/\Yw b2 s.heap l2 ys/\R (.ok<|.ret<|.ref (zH4 s.heap b1 b2 l1 l2).objs.size) {s with heap:=zH5 s.heap b1 b2 l1 l2}):=
 .of_wp λprog w A R s h=>by
  obtain⟨hp,g,d,tk,os⟩:=s;obtain⟨hl1,hl2,h⟩:=h;have hsub:=sub_zip;have hL1:=hl1;have hL2:Yw b2 (ax.heap #[hp.push<|Yr b1 l1,g,d,tk,os]) l2 ys:=hl2.keep λo e=>au _ e
  wp_walk using UA hL1,UA hL2
  exact#[_,rfl,h]
def qJ{Q:ap->ax->Prop}(hl1:Yw b1 s.heap l1 xs)(hl2:Yw b2 s.heap l2 ys)
  (h:∀h' n,n=s.heap.objs.size->ZipSt b1 b2 (n+4) (n+2) (n+3) n (n+1) l1 l2 0 .none h'->(∀c o,s.heap.get? c=aa o->h'.get? c=aa o)->Q (.ref<|n+4) {s with heap:=h' }) :
  aX (aS prog w) A (call (.type "zip") [.ref l1,.ref l2]) Q E s:=by
 refine callType_new F.called_zip (by decide) (F.typeCall_zip_2 _ _) (F.newCall_zip_2 _ _) (λobj=>F.args_object_init_3 obj _ _) F.entry_zip_new (jI b1 b2 l1 l2 xs ys) #[hl1,hl2,?_]
 have z1:(zH1 s.heap b1 l1).objs.size=s.heap.objs.size+1:=cT ..;have z2:(zH2 s.heap b1 b2 l1 l2).objs.size=s.heap.objs.size+2:=by unfold zH2;rw[cT,z1]
 have z3:(zH3 s.heap b1 b2 l1 l2).objs.size=s.heap.objs.size+3:=by unfold zH3;rw[cT,z2]
 have z4:(zH4 s.heap b1 b2 l1 l2).objs.size=s.heap.objs.size+4:=by unfold zH4;rw[cT,z3]
 have g5:(zH5 s.heap b1 b2 l1 l2).get? (zH4 s.heap b1 b2 l1 l2).objs.size=aa {cls:=.type "zip",data:=.fields [.none,.bool am,.bool am,.ref (zH2 s.heap b1 b2 l1 l2).objs.size,.ref (zH3 s.heap b1 b2 l1 l2).objs.size].toArray}:=aG _ rfl;have k4:∀c o,(zH4 s.heap b1 b2 l1 l2).get? c=aa o->(zH5 s.heap b1 b2 l1 l2).get? c=aa o:=λc o e=>au _ e
 have k3:=λc o e=>k4 c o<|au _ e
 have k2:=λc o e=>k3 c o<|au _ e
 have k1:=λc o e=>k2 c o<|au _ e
 have g4:=k4 _ _<|aG (zH3 s.heap b1 b2 l1 l2) rfl;have g3:=k3 _ _<|aG (zH2 s.heap b1 b2 l1 l2) rfl;have g2:=k2 _ _<|aG (zH1 s.heap b1 l1) rfl;have g1:=k1 _ _<|aG s.heap rfl;rw[z2,z3,z4]at g5;rw[z1,z2]at g3;rw[z3]at g4;rw[z1]at g2;rw[z4];have src:∀b l it,(zH5 s.heap b1 b2 l1 l2).get? it=aa (Yr b l)->Src b (zH5 s.heap b1 b2 l1 l2) it l 0:=λb l it e=>by
  cases b
  .exact#[_,e,rfl,rfl]
  .exact#[_,e,rfl,rfl]
 exact#[#[_,g5,rfl],h _ _ rfl #[g5,g3,#[_,_,g4],src b1 l1 _ g1,src b2 l2 _ g2] λc o e=>k1 c o<|au _ e]
open Ev (E Sm Fn Bop Cop Ty Bf Mf)
def XX{X:Cx}{pq:List (aL×fw)}{Z:L2.St}{H:Hp}{s:ax}{h':ck}{t':Nat}{ch:List aL}(I:Inv X pq Z H s)(k:∀b o,b∉ch->s.heap.get? b=aa o->h'.get? b=aa o)(hf:∀b∈ch,WL X pq H b):Inv X pq Z H {s with heap:=h',toks:=t' }:=by
 have nit:∀b u,H b=aa u->b∉ch:=λb u e z=>by have:=(hf b z).1;rw[e]at this;cases this
 refine I.step (g':=s.gens) (d':=s.drawn) (λb hb=>?_) (λb o _ _ hc e _=>k b o hc e) (λb o _ _ hc e _=>#[o.slots,k b o hc e]) (λ_ _ _ _ n=>n) (λb o hc e=>#[o,k b o hc e]) (λ_ _ e=>e) (λ_ _ _ e=>e) (λb ps e=>#[#[],by rw[e];simp]) (λm hm=>?_) (λb u e=>?_) I.bare
 .exact#[(hf b hb).2.2.2.1,(hf b hb).2.1,(hf b hb).2.2.2.2.1,(hf b hb).2.2.2.2.2]
 .obtain⟨o,es,ep,ho,r⟩:=hm
  exact#[o,es,ep,k _ o (λz=>(hf _ z).2.1 rfl) ho,r]
 .refine(I.hok b u e).stay (λc v hc q=>k c v ?_ q) (λ_ q=>q) λ_ _ q=>q
  rcases hc with z|z
  .rw[z];exact nit b u e
  .exact nit c _ z
def Qw{h:ck}{o o':fw}{b:aL}(e:(h.push o').get? b=aa o)(n:b≠h.objs.size):h.get? b=aa o:=by
 unfold ck.get? ck.push at *;simp only[Array.getElem?_push]at e;rw[T8 n]at e;exact e
def XI{a b:Nat}(h:a<b\/b<a):(a:aL)≠b:=λe=>by
 have e':=e;omega
def Sq(b:Bool)(K:ao)(H:Hp)(l:aL)(xs:List V):Prop:=match b with
 |true=>SqL K H l xs
 |false=>SqT K H l xs
def YS(I:Inv X pq Z H s)(h:Sq b X.K H l xs):∃its:List ap,Vals xs its/\Yw b s.heap l its.toArray:=by
 cases b
 .obtain⟨its,r,p,_⟩:=I.tuple h;exact#[its,r,p]
 .obtain⟨its,r,p,_⟩:=I.list h;exact#[its,r,p.isList]
def zI(I:Inv X pq Z H s)(h:Sq b X.K H l xs)(h':Sq b X.K H l ys):xs=ys:=by
 cases b
 .exact I.tuple_inj h h'
 .exact I.list_inj h h'
def VY(x:Yw b h l xs):l<h.objs.size:=by
 cases b
 .obtain⟨o,ho,_⟩:=x;exact aE ho
 .obtain⟨o,ho,_⟩:=x;exact aE ho
noncomputable def Itz(K:ao)(b1 b2:Bool)(l1 l2:aL):It:=
 #[λi H=>∃xs ys x y,Sq b1 K H l1 xs/\Sq b2 K H l2 ys/\xs[i]?=aa x/\ys[i]?=aa y,
  λi H v H'=>∃T x y,(∀xs,Sq b1 K H l1 xs->xs[i]?=aa x)/\(∀ys,Sq b2 K H l2 ys->ys[i]?=aa y)/\H T=ag/\H'=upd H T (.tup [x,y])/\v=.ref T,
  λi H=>∃xs ys,Sq b1 K H l1 xs/\Sq b2 K H l2 ys/\(xs.length<=i\/ys.length<=i)]
def uy{P:bG}{w:b0}{K:ao}{elts:List Expr}{kk:Nat}{tp:gW}{b1 b2:Bool}{z TI TO i1 i2 l1 l2:aL}(D:ln z TI TO i1 i2 l1 l2) :
  Turn P w K (.Tuple elts kk tp) (Itz K b1 b2 l1 l2) [z,TI,TO,i1,i2] z (λi h=>ZipSt b1 b2 z TI TO i1 i2 l1 l2 i .none h) where
 mem:=by simp
 obj:=λi h st b hb=>by
  simp only[aB,cy,or_false]at hb;obtain⟨a,c,hTO⟩:=st.to;rcases hb with e|e|e|e|e<;>subst e
  .exact#[_,st.zp,λv q=>by cases q]
  .exact#[_,st.ti,λv q=>by cases q]
  .exact#[_,hTO,λv q=>by cases q]
  .exact st.s1.obj
  .exact st.s2.obj
 keep:=λi h h' st k=>by
  obtain⟨a,c,hTO⟩:=st.to;exact#[k z (by simp) _ st.zp,k TI (by simp) _ st.ti,#[a,c,k TO (by simp) _ hTO],st.s1.keep λo e=>k i1 (by simp) o e,st.s2.keep λo e=>k i2 (by simp) o e]
 item:=by
  intro X hP hw hK hc i pq s Z H E I hf st hg;subst hP hw hK;obtain⟨xs,ys,x,y,hq1,hq2,hx,hy⟩:=hg;obtain⟨its,rv,o1⟩:=YS I hq1;obtain⟨its2,rv2,o2⟩:=YS I hq2;obtain⟨u,hu,ru⟩:=rv.get hx;obtain⟨u2,hu2,ru2⟩:=rv2.get hy;refine yi D st o1 o2 (x:=u) (y:=u2) (by simpa using hu) (by simpa using hu2) λh' Z' hT hk=>?_
  have hfree:=I.hok.fresh<|aN _;have ltz:∀b∈[z,TI,TO,i1,i2],b≠s.heap.objs.size:=λb hb e=>by
   simp only[aB,cy,or_false]at hb;obtain⟨a,c,hTO⟩:=st.to;rcases hb with q|q|q|q|q<;>subst q
   .exact T7 (aE st.zp) (by rw[e];exact br _)
   .exact T7 (aE st.ti) (by rw[e];exact br _)
   .exact T7 (aE hTO) (by rw[e];exact br _)
   .obtain⟨o,ho,_⟩:=st.s1.obj;exact T7 (aE ho) (by rw[e];exact br _)
   .obtain⟨o,ho,_⟩:=st.s2.obj;exact T7 (aE ho) (by rw[e];exact br _)
  have IA:Inv X pq Z (upd H s.heap.objs.size<|.tup [x,y]) {s with heap:=s.heap.push {cls:=.type "tuple",data:=.seq [u,u2].toArray},toks:=s.toks}:=
   I.laid (λb o e=>au _ e) (aN _) #[by show 2<=bi;decide,[u,u2],.cons ru<|.cons ru2 .nil,km _ _]
  have hf2:∀b∈[z,TI,TO,i1,i2],WL X pq (upd H s.heap.objs.size<|.tup [x,y]) b:=λb hb=>#[by rw[Zl<|ltz b hb];exact(hf b hb).1,(hf b hb).2]
  have IB:Inv X pq Z (upd H s.heap.objs.size<|.tup [x,y]) {s with heap:=h',toks:=s.toks}:=by
   refine XX (s:={s with heap:=s.heap.push {cls:=.type "tuple",data:=.seq [u,u2].toArray},toks:=s.toks}) (ch:=[z,TO,i1,i2]) IA (λb o hb e=>?_) λb hb=>hf2 b (by simp only[aB,cy,or_false]at hb ⊢;rcases hb with q|q|q|q<;>simp[q])
   by_cases hbs:b=s.heap.objs.size
   .subst hbs
    have e':=e;rw[aG _ rfl]at e';cases e';exact hT
   .refine hk b o hb ?_
    have e':=e;have hlt:=aE e';rw[cT]at hlt;exact Qw e' hbs
  refine#[.ref s.heap.objs.size,rfl,wpAny_letOwnedTupleGo_zip Z'.zp λh2 hz2 hs2=>?_]
  have IC:Inv X pq Z (upd H s.heap.objs.size<|.tup [x,y]) {s with heap:=h2,toks:=s.toks}:=XX (s:={s with heap:=h',toks:=s.toks}) (ch:=[z]) IB (λb o hb e=>(hs2.2 b<|by simpa using hb).trans e) λb hb=>hf2 b (by simp only[bh]at hb;simp[hb])
  obtain⟨a,c,hTO⟩:=Z'.to;refine#[.ref s.heap.objs.size,_,IC,rfl,#[_,x,y,λzs hz=>by rw[zI I hz hq1];exact hx,λzs hz=>by rw[zI I hz hq2];exact hy,hfree,rfl,rfl],?_,λb hb=>(hf2 b hb).1]
  exact#[hz2,hs2.extBut _ _ D.TIz Z'.ti,#[a,c,hs2.extBut _ _ D.TOz hTO],Z'.s1.ext hs2.extBut D.i1z,Z'.s2.ext hs2.extBut D.i2z]
 done:=by
  intro X hP hw hK hc i pq s Z H E I hf st hg;subst hP hw hK;obtain⟨xs,ys,hq1,hq2,hend⟩:=hg;obtain⟨its,rv,o1⟩:=YS I hq1;obtain⟨its2,rv2,o2⟩:=YS I hq2;have e1:=rv.length;have e2:=rv2.length;refine V3 (I.ok.hd hc) D st o1 o2 (by rcases hend with q|q;exact .inl (by simp;omega);exact .inr<|by simp;omega) λh' hk=>#[rfl,XX (t':=s.toks) (ch:=[z,TO,i1,i2]) I (λb o hb e=>hk b o hb e) λb hb=>hf b (by simp only[aB,cy,or_false]at hb ⊢;rcases hb with q|q|q|q<;>simp[q])]
 self:=λ_ _ _ _ _ st h=>wpAny_pyIter_zip st.zp h
def ZeK(K:ao)(ta:TA):TI:=λZ H R=>ta Z H λvs H1=>∃b1 b2 l1 l2,vs=[.ref l1,.ref l2]/\(∃xs,Sq b1 K H1 l1 xs)/\(∃ys,Sq b2 K H1 l2 ys)/\R (Itz K b1 b2 l1 l2) H1
def ZcL{a b:Expr}{ta:TA}{p pos:gW}(hg:Gl X "zip")(hm:X.mg "zip" = ag)(ha:PA X [a,b] ta)(hs:aH [a,b] X.env=[(am,cD a X.env),(am,cD b X.env)]:=by rfl)(hs2:aH [b] X.env=[(am,cD b X.env)]:=by rfl) :
  PI X (.Tuple elts kk tp) (.Call (.Name "zip" p) [a,b] [] pos) (ZeK X.K ta):=by
 intro pq s Z H R I h;refine Call_<|Xd I hg hm (by rfl)<|cM (thn (ha pos pq s Z H _ I h) λus s1 #[vs,H1,I1,r1,q1]=>?_) (by rw[hs,hs2]) (by rw[hs2];rfl)
 obtain⟨b1,b2,l1,l2,e,⟨xs,hq1⟩,⟨ys,hq2⟩,q⟩:=q1;subst e;cases r1 with
 |cons r rr=>
  cases rr with
  |cons r' rr=>
   cases rr;cases r;cases r';obtain⟨its,rv,o1⟩:=YS I1 hq1;obtain⟨its2,rv2,o2⟩:=YS I1 hq2;have lt1:=VY o1;have lt2:=VY o2;refine qJ o1 o2 λh' n hn Y hk=>?_
   have I2:=I1.kept (t':=s1.toks) hk
   have q1:(l1:Nat)<n:=by rw[hn];exact lt1
   have q2:(l2:Nat)<n:=by rw[hn];exact lt2
   have D:ln (n+4) (n+2) (n+3) n (n+1) l1 l2:=by constructor<;>first|exact XI (by omega)|exact XI<|.inl<|bp q1<|eP n _|exact XI<|.inl<|bp q2<|eP n _|exact XI<|.inl q1|exact XI<|.inl q2
   refine wpAny_pyIter_zip Y.zp #[n+4,[n+4,n+2,n+3,n,n+1],_,_,H1,rfl,I2,uy D,Y,λb hb=>?_,q]
   have hbn:s1.heap.objs.size<=b:=by
    rw[<-hn];simp only[aB,cy,or_false]at hb;rcases hb with e|e|e|e|e<;>rw[e]
    .exact eP n 4
    .exact eP n 2
    .exact eP n 3
    .exact aN n
    .exact eP n 1
   exact I1.fpOk hbn<|I1.hok.fresh hbn
def Side(K:ao)(O:Mx)(H:Hp)(wk:List D)(b:Bool)(l:aL):Prop:=∀ρ' H',Lat O H ρ' H'->∃vs,Sq b K H' l vs/\Rq ρ' H' wk vs
def Q3{K:ao}{O:Mx}{H:Hp}{x:D}{v:V}{wk:List D}(hk:O.K=K)(r:Rep O H x v)(h:Pv.Yv x=aa wk):∃b l,v=.ref l/\(∃xs,Sq b K H l xs)/\Side K O H wk b l:=by
 cases x with
 |tup ds=>
  obtain⟨a,xs,rfl,hp,rs⟩:=r.tup';cases h;exact#[am,a,rfl,#[xs,SqT.of hp],λρ' H' f=>#[xs,SqT.of (f.keep a _ hp λ_ z=>by cases z),rs.lat f]]
 |lst ds=>
  obtain⟨a,xs,rfl,hp,hx,rs⟩:=r.lst';cases h;exact#[ai,a,rfl,#[xs,SqL.of hp],λρ' H' f=>#[xs,SqL.of<|f.keep a _ hp λ_ _=>hx,rs.lat f]]
 |scr ns=>
  obtain⟨a,rfl,hp⟩:=r.scr';cases h;rw[hk]at hp;refine#[ai,a,rfl,#[_,hp.sq],λρ' H' f=>#[_,?_,Rq.ints ns]]
  rcases hp with⟨o,hp⟩|hp
  .exact .inl<|.inr #[o,f.keep a _ hp λ_ z=>by cases z]
  .exact .inr hp
 |_=>exact Ev.nos h
def qd{K:ao}{O:Mx}{H:Hp}{v w:List D}{b1 b2:Bool}{l1 l2:aL}(h1:Side K O H v b1 l1)(h2:Side K O H w b2 l2):WRel K O H ((v.zip w).map λp=>.tup [p.1,p.2]) (Itz K b1 b2 l1 l2) where
 go:=λi ρ' S' H' f st hi=>by
  obtain⟨xs,q1,r1⟩:=h1 ρ' H' f;obtain⟨ys,q2,r2⟩:=h2 ρ' H' f;have hi':i<oK v.length w.length:=by simpa using hi
  obtain⟨x,g1,rx⟩:=r1.get (ae (show i<v.length by omega))
  obtain⟨y,g2,ry⟩:=r2.get (ae (show i<w.length by omega))
  refine#[#[xs,ys,x,y,q1,q2,g1,g2],λu H'' #[T,x',y',e1,e2,hT,eH,eu]=>?_]
  subst eH eu;have ex:=(e1 xs q1).symm.trans g1;have ey:=(e2 ys q2).symm.trans g2;cases ex;cases ey;refine#[ZO hT,st.fresh hT,λd hd=>?_]
  have hz:(v.zip w)[i]?=aa (v[i],w[i]):=iP.mpr #[ae (by omega),ae (by omega)]
  rw[aJ,hz]at hd;cases hd;exact YL ZD<|Rq.cons (rx.mono<|ZO hT)<|Rq.cons (ry.mono<|ZO hT) Rq.nil
 stop:=λρ' S' H' f st=>by
  obtain⟨xs,q1,r1⟩:=h1 ρ' H' f;obtain⟨ys,q2,r2⟩:=h2 ρ' H' f;refine#[xs,ys,q1,q2,?_];show xs.length<=((v.zip w).map λp=>Pv.V.tup [p.1,p.2]).length\/_
  rw[r1.length,r2.length,aw,fW];omega
section
variable{X:Cx}{xw:Nat->Hp->Prop}{C:Calls}{a b:Expr}{i j:E}{pos p tp:gW}{elts:List Expr}{kk:Nat}
def Zcs(hm:X.mg "zip" = ag)(ha:CA X xw C [a,b] [i,j])(hg:Gl X "zip")(hs:aH [a,b] X.env=[(am,cD a X.env),(am,cD b X.env)])(hs2:aH [b] X.env=[(am,cD b X.env)]) :
  CW X xw C (.Tuple elts kk tp) (.Call (.Name "zip" p) [a,b] [] pos) (.zip i j):=.mk <|
 PI.imp (ZcL hg hm ha.h hs hs2) λZ H Q #[O,l,S,st,lr,h]=>Zbp st lr h λx y S1 ρ1 H1 v u st1 rv ru h1=>by
  cases e1:Pv.Yv x with
  |none=>rw[e1]at h1;exact False.elim h1
  |some v1=>
   cases e2:Pv.Yv y with
   |none=>rw[e1,e2]at h1;exact False.elim h1
   |some v2=>
    rw[e1,e2]at h1;obtain⟨b1,l1,rfl,s1,d1⟩:=Q3 st1.hk rv e1;obtain⟨b2,l2,rfl,s2,d2⟩:=Q3 st1.hk ru e2;exact#[b1,b2,l1,l2,rfl,s1,s2,End.ok (rep:=WRel X.K) h1 st1<|qd d1 d2]
end
def Qk(hh:A.handled=ag)(b:Bool)(it l:aL)(hne:l≠it)(xs:Array ap) :
  Draws prog w A it [it,l] xs.size (λi v=>xs[i]?=aa v) (λi h=>Src b h it l i/\Yw b h l xs) where
 live:=λ_ _ st=>let #[o,ho,_]:=st.1.obj;#[o,ho]
 frame:=λ_ _ _ st hk=>#[st.1.keep λo e=>hk it (by simp) o e,st.2.keep λo e=>hk l (by simp) o e]
 item:=λi s Q E hi st hQ=>Wq st.1 st.2 (bj hi) λh' hit' hs'=>hQ _ h' s.toks (bj hi) #[hit',st.2.keep λo e=>hs'.extBut _ o hne e] hs'
 done:=λs Q E st hE=>Jd hh st.1 st.2 (gw<|aN _) hE
noncomputable def Ite(K:ao)(b:Bool)(l:aL):It:=
 #[λi H=>∃xs x,Sq b K H l xs/\xs[i]?=aa x,
  λi H v H'=>∃T x,(∀xs,Sq b K H l xs->xs[i]?=aa x)/\H T=ag/\H'=upd H T (.tup [.int i,x])/\v=.ref T,
  λi H=>∃xs,Sq b K H l xs/\xs.length=i]
def wW{P:bG}{w:b0}{K:ao}{elts:List Expr}{kk:Nat}{tp:gW}{b:Bool}{e it l:aL}(hei:e≠it)(hle:l≠e)(hli:l≠it) :
  Turn P w K (.Tuple elts kk tp) (Ite K b l) [e,it] e (λi h=>(∃old,IsEnum h e it i old)/\Src b h it l i) where
 mem:=by simp
 obj:=λi h st c hc=>by
  simp only[aB,cy,or_false]at hc;obtain⟨⟨old,he⟩,hs⟩:=st;rcases hc with q|q<;>subst q
  .exact#[_,he,λv q=>by cases q]
  .exact hs.obj
 keep:=λi h h' st k=>by
  obtain⟨⟨old,he⟩,hs⟩:=st;exact#[#[old,k e (by simp) _ he],hs.keep λo q=>k it (by simp) o q]
 item:=by
  intro X hP hw hK hc i pq s Z H E I hf st hg;subst hP hw hK;obtain⟨xs,x,hq,hx⟩:=hg;obtain⟨its,rv,o1⟩:=YS I hq;obtain⟨⟨old,he⟩,hs⟩:=st;obtain⟨u,hu,ru⟩:=rv.get hx;have hlt:i<its.toArray.size:=by
   have:=(aU.mp hu).1
   simpa using this
  have hh:X.A.in1.handled=ag:=I.ok.hd hc;refine wpAny_pyNext_enum_itemD (Qk hh b it l hli its.toArray) he #[hs,o1] hlt hei (by simp only[aB,cy,or_false,not_or];exact#[hei,Ne.symm hle]) λx' h' tk hP ho hst hT hsz hk=>?_
  have ex:x'=u:=by
   have:its.toArray[i]?=aa u:=by simpa using hu
   rw[this]at hP;exact(ak hP).symm
  subst ex;have hfree:=I.hok.fresh<|aN _;have ltz:∀c∈[e,it],c≠s.heap.objs.size:=λc hc q=>by
   simp only[aB,cy,or_false]at hc;rcases hc with z|z<;>subst z
   .exact T7 (aE he) (by rw[q];exact br _)
   .obtain⟨o,ho,_⟩:=hs.obj;exact T7 (aE ho) (by rw[q];exact br _)
  have IA:Inv X pq Z (upd H s.heap.objs.size<|.tup [.int i,x]) {s with heap:=s.heap.push {cls:=.type "tuple",data:=.seq [.int i tk,x'].toArray},toks:=tk+1}:=
   I.laid (λc o q=>au _ q) (aN _) #[by show 2<=bi;decide,[.int i tk,x'],.cons #[tk,rfl]<|.cons ru .nil,km _ _]
  have hf2:∀c∈[e,it],WL X pq (upd H s.heap.objs.size<|.tup [.int i,x]) c:=λc hc=>#[by rw[Zl<|ltz c hc];exact(hf c hc).1,(hf c hc).2]
  have IB:Inv X pq Z (upd H s.heap.objs.size<|.tup [.int i,x]) {s with heap:=h',toks:=tk+1}:=by
   refine XX (s:={s with heap:=s.heap.push {cls:=.type "tuple",data:=.seq [.int i tk,x'].toArray},toks:=tk+1}) (ch:=[e,it]) IA (λc o hc q=>?_) hf2
   by_cases hcs:c=s.heap.objs.size
   .subst hcs
    have q':=q;rw[aG _ rfl]at q';cases q';exact hT
   .simp only[aB,cy,or_false,not_or]at hc
    exact hk c o hc.1 hc.2<|Qw q hcs
  refine#[.ref s.heap.objs.size,rfl,wpAny_letOwnedTupleGo_enum ho λh2 he2 hs2=>?_]
  have IC:Inv X pq Z (upd H s.heap.objs.size<|.tup [.int i,x]) {s with heap:=h2,toks:=tk+1}:=XX (s:={s with heap:=h',toks:=tk+1}) (ch:=[e]) IB (λc o hc q=>(hs2.2 c<|by simpa using hc).trans q) λc hc=>hf2 c (by simp only[bh]at hc;simp[hc])
  refine#[.ref s.heap.objs.size,_,IC,rfl,#[_,x,λzs hz=>by rw[zI I hz hq];exact hx,hfree,rfl,rfl],#[#[x',by simpa using he2],hst.1.ext hs2.extBut<|Ne.symm hei],λc hc=>(hf2 c hc).1]
 done:=by
  intro X hP hw hK hc i pq s Z H E I hf st hg;subst hP hw hK;obtain⟨xs,hq,hend⟩:=hg;obtain⟨its,rv,o1⟩:=YS I hq;obtain⟨⟨old,he⟩,hs⟩:=st;have e1:=rv.length;have hh:X.A.in1.handled=ag:=I.ok.hd hc;have en:i=its.toArray.size:=by simp;lia
  subst en;exact wpAny_pyNext_enum_endD (Qk hh b it l hli its.toArray) he #[hs,o1] λh' hx=>#[rfl,XX (t':=s.toks) (ch:=[e,it]) I (λc o hc q=>hx c o (λz=>hc<|by simp[z]) q) hf]
 self:=λ_ _ _ _ _ st h=>by
  obtain⟨⟨old,he⟩,_⟩:=st;exact mO he h
section
variable{prog:bG}{w:b0}{A:cZ}{E:ap->ax->Prop}{s:ax}
def vt(l:aL)(items:Array ap)(n:Nat)(dct:Option aL)(sl:Array (Option ap)) :
  ou (dr.«enumerate.__new__» #[[.type "enumerate",.ref l],[]]) (λ_ R s=>s.heap.get? l=aa {cls:=.type "tuple",dict:=dct,data:=.seq items n,slots:=sl}/\
   R (.ok<|.ret<|.ref (s.heap.push<|Yr am l).objs.size) {s with heap:=(s.heap.push<|Yr am l).push {cls:=.type "enumerate",data:=.fields [.none,.bool am,.ref s.heap.objs.size,fz 0,.none,.none].toArray}}):=
 .of_wp λprog w A R s h=>by
  obtain⟨hp,g,d,tk,os⟩:=s;obtain⟨hl,h⟩:=h;have hsub:=sub_enumerate;have hL:ck.IsTuple (ax.heap #[hp,g,d,tk,os]) l items:=#[_,hl,rfl,n,rfl]
  wp_walk using fR hl;refine wpAny_stack_any λst=>aq ?_;split
  .rename_i c _ _ _ _ _;cases(c == l9 "enumerate")<;>(wp_walk using fR hl,fZ hL;exact#[_,rfl,h])
  .wp_walk using fR hl,fZ hL;exact#[_,rfl,h]
def wK{Q:ap->ax->Prop}(hL:Yw b s.heap l xs)
  (h:∀h' n,n=s.heap.objs.size->IsEnum h' (n+1) n 0 .none->Src b h' n l 0->(∀c o,s.heap.get? c=aa o->h'.get? c=aa o)->Q (.ref<|n+1) {s with heap:=h' }):aX (aS prog w) A (call (.type "enumerate") [.ref l]) Q E s:=by
 cases b with
 |true=>exact call_enumerate_list hL λh' a1 a2 _ a4=>h h' _ rfl a1 a2 a4
 |false=>
  obtain⟨⟨c,dct,dt,sl⟩,hl,hc,n,hd⟩:=hL;simp only at hc hd;subst hc hd;refine callType_new F.called_enumerate (by decide) (F.typeCall_enumerate_1 _) (F.newCall_enumerate_1 _) (λobj=>F.args_object_init_2 obj _) F.entry_enumerate_new (vt l xs n dct sl) #[hl,?_]
  have hz:(s.heap.push<|Yr am l).objs.size=s.heap.objs.size+1:=cT ..;have g2:=aG (s.heap.push<|Yr am l) (o:={cls:=.type "enumerate",data:=.fields [.none,.bool am,.ref s.heap.objs.size,fz 0,.none,.none].toArray}) rfl;have g1:((s.heap.push<|Yr am l).push {cls:=.type "enumerate",data:=.fields [.none,.bool am,.ref s.heap.objs.size,fz 0,.none,.none].toArray}).get? s.heap.objs.size=aa (Yr am l):=au _<|aG _ rfl;rw[hz]at g2 ⊢;exact#[#[_,g2,rfl],h _ _ rfl g2 #[_,g1,rfl,rfl] λc o q=>au _<|au _ q]
end
def Zed(K:ao)(ta:TA):TI:=λZ H R=>ta Z H λvs H1=>∃b l,vs=[.ref l]/\(∃xs,Sq b K H1 l xs)/\R (Ite K b l) H1
def jA{a:Expr}{ta:TA}{p pos:gW}(hg:Gl X "enumerate")(hm:X.mg "enumerate" = ag)(ha:PA X [a] ta)(hs:aH [a] X.env=[(am,cD a X.env)]:=by rfl):PI X (.Tuple elts kk tp) (.Call (.Name "enumerate" p) [a] [] pos) (Zed X.K ta):=by
 intro pq s Z H R I h;refine Call_<|Xd I hg hm (by rfl)<|cM (thn (ha pos pq s Z H _ I h) λus s1 #[vs,H1,I1,r1,q1]=>?_) hs rfl
 obtain⟨b,l,e,⟨xs,hq⟩,q⟩:=q1;subst e;cases r1 with
 |cons r rr=>
  cases rr;cases r;obtain⟨its,rv,o1⟩:=YS I1 hq;have lt1:=VY o1;refine wK o1 λh' n hn he hs' hk=>?_
  have I2:=I1.kept (t':=s1.toks) hk
  have q1:(l:Nat)<n:=by rw[hn];exact lt1
  refine mO he #[n+1,[n+1,n],_,_,H1,rfl,I2,wW (XI<|.inr<|kr n) (XI<|.inl<|cP q1)<|XI<|.inl q1,#[#[_,he],hs'],λc hc=>?_,q]
  have hbn:s1.heap.objs.size<=c:=by
   rw[<-hn];simp only[aB,cy,or_false]at hc;rcases hc with e|e<;>rw[e]
   .exact gd n
   .exact aN n
  exact I1.fpOk hbn<|I1.hok.fresh hbn
def vn{lo:Int}{n i:Nat}(h:i<n):(Pv.ZU lo n)[i]?=aa (.int<|lo+i):=by
 unfold Pv.ZU;rw[aJ,cq h];rfl
def wA{K:ao}{O:Mx}{H:Hp}{w:List D}{b:Bool}{l:aL}(h1:Side K O H w b l):WRel K O H (((Pv.ZU 0 w.length).zip w).map λp=>.tup [p.1,p.2]) (Ite K b l) where
 go:=λi ρ' S' H' f st hi=>by
  obtain⟨xs,q1,r1⟩:=h1 ρ' H' f;have hi':i<w.length:=by
   rw[aw,fW,US]at hi;lia
  obtain⟨x,g1,rx⟩:=r1.get<|ae hi';refine#[#[xs,x,q1,g1],λu H'' #[T,x',e1,hT,eH,eu]=>?_]
  subst eH eu;have ex:=(e1 xs q1).symm.trans g1;cases ex;refine#[ZO hT,st.fresh hT,λd hd=>?_]
  have hz:((Pv.ZU 0 w.length).zip w)[i]?=aa (.int<|0+i,w[i]):=iP.mpr #[vn hi',ae hi'];rw[aJ,hz]at hd;cases hd;refine YL ZD<|Rq.cons ?_<|Rq.cons (rx.mono<|ZO hT) Rq.nil;rw[show((0:Int)+i)=i by lia]
  exact ZW _
 stop:=λρ' S' H' f st=>by
  obtain⟨xs,q1,r1⟩:=h1 ρ' H' f;refine#[xs,q1,?_];show xs.length=(((Pv.ZU 0 w.length).zip w).map λp=>Pv.V.tup [p.1,p.2]).length
  rw[aw,fW,US,r1.length];lia
section
variable{X:Cx}{xw:Nat->Hp->Prop}{C:Calls}{a b:Expr}{i j:E}{pos p tp:gW}{elts:List Expr}{kk:Nat}
def jB(hm:X.mg "enumerate" = ag)(ha:CA X xw C [a] [i])(hg:Gl X "enumerate")(hs:aH [a] X.env=[(am,cD a X.env)]) :
  CW X xw C (.Tuple elts kk tp) (.Call (.Name "enumerate" p) [a] [] pos) (.enum i):=.mk <|
 PI.imp (jA hg hm ha.h hs) λZ H Q #[O,l,S,st,lr,h]=>ZbC st lr h λx S1 ρ1 H1 v st1 r h1=>by
  cases e1:Pv.Yv x with
  |none=>rw[e1]at h1;exact False.elim h1
  |some wk=>
   rw[e1]at h1;obtain⟨b1,l1,rfl,s1,d1⟩:=Q3 st1.hk r e1;exact#[b1,l1,rfl,s1,End.ok (rep:=WRel X.K) h1 st1<|wA d1]
end
def wu(hh:A.handled=ag)(b:Bool)(it l:aL)(hne:l≠it)(xs:Array ap) :
  Walks prog w A it [it,l] [it] xs.size (λi v=>xs[i]?=aa v) (λi h=>Src b h it l i/\Yw b h l xs):=by
 cases b
 .exact Walks.tuple hh it l hne xs
 .exact ow hh it l hne xs
def ZaE{b:Bool}{h:ck}{l:aL}:Src b (h.push<|Yr b l) h.objs.size l 0:=by
 cases b
 .exact#[_,aG _ rfl,rfl,rfl]
 .exact#[_,aG _ rfl,rfl,rfl]
def ZdA{K:ao}{H:Hp}{p:aL}{xs:List V}(h:SqL K H p xs\/SqT K H p xs):∃b,Sq b K H p xs:=by
 rcases h with h|h
 .exact#[ai,h]
 .exact#[am,h]
def wo(hc:X.calm=ai):ZH X (.builtin "any") (λvs H Q=>∃O ds x v bs,O.K=X.K/\vs=[v]/\Rep O H x v/\Pv.Yv x=aa ds/\Pv.ZV ds=aa bs/\Q (.bl<|bs.any id) H):=by
 intro pq s Z H vs us Q I r h;obtain⟨O,ds,x,v,bs,hk,rfl,r1,hl,hb,q⟩:=h;obtain⟨l,xs,rfl,hsq,rx⟩:=r1.seq hl;rw[hk]at hsq;obtain⟨kb,hq⟩:=ZdA hsq;obtain⟨u,rfl,ru⟩:=X2 r;cases ru;obtain⟨its,rv,o1⟩:=YS I hq;obtain⟨lb,tb⟩:=Wk hb;have hlt:=VY o1;have hlen:its.toArray.size=bs.length:=by rw[ay,<-rv.length,rx.length,lb]
 refine call_any_walk<|UA o1 #[s.heap.objs.size,[s.heap.objs.size,l],[s.heap.objs.size],its.toArray.size,_,_,λj=>bs.getD j am,rfl,wu (A:=X.A.in1) (I.ok.hd hc) kb s.heap.objs.size l (bn hlt) its.toArray,#[ZaE,o1.keep λo q=>au _ q],?_,?_]
 .intro j v s' Q' E' hv hQ'
  have hj:its[j]?=aa v:=by simpa using hv
  have jl:j<ds.length:=by
   have:=(aU.mp hj).1;rw[<-rv.length,rx.length]at this;exact this
  obtain⟨w',g,r'⟩:=rx.get<|ae jl;obtain⟨u',g',ru'⟩:=rv.get g;rw[hj]at g';cases g';exact WP r' ru' (tb j _<|ae jl) s' Q' E' hQ'
 .intro h' tk hk
  rw[hlen,wI];exact#[.bl<|bs.any id,H,I.kept (t':=tk) λb o e=>hk b o (λhm=>by
   have:b=s.heap.objs.size:=by simpa using hm
   exact T7 (this▸aE e)<|br _)<|au _ e,rfl,q]
def xF(hc:X.calm=ai):ZH X (.builtin "any") (UM X.K xw .any):=ZH.imp (wo hc)<|by
 rintro vs H Q ⟨O,S,ds,st,r,h⟩;obtain⟨d,v,z,rfl,r1,hz,h⟩:=VB h r;obtain⟨xs,hx,hz⟩:=cQ.mp hz;obtain⟨bs,hb,rfl⟩:=bF.mp hz;exact#[O,xs,d,v,bs,st.hk,rfl,r1,hx,hb,End.ok h st<|Ye _]
end Sd
namespace Tq
open PySem PyProof.Rows
noncomputable def Yf:Bool->bT->Array bT->Nat->Nat->Nat->StateT bP nP (Option Nat):=sortPriv% PySem.Builtin.gallop
def ye(lf:Bool)(k:bT)(ar:Array bT)(bs n hn:Nat):Yf lf k ar bs n hn=(do
 let bd (i:Nat):StateT bP nP (Option Bool):=do
  let x <-fI ar (bs+i)
  if lf then lt' x k else return (<-lt' k x).map (!·)
 let mut la:=0
 let mut of:=1
 let mut lo:=0
 let mut hi:=0
 let aa rt <-bd hn|return ag
 if rt then
  let mx:=n-hn
  for _ in [0:n] do
   if of>=mx then break
   let aa mo <-bd (hn+of)|return ag
   if !mo then break
   la:=of
   of:=2*of+1
  lo:=hn+la+1
  hi:=hn+oK of mx
 else
  let mx:=hn+1
  for _ in [0:n] do
   if of>=mx then break
   let aa fo <-bd (hn-of)|return ag
   if fo then break
   la:=of
   of:=2*of+1
  lo:=hn+1-oK of mx
  hi:=hn-la
 for _ in [0:n] do
  if lo>=hi then break
  let m:=lo+(hi-lo) / 2
  let aa mo <-bd m|return ag
  if mo then lo:=m+1 else hi:=m
 return aa hi):=rfl
noncomputable abbrev BT:=Option (Option Nat)×Nat×Nat
def ug{F:Nat->BT->StateT bP nP (ForInStep BT)}{n:Nat}{τ:bP}{B:Nat->Bool}{Q:BT->bP->Prop}
  (hF:∀i lo hi (Q:ForInStep BT->bP->Prop),hi<=n->(lo>=hi->Q (.done (ag,lo,hi)) τ)->(lo<hi->Q (.yield (ag,if B (lo+(hi-lo) / 2)=ai then(lo+(hi-lo) / 2+1,hi)else(lo,lo+(hi-lo) / 2))) τ)->k9 (aS prog w) A E s (F i (ag,lo,hi)) Q τ)
  (mono:∀i j,i<=j->j<n->B j=ai->B i=ai)(hq:∀r,r<=n->(∀i,i<n->(B i=ai↔i<r))->Q (ag,r,r) τ){lo hi:Nat}(h1:lo<=hi)(h2:hi<=n)(h3:∀i,i<lo->B i=ai)(h4:∀i,hi<=i->i<n->B i=am) :
  k9 (aS prog w) A E s (lm [0:n] ((ag,lo,hi):BT) F) Q τ:=by
 have fin:∀lo,lo<=n->(∀i,i<lo->B i=ai)->(∀i,lo<=i->i<n->B i=am)->Q (ag,lo,lo) τ:=λlo a2 a4 a5=>hq _ a2 λi hi=>by
  refine#[λhB=>?_,a4 i]
  by_cases c:i<lo
  .exact c
  .rw[a5 i (by omega) hi]at hB;cases hB
 refine cr
  (I:=λi c st'=>st'=τ/\c.1=ag/\c.2.1<=c.2.2/\c.2.2<=n/\c.2.2-c.2.1+i<=n/\(∀i,i<c.2.1->B i=ai)/\∀i,c.2.2<=i->i<n->B i=am) ?_ ?_ #[rfl,rfl,h1,h2,by dsimp only;omega,h3,h4]
 .rintro i ⟨r,lo,hi⟩ st' hi0 hin ⟨rfl,rfl,a1,a2,a3,a4,a5⟩
  dsimp only at a1 a2 a3 a4 a5 ⊢
  refine hF i lo hi _ a2 (λc=>?_) λc=>?_
  .have e:lo=hi:=by omega
   subst e;exact fin lo a2 a4 a5
  .cases hm:B (lo+(hi-lo) / 2)with
   |true=>
    simp only[if_true];exact#[trivial,trivial,by omega,a2,by omega,λj hj=>mono j _ (by omega) (by omega) hm,a5]
   |false=>
    simp only[cB,if_false];refine#[trivial,trivial,by omega,by omega,by omega,a4,λj hj hn=>?_]
    cases hj2:B j with|false=>rfl|true=>rw[mono _ j hj hn hj2]at hm;cases hm
 .rintro ⟨r,lo,hi⟩ st' ⟨rfl,rfl,a1,a2,a3,a4,a5⟩
  dsimp only at a1 a2 a3 a4 a5 ⊢
  have e:lo=hi:=by omega
  subst e;exact fin lo a2 a4 a5
def Zb8{lf:Bool}{k:bT}{ar:Array bT}{bs n hn:Nat}{τ:bP}{B:Nat->Bool}{Q:Option Nat->bP->Prop}(hh:hn<n)
  (hb:∀i,i<n->∀Q:Option Bool->bP->Prop,Q (aa<|B i) τ->k9 (aS prog w) A E s (do
   let x <-fI ar (bs+i)
   if lf then lt' x k else return (<-lt' k x).map (!·)) Q τ)
  (mono:∀i j,i<=j->j<n->B j=ai->B i=ai)(hq:∀r,r<=n->(∀i,i<n->(B i=ai↔i<r))->Q (aa r) τ):k9 (aS prog w) A E s (Yf lf k ar bs n hn) Q τ:=by
 have no:∀{i j},i<=j->j<n->B i=am->B j=am:=λ{i j} h hj hi=>by
  cases q:B j with|false=>rfl|true=>rw[mono i j h hj q]at hi;cases hi
 rw[ye]
 dsimp only
 refine aI<|hb hn hh _ ?_
 dsimp only
 cases h0:B hn with
 |true=>
  rw[T9 rfl];refine aI (eo (cr
   (I:=λi (c:BT) st'=>st'=τ/\c.1=ag/\c.2.1<c.2.2/\i<c.2.2/\hn+c.2.1<n/\B (hn+c.2.1)=ai)
   (Q:=λ(c:BT) st'=>st'=τ/\c.1=ag/\c.2.1<c.2.2/\hn+c.2.1<n/\B (hn+c.2.1)=ai/\(n<=hn+c.2.2\/B (hn+c.2.2)=am)) ?_ ?_ #[rfl,rfl,by decide,by decide,hh,h0]) ?_)
  .rintro i ⟨r,la,f⟩ st' _ hin ⟨rfl,rfl,a1,a2,a3,a4⟩
   dsimp only at a1 a2 a3 a4 ⊢
   by_cases c:f>=n-hn
   .rw[T9 c]
    exact aQ #[rfl,rfl,a1,a3,a4,.inl (by dsimp only;omega)]
   .rw[T8 c]
    refine aI<|hb _ (by omega) _ ?_
    dsimp only
    cases hm:B (hn+f)with|true=>exact aQ #[rfl,rfl,by dsimp only;omega,by dsimp only;omega,by dsimp only;omega,hm]|false=>exact aQ #[rfl,rfl,a1,a3,a4,.inr hm]
  .rintro ⟨r,la,f⟩ st' ⟨rfl,rfl,a1,a2,a3,a4⟩
   dsimp only at a1 a2 a3 a4 ⊢
   exact#[rfl,rfl,a1,a3,a4,.inl (by omega)]
  .rintro ⟨r,la,f⟩ st' ⟨rfl,rfl,a1,a3,a4,a5⟩
   dsimp only at a1 a3 a4 a5 ⊢
   refine aI (ug (n:=n) (B:=B) (λi lo hi Q h1 h2 h3=>by
    by_cases c:lo>=hi
    .simp only[T9 c];exact aQ<|h2 c
    .simp only[T8 c]
     refine aI<|hb _ (by omega) _ ?_
     have h3:=h3 (by omega)
     cases hm:B (lo+(hi-lo) / 2)<;>(rw[hm]at h3;exact aQ h3)) mono (λr hr hB=>aQ<|hq r hr hB) (by omega) (by omega) (λi hi=>mono i _ (by omega) a3 a4) λi h1 h2=>?_)
   rcases a5 with a5|a5
   .omega
   .exact no (by omega) h2 a5
 |false=>
  rw[T8 (by simp)]
  refine aI (eo (cr
   (I:=λi (c:BT) st'=>st'=τ/\c.1=ag/\c.2.1<c.2.2/\i<c.2.2/\c.2.1<=hn/\B (hn-c.2.1)=am)
   (Q:=λ(c:BT) st'=>st'=τ/\c.1=ag/\c.2.1<c.2.2/\c.2.1<=hn/\B (hn-c.2.1)=am/\(hn<c.2.2\/B (hn-c.2.2)=ai)) ?_ ?_ #[rfl,rfl,by decide,by decide,dz _,h0]) ?_)
  .rintro i ⟨r,la,f⟩ st' _ hin ⟨rfl,rfl,a1,a2,a3,a4⟩
   dsimp only at a1 a2 a3 a4 ⊢
   by_cases c:f>=hn+1
   .rw[T9 c]
    exact aQ #[rfl,rfl,a1,a3,a4,.inl (by dsimp only;omega)]
   .rw[T8 c]
    refine aI<|hb _ (by omega) _ ?_
    dsimp only
    cases hm:B (hn-f)with|true=>exact aQ #[rfl,rfl,a1,a3,a4,.inr hm]|false=>exact aQ #[rfl,rfl,by dsimp only;omega,by dsimp only;omega,by dsimp only;omega,hm]
  .rintro ⟨r,la,f⟩ st' ⟨rfl,rfl,a1,a2,a3,a4⟩
   dsimp only at a1 a2 a3 a4 ⊢
   exact#[rfl,rfl,a1,a3,a4,.inl (by omega)]
  .rintro ⟨r,la,f⟩ st' ⟨rfl,rfl,a1,a3,a4,a5⟩
   dsimp only at a1 a3 a4 a5 ⊢
   refine aI (ug (n:=n) (B:=B) (λi lo hi Q h1 h2 h3=>by
    by_cases c:lo>=hi
    .simp only[T9 c];exact aQ<|h2 c
    .simp only[T8 c]
     refine aI<|hb _ (by omega) _ ?_
     have h3:=h3 (by omega)
     cases hm:B (lo+(hi-lo) / 2)<;>(rw[hm]at h3;exact aQ h3)) mono (λr hr hB=>aQ<|hq r hr hB) (by omega) (by omega) (λi hi=>?_) λi h1 h2=>no h1 h2 a4)
   rcases a5 with a5|a5
   .omega
   .exact mono i _ (by omega) (by omega) a5
abbrev Srt(R:B->B->Prop)(l:List B):Prop:=l.Pairwise R
abbrev lr(rk:B->Nat):B->B->Prop:=λx y=>rk x<rk y
abbrev gr(rk:B->Nat):B->B->Prop:=λx y=>rk y<rk x
structure ML(R:B->B->Prop)(T o ra rb:List B):Prop where
 perm:(o++ra++rb).Perm T
 so:Srt R o
 sa:Srt R ra
 sb:Srt R rb
 lt:∀x∈o,∀y,y∈ra\/y∈rb->R x y
def ML.as{T o xs ra rb:List B}(h:ML R T o (xs++ra) rb)(hx:∀x∈xs,∀y∈rb,R x y):ML R T (o++xs) ra rb:=by
 obtain⟨s1,s2,s3⟩:=eA.mp h.sa;refine#[by simpa[bv]using h.perm,eA.mpr #[h.so,s1,λx hx y hy=>h.lt x hx y<|.inl<|dG _ hy],s2,h.sb,λx hx2 y hy=>?_]
 rcases cV.mp hx2 with z|z
 .exact h.lt x z y<|hy.imp (bC _) id
 .rcases hy with hy|hy
  .exact s3 x z y hy
  .exact hx x z y hy
def ML.swap{T o ra rb:List B}(h:ML R T o ra rb):ML R T o rb ra:=by
 refine#[List.Perm.trans ?_ h.perm,h.so,h.sb,h.sa,λx hx y hy=>h.lt x hx y hy.symm]
 rw[bv,bv];exact List.perm_append_comm.append_left _
def ML.bs(h:ML R T o ra (xs++rb))(hx:∀x∈xs,∀y∈ra,R x y):ML R T (o++xs) ra rb:=(h.swap.as hx).swap
def ML.fin{T o ra:List B}(h:ML R T o ra []):(o++ra).Perm T/\Srt R (o++ra):=by
 have h':=ML.as (ra:=[]) (by simpa using h) λx _ y hy=>by cases hy
 exact#[by simpa using h'.perm,h'.so]
def ML.ne(h:ML R T o ra rb)(hT:(T.map rk).Nodup)(hx:x∈ra)(hy:y∈rb):rk x≠rk y:=by
 have n:=((h.perm.map rk).nodup_iff).mpr hT;rw[bN,fk]at n;exact n.2.2 _ (fL<|bC _ hx) _<|fL hy
structure Od(prog:bG)(w:b0)(A:cZ)(E:ap->ax->Prop)(s:ax)(κ:fC)(In:bT->Prop)(rk:bT->Nat):Prop where
 ask:∀{x y:bT}{τ:bP}{Q:Option Bool->bP->Prop},In x->In y->kindOf τ=κ->Q (aa<|af<|rk x<rk y) τ->k9 (aS prog w) A E s (lt' x y) Q τ
def Sg(τ st':bP):Prop:=kindOf st'=kindOf τ/\be st'=be τ/\bf st'=bf τ/\fS st'=fS τ
section
variable{In:bT->Prop}
def ZC{Q:bT->bP->Prop}(h:ar[i]?=aa x)(hq:Q x τ):k9 (aS prog w) A E s (fI ar i) Q τ:=by
 rw[elem'_eq,h];exact aQ hq
def XW{Q:Unit->bP->Prop}(hq:Q () τ):k9 (aS prog w) A E s (liftM (oh t):StateT bP nP Unit) Q τ:=wpS_lift<|eI #[rfl,hq]
theorem xt(O:Od prog w A E s κ In rk){Q:Option Nat->bP->Prop}(hk:kindOf τ=κ)(ik:In k)(hh:h0<n)(hn:i+n<=ar.size)(ia:∀x∈ar.toList,In x)
  (so:Srt (lr rk) ((ar.toList.drop i).take n))(ne:∀x∈(ar.toList.drop i).take n,rk x≠rk k)
  (hq:∀r,r<=n->(∀x∈((ar.toList.drop i).take n).take r,rk x<rk k)->(∀x∈((ar.toList.drop i).take n).drop r,rk k<rk x)->Q (aa r) τ):k9 (aS prog w) A E s (Yf lf k ar i n h0) Q τ:=by
 generalize hl:(ar.toList.drop i).take n=l at so ne hq;have ll:l.length=n:=by rw[<-hl,bw,bx,aF];lia
 have at_:∀j (hj:j<n),ar[i+j]?=aa (l[j]'(by lia)):=λj hj=>by
  have:ar.toList[i+j]?=aa (l[j]'(by lia)):=by
   subst hl;rw[fm,fq];exact ae _
  simpa using this
 have mem:∀j (hj:j<n),In (l[j]'(by lia)):=λj hj=>ia _ (by
  have h2:∀x∈l,x∈ar.toList:=λx hx=>by rw[<-hl]at hx;exact cf<|dJ hx
  exact h2 _<|aW _)
 have hB:∀j (hj:j<n),((l[j]?).any λx=>af<|rk x<rk k)=af (rk (l[j]'(by lia))<rk k):=λj hj=>by
  rw[ae (by lia)];rfl
 refine Zb8 (B:=λj=>(l[j]?).any λx=>af<|rk x<rk k) hh (λj hj Q hQ=>?_) (λa b hab hb h=>?_) λr hr hr2=>hq r hr (λx hx=>?_) λx hx=>?_
 .rw[hB j hj]at hQ
  refine aI<|ZC (at_ j hj) ?_;cases lf with
  |true=>exact O.ask (mem j hj) ik hk hQ
  |false=>
   refine aI<|O.ask ik (mem j hj) hk<|aQ ?_;have e:(!decide (rk k<rk (l[j]'(by lia))))=af (rk (l[j]'(by lia))<rk k):=by
    have:=ne _<|aW (n:=j) (by lia)
    by_cases c:rk k<rk (l[j]'(by lia))
    .rw[T5 c,T4 (by lia)];rfl
    .rw[T4 c,T5 (by lia)];rfl
   show Q (aa<|!decide (rk k<rk (l[j]'(by lia)))) τ
   rw[e];exact hQ
 .rw[hB b hb]at h
  rw[hB a (by lia)]
  rcases Nat.lt_or_eq_of_le hab with c|c
  .have:=bu.mp so a b (by lia) (by lia) c
   have h:=T6 h;exact T5 (by lia)
  .subst c;exact h
 .obtain⟨j,hj,rfl⟩:=cH hx
  rw[bw]at hj;have:=(hr2 j<|by lia).mpr (by lia)
  rw[hB j<|by lia]at this
  rw[fm];exact T6 this
 .obtain⟨j,hj,rfl⟩:=cH hx
  rw[bx]at hj;rw[fq];have h1:=hr2 (r+j) (by lia)
  rw[hB _<|by lia]at h1
  have h2:=ne _<|aW (n:=r+j) (by lia)
  have h3:¬rk (l[r+j]'(by lia))<rk k:=λz=>T7 (h1.mp<|T5 z) (by lia)
  lia
end
noncomputable abbrev KA:=Array bT
noncomputable abbrev SM:=StateT bP nP
noncomputable def Uu:KA->KA->SM KA:=sortPriv% PySem.Builtin.mergeLo
noncomputable def Qq:Nat->SM Unit:=sortPriv% PySem.Builtin.setMinGallop
def u6(g:Nat):Qq g=modify λs=>oy (kindOf s) (be s) (bf s) g (fS s):=rfl
noncomputable abbrev dn(a b o:KA)(i j:Nat):KA:=o++a.extract i a.size++b.extract j b.size
noncomputable abbrev ls(a b o:KA)(i j:Nat):KA:=o++b.extract j b.size++a.extract i a.size
noncomputable abbrev T2:=Option KA×KA×Nat×Nat×Nat×Nat
noncomputable abbrev T3:=Option KA×KA×Nat×Nat×Nat×Nat×Nat
noncomputable abbrev T1:=Option KA×KA×Nat×Nat×Nat
noncomputable def F1(a b:KA)(g:Nat)(c:T2):SM (ForInStep T2):=do
 let o:=c.2.1
 let i:=c.2.2.1
 let j:=c.2.2.2.1
 let ca:=c.2.2.2.2.1
 let cb:=c.2.2.2.2.2
 let aa t <-lt' (<-fI b j) (<-fI a i)|return .done (aa<|dn a b o i j,o,i,j,ca,cb)
 if t then
  let o:=o.push<|<-fI b j
  let j:=j+1
  if j == b.size then return .done (aa<|dn a b o i j,o,i,j,0,cb+1)
  if cb+1>=g then return .done (ag,o,i,j,0,cb+1)
  return .yield (ag,o,i,j,0,cb+1)
 else
  let o:=o.push<|<-fI a i
  let i:=i+1
  if i+1 == a.size then return .done (aa<|ls a b o i j,o,i,j,ca+1,0)
  if ca+1>=g then return .done (ag,o,i,j,ca+1,0)
  return .yield (ag,o,i,j,ca+1,0)
noncomputable def G3(a b:KA)(g ca cb i:Nat)(o:KA)(j:Nat):SM (ForInStep T3):=do
 let o:=o.push<|<-fI a i
 let i:=i+1
 if i+1 == a.size then return .done (aa<|ls a b o i j,o,i,j,g,ca,cb)
 if ca<7&&cb<7 then return .done (ag,o,i,j,g,ca,cb)
 return .yield (ag,o,i,j,g,ca,cb)
noncomputable def G2(a b:KA)(g ca cb j:Nat)(o:KA)(i:Nat):SM (ForInStep T3):=do
 let o:=o.push<|<-fI b j
 let j:=j+1
 if j == b.size then return .done (aa<|dn a b o i j,o,i,j,g,ca,cb)
 let aa k <-Yf ai (<-fI a i) b j (b.size-j) 0|return .done (aa<|dn a b o i j,o,i,j,g,ca,cb)
 if k>0 then
  let o:=o++b.extract j (j+k)
  let j:=j+k
  if j == b.size then return .done (aa<|dn a b o i j,o,i,j,g,ca,k)
  else G3 a b g ca k i o j
 else G3 a b g ca k i o j
noncomputable def G1(a b:KA)(o:KA)(i j ca cb g:Nat):SM (ForInStep T3):=do
 Qq g
 let aa k <-Yf am (<-fI b j) a i (a.size-i) 0|return .done (aa<|dn a b o i j,o,i,j,g,ca,cb)
 if k>0 then
  let o:=o++a.extract i (i+k)
  let i:=i+k
  if i+1 == a.size then return .done (aa<|ls a b o i j,o,i,j,g,k,cb)
  else if i == a.size then return .done (aa<|dn a b o i j,o,i,j,g,k,cb)
  else G2 a b g k cb j o i
 else G2 a b g k cb j o i
noncomputable def F2(a b:KA)(c:T3):SM (ForInStep T3):=
 if c.2.2.2.2.1>1 then G1 a b c.2.1 c.2.2.1 c.2.2.2.1 c.2.2.2.2.2.1 c.2.2.2.2.2.2 (c.2.2.2.2.1-1)
 else G1 a b c.2.1 c.2.2.1 c.2.2.2.1 c.2.2.2.2.2.1 c.2.2.2.2.2.2 c.2.2.2.2.1
noncomputable def F0(a b:KA)(c:T1):SM (ForInStep T1):=do
 let d <-lm [0:a.size+b.size] ((ag,c.2.1,c.2.2.1,c.2.2.2.1,0,0):T2) λ_ d=>F1 a b c.2.2.2.2 d
 iG d.1 (λ_=>do
  oh "list.sort.gallop"
  let e <-lm [0:a.size+b.size] ((ag,d.2.1,d.2.2.1,d.2.2.2.1,c.2.2.2.2+1,d.2.2.2.2.1,d.2.2.2.2.2):T3) λ_ d=>F2 a b d
  iG e.1 (λ_=>do
   Qq (e.2.2.2.2.1+1)
   c6 (.yield (ag,e.2.1,e.2.2.1,e.2.2.2.1,e.2.2.2.2.1+1))) λr=>c6<|.done (aa r,e.2.1,e.2.2.1,e.2.2.2.1,e.2.2.2.2.1)) λr=>c6<|.done (aa r,d.2.1,d.2.2.1,d.2.2.2.1,c.2.2.2.2)
def J2(a b:KA):Uu a b=(do
 oh "list.sort.merge-lo"
 let y <-fI b 0
 if 1 == b.size then return dn a b #[y] 0 1
 if 0+1 == a.size then return ls a b #[y] 0 1
 let τ <-get
 let c <-lm [0:a.size+b.size] ((ag,#[y],0,1,gallopOf τ):T1) λ_ c=>F0 a b c
 iG c.1 (λ_=>nL "internal:list.sort.merge-bound") λr=>c6 r):=rfl
def XO(a:KA)(i:Nat):(a.extract i a.size).toList=a.toList.drop i:=by
 rw[gT,fJ,<-aF];exact cC (by rw[bx];exact aN _)
def yG(a:KA)(i k:Nat):(a.extract i<|i+k).toList=(a.toList.drop i).take k:=by
 rw[gT,fJ,Nat.add_sub_cancel_left]
def Z4{a:KA}{i:Nat}(h:i<a.size):a.toList.drop i=a[i]::a.toList.drop (i+1):=by
 rw[b9 (by simpa using h)];rfl
def td{B:Type}(l:List B)(n r:Nat):(l.drop n).take r++l.drop (n+r)=l.drop n:=by rw[<-iH,cL]
def ZL{a:KA}{i:Nat}(h:i<a.size):a[i]?=aa a[i]:=bj h
section
variable{prog:bG}{w:b0}{A:cZ}{E:ap->ax->Prop}{s:ax}{κ:fC}{In:bT->Prop}{rk:bT->Nat}
def ZB{B:Type}{c:Prop}[Decidable c]{x y:SM B}{Q:B->bP->Prop}{τ:bP}(h1:c->k9 (aS prog w) A E s x Q τ)(h2:¬c->k9 (aS prog w) A E s y Q τ):k9 (aS prog w) A E s (if c then x else y) Q τ:=by
 by_cases h:c
 .rw[T9 h];exact h1 h
 .rw[T8 h];exact h2 h
theorem xC(O:Od prog w A E s κ In rk){Q:Option Nat->bP->Prop}(hk:kindOf τ=κ)(ik:In k)(hi:i<ar.size)(ia:∀x∈ar.toList,In x)(so:Srt (lr rk) (ar.toList.drop i))(ne:∀x∈ar.toList.drop i,rk x≠rk k)
  (hq:∀r,i+r<=ar.size->(∀x∈(ar.toList.drop i).take r,rk x<rk k)->(∀x∈ar.toList.drop (i+r),rk k<rk x)->Q (aa r) τ):k9 (aS prog w) A E s (Yf lf k ar i (ar.size-i) 0) Q τ:=by
 have e:(ar.toList.drop i).take (ar.size-i)=ar.toList.drop i:=cC (by rw[bx,aF];exact aN _)
 refine xt O hk ik (Nat.sub_pos_of_lt hi) (mH<|Nat.add_sub_cancel'<|gg hi) ia (e.symm▸so) (e.symm▸ne) λr h1 h2 h3=>?_
 rw[e]at h2 h3;rw[iH]at h3;exact hq r (by lia) h2 h3
structure Mg(κ:fC)(In:bT->Prop)(rk:bT->Nat)(a b:KA)(T:List bT):Prop where
 nd:(T.map rk).Nodup
 ia:∀x∈a.toList,In x
 ib:∀x∈b.toList,In x
 last:∀y∈b.toList,∀x∈a.toList.drop (a.size-1),rk y<rk x
def Res(rk:bT->Nat)(T:List bT)(r:KA):Prop:=r.toList.Perm T/\Srt (lr rk) r.toList
abbrev Lo(rk:bT->Nat)(a b:KA)(T:List bT)(o:KA)(i j:Nat):Prop:=ML (lr rk) T o.toList (a.toList.drop i)<|b.toList.drop j
structure Iv(rk:bT->Nat)(a b:KA)(T:List bT)(o:KA)(i j:Nat):Prop where
 m:Lo rk a b T o i j
 hi:i+1<a.size
 hj:j<b.size
 z:o.size=i+j
variable{a b:KA}{T:List bT}
def Jn(h:Lo rk a b T o i j)(hj:(j == b.size)=ai):Res rk T (dn a b o i j):=by
 have hj:=beq_iff_eq.mp hj;unfold Lo at h;rw[hj,<-aF,dU]at h;have:=h.fin;unfold Res dn;rw[cu,cu,XO,XO,hj,<-aF,dU,bY];exact this
def je(h:Lo rk a b T o i j)(hi:(i == a.size)=ai):Res rk T (dn a b o i j):=by
 have hi:=beq_iff_eq.mp hi;unfold Lo at h;rw[hi,<-aF,dU]at h;have:=h.swap.fin;unfold Res dn;rw[cu,cu,XO,XO,hi,<-aF,dU,bY];exact this
theorem Jq(G:Mg κ In rk a b T)(h:Lo rk a b T o i j)(hi:(i+1 == a.size)=ai):Res rk T (ls a b o i j):=by
 have hi:=beq_iff_eq.mp hi;have e:a.size-1=i:=by lia
 have:=(ML.bs (by rw[bY];exact h) λy hy x hx=>G.last y (cf hy) x<|by rw[e];exact hx).fin
 unfold Res ls;rw[cu,cu,XO,XO];exact this
def qF(h:Lo rk a b T o i j)(hj:j<b.size)(hy:∀x∈a.toList.drop i,rk b[j]<rk x):Lo rk a b T (o.push b[j]) i (j+1):=by
 unfold Lo at h ⊢;rw[Z4 hj]at h;rw[eB];exact ML.bs h λx hx y hy'=>by rw[bh.mp hx];exact hy y hy'
def Zbr(h:Lo rk a b T o i j)(hi:i<a.size)(hx:∀y∈b.toList.drop j,rk a[i]<rk y):Lo rk a b T (o.push a[i]) (i+1) j:=by
 unfold Lo at h ⊢;rw[Z4 hi]at h;rw[eB];exact ML.as h λx hx' y hy'=>by rw[bh.mp hx'];exact hx y hy'
def xo(h:Srt (lr rk) (x::l))(hx:rk y<rk x):∀z∈x::l,rk y<rk z:=λz hz=>by
 rcases aB.mp hz with rfl|hz
 .exact hx
 .exact dq hx<|(aV.mp h).1 z hz
def V0(h:m<n)(q:¬(m+1 == n)=ai):m+1<n:=f6 h λz=>q<|beq_iff_eq.mpr z
theorem ZdT(O:Od prog w A E s κ In rk)(G:Mg κ In rk a b T){g ca cb:Nat}{r0:Option KA}{τ:bP}{Q:ForInStep T2->bP->Prop}(hk:kindOf τ=κ)(I:Iv rk a b T o i j)
  (hd:∀r c,Res rk T r->Q (.done (aa r,c)) τ)(hb:∀o' i' j' ca cb,Iv rk a b T o' i' j'->o'.size=o.size+1->Q (.done (ag,o',i',j',ca,cb)) τ/\Q (.yield (ag,o',i',j',ca,cb)) τ):k9 (aS prog w) A E s (F1 a b g (r0,o,i,j,ca,cb)) Q τ:=by
 have hi:=dL I.hi;have ha:a[i]∈a.toList.drop i:=by rw[Z4 hi];exact al ..
 have hb':b[j]'I.hj∈b.toList.drop j:=by rw[Z4 I.hj];exact al ..
 have sa:=I.m.sa;have sb:=I.m.sb;rw[Z4 hi]at sa;rw[Z4 I.hj]at sb;refine aI<|ZC (ZL I.hj)<|aI<|ZC (ZL hi)<|aI<|O.ask (G.ib _<|cf hb') (G.ia _<|cf ha) hk ?_;by_cases c:rk (b[j]'I.hj)<rk a[i]
 .rw[T5 c]
  refine aI<|ZC (ZL I.hj) ?_;have m:=qF I.m I.hj (by rw[Z4 hi];exact xo sa c)
  have z:(o.push<|b[j]'I.hj).size=o.size+1:=dM ..;refine ZB (λq=>aQ<|hd _ _<|Jn m q) λq=>?_
  have h:=hb _ _ _ 0 (cb+1) #[m,I.hi,V0 I.hj q,by rw[z,I.z];lia] z
  exact ZB (λ_=>aQ h.1) λ_=>aQ h.2
 .rw[T4 c]
  refine aI<|ZC (ZL hi) ?_;have c':=f6 (dC c)<|I.m.ne G.nd ha hb';have m:=Zbr I.m hi (by rw[Z4 I.hj];exact xo sb c')
  have z:(o.push a[i]).size=o.size+1:=dM ..;refine ZB (λq=>aQ<|hd _ _<|Jq G m q) λq=>?_
  have h:=hb _ _ _ (ca+1) 0 #[m,V0 I.hi q,I.hj,by rw[z,I.z];lia] z
  exact ZB (λ_=>aQ h.1) λ_=>aQ h.2
theorem Sg.trans(h:Sg s1 s2)(k:Sg s2 s3):Sg s1 s3:=#[k.1.trans h.1,k.2.1.trans h.2.1,k.2.2.1.trans h.2.2.1,k.2.2.2.trans h.2.2.2]
def VO{Q:Unit->bP->Prop}(h:∀st',Sg τ st'->Q () st'):k9 (aS prog w) A E s (Qq g) Q τ:=by
 rw[u6];exact eX<|h _ #[rfl,rfl,rfl,rfl]
section
variable(O:Od prog w A E s κ In rk)(G:Mg κ In rk a b T)
include O G
theorem Zbq{g ca cb:Nat}{τ:bP}(m:Lo rk a b T o i j)(hi:i+1<a.size)(hj:j<b.size)(z:o.size=i+j)(hx:∀y∈b.toList.drop j,rk a[i]<rk y)
  (hd:∀r c,Res rk T r->Q (.done (aa r,c)) τ)(hb:∀o' i' j' g ca cb,Iv rk a b T o' i' j'->o'.size=o.size+1->Q (.done (ag,o',i',j',g,ca,cb)) τ/\Q (.yield (ag,o',i',j',g,ca,cb)) τ):k9 (aS prog w) A E s (G3 a b g ca cb i o j) Q τ:=by
 have hi':=dL hi;refine aI<|ZC (ZL hi') ?_;have m:=Zbr m hi' hx;have z':(o.push a[i]).size=o.size+1:=dM ..;refine ZB (λq=>aQ<|hd _ _<|Jq G m q) λq=>?_
 have h:=hb _ _ _ g ca cb #[m,V0 hi q,hj,by rw[z',z];lia] z'
 exact ZB (λ_=>aQ h.1) λ_=>aQ h.2
theorem ZbF{g ca cb:Nat}{τ:bP}(hk:kindOf τ=κ)(m:Lo rk a b T o i j)(hi:i+1<a.size)(hj:j<b.size)(z:o.size=i+j)(hy:∀x∈a.toList.drop i,rk b[j]<rk x)
  (hd:∀r c,Res rk T r->Q (.done (aa r,c)) τ)(hb:∀o' i' j' g ca cb,Iv rk a b T o' i' j'->o.size<o'.size->Q (.done (ag,o',i',j',g,ca,cb)) τ/\Q (.yield (ag,o',i',j',g,ca,cb)) τ):k9 (aS prog w) A E s (G2 a b g ca cb j o i) Q τ:=by
 have hi':=dL hi;refine aI<|ZC (ZL hj) ?_;have m:=qF m hj hy;have z':(o.push b[j]).size=o.size+1:=dM ..;refine ZB (λq=>aQ<|hd _ _<|Jn m q) λq=>?_
 have hj:=V0 hj q;have ha:a[i]∈a.toList.drop i:=by rw[Z4 hi'];exact al ..
 refine aI<|ZC (ZL hi')<|aI<|xC O hk (G.ia _<|cf ha) hj G.ib m.sb (λy hy=>(m.ne G.nd ha hy).symm) λr hr h1 h2=>?_
 refine ZB (λ_=>?_) λc=>?_
 .have m2:Lo rk a b T (o.push b[j]++b.extract (j+1) (j+1+r)) i (j+1+r):=by
   unfold Lo;rw[cu,yG];refine ML.bs ?_ λy hy x hx=>?_
   .rw[td];exact m
   .have sa:=m.sa
    rw[Z4 hi']at sa hx;exact xo sa (h1 y hy) x hx
  have z2:(o.push b[j]++b.extract (j+1) (j+1+r)).size=o.size+1+r:=by rw[gx,z',f7];lia
  refine ZB (λq=>aQ<|hd _ _<|Jn m2 q) λq=>?_
  have hj2:=f6 hr λz=>q<|beq_iff_eq.mpr z
  exact Zbq O G m2 hi hj2 (by rw[z2,z];lia) h2 hd λo' i' j' g ca cb I e=>hb o' i' j' g ca cb I (by lia)
 .have e:r=0:=by lia
  subst e;exact Zbq O G m hi hj (by rw[z',z];lia) h2 hd λo' i' j' g ca cb I e=>hb o' i' j' g ca cb I (by lia)
theorem Zbw{g ca cb:Nat}{τ:bP}(hk:kindOf τ=κ)(I:Iv rk a b T o i j)
  (hd:∀r c st',Sg τ st'->Res rk T r->Q (.done (aa r,c)) st')(hb:∀o' i' j' g ca cb st',Sg τ st'->Iv rk a b T o' i' j'->o.size<o'.size->Q (.done (ag,o',i',j',g,ca,cb)) st'/\Q (.yield (ag,o',i',j',g,ca,cb)) st'):k9 (aS prog w) A E s (G1 a b o i j ca cb g) Q τ:=by
 obtain⟨m,hi,hj,z⟩:=I;have hi':=dL hi;have hb':b[j]∈b.toList.drop j:=by rw[Z4 hj];exact al ..
 refine aI<|VO λst' sg=>aI<|ZC (ZL hj)<|aI<|xC O (sg.1.trans hk) (G.ib _<|cf hb') hi' G.ia m.sa (λx hx=>m.ne G.nd hx hb') λr hr h1 h2=>?_
 refine ZB (λ_=>?_) λc=>?_
 .have m2:Lo rk a b T (o++a.extract i (i+r)) (i+r) j:=by
   unfold Lo;rw[cu,yG];refine ML.as ?_ λx hx y hy=>?_
   .rw[td];exact m
   .have sb:=m.sb
    rw[Z4 hj]at sb hy;exact xo sb (h1 x hx) y hy
  have z2:(o++a.extract i (i+r)).size=o.size+r:=by rw[gx,f7];lia
  refine ZB (λq=>aQ<|hd _ _ st' sg<|Jq G m2 q) λq=>ZB (λq=>aQ<|hd _ _ st' sg<|je m2 q) λq2=>?_
  have q2:i+r≠a.size:=λz=>q2<|beq_iff_eq.mpr z
  exact ZbF O G (sg.1.trans hk) m2 (V0 (by lia) q) hj (by rw[z2,z];lia) h2 (λr c=>hd r c st' sg) λo' i' j' g ca cb I e=>hb o' i' j' g ca cb st' sg I (by lia)
 .have e:r=0:=by lia
  subst e;exact ZbF O G (sg.1.trans hk) m hi hj z h2 (λr c=>hd r c st' sg) λo' i' j' g ca cb I e=>hb o' i' j' g ca cb st' sg I (by lia)
theorem Zd7{g ca cb:Nat}{r0:Option KA}{τ:bP}(hk:kindOf τ=κ)(I:Iv rk a b T o i j)
  (hd:∀r c st',Sg τ st'->Res rk T r->Q (.done (aa r,c)) st')(hb:∀o' i' j' g ca cb st',Sg τ st'->Iv rk a b T o' i' j'->o.size<o'.size->Q (.done (ag,o',i',j',g,ca,cb)) st'/\Q (.yield (ag,o',i',j',g,ca,cb)) st'):k9 (aS prog w) A E s (F2 a b (r0,o,i,j,g,ca,cb)) Q τ:=by
 exact ZB (λ_=>Zbw O G hk I hd hb) λ_=>Zbw O G hk I hd hb
theorem ZdQ{Q:ForInStep T1->bP->Prop}(hk:kindOf τ=κ)(I:Iv rk a b T o i j)
  (hd:∀r c st',Sg τ st'->Res rk T r->Q (.done (aa r,c)) st')(hy:∀o' i' j' g st',Sg τ st'->Iv rk a b T o' i' j'->o.size<o'.size->Q (.yield (ag,o',i',j',g)) st'):k9 (aS prog w) A E s (F0 a b (r0,o,i,j,g)) Q τ:=by
 refine aI (eo (cr
  (I:=λx (c:T2) st'=>st'=τ/\c.1=ag/\Iv rk a b T c.2.1 c.2.2.1 c.2.2.2.1/\o.size+x<=c.2.1.size)
  (Q:=λ(c:T2) st'=>st'=τ/\((∃r,c.1=aa r/\Res rk T r)\/c.1=ag/\Iv rk a b T c.2.1 c.2.2.1 c.2.2.2.1/\o.size<c.2.1.size)) ?_ ?_ #[rfl,rfl,I,aN _]) ?_)
 .rintro x ⟨r,o',i',j',ca,cb⟩ st' _ _ ⟨rfl,rfl,I',hz⟩
  exact ZdT O G hk I' (λr c h=>#[rfl,.inl #[r,rfl,h]]) λo2 i2 j2 ca cb I2 e=>#[#[rfl,.inr #[rfl,I2,by dsimp only at hz ⊢;lia]],rfl,rfl,I2,by dsimp only at hz ⊢;lia]
 .rintro ⟨r,o',i',j',ca,cb⟩ st' ⟨rfl,rfl,I',hz⟩
  have:=I'.hi;have:=I'.hj;have:=I'.z;lia
 .rintro ⟨r,o',i',j',ca,cb⟩ st' ⟨rfl,⟨r',rfl,h⟩|⟨rfl,I',hz⟩⟩
  .exact aQ<|hd _ _ _ #[rfl,rfl,rfl,rfl] h
  .dsimp only at I' hz
   refine aI (XW (aI (eo (cr
    (I:=λx (c:T3) st''=>Sg st' st''/\c.1=ag/\Iv rk a b T c.2.1 c.2.2.1 c.2.2.2.1/\o'.size+x<=c.2.1.size)
    (Q:=λ(c:T3) st''=>Sg st' st''/\((∃r,c.1=aa r/\Res rk T r)\/c.1=ag/\Iv rk a b T c.2.1 c.2.2.1 c.2.2.2.1/\o'.size<c.2.1.size)) ?_ ?_ #[#[rfl,rfl,rfl,rfl],rfl,I',aN _]) ?_)))
   .rintro x ⟨r,o2,i2,j2,g,ca,cb⟩ st2 _ _ ⟨sg,rfl,I2,hz2⟩
    dsimp only at I2 hz2
    exact Zd7 O G (sg.1.trans hk) I2 (λr c st3 s3 h=>#[sg.trans s3,.inl #[r,rfl,h]]) λo3 i3 j3 g ca cb st3 s3 I3 e=>#[#[sg.trans s3,.inr #[rfl,I3,by dsimp only;lia]],sg.trans s3,rfl,I3,by dsimp only;lia]
   .rintro ⟨r,o2,i2,j2,g,ca,cb⟩ st2 ⟨sg,rfl,I2,hz2⟩
    have:=I2.hi;have:=I2.hj;have:=I2.z;lia
   .rintro ⟨r,o2,i2,j2,g,ca,cb⟩ st2 ⟨sg,⟨r',rfl,h⟩|⟨rfl,I2,hz2⟩⟩
    .exact aQ<|hd _ _ _ sg h
    .exact aI<|VO λst3 s3=>aQ<|hy _ _ _ _ _ (sg.trans s3) I2<|dq hz hz2
theorem zD{τ:bP}{Q:KA->bP->Prop}(hk:kindOf τ=κ)(ha:0<a.size)(hb:0<b.size)(sa:Srt (lr rk) a.toList)(sb:Srt (lr rk) b.toList)(hT:(a.toList++b.toList).Perm T)(h0:∀x∈a.toList,rk b[0]<rk x)
  (hq:∀r st',Sg τ st'->Res rk T r->Q r st'):k9 (aS prog w) A E s (Uu a b) Q τ:=by
 rw[J2];refine aI<|XW<|aI<|ZC (ZL hb) ?_;have m0:Lo rk a b T #[] 0 0:=#[by simpa using hT,.nil,by simpa using sa,by simpa using sb,λx hx=>by cases hx]
 have m:=qF m0 hb (by simpa using h0)
 have sg0:Sg τ τ:=#[rfl,rfl,rfl,rfl];refine ZB (λq=>aQ<|hq _ _ sg0<|Jn m q) λq1=>ZB (λq=>aQ<|hq _ _ sg0<|Jq G m q) λq2=>aI (gy (aI (eo (cr
  (I:=λx (c:T1) st''=>Sg τ st''/\c.1=ag/\Iv rk a b T c.2.1 c.2.2.1 c.2.2.2.1/\x<=c.2.1.size)
  (Q:=λ(c:T1) st''=>Sg τ st''/\∃r,c.1=aa r/\Res rk T r) ?_ ?_ #[sg0,rfl,#[m,V0 ha q2,V0 hb q1,rfl],dz _]) ?_)))
 .rintro x ⟨r,o,i,j,g⟩ st2 _ _ ⟨sg,rfl,I,hz⟩
  dsimp only at I hz
  exact ZdQ O G (sg.1.trans hk) I (λr c st3 s3 h=>#[sg.trans s3,r,rfl,h]) λo3 i3 j3 g st3 s3 I3 e=>#[sg.trans s3,rfl,I3,by dsimp only;lia]
 .rintro ⟨r,o,i,j,g⟩ st2 ⟨sg,rfl,I,hz⟩
  have:=I.hi;have:=I.hj;have:=I.z;lia
 .rintro ⟨r,o,i,j,g⟩ st2 ⟨sg,r',rfl,h⟩
  exact aQ<|hq _ _ sg h
end
end
noncomputable def Uh:KA->KA->SM KA:=sortPriv% PySem.Builtin.mergeHi
noncomputable abbrev dh(a b o:KA)(i j:Nat):KA:=a.extract 0 i++b.extract 0 j++o.reverse
noncomputable abbrev fh(a b o:KA)(i j:Nat):KA:=b.extract 0 j++a.extract 0 i++o.reverse
noncomputable abbrev U1:=Option KA×Nat×Nat×KA×Nat
noncomputable abbrev U2:=Option KA×Nat×Nat×KA×Nat×Nat
noncomputable abbrev U3:=Option KA×Nat×Nat×KA×Nat×Nat×Nat
noncomputable def H1(a b:KA)(g:Nat)(c:U2):SM (ForInStep U2):=do
 let i:=c.2.1
 let j:=c.2.2.1
 let o:=c.2.2.2.1
 let ca:=c.2.2.2.2.1
 let cb:=c.2.2.2.2.2
 let aa t <-lt' (<-fI b (j-1)) (<-fI a (i-1))|return .done (aa<|dh a b o i j,i,j,o,ca,cb)
 if t then
  let i:=i-1
  let o:=o.push<|<-fI a i
  if i == 0 then return .done (aa<|dh a b o i j,i,j,o,ca+1,0)
  if ca+1>=g then return .done (ag,i,j,o,ca+1,0)
  return .yield (ag,i,j,o,ca+1,0)
 else
  let j:=j-1
  let o:=o.push<|<-fI b j
  if j == 1 then return .done (aa<|fh a b o i j,i,j,o,0,cb+1)
  if cb+1>=g then return .done (ag,i,j,o,0,cb+1)
  return .yield (ag,i,j,o,0,cb+1)
noncomputable def K3(a b:KA)(g ca cb i:Nat)(o:KA)(j:Nat):SM (ForInStep U3):=do
 let i:=i-1
 let o:=o.push<|<-fI a i
 if i == 0 then return .done (aa<|dh a b o i j,i,j,o,g,ca,cb)
 if ca<7&&cb<7 then return .done (ag,i,j,o,g,ca,cb)
 return .yield (ag,i,j,o,g,ca,cb)
noncomputable def K2(a b:KA)(g ca cb j:Nat)(o:KA)(i:Nat):SM (ForInStep U3):=do
 let j:=j-1
 let o:=o.push<|<-fI b j
 if j == 1 then return .done (aa<|fh a b o i j,i,j,o,g,ca,cb)
 let aa t <-Yf ai (<-fI a (i-1)) b 0 j (j-1)|return .done (aa<|dh a b o i j,i,j,o,g,ca,cb)
 if j-t>0 then
  let o:=o++(b.extract t j).reverse
  if t == 1 then return .done (aa<|fh a b o i t,i,t,o,g,ca,j-t)
  else if t == 0 then return .done (aa<|dh a b o i t,i,t,o,g,ca,j-t)
  else K3 a b g ca (j-t) i o t
 else K3 a b g ca (j-t) i o j
noncomputable def K1(a b:KA)(o:KA)(i j ca cb g:Nat):SM (ForInStep U3):=do
 Qq g
 let aa t <-Yf am (<-fI b (j-1)) a 0 i (i-1)|return .done (aa<|dh a b o i j,i,j,o,g,ca,cb)
 if i-t>0 then
  let o:=o++(a.extract t i).reverse
  if t == 0 then return .done (aa<|dh a b o t j,t,j,o,g,i-t,cb)
  else K2 a b g (i-t) cb j o t
 else K2 a b g (i-t) cb j o i
noncomputable def H2(a b:KA)(c:U3):SM (ForInStep U3):=
 if c.2.2.2.2.1>1 then K1 a b c.2.2.2.1 c.2.1 c.2.2.1 c.2.2.2.2.2.1 c.2.2.2.2.2.2 (c.2.2.2.2.1-1)
 else K1 a b c.2.2.2.1 c.2.1 c.2.2.1 c.2.2.2.2.2.1 c.2.2.2.2.2.2 c.2.2.2.2.1
noncomputable def TT(n:Nat)(f1:Nat->U2->SM (ForInStep U2))(f2:U3->SM (ForInStep U3))(c:U1):SM (ForInStep U1):=do
 let d <-lm [0:n] ((ag,c.2.1,c.2.2.1,c.2.2.2.1,0,0):U2) λ_ d=>f1 c.2.2.2.2 d
 iG d.1 (λ_=>do
  oh "list.sort.gallop"
  let e <-lm [0:n] ((ag,d.2.1,d.2.2.1,d.2.2.2.1,c.2.2.2.2+1,d.2.2.2.2.1,d.2.2.2.2.2):U3) λ_ d=>f2 d
  iG e.1 (λ_=>do
   Qq (e.2.2.2.2.1+1)
   c6 (.yield (ag,e.2.1,e.2.2.1,e.2.2.2.1,e.2.2.2.2.1+1))) λr=>c6<|.done (aa r,e.2.1,e.2.2.1,e.2.2.2.1,e.2.2.2.2.1)) λr=>c6<|.done (aa r,d.2.1,d.2.2.1,d.2.2.2.1,c.2.2.2.2)
def GU(a b:KA):Uh a b=(do
 oh "list.sort.merge-hi"
 let x <-fI a (a.size-1)
 if a.size-1 == 0 then return dh a b #[x] (a.size-1) b.size
 if b.size == 1 then return fh a b #[x] (a.size-1) b.size
 let τ <-get
 let c <-lm [0:a.size+b.size] ((ag,a.size-1,b.size,#[x],gallopOf τ):U1) λ_ c=>TT (a.size+b.size) (H1 a b) (H2 a b) c
 iG c.1 (λ_=>nL "internal:list.sort.merge-bound") λr=>c6 r):=rfl
def vW{a:KA}{t i:Nat}:(a.extract t i).toList=(a.toList.take i).drop t:=by
 rw[gT,fJ,List.drop_take]
noncomputable abbrev rv(a:KA)(i:Nat):List bT:=(a.toList.take i).reverse
def Wv{a:KA}{i:Nat}(h:0<i)(h2:i<=a.size):rv a i=a[i-1]::rv a (i-1):=by
 obtain⟨k,rfl⟩:∃k,i=k+1:=#[i-1,by lia]
 show(a.toList.take<|k+1).reverse=_;rw[List.take_succ_eq_append_getElem (by rw[aF];exact h2),lJ];rfl
def qO{a:KA}{t i:Nat}(h:t<=i):rv a i=((a.toList.take i).drop t).reverse++rv a t:=by
 rw[<-lJ];have:=cL t<|a.toList.take i;rw[oz,kT h]at this;rw[this]
section
variable{prog:bG}{w:b0}{A:cZ}{E:ap->ax->Prop}{s:ax}{κ:fC}{In:bT->Prop}{rk:bT->Nat}{a b:KA}{T:List bT}
abbrev Hi(rk:bT->Nat)(a b:KA)(T:List bT)(o:KA)(i j:Nat):Prop:=ML (gr rk) T o.toList (rv a i)<|rv b j
structure Ih(rk:bT->Nat)(a b:KA)(T:List bT)(o:KA)(i j:Nat):Prop where
 m:Hi rk a b T o i j
 i0:0<i
 i1:i<=a.size
 j0:1<j
 j1:j<=b.size
 z:o.size+i+j=a.size+b.size
def QC{l:List bT}{r:KA}(h:l.Perm T/\Srt (gr rk) l)(e:r.toList=l.reverse):Res rk T r:=by
 unfold Res;rw[e];exact#[(eC l).trans h.1,d6.mpr h.2]
def j8(h:Hi rk a b T o i j)(hi:(i == 0)=ai):Res rk T (dh a b o i j):=by
 cases beq_iff_eq.mp hi;refine QC (ML.fin h.swap) ?_;simp
def Zel(h:Hi rk a b T o i j)(hj:(j == 0)=ai):Res rk T (dh a b o i j):=by
 cases beq_iff_eq.mp hj;refine QC (ML.fin h) ?_;simp
def QG(fs:∀x∈a.toList,∀y∈b.toList.take 1,rk y<rk x)(h:Hi rk a b T o i j)(hj:(j == 1)=ai):Res rk T (fh a b o i j):=by
 cases beq_iff_eq.mp hj;have:=(ML.as (by rw[bY];exact h) λx hx y hy=>fs x (dJ<|eQ.mp hx) y<|eQ.mp hy).swap.fin
 refine QC this ?_;simp
def uG(h:Hi rk a b T o i j)(i0:0<i)(i1:i<=a.size)(hx:∀y∈rv b j,rk y<rk a[i-1]):Hi rk a b T (o.push a[i-1]) (i-1) j:=by
 unfold Hi at h ⊢;rw[Wv i0 i1]at h;rw[eB];exact ML.as h λx hx' y hy'=>by rw[bh.mp hx'];exact hx y hy'
def Zbz(h:Hi rk a b T o i j)(j0:0<j)(j1:j<=b.size)(hx:∀y∈rv a i,rk y<rk b[j-1]):Hi rk a b T (o.push b[j-1]) i (j-1):=by
 unfold Hi at h ⊢;rw[Wv j0 j1]at h;rw[eB];exact ML.bs h λx hx' y hy'=>by rw[bh.mp hx'];exact hx y hy'
def y6{l:List bT}{x y:bT}(h:Srt (gr rk) (x::l))(hx:rk x<rk y):∀z∈x::l,rk z<rk y:=λz hz=>by
 rcases aB.mp hz with rfl|hz
 .exact hx
 .exact dq ((aV.mp h).1 z hz) hx
theorem y3(O:Od prog w A E s κ In rk){lf:Bool}{k:bT}{ar:KA}{n:Nat}{τ:bP}{Q:Option Nat->bP->Prop}(hk:kindOf τ=κ)(ik:In k)(hn:0<n)(h1:n<=ar.size)(ia:∀x∈ar.toList,In x)(so:Srt (gr rk) (rv ar n))(ne:∀x∈rv ar n,rk x≠rk k)
  (hq:∀r,r<=n->(∀x∈rv ar r,rk x<rk k)->(∀x∈((ar.toList.take n).drop r).reverse,rk k<rk x)->Q (aa r) τ):k9 (aS prog w) A E s (Yf lf k ar 0 n<|n-1) Q τ:=by
 refine xt O hk ik (Nat.sub_lt hn Nat.one_pos) (by lia) ia (d6.mp so) (λx hx=>ne x<|eQ.mpr hx) λr h2 h3 h4=>hq r h2 (λx hx=>h3 x ?_) λx hx=>h4 x<|eQ.mp hx
 have hx:=eQ.mp hx;rw[oz,kT h2];exact hx
def VN{a:KA}{i:Nat}(i0:0<i)(i1:i<=a.size):a[i-1]∈rv a i:=by rw[Wv i0 i1];exact al ..
def GI{a:KA}{i:Nat}{x:bT}(h:x∈rv a i):x∈a.toList:=dJ<|eQ.mp h
section
variable(O:Od prog w A E s κ In rk)(G:Mg κ In rk a b T)(fs:∀x∈a.toList,∀y∈b.toList.take 1,rk y<rk x)
include O G fs
theorem ZdC{g ca cb:Nat}{r0:Option KA}{τ:bP}{Q:ForInStep U2->bP->Prop}(hk:kindOf τ=κ)(I:Ih rk a b T o i j)
  (hd:∀r c,Res rk T r->Q (.done (aa r,c)) τ)(hb:∀o' i' j' ca cb,Ih rk a b T o' i' j'->o'.size=o.size+1->Q (.done (ag,i',j',o',ca,cb)) τ/\Q (.yield (ag,i',j',o',ca,cb)) τ):k9 (aS prog w) A E s (H1 a b g (r0,i,j,o,ca,cb)) Q τ:=by
 obtain⟨m,i0,i1,j0,j1,z⟩:=I;have j0':=dL j0;have hja:j-1<b.size:=by lia
 have hia:i-1<a.size:=by lia
 have ha:=VN i0 i1;have hb':=VN j0' j1;have sa:=m.sa;have sb:=m.sb;rw[Wv i0 i1]at sa;rw[Wv j0' j1]at sb;refine aI<|ZC (ZL hja)<|aI<|ZC (ZL hia)<|aI<|O.ask (G.ib _<|GI hb') (G.ia _<|GI ha) hk ?_;by_cases c:rk b[j-1]<rk a[i-1]
 .rw[T5 c]
  refine aI<|ZC (ZL hia) ?_;have m:=uG m i0 i1 (by rw[Wv j0' j1];exact y6 sb c)
  have z':(o.push a[i-1]).size=o.size+1:=dM ..;refine ZB (λq=>aQ<|hd _ _<|j8 m q) λq=>?_
  have q:i-1≠0:=λz=>q<|beq_iff_eq.mpr z
  have h:=hb _ _ _ (ca+1) 0 #[m,by lia,by lia,j0,j1,by lia] z'
  exact ZB (λ_=>aQ h.1) λ_=>aQ h.2
 .rw[T4 c]
  refine aI<|ZC (ZL hja) ?_;have c':=f6 (dC c)<|m.ne G.nd ha hb';have m:=Zbz m j0' j1 (by rw[Wv i0 i1];exact y6 sa c')
  have z':(o.push b[j-1]).size=o.size+1:=dM ..;refine ZB (λq=>aQ<|hd _ _<|QG fs m q) λq=>?_
  have q:j-1≠1:=λz=>q<|beq_iff_eq.mpr z
  have h:=hb _ _ _ 0 (cb+1) #[m,i0,i1,by lia,by lia,by lia] z'
  exact ZB (λ_=>aQ h.1) λ_=>aQ h.2
theorem Zbu{g ca cb:Nat}{τ:bP}(I:Ih rk a b T o i j)(hx:∀y∈rv b j,rk y<rk (a[i-1]'(by have:=I.i0;have:=I.i1;lia)))
  (hd:∀r c,Res rk T r->Q (.done (aa r,c)) τ)(hb:∀o' i' j' g ca cb,Ih rk a b T o' i' j'->o'.size=o.size+1->Q (.done (ag,i',j',o',g,ca,cb)) τ/\Q (.yield (ag,i',j',o',g,ca,cb)) τ):k9 (aS prog w) A E s (K3 a b g ca cb i o j) Q τ:=by
 obtain⟨m,i0,i1,j0,j1,z⟩:=I;refine aI<|ZC (ZL<|by lia) ?_
 have m:=uG m i0 i1 hx;have z':(o.push a[i-1]).size=o.size+1:=dM ..;refine ZB (λq=>aQ<|hd _ _<|j8 m q) λq=>?_
 have q:i-1≠0:=λz=>q<|beq_iff_eq.mpr z
 have h:=hb _ _ _ g ca cb #[m,by lia,by lia,j0,j1,by lia] z'
 exact ZB (λ_=>aQ h.1) λ_=>aQ h.2
theorem Zbi{g ca cb:Nat}{τ:bP}(hk:kindOf τ=κ)(I:Ih rk a b T o i j)(hy:∀y∈rv a i,rk y<rk (b[j-1]'(by have:=I.j0;have:=I.j1;lia)))
  (hd:∀r c,Res rk T r->Q (.done (aa r,c)) τ)(hb:∀o' i' j' g ca cb,Ih rk a b T o' i' j'->o.size<o'.size->Q (.done (ag,i',j',o',g,ca,cb)) τ/\Q (.yield (ag,i',j',o',g,ca,cb)) τ):k9 (aS prog w) A E s (K2 a b g ca cb j o i) Q τ:=by
 obtain⟨m,i0,i1,j0,j1,z⟩:=I;refine aI<|ZC (ZL<|by lia) ?_
 have m:=Zbz m (dL j0) j1 hy;have z':(o.push b[j-1]).size=o.size+1:=dM ..;refine ZB (λq=>aQ<|hd _ _<|QG fs m q) λq=>?_
 have q:j-1≠1:=λz=>q<|beq_iff_eq.mpr z
 have ha:=VN i0 i1;refine aI<|ZC (ZL<|by lia)<|aI<|y3 O hk (G.ia _<|GI ha) (by lia) (by lia) G.ib m.sb (λy hy=>(m.ne G.nd ha hy).symm) λr hr h1 h2=>?_
 refine ZB (λc=>?_) λc=>?_
 .have m2:Hi rk a b T (o.push b[j-1]++(b.extract r<|j-1).reverse) i r:=by
   unfold Hi;rw[cu,lu,vW];refine ML.bs ?_ λy hy x hx=>?_
   .rw[<-qO hr];exact m
   .have sa:=m.sa
    rw[Wv i0 i1]at sa hx;exact y6 sa (h2 y hy) x hx
  have z2:(o.push b[j-1]++(b.extract r<|j-1).reverse).size=o.size+1+(j-1-r):=by rw[gx,z',mq,f7];lia
  refine ZB (λq=>aQ<|hd _ _<|QG fs m2 q) λq1=>ZB (λq=>aQ<|hd _ _<|Zel m2 q) λq2=>?_
  have q1:r≠1:=λz=>q1<|beq_iff_eq.mpr z
  have q2:r≠0:=λz=>q2<|beq_iff_eq.mpr z
  exact Zbu O G fs #[m2,i0,i1,by lia,by lia,by lia] h1 hd λo' i' j' g ca cb I e=>hb o' i' j' g ca cb I (by lia)
 .have e:r=j-1:=by lia
  subst e;exact Zbu O G fs #[m,i0,i1,by lia,by lia,by lia] h1 hd λo' i' j' g ca cb I e=>hb o' i' j' g ca cb I (by lia)
theorem ZbD{g ca cb:Nat}{τ:bP}(hk:kindOf τ=κ)(I:Ih rk a b T o i j)
  (hd:∀r c st',Sg τ st'->Res rk T r->Q (.done (aa r,c)) st')(hb:∀o' i' j' g ca cb st',Sg τ st'->Ih rk a b T o' i' j'->o.size<o'.size->Q (.done (ag,i',j',o',g,ca,cb)) st'/\Q (.yield (ag,i',j',o',g,ca,cb)) st'):k9 (aS prog w) A E s (K1 a b o i j ca cb g) Q τ:=by
 obtain⟨m,i0,i1,j0,j1,z⟩:=I;have j0':=dL j0;have hb':=VN j0' j1;refine aI<|VO λst' sg=>aI<|ZC (ZL<|by lia)<|aI<|y3 O (sg.1.trans hk) (G.ib _<|GI hb') i0 i1 G.ia m.sa (λx hx=>m.ne G.nd hx hb') λr hr h1 h2=>?_
 refine ZB (λc=>?_) λc=>?_
 .have m2:Hi rk a b T (o++(a.extract r i).reverse) r j:=by
   unfold Hi;rw[cu,lu,vW];refine ML.as ?_ λx hx y hy=>?_
   .rw[<-qO hr];exact m
   .have sb:=m.sb
    rw[Wv j0' j1]at sb hy;exact y6 sb (h2 x hx) y hy
  have z2:(o++(a.extract r i).reverse).size=o.size+(i-r):=by rw[gx,mq,f7];lia
  refine ZB (λq=>aQ<|hd _ _ st' sg<|j8 m2 q) λq=>?_
  have q:r≠0:=λz=>q<|beq_iff_eq.mpr z
  exact Zbi O G fs (sg.1.trans hk) #[m2,by lia,by lia,j0,j1,by lia] h1 (λr c=>hd r c st' sg) λo' i' j' g ca cb I e=>hb o' i' j' g ca cb st' sg I (by lia)
 .have e:r=i:=by lia
  subst e;exact Zbi O G fs (sg.1.trans hk) #[m,i0,i1,j0,j1,z] h1 (λr c=>hd r c st' sg) λo' i' j' g ca cb I e=>hb o' i' j' g ca cb st' sg I (by lia)
theorem Zdq{g ca cb:Nat}{r0:Option KA}{τ:bP}(hk:kindOf τ=κ)(I:Ih rk a b T o i j)
  (hd:∀r c st',Sg τ st'->Res rk T r->Q (.done (aa r,c)) st')(hb:∀o' i' j' g ca cb st',Sg τ st'->Ih rk a b T o' i' j'->o.size<o'.size->Q (.done (ag,i',j',o',g,ca,cb)) st'/\Q (.yield (ag,i',j',o',g,ca,cb)) st'):k9 (aS prog w) A E s (H2 a b (r0,i,j,o,g,ca,cb)) Q τ:=by
 exact ZB (λ_=>ZbD O G fs hk I hd hb) λ_=>ZbD O G fs hk I hd hb
theorem ZdI{g:Nat}{r0:Option KA}{τ:bP}{Q:ForInStep U1->bP->Prop}(hk:kindOf τ=κ)(I:Ih rk a b T o i j)
  (hd:∀r c st',Sg τ st'->Res rk T r->Q (.done (aa r,c)) st')(hy:∀o' i' j' g st',Sg τ st'->Ih rk a b T o' i' j'->o.size<o'.size->Q (.yield (ag,i',j',o',g)) st'):k9 (aS prog w) A E s (TT (a.size+b.size) (H1 a b) (H2 a b) (r0,i,j,o,g)) Q τ:=by
 refine aI (eo (cr
  (I:=λx (c:U2) st'=>st'=τ/\c.1=ag/\Ih rk a b T c.2.2.2.1 c.2.1 c.2.2.1/\o.size+x<=c.2.2.2.1.size)
  (Q:=λ(c:U2) st'=>st'=τ/\((∃r,c.1=aa r/\Res rk T r)\/c.1=ag/\Ih rk a b T c.2.2.2.1 c.2.1 c.2.2.1/\o.size<c.2.2.2.1.size)) ?_ ?_ #[rfl,rfl,I,aN _]) ?_)
 .rintro x ⟨r,i',j',o',ca,cb⟩ st' _ _ ⟨rfl,rfl,I',hz⟩
  exact ZdC O G fs hk I' (λr c h=>#[rfl,.inl #[r,rfl,h]]) λo2 i2 j2 ca cb I2 e=>#[#[rfl,.inr #[rfl,I2,by dsimp only at hz ⊢;lia]],rfl,rfl,I2,by dsimp only at hz ⊢;lia]
 .rintro ⟨r,i',j',o',ca,cb⟩ st' ⟨rfl,rfl,I',hz⟩
  have:=I'.i0;have:=I'.j0;have:=I'.z;lia
 .rintro ⟨r,i',j',o',ca,cb⟩ st' ⟨rfl,⟨r',rfl,h⟩|⟨rfl,I',hz⟩⟩
  .exact aQ<|hd _ _ _ #[rfl,rfl,rfl,rfl] h
  .dsimp only at I' hz
   refine aI (XW (aI (eo (cr
    (I:=λx (c:U3) st''=>Sg st' st''/\c.1=ag/\Ih rk a b T c.2.2.2.1 c.2.1 c.2.2.1/\o'.size+x<=c.2.2.2.1.size)
    (Q:=λ(c:U3) st''=>Sg st' st''/\((∃r,c.1=aa r/\Res rk T r)\/c.1=ag/\Ih rk a b T c.2.2.2.1 c.2.1 c.2.2.1/\o'.size<c.2.2.2.1.size)) ?_ ?_ #[#[rfl,rfl,rfl,rfl],rfl,I',aN _]) ?_)))
   .rintro x ⟨r,i2,j2,o2,g,ca,cb⟩ st2 _ _ ⟨sg,rfl,I2,hz2⟩
    dsimp only at I2 hz2
    exact Zdq O G fs (sg.1.trans hk) I2 (λr c st3 s3 h=>#[sg.trans s3,.inl #[r,rfl,h]]) λo3 i3 j3 g ca cb st3 s3 I3 e=>#[#[sg.trans s3,.inr #[rfl,I3,by dsimp only;lia]],sg.trans s3,rfl,I3,by dsimp only;lia]
   .rintro ⟨r,i2,j2,o2,g,ca,cb⟩ st2 ⟨sg,rfl,I2,hz2⟩
    have:=I2.i0;have:=I2.j0;have:=I2.z;lia
   .rintro ⟨r,i2,j2,o2,g,ca,cb⟩ st2 ⟨sg,⟨r',rfl,h⟩|⟨rfl,I2,hz2⟩⟩
    .exact aQ<|hd _ _ _ sg h
    .exact aI<|VO λst3 s3=>aQ<|hy _ _ _ _ _ (sg.trans s3) I2<|dq hz hz2
theorem zv{τ:bP}{Q:KA->bP->Prop}(hk:kindOf τ=κ)(ha:0<a.size)(hb:0<b.size)(sa:Srt (lr rk) a.toList)(sb:Srt (lr rk) b.toList)(hT:(a.toList++b.toList).Perm T)
  (hq:∀r st',Sg τ st'->Res rk T r->Q r st'):k9 (aS prog w) A E s (Uh a b) Q τ:=by
 rw[GU];refine aI<|XW<|aI<|ZC (ZL<|by lia) ?_
 have ea:rv a a.size=a.toList.reverse:=by show(a.toList.take a.size).reverse=_;rw[<-aF,gI]
 have eb:rv b b.size=b.toList.reverse:=by show(b.toList.take b.size).reverse=_;rw[<-aF,gI]
 have m0:Hi rk a b T #[] a.size b.size:=by
  unfold Hi;rw[ea,eb];exact#[by simpa using((eC _).append<|eC _).trans hT,.nil,d6.mpr sa,d6.mpr sb,λx hx=>by cases hx]
 have m:=uG m0 ha (aN _) λy hy=>G.last y (GI hy) _ (by rw[Z4 (by lia)];exact al ..)
 have sg0:Sg τ τ:=#[rfl,rfl,rfl,rfl];refine ZB (λq=>aQ<|hq _ _ sg0<|j8 m q) λq1=>ZB (λq=>aQ<|hq _ _ sg0<|QG fs m q) λq2=>?_
 have q1:a.size-1≠0:=λz=>q1<|beq_iff_eq.mpr z
 have q2:b.size≠1:=λz=>q2<|beq_iff_eq.mpr z
 refine aI (gy (aI (eo (cr
  (I:=λx (c:U1) st''=>Sg τ st''/\c.1=ag/\Ih rk a b T c.2.2.2.1 c.2.1 c.2.2.1/\x<=c.2.2.2.1.size)
  (Q:=λ(c:U1) st''=>Sg τ st''/\∃r,c.1=aa r/\Res rk T r) ?_ ?_ #[sg0,rfl,#[m,by dsimp only;lia,by dsimp only;lia,by dsimp only;lia,aN _,by show 1+(a.size-1)+b.size=_;lia],dz _]) ?_)))
 .rintro x ⟨r,i,j,o,g⟩ st2 _ _ ⟨sg,rfl,I,hz⟩
  dsimp only at I hz
  exact ZdI O G fs (sg.1.trans hk) I (λr c st3 s3 h=>#[sg.trans s3,r,rfl,h]) λo3 i3 j3 g st3 s3 I3 e=>#[sg.trans s3,rfl,I3,by dsimp only;lia]
 .rintro ⟨r,i,j,o,g⟩ st2 ⟨sg,rfl,I,hz⟩
  have:=I.i0;have:=I.j0;have:=I.z;lia
 .rintro ⟨r,i,j,o,g⟩ st2 ⟨sg,r',rfl,h⟩
  exact aQ<|hq _ _ sg h
end
end
noncomputable def Kr(rk:bT->Nat)(xs:Array bT)(i:Nat):Nat:=match xs[i]? with
 |some p=>rk p
 |none=>0
def Wp(h:xs[i]?=ys[j]?):Kr rk xs i=Kr rk ys j:=by unfold Kr;rw[h]
structure Sb(κ:fC)(a₀:Array bT)(P:Array (Nat×Nat×Nat))(lo:Nat)(L:List bT)(τ:bP):Prop where
 kd:kindOf τ=κ
 pm:(be τ).Perm a₀
 fl:fS τ=ag
 pd:bf τ=P
 ah:(be τ).toList.take lo=L
def Up(rk:bT->Nat)(xs:Array bT)(lo m:Nat):Prop:=∀i j,lo<=i->i<j->j<lo+m->Kr rk xs i<Kr rk xs j
def Dn(rk:bT->Nat)(xs:Array bT)(lo m:Nat):Prop:=∀i j,lo<=i->i<j->j<lo+m->Kr rk xs j<Kr rk xs i
section
variable{κ:fC}{a₀:Array bT}{P:Array (Nat×Nat×Nat)}{lo:Nat}{L:List bT}{τ:bP}{In:bT->Prop}{rk:bT->Nat}
theorem Sb.size(h:Sb κ a₀ P lo L τ):(be τ).size=a₀.size:=h.pm.size_eq
def Sb.in(h:Sb κ a₀ P lo L τ)(ia:∀x∈a₀.toList,In x):∀x∈(be τ).toList,In x:=λx hx=>ia x<|(bm.mp h.pm).mem_iff.mp hx
def Gp(hi:i<xs.size):Kr rk xs i=rk xs[i]:=by unfold Kr;rw[bj hi]
theorem Sb.ne(h:Sb κ a₀ P lo L τ)(nd:(a₀.toList.map rk).Nodup)(hi:i<a₀.size)(hj:j<a₀.size)(e:Kr rk (be τ) i=Kr rk (be τ) j):i=j:=by
 have hs:=h.size;have n:=(((bm.mp h.pm).map rk).nodup_iff).mpr nd;have g:∀k,k<a₀.size->((be τ).toList.map rk)[k]?=aa (Kr rk (be τ) k):=λk hk=>by
  rw[aJ,bc,bj (by lia),Gp (by lia)];rfl
 exact(fu (by rw[aw,aF];lia) n).mp (by rw[g i hi,g j hj,e])
def Sb.setA(h:Sb κ a₀ P lo L τ)(hp:xs.Perm (be τ))(hf:∀k,k<lo->xs[k]?=(be τ)[k]?):Sb κ a₀ P lo L (setArr τ xs):=
 #[h.kd,hp.trans h.pm,h.fl,h.pd,by
  rw[<-h.ah];refine bK λk=>?_
  rw[cU,cU];split
  .rw[bc,bc];exact hf k ‹_›
  .rfl]
variable{prog:bG}{w:b0}{A:cZ}{E:ap->ax->Prop}{s:ax}
theorem UX(O:Od prog w A E s κ In rk)(h:Sb κ a₀ P lo L τ)(ia:∀x∈a₀.toList,In x){Q:Option Bool->bP->Prop}(hi:i<a₀.size)(hj:j<a₀.size)(q:Q (aa<|af<|Kr rk (be τ) i<Kr rk (be τ) j) τ):k9 (aS prog w) A E s (ltAt' i j) Q τ:=by
 have hs:=h.size;have m:∀k (hk:k<(be τ).size),In (be τ)[k]:=λk hk=>h.in ia _ (by simp)
 rw[ltAt'_eq];refine aI<|gy ?_;refine aI<|ZC (ZL<|by lia)<|aI<|ZC (ZL<|by lia) ?_
 rw[Gp (by lia),Gp<|by lia]at q
 exact O.ask (m i _) (m j _) h.kd q
theorem Zc2(xs:Array bT):Up rk xs lo 1:=λi j a b c=>by lia
theorem jP(h1:1<=m)(u:Up rk xs lo m)(c:Kr rk xs (lo+m-1)<Kr rk xs (lo+m)):Up rk xs lo (m+1):=λi j a b d=>by
 by_cases z:j=lo+m
 .subst z
  by_cases y:i=lo+m-1
  .rw[y];exact c
  .exact dq (u i (lo+m-1) a (by lia)<|by lia) c
 .exact u i j a b (by lia)
theorem Za2(h1:1<=m)(u:Dn rk xs lo m)(c:Kr rk xs (lo+m)<Kr rk xs (lo+m-1)):Dn rk xs lo (m+1):=λi j a b d=>by
 by_cases z:j=lo+m
 .subst z
  by_cases y:i=lo+m-1
  .rw[y];exact c
  .exact dq c<|u i (lo+m-1) a (by lia) (by lia)
 .exact u i j a b (by lia)
theorem uk(O:Od prog w A E s κ In rk)(ia:∀x∈a₀.toList,In x)(nd:(a₀.toList.map rk).Nodup){Q:AscSt->bP->Prop}
  (hF:∀i m (Q:ForInStep AscSt->bP->Prop),1<=m->m<nrem->(Kr rk (be τ) (lo+m)<Kr rk (be τ) (lo+m-1)->Q (.done (ag,m)) τ)->(¬Kr rk (be τ) (lo+m)<Kr rk (be τ) (lo+m-1)->Q (.yield (ag,m+1)) τ)->k9 (aS prog w) A E s (F i (ag,m)) Q τ)
  (hn:lo+nrem<=a₀.size)(h1:1<=n0)(hl:n0<=nrem)(hB:Sb κ a₀ P lo L τ)(u:Up rk (be τ) lo n0)
  (q:∀m,n0<=m->m<=nrem->Up rk (be τ) lo m->(m<nrem->Kr rk (be τ) (lo+m)<Kr rk (be τ) (lo+m-1))->Q (ag,m) τ):k9 (aS prog w) A E s (lm [n0:nrem] ((ag,n0):AscSt) F) Q τ:=by
 refine cr (I:=λi c st'=>st'=τ/\c=(ag,i)/\Up rk (be τ) lo i) ?_ ?_ #[rfl,rfl,u]
 .rintro i c st' ha hb ⟨rfl,rfl,u⟩
  refine hF i i _ (by lia) hb (λc=>q i ha (by lia) u λ_=>c) λc=>#[rfl,rfl,jP (by lia) u ?_]
  have:Kr rk (be st') (lo+i-1)≠Kr rk (be st') (lo+i):=λe=>by
   have:=hB.ne nd (by lia) (by lia) e
   lia
  lia
 .rintro c st' ⟨rfl,rfl,u⟩
  have e:max n0 nrem=nrem:=by lia
  rw[e]at u ⊢;exact q nrem hl (aN _) u λz=>T7 z<|br _
theorem uC(O:Od prog w A E s κ In rk)(ia:∀x∈a₀.toList,In x)(nd:(a₀.toList.map rk).Nodup){Q:Option Nat->bP->Prop}(hn:lo+nrem<=a₀.size)(h1:1<=nrem)(hB:Sb κ a₀ P lo L τ)
  (q:∀m st',Sb κ a₀ P lo L st'->1<=m->m<=nrem->Up rk (be st') lo m->Q (aa m) st'):k9 (aS prog w) A E s (countRun' lo nrem) Q τ:=by
 rw[countRun'_eq];refine aI<|uk O ia nd (λi m Q a b k1 k2=>?_) hn (aN _) h1 hB (Zc2 _) λm m1 m2 u c=>?_
 .refine aI (UX O hB ia (by lia) (by lia) ?_)
  dsimp only
  split
  .exact aQ<|k1<|T6 ‹_›
  .exact aQ<|k2 λz=>‹¬_› (T5 z)
 dsimp only
 by_cases e:m=nrem
 .rw[T9 (by simpa using e)]
  exact aQ<|q m τ hB m1 m2 u
 rw[T8 (by simpa using e)]
 by_cases c1:m>1
 .rw[T9 c1]
  refine aI<|UX O hB ia (by lia) (by lia) ?_
  dsimp only
  rw[T9<|T5<|u lo (lo+m-1) (aN _) (by lia) (by lia)]
  exact aQ<|q m τ hB m1 m2 u
 rw[T8 c1];obtain rfl:m=1:=by lia
 refine aI<|XW ?_;have nl:∀i j,i<a₀.size->j<a₀.size->i≠j->¬Kr rk (be τ) i<Kr rk (be τ) j->Kr rk (be τ) j<Kr rk (be τ) i:=λi j hi hj ne c=>by
  have:Kr rk (be τ) i≠Kr rk (be τ) j:=λe=>ne<|hB.ne nd hi hj e
  lia
 have d2:Dn rk (be τ) lo 2:=λi j a b d=>by
  obtain⟨rfl,rfl⟩:i=lo/\j=lo+1:=by lia
  exact c (by lia)
 refine aI<|eo (cr (I:=λi c st'=>st'=τ/\c=(ag,i,0)/\Dn rk (be τ) lo i) (Q:=λc st'=>st'=τ/\∃i,c=(ag,i,0)/\2<=i/\i<=nrem/\Dn rk (be τ) lo i) ?_ ?_ #[rfl,rfl,d2]) ?_
 .rintro i c st' ha hb ⟨rfl,rfl,u⟩
  dsimp only
  refine aI<|UX O hB ia (by lia) (by lia) ?_
  dsimp only
  split
  .rw[T8<|br 0]
   exact aQ #[rfl,rfl,Za2 (by lia) u<|T6 ‹_›]
  .refine aI (UX O hB ia (by lia) (by lia) ?_)
   dsimp only
   rw[T9<|T5<|nl (lo+i) (lo+i-1) (by lia) (by lia) (by lia) λz=>‹¬_› (T5 z)]
   exact aQ #[rfl,i,rfl,by lia,by lia,u]
 .rintro c st' ⟨rfl,rfl,u⟩
  have e:max (1+1) nrem=nrem:=by lia
  rw[e]at u ⊢;exact#[rfl,nrem,rfl,by lia,aN _,u]
 .rintro c st' ⟨rfl,i,rfl,h2,hi,u⟩
  dsimp only
  rw[T8<|br 0];refine aI<|wpS_reverse ?_;have hs:=hB.size;have gm:=λk=>getElem?_mirror_all (xs:=be st') (i:=lo) (j:=lo+i) (by lia) k
  have hB2:=hB.setA (mirror_perm ..) λk hk=>by
   rw[gm k,T8 (by lia)]
  have u2:Up rk (mirror (be st') lo (lo+i)<|(lo+i-lo) / 2) lo i:=λa b h1 h2 h3=>by
   have e:∀k,lo<=k->k<lo+i->Kr rk (mirror (be st') lo (lo+i)<|(lo+i-lo) / 2) k=Kr rk (be st') (lo+(lo+i-1-k)):=λk ka kb=>Wp (by rw[gm k,T9 #[ka,kb]];congr 1;lia)
   rw[e a h1 (by lia),e b (by lia) h3]
   exact u _ _ (by lia) (by lia) (by lia)
  refine aI<|uk O ia nd (λi m Q a b k1 k2=>?_) hn (by lia) hi hB2 u2 λm m1 m2 u c=>?_
  .refine aI (UX O hB2 ia (by dsimp only;lia) (by dsimp only;lia) ?_)
   dsimp only
   split
   .exact aQ<|k1<|T6 ‹_›
   .exact aQ<|k2 λz=>‹¬_› (T5 z)
  .exact aQ<|q m _ hB2 (by lia) m2 u
theorem Zab(O:Od prog w A E s κ In rk)(ia:∀x∈a₀.toList,In x)(nd:(a₀.toList.map rk).Nodup){Q:Bool->bP->Prop}(hn:lo+n<=a₀.size)(h1:1<=ok)(hok:ok<=n)(hB:Sb κ a₀ P lo L τ)(u:Up rk (be τ) lo ok)
  (q:∀st',Sb κ a₀ P lo L st'->Up rk (be st') lo n->Q ai st'):k9 (aS prog w) A E s (binarySort' lo n ok) Q τ:=by
 rw[binarySort'_eq];refine aI<|eo (cr (I:=λk c st'=>c=(ag,())/\Sb κ a₀ P lo L st'/\Up rk (be st') lo k) (Q:=λc st'=>c=(ag,())/\Sb κ a₀ P lo L st'/\Up rk (be st') lo n) ?_ ?_ #[rfl,hB,by rw[Nat.max_eq_left h1];exact u]) ?_
 .rintro k c st' ha hb ⟨rfl,B,u⟩
  have hs:=B.size;refine aI (eo (cr (I:=λx c st2=>st2=st'/\∃l r,c=(ag,l,r)/\l<=r/\r<=k/\r-l<=k-x/\(∀i,i<l->Kr rk (be st') (lo+i)<Kr rk (be st') (lo+k))/\∀i,r<=i->i<k->Kr rk (be st') (lo+k)<Kr rk (be st') (lo+i))
   (Q:=λc st2=>st2=st'/\∃l r,c=(ag,l,r)/\l<=k/\(∀i,i<l->Kr rk (be st') (lo+i)<Kr rk (be st') (lo+k))/\∀i,l<=i->i<k->Kr rk (be st') (lo+k)<Kr rk (be st') (lo+i)) ?_ ?_ #[rfl,0,k,rfl,by lia,by lia,by lia,λi hi=>by lia,λi a b=>by lia]) ?_)
  .rintro x c st2 _ hx ⟨rfl,l,r,rfl,g1,g2,g3,g4,g5⟩
   dsimp only
   by_cases c:l>=r
   .rw[T9 c]
    exact aQ #[rfl,l,r,rfl,by lia,g4,λi a b=>g5 i (by lia) b]
   .rw[T8 c]
    refine aI<|UX O B ia (by lia) (by lia) ?_
    dsimp only
    split
    .have cm:=T6 ‹_›
     refine aQ #[rfl,l,(l+r) / 2,rfl,by lia,by lia,by lia,g4,λi a b=>?_]
     by_cases y:i=(l+r) / 2
     .rw[y];exact cm
     .exact dq cm<|u _ _ (by lia) (by lia) (by lia)
    .have cm:Kr rk (be st2) (lo+(l+r) / 2)<Kr rk (be st2) (lo+k):=by
      have z:¬Kr rk (be st2) (lo+k)<Kr rk (be st2) (lo+(l+r) / 2):=λz=>‹¬_› (T5 z)
      have:Kr rk (be st2) (lo+k)≠Kr rk (be st2) (lo+(l+r) / 2):=λe=>by
       have:=B.ne nd (by lia) (by lia) e
       lia
      lia
     refine aQ #[rfl,(l+r) / 2+1,r,rfl,by lia,by lia,by lia,λi a=>?_,g5]
     by_cases y:i=(l+r) / 2
     .rw[y];exact cm
     .exact dq (u _ _ (by lia) (by lia)<|by lia) cm
  .rintro c st2 ⟨rfl,l,r,rfl,g1,g2,g3,g4,g5⟩
   exact#[rfl,l,r,rfl,by lia,g4,λi a b=>g5 i (by lia) b]
  .rintro c st2 ⟨rfl,l,r,rfl,g2,g4,g5⟩
   dsimp only
   rw[moveDown'_eq];refine aI<|eX<|aQ ?_;have gb:=λi=>getElem?_bubble (xs:=be st2) (src:=lo+k) (by lia) (lo+k-(lo+l)) (by lia) i
   have e1:lo+k-(lo+k-(lo+l))=lo+l:=by lia
   rw[e1]at gb;refine#[rfl,B.setA (bubble_perm ..) λi hi=>?_,λi j a b d=>?_]
   .rw[gb i,T8 (by lia),T8 (by lia)]
   .have e:∀i,Kr rk (bubble (be st2) (lo+k)<|lo+k-(lo+l)) i=if i=lo+l then Kr rk (be st2) (lo+k)else if lo+l<i/\i<=lo+k then Kr rk (be st2) (i-1)else Kr rk (be st2) i:=λi=>by
     have h:=gb i;split at h
     .rw[T9 ‹_›];exact Wp h
     .rw[T8 ‹_›]
      split at h
      .rw[T9 ‹_›];exact Wp h
      .rw[T8 ‹_›];exact Wp h
    rw[e i,e j];have low:∀x,lo<=x->x<lo+l->Kr rk (be st2) x<Kr rk (be st2) (lo+k):=λx a b=>by
     have:=g4 (x-lo) (by lia)
     rwa [show lo+(x-lo)=x by lia]at this
    have high:∀x,lo+l<=x->x<lo+k->Kr rk (be st2) (lo+k)<Kr rk (be st2) x:=λx a b=>by
     have:=g5 (x-lo) (by lia) (by lia)
     rwa [show lo+(x-lo)=x by lia]at this
    by_cases ci:i=lo+l
    .rw[T9 ci,T8 (by lia),T9 (by lia)]
     exact high _ (by lia) (by lia)
    .rw[T8 ci]
     by_cases cj:j=lo+l
     .rw[T9 cj,T8 (by lia)]
      exact low _ a (by lia)
     .rw[T8 cj]
      by_cases di:lo+l<i/\i<=lo+k
      .rw[T9 di,T9 (by lia)];exact u _ _ (by lia) (by lia) (by lia)
      .rw[T8 di]
       by_cases dj:lo+l<j/\j<=lo+k
       .rw[T9 dj]
        by_cases z:i=j-1
        .lia
        .exact u _ _ a (by lia) (by lia)
       .rw[T8 dj];exact u _ _ a b (by lia)
 .rintro c st' ⟨rfl,B,u⟩
  have e:max (max ok 1) n=n:=by lia
  rw[e]at u;exact#[rfl,B,u]
 .rintro c st' ⟨rfl,B,u⟩
  exact aQ<|q st' B u
end
def Go(i:Nat):mergeAt' i=(do
 let t <-get
 let (aa (ia,ma,pw),aa (ib,mb,_)):=((bf t)[i]?,(bf t)[i+1]?)|unsupported "internal:list.sort.pending"
 set (gL t<|((bf t).setIfInBounds i (ia,ma+mb,pw)).eraseIdxIfInBounds<|i+1)
 let aa r <-Yf am (<-fI (be t) ib) (be t) ia ma 0|return am
 let (ja,la):=(ia+r,ma-r)
 if la == 0 then return ai
 let aa lb <-Yf ai (<-fI (be t) (ja+la-1)) (be t) ib mb (mb-1)|return am
 if lb == 0 then return ai
 let u:=(be t).extract ja ib
 let v:=(be t).extract ib<|ib+lb
 let mg <-if la<=lb then Uu u v else Uh u v
 modify λt=>setArr t<|mg.toList.zipIdx.foldl (λa (p,j)=>a.setIfInBounds (ja+j) p)<|be t
 return (fS<|<-get).isNone):=rfl
theorem G4(b:Nat):∀(m:List bT)(j:Nat)(a:Array bT),b+j+m.length<=a.size->((m.zipIdx j).foldl (λa q=>a.setIfInBounds (b+q.2) q.1) a).toList=a.toList.take (b+j)++m++a.toList.drop (b+j+m.length)
 |[],j,a,h=>by simp
 |x::r,j,a,h=>by
  rw[aK]at h;rw[kt,de,G4 b r (j+1) _ (by rw[Array.size_setIfInBounds];lia)]
  dsimp only
  rw[iI,aK,<-i7 b j 1,List.take_add_one,List.take_set_of_le<|aN _,bU (by simpa using(by lia:b+j<a.size)),List.drop_set_of_lt (by lia)]
  simp[i7,mG 1]
def Runs(rk:bT->Nat):List (Nat×Nat)->Nat->Nat->List bT->Prop
 |[],a,b,_=>a=b
 |(i,n)::r,a,b,l=>i=a/\1<=n/\Srt (lr rk) ((l.drop a).take n)/\Runs rk r (a+n) b l
section
theorem Runs.le:∀{r:List (Nat×Nat)}{a b:Nat}{l:List bT},Runs rk r a b l->a+r.length<=b
 |[],a,b,l,h=>mH h
 |(i,n)::r,a,b,l,#[_,h1,_,h]=>by have:=h.le;rw[aK];lia
theorem Runs.app:∀{r q:List (Nat×Nat)}{a b:Nat}{l:List bT},Runs rk (r++q) a b l↔∃c,Runs rk r a c l/\Runs rk q c b l
 |[],q,a,b,l=>#[λh=>#[a,rfl,h],λ#[c,h1,h2]=>by cases h1;exact h2]
 |(i,n)::r,q,a,b,l=>by
  constructor
  .rintro ⟨h1,h2,h3,h4⟩
   obtain⟨c,h5,h6⟩:=Runs.app.mp h4;exact#[c,#[h1,h2,h3,h5],h6]
  .rintro ⟨c,⟨h1,h2,h3,h4⟩,h5⟩
   exact#[h1,h2,h3,Runs.app.mpr #[c,h4,h5]]
theorem Runs.congr:∀{r:List (Nat×Nat)}{a b:Nat}{l l':List bT},Runs rk r a b l->(∀k,a<=k->k<b->l'[k]?=l[k]?)->Runs rk r a b l'
 |[],a,b,l,l',h,_=>h
 |(i,n)::r,a,b,l,l',#[h1,h2,h3,h4],e=>by
  have:=h4.le;refine#[h1,h2,?_,h4.congr λk ha hb=>e k (by lia) hb]
  have:(l'.drop a).take n=(l.drop a).take n:=bK λk=>by
   rw[cU,cU,iJ,iJ];split
   .exact e _ (by lia) (by lia)
   .rfl
  rw[this];exact h3
def Q2(hx:Srt (lr rk) x)(hy:Srt (lr rk) y)(h:∀a∈x,∀b∈y,rk a<rk b):Srt (lr rk) (x++y):=eA.mpr #[hx,hy,h]
structure Sc(κ:fC)(a₀:Array bT)(τ:bP):Prop where
 kd:kindOf τ=κ
 pm:(be τ).Perm a₀
 fl:fS τ=ag
variable{In:bT->Prop}
theorem zS(O:Od prog w A E s κ In rk)(ia:∀x∈a₀.toList,In x)(nd:(a₀.toList.map rk).Nodup){Q:Bool->bP->Prop}(h:Sc κ a₀ τ)(h1:(bf τ)[i]?=aa (a,na,pw))(h2:(bf τ)[i+1]?=aa (a+na,nb,qw))
  (hl:(be τ).toList=U++(X++(Y++Z)))(lU:U.length=a)(lX:X.length=na)(lY:Y.length=nb)(xa:1<=na)(yb:1<=nb)(sx:Srt (lr rk) X)(sy:Srt (lr rk) Y)
  (q:∀st' M,Sc κ a₀ st'->bf st'=((bf τ).setIfInBounds i (a,na+nb,pw)).eraseIdxIfInBounds (i+1)->(be st').toList=U++(M++Z)->M.length=na+nb->Srt (lr rk) M->Q ai st'):k9 (aS prog w) A E s (mergeAt' i) Q τ:=by
 have hp:=bm.mp h.pm;have ial:=λx hx=>ia x<|hp.mem_iff.mp hx
 have ndl:=((hp.map rk).nodup_iff).mpr nd;have hsz:(be τ).size=a+(na+(nb+Z.length)):=by rw[<-aF,hl];simp[lU,lX,lY]
 have dX:((be τ).toList.drop a).take na=X:=by rw[hl,<-lU,iK,<-lX,iL]
 have dY:((be τ).toList.drop<|a+na).take nb=Y:=by rw[hl,<-bv,<-lU,<-lX,<-ba,iK,<-lY,iL]
 have ndXY:∀x∈X,∀y∈Y,rk x≠rk y:=λx hx y hy e=>by
  rw[hl,bN,fk,bN,fk]at ndl;exact ndl.2.1.2.2 _ (fL hx) _ (by rw[bN];exact dG _<|fL hy) e
 have inX:∀x∈X,In x:=λx hx=>ial x (by rw[hl];simp[hx])
 have inY:∀y∈Y,In y:=λy hy=>ial y (by rw[hl];simp[hy])
 obtain⟨y0,Y',rfl⟩:∃y0 Y',Y=y0::Y':=by cases Y with|nil=>simp at lY;lia|cons y Y'=>exact#[y,Y',rfl]
 have e0:(be τ)[a+na]?=aa y0:=by
  rw[<-bc,hl,<-bv,bq (by simp;lia)]
  simp[lU,lX]
 rw[Go];refine aI<|gy ?_;rw[h1,h2]
 dsimp only
 refine aI<|eX ?_
 generalize hst:gL τ (((bf τ).setIfInBounds i (a,na+nb,pw)).eraseIdxIfInBounds<|i+1)=st1;have S1:Sc κ a₀ st1:=by rw[<-hst];exact#[h.kd,h.pm,h.fl]
 have P1:bf st1=((bf τ).setIfInBounds i (a,na+nb,pw)).eraseIdxIfInBounds (i+1):=by rw[<-hst]
 have A1:be st1=be τ:=by rw[<-hst]
 refine aI<|ZC e0<|aI<|xt O S1.kd (inY y0<|al ..) xa (by lia) ial (by rw[dX];exact sx) (by rw[dX];exact λx hx=>ndXY x hx y0<|al ..) λr hr r1 r2=>?_
 rw[dX]at r1 r2
 dsimp only
 have lowY:∀x∈X.take r,∀y∈y0::Y',rk x<rk y:=λx hx y hy=>by
  rcases aB.mp hy with rfl|hy
  .exact r1 x hx
  .exact dq (r1 x hx)<|(aV.mp sy).1 y hy
 by_cases c:na-r=0
 .rw[T9 (by simpa using c)]
  have:X.take r=X:=cC (by lia)
  rw[this]at lowY;exact aQ<|q st1 (X++y0::Y') S1 P1 (by rw[A1,hl,bv]) (by rw[ba,lX,lY])<|Q2 sx sy lowY
 rw[T8 (by simpa using c)]
 have exl:(be τ)[a+r+(na-r)-1]?=X[na-1]?:=by
  rw[<-bc,hl,bq (by lia),bI (by lia)]
  congr 1;lia
 have xl:X[na-1]?=aa (X[na-1]'(by lia)):=ae _
 generalize hx0:X[na-1]'(by lia)=x0 at xl
 have mx0:x0∈X:=dH xl;have mx1:x0∈X.drop r:=dH (i:=na-1-r) (by rw[iJ];rw[<-xl];congr 1;lia)
 have maxX:∀x∈X,x=x0\/rk x<rk x0:=λx hx=>by
  obtain⟨k,hk,rfl⟩:=lv.mp hx;by_cases z:k=na-1
  .subst z;exact .inl hx0
  .right;rw[<-hx0];exact bu.mp sx k (na-1) hk (by lia) (by lia)
 refine aI<|ZC (exl.trans xl)<|aI<|xt O S1.kd (inX x0 mx0) (by lia) (by lia) ial (by rw[dY];exact sy) (by rw[dY];exact λy hy=>Ne.symm<|ndXY x0 mx0 y hy) λt ht t1 t2=>?_
 rw[dY]at t1 t2
 dsimp only
 have t0:t≠0:=λz=>by
  subst z;have a1:=r2 x0 mx1;have a2:=t2 y0<|al ..;lia
 rw[T8 (by simpa using t0)]
 generalize hY:y0::Y'=Y at *;have eu:((be τ).extract (a+r)<|a+na).toList=X.drop r:=by
  have:a+na=(a+r)+(na-r):=by lia
  rw[this,yG,<-iH,hl,<-lU,iK,gU (by lia)]
  rw[show na-r=(X.drop r).length by rw[bx,lX],iL]
 have ev:((be τ).extract (a+na)<|a+na+t).toList=Y.take t:=by
  rw[yG,hl,<-bv,<-lU,<-lX,<-ba,iK,gV (by lia)]
 generalize hu:(be τ).extract (a+r) (a+na)=u at *;generalize hv:(be τ).extract (a+na) (a+na+t)=v at *;have ul:u.size=na-r:=by rw[<-aF,eu,bx,lX]
 have vl:v.size=t:=by rw[<-aF,ev,bw,lY];lia
 have su:Srt (lr rk) u.toList:=by rw[eu];exact sx.sublist<|List.drop_sublist ..
 have sv:Srt (lr rk) v.toList:=by rw[ev];exact sy.sublist<|mB ..
 have v0:∀x∈u.toList,rk (v[0]'(by lia))<rk x:=λx hx=>by
  have:v.toList[0]?=aa y0:=by
   rw[ev,<-hY];obtain⟨t',rfl⟩:∃t',t=t'+1:=#[t-1,by lia]
   rfl
  have e:v[0]'(by lia)=y0:=by
   rw[bc,bj<|by lia]at this
   exact ak this
  rw[e];exact r2 x (by rw[<-eu];exact hx)
 have G:Mg κ In rk u v (u.toList++v.toList):=by
  refine#[?_,λx hx=>inX x<|cf<|eu▸hx,λy hy=>inY y<|dJ<|ev▸hy,λy hy x hx=>?_]
  .rw[bN,fk]
   have nx:∀{z:List bT},Srt (lr rk) z->(z.map rk).Nodup:=λ{z} hz=>cA.mpr<|hz.imp λhab=>bn hab
   refine#[nx su,nx sv,λp hp p' hp' e=>?_]
   obtain⟨x,hx,rfl⟩:=aO.mp hp;obtain⟨y,hy,rfl⟩:=aO.mp hp';exact ndXY x (cf<|eu▸hx) y (dJ<|ev▸hy) e
  .have hx:x=x0:=by
    rw[eu,ul,iH,show r+(na-r-1)=na-1 by lia,b9 (by lia),show na-1+1=X.length by lia,dU,bh]at hx
    rw[hx];exact hx0
   rw[hx];exact t1 y (by rw[<-ev];exact hy)
 have fin:∀r' st',Sg st1 st'->Res rk (u.toList++v.toList) r'->k9 (aS prog w) A E s (do
   modify λt=>setArr t<|r'.toList.zipIdx.foldl (λz (p,j)=>z.setIfInBounds (a+r+j) p)<|be t
   return (fS<|<-get).isNone) Q st':=λr' st' sg hr'=>by
  obtain⟨g1,g2,g3,g4⟩:=sg;obtain⟨k1,k2⟩:=hr';have rl:r'.toList.length=(na-r)+t:=by rw[k1.length_eq,ba,aF,aF,ul,vl]
  refine aI<|eX<|aI<|gy<|aQ ?_;have fo:=G4 (a+r) r'.toList 0 (be τ) (by lia)
  have el:((r'.toList.zipIdx.foldl (λz (q:bT×Nat)=>z.setIfInBounds (a+r+q.2) q.1)<|be τ).toList)=U++((X.take r++(r'.toList++Y.drop t))++Z):=by
   rw[fo,Nat.add_zero,hl,<-lU,List.take_append,nr,rl];have e1:U.length+r-U.length=r:=by lia
   have e2:U.length+r+(na-r+t)-U.length=na+t:=by lia
   rw[e1,e2,cC (by lia),kL (by lia),fV,gV (by lia),<-lX,nr,kL (by lia),fV,show X.length+t-X.length=t by lia,gU (by lia)]
   simp[bv]
  have hX:X.take r++X.drop r=X:=cL ..;have hYt:Y.take t++Y.drop t=Y:=cL ..;have pM:(X.take r++(r'.toList++Y.drop t)).Perm (X++Y):=by
   rw[eu,ev]at k1;have:(X.take r++(r'.toList++Y.drop t)).Perm (X.take r++((X.drop r++Y.take t)++Y.drop t)):=(k1.append_right _).append_left _;refine this.trans<|kU ?_;rw[bv<|X.drop r,hYt,<-bv,hX]
  rw[g4,S1.fl];refine q (setArr st'<|r'.toList.zipIdx.foldl (λz (q:bT×Nat)=>z.setIfInBounds (a+r+q.2) q.1)<|be st') (X.take r++(r'.toList++Y.drop t)) #[g1.trans S1.kd,?_,g4.trans S1.fl] (g3.trans P1) (by rw[<-el,<-A1,<-g2]) (by rw[pM.length_eq,ba,lX,lY]) ?_
  .refine(bm.mpr ?_).trans h.pm
   rw[g2,A1,el,hl,<-bv X Y Z];exact(pM.append_right _).append_left _
  .have memR:∀z∈r'.toList,z∈X.drop r\/z∈Y.take t:=λz hz=>by
    have:=k1.mem_iff.mp hz;rw[eu,ev]at this;exact cV.mp this
   have sX:=eA.mp<|hX.symm▸sx;have sY:=eA.mp<|hYt.symm▸sy;refine Q2 sX.1 (Q2 k2 sY.2.1 λp hp y hy=>?_) λx hx z hz=>?_
   .rcases memR p hp with m|m
    .have:=t2 y hy
     rcases maxX p (cf m)with rfl|m
     .exact this
     .exact dq m this
    .exact sY.2.2 p m y hy
   .rcases cV.mp hz with m|m
    .rcases memR z m with m|m
     .exact sX.2.2 x hx z m
     .exact lowY x hx z<|dJ m
    .exact lowY x hx z<|cf m
 by_cases cl:na-r<=t
 .rw[T9 cl]
  exact aI<|zD O G S1.kd (by lia) (by lia) su sv (bz _) v0 λr' st' sg hr'=>fin r' st' sg hr'
 .rw[T8 cl]
  have fs:∀x∈u.toList,∀y∈v.toList.take 1,rk y<rk x:=λx hx y hy=>by
   have e:=Z4 (a:=v) (i:=0) (by lia)
   rw[iE]at e;rw[e]at hy;rw[bh.mp hy];exact v0 x hx
  exact aI<|zv O G fs S1.kd (by lia) (by lia) su sv (bz _) λr' st' sg hr'=>fin r' st' sg hr'
end
section
variable{In:bT->Prop}
noncomputable abbrev g2(q:Nat×Nat×Nat):Nat×Nat:=(q.1,q.2.1)
noncomputable def pl(τ:bP):List (Nat×Nat):=(bf τ).toList.map g2
def cut2{B:Type}{l:List B}{i:Nat}{x y:B}(h1:l[i]?=aa x)(h2:l[i+1]?=aa y):l=l.take i++(x::y::l.drop (i+2)):=by
 obtain⟨a,e1⟩:=aU.mp h1;obtain⟨b,e2⟩:=aU.mp h2
 conv=>lhs;rw[<-cL i l,b9 a,b9 b,e1,e2]
theorem We(O:Od prog w A E s κ In rk)(ia:∀x∈a₀.toList,In x)(nd:(a₀.toList.map rk).Nodup){Q:Bool->bP->Prop}{i b:Nat}{R3:List (Nat×Nat)}(h:Sc κ a₀ τ)(hi:i+1<(bf τ).size)(hb:b<=a₀.size)(hr:Runs rk (pl τ++R3) 0 b (be τ).toList)
  (q:∀st',Sc κ a₀ st'->(bf st').size=(bf τ).size-1->Runs rk (pl st'++R3) 0 b (be st').toList->Q ai st'):k9 (aS prog w) A E s (mergeAt' i) Q τ:=by
 obtain⟨⟨a,na,pw⟩,h1⟩:∃x,(bf τ)[i]?=aa x:=#[_,bj (by lia)]
 obtain⟨⟨b1,nb,qw⟩,h2⟩:∃x,(bf τ)[i+1]?=aa x:=#[_,bj hi];have e:=cut2 (by rw[bc];exact h1) (by rw[bc];exact h2)
 generalize hA:(bf τ).toList.take i=RA at e;generalize hC:(bf τ).toList.drop (i+2)=RC at e;have lA:RA.length=i:=by rw[<-hA,bw,aF];lia
 unfold pl at hr;rw[e,bN,bv]at hr;obtain⟨c,r1,r2⟩:=Runs.app.mp hr;obtain⟨z1,n1,s1,z2,n2,s2,r3⟩:=r2
 dsimp only[g2]at z1 n1 s1 z2 n2 s2 r3
 subst z1 z2;have hle:=r3.le;have hsz:(be τ).toList.length=a₀.size:=by rw[aF];exact h.pm.size_eq
 generalize hl:(be τ).toList=l at *;have el:l=l.take a++((l.drop a).take na++((l.drop<|a+na).take nb++l.drop (a+na+nb))):=by
  rw[td,td,cL]
 have lU:(l.take a).length=a:=by rw[bw];lia
 refine zS O ia nd h h1 h2 (hl.trans el) lU (by rw[bw,bx];lia) (by rw[bw,bx];lia) n1 n2 s1 s2 λst' M S' hp' hl' lM sM=>?_
 have hpl:(bf st').toList=RA++((a,na+nb,pw)::RC):=by
  rw[hp',Array.toList_eraseIdxIfInBounds,iI,e,List.set_append_right _ _ (by lia),lA,Nat.sub_self]
  rw[List.eraseIdx_append_of_length_le (by lia),lA,show i+1-i=1 by lia]
  rfl
 refine q st' S' ?_ ?_
 .rw[<-aF,hpl,<-aF,e]
  simp
 .have at_:∀k,(k<a\/a+na+nb<=k)->(be st').toList[k]?=l[k]?:=λk hk=>by
   rw[hl']
   conv=>rhs;rw[el]
   rcases hk with hk|hk
   .rw[bI (by lia),bI (by lia)]
   .rw[bq (by lia),bq (by lia),bq (by lia),<-bv,bq (by simp;lia)]
    congr 1
    simp;lia
  unfold pl;rw[hpl,bN,bv];refine Runs.app.mpr #[a,r1.congr λk _ hk=>at_ k<|.inl hk,rfl,by dsimp only[g2];lia,?_,?_]
  .rw[hl',<-lM,List.drop_left' lU,iL];exact sM
  .rw[<-i7];exact r3.congr λk hk _=>at_ k<|.inr hk
theorem uE{lo n:Nat}{xs:Array bT}(hn:lo+n<=xs.size)(u:Up rk xs lo n):Srt (lr rk) ((xs.toList.drop lo).take n):=by
 refine bu.mpr λi j hi hj hij=>?_
 rw[bw,bx,aF]at hi hj;have g:∀k (hk:k<((xs.toList.drop lo).take n).length),((xs.toList.drop lo).take n)[k]=xs[lo+k]'(by rw[bw,bx,aF]at hk;lia):=λk hk=>by
  rw[fm,fq,Array.getElem_toList]
 rw[g,g];have:=u (lo+i) (lo+j) (by lia) (by lia) (by lia)
 rw[Gp (by lia),Gp<|by lia]at this
 exact this
def Qx{P:Array (Nat×Nat×Nat)}{k pw:Nat}:(P.modify k λq=>(q.1,q.2.1,pw)).toList.map g2=P.toList.map g2:=by
 refine bK λi=>?_
 rw[aJ,aJ,bc,bc,Array.getElem?_modify];split
 .cases P[i]?<;>rfl
 .rfl
theorem sort_ok(O:Od prog w A E s κ In rk)(ia:∀x∈a₀.toList,In x)(nd:(a₀.toList.map rk).Nodup){Q:Unit->bP->Prop}(hk:kindOf τ=κ)(ha:be τ=a₀)(hp:bf τ = #[])(hf:fS τ=ag)(h1:1<=a₀.size)
  (q:∀st',(be st').Perm a₀->fS st'=ag->Srt (lr rk) (be st').toList->Q () st'):k9 (aS prog w) A E s sortRuns' Q τ:=by
 rw[sortRuns'_eq];refine aI<|gy ?_;rw[ha]
 dsimp only
 have S0:Sc κ a₀ τ:=#[hk,by rw[ha],hf]
 refine aI (eo (cr
  (I:=λx c st'=>∃lo,c=(ag,lo)/\x<=lo/\lo<=a₀.size/\Sc κ a₀ st'/\Runs rk (pl st') 0 lo (be st').toList)
  (Q:=λc st'=>c=(ag,a₀.size)/\Sc κ a₀ st'/\Runs rk (pl st') 0 a₀.size (be st').toList) ?_ ?_ #[0,rfl,aN _,dz _,S0,by unfold pl;rw[hp];rfl]) ?_)
 .rintro x c st1 _ hx ⟨lo,rfl,g1,g2',S1,R1⟩
  dsimp only
  by_cases c:lo>=a₀.size
  .rw[T9 c]
   obtain rfl:lo=a₀.size:=by lia
   exact aQ #[rfl,S1,R1]
  rw[T8 c];have B1:Sb κ a₀ (bf st1) lo ((be st1).toList.take lo) st1:=#[S1.kd,S1.pm,S1.fl,rfl,rfl];refine aI<|uC O ia nd (by lia) (by lia) B1 λm st2 B2 m1 m2 u2=>?_
  dsimp only
  have done:∀n st3,1<=n->lo+n<=a₀.size->Sc κ a₀ st3->Runs rk (pl st3++[(lo,n)]) 0 (lo+n) (be st3).toList->∃lo',((ag,lo+n):Option PUnit×Nat)=(ag,lo')/\x+1<=lo'/\lo'<=a₀.size/\Sc κ a₀ (gL st3<|(bf st3).push (lo,n,0))/\Runs rk (pl<|gL st3<|(bf st3).push (lo,n,0)) 0 lo' (be st3).toList:=λn st3 n1 n2 S3 R3=>
   #[lo+n,rfl,by lia,n2,#[S3.kd,S3.pm,S3.fl],by
    have:pl (gL st3<|(bf st3).push (lo,n,0))=pl st3++[(lo,n)]:=by
     show lw g2 ((bf st3).push (lo,n,0)).toList=_;rw[eB,bN];rfl
    rw[this];exact R3]
  by_cases c2:m<n8 a₀.size a₀.size 0
  .rw[T9 c2]
   refine aI<|XW<|aI<|Zab (n:=oK (a₀.size-lo)<|n8 a₀.size a₀.size 0) O ia nd (by lia) m1 (by lia) B2 u2 λst5 B u=>?_
   have n1:1<=oK (a₀.size-lo) (n8 a₀.size a₀.size 0):=by lia
   have n2:lo+oK (a₀.size-lo) (n8 a₀.size a₀.size 0)<=a₀.size:=by lia
   simp only[i8,cB,if_false];generalize oK (a₀.size-lo) (n8 a₀.size a₀.size 0)=n at *;clear B2 u2;refine aI<|gy ?_;have S5:Sc κ a₀ st5:=#[B.kd,B.pm,B.fl];have hz:(be st5).size=a₀.size:=B.size;have R5:Runs rk (pl st5++[(lo,n)]) 0 (lo+n) (be st5).toList:=Runs.app.mpr #[lo,by
    unfold pl at R1 ⊢;rw[B.pd];refine R1.congr λk _ hk=>?_
    have e:(io lo _)[k]?=(io lo _)[k]?:=congrArg (λl=>l[k]?) B.ah
    rw[cU,cU,T9 hk,T9 hk]at e;exact e,rfl,n1,uE (by lia) u,rfl]
   cases hbk:(bf st5).back? with
   |none=>
    exact aI<|eX<|aQ<|done n st5 n1 n2 S5 R5
   |some q5=>
    obtain⟨x1,x2,x3⟩:=q5
    dsimp only
    refine aI<|eo (cr (I:=λ_ c st3=>c=(ag,())/\Sc κ a₀ st3/\Runs rk (pl st3++[(lo,n)]) 0 (lo+n) (be st3).toList) ?_ (λc st3 h=>h) #[rfl,S5,R5]) ?_
    .rintro x c st3 _ _ ⟨rfl,S3,R3⟩
     refine aI<|gy ?_;by_cases c:(bf st3).size>1
     .rw[T9 c,bj<|show(bf st3).size-2<(bf st3).size by lia]
      dsimp only
      split
      .exact aQ #[rfl,S3,R3]
      .refine aI (We O ia nd S3 (by lia) n2 R3 λst4 S4 _ R4=>?_)
       simp only[i8,cB,if_false];exact aQ #[rfl,S4,R4]
     .rw[T8 c]
      exact aQ #[rfl,S3,R3]
    .rintro c st3 ⟨rfl,S3,R3⟩
     dsimp only
     exact aI (eX (aI (eX (aQ (done n (gL st3 _) n1 n2 #[S3.kd,S3.pm,S3.fl] (by
      show Runs rk (lw g2 (Array.modify _ _ _).toList++_) _ _ _;rw[Qx];exact R3))))))
  .rw[T8 c2]
   have n2:lo+m<=a₀.size:=by lia
   refine aI<|gy ?_;have S5:Sc κ a₀ st2:=#[B2.kd,B2.pm,B2.fl];have hz:(be st2).size=a₀.size:=B2.size;have R5:Runs rk (pl st2++[(lo,m)]) 0 (lo+m) (be st2).toList:=Runs.app.mpr #[lo,by
    unfold pl at R1 ⊢;rw[B2.pd];refine R1.congr λk _ hk=>?_
    have e:(io lo _)[k]?=(io lo _)[k]?:=congrArg (λl=>l[k]?) B2.ah
    rw[cU,cU,T9 hk,T9 hk]at e;exact e,rfl,m1,uE (by lia) u2,rfl]
   cases hbk:(bf st2).back? with
   |none=>
    exact aI<|eX<|aQ<|done m st2 m1 n2 S5 R5
   |some q5=>
    obtain⟨x1,x2,x3⟩:=q5
    dsimp only
    refine aI<|eo (cr (I:=λ_ c st3=>c=(ag,())/\Sc κ a₀ st3/\Runs rk (pl st3++[(lo,m)]) 0 (lo+m) (be st3).toList) ?_ (λc st3 h=>h) #[rfl,S5,R5]) ?_
    .rintro x c st3 _ _ ⟨rfl,S3,R3⟩
     refine aI<|gy ?_;by_cases c:(bf st3).size>1
     .rw[T9 c,bj<|show(bf st3).size-2<(bf st3).size by lia]
      dsimp only
      split
      .exact aQ #[rfl,S3,R3]
      .refine aI (We O ia nd S3 (by lia) n2 R3 λst4 S4 _ R4=>?_)
       simp only[i8,cB,if_false];exact aQ #[rfl,S4,R4]
     .rw[T8 c]
      exact aQ #[rfl,S3,R3]
    .rintro c st3 ⟨rfl,S3,R3⟩
     dsimp only
     exact aI (eX (aI (eX (aQ (done m (gL st3 _) m1 n2 #[S3.kd,S3.pm,S3.fl] (by
      show Runs rk (lw g2 (Array.modify _ _ _).toList++_) _ _ _;rw[Qx];exact R3))))))
 .rintro c st1 ⟨lo,rfl,g1,g2',S1,R1⟩
  obtain rfl:lo=a₀.size:=by lia
  exact#[rfl,S1,R1]
 .rintro c st1 ⟨rfl,S1,R1⟩
  dsimp only
  have len1:=R1.le;refine aI (eo (cr
   (I:=λx c st2=>c=(ag,())/\Sc κ a₀ st2/\Runs rk (pl st2) 0 a₀.size (be st2).toList/\(bf st2).size<=max 1 (a₀.size-x))
   (Q:=λc st2=>c=(ag,())/\Sc κ a₀ st2/\Runs rk (pl st2) 0 a₀.size (be st2).toList/\(bf st2).size<=1) ?_ ?_ #[rfl,S1,R1,by unfold pl at len1;rw[aw,aF]at len1;lia]) ?_)
  .rintro x c st2 _ hx ⟨rfl,S2,R2,l2⟩
   refine aI<|gy ?_;by_cases c:(bf st2).size<=1
   .rw[T9 c]
    exact aQ #[rfl,S2,R2,c]
   rw[T8 c];generalize hj:(if(Option.any (λx=>af<|x<((bf st2)[(bf st2).size-2+1]?).elim 0 λx=>x.2.1)<|if(bf st2).size-2>0 then Option.map (λx=>x.2.1) (bf st2)[(bf st2).size-2-1]? else ag)=ai then(bf st2).size-2-1 else(bf st2).size-2)=j
   have hj1:j+1<(bf st2).size:=by
    have g:∀b:Bool,(if b=ai then(bf st2).size-2-1 else(bf st2).size-2)+1<(bf st2).size:=λb=>by cases b<;>simp<;>lia
    rw[<-hj];exact g _
   refine aI<|We (R3:=[]) O ia nd S2 hj1 (aN _) (by rw[bY];exact R2) λst3 S3 l3 R3=>?_
   rw[bY]at R3;simp only[i8,cB,if_false];exact aQ #[rfl,S3,R3,by lia]
  .rintro c st2 ⟨rfl,S2,R2,l2⟩
   exact#[rfl,S2,R2,by lia]
  .rintro c st2 ⟨rfl,S2,R2,l2⟩
   dsimp only
   refine aQ<|q st2 S2.pm S2.fl ?_;have hz:(be st2).toList.length=a₀.size:=by rw[aF];exact S2.pm.size_eq
   unfold pl at R2
   match hP:(bf st2).toList,R2 with
   |[],R2=>exact T7 (show 0=a₀.size from R2) (by lia)
   |[(i,n,pw)],R2=>
    obtain⟨_,_,z,e⟩:=R2;have e:0+n=a₀.size:=e;rw[iE,cC<|by dsimp only[g2];lia]at z
    exact z
   |_::_::_,_=>rw[<-aF,hP]at l2;simp at l2
end
end Tq
namespace Sq
open PySem PySem.W PyProof.Rows
structure Ord(n:Nat)(lt:Nat->Nat->Bool):Prop where
 tot:∀i j,i<n->j<n->i≠j->lt i j=am->lt j i=ai
 asy:∀i j,i<n->j<n->lt i j=ai->lt j i=am
 tr:∀i j k,i<n->j<n->k<n->lt i j=ai->lt j k=ai->lt i k=ai
noncomputable abbrev g(p:Array Nat)(i:Nat):Nat:=p.getD i 0
def Pm(n:Nat)(p:Array Nat):Prop:=p.Perm<|cg<|az n
theorem Pm.size(h:Pm n p):p.size=n:=by have:=Array.Perm.size_eq h;simpa using this
def ww(h:i<p.size):p[i]?=aa (g p i):=by simp[g,h]
def Pm.lt(h:Pm n p)(hi:i<n):g p i<n:=by
 have hs:=h.size;have h1:g p i∈p.toList:=by
  have:p.toList[i]?=aa (g p i):=by rw[bc];exact ww (by lia)
  exact dH this
 have h2:p.toList.Perm (az n):=by simpa using bm.mp h
 exact aP.mp<|h2.mem_iff.mp h1
def Up(lt:Nat->Nat->Bool)(p:Array Nat)(m:Nat):Prop:=∀i j,i<j->j<m->lt (g p i) (g p j)=ai
theorem UQ{B:Type}{p q:B->Bool}:∀{l:List B},(∀x∈l,p x=ai->q x=ai)->(∃x∈l,q x=ai/\p x=am)->l.countP p<l.countP q
 |[],_,#[x,hx,_]=>by cases hx
 |y::l,h,#[x,hx,h1,h2]=>by
  have hm:=List.countP_mono_left λz hz=>h z<|aj _ hz
  rw[nt,nt];rcases aB.mp hx with rfl|hx
  .rw[h1,h2,T9 rfl,T8 aM];lia
  .have:=UQ (λz hz=>h z<|aj _ hz) #[x,hx,h1,h2]
   have hy:=h y<|al ..;cases e:p y with|false=>rw[T8 aM];lia|true=>rw[hy e,T9 rfl];lia
noncomputable def rank(n:Nat)(lt:Nat->Nat->Bool)(i:Nat):Nat:=(az n).countP λj=>lt j i
def VT{n:Nat}{lt:Nat->Nat->Bool}(O:Ord n lt){i j:Nat}(hi:i<n)(hj:j<n):af (rank n lt i<rank n lt j)=lt i j:=by
 have irr:∀k,k<n->lt k k=am:=λk hk=>by
  cases e:lt k k with|false=>rfl|true=>rw[<-e];exact O.asy k k hk hk e
 have up:=λ{a b} ha hb e=>
  UQ (λx hx h=>O.tr x a b (aP.mp hx) ha hb h e) #[a,aP.mpr ha,e,irr a ha]
 cases e:lt i j with
 |true=>exact T5<|up hi hj e
 |false=>
  refine T4 λh=>?_
  by_cases z:i=j
  .subst z;exact br _ h
  .exact Nat.lt_asymm h<|up hj hi<|O.tot i j hi hj z e
section
open Classical
noncomputable def idx(vs:List ap)(v:ap):Nat:=if h:∃i:Nat,vs[i]?=aa v then choose h else 0
def z9(nd:vs.Nodup)(h:vs[i]?=aa v):idx vs v=i:=by
 have hx:∃i:Nat,vs[i]?=aa v:=#[i,h];unfold idx;rw[dif_pos hx];have e:=choose_spec hx;have hl:=(aU.mp e).1;exact(fu hl nd).mp<|e.trans h.symm
end
def ZbH{vs:List ap}{κ:fC}{lt:Nat->Nat->Bool}(nd:vs.Nodup)(h1:1<=vs.length)(O:Ord vs.length lt)
  (ask:∀i j,i<vs.length->j<vs.length->∀(C:Bool->ax->Prop)(E:ap->ax->Prop),C (lt i j) s->aX (aS prog w) A (keyLt' κ (vs.getD i bg)<|vs.getD j bg) C E s) :
  aX (aS prog w) A ((sortRuns').run<|oy κ (vs.toArray.zip vs.toArray) #[] 7 ag) (λr s'=>s'=s/\∃p,Pm vs.length p/\Up lt p vs.length/\fS r.2=ag/\(be r.2).map (·.2)=cg (p.toList.map λi=>vs.getD i bg)) E s:=by
 have hz:(vs.toArray.zip vs.toArray).toList=vs.map λv=>(v,v):=by
  rw[ksk_zip];show oZ vs vs=_;clear ask O h1 nd
  induction vs with|nil=>rfl|cons v l ih=>rw[bS,ih];rfl
 let rk:bT->Nat:=λx=>rank vs.length lt<|idx vs x.1
 let In:bT->Prop:=λx=>∃i:Nat,vs[i]?=aa x.1/\x=(x.1,x.1)
 have atI:∀{x:bT},In x->idx vs x.1<vs.length/\vs.getD (idx vs x.1) bg=x.1:=λ{x} #[i,e,_]=>by
  rw[z9 nd e];exact#[(aU.mp e).1,by rw[aC,e];rfl]
 have od:Tq.Od prog w A E s κ In rk:=⟨λ{x y τ Q} ix iy hk q=>by
  obtain⟨a1,a2⟩:=atI ix;obtain⟨b1,b2⟩:=atI iy;rw[lt'_eq];refine aI<|gy ?_;rw[hk];have:=ask _ _ a1 b1 (λb s'=>s'=s/\b=lt (idx vs x.1) (idx vs y.1)) (λ_ _=>False) #[rfl,rfl]
  rw[a2,b2]at this;refine aI<|wpS_lift<|gP<|cJ this (λb s' h=>?_) λ_ _ h=>h.elim
  obtain⟨rfl,rfl⟩:=h;refine#[rfl,aQ ?_];rw[<-VT O a1 b1];exact q⟩
 have ia:∀x∈(vs.toArray.zip vs.toArray).toList,In x:=λx hx=>by
  rw[hz]at hx;obtain⟨v,hv,rfl⟩:=aO.mp hx;obtain⟨i,hi,e⟩:=lv.mp hv;exact#[i,by rw[ae hi,e],rfl]
 have rks:(vs.toArray.zip vs.toArray).toList.map rk=(az vs.length).map (rank vs.length lt):=by
  rw[hz,bV];refine bK λi=>?_
  rw[aJ,aJ];by_cases h:i<vs.length
  .rw[cq h,ae h]
   exact congrArg (λk=>aa<|rank vs.length lt k)<|z9 nd<|ae h
  .rw[bD (by lia),bD (by rw[aZ];lia)];rfl
 have ndr:((vs.toArray.zip vs.toArray).toList.map rk).Nodup:=by
  rw[rks];refine cA.mpr<|i9 ?_ nu;intro a b ha hb ne e;have ha:=aP.mp ha;have hb:=aP.mp hb;have h1:=VT O ha hb;have h2:=VT O hb ha;rw[e,T4<|br _]at h1 h2;exact T7 (O.tot a b ha hb ne h1.symm) (by rw[<-h2];simp)
 have sz:(vs.toArray.zip vs.toArray).size=vs.length:=by rw[<-aF,hz,aw]
 refine Tq.sort_ok (Q:=λ_ st'=>∃p,Pm vs.length p/\Up lt p vs.length/\fS st'=ag/\(be st').map (·.2)=cg (p.toList.map λi=>vs.getD i bg)) od ia ndr rfl rfl rfl rfl (by lia) λst' pm fl so=>?_
 have pl:=bm.mp pm;have inS:=λx hx=>ia x<|pl.mem_iff.mp hx
 have pp:((be st').toList.map λx=>idx vs x.1).Perm (az vs.length):=by
  refine(pl.map _).trans<|kU ?_;rw[hz,bV];refine bK λi=>?_
  rw[aJ];by_cases h:i<vs.length
  .rw[cq h,ae h]
   exact congrArg aa<|z9 nd<|ae h
  .rw[bD (by lia),bD (by rw[aZ];lia)];rfl
 have sl:(be st').toList.length=vs.length:=by rw[pl.length_eq,hz,aw]
 refine#[cg<|(be st').toList.map λx=>idx vs x.1,bm.mpr pp,λi j hij hj=>?_,fl,?_]
 .have gk:∀k (hk:k<(be st').toList.length),g (cg<|(be st').toList.map λx=>idx vs x.1) k=idx vs ((be st').toList[k]).1:=λk hk=>by
   show((cg<|(be st').toList.map λx=>idx vs x.1).getD k 0)=_
   rw[Array.getD_eq_getD_getElem?,List.getElem?_toArray,aJ,ae hk];rfl
  rw[gk i (by lia),gk j (by lia)]
  have:=bu.mp so i j (by lia) (by lia) hij
  rw[<-VT O (atI<|inS _<|aW _).1 (atI<|inS _<|aW _).1];exact T5 this
 .apply ku.mp
  rw[nv,bV];refine c8 λx hx=>?_
  have hi:=inS x hx;show x.2=vs.getD (idx vs x.1) bg;rw[(atI hi).2];obtain⟨_,_,e⟩:=hi;rw[e]
open PySem.Calls
def Lat(h h':ck):Prop:=∀b o,h.get? b=aa o->h'.get? b=aa o
structure Asks(prog:bG)(w:b0)(A:cZ)(h:ck)(vs:List ap)(κ:fC)(lt:Nat->Nat->Bool):Prop where
 kind:2<=vs.length->∀(s':ax)(E:ap->ax->Prop)(Q:fC->ax->Prop),Lat h s'.heap->Q κ s'->aX (aS prog w) A (keyKind' vs.toArray) Q E s'
 nd:vs.Nodup
 cmp:∀i j,i<vs.length->j<vs.length->∀(s':ax)(C:Bool->ax->Prop)(E:ap->ax->Prop),Lat h s'.heap->C (lt i j) s'->aX (aS prog w) A (keyLt' κ (vs.getD i bg)<|vs.getD j bg) C E s'
noncomputable def ltR(b:Bool)(n:Nat)(lt:Nat->Nat->Bool):Nat->Nat->Bool:=λi j=>if b=ai then lt (n-1-i) (n-1-j)else lt i j
def Zai(O:Ord n lt):Ord n (ltR b n lt):=by
 cases b
 .exact O
 .exact#[λi j hi hj ne h=>O.tot _ _ (by lia) (by lia) (by lia) h,λi j hi hj h=>O.asy _ _ (by lia) (by lia) h,λi j k hi hj hk h1 h2=>O.tr _ _ _ (by lia) (by lia) (by lia) h1 h2]
def G5(hi:i<vs.length):(kc b vs).getD i bg=vs.getD (if b=ai then vs.length-1-i else i) bg:=by
 cases b
 .rfl
 .show vs.reverse.getD i bg=vs.getD (vs.length-1-i) bg
  simp only[aC];rw[k5 hi]
def wQ(vs:List ap):(az vs.length).map (λi=>vs.getD i bg)=vs:=by
 apply bK
 intro i;rw[aJ];by_cases h:i<vs.length
 .rw[cq h];simp[h]
 .simp[dC h]
def list_sort_rev{P:PySem.Fin->ax->Prop}(ho:s.heap.get? a=aa (eJ "list" vs.toArray n))(h64:vs.length<=100000)
  (h00:∀b o,h0.get? b=aa o->b≠a/\s.heap.get? b=aa o)(O:Ord vs.length lt)(K:Asks prog w A h0 vs κ lt)
  (h:∀p,Pm vs.length p->Up (ltR b vs.length lt) p vs.length->P (.done<|.ret .none) {s with heap:=sortedHeap s.heap a vs (cg<|kc b<|p.toList.map λi=>(kc b vs).getD i bg)}) :
  aX (aS prog w) A (dr.«list.sort» #[[.ref a],[(mP "reverse",.bool b)]]) P E s:=by
 rw[iM];have ha:=aE ho;refine ab<|listItems_at ho rfl ?_;refine ab<|lV ho rfl ?_;obtain⟨e1,ho1⟩:∃e1,(s.heap.update a<|eG λ_=>#[]).get? a=aa (eJ "list" #[] e1):=#[_,get?_update_seq ho λ_=>#[]]
 refine ab<|nM ho1 rfl ?_;refine ab<|wpAny_newTuple ?_;refine ab<|ke ?_;refine bH ?_;have ho6:(((s.heap.update a<|eG λ_=>#[]).push<|eJ "tuple" vs.toArray 0).push<|eJ "list" #[] 0).get? a=aa (eJ "list" #[] e1):=by
  rw[gz _ _ _ (by rw[mr,kw];exact bn<|cP ha),gz _ _ _ (by rw[kw];exact bn ha)]
  exact ho1
 have lat:Lat h0 (((s.heap.update a<|eG λ_=>#[]).push<|eJ "tuple" vs.toArray 0).push<|eJ "list" #[] 0):=λb o e=>by
  obtain⟨nb,e⟩:=h00 b o e;exact au _<|au _ (by rw[lK _ _ _ _ nb];exact e)
 generalize hs':((s.heap.update a<|eG λ_=>#[]).push<|eJ "tuple" vs.toArray 0).push (eJ "list" #[] 0)=h1 at ho6 lat ⊢
 dsimp only
 have step:∀t:nP PySem.Fin,aX (aS prog w) A t P E {s with heap:=h1}->aX (aS prog w) A (if b=ai then(do let _ <-oh "list.sort.reverse";t)else t) P E {s with heap:=h1}:=by
  intro t ht;split
  .exact ab<|eI ht
  .exact ht
 refine step _ ?_;have hrl:=n9 b vs;have fin:∀out:List ap,out.length=vs.length->(∃p,Pm vs.length p/\Up (ltR b vs.length lt) p vs.length/\out=p.toList.map λi=>(kc b vs).getD i bg)->
   P (.done<|.ret .none) {s with heap:=h1.update a (eG λ_=>cg<|kc b out)}:=by
  rintro out _ ⟨p,h1',h2',rfl⟩
  subst hs';exact h p h1' h2'
 by_cases h2:vs.toArray.size<2
 .rw[T9 h2,T9 h2]
  refine ab<|aq ?_;rw[StateT.run_pure];refine ab<|aq ?_
  dsimp only
  have hz:((be<|oy general' (if b=ai then(vs.toArray.zip vs.toArray).reverse else vs.toArray.zip vs.toArray) #[] 7 ag).map (·.2))=cg (kc b vs):=by
   rw[kat_pairs b rfl];apply ku.mp;rw[nv,ksk_zip];exact List.map_snd_zip<|aN _
  rw[hz];refine ab<|nM ho6 rfl ?_;rw[kat_outs];refine ab<|lV ho6 rfl ?_ (hsz2:=by rw[ay];(try rw[n9]);(try rw[n9]);rw[cc];lia)
  simp only[bne_self_eq_false,cB,if_false];refine aq<|fin (kc b vs) (n9 b vs) #[cg<|az vs.length,Array.Perm.refl _,λi j a1 a2=>by rw[ay]at h2;lia,?_]
  rw[<-hrl];exact(wQ _).symm
 .rw[T8 h2,T8 h2]
  have l2:2<=vs.length:=by rw[ay]at h2;lia
  refine ab<|K.kind l2 _ _ _ lat ?_;rw[kat_pairs b rfl];have ndR:(kc b vs).Nodup:=by
   cases b
   .exact K.nd
   .exact(eC vs).nodup_iff.mpr K.nd
  refine ab (cJ (ZbH ndR (by lia) (by rw[hrl];exact Zai (b:=b) O) (by
    rw[hrl];intro i j hi hj C E hC;rw[G5 hi,G5 hj];cases b
    .exact K.cmp i j hi hj _ _ _ lat hC
    .exact K.cmp _ _ (by simp only[if_true];lia) (by simp only[if_true];lia) _ _ _ lat hC)) ?_ λ_ _ x=>x)
  rintro ⟨⟨⟩,st'⟩ s' ⟨rfl,p,e2,e3,hf,har⟩
  rw[hrl]at e2 e3
  dsimp only
  rw[har];have hl:(p.toList.map λi=>(kc b vs).getD i bg).length=vs.length:=by rw[aw,aF,e2.size]
  refine ab<|nM ho6 rfl ?_;rw[kat_outs];refine ab<|lV ho6 rfl ?_ (hsz2:=by rw[ay];(try rw[n9]);rw[hl,cc];lia)
  rw[hf];simp only[bne_self_eq_false,cB,if_false];exact aq<|fin _ hl #[p,e2,e3,rfl]
def Vl(a:aL):dr.«list.sort» #[[.ref a],[]]=dr.«list.sort» #[[.ref a],[(mP "reverse",.bool am)]]:=by
 rw[PyProof.Rows.list_sort_plain,iM];rfl
def WN{Q:ap->ax->Prop}(hl:s.heap.IsList l vs.toArray)(h64:vs.length<=100000)(O:Ord vs.length lt)(K:Asks prog w A.in1.in1 s.heap vs κ lt)
  (h:∀p,Pm vs.length p->Up (ltR am vs.length lt) p vs.length->Q (.ref<|s.heap.objs.size+1) {s with heap:=sortedAll s.heap vs (cg<|kc am<|p.toList.map λi=>(kc am vs).getD i bg)}) :
  aX (aS prog w) A (call (.builtin "sorted") [.ref l]) Q E s:=by
 refine Calls.call_function_entry nN mQ mR (mS _) ?_;unfold dr.«sorted»;refine ab<|aq ?_;refine ab<|collect_list hl ?_ (by rw[cc];lia)
 refine ab<|ke ?_ (by rw[cc];lia)
 have hsz:((s.heap.push<|eJ "list" #[] 0).update s.heap.objs.size (eG (·++vs.toArray))).objs.size=s.heap.objs.size+1:=by
  rw[kw,mr]
 have hoL:(((s.heap.push<|eJ "list" #[] 0).update s.heap.objs.size (eG (·++vs.toArray))).push<|eJ "list" vs.toArray 0).get? (s.heap.objs.size+1)=aa (eJ "list" vs.toArray 0):=by
  rw[<-hsz];exact aG _ rfl
 rw[hsz];refine ab (bH (bW lx #[_,hoL,rfl] kW (by
  rw[Vl];exact list_sort_rev hoL h64 (λb o e=>by
   have hlt:=aE e;refine#[bn<|cP hlt,?_];rw[gz _ _ _ (by rw[hsz];exact bn<|cP hlt),lK _ _ _ _<|bn hlt,gz _ _ _<|bn hlt]
   exact e) O K λp a1 a2=>#[_,rfl,aq #[_,rfl,h p a1 a2]])<|ly _))
end Sq
namespace Sd
open PySem PySem.Spec PyProof.Rows L2
open Ev (E Sm Fn Bop Cop Ty Bf Mf)
section
variable{X:Cx}{pq:List (aL×fw)}{Z:L2.St}{H:Hp}{s:ax}{A:cZ}{E:ap->ax->Prop}{b:Bool}{Q:ap->ax->Prop}
def zG(I:Inv X pq Z H s)(rx:Zx x u)(ty:TyOf X.K H x t)(htp:s.heap.get? tp=aa #[.type "tuple",dd,.seq its.toArray n,sl])
  (e:d5 X.K t its=aa b)(h:∀tk,Q (.bool b) {s with toks:=tk}):aX (aS X.prog X.w) A (call (.builtin "isinstance") [u,.ref tp]) Q E s:=by
 cases ty with
 |non=>cases(show u=bg from rx);exact cX mw I.kIn cR htp e (λz=>nomatch z) h
 |bl y=>cases(rx);exact cX my I.kIn cR htp e (λz=>nomatch z) h
 |int i=>obtain⟨t,q⟩:=(rx);cases q;exact cX m7 I.kIn cR htp e (λz=>nomatch z) h
 |str y=>obtain⟨t,q⟩:=(rx);cases q;exact cX m8 I.kIn cR htp e (λz=>nomatch z) h
 |flt y=>obtain⟨t,q⟩:=(rx);cases q;exact cX mh I.kIn cR htp e (λz=>nomatch z) h
 |@lst a xs ea=>
  cases(rx);obtain⟨_,_,n,_,h1⟩:=(I.hok a _ ea)
  exact cX gh I.kIn #[_,h1,rfl] htp e (λz=>nomatch z) h
 |@frz a ob xs ea=>
  cases(rx);obtain⟨_,_,_,n,_,h1⟩:=(I.hok a _ ea)
  exact cX gh I.kIn #[_,h1,rfl] htp e (λz=>nomatch z) h
 |@tup a xs ea=>
  cases(rx);obtain⟨_,_,_,p⟩:=(I.hok a _ ea)
  obtain⟨o,h1,h2,_⟩:=p;exact cX mi I.kIn #[o,h1,h2] htp e (λz=>nomatch z) h
 |@dK a kvs ea=>
  cases(show u=cn a from rx);obtain⟨_,_,vs,_,p⟩:=(I.hok a _ ea)
  obtain⟨o,es,ep,h1,h2,_⟩:=p;exact cX gj I.kIn #[o,h1,h2.1] htp e (λz=>nomatch z) h
 |@dT a kvs ea=>
  cases(show u=cn a from rx);obtain⟨_,_,xs,_,o,es,ep,h1,h2,_⟩:=(I.hok a _ ea)
  exact cX gj I.kIn #[o,h1,h2.1] htp e (λz=>nomatch z) h
 |@ins a C dx fs ea cl ha hn htk hm=>
  cases(show u=cn a from rx);obtain⟨mA,O,_⟩:=xI I.hok ea
  obtain⟨od,J,_⟩:=O.look;exact cX (m9 (cl.get _) cl.hd ha hn htk hm) I.kIn J htp e (λz=>nomatch z) h
end
section
variable{X:Cx}{xw:Nat->Hp->Prop}{C:Calls}{e a b c:Expr}{i j k:E}{pos p p' p2 p3:gW}
def wP(T U:String):ZH X (.builtin "isinstance") (λvs H Q=>∃v tv n q,vs=[v,.ref q]/\H q=aa (.tup [.ty T,.ty U])/\TyOf X.K H v tv/\d5 X.K tv [.type T,.type U]=aa n/\Q (.bl n) H):=by
 intro pq s Z H vs us Q I r h;obtain⟨v,tv,n,q,rfl,hq,ty,e,qq⟩:=h;obtain⟨u,w',rfl,r1,r2⟩:=GS r;cases r2;obtain⟨its,rv,⟨o,ho,hc,m,hd⟩,_⟩:=I.tuple<|SqT.of hq;obtain⟨cls,dd,data,sl⟩:=o;simp only at hc hd;subst hc hd;obtain⟨z1,z2,rfl,q1,q2⟩:=GS rv;cases q1;cases q2;exact zG I r1 ty ho e λtk=>#[.bl n,H,I.tok tk,rfl,qq]
def TyOf.later{K:ao}{H:Hp}{v:V}{tv:ap}{q:aL}{o:HO}(h:TyOf K H v tv)(hq:H q=ag):TyOf K (upd H q o) v tv:=by
 cases h with|non=>exact .non|bl b=>exact .bl b|int b=>exact .int b|str b=>exact .str b|flt b=>exact .flt b|lst e=>exact .lst (by rw[Zl<|ZM e hq];exact e)|frz e=>exact .frz (by rw[Zl<|ZM e hq];exact e)|tup e=>exact .tup (by rw[Zl<|ZM e hq];exact e)|dK e=>exact .dK (by rw[Zl<|ZM e hq];exact e)|dT e=>exact .dT (by rw[Zl<|ZM e hq];exact e)|ins e a1 a2 a3 a4 a5=>exact .ins (by rw[Zl<|ZM e hq];exact e) a1 a2 a3 a4 a5
def TyOf.uniq{K:ao}{H:Hp}{v:V}{t1 t2:ap}(h1:TyOf K H v t1)(h2:TyOf K H v t2):t1=t2:=by
 cases h1<;>cases h2<;>first|rfl|simp_all
theorem qW{T U:bB}{t u:Ty}{k0:Nat}{p4:gW}(ht:∀m,t≠.cls m)(hu:∀m,u≠.cls m)(hm:X.mg "isinstance" = ag)(hmT:X.mg T=ag)(hmU:X.mg U=ag)(ha:CE X xw C a i)(hg:Gl X "isinstance")(hgT:Gl X T)(hgU:Gl X U)(hvT:db T=aa (.type<|ZG t))(hvU:db U=aa (.type<|ZG u))(hnT:T≠"__name__")(hdT:(T == ("__debug__" : bB))=am)(hnU:U≠"__name__")(hdU:(U == ("__debug__" : bB))=am)
  (hs0:aH [.Name T p2,.Name U p3] X.env=(am,cD (.Name T p2) X.env)::aH [.Name U p3] X.env)(hs00:aH [.Name U p3] X.env=(am,cD (.Name U p3) X.env)::aH [] X.env)
  (hs1:aH [a,.Tuple [.Name T p2,.Name U p3] k0 p4] X.env=(am,cD a X.env)::aH [.Tuple [.Name T p2,.Name U p3] k0 p4] X.env)(hs2:aH [.Tuple [.Name T p2,.Name U p3] k0 p4] X.env=(am,cD (.Tuple [.Name T p2,.Name U p3] k0 p4) X.env)::aH [] X.env)(hpl:(dW pos<|aH [.Tuple [.Name T p2,.Name U p3] k0 p4] X.env).any (·.1)=am) :
  CE X xw C (.Call (.Name "isinstance" p) [a,.Tuple [.Name T p2,.Name U p3] k0 p4] [] pos) (.isi i [t,u]):=.mk <|
 PE.imp (WH (wP (ZG t)<|ZG u) hg hm (by rfl) (Yu ha.h (Yu (vZ<|Yu (Jf (v:=.ty<|ZG t) hgT hmT hvT rfl hnT hdT) (Yu (Jf (v:=.ty<|ZG u) hgU hmU hvU rfl hnU hdU) Vh hs00) hs0) Vh hs2) hs1) (by decide) (by decide) hs1 hpl)<|by
  rintro Z H Q ⟨O,l,S,st,lr,h⟩;refine#[O,l,S,st,lr,End.bind (show End X.K xw Rep O H Q ((Pv.pv C i l S).bind _)from h) λx S1 ρ1 H1 v f1 st1 r1 h1=>#[by show 2<=bi;rw[cc];lia,λq hq=>?_]]
  obtain⟨n,hn,h2⟩:=End.ob h1;have st2:=st1.fresh (o:=.tup [.ty<|ZG t,.ty<|ZG u]) hq;have f2:=ZO (O:=ρ1) (o:=.tup [.ty<|ZG t,.ty<|ZG u]) hq;have fin:∀tv,TyOf X.K H1 v tv->d5 X.K tv [.type<|ZG t,.type<|ZG u]=aa n->_:=λtv ty e=>(#[v,tv,n,q,rfl,ZD,TyOf.later ty hq,e,h2 ρ1 _ _ f2 st2<|Ye n]:∃v' tv n q',[v,V.ref q]=[v',.ref q']/\upd H1 q (.tup [.ty<|ZG t,.ty<|ZG u]) q'=aa (.tup [.ty<|ZG t,.ty<|ZG u])/\TyOf X.K (upd H1 q<|.tup [.ty<|ZG t,.ty<|ZG u]) v' tv/\d5 X.K tv [.type<|ZG t,.type<|ZG u]=aa n/\Q (.bl n) (upd H1 q<|.tup [.ty<|ZG t,.ty<|ZG u]))
  unfold Pv.Z9 at hn;cases q1:Pv.Yz x t with
  |none=>rw[q1]at hn;cases hn
  |some m=>
   rw[q1]at hn;obtain⟨tv,ty,e⟩:=zF r1 ht q1;cases m with
   |true=>
    have hn':n=ai:=(ak hn).symm;exact fin tv ty (by unfold d5;rw[e,hn'])
   |false=>
    have hn1:(match Pv.Yz x u with
     |some ai=>aa ai
     |some am=>Pv.Z9 x []
     |none=>ag)=aa n:=hn
    cases q2:Pv.Yz x u with
    |none=>rw[q2]at hn1;cases hn1
    |some m2=>
     rw[q2]at hn1;obtain⟨tv2,ty2,e2⟩:=zF r1 hu q2;have et:tv2=tv:=TyOf.uniq ty2 ty;subst et;refine fin tv2 ty ?_;unfold d5;rw[e];show d5 X.K tv2 [.type<|ZG u]=aa n;unfold d5;rw[e2];cases m2 with|true=>exact hn1|false=>exact hn1
end
end Sd
namespace Sd
open Ev (ltI YH Zu)
theorem VU:∀{x y:List Int},x≠y->ltI x y=am->ltI y x=ai
 |[],[],h,_=>T7 rfl h
 |[],_::_,_,h=>by cases h
 |_::_,[],_,_=>rfl
 |a::x,b::y,h,e=>by
  unfold ltI at e ⊢;by_cases c:a=b
  .subst c
   rw[T9 rfl]at e ⊢;exact VU (λz=>h<|by rw[z]) e
  .rw[T8 c]at e
   rw[T8<|Ne.symm c];have:=of_decide_eq_false e;exact T5 (by omega)
theorem XT:∀{x y:List Int},ltI x y=ai->ltI y x=am
 |[],[],h=>by cases h
 |[],_::_,_=>rfl
 |_::_,[],h=>by cases h
 |a::x,b::y,e=>by
  unfold ltI at e ⊢;by_cases c:a=b
  .subst c
   rw[T9 rfl]at e ⊢;exact XT e
  .rw[T8 c]at e
   rw[T8<|Ne.symm c];have:=T6 e;exact T4 (by omega)
theorem Q6:∀{x y z:List Int},ltI x y=ai->ltI y z=ai->ltI x z=ai
 |[],[],_,h,_=>by cases h
 |_::_,[],_,h,_=>by cases h
 |_,_::_,[],_,h=>by cases h
 |[],_::_,_::_,_,_=>rfl
 |a::x,b::y,c::z,e,f=>by
  unfold ltI at e f ⊢;by_cases h1:a=b
  .subst h1
   rw[T9 rfl]at e;by_cases h2:a=c
   .subst h2
    rw[T9 rfl]at f ⊢;exact Q6 e f
   .rw[T8 h2]at f ⊢;exact f
  .rw[T8 h1]at e
   have e':=T6 e;by_cases h2:b=c
   .subst h2
    rw[T8 h1];exact e
   .rw[T8 h2]at f
    have f':=T6 f;rw[T8 (by omega)]
    exact T5 (by omega)
theorem WY(x:List Int):∀l:List (List Int),(YH x l).Perm (x::l)
 |[]=>bz _
 |y::r=>by
  unfold YH;split
  .exact bz _
  .exact((WY x r).cons y).trans<|gA x y r
theorem Xa:∀l:List (List Int),(Zu l).Perm l
 |[]=>bz _
 |x::r=>(WY x<|Zu r).trans<|(Xa r).cons x
theorem Vx(x:List Int):∀{l:List (List Int)},(∀y∈l,x≠y)->l.Pairwise (λa b=>ltI a b=ai)->(YH x l).Pairwise (λa b=>ltI a b=ai)
 |[],_,_=>by exact eR ..
 |y::r,hn,h=>by
  rw[aV]at h;unfold YH;split
  .rename_i c
   rw[aV,aV];refine#[λz hz=>?_,h]
   rcases aB.mp hz with rfl|hz
   .exact c
   .exact Q6 c<|h.1 z hz
  .rename_i c
   rw[aV];refine#[λz hz=>?_,Vx x (λy hy=>hn y<|aj _ hy) h.2]
   rcases aB.mp ((WY x r).mem_iff.mp hz)with rfl|hz
   .exact VU (hn y<|al ..) (by simpa using c)
   .exact h.1 z hz
theorem Xn:∀{l:List (List Int)},l.Nodup->(Zu l).Pairwise (λa b=>ltI a b=ai)
 |[],_=>gq
 |x::r,h=>by
  rw[dy]at h;exact Vx x (λy hy e=>h.1<|by rw[e];exact(Xa r).mem_iff.mp hy)<|Xn h.2
theorem Xt:∀{a b:List (List Int)},a.Perm b->a.Pairwise (λx y=>ltI x y=ai)->b.Pairwise (λx y=>ltI x y=ai)->a=b
 |[],b,p,_,_=>(ny p)
 |x::a,[],p,_,_=>by have:=p.length_eq;simp at this
 |x::a,y::b,p,ha,hb=>by
  rw[aV]at ha hb;have e:x=y:=by
   rcases aB.mp (p.mem_iff.mp<|al ..)with h|h
   .exact h
   .rcases aB.mp (p.mem_iff.mpr (al))with h2|h2
    .exact h2.symm
    .have z1:=hb.1 x h
     have z2:=ha.1 y h2;rw[XT z1]at z2;cases z2
  subst e;rw[Xt (oA x |>.mp p) ha.2 hb.2]
open PySem PySem.Spec PyProof.Rows L2
open Ev (E Sm Fn Bop Cop Ty Bf Mf Ya Vk Z7 ltP ZY)
noncomputable def UK(fin:Bool):List Int->List Int->Bool
 |[],_=>fin
 |_::_,[]=>fin
 |a::x,b::y=>if a=b then UK fin x y else af (a<b)
theorem QS:∀(x y:List Int),UK (af<|x.length<y.length) x y=ltI x y
 |[],[]=>rfl
 |[],_::_=>by unfold UK ltI;simp
 |_::_,[]=>by unfold UK ltI;simp
 |a::x,b::y=>by
  unfold UK ltI;have:af ((a::x).length<(b::y).length)=af (x.length<y.length):=by simp
  rw[this,QS x y]
theorem GC{C:Bool->ax->Prop}:∀{x y:List Int}{u v:List ap}{i:Nat},Vals (x.map V.int) u->Vals (y.map V.int) v->C (UK fin x y) s->oB prog w A b fin C (u.zip v) i s
 |[],_,_,_,_,.nil,_,h=>by rw[gB];exact g9 h
 |_::_,[],_,_,_,_,.nil,h=>by rw[f8];exact g9 h
 |a::x,c::y,_,_,i,.cons ra ta,.cons rb tb,h=>by
  obtain⟨t,rfl⟩:=ra;obtain⟨t',rfl⟩:=rb;rw[bS];refine nz<|ki ?_;unfold UK at h;by_cases e:a=c
  .rw[T9 e]at h
   rw[beq_iff_eq.mpr e];exact nT<|GC ta tb h
  .rw[T8 e]at h
   rw[beq_eq_false_iff_ne.mpr e];refine oC ?_;cases q:(b&&i == 0)with|true=>exact oneLt_int h|false=>exact nU _ _<|lt_int h
inductive RowsAt(h:ck):List (List Int)->List ap->Prop where
 |nil:RowsAt h [] []
 |cons {r:List Int} {rs:List (List Int)} {vs:List ap} {a:aL} {o:fw} {us:List ap} {m:Nat} (ho:h.get? a=aa o) (hc:o.cls=.type "tuple") (hd:o.data=.seq us.toArray m) (hv:Vals (r.map V.int) us) (t:RowsAt h rs vs):RowsAt h (r::rs) (.ref a::vs)
theorem UE:∀{ks:List D}{k:List Int},Pv.intsV ks=aa k->ks=k.map Pv.V.int
 |[],k,h=>by cases h;rfl
 |d::ks,k,h=>by
  obtain⟨n,r,rfl,e,rfl⟩:=Qh h;rw[UE e];rfl
def wY(h:Pv.Z2 (d::ds)=aa rs):∃a b,d=Pv.Zb a/\Pv.Z2 ds=aa b/\rs=a::b:=by
 cases d with
 |tup x=>
  have h:(match Pv.intsV x,Pv.Z2 ds with
   |some a,aa b=>aa (a::b)
   |_,_=>ag)=aa rs:=h
  cases q1:Pv.intsV x with
  |none=>rw[q1]at h;cases h
  |some a=>
   cases q2:Pv.Z2 ds with
   |none=>rw[q1,q2]at h;cases h
   |some b=>
    rw[q1,q2]at h;exact#[a,b,congrArg Pv.V.tup<|UE q1,rfl,(ak h).symm]
 |_=>exact Ev.nos h
theorem Rq.intsV:∀{r:List Int}{xs:List V},Rq O H (r.map Pv.V.int) xs->xs=r.map V.int
 |[],xs,h=>by exact h
 |n::r,xs,h=>by
  have h':=h;obtain⟨v,vs,rfl,a,b⟩:=h';rw[a.int',Rq.intsV b];rfl
theorem XS(I:Inv X pq Z H s):∀{ds:List D}{rs:List (List Int)}{xs:List V}{its:List ap},Pv.Z2 ds=aa rs->Rq O H ds xs->Vals xs its->RowsAt s.heap rs its/\ds=rs.map Pv.Zb
 |[],rs,xs,its,h,r,v=>by
  subst r;cases v;cases h;exact#[.nil,rfl]
 |d::ds,rs,xs,its,h,r,v=>by
  obtain⟨x,xs',rfl,r1,r2⟩:=r;cases v with
  |cons v1 v2=>
   obtain⟨a,b,rfl,q2,rfl⟩:=wY h;obtain⟨t,e⟩:=XS I q2 r2 v2;obtain⟨p,ys,rfl,hp,ry⟩:=r1.tup';have ey:=Rq.intsV ry;subst ey;cases v1;obtain⟨us,rv,⟨o,ho,hc,m,hd⟩,_⟩:=I.tuple<|SqT.of hp;exact#[.cons ho hc hd rv t,by rw[e];rfl]
theorem RowsAt.length{h:ck}:∀{rs:List (List Int)}{vs:List ap},RowsAt h rs vs->rs.length=vs.length
 |_,_,.nil=>rfl
 |_,_,.cons _ _ _ _ t=>by rw[aK,aK,RowsAt.length t]
theorem RowsAt.at{h:ck}:∀{rs:List (List Int)}{vs:List ap}(i:Nat),RowsAt h rs vs->i<vs.length->∃a o us m,vs.getD i bg=.ref a/\h.get? a=aa o/\o.data=.seq us.toArray m/\Vals ((rs.getD i []).map V.int) us
 |_,_,_,.nil,hi=>by simp at hi
 |_,_,0,.cons ho hc hd hv t,_=>#[_,_,_,_,rfl,ho,hd,hv]
 |_,_,i+1,.cons ho hc hd hv t,hi=>by
  obtain⟨a,o,us,m,e1,e2,e3,e4⟩:=RowsAt.at i t (by simpa using hi)
  exact#[a,o,us,m,by simpa using e1,e2,e3,by simpa using e4]
theorem RowsAt.tups(k:Sq.Lat h h'):∀{rs:List (List Int)}{vs:List ap},RowsAt h rs vs->(∀r∈rs,r≠[])->∃fs,nV h' vs fs/\fs.length=vs.length/\∀v∈fs,∃n t,v=e9 n t
 |_,_,.nil,_=>#[[],.nil,rfl,λv hv=>by cases hv]
 |_,_,.cons (r:=r) ho hc hd hv t,hn=>by
  obtain⟨fs,t1,t2,t3⟩:=RowsAt.tups k t λr hr=>hn r<|aj _ hr
  have hr:=hn r<|al ..;cases r with
  |nil=>exact T7 rfl hr
  |cons n r=>
   obtain⟨u,g,rel⟩:=hv.get (i:=0) rfl;refine#[u::fs,.cons (k _ _ ho) hc hd (by simpa using g) t1,by rw[aK,aK,t2],λv hv=>?_]
   rcases aB.mp hv with rfl|hv
   .obtain⟨tk,e⟩:=rel
    exact#[n,tk,e]
   .exact t3 v hv
theorem Wr:∀{x y:List Int}{us:List ap},Vals (x.map V.int) us->Vals (y.map V.int) us->x=y
 |[],[],_,_,_=>rfl
 |[],_::_,_,.nil,h=>by cases h
 |_::_,[],_,h,.nil=>by cases h
 |a::x,b::y,_,.cons r t,.cons r' t'=>by
  obtain⟨k,rfl⟩:=r;obtain⟨k',e⟩:=r';cases e;rw[Wr t t']
def JL{B:Type}{df:B}{rs:List B}{vs:List ap}(hl:rs.length=vs.length)(nd:rs.Nodup)(h:∀i j,i<vs.length->j<vs.length->vs.getD i bg=vs.getD j bg->rs.getD i df=rs.getD j df):vs.Nodup:=by
 refine bu.mpr λi j hi hj hij e=>?_
 have:=h i j hi hj (by simp[hi,hj,e])
 simp only[aC,ae (show i<rs.length by lia),ae (show j<rs.length by lia)]at this
 exact bu.mp nd i j (by lia) (by lia) hij this
def Qi{prog:bG}{w:b0}{A:cZ}{h:ck}{rs:List (List Int)}{vs:List ap}(R:RowsAt h rs vs)(nd:rs.Nodup)(hn:∀r∈rs,r≠[]):Sq.Asks prog w A h vs (tuples' ai) (λi j=>ltI (rs.getD i [])<|rs.getD j []):=by
 refine#[λh2 s' E Q k q=>?_,JL (df:=[]) R.length nd λi j hi hj e=>?_,λi j hi hj s' C E k q=>?_]
 .obtain⟨fs,t1,t2,t3⟩:=R.tups k hn
  exact nA (T:=.type "int") t1 (by lia) (λv hv=>by obtain⟨n,t,rfl⟩:=t3 v hv;exact PySem.W.Looks.of_pure rfl) rfl q
 .obtain⟨a,o,us,m,e1,e2,e3,e4⟩:=R.at i hi
  obtain⟨a',o',us',m',f1,f2,f3,f4⟩:=R.at j hj;rw[e1,f1]at e;cases e;rw[e2]at f2;cases f2;rw[e3]at f3;cases f3;exact Wr e4 f4
 .obtain⟨a,o,us,m,e1,e2,e3,e4⟩:=R.at i hi
  obtain⟨a',o',us',m',f1,f2,f3,f4⟩:=R.at j hj;rw[e1,f1];refine oD (k _ _ e2) e3 (k _ _ f2) f3<|GC e4 f4 ?_;have l1:us.toArray.size=(rs.getD i []).length:=by rw[ay,<-e4.length,aw]
  have l2:us'.toArray.size=(rs.getD j []).length:=by rw[ay,<-f4.length,aw]
  rw[l1,l2,QS];exact q
def J3{rs:List (List Int)}{n:Nat}(hn:rs.Nodup)(hl:rs.length=n):Sq.Ord n (λi j=>ltI (rs.getD i [])<|rs.getD j []):=by
 have hd:∀i j,i<n->j<n->i≠j->rs.getD i []≠rs.getD j []:=λi j hi hj ne e=>by
  simp only[aC]at e;have hi':i<rs.length:=by lia
  have hj':j<rs.length:=by lia
  refine ne<|(fu hi' hn).mp ?_;rw[ae hi',ae hj']at e ⊢;exact congrArg aa e
 exact#[λi j hi hj ne e=>VU (hd i j hi hj ne) e,λi j _ _ e=>XT e,λi j k _ _ _ e f=>Q6 e f]
def Ut{B β:Type}(b:Bool)(f:B->β)(l:List B):aY b (l.map f)=(aY b l).map f:=by
 cases b
 .rfl
 .exact List.map_reverse.symm
def Vp{B:Type}(b:Bool)(l:List B):(aY b l).Perm l:=by
 cases b
 .exact bz _
 .exact eC l
def YN{B:Type}{d:B}{b:Bool}{vs:List B}{i:Nat}(hi:i<vs.length):(aY b vs).getD i d=vs.getD (if b=ai then vs.length-1-i else i) d:=by
 cases b
 .rfl
 .show vs.reverse.getD i d=vs.getD (vs.length-1-i) d
  simp only[aC];rw[k5 hi]
def JJ{rs:List (List Int)}{b:Bool}{p:Array Nat}(hn:rs.Nodup)(h1:Sq.Pm rs.length p)(h2:Sq.Up (Sq.ltR b rs.length λi j=>ltI (rs.getD i [])<|rs.getD j []) p rs.length) :
  (p.toList.map λi=>(aY b rs).getD i [])=Zu rs:=by
 have hp:p.toList.Perm (az rs.length):=by simpa using bm.mp h1
 have hl:p.toList.length=rs.length:=by rw[hp.length_eq,aZ]
 refine Xt ?_ ?_<|Xn hn
 .refine((hp.map _).trans ?_).trans (Xa rs).symm
  have e:(az rs.length).map (λi=>(aY b rs).getD i [])=aY b rs:=by
   apply bK
   intro i;rw[aJ];by_cases h:i<rs.length
   .have:i<(aY b rs).length:=by rw[eg];exact h
    rw[cq h];simp[this]
   .have:(aY b rs).length<=i:=by rw[eg];lia
    simp[dC h,this]
  rw[e];exact Vp b rs
 .rw[cA,bu]
  intro i j hi hj hij;have g1:p.toList[i]=Sq.g p i:=by
   have:=Sq.ww (by simpa using hi)
   rw[<-bc,ae hi]at this;exact ak this
  have g2:p.toList[j]=Sq.g p j:=by
   have:=Sq.ww (by simpa using hj)
   rw[<-bc,ae hj]at this;exact ak this
  rw[g1,g2,YN (h1.lt (by lia)),YN<|h1.lt (by lia)]
  have:=h2 i j hij (by lia)
  cases b
  .exact this
  .exact this
def J1{F:List Nat}{xs:List V}{rs:List (List Int)}(h:Rq O H (rs.map Pv.Zb) xs)(hF:∀i∈F,i<rs.length):Rq O H ((F.map λi=>rs.getD i []).map Pv.Zb) (F.map λi=>xs.getD i V.non):=by
 induction F with
 |nil=>exact Rq.nil
 |cons i F ih=>
  refine Rq.cons ?_<|ih λj hj=>hF j<|aj _ hj
  have hi:=hF i<|al ..;obtain⟨v,g,r⟩:=h.get (by rw[aJ,ae hi];rfl)
  show Rep O H (Pv.Zb<|rs.getD i []) (xs.getD i V.non);rw[aC,aC,g,ae hi];exact r
def Ua{F:List Nat}{xs:List V}{us:List ap}(h:Vals xs us)(hF:∀i∈F,i<xs.length):Vals (F.map λi=>xs.getD i V.non) (F.map λi=>us.getD i bg):=by
 induction F with
 |nil=>exact .nil
 |cons i F ih=>
  refine .cons ?_<|ih λj hj=>hF j<|aj _ hj
  have hi:=hF i<|al ..;obtain⟨u,g,r⟩:=h.get<|ae hi;show Zx (xs.getD i V.non) (us.getD i bg);rw[aC,aC,g,ae hi];exact r
def Gq(h:Rq O H ds xs):Rq O H (aY b ds) (aY b xs):=by
 cases b
 .exact h
 .exact h.reverse
def GT :∀{xs:List V}{us:List ap},Vals xs us->Vals (aY b xs) (aY b us):=by
 cases b
 .exact λh=>h
 .have snoc:∀{xs:List V}{us:List ap}{x:V}{u:ap},Vals xs us->Zx x u->Vals (xs++[x]) (us++[u]):=by
   intro xs us x u h r
   induction h with|nil=>exact .cons r .nil|cons a _ ih=>exact .cons a ih
  intro xs us h;show Vals xs.reverse us.reverse
  induction h with|nil=>exact .nil|cons r t ih=>rw[gu,gu];exact snoc ih r
def Zbd(b:Bool):List V->Hp->VK->Prop:=λvs H Q=>∃O ds rws v,vs=[v]/\Rep O H (.lst ds) v/\Pv.Z2 ds=aa rws/\Ya rws=ai/\∀ys,Rq O H ((if b then(Zu rws).reverse else Zu rws).map Pv.Zb) ys->∀p,H p=ag->Q (.ref p) (upd H p<|.lst ys)
def wC{pq:List (aL×fw)}{s:ax}{Z:L2.St}{H:Hp}{vs:List V}{us:List ap}{Q:VK}{b:Bool}(I:Inv X pq Z H s)(r:Vals vs us)(h:Zbd b vs H Q) :
  ∃(l:aL)(its:List ap)(rs:List (List Int)),us=[.ref l]/\s.heap.IsList l its.toArray/\its.length<=100000/\rs.length=its.length/\Sq.Ord its.length (λi j=>ltI (rs.getD i [])<|rs.getD j [])/\(∀A,Sq.Asks X.prog X.w A s.heap its (tuples' ai) λi j=>ltI (rs.getD i [])<|rs.getD j [])/\
   ∀p,Sq.Pm its.length p->Sq.Up (Sq.ltR b its.length λi j=>ltI (rs.getD i [])<|rs.getD j []) p its.length->
    EP X pq Z Q (.ref<|s.heap.objs.size+1) {s with heap:=sortedAll s.heap its (cg<|aY b<|p.toList.map λi=>(aY b its).getD i bg)}:=by
 obtain⟨O,ds,rws,v,rfl,r1,hrw,hok,h3⟩:=h;obtain⟨l,xs,rfl,hx,_,rx⟩:=r1.lst';obtain⟨u,rfl,ru⟩:=X2 r;cases ru;obtain⟨its,rv,pl,hz⟩:=I.list<|SqL.of hx;obtain⟨RA,ed⟩:=XS I hrw rx rv;obtain⟨hok1,hok3⟩:=(aA _ _).mp hok;obtain⟨hok1,hok2⟩:=(aA _ _).mp hok1;have h64:=T6 hok1;have hnd:=T6 hok2;have hne:∀r∈rws,r≠[]:=λr hr e=>by
  have:=aT.mp hok3 r hr;rw[e]at this;cases this
 have hlen:=RA.length;refine#[l,its,rws,rfl,pl.isList,by lia,hlen,J3 hnd hlen,λA=>Qi RA hnd hne,λp hp hu=>?_]
 rw[<-hlen]at hp hu;have out:=JJ hnd hp hu;have hmem:∀i∈p.toList,i<rws.length:=λi hi=>by
  have hp':p.toList.Perm (az rws.length):=by simpa using bm.mp hp
  exact aP.mp<|hp'.mem_iff.mp hi
 subst ed;have xl:xs.length=rws.length:=by rw[rx.length,aw]
 have rx1:Rq O H ((aY b rws).map Pv.Zb) (aY b xs):=by rw[<-Ut];exact Gq rx
 have rx2:=J1 rx1 (by rw[eg];exact hmem)
 rw[out]at rx2;have rx3:=Gq (b:=b) rx2;have rv2:=GT (b:=b)<|Ua (GT (b:=b) rv) (by rw[eg,xl];exact hmem)
 have eb:(if b=ai then(Zu rws).reverse else Zu rws)=aY b (Zu rws):=rfl
 rw[eb,<-Ut]at h3;obtain⟨ep,he⟩:=sortedAll_at s.heap its<|cg<|aY b<|p.toList.map λi=>(aY b its).getD i bg
 refine#[.ref<|s.heap.objs.size+1,_,I.laid (t':=s.toks) (λb ob q=>sortedAll_old q) (gd _) ?_,rfl,h3 _ rx3 _<|I.hok.fresh<|gd _]
 refine#[?_,_,ep,rv2,he];rw[eg,aw,aF,hp.size,cc];lia
def GA:ZH X (.builtin "sorted") (Zbd am):=by
 intro pq s Z H vs us Q I r h;obtain⟨l,its,rs,rfl,h1,h2,h3,h4,h5,h6⟩:=wC I r h;exact Sq.WN h1 h2 h4 (h5 _) λp a b=>h6 p a b
end Sd
namespace Sd
open PySem PySem.Spec PyProof.Rows L2
open Ev (ltI)
open PySem.SeqAt PySem.MeetsSeq PySem.MeetsSeq2 PySem.MeetsSeq3 PySem.SeqRoads2
open PySem.AutoSeq1 (wpAny_loadPart')
def zM(l b:aL)(u v:List ap)(n n2:Nat)(dd dd2:Option aL)(sl sl2:Array (Option ap))(x y:List Int)(hx:Vals (x.map V.int) u)(hy:Vals (y.map V.int) v) :
  ou (dr.«tuple.__lt__» #[[.ref l,.ref b],[]]) (λA R s=>s.heap.get? l=aa {cls:=.type "tuple",dict:=dd,data:=.seq u.toArray n,slots:=sl}/\s.heap.get? b=aa {cls:=.type "tuple",dict:=dd2,data:=.seq v.toArray n2,slots:=sl2}/\R (.ok<|.ret<|.bool<|ltI x y) s):=
 .of_wp λprog w A R s h=>by
  obtain⟨hp,g,d,tk,os⟩:=s;obtain⟨hl,hb,h⟩:=h;have f2:=dE;rw[<-QS]at h
  wp_walk using hG hl,hG hb,wpAny_forIn_list _ (λrest b s'=>b.1=ag/\s'=#[hp,g,d,tk,os]/\∃x' y' u' v',rest=oZ u' v'/\Vals (lw V.int x') u'/\Vals (lw V.int y') v'/\R (.ok<|.ret<|.bool<|UK (af<|x.length<y.length) x' y') #[hp,g,d,tk,os]) _
  case turn=>
   rintro ⟨a,c⟩ rest b s' ⟨hb',rfl,x',y',u',v',hz,hx',hy',hR⟩
   match x',y',u',v',hx',hy',hz,hR with
   |i::x',j::y',_::u',_::v',.cons ra ta,.cons rb tb,hz,hR=>
    obtain⟨t,rfl⟩:=ra;obtain⟨t',rfl⟩:=rb;rw[bS]at hz;injection hz with h1 h2
    cases h1;unfold UK at hR;refine ab<|ki ?_;by_cases e:i=j
    .rw[T9 e]at hR
     rw[beq_iff_eq.mpr e]
     wp_walk
     exact#[rfl,rfl,x',y',u',v',h2,ta,tb,hR]
    .rw[T8 e]at hR
     rw[beq_eq_false_iff_ne.mpr e];simp only[oE,if_true];refine ab<|eI<|ab<|PyProof.Rows.lt_int ?_
     wp_walk
     exact#[_,rfl,by simpa using hR]
   |[],_,_,_,.nil,_,hz,_=>rw[gB]at hz;cases hz
   |_::_,[],_,_,_,.nil,hz,_=>rw[f8]at hz;cases hz
  case fin=>
   rintro ⟨b1,b2⟩ s' ⟨hb',rfl,x',y',u',v',hz,hx',hy',hR⟩
   simp only at hb';subst hb';have hf:UK (af<|x.length<y.length) x' y'=af (x.length<y.length):=by
    match x',y',u',v',hx',hy',hz with
    |[],_,_,_,_,_,_=>rfl
    |_::_,[],_,_,_,_,_=>rfl
    |_::_,_::_,_::_,_::_,.cons _ _,.cons _ _,hz=>rw[bS]at hz;cases hz
   rw[hf]at hR;have l1:u.length=x.length:=by rw[<-hx.length,aw]
   have l2:v.length=y.length:=by rw[<-hy.length,aw]
   wp_walk
   exact#[_,rfl,by simpa[gF,l1,l2]using hR]
  case h=>
   exact#[rfl,rfl,x,y,u,v,by simp,hx,hy,h]
def qY{E:ap->ax->Prop}{Q:ap->ax->Prop}(ha:s.heap.get? a=aa o)(hc:o.cls=.type "tuple")(hd:o.data=.seq u.toArray m)(hx:Vals (x.map V.int) u)
  (hb:s.heap.get? b=aa o')(hc':o'.cls=.type "tuple")(hd':o'.data=.seq v.toArray m')(hy:Vals (y.map V.int) v)(hu:A.units<dv)(q:Q (.bool<|ltI x y) s):aX (aS prog w) A (cF .Lt (.ref a)<|.ref b) Q E s:=by
 obtain⟨cls,dd,data,sl⟩:=o;obtain⟨cls2,dd2,data2,sl2⟩:=o';simp only at hc hd hc' hd';subst hc hd hc' hd';exact kM (op:=.Lt) #[_,ha,rfl] #[_,hb,rfl] nY nB (mT _ _) (zM a b u v m m' dd dd2 sl sl2 x y hx hy) #[ha,hb,#[(λx=>nomatch x),q]] hu
end Sd
namespace Sd
open Ev (ltI ltP Vk Z7)
structure StrictB{B:Type}(lt:B->B->Bool):Prop where
 tot:∀{x y},x≠y->lt x y=am->lt y x=ai
 asy:∀{x y},lt x y=ai->lt y x=am
 tr:∀{x y z},lt x y=ai->lt y z=ai->lt x z=ai
theorem yv:∀{x y:List (List Int)},x≠y->ltP x y=am->ltP y x=ai
 |[],[],h,_=>T7 rfl h
 |[],_::_,_,h=>by cases h
 |_::_,[],_,_=>rfl
 |a::x,b::y,h,e=>by
  unfold ltP at e ⊢;by_cases c:a=b
  .subst c
   rw[T9 rfl]at e ⊢;exact yv (λz=>h<|by rw[z]) e
  .rw[T8 c]at e
   rw[T8<|Ne.symm c];exact VU c e
theorem yn:∀{x y:List (List Int)},ltP x y=ai->ltP y x=am
 |[],[],h=>by cases h
 |[],_::_,_=>rfl
 |_::_,[],h=>by cases h
 |a::x,b::y,e=>by
  unfold ltP at e ⊢;by_cases c:a=b
  .subst c
   rw[T9 rfl]at e ⊢;exact yn e
  .rw[T8 c]at e
   rw[T8<|Ne.symm c];exact XT e
theorem qD:∀{x y z:List (List Int)},ltP x y=ai->ltP y z=ai->ltP x z=ai
 |[],[],_,h,_=>by cases h
 |_::_,[],_,h,_=>by cases h
 |_,_::_,[],_,h=>by cases h
 |[],_::_,_::_,_,_=>rfl
 |a::x,b::y,c::z,e,f=>by
  unfold ltP at e f ⊢;by_cases h1:a=b
  .subst h1
   rw[T9 rfl]at e;by_cases h2:a=c
   .subst h2
    rw[T9 rfl]at f ⊢;exact qD e f
   .rw[T8 h2]at f ⊢;exact f
  .rw[T8 h1]at e
   by_cases h2:b=c
   .subst h2
    rw[T8 h1];exact e
   .rw[T8 h2]at f
    have g:=Q6 e f;rw[T8 λz=>by subst z;rw[XT e]at f;cases f]
    exact g
def Yn:StrictB ltP:=#[yv,yn,qD]
section
variable{B:Type}{lt:B->B->Bool}
theorem Vi(x:B):∀l:List B,(Vk lt x l).Perm (x::l)
 |[]=>bz _
 |y::r=>by
  unfold Vk;split
  .exact bz _
  .exact((Vi x r).cons y).trans<|gA x y r
theorem Xl:∀l:List B,(Z7 lt l).Perm l
 |[]=>bz _
 |x::r=>(Vi x<|Z7 lt r).trans<|(Xl r).cons x
theorem Vz(O:StrictB lt)(x:B):∀{l:List B},(∀y∈l,x≠y)->l.Pairwise (λa b=>lt a b=ai)->(Vk lt x l).Pairwise (λa b=>lt a b=ai)
 |[],_,_=>by exact eR ..
 |y::r,hn,h=>by
  rw[aV]at h;unfold Vk;split
  .rename_i c
   rw[aV,aV];refine#[λz hz=>?_,h]
   rcases aB.mp hz with rfl|hz
   .exact c
   .exact O.tr c<|h.1 z hz
  .rename_i c
   rw[aV];refine#[λz hz=>?_,Vz O x (λy hy=>hn y<|aj _ hy) h.2]
   rcases aB.mp ((Vi x r).mem_iff.mp hz)with rfl|hz
   .exact O.tot (hn y<|al ..) (by simpa using c)
   .exact h.1 z hz
theorem Xj(O:StrictB lt):∀{l:List B},l.Nodup->(Z7 lt l).Pairwise (λa b=>lt a b=ai)
 |[],_=>gq
 |x::r,h=>by
  rw[dy]at h;exact Vz O x (λy hy e=>h.1<|by rw[e];exact(Xl r).mem_iff.mp hy)<|Xj O h.2
theorem Xc(O:StrictB lt):∀{a b:List B},a.Perm b->a.Pairwise (λx y=>lt x y=ai)->b.Pairwise (λx y=>lt x y=ai)->a=b
 |[],b,p,_,_=>(ny p)
 |x::a,[],p,_,_=>by have:=p.length_eq;simp at this
 |x::a,y::b,p,ha,hb=>by
  rw[aV]at ha hb;have e:x=y:=by
   rcases aB.mp (p.mem_iff.mp<|al ..)with h|h
   .exact h
   .rcases aB.mp (p.mem_iff.mpr (al))with h2|h2
    .exact h2.symm
    .have z1:=hb.1 x h
     have z2:=ha.1 y h2;rw[O.asy z1]at z2;cases z2
  subst e;rw[Xc O (oA x |>.mp p) ha.2 hb.2]
end
open PySem PySem.Spec PyProof.Rows L2
theorem QB:∀{x:List Int}{u:List ap}{j:Nat}(h:j<u.length),Vals (x.map V.int) u->∃t,u[j]=e9 (x.getD j 0) t
 |[],[],_,h,.nil=>by simp at h
 |_::_,_::_,0,_,.cons ra _=>by obtain⟨t,rfl⟩:=ra;exact#[t,rfl]
 |_::x,_::u,j+1,h,.cons _ ta=>by
  obtain⟨t,e⟩:=QB (by simpa using h) ta
  exact#[t,by simpa using e]
def Zeb:∀{x y:List Int},((az<|oK x.length y.length).all (λj=>x.getD j 0 == y.getD j 0)&&x.length == y.length)=af (x=y):=by
 intro x y;rw[cE,aA,aT,decide_eq_true_iff]
 constructor
 .rintro ⟨h1,h2⟩
  have h2:x.length=y.length:=by simpa using h2
  apply gM h2;intro i hi hj;have:=h1 i<|aP.mpr (by lia)
  simpa[hi,hj]using this
 .rintro rfl
  exact#[λj _=>by simp,by simp]
def WI(h:ck)(r:List Int)(v:ap):Prop:=∃a o us m,v=.ref a/\h.get? a=aa o/\o.cls=.type "tuple"/\o.data=.seq us.toArray m/\Vals (r.map V.int) us
def WI.lat(k:Sq.Lat h h')(R:WI h r v):WI h' r v:=by
 obtain⟨a,o,us,m,e,ho,hc,hd,hv⟩:=R;exact#[a,o,us,m,e,k _ _ ho,hc,hd,hv]
def xH(hx:WI s.heap x v)(hy:WI s.heap y u)(hu:A.units<dv):gH A s v u (af<|x=y):=by
 obtain⟨a,o,us,m,rfl,ho,hc,hd,hv⟩:=hx;obtain⟨b,o',us',m',rfl,ho',hc',hd',hv'⟩:=hy;have l1:us.toArray.size=x.length:=by rw[ay,<-hv.length,aw]
 have l2:us'.toArray.size=y.length:=by rw[ay,<-hv'.length,aw]
 by_cases e:a=b
 .subst e
  rw[ho]at ho';cases ho';rw[hd]at hd';injection hd' with h1 h2
  have h1:us=us':=by simpa using h1
  subst h1;rw[T5<|Wr hv hv'];exact gX _
 .refine iD e ?_
  have:=iV #[o,ho,hc,m,hd] #[o',ho',hc',m',hd'] hu (λj h1 h2=>by
   obtain⟨t,e1⟩:=QB (by simpa using h1) hv
   obtain⟨t',e2⟩:=QB (by simpa using h2) hv'
   rw[show us.toArray[j]=us[j]'(by simpa using h1) by simp,show us'.toArray[j]=us'[j]'(by simpa using h2) by simp,e1,e2]
   exact ml _ _ _ _)
  rw[l1,l2,Zeb]at this;exact this
def JM{E:ap->ax->Prop}{Q:ap->ax->Prop}(hx:WI s.heap x v)(hy:WI s.heap y u)(hu:A.units<dv)(q:Q (.bool<|ltI x y) s):aX (aS prog w) A (cF .Lt v u) Q E s:=by
 obtain⟨a,o,us,m,rfl,ho,hc,hd,hv⟩:=hx;obtain⟨b,o',us',m',rfl,ho',hc',hd',hv'⟩:=hy;exact qY ho hc hd hv ho' hc' hd' hv' hu q
noncomputable def UG(fin:Bool):List (List Int)->List (List Int)->Bool
 |[],_=>fin
 |_::_,[]=>fin
 |a::x,b::y=>if a=b then UG fin x y else ltI a b
theorem QH:∀(x y:List (List Int)),UG (af<|x.length<y.length) x y=ltP x y
 |[],[]=>rfl
 |[],_::_=>by unfold UG ltP;simp
 |_::_,[]=>by unfold UG ltP;simp
 |a::x,b::y=>by
  unfold UG ltP;have:af ((a::x).length<(b::y).length)=af (x.length<y.length):=by simp
  rw[this,QH x y]
inductive RowsIn(h:ck):List (List Int)->List ap->Prop where
 |nil:RowsIn h [] []
 |cons {r:List Int} {rs:List (List Int)} {v:ap} {vs:List ap} (a:WI h r v) (t:RowsIn h rs vs):RowsIn h (r::rs) (v::vs)
theorem RowsIn.lat(k:Sq.Lat h h'):∀{rs:List (List Int)}{vs:List ap},RowsIn h rs vs->RowsIn h' rs vs
 |_,_,.nil=>.nil
 |_,_,.cons a t=>.cons (a.lat k)<|RowsIn.lat k t
theorem RowsIn.length :∀{rs:List (List Int)}{vs:List ap},RowsIn h rs vs->rs.length=vs.length
 |_,_,.nil=>rfl
 |_,_,.cons _ t=>by rw[aK,aK,RowsIn.length t]
theorem JI{C:Bool->ax->Prop}(hu:A.units<dv):∀{x y:List (List Int)}{u v:List ap}{i:Nat},RowsIn s.heap x u->RowsIn s.heap y v->C (UG fin x y) s->oB prog w A am fin C (u.zip v) i s
 |[],_,_,_,_,.nil,_,h=>by rw[gB];exact g9 h
 |_::_,[],_,_,_,_,.nil,h=>by rw[f8];exact g9 h
 |a::x,c::y,_,_,i,.cons ra ta,.cons rb tb,h=>by
  rw[bS];refine nz<|xH ra rb hu prog w _ _ ?_;unfold UG at h;by_cases e:a=c
  .rw[T9 e]at h
   rw[T5 e];exact nT<|JI hu ta tb h
  .rw[T8 e]at h
   rw[T4 e];refine oC ?_;exact nU _ _<|JM ra rb hu h
open Ev (E Sm Fn Bop Cop Ty Bf Mf YH Zu Ya ZY)
section
variable{B:Type}{lt:B->B->Bool}{df:B}
theorem ZeB(O:StrictB lt){rs:List B}{n:Nat}(hn:rs.Nodup)(hl:rs.length=n):Sq.Ord n (λi j=>lt (rs.getD i df)<|rs.getD j df):=by
 have hd:∀i j,i<n->j<n->i≠j->rs.getD i df≠rs.getD j df:=λi j hi hj ne e=>by
  simp only[aC]at e;have hi':i<rs.length:=by lia
  have hj':j<rs.length:=by lia
  refine ne<|(fu hi' hn).mp ?_;rw[ae hi',ae hj']at e ⊢;exact congrArg aa e
 exact#[λi j hi hj ne e=>O.tot (hd i j hi hj ne) e,λi j _ _ e=>O.asy e,λi j k _ _ _ e f=>O.tr e f]
theorem Zew(O:StrictB lt)(hn:rs.Nodup)(h1:Sq.Pm rs.length p)(h2:Sq.Up (Sq.ltR b rs.length λi j=>lt (rs.getD i df)<|rs.getD j df) p rs.length) :
  (p.toList.map λi=>(aY b rs).getD i df)=Z7 lt rs:=by
 have hp:p.toList.Perm (az rs.length):=by simpa using bm.mp h1
 have hl:p.toList.length=rs.length:=by rw[hp.length_eq,aZ]
 refine Xc O ?_ ?_<|Xj O hn
 .refine((hp.map _).trans ?_).trans (Xl rs).symm
  have e:(az rs.length).map (λi=>(aY b rs).getD i df)=aY b rs:=by
   apply bK
   intro i;rw[aJ];by_cases h:i<rs.length
   .have:i<(aY b rs).length:=by rw[eg];exact h
    rw[cq h];simp[this]
   .have:(aY b rs).length<=i:=by rw[eg];lia
    simp[dC h,this]
  rw[e];exact Vp b rs
 .rw[cA,bu]
  intro i j hi hj hij;have g1:p.toList[i]=Sq.g p i:=by
   have:=Sq.ww (by simpa using hi)
   rw[<-bc,ae hi]at this;exact ak this
  have g2:p.toList[j]=Sq.g p j:=by
   have:=Sq.ww (by simpa using hj)
   rw[<-bc,ae hj]at this;exact ak this
  rw[g1,g2,YN (h1.lt (by lia)),YN<|h1.lt (by lia)]
  have:=h2 i j hij (by lia)
  cases b
  .exact this
  .exact this
def xS{O:Mx}{H:Hp}{enc:B->D}{F:List Nat}{xs:List V}{rs:List B}(h:Rq O H (rs.map enc) xs)(hF:∀i∈F,i<rs.length):Rq O H ((F.map λi=>rs.getD i df).map enc) (F.map λi=>xs.getD i V.non):=by
 induction F with
 |nil=>exact Rq.nil
 |cons i F ih=>
  refine Rq.cons ?_<|ih λj hj=>hF j<|aj _ hj
  have hi:=hF i<|al ..;obtain⟨v,g,r⟩:=h.get (by rw[aJ,ae hi];rfl)
  show Rep O H (enc<|rs.getD i df) (xs.getD i V.non);rw[aC,aC,g,ae hi];exact r
end
section
variable{X:Cx}{pq:List (aL×fw)}{Z:L2.St}{H:Hp}{s:ax}{O:Mx}
inductive PartsAt(h:ck):List (List (List Int))->List ap->Prop where
 |nil:PartsAt h [] []
 |cons {P:List (List Int)} {ps:List (List<|List Int)} {vs:List ap} {a:aL} {o:fw} {us:List ap} {m:Nat} (ho:h.get? a=aa o) (hc:o.cls=.type "tuple") (hd:o.data=.seq us.toArray m) (hv:RowsIn h P us) (t:PartsAt h ps vs):PartsAt h (P::ps) (.ref a::vs)
theorem RowsAt.ins{h:ck}:∀{rs:List (List Int)}{vs:List ap},RowsAt h rs vs->RowsIn h rs vs
 |_,_,.nil=>.nil
 |_,_,.cons ho hc hd hv t=>.cons #[_,_,_,_,rfl,ho,hc,hd,hv]<|RowsAt.ins t
def z6(h:Pv.Yt (d::ds)=aa ps):∃ks a b,d=.tup ks/\Pv.Z2 ks=aa a/\Pv.Yt ds=aa b/\ps=a::b:=by
 cases d with
 |tup ks=>
  have h:(match Pv.Z2 ks,Pv.Yt ds with
   |some a,aa b=>aa (a::b)
   |_,_=>ag)=aa ps:=h
  cases q1:Pv.Z2 ks with
  |none=>rw[q1]at h;cases h
  |some a=>
   cases q2:Pv.Yt ds with|none=>rw[q1,q2]at h;cases h|some b=>rw[q1,q2]at h;exact#[ks,a,b,rfl,q1,rfl,(ak h).symm]
 |_=>exact Ev.nos h
theorem Gr(I:Inv X pq Z H s):∀{ds:List D}{ps:List (List<|List Int)}{xs:List V}{its:List ap},Pv.Yt ds=aa ps->Rq O H ds xs->Vals xs its->PartsAt s.heap ps its/\ds=ps.map Pv.Ze
 |[],ps,xs,its,h,r,v=>by
  subst r;cases v;cases h;exact#[.nil,rfl]
 |d::ds,ps,xs,its,h,r,v=>by
  obtain⟨x,xs',rfl,r1,r2⟩:=r;cases v with
  |cons v1 v2=>
   obtain⟨ks,a,b,rfl,q1,q2,rfl⟩:=z6 h;obtain⟨t,e⟩:=Gr I q2 r2 v2;obtain⟨p,ys,rfl,hp,ry⟩:=r1.tup';cases v1;obtain⟨us,rv,⟨o,ho,hc,m,hd⟩,_⟩:=I.tuple<|SqT.of hp;obtain⟨ra,ek⟩:=XS I q1 ry rv;exact#[.cons ho hc hd ra.ins t,by rw[e,ek];rfl]
theorem PartsAt.length :∀{ps:List (List<|List Int)}{vs:List ap},PartsAt h ps vs->ps.length=vs.length
 |_,_,.nil=>rfl
 |_,_,.cons _ _ _ _ t=>by rw[aK,aK,PartsAt.length t]
theorem PartsAt.at :∀{ps:List (List<|List Int)}{vs:List ap}(i:Nat),PartsAt h ps vs->i<vs.length->∃a o us m,vs.getD i bg=.ref a/\h.get? a=aa o/\o.data=.seq us.toArray m/\RowsIn h (ps.getD i []) us
 |_,_,_,.nil,hi=>by simp at hi
 |_,_,0,.cons ho hc hd hv t,_=>#[_,_,_,_,rfl,ho,hd,hv]
 |_,_,i+1,.cons ho hc hd hv t,hi=>by
  obtain⟨a,o,us,m,e1,e2,e3,e4⟩:=PartsAt.at i t (by simpa using hi)
  exact#[a,o,us,m,by simpa using e1,e2,e3,by simpa using e4]
theorem PartsAt.tups(k:Sq.Lat h h'):∀{ps:List (List<|List Int)}{vs:List ap},PartsAt h ps vs->(∀P∈ps,P≠[])->∃fs,nV h' vs fs/\fs.length=vs.length/\∀v∈fs,∃r,WI h' r v
 |_,_,.nil,_=>#[[],.nil,rfl,λv hv=>by cases hv]
 |_,_,.cons (P:=P) ho hc hd hv t,hn=>by
  obtain⟨fs,t1,t2,t3⟩:=PartsAt.tups k t λr hr=>hn r<|aj _ hr
  have hr:=hn P<|al ..;cases hv with
  |nil=>exact T7 rfl hr
  |cons a tl=>
   rename_i r rs v vs
   refine#[v::fs,.cons (k _ _ ho) hc hd (by simp) t1,by rw[aK,aK,t2],λz hz=>?_]
   rcases aB.mp hz with rfl|hz
   .exact#[r,a.lat k]
   .exact t3 z hz
theorem V7 :∀{P P':List (List Int)}{us:List ap},RowsIn h P us->RowsIn h P' us->P=P'
 |_,_,_,.nil,.nil=>rfl
 |_,_,_,.cons r t,.cons r' t'=>by
  obtain⟨a,o,us,m,rfl,ho,_,hd,hv⟩:=r;obtain⟨a',o',us',m',e,ho',_,hd',hv'⟩:=r';cases e;rw[ho]at ho';cases ho';rw[hd]at hd';cases hd';rw[Wr hv hv',V7 t t']
theorem yj(hu:A.units<dv)(R:PartsAt h ps vs)(nd:ps.Nodup)(hn:2<=vs.length->∀P∈ps,P≠[]):Sq.Asks prog w A h vs (tuples' am) (λi j=>ltP (ps.getD i [])<|ps.getD j []):=by
 refine#[λh2 s' E Q k q=>?_,JL (df:=[]) R.length nd λi j hi hj e=>?_,λi j hi hj s' C E k q=>?_]
 .obtain⟨fs,t1,t2,t3⟩:=R.tups k (hn h2)
  exact nA (T:=.type "tuple") t1 (by lia) (λv hv=>by
   obtain⟨r,a,o,us,m,rfl,ho,hc,_,_⟩:=t3 v hv;exact λA Q E s kk qq=>h8 #[o,kk _ _ ho,hc] qq) rfl q
 .obtain⟨a,o,us,m,e1,e2,e3,e4⟩:=R.at i hi
  obtain⟨a',o',us',m',f1,f2,f3,f4⟩:=R.at j hj;rw[e1,f1]at e;cases e;rw[e2]at f2;cases f2;rw[e3]at f3;cases f3;exact V7 e4 f4
 .obtain⟨a,o,us,m,e1,e2,e3,e4⟩:=R.at i hi
  obtain⟨a',o',us',m',f1,f2,f3,f4⟩:=R.at j hj;rw[e1,f1];refine oD (k _ _ e2) e3 (k _ _ f2) f3<|JI hu (e4.lat k) (f4.lat k) ?_;have l1:us.toArray.size=(ps.getD i []).length:=by rw[ay,<-e4.length]
  have l2:us'.toArray.size=(ps.getD j []).length:=by rw[ay,<-f4.length]
  rw[l1,l2,QH];exact q
end
def zt(hu:X.A.units+2<dv)(I:Inv X pq Z H s)(r:Vals [v] us)(r1:Rep O H (.lst ds) v)
  (hps:Pv.Yt ds=aa ps)(hok:ZY ps=ai)(h3:∀ys,Rq O H ((Z7 ltP ps).map Pv.Ze) ys->∀p,H p=ag->Q (.ref p) (upd H p<|.lst ys)):aX (aS X.prog X.w) X.A (call (.builtin "sorted") us) (EP X pq Z Q) X.xe s:=by
 obtain⟨l,xs,rfl,hx,_,rx⟩:=r1.lst';obtain⟨u,rfl,ru⟩:=X2 r;cases ru;obtain⟨its,rv,pl,hz⟩:=I.list<|SqL.of hx;obtain⟨RA,ed⟩:=Gr I hps rx rv;have hlen:=RA.length;obtain⟨hok1,hok3⟩:=(aA _ _).mp hok;obtain⟨hok1,hok2⟩:=(aA _ _).mp hok1;have h64:=T6 hok1;have hnd:=T6 hok2;refine Sq.WN pl.isList (by lia) (ZeB Yn hnd hlen) (yj hu RA hnd λh2 P hP e=>?_) λp hp hu2=>?_
 .rcases(ee _ _).mp hok3 with h|h
  .have:=T6 h;lia
  .have:=aT.mp h P hP
   rw[e]at this;cases this
 rw[<-hlen]at hp hu2;have out:=Zew Yn hnd hp hu2
 have hmem:∀i∈p.toList,i<ps.length:=λi hi=>by
  have hp':p.toList.Perm (az ps.length):=by simpa using bm.mp hp
  exact aP.mp<|hp'.mem_iff.mp hi
 subst ed;have xl:xs.length=ps.length:=by rw[rx.length,aw]
 have rx2:=xS (df:=[]) rx hmem;have out':(p.toList.map λi=>ps.getD i [])=Z7 ltP ps:=out
 rw[out']at rx2;have rv2:=Ua rv (by rw[xl];exact hmem)
 obtain⟨ep,he⟩:=sortedAll_at s.heap its<|cg<|p.toList.map λi=>its.getD i bg
 refine#[.ref<|s.heap.objs.size+1,_,I.laid (t':=s.toks) (λb ob q=>sortedAll_old q) (gd _) ?_,rfl,h3 _ rx2 _<|I.hok.fresh<|gd _]
 refine#[?_,_,ep,rv2,he];rw[aw,aF,hp.size,cc];lia
def UB(hu:X.A.units+7<dv):ZH X (.builtin "sorted") (UT X.K xw .sorted):=by
 intro pq s Z H vs us Q I r #[O,S,ds,st,rs,H0,S0,f0,s0,h];obtain⟨d,v,z,rfl,r1,hz,h⟩:=VB h rs;cases d with
 |lst ds=>
  have hz:(if Pv.Zam ds=ai then(Pv.Z2 ds).bind λrs=>if Ya rs=ai then aa (.lst<|(Zu rs).map Pv.Zb)else ag else(Pv.Yt ds).bind λps=>if ZY ps=ai then aa (.lst<|(Z7 ltP ps).map Pv.Ze)else ag)=aa z:=hz
  split at hz
  .obtain⟨rws,hr,hz⟩:=cQ.mp hz
   split at hz
   .cases hz;exact GA pq s Z H [v] us Q I r #[O,ds,rws,v,rfl,r1,hr,‹_›,λys r=>h.newF f0 s0 st r]
   .cases hz
  .obtain⟨ps,hr,hz⟩:=cQ.mp hz
   split at hz
   .cases hz;exact zt (by lia) I r r1 hr ‹_› λys r=>h.newF f0 s0 st r
   .cases hz
 |_=>exact Ev.nos hz
open PySem.SeqAt PySem.MeetsSeq PySem.MeetsSeq2 PySem.MeetsSeq3 PySem.SeqRoads2
open PySem.AutoSeq1 (wpAny_loadPart')
def zx(l b:aL)(u v:List ap)(n n2:Nat)(dd dd2:Option aL)(sl sl2:Array (Option ap))(x y:List (List Int)) :
  ou (dr.«tuple.__lt__» #[[.ref l,.ref b],[]]) (λA R s=>s.heap.get? l=aa {cls:=.type "tuple",dict:=dd,data:=.seq u.toArray n,slots:=sl}/\s.heap.get? b=aa {cls:=.type "tuple",dict:=dd2,data:=.seq v.toArray n2,slots:=sl2}/\A.units+1<dv/\RowsIn s.heap x u/\RowsIn s.heap y v/\R (.ok<|.ret<|.bool<|ltP x y) s):=
 .of_wp λprog w A R s h=>by
  obtain⟨hp,g,d,tk,os⟩:=s;obtain⟨hl,hb,hu,hx,hy,h⟩:=h;have f2:=dE;rw[<-QH]at h
  wp_walk using hG hl,hG hb,wpAny_forIn_list _ (λrest b s'=>b.1=ag/\s'=#[hp,g,d,tk,os]/\∃x' y' u' v',rest=oZ u' v'/\RowsIn hp x' u'/\RowsIn hp y' v'/\R (.ok<|.ret<|.bool<|UG (af<|x.length<y.length) x' y') #[hp,g,d,tk,os]) _
  case turn=>
   rintro ⟨a,c⟩ rest b s' ⟨hb',rfl,x',y',u',v',hz,hx',hy',hR⟩
   match x',y',u',v',hx',hy',hz,hR with
   |i::x',j::y',_::u',_::v',.cons ra ta,.cons rb tb,hz,hR=>
    rw[bS]at hz;injection hz with h1 h2
    cases h1;unfold UG at hR;refine ab<|xH ra rb (by lia) prog w _ _ ?_
    by_cases e:i=j
    .rw[T9 e]at hR
     rw[T5 e]
     wp_walk
     exact#[rfl,rfl,x',y',u',v',h2,ta,tb,hR]
    .rw[T8 e]at hR
     rw[T4 e];simp only[oE,if_true];refine ab<|eI<|ab<|JM ra rb (by lia) ?_
     wp_walk
     exact#[_,rfl,by simpa using hR]
   |[],_,_,_,.nil,_,hz,_=>rw[gB]at hz;cases hz
   |_::_,[],_,_,_,.nil,hz,_=>rw[f8]at hz;cases hz
  case fin=>
   rintro ⟨b1,b2⟩ s' ⟨hb',rfl,x',y',u',v',hz,hx',hy',hR⟩
   simp only at hb';subst hb';have hf:UG (af<|x.length<y.length) x' y'=af (x.length<y.length):=by
    match x',y',u',v',hx',hy',hz with
    |[],_,_,_,_,_,_=>rfl
    |_::_,[],_,_,_,_,_=>rfl
    |_::_,_::_,_::_,_::_,.cons _ _,.cons _ _,hz=>rw[bS]at hz;cases hz
   rw[hf]at hR;have l1:u.length=x.length:=by rw[<-hx.length]
   have l2:v.length=y.length:=by rw[<-hy.length]
   wp_walk
   exact#[_,rfl,by simpa[gF,l1,l2]using hR]
  case h=>
   exact#[rfl,rfl,x,y,u,v,by simp,hx,hy,h]
def uD{E:ap->ax->Prop}{Q:ap->ax->Prop}(ha:s.heap.get? a=aa o)(hc:o.cls=.type "tuple")(hd:o.data=.seq u.toArray m)(hx:RowsIn s.heap x u)
  (hb:s.heap.get? b=aa o')(hc':o'.cls=.type "tuple")(hd':o'.data=.seq v.toArray m')(hy:RowsIn s.heap y v)(hu:A.units+3<dv)(q:Q (.bool<|ltP x y) s):aX (aS prog w) A (cF .Lt (.ref a)<|.ref b) Q E s:=by
 obtain⟨cls,dd,data,sl⟩:=o;obtain⟨cls2,dd2,data2,sl2⟩:=o';simp only at hc hd hc' hd';subst hc hd hc' hd';exact kM (op:=.Lt) #[_,ha,rfl] #[_,hb,rfl] nY nB (mT _ _) (zx a b u v m m' dd dd2 sl sl2 x y) #[ha,hb,by first|exact hu|(lia)|lia,hx,hy,#[(λx=>nomatch x),q]] (by lia)
def yw(hu:X.A.units+7<dv):Xq X xw .Lt .lt:=by
 intro pq s Z H v0 u0 v u Q I rv ru #[O,S,x,y,st,rx,ry,h];rcases Zdj st rx ry h with z|⟨a,b,A,B,rfl,rfl,hA,hB,q⟩
 .exact Zdn pq s Z H v0 u0 v u Q I rv ru z
 .obtain⟨p1,xs,rfl,hp1,r1⟩:=rx.tup'
  obtain⟨p2,ys,rfl,hp2,r2⟩:=ry.tup';cases rv;cases ru;obtain⟨us,w1,⟨o,ho,hc,m,hd⟩,_⟩:=I.tuple<|SqT.of hp1;obtain⟨us',w2,⟨o',ho',hc',m',hd'⟩,_⟩:=I.tuple<|SqT.of hp2;obtain⟨ra,_⟩:=XS I hA r1 w1;obtain⟨rb,_⟩:=XS I hB r2 w2;exact uD ho hc hd ra.ins ho' hc' hd' rb.ins (by lia) #[.bl<|ltP A B,H,I,rfl,q]
end Sd
namespace Sd
open PySem PySem.Spec PyProof.Rows L2
open Ev (E Sm Fn Bop Cop Ty Bf Mf)
section
variable{prog:bG}{w:b0}{A:cZ}{E:ap->ax->Prop}{s:ax}{it d:aL}{i n ep:Nat}{od:fw}{es:Array fF}
def xZ{Q:ap->ax->Prop}(hd:(d == c7)=am)(ho:s.heap.get? d=aa od)(hc:od.ExactDict)(hdat:od.data=.dict es ep)
  (hQ:Q (.ref s.heap.objs.size) {s with heap:=s.heap.push {cls:=.type "dict_keyiterator",data:=.fields [.ref d,.int 0 0,.int es.size 0,.int ep 0].toArray}}) :
  aX (aS prog w) A (ip<|.ref d) Q E s:=by
 have hT:s.TypeIs (.ref d) "dict":=#[_,ho,hc.1];refine iW hT nC<|bW nC hT F.entry_dict_iter ?_<|F.args_dict_iter_1 _;unfold dr.«dict.__iter__»;refine ab ?_;refine ab<|wpAny_notOrdered_dict hT<|aq (show aX _ _ (k6 d >>= _) _ _ s from ?_)
 unfold k6;rw[T8 (by rw[hd];exact aM)]
 refine ab<|aq<|ab<|mU ho hdat<|ab<|wpAny_dictEpoch ho hdat ?_;refine ab<|bQ<|aq #[_,rfl,"dict_keyiterator",_,#[_,aG _ rfl,rfl],hJ.lookup,?_]
 simpa[fz]using hQ
def Qs{Q:Option ap->ax->Prop}(hit:s.heap.IsKeyIter it d i es.size ep)(ho:s.heap.get? d=aa od)(hdat:od.data=.dict es ep)
  (h1:∀(hlt:i<es.size) h',h'.IsKeyIter it d (i+1) es.size ep->dN it s.heap h'->Q (aa es[i].key) {s with heap:=h' })
  (h2:es.size<=i->A.handled=ag/\∀h',gR it s.heap h'->Q ag {s with heap:=h' }):aX (aS prog w) A (iX<|.ref it) Q E s:=by
 obtain⟨o,hi,hc,hd⟩:=id hit;unfold iX;refine ab (gP (cx hit.typeIs hJ
  (bW hJ hit.typeIs F.entry_dict_keyiterator_next ?_<|F.args_dict_keyiterator_next_1 _)))
 refine ab<|aq<|ab<|ab ?_
 first|refine ab<|eU hit.typeIs<|aq ?_|refine ab<|fT hit.typeIs<|aq ?_
 refine ab<|wpAny_fieldsOf hi hd ?_;have hown:dr.Dict_items.ownsTuple "dict_keyiterator" = am:=by decide
 simp only[hown,cB,if_false];show aX _ _ (if(cn d == bg)=ai then _ else _) _ _ s
 rw[T8<|show¬((cn d == bg)=ai)from aM]
 refine ab<|aq<|ab<|mU ho hdat ?_;rw[T8 (by simp)]
 refine ab<|aq<|ab<|wpAny_dictEpoch ho hdat ?_;rw[T8 (by simp)]
 refine aq ?_;by_cases hlt:i<es.size
 .simp only[by omega,if_false,du,bj hlt]
  refine ab ?_
  first|refine ab<|eU hit.typeIs<|aq ?_|refine ab<|fT hit.typeIs<|aq ?_
  refine ab<|k7 hit.typeIs (show aX _ _ (setField (.ref it) 1 (fz<|(i:Int)+1) >>= _) _ _ s from ab<|eO hi hd (by simp) ?_)
  have hit':(s.heap.update it (lW (·.setIfInBounds 1 (fz<|(i:Int)+1)))).IsKeyIter it d (i+1) es.size ep:=
   #[_,dB _ hi<|fb<|dm hd _,(gv ..).trans hc,by rw[dm hd];simp[fz]]
  refine ab<|bH<|ab<|k7 hit'.typeIs ?_
  exact aq<|aq #[_,rfl,aq<|h1 hlt _ hit'<|cI ..]
 .obtain⟨hh,hQ⟩:=h2 (by omega)
  simp only[by omega,if_false,du,gw (show es.size<=i by omega)]
  refine ab ?_
  first|refine ab<|eU hit.typeIs<|aq ?_|refine ab<|fT hit.typeIs<|aq ?_
  show aX _ _ (setField (.ref it) 0 .none >>= _) _ _ s;refine ab<|eO hi hd (by simp)<|ab ?_
  simp only[oW,newTuple];refine ab<|bQ ?_ (by size_fits)
  refine ab (eT (a:=bg) (by first|rfl|(simp only[iF];rfl))<|bQ ?_ (by size_fits))
  simp only[raiseNew];refine ab<|lT ?_;rw[hh]
  refine ab<|aq<|nI ?_;refine ab<|gK (T:="StopIteration") (b:=ai) #[_,aG _ rfl,rfl] lq ?_;exact aq<|hQ _<|((cI ..).extBut.push _).push _
end
theorem UU{B β:Type}{F:B->β->Prop}:∀{l:List B}{m:List β}{i:Nat}{p:B},Paired F l m->l[i]?=aa p->∃q,m[i]?=aa q/\F p q
 |_,_,_,_,.nil,e=>by simp at e
 |_,_,0,_,.cons r t,e=>by simp at e;subst e;exact#[_,rfl,r]
 |_,_,i+1,_,.cons r t,e=>by
  obtain⟨q,h1,h2⟩:=UU t (by simpa using e)
  exact#[q,by simpa using h1,h2]
section
variable{X:Cx}{xw:Nat->Hp->Prop}{fr:Bool}{C:Calls}{ns:List Nat}{e a:Expr}{i:E}{pos p p' p2:gW}{n:Nat}{x:bB}{q:Option bB}
def jg{q}(ha:CE X xw C a i):CE X xw C (.Subscript a (.Constant (.int 0) q p2) pos) (.dix i am):=.mk <| PE.imp (qT Je ha.h Jg<|by intro _ _;with_unfolding_all rfl)<|by
 rintro Z H Q ⟨O,l,S,st,lr,h⟩;rw[Pv.pv]at h;refine#[O,l,S,st,lr,h.bind λx S1 ρ1 H1 v f1 st1 r1 h1=>?_]
 cases x with|drw=>obtain⟨p,rfl,hn⟩:=r1.drw';exact#[p,_,0,_,rfl,rfl,SqL.of (st1.dw p hn).1,rfl,End.ok h1 st1<|ZW _]|_=>exact h1.elim
def ZaC{q}(ha:CE X xw C a i):CE X xw C (.Subscript a (.Constant (.int 1) q p2) pos) (.dix i ai):=.mk <| PE.imp (qT Je ha.h Jg<|by intro _ _;with_unfolding_all rfl)<|by
 rintro Z H Q ⟨O,l,S,st,lr,h⟩;rw[Pv.pv]at h;refine#[O,l,S,st,lr,h.bind λx S1 ρ1 H1 v f1 st1 r1 h1=>?_]
 cases x with|drw=>obtain⟨p,rfl,hn⟩:=r1.drw';exact#[p,_,1,_,rfl,rfl,SqL.of (st1.dw p hn).1,rfl,End.ok h1 st1<|Ye _]|_=>exact h1.elim
def qX{q}(he:CE X xw C e i)(hN:X.N[n]?=aa x)(hv:Vis X.env.scope x)(hd:(x == ("__debug__" : bB))=am)
  (hcd:(x == ("__classdict__" : bB))=am)
  (ha:∀v,dF (.Subscript (.Name x p') (.Constant (.int 0) q p2) p) X.env v=(do
   let ov <-gO [v] (cD (.Name x p') X.env)
   let iv <-gO [v,ov] (cD (.Constant (.int 0) q p2) X.env)
   kB p
   gO [v,ov,iv] (oU ov iv v)
   release [v,ov,iv] []))(hs:dQ [.Subscript (.Name x p') (.Constant (.int 0) q p2) p] e pos.line X.env=c6 am)(hw:dR [.Subscript (.Name x p') (.Constant (.int 0) q p2) p] e X.env=c6 ag)
  (h1:(b7 [.Subscript (.Name x p') (.Constant (.int 0) q p2) p] X.env).map (·.2)=[dF (.Subscript (.Name x p') (.Constant (.int 0) q p2) p) X.env]):CS X xw fr C ns (.Assign [.Subscript (.Name x p') (.Constant (.int 0) q p2) p] e pos) (.dset n i):=.mk <|
 PS.imp (Wh he.h (ZcP (Wa hN hv hd hcd) Jg (uZ (X:=X)) ha) hs hw h1)<|by
 rintro D Z H ⟨O,H0,W,l,os,S,st,en,h⟩;rw[Pv.rv]at h;refine#[O,l,S,st,en.all,Zw.bind en h λy S1 H1 v f1 st1 r1 h1=>?_]
 cases y with
 |int y=>
  obtain⟨hk,h1⟩:=h1.guard;have hx:l[n]?=aa (aa .drw):=by
   cases z:l[n]? with
   |none=>rw[z]at h1;exact h1.elim
   |some o=>cases o with
    |none=>rw[z]at h1;exact h1.elim
    |some d=>cases d<;>rw[z]at h1<;>first|rfl|exact h1.elim
  rw[hx]at h1;obtain⟨u,hu,r⟩:=(en.mono f1).all.val n .drw hx;obtain⟨a,rfl,hn⟩:=r.drw';obtain⟨e1,_⟩:=st1.dw a hn;refine#[.ref a,hu,a,_,0,0,rfl,rfl,e1,rfl,?_];rw[r1.int'];have f2:Fut O H1 O (upd H1 a<|.lst [.int y,.bl S1.2]):=#[rfl,λb o z=>by
   by_cases c:b=a
   .subst c;rw[e1]at z;cases z;exact .inr<|.inl #[hn,_,rfl]
   .exact .inl (by rw[Zl c];exact z)]
  refine h1 _ Z W #[st1.hk,λb x=>?_,λb x=>?_,st1.tb.upd (λo u z=>by rw[e1]at z;cases z) λ_ z=>by cases z]<|(en.mono f1).mono f2
  .by_cases c:b=a
   .rw[c];show upd _ _ _ _≠ag;rw[ZD];intro z;cases z
   .show upd _ _ _ _≠ag;rw[Zl c];exact st1.xd b x
  .rw[hn]at x
   cases x;exact#[ZD,hk]
 |_=>exact h1.elim
end
open Ev in
noncomputable def Wi:Fn:=#[2,4,
 [.ite (.dix (.v 0) ai) [.asg [2]<|.bin .mod (.dix (.v 0) am)<|.v 1,
  .dset 0 (.bin .fdiv (.dix (.v 0) am)<|.v 1),
  .ret (.v 2)] [],
  .dset 0 (.bin .mod (.bin .add (.bin .mul (.dix (.v 0) am)<|.c<|.int 48271)<|.c<|.int 29)<|.c<|.int 2147483647),
  .asg [3] (.bin .mod (.bin .add (.bin .add (.bin .mul (.dix (.v 0) am)<|.dix (.v 0) am)<|.bin .mul (.c<|.int 39373)<|.dix (.v 0) am)<|.c<|.int 7)<|.c<|.int 2147483629),
  .asg [3] (.bin .mod (.bin .add (.bin .mul (.v 3)<|.v 3)<|.bin .mul (.c<|.int 16807)<|.v 3)<|.c<|.int 2147483587),
  .ret (.bin .mod (.bin .fdiv (.v 3)<|.c<|.int 8)<|.v 1)]]
open Ev Pv in
def XV(h0:0<=a)(h:a<4294967296):fits a=ai:=by
 refine T5 ?_;have h1:a.natAbs<2^32:=by lia
 exact bp h1<|eD (by decide) (by decide)
open Ev Pv in
def vP(h:okS s.1 s.2=ai)(m0:0<m)(m1:m<1073741824):Gd C Wi [.drw,.int m] s=.ok (.int (Xs s m).1) (Xs s m).2:=by
 obtain⟨a,b⟩:=s;have hm:muts Wi.body=[]:=rfl;unfold Gd;rw[hm];have ha:=T6 ((aA _ _).mp h).1;have lt8:(8:Int)<big:=qE (by decide)
 cases b with
 |true=>
  have o2:okS (a / m) ai=ai:=by simp[okS];exact Int.ediv_nonneg ha (by lia)
  simp[Wi,Xs,rvs,rv,pvA,Pv.pv.eq_1,Pv.pv.eq_2,Pv.pv.eq_7,Pv.pv.eq_28,Wm,PR.bind,po,Zn,ZN,ofD,Y3,Pv.uH,m0,m1,qE m1,o2,hide]
 |false=>
  have hb:a<2147483647:=by simpa using((aA _ _).mp h).2
  have h1:=XV ha (by lia)
  have x0:0<=(a*48271+29)%2147483647:=by lia
  have x1:(a*48271+29)%2147483647<2147483647:=by lia
  generalize hxx:(a*48271+29)%2147483647=x at x0 x1;have y0:0<=(x*x+39373*x+7)%2147483629:=by lia
  have y1:(x*x+39373*x+7)%2147483629<2147483629:=by lia
  generalize hyy:(x*x+39373*x+7)%2147483629=y at y0 y1;have f1:=XV x0 (by lia)
  have f2:=XV y0 (by lia)
  have f3:fits 48271=ai:=XV (by lia) (by lia)
  have f4:fits 39373=ai:=XV (by lia) (by lia)
  have f5:fits 16807=ai:=XV (by lia) (by lia)
  have o2:okS x am=ai:=by simp[okS,x0,x1]
  simp[Wi,Xs,rvs,rv,pvA,Pv.pv.eq_1,Pv.pv.eq_2,Pv.pv.eq_7,Pv.pv.eq_28,Wm,PR.bind,po,Zn,ZN,ofD,Y3,Pv.uH,m0,m1,lt8,h1,hxx,hyy,f1,f2,f3,f4,f5,o2,hide]
def j4{K:ao}{F:List Fn}{tk d:Nat}:∀O S H ds vs,St3 K O S H->Rq O H ds vs->Pv.Zk F tk (d+1) tk ds S=.no\/Pv.Zk F tk (d+1) tk ds S=Gd (Pv.Zk F tk d) Wi ds S:=λO S H ds vs st r=>by
 rw[Pv.Zk,T9 rfl];unfold Pv.Zbv;split
 .rename_i m
  obtain⟨v,u,rfl,r1,_⟩:=yu r;obtain⟨a,_,hn⟩:=r1.drw';split
  .rename_i hm
   exact .inr (vP (st.dw a hn).2 hm.1 hm.2).symm
  .exact .inl rfl
 .exact .inl rfl
def ZaT{K:ao}{F:List Fn}{tk n d:Nat}{fn:Fn}(hn:n≠tk)(hf:F[n]?=aa fn):∀O S H ds vs,St3 K O S H->Rq O H ds vs->Pv.Zk F tk (d+1) n ds S=.no\/Pv.Zk F tk (d+1) n ds S=Gd (Pv.Zk F tk d) fn ds S:=λO S H ds vs st r=>by
 rw[Pv.Zk,T8 hn,hf]
 all_goals exact .inr rfl
def jY(h:Pv.V2 v=aa d):v=.lst [.int d.1,.bl d.2]/\Pv.okS d.1 d.2=ai:=by
 unfold Pv.V2 at h;split at h
 .split at h
  .cases h;exact#[rfl,‹_›]
  .cases h
 .cases h
def Gs{l:Lc}{i:Nat}{d:D}(h:(l.map Pv.Vv)[i]?=aa (aa d)):l[i]?=aa (aa d)/\d.flat=ai:=by
 rw[aJ]at h;cases q:l[i]? with
 |none=>rw[q]at h;cases h
 |some o=>
  rw[q]at h;have h:=ak h;obtain⟨a,b⟩:=Option.filter_eq_some_iff.mp h;exact#[by rw[a],b]
def uh{n:Nat}{l:Lc}{i:Nat}{d:D}(h:(Pv.Wo n l)[i]?=aa (aa d)):l[i]?=aa (aa d)/\d.flat=ai:=by
 unfold Pv.Wo at h;rw[List.getElem?_append]at h;split at h
 .obtain⟨a,b⟩:=Gs h
  rw[cU]at a;split at a
  .exact#[a,b]
  .cases a
 .rw[cw]at h
  split at h<;>cases h
def zb :(Pv.Wo n l).length=l.length:=by
 unfold Pv.Wo;rw[ba,aw,bw,bR];omega
def tCl(X:Cx)(xw:Nat->Hp->Prop)(C:Calls)(fi:Nat)(is:List E):TE:=λZ H Q=>tA X xw (Pv.pvs C is) Z H λvs H1=>∃O ds S,St3 X.K O S H1/\Rq O H1 ds vs/\End X.K xw (XZ ai H1) O H1 Q (C fi ds S)
def ZcF{xw:Nat->Hp->Prop}{fi:Nat}{y:bB}{es:List Expr}{is:List E}{ss:List fK}{B:List Sm}(hc:PE X (.Call (.Name y p') (e::es) [] p) (tCl X xw C fi is))(hB:CSs X xw fr C ns ss B)(hN:X.N.Nodup)
  (hi:X.N[n]?=aa x:=by rfl)(hx:L2.Loc X.env.scope x:=by first|exact Or.inl rfl|exact nj rfl)(hf:X.fn x=ai\/X.env.scope.names.lookup x=aa .local:=by first|exact .inl rfl|exact .inr rfl)
  (hs:dQ [.Name x px] (.Call (.Name y p') (e::es) [] p) pos.line X.env=c6 am:=by rfl)(hw:dR [.Name x px] (.Call (.Name y p') (e::es) [] p) X.env=c6 ag:=by rfl)
  (h1:(b7 [.Name x px] X.env).map (·.2)=[dF (.Name x px) X.env]:=by rfl) :
  CSs X xw fr C ns (.Assign [.Name x px] (.Call (.Name y p') (e::es) [] p) pos::ss) [.cel n fi is B]:=.mk <|
 PSs.imp (JO (Wh hc (VS hN hi hx hf) hs hw h1) hB.h)<|by
 rintro D Z H ⟨O,H0,W,l,os,S,st,en,h⟩;have h:Zw fr X.K xw O H0 D (Pv.rv C ns (.cel n fi is B) l os S):=by
  rw[Pv.rvs]at h;cases q:Pv.rv C ns (.cel n fi is B) l os S with|no=>rw[q]at h;exact h|ex c s=>rw[q]at h;exact h|ok g s=>rw[q]at h;cases g<;>exact h
 rw[Pv.rv]at h;obtain⟨ho,h⟩:=h.guard;refine#[O,l,S,st,en.all,Zw.bind en h λxs S1 H1 vs f1 st1 r1 h1=>?_]
 refine#[O,xs,S1,st1,r1,Zw.bind (en.mono f1) h1 λv S2 H2 u f2 st2 r2 h2=>?_]
 obtain⟨d,hd,h3⟩:=Zw.ob h2;obtain⟨rfl,hok⟩:=jY hd;obtain⟨a,rfl,na⟩:=r2.2 rfl _ rfl;obtain⟨_,us,z,ea,_,ru⟩:=r2.1.lst';cases z;obtain⟨u1,u2,rfl,q1,q2⟩:=yu ru;cases q1.int';cases q2.bl';have en2:=(en.mono f1).mono f2;have nX:∀q,O.X q->q≠a:=λq x z=>st1.xd q x<|z▸na
 let ρ':Mx:=#[O.K,aa a,λq=>O.X q\/q=a,λq h=>.inr (ak h).symm]
 have st':St3 X.K ρ' d H2:=#[st2.hk,λq x=>x.elim (st2.xd q) λz=>(by rw[z,ea];intro w;cases w),λq x=>(by cases x;exact#[ea,hok]),st2.tb]
 have en':Eu ρ' H2 (λ_=>ag) ((Pv.Wo n l).set n<|aa .drw) [] (Z.set n<|aa<|.ref a) H2:=by
  refine#[Fut.refl _ _,st'.xd,by rw[bZ,bZ,zb];exact en.len,λ_=>rfl,λ_ _ _ z=>?_,λ_ _ z=>?_,λ_ _ z=>?_,λi w q _=>?_]
  .cases z
  .cases z
  .cases z
  .rcases Jm q with⟨rfl,z,hl⟩|⟨c,z⟩
   .cases z
    exact#[.ref a,bU (by rw[<-en.len,<-zb];exact hl),by exact#[a,rfl,rfl]]
   .obtain⟨z,hfl⟩:=uh z
    obtain⟨v,hv,r⟩:=en2.all.val i w z;exact#[v,by rw[bo c];exact hv,Rep.flat (O:=O) (ρ':=ρ'.ex λ_=>ag) rfl (λ_ _ z _ _=>z) hfl r]
 have n0:∀{b},b≠a->ρ'.n0≠aa b:=λc w=>T7 (ak w).symm c
 have keep:∀{H'},Fut ρ' H2 ρ' H'->∀b o,b≠a->H2 b=aa o->(∀ps,o≠.tbl ps)->H' b=aa o:=λ{H'} f b o c z n=>(f.keep b o z).elim id λw=>w.elim (λw=>T7 w.1<|n0 c) λ#[#[ps,e],_]=>T7 e<|n ps
 have back:∀{H':Hp}{s:Zt},Fut ρ' H2 ρ' H'->St3 X.K ρ' s H'->St3 X.K O S2 H'/\Fut O H0 O H':=λ{H' s} f w=>by
  refine#[#[st2.hk,λq x=>?_,λq x=>?_,w.tb],rfl,λb o z=>?_]
  .exact f.there (n0<|nX q x)<|st2.xd q x
  .obtain⟨e1,e2⟩:=st2.dw q x
   exact#[keep f q _ (nX q<|O.xz q x) e1 (by intro _ z;cases z),e2]
  .have ne:b≠a:=λc=>by rw[c,J4 (en.mono f1) st1 na]at z;cases z
   rcases en2.fut.keep b o z with y|y|⟨e,ps,y⟩
   .rcases f.keep b o y with q|q|q
    .exact .inl q
    .exact T7 q.1<|n0 ne
    .exact .inr<|.inr q
   .exact .inr<|.inl y
   .rcases f.keep b _ y with q|⟨_,xs,q⟩|⟨_,q⟩
    .exact .inr<|.inr #[e,ps,q]
    .cases q
    .exact .inr<|.inr #[e,q]
 have backE:∀{H':Hp}{s:Zt}{W':Own}{l':Lc}{os':List Nat}{σ':L2.St},Eu ρ' H2 W' l' os' σ' H'->St3 X.K ρ' s H'->St3 X.K O S2 H'/\Eu O H0 (λ_=>ag) (l'.map Pv.Vv) [] σ' H':=λ{H' s W' l' os' σ'} g w=>by
  obtain⟨a1,a2⟩:=back g.fut w;refine#[a1,a2,en.xd,by rw[aw];exact g.len,λ_=>rfl,λ_ _ _ z=>?_,λ_ _ z=>?_,λ_ _ z=>?_,λi w q _=>?_]
  .cases z
  .cases z
  .cases z
  .obtain⟨z,hfl⟩:=Gs q
   obtain⟨v,hv,r⟩:=g.all.val i w z;exact#[v,hv,Rep.flat (O:=ρ') (ρ':=O.ex λ_=>ag) rfl (λ_ _ z _ _=>z) hfl r]
 refine#[ρ',H2,λ_=>ag,_,[],d,st',en',?_]
 cases q:Pv.rvs C ns B ((Pv.Wo n l).set n<|aa .drw) [] d with
 |no=>rw[q]at h3;exact h3
 |ex c s=>rw[q]at h3;exact h3.elim
 |ok g s=>
  rw[q]at h3;cases g with
  |nx l' os'=>exact λH' σ' W' w g=>let #[a1,a2]:=backE g w;h3 H' σ' _ a1 a2
  |brk l' os'=>exact λH' σ' W' w g=>let #[a1,a2]:=backE g w;h3 H' σ' _ a1 a2
  |cnt l' os'=>exact λH' σ' W' w g=>let #[a1,a2]:=backE g w;h3 H' σ' _ a1 a2
  |ret v=>
   obtain⟨hfl,h3⟩:=Zw.guard h3;exact λH' v' f w r=>let #[a1,a2]:=back f w;h3 H' v' a2 a1 #[Rep.flat (O:=ρ') (ρ':=O) rfl (λ_ _ z _ _=>z) hfl r.1,λ_ ds z=>by rw[z]at hfl;cases hfl]
def Za5{X:Cx}{C:Calls}{e:Expr}{p pos:gW}{n kk:Nat}{f:aL}{fd:cS}{ps:List bB}{x:bB}{es:List Expr}{is:List E}(F:FnOk X.prog X.w X.K X.mg X.base CX0 kk f fd ps (spF X.K C ai n))(hr:Room kk X.A)(hm:X.mg x=aa (.ref f))(hk:fA X.K (.ref f)=ai)(hb:Vq X.K fd ps [])
  (ha:CA X (λ_ _=>False) C (e::es) is)(hg:Gl X x)(hdb:(x == ("__debug__" : bB))=am)(he:aH (e::es) X.env=(am,cD e X.env)::aH es X.env)(hpl:(dW pos<|aH es X.env).any (·.1)=am) :
  CF X (λ_ _=>False) C (.Call (.Name x p) (e::es) [] pos) (.callF n is):=.mk <|
 PE.imp (Jv F hr hg hm hk hb .nil uw ha.h hdb he hpl) λZ H Q #[O,l,S,st,lr,h]=>
  #[O,l,S,st,lr,End.bind (show End X.K (λ_ _=>False) (XZ ai H) O H Q ((Pv.pvs C is l S).bind _)from h) λxs S1 ρ1 H1 vs f1 st1 r1 h1=>by
   rw[bY];cases f1.eq;refine#[O,xs,S1,st1,r1,?_];cases q:C n xs S1 with
   |ok d S=>rw[q]at h1;exact λρ' H' v g s r=>h1 ρ' H' v g s #[r.1,λz ds e=>let #[a,e1,e2]:=r.2 z ds e;#[a,e1,f1.new e2 st1.xd]]
   |ex c S=>rw[q]at h1;exact h1
   |no=>rw[q]at h1;exact h1]
open Ev (ltI YH Zu Ya)
section
variable{prog:bG}{w:b0}{A:cZ}{E:ap->ax->Prop}{s:ax}{d:aL}{ep:Nat}{od:fw}{es:Array fF}
def yp(lo:(d == c7)=am)(hc:od.ExactDict)(hdat:od.data=.dict es ep):iN prog w "dict" d d es.size (λi v=>(es[i]?).map (·.key)=aa v) (λh=>h.get? d=aa od) where
 type:=λ_ hm=>#[_,hm,hc.1]
 there:=λ_ hm=>#[aE hm,aE hm]
 keep:=λ_ _ hm hk=>hk d (.inl rfl) _ hm
 notList:=by decide
 notTuple:=by decide
 hint:=λ_ _ _ _ hm hq=>PySem.W.kdl_hint_dict #[_,hm,hc.1] hq
 iter:=λA s hh hm=>by
  have hne:d≠s.heap.objs.size:=bn<|aE hm;refine#[_,λi h=>h.IsKeyIter s.heap.objs.size d i es.size ep/\h.get? d=aa od,λE Q hq=>xZ lo hm hc hdat hq,?_,#[_,aG _ rfl,rfl,rfl],au _ hm]
  exact{
   sub:=λb hb=>by simp at hb;simp[hb]
   frame:=λ_ _ _ st hk=>#[st.1.at λo e=>hk _ (by simp) o e,hk d (by simp) _ st.2]
   item:=λi s' Q E hi st hQ=>Qs st.1 st.2 hdat (λhlt h' hit' sb=>hQ _ h' s'.toks (by simp[hlt]) #[hit',sb.extBut _ _ hne st.2] λb o hb e=>sb.extBut b o (λz=>hb<|by simp[z]) e) λz=>T7 hi (by omega)
   done:=λs' Q E st hQ=>Qs st.1 st.2 hdat (λhlt _ _ _=>T7 hlt<|by omega) λ_=>#[hh,λh' eb=>hQ h' s'.toks λb o hb e=>eb b o (λz=>hb<|by simp[z]) e]
   self:=λ_ _ _ _ st hQ=>wpAny_pyIter_keyiter st.1 hQ}
def yH{acc:Array ap}(h:oX (λi v=>(es[i]?).map (·.key)=aa v) acc es.size):acc.toList=es.toList.map (·.key):=by
 refine bK λi=>?_
 by_cases hi:i<es.size
 .have hl:i<acc.size:=by rw[h.1];exact hi
  have:=h.2 i acc[i]<|bj hl;rw[aJ,bc,bc,this,bj hl]
 .rw[bD (by rw[aF,h.1];omega),bD (by simp;omega)]
def Gh{T:String}{r:aL}{n:Nat}{P:Nat->ap->Prop}{OK:ck->Prop}{R:List ap->ax->Prop}(K:iN prog w T r d n P OK)(hh:A.handled=ag)(hok:OK s.heap)(hn:n<=bi)
  (h:∀h' tk acc,(∀b o,s.heap.get? b=aa o->h'.get? b=aa o)->s.heap.objs.size<=h'.objs.size->oX P acc n->R acc.toList {s with heap:=h',toks:=tk}):aX (aS prog w) A (collect<|.ref r) R E s:=by
 obtain⟨l1,l2⟩:=K.there _ hok
 let S:=s.heap.objs.size
 have hS:(s.heap.push {cls:=.type "list",data:=.seq #[]}).get? S=aa {cls:=.type "list",data:=.seq #[]}:=aG _ rfl;have fin:∀{h':ck}{tk c:Nat}{acc:Array ap},(∀b o,b≠S->(s.heap.push {cls:=.type "list",data:=.seq #[]}).get? b=aa o->h'.get? b=aa o)->h'.get? S=aa {cls:=.type "list",dict:=ag,data:=.seq acc c,slots:=#[]}->oX P acc n->R acc.toList {s with heap:=h',toks:=tk}:=
  λk e i=>h _ _ _ (λb o z=>k b o (bn<|aE z)<|au _ z) (gg<|aE e) i
 unfold collect;refine ab<|wpAny_runValue<|eZ entry_proto_collect' ?_;rw[eE PySem.F.plain_proto_collect _];refine ab (m:=newList [])<|bQ<|aq #[lZ kx _,eZ entry_list_iadd' ?_];rw[eE kx _];show aX _ A.in1 (dr.List.listExtendWith (.ref S) (.ref r)<|.ref S) _ _ {s with heap:=s.heap.push {cls:=.type "list",data:=.seq #[]}}
 refine cJ (PySem.W.kdl_extend (A:=A) (R:=λq s'=>∃h' tk acc c,q=.ok (.ret<|.ref S)/\s'={s with heap:=h',toks:=tk}/\h'.get? S=aa {cls:=.type "list",dict:=ag,data:=.seq acc c,slots:=#[]}/\R acc.toList s') K hh (K.keep _ _ hok λb _ o e=>au _ e) S (fE l1) (fE l2) _ 0 hS (λh' tk acc c k e i=>#[h',tk,acc,c,rfl,rfl,e,fin k e i]) hn) (λf s' x=>?_) λe s' x=>?_
 .cases f with
  |done f=>
   obtain⟨h',tk,acc,c,z,rfl,e,q⟩:=x;cases z;exact ab (m:=load S)<|og e<|aq q
  |again c'=>
   refine#[x.1,gl x.2 λy s2 z=>?_]
   obtain⟨h',tk,acc,c,rfl,rfl,e,q⟩:=z;exact ab (m:=load S)<|og e<|aq q
 .obtain⟨_,_,_,_,z,_⟩:=x
  cases z
def Gb{κ:fC}{lt:Nat->Nat->Bool}{vs:List ap}{Q:ap->ax->Prop}(hh:A.handled=ag)(lo:(d == c7)=am)(ho:s.heap.get? d=aa od)(hc:od.ExactDict)(hdat:od.data=.dict es ep)(hv:es.toList.map (·.key)=vs)(h64:vs.length<=100000)
  (O:Sq.Ord vs.length lt)(K:Sq.Asks prog w A.in1.in1 s.heap vs κ lt)
  (h:∀p h' tk D n,Sq.Pm vs.length p->Sq.Up (Sq.ltR am vs.length lt) p vs.length->(∀b o,s.heap.get? b=aa o->h'.get? b=aa o)->s.heap.objs.size<=D->h'.get? D=aa (eJ "list" (cg<|aY am<|p.toList.map λi=>(aY am vs).getD i bg) n)->Q (.ref D) {s with heap:=h',toks:=tk}) :
  aX (aS prog w) A (call (.builtin "sorted") [.ref d]) Q E s:=by
 have hl:vs.length=es.size:=by rw[<-hv];simp
 refine Calls.call_function_entry nN mQ mR (mS _) ?_;unfold dr.«sorted»;refine ab (m:=checkCount "sorted" 1 1 _)<|aq ?_;refine ab<|Gh (A:=A.in1) (yp lo hc hdat) hh ho (by rw[cc];omega) λh1 tk acc hk big hacc=>?_
 rw[yH hacc,hv];refine ab<|ke ?_ (by rw[cc];omega)
 have hoL:(h1.push<|eJ "list" vs.toArray 0).get? h1.objs.size=aa (eJ "list" vs.toArray 0):=aG _ rfl;show aX _ _ _ _ _ {s with heap:=h1.push<|eJ "list" vs.toArray 0,toks:=tk}
 refine ab (bH (bW lx #[_,hoL,rfl] kW (by
  rw[Sq.Vl];exact Sq.list_sort_rev (h0:=s.heap) hoL h64 (λb o e=>by
   have hlt:b<h1.objs.size:=aE<|hk b o e;exact#[bn hlt,au _<|hk b o e]) O K λp a1 a2=>#[_,rfl,aq #[_,rfl,by
    obtain⟨n,hn⟩:=sortedHeap_at (out:=cg<|aY am<|p.toList.map λi=>(aY am vs).getD i bg) hoL
    exact h p _ tk _ n a1 a2 (λb o e=>by
     have hlt:b<h1.objs.size:=aE<|hk b o e;rw[sortedHeap_old (bn hlt) (by rw[mr];exact cP hlt)]
     exact au _<|hk b o e) big hn]])<|ly _))
end
def Zcv(tk tv:TE):TE:=λZ H Q=>∀p,H p=ag->zu [(tk,tv)] Z (upd H p<|.dT []) λps H2=>∃b r z,ps=[(.ref b,z)]/\H2 b=aa (.tup<|r.map kV)/\H2 p=aa (.dT [])/\Q (.ref p) (upd H2 p<|.dT [(r,z)])
def uq{X:Cx}{k v:Expr}{tk tv:TE}{pos:gW}(hu:X.A.units+7<dv)(hk:PE X k tk)(hv:PE X v tv):PE X (.Dict [aa k] [v] pos) (Zcv tk tv):=by
 intro pq s Z H Q I h;have I1:=I.laid (a:=s.heap.objs.size) (o:=.dT []) (h':=s.heap.push {cls:=.type "dict",data:=.dict #[]}) (t':=s.toks) (λ_ _ q=>au _ q) (aN _)<|qj s.heap I.big
 rw[arm_eval_Dict,zip_pairTrees [aa k] [v] X.env pos rfl rfl,dictDisplay_pairs (pairTrees [aa k] [v] X.env pos) (by simp[pairTrees]) (by rw[pairTrees_length _ _ _ _ rfl rfl];show 1<17;omega)]
 refine ab<|dP<|ab ?_;unfold subDict;refine ab<|nH<|ab<|bH ?_;rw[T9 (by rw[pairTrees_length _ _ _ _ rfl rfl];show 1<=15;omega)]
 refine ab<|thn (v8 hk hv Za8 pq _ Z _ _ I1<|h _<|I.hok.fresh<|aN s.heap.objs.size) λws s2 #[ps,H2,I2,rel,b,r,z,e,hb,hp,q]=>?_
 subst e;cases rel with
 |@cons _ y _ ys h1 t=>
  cases t;obtain⟨u,x⟩:=y;obtain⟨h1,h2⟩:=h1;cases(show u=cn b from h1)
  obtain⟨zz,hd,xs,rl,dd⟩:=Zbc I2.hok hp;cases rl;refine bH ?_;show aX _ _ (lm [(cn b,x)] _ _ >>= _) _ _ _;rw[gZ];refine ab (ab<|ab<|wpAny_dictSet_heap (hsz:=by size_fits) (show(kj<|Z3 X.prog X.w).room X.A from(show X.A.units<dv by omega)) (Ur I2.hok hb) dd λh' dd' hs=>aq ?_)
  show aX _ _ (lm [] _ _) _ _ _;rw[lp];refine aq<|aq<|aq<|aq #[.ref s.heap.objs.size,_,?_,rfl,q];obtain⟨o,es,ep,hq,g2,g3,g4,_,g5⟩:=dd';refine Ju I2 (by rw[hp];exact cR) hs #[o,hq] #[by show 1<=bi;decide,hd,[(r,b,x)],.cons #[rfl,?_,h2] .nil,o,es,ep,hq,g2,g3,g4,g5]
  rw[Zl (Zbl hb hp (λz=>nomatch z))]
  exact hb
def JV{O:Mx}{H:Hp}{d:D}{v:V}{r:List Int}(h:Rep O H d v)(e:Pv.Zb6 d=aa r):∃b,v=.ref b/\H b=aa (.tup<|(r.map (cY:Int->Key)).map kV):=by
 cases d with|tup ks=>obtain⟨b,xs,rfl,hb,rs⟩:=h.tup';exact#[b,rfl,by rw[hb,XQ e rs]]|_=>exact Ev.nos e
def Zag{O:Mx}{H:Hp}{d:D}{v:V}(h:Rep O H d v)(e:Pv.isT d=ai):v=.bl ai:=by
 cases d with
 |bl b=>cases b with|true=>exact h.bl'|false=>cases e
 |_=>cases e
def wO{ks:List (List Int)}{vs:List (List Key×V)}{r:List Int}{v:V}(h:vs.map (·.1)=ks.map (·.map (cY:Int->Key))):(Wc vs (r.map cY) v).map (·.1)=(Pv.Yl ks r).map (·.map cY):=by
 have hv:=Vm (k:=r) h;unfold Pv.Yl;cases c:ks.contains r with
 |true=>
  rw[c]at hv;unfold Wc;rw[XD,hv,T9 rfl,bV,T9 rfl,<-h];refine c8 λx _=>?_
  show(if x.1=_ then(x.1,v)else x).1=x.1
  split<;>rfl
 |false=>
  rw[c]at hv;rw[vj v (by simpa using hv),bN,h,T8 aM,bN]
  rfl
section
variable{X:Cx}{xw:Nat->Hp->Prop}{fr:Bool}{C:Calls}{ns:List Nat}{e a b c tg:Expr}{i j k:E}{pos p p' p2 dp:gW}{n:Nat}{x:bB}
def Zb1{q:Nat}(hu:X.A.units+7<dv)(he:CE X xw C e i)(hg:CG X tg [n])(hs:dQ [tg] (.Dict [aa e] [.Constant (.bool ai) q p] dp) pos.line X.env=c6 am)(hw:dR [tg] (.Dict [aa e] [.Constant (.bool ai) q p] dp) X.env=c6 ag)
  (h1:(b7 [tg] X.env).map (·.2)=[dF tg X.env]):CS X xw fr C ns (.Assign [tg] (.Dict [aa e] [.Constant (.bool ai) q p] dp) pos) (.dnw n i):=.mk <| PS.imp (Wh (uq hu he.h ZbE) hg.h hs hw h1) λD Z H #[O,H0,W,l,os,S,st,en,h]=>λa ha=>by
 rw[Pv.rv]at h;have f0:Fut O H O (upd H a<|.dT []):=ZO ha;have en0:=en.mono f0;refine#[O,l,S,st.fresh ha,en0.all,Zw.bind en0 h λy S1 H1 v f1 st1 r1 h1=>?_]
 obtain⟨r,hr,h1⟩:=Zw.ob h1;obtain⟨hl,h1⟩:=h1.guard;obtain⟨b,rfl,hb⟩:=JV r1 hr;have nx:¬O.X a:=st.nx ha;have hp:H1 a=aa (.dT []):=vf f1 nx ZD;have hx:¬(O.ex W).X a:=λz=>z.elim nx λ#[j,w]=>let #[_,_,_,z]:=en.own j a w;T7 ha z.ne
 have f2:Fut O H O (upd H1 a<|.dT [(r.map cY,.bl ai)]):=#[rfl,λc o z=>by
  have ne:c≠a:=λq=>by rw[q,ha]at z;cases z
  rw[Zl ne];exact(f0.trans f1).keep c o z]
 refine#[b,r.map cY,.bl ai,rfl,hb,hp,h1 _ _ _ ?_<|en.takeO (d:=.dow [r]) st.xd f2 ha hx #[_,ZD,rfl] hl];exact#[st1.hk,λc z=>by rw[Zl λq:c=a=>nx (by rw[<-q];exact z)];exact st1.xd c z,λc z=>by rw[Zl λq:c=a=>nx (by rw[<-q];exact O.xz c z)];exact st1.dw c z,st1.tb.upd (λo u z=>by rw[hp]at z;cases z) λ_ z=>by cases z]
def Zaw{ix:Expr}{ii:E}(hu:X.A.units+7<dv)(hi:CE X xw C ix ii)(he:CE X xw C e i)(hN:X.N[n]?=aa x)(hv:Vis X.env.scope x)(hd:(x == ("__debug__" : bB))=am)(hcd:(x == ("__classdict__" : bB))=am)
  (hs:fD e (aa<|.Subscript (.Name x p') ix p) pos.line X.env=c6 am):CS X xw fr C ns (.Assign [.Subscript (.Name x p') ix p] e pos) (.dput (.v n) ii i):=.mk <| PS.imp (ZaB (by omega) (Wa hN hv hd hcd) hi.h he.h hs)<|by
 rintro D Z H ⟨O,H0,W,l,os,S,st,en,h⟩;rw[Pv.rv]at h;obtain⟨c,h⟩:=h.guard;refine#[O,l,S,st,en.all,Zw.bind en h λy S1 H1 v f1 st1 r1 h1=>?_]
 obtain⟨ht,h1⟩:=h1.guard;obtain⟨ks,hk,h1⟩:=Zw.ob h1;have en1:=en.mono f1;obtain⟨a,ha⟩:=bO.mp<|(en.osW n).symm.trans c;have own:∀{H2},Eu O H0 W l os Z H2->Z[n]?=aa (aa<|.ref a)/\∃vs,H2 a=aa (.dT vs)/\vs.map (·.1)=ks.map (·.map cY):=λ{H2} en=>by
  obtain⟨d,p,q,r⟩:=en.own n a ha;rw[p]at hk;cases d with|dow ks'=>cases hk;exact#[q,r]|_=>cases hk
 refine#[.ref a,(own en1).1,O,l,S1,st1,en1.all,Zw.bind en1 h1 λz S2 H2 w f2 st2 r2 h2=>?_]
 obtain⟨r,hr,h2⟩:=Zw.ob h2;obtain⟨hl,h2⟩:=h2.guard;have en2:=en1.mono f2;obtain⟨b,rfl,hb⟩:=JV r2 hr;obtain⟨_,vs,e2,e3⟩:=own en2;have hz:vs.length<bi:=by
  have:=congrArg iS e3;rw[aw,aw]at this;rw[this,<-XH];exact hl
 rw[Zag r1 ht];exact#[a,_,rfl,DPut.t e2 hb hz,h2 _ _ W (st2.mut en2 ha)<|en2.mutO ha (d':=.dow<|Pv.Yl ks r) #[_,ZD,wO e3]]
def Zdk{P:bG}{w:b0}{H:Hp}{h:ck}{a:aL}{kvs:List (List Key×V)}(ok:HOk P w H h)(e:H a=aa (.dT kvs)):(a == c7)=am/\kvs.length<=bi/\
  ∃(o:fw)(es:Array fF)(ep:Nat),h.get? a=aa o/\o.ExactDict/\o.data=.dict es ep/\es.size=kvs.length/\∃qs:List aL,es.toList.map (·.key)=qs.map cn/\qs.length=kvs.length/\∀(i:Nat)(p:List Key×V),kvs[i]?=aa p->∃q,qs[i]?=aa q/\H q=aa (.tup<|p.1.map kV):=by
 obtain⟨z,y,xs,r,o,es,ep,h1,h2,h3,h4,h5⟩:=(show Ym P w H h a (.dT kvs)from ok a _ e)
 have hl:es.size=kvs.length:=by
  have:=congrArg iS h4;rw[aw,<-Paired.length r]at this
  simpa using this
 refine#[y,z,o,es,ep,h1,h2,h3,hl,xs.map (·.2.1),?_,by rw[aw,<-Paired.length r],λi p hp=>?_]
 .rw[h4,bV,bV];rfl
 .obtain⟨q,hq,e1,e2,e3⟩:=UU r hp
  exact#[q.2.1,by rw[aJ,hq];rfl,e2]
theorem Qf{O:Mx}{H:Hp}:∀{ks:List (List Int)}{qs:List aL},qs.length=ks.length->(∀(i:Nat)(k:List Int),ks[i]?=aa k->∃q,qs[i]?=aa q/\H q=aa (.tup<|k.map V.int))->Rq O H (ks.map Pv.Zb) (qs.map V.ref)
 |[],[],_,_=>Rq.nil
 |k::ks,q::qs,hl,h=>by
  obtain⟨q',e,hq⟩:=h 0 k rfl;cases e;exact Rq.cons (YL hq<|Rq.ints k)<|Qf (by simpa using hl) λi k e=>h (i+1) k e
 |[],_::_,hl,_=>by cases hl
 |_::_,[],hl,_=>by cases hl
theorem W7:∀qs:List aL,Vals (qs.map V.ref) (qs.map cn)
 |[]=>.nil
 |q::qs=>.cons rfl<|W7 qs
theorem JG:∀ks:List (List Int),Pv.Z2 (ks.map Pv.Zb)=aa ks
 |[]=>rfl
 |k::ks=>by
  have hi:∀k:List Int,Pv.intsV (k.map Pv.V.int)=aa k:=λk=>by
   induction k with|nil=>rfl|cons n k ih=>show(Pv.intsV<|k.map Pv.V.int).map (n :: ·)=_;rw[ih];rfl
  show(match Pv.intsV (k.map Pv.V.int),Pv.Z2 (ks.map Pv.Zb)with|some a,aa b=>aa (a::b)|_,_=>ag)=_
  rw[hi,JG ks]
def va{O:Mx}{pq:List (aL×fw)}{s:ax}{Z:L2.St}{H:Hp}{v:V}{ks:List (List Int)}(I:Inv X pq Z H s)(r:Rep O H (.dow ks) v):∃(a:aL)(o:fw)(es:Array fF)(ep:Nat)(qs:List aL),v=.ref a/\(a == c7)=am/\ks.length<=bi/\s.heap.get? a=aa o/\o.ExactDict/\o.data=.dict es ep/\es.size=ks.length/\es.toList.map (·.key)=qs.map cn/\qs.length=ks.length/\Rq O H (ks.map Pv.Zb) (qs.map V.ref):=by
 obtain⟨a,vs,e,ha,_,hk⟩:=r.dow';obtain⟨lo,hz,o,es,ep,g1,g2,g3,hl,qs,e1,e2,e3⟩:=Zdk I.hok ha;have hn:vs.length=ks.length:=by have:=congrArg iS hk;simpa using this
 refine#[a,o,es,ep,qs,e,lo,by omega,g1,g2,g3,by omega,e1,by omega,Qf (by omega) λi k q=>?_]
 have e4:=congrArg (·[i]?) hk
 simp only[aJ,q,nZ]at e4;obtain⟨p,e5,e6⟩:=bF.mp e4;obtain⟨q',e7,e8⟩:=e3 i p e5;rw[e6,bV]at e8;exact#[q',e7,e8]
def x4(hc:X.calm=ai):ZH X (.type "list") (UT X.K xw .listD):=by
 intro pq s Z H vs us Q I r h;obtain⟨O,S,ds,st,rs,H0,S0,f0,s0,h⟩:=h;obtain⟨d,v,z,rfl,r1,hz,h⟩:=VB h rs;cases d with
 |dow ks=>
  cases hz;obtain⟨a,o,es,ep,qs,rfl,lo,hn,g1,g2,g3,g4,g5,g6,rq⟩:=va I r1;obtain⟨u,rfl,ru⟩:=X2 r;cases ru;refine PySem.W.kdl_call (yp lo g2 g3) (I.ok.hd hc) g1 (by omega) λh' tk acc c' kp hL hacc=>?_
  refine#[.ref _,_,I.laid (t':=tk) (o:=.lst<|qs.map V.ref) kp (aN _) #[by rw[aw];omega,acc.toList,c',by rw[yH hacc,g5];exact W7 qs,hL],rfl,h.newF f0 s0 st rq _<|I.hok.fresh<|aN _]
 |_=>exact Ev.nos hz
def Gf(hc:X.calm=ai):ZH X (.builtin "sorted") (UT X.K xw .sortedD):=by
 intro pq s Z H vs us Q I r h;obtain⟨O,S,ds,st,rs,H0,S0,f0,s0,h⟩:=h;obtain⟨d,v,z,rfl,r1,hz,h⟩:=VB h rs;cases d with
 |dow ks=>
  have hz:(if Ya ks=ai then aa (Pv.V.lst<|(Zu ks).map Pv.Zb)else ag)=aa z:=hz
  split at hz
  case isFalse=>cases hz
  rename_i hok
  cases hz;obtain⟨a,o,es,ep,qs,rfl,lo,hn,g1,g2,g3,g4,g5,g6,rq⟩:=va I r1;obtain⟨u,rfl,ru⟩:=X2 r;cases ru;have rv:=W7 qs;obtain⟨RA,_⟩:=XS I (JG ks) rq rv;obtain⟨hok1,hok3⟩:=(aA _ _).mp hok;obtain⟨hok1,hok2⟩:=(aA _ _).mp hok1;have h64:=T6 hok1;have hnd:=T6 hok2;have hne:∀r∈ks,r≠[]:=λr hr e=>by
   have:=aT.mp hok3 r hr;rw[e]at this;cases this
  have hlen:=RA.length;refine Gb (I.ok.hd hc) lo g1 g2 g3 g5 (by omega) (J3 hnd hlen) (Qi RA hnd hne) λp h' tk D n hp hu kp hD hL=>?_
  rw[<-hlen]at hp hu;have out:=JJ hnd hp hu;have hmem:∀i∈p.toList,i<ks.length:=λi hi=>by
   have hp':p.toList.Perm (az ks.length):=by simpa using bm.mp hp
   exact aP.mp<|hp'.mem_iff.mp hi
  have rx2:=J1 (F:=p.toList) rq hmem;have out:(p.toList.map λi=>ks.getD i [])=Zu ks:=out
  rw[out]at rx2;have rv2:=Ua (F:=p.toList) rv (by rw[aw,g6];exact hmem)
  refine#[.ref D,_,I.laid (t':=tk) (o:=.lst<|p.toList.map λi=>(qs.map V.ref).getD i V.non) kp hD #[?_,_,n,rv2,hL],rfl,h.newF f0 s0 st rx2 _<|I.hok.fresh hD]
  rw[aw,aF,hp.size];exact hn
 |_=>exact Ev.nos hz
end
end Sd
namespace Sd
open PySem PySem.Spec PyProof.Rows
noncomputable def pl(b:Nat):List Nat:=(az 6).filter b.testBit
noncomputable def tbl(b:Nat)(led:Bool):SetTable:={mask:=if 5<=(pl b).length then 31 else 7,place:=(pl b).toArray,dummies:=#[],finger:=0,led,moves:=if 5<=(pl b).length then 1 else 0,plain:=ai}
noncomputable def ve(b k:Nat):Nat:=(pl b).countP (· < k)
noncomputable def QX(b k:Nat)(led:Bool):Bool:=
 b.testBit k||(
  let b':=b ||| 2^k
  let t':=((tbl b led).put k).1
  let n:=(pl b').length
  decide ((tbl b led).freeSlot k=aa (k,am))&&af (((tbl b led).put k).2=ve b k)&&af (eF (pl b).toArray (ve b k) k=(pl b').toArray)&&t'.fits n&&t'.plain &&
  (if t'.tooFull then af (t'.relaid ((pl b').map gN).toArray (oF n)=aa (tbl b' led,nO n))&&coversAll (nO n) n&&(tbl b' led).fits n else af (t'=tbl b' led))&&af (b'<64))
def vg:(az 64).all (λb=>(az 6).all λk=>QX b k ai&&QX b k am)=ai:=by decide +kernel
def jm{b k:Nat}{led:Bool}(hb:b<64)(hk:k<6):QX b k led=ai:=by
 have h:=aT.mp (aT.mp vg b<|aP.mpr hb) k<|aP.mpr hk;obtain⟨h1,h2⟩:=(aA _ _).mp h;cases led
 .exact h2
 .exact h1
noncomputable def ZS(b:Nat)(tg:Nat->Nat):Array (Int×ap):=((pl b).map λk:Nat=>(((k:Nat):Int),e9 k<|tg k)).toArray
def QN{B β:Type}(f:B->β)(xs:Array B)(p:Nat)(x:B):eF (xs.map f) p (f x)=(eF xs p x).map f:=by
 unfold eF;simp
def ZdL{b k:Nat}(h:k∈pl b):k<6:=aP.mp (bX.mp h).1
def zR{b k:Nat}(hk:k<6):k∈pl b↔b.testBit k=ai:=#[λh=>(bX.mp h).2,λh=>bX.mpr #[aP.mpr hk,h]]
def Zdc{b k u:Nat}{tg:Nat->Nat}(hk:k<6)(hn:b.testBit k=am)(h:eF (pl b).toArray (ve b k) k=(pl (b ||| 2^k)).toArray) :
  eF (ZS b tg) (ve b k) ((k:Int),e9 k u)=ZS (b ||| 2^k) λi=>if i=k then u else tg i:=by
 have e:ZS b tg=(pl b).toArray.map λi:Nat=>((i:Int),e9 i (if i=k then u else tg i)):=by
  unfold ZS;rw[ky]
  congr 1
  refine c8 λi hi=>?_
  rw[T8]
  rintro rfl
  rw[zR hk,hn]at hi;cases hi
 have:=QN (λi:Nat=>((i:Int),e9 i (if i=k then u else tg i))) (pl b).toArray (ve b k) k
 rw[<-e,h,T9 rfl]at this;rw[this,ky];rfl
def Yd(b:Nat)(tg:Nat->Nat):(ZS b tg).size=(pl b).length:=by simp[ZS]
def yO(b:Nat)(tg:Nat->Nat):(ZS b tg).map (·.1)=((pl b).map gN).toArray:=by
 unfold ZS;rw[ky,bV];rfl
def j9{b k u:Nat}{tg:Nat->Nat}{led:Bool}(hb:b<64)(hk:k<6)(hn:b.testBit k=am):∃t',layNew (tbl b led) (ZS b tg) (k:Int) (.int k u)=(ZS (b ||| 2^k) λi=>if i=k then u else tg i,t',am,am)/\t'.plain=ai/\t'.fits (pl (b ||| 2^k)).length=ai/\b ||| 2^k<64/\
  (if t'.tooFull=ai then relayAll t' (ZS (b ||| 2^k) λi=>if i=k then u else tg i) (oF (pl (b ||| 2^k)).length)=(ZS (b ||| 2^k) λi=>if i=k then u else tg i,tbl (b ||| 2^k) led,am)else t'=tbl (b ||| 2^k) led):=by
 have h:=jm (led:=led) hb hk;unfold QX at h;rw[hn,iY]at h;simp only[aA,T0]at h;obtain⟨⟨⟨⟨⟨⟨h1,h2⟩,h3⟩,h4⟩,h5⟩,h6⟩,h7⟩:=h;refine#[((tbl b led).put k).1,?_,h5,h4,h7,?_]
 .unfold layNew
  rw[h1]
  dsimp only
  rw[h2,Zdc hk hn h3,Yd];unfold SetTable.orStandIn;rw[h4];rfl
 .cases q:((tbl b led).put k).1.tooFull with
  |false=>
   rw[q]at h6;rw[T8 (by simp)]
   rw[T8<|by simp]at h6
   exact T6 h6
  |true=>
   rw[q,T9 rfl]at h6;simp only[aA,T0]at h6;obtain⟨⟨a1,a2⟩,a3⟩:=h6;rw[T9 rfl];unfold relayAll;rw[yO,a1]
   dsimp only
   have e:(nO (pl (b ||| 2^k)).length).filterMap (λx=>(ZS (b ||| 2^k) λi=>if i=k then u else tg i)[x]?)=ZS (b ||| 2^k) λi=>if i=k then u else tg i:=by
    refine ku.mp ?_;rw[Array.toList_filterMap,Array.toList_range,<-Yd (b ||| 2^k) λi=>if i=k then u else tg i]
    exact filterMap_getElem?_range _
   rw[e,Yd,a2,a3];rfl
def Zay:(az 64).all (λb=>(az 6).all λk=>!b.testBit k||decide (b ||| 2^k=b))=ai:=by decide +kernel
def Zdo{b k:Nat}(hb:b<64)(hk:k<6)(h:b.testBit k=ai):b ||| 2^k=b:=by
 have:=aT.mp (aT.mp Zay b<|aP.mpr hb) k<|aP.mpr hk;rw[h]at this;exact T6 (by simpa using this)
def Zaj:(az 64).all (λb=>(tbl b ai).fits (pl b).length&&(tbl b am).fits (pl b).length)=ai:=by decide +kernel
def WB{b:Nat}{led:Bool}{tg:Nat->Nat}(hb:b<64):(tbl b led).fits (ZS b tg).size=ai:=by
 rw[Yd];obtain⟨h1,h2⟩:=(aA _ _).mp<|aT.mp Zaj b<|aP.mpr hb;cases led
 .exact h2
 .exact h1
def Zbj:∀k,k<6->oT ((k:Nat):Int)=k:=by decide
def Ja(b:Nat):(pl b).length<=6:=cp (fc _ _) (by decide)
def uj(prog:bG)(w:b0)(b:Nat)(tg:Nat->Nat):ElemsOf (eV prog w) (ZS b tg).toList:=λe he=>by
 unfold ZS at he;obtain⟨k,hk,rfl⟩:=aO.mp he;exact#[#[k,gJ _ _ _ _,(Zbj k<|ZdL hk).symm],rfl]
def Y0(h:ck)(a:aL)(b:Nat)(led:Bool):Prop:=∃o ep tg,h.get? a=aa o/\o.ExactSet/\o.data=.set (ZS b tg) ep (tbl b led)
def Y0.keep{h h':ck}{a:aL}{b:Nat}{led:Bool}(S:Y0 h a b led)(k:∀o,h.get? a=aa o->h'.get? a=aa o):Y0 h' a b led:=
 let #[o,ep,tg,ho,r]:=S;#[o,ep,tg,k o ho,r]
def Y0.store{h:ck}{a:aL}{o:fw}{es es':Array (Int×ap)}{ep:Nat}{t t':SetTable}(ho:h.get? a=aa o)(hd:o.data=.set es ep t):(h.update a<|oG es' t').get? a=aa {o with data:=.set es' (ep+1) t' }:=by
 have:=dB (oG es' t') ho (by rw[putSet_of es' t' hd];rfl)
 rwa [putSet_of es' t' hd]at this
section
variable{prog:bG}{w:b0}{A:cZ}{E:ap->ax->Prop}{s:ax}{a:aL}{b k u:Nat}{led:Bool}
def Zau{Q:Bool->ax->Prop}(hb:b<64)(hk:k<6)(hS:Y0 s.heap a b led)(h:∀r h',dN a s.heap h'->Y0 h' a (b ||| 2^k) led->b ||| 2^k<64->Q r {s with heap:=h' }) :
  aX (aS prog w) A (setAddHashed a (.int k u)<|oT k) Q E s:=by
 obtain⟨o,ep,tg,ho,hex,hd⟩:=hS;have hf:=WB (led:=led) (tg:=tg) hb;have hel:=uj prog w b tg;have hsz:(ZS b tg).size<scanBound:=by rw[Yd];have:=Ja b;unfold scanBound;omega
 unfold setAddHashed setAddHashedIn;refine bH<|ab<|gC ho hd hf ?_
 dsimp only
 rw[byScan_of (knd:=eV prog w) (x:=.int k u) rfl hsz hel,T9 rfl];unfold setAddByScan;refine ab<|ab<|eI<|ab<|wpAny_setScan_of (knd:=eV prog w) (k:=(k:Int)) (gJ _ _ _ _) ho hd hf hel ?_;cases hr:List.findIdx? (λe:Int×ap=>(eV prog w).is (k:Int) e.2) (ZS b tg).toList with
 |some j=>
  obtain⟨hj,hp,_⟩:=List.findIdx?_eq_some_iff_getElem.mp hr;have hm:=aW hj;generalize (ZS b tg).toList[j]=e at hm hp;unfold ZS at hm;obtain⟨i,hi,rfl⟩:=aO.mp hm;have:=(eV prog w).inj _ _ _ hp<|gJ _ _ _ _;have:k=i:=gN.inj this;subst this;have hin:=Zdo hb hk<|(zR hk).mp hi;exact aq<|aq<|h am s.heap (mM a s.heap) (by rw[hin];exact#[o,ep,tg,ho,hex,hd]) (by rw[hin];exact hb)
 |none=>
  have hn:b.testBit k=am:=by
   cases q:b.testBit k with
   |false=>rfl
   |true=>
    have hm:(((k:Nat):Int),e9 k<|tg k)∈(ZS b tg).toList:=aO.mpr #[k,(zR hk).mpr q,rfl];have:=List.findIdx?_eq_none_iff.mp hr _ hm;rw[gJ]at this;cases this
  obtain⟨t',e1,pn,ft,b64,e2⟩:=j9 (u:=u) (tg:=tg) (led:=led) hb hk hn;have b6:=Ja (b ||| 2^k)
  dsimp only
  rw[Zbj k hk,e1]
  dsimp only
  generalize hes:(ZS (b ||| 2^k) λi=>if i=k then u else tg i)=es' at e2
  have hz:es'.size=(pl (b ||| 2^k)).length:=by rw[<-hes,Yd]
  have hz':es'.size<=bi:=by rw[hz,cc];omega
  refine ab<|aq ?_;rw[T9 pn,hashByValue_scannable 8 (x:=.int k u) rfl];refine ab<|aq ?_;rw[T9 (show plainKind (.int (k:Int) u)=ai from rfl)]
  refine ab<|mV ho hd ?_ hz';have g1:=Y0.store (es':=es') (t':=t') ho hd;have sb1:=cI s.heap a<|oG es' t';rw[<-hz]at e2;cases q:t'.tooFull with
  |false=>
   rw[q,T8 aM]at e2;subst e2;exact aq<|aq<|h ai _ sb1 #[_,ep+1,λi=>if i=k then u else tg i,g1,hex,by rw[hes]] b64
  |true=>
   rw[q,T9 rfl]at e2;show aX _ _ (_ >>= _) _ _ _;rw[e2]
   dsimp only
   refine ab<|aq<|ab<|mV g1 rfl ?_ hz';exact aq<|aq<|h ai _ (sb1.trans<|cI _ a _) #[_,ep+1+1,λi=>if i=k then u else tg i,Y0.store g1 rfl,hex,by rw[hes]] b64
end
noncomputable def bt(v:Nat->Nat):Nat->Nat
 |0=>0
 |i+1=>bt v i ||| 2^v i
def vh(led:Bool)(tg:Nat->Nat):Data.set #[] 0 (.fresh 0 0 led)=.set (ZS 0 tg) 0 (tbl 0 led):=by
 have:pl 0=[]:=by decide
 unfold ZS tbl;rw[this];rfl
noncomputable def Yq(w:b0):Bool:=!w.params.followText "set-order"
section
variable{prog:bG}{w:b0}{A:cZ}{E:ap->ax->Prop}{s:ax}
def v7{R:oV->ax->Prop}{I:aL}{fp wr:List aL}{n:Nat}{P:Nat->ap->Prop}{St:Nat->ck->Prop}{led:Bool}(W:Walks prog w A.in1 I fp wr n P St)(S:aL)(hSf:S∉fp)(v:Nat->Nat)(hv:∀i x,P i x->v i<6/\∃t,x=.int (v i) t) :
  ∀(k i:Nat)(s:ax),n-i=k->i<=n->St i s.heap->bt v i<64->Y0 s.heap S (bt v i) led->
   (∀h' tk,(∀b o,b∉S::wr->s.heap.get? b=aa o->h'.get? b=aa o)->Y0 h' S (bt v n) led->R (.ok<|.ret .none) {s with heap:=h',toks:=tk})->fg (aS prog w) A (.builtin "set.update.loop" #[[.ref S,.ref I],[]]) R s:=by
 have hSw:S∉wr:=λz=>hSf<|W.sub _ z
 intro k
 induction k with
 |zero=>
  intro i s hk hi st hb hS hR;obtain rfl:i=n:=by omega
  refine eZ kz ?_;rw[eE gf _];show aX _ A.in1 (iX (.ref I) >>= _) _ _ s;exact ab<|W.done s _ _ st λh' tk kp=>aq<|hR h' tk (λb o z e=>kp b o (λy=>z<|aj _ y) e)<|hS.keep λo e=>kp S o hSw e
 |succ k ih=>
  intro i s hk hi st hb hS hR;have lt:i<n:=by omega
  refine eZ kz ?_;rw[eE gf _];show aX _ A.in1 (iX (.ref I) >>= _) _ _ s;refine ab<|W.item i s _ _ lt st λx h1 tk hP st1 kp=>?_
  obtain⟨h6,t,rfl⟩:=hv i x hP;show aX _ A.in1 (gO [e9 (v i) t] (setAdd S<|.int (v i) t) >>= _) _ _ _;refine ab<|bH ?_;unfold setAdd;refine bH<|ab<|(eV prog w).pyHash (k:=((v i:Nat):Int)) (gJ _ _ _ _) ?_;refine Zau (s:={s with heap:=h1,toks:=tk+1}) hb h6 (hS.keep λo e=>kp S o hSw e) λr h2 sb hS2 b64=>?_
  refine aq #[lZ gf _,ih (i+1) _ (by omega) lt (W.frame _ _ _ st1 λb z o e=>?_) b64 hS2 λh3 tk3 kp3 hS3=>hR h3 tk3 (λb o z e=>kp3 b o z ?_) hS3]
  .rw[sb.2 b λy=>hSf<|y▸z];exact e
  .rw[sb.2 b λy=>z (by rw[y];exact al)];exact kp b o (λy=>z<|aj _ y) e
def Zal(a:ap){Q:ap->ax->Prop}(h:Q (.ref s.heap.objs.size) {s with heap:=s.heap.push {cls:=.type "set",dict:=ag,data:=.set #[] 0 (.fresh 0 0<|Yq w)}}) :
  fg (aS prog w) A (.call (.builtin "set.__new__") #[[.type "set",a],[]]) (wants Q E) s:=by
 refine kS ?_;show aX _ A.in1 (do checkBuiltinCall "set.__new__" #[[.type "set",a],[]];oP (.builtin "set.__new__" #[[.type "set",a],[]])) _ _ s;refine ab<|eT (F.newCall_set_1 a)<|aq #[lZ n3 _,eZ F.entry_set_new ?_];rw[eE n3 _];unfold dr.«set.__new__» dr.Frozenset.newClass;have hsub:=sub_set_self;obtain⟨hp,g,d,tk,os⟩:=s
 dsimp only
 wp_walk
 refine eN<|aq ?_;dsimp only;simp only[newObj];exact ab<|nH<|aq<|aq h
set_option maxHeartbeats 3200000 in
def u5{l:aL}{items:Array ap}{v:Nat->Nat}{Q:ap->ax->Prop}(hh:A.handled=ag)(hl:s.heap.IsList l items)(hv:∀i x,items[i]?=aa x->v i<6/\∃t,x=.int (v i) t)
  (h:∀h' tk,Y0 h' s.heap.objs.size (bt v items.size) (Yq w)->(∀b o,s.heap.get? b=aa o->h'.get? b=aa o)->Q (.ref s.heap.objs.size) {s with heap:=h',toks:=tk}):aX (aS prog w) A (call (.type "set") [.ref l]) Q E s:=by
 obtain⟨c,tl,hmro⟩:=F.called_set.mro;have hmade:=F.called_set.made;have hsub:=F.called_set.sub;refine wpAny_call<|kS ?_;show aX _ _ (callAny (.type "set") _) _ _ _;refine aq #[Code.quiet_builtin _ (by decide +kernel),eZ F.entry_type_call ?_];rw[cZ.under_plain (weight_type_call_type "set" [.ref l] []) rfl]
 have h1:=F.called_set.notType;have h2:=F.called_set.canCreate;have hct:=F.typeCall_set_1<|.ref l
 repeat(any_goals (first|assumption|wp_step))
 let so:fw:={cls:=.type "set",dict:=ag,data:=.set #[] 0 (.fresh 0 0<|Yq w)}
 refine gl (Zal (.ref l) (E:=E) (Q:=λobj s1=>obj=.ref s.heap.objs.size/\s1={s with heap:=s.heap.push so}) #[rfl,rfl]) λr s1 hr=>?_
 cases r with
 |error e=>exact hr
 |ok fl=>
  cases fl with
  |ret obj=>
   obtain⟨rfl,rfl⟩:=hr;have hS:(s.heap.push so).get? s.heap.objs.size=aa so:=aG _ rfl;have hT:ax.TypeIs {s with heap:=s.heap.push so} (.ref s.heap.objs.size) "set":=#[_,hS,rfl]
   have hli:=F.called_set.init.lookup;have hbi:=F.called_set.init.bind<|.ref s.heap.objs.size
   repeat(any_goals (first|assumption|wp_step))
   refine gl (codeAny_call_builtin (R:=wants (λr s2=>r=.none/\∃h' tk,s2={s with heap:=h',toks:=tk}/\Y0 h' s.heap.objs.size (bt v items.size) (Yq w)/\∀b o,s.heap.get? b=aa o->h'.get? b=aa o) E) F.called_set.init.plain F.entry_set_init<|check_set_init_1 hT ?_) λr2 s2 hr2=>?_
   .obtain⟨⟨ocls,odict,odata,oslots⟩,hol,hcl,nl,hdl⟩:=hl
    simp only at hcl hdl;subst hcl hdl;have hol':(s.heap.push so).get? l=aa {cls:=.type "list",dict:=odict,data:=.seq items nl,slots:=oslots}:=au _ hol;have hsls:=F.sub_list_set;have hslf:=F.sub_list_frozenset;have hne:(l9 "list" == l9 "dict")=am:=by decide
    have hl1:(s.heap.push so).IsList l items:=#[_,hol',rfl,nl,rfl];unfold dr.«set.__init__» noKeywords dr.Frozenset.updateFrom;generalize hPI:ip=PI
    wp_walk
    subst hPI;refine fj hl1<|ab<|wpAny_runValue ?_;have hlS:l<s.heap.objs.size:=aE hol;have sz:(s.heap.push so).objs.size=s.heap.objs.size+1:=cT ..;have hh3:A.in1.in1.in1.handled=ag:=by simp[hh]
    refine v7 (led:=Yq w) (ow hh3 _ l (by rw[sz];exact bn<|cP hlS) items) s.heap.objs.size (by rw[sz];intro z;rcases aB.mp z with z|z;exact T7 z<|bn<|kr _;exact T7 (bh.mp z)<|fE hlS) v hv (items.size-0) 0 _ (by omega) (dz _) #[#[_,aG _ rfl,rfl,rfl],hl1.push _] (show 0<64 by decide) #[so,0,λ_=>0,au _ hS,#[rfl,rfl,rfl],vh _ _] λh' tk kp hS'=>?_
    show aX _ _ _ _ _ _;refine aq ?_;show aX _ _ (o0 bg) _ _ _;refine aq #[rfl,h',tk,rfl,hS',λb o e=>kp b o ?_<|au _<|au _ e]
    have:=aE e;rw[sz];intro z;rcases aB.mp z with z|z;exact T7 z<|bn this;exact T7 (bh.mp z)<|bn<|cP this
   .cases r2 with
    |error e=>exact hr2
    |ok fl2=>
     cases fl2 with
     |ret r=>
      obtain⟨rfl,h',tk,rfl,hS',hk'⟩:=hr2
      repeat(any_goals (first|assumption|wp_step))
      exact h _ _ hS' hk'
     |_=>exact hr2.elim
  |_=>exact hr.elim
end
def WF:Slot "set_iterator" "__next__" "set_iterator.__next__":=.of (owner:="set_iterator") (n:="__next__") (by rw[typeLookup_type,k8];kernel_rfl) (by decide +kernel) (by decide +kernel) (by decide +kernel) (by first|(left;decide +kernel)|(right;decide +kernel)) (by rw[lz];kernel_rfl)
def G0:Slot "set_iterator" "__iter__" "set_iterator.__iter__":=.of (owner:="set_iterator") (n:="__iter__") (by rw[typeLookup_type,k8];kernel_rfl) (by decide +kernel) (by decide +kernel) (by decide +kernel) (by first|(left;decide +kernel)|(right;decide +kernel)) (by rw[lz];kernel_rfl)
def xT:entryFor table "set_iterator.__next__" = aa dr.«set_iterator.__next__»:=entryFor_of_tree (by kernel_rfl)
def wy:entryFor table "set_iterator.__iter__" = aa dr.«dict_keyiterator.__iter__»:=entryFor_alias (id':="dict_keyiterator.__iter__") (by kernel_rfl) rfl (by decide +kernel) (by kernel_rfl)
def zE:entryFor table "set.__iter__" = aa dr.«frozenset.__iter__»:=entryFor_alias (id':="frozenset.__iter__") (by kernel_rfl) rfl (by decide +kernel) (by kernel_rfl)
def qP:Manifest.owners.lookup (String.ofList ['r','o','t','a','r','e','t','i','_','t','e','s'].reverse)=aa Manifest.sig_set_iterator:=by kernel_rfl
def qe(a:ap):argsOk "set_iterator.__next__" #[[a],[]]:=by unfold argsOk;rw[signature?_of (id:="set_iterator.__next__") (n:=['_','_','t','x','e','n','_','_']) (o:=['r','o','t','a','r','e','t','i','_','t','e','s']) (by kernel_rfl) qP];kernel_rfl
def vQ(a:ap):argsOk "set_iterator.__iter__" #[[a],[]]:=by unfold argsOk;rw[signature?_of (id:="set_iterator.__iter__") (n:=['_','_','r','e','t','i','_','_']) (o:=['r','o','t','a','r','e','t','i','_','t','e','s']) (by kernel_rfl) qP];kernel_rfl
theorem yY{B:Type}{nx:Nat->Nat}:∀(n k:Nat)(l:List B)(out:Array B),l.length=n->(mW nx n k l out).toList.Perm (out.toList++l)
 |0,k,l,out,h=>by
  cases l with|nil=>simp[mW]|cons=>cases h
 |n+1,k,l,out,h=>by
  have hj:nx k%l.length<l.length:=Nat.mod_lt _ (by omega)
  unfold mW;rw[ae hj];refine(yY n (k+1) _ _<|by rw[List.length_eraseIdx_of_lt hj];omega).trans ?_
  rw[eB,bv];refine List.Perm.append_left _ ?_;rw[List.eraseIdx_eq_take_drop_succ];have e:=cL (nx k%l.length) l;rw[b9 hj]at e;have p:(io (nx k%l.length) l++l[nx k%l.length]::oS (nx k%l.length+1) l).Perm (l[nx k%l.length]::(io (nx k%l.length) l++oS (nx k%l.length+1) l)):=nD;exact p.symm.trans (by rw[e])
noncomputable def X4(w:b0)(a:aL)(ep:Nat)(es:Array (Int×ap)):Array (Int×ap):=if w.params.followText "set-order" = ai then pickOrder (w.params.setOrder a ep) es else es
def GJ{w:b0}{a:aL}{ep:Nat}{es:Array (Int×ap)}:(X4 w a ep es).toList.Perm es.toList:=by
 unfold X4;split
 .unfold pickOrder
  simpa using yY es.size 0 es.toList #[] (by simp)
 .exact bz _
def zc{w:b0}{a:aL}{ep:Nat}{es:Array (Int×ap)}:(X4 w a ep es).size=es.size:=by
 rw[<-aF,GJ.length_eq,aF]
noncomputable def JW(b i:Nat):Nat:=if i=0 then 0 else(pl b).getD (i-1) 0+1
noncomputable def YB(w:b0)(b i:Nat):Nat:=if w.params.followText "set-order" = ai then 0 else JW b i
def xV:(az 64).all (λb=>(az<|(pl b).length+1).all λi=>af<|oH (pl b).toArray (JW b i)=i)=ai:=by decide +kernel
def qH{b i:Nat}(hb:b<64)(hi:i<=(pl b).length):oH (pl b).toArray (JW b i)=i:=
 T6 (aT.mp (aT.mp xV b<|aP.mpr hb) i<|aP.mpr<|Nat.lt_succ_of_le hi)
section
variable{prog:bG}{w:b0}{A:cZ}{E:ap->ax->Prop}{s:ax}{a it:aL}{b i ep:Nat}{o:fw}{tg:Nat->Nat}
def zq{Q:Option (ap×Nat)->ax->Prop}(hb:b<64)(hi:i<=(pl b).length)(ho:s.heap.get? a=aa o)(hd:o.data=.set (ZS b tg) ep (tbl b<|Yq w))(h:Q (((X4 w a ep<|ZS b tg)[i]?).map λe=>(e.2,YB w b<|i+1)) s) :
  aX (aS prog w) A (setNext a (YB w b i) i ep) Q E s:=by
 have hf:=WB (led:=Yq w) (tg:=tg) hb;unfold setNext;refine ab<|gC ho hd hf ?_
 dsimp only
 unfold oI;refine ab<|ab<|eN<|aq ?_;unfold X4 YB at h;unfold YB;show aX _ _ (if w.params.followText "set-order" = ai then _ else _) _ _ _
 by_cases c:w.params.followText "set-order" = ai
 .rw[T9 c]
  rw[T9 c,T9 c]at h;rw[T8 (by simp)]
  unfold setWalk;refine ab<|ab<|gC ho hd hf ?_
  dsimp only
  unfold oI;refine ab<|ab<|eN<|aq ?_;show aX _ _ (if w.params.followText "set-order" = ai then _ else _) _ _ _
  rw[T9 c];refine ab<|eN<|aq<|aq ?_;rw[T9 c];exact h
 .rw[T8 c]
  rw[T8 c,T8 c]at h;have hl:Yq w=ai:=by unfold Yq;simp[c]
  rw[hl];have bl:=qH hb hi;split
  .rename_i z
   exact T7 (show(!true&&af ((ZS b tg).size>1))=ai from z) (by simp)
  .refine ab (eT (a:=()) rfl<|aq ?_)
   rw[show(tbl b ai).place=(pl b).toArray from rfl,bl]
   by_cases lt:i<(pl b).length
   .have e1:(ZS b tg)[i]?=aa ((((pl b)[i]:Nat):Int),e9 (pl b)[i]<|tg (pl b)[i]):=by unfold ZS;simp[lt]
    have e2:(pl b).toArray[i]?=aa (pl b)[i]:=by simp[lt]
    rw[e1]at h;rw[e1,e2];have e3:JW b (i+1)=(pl b)[i]+1:=by unfold JW;simp[List.getD,lt]
    rw[e3]at h;exact h
   .have e1:(ZS b tg)[i]?=ag:=gw (by rw[Yd];omega)
    rw[e1]at h;rw[e1];exact h
def Xe(w:b0)(h:ck)(it a:aL)(b i ep:Nat):Prop:=∃o,h.get? it=aa o/\o.cls=.type "set_iterator"/\o.data=.fields [.int (YB w b i) 0,.int i 0,.ref a,.int (pl b).length 0,.int ep 0].toArray
def qR{Q:ap->ax->Prop}(hb:b<64)(ho:s.heap.get? a=aa o)(hex:o.ExactSet)(hd:o.data=.set (ZS b tg) ep (tbl b<|Yq w))
  (hQ:Q (.ref s.heap.objs.size) {s with heap:=s.heap.push {cls:=.type "set_iterator",data:=.fields [.int (YB w b 0) 0,.int 0 0,.ref a,.int (pl b).length 0,.int ep 0].toArray}}):aX (aS prog w) A (ip<|.ref a) Q E s:=by
 have hf:=WB (led:=Yq w) (tg:=tg) hb;have hT:s.TypeIs (.ref a) "set":=#[_,ho,hex.1];refine iW hT n4<|bW n4 hT zE ?_<|F.args_set_iter_1 _;unfold dr.«frozenset.__iter__» dr.Frozenset.slot0 slotArgs dr.Frozenset.addrOf dr.Frozenset.sizeOf;refine ab<|eT (a:=a) rfl<|ab<|ab<|lL ho hd hf<|aq ?_;unfold setDrawn oI;refine ab<|ab<|gC ho hd hf<|ab<|ab<|eN<|aq<|aq ?_
 dsimp only
 have nd:∀x:Bool,(!x&&(!(tbl b<|Yq w).plain&&af ((ZS b tg).size>1)))=am:=λx=>by rw[show(tbl b<|Yq w).plain=ai from rfl];simp
 split
 .rename_i z
  exact T7 ((nd _).symm.trans z) (by simp)
 .refine ab (aq<|ab<|wpAny_setEpoch_of ho hd hf ?_)
  refine ab<|bQ<|aq #[_,rfl,"set_iterator",_,#[_,aG _ rfl,rfl],WF.lookup,?_];have z0:YB w b 0=0:=by unfold YB;split<;>rfl
  rw[z0]at hQ;rw[Yd]
  simpa[fz]using hQ
def uz{Q:ap->ax->Prop}(hit:Xe w s.heap it a b i ep)(h:Q (.ref it) s):aX (aS prog w) A (ip<|.ref it) Q E s:=by
 have hT:s.TypeIs (.ref it) "set_iterator":=let #[o,h1,h2,_]:=hit;#[o,h1,h2];refine iW hT G0<|bW G0 hT wy (show aX _ _ (o0<|.ref it) _ _ s from aq #[_,rfl,"set_iterator",_,hT,WF.lookup,h])<|vQ _
def J9{Q:Option ap->ax->Prop}(hb:b<64)(hi:i<=(pl b).length)(hit:Xe w s.heap it a b i ep)(ho:s.heap.get? a=aa o)(hd:o.data=.set (ZS b tg) ep (tbl b<|Yq w))
  (h1:∀e,(X4 w a ep<|ZS b tg)[i]?=aa e->∀h',Xe w h' it a b (i+1) ep->dN it s.heap h'->Q (aa e.2) {s with heap:=h' })
  (h2:i=(pl b).length->A.handled=ag/\∀h',gR it s.heap h'->Q ag {s with heap:=h' }):aX (aS prog w) A (iX<|.ref it) Q E s:=by
 have hf:=WB (led:=Yq w) (tg:=tg) hb;obtain⟨oi,hq,hc,hdi⟩:=id hit;have hT:s.TypeIs (.ref it) "set_iterator":=#[oi,hq,hc];unfold iX;refine ab<|gP<|cx (name:=mP "__next__") hT WF<|bW WF hT xT ?_<|qe _;unfold dr.«set_iterator.__next__» slotArgs;refine ab<|eT (a:=(cn it,[])) rfl<|ab<|wpAny_fieldsOf hq hdi ?_
 dsimp only
 refine ab<|lL ho hd hf ?_;rw[Yd,T8 (by simp)]
 simp only[du];refine ab<|zq hb hi ho hd ?_;cases q:(X4 w a ep<|ZS b tg)[i]? with
 |some e=>
  refine ab<|eO hq hdi (by simp) ?_
  have g1:=dB (lW (·.setIfInBounds 0 (fz ((YB w b (i+1):Nat):Int)))) hq<|fb<|dm hdi _
  have d1:=dm hdi (·.setIfInBounds 0 (fz ((YB w b (i+1):Nat):Int)))
  refine ab<|eO g1 d1 (by simp) ?_
  have g2:=dB (lW (·.setIfInBounds 1 (fz<|(i:Int)+1))) g1<|fb<|dm d1 _
  refine aq #[_,rfl,aq<|h1 e q _ #[_,g2,?_,?_]<|(cI ..).trans<|cI ..]
  .exact(gv ..).trans<|(gv ..).trans hc
  .rw[dm d1];simp[fz]
 |none=>
  have hn:i=(pl b).length:=by
   have:=Array.getElem?_eq_none_iff.mp q;rw[zc,Yd]at this;omega
  obtain⟨hh,hQ⟩:=h2 hn;refine ab<|eO hq hdi (by simp) (show aX _ _ (oW (.type "StopIteration") [] >>= _) _ _ _ from ab ?_)
  simp only[oW,newTuple];refine ab<|bQ ?_ (by size_fits);refine ab (m:=iF _ _) (eT (a:=bg) (by first|rfl|(simp only[iF];rfl))<|bQ ?_ (by size_fits))
  simp only[raiseNew];refine ab<|lT ?_;rw[show A.in1.handled=ag from hh]
  refine ab<|aq<|nI ?_;refine ab<|gK (T:="StopIteration") (b:=ai) #[_,aG _ rfl,rfl] lq ?_;exact aq<|hQ _<|((cI ..).extBut.push _).push _
def Xe.at{h h':ck}(hit:Xe w h it a b i ep)(k:∀o,h.get? it=aa o->h'.get? it=aa o):Xe w h' it a b i ep:=
 let #[o,h1,r]:=hit;#[o,k o h1,r]
def qy{Q:Bool->ax->Prop}(hT:s.TypeIs (.ref a) "set")(h:Q am s):aX (aS prog w) A (im<|.ref a) Q E s:=by
 unfold im;refine ab<|wpAny_specialOf hT F.slot_set_len.lookup ?_;generalize hid:("set.__len__" : String)=id0
 wp_delta
 rw[show splitId id0=aa ("set","__len__")from by subst hid;decide +kernel];subst hid
 refine ab<|gK (T:="set") (b:=ai) hT (by rw[lz];kernel_rfl) ?_;refine wpAny_ite_split (λz=>T7 z<|by decide) (λ_=>wpAny_ite_split (λ_=>ab<|h8 hT<|aq h) λz=>T7 (by decide +kernel) z)
def ZaA(hb:b<64)(hex:o.ExactSet)(hd:o.data=.set (ZS b tg) ep (tbl b<|Yq w)):iN prog w "set" a a (pl b).length (λi v=>((X4 w a ep<|ZS b tg)[i]?).map (·.2)=aa v) (λh=>h.get? a=aa o) where
 type:=λ_ hm=>#[_,hm,hex.1]
 there:=λ_ hm=>#[aE hm,aE hm]
 keep:=λ_ _ hm hk=>hk a (.inl rfl) _ hm
 notList:=by decide
 notTuple:=by decide
 hint:=λ_ _ _ _ hm hq=>qy #[_,hm,hex.1] hq
 iter:=λA s hh hm=>by
  have hne:a≠s.heap.objs.size:=bn<|aE hm;refine#[{cls:=.type "set_iterator",data:=.fields [.int (YB w b 0) 0,.int 0 0,.ref a,.int (pl b).length 0,.int ep 0].toArray},λi h=>i<=(pl b).length/\Xe w h s.heap.objs.size a b i ep/\h.get? a=aa o,λE Q hq=>?_,?_,dz _,#[_,aG _ rfl,rfl,rfl],au _ hm]
  .exact qR hb hm hex hd hq
  .exact{
    sub:=λb hb=>by simp at hb;simp[hb]
    frame:=λ_ _ _ st hk=>#[st.1,st.2.1.at λo e=>hk _ (by simp) o e,hk a (by simp) _ st.2.2]
    item:=λi s' Q E hi st hQ=>J9 hb st.1 st.2.1 st.2.2 hd (λe q h' hit' sb=>hQ _ h' s'.toks (by rw[q];rfl) #[hi,hit',sb.extBut _ _ hne st.2.2] λb o hb e=>sb.extBut b o (λz=>hb<|by simp[z]) e) λz=>T7 hi (by omega)
    done:=λs' Q E st hQ=>J9 hb st.1 st.2.1 st.2.2 hd (λe q _ _ _=>T7 (Array.getElem?_eq_some_iff.mp q).1<|by rw[zc,Yd];omega) λ_=>#[hh,λh' eb=>hQ h' s'.toks λb o hb e=>eb b o (λz=>hb<|by simp[z]) e]
    self:=λ_ _ _ _ st hQ=>uz st.2.1 hQ}
end
open L2
section
variable{prog:bG}{w:b0}{A:cZ}{E:ap->ax->Prop}{s:ax}{d:aL}
def zZ{T:String}{n:Nat}{P:Nat->ap->Prop}{OK:ck->Prop}{κ:fC}{lt:Nat->Nat->Bool}{vs:List ap}{Q:ap->ax->Prop}(src:iN prog w T d d n P OK)(hh:A.handled=ag)(hok:OK s.heap)(hv:∀acc,oX P acc n->acc.toList=vs)(hn:n<=100000)(hl:vs.length=n)
  (O:Sq.Ord vs.length lt)(K:Sq.Asks prog w A.in1.in1 s.heap vs κ lt)
  (h:∀p h' tk D n,Sq.Pm vs.length p->Sq.Up (Sq.ltR am vs.length lt) p vs.length->(∀b o,s.heap.get? b=aa o->h'.get? b=aa o)->s.heap.objs.size<=D->h'.get? D=aa (eJ "list" (cg<|aY am<|p.toList.map λi=>(aY am vs).getD i bg) n)->Q (.ref D) {s with heap:=h',toks:=tk}) :
  aX (aS prog w) A (call (.builtin "sorted") [.ref d]) Q E s:=by
 refine Calls.call_function_entry nN mQ mR (mS _) ?_;unfold dr.«sorted»;refine ab (m:=checkCount "sorted" 1 1 _)<|aq ?_;refine ab<|Gh (A:=A.in1) src hh hok (by rw[cc];omega) λh1 tk acc hk big hacc=>?_
 rw[hv acc hacc];refine ab<|ke ?_ (by rw[cc];omega)
 have hoL:(h1.push<|eJ "list" vs.toArray 0).get? h1.objs.size=aa (eJ "list" vs.toArray 0):=aG _ rfl;show aX _ _ _ _ _ {s with heap:=h1.push<|eJ "list" vs.toArray 0,toks:=tk}
 refine ab (bH (bW lx #[_,hoL,rfl] kW (by
  rw[Sq.Vl];exact Sq.list_sort_rev (h0:=s.heap) hoL (by omega) (λb o e=>by
   have hlt:b<h1.objs.size:=aE<|hk b o e;exact#[bn hlt,au _<|hk b o e]) O K λp a1 a2=>#[_,rfl,aq #[_,rfl,by
    obtain⟨n,hn⟩:=sortedHeap_at (out:=cg<|aY am<|p.toList.map λi=>(aY am vs).getD i bg) hoL
    exact h p _ tk _ n a1 a2 (λb o e=>by
     have hlt:b<h1.objs.size:=aE<|hk b o e;rw[sortedHeap_old (bn hlt) (by rw[mr];exact cP hlt)]
     exact au _<|hk b o e) big hn]])<|ly _))
def wq{h:ck}{ns:List Int}{vs:List ap}(hi:gp vs ns)(nd:ns.Nodup):Sq.Asks prog w A h vs oneType' (λi j=>af<|ns.getD i 0<ns.getD j 0):=by
 have hl:vs.length=ns.length:=gp.length hi;refine#[λh2 s' E Q k q=>eT (ksk_kind (keys:=vs.toArray) (by simpa using hi)<|by simpa using h2) q,?_,λi j hi' hj s' C E k q=>?_]
 .refine bu.mpr λi j h1 h2 hij e=>?_
  obtain⟨t1,e1⟩:=hi.int_at i vs[i]<|ae h1;obtain⟨t2,e2⟩:=hi.int_at j vs[j]<|ae h2;rw[e1,e2]at e;have e:=(e9.inj e).1;have g1:i<ns.length:=by omega
  have g2:j<ns.length:=by omega
  rw[aC,aC,ae g1,ae g2]at e;exact T7 e<|bu.mp nd i j g1 g2 hij
 .have g1:vs[i]?=aa (vs.getD i bg):=by simp[hi']
  have g2:vs[j]?=aa (vs.getD j bg):=by simp[hj]
  obtain⟨t1,e1⟩:=hi.int_at i _ g1;obtain⟨t2,e2⟩:=hi.int_at j _ g2;rw[e1,e2,keyLt'_oneType];exact oneLt_int q
def uv{ns:List Int}{n:Nat}(nd:ns.Nodup)(hl:ns.length=n):Sq.Ord n (λi j=>af<|ns.getD i 0<ns.getD j 0):=by
 refine#[λi j hi hj ne e=>?_,λi j _ _ e=>?_,λi j k _ _ _ e f=>?_]
 .have:ns.getD i 0≠ns.getD j 0:=λe=>by
   simp only[aC]at e;have hi':i<ns.length:=by omega
   have hj':j<ns.length:=by omega
   refine ne<|(fu hi' nd).mp ?_;rw[ae hi',ae hj']at e ⊢;exact congrArg aa e
  have e:=of_decide_eq_false e;exact T5 (by omega)
 .have e:=T6 e
  exact T4 (by omega)
 .have e:=T6 e
  have f:=T6 f;exact T5 (by omega)
def vC{ns l:List Int}{p:Array Nat}(hp:l.Perm ns)(hs:l.Pairwise (· < ·))(h1:Sq.Pm ns.length p)(h2:Sq.Up (Sq.ltR am ns.length λi j=>af<|ns.getD i 0<ns.getD j 0) p ns.length):(p.toList.map λi=>ns.getD i 0)=l:=by
 have hq:p.toList.Perm (az ns.length):=by simpa using bm.mp h1
 have hl:p.toList.length=ns.length:=by rw[hq.length_eq,aZ]
 refine List.Perm.eq_of_pairwise (le:=λa b=>a<b) (λa b _ _ x y=>by omega) ?_ hs ?_
 .rw[cA,bu]
  intro i j hi hj hij;have g:∀k (hk:k<p.toList.length),p.toList[k]=Sq.g p k:=λk hk=>by
   have:=Sq.ww (p:=p) (i:=k) (by simpa using hk)
   rw[<-bc,ae hk]at this;exact ak this
  rw[g i hi,g j hj];exact T6<|h2 i j hij (by omega)
 .refine((hq.map _).trans ?_).trans hp.symm
  have e:(az ns.length).map (λi=>ns.getD i 0)=ns:=by
   refine bK λi=>?_
   rw[aJ];by_cases h:i<ns.length
   .rw[cq h];simp[h]
   .simp[dC h]
  rw[e]
def xQ:(az 64).all (λb=>af (((pl b).map gN).Pairwise (· < ·)))=ai:=by decide +kernel
theorem Wt:∀{l:List (Int×ap)},(∀e∈l,∃t,e.2=.int e.1 t)->gp (l.map (·.2)) (l.map (·.1))
 |[],_=>.nil
 |(n,v)::l,h=>by
  obtain⟨t,e⟩:=h (n,v) al;have e:v=.int n t:=e;subst e;exact .cons n t<|Wt λe he=>h e<|aj _ he
theorem Qy{vs:List ap}{ns:List Int}(hi:gp vs ns):∀{l:List Nat},(∀i∈l,i<vs.length)->gp (l.map λi=>vs.getD i bg) (l.map λi=>ns.getD i 0)
 |[],_=>.nil
 |i::l,h=>by
  obtain⟨t,e⟩:=hi.int_at i (vs.getD i bg) (by simp[h i al])
  rw[a9,a9,e];exact .cons _ t<|Qy hi λj hj=>h j<|aj _ hj
def zo{b:Nat}{Q:ap->ax->Prop}(hh:A.handled=ag)(hb:b<64)(S:Y0 s.heap d b (Yq w))
  (h:∀h' tk D n us,gp us ((pl b).map gN)->(∀b o,s.heap.get? b=aa o->h'.get? b=aa o)->s.heap.objs.size<=D->h'.get? D=aa (eJ "list" us.toArray n)->Q (.ref D) {s with heap:=h',toks:=tk}) :
  aX (aS prog w) A (call (.builtin "sorted") [.ref d]) Q E s:=by
 obtain⟨o,ep,tg,ho,hex,hd⟩:=S;have pm:(X4 w d ep<|ZS b tg).toList.Perm (ZS b tg).toList:=GJ;generalize hsq:X4 w d ep (ZS b tg)=sq at pm;have hI:gp (sq.toList.map (·.2)) (sq.toList.map (·.1)):=Wt λe he=>by
  have:=pm.mem_iff.mp he;unfold ZS at this;obtain⟨k,_,rfl⟩:=aO.mp this;exact#[tg k,rfl]
 have hP:((pl b).map gN).Perm (sq.toList.map (·.1)):=by
  have:=pm.map (·.1)
  have e:(ZS b tg).toList.map (·.1)=(pl b).map gN:=by
   have:=congrArg mv<|yO b tg
   simpa using this
  rw[e]at this;exact this.symm
 have hS:((pl b).map gN).Pairwise (· < ·):=T6<|aT.mp xQ b<|aP.mpr hb
 have hnd:(sq.toList.map (·.1)).Nodup:=hP.nodup_iff.mp<|hS.imp λh e=>by omega
 have hlen:(sq.toList.map (·.2)).length=(pl b).length:=by
  rw[aw,pm.length_eq,aF,Yd]
 have hl2:(sq.toList.map (·.1)).length=(sq.toList.map (·.2)).length:=by simp
 refine zZ (vs:=sq.toList.map (·.2)) (ZaA hb hex hd) hh ho (λacc ha=>?_) (by have:=Ja b;omega) hlen (uv hnd hl2) (wq hI hnd) λp h' tk D n h1 h2 kp hD hL=>?_
 .rw[hsq]at ha
  refine bK λi=>?_
  by_cases hi:i<(pl b).length
  .have hl:i<acc.size:=by rw[ha.1];exact hi
   have:=ha.2 i acc[i]<|bj hl;rw[aJ,bc,bc,this,bj hl]
  .rw[bD (by rw[aF,ha.1];omega),bD (by rw[hlen];omega)]
 .have hq:p.toList.Perm (az (sq.toList.map (·.2)).length):=by simpa using bm.mp h1
  have out:=Qy hI (l:=p.toList) λi hi=>aP.mp<|hq.mem_iff.mp hi
  rw[<-hl2]at h1 h2;rw[vC hP hS h1 h2]at out;exact h h' tk D n _ out kp hD hL
end
def Zer(te:TE):TE:=λZ H Q=>te Z H λv H1=>∃(a:aL)(ks:List Nat),v=.ref a/\H1 a=aa (.lst (ks.map λk:Nat=>V.int k))/\(∀k∈ks,k<6)/\∀D,H1 D=ag->Q (.ref D) (upd H1 D (.lst ((pl (bt (ks.getD · 0) ks.length)).map λk:Nat=>V.int k)))
theorem Zbk{v:Nat->Nat}:∀{n:Nat},(∀i,i<n->v i<6)->bt v n<64
 |0,_=>by show 0<64;decide
 |n+1,h=>Nat.or_lt_two_pow (n:=6) (Zbk λi hi=>h i<|by omega)<|Nat.pow_lt_pow_right (by decide)<|h n (by omega)
theorem YV{us:List ap}:∀{ns:List Nat},gp us (ns.map gN)->Vals (ns.map λk:Nat=>V.int k) us
 |[],h=>by cases h;exact .nil
 |n::ns,h=>by
  cases h with|cons _ t h=>exact .cons #[t,rfl]<|YV h
def zj{X:Cx}{e:Expr}{te:TE}{p p2 p3 pos:gW}(hc:X.calm=ai)(he:PE X e te)(hm1:X.mg "sorted" = ag)(hm2:X.mg "set" = ag)(hg1:Gl X "sorted")(hg2:Gl X "set")
  (hs1:aH [e] X.env=(am,cD e X.env)::aH [] X.env)(hs2:aH [.Call (.Name "set" p2) [e] [] p3] X.env=(am,cD (.Call (.Name "set" p2) [e] [] p3) X.env)::aH [] X.env) :
  PE X (.Call (.Name "sorted" p) [.Call (.Name "set" p2) [e] [] p3] [] pos) (Zer te):=by
 intro pq s Z H Q I h;refine eW<|Xd I hg1 hm1 (by rfl) ?_ (by decide) (by decide)
 refine gG ?_ hs2 rfl;rw[hs2];show aX _ _ (spliced ((am,cD (.Call (.Name "set" p2) [e] [] p3) X.env)::dW pos (aH [] X.env))) _ _ s;refine Calls.spliced_cons ?_;refine eW<|Xd I hg2 hm2 (by rfl) ?_ (by decide) (by decide)
 refine cM ?_ hs1 rfl;rw[hs1];show aX _ _ (spliced ((am,cD e X.env)::dW p3 (aH [] X.env))) _ _ s;refine Calls.spliced_cons<|thn (he pq s Z H _ I h) λu s1 #[x,H1,I1,r1,a,ks,ex,ha,h6,q1]=>Calls.spliced_nil ?_
 subst ex;cases(show u=cn a from r1)
 obtain⟨hz,us,n,rel,ho⟩:=I1.hok a _ ha;have hlen:us.length=ks.length:=by rw[<-rel.length,aw]
 have hh:=I1.ok.hd hc;have h6':∀i,i<ks.length->ks.getD i 0<6:=λi hi=>by
  rw[aC,ae hi];exact h6 _<|aW hi
 refine u5 (v:=(ks.getD · 0)) (items:=us.toArray) hh #[_,ho,rfl,n,rfl] (λi x hx=>?_) λh2 tk2 hS k2=>?_
 .have hx':us[i]?=aa x:=by simpa using hx
  have hi:i<us.length:=(aU.mp hx').1;refine#[h6' i (by omega),?_]
  obtain⟨y,hy,ry⟩:=rel.get (i:=i) (x:=V.int<|ks.getD i 0) (by rw[aJ,ae (show i<ks.length by omega),aC,ae (show i<ks.length by omega)];rfl)
  rw[hx']at hy;cases hy;exact ry
 .refine Calls.spliced_nil ?_
  have b64:bt (ks.getD · 0) us.toArray.size<64:=Zbk λi hi=>h6' i (by simpa[hlen]using hi)
  refine zo (s:={s1 with heap:=h2,toks:=tk2}) hh b64 hS λh3 tk3 D m vs hI k3 hD hL=>?_
  have sz:us.toArray.size=ks.length:=by simpa using hlen
  rw[sz]at hI;have le:s1.heap.objs.size<=D:=by
   obtain⟨o,_,_,hg,_⟩:=hS;exact cp (gg<|aE hg) hD
  refine#[.ref D,_,I1.laid (a:=D) (o:=.lst ((pl (bt (ks.getD · 0) ks.length)).map λk:Nat=>V.int k)) (h':=h3) (t':=tk3) (λb o e=>k3 b o<|k2 b o e) le #[?_,vs,m,YV hI,hL],rfl,q1 D<|I1.hok.fresh le]
  rw[aw,cc];have:=Ja (bt (ks.getD · 0) ks.length)
  omega
theorem uX{v:Nat->Nat}{k:Nat}:∀{n:Nat},(bt v n).testBit k=((az n).map v).contains k
 |0=>by simp[bt]
 |n+1=>by
  show(bt v n ||| 2^v n).testBit k=_;rw[Nat.testBit_or,uX,kX,bN,List.contains_append,Nat.testBit_two_pow];simp[eq_comm]
def Zd5{ks:List Nat}:pl (bt (ks.getD · 0) ks.length)=(az 6).filter ks.contains:=by
 unfold pl;refine List.filter_congr λk _=>?_
 rw[uX];have e:(az ks.length).map (λi=>ks.getD i 0)=ks:=by
  refine bK λi=>?_
  rw[aJ];by_cases h:i<ks.length
  .rw[cq h];simp[h]
  .simp[dC h]
 rw[e]
open Ev (E Sm Fn Bop Cop Ty Bf Mf)
theorem V4{O:Mx}{H:Hp}:∀{ds:List D}{ks:List Nat}{vs:List V},Pv.X6 ds=aa ks->Rq O H ds vs->vs=ks.map (λk:Nat=>V.int k)/\∀k∈ks,k<6
 |[],ks,vs,e,h=>by
  cases e;unfold Rq at h;exact#[h,λ_ z=>by cases z]
 |x::r,ks,vs,e,h=>by
  unfold Rq at h;obtain⟨v,us,rfl,h1,h2⟩:=h;cases x with
  |int i=>
   have e:(if 0<=i/\i<6 then(Pv.X6 r).map (i.toNat :: ·)else ag)=aa ks:=e
   split at e
   .rename_i hi
    obtain⟨ks',e1,rfl⟩:=bF.mp e;obtain⟨rfl,h6⟩:=V4 e1 h2;refine#[by rw[h1.int',a9,lN hi.1],λk hk=>?_]
    rcases aB.mp hk with rfl|hk
    .omega
    .exact h6 k hk
   .cases e
  |_=>exact Ev.nos e
theorem Qa{O:Mx}{H:Hp}:∀l:List Nat,Rq O H (l.map λk:Nat=>Pv.V.int k) (l.map λk:Nat=>V.int k)
 |[]=>Rq.nil
 |k::l=>Rq.cons (ZW (k:Int))<|Qa l
def yf{X:Cx}{xw:Nat->Hp->Prop}{C:Calls}{e:Expr}{i:E}{p p2 p3 pos:gW}(hc:X.calm=ai)(he:CE X xw C e i)(hm1:X.mg "sorted" = ag)(hm2:X.mg "set" = ag)(hg1:Gl X "sorted")(hg2:Gl X "set")
  (hs1:aH [e] X.env=(am,cD e X.env)::aH [] X.env)(hs2:aH [.Call (.Name "set" p2) [e] [] p3] X.env=(am,cD (.Call (.Name "set" p2) [e] [] p3) X.env)::aH [] X.env) :
  CF X xw C (.Call (.Name "sorted" p) [.Call (.Name "set" p2) [e] [] p3] [] pos) (.blt .sortedS [i]):=.mk <| PE.imp (zj hc he.h hm1 hm2 hg1 hg2 hs1 hs2)<|by
 rintro Z H Q ⟨O,l,S,st,lr,h⟩;rw[Pv.pv,Pv.pvs,XF]at h;refine#[O,l,S,st,lr,h.bind λx S1 ρ1 H1 v f1 st1 r1 h1=>?_]
 cases f1.eq;rw[Pv.pvs]at h1;obtain⟨z,hz,h1⟩:=End.po h1;cases x with
 |lst ds=>
  obtain⟨ks,e1,rfl⟩:=bF.mp hz;obtain⟨a,us,rfl,ha,_,rs⟩:=r1.lst';obtain⟨rfl,h6⟩:=V4 e1 rs;exact#[a,ks,rfl,ha,h6,by rw[Zd5];exact h1.newF f1 st st1<|Qa _]
 |_=>exact Ev.nos hz
end Sd
namespace Gn
open PySem PySem.Spec PyProof.Rows L2
open Ev (E Sm Fn Bop Cop Ty Bf Mf)
open Sd (Calls spF CompScope cxC hu7 yK uf)
structure FR where
 x:bB
 st:fK
 N:List bB
 k:Nat
noncomputable def FR.ps(r:FR):List bB:=r.N.take r.k
noncomputable def scB(N:List bB)(k:Nat)(sc:eL):Bool:=
 (match sc.kind with|.function=>ai|_=>am)&&(!sc.isCoroutine&&(!sc.isGenerator&&(decide N.Nodup&&((N.take k).all (λx=>af (sc.names.lookup x=aa .local)||decide (sc.names.lookup x=aa .cell))&&sc.names.all λy=>af<|y.2≠.free))))
def ZbJ(h:scB N k sc=ai):FnScope N (N.take k) sc:=by
 unfold scB at h;simp only[aA,mX,T0,aT,ee]at h;obtain⟨h1,h2,h3,h4,h5,h6⟩:=h;refine#[?_,h2,h3,h4,?_,h5,h6]
 .cases e:sc.kind<;>rw[e]at h1<;>first|rfl|cases h1
 .rw[bw]
  by_cases hk:k<=N.length
  .rw[kT hk]
  .rw[Nat.min_eq_right (by omega),gI,cC (by omega)]
inductive Gv where
 |int (n:Int)|tab (t:List (Int×Int))
 deriving DecidableEq
def ZdH(K:ao)(mg:bB->Option ap)(x:bB):Gv->Prop
 |.int n=>∃t:Tok,mg x=aa (.int n t)
 |.tab t=>∃tb:aL,(∀P w,Sd.ZdF P w K tb t)/\mg x=aa (.ref tb)
structure Top(K:ao)(mg:bB->Option ap)(fs:List FR)(zs:List bB)(gs:List (bB×Gv))(f:Nat->aL)(fd:Nat->cS):Prop where
 d:∀i r,fs[i]?=aa r->Fun K r.x r.x r.st (f i) (fd i)
 b:∀i r,fs[i]?=aa r->Vq K (fd i) r.ps []
 m:∀i r,fs[i]?=aa r->mg r.x=aa (.ref<|f i)
 z:∀x∈zs,mg x=ag
 g:∀y∈gs,ZdH K mg y.1 y.2
def All(P:bG)(w:b0)(K:ao)(mg:bB->Option ap)(base:ck)(fs:List FR)(F:List Fn)(tk:Nat)(sn:List Nat)(f:Nat->aL)(fd:Nat->cS)(d:Nat):Prop:=
 ∀i r,fs[i]?=aa r->FnOk P w K mg base CX0 d (f i) (fd i) r.ps (spF K (Pv.Zk F tk d) (sn.contains i) i)
def Bd(fs:List FR)(zs:List bB)(gs:List (bB×Gv))(F:List Fn)(tk:Nat)(sn:List Nat)(i:Nat)(r:FR)(fn:Fn):Prop:=
 ∀(P:bG)(w:b0)(K:ao)(mg:bB->Option ap)(base:ck)(f:Nat->aL)(fd:Nat->cS)(d:Nat),Top K mg fs zs gs f fd->All P w K mg base fs F tk sn f fd d->r.N.Nodup->
  ∀(cdv:ap)(A:cZ)(outer:List Env)(s:ax)(H:Hp)(E:XK),Room d (A.deeper<|iq r.x (Zz r.st) s.heap.objs.size (f i) cdv)->(A.deeper<|iq r.x (Zz r.st) s.heap.objs.size (f i) cdv).units+7<dv->
   Sd.CSs (JD CX0 P w K mg base r.N r.x (Zz r.st) (f i) cdv A outer s H E).nox (λ_ _=>False) (sn.contains i) (Pv.Zk F tk d) (Pv.muts fn.body) (Yh r.st) fn.body
def OkL(fs:List FR)(zs:List bB)(gs:List (bB×Gv))(F:List Fn)(tk:Nat)(sn:List Nat):Nat->List FR->List Fn->Prop
 |_,[],[]=>True
 |i,r::rs,fn::fns=>(fn.ns=r.N.length/\fn.ps=r.ps.length/\scB r.N r.k (Zz r.st)=ai/\Bd fs zs gs F tk sn i r fn)/\OkL fs zs gs F tk sn (i+1) rs fns
 |_,_,_=>False
theorem OkL.get{fs:List FR}{zs:List bB}{gs:List (bB×Gv)}{F:List Fn}{tk:Nat}{sn:List Nat}:∀{rs:List FR}{fns:List Fn}{i0:Nat},OkL fs zs gs F tk sn i0 rs fns->∀i r,rs[i]?=aa r->∃fn,fns[i]?=aa fn/\fn.ns=r.N.length/\fn.ps=r.ps.length/\scB r.N r.k (Zz r.st)=ai/\Bd fs zs gs F tk sn (i0+i) r fn
 |[],_,_,_,i,r,e=>by simp at e
 |_::_,[],_,h,_,_,_=>h.elim
 |r::rs,fn::fns,i0,h,0,r',e=>by
  simp at e;subst e;exact#[fn,rfl,h.1.1,h.1.2.1,h.1.2.2.1,h.1.2.2.2]
 |r::rs,fn::fns,i0,h,i+1,r',e=>by
  obtain⟨g,a,b,c,d,q⟩:=OkL.get h.2 i r' (by simpa using e)
  exact#[g,by simpa using a,b,c,d,by rw[i7,mG 1 i]at q;exact q]
theorem vM{P:bG}{w:b0}{K:ao}{mg:bB->Option ap}{base:ck}{fs:List FR}{zs:List bB}{gs:List (bB×Gv)}{F:List Fn}{tk:Nat}{sn:List Nat}{f:Nat->aL}{fd:Nat->cS}(O:OkL fs zs gs F tk sn 0 fs F)(hT:F[tk]?=aa Sd.Wi)(T:Top K mg fs zs gs f fd):∀d,All P w K mg base fs F tk sn f fd d
 |0=>λi r h=>yK
 |d+1=>λi r h=>by
  obtain⟨fn,a,b,c,e,q⟩:=O.get i r h;rw[Nat.zero_add]at q;have S:=ZbJ e;have hb:=λcdv A outer s H E hr=>(q P w K mg base f fd d T (vM O hT T d) S.nd cdv A outer s H E hr<|hu7 hr)
  by_cases ht:i=tk
  .subst ht
   rw[hT]at a;cases a;exact Sd.uV Sd.j4 b c (T.d i r h) S hb
  .exact Sd.uV (Sd.ZaT ht a) b c (T.d i r h) S hb
def UR(r:FR):Prop:=∀(kV doc pm:ap)(an:Option aL)(cdv ct:ap)(us:List ap),us.length=r.ps.length->om (dO r.x r.x (YK r.st) (Yh r.st) (Zz r.st) .none kV doc pm an cdv ct) #[us,[]]=c6 (r.ps.zip us)
section
variable{x:bB}{st:fK}
noncomputable abbrev bA(x:bB)(st:fK)(kV doc pm:ap)(an:Option aL)(cdv ct:ap)(us:List ap):=om (dO x x (YK st) (Yh st) (Zz st) .none kV doc pm an cdv ct) #[us,[]]
def bd1(h:∀kV doc pm an cdv ct a0,bA x st kV doc pm an cdv ct [a0]=c6 ((N.take n).zip [a0]))(hl:(N.take n).length=1:=by rfl):UR #[x,st,N,n]:=λkV doc pm an cdv ct us e=>match us,e.trans hl with|[a0],_=>h kV doc pm an cdv ct a0
def bd2(h:∀kV doc pm an cdv ct a0 a1,bA x st kV doc pm an cdv ct [a0,a1]=c6 ((N.take n).zip [a0,a1]))(hl:(N.take n).length=2:=by rfl):UR #[x,st,N,n]:=λkV doc pm an cdv ct us e=>match us,e.trans hl with|[a0,a1],_=>h kV doc pm an cdv ct a0 a1
def bd3(h:∀kV doc pm an cdv ct a0 a1 a2,bA x st kV doc pm an cdv ct [a0,a1,a2]=c6 ((N.take n).zip [a0,a1,a2]))(hl:(N.take n).length=3:=by rfl):UR #[x,st,N,n]:=λkV doc pm an cdv ct us e=>match us,e.trans hl with|[a0,a1,a2],_=>h kV doc pm an cdv ct a0 a1 a2
def bd4(h:∀kV doc pm an cdv ct a0 a1 a2 a3,bA x st kV doc pm an cdv ct [a0,a1,a2,a3]=c6 ((N.take n).zip [a0,a1,a2,a3]))(hl:(N.take n).length=4:=by rfl):UR #[x,st,N,n]:=λkV doc pm an cdv ct us e=>match us,e.trans hl with|[a0,a1,a2,a3],_=>h kV doc pm an cdv ct a0 a1 a2 a3
end
inductive FnsAt(K:ao):List FR->List aL->List cS->Prop
 |nil:FnsAt K [] [] []
 |cons {x:bB} {st:fK} {N:List bB} {n:Nat} {a:aL} {rs:List FR} {as:List aL} {fds:List cS} {oc kV dc pm cd ct:ap} {od an:Option aL} {sl:Array (Option ap)}
   (h1:gD K cG x=aa (aa<|.ref a)) (h2:K.lookup a=aa #[oc,od,.func<|dO x x (YK st) (Yh st) (Zz st) .none kV dc pm an cd ct,sl])
   (h3:iu K cd x=ai) (h4:fA K (.ref a)=ai) (h5:UR #[x,st,N,n]) (t:FnsAt K rs as fds) :
   FnsAt K (#[x,st,N,n]::rs) (a::as) (dO x x (YK st) (Yh st) (Zz st) .none kV dc pm an cd ct::fds)
inductive ZsAt(K:ao):List bB->Prop
 |nil:ZsAt K []
 |cons {x:bB} {zs:List bB} (h:gD K cG x=aa ag) (t:ZsAt K zs):ZsAt K (x::zs)
inductive GsAt(K:ao):List (bB×Gv)->Prop
 |nil:GsAt K []
 |cons {x:bB} {n:Int} {u:Tok} {gs:List (bB×Gv)} (h:gD K cG x=aa (aa<|.int n u)) (t:GsAt K gs):GsAt K ((x,.int n)::gs)
 |tab {x:bB} {a:aL} {es:Array fF} {n:Nat} {tb:List (Int×Int)} {gs:List (bB×Gv)} (h:gD K cG x=aa (aa<|.ref a)) (h2:K.lookup a=aa #[.type "dict",ag,.dict es n,#[]]) (h3:Sd.YT es.toList tb) (h4:(a == c7)=am) (t:GsAt K gs):GsAt K ((x,.tab tb)::gs)
theorem GsAt.get{K:ao}{h:ck}{mg:bB->Option ap}(X:K.In h)(G:h.Ns cG mg):∀{gs:List (bB×Gv)},GsAt K gs->∀y∈gs,ZdH K mg y.1 y.2
 |_,.nil,x,h=>by simp at h
 |_,.cons h t,x,m=>by
  rcases aB.mp m with rfl|m
  .exact#[_,l4 X G h]
  .exact t.get X G x m
 |_,.tab h h2 h3 h4 t,x,m=>by
  rcases aB.mp m with rfl|m
  .exact#[_,λP w=>Sd.Za3 h2 h3 h4,l4 X G h]
  .exact t.get X G x m
theorem FnsAt.get{K:ao}{fd0:cS}:∀{fs:List FR}{as:List aL}{fds:List cS},FnsAt K fs as fds->∀i r,fs[i]?=aa r->
  gD K cG r.x=aa (aa<|.ref<|as.getD i 0)/\Fun K r.x r.x r.st (as.getD i 0) (fds.getD i fd0)/\UR r
 |_,_,_,.nil,i,r,e=>by simp at e
 |_,_,_,.cons h1 h2 h3 h4 h5 t,0,r,e=>by
  simp at e;subst e;exact#[h1,ZbM h2 h3 h4,h5]
 |_,_,_,.cons h1 h2 h3 h4 h5 t,i+1,r,e=>by
  obtain⟨a,b,c⟩:=t.get i r (by simpa using e)
  exact#[by simpa using a,by simpa using b,c]
theorem ZsAt.get{K:ao}:∀{zs:List bB},ZsAt K zs->∀x∈zs,gD K cG x=aa ag
 |_,.nil,x,h=>by simp at h
 |_,.cons h t,x,m=>by
  rcases aB.mp m with rfl|m
  .exact h
  .exact t.get x m
def Zc7{l:kQ}{w:b0}{K:ao}{h:ck}{mg:bB->Option ap}{fa:aL}{fs:List FR}{zs:List bB}{gs:List (bB×Gv)}{F:List Fn}{tk L:Nat}{sn:List Nat}{st:fK}{N:List bB}{as:List aL}{fds:List cS}
  (X:K.In h)(G:h.Ns cG mg)(hfa:mg "law" = aa (.ref fa))(hL:fs[L]?=aa #["law",st,"_law_script" :: N,1])(O:OkL fs zs gs F tk sn 0 fs F)(hT:F[tk]?=aa Sd.Wi)(hLs:sn.contains L=am)(A:FnsAt K fs as fds)(Z:ZsAt K zs)(Y:GsAt K gs) :
  ∃fd:cS,(∀(s:ax)(v:ap),mz s fd #[[v],[]] [("_law_script",v)])/\∀base:ck,K.In base->base.Ns cG mg->FnOk l.prog w K mg base CX0 65 fa fd ["_law_script"] (spF K (Pv.Zk F tk 65) am L):=by
 cases fds with
 |nil=>cases A;simp at hL
 |cons fd0 fds'=>
 have T:Top K mg fs zs gs (λi=>as.getD i 0) (λi=>(fd0::fds').getD i fd0):=
  #[λi r e=>(A.get i r e).2.1,λi r e=>by
   obtain⟨_,F,B⟩:=A.get (fd0:=fd0) i r e;exact F.binds B,λi r e=>l4 X G (A.get (fd0:=fd0) i r e).1,λx hx=>PySem.W.mg_none_of X G<|Z.get x hx,λy hy=>Y.get X G y hy]
 have e:=hfa.symm.trans<|T.m L _ hL;obtain⟨_,Fu,B⟩:=A.get (fd0:=fd0) L _ hL;cases e;refine#[(fd0::fds').getD L fd0,λs v=>?_,λbase _ _=>?_]
 .obtain⟨oc,od,kV,doc,pm,an,cdv,ct,osl,e,lk,hcd⟩:=Fu.ex
  rw[e];exact .of_eq<|B kV doc pm an cdv ct [v] rfl
 .have:=vM (P:=l.prog) (w:=w) (base:=base) O hT T 65 L _ hL
  rw[hLs]at this;exact this
def walk{l:kQ}{q:bG}{loose:List bB}{XP:(bB->Option ap)->ck->Prop}{YP:b0->ck->Prop}{d:DefRec}{K:Params->ao}{F:List Fn}{tk L:Nat}(hok:∀(ns:List Int) s,∃S,Pv.Zk F tk 65 L [.scr ns] s=.ok (.bl ai) S)(hn:l.most=aa 63)(hdf:d.params.defaults=[])
  (hY:∀(w:b0)(h:ck),YP w h->(K w.params).In h)
  (hF:∀(w:b0)(mg:bB->Option ap)(fa:aL)(h:ck),(K w.params).In h->h.Ns cG mg->mg d.name=aa (.ref fa)->
   ∃fd:cS,(∀(s:ax)(u:ap),mz s fd #[[u],[]] [("_law_script",u)])/\∀base:ck,(K w.params).In base->base.Ns cG mg->FnOk l.prog w (K w.params) mg base CX0 65 fa fd ["_law_script"] (spF (K w.params) (Pv.Zk F tk 65) am L)) :
  oN q loose XP YP l.row.toRowW d [] (λf vs=>oo f vs):=
 L2.jq (n:=63) (k:=65) (x:="_law_script") (CX:=λ_=>CX0) (sp:=λw=>spF (K w.params) (Pv.Zk F tk 65) am L) hn (by decide) hdf #[rfl,by decide,by decide] hY hF (λw H a ns hl hO hS=>uf hO hS<|hok ns) λ_ _ _ _ _ z=>z
def Top.no{K:ao}{mg:bB->Option ap}{x:bB}(T:Top K mg fs zs gs f fd)(h:zs.contains x=ai):mg x=ag:=T.z x (by simpa using h)
def Zea{n:Nat}{x:bB}(T:Top X.K X.mg fs zs gs f fd)(h:All X.prog X.w X.K X.mg X.base fs F tk sn f fd d)(hr:Room d X.A)(ha:Sd.CA X (λ_ _=>False) (Pv.Zk F tk d) (e::es) is)(hx:(fs[n]?).map FR.x=aa x)(hg:Gl X x)(hdb:(x == ("__debug__" : bB))=am)
  (he:aH (e::es) X.env=(am,cD e X.env)::aH es X.env)(hpl:(dW pos<|aH es X.env).any (·.1)=am):Sd.CE X (λ_ _=>False) (Pv.Zk F tk d) (.Call (.Name x p) (e::es) [] pos) (.call n is):=by
 cases e0:fs[n]? with
 |none=>rw[e0]at hx;cases hx
 |some r=>
  rw[e0]at hx;obtain rfl:r.x=x:=ak hx;exact Sd.Zba (h n r e0) hr (T.m n r e0) (T.d n r e0).kp (T.b n r e0) ha hg hdb he hpl
def ZdN{n:Nat}{x:bB}(T:Top X.K X.mg fs zs gs f fd)(h:All X.prog X.w X.K X.mg X.base fs F tk sn f fd d)(hr:Room d X.A)(ha:Sd.CA X (λ_ _=>False) (Pv.Zk F tk d) (e::es) is)(hx:(fs[n]?).map FR.x=aa x)(hk:sn.contains n=ai)(hg:Gl X x)(hdb:(x == ("__debug__" : bB))=am)
  (he:aH (e::es) X.env=(am,cD e X.env)::aH es X.env)(hpl:(dW pos<|aH es X.env).any (·.1)=am):Sd.CF X (λ_ _=>False) (Pv.Zk F tk d) (.Call (.Name x p) (e::es) [] pos) (.callF n is):=by
 cases e0:fs[n]? with
 |none=>rw[e0]at hx;cases hx
 |some r=>
  rw[e0]at hx;obtain rfl:r.x=x:=ak hx;have q:=h n r e0;rw[hk]at q;exact Sd.Za5 q hr (T.m n r e0) (T.d n r e0).kp (T.b n r e0) ha hg hdb he hpl
def Zee{x y:bB}{n k:Nat}{px p':gW}{ss:List fK}{B:List Sm}{fr:Bool}{ns:List Nat}(T:Top X.K X.mg fs zs gs f fd)(h:All X.prog X.w X.K X.mg X.base fs F tk sn f fd d)(hr:Room d X.A)(ha:Sd.CA X (λ_ _=>False) (Pv.Zk F tk d) (e::es) is)(hB:Sd.CSs X (λ_ _=>False) fr (Pv.Zk F tk d) ns ss B)(hN:X.N.Nodup)(hx:(fs[k]?).map FR.x=aa y)(hk:sn.contains k=ai)
  (hg:Gl X y)(hdb:(y == ("__debug__" : bB))=am)(he:aH (e::es) X.env=(am,cD e X.env)::aH es X.env)(hpl:(dW p<|aH es X.env).any (·.1)=am)(hi:X.N[n]?=aa x)(hl:L2.Loc X.env.scope x)(hf:X.fn x=ai\/X.env.scope.names.lookup x=aa .local)
  (hs:dQ [.Name x px] (.Call (.Name y p') (e::es) [] p) pos.line X.env=c6 am)(hw:dR [.Name x px] (.Call (.Name y p') (e::es) [] p) X.env=c6 ag)(h1:(b7 [.Name x px] X.env).map (·.2)=[dF (.Name x px) X.env]) :
  Sd.CSs X (λ_ _=>False) fr (Pv.Zk F tk d) ns (.Assign [.Name x px] (.Call (.Name y p') (e::es) [] p) pos::ss) [.cel n k is B]:=by
 cases e0:fs[k]? with
 |none=>rw[e0]at hx;cases hx
 |some r=>
  rw[e0]at hx;obtain rfl:r.x=y:=ak hx;have q:=h k r e0;rw[hk]at q;refine Sd.ZcF (Sd.PE.imp (Jv q hr hg (T.m k r e0) (T.d k r e0).kp (T.b k r e0) .nil uw ha.h hdb he hpl) λZ H Q z=>?_) hB hN hi hl hf hs hw h1
  unfold Zby;simp only[bY];exact z
noncomputable def csB(sc:eL)(N0:List bB)(scope:eL)(N:List bB)(cap:List Nat)(nl:Nat):Bool:=
 ((N.take nl).all (λx=>af (scope.names.lookup x=aa .local)||decide (scope.names.lookup x=aa .cell))&&(af (N.length=nl+cap.length)&&(cap.zipIdx.all (λp=>af (N[nl+p.2]?=N0[p.1]?)&&af ((N0[p.1]?).map (λx=>af<|(x,bE)∈scope.names)=aa ai)) &&
  ((match scope.kind with|.function=>ai|_=>am)&&scope.names.all λy=>(!decide (y.2=.cell) || !decide ((y.1,bE)∈scope.names))&&((!decide (y.2=.local)||decide (scope.names.lookup y.1=aa .local))&&(!decide (y.2=.free)||((af (sc.names.lookup y.1=aa .cell)||decide (sc.names.lookup y.1=aa .free))&&af (scope.names.lookup y.1≠aa .local))))))))
def QM{sc:eL}{N0:List bB}{scope:eL}{N:List bB}{cap:List Nat}{nl:Nat}(h:csB sc N0 scope N cap nl=ai):CompScope sc N0 scope N cap nl:=by
 unfold csB at h;simp only[aA,ee,mX,T0,decide_eq_false_iff_not,aT]at h;obtain⟨_,h1,h2,h3,h4⟩:=h;refine#[?_,λy hy z=>(h4 y hy).1.resolve_left λq=>q z,λy hy z=>?_,λy hy z=>?_,λy hy z=>?_,h1,h2]
 .cases e:scope.kind<;>rw[e]at h3<;>first|rfl|cases h3
 .rcases(h4 y hy).2.1 with q|q
  .exact T7 z q
  .exact q
 .rcases(h4 y hy).2.2 with q|q
  .exact T7 z q
  .exact q.1
 .rcases(h4 y hy).2.2 with q|q
  .exact T7 z q
  .exact q.2
noncomputable def cN(scope:eL)(nl:Nat)(cap:List Nat)(N0:List bB):List bB:=((scope.names.drop 1).take nl).map (·.1)++cap.map λi=>N0.getD i ""
def zk{sc:eL}{N0:List bB}{scope:eL}{cap:List Nat}{nl:Nat}(h:csB sc N0 scope (cN scope nl cap N0) cap nl=ai):CompScope sc N0 scope (cN scope nl cap N0) cap nl:=QM h
end Gn
namespace K33
open Ev
noncomputable def Uj:Fn:=#[2,2,
 [.ite (.cmp .lt (.v 1)<|.blt .len [(.v 0)]) [.ret<|.ix (.v 0)<|.v 1] [],
  .ret (.c<|.int 0)]]
noncomputable def Jy:Fn:=#[2,3,
 [.asg [2]<|.call 0 [(.v 0),(.v 1)],
  .ite (.cmp .ge (.v 2)<|.bin .pow (.c<|.int 10)<|.c<|.int 18) [.ret<|.lst [(.bin .sub (.v 2)<|.bin .pow (.c<|.int 10)<|.c<|.int 18),(.c<|.bl ai)]] [],
  .ret (.lst [(.bin .mod (.v 2)<|.c<|.int 2147483647),(.c<|.bl am)])]]
noncomputable def JS:Fn:=#[2,4,
 [.ite (.dix (.v 0) ai) [.asg [2]<|.bin .mod (.dix (.v 0) am)<|.v 1,
  .dset 0 (.bin .fdiv (.dix (.v 0) am)<|.v 1),
  .ret (.v 2)] [],
  .dset 0 (.bin .mod (.bin .add (.bin .mul (.dix (.v 0) am)<|.c<|.int 48271)<|.c<|.int 29)<|.c<|.int 2147483647),
  .asg [3] (.bin .mod (.bin .add (.bin .add (.bin .mul (.dix (.v 0) am)<|.dix (.v 0) am)<|.bin .mul (.c<|.int 39373)<|.dix (.v 0) am)<|.c<|.int 7)<|.c<|.int 2147483629),
  .asg [3] (.bin .mod (.bin .add (.bin .mul (.v 3)<|.v 3)<|.bin .mul (.c<|.int 16807)<|.v 3)<|.c<|.int 2147483587),
  .ret (.bin .mod (.bin .fdiv (.v 3)<|.c<|.int 8)<|.v 1)]]
noncomputable def Xm:Fn:=#[2,3,
 [.asg [2]<|.lst [(.tup [(.c<|.int 2),(.c<|.int 1)]),(.tup [(.c<|.int 2),(.c<|.int 2)]),(.tup [(.c<|.int 2),(.c<|.int 3)]),(.tup [(.c<|.int 2),(.c<|.int 4)]),(.tup [(.c<|.int 3),(.c<|.int 1)]),(.tup [(.c<|.int 3),(.c<|.int 2)]),(.tup [(.c<|.int 3),(.c<|.int 3)]),(.tup [(.c<|.int 5),(.c<|.int 1)]),(.tup [(.c<|.int 5),(.c<|.int 2)]),(.tup [(.c<|.int 2),(.c<|.int 3)]),(.tup [(.c<|.int 2),(.c<|.int 4)]),(.tup [(.c<|.int 3),(.c<|.int 3)])],
  .ite (.cmp .gt (.v 1)<|.c<|.int 27) [.asg [2]<|.bin .add (.v 2)<|.lst [(.tup [(.c<|.int 2),(.c<|.int 5)]),(.tup [(.c<|.int 2),(.c<|.int 6)]),(.tup [(.c<|.int 3),(.c<|.int 4)]),(.tup [(.c<|.int 5),(.c<|.int 3)])]] [],
  .ret (.ix (.v 2)<|.call 2 [(.v 0),(.blt .len [(.v 2)])])]]
noncomputable def XN:Fn:=#[1,1,
 [.ret<|.ix (.bin .add (.comp1 [0] 1 [0] (.rng1<|.blt .len [(.v 0)]) [(.cmp .ne (.ix (.v 1)<|.v 0)<|.c<|.int 0)]<|.v 0)<|.lst [(.blt .len [(.v 0)])])<|.c<|.int 0]]
noncomputable def Xx:Fn:=#[2,6,
 [.asg [2]<|.blt .sortedS [(.comp1 [] 1 [0] (.of<|.v 1) [(.blt .any [(.v 0)])]<|.call 4 [(.v 0)])],
  .asg [3] (.lst []),
  .forr [4] (.of<|.v 2) [.forr [5] (.of<|.v 1) [.ite (.and (.cmp .eq (.ix (.v 5)<|.v 4)<|.c<|.int 1)<|.cmp .eq (.call 4 [(.v 5)])<|.v 4) [.ite (.cmp .eq (.comp1 [4,5] 1 [0] (.of<|.v 2) [(.and (.cmp .ne (.v 0)<|.v 1)<|.cmp .ne (.ix (.v 2)<|.v 0)<|.c<|.int 0)]<|.v 0)<|.lst []) [.ex<|.mt .append (.v 3) [(.v 5)]] []] []]],
  .ret (.blt .tuple [(.v 3)])]]
noncomputable def X8:Fn:=#[2,3,
 [.asg [2]<|.bin .mul (.call 2 [(.v 0),(.bin .add (.ix (.v 1)<|.c<|.int 1)<|.c<|.int 1)])<|.blt .toInt [(.cmp .eq (.call 2 [(.v 0),(.c<|.int 3)])<|.c<|.int 0)],
  .ret (.bin .add (.bin .mul (.tup [(.c<|.int 0)])<|.v 2)<|.blt .tuple [(.comp1 [0,1] 1 [0] (.rng1<|.bin .sub (.ix (.v 1)<|.c<|.int 1)<|.v 2) []<|.call 2 [(.v 1),(.ix (.v 2)<|.c<|.int 0)])])]]
noncomputable def JE:Fn:=#[4,4,
 [.ret<|.blt .tuple [(.comp1 [1,2,3,0] 1 [0] (.rng1<|.ix (.v 0)<|.c<|.int 1) []<|.bin .mod (.bin .add (.ix (.v 1)<|.v 0)<|.bin .mul (.v 2)<|.ix (.v 3)<|.v 0)<|.ix (.v 4)<|.c<|.int 0)]]]
noncomputable def Gj:Fn:=#[2,6,
 [.dnw 2<|.bin .mul (.tup [(.c<|.int 0)])<|.ix (.v 0)<|.c<|.int 1,
  .forr [3] (.of<|.v 1) [.ite (.cmp .nin (.v 3)<|.v 2) [.forF [4] (.blt .listD [(.v 2)]) [.forr [5] (.rng2 (.c<|.int 1)<|.ix (.v 0)<|.c<|.int 0) [.dput (.v 2) (.call 7 [(.v 0),(.v 4),(.v 5),(.v 3)])<|.c<|.bl ai]]] []],
  .ret (.blt .sortedD [(.v 2)])]]
noncomputable def XM:Fn:=#[2,3,
 [.asg [2]<|.comp1 [0,1] 1 [0] (.rng1<|.call 2 [(.v 0),(.bin .add (.ix (.v 1)<|.c<|.int 1)<|.c<|.int 1)]) []<|.call 6 [(.v 1),(.v 2)],
  .ret (.call 5 [(.v 1),(.call 8 [(.v 1),(.v 2)])])]]
noncomputable def X9:Fn:=#[2,6,
 [.asg [2]<|.lst [(.tup [])],
  .forr [3] (.of<|.v 1) [.asg [4]<|.lst [],
  .forr [5] (.of<|.call 8 [(.v 0),(.comp1 [0] 1 [0] (.rng1<|.ix (.v 0)<|.c<|.int 1) []<|.blt .tuple [(.comp1 [0] 1 [0] (.rng1<|.ix (.v 1)<|.c<|.int 1) []<|.blt .toInt [(.cmp .eq (.v 0)<|.v 1)])])]) [.ite (.and (.cmp .eq (.call 4 [(.v 5)])<|.v 3)<|.cmp .eq (.ix (.v 5)<|.v 3)<|.c<|.int 1) [.ite (.cmp .eq (.comp1 [3,5] 1 [0] (.of<|.v 1) [(.and (.cmp .ne (.v 0)<|.v 1)<|.cmp .ne (.ix (.v 2)<|.v 0)<|.c<|.int 0)]<|.v 0)<|.lst []) [.ex<|.mt .extend (.v 4) [(.comp1 [5] 1 [0] (.of<|.v 2) []<|.bin .add (.v 0)<|.tup [(.v 1)])]] []] []],
  .mov 2 4],
  .ret (.blt .sorted [(.v 2)])]]
noncomputable def YI:Fn:=#[2,2,
 [.ite (.isi (.v 1) [.list,.tuple]) [.ite (.or (.cmp .ne (.isi (.v 0) [.list])<|.isi (.v 1) [.list])<|.cmp .ne (.isi (.v 0) [.tuple])<|.isi (.v 1) [.tuple]) [.ret<|.c<|.bl am] [],
  .ret (.and (.cmp .eq (.blt .len [(.v 0)])<|.blt .len [(.v 1)])<|.blt .all [(.comp1 [] 2 [0,1] (.zip (.v 0)<|.v 1) []<|.call 11 [(.v 0),(.v 1)])])] [],
  .ret (.and (.cmp .eq (.isi (.v 0) [.bool])<|.isi (.v 1) [.bool])<|.cmp .eq (.v 0)<|.v 1)]]
noncomputable def XG:Fn:=#[1,1,
 [.ret<|.blt .all [(.comp1 [] 2 [0,1] (.zip (.v 0)<|.sl (.v 0) (aa<|.c<|.int 1) ag) []<|.cmp .lt (.v 0)<|.v 1)]]]
noncomputable def YD:Fn:=#[3,3,
 [.ret<|.and (.isi (.v 0) [.int])<|.and (.not<|.isi (.v 0) [.bool])<|.chain .le .le (.v 1) (.v 0)<|.v 2]]
noncomputable def Yj:Fn:=#[2,2,
 [.ite (.not<|.isi (.v 0) [.tuple]) [.ret<|.c<|.bl am] [],
  .ret (.and (.blt .all [(.comp1 [1] 1 [0] (.of<|.v 0) []<|.call 13 [(.v 0),(.c<|.int 0),(.v 1)])])<|.call 12 [(.v 0)])]]
noncomputable def UH:Fn:=#[2,6,
 [.asg [2,3]<|.v 0,
  .asg [4] (.lst [(.bin .add (.bin .mul (.tup [(.c<|.int 0)])<|.v 1)<|.tup [(.c<|.int 1)])]),
  .forr [5] (.rng2 (.bin .add (.v 1)<|.c<|.int 1)<|.v 3) [.asg [4]<|.comp2 [2] 2 [0] (.of<|.v 4) [] [1] (.rng1<|.v 2) []<|.bin .add (.v 0)<|.tup [(.v 1)]],
  .ret (.v 4)]]
noncomputable def Y7:Fn:=#[2,2,
 [.ret<|.blt .all [(.comp1 [1] 1 [0] (.of<|.v 0) []<|.cmp .eq (.ix (.v 0)<|.v 1)<|.c<|.int 0)]]]
noncomputable def Xo:Fn:=#[2,7,
 [.asg [2,3]<|.v 0,
  .ite (.not<|.call 14 [(.v 1),(.bin .sub (.v 3)<|.c<|.int 1)]) [.raise 2 []] [],
  .asg [4] (.lst [(.tup [])]),
  .forr [5] (.of<|.v 1) [.asg [6]<|.call 15 [(.v 0),(.v 5)],
  .asg [4] (.comp2 [5,6] 2 [0] (.of<|.v 4) [(.call 16 [(.v 0),(.v 2)])] [1] (.of<|.v 3) []<|.bin .add (.v 0)<|.tup [(.v 1)])],
  .retO 4]]
noncomputable def wJ:Fn:=#[1,3,
 [.forr [1,2] (.enum<|.v 0) [.ite (.cmp .ne (.v 2)<|.c<|.int 0) [.ret<|.v 1] []],
  .ret (.c .non)]]
noncomputable def Xv:Fn:=#[3,3,
 [.ret<|.and (.cmp .eq (.ix (.ix (.v 0)<|.v 1)<|.v 2)<|.c<|.int 1)<|.call 16 [(.bin .add (.sl (.v 0) ag<|aa<|.v 1)<|.sl (.v 0) (aa<|.bin .add (.v 1)<|.c<|.int 1) ag),(.v 2)]]]
noncomputable def J0:Fn:=#[2,4,
 [.asg [2,3]<|.v 0,
  .ite (.or (.not<|.isi (.v 1) [.tuple])<|.cmp .ne (.blt .len [(.v 1)])<|.v 3) [.ret<|.c<|.bl am] [],
  .ret (.blt .all [(.comp1 [2] 1 [0] (.of<|.v 1) []<|.call 13 [(.v 0),(.c<|.int 0),(.bin .sub (.v 1)<|.c<|.int 1)])])]]
noncomputable def W6:Fn:=#[2,3,
 [.ite (.or (.not<|.isi (.v 1) [.tuple])<|.not<|.blt .all [(.comp1 [0] 1 [0] (.of<|.v 1) []<|.call 20 [(.v 1),(.v 0)])]) [.ret<|.c<|.bl am] [],
  .asg [2] (.comp1 [] 1 [0] (.of<|.v 1) []<|.call 18 [(.v 0)]),
  .ite (.or (.cmp .inn (.c .non)<|.v 2)<|.not<|.call 12 [(.v 2)]) [.ret<|.c<|.bl am] [],
  .ret (.blt .all [(.comp1 [1] 2 [0,1] (.enum<|.v 2) []<|.call 19 [(.v 2),(.v 0),(.v 1)])])]]
noncomputable def VD:Fn:=#[2,2,
 [.ite (.not<|.call 21 [(.v 0),(.v 1)]) [.raise 1 []] []]]
noncomputable def Q8:Fn:=#[2,2,
 [.ex<|.call 22 [(.v 0),(.v 1)],
  .ret (.blt .tuple [(.comp1 [] 1 [0] (.of<|.v 1) []<|.call 18 [(.v 0)])])]]
noncomputable def Zdt:Fn:=#[1,9,
 [.forr [1] (.rng1<|.blt .max2 [(.c<|.int 1),(.blt .min2 [(.blt .len [(.v 0)]),(.c<|.int 6)])]) [.cel 2 1 [(.v 0),(.v 1)]
  [.asg [3]<|.call 3 [(.v 2),(.ix (.lst [(.c<|.int 27),(.c<|.int 125)])<|.blt .toInt [(.cmp .eq (.v 1)<|.c<|.int 0)])],
  .asg [4] (.call 9 [(.v 2),(.v 3)]),
  .ite (.not<|.call 11 [(.call 23 [(.v 3),(.v 4)]),(.blt .tuple [(.comp1 [] 1 [0] (.of<|.v 4) []<|.call 4 [(.v 0)])])]) [.ret<|.c<|.bl am] [],
  .asg [5] (.blt .tuple [(.comp1 [2] 1 [0] (.rng1<|.ix (.v 3)<|.c<|.int 1) [(.cmp .eq (.call 2 [(.v 1),(.c<|.int 2)])<|.c<|.int 0)]<|.v 0)]),
  .asg [6] (.call 10 [(.v 3),(.v 5)]),
  .forr [7] (.rng1<|.c<|.int 2) [.asg [8]<|.callF 17 [(.v 3),(.v 5)],
  .ite (.not<|.call 11 [(.v 8),(.v 6)]) [.ret<|.c<|.bl am] [],
  .ex (.mt .append (.v 8) [(.tup [])])]]],
  .ret (.and (.cmp .eq (.call 23 [(.tup [(.c<|.int 2),(.c<|.int 3)]),(.tup [])])<|.tup [])<|.cmp .eq (.call 17 [(.tup [(.c<|.int 5),(.c<|.int 3)]),(.tup [])])<|.lst [(.tup [])])]]
noncomputable def fns:List Fn:=[Uj,Jy,JS,Xm,XN,Xx,X8,JE,Gj,XM,X9,YI,XG,YD,Yj,UH,Y7,Xo,wJ,Xv,J0,W6,VD,Q8,Zdt]
noncomputable abbrev tk:Nat:=2
noncomputable abbrev sn:List Nat:=[1,17]
end K33
namespace La
variable{F:Type}[lO F]
noncomputable abbrev Vec(F:Type):=Nat->F
noncomputable abbrev Pt(F:Type):=List<|Nat×Vec F
noncomputable def pr:Pt F->Vec F->Vec F
 |[],_,_=>0
 |a::P,v,j=>v a.1*a.2 j+pr P v j
structure Rf(P:Pt F):Prop where
 inc:P.Pairwise λa b=>a.1<b.1
 low:∀a∈P,∀j,j<a.1->a.2 j=0
 one:∀a∈P,a.2 a.1=1
 zer:∀a∈P,∀b∈P,a.1≠b.1->b.2 a.1=0
def Mem(P:Pt F)(v:Vec F):Prop:=∀j,v j=pr P v j
theorem Zcd(P:Pt F)(u v:Vec F)(c:F)(j:Nat):pr P (λj=>u j+c*v j) j=pr P u j+c*pr P v j:=by
 induction P with|nil=>show(0:F)=0+c*0;grind|cons a P ih=>show(u a.1+c*v a.1)*a.2 j+pr P _ j=(u a.1*a.2 j+pr P u j)+c*(v a.1*a.2 j+pr P v j);grind
theorem QI(P:Pt F)(u v:Vec F)(c:F)(j:Nat):pr P (λj=>u j-c*v j) j=pr P u j-c*pr P v j:=by
 induction P with|nil=>show(0:F)=0-c*0;grind|cons a P ih=>show(u a.1-c*v a.1)*a.2 j+pr P _ j=(u a.1*a.2 j+pr P u j)-c*(v a.1*a.2 j+pr P v j);grind
def JQ{P:Pt F}{u v:Vec F}(h:∀b∈P,u b.1=v b.1)(j:Nat):pr P u j=pr P v j:=by
 induction P with
 |nil=>rfl
 |cons a P ih=>
  show u a.1*a.2 j+pr P u j=v a.1*a.2 j+pr P v j;rw[h a<|al ..,ih λb hb=>h b<|aj _ hb]
theorem Y9{P:Pt F}{v:Vec F}{j:Nat}(h:∀b∈P,v b.1*b.2 j=0):pr P v j=0:=by
 induction P with
 |nil=>rfl
 |cons a P ih=>
  show v a.1*a.2 j+pr P v j=0;rw[h a<|al ..,ih λb hb=>h b<|aj _ hb];grind
theorem xb{P:Pt F}{v:Vec F}{j:Nat}{a:Nat×Vec F}(inc:P.Pairwise λa b=>a.1<b.1)(ha:a∈P)(h:∀b∈P,b.1≠a.1->v b.1*b.2 j=0):pr P v j=v a.1*a.2 j:=by
 induction P with
 |nil=>cases ha
 |cons b P ih=>
  rw[aV]at inc;show v b.1*b.2 j+pr P v j=_;rcases aB.mp ha with e|hm
  .subst e
   rw[Y9 λc hc=>h c (aj _ hc) (by have:=inc.1 c hc;lia)];grind
  .rw[ih inc.2 hm λc hc=>h c<|aj _ hc,h b (al ..) (by have:=inc.1 a hm;lia)];grind
def Rf.tail{a:Nat×Vec F}{P:Pt F}(h:Rf (a::P)):Rf P:=
 #[(aV.mp h.inc).2,λb hb=>h.low b<|aj _ hb,λb hb=>h.one b<|aj _ hb,λb hb c hc=>h.zer b (aj _ hb) c<|aj _ hc]
def Rf.nil:Rf ([]:Pt F):=#[gq,λ_ h=>(by cases h),λ_ h=>(by cases h),λ_ h=>(by cases h)]
theorem xx{P:Pt F}(h:Rf P){a:Nat×Vec F}(ha:a∈P)(v:Vec F):pr P v a.1=v a.1:=by
 rw[xb h.inc ha λb hb ne=>by rw[h.zer a ha b hb<|Ne.symm ne];grind,h.one a ha];grind
theorem XR{P:Pt F}(h:Rf P){a:Nat×Vec F}(ha:a∈P):Mem P a.2:=λj=>by
 rw[xb h.inc ha λb hb ne=>by rw[h.zer b hb a ha ne];grind,h.one a ha];grind
def WR(c:F)(hu:Mem P u)(hv:Mem P v):Mem P λj=>u j+c*v j:=λj=>by
 rw[Zcd,<-hu j,<-hv j]
def QK(c:F)(hu:Mem P u)(hv:Mem P v):Mem P λj=>u j-c*v j:=λj=>by
 rw[QI,<-hu j,<-hv j]
theorem WK{P:Pt F}:Mem P λ_=>0:=λj=>(Y9 λb _=>by grind).symm
def ua{P:Pt F}(h:Rf P)(v:Vec F):Mem P (pr P v):=λj=>JQ (λb hb=>(xx h hb v).symm) j
theorem qc{P:Pt F}{v:Vec F}(h:Mem P v)(z:∀b∈P,v b.1=0)(j:Nat):v j=0:=by
 rw[h j];exact Y9 λb hb=>by rw[z b hb];grind
theorem GK{P:Pt F}(h:Rf P){v:Vec F}(hv:Mem P v){k:Nat}(hk:v k≠0)(hl:∀j,j<k->v j=0):∃a∈P,a.1=k:=by
 have inc:=h.inc;have low:=h.low;have gen:∀Q:Pt F,Q.Pairwise (λa b=>a.1<b.1)->(∀a∈Q,∀j,j<a.1->a.2 j=0)->(∀j,v j=pr Q v j)->∃a∈Q,v a.1≠0/\∀j,j<a.1->v j=0:=by
  intro Q
  induction Q with
  |nil=>intro _ _ e;exact T7 (e k) hk
  |cons a Q ih=>
   intro inc low e;rw[aV]at inc;by_cases c:v a.1=0
   .obtain⟨b,hb,r⟩:=ih inc.2 (λb hb=>low b<|aj _ hb) λj=>by
     have:v j=v a.1*a.2 j+pr Q v j:=e j;rw[c]at this;grind
    exact#[b,aj _ hb,r]
   .refine#[a,al ..,c,λj hj=>?_]
    have e1:v j=v a.1*a.2 j+pr Q v j:=e j;have e2:pr Q v j=0:=Y9 λb hb=>by rw[low b (aj _ hb) j (by have:=inc.1 b hb;lia)];grind
    rw[e1,e2,low a (al ..) j hj];grind
 obtain⟨a,ha,h1,h2⟩:=gen P inc low hv;refine#[a,ha,?_];by_cases c:a.1<k
 .exact T7 (hl _ c) h1
 .by_cases c2:k<a.1
  .exact T7 (h2 _ c2) hk
  .lia
def U8{P Q:Pt F}(one0:(1:F)≠0)(hP:Rf P)(hQ:Rf Q)(h:∀v,Mem P v->Mem Q v):∀a∈P,∃b∈Q,b.1=a.1:=λa ha=>
 GK hQ (h _<|XR hP ha) (by rw[hP.one a ha];exact one0) (hP.low a ha)
theorem Q9:∀{a b:List Nat},a.Pairwise (· < ·)->b.Pairwise (· < ·)->(∀x,x∈a↔x∈b)->a=b
 |[],[],_,_,_=>rfl
 |[],y::b,_,_,h=>by have:=(h y).mpr<|al ..;cases this
 |x::a,[],_,_,h=>by have:=(h x).mp<|al ..;cases this
 |x::a,y::b,ha,hb,h=>by
  rw[aV]at ha hb;have e:x=y:=by
   rcases aB.mp ((h x).mp<|al ..)with e|e
   .exact e
   .rcases aB.mp ((h y).mpr<|al ..)with e'|e'
    .exact e'.symm
    .have:=hb.1 x e;have:=ha.1 y e';lia
  subst e;rw[Q9 ha.2 hb.2 λz=>?_]
  constructor
  .intro hz
   rcases aB.mp ((h z).mp<|aj _ hz)with e|e
   .have:=ha.1 z hz;lia
   .exact e
  .intro hz
   rcases aB.mp ((h z).mpr<|aj _ hz)with e|e
   .have:=hb.1 z hz;lia
   .exact e
def Rf.heads{P:Pt F}(h:Rf P):(P.map (·.1)).Pairwise (· < ·):=cA.mpr h.inc
theorem uniq{P Q:Pt F}(one0:(1:F)≠0)(hP:Rf P)(hQ:Rf Q)(h:∀v,Mem P v↔Mem Q v):P=Q:=by
 have eh:=Q9 hP.heads hQ.heads λx=>by
  constructor
  .intro hx
   obtain⟨a,ha,rfl⟩:=aO.mp hx;obtain⟨b,hb,e⟩:=U8 one0 hP hQ (λv=>(h v).mp) a ha
   exact aO.mpr #[b,hb,e]
  .intro hx
   obtain⟨a,ha,rfl⟩:=aO.mp hx;obtain⟨b,hb,e⟩:=U8 one0 hQ hP (λv=>(h v).mpr) a ha
   exact aO.mpr #[b,hb,e]
 have ev:∀a∈P,∀b∈Q,a.1=b.1->a.2=b.2:=by
  intro a ha b hb e;have hd:=QK 1 (XR hP ha)<|(h _).mpr<|XR hQ hb
  funext j
  have:=qc hd (λc hc=>by
   have:c.1∈Q.map (·.1):=by rw[<-eh];exact aO.mpr #[c,hc,rfl]
   obtain⟨c',hc',ec⟩:=aO.mp this;by_cases z:c.1=a.1
   .rw[z,hP.one a ha,e,hQ.one b hb];grind
   .rw[hP.zer c hc a ha z,<-ec,hQ.zer c' hc' b hb (by lia)];grind) j
  grind
 clear h hP hQ
 induction P generalizing Q with
 |nil=>cases Q with|nil=>rfl|cons b Q=>cases eh
 |cons a P ih=>cases Q with
  |nil=>cases eh
  |cons b Q=>
   rw[a9,a9]at eh;injection eh with e1 e2
   have e3:=ev a (al ..) b (al ..) e1;rw[ih e2 λx hx y hy=>ev x (aj _ hx) y<|aj _ hy]
   rw[Prod.ext e1 e3]
noncomputable def ins(x:Nat×Vec F):Pt F->Pt F
 |[]=>[x]
 |y::P=>if x.1<y.1 then x::y::P else y::ins x P
theorem Yo(x:Nat×Vec F):∀P:Pt F,(ins x P).Perm (x::P)
 |[]=>bz _
 |y::P=>by
  unfold ins;split
  .exact bz _
  .exact((Yo x P).cons y).trans<|gA x y P
theorem yr(x:Nat×Vec F):∀{P:Pt F},P.Pairwise (λa b=>a.1<b.1)->(∀a∈P,a.1≠x.1)->(ins x P).Pairwise λa b=>a.1<b.1
 |[],_,_=>by exact eR ..
 |y::P,h,hn=>by
  have h':=aV.mp h;unfold ins;split
  .rename_i c
   refine aV.mpr #[λz hz=>?_,h]
   rcases aB.mp hz with rfl|hz
   .exact c
   .have:=h'.1 z hz;lia
  .rename_i c
   refine aV.mpr #[λz hz=>?_,yr x h'.2 λa ha=>hn a<|aj _ ha]
   rcases aB.mp ((Yo x P).mem_iff.mp hz)with rfl|hz
   .have:=hn y<|al ..;lia
   .exact h'.1 z hz
theorem qh(x:Nat×Vec F)(v:Vec F)(j:Nat):∀P:Pt F,pr (ins x P) v j=v x.1*x.2 j+pr P v j
 |[]=>rfl
 |y::P=>by
  unfold ins;split
  .rfl
  .show v y.1*y.2 j+pr (ins x P) v j=v x.1*x.2 j+(v y.1*y.2 j+pr P v j)
   rw[qh x v j P];grind
noncomputable def off(h:Nat)(l:Vec F)(a:Nat×Vec F):Nat×Vec F:=(a.1,λj=>a.2 j-a.2 h*l j)
noncomputable def wid(P:Pt F)(h:Nat)(l:Vec F):Pt F:=ins (h,l)<|P.map<|off h l
theorem qr(h:Nat)(l v:Vec F)(j:Nat):∀P:Pt F,pr (P.map<|off h l) v j=pr P v j-pr P v h*l j
 |[]=>by show(0:F)=0-0*l j;grind
 |a::P=>by
  show v a.1*(a.2 j-a.2 h*l j)+pr (P.map<|off h l) v j=(v a.1*a.2 j+pr P v j)-(v a.1*a.2 h+pr P v h)*l j;rw[qr h l v j P];grind
structure Lead(P:Pt F)(h:Nat)(l:Vec F):Prop where
 one:l h=1
 low:∀j,j<h->l j=0
 zer:∀a∈P,l a.1=0
def Lead.ne{P:Pt F}{h:Nat}{l:Vec F}(one0:(1:F)≠0)(L:Lead P h l){a:Nat×Vec F}(ha:a∈P):a.1≠h:=λe=>by
 have:=L.zer a ha;rw[e,L.one]at this;exact one0 this
theorem Zc4{P:Pt F}{h:Nat}{l:Vec F}(one0:(1:F)≠0)(hP:Rf P)(L:Lead P h l):Rf (wid P h l):=by
 have mem:∀{x},x∈wid P h l->x=(h,l)\/∃a∈P,x=off h l a:=λ{x} hx=>by
  rcases aB.mp ((Yo _ _).mem_iff.mp hx)with e|e
  .exact .inl e
  .obtain⟨a,ha,e⟩:=aO.mp e
   exact .inr #[a,ha,e.symm]
 refine#[yr _ ?_ ?_,λx hx j hj=>?_,λx hx=>?_,λx hx y hy ne=>?_]
 .exact cA.mpr hP.inc
 .intro a ha
  obtain⟨b,hb,rfl⟩:=aO.mp ha;exact L.ne (a:=b) one0 hb
 .rcases mem hx with rfl|⟨a,ha,rfl⟩
  .exact L.low j hj
  .show a.2 j-a.2 h*l j=0
   rw[hP.low a ha j hj];by_cases c:h<a.1
   .rw[hP.low a ha h c];grind
   .have:j<a.1:=hj
    rw[L.low j (by have:=L.ne one0 ha;lia)];grind
 .rcases mem hx with rfl|⟨a,ha,rfl⟩
  .exact L.one
  .show a.2 a.1-a.2 h*l a.1=1
   rw[hP.one a ha,L.zer a ha];grind
 .rcases mem hx with rfl|⟨a,ha,rfl⟩
  .rcases mem hy with rfl|⟨b,hb,rfl⟩
   .exact T7 rfl ne
   .show b.2 h-b.2 h*l h=0
    rw[L.one];grind
  .rcases mem hy with rfl|⟨b,hb,rfl⟩
   .exact L.zer a ha
   .show b.2 a.1-b.2 h*l a.1=0
    rw[hP.zer a ha b hb ne,L.zer a ha];grind
def ZaY(P:Pt F)(h:Nat)(l:Vec F):(wid P h l).length=P.length+1:=by
 have:=(Yo (h,l)<|P.map<|off h l).length_eq;rw[aK,aw]at this;exact this
theorem Zaq{P:Pt F}{h:Nat}{l:Vec F}(hP:Rf P)(L:Lead P h l)(u:Vec F):Mem (wid P h l) u↔∃c,Mem P λj=>u j-c*l j:=by
 have e:∀j,pr (wid P h l) u j=u h*l j+(pr P u j-pr P u h*l j):=λj=>by
  unfold wid;rw[qh,qr]
 have pl:∀j,pr P l j=0:=λj=>Y9 λb hb=>by rw[L.zer b hb];grind
 constructor
 .intro hu
  refine#[u h-pr P u h,λj=>?_]
  rw[QI,pl];have:=hu j;rw[e j]at this;show u j-(u h-pr P u h)*l j=_
  grind
 .rintro ⟨c,hc⟩ j
  rw[e j];have h1:=hc j;have h2:u h-c*l h=_:=hc h;rw[QI,pl]at h1 h2;rw[L.one]at h2
  grind
noncomputable def rest(P:Pt F)(v:Vec F):Vec F:=λj=>v j-pr P v j
theorem vy(hP:Rf P)(v:Vec F)(ha:a∈P):rest P v a.1=0:=by
 unfold rest;rw[xx hP ha];grind
theorem Uk{P:Pt F}{v:Vec F}:(∀j,rest P v j=0)↔Mem P v:=by
 constructor
 .intro h j;have:=h j;unfold rest at this;grind
 .intro h j;have:=h j;unfold rest;grind
theorem yz{P:Pt F}(hP:Rf P){v:Vec F}{h:Nat}{i:F}(hi:i*rest P v h=1)(hl:∀j,j<h->rest P v j=0):Lead P h λj=>i*rest P v j:=
 #[hi,λj hj=>by rw[hl j hj];grind,λa ha=>by rw[vy hP v ha];grind]
theorem ur{P:Pt F}(hP:Rf P){v:Vec F}{h:Nat}{i:F}(hi:i*rest P v h=1)(hl:∀j,j<h->rest P v j=0)(u:Vec F) :
  Mem (wid P h λj=>i*rest P v j) u↔∃c,Mem P λj=>u j-c*v j:=by
 rw[Zaq hP<|yz hP hi hl]
 constructor
 .rintro ⟨c,hc⟩
  refine#[c*i,?_];have:=QK (c*i) hc<|ua hP v;have e:(λj=>(u j-c*(i*rest P v j))-c*i*pr P v j)=λj=>u j-c*i*v j:=by funext j;unfold rest;grind
  rw[e]at this;exact this
 .rintro ⟨c,hc⟩
  refine#[c*rest P v h,?_];have:=WR c hc<|ua hP v;have e:(λj=>(u j-c*v j)+c*pr P v j)=λj=>u j-c*rest P v h*(i*rest P v j):=by funext j;unfold rest at hi ⊢;grind
  rw[e]at this;exact this
theorem uR(hv:Mem P v)(u:Vec F):Mem P u↔∃c,Mem P λj=>u j-c*v j:=by
 constructor
 .intro h;exact#[0,by have:=QK 0 h hv;exact this]
 .rintro ⟨c,hc⟩
  have:=WR c hc hv;have e:(λj=>(u j-c*v j)+c*v j)=u:=by funext j;grind
  rw[e]at this;exact this
def Js(P:Pt F):List (Vec F)->Vec F->Prop
 |[],u=>Mem P u
 |v::vs,u=>∃c,Js P vs λj=>u j-c*v j
theorem Vc{P P':Pt F}{v:Vec F}(h:∀u,Mem P' u↔∃c,Mem P λj=>u j-c*v j):∀(vs:List (Vec F))(u:Vec F),Js P' vs u↔Js P (v::vs) u
 |[],u=>h u
 |w::vs,u=>by
  constructor
  .rintro ⟨d,hd⟩
   obtain⟨c,hc⟩:=(Vc h vs _).mp hd;refine#[c,d,?_];have e:(λj=>u j-c*v j-d*w j)=λj=>u j-d*w j-c*v j:=by funext j;grind
   show Js P vs λj=>u j-c*v j-d*w j
   rw[e];exact hc
  .rintro ⟨c,d,hc⟩
   refine#[d,(Vc h vs _).mpr #[c,?_]];have e:(λj=>u j-d*w j-c*v j)=λj=>u j-c*v j-d*w j:=by funext j;grind
   show Js P vs λj=>u j-d*w j-c*v j
   rw[e];exact hc
theorem xK{P Q:Pt F}(hQ:Rf Q)(u:Vec F):Js P (Q.map (·.2)) u↔∃q,Mem Q q/\Mem P λj=>u j-q j:=by
 constructor
 .have gen:∀(ws:List (Vec F))(u:Vec F),(∀w∈ws,Mem Q w)->Js P ws u->∃q,Mem Q q/\Mem P λj=>u j-q j:=by
   intro ws
   induction ws with
   |nil=>intro u _ h;exact#[λ_=>0,WK,by
    have e:(λj=>u j-0)=u:=by funext j;grind
    rw[e];exact h]
   |cons w ws ih=>
    rintro u hw ⟨c,h⟩
    obtain⟨q,hq,hp⟩:=ih _ (λx hx=>hw x<|aj _ hx) h
    refine#[λj=>q j+c*w j,WR c hq<|hw w<|al ..,?_]
    have e:(λj=>u j-(q j+c*w j))=λj=>u j-c*w j-q j:=by funext j;grind
    rw[e];exact hp
  exact gen _ u λw hw=>by obtain⟨a,ha,rfl⟩:=aO.mp hw;exact XR hQ ha
 .rintro ⟨q,hq,hp⟩
  have gen:∀(R:Pt F)(u:Vec F),(Mem P λj=>u j-pr R q j)->Js P (R.map (·.2)) u:=by
   intro R
   induction R with
   |nil=>
    intro u h;have e:(λj=>u j-pr [] q j)=u:=by funext j;show u j-0=u j;grind
    rw[e]at h;exact h
   |cons a R ih=>
    intro u h;refine#[q a.1,ih _ ?_];have e:(λj=>u j-q a.1*a.2 j-pr R q j)=λj=>u j-pr (a::R) q j:=by funext j;show _=u j-(q a.1*a.2 j+pr R q j);grind
    show Mem P λj=>u j-q a.1*a.2 j-pr R q j
    rw[e];exact h
  refine gen Q u ?_;have e:(λj=>u j-pr Q q j)=λj=>u j-q j:=by funext j;rw[<-hq j]
  rw[e];exact hp
variable{F:Type}[lO F][DecidableEq F]
def Supp(n:Nat)(v:Vec F):Prop:=∀j,n<=j->v j=0
structure Pn(n:Nat)(P:Pt F):Prop where
 rf:Rf P
 lt:∀a∈P,a.1<n
 sp:∀a∈P,Supp n a.2
theorem Pn.nil{n:Nat}:Pn n ([]:Pt F):=#[Rf.nil,λ_ h=>(by cases h),λ_ h=>(by cases h)]
theorem Zac(h:Pn n P)(v:Vec F):Supp n (pr P v):=λj hj=>Y9 λb hb=>by rw[h.sp b hb j hj];grind
noncomputable def hdV(n:Nat)(v:Vec F):Option Nat:=(az n).find? λj=>af<|v j≠0
theorem v4{n:Nat}{v:Vec F}(hs:Supp n v)(h:hdV n v=ag)(j:Nat):v j=0:=by
 by_cases c:j<n
 .have:=List.find?_eq_none.mp h j (aP.mpr c)
  simpa using this
 .exact hs j (by lia)
def Gz{n:Nat}{v:Vec F}{k:Nat}(h:hdV n v=aa k):k<n/\v k≠0/\∀j,j<k->v j=0:=by
 unfold hdV at h;rw[kf]at h;obtain⟨h1,h2,h3⟩:=h;refine#[aP.mp h2,by simpa using h1,λj hj=>?_]
 have:=h3 j hj
 simpa using this
def ym{n:Nat}{v:Vec F}{k:Nat}(hk:k<n)(h1:v k≠0)(h2:∀j,j<k->v j=0):hdV n v=aa k:=by
 unfold hdV;rw[kf];exact#[by simpa using h1,aP.mpr hk,λj hj=>by simpa using h2 j hj]
structure Fld(inv:F->F):Prop where
 inv:∀a,a≠0->inv a*a=1
 one0:(1:F)≠0
section
variable{inv:F->F}{n:Nat}
noncomputable def more(inv:F->F)(n:Nat)(P:Pt F)(v:Vec F):Pt F:=match hdV n (rest P v)with
 |none=>P
 |some h=>wid P h λj=>inv (rest P v h)*rest P v j
structure Grow(n:Nat)(P:Pt F)(v:Vec F)(P':Pt F):Prop where
 pn:Pn n P'
 mem:∀u,Mem P' u↔∃c,Mem P λj=>u j-c*v j
 same:Mem P v->P'=P
 len:¬Mem P v->P'.length=P.length+1
theorem Wu(f:Fld inv){P:Pt F}{v:Vec F}(hP:Pn n P)(hv:Supp n v):Grow n P v (more inv n P v):=by
 have hs:Supp n (rest P v):=λj hj=>by unfold rest;rw[hv j hj,Zac hP v j hj];grind
 cases q:hdV n (rest P v)with
 |none=>
  have e:more inv n P v=P:=by unfold more;rw[q]
  have hm:=Uk.mp<|v4 hs q;rw[e];exact#[hP,uR hm,λ_=>rfl,λh=>T7 hm h]
 |some h=>
  have e:more inv n P v=wid P h λj=>inv (rest P v h)*rest P v j:=by unfold more;rw[q]
  obtain⟨h1,h2,h3⟩:=Gz q;have hi:=f.inv _ h2;have L:=yz hP.rf hi h3;rw[e];refine#[#[Zc4 f.one0 hP.rf L,λa ha=>?_,λa ha=>?_],ur hP.rf hi h3,λhm=>T7 (Uk.mpr hm h) h2,λ_=>ZaY ..]
  .rcases aB.mp ((Yo _ _).mem_iff.mp ha)with e|e
   .rw[e];exact h1
   .obtain⟨b,hb,rfl⟩:=aO.mp e
    exact hP.lt b hb
  .rcases aB.mp ((Yo _ _).mem_iff.mp ha)with e|e
   .rw[e];intro j hj
    show inv (rest P v h)*rest P v j=0;rw[hs j hj];grind
   .obtain⟨b,hb,rfl⟩:=aO.mp e
    intro j hj;show b.2 j-b.2 h*(inv (rest P v h)*rest P v j)=0;rw[hP.sp b hb j hj,hs j hj];grind
noncomputable def Ux(inv:F->F)(n:Nat)(P:Pt F)(vs:List (Vec F)):Pt F:=vs.foldl (more inv n) P
theorem GM(f:Fld inv):∀(vs:List (Vec F)){P:Pt F},Pn n P->(∀v∈vs,Supp n v)->Pn n (Ux inv n P vs)/\∀u,Mem (Ux inv n P vs) u↔Js P vs u
 |[],P,hP,_=>#[hP,λu=>Iff.rfl]
 |v::vs,P,hP,hv=>by
  have g:=Wu f hP<|hv v<|al ..;obtain⟨a,b⟩:=GM f vs g.pn λw hw=>hv w<|aj _ hw
  exact#[a,λu=>(b u).trans<|Vc g.mem vs u]
noncomputable def join(inv:F->F)(n:Nat)(P Q:Pt F):Pt F:=Ux inv n P (Q.map (·.2))
def GP(f:Fld inv){P Q:Pt F}(hP:Pn n P)(hQ:Pn n Q)(u:Vec F):Mem (join inv n P Q) u↔∃q,Mem Q q/\Mem P λj=>u j-q j:=
 ((GM f _ hP λv hv=>by obtain⟨a,ha,rfl⟩:=aO.mp hv;exact hQ.sp a ha).2 u).trans (xK hQ.rf u)
def Zdu(f:Fld inv){P Q:Pt F}(hP:Pn n P)(hQ:Pn n Q)(h:∀v,Mem P v↔Mem Q v):P=Q:=uniq f.one0 hP.rf hQ.rf h
theorem sub_self(u:Vec F):(λj=>u j-u j)=λ_=>0:=by funext j;grind
def zi(f:Fld inv){P Q:Pt F}(hP:Pn n P)(hQ:Pn n Q){u:Vec F}(h:Mem Q u):Mem (join inv n P Q) u:=
 (GP f hP hQ u).mpr #[u,h,by rw[sub_self];exact WK]
theorem ya(f:Fld inv){P Q R:Pt F}(hP:Pn n P)(hQ:Pn n Q)(h1:∀u,Mem P u->Mem R u)(h2:∀u,Mem Q u->Mem R u){u:Vec F}(h:Mem (join inv n P Q) u):Mem R u:=by
 obtain⟨q,a,b⟩:=(GP f hP hQ u).mp h;have:=WR 1 (h1 _ b)<|h2 _ a;have e:(λj=>u j-q j+1*q j)=u:=by funext j;grind
 rw[e]at this;exact this
noncomputable def YG(P:Pt F)(j:Nat):Bool:=(P.map (·.1)).contains j
noncomputable def free(n:Nat)(P:Pt F):List Nat:=(az n).filter λj=>!YG P j
noncomputable def av:Pt F->Nat->Vec F
 |[],f,j=>if j=f then 1 else 0
 |a::P,f,j=>if j=a.1 then-a.2 f else av P f j
def Xi :YG P j=ai↔∃a∈P,a.1=j:=by
 unfold YG;rw[cK,aO]
def zw{P:Pt F}{f j:Nat}(h:YG P j=am):av P f j=if j=f then 1 else 0:=by
 induction P with
 |nil=>rfl
 |cons a P ih=>
  have h1:¬∃b∈a::P,b.1=j:=λz=>by rw[Xi.mpr z]at h;cases h
  show(if j=a.1 then-a.2 f else av P f j)=_
  rw[T8 λz=>h1 #[a,al ..,z.symm]]
  exact ih (by
   cases q:YG P j with
   |false=>rfl
   |true=>obtain⟨b,hb,e⟩:=Xi.mp q;exact T7 #[b,aj _ hb,e] h1)
def Uf :j∈free n P↔j<n/\YG P j=am:=by
 unfold free;rw[bX,aP];simp
theorem ZaD{P:Pt F}(hP:Pn n P){f:Nat}(hf:f<n):Supp n (av P f):=λj hj=>by
 rw[zw (by
  cases q:YG P j with
  |false=>rfl
  |true=>obtain⟨b,hb,e⟩:=Xi.mp q;have:=hP.lt b hb;lia),T8 (by lia)]
noncomputable def perp(inv:F->F)(n:Nat)(P:Pt F):Pt F:=Ux inv n []<|(free n P).map<|av P
theorem xN(f:Fld inv){P:Pt F}(hP:Pn n P):(perp inv n P).length+P.length=n:=by
 have gen:∀(L:List Nat)(A:Pt F)(D:List Nat),Pn n A->(∀k∈L,k∈free n P)->L.Nodup->(∀k∈L,k∉D)->(∀u,Mem A u->∀k∈free n P,k∉D->u k=0)->(Ux inv n A<|L.map<|av P).length=A.length+L.length:=by
  intro L
  induction L with
  |nil=>intro A D _ _ _ _ _;rfl
  |cons k L ih=>
   intro A D hA hL hn hD hz;rw[dy]at hn;have hk:=hL k<|al ..;have g:=Wu f hA<|ZaD hP (Uf.mp hk).1;have nm:¬Mem A (av P k):=λh=>by
    have:=hz _ h k hk<|hD k<|al ..;rw[zw (Uf.mp hk).2,T9 rfl]at this;exact f.one0 this
   have:=ih (more inv n A<|av P k) (k::D) g.pn (λj hj=>hL j<|aj _ hj) hn.2 (λj hj=>by
    rw[aB]
    rintro (z|z)
    .exact hn.1<|z▸hj
    .exact hD j (aj _ hj) z) λu hu j hj hjD=>by
     obtain⟨c,hc⟩:=(g.mem u).mp hu;rw[aB]at hjD;have h1:=hz _ hc j hj λz=>hjD<|.inr z
     rw[zw (Uf.mp hj).2,T8 λz=>hjD<|.inl z]at h1
     grind
   show(Ux inv n (more inv n A<|av P k)<|L.map<|av P).length=_;rw[this,g.len nm,aK];lia
 have h1:=gen (free n P) [] [] Pn.nil (λ_ h=>h) (lB _ nu) (λ_ _ h=>by cases h) λu hu k _ _=>hu k
 have h2:=Q9 (lB _ List.pairwise_lt_range) hP.rf.heads λx=>by
  rw[bX,aP,Xi,aO]
  constructor
  .rintro ⟨_,a,ha,e⟩;exact#[a,ha,e]
  .rintro ⟨a,ha,e⟩;exact#[by rw[<-e];exact hP.lt a ha,a,ha,e]
 have h3:((az n).filter<|YG P).length+(free n P).length=n:=by
  have gen:∀L:List Nat,(L.filter<|YG P).length+(L.filter λj=>!YG P j).length=L.length:=by
   intro L
   induction L with
   |nil=>rfl
   |cons k L ih=>
    rw[eS,eS];cases YG P k<;>simp<;>lia
  have:=gen<|az n;rw[aZ]at this;exact this
 rw[h2,aw]at h3;have h4:(perp inv n P).length=(free n P).length:=by
  have e:(perp inv n P).length=0+(free n P).length:=h1;lia
 lia
end
end La
namespace Rw
open La
open Ev (ltI YH Zu)
section
variable{p:Nat}[NeZero p]
noncomputable def ph(p:Nat)[NeZero p](a:Int):Fin p:=Fin.ofNat p (a%p).toNat
theorem ppos:(0:Int)<p:=by have:=NeZero.ne p;lia
theorem Ys(a:Int):((ph p a).val:Int)=a%p:=by
 have h:=ppos (p:=p);have h0:=fX a (by lia:(p:Int)≠0)
 have h1:=eY a h;show((((a%p).toNat)%p:Nat):Int)=a%p;rw[Nat.mod_eq_of_lt (by lia)]
 lia
theorem Wy{x y:Fin p}(h:(x.val:Int)=y.val):x=y:=Fin.ext (by lia)
def vb(a b:Int):ph p (a+b)=ph p a+ph p b:=Wy (by
 rw[Ys,Fin.val_add];show(a+b)%p=(((ph p a).val+(ph p b).val:Nat):Int)%p;rw[Int.natCast_add,Ys,Ys,<-Int.add_emod])
def vp(a b:Int):ph p (a*b)=ph p a*ph p b:=Wy (by
 rw[Ys,Fin.val_mul];show(a*b)%p=(((ph p a).val*(ph p b).val:Nat):Int)%p;rw[Int.natCast_mul,Ys,Ys,<-Int.mul_emod])
def vN(a:Int):ph p (a%p)=ph p a:=Wy (by rw[Ys,Ys,Int.emod_emod])
def WA:ph p 0=0:=Wy (by rw[Ys];simp)
theorem Vj(a:Int):ph p (-a) = - ph p a:=by
 have h:ph p (-a+a)=ph p (-a)+ph p a:=vb _ _;rw[show -a+a=0 by lia,WA]at h
 grind
def zA{a b:Int}(ha:0<=a/\a<p)(hb:0<=b/\b<p)(h:ph p a=ph p b):a=b:=by
 have:=congrArg (λx:Fin p=>(x.val:Int)) h
 simp only[Ys]at this;rw[fv ha.1 ha.2,fv hb.1 hb.2]at this;exact this
theorem ZdE{a:Int}(ha:0<=a/\a<p):ph p a=0↔a=0:=by
 constructor
 .intro h;exact zA ha #[by lia,ppos] (by rw[h,WA])
 .rintro rfl;exact WA
end
abbrev Row:=List Int
def Zf(p n:Nat)(r:Row):Prop:=r.length=n/\∀a∈r,0<=a/\a<(p:Int)
noncomputable def gt(r:Row)(j:Nat):Int:=r.getD j 0
def Vu{p n:Nat}(h0:(0:Int)<p){r:Row}(h:Zf p n r)(j:Nat):0<=gt r j/\gt r j<p:=by
 unfold gt;rw[aC];cases q:r[j]? with|none=>exact#[Int.le_refl _,h0]|some a=>exact h.2 a<|dH q
def uo(h:r.length<=j):gt r j=0:=by unfold gt;rw[aC,bD h];rfl
def qt(hl:r.length=s.length)(h:∀j,gt r j=gt s j):r=s:=by
 apply gM hl;intro j h1 h2;have:=h j;unfold gt at this;rw[aC,aC,ae h1,ae h2]at this;exact this
noncomputable def hdI:Row->Option Nat
 |[]=>ag
 |a::r=>if a≠0 then aa 0 else(hdI r).map (· + 1)
theorem Z0:∀{r:Row}{k:Nat},hdI r=aa k->gt r k≠0/\k<r.length/\∀j,j<k->gt r j=0
 |[],k,h=>by cases h
 |a::r,k,h=>by
  unfold hdI at h;by_cases c:a≠0
  .rw[T9 c]at h;cases h;exact#[c,by simp,λj hj=>by lia]
  .rw[T8 c]at h
   cases q:hdI r with
   |none=>rw[q]at h;cases h
   |some m=>
    rw[q]at h;have e:m+1=k:=ak h;subst e;obtain⟨h1,h2,h3⟩:=Z0 q;refine#[h1,by simp;lia,λj hj=>?_]
    cases j with|zero=>exact mY.mp c|succ j=>exact h3 j (by lia)
theorem YF:∀{r:Row},hdI r=ag->∀j,gt r j=0
 |[],_,j=>uo<|dz _
 |a::r,h,j=>by
  unfold hdI at h;by_cases c:a≠0
  .rw[T9 c]at h;cases h
  .rw[T8 c]at h
   have h':=Option.map_eq_none_iff.mp h;cases j with|zero=>exact mY.mp c|succ j=>exact YF h' j
section
variable{p n:Nat}[NeZero p]
noncomputable def toV(p:Nat)[NeZero p](r:Row):Vec (Fin p):=λj=>ph p<|gt r j
def YO{r s:Row}(hr:Zf p n r)(hs:Zf p n s)(h:toV p r=toV p s):r=s:=
 qt (by rw[hr.1,hs.1]) λj=>zA (Vu ppos hr j) (Vu ppos hs j)<|congrFun h j
def WQ(hr:Zf p n r):Supp n (toV p r):=λj hj=>by unfold toV;rw[uo (by rw[hr.1];exact hj),WA]
def Z6{r:Row}(hr:Zf p n r){j:Nat}:toV p r j=0↔gt r j=0:=ZdE<|Vu ppos hr j
def zB(hr:Zf p n r):hdV n (toV p r)=hdI r:=by
 cases q:hdI r with
 |none=>
  cases q2:hdV n (toV p r)with|none=>rfl|some k=>exact T7 ((Z6 hr).mpr<|YF q k) (Gz q2).2.1
 |some k=>
  obtain⟨a,b,c⟩:=Z0 q;exact ym (by rw[<-hr.1];exact b) (λz=>a<|(Z6 hr).mp z) λj hj=>(Z6 hr).mpr<|c j hj
noncomputable def ZK(p:Nat)(r o:Row)(k:Int):Row:=List.zipWith (λa b=>(a+k*b)%p) r o
noncomputable def WT(p:Nat)(r:Row)(k:Int):Row:=r.map λa=>k*a%p
theorem ZbW(hl:r.length=o.length)(h0:f 0 0=0)(j:Nat):gt (List.zipWith f r o) j=f (gt r j) (gt o j):=by
 unfold gt;simp only[aC];rw[List.getElem?_zipWith];by_cases c:j<r.length
 .rw[ae c,ae (by lia)];rfl
 .rw[bD (by lia),bD (by lia)];exact h0.symm
theorem Zo(hr:Zf p n r)(ho:Zf p n o):Zf p n (ZK p r o k):=by
 refine#[by unfold ZK;rw[List.length_zipWith,hr.1,ho.1];simp,λa ha=>?_]
 unfold ZK at ha;rw[<-List.map_uncurry_zip_eq_zipWith]at ha;obtain⟨⟨x,y⟩,_,rfl⟩:=aO.mp ha;exact#[fX _ (by have:=ppos (p:=p);lia),eY _ ppos]
def VW(hr:Zf p n r)(ho:Zf p n o)(j:Nat):gt (ZK p r o k) j=(gt r j+k*gt o j)%p:=by
 unfold ZK;rw[ZbW (by rw[hr.1,ho.1]) (by simp)]
def ZT(hr:Zf p n r)(ho:Zf p n o):toV p (ZK p r o k)=λj=>toV p r j+ph p k*toV p o j:=by
 funext j
 unfold toV;rw[VW hr ho,vN,vb,vp]
def qx(j:Nat):gt (WT p r k) j=k*gt r j%p:=by
 unfold WT gt;simp only[aC,aJ];cases r[j]?<;>simp
theorem wN{r:Row}{k:Int}(hr:Zf p n r):Zf p n (WT p r k):=by
 refine#[by unfold WT;rw[aw,hr.1],λa ha=>?_]
 obtain⟨x,_,rfl⟩:=aO.mp ha;exact#[fX _ (by have:=ppos (p:=p);lia),eY _ ppos]
def wf :toV p (WT p r k)=λj=>ph p k*toV p r j:=by
 funext j
 unfold toV;rw[qx,vN,vp]
noncomputable def toP(p:Nat)[NeZero p](P:List Row):Pt (Fin p):=P.map λr=>((hdI r).getD 0,toV p r)
structure pZ(p n:Nat)[NeZero p](P:List Row):Prop where
 row:∀r∈P,Zf p n r
 pn:Pn n (toP p P)
theorem pZ.nil:pZ p n []:=#[λ_ h=>(by cases h),Pn.nil]
def Yc(h:r∈P):((hdI r).getD 0,toV p r)∈toP p P:=aO.mpr #[r,h,rfl]
def pZ.head(one0:(1:Fin p)≠0)(h:pZ p n P)(hr:r∈P):∃k,hdI r=aa k/\k<n/\toV p r k=1:=by
 have h1:=h.pn.rf.one _<|Yc hr;cases q:hdI r with
 |none=>
  rw[q]at h1;have:toV p r 0=1:=h1;have z:=(Z6<|h.row r hr).mpr<|YF q 0;rw[z]at this;exact T7 this.symm one0
 |some k=>
  rw[q]at h1;have h2:=h.pn.lt _<|Yc hr;rw[q]at h2;exact#[k,rfl,h2,h1]
def xn(hP:∀r∈P,Zf p n r)(hQ:∀r∈Q,Zf p n r)(h:toP p P=toP p Q):P=Q:=by
 induction P generalizing Q with
 |nil=>cases Q with|nil=>rfl|cons b Q=>cases h
 |cons a P ih=>cases Q with
  |nil=>cases h
  |cons b Q=>
   have h':=h;injection h' with e1 e2
   have e3:=congrArg Prod.snd e1;rw[YO (hP a<|al ..) (hQ b<|al ..) e3,ih (λr hr=>hP r<|aj _ hr) (λr hr=>hQ r<|aj _ hr) e2]
def ZaF(P:List Row):(toP p P).map (·.2)=P.map (toV p):=by unfold toP;rw[bV];rfl
def Zat(P:List Row):(toP p P).length=P.length:=by unfold toP;rw[aw]
noncomputable def clr(p:Nat)(r o:Row)(h:Nat):Row:=ZK p r o<|-(gt r h)
noncomputable def ZJ(p:Nat)(P:List Row)(r:Row):Row:=P.foldl (λs o=>clr p s o<|(hdI o).getD 0) r
theorem QD(hr:Zf p n r)(ho:Zf p n o):toV p (clr p r o h)=λj=>toV p r j-toV p r h*toV p o j:=by
 unfold clr;rw[ZT hr ho]
 funext j
 rw[Vj];show toV p r j+(- toV p r h)*toV p o j=_
 grind
theorem QY:∀{P:List Row}{r:Row},(∀o∈P,Zf p n o)->Rf (toP p P)->Zf p n r->Zf p n (ZJ p P r)/\toV p (ZJ p P r)=rest (toP p P) (toV p r)
 |[],r,_,_,hr=>#[hr,by funext j;show toV p r j=toV p r j-0;grind]
 |o::P,r,hP,hf,hr=>by
  have ho:=hP o<|al ..;have hc:Zf p n (clr p r o<|(hdI o).getD 0):=Zo hr ho;obtain⟨a,b⟩:=QY (λo h=>hP o<|aj _ h) hf.tail hc
  refine#[a,?_];show toV p (ZJ p P<|clr p r o<|(hdI o).getD 0)=_;rw[b,QD hr ho];have z:∀j,pr (toP p P) (toV p o) j=0:=λj=>Y9 λc hc=>by
   have:toV p o c.1=0:=by
    have h1:c∈toP p (o::P):=aj _ hc;have h2:((hdI o).getD 0,toV p o)∈toP p (o::P):=al ..;have h3:=(aV.mp hf.inc).1 c hc;exact hf.zer c h1 _ h2 (by simp only at h3 ⊢;lia)
   rw[this];grind
  funext j
  unfold rest;rw[QI,z];show toV p r j-toV p r ((hdI o).getD 0)*toV p o j-(pr (toP p P) (toV p r) j-_*0)=toV p r j-(toV p r ((hdI o).getD 0)*toV p o j+pr (toP p P) (toV p r) j)
  grind
def uK(hP:pZ p n P)(hr:Zf p n r):hdI (ZJ p P r)=ag↔Mem (toP p P) (toV p r):=by
 obtain⟨a,b⟩:=QY hP.row hP.pn.rf hr;rw[<-Uk,<-b]
 constructor
 .intro h j;exact(Z6 a).mpr<|YF h j
 .intro h
  cases q:hdI (ZJ p P r)with|none=>rfl|some k=>exact T7 ((Z6 a).mp<|h k) (Z0 q).1
end
noncomputable def Zb9(p:Nat)(a:Int):Int:=if a=1 then 1 else if p=3 then 2 else if a=2 then 3 else if a=3 then 2 else 4
noncomputable def Jp(p:Nat)[NeZero p](x:Fin p):Fin p:=ph p<|Zb9 p x.val
class Base(p:Nat):Prop where
 b:p=2\/p=3\/p=5
instance(p:Nat)[h:Base p]:NeZero p:=⟨by rcases h.b with e|e|e<;>lia⟩
section
variable{p n:Nat}[Base p]
def fld2:∀a:Fin 2,a≠0->Jp 2 a*a=1:=by decide
def fld3:∀a:Fin 3,a≠0->Jp 3 a*a=1:=by decide
def fld5:∀a:Fin 5,a≠0->Jp 5 a*a=1:=by decide
def one2:(1:Fin 2)≠0:=by decide
def one3:(1:Fin 3)≠0:=by decide
def one5:(1:Fin 5)≠0:=by decide
def fld:Fld (Jp p):=by
 rcases(inferInstance:Base p).b with e|e|e<;>subst e
 .exact#[fld2,one2]
 .exact#[fld3,one3]
 .exact#[fld5,one5]
def ZaZ{a:Int}(h:0<=a/\a<(p:Int)):((ph p a).val:Int)=a:=by rw[Ys,fv h.1 h.2]
noncomputable def lead(p:Nat)(s:Row)(h:Nat):Row:=WT p s<|Zb9 p<|gt s h
noncomputable def QL(p:Nat)(P:List Row)(r:Row):List Row:=match hdI (ZJ p P r)with
 |none=>P
 |some h=>(Zu<|P.map (λo=>clr p o (lead p (ZJ p P r) h) h)++[lead p (ZJ p P r) h]).reverse
noncomputable def GR(h:Nat)(x:Row):List Row->List Row
 |[]=>[x]
 |y::P=>if h<(hdI y).getD 0 then x::y::P else y::GR h x P
theorem W5(h:Nat)(x:Row):∀P:List Row,(GR h x P).Perm (x::P)
 |[]=>bz _
 |y::P=>by
  unfold GR;split
  .exact bz _
  .exact((W5 h x P).cons y).trans<|gA x y P
theorem ze{h:Nat}{x:Row}(hx:hdI x=aa h):∀P:List Row,toP p (GR h x P)=ins (h,toV p x) (toP p P)
 |[]=>by show[((hdI x).getD 0,toV p x)]=_;rw[hx];rfl
 |y::P=>by
  unfold GR;show toP p (if h<(hdI y).getD 0 then _ else _)=(if h<(hdI y).getD 0 then _ else _)
  split
  .show((hdI x).getD 0,toV p x)::_=_;rw[hx];rfl
  .show((hdI y).getD 0,toV p y)::toP p (GR h x P)=_;rw[ze hx P];rfl
theorem u8:∀{a b:Row}{h:Nat},a.length=b.length->(∀j,j<h->gt a j=gt b j)->gt b h<gt a h->h<a.length->ltI b a=ai
 |[],_,_,_,_,_,hl=>by simp at hl
 |x::a,[],_,e,_,_,_=>by simp at e
 |x::a,y::b,0,_,_,hlt,_=>by
  have:y<x:=hlt;unfold ltI;rw[T8 (by lia)]
  exact T5 this
 |x::a,y::b,h+1,e,hj,hlt,hl=>by
  have:x=y:=hj 0 (by lia)
  unfold ltI;rw[T9 this.symm];exact u8 (by simpa using e) (λj h'=>hj (j+1)<|by lia) hlt (by simpa using hl)
theorem qM{a b:Row}{h k:Nat}(ha:Zf p n a)(hb:Zf p n b)(h1:hdI a=aa h)(h2:hdI b=aa k)(hk:h<k):ltI b a=ai:=by
 obtain⟨a1,a2,a3⟩:=Z0 h1;obtain⟨b1,b2,b3⟩:=Z0 h2;refine u8 (by rw[ha.1,hb.1]) (λj hj=>by rw[a3 j hj,b3 j<|by lia]) ?_ a2
 rw[b3 h hk];have:=(Vu ppos ha h).1;lia
def pZ.falls{P:List Row}(hP:pZ p n P):P.Pairwise λa b=>ltI b a=ai:=by
 have inc:P.Pairwise λa b=>(hdI a).getD 0<(hdI b).getD 0:=by
  have:=hP.pn.rf.inc;unfold toP at this;rw[cA]at this;exact this
 refine i9 (λ{a b} ha hb hab=>?_) inc
 obtain⟨h,e1,_⟩:=hP.head fld.one0 ha;obtain⟨k,e2,_⟩:=hP.head fld.one0 hb;rw[e1,e2]at hab;exact qM (hP.row a ha) (hP.row b hb) e1 e2 hab
def GH{P:List Row}(h:P.Pairwise λa b=>ltI b a=ai):P.Nodup:=List.Pairwise.imp (λ{a b} hab e=>by
 rw[e]at hab;have:=Sd.XT hab;rw[hab]at this;cases this) h
def jH{P Q:List Row}(hp:Q.Perm P)(h:Q.Pairwise λa b=>ltI b a=ai):(Zu P).reverse=Q:=by
 have hn:P.Nodup:=(hp.nodup_iff).mp<|GH h;have e:Zu P=Q.reverse:=Sd.Xt ((Sd.Xa P).trans<|hp.symm.trans (eC Q).symm) (Sd.Xn hn)<|d6.mpr h;rw[e,List.reverse_reverse]
def Jz{P:List Row}{r:Row}(hP:pZ p n P)(hr:Zf p n r):pZ p n (QL p P r)/\toP p (QL p P r)=more (Jp p) n (toP p P) (toV p r):=by
 obtain⟨s1,s2⟩:=QY hP.row hP.pn.rf hr;have eh:=zB s1;rw[s2]at eh;have g:=Wu fld hP.pn<|WQ hr;unfold QL;cases q:hdI (ZJ p P r)with
 |none=>
  rw[q]at eh;exact#[hP,by unfold more;rw[eh]]
 |some h=>
  rw[q]at eh;have em:more (Jp p) n (toP p P) (toV p r)=wid (toP p P) h (toV p<|lead p (ZJ p P r) h):=by
   unfold more;rw[eh];show wid _ h _=_
   congr 1
   unfold lead;rw[wf,s2]
   funext j
   congr 1
   unfold Jp;rw[<-s2];show ph p (Zb9 p<|(ph p<|gt (ZJ p P r) h).val)=_;rw[ZaZ<|Vu ppos s1 h]
  have hl:Zf p n (lead p (ZJ p P r) h):=wN s1;rw[em]at g;have mem:∀x∈wid (toP p P) h (toV p<|lead p (ZJ p P r) h),hdV n x.2=aa x.1:=λx hx=>ym (g.pn.lt x hx) (by rw[g.pn.rf.one x hx];exact fld.one0)<|g.pn.rf.low x hx
  have hx:hdI (lead p (ZJ p P r) h)=aa h:=by
   rw[<-zB hl];exact mem (h,toV p<|lead p (ZJ p P r) h)<|(Yo _ _).mem_iff.mpr<|al ..
  have e1:toP p (P.map λo=>clr p o (lead p (ZJ p P r) h) h)=(toP p P).map (off h<|toV p<|lead p (ZJ p P r) h):=by
   unfold toP;rw[bV,bV];refine c8 λo ho=>?_
   have ho':=hP.row o ho;have hc:Zf p n (clr p o (lead p (ZJ p P r) h) h):=Zo ho' hl;have ev:toV p (clr p o (lead p (ZJ p P r) h) h)=(off h (toV p<|lead p (ZJ p P r) h) ((hdI o).getD 0,toV p o)).2:=QD ho' hl;show((hdI<|clr p o (lead p (ZJ p P r) h) h).getD 0,toV p<|clr p o (lead p (ZJ p P r) h) h)=off h _ ((hdI o).getD 0,toV p o);have:=mem (off h (toV p<|lead p (ZJ p P r) h) ((hdI o).getD 0,toV p o))<|(Yo _ _).mem_iff.mpr<|aj _<|aO.mpr #[_,Yc ho,rfl];rw[<-ev,zB hc]at this;rw[this,ev];rfl
  have e2:toP p (GR h (lead p (ZJ p P r) h)<|P.map λo=>clr p o (lead p (ZJ p P r) h) h)=wid (toP p P) h (toV p<|lead p (ZJ p P r) h):=by
   rw[ze hx,e1];rfl
  have hQ:pZ p n (GR h (lead p (ZJ p P r) h)<|P.map λo=>clr p o (lead p (ZJ p P r) h) h):=by
   refine#[λx hx=>?_,by rw[e2];exact g.pn]
   rcases aB.mp ((W5 _ _ _).mem_iff.mp hx)with e|e
   .rw[e];exact hl
   .obtain⟨o,ho,rfl⟩:=aO.mp e
    exact Zo (hP.row o ho) hl
  have e3:=jH ((W5 h (lead p (ZJ p P r) h)<|P.map λo=>clr p o (lead p (ZJ p P r) h) h).trans (List.perm_append_singleton _ _).symm) hQ.falls
  show pZ p n (Zu _).reverse/\toP p (Zu _).reverse=_;rw[e3];exact#[hQ,by rw[e2,em]]
noncomputable def Vb(p:Nat)(P:List Row)(rs:List Row):List Row:=rs.foldl (QL p) P
theorem y4:∀{rs:List Row}{P:List Row},pZ p n P->(∀r∈rs,Zf p n r)->pZ p n (Vb p P rs)/\toP p (Vb p P rs)=Ux (Jp p) n (toP p P) (rs.map<|toV p)
 |[],P,hP,_=>#[hP,rfl]
 |r::rs,P,hP,hr=>by
  obtain⟨a,b⟩:=Jz hP<|hr r<|al ..;obtain⟨c,d⟩:=y4 (rs:=rs) a λx hx=>hr x<|aj _ hx
  refine#[c,?_];show toP p (Vb p (QL p P r) rs)=_;rw[d,b];rfl
def Uy{P Q:List Row}(hP:pZ p n P)(hQ:pZ p n Q):pZ p n (Vb p P Q)/\toP p (Vb p P Q)=join (Jp p) n (toP p P) (toP p Q):=by
 obtain⟨a,b⟩:=y4 hP hQ.row;exact#[a,by rw[b];unfold join;rw[ZaF]]
noncomputable def Zy(P:List Row):List Nat:=P.map λr=>(hdI r).getD 0
def XY(P:List Row):(toP p P).map (·.1)=Zy P:=by unfold toP Zy;rw[bV];rfl
end
section
variable{p n:Nat}[Base p]
abbrev Mm(p:Nat)[NeZero p](P:List Row)(u:Vec (Fin p)):Prop:=Mem (toP p P) u
def eqP(hA:pZ p n A)(hB:pZ p n B)(h:∀u,Mm p A u↔Mm p B u):A=B:=xn hA.row hB.row<|Zdu fld hA.pn hB.pn h
def u7{P Q:List Row}(hP:pZ p n P)(hQ:pZ p n Q){u:Vec (Fin p)}(h:Mm p Q u):Mm p (Vb p P Q) u:=by
 unfold Mm;rw[(Uy hP hQ).2];exact zi fld hP.pn hQ.pn h
def vY{P Q R:List Row}(hP:pZ p n P)(hQ:pZ p n Q)(h1:∀u,Mm p P u->Mm p R u)(h2:∀u,Mm p Q u->Mm p R u){u:Vec (Fin p)}(h:Mm p (Vb p P Q) u):Mm p R u:=by
 unfold Mm at h;rw[(Uy hP hQ).2]at h;exact ya fld hP.pn hQ.pn h1 h2 h
def pJ{P Q:List Row}(hP:pZ p n P)(hQ:pZ p n Q):pZ p n (Vb p P Q):=(Uy hP hQ).1
def ui{P Q:List Row}(hP:pZ p n P)(hQ:pZ p n Q)(h:∀u,Mm p P u->Mm p Q u):Vb p P Q=Q:=eqP (pJ hP hQ) hQ λu=>
 #[vY hP hQ h λ_ h=>h,u7 hP hQ]
def ZaJ{P:List Row}(u:Vec (Fin p))(h:Mm p ([]:List Row) u):Mm p P u:=by
 have e:u=λ_=>0:=funext λj=>h j
 rw[e];exact WK
def wE{P:List Row}(hP:pZ p n P):Vb p [] P=P:=ui pZ.nil hP ZaJ
noncomputable def X0(p:Nat)(P:List Row)(r:Row):Bool:=(hdI<|ZJ p P r).isNone
def Z5(hP:pZ p n P)(hr:Zf p n r):X0 p P r=ai↔Mm p P (toV p r):=by
 unfold Mm;rw[<-uK hP hr];unfold X0;cases hdI (ZJ p P r)<;>simp
end
end Rw
namespace Pv
open Ev
open Rw
def Za{B β:Type}{a:B}{s:DS}{f:B->DS->PR β}:(PR.ok a s).bind f=f a s:=rfl
def ut(hf:F[f]?=aa fn)(hne:f≠tk)(hl:vs.length=fn.ps):Zk F tk (d+1) f vs s=(rvs (Zk F tk d) (muts fn.body) fn.body (ZN fn.ns vs) [] s).bind λg s=>match g with
  |.ret v=>.ok v s
  |.nx _ _=>.ok .non s
  |_=>.no:=by
 rw[Zk,T8 hne,hf];show(if vs.length=fn.ps then _ else _)=_
 rw[T9 hl]
 all_goals rfl
def vx(s:DS)(h:0<m):0<=(Xs s m).1/\(Xs s m).1<m:=by
 unfold Xs;split
 .exact#[fX _ (by lia),eY _ h]
 .exact#[fX _ (by lia),eY _ h]
def U4(s:DS)(h0:0<m)(h1:m<1073741824):∃v s',Zk F tk (d+1) tk [.drw,.int m] s=.ok (.int v) s'/\0<=v/\v<m:=by
 refine#[(Xs s m).1,(Xs s m).2,?_,vx s h0];rw[Zk,T9 rfl];show(if 0<m/\m<1073741824 then _ else _)=_
 rw[T9 #[h0,h1]]
theorem Ws{B:Type}{f:V->DS->PR (List V)}{s:DS}{e:B->V}{g:B->V}:∀{l:List B},(∀x∈l,f (e x) s=.ok [g x] s)->mapP f (l.map e) s=.ok (l.map g) s
 |[],_=>rfl
 |x::l,h=>by
  rw[a9,mapP,h x<|al ..];show(match mapP f (l.map e) s with|.ok zs s=>PR.ok ([g x]++zs) s|_=>.no)=_
  rw[Ws λy hy=>h y<|aj _ hy];rfl
theorem VE{B:Type}{f:V->DS->PR (List V)}{s:DS}{e:B->V}{g:B->V}{q:B->Bool}:∀{l:List B},(∀x∈l,f (e x) s=.ok (if q x=ai then[g x]else[]) s)->mapP f (l.map e) s=.ok ((l.filter q).map g) s
 |[],_=>rfl
 |x::l,h=>by
  rw[a9,mapP,h x<|al ..];show(match mapP f (l.map e) s with|.ok zs s=>PR.ok ((if q x=ai then[g x]else[])++zs) s|_=>.no)=_
  rw[VE λy hy=>h y<|aj _ hy,eS]
  cases q x<;>rfl
theorem Vn{B:Type}{f:V->DS->PR (List V)}{s:DS}{e:B->V}{g:B->List V}:∀{l:List B},(∀x∈l,f (e x) s=.ok (g x) s)->mapP f (l.map e) s=.ok (l.flatMap g) s
 |[],_=>rfl
 |x::l,h=>by
  rw[a9,mapP,h x<|al ..];show(match mapP f (l.map e) s with|.ok zs s=>PR.ok (g x++zs) s|_=>.no)=_
  rw[Vn λy hy=>h y<|aj _ hy];rfl
theorem Vd{Q:V->Prop}(h:∀x s,∃y s',f x s=.ok [y] s'/\Q y):∀(l:List V)(s:DS),∃ys s',mapP f l s=.ok ys s'/\ys.length=l.length/\∀y∈ys,Q y
 |[],s=>#[[],s,rfl,rfl,λ_ h=>by cases h]
 |x::l,s=>by
  obtain⟨y,s1,e1,q1⟩:=h x s;obtain⟨ys,s2,e2,l2,q2⟩:=Vd h l s1;refine#[y::ys,s2,?_,by rw[aK,aK,l2],λz hz=>?_]
  .rw[mapP,e1]
   show(match mapP f l s1 with|.ok zs s=>PR.ok ([y]++zs) s|_=>.no)=_
   rw[e2];rfl
  .rcases aB.mp hz with rfl|hz
   .exact q1
   .exact q2 z hz
noncomputable def UJ:Option Nat->V
 |none=>.non
 |some k=>.int k
noncomputable def spV(p n:Nat):V:=.tup [.int p,.int n]
def Xk{a:Int}(h:-4294967296<a)(h':a<4294967296):fits a=ai:=by
 refine T5 ?_;have h1:a.natAbs<2^32:=by lia
 exact bp h1<|eD (by decide) (by decide)
def Q0{B:Type}{xs:List B}{k:Nat}{x:B}(h:xs[k]?=aa x):at' xs (k:Int)=aa x:=by
 have hk:=(aU.mp h).1;unfold at' ixN;rw[T9 (by lia),T9 (by lia)]
 rw[show(k:Int).toNat=k by lia];exact h
def Jh{r:Row}{k:Nat}(hk:k<r.length):at' (r.map V.int) (k:Int)=aa (.int<|gt r k):=by
 refine Q0 ?_;rw[aJ,ae hk];unfold gt;rw[aC,ae hk];rfl
theorem ZX{B:Type}{g:B->Bool}:∀l:List B,ZV (l.map λx=>.bl<|g x)=aa (l.map g)
 |[]=>rfl
 |x::l=>by rw[a9,ZV,ZX l];rfl
theorem YY:∀r:Row,intsV (r.map V.int)=aa r
 |[]=>rfl
 |a::r=>by show(intsV<|r.map V.int).map (a :: ·)=_;rw[YY r];rfl
theorem YU:∀P:List Row,Z2 (P.map Zb)=aa P
 |[]=>rfl
 |r::P=>by
  show(match intsV (r.map V.int),Z2 (P.map Zb)with|some a,aa b=>aa (a::b)|_,_=>ag)=_
  rw[YY,YU P]
theorem X7:∀r:Row,Z8 (r.map V.int)=ai
 |[]=>rfl
 |a::r=>X7 r
def ji(n:Nat):ZU 0 n=(az n).map λ(k:Nat)=>V.int (k:Int):=by
 refine c8 λk _=>?_
 simp
def Zs{B:Type}{a:B}{s:DS}:po (aa a) s=.ok a s:=rfl
section
variable{C:Zq}{cap:List Nat}{nl:Nat}{t:List Nat}{it:W}{elt tst:E}{O:Env}{s:DS}{B:Type}
def ZI{l:List B}{e g:B->V}(hw:pvw C it O s=.ok (l.map e) s)(hl:l.length<=lim)(h:∀x∈l,∃Z,Zi t (e x) (ZQ cap nl O)=aa Z/\pv C elt Z s=.ok (g x) s)(ho:own nl t=ai:=by rfl):pv C (.comp1 cap nl t it [] elt) O s=.ok (.lst<|l.map g) s:=by
 rw[pv,T9 ho,hw,Za,Ws λx hx=>by
  obtain⟨Z,e1,e2⟩:=h x hx;rw[e1,Zs,Za,pvt,Za];rw[e2];rfl]
 rw[Za,T9 (by rw[aw];exact hl)];rfl
def YQ{l:List B}{e g:B->V}{q:B->Bool}(hw:pvw C it O s=.ok (l.map e) s)(hl:l.length<=lim)(h:∀x∈l,∃Z v,Zi t (e x) (ZQ cap nl O)=aa Z/\pv C tst Z s=.ok v s/\Zn v=aa (q x)/\(q x=ai->pv C elt Z s=.ok (g x) s))(ho:own nl t=ai:=by rfl):pv C (.comp1 cap nl t it [tst] elt) O s=.ok (.lst<|(l.filter q).map g) s:=by
 rw[pv,T9 ho,hw,Za,VE (q:=q) λx hx=>by
  obtain⟨Z,v,e1,e2,e3,e4⟩:=h x hx;rw[e1,Zs,Za,pvt,e2,Za,e3,Zs,Za];cases c:q x with
  |true=>
   rw[T9 rfl,pvt,Za,T9 rfl,T9 rfl,e4 c];rfl
  |false=>rw[T8 (by simp),Za,T8 (by simp),T8 (by simp)]]
 rw[Za,T9 (by rw[aw];exact cp (fc ..) hl)];rfl
def vc{β:Type}{u:List Nat}{jt:W}{l:List B}{e:B->V}{m:B->List β}{e2:β->V}{g:B->β->V}(hw:pvw C it O s=.ok (l.map e) s)(hl:(l.flatMap λx=>(m x).map<|g x).length<=lim)
  (h:∀x∈l,∃Z,Zi t (e x) (ZQ cap nl O)=aa Z/\pvw C jt Z s=.ok ((m x).map e2) s/\∀y∈m x,∃σ',Zi u (e2 y) Z=aa σ'/\pv C elt σ' s=.ok (g x y) s)(ho:own2 nl t u=ai:=by rfl):pv C (.comp2 cap nl t it [] u jt [] elt) O s=.ok (.lst<|l.flatMap λx=>(m x).map<|g x) s:=by
 rw[pv,T9 ho,hw,Za,Vn λx hx=>by
  obtain⟨Z,e1,e3,e4⟩:=h x hx;rw[e1,Zs,Za,pvt,Za,T9 rfl,e3,Za];exact Ws λy hy=>by
   obtain⟨σ',f1,f2⟩:=e4 y hy;rw[f1,Zs,Za,pvt,Za];rw[f2];rfl]
 rw[Za,T9 hl];rfl
def xM{Q:V->Prop}(hw:pvw C it O s=.ok (ZU 0 k) s)(hl:k<=lim)(h:∀(x:V)(s:DS),∃Z y s',Zi t x (ZQ cap nl O)=aa Z/\pv C elt Z s=.ok y s'/\Q y)(ho:own nl t=ai:=by rfl) :
  ∃ys s',pv C (.comp1 cap nl t it [] elt) O s=.ok (.lst ys) s'/\ys.length=k/\∀y∈ys,Q y:=by
 obtain⟨ys,s',e1,e2,e3⟩:=Vd (f:=λx s=>(po (Zi t x<|ZQ cap nl O) s).bind λZ s=>(pvt C [] Z s).bind λb s=>if b then(pv C elt Z s).bind λy s=>.ok [y] s else .ok [] s) (λx s=>by
  obtain⟨Z,y,s',f1,f2,f3⟩:=h x s;refine#[y,s',?_,f3];rw[f1,Zs,Za,pvt,Za];rw[f2];rfl) (ZU 0 k) s
 have hk:(ZU 0 k).length=k:=by unfold ZU;simp
 refine#[ys,s',?_,by rw[e2,hk],e3]
 rw[pv,T9 ho,hw,Za,e1,Za,T9 (by rw[e2,hk];exact hl)];rfl
end
def ZbR{xs:List V}{k:Nat}(h:k<=xs.length):Y2 xs ag (aa (k:Int))=xs.take k:=by
 show(xs.drop 0).take ((if(k:Int)<0 then((k:Int)+xs.length).toNat else oK (k:Int).toNat xs.length)-0)=_
 rw[T8 (by lia),show oK (k:Int).toNat xs.length-0=k by lia];rfl
def Gw{xs:List V}{i:Int}{k:Nat}(hi:i=k)(h:k<=xs.length):Y2 xs (aa i) ag=xs.drop k:=by
 subst hi;show(xs.drop<|if(k:Int)<0 then((k:Int)+xs.length).toNat else oK (k:Int).toNat xs.length).take (xs.length-(if(k:Int)<0 then((k:Int)+xs.length).toNat else oK (k:Int).toNat xs.length))=_
 rw[T8 (by lia),show oK (k:Int).toNat xs.length=k by lia]
 exact cC (by rw[bx];lia)
def GO{xs:List V}:Y2 xs (aa 1) ag=xs.tail:=by
 cases xs with|nil=>rfl|cons x xs=>exact Gw rfl (by simp)
noncomputable def Zd(k:Nat):V:=.int k
def Ji(n:Nat):ZU 0 n=(az n).map Zd:=by rw[ji];rfl
def Xz(h0:0<=i)(h1:i<1000000):YA i=ai:=by
 unfold YA;have e:(2:Int)^62=4611686018427387904:=by decide
 rw[e];exact T5 #[by lia,by lia]
def Zp(hf:F[f]?=aa fn)(hne:f≠tk)(hl:vs.length=fn.ps)(h:rvs (Zk F tk d) (muts fn.body) fn.body (ZN fn.ns vs) [] s=.ok (.ret v) s'):Zk F tk (d+1) f vs s=.ok v s':=by
 rw[ut hf hne hl,h];rfl
def jW(hf:F[f]?=aa fn)(hne:f≠tk)(hl:vs.length=fn.ps)(h:rvs (Zk F tk d) (muts fn.body) fn.body (ZN fn.ns vs) [] s=.ok (.nx O os) s'):Zk F tk (d+1) f vs s=.ok .non s':=by
 rw[ut hf hne hl,h];rfl
def Zj(h:rv C ms m O os s=.ok (.nx ρ' os') s'):rvs C ms (m::l) O os s=rvs C ms l ρ' os' s':=by rw[rvs,h];rfl
def ZE(h:rv C ms m O os s=.ok (.ret v) s'):rvs C ms (m::l) O os s=.ok (.ret v) s':=by rw[rvs,h];rfl
def Yi(h:pv C e O s=.ok v s'):rv C ms (.ret e) O os s=.ok (.ret v) s':=by rw[rv,h];rfl
def ZdU(h:pv C (.call f as) O s=.ok v s'):rv C ms (.ex<|.call f as) O os s=.ok (.nx O os) s':=by
 have:rv C ms (.ex<|.call f as) O os s=(pv C (.call f as) O s).bind λ_ s=>.ok (.nx O os) s:=by
  rw[rv]
  all_goals(intro _ _ z;cases z)
 rw[this,h];rfl
def Wz{b:Bool}{t:E}{x y:List Sm}(h:Wm C t O s=.ok b s'):rv C ms (.ite t x y) O os s=if b=ai then rvs C ms x O os s' else rvs C ms y O os s':=by rw[rv,h];rfl
def Xf{v:V}{b:Bool}{t:E}(h:pv C t O s=.ok v s')(hb:Zn v=aa b):Wm C t O s=.ok b s':=by unfold Wm;rw[h,Za,hb];rfl
def ZF{f:Nat}{as:List E}{vs:List V}{v:V}{s1:DS}(h:pvs C as O s=.ok vs s1)(hc:C f vs s1=.ok v s'):pv C (.call f as) O s=.ok v s':=by rw[pv,h];exact hc
def Zg:pvs C [] O s=.ok [] s:=by rw[pvs]
def Zc{e:E}{es:List E}{v:V}{vs:List V}{s1:DS}(h:pv C e O s=.ok v s1)(h2:pvs C es O s1=.ok vs s'):pvs C (e::es) O s=.ok (v::vs) s':=by rw[pvs,h,Za,h2];rfl
def Zh{i:Nat}{v:V}(h:O[i]?=aa (aa v)):pv C (.v i) O s=.ok v s:=by rw[pv,h];rfl
def Xb{i:Nat}{e:E}{v:V}(h:pv C e O s=.ok v s')(hm:(ms.contains i&&fresh e)=am):rv C ms (.asg [i] e) O [] s=.ok (.nx (O.set i<|aa v) []) s':=by
 rw[rv];show(pv C e O s).bind _=_;rw[h,Za,T8 (by rw[hm];simp)];rfl
def Yx{e:E}{n:Nat}(h:pv C e O s=.ok (.int n) s')(hn:n<1000000):pvw C (.rng1 e) O s=.ok ((az n).map Zd) s':=by
 rw[pvw,h,Za];show(if YA (n:Int)=ai then PR.ok (ZU 0 (n:Int).toNat) s' else .no)=_
 rw[T9 (Xz (by lia) (by lia)),du,Ji]
def VZ{B:Type}{t:List Nat}{it:W}{b:List Sm}{L:List B}{e:B->V}(I:List B->Env->Prop)(hw:pvw C it (hide os O) s=.ok (L.map e) s)(hI:I L O)(ht:(t.any os.contains)=am)
  (h:∀x l O,I (x::l) O->(os.isEmpty||(e x).flat)=ai/\∃ρ1 ρ',Zi t (e x) O=aa ρ1/\rvs C ms b ρ1 os s=.ok (.nx ρ' os) s/\I l ρ') :
  ∃ρ',I [] ρ'/\rv C ms (.forr t it b) O os s=.ok (.nx ρ' os) s:=by
 rw[rv,hw,Za];clear hw
 induction L generalizing O with
 |nil=>exact#[O,hI,rfl]
 |cons x L ih=>
  obtain⟨f,ρ1,ρ',b1,b2,b3⟩:=h x L O hI;obtain⟨ρ2,c1,c2⟩:=ih b3;refine#[ρ2,c1,?_];rw[a9,Y4,T8 (by rw[ht];simp),b1,Zs,Za,b2,Za]
  exact c2
def VP{Z B:Type}{t:List Nat}{it:W}{b:List Sm}{L:List B}{e:B->V}{step:Z->B->Z}{O:Z->Option V->Env}{st:Z}{o:Option V}(I:List B->Z->Prop)(hw:pvw C it (hide os<|O st o) s=.ok (L.map e) s)(hI:I L st)(ht:(t.any os.contains)=am)
  (h:∀x l st o,I (x::l) st->I l (step st x)/\(os.isEmpty||(e x).flat)=ai/\∃ρ1 o',Zi t (e x) (O st o)=aa ρ1/\rvs C ms b ρ1 os s=.ok (.nx (O (step st x) o') os) s) :
  ∃o',I [] (L.foldl step st)/\rv C ms (.forr t it b) (O st o) os s=.ok (.nx (O (L.foldl step st) o') os) s:=by
 rw[rv,hw,Za];clear hw
 induction L generalizing st o with
 |nil=>exact#[o,hI,rfl]
 |cons x L ih=>
  obtain⟨a,f,ρ1,o',b1,b2⟩:=h x L st o hI;obtain⟨o2,c1,c2⟩:=ih (st:=step st x) (o:=o') a;refine#[o2,c1,?_];rw[a9,Y4,T8 (by rw[ht];simp),b1,Zs,Za,b2,Za]
  exact c2
def pvF:(∀a,fresh (.lst a)=ai)/\(∀a b,fresh (.bin .mul (.lst a) b)=ai)/\(∀b,Zn (.bl b)=aa b)/\(∀i,Zn (.int i)=aa (af<|i≠0))/\(∀xs,Zn (.tup xs)=aa (!xs.isEmpty))/\(∀xs,Zn (.lst xs)=aa (!xs.isEmpty))/\(Zn .non=aa am)/\(∀xs i,ixV (.tup xs) (.int i)=at' xs i)/\(∀xs i,ixV (.lst xs) (.int i)=at' xs i)/\(∀xs,Yv (.tup xs)=aa xs)/\(∀xs,Yv (.lst xs)=aa xs)/\(∀x,XC .len [x]=(Yv x).map λxs=>.int xs.length)/\(∀x,XC .tuple [x]=(Yv x).map .tup)/\(∀x,XC .list [x]=(Yv x).map .lst)/\(∀xs,XC .all [.lst xs]=(ZV xs).map λbs=>.bl<|bs.all id)/\(∀a b,XC .max2 [.int a,.int b]=aa (.int (if b>a then b else a)))/\(∀a b,XC .min2 [.int a,.int b]=aa (.int (if b<a then b else a)))/\(∀a,XC .toInt [.int a]=aa (.int a))/\(∀a,XC .toInt [.bl a]=aa (.int<|b2i a))/\(∀xs,XC .sortedR [.lst xs]=(Z2 xs).bind λrs=>if Ya rs=ai then aa (.lst<|(Zu rs).reverse.map Zb)else ag)/\(∀a b s,Y3 .add (.int a) (.int b) s=.ok (.int<|a+b) s)/\(∀a b s,Y3 .sub (.int a) (.int b) s=.ok (.int<|a-b) s)/\(∀a b s,Y3 .mul (.int a) (.int b) s=if(fits a&&fits b)=ai then .ok (.int<|a*b) s else .no)/\(∀a b s,Y3 .mod (.int a) (.int b) s=if 0<b then .ok (.int<|a%b) s else .no)/\(∀a b s,Y3 .add (.tup a) (.tup b) s=if a.length+b.length<=lim then .ok (.tup<|a++b) s else .no)/\(∀a b s,Y3 .mul (.tup a) (.int b) s=if 0<=b/\b<1000/\a.length<=1000 then .ok (.tup (aD b.toNat a).flatten) s else .no)/\(∀a b s,Y3 .mul (.lst a) (.int b) s=if 0<=b/\b<1000/\a.length<=1000 then .ok (.lst (aD b.toNat a).flatten) s else .no)/\(∀a b s,Y3 .add (.lst a) (.lst b) s=if a.length+b.length<=lim then .ok (.lst<|a++b) s else .no)/\(∀x y,Yk .eq x y=(eqV Zr x y).map .bl)/\(∀x y,Yk .ne x y=(eqV Zr x y).map λb=>.bl !b)/\(∀a b,Yk .lt (.int a) (.int b)=aa (.bl<|af<|a<b))/\(∀a b,Yk .gt (.int a) (.int b)=aa (.bl<|af<|b<a))/\(∀a b,Yk .le (.int a) (.int b)=aa (.bl<|af<|a<=b))/\(∀a b,Yk .ge (.int a) (.int b)=aa (.bl<|af<|b<=a))/\(∀x,Yk .is x .non=aa (.bl<|Vw x))/\(∀x,Yk .isn x .non=aa (.bl !(Vw x)))/\(∀a b,Yk .is (.bl a) (.bl b)=aa (.bl<|af<|a=b))/\(∀a b,Yk .isn (.bl a) (.bl b)=aa (.bl !(af<|a=b)))/\(∀x y,Yk .inn x y=(VC x y).map .bl)/\(∀x y,Yk .nin x y=(VC x y).map λb=>.bl !b)/\(Vw .non=ai)/\(∀b,Vw (.bl b)=am)/\(∀b,Vw (.int b)=am)/\(∀b,Vw (.tup b)=am)/\(∀b,Vw (.lst b)=am)/\(ofD .non=aa .non)/\(∀b,ofD (.bl b)=aa (.bl b))/\(∀b,ofD (.int b)=aa (.int b))/\(∀O,YJ [] [] O=aa O)/\(∀i t x xs O,YJ (i::t) (x::xs) O=YJ t xs (O.set i<|aa x))/\(∀i x O,Zi [i] x O=aa (O.set i<|aa x))/\(∀i j t xs O,Zi (i::j::t) (.tup xs) O=YJ (i::j::t) xs O)/\(∀i j t xs O,Zi (i::j::t) (.lst xs) O=YJ (i::j::t) xs O)/\(∀k a b,eqV (k+1) (.int a) (.int b)=aa (af<|a=b))/\(∀k a b,eqV (k+1) (.bl a) (.bl b)=aa (af<|a=b))/\(∀k a b,eqV (k+1) (.tup a) (.tup b)=YE (eqV k) a b)/\(∀k a b,eqV (k+1) (.lst a) (.lst b)=if a.length=b.length then YE (eqV k) a b else aa am):=
 #[λ_=>rfl,λ_ _=>rfl,λ_=>rfl,λ_=>rfl,λ_=>rfl,λ_=>rfl,rfl,λ_ _=>rfl,λ_ _=>rfl,λ_=>rfl,λ_=>rfl,λ_=>rfl,λ_=>rfl,λ_=>rfl,λ_=>rfl,λ_ _=>rfl,λ_ _=>rfl,λ_=>rfl,λ_=>rfl,λ_=>rfl,λ_ _ _=>rfl,λ_ _ _=>rfl,λ_ _ _=>rfl,λ_ _ _=>rfl,λ_ _ _=>rfl,λ_ _ _=>rfl,λ_ _ _=>rfl,λ_ _ _=>rfl,λ_ _=>rfl,λ_ _=>rfl,λ_ _=>rfl,λ_ _=>rfl,λ_ _=>rfl,λ_ _=>rfl,λ_=>rfl,λ_=>rfl,λ_ _=>rfl,λ_ _=>rfl,λ_ _=>rfl,λ_ _=>rfl,rfl,λ_=>rfl,λ_=>rfl,λ_=>rfl,λ_=>rfl,rfl,λ_=>rfl,λ_=>rfl,λ_=>rfl,λ_ _ _ _ _=>rfl,λ_ _ _=>rfl,λ_ _ _ _ _=>rfl,λ_ _ _ _ _=>rfl,λ_ _ _=>rfl,λ_ _ _=>rfl,λ_ _ _=>rfl,λ_ _ _=>rfl]
def pvE:=aR (aR (aR (aR (aR (aR pvF @Za)<|aR @Zs @Wm.eq_1)<|aR (aR @ZN.eq_1 @hide.eq_1)<|aR @ZQ.eq_1 @Option.join.eq_1.{0})<|aR (aR (aR @lim.eq_1 @rvs.eq_1)<|aR @rvs.eq_2 @rv.eq_1)<|aR (aR @rv.eq_2 @rv.eq_3)<|aR @rv.eq_4 @rv.eq_5)<|aR (aR (aR (aR @rv.eq_6 @rv.eq_7)<|aR @rv.eq_8 @rv.eq_9)<|aR (aR @rv.eq_10 @rv.eq_11)<|aR @rv.eq_12 @rv.eq_13)<|aR (aR (aR @rv.eq_14 @rv.eq_15)<|aR @rv.eq_16 @rv.eq_17)<|aR (aR @rv.eq_18 @pvA.eq_1)<|aR @pvA.eq_2<|aR @pvs.eq_1 @pvs.eq_2)<|aR (aR (aR (aR (aR @pvo.eq_1 @pvo.eq_2)<|aR @pvt.eq_1 @pvt.eq_2)<|aR (aR @pvw.eq_1 @pvw.eq_2)<|aR @pvw.eq_3 @pvw.eq_4)<|aR (aR (aR @pvw.eq_5 @pvw.eq_6)<|aR @pvw.eq_7 @pv.eq_1)<|aR (aR @pv.eq_2 @pv.eq_3)<|aR @pv.eq_4<|aR @pv.eq_5 @pv.eq_6)<|aR (aR (aR (aR @pv.eq_7 @pv.eq_8)<|aR @pv.eq_9 @pv.eq_10)<|aR (aR @pv.eq_11 @pv.eq_12)<|aR @pv.eq_13 @pv.eq_14)<|aR (aR (aR @pv.eq_15 @pv.eq_16)<|aR @pv.eq_17 @pv.eq_18)<|aR (aR @pv.eq_19 @pv.eq_20)<|aR @pv.eq_21<|aR @pv.eq_22 @pv.eq_23
end Pv
namespace K33
open Ev Pv Rw La
noncomputable abbrev CV(d:Nat):Zq:=Zk fns 2 d
theorem Qu(C:Zq)(s:DS)(v:V):∀(r:Row)(k:Nat)(a b:Option V),∃a' b',Y4 (λx O os s=>if(([1,2]:List Nat).any os.contains)=ai then .no else(po (Zi [1,2] x O) s).bind λO s=>rvs C [] [.ite (.cmp .ne (.v 2)<|.c<|.int 0) [.ret<|.v 1] []] O os s)
   (((ZU k r.length).zip<|r.map V.int).map λp=>V.tup [p.1,p.2]) [aa v,a,b] [] s=match hdI r with
    |some m=>.ok (.ret<|.int (k+m:Nat)) s
    |none=>.ok (.nx [aa v,a',b'] []) s
 |[],k,a,b=>#[a,b,rfl]
 |x::r,k,a,b=>by
  have er:ZU k (x::r).length=.int k::ZU (k+1:Nat) r.length:=by
   unfold ZU;rw[aK,kJ,a9,bV];refine List.cons_eq_cons.mpr #[by simp,?_]
   .refine c8 λj _=>?_
    show V.int ((k:Int)+((j+1:Nat):Int))=V.int (((k+1:Nat):Int)+(j:Int))
    congr 1
    lia
  obtain⟨a',b',ih⟩:=Qu C s v r (k+1) (aa<|.int k)<|aa<|.int x;refine#[a',b',?_];rw[er,a9,bS,a9,Y4];by_cases c:x=0
  .subst c
   have e0:hdI (0::r)=(hdI r).map (· + 1):=by rw[hdI,T8 (by simp)]
   have e1:(if(([1,2]:List Nat).any ([]:List Nat).contains)=ai then(.no:PR FlV)else(po (Zi [1,2] (V.tup [.int k,.int 0]) [aa v,a,b]) s).bind λO s=>rvs C [] [.ite (.cmp .ne (.v 2)<|.c<|.int 0) [.ret<|.v 1] []] O [] s)=.ok (.nx [aa v,aa<|.int k,aa<|.int 0] []) s:=by
    simp[pvE,Zr]
   rw[e1,Za,e0];show Y4 _ _ [aa v,aa<|.int k,aa<|.int 0] [] s=_;rw[ih];cases hdI r with|none=>rfl|some m=>show PR.ok (FlV.ret<|.int ((k+1+m:Nat):Int)) s=PR.ok (FlV.ret<|.int ((k+(m+1):Nat):Int)) s;congr 3;lia
  .have e0:hdI (x::r)=aa 0:=by rw[hdI,T9 c]
   have e1:(if(([1,2]:List Nat).any ([]:List Nat).contains)=ai then(.no:PR FlV)else(po (Zi [1,2] (V.tup [.int k,.int x]) [aa v,a,b]) s).bind λO s=>rvs C [] [.ite (.cmp .ne (.v 2)<|.c<|.int 0) [.ret<|.v 1] []] O [] s)=.ok (.ret<|.int k) s:=by
    simp[pvE,Zr,c]
   rw[e1,Za,e0];rfl
def xB(d:Nat)(r:Row)(s:DS):CV (d+1) 18 [Zb r] s=.ok (UJ<|hdI r) s:=by
 rw[CV,ut rfl (by decide) rfl]
 obtain⟨a,b,e⟩:=Qu (Zk fns 2 d) s (Zb r) r 0 ag ag;show((rv _ [] (.forr [1,2] (.enum<|.v 0) _) [aa<|Zb r,ag,ag] [] s).bind _).bind _=_;have e2:rv (Zk fns 2 d) [] (.forr [1,2] (.enum<|.v 0) [.ite (.cmp .ne (.v 2)<|.c<|.int 0) [.ret<|.v 1] []]) [aa<|Zb r,ag,ag] [] s=match hdI r with
    |some m=>.ok (.ret<|.int (m:Nat)) s
    |none=>.ok (.nx [aa<|Zb r,a,b] []) s:=by
  rw[rv];have ew:pvw (Zk fns 2 d) (.enum<|.v 0) (hide [] [aa<|Zb r,ag,ag]) s=.ok (((ZU 0 r.length).zip<|r.map V.int).map λp=>V.tup [p.1,p.2]) s:=by
   simp[pvE,Zb]
  rw[ew,Za];simp only[Nat.zero_add,Int.natCast_zero]at e;exact e
 rw[e2];cases hdI r with|none=>rfl|some m=>rfl
section
variable{p n:Nat}[Base p]
def z8:(p:Int)<=5/\(2:Int)<=p:=by rcases(inferInstance:Base p).b with e|e|e<;>subst e<;>decide
end
section
variable{p n:Nat}[Base p]
def WX(C:Zq)(ms:List Nat){i j:Nat}{O:Env}{os:List Nat}{s:DS}{e:E}(h:pvA C e O os s=.ok (spV p n) s)(ho:os.contains i=am/\os.contains j=am):rv C ms (.asg [i,j] e) O os s=.ok (.nx ((O.set i<|aa<|.int p).set j<|aa<|.int n) os) s:=by
 rw[rv,h,Za,T8 (by simpa using ho)]
 .rfl
 .simp
theorem dsum{P:List Row}(hP:pZ p n P):P.length<=n:=by
 have:=xN fld hP.pn;rw[Zat]at this;lia
end
end K33
namespace Rw
open La
open Ev (ltI YH Zu)
section
variable{p n:Nat}[Base p]
noncomputable def XE(p:Nat)(rs:List Row):List Row:=rs.flatMap λr=>(az p).map λ(k:Nat)=>r++[(k:Int)]
noncomputable def ZZ(p n h:Nat):List Row:=(az<|n-(h+1)).foldl (λrs _=>XE p rs) [aD h 0++[1]]
def Za6(p h m:Nat)(r:Row):Prop:=∃t:Row,r=aD h 0++1::t/\t.length=m/\∀a∈t,0<=a/\a<(p:Int)
theorem Zak{h m:Nat}{rs:List Row}(H:∀r∈rs,Za6 p h m r):∀r∈XE p rs,Za6 p h (m+1) r:=λr hr=>by
 obtain⟨q,hq,hr⟩:=c0.mp hr;obtain⟨k,hk,rfl⟩:=aO.mp hr;obtain⟨t,rfl,ht,hb⟩:=H q hq;have hk':=aP.mp hk;refine#[t++[(k:Int)],by simp,by simp[ht],λa ha=>?_]
 rcases cV.mp ha with z|z
 .exact hb a z
 .rw[bh.mp z];exact#[by lia,by lia]
def GZ(rs:List Row):(XE p rs).length=rs.length*p:=by
 unfold XE;rw[hZ];simp only[aw,aZ];rw[n6,gE]
theorem Ge{h:Nat}:∀(L:List Nat){m:Nat}{rs:List Row},(∀r∈rs,Za6 p h m r)->(∀r∈L.foldl (λrs _=>XE p rs) rs,Za6 p h (m+L.length) r)/\(L.foldl (λrs _=>XE p rs) rs).length=rs.length*p^L.length
 |[],m,rs,H=>#[H,by simp]
 |_::L,m,rs,H=>by
  obtain⟨a,b⟩:=Ge L<|Zak H;refine#[λr hr=>?_,?_]
  .have:=a r hr
   rw[show m+1+L.length=m+(L.length+1) by lia]at this
   exact this
  .rw[de,b,GZ,aK,mZ,l5,h9 p]
theorem x6{h:Nat}(hh:h<n):(∀r∈ZZ p n h,Zf p n r/\gt r h=1/\∀i,i<h->gt r i=0)/\(ZZ p n h).length=p^(n-(h+1)):=by
 have hone:(1:Int)<p:=by rcases(inferInstance:Base p).b with e|e|e<;>subst e<;>decide
 obtain⟨a,b⟩:=Ge (p:=p) (az<|n-(h+1)) λr hr=>#[[],by rw[bh.mp hr],rfl,λa ha=>by cases ha]
 refine#[λr hr=>?_,by unfold ZZ;rw[b];simp]
 obtain⟨t,rfl,ht,hb⟩:=a r hr;rw[aZ]at ht;refine#[#[by simp[ht];lia,λx hx=>?_],?_,λi hi=>?_]
 .rcases cV.mp hx with z|z
  .rw[(List.mem_replicate.mp z).2];exact#[by lia,by lia]
  .rcases aB.mp z with rfl|z
   .exact#[by lia,hone]
   .exact hb x z
 .unfold gt;rw[aC,bq (by simp)];simp
 .unfold gt;rw[aC,bI (by simpa using hi),cw];simp[hi]
end
end Rw
namespace Rw
open Ev (ltP Z7 ZY)
noncomputable def ZcE:List (Nat×Nat):=[(2,1),(2,2),(2,3),(2,4),(3,1),(3,2),(3,3),(5,1),(5,2)]
noncomputable def ZcU:List (Nat×Nat):=[(2,5),(2,6),(3,4),(5,3)]
open La
section
variable{p n:Nat}[Base p]
def xG(hW:pZ p n W)(hr:Zf p n r)(h:∀i,gt r i=0):X0 p W r=ai:=by
 rw[Z5 hW hr];have e:toV p r=λ_=>0:=by funext k;exact(Z6 hr).mpr<|h k
 rw[e];exact WK
def yq(hW:pZ p n W)(hr:r∈W):X0 p W r=ai:=by
 rw[Z5 hW<|hW.row r hr];exact XR hW.pn.rf<|Yc hr
end
noncomputable def rise(hs:List Nat):Bool:=(hs.zip hs.tail).all λq=>af<|q.1<q.2
theorem WJ:∀{hs:List Nat},rise hs=ai↔hs.Pairwise (· < ·)
 |[]=>by simp[rise]
 |[a]=>by simp[rise]
 |a::b::l=>by
  have ih:=WJ (hs:=b::l);unfold rise at ih ⊢;rw[oJ,bS,fQ,aA,T0];rw[oJ]at ih
  constructor
  .intro#[h1,h2]
   have h3:=ih.mp h2;refine aV.mpr #[λx hx=>?_,h3]
   rcases aB.mp hx with rfl|hx
   .exact h1
   .exact dq h1<|(aV.mp h3).1 x hx
  .intro h
   obtain⟨h1,h2⟩:=aV.mp h;exact#[h1 b<|al ..,ih.mpr h2]
noncomputable def WV(R:List Row)(i k:Nat):Bool:=af (gt (R.getD i []) k=1)&&(R.take i++R.drop (i+1)).all λr=>af<|gt r k=0
noncomputable def Vr(R:List Row):Bool:=(R.all λr=>(hdI r).isSome)&&(rise (Zy R)&&(az R.length).all λi=>WV R i<|(Zy R).getD i 0)
section
variable{p n:Nat}[Base p]
def QZ{R:List Row}{i:Nat}(hi:i<R.length):R.getD i []=R[i]:=by rw[aC,ae hi];rfl
def Uc(hi:i<R.length):(Zy R).getD i 0=(hdI R[i]).getD 0:=by
 unfold Zy;rw[aC,aJ,ae hi];rfl
def Zc9{R:List Row}{i j:Nat}(hj:j<R.length)(h:j≠i):R[j]∈R.take i++R.drop (i+1):=by
 by_cases c:j<i
 .refine dG _ ?_
  have hl:j<(R.take i).length:=by rw[bw];omega
  rw[<-fm];exact aW hl
 .refine bC _ ?_
  have hl:j-(i+1)<(R.drop<|i+1).length:=by rw[bx];omega
  have e:(R.drop<|i+1)[j-(i+1)]=R[j]:=by rw[fq];congr 1;omega
  rw[<-e];exact aW hl
def Qr{R:List Row}{i:Nat}{r:Row}(h:r∈R.take i++R.drop (i+1)):∃j,∃(hj:j<R.length),j≠i/\R[j]=r:=by
 rcases cV.mp h with z|z
 .obtain⟨j,hj,e⟩:=cH z
  rw[bw]at hj;exact#[j,by omega,by omega,by rw[<-e,fm]]
 .obtain⟨j,hj,e⟩:=cH z
  rw[bx]at hj;exact#[i+1+j,by omega,by omega,by rw[<-e,fq]]
def QT:ph p 1=1:=by
 rcases(inferInstance:Base p).b with e|e|e<;>subst e<;>rfl
def VR(hr:Zf p n r):toV p r k=1↔gt r k=1:=by
 have hb:=(inferInstance:Base p).b
 constructor
 .intro h
  refine zA (Vu ppos hr k) #[by omega,by omega] ?_
  rw[QT];exact h
 .intro h
  unfold toV;rw[h,QT]
def WZ{R:List Row}(hR:∀r∈R,Zf p n r):Vr R=ai↔pZ p n R:=by
 unfold Vr;simp only[aA,aT,aP]
 constructor
 .intro#[h1,h2,h3]
  have hd:∀i (hi:i<R.length),∃k,hdI R[i]=aa k/\gt R[i] k=1/\∀j (hj:j<R.length),j≠i->gt R[j] k=0:=λi hi=>by
   obtain⟨k,hk⟩:=bO.mp<|h1 _<|aW hi;have a:=h3 i hi;unfold WV at a;rw[Uc hi,QZ hi,hk,aA,T0,aT]at a;exact#[k,hk,a.1,λj hj ne=>T6<|a.2 _<|Zc9 hj ne]
  have inc:=WJ.mp h2;have memP:∀a∈toP p R,∃i,∃(hi:i<R.length),a=((hdI R[i]).getD 0,toV p R[i]):=λa ha=>by
   obtain⟨r,hr,rfl⟩:=aO.mp ha;obtain⟨i,hi,rfl⟩:=cH hr;exact#[i,hi,rfl]
  refine#[hR,#[#[?_,λa ha j hj=>?_,λa ha=>?_,λa ha b hb ne=>?_],λa ha=>?_,λa ha=>?_]]
  .rw[<-XY (p:=p)]at inc
   exact cA.mp inc
  .obtain⟨i,hi,rfl⟩:=memP a ha
   obtain⟨k,hk,_,_⟩:=hd i hi;rw[hk]at hj;exact(Z6<|hR _<|aW hi).mpr<|(Z0 hk).2.2 j hj
  .obtain⟨i,hi,rfl⟩:=memP a ha
   obtain⟨k,hk,h,_⟩:=hd i hi;rw[hk];exact(VR<|hR _<|aW hi).mpr h
  .obtain⟨i,hi,rfl⟩:=memP a ha
   obtain⟨j,hj,rfl⟩:=memP b hb;obtain⟨k,hk,_,h⟩:=hd i hi;rw[hk];refine(Z6<|hR _<|aW hj).mpr<|h j hj λe=>?_
   subst e;exact ne rfl
  .obtain⟨i,hi,rfl⟩:=memP a ha
   obtain⟨k,hk,_,_⟩:=hd i hi;rw[hk,<-(hR _<|aW hi).1];exact(Z0 hk).2.1
  .obtain⟨i,hi,rfl⟩:=memP a ha
   exact WQ<|hR _<|aW hi
 .intro hP
  have hk:∀r∈R,∃k,hdI r=aa k/\k<n/\toV p r k=1:=λr hr=>hP.head fld.one0 hr
  refine#[λr hr=>?_,WJ.mpr ?_,λi hi=>?_]
  .obtain⟨k,e,_⟩:=hk r hr
   rw[e];rfl
  .rw[<-XY (p:=p)];exact hP.pn.rf.heads
  .obtain⟨k,e,_,h1⟩:=hk _ (aW hi)
   unfold WV;rw[Uc hi,QZ hi,e,aA,T0,aT];refine#[(VR<|hR _<|aW hi).mp h1,λr hr=>?_]
   obtain⟨j,hj,ne,rfl⟩:=Qr hr;refine T5 ?_;obtain⟨k2,e2,_,_⟩:=hk _<|aW hj;have hh:((hdI R[i]).getD 0,toV p R[i]).1≠((hdI R[j]).getD 0,toV p R[j]).1:=by
    have inc:(Zy R).Pairwise (· < ·):=by rw[<-XY (p:=p)];exact hP.pn.rf.heads
    have pw:=bu.mp inc;have li:(Zy R).length=R.length:=by unfold Zy;rw[aw]
    have gi:∀m (hm:m<R.length),(Zy R)[m]'(by omega)=(hdI R[m]).getD 0:=λm hm=>by unfold Zy;rw[List.getElem_map]
    intro z;have z:=z;rcases Nat.lt_or_gt_of_ne ne with c|c
    .have:=pw j i (by omega) (by omega) c
     rw[gi j hj,gi i hi]at this;omega
    .have:=pw i j (by omega) (by omega) c
     rw[gi j hj,gi i hi]at this;omega
   have:=hP.pn.rf.zer _ (Yc<|aW hi) _ (Yc<|aW hj) hh;rw[e]at this;exact(Z6<|hR _<|aW hj).mp this
end
end Rw
namespace Ab
open Ev Pv
mutual
noncomputable def okV:V->Bool
 |.tup xs=>X5 xs
 |.lst xs=>X5 xs
 |.drw=>am
 |.scr _=>am
 |.dct (aa _)=>am
 |.dow _=>am
 |_=>ai
noncomputable def X5:List V->Bool
 |[]=>ai
 |x::xs=>okV x&&X5 xs
end
end Ab
namespace K33
open Ev Pv Rw La
open Ab (okV X5)
theorem zN:∀{xs:List V},X5 xs=ai->∀x∈xs,okV x=ai
 |[],_,x,h=>by cases h
 |y::xs,h,x,m=>by
  obtain⟨h1,h2⟩:=(aA _ _).mp h;rcases aB.mp m with rfl|m
  .exact h1
  .exact zN h2 x m
noncomputable def isW(x:V)(lo hi:Int):Bool:=match x with
 |.int i=>af (lo<=i)&&af (i<=hi)
 |_=>am
def Zda{x:V}{lo hi:Int}(h:∀i,x≠.int i):isW x lo hi=am:=by
 cases x with|int i=>exact T7 rfl<|h i|_=>rfl
def Zcw{x:V}(hx:okV x=ai):(∃i,x=.int i)\/(∃b,x=.bl b)\/Z9 x [.int]=aa am/\∀i,x≠.int i:=by
 cases x with
 |int i=>exact .inl #[i,rfl]
 |bl b=>exact .inr<|.inl #[b,rfl]
 |drw=>cases hx
 |scr _=>cases hx
 |dow _=>cases hx
 |dct o=>cases o with|none=>exact .inr<|.inr #[rfl,nofun]|some _=>cases hx
 |_=>exact .inr<|.inr #[rfl,nofun]
def qC{x:V}(hx:okV x=ai):(∃xs,x=.tup xs)\/Z9 x [.tuple]=aa am/\∀xs,x≠.tup xs:=by
 cases x with
 |tup xs=>exact .inl #[xs,rfl]
 |drw=>cases hx
 |scr _=>cases hx
 |dow _=>cases hx
 |dct o=>cases o with|none=>exact .inr #[rfl,nofun]|some _=>cases hx
 |_=>exact .inr #[rfl,nofun]
def GF(d:Nat){x:V}{lo hi:Int}(s:DS)(hx:okV x=ai):CV (d+1) 13 [x,.int lo,.int hi] s=.ok (.bl<|isW x lo hi) s:=by
 refine Zp rfl (by decide) rfl ?_
 rcases Zcw hx with⟨i,rfl⟩|⟨b,rfl⟩|⟨ha,no⟩
 .by_cases h:lo<=i
  .simp[YD,pvE,isW,Z9,Yz,h]
  .simp[YD,pvE,isW,Z9,Yz,h]
 .simp[YD,pvE,isW,Z9,Yz]
 .rw[Zda no]
  simp[YD,pvE,ha]
noncomputable def Yb(p n:Nat)(x:V):Bool:=match x with
 |.tup xs=>af (xs.length=n)&&xs.all λv=>isW v 0<|(p:Int)-1
 |_=>am
def Zb2{p n:Nat}{x:V}(h:∀xs,x≠.tup xs):Yb p n x=am:=by
 cases x with|tup xs=>exact T7 rfl<|h xs|_=>rfl
theorem Wt{p:Nat}:∀{xs:List V},(xs.all λv=>isW v 0<|(p:Int)-1)=ai->∃r:Row,xs=r.map .int/\∀a∈r,0<=a/\a<(p:Int)
 |[],_=>#[[],rfl,λ_ h=>by cases h]
 |x::xs,h=>by
  rw[fQ,aA]at h;obtain⟨r,rfl,hr⟩:=Wt h.2;cases x with
  |int i=>
   have:=h.1;simp only[isW,aA,T0]at this;refine#[i::r,rfl,λa ha=>?_]
   rcases aB.mp ha with rfl|ha
   .lia
   .exact hr a ha
  |_=>cases h.1
def Zce{p n:Nat}{x:V}(h:Yb p n x=ai):∃r:Row,x=Zb r/\Zf p n r:=by
 cases x with
 |tup xs=>
  unfold Yb at h;rw[aA,T0]at h;obtain⟨r,rfl,hr⟩:=Wt h.2;exact#[r,rfl,by simpa using h.1,hr]
 |_=>cases h
def Zdr{p n:Nat}{r:Row}(hr:Zf p n r):Yb p n (Zb r)=ai:=by
 unfold Yb Zb;rw[aA,T0,aw];refine#[hr.1,aT.mpr λv hv=>?_]
 obtain⟨a,ha,rfl⟩:=aO.mp hv;have:=hr.2 a ha;simp only[isW,aA,T0];lia
theorem yx:∀r:Row,X5 (r.map .int)=ai
 |[]=>rfl
 |a::r=>yx r
def ZbY(r:Row):okV (Zb r)=ai:=yx r
section
variable{p n:Nat}[Base p]
theorem jy(d:Nat){x:V}(s:DS)(hn:n<=6)(hx:okV x=ai):CV (d+2) 20 [spV p n,x] s=.ok (.bl<|Yb p n x) s:=by
 refine Zp rfl (by decide) rfl ?_
 dsimp only[J0]
 rw[Zj<|WX (p:=p) (n:=n) _ _ (by simp[pvE]) (by simp)]
 rcases qC hx with⟨xs,rfl⟩|⟨ha,no⟩
 ·
  by_cases hl:xs.length=n
  .rw[Zj (ρ':=[aa<|spV p n,aa<|.tup xs,aa<|.int p,aa<|.int n]) (os':=[]) (s':=s) (by simp[pvE,Z9,Yz,Zr,hl])]
   refine ZE<|Yi ?_;have hc:=ZI (C:=CV<|d+1) (cap:=[2]) (nl:=1) (t:=[0]) (it:=.of<|.v 1) (elt:=.call 13 [(.v 0),(.c<|.int 0),(.bin .sub (.v 1)<|.c<|.int 1)]) (O:=[aa<|spV p n,aa<|.tup xs,aa<|.int p,aa<|.int n]) (s:=s) (l:=xs) (e:=id) (g:=λv=>V.bl<|isW v 0<|(p:Int)-1)
    (by simp[pvE]) (by unfold lim;lia) (λv hv=>#[_,rfl,by
     have e:=GF d (lo:=0) (hi:=(p:Int)-1) s<|zN hx v hv;simp[pvE,e]])
   have ht:=ZX (g:=λv:V=>isW v 0<|(p:Int)-1) xs
   simp[pvE,hc,ht,Yb,hl]
  .refine ZE ?_
   simp[pvE,Z9,Yz,Zr,Yb,hl];lia
 .rw[Zb2 no]
  exact ZE (by simp[pvE,ha])
theorem wp(d:Nat){hs:List Nat}(s:DS)(hl:hs.length<=1000):CV (d+1) 12 [.lst<|hs.map Zd] s=.ok (.bl<|rise hs) s:=by
 refine Zp rfl (by decide) rfl ?_
 have ez:∀(a b:List Nat),((a.map Zd).zip<|b.map Zd).map (λq=>V.tup [q.1,q.2])=(a.zip b).map λq=>V.tup [Zd q.1,Zd q.2]:=by
  intro a
  induction a with
  |nil=>intro b;rfl
  |cons x a ih=>intro b;cases b with|nil=>rfl|cons y b=>simp only[a9,bS];rw[ih]
 have hc:=ZI (C:=CV d) (cap:=[]) (nl:=2) (t:=[0,1]) (it:=.zip (.v 0)<|.sl (.v 0) (aa<|.c<|.int 1) ag) (elt:=.cmp .lt (.v 0)<|.v 1) (O:=[aa<|.lst<|hs.map Zd]) (s:=s) (l:=hs.zip hs.tail) (g:=λq=>V.bl<|af<|q.1<q.2)
  (by
   have e1:Y2 (hs.map Zd) (aa 1) ag=hs.tail.map Zd:=by rw[GO,kg]
   simp[pvE,slV,e1];rw[<-kg,ez]) (by rw[fW];unfold lim;lia) (λq hq=>#[_,rfl,by simp[pvE,Zd]])
 have ht:=ZX (g:=λq:Nat×Nat=>af<|q.1<q.2)<|hs.zip hs.tail
 simp[XG,pvE,hc,ht,rise]
theorem zn(d:Nat){R:List Row}{k:Nat}(s:DS)(hl:R.length<=1000)(hk:∀r∈R,k<r.length):CV (d+1) 16 [Ze R,.int k] s=.ok (.bl<|R.all λr=>af<|gt r k=0) s:=by
 refine Zp rfl (by decide) rfl ?_
 have hc:=ZI (C:=CV d) (cap:=[1]) (nl:=1) (t:=[0]) (it:=.of<|.v 0) (elt:=.cmp .eq (.ix (.v 0)<|.v 1)<|.c<|.int 0) (O:=[aa<|Ze R,aa<|.int k]) (s:=s) (l:=R) (e:=Zb) (g:=λr=>V.bl<|af<|gt r k=0)
  (by simp[pvE,Ze]) (by unfold lim;lia) (λr hr=>#[_,rfl,by
   have:=Jh<|hk r hr;simp[pvE,Zb,this,Zr]])
 have ht:=ZX (g:=λr:Row=>af<|gt r k=0) R
 simp[Y7,pvE,hc,ht]
theorem Q7(d:Nat){R:List Row}{i k:Nat}(s:DS)(hR:∀r∈R,Zf p n r)(hl:R.length<=1000)(hi:i<R.length)(hk:k<n):CV (d+2) 19 [Ze R,Zd i,Zd k] s=.ok (.bl<|WV R i k) s:=by
 refine Zp rfl (by decide) rfl ?_
 show rvs (CV<|d+1) [] Xv.body [aa<|Ze R,aa<|.int i,aa<|.int k] [] s=_;have hrow:=hR _<|aW hi;have e1:at' (R.map Zb) (i:Int)=aa (Zb R[i]):=Q0 (by rw[aJ,ae hi];rfl)
 have e2:=Jh (by rw[hrow.1];exact hk)
 have e3:=zn d (R:=R.take i++R.drop (i+1)) s (by rw[ba,bw,bx];lia) (λr hr=>by
  obtain⟨j,hj,ne,rfl⟩:=Qr hr;rw[(hR _<|aW hj).1];exact hk)
 have c1:Y2 (R.map Zb) ag (aa (i:Int))=(R.take i).map Zb:=by rw[ZbR (by rw[aw];lia),List.map_take]
 have c2:Y2 (R.map Zb) (aa<|(i:Int)+1) ag=(R.drop<|i+1).map Zb:=by rw[Gw (k:=i+1) (by lia) (by rw[aw];lia),List.map_drop]
 have g0:pv (CV<|d+1) (.ix (.ix (.v 0)<|.v 1)<|.v 2) [aa<|Ze R,aa<|.int i,aa<|.int k] s=.ok (.int<|gt R[i] k) s:=by
  rw[pv,pv,Zh rfl,Za,Zh rfl,Za];show((po (at' (R.map Zb) (i:Int)) s).bind _)=_;rw[e1,Zs,Za,Zh rfl,Za];show po (at' (R[i].map V.int) (k:Int)) s=_;rw[e2];rfl
 have g1:pv (CV<|d+1) (.cmp .eq (.ix (.ix (.v 0)<|.v 1)<|.v 2)<|.c<|.int 1) [aa<|Ze R,aa<|.int i,aa<|.int k] s=.ok (.bl<|af<|gt R[i] k=1) s:=by
  rw[pv,g0,Za];simp[pvE,ofD,Zr]
 have g2:pv (CV<|d+1) (.bin .add (.sl (.v 0) ag<|aa<|.v 1)<|.sl (.v 0) (aa<|.bin .add (.v 1)<|.c<|.int 1) ag) [aa<|Ze R,aa<|.int i,aa<|.int k] s=.ok (Ze<|R.take i++R.drop (i+1)) s:=by
  have c3:(R.take i).length+(R.drop<|i+1).length<=16777216:=by rw[bw,bx];lia
  rw[bw,bx]at c3;simp[pvE,Ze,slV,c1,c2,c3]
 have g3:=ZF (Zc g2<|Zc (Zh (i:=2) rfl) Zg) e3;refine ZE<|Yi ?_;rw[pv,g1,Za];unfold WV;rw[QZ hi];cases af (gt R[i] k=1)with|true=>exact g3|false=>rfl
theorem y8:∀R:List Row,Wj .non (R.map λr=>UJ<|hdI r)=aa (!(R.all λr=>(hdI r).isSome))
 |[]=>rfl
 |r::R=>by
  show(match eqV Zr (UJ<|hdI r) .non,Wj .non (R.map λr=>UJ<|hdI r)with|some a,aa b=>aa (a||b)|_,_=>ag)=_
  rw[y8 R,fQ];cases hdI r with|none=>simp[UJ,eqV,Zr]|some k=>simp[UJ,eqV,Zr]
def vS{R:List Row}(h:(R.all λr=>(hdI r).isSome)=ai):R.map (λr=>UJ<|hdI r)=(Zy R).map Zd:=by
 unfold Zy;rw[bV];refine c8 λr hr=>?_
 obtain⟨k,hk⟩:=bO.mp<|aT.mp h r hr;show UJ (hdI r)=Zd ((hdI r).getD 0);rw[hk];rfl
theorem vI(d:Nat){R:List Row}(s:DS)(hn:n<=6)(hR:∀r∈R,Zf p n r)(hl:R.length<=1000):rvs (CV<|d+2) [] (W6.body.drop 1) [aa<|spV p n,aa<|Ze R,ag] [] s=.ok (.ret<|.bl<|Vr R) s:=by
 show rvs _ _ (.asg [2] (.comp1 [] 1 [0] (.of<|.v 1) []<|.call 18 [(.v 0)]) ::
  .ite (.or (.cmp .inn (.c .non)<|.v 2)<|.not<|.call 12 [(.v 2)]) [.ret<|.c<|.bl am] [] ::
  .ret (.blt .all [(.comp1 [1] 2 [0,1] (.enum<|.v 2) []<|.call 19 [(.v 2),(.v 0),(.v 1)])])::[]) _ _ _=_
 have hc2:=ZI (C:=CV<|d+2) (cap:=[]) (nl:=1) (t:=[0]) (it:=.of<|.v 1) (elt:=.call 18 [(.v 0)]) (O:=[aa<|spV p n,aa<|Ze R,ag]) (s:=s) (l:=R) (e:=Zb) (g:=λr=>UJ<|hdI r)
  (by simp[pvE,Ze]) (by unfold lim;lia) (λx hx=>#[_,rfl,by
   have e:=xB (d+1) x s;simp[pvE,e]])
 rw[Zj (ρ':=[aa<|spV p n,aa<|Ze R,aa<|.lst<|R.map λr=>UJ<|hdI r]) (os':=[]) (s':=s) (by simp[pvE,hc2])]
 have hin:=y8 R;unfold Vr;cases hh:R.all λr=>(hdI r).isSome with
 |false=>
  rw[hh]at hin;exact ZE (by simp[pvE,VC,hin])
 |true=>
  rw[hh]at hin;rw[vS hh]at hin ⊢;have hln:(Zy R).length=R.length:=by unfold Zy;rw[aw]
  have e3:=wp (d+1) (hs:=Zy R) s (by lia)
  cases hr:rise (Zy R)with
  |false=>
   rw[hr]at e3;exact ZE (by simp[pvE,VC,hin,e3])
  |true=>
  rw[hr]at e3;rw[Zj (ρ':=[aa<|spV p n,aa<|Ze R,aa<|.lst<|(Zy R).map Zd]) (os':=[]) (s':=s) (by simp[pvE,VC,hin,e3])]
  refine ZE<|Yi ?_;have ew:((ZU 0 (Zy R).length).zip<|(Zy R).map Zd).map (λq=>V.tup [q.1,q.2])=(az R.length).map λi=>V.tup [Zd i,Zd<|(Zy R).getD i 0]:=by
   apply gM
   .simp[ZU,hln]
   .intro i h1 h2
    have h3:i<R.length:=by simpa using h2
    have h4:i<(Zy R).length:=by lia
    simp[ZU,Zd,h4]
  have hc3:=ZI (cap:=[1]) (nl:=2) (t:=[0,1]) (elt:=.call 19 [(.v 2),(.v 0),(.v 1)]) (l:=az R.length)
   (by
    have:pvw (CV<|d+2) (.enum<|.v 2) [aa<|spV p n,aa<|Ze R,aa<|.lst<|(Zy R).map Zd] s=.ok (((ZU 0 ((Zy R).map Zd).length).zip<|(Zy R).map Zd).map λq=>V.tup [q.1,q.2]) s:=by simp[pvE]
    rw[this,aw,ew]) (by rw[aZ];unfold lim;lia) (λi hi=>#[_,rfl,by
    have hi':=aP.mp hi;have hk:(Zy R).getD i 0<n:=by
     rw[Uc hi'];obtain⟨k,hk⟩:=bO.mp<|aT.mp hh _<|aW hi';rw[hk,<-(hR _<|aW hi').1];exact(Z0 hk).2.1
    exact ZF (Zc (Zh rfl)<|Zc (Zh rfl)<|Zc (Zh rfl) Zg)<|Q7 d s hR hl hi' hk])
  have ht3:=ZX (g:=λi:Nat=>WV R i<|(Zy R).getD i 0)<|az R.length
  rw[pv,Zc hc3 Zg,Za];show po ((ZV _).map λbs=>V.bl<|bs.all id) s=_
  rw[ht3];show PR.ok (V.bl<|(lw _ _).all id) s=_;rw[ic];rfl
noncomputable def isP(p n:Nat)(x:V):Bool:=match x with
 |.tup xs=>xs.all (Yb p n)&&match Z2 xs with
  |some R=>Vr R
  |none=>am
 |_=>am
theorem W3:∀{xs:List V},xs.all (Yb p n)=ai->∃R:List Row,xs=R.map Zb/\∀r∈R,Zf p n r
 |[],_=>#[[],rfl,λ_ h=>by cases h]
 |x::xs,h=>by
  rw[fQ,aA]at h;obtain⟨R,rfl,hR⟩:=W3 h.2;obtain⟨r,rfl,hr⟩:=Zce h.1;refine#[r::R,rfl,λa ha=>?_]
  rcases aB.mp ha with rfl|ha
  .exact hr
  .exact hR a ha
def Za9{x:V}:isP p n x=ai↔∃P,x=Ze P/\pZ p n P:=by
 constructor
 .intro h
  cases x with
  |tup xs=>
   unfold isP at h;rw[aA]at h;obtain⟨R,rfl,hR⟩:=W3 h.1;have h2:=h.2;rw[YU]at h2;exact#[R,rfl,(WZ hR).mp h2]
  |_=>cases h
 .rintro ⟨P,rfl,hP⟩
  show(_&&_)=ai;rw[aA,YU];refine#[aT.mpr λv hv=>?_,(WZ hP.row).mpr hP]
  obtain⟨r,hr,rfl⟩:=aO.mp hv;exact Zdr<|hP.row r hr
def ZcW{x:V}(h:∀xs,x≠.tup xs):isP p n x=am:=by
 cases x with|tup xs=>exact T7 rfl<|h xs|_=>rfl
theorem vJ(d:Nat){x:V}(s:DS)(hn:n<=6)(hx:okV x=ai)(hl:∀xs,x=.tup xs->xs.length<=1000):CV (d+3) 21 [spV p n,x] s=.ok (.bl<|isP p n x) s:=by
 refine Zp rfl (by decide) rfl ?_
 show rvs (CV<|d+2) [] (.ite (.or (.not<|.isi (.v 1) [.tuple])<|.not<|.blt .all [(.comp1 [0] 1 [0] (.of<|.v 1) []<|.call 20 [(.v 1),(.v 0)])]) [.ret<|.c<|.bl am] []::W6.body.drop 1) [aa<|spV p n,aa x,ag] [] s=_;rcases qC hx with⟨xs,rfl⟩|⟨ha,no⟩
 ·
  have hl:=hl xs rfl;have hc1:=ZI (C:=CV<|d+2) (cap:=[0]) (nl:=1) (t:=[0]) (it:=.of<|.v 1) (elt:=.call 20 [(.v 1),(.v 0)]) (O:=[aa<|spV p n,aa<|.tup xs,ag]) (s:=s) (l:=xs) (e:=id) (g:=λv=>V.bl<|Yb p n v)
   (by simp[pvE]) (by unfold lim;lia) (λv hv=>#[_,rfl,by
    have e:=jy (p:=p) d s hn<|zN hx v hv;simp[pvE,e]])
  have ht:=ZX (g:=λv:V=>Yb p n v) xs
  have hpt:Z9 (.tup xs) [.tuple]=aa ai:=rfl;cases ha:xs.all (Yb p n)with
  |false=>
   have hf:(xs.map λv=>Yb p n v).all id=am:=by rw[ic];exact ha
   refine ZE ?_;simp[pvE,hpt,hc1,ht,isP,ha,hf]
  |true=>
   have hf:(xs.map λv=>Yb p n v).all id=ai:=by rw[ic];exact ha
   rw[Zj (ρ':=[aa<|spV p n,aa<|.tup xs,ag]) (os':=[]) (s':=s) (by simp[pvE,hpt,hc1,ht,hf])]
   obtain⟨R,rfl,hR⟩:=W3 ha;have e:=vI d s hn hR (by simpa using hl)
   have eb:isP p n (.tup<|R.map Zb)=Vr R:=by
    show((R.map Zb).all (Yb p n)&&match Z2 (R.map Zb)with|some R=>Vr R|none=>am)=_
    rw[ha,YU];rfl
   rw[eb];exact e
 .rw[ZcW no]
  exact ZE (by simp[pvE,ha])
theorem xm:∀P:List Row,X5 (P.map Zb)=ai
 |[]=>rfl
 |r::P=>by
  show(okV (Zb r)&&X5 (P.map Zb))=ai;rw[ZbY,xm P];rfl
def jC(P:List Row):okV (Ze P)=ai:=xm P
def z5{P:List Row}(hP:pZ p n P):∀xs,Ze P=.tup xs->xs.length<=n:=λxs e=>by
 cases e;rw[aw];exact dsum hP
theorem ZaX(d:Nat){P:List Row}(s:DS)(hn:n<=6)(hP:pZ p n P):CV (d+3) 21 [spV p n,Ze P] s=.ok (.bl ai) s:=by
 have e:=vJ (p:=p) d s hn (jC P) λxs z=>by have:=z5 hP xs z;lia
 rw[Za9.mpr #[P,rfl,hP]]at e;exact e
def wl(d:Nat){P:List Row}(s:DS)(hn:n<=6)(hP:pZ p n P):CV (d+4) 22 [spV p n,Ze P] s=.ok .non s:=by
 have e:=ZaX (p:=p) d s hn hP;refine jW (O:=[aa<|spV p n,aa<|Ze P]) (os:=[]) rfl (by decide) rfl ?_
 simp[VD,pvE,e]
end
end K33
namespace Rw
open La
open Ev (ltP Z7 ZY)
section
variable{p n:Nat}[Base p]
variable{k:Nat}
theorem Ub{B:Type}[BEq B][LawfulBEq B]:∀{L A:List B},L.Nodup->(∀x∈L,x∈A)->L.length<=A.length
 |[],_,_,_=>dz _
 |x::L,A,h,hs=>by
  rw[dy]at h;have h1:=Ub (L:=L) (A:=A.erase x) h.2 λy hy=>(List.mem_erase_of_ne (show y≠x from λe=>h.1<|by rw[<-e];exact hy)).mpr<|hs y<|aj _ hy
  have h2:=hs x<|al ..;have h3:=List.length_erase_of_mem h2;have h4:=List.length_pos_of_mem h2;rw[aK];omega
end
noncomputable def VF(p:Nat)(L:List Row)(o:Row):List Row:=(az p).flatMap λ(k:Nat)=>L.map λr=>ZK p r o (k:Int)
noncomputable def yD(p n:Nat)(P:List Row):List Row:=P.foldl (VF p) [aD n 0]
def wZ(L:List Row)(o:Row):(VF p L o).length=L.length*p:=by
 unfold VF;rw[hZ,show((az p).map λ(k:Nat)=>(L.map λr=>ZK p r o (k:Int)).length)=aD p L.length from gM (by simp) λi h1 h2=>by simp,gE,h9]
def qL(P:List Row):(yD p n P).length=p^P.length:=by
 unfold yD
 suffices ∀(P L:List Row),(P.foldl (VF p) L).length=L.length*p^P.length by rw[this];simp
 intro P
 induction P with|nil=>intro L;simp|cons o P ih=>intro L;rw[de,ih,wZ,aK,mZ,l5,h9 p]
section
variable{p n:Nat}[Base p]
def Yg:Zf p n (aD n 0):=#[bR,λa ha=>by
 have:=(inferInstance:Base p).b;rw[kh ha];omega]
def Wx(j:Nat):gt (aD n 0) j=0:=by
 unfold gt;rw[aC,cw];split<;>rfl
def w4(hL:∀r∈L,Zf p n r)(ho:Zf p n o):∀r∈VF p L o,Zf p n r:=λr hr=>by
 obtain⟨k,_,h⟩:=c0.mp hr;obtain⟨q,hq,rfl⟩:=aO.mp h;exact Zo (hL q hq) ho
def jD(hW:pZ p n W)(hr:Zf p n r)(ho:Zf p n o)(h1:X0 p W r=ai)(h2:X0 p W o=ai):X0 p W (ZK p r o k)=ai:=by
 rw[Z5 hW<|Zo hr ho];rw[ZT hr ho];exact WR (ph p k) ((Z5 hW hr).mp h1)<|(Z5 hW ho).mp h2
theorem yC(hW:pZ p n W):∀{P L:List Row},(∀r∈P,r∈W)->(∀r∈L,Zf p n r/\X0 p W r=ai)->∀r∈P.foldl (VF p) L,Zf p n r/\X0 p W r=ai
 |[],_,_,h=>h
 |o::P,L,hP,h=>by
  have ho:=hP o<|al ..;refine yC hW (P:=P) (λr hr=>hP r<|aj _ hr) λr hr=>?_
  obtain⟨k,_,h3⟩:=c0.mp hr;obtain⟨q,hq,rfl⟩:=aO.mp h3;exact#[Zo (h q hq).1<|hW.row o ho,jD hW (h q hq).1 (hW.row o ho) (h q hq).2<|yq hW ho]
theorem yQ:∀{P L:List Row}{a r:Row},(∀o∈P,Zf p n o)->a∈L->Zf p n a->Zf p n r->hdI (ZJ p P<|ZK p r a<|-1)=ag->r∈P.foldl (VF p) L
 |[],L,a,r,_,ha,h1,h2,h=>by
  have e:r=a:=YO h2 h1 (by
   funext j
   have z:=(Z6<|Zo h2 h1).mpr<|YF h j;rw[ZT h2 h1,Vj,QT]at z
   grind)
  rw[e];exact ha
 |o::P,L,a,r,hP,ha,h1,h2,h=>by
  have ho:=hP o<|al ..
  let x:=ZK p r a<|-1
  have hx:Zf p n x:=Zo h2 h1;have hk:=Vu ppos hx<|(hdI o).getD 0;have e:clr p x o ((hdI o).getD 0)=ZK p r (ZK p a o<|gt x<|(hdI o).getD 0) (-1):=YO (Zo hx ho) (Zo h2<|Zo h1 ho) (by
   rw[QD hx ho,ZT h2<|Zo h1 ho,ZT h1 ho]
   funext j
   show toV p (ZK p r a<|-1) j-toV p x ((hdI o).getD 0)*toV p o j=toV p r j+ph p (-1)*(toV p a j+toV p x ((hdI o).getD 0)*toV p o j);rw[ZT h2 h1,Vj,QT]
   grind)
  refine yQ (P:=P) (λq hq=>hP q<|aj _ hq) (c0.mpr #[(gt x<|(hdI o).getD 0).toNat,aP.mpr (by omega),aO.mpr #[a,ha,by rw[lN hk.1]]]) (Zo h1 ho) h2 ?_
  rw[<-e];exact h
theorem J6(hP:pZ p n P):r∈yD p n P↔Zf p n r/\X0 p P r=ai:=by
 constructor
 .exact yC hP (λ_ h=>h) (λq hq=>by rw[bh.mp hq];exact#[Yg,xG hP Yg Wx]) r
 .intro#[h1,h2]
  refine yQ hP.row (bh.mpr rfl) Yg h1 ?_;have e:ZK p r (aD n 0) (-1)=r:=YO (Zo h1 Yg) h1 (by
   rw[ZT h1 Yg]
   funext j
   rw[(Z6 Yg).mpr<|Wx j]
   grind)
  rw[e];exact Option.isNone_iff_eq_none.mp h2
theorem za:∀{P L:List Row},(∀o∈P,Zf p n o/\gt o ((hdI o).getD 0)=1)->(P.Pairwise λo q=>gt o ((hdI q).getD 0)=0)->(∀r∈L,Zf p n r/\∀o∈P,gt r ((hdI o).getD 0)=0)->L.Nodup->(P.foldl (VF p) L).Nodup
 |[],_,_,_,_,h=>h
 |o::P,L,hP,hz,hL,h=>by
  obtain⟨ho,h1⟩:=hP o<|al ..;obtain⟨z1,z2⟩:=aV.mp hz;have hp:=(inferInstance:Base p).b;refine za (P:=P) (λq hq=>hP q<|aj _ hq) z2 (λr hr=>#[w4 (λr hr=>(hL r hr).1) ho r hr,λq hq=>?_]) ?_
  .obtain⟨k,_,h3⟩:=c0.mp hr
   obtain⟨s,hs,rfl⟩:=aO.mp h3;rw[VW (hL s hs).1 ho,(hL s hs).2 q<|aj _ hq,z1 q hq];simp
  .have at_:∀(k:Nat) r,k<p->r∈L->gt (ZK p r o (k:Int)) ((hdI o).getD 0)=k:=λk r hk hr=>by
    rw[VW (hL r hr).1 ho,(hL r hr).2 o<|al ..,h1,Int.zero_add,Int.mul_one,fv (by omega) (by omega)]
   refine List.pairwise_flatMap.mpr #[λk hk=>?_,?_]
   .refine cA.mpr (h.imp_of_mem λ{a b} ha hb ne e=>ne<|YO (hL a ha).1 (hL b hb).1 ?_)
    have q:=congrArg (toV p) e;rw[ZT (hL a ha).1 ho,ZT (hL b hb).1 ho]at q
    funext j
    have:=congrFun q j
    grind
   .refine nu.imp_of_mem λ{a b} ha hb ne x hx y hy e=>ne ?_
    obtain⟨r,hr,rfl⟩:=aO.mp hx;obtain⟨q,hq,rfl⟩:=aO.mp hy;have:=at_ a r (aP.mp ha) hr;rw[e,at_ b q (aP.mp hb) hq]at this;omega
def Zaf(hP:pZ p n P):(yD p n P).Nodup:=by
 have rf:=hP.pn.rf;refine za (λo ho=>#[hP.row o ho,(VR<|hP.row o ho).mp<|rf.one _<|Yc ho]) ?_ (λr hr=>?_)<|dy.mpr #[by simp,ot]
 .exact(cA.mp rf.inc).imp_of_mem λ{a b} ha hb lt=>(Z6<|hP.row a ha).mp<|rf.zer _ (Yc hb) _ (Yc ha)<|fE lt
 .rw[bh.mp hr]
  exact#[Yg,λo _=>Wx _]
end
open Pv (Yl)
def qU{F:List Row}{r x:Row}:x∈Yl F r↔x∈F\/x=r:=by
 unfold Yl;split
 .rename_i h
  have h:=cK.mp h;exact#[.inl,λz=>z.elim id λe=>e▸h]
 .simp
def jJ{F:List Row}{r:Row}(h:F.Nodup):(Yl F r).Nodup:=by
 unfold Yl;split
 .exact h
 .rename_i q
  refine fk.mpr #[h,by simp,λa ha b hb e=>q ?_]
  rw[bh.mp hb]at e;exact cK.mpr<|e▸ha
theorem zd:∀{L F:List Row}{x:Row},x∈L.foldl Yl F↔x∈F\/x∈L
 |[],F,x=>by simp
 |r::L,F,x=>by
  rw[de,zd,qU,aB,or_assoc]
theorem xj:∀{L F:List Row},F.Nodup->(L.foldl Yl F).Nodup
 |[],F,h=>h
 |r::L,F,h=>xj (L:=L)<|jJ h
noncomputable def Jj(p:Nat)(F:List Row)(r:Row):List Row:=F.flatMap λo=>(az<|p-1).map λ(k:Nat)=>ZK p o r<|(k:Int)+1
noncomputable def VG(p:Nat)(F:List Row)(r:Row):List Row:=if F.contains r then F else(Jj p F r).foldl Yl F
noncomputable def Xy(p n:Nat)(R:List Row):List Row:=R.foldl (VG p) [aD n 0]
section
variable{p n:Nat}[Base p]
structure HasK(p n:Nat)[NeZero p](F P:List Row):Prop where
 part:pZ p n P
 nd:F.Nodup
 mem:∀x,x∈F↔Zf p n x/\X0 p P x=ai
theorem QP{P:List Row}{r u:Row}(hP:pZ p n P)(hr:Zf p n r)(hu:Zf p n u):X0 p (QL p P r) u=ai↔∃k:Nat,k<p/\X0 p P (ZK p u r<|-(k:Int))=ai:=by
 obtain⟨h1,h2⟩:=Jz hP hr;have g:=Wu (fld (p:=p)) hP.pn<|WQ hr;rw[Z5 h1 hu,Mm,h2,g.mem]
 constructor
 .rintro ⟨c,hc⟩
  refine#[c.val,c.isLt,(Z5 hP<|Zo hu hr).mpr ?_];unfold Mm;rw[ZT hu hr];have e:ph p (-(c.val:Int)) = -c:=by
   rw[Vj]
   congr 1
   exact Wy (by rw[Ys,fv (by omega) (by have:=c.isLt;omega)])
  rw[e];have e2:(λj=>toV p u j + -c*toV p r j)=λj=>toV p u j-c*toV p r j:=by funext j;grind
  rw[e2];exact hc
 .rintro ⟨k,_,hk⟩
  refine#[ph p (k:Int),?_];have:=(Z5 hP<|Zo hu hr).mp hk;unfold Mm at this;rw[ZT hu hr,Vj]at this;have e2:(λj=>toV p u j-ph p (k:Int)*toV p r j)=λj=>toV p u j + -ph p (k:Int)*toV p r j:=by funext j;grind
  rw[e2];exact this
def uO{P:List Row}{r:Row}(hP:pZ p n P)(hr:Zf p n r)(h:X0 p P r=ai):QL p P r=P:=by
 obtain⟨h1,h2⟩:=Jz hP hr;exact xn h1.row hP.row<|h2.trans<|(Wu (fld (p:=p)) hP.pn<|WQ hr).same<|(Z5 hP hr).mp h
theorem Qp{u r:Row}{k:Int}(hu:Zf p n u)(hr:Zf p n r):ZK p (ZK p u r<|-k) r k=u:=by
 refine YO (Zo (Zo hu hr) hr) hu ?_;rw[ZT (Zo hu hr) hr,ZT hu hr,Vj]
 funext j;grind
theorem UZ{u r:Row}(hu:Zf p n u)(hr:Zf p n r):ZK p u r 0=u:=by
 refine YO (Zo hu hr) hu ?_;rw[ZT hu hr,WA]
 funext j;grind
def HasK.step{F P:List Row}{r:Row}(h:HasK p n F P)(hr:Zf p n r):HasK p n (VG p F r) (QL p P r):=by
 obtain⟨h1,h2⟩:=Jz h.part hr;unfold VG;by_cases c:F.contains r=ai
 .rw[T9 c,uO h.part hr ((h.mem r).mp<|cK.mp c).2]
  exact h
 .rw[T8 c]
  refine#[h1,xj h.nd,λx=>?_]
  rw[zd];unfold Jj
  constructor
  .rintro (hx|hx)
   .obtain⟨a,b⟩:=(h.mem x).mp hx
    exact#[a,(QP h.part hr a).mpr #[0,by have:=(inferInstance:NeZero p).ne;omega,by rw[show(-((0:Nat):Int))=0 from rfl,UZ a hr];exact b]]
   .obtain⟨o,ho,hx⟩:=c0.mp hx
    obtain⟨k,hk,rfl⟩:=aO.mp hx;have hk:=aP.mp hk;obtain⟨a,b⟩:=(h.mem o).mp ho;refine#[Zo a hr,(QP h.part hr<|Zo a hr).mpr #[k+1,by omega,?_]]
    have e:=Qp (p:=p) (k:=-((k:Int)+1)) a hr;rw[Int.neg_neg]at e;rw[show(-((k+1:Nat):Int)) = -((k:Int)+1) by omega,e]
    exact b
  .rintro ⟨hx,hm⟩
   obtain⟨k,hk,hm⟩:=(QP h.part hr hx).mp hm;have ho:=(h.mem _).mpr #[Zo hx hr,hm];have e:=Qp (p:=p) (k:=(k:Int)) hx hr;cases k with
   |zero=>
    refine .inl ?_;rw[show(-((0:Nat):Int))=0 from rfl,UZ hx hr]at ho
    exact ho
   |succ k=>
    exact .inr (c0.mpr #[_,ho,aO.mpr #[k,aP.mpr (by omega),by rw[show((k:Int)+1)=((k+1:Nat):Int) by omega];exact e]])
theorem HasK.nil:HasK p n [aD n 0] []:=by
 refine#[pZ.nil,by simp,λx=>?_]
 rw[bh]
 constructor
 .rintro rfl
  exact#[Yg,xG pZ.nil Yg Wx]
 .rintro ⟨hx,hm⟩
  refine qt (by rw[hx.1,bR]) λj=>?_
  rw[Wx];unfold X0 ZJ at hm;rw[List.foldl_nil]at hm;cases q:hdI x with|none=>exact YF q j|some k=>rw[q]at hm;cases hm
theorem HasK.all:∀{R F P:List Row},HasK p n F P->(∀r∈R,Zf p n r)->HasK p n (R.foldl (VG p) F) (Vb p P R)
 |[],F,P,h,_=>h
 |r::R,F,P,h,hR=>HasK.all (R:=R) (h.step<|hR r<|al ..) λx hx=>hR x<|aj _ hx
def Ul{R:List Row}(hR:∀r∈R,Zf p n r):HasK p n (Xy p n R) (Vb p [] R):=HasK.nil.all hR
def HasK.len{F P:List Row}(h:HasK p n F P):F.length=p^P.length:=by
 rw[<-qL (p:=p) (n:=n) P];refine Nat.le_antisymm (Ub h.nd λx hx=>?_)<|Ub (Zaf h.part) λx hx=>?_
 .exact(J6 h.part).mpr<|(h.mem x).mp hx
 .exact(h.mem x).mpr<|(J6 h.part).mp hx
end
noncomputable def yL(n j:Nat):Row:=(az n).map λi=>if i=j then 1 else 0
noncomputable def units(n:Nat):List Row:=(az n).map<|yL n
def j6:∀n,n<=6->Vr (units n)=ai:=by
 intro n h
 match n,h with
 |0,_|1,_|2,_|3,_|4,_|5,_|6,_=>decide +kernel
def wH(n:Nat):(units n).length=n:=by unfold units;rw[aw,aZ]
section
variable{p n:Nat}[Base p]
def XU:∀r∈units n,Zf p n r:=λr hr=>by
 obtain⟨j,_,rfl⟩:=aO.mp hr;have h2:1<p:=by rcases(inferInstance:Base p).b with e|e|e<;>omega
 unfold yL;refine#[by rw[aw,aZ],λa ha=>?_]
 obtain⟨i,_,rfl⟩:=aO.mp ha;split<;>omega
def z7(hn:n<=6):pZ p n (units n):=(WZ XU).mp<|j6 n hn
def jb(hn:n<=6):(Xy p n<|units n).length=p^n:=by
 have h:=(Ul (p:=p) (n:=n) XU).len;rw[wE<|z7 hn,wH]at h;exact h
end
end Rw
namespace K33
open Ev Pv Rw La
def qg(h:Nat):(aD h [V.int 0]).flatten=(aD h (0:Int)).map V.int:=by
 induction h with|zero=>rfl|succ h ih=>rw[bM,cO,ih,bM];rfl
def XJ(r:Row):V.flat (Zb r)=ai:=X7 r
theorem Qt:∀L:List Row,Z8 (L.map Zb)=ai
 |[]=>rfl
 |r::L=>by
  show(V.flat (Zb r)&&Z8 (L.map Zb))=ai;rw[XJ,Qt L];rfl
section
variable{p n:Nat}[Base p]
def ix0{C:Zq}{i:Nat}{O:Env}{s:DS}(h:O[i]?=aa (aa<|spV p n)):pv C (.ix (.v i)<|.c<|.int 0) O s=.ok (.int p) s:=by
 rw[pv,Zh h,Za,pv,show ofD (V.int 0)=aa (V.int 0)from rfl];rfl
def ix1{C:Zq}{i:Nat}{O:Env}{s:DS}(h:O[i]?=aa (aa<|spV p n)):pv C (.ix (.v i)<|.c<|.int 1) O s=.ok (.int n) s:=by
 rw[pv,Zh h,Za,pv,show ofD (V.int 1)=aa (V.int 1)from rfl];rfl
def jv{C:Zq}{i:Nat}{O:Env}{s:DS}(hn:n<=6)(h:O[i]?=aa (aa<|spV p n)):pv C (.bin .mul (.tup [(.c<|.int 0)])<|.ix (.v i)<|.c<|.int 1) O s=.ok (Zb<|aD n 0) s:=by
 have g:pv C (.tup [(.c<|.int 0)]) O s=.ok (.tup [.int 0]) s:=by simp[pvE,ofD]
 rw[pv,g,Za,ix1 h,Za];show(if(0:Int)<=n/\(n:Int)<1000/\1<=1000 then PR.ok (V.tup (aD (n:Int).toNat [V.int 0]).flatten) s else .no)=_
 rw[T9 #[by omega,by omega,by omega],du,qg];rfl
def Wb{C:Zq}{i j:Nat}{O:Env}{s:DS}{r:Row}{k:Nat}(h:O[i]?=aa (aa<|Zb r))(hj:O[j]?=aa (aa<|Zd k))(hk:k<r.length):pv C (.ix (.v i)<|.v j) O s=.ok (.int<|gt r k) s:=by
 rw[pv,Zh h,Za,Zh hj,Za];show po (at' (r.map V.int) (k:Int)) s=_;rw[Jh hk];rfl
def qG(d:Nat){r o:Row}{k:Int}(s:DS)(hn:n<=6)(hr:Zf p n r)(ho:Zf p n o)(hk:-1000<k/\k<1000):CV (d+1) 7 [spV p n,Zb r,.int k,Zb o] s=.ok (Zb<|ZK p r o k) s:=by
 have hp:=z8 (p:=p);refine Zp rfl (by decide) rfl ?_
 show rvs (CV d) [] (.ret (.blt .tuple [(.comp1 [1,2,3,0] 1 [0] (.rng1<|.ix (.v 0)<|.c<|.int 1) []<|.bin .mod (.bin .add (.ix (.v 1)<|.v 0)<|.bin .mul (.v 2)<|.ix (.v 3)<|.v 0)<|.ix (.v 4)<|.c<|.int 0)])::[]) [aa<|spV p n,aa<|Zb r,aa<|.int k,aa<|Zb o] [] s=_;have hc:=ZI (C:=CV d) (cap:=[1,2,3,0]) (nl:=1) (t:=[0]) (it:=.rng1<|.ix (.v 0)<|.c<|.int 1) (elt:=.bin .mod (.bin .add (.ix (.v 1)<|.v 0)<|.bin .mul (.v 2)<|.ix (.v 3)<|.v 0)<|.ix (.v 4)<|.c<|.int 0) (O:=[aa<|spV p n,aa<|Zb r,aa<|.int k,aa<|Zb o]) (s:=s) (l:=az n) (e:=Zd) (g:=λj=>V.int<|(gt r j+k*gt o j)%p)
  (Yx (ix1 rfl)<|by omega) (by rw[aZ];unfold lim;omega) (λj hj=>by
   have hj:=aP.mp hj;have h2:=Vu (by omega) ho j
   refine#[[aa<|Zd j,aa<|Zb r,aa<|.int k,aa<|Zb o,aa<|spV p n],rfl,?_];have e1:=Wb (C:=CV d) (i:=1) (j:=0) (O:=[aa<|Zd j,aa<|Zb r,aa<|.int k,aa<|Zb o,aa<|spV p n]) (s:=s) rfl rfl (by rw[hr.1];exact hj)
   have e2:=Wb (C:=CV d) (i:=3) (j:=0) (O:=[aa<|Zd j,aa<|Zb r,aa<|.int k,aa<|Zb o,aa<|spV p n]) (s:=s) rfl rfl (by rw[ho.1];exact hj)
   have e3:pv (CV d) (.bin .mul (.v 2)<|.ix (.v 3)<|.v 0) [aa<|Zd j,aa<|Zb r,aa<|.int k,aa<|Zb o,aa<|spV p n] s=.ok (.int<|k*gt o j) s:=by
    rw[pv,Zh rfl,Za,e2,Za];show(if(fits k&&fits (gt o j))=ai then PR.ok (V.int<|k*gt o j) s else .no)=_
    rw[T9 (by rw[Xk (by omega) (by omega),Xk (by omega) (by omega)];rfl)]
   rw[pv,pv,e1,Za,e3,Za];show PR.bind (PR.ok (V.int<|gt r j+k*gt o j) s) _=_;rw[Za,ix0 rfl,Za];show(if(0:Int)<p then PR.ok (V.int<|(gt r j+k*gt o j)%p) s else .no)=_
   rw[T9 (by omega)])
 have e:((az n).map λj=>V.int<|(gt r j+k*gt o j)%p)=(ZK p r o k).map V.int:=by
  have hl:=(Zo (k:=k) hr ho).1;refine bK λi=>?_
  rw[aJ,aJ];by_cases hi:i<n
  .rw[cq hi,ae (by rw[hl];exact hi)]
   have g:=VW (k:=k) hr ho i;unfold gt at g;rw[aC,ae<|by rw[hl];exact hi]at g
   simp only[nZ,nk]at g ⊢;rw[g];rfl
  .rw[bD (by rw[aZ];omega),bD (by rw[hl];omega)];rfl
 refine ZE<|Yi ?_;rw[pv,Zc hc Zg,e];rfl
def qK(d:Nat){F:List Row}{r o:Row}{v:V}{a5:Option V}{k:Nat}(s:DS)(hn:n<=6)(hr:Zf p n r)(ho:Zf p n o)(hk:k<1000)(hl:F.length<lim) :
  rvs (CV<|d+1) [2] [.dput (.v 2) (.call 7 [(.v 0),(.v 4),(.v 5),(.v 3)])<|.c<|.bl ai] [aa<|spV p n,aa v,aa<|.dow F,aa<|Zb r,aa<|Zb o,aa<|Zd k] [2] s=.ok (.nx [aa<|spV p n,aa v,aa<|.dow<|Yl F<|ZK p o r (k:Int),aa<|Zb r,aa<|Zb o,aa<|Zd k] [2]) s:=by
 have e:pv (CV<|d+1) (.call 7 [(.v 0),(.v 4),(.v 5),(.v 3)]) [aa<|spV p n,aa v,aa<|.dow F,aa<|Zb r,aa<|Zb o,aa<|Zd k] s=.ok (Zb<|ZK p o r (k:Int)) s:=
  ZF (Zc (Zh rfl)<|Zc (Zh rfl)<|Zc (Zh rfl)<|Zc (Zh rfl) Zg) (qG d s hn ho hr #[by omega,by omega])
 rw[Zj (ρ':=[aa<|spV p n,aa v,aa<|.dow<|Yl F<|ZK p o r (k:Int),aa<|Zb r,aa<|Zb o,aa<|Zd k]) (os':=[2]) (s':=s) (by
  rw[rv,T9<|show([2]:List Nat).contains 2=ai from rfl,pv]
  show PR.bind (po (aa<|V.bl ai) s) _=_;rw[Zs,Za,T9 (show isT (.bl ai)=ai from rfl)]
  show PR.bind (po (aa F) s) _=_;rw[Zs,Za,e,Za];show PR.bind (po (intsV<|(ZK p o r (k:Int)).map V.int) s) _=_;rw[YY,Zs,Za,T9 hl];rfl),rvs]
def qB(d:Nat){F:List Row}{r o:Row}{v:V}{a5:Option V}(s:DS)(hn:n<=6)(hr:Zf p n r)(ho:Zf p n o)(hl:F.length+10<lim) :
  ∃b5,rvs (CV<|d+1) [2] [.forr [5] (.rng2 (.c<|.int 1)<|.ix (.v 0)<|.c<|.int 0) [.dput (.v 2) (.call 7 [(.v 0),(.v 4),(.v 5),(.v 3)])<|.c<|.bl ai]] [aa<|spV p n,aa v,aa<|.dow F,aa<|Zb r,aa<|Zb o,a5] [2] s
   = .ok (.nx [aa<|spV p n,aa v,aa<|.dow<|((az<|p-1).map λ(k:Nat)=>ZK p o r<|(k:Int)+1).foldl Yl F,aa<|Zb r,aa<|Zb o,b5] [2]) s:=by
 have hp:=z8 (p:=p);obtain⟨b5,_,e5⟩:=VP (C:=CV<|d+1) (ms:=[2]) (t:=[5]) (it:=.rng2 (.c<|.int 1)<|.ix (.v 0)<|.c<|.int 0) (b:=[.dput (.v 2) (.call 7 [(.v 0),(.v 4),(.v 5),(.v 3)])<|.c<|.bl ai]) (L:=az<|p-1) (e:=λk=>Zd<|k+1) (step:=λ(F:List Row) (k:Nat)=>Yl F<|ZK p o r<|(k:Int)+1) (O:=λF x=>[aa<|spV p n,aa v,aa<|.dow F,aa<|Zb r,aa<|Zb o,x]) (st:=F) (o:=a5) (os:=[2]) (s:=s)
  (λl F=>(∀k∈l,k<5)/\F.length+l.length<lim) (by
   show pvw (CV<|d+1) _ [aa<|spV p n,aa v,ag,aa<|Zb r,aa<|Zb o,a5] s=_;rw[pvw,show pv (CV<|d+1) (.c<|.int 1) [aa<|spV p n,aa v,ag,aa<|Zb r,aa<|Zb o,a5] s=.ok (.int 1) s by rw[pv];rfl,Za,ix0 rfl,Za]
   show(if(YA 1&&YA (p:Int))=ai then PR.ok (ZU 1 ((p:Int)-1).toNat) s else .no)=_
   rw[T9 (by rw[Xz (i:=1) (by omega) (by omega),Xz (i:=(p:Int)) (by omega) (by omega)];rfl),show((p:Int)-1).toNat=p-1 by omega]
   unfold ZU Zd
   congr 1
   refine c8 λk _=>?_
   rw[Int.add_comm];rfl) #[λk hk=>by have:=aP.mp hk;omega,by rw[aZ];omega] rfl (λk l F x hI=>by
   obtain⟨h1,h2⟩:=hI;rw[aK]at h2;have hk:=h1 k<|al ..;have hl2:(Yl F<|ZK p o r<|(k:Int)+1).length<=F.length+1:=by unfold Yl;split<;>simp
   refine#[#[λq hq=>h1 q<|aj _ hq,by omega],rfl,[aa<|spV p n,aa v,aa<|.dow F,aa<|Zb r,aa<|Zb o,aa<|Zd<|k+1],aa<|Zd<|k+1,rfl,?_]
   have:=qK d (a5:=ag) (v:=v) (k:=k+1) s hn hr ho (F:=F) (by omega) (by omega)
   rw[this];rfl)
 refine#[b5,?_];rw[Zj e5,rvs,List.foldl_map]
def wm(F:List Row)(o r:Row):Jj p (o::F) r=((az<|p-1).map λ(k:Nat)=>ZK p o r<|(k:Int)+1)++Jj p F r:=rfl
theorem G9:∀(L F:List Row),(L.foldl Yl F).length<=F.length+L.length
 |[],F=>aN _
 |r::L,F=>by
  have h:=G9 L<|Yl F r;have hl2:(Yl F r).length<=F.length+1:=by unfold Yl;split<;>simp
  rw[de,aK];omega
theorem JK(d:Nat){r:Row}{v:V}(s:DS)(hn:n<=6)(hr:Zf p n r):∀(L F:List Row){a4 a5:Option V},(∀o∈L,Zf p n o)->F.length+5*L.length+10<lim->
  ∃b4 b5,Y4 (λx O os s=>if(([4]:List Nat).any os.contains)=ai then .no else(po (Zi [4] x O) s).bind λO s=>rvs (CV<|d+1) [2] [.forr [5] (.rng2 (.c<|.int 1)<|.ix (.v 0)<|.c<|.int 0) [.dput (.v 2) (.call 7 [(.v 0),(.v 4),(.v 5),(.v 3)])<|.c<|.bl ai]] O os s) (L.map Zb) [aa<|spV p n,aa v,aa<|.dow F,aa<|Zb r,a4,a5] [2] s
   = .ok (.nx [aa<|spV p n,aa v,aa<|.dow<|(Jj p L r).foldl Yl F,aa<|Zb r,b4,b5] [2]) s
 |[],F,a4,a5,_,_=>#[a4,a5,rfl]
 |o::L,F,a4,a5,ho,hl=>by
  have hp:=z8 (p:=p);rw[aK]at hl;obtain⟨b5,e⟩:=qB d (v:=v) (F:=F) (a5:=a5) s hn hr (ho o<|al ..) (by omega)
  have h1:=G9 ((az<|p-1).map λ(k:Nat)=>ZK p o r<|(k:Int)+1) F
  rw[aw,aZ]at h1;obtain⟨c4,c5,e2⟩:=JK d (v:=v) s hn hr L (((az<|p-1).map λ(k:Nat)=>ZK p o r<|(k:Int)+1).foldl Yl F) (a4:=aa<|Zb o) (a5:=b5) (λx hx=>ho x<|aj _ hx) (by omega)
  refine#[c4,c5,?_];rw[a9,Y4,T8 (by decide),show Zi [4] (Zb o) [aa<|spV p n,aa v,aa<|.dow F,aa<|Zb r,a4,a5]=aa [aa<|spV p n,aa v,aa<|.dow F,aa<|Zb r,aa<|Zb o,a5]from rfl,Zs,Za,e,Za]
  rw[wm,m3];exact e2
def Zdg{C:Zq}{i j:Nat}{O:Env}{s:DS}{r:Row}{F:List Row}(h:O[i]?=aa (aa<|Zb r))(hj:O[j]?=aa (aa<|.dow F)):pv C (.cmp .nin (.v i)<|.v j) O s=.ok (.bl<|!F.contains r) s:=by
 rw[pv,Zh h,Za,Zh hj,Za];show po (((intsV<|r.map V.int).map λk=>F.contains k).map λb=>V.bl !b) s=_
 rw[YY];rfl
def G6(d:Nat){R:List Row}{v:V}(s:DS)(hn:n<=6)(h1:1<=n)(hl:p^n<=1000)(hR:∀r∈R,Zf p n r)(hv:Yv v=aa (R.map Zb)):CV (d+2) 8 [spV p n,v] s=.ok (.lst<|(Zu<|Xy p n R).map Zb) s:=by
 have hp:=z8 (p:=p);have big:∀{F P:List Row},HasK p n F P->F.length<=1000:=λ{F P} h=>by
  rw[h.len];refine cp (eD (by omega) ?_) hl
  exact dsum h.part
 refine Zp rfl (by decide) rfl ?_
 show rvs (CV<|d+1) [2] (.dnw 2 (.bin .mul (.tup [(.c<|.int 0)])<|.ix (.v 0)<|.c<|.int 1) ::
  .forr [3] (.of<|.v 1) [.ite (.cmp .nin (.v 3)<|.v 2) [.forF [4] (.blt .listD [(.v 2)]) [.forr [5] (.rng2 (.c<|.int 1)<|.ix (.v 0)<|.c<|.int 0) [.dput (.v 2) (.call 7 [(.v 0),(.v 4),(.v 5),(.v 3)])<|.c<|.bl ai]]] []] ::
  .ret (.blt .sortedD [(.v 2)])::[]) [aa<|spV p n,aa v,ag,ag,ag,ag] [] s=_
 rw[Zj (ρ':=[aa<|spV p n,aa v,aa<|.dow [aD n 0],ag,ag,ag]) (os':=[2]) (s':=s) (by
  rw[rv,jv hn rfl,Za];show PR.bind (po (intsV<|(aD n (0:Int)).map V.int) s) _=_;rw[YY,Zs,Za,T9 (by show 2<6;omega)];rfl)]
 obtain⟨ρ',hI,e⟩:=VZ (C:=CV<|d+1) (ms:=[2]) (t:=[3]) (it:=.of<|.v 1) (b:=[.ite (.cmp .nin (.v 3)<|.v 2) [.forF [4] (.blt .listD [(.v 2)]) [.forr [5] (.rng2 (.c<|.int 1)<|.ix (.v 0)<|.c<|.int 0) [.dput (.v 2) (.call 7 [(.v 0),(.v 4),(.v 5),(.v 3)])<|.c<|.bl ai]]] []]) (L:=R) (e:=Zb) (O:=[aa<|spV p n,aa v,aa<|.dow [aD n 0],ag,ag,ag]) (os:=[2]) (s:=s)
  (λl O=>(∀r∈l,Zf p n r)/\∃F P a3 a4 a5,O=[aa<|spV p n,aa v,aa<|.dow F,a3,a4,a5]/\HasK p n F P/\l.foldl (VG p) F=Xy p n R) (by
   show pvw (CV<|d+1) (.of<|.v 1) [aa<|spV p n,aa v,ag,ag,ag,ag] s=_;rw[pvw,Zh rfl,Za,hv];rfl) #[hR,_,_,ag,ag,ag,rfl,HasK.nil,rfl] rfl (λr l O hI=>by
   obtain⟨hr,F,P,a3,a4,a5,rfl,hF,hf⟩:=hI;have hr0:=hr r<|al ..;have hb:=big hF;refine#[by rw[XJ];rfl,[aa<|spV p n,aa v,aa<|.dow F,aa<|Zb r,a4,a5],?_]
   have et:=Zdg (C:=CV<|d+1) (i:=3) (j:=2) (O:=[aa<|spV p n,aa v,aa<|.dow F,aa<|Zb r,a4,a5]) (s:=s) rfl rfl;have hfr:∀o∈F,Zf p n o:=λo ho=>((hF.mem o).mp ho).1
   by_cases c:F.contains r=ai
   .refine#[[aa<|spV p n,aa v,aa<|.dow F,aa<|Zb r,a4,a5],rfl,?_,λx hx=>hr x<|aj _ hx,F,P,_,_,_,rfl,hF,?_]
    .rw[Zj (ρ':=[aa<|spV p n,aa v,aa<|.dow F,aa<|Zb r,a4,a5]) (os':=[2]) (s':=s) (by rw[Wz<|Xf et rfl,c,T8 (by decide),rvs]),rvs]
    .rw[de]at hf
     unfold VG at hf;rw[T9 c]at hf;exact hf
   .have c:F.contains r=am:=by simpa using c
    obtain⟨b4,b5,e2⟩:=JK d (v:=v) (r:=r) s hn hr0 F F (a4:=a4) (a5:=a5) hfr (by unfold lim;omega)
    refine#[[aa<|spV p n,aa v,aa<|.dow<|(Jj p F r).foldl Yl F,aa<|Zb r,b4,b5],rfl,?_,λx hx=>hr x<|aj _ hx,(Jj p F r).foldl Yl F,QL p P r,_,_,_,rfl,?_,?_]
    .rw[Zj (ρ':=[aa<|spV p n,aa v,aa<|.dow<|(Jj p F r).foldl Yl F,aa<|Zb r,b4,b5]) (os':=[2]) (s':=s) (by
      rw[Wz<|Xf et rfl,c,T9 (by decide),Zj (ρ':=[aa<|spV p n,aa v,aa<|.dow<|(Jj p F r).foldl Yl F,aa<|Zb r,b4,b5]) (os':=[2]) (s':=s) (by
       rw[rv];show PR.bind (match pv (CV<|d+1) (.blt .listD [(.v 2)]) [aa<|spV p n,aa v,ag,aa<|Zb r,a4,a5] s with
        |.ok v s=>.ok v s
        |.ex c s=>.ex c s
        |.no=>(pv (CV<|d+1) (.blt .listD [(.v 2)]) [aa<|spV p n,aa v,aa<|.dow F,aa<|Zb r,a4,a5] s).bind λw s=>if(w.flat||true&&GD w)=ai then PR.ok w s else .no) _=_
       have g1:pv (CV<|d+1) (.blt .listD [(.v 2)]) [aa<|spV p n,aa v,ag,aa<|Zb r,a4,a5] s=.no:=by rw[pv,pvs,pv];rfl
       have g2:pv (CV<|d+1) (.blt .listD [(.v 2)]) [aa<|spV p n,aa v,aa<|.dow F,aa<|Zb r,a4,a5] s=.ok (.lst<|F.map Zb) s:=by rw[pv,Zc (Zh rfl) Zg];rfl
       rw[g1,g2];show PR.bind (if(am||true&&Z8 (F.map Zb))=ai then PR.ok (V.lst<|F.map Zb) s else .no) _=_
       rw[Qt,T9 (show(am||true&&ai)=ai from rfl),Za]
       exact e2),rvs]),rvs]
    .have:=hF.step hr0
     unfold VG at this;rw[T8<|by rw[c];decide]at this
     exact this
    .rw[de]at hf
     unfold VG at hf;rw[T8<|by rw[c];decide]at hf
     exact hf)
 obtain⟨_,F,P,a3,a4,a5,rfl,hF,hf⟩:=hI;rw[Zj e];refine ZE<|Yi ?_;have hf:F=Xy p n R:=hf;subst hf;rw[pv,Zc (Zh rfl) Zg,Za];have hb:=big hF;have ho:Ya (Xy p n R)=ai:=by
  unfold Ya;rw[aA,aA];refine#[#[T5 (by omega),T5 hF.nd],aT.mpr λr hr=>?_]
  have:=((hF.mem r).mp hr).1.1;cases r with|nil=>simp at this;omega|cons _ _=>rfl
 show po (if Ya (Xy p n R)=ai then aa (V.lst<|(Zu<|Xy p n R).map Zb)else ag) s=_
 rw[T9 ho];rfl
end
open Ab (okV X5)
section
variable{C:Zq}{O:Env}{s s1 s2:DS}{a b:E}{x y:V}{xs ys:List V}
def Yp{i:Int}:pv C (.c<|.int i) O s=.ok (.int i) s:=by rw[pv];rfl
def xk(h:pv C a O s=.ok x s):pv C (.tup [a]) O s=.ok (.tup [x]) s:=by
 rw[pv,Zc h Zg];rfl
end
section
variable{C:Zq}{O:Env}{s:DS}{a b:E}
def W2{c c':Bool}(h1:pv C a O s=.ok (.bl c) s)(h2:pv C b O s=.ok (.bl c') s):pv C (.and a b) O s=.ok (.bl<|c&&c') s:=by
 rw[pv,h1];cases c
 .rfl
 .exact h2
def yc{c:Bool}(h1:pv C a O s=.ok (.bl c) s):pv C (.not a) O s=.ok (.bl !c) s:=by rw[pv,h1];rfl
def YX{f:Nat}{x y:E}{v w r:V}(h1:pv C x O s=.ok v s)(h2:pv C y O s=.ok w s)(h:C f [v,w] s=.ok r s):pv C (.call f [x,y]) O s=.ok r s:=ZF (Zc h1<|Zc h2 Zg) h
def guard{ms:List Nat}{t:E}{x l:List Sm}(h:pv C t O s=.ok (.bl am) s):rvs C ms (.ite t x []::l) O [] s=rvs C ms l O [] s:=by
 rw[Zj<|(Wz<|Xf h rfl).trans (by rw[T8 (by simp),rvs])]
def JF{x y:Int}(h1:pv C a O s=.ok (.int x) s)(h2:pv C b O s=.ok (.int y) s):pv C (.bin .add a b) O s=.ok (.int<|x+y) s:=by
 rw[pv,h1,Za,h2,Za];rfl
def wU{x y:List V}(h1:pv C a O s=.ok (.lst x) s)(h2:pv C b O s=.ok (.lst y) s)(h:x.length+y.length<=lim):pv C (.bin .add a b) O s=.ok (.lst<|x++y) s:=by
 rw[pv,h1,Za,h2,Za];show(if x.length+y.length<=lim then _ else _)=_
 rw[T9 h]
end
section
variable{p n:Nat}[Base p]
def J7(L:List Row):(Zu L).length=L.length:=by
 have ins:∀(x:Row)(l:List Row),(YH x l).length=l.length+1:=λx l=>by
  induction l with|nil=>rfl|cons y l ih=>unfold YH;split<;>simp[ih]
 induction L with|nil=>rfl|cons x L ih=>show(YH x<|Zu L).length=_;rw[ins,ih];rfl
end
end K33
namespace Rw
open La
noncomputable def Z1(r:Row):Nat:=(hdI r).getD r.length
noncomputable def Zv(E:List Row):List Nat:=(az 6).filter ((E.filter λr=>(hdI r).isSome).map Z1).contains
noncomputable def Vy(E:List Row)(h:Nat)(r:Row):Bool:=(af (gt r h=1)&&af (Z1 r=h))&&(Zv E).all λk=>af (k=h)||decide (gt r k=0)
noncomputable def ZbA(E:List Row):List Row:=(Zv E).flatMap λh=>E.filter<|Vy E h
def zV{l:List Row}{q:Row->Bool}{r:Row}(hn:l.Nodup)(hr:r∈l)(h:∀x∈l,q x=ai↔x=r):l.filter q=[r]:=by
 have hm:∀x,x∈l.filter q↔x=r:=λx=>by
  rw[bX];exact#[λz=>(h x z.1).mp z.2,λe=>by subst e;exact#[hr,(h x hr).mpr rfl]]
 have hd:=hn.filter q;generalize l.filter q=m at hm hd
 match m,hm,hd with
 |[],hm,_=>exact T7 ((hm r).mpr rfl) (by simp)
 |[x],hm,_=>rw[(hm x).mp (by simp)]
 |x::y::m,hm,hd=>
  have e1:=(hm x).mp (by simp)
  have e2:=(hm y).mp (by simp)
  subst e1;subst e2;simp at hd
theorem UV{g:Row->List Row}:∀{l:List Row},(∀r∈l,g r=[r])->l.flatMap g=l
 |[],_=>rfl
 |r::l,h=>by
  rw[m4,h r<|al ..,UV λx hx=>h x<|aj _ hx];rfl
section
variable{p n:Nat}[Base p]
def Y1{r:Row}{k:Nat}(h:hdI r=aa k):Z1 r=k:=by unfold Z1;rw[h];rfl
def jj{E F P:List Row}(hn:n<=6)(h:HasK p n F P)(hE:E.Perm F):ZbA E=P:=by
 have hF:∀x,x∈E↔Zf p n x/\X0 p P x=ai:=λx=>hE.mem_iff.trans<|h.mem x
 have hP:=h.part;have hp:∀r∈P,r∈E/\∃k,hdI r=aa k/\k<n/\gt r k=1:=λr hr=>by
  obtain⟨k,h1,h2,h3⟩:=hP.head (fld (p:=p)).one0 hr;exact#[(hF r).mpr #[hP.row r hr,yq hP hr],k,h1,h2,(VR<|hP.row r hr).mp h3]
 have hpl:Zv E=Zy P:=by
  refine Q9 (List.pairwise_lt_range.filter _) ?_ λk=>?_
  .have:=hP.pn.rf.heads
   rw[XY]at this;exact this
  .unfold Zv
   rw[bX,aP,cK,aO];unfold Zy;rw[aO]
   constructor
   .rintro ⟨_,r,hr,rfl⟩
    obtain⟨hr,hs⟩:=bX.mp hr;obtain⟨k,hk⟩:=bO.mp hs;obtain⟨a,b⟩:=(hF r).mp hr;have hm:=(Z5 hP a).mp b;obtain⟨e1,_,e2⟩:=Z0 hk;obtain⟨c,hc,ec⟩:=GK hP.pn.rf hm (k:=k) (λz=>e1<|(Z6 a).mp z) λj hj=>(Z6 a).mpr<|e2 j hj
    obtain⟨q,hq,rfl⟩:=aO.mp hc;exact#[q,hq,by rw[Y1 hk];exact ec]
   .rintro ⟨r,hr,rfl⟩
    obtain⟨h1,k,h2,h3,_⟩:=hp r hr;exact#[by rw[h2];show k<6;omega,r,bX.mpr #[h1,by rw[h2];rfl],by rw[Y1 h2,h2];rfl]
 have nd:E.Nodup:=hE.nodup_iff.mpr h.nd;unfold ZbA;have e:Zy P=P.map λr=>(hdI r).getD 0:=rfl
 rw[hpl,e,List.flatMap_map];refine UV λr hr=>?_
 obtain⟨h1,k,h2,h3,h4⟩:=hp r hr;show E.filter (Vy E<|(hdI r).getD 0)=[r];rw[h2];show E.filter (Vy E k)=[r];have ir:=hP.row r hr;have ra:=Yc (p:=p) hr;rw[h2]at ra;refine zV nd h1 λx hx=>?_
 unfold Vy;rw[aA,aA,T0,T0,aT,hpl]
 constructor
 .rintro ⟨⟨g1,g2⟩,g3⟩
  obtain⟨a,b⟩:=(hF x).mp hx;have hm:=(Z5 hP a).mp b;refine YO a ir ?_
  funext j
  have hj:toV p r j=pr (toP p P) (toV p r) j:=XR hP.pn.rf ra j;rw[hm j,hj];refine JQ (λc hc=>?_) j
  obtain⟨q,hq,rfl⟩:=aO.mp hc;obtain⟨_,i,i2,i3,i4⟩:=hp q hq;rw[i2];show toV p x i=toV p r i;have hi:i∈Zy P:=aO.mpr #[q,hq,by rw[i2];rfl]
  rcases(ee _ _).mp (g3 i hi)with z|z
  .have z:=T6 z
   subst z;unfold toV;rw[g1,h4]
  .have z:=T6 z
   by_cases c:i=k
   .subst c;rw[g1]at z;cases z
   .have qa:=Yc (p:=p) hq
    rw[i2]at qa;have zz:toV p r i=0:=hP.pn.rf.zer _ qa _ ra λe=>c e
    rw[zz];exact(Z6 a).mpr z
 .rintro rfl
  refine#[#[h4,Y1 h2],λi hi=>?_]
  obtain⟨q,hq,rfl⟩:=aO.mp hi;obtain⟨_,i,i2,i3,i4⟩:=hp q hq;rw[i2];show(af (i=k)||decide (gt x i=0))=ai;by_cases c:i=k
  .rw[T5 c];rfl
  .have qa:=Yc (p:=p) hq
   rw[i2]at qa;have zz:toV p x i=0:=hP.pn.rf.zer _ qa _ ra λe=>c e
   rw[T5<|(Z6 ir).mp zz,Bool.or_true]
def xX{E F P:List Row}(hn:n<=6)(h:HasK p n F P)(hE:E.Perm F):∀k∈Zv E,k<n:=λk hk=>by
 obtain⟨_,hk⟩:=bX.mp hk;obtain⟨r,hr,rfl⟩:=aO.mp<|cK.mp hk;obtain⟨hr,hs⟩:=bX.mp hr;obtain⟨k,e⟩:=bO.mp hs;have:=((h.mem r).mp<|hE.mem_iff.mp hr).1.1;rw[Y1 e];have:=(Z0 e).2.1;omega
end
end Rw
namespace K33
open Ev Pv Rw La
open Ab (okV X5)
theorem Vo:∀r:Row,ZV (r.map V.int)=aa (r.map λa=>af<|a≠0)
 |[]=>rfl
 |a::r=>by rw[a9,ZV,Vo r];rfl
theorem u9:∀r:Row,(r.map λa=>af<|a≠0).any id=(hdI r).isSome
 |[]=>rfl
 |a::r=>by
  rw[a9,fP,u9 r,hdI];by_cases c:a=0
  .subst c
   rw[T8 (by simp)]
   cases hdI r<;>rfl
  .rw[T9 c,T5 c];rfl
def jO{C:Zq}{O:Env}{i:Nat}{r:Row}(s:DS)(h:O[i]?=aa (aa<|Zb r)):pv C (.blt .any [(.v i)]) O s=.ok (.bl (hdI r).isSome) s:=by
 rw[pv,Zc (Zh h) Zg,Za];show po ((ZV<|r.map V.int).map λbs=>V.bl<|bs.any id) s=_
 rw[Vo];show PR.ok (V.bl _) s=_;rw[u9]
def wL(r:Row):(((az r.length).filter λk=>af<|gt r k≠0)++[r.length])[0]?=aa (Z1 r):=by
 unfold Z1;cases q:hdI r with
 |none=>
  rw[List.filter_eq_nil_iff.mpr λk _=>by simp[YF q k]];rfl
 |some k=>
  obtain⟨a,b,c⟩:=Z0 q;have f:(az r.length).find? (λj=>af<|gt r j≠0)=aa k:=ym (v:=λj=>gt r j) b a c
  rw[<-List.head?_filter]at f;generalize (az r.length).filter (λj=>af<|gt r j≠0)=l at f
  cases l with|nil=>cases f|cons x l=>cases f;rfl
def WD(d:Nat){r:Row}(s:DS)(hl:r.length<=1000):CV (d+1) 4 [Zb r] s=.ok (Zd<|Z1 r) s:=by
 refine Zp rfl (by decide) rfl ?_
 show rvs (CV d) [] XN.body [aa<|Zb r] [] s=_
 dsimp only[XN]
 have el:pv (CV d) (.blt .len [(.v 0)]) [aa<|Zb r] s=.ok (.int r.length) s:=by
  rw[pv,Zc (Zh rfl) Zg,Za];show po (aa<|V.int (r.map V.int).length) s=_;rw[aw];rfl
 have hc:=YQ (C:=CV d) (cap:=[0]) (nl:=1) (t:=[0]) (it:=.rng1<|.blt .len [(.v 0)]) (tst:=.cmp .ne (.ix (.v 1)<|.v 0)<|.c<|.int 0) (elt:=.v 0) (O:=[aa<|Zb r]) (s:=s) (l:=az r.length) (e:=Zd) (g:=Zd) (q:=λk=>af<|gt r k≠0)
  (Yx el<|by omega) (by rw[aZ];unfold lim;omega) (λk hk=>by
   have hk:=aP.mp hk;refine#[[aa<|Zd k,aa<|Zb r],.bl<|!decide (gt r k=0),rfl,?_,?_,λ_=>Zh rfl]
   .rw[pv,Wb rfl rfl hk,Za,Yp,Za];rfl
   .simp[Zn])
 refine ZE<|Yi ?_;have e2:pv (CV d) (.lst [(.blt .len [(.v 0)])]) [aa<|Zb r] s=.ok (.lst [Zd r.length]) s:=by
  rw[pv,Zc el Zg,Za];rfl
 rw[pv,wU hc e2 (by
  have:=fc (λk=>af<|gt r k≠0)<|az r.length
  rw[aZ]at this;rw[aw,da];unfold lim;omega),Za,Yp,Za]
 show po (at' _ ((0:Nat):Int)) s=_;rw[Q0 (x:=Zd<|Z1 r) (by
  have:=wL r;rw[show[Zd r.length]=[r.length].map Zd from rfl,<-bN,aJ,this];rfl)];rfl
theorem Uo:∀l:List Nat,(∀k∈l,k<6)->X6 (l.map Zd)=aa l
 |[],_=>rfl
 |k::l,h=>by
  have hk:=h k<|al ..;show(if 0<=(k:Int)/\(k:Int)<6 then(X6<|l.map Zd).map ((k:Int).toNat :: ·)else ag)=_
  rw[T9 #[by omega,by omega],Uo l λx hx=>h x<|aj _ hx];rfl
def Qc{q q':Nat->Bool}(l:List Nat)(h:∀k∈l,q' k = !q k):((l.filter q).map Zd).isEmpty=l.all q':=by
 induction l with
 |nil=>rfl
 |cons k l ih=>
  rw[fQ,<-ih λx hx=>h x<|aj _ hx,h k<|al ..,eS]
  cases q k<;>rfl
def vm{C:Zq}{a:E}{O:Env}{s:DS}{xs:List V}(h:pv C a O s=.ok (.lst xs) s):pv C (.cmp .eq a<|.lst []) O s=.ok (.bl xs.isEmpty) s:=by
 have e2:pv C (.lst []) O s=.ok (.lst []) s:=by rw[pv,Zg];rfl
 rw[pv,h,Za,e2,Za];cases xs<;>rfl
theorem VA{q:Row->Bool}:∀(l F:List Row),l.foldl (λF r=>if q r=ai then F++[r]else F) F=F++l.filter q
 |[],F=>by simp
 |r::l,F=>by
  rw[de,VA l,eS];cases q r<;>simp
section
variable{p n:Nat}[Base p]
def wB(d:Nat){E F:List Row}{h:Nat}{r:Row}(s:DS)(hn:n<=6)(hr:Zf p n r)(hpl:∀k∈Zv E,k<n)(hh:h<n)(hl:F.length<lim) :
  rvs (CV<|d+1) [3] [.ite (.and (.cmp .eq (.ix (.v 5)<|.v 4)<|.c<|.int 1)<|.cmp .eq (.call 4 [(.v 5)])<|.v 4) [.ite (.cmp .eq (.comp1 [4,5] 1 [0] (.of<|.v 2) [(.and (.cmp .ne (.v 0)<|.v 1)<|.cmp .ne (.ix (.v 2)<|.v 0)<|.c<|.int 0)]<|.v 0)<|.lst []) [.ex<|.mt .append (.v 3) [(.v 5)]] []] []] [aa<|spV p n,aa<|.lst<|E.map Zb,aa<|.lst<|(Zv E).map Zd,aa<|.lst<|F.map Zb,aa<|Zd h,aa<|Zb r] [3] s
   = .ok (.nx [aa<|spV p n,aa<|.lst<|E.map Zb,aa<|.lst<|(Zv E).map Zd,aa<|.lst<|(if Vy E h r=ai then F++[r]else F).map Zb,aa<|Zd h,aa<|Zb r] [3]) s:=by
 generalize hρ:[aa<|spV p n,aa<|.lst<|E.map Zb,aa<|.lst<|(Zv E).map Zd,aa<|.lst<|F.map Zb,aa<|Zd h,aa<|Zb r]=O;have g4:O[4]?=aa (aa<|Zd h):=by rw[<-hρ];rfl
 have g5:O[5]?=aa (aa<|Zb r):=by rw[<-hρ];rfl
 have a1:pv (CV<|d+1) (.cmp .eq (.ix (.v 5)<|.v 4)<|.c<|.int 1) O s=.ok (.bl<|af<|gt r h=1) s:=by
  rw[pv,Wb g5 g4 (by rw[hr.1];exact hh),Za,Yp,Za];rfl
 have a2:pv (CV<|d+1) (.cmp .eq (.call 4 [(.v 5)])<|.v 4) O s=.ok (.bl<|af<|Z1 r=h) s:=by
  rw[pv,ZF (Zc (Zh g5) Zg) (WD d s (by rw[hr.1];omega)),Za,Zh g4,Za]
  show PR.ok (V.bl<|af<|(Z1 r:Int)=h) s=_
  congr 2
  exact decide_eq_decide.mpr #[λz=>by omega,λz=>by omega]
 have t1:=W2 a1 a2;have hc:=YQ (C:=CV<|d+1) (cap:=[4,5]) (nl:=1) (t:=[0]) (it:=.of<|.v 2) (tst:=.and (.cmp .ne (.v 0)<|.v 1)<|.cmp .ne (.ix (.v 2)<|.v 0)<|.c<|.int 0) (elt:=.v 0) (O:=O) (s:=s) (l:=Zv E) (e:=Zd) (g:=Zd) (q:=λk=>!decide (k=h) && !decide (gt r k=0))
  (by rw[pvw,Zh (v:=.lst<|(Zv E).map Zd) (by rw[<-hρ];rfl)];rfl) (by
   have:=fc ((E.filter λr=>(hdI r).isSome).map Z1).contains<|az 6
   rw[aZ]at this;unfold Zv lim;omega) (λk hk=>by
   have hk:=hpl k hk;refine#[[aa<|Zd k,aa<|Zd h,aa<|Zb r],.bl<|!decide (k=h) && !decide (gt r k=0),by rw[<-hρ];rfl,?_,rfl,λ_=>Zh rfl]
   refine W2 ?_ ?_
   .rw[pv,Zh rfl,Za,Zh rfl,Za]
    show PR.ok (V.bl<|!decide ((k:Int)=h)) s=_
    congr 3
    exact decide_eq_decide.mpr #[λz=>by omega,λz=>by omega]
   .rw[pv,Wb rfl rfl (by rw[hr.1];exact hk),Za,Yp,Za];rfl)
 have t2:=vm hc;rw[Qc (q':=λk=>af (k=h)||decide (gt r k=0)) _ λk _=>by simp]at t2
 have ef:Vy E h r=((af (gt r h=1)&&af (Z1 r=h))&&(Zv E).all λk=>af (k=h)||decide (gt r k=0)):=rfl
 have stay:∀{t:Ev.E}{x:List Sm},pv (CV<|d+1) t O s=.ok (.bl am) s->rvs (CV<|d+1) [3] [.ite t x []] O [3] s=.ok (.nx O [3]) s:=λ{t x} z=>by
  rw[Zj (ρ':=O) (os':=[3]) (s':=s) (by rw[Wz<|Xf z rfl,T8 (by decide),rvs]),rvs]
 have into:∀{t:Ev.E}{x:List Sm}{R:PR FlV},pv (CV<|d+1) t O s=.ok (.bl ai) s->rvs (CV<|d+1) [3] x O [3] s=R->rvs (CV<|d+1) [3] [.ite t x []] O [3] s=R:=λ{t x R} z w=>by
  rw[rvs,Wz<|Xf z rfl,T9 rfl,w];cases R with|ok f s=>cases f<;>simp[PR.bind,rvs]|_=>rfl
 cases q1:(af (gt r h=1)&&af (Z1 r=h))with
 |false=>
  rw[q1]at t1;rw[ef,q1,lc,T8 (by decide),hρ]
  exact stay t1
 |true=>
  rw[q1]at t1;rw[ef,q1,l6];refine into t1 ?_;cases q2:(Zv E).all λk=>af (k=h)||decide (gt r k=0)with
  |false=>
   rw[q2]at t2;rw[T8 (by decide),hρ]
   exact stay t2
  |true=>
   rw[q2]at t2;rw[T9 rfl];refine into t2 ?_;rw[Zj (ρ':=O.set 3<|aa<|.lst<|(F++[r]).map Zb) (os':=[3]) (s':=s) (by
    rw[rv,T9<|show([3]:List Nat).contains 3=ai from rfl,show X3 O[3]?=aa (F.map Zb) by rw[<-hρ];rfl,Zs,Za,Zh g5,Za,T9 #[XJ r,by rw[aw];exact hl],bN];rfl),rvs,<-hρ]
   rfl
def vA(d:Nat){E F P:List Row}(s:DS)(hn:n<=6)(hK:HasK p n F P)(hE:E.Perm F)(hl:E.length<=1000):CV (d+2) 5 [spV p n,.lst<|E.map Zb] s=.ok (Ze P) s:=by
 have hpl:=xX hn hK hE;have hR:∀r∈E,Zf p n r:=λr hr=>((hK.mem r).mp<|hE.mem_iff.mp hr).1
 have hF:=jj hn hK hE;refine Zp rfl (by decide) rfl ?_
 show rvs (CV<|d+1) [3] Xx.body [aa<|spV p n,aa<|.lst<|E.map Zb,ag,ag,ag,ag] [] s=_
 dsimp only[Xx]
 have hc:=YQ (C:=CV<|d+1) (cap:=[]) (nl:=1) (t:=[0]) (it:=.of<|.v 1) (tst:=.blt .any [(.v 0)]) (elt:=.call 4 [(.v 0)]) (O:=[aa<|spV p n,aa<|.lst<|E.map Zb,ag,ag,ag,ag]) (s:=s) (l:=E) (e:=Zb) (g:=λr=>Zd<|Z1 r) (q:=λr=>(hdI r).isSome)
  (by rw[pvw,Zh rfl];rfl) (by unfold lim;omega) (λr hr=>#[[aa<|Zb r],.bl (hdI r).isSome,rfl,jO s rfl,rfl,λ_=>ZF (Zc (Zh rfl) Zg)<|WD d s (by rw[(hR r hr).1];omega)])
 have e1:pv (CV<|d+1) (.blt .sortedS [(.comp1 [] 1 [0] (.of<|.v 1) [(.blt .any [(.v 0)])]<|.call 4 [(.v 0)])]) [aa<|spV p n,aa<|.lst<|E.map Zb,ag,ag,ag,ag] s=.ok (.lst<|(Zv E).map Zd) s:=by
  rw[pv,Zc hc Zg,Za,show(E.filter λr=>(hdI r).isSome).map (λr=>Zd<|Z1 r)=((E.filter λr=>(hdI r).isSome).map Z1).map Zd by rw[bV];rfl]
  show po ((X6 _).map λks=>V.lst (((az 6).filter ks.contains).map λk:Nat=>.int k)) s=_
  rw[Uo _ λk hk=>by
   obtain⟨r,hr,rfl⟩:=aO.mp hk;obtain⟨hr,hs⟩:=bX.mp hr;obtain⟨k,e⟩:=bO.mp hs;rw[Y1 e];have:=(Z0 e).2.1;have:=(hR r hr).1;omega]
  rfl
 rw[Zj<|Xb e1 rfl];show rvs _ _ _ [aa<|spV p n,aa<|.lst<|E.map Zb,aa<|.lst<|(Zv E).map Zd,ag,ag,ag] [] s=_;rw[Zj (ρ':=[aa<|spV p n,aa<|.lst<|E.map Zb,aa<|.lst<|(Zv E).map Zd,aa<|.lst<|([]:List Row).map Zb,ag,ag]) (os':=[3]) (s':=s) (by
  rw[rv];show PR.bind (pv _ (.lst []) _ s) _=_;rw[pv,Zg];rfl)]
 have lP:P.length<=1000:=by have:=hK.part;have:=dsum this;omega
 obtain⟨ρ',hI,e⟩:=VZ (C:=CV<|d+1) (ms:=[3]) (os:=[3]) (t:=[4]) (it:=.of<|.v 2) (b:=[.forr [5] (.of<|.v 1) [.ite (.and (.cmp .eq (.ix (.v 5)<|.v 4)<|.c<|.int 1)<|.cmp .eq (.call 4 [(.v 5)])<|.v 4) [.ite (.cmp .eq (.comp1 [4,5] 1 [0] (.of<|.v 2) [(.and (.cmp .ne (.v 0)<|.v 1)<|.cmp .ne (.ix (.v 2)<|.v 0)<|.c<|.int 0)]<|.v 0)<|.lst []) [.ex<|.mt .append (.v 3) [(.v 5)]] []] []]]) (L:=Zv E) (e:=Zd) (O:=[aa<|spV p n,aa<|.lst<|E.map Zb,aa<|.lst<|(Zv E).map Zd,aa<|.lst<|([]:List Row).map Zb,ag,ag]) (s:=s)
  (λl O=>(∀k∈l,k<n)/\∃F a4 a5,O=[aa<|spV p n,aa<|.lst<|E.map Zb,aa<|.lst<|(Zv E).map Zd,aa<|.lst<|F.map Zb,a4,a5]/\F++(l.flatMap λh=>E.filter<|Vy E h)=P) (by
   show pvw (CV<|d+1) (.of<|.v 2) [aa<|spV p n,aa<|.lst<|E.map Zb,aa<|.lst<|(Zv E).map Zd,ag,ag,ag] s=_;rw[pvw,Zh rfl];rfl) #[hpl,[],ag,ag,rfl,hF] rfl (λh l O hI=>by
   obtain⟨hh,F,a4,a5,rfl,hf⟩:=hI;have h0:=hh h<|al ..;have lF:F.length<=1000:=by have:=congrArg iS hf;rw[ba]at this;omega
   obtain⟨b5,_,e5⟩:=VP (C:=CV<|d+1) (ms:=[3]) (os:=[3]) (t:=[5]) (it:=.of<|.v 1) (b:=[.ite (.and (.cmp .eq (.ix (.v 5)<|.v 4)<|.c<|.int 1)<|.cmp .eq (.call 4 [(.v 5)])<|.v 4) [.ite (.cmp .eq (.comp1 [4,5] 1 [0] (.of<|.v 2) [(.and (.cmp .ne (.v 0)<|.v 1)<|.cmp .ne (.ix (.v 2)<|.v 0)<|.c<|.int 0)]<|.v 0)<|.lst []) [.ex<|.mt .append (.v 3) [(.v 5)]] []] []]) (L:=E) (e:=Zb) (step:=λF r=>if Vy E h r=ai then F++[r]else F) (O:=λF x=>[aa<|spV p n,aa<|.lst<|E.map Zb,aa<|.lst<|(Zv E).map Zd,aa<|.lst<|F.map Zb,aa<|Zd h,x]) (st:=F) (o:=a5) (s:=s)
    (λl F=>(∀r∈l,Zf p n r)/\F.length+l.length<lim) (by
     show pvw (CV<|d+1) (.of<|.v 1) [aa<|spV p n,aa<|.lst<|E.map Zb,aa<|.lst<|(Zv E).map Zd,ag,aa<|Zd h,a5] s=_;rw[pvw,Zh rfl];rfl) #[hR,by unfold lim;omega] rfl (λr l F x hI=>by
     obtain⟨i1,i2⟩:=hI;rw[aK]at i2;refine#[#[λq hq=>i1 q<|aj _ hq,?_],by rw[XJ];rfl,[aa<|spV p n,aa<|.lst<|E.map Zb,aa<|.lst<|(Zv E).map Zd,aa<|.lst<|F.map Zb,aa<|Zd h,aa<|Zb r],aa<|Zb r,rfl,wB d s hn (i1 r<|al ..) hpl h0 (by omega)]
     split
     .rw[ba,da];omega
     .omega)
   rw[VA]at e5;refine#[rfl,[aa<|spV p n,aa<|.lst<|E.map Zb,aa<|.lst<|(Zv E).map Zd,aa<|.lst<|F.map Zb,aa<|Zd h,a5],_,rfl,by rw[Zj e5,rvs],λk hk=>hh k<|aj _ hk,_,_,_,rfl,?_]
   rw[m4,<-bv]at hf;exact hf)
 obtain⟨_,F,a4,a5,rfl,hf⟩:=hI;rw[List.flatMap_nil,bY]at hf;subst hf;rw[Zj e];refine ZE<|Yi ?_;rw[pv,Zc (Zh rfl) Zg];rfl
end
end K33
namespace Ab
open Ev Pv
end Ab
namespace Lv
open Ev Pv
noncomputable def Ue:Fn:=#[2,2,[.ite (.cmp .lt (.v 1)<|.blt .len [(.v 0)]) [.ret<|.ix (.v 0)<|.v 1] [],.ret<|.c<|.int 0]]
noncomputable def VQ(c:Nat):Fn:=#[2,3,[.asg [2]<|.call c [(.v 0),(.v 1)],.ite (.cmp .ge (.v 2)<|.bin .pow (.c<|.int 10)<|.c<|.int 18) [.ret<|.lst [(.bin .sub (.v 2)<|.bin .pow (.c<|.int 10)<|.c<|.int 18),(.c<|.bl ai)]] [],.ret<|.lst [(.bin .mod (.v 2)<|.c<|.int 2147483647),(.c<|.bl am)]]]
noncomputable def Jx(nn:Nat)(M:Int)(st:Nat)(B:List Sm)(r:E):Fn:=#[1,nn,[.forr [1] (.rng1<|.blt .max2 [(.c<|.int 1),(.blt .min2 [(.blt .len [(.v 0)]),(.c<|.int M)])]) [.cel 2 st [(.v 0),(.v 1)] B],.ret r]]
def jL(ht:ca≠tk)(hC:F[ca]?=aa Ue)(d:Nat)(k0:0<=k):∃c,Zk F tk (d+1) ca [.scr ns,.int k] s=.ok (.int c) s:=by
 by_cases c:k<ns.length
 .have hk:k.toNat<ns.length:=by lia
  refine#[ns[k.toNat],?_];simp[Zk,ht,hC,Ue,rvs,rv,pvs,Pv.pv.eq_1,Pv.pv.eq_2,pv,Wm,PR.bind,po,ZN,Yk,int2,XC,blt1,Yv,Zn,ixV,at',ixN,k0,c,hk,ofD]
 .refine#[0,?_]
  simp[Zk,ht,hC,Ue,rvs,rv,pvs,pv,Wm,PR.bind,po,ZN,Yk,int2,XC,blt1,Yv,Zn,ixV,at',ixN,k0,c,ofD]
def v3(ht:ca≠tk)(hts:st≠tk)(hC:F[ca]?=aa Ue)(hS:F[st]?=aa (VQ ca))(d:Nat)(k0:0<=k):∃v d0,Zk F tk (d+2) st [.scr ns,.int k] s=.ok v s/\V2 v=aa d0/\okS d0.1 d0.2=ai:=by
 obtain⟨c,e⟩:=jL ht hC (s:=s) (ns:=ns) d k0;rw[show d+2=(d+1)+1 from rfl,Zk,T8 hts,hS]
 generalize Zk F tk (d+1)=C at e ⊢;by_cases h:10^18<=c
 .have h':(1000000000000000000:Int)<=c:=by simpa using h
  have o:okS (c-1000000000000000000) ai=ai:=by simp[okS];lia
  refine#[.lst [.int<|c-1000000000000000000,.bl ai],(c-1000000000000000000,ai),?_,by simp[V2,o],o]
  simp[VQ,rvs,rv,pvA,pvs,pv,Wm,PR.bind,po,ZN,Yk,int2,Zn,ofD,Y3,Pv.uH,e,h',muts,xg,lim]
 .have h':¬(1000000000000000000:Int)<=c:=by simpa using h
  have o:okS (c%2147483647) am=ai:=by simp[okS];lia
  refine#[.lst [.int<|c%2147483647,.bl am],(c%2147483647,am),?_,by simp[V2,o],o]
  simp[VQ,rvs,rv,pvA,pvs,pv,Wm,PR.bind,po,ZN,Yk,int2,Zn,ofD,Y3,Pv.uH,e,h',muts,xg,lim]
theorem GQ(P:Env->Prop):∀(xs:List V),(∀x∈xs,∀O s,P O->∃ρ' s',P ρ'/\body x O [] s=.ok (.nx ρ' []) s')->∀O s,P O->∃ρ' s',P ρ'/\Y4 body xs O [] s=.ok (.nx ρ' []) s'
 |[],_,O,s,h=>#[O,s,h,rfl]
 |x::xs,hb,O,s,h=>by
  obtain⟨ρ1,s1,h1,e1⟩:=hb x (al ..) O s h;obtain⟨ρ2,s2,h2,e2⟩:=GQ P xs (λy hy=>hb y<|aj _ hy) ρ1 s1 h1
  refine#[ρ2,s2,h2,?_];rw[Y4,e1];exact e2
def hide_nil :hide [] O=O:=by
 unfold hide;apply bK
 intro i;rw[fB];cases O[i]?<;>rfl
def uJ(h0:O[0]?=aa (aa<|.scr ns))(h1:O[1]?=aa (aa<|.int k))(hl:O.length=nn+3):(Wo 2 O).set 2 (aa .drw)=aa (.scr ns)::aa (.int k)::aa .drw::aD nn ag:=by
 match O,h0,h1,hl with
 |a::b::l,h0,h1,hl=>
  cases h0;cases h1;have:l.length=nn+1:=by simpa using hl
  unfold Wo;simp[Vv,V.flat,this,bM]
def law_ofR{r:E}(d:Nat)(ht:ca≠tk)(hts:st≠tk)(htl:L≠tk)(hC:F[ca]?=aa Ue)(hS:F[st]?=aa (VQ ca))(hL:F[L]?=aa (Jx (nn+3) M st B r))(hM:M<2^62)(hr:∀O s,pv (Zk F tk<|d+2) r O s=.ok (.bl ai) s)
  (hv:∀(o:Option V)(k:Nat)(s:DS),∃O os s',rvs (Zk F tk<|d+2) (muts B) B (o::aa (.int k)::aa .drw::aD nn ag) [] s=.ok (.nx O os) s'/\O[0]?=aa o/\O.length=nn+3)(ns:List Int)(s:DS) :
  ∃S,Zk F tk (d+3) L [.scr ns] s=.ok (.bl ai) S:=by
 rw[show d+3=(d+2)+1 from rfl,Zk,T8 htl,hL]
 have hst:=λk (k0:0<=k) s=>v3 ht hts hC hS (s:=s) (ns:=ns) (k:=k) d k0
 generalize Zk F tk (d+2)=C at hv hst hr ⊢;have hR:=hr;clear hr;have hr:∃m,pvw C (.rng1<|.blt .max2 [(.c<|.int 1),(.blt .min2 [(.blt .len [(.v 0)]),(.c<|.int M)])]) (ZN (nn+3) [.scr ns]) s=.ok (ZU 0 m) s:=by
  have e:pv C (.blt .max2 [(.c<|.int 1),(.blt .min2 [(.blt .len [(.v 0)]),(.c<|.int M)])]) (ZN (nn+3) [.scr ns]) s=.ok (.int<|if(if M<(ns.length:Int)then M else(ns.length:Int))>1 then(if M<(ns.length:Int)then M else(ns.length:Int))else 1) s:=by
   simp[pv,pvs,PR.bind,po,ZN,ofD,XC,blt1,blt2,Yv]
  rw[pvw,e];refine#[_,(T9 ?_ :)];unfold YA;refine T5 ?_;split<;>split<;>lia
 obtain⟨m,hr⟩:=hr;have hm:muts (Jx (nn+3) M st B r).body=muts B:=by simp[Jx,muts,xg]
 simp only[hm];show ∃S,(if 1=1 then _ else _)=_
 rw[T9 rfl];unfold Jx;simp only;rw[rvs,rv,hide_nil,hr]
 let body:V->Env->List Nat->DS->PR FlV:=λx O os s=>if([1].any os.contains)=ai then .no else(po (Zi [1] x O) s).bind λO s=>rvs C (muts B) [.cel 2 st [(.v 0),(.v 1)] B] O os s
 have hb:∀x∈ZU 0 m,∀O s,(O[0]?=aa (aa<|.scr ns)/\O.length=nn+3)->∃ρ' s',(ρ'[0]?=aa (aa<|.scr ns)/\ρ'.length=nn+3)/\body x O [] s=.ok (.nx ρ' []) s':=by
  intro x hx O s #[h0,hl];unfold ZU at hx;obtain⟨k,_,rfl⟩:=aO.mp hx;rw[Int.zero_add];obtain⟨v,d0,e1,e2,e3⟩:=hst (k:Int) (by lia) s
  obtain⟨ρ2,os2,s2,e4,h2,l2⟩:=hv (aa<|.scr ns) k d0;have q0:(O.set 1<|aa<|.int (k:Int))[0]?=aa (aa<|.scr ns):=by rw[bo (by decide)];exact h0
  have q1:(O.set 1<|aa<|.int (k:Int))[1]?=aa (aa<|.int (k:Int)):=bU (by lia)
  have ql:(O.set 1<|aa<|V.int (k:Int)).length=nn+3:=by rw[bZ];exact hl
  have a:pvs C [(.v 0),(.v 1)] (O.set 1<|aa<|.int (k:Int)) s=.ok [.scr ns,.int (k:Int)] s:=by
   simp only[pvs,pv,q0,q1,PR.bind,po,Option.join];rfl
  refine#[ρ2.map Vv,s,#[by rw[aJ,h2];rfl,by rw[aw];exact l2],?_]
  show(rvs C (muts B) [.cel 2 st [(.v 0),(.v 1)] B] (O.set 1<|aa<|.int (k:Int)) [] s)=_;rw[rvs,rv,T9 (by rfl),a]
  show PR.bind (PR.bind (C st [.scr ns,.int (k:Int)] s) _) _=_;rw[e1];show PR.bind (PR.bind (po (V2 v) s) _) _=_;rw[e2];simp only[po,PR.bind,uJ q0 q1 ql,e4,rvs]
 obtain⟨O,s',h,e⟩:=GQ (body:=body) (λO=>O[0]?=aa (aa<|.scr ns)/\O.length=nn+3) (ZU 0 m) hb (ZN (nn+3) [.scr ns]) s #[rfl,by simp[ZN]]
 refine#[s',?_];show PR.bind (PR.bind (Y4 body (ZU 0 m) _ _ s) _) _=_;rw[e];show PR.bind (rvs C (muts B) [.ret r] O [] s') _=_;rw[rvs,rv,hR];rfl
end Lv
namespace K33
open Ev Pv Rw La
open Ab (okV X5)
noncomputable def U5:List (Nat×Nat):=[(2,1),(2,2),(2,3),(2,4),(3,1),(3,2),(3,3),(5,1),(5,2),(2,3),(2,4),(3,3)]
noncomputable def Zbn:List (Nat×Nat):=[(2,5),(2,6),(3,4),(5,3)]
noncomputable def Wf:List (Nat×Nat):=U5++Zbn
def qZ:∀q∈Wf,(q.1=2\/q.1=3\/q.1=5)/\1<=q.2/\q.2<=6/\q.1^q.2<=1000:=by decide
def xW(d:Nat){m:Int}(s:DS):∃q s',CV (d+2) 3 [.drw,.int m] s=.ok (spV q.1 q.2) s'/\q∈Wf:=by
 let L:=if m>27 then Wf else U5
 have hL:12<=L.length/\L.length<=16/\∀q∈L,q∈Wf:=by
  by_cases c:m>27
  .simp only[L,T9 c];exact#[by decide,by decide,λq hq=>hq]
  .simp only[L,T8 c];exact#[by decide,by decide,λq hq=>dG _ hq]
 obtain⟨v,s',f1,f2,f3⟩:=U4 (F:=fns) (tk:=2) (d:=d) (m:=L.length) s (by omega) (by omega)
 obtain⟨k,rfl⟩:∃k:Nat,v=k:=#[v.toNat,by omega]
 have hk:k<L.length:=by omega
 refine#[L[k],s',Zp rfl (by decide) rfl ?_,hL.2.2 _<|aW hk]
 show rvs (CV<|d+1) [] Xm.body [aa .drw,aa<|.int m,ag] [] s=_
 dsimp only[Xm]
 rw[Zj (ρ':=[aa .drw,aa<|.int m,aa<|.lst<|U5.map λq=>spV q.1 q.2]) (os':=[]) (s':=s) (by simp[pvE,U5,spV])]
 have e0:pv (CV<|d+1) (.cmp .gt (.v 1)<|.c<|.int 27) [aa .drw,aa<|.int m,aa<|.lst<|U5.map λq=>spV q.1 q.2] s=.ok (.bl<|af<|27<m) s:=by
  rw[pv,Zh rfl,Za,Yp,Za];rfl
 rw[Zj (ρ':=[aa .drw,aa<|.int m,aa<|.lst<|L.map λq=>spV q.1 q.2]) (os':=[]) (s':=s) (by
  rw[Wz<|Xf e0 rfl];by_cases c:m>27
  .simp only[L,T9 c]
   rw[T5 c,T9 rfl];rw[Zj (ρ':=[aa .drw,aa<|.int m,aa<|.lst<|Wf.map λq=>spV q.1 q.2]) (os':=[]) (s':=s) (by simp[pvE,Wf,U5,Zbn,spV]),rvs]
  .simp only[L,T8 c]
   rw[T4 c,T8 (by decide),rvs])]
 refine ZE<|Yi ?_;have e1:pv (CV<|d+1) (.blt .len [(.v 2)]) [aa .drw,aa<|.int m,aa<|.lst<|L.map λq=>spV q.1 q.2] s=.ok (.int L.length) s:=by
  rw[pv,Zc (Zh rfl) Zg,Za];show po (aa<|V.int (L.map λq=>spV q.1 q.2).length) s=_
  rw[aw];rfl
 rw[pv,Zh rfl,Za,ZF (Zc (Zh rfl)<|Zc e1 Zg) f1,Za];show po (at' (L.map λq=>spV q.1 q.2) (k:Int)) s'=_
 rw[Q0 (by rw[aJ,ae hk];rfl)];rfl
def zW{C:Zq}{cap:List Nat}{nl:Nat}{t:List Nat}{it:W}{elt:E}{O:Env}{s s0:DS}{k:Nat}{Q:V->Prop}(hw:pvw C it O s=.ok (ZU 0 k) s0)(hl:k<=lim)(h:∀(x:V)(s:DS),∃Z y s',Zi t x (ZQ cap nl O)=aa Z/\pv C elt Z s=.ok y s'/\Q y)(ho:own nl t=ai:=by rfl) :
  ∃ys s',pv C (.comp1 cap nl t it [] elt) O s=.ok (.lst ys) s'/\ys.length=k/\∀y∈ys,Q y:=by
 obtain⟨ys,s',e1,e2,e3⟩:=Vd (Q:=Q) (f:=λx s=>(po (Zi t x<|ZQ cap nl O) s).bind λZ s=>(pvt C [] Z s).bind λb s=>if b then(pv C elt Z s).bind λy s=>.ok [y] s else .ok [] s) (λx s=>by
  obtain⟨Z,y,s',f1,f2,f3⟩:=h x s;refine#[y,s',?_,f3];rw[f1,Zs,Za,pvt,Za];show(pv C elt Z s).bind _=_;rw[f2];rfl) (ZU 0 k) s0
 have hk:(ZU 0 k).length=k:=by unfold ZU;simp
 refine#[ys,s',?_,by rw[e2,hk],e3]
 rw[pv,T9 ho,hw,Za,e1,Za,T9 (by rw[e2,hk];exact hl)];rfl
theorem Qv{p n:Nat}:∀{ys:List V},(∀y∈ys,∃r:Row,y=Zb r/\Zf p n r)->∃R:List Row,ys=R.map Zb/\∀r∈R,Zf p n r
 |[],_=>#[[],rfl,λ_ h=>by cases h]
 |y::ys,h=>by
  obtain⟨R,rfl,hR⟩:=Qv λz hz=>h z<|aj _ hz
  obtain⟨r,rfl,hr⟩:=h y<|al ..;refine#[r::R,rfl,λx hx=>?_]
  rcases aB.mp hx with rfl|hx
  .exact hr
  .exact hR x hx
theorem G8{p:Nat}:∀{ys:List V},(∀y∈ys,∃a:Int,y=.int a/\0<=a/\a<(p:Int))->∃r:Row,ys=r.map V.int/\∀a∈r,0<=a/\a<(p:Int)
 |[],_=>#[[],rfl,λ_ h=>by cases h]
 |y::ys,h=>by
  obtain⟨r,rfl,hr⟩:=G8 λz hz=>h z<|aj _ hz
  obtain⟨a,rfl,h3⟩:=h y<|al ..;refine#[a::r,rfl,λx hx=>?_]
  rcases aB.mp hx with rfl|hx
  .exact h3
  .exact hr x hx
section
variable{p n:Nat}[Base p]
theorem W9:∀L:List Row,(Zu L).Perm L
 |[]=>bz _
 |x::L=>by
  have ins:∀(x:Row)(l:List Row),(YH x l).Perm (x::l):=λx l=>by
   induction l with
   |nil=>exact bz _
   |cons y l ih=>
    unfold YH;split
    .exact bz _
    .exact(ih.cons y).trans<|gA ..
  exact(ins x<|Zu L).trans<|(W9 L).cons x
def Zas(d:Nat)(s:DS)(hn:n<=6):∃r s',CV (d+2) 6 [.drw,spV p n] s=.ok (Zb r) s'/\Zf p n r:=by
 have hp:=z8 (p:=p);obtain⟨v,s1,f1,f2,f3⟩:=U4 (F:=fns) (tk:=2) (d:=d) (m:=(n:Int)+1) s (by omega) (by omega)
 obtain⟨w,s2,g1,g2,g3⟩:=U4 (F:=fns) (tk:=2) (d:=d) (m:=3) s1 (by omega) (by omega)
 obtain⟨k,hk,e0⟩:∃k:Nat,k<=n/\pv (CV<|d+1) (.bin .mul (.call 2 [(.v 0),(.bin .add (.ix (.v 1)<|.c<|.int 1)<|.c<|.int 1)])<|.blt .toInt [(.cmp .eq (.call 2 [(.v 0),(.c<|.int 3)])<|.c<|.int 0)]) [aa .drw,aa<|spV p n,ag] s=.ok (Zd k) s2:=by
  have h1:pv (CV<|d+1) (.bin .add (.ix (.v 1)<|.c<|.int 1)<|.c<|.int 1) [aa .drw,aa<|spV p n,ag] s=.ok (.int<|(n:Int)+1) s:=JF (ix1 rfl) Yp;have h2:pv (CV<|d+1) (.call 2 [(.v 0),(.bin .add (.ix (.v 1)<|.c<|.int 1)<|.c<|.int 1)]) [aa .drw,aa<|spV p n,ag] s=.ok (.int v) s1:=ZF (Zc (Zh rfl)<|Zc h1 Zg) f1;have h3:pv (CV<|d+1) (.call 2 [(.v 0),(.c<|.int 3)]) [aa .drw,aa<|spV p n,ag] s1=.ok (.int w) s2:=ZF (Zc (Zh rfl)<|Zc Yp Zg) g1;have h4:pv (CV<|d+1) (.blt .toInt [(.cmp .eq (.call 2 [(.v 0),(.c<|.int 3)])<|.c<|.int 0)]) [aa .drw,aa<|spV p n,ag] s1=.ok (.int<|b2i<|af<|w=0) s2:=by
   have:pv (CV<|d+1) (.cmp .eq (.call 2 [(.v 0),(.c<|.int 3)])<|.c<|.int 0) [aa .drw,aa<|spV p n,ag] s1=.ok (.bl<|af<|w=0) s2:=by
    rw[pv,h3,Za,Yp,Za];rfl
   rw[pv,Zc this Zg];rfl
  by_cases c:w=0
  .refine#[v.toNat,by omega,?_]
   rw[pv,h2,Za,h4,Za,T5 c];show(if(fits v&&fits 1)=ai then PR.ok (V.int<|v*1) s2 else .no)=_
   rw[T9 (by rw[Xk (by omega) (by omega)];rfl)]
   unfold Zd;rw[show v*1=((v.toNat:Nat):Int) by omega]
  .refine#[0,by omega,?_]
   rw[pv,h2,Za,h4,Za,T4 c];show(if(fits v&&fits 0)=ai then PR.ok (V.int<|v*0) s2 else .no)=_
   rw[T9 (by rw[Xk (by omega) (by omega)];rfl),Int.mul_zero];rfl
 obtain⟨ys,s3,e1,e2,e3⟩:=xM (C:=CV<|d+1) (cap:=[0,1]) (nl:=1) (t:=[0]) (it:=.rng1<|.bin .sub (.ix (.v 1)<|.c<|.int 1)<|.v 2) (elt:=.call 2 [(.v 1),(.ix (.v 2)<|.c<|.int 0)]) (O:=[aa .drw,aa<|spV p n,aa<|Zd k]) (s:=s2) (k:=n-k) (Q:=λy=>∃a:Int,y=.int a/\0<=a/\a<(p:Int))
  (by
   rw[Ji];refine Yx ?_ (by omega)
   rw[pv,ix1 rfl,Za,Zh rfl,Za];show PR.ok (V.int<|(n:Int)-(k:Int)) s2=_;rw[show(n:Int)-(k:Int)=((n-k:Nat):Int) by omega]) (by unfold lim;omega) (λx s=>by
   obtain⟨v,s',f1,f2,f3⟩:=U4 (F:=fns) (tk:=2) (d:=d) (m:=p) s (by omega) (by omega)
   exact#[[aa x,aa .drw,aa<|spV p n],.int v,s',rfl,ZF (Zc (Zh rfl)<|Zc (ix0 rfl) Zg) f1,v,rfl,f2,f3])
 obtain⟨r,rfl,hr⟩:=G8 e3;rw[aw]at e2;refine#[aD k 0++r,s3,Zp rfl (by decide) rfl ?_,by rw[ba,bR,e2];omega,λa ha=>?_]
 .show rvs (CV<|d+1) [] X8.body [aa .drw,aa<|spV p n,ag] [] s=_
  dsimp only[X8]
  rw[Zj<|Xb e0 rfl];show rvs _ _ _ [aa .drw,aa<|spV p n,aa<|Zd k] [] s2=_;refine ZE<|Yi ?_;have g:pv (CV<|d+1) (.tup [(.c<|.int 0)]) [aa .drw,aa<|spV p n,aa<|Zd k] s2=.ok (.tup [.int 0]) s2:=xk Yp;have g2:pv (CV<|d+1) (.bin .mul (.tup [(.c<|.int 0)])<|.v 2) [aa .drw,aa<|spV p n,aa<|Zd k] s2=.ok (.tup<|(aD k (0:Int)).map V.int) s2:=by
   rw[pv,g,Za,Zh rfl,Za];show(if(0:Int)<=k/\(k:Int)<1000/\1<=1000 then PR.ok (V.tup (aD (k:Int).toNat [V.int 0]).flatten) s2 else .no)=_
   rw[T9 #[by omega,by omega,by omega],du,qg]
  have g3:pv (CV<|d+1) (.blt .tuple [(.comp1 [0,1] 1 [0] (.rng1<|.bin .sub (.ix (.v 1)<|.c<|.int 1)<|.v 2) []<|.call 2 [(.v 1),(.ix (.v 2)<|.c<|.int 0)])]) [aa .drw,aa<|spV p n,aa<|Zd k] s2=.ok (.tup<|r.map V.int) s3:=by
   rw[pv,Zc e1 Zg];rfl
  rw[pv,g2,Za,g3,Za];show(if((aD k (0:Int)).map V.int).length+(r.map V.int).length<=lim then PR.ok (V.tup<|(aD k (0:Int)).map V.int++r.map V.int) s3 else .no)=_
  rw[T9 (by rw[aw,aw,bR];unfold lim;omega),<-bN];rfl
 .rcases cV.mp ha with ha|ha
  .rw[kh ha];omega
  .exact hr a ha
def qp(d:Nat)(s:DS)(hn:n<=6)(h1:1<=n)(hp:p^n<=1000):∃P s',CV (d+3) 9 [.drw,spV p n] s=.ok (Ze P) s'/\pZ p n P:=by
 obtain⟨v,s1,f1,f2,f3⟩:=U4 (F:=fns) (tk:=2) (d:=d+1) (m:=(n:Int)+1) s (by omega) (by omega)
 obtain⟨k,rfl⟩:∃k:Nat,v=k:=#[v.toNat,by omega]
 obtain⟨ys,s2,e1,e2,e3⟩:=zW (C:=CV<|d+2) (cap:=[0,1]) (nl:=1) (t:=[0]) (it:=.rng1<|.call 2 [(.v 0),(.bin .add (.ix (.v 1)<|.c<|.int 1)<|.c<|.int 1)]) (elt:=.call 6 [(.v 1),(.v 2)]) (O:=[aa .drw,aa<|spV p n,ag]) (s:=s) (s0:=s1) (k:=k) (Q:=λy=>∃r:Row,y=Zb r/\Zf p n r)
  (by
   rw[Ji];exact Yx (ZF (Zc (Zh rfl)<|Zc (JF (ix1 rfl) Yp) Zg) f1)<|by omega) (by unfold lim;omega) (λx s=>by
   obtain⟨r,s',g1,g2⟩:=Zas (p:=p) (n:=n) d s hn;exact#[[aa x,aa .drw,aa<|spV p n],Zb r,s',rfl,ZF (Zc (Zh rfl)<|Zc (Zh rfl) Zg) g1,r,rfl,g2])
 obtain⟨R,rfl,hR⟩:=Qv e3;have hK:=Ul hR;have hl:(Zu<|Xy p n R).length<=1000:=by
  rw[J7,hK.len];have:=z8 (p:=p);exact cp (eD (by omega)<|dsum hK.part) hp
 refine#[Vb p [] R,s2,Zp rfl (by decide) rfl ?_,hK.part]
 show rvs (CV<|d+2) [] XM.body [aa .drw,aa<|spV p n,ag] [] s=_
 dsimp only[XM]
 rw[Zj<|Xb e1 rfl];show rvs _ _ _ [aa .drw,aa<|spV p n,aa<|.lst<|R.map Zb] [] s2=_;exact ZE<|Yi<|YX (Zh rfl) (YX (Zh rfl) (Zh rfl)<|G6 d s2 hn h1 hp hR rfl)<|vA d s2 hn hK (W9 _) hl
end
end K33
namespace Rw
open La
open Ev (ltP Z7 Vk)
noncomputable def Us{B:Type}(lt:B->B->Bool):Nat->List B->List B->List B
 |0,a,b=>a++b
 |_+1,[],b=>b
 |_+1,a,[]=>a
 |f+1,x::a,y::b=>if lt x y then x::Us lt f a (y::b)else y::Us lt f (x::a) b
theorem Xw{B:Type}(lt:B->B->Bool):∀(f:Nat)(a b:List B),(Us lt f a b).Perm (a++b)
 |0,a,b=>bz _
 |_+1,[],b=>bz _
 |_+1,x::a,[]=>by show(x::a).Perm _;simp
 |f+1,x::a,y::b=>by
  unfold Us;split
  .exact(Xw lt f a (y::b)).cons x
  .exact((Xw lt f (x::a) b).cons y).trans nD.symm
noncomputable def JN{B:Type}(lt:B->B->Bool):Nat->List B->List B
 |0,l=>l
 |f+1,l=>if l.length<=1 then l else Us lt l.length (JN lt f<|l.take<|l.length / 2) (JN lt f<|l.drop<|l.length / 2)
theorem Wd{B:Type}(lt:B->B->Bool):∀(f:Nat)(l:List B),(JN lt f l).Perm l
 |0,l=>bz _
 |f+1,l=>by
  unfold JN;split
  .exact bz _
  .refine(Xw ..).trans<|((Wd lt f _).append<|Wd lt f _).trans<|kU<|cL ..
noncomputable def GY(n:Nat):List (List Nat):=(az n).foldl (λl k=>l++l.map λr=>r++[k]) [[]]
noncomputable def ZcB{B:Type}(lt:B->B->Bool):List B->Bool
 |[]=>ai
 |[_]=>ai
 |x::y::l=>lt x y&&ZcB lt (y::l)
theorem yJ{B:Type}{lt:B->B->Bool}(O:Sd.StrictB lt):∀{l:List B},ZcB lt l=ai->l.Pairwise λa b=>lt a b=ai
 |[],_=>.nil
 |[x],_=>eR ..
 |x::y::l,h=>by
  obtain⟨h1,h2⟩:=(aA _ _).mp h;have ih:=yJ O h2;refine aV.mpr #[λz hz=>?_,ih]
  rcases aB.mp hz with rfl|hz
  .exact h1
  .exact O.tr h1<|(aV.mp ih).1 z hz
def Zcu{B:Type}{lt:B->B->Bool}(O:Sd.StrictB lt){l:List B}(h:l.Pairwise λa b=>lt a b=ai):l.Nodup:=h.imp λ{a b} h e=>by
 subst e;have:=O.asy h;rw[h]at this;cases this
open Ev (Zu)
noncomputable def ZP(p n:Nat):List Row:=(az n).foldl (λl _=>XE p l) [[]]
noncomputable def jc(S:List Nat)(h:Nat)(r:Row):Bool:=(af (Z1 r=h)&&af (gt r h=1))&&S.all λk=>af (k=h)||decide (gt r k=0)
noncomputable def JY(E:List Row)(S:List Nat)(F:List (List Row))(h:Nat):List (List Row):=(E.filter<|jc S h).flatMap λr=>F.map λP=>P++[r]
noncomputable def zH(E:List Row)(S:List Nat):List (List Row):=S.foldl (JY E S) [[]]
noncomputable def whS(p n:Nat)(F:List (List Row))(h:Nat):List (List Row):=F.flatMap λP=>if(P.all λr=>af<|gt r h=0)=ai then(ZZ p n h).map λr=>P++[r]else[]
noncomputable def whL(p n:Nat)(S:List Nat):List (List Row):=S.foldl (whS p n) [[]]
noncomputable def Va(step:List (List Row)->Nat->List (List Row))(a:List (List Row)×Bool)(h:Nat):List (List Row)×Bool:=(step a.1 h,a.2&&af ((step a.1 h).length<=1000))
noncomputable def ZaH(q:Nat×Nat):Bool:=af (Zu (Xy q.1 q.2<|units q.2)=ZP q.1 q.2)&&(GY q.2).all λS=>
 (S.foldl (Va<|JY (ZP q.1 q.2) S) ([[]],ai)).2&&((S.foldl (Va<|whS q.1 q.2) ([[]],ai)).2&&(af (JN ltP 12 (zH (ZP q.1 q.2) S)=whL q.1 q.2 S)&&(ZcB ltP (whL q.1 q.2 S) &&
 ((af ((whL q.1 q.2 S).length<=1)||(whL q.1 q.2 S).all λP=>!P.isEmpty)&&(af (S.length<=6)&&(whL q.1 q.2 S).all λP=>af (P.length<=6)&&P.all λr=>af<|r.length=q.2)))))
def wT:∀q∈ZcE++ZcU,ZaH q=ai:=by decide +kernel
theorem Zbs{step:List (List Row)->Nat->List (List Row)}:∀(l:List Nat)(a:List (List Row)×Bool),(l.foldl (Va step) a).2=ai->a.2=ai
 |[],_,h=>h
 |k::l,a,h=>((aA _ _).mp<|Zbs l (Va step a k) h).1
def V6{step:List (List Row)->Nat->List (List Row)}{k:Nat}{l:List Nat}{F:List (List Row)}(h:((k::l).foldl (Va step) (F,ai)).2=ai):(l.foldl (Va step) (step F k,ai)).2=ai/\(step F k).length<=1000:=by
 have h:(l.foldl (Va step) (step F k,ai&&af ((step F k).length<=1000))).2=ai:=h;have b:(ai&&af ((step F k).length<=1000))=ai:=Zbs l _ h;rw[b]at h;rw[l6]at b;exact#[h,T6 b]
structure HeadsOk(p n:Nat)(S:List Nat):Prop where
 rows:Zu (Xy p n<|units n)=ZP p n
 due:(S.foldl (Va<|JY (ZP p n) S) ([[]],ai)).2=ai
 wh:(S.foldl (Va<|whS p n) ([[]],ai)).2=ai
 sort:Z7 ltP (zH (ZP p n) S)=whL p n S
 ok:Ev.ZY (zH (ZP p n) S)=ai
 len:(whL p n S).length<=1000
 few:∀P∈whL p n S,P.length<=6/\∀r∈P,r.length=n
theorem xc{step:List (List Row)->Nat->List (List Row)}:∀(l:List Nat)(F:List (List Row)),F.length<=1000->(l.foldl (Va step) (F,ai)).2=ai->(l.foldl step F).length<=1000
 |[],F,h,_=>h
 |k::l,F,_,h=>let #[a,b]:=V6 h;xc l _ b a
def qk{p n:Nat}{S:List Nat}(hq:(p,n)∈ZcE++ZcU)(hS:S∈GY n):HeadsOk p n S:=by
 obtain⟨h1,h2⟩:=(aA _ _).mp<|wT (p,n) hq;have h:=aT.mp h2 S hS;simp only[aA,T0]at h;obtain⟨a1,a2,a3,a4,a5,a6,a7⟩:=h;have pm:(zH (ZP p n) S).Perm (whL p n S):=a3▸(Wd ltP 12 _).symm;have inc:=yJ Sd.Yn a4;have nd:(zH (ZP p n) S).Nodup:=pm.nodup_iff.mpr<|Zcu Sd.Yn inc;have hl:(whL p n S).length<=1000:=xc S [[]] (by simp) a2
 refine#[T6 h1,a1,a2,Sd.Xc Sd.Yn ((Sd.Xl _).trans pm) (Sd.Xj Sd.Yn nd) inc,?_,hl,λP hP=>?_]
 .unfold Ev.ZY
  rw[aA,aA,ee,T0,T0,T0,aT];refine#[#[by rw[pm.length_eq];omega,nd],?_]
  rw[pm.length_eq];rcases(ee _ _).mp a5 with z|z
  .exact .inl<|T6 z
  .exact .inr λP hP=>aT.mp z P<|pm.mem_iff.mp hP
 .have:=aT.mp a7 P hP
  rw[aA,T0,aT]at this;exact#[this.1,λr hr=>T6<|this.2 r hr]
theorem JB:∀{n:Nat}{S:List Nat},S.Sublist (az n)->S∈GY n
 |0,S,h=>by
  have:S=[]:=kA.mp h;subst this;exact bh.mpr rfl
 |n+1,S,h=>by
  rw[kX]at h;obtain⟨A,B,rfl,hA,hB⟩:=List.sublist_append_iff.mp h;have ih:=JB hA;show A++B∈(az<|n+1).foldl (λl k=>l++l.map λr=>r++[k]) [[]]
  rw[kX,m3];show A++B∈GY n++(GY n).map λr=>r++[n]
  rw[cV];have hb:B=[]\/B=[n]:=by
   cases hB with|cons _ h=>exact .inl<|kA.mp h|cons_cons _ h=>rw[kA.mp h];exact .inr rfl
  rcases hb with rfl|rfl
  .exact .inl (by rw[bY];exact ih)
  .exact .inr<|aO.mpr #[A,ih,rfl]
end Rw
namespace K33
open Ev Pv Rw La
open Ab (okV X5)
def x8(r:Row):V.flat (Zb r)=ai:=X7 r
theorem Y5{B:Type}{f:B->V}:∀(l:List B),(∀x∈l,(f x).flat=ai)->Z8 (l.map f)=ai
 |[],_=>rfl
 |x::l,h=>by
  show(V.flat (f x)&&Z8 (l.map f))=ai;rw[h x<|al ..,Y5 l λy hy=>h y<|aj _ hy];rfl
def Wl(P:List Row):V.flat (Ze P)=ai:=Y5 P λr _=>x8 r
section
variable{C:Zq}{ms os:List Nat}{O:Env}{s s':DS}{e a b:E}{i j:Nat}
def xh{v:V}(h:O[i]?=aa (aa v))(ho:os.contains i=am):(hide os O)[i]?=aa (aa v):=by
 unfold hide;rw[fB,h];show aa (if os.contains i=ai then ag else aa v)=_
 rw[T8 (by rw[ho];simp)]
def Za4{O:Env}{s':DS}{i o:Nat}{e:E}{v:V}(h:pv C e (hide (o::os) O) s=.ok v s')(hm:(ms.contains i&&fresh e)=am):rv C ms (.asg [i] e) O (o::os) s=.ok (.nx (O.set i<|aa v) ((o::os).filter (· != i))) s':=by
 have h1:pvA C e O (o::os) s=.ok v s':=by unfold pvA;dsimp only;rw[h]
 rw[rv,h1,Za,T8 (by rw[hm];simp)]
def Zc6{O:Env}{s':DS}{i o:Nat}{e:E}{xs:List V}(h:pv C e (hide (o::os) O) s=.ok (.lst xs) s')(hm:(ms.contains i&&fresh e)=ai)(hf:Z8 xs=ai)(hi:i<O.length):rv C ms (.asg [i] e) O (o::os) s=.ok (.nx (O.set i<|aa<|.lst xs) (i::(o::os).filter (· != i))) s':=by
 have h1:pvA C e O (o::os) s=.ok (.lst xs) s':=by unfold pvA;dsimp only;rw[h]
 rw[rv,h1,Za,T9 hm];show(if Z8 xs=ai/\i<O.length then _ else _)=_
 rw[T9 #[hf,hi]]
def Q5{xs:List V}(h:pv C e (hide os O) s=.ok (.lst xs) s')(hm:(ms.contains i&&fresh e)=ai)(hf:Z8 xs=ai)(hi:i<O.length):rv C ms (.asg [i] e) O os s=.ok (.nx (O.set i<|aa<|.lst xs) (i::os.filter (· != i))) s':=by
 cases os with
 |nil=>
  rw[Lv.hide_nil]at h;have h1:pvA C e O [] s=.ok (.lst xs) s':=h;rw[rv,h1,Za,T9 hm];show(if Z8 xs=ai/\i<O.length then _ else _)=_
  rw[T9 #[hf,hi]]
 |cons o os=>exact Zc6 h hm hf hi
def ZaL{o:Nat}{xs:List V}(h0:pv C e (hide (o::os) O) s=.no)(h:pv C e O s=.ok (.lst xs) s')(hm:(ms.contains i&&fresh e)=ai)(hf:Z8 xs=ai)(hi:i<O.length):rv C ms (.asg [i] e) O (o::os) s=.ok (.nx (O.set i<|aa<|.lst xs) (i::(o::os).filter (· != i))) s':=by
 have h1:pvA C e O (o::os) s=.ok (.lst xs) s':=by
  unfold pvA
  dsimp only
  rw[h0];show PR.bind (pv C e O s) _=_;rw[h,Za,T9 (by
   rw[((aA _ _).mp hm).2];show(am||true&&Z8 xs)=ai;rw[hf];rfl)]
 rw[rv,h1,Za,T9 hm];show(if Z8 xs=ai/\i<O.length then _ else _)=_
 rw[T9 #[hf,hi]]
def ZcS{t:E}{x l:List Sm}(h:pv C t O s=.ok (.bl am) s):rvs C ms (.ite t x []::l) O os s=rvs C ms l O os s:=by
 rw[Zj (ρ':=O) (os':=os) (s':=s) (by rw[Wz<|Xf h rfl,T8 (by simp),rvs])]
def qS{O:Env}{a b:E}{xs:List V}{y:V}(h1:pv C a O s=.ok (.tup xs) s)(h2:pv C b O s=.ok y s)(hl:xs.length<=1000):pv C (.bin .add a<|.tup [b]) O s=.ok (.tup<|xs++[y]) s:=by
 rw[pv,h1,Za,xk h2,Za];show(if xs.length+1<=lim then PR.ok (V.tup<|xs++[y]) s else .no)=_
 rw[T9 (by unfold lim;omega)]
def uA{C:Zq}{O:Env}{s s1 s':DS}{f:Nat}{as:List E}{vs:List V}{v:V}(h:pvs C as O s=.ok vs s1)(hc:C f vs s1=.ok v s'):pv C (.callF f as) O s=.ok v s':=by rw[pv,h];exact hc
end
section
variable{C:Zq}{cap:List Nat}{nl:Nat}{t:List Nat}{it:W}{elt tst:E}{O:Env}{s:DS}{B:Type}
def wV{β:Type}{u:List Nat}{jt:W}{l:List B}{e:B->V}{m:B->List β}{e2:β->V}{g:B->β->V}{q:B->Bool}(hw:pvw C it O s=.ok (l.map e) s)(hl:(l.flatMap λx=>if q x=ai then(m x).map (g x)else[]).length<=lim)
  (h:∀x∈l,∃Z v,Zi t (e x) (ZQ cap nl O)=aa Z/\pv C tst Z s=.ok v s/\Zn v=aa (q x)/\pvw C jt Z s=.ok ((m x).map e2) s/\∀y∈m x,∃σ',Zi u (e2 y) Z=aa σ'/\pv C elt σ' s=.ok (g x y) s)(ho:own2 nl t u=ai:=by rfl):pv C (.comp2 cap nl t it [tst] u jt [] elt) O s=.ok (.lst<|l.flatMap λx=>if q x=ai then(m x).map (g x)else[]) s:=by
 rw[pv,T9 ho,hw,Za,Vn (g:=λx=>if q x=ai then(m x).map (g x)else[]) λx hx=>by
  obtain⟨Z,v,e1,e5,e6,e3,e4⟩:=h x hx;rw[e1,Zs,Za,pvt,e5,Za,e6,Zs,Za];cases c:q x with
  |false=>rw[T8 (by simp),Za,T8 (by simp),T8 (by simp)]
  |true=>
   rw[T9 rfl,pvt,Za,T9 rfl,e3,Za,T9 rfl];exact Ws λy hy=>by
    obtain⟨σ',f1,f2⟩:=e4 y hy;rw[f1,Zs,Za,pvt,Za];show(pv C elt σ' s).bind _=_;rw[f2];rfl]
 rw[Za,T9 hl];rfl
end
noncomputable def Zm(S:List Nat):V:=.tup<|S.map Zd
section
variable{p n:Nat}[Base p]
def GG(d:Nat){P:List Row}{h:Nat}(s:DS)(hP:∀r∈P,Zf p n r)(hl:P.length<=1000)(hh:h<n):CV (d+1) 16 [Ze P,Zd h] s=.ok (.bl<|P.all λr=>af<|gt r h=0) s:=by
 refine Zp rfl (by decide) rfl ?_
 have hc:=ZI (C:=CV d) (cap:=[1]) (nl:=1) (t:=[0]) (it:=.of<|.v 0) (elt:=.cmp .eq (.ix (.v 0)<|.v 1)<|.c<|.int 0) (O:=[aa<|Ze P,aa<|Zd h]) (s:=s) (l:=P) (e:=Zb) (g:=λr=>V.bl<|af<|gt r h=0)
  (by simp[pvE,Ze]) (by unfold lim;omega) (λr hr=>#[_,rfl,by
   have:=Jh (by rw[(hP r hr).1];exact hh)
   simp[pvE,Zb,Zd,this,Zr]])
 have ht:=ZX (g:=λr:Row=>af<|gt r h=0) P
 simp[Y7,pvE,hc,ht,ic,Function.comp]
def vD{C:Zq}{O:Env}{s:DS}{a b:E}{i j:Nat}(h1:pv C a O s=.ok (.int i) s)(h2:pv C b O s=.ok (.int j) s)(hi:i<1000000)(hj:j<1000000):pvw C (.rng2 a b) O s=.ok ((az<|j-i).map λk=>Zd<|i+k) s:=by
 rw[pvw,h1,Za,h2,Za];show(if(YA (i:Int)&&YA (j:Int))=ai then PR.ok (ZU i ((j:Int)-i).toNat) s else .no)=_
 rw[Xz (by omega) (by omega),Xz (by omega) (by omega),T9<|show(ai&&ai)=ai from rfl,show((j:Int)-i).toNat=j-i by omega]
 rfl
def GL(d:Nat){h:Nat}(s:DS)(hn:n<=6)(hh:h<n):CV (d+1) 15 [spV p n,Zd h] s=.ok (.lst<|(ZZ p n h).map Zb) s:=by
 refine Zp rfl (by decide) rfl ?_
 show rvs (CV d) [] (.asg [2,3] (.v 0) :: .asg [4] (.lst [(.bin .add (.bin .mul (.tup [(.c<|.int 0)])<|.v 1)<|.tup [(.c<|.int 1)])]) :: .forr [5] (.rng2 (.bin .add (.v 1)<|.c<|.int 1)<|.v 3) [.asg [4]<|.comp2 [2] 2 [0] (.of<|.v 4) [] [1] (.rng1<|.v 2) []<|.bin .add (.v 0)<|.tup [(.v 1)]] :: .ret (.v 4)::[]) [aa<|spV p n,aa<|Zd h,ag,ag,ag,ag] [] s=_;have hp:=z8 (p:=p);rw[Zj<|WX (p:=p) (n:=n) _ _ (by simp[pvE]) (by simp)]
 have er:=qg h;rw[Zj (ρ':=[aa<|spV p n,aa<|Zd h,aa<|.int p,aa<|.int n,aa<|.lst<|[aD h (0:Int)++[1]].map Zb,ag]) (os':=[]) (s':=s) (by
  have h1:(h:Int)<1000:=by omega
  have h2:h+1<=lim:=by unfold lim;omega
  have h3:(aD h<|V.int 0).length+1<=16777216:=by rw[bR];omega
  rw[List.map_replicate]at er;have h4:h<=16777215:=by omega
  simp[pvE,Zd,h1,er,Zb,h4])]
 obtain⟨o',hI,e⟩:=VP (t:=[5]) (it:=.rng2 (.bin .add (.v 1)<|.c<|.int 1)<|.v 3) (b:=[.asg [4]<|.comp2 [2] 2 [0] (.of<|.v 4) [] [1] (.rng1<|.v 2) []<|.bin .add (.v 0)<|.tup [(.v 1)]]) (L:=az<|n-(h+1)) (O:=λst o=>[aa<|spV p n,aa<|Zd h,aa<|.int p,aa<|.int n,aa<|.lst<|st.map Zb,o]) (st:=[aD h (0:Int)++[1]]) (os:=[]) (λl st=>st.length*5^l.length<=15625/\∀r∈st,r.length+l.length<=1000)
  (vD (by simp[pvE,Zd]) (by simp[pvE]) (by omega)<|by omega) #[by
   have:5^(n-(h+1))<=5^6:=eD (by omega) (by omega)
   simp only[da,aZ];omega,λr hr=>by rw[bh.mp hr];simp;omega] rfl (λx l st o hst=>by
  obtain⟨h3,h4⟩:=hst;have hsl:(XE p st).length=st.length*p:=GZ st;have hb:st.length*p*5^l.length<=15625:=by
   have:st.length*p<=st.length*5:=Nat.mul_le_mul_left _ (by omega)
   have h4:st.length*p*5^l.length<=st.length*5*5^l.length:=Nat.mul_le_mul_right _ this;rw[aK,mZ]at h3;have h5:st.length*5*5^l.length=st.length*(5^l.length*5):=by rw[l5,h9 5]
   omega
  have hlim:=cp (Nat.le_mul_of_pos_right _<|Nat.pow_pos<|by omega) hb
  refine#[#[by rw[hsl];exact hb,λr hr=>?_],rfl,_,aa<|Zd<|h+1+x,rfl,?_]
  .unfold XE at hr
   obtain⟨q,hq,hr⟩:=c0.mp hr;obtain⟨k,_,rfl⟩:=aO.mp hr;have:=h4 q hq;rw[aK]at this;rw[ba,da];omega
  .show rvs (CV d) [] _ [aa<|spV p n,aa<|Zd h,aa<|.int p,aa<|.int n,aa<|.lst<|st.map Zb,aa<|Zd<|h+1+x] [] s=_
   have hc:=vc (C:=CV d) (cap:=[2]) (nl:=2) (t:=[0]) (u:=[1]) (it:=.of<|.v 4) (jt:=.rng1<|.v 2) (elt:=.bin .add (.v 0)<|.tup [(.v 1)]) (O:=[aa<|spV p n,aa<|Zd h,aa<|.int p,aa<|.int n,aa<|.lst<|st.map Zb,aa<|Zd<|h+1+x]) (s:=s) (l:=st) (e:=Zb) (m:=λ_=>az p) (g:=λr k=>Zb<|r++[(k:Int)])
    (by simp[pvE]) (by rw[hZ];simp only[aw,aZ];rw[n6,gE];unfold lim;omega) (λr hr=>#[_,rfl,by
     exact Yx (Zh rfl) (by omega),λk hk=>#[_,rfl,by
     have hr':=h4 r hr;have h6:r.length+1<=16777216:=by omega
     simp[pvE,Zb,Zd,h6]]])
   have ef:(st.flatMap λr=>(az p).map λ(k:Nat)=>Zb<|r++[(k:Int)])=(XE p st).map Zb:=by
    unfold XE;rw[nE];exact congrArg (λf=>st.flatMap f)<|funext λr=>by rw[bV];rfl
   rw[ef]at hc;rw[Zj<|Xb hc rfl,rvs];rfl)
 rw[Zj e];exact ZE<|Yi<|Zh rfl
def zY(d:Nat){hs:List Nat}(s:DS)(hl:hs.length<=1000):CV (d+1) 12 [Zm hs] s=.ok (.bl<|rise hs) s:=by
 refine Zp rfl (by decide) rfl ?_
 have ez:∀(a b:List Nat),((a.map Zd).zip<|b.map Zd).map (λq=>V.tup [q.1,q.2])=(a.zip b).map λq=>V.tup [Zd q.1,Zd q.2]:=by
  intro a
  induction a with
  |nil=>intro b;rfl
  |cons x a ih=>intro b;cases b with|nil=>rfl|cons y b=>simp only[a9,bS];rw[ih]
 have hc:=ZI (C:=CV d) (cap:=[]) (nl:=2) (t:=[0,1]) (it:=.zip (.v 0)<|.sl (.v 0) (aa<|.c<|.int 1) ag) (elt:=.cmp .lt (.v 0)<|.v 1) (O:=[aa<|Zm hs]) (s:=s) (l:=hs.zip hs.tail) (g:=λq=>V.bl<|af<|q.1<q.2)
  (by
   have e1:Y2 (hs.map Zd) (aa 1) ag=hs.tail.map Zd:=by rw[GO,kg]
   simp[pvE,slV,Zm,e1];rw[<-kg,ez]) (by rw[fW];unfold lim;omega) (λq hq=>#[_,rfl,by simp[pvE,Zd]])
 have ht:=ZX (g:=λq:Nat×Nat=>af<|q.1<q.2)<|hs.zip hs.tail
 simp[XG,pvE,hc,ht,rise]
def YR{S:List Nat}(hS:S.Sublist (az n)):(∀k∈S,k<n)/\S.length<=n/\rise S=ai:=by
 refine#[λk hk=>aP.mp<|hS.subset hk,?_,WJ.mpr<|List.pairwise_lt_range.sublist hS]
 have:=hS.length_le;rw[aZ]at this;exact this
def VL(d:Nat){S:List Nat}(s:DS)(hn:n<=6)(hS:S.Sublist (az n)):CV (d+2) 14 [Zm S,.int<|(n:Int)-1] s=.ok (.bl ai) s:=by
 obtain⟨h1,h2,h3⟩:=YR hS;refine Zp rfl (by decide) rfl ?_
 show rvs (CV<|d+1) [] Yj.body [aa<|Zm S,aa<|.int<|(n:Int)-1] [] s=_
 dsimp only[Yj]
 have g1:pv (CV<|d+1) (.not<|.isi (.v 0) [.tuple]) [aa<|Zm S,aa<|.int<|(n:Int)-1] s=.ok (.bl am) s:=by
  rw[pv,pv,Zh rfl];rfl
 rw[guard g1];have hc:=ZI (C:=CV<|d+1) (cap:=[1]) (nl:=1) (t:=[0]) (it:=.of<|.v 0) (elt:=.call 13 [(.v 0),(.c<|.int 0),(.v 1)]) (O:=[aa<|Zm S,aa<|.int<|(n:Int)-1]) (s:=s) (l:=S) (e:=Zd) (g:=λ_=>V.bl ai)
  (by rw[pvw,Zh rfl];rfl) (by unfold lim;omega) (λk hk=>#[[aa<|Zd k,aa<|.int<|(n:Int)-1],rfl,by
   have:=h1 k hk;have e:=GF d (x:=Zd k) (lo:=0) (hi:=(n:Int)-1) s rfl;rw[show isW (Zd k) 0 ((n:Int)-1)=ai by
    show(af ((0:Int)<=k)&&af ((k:Int)<=(n:Int)-1))=ai;rw[T5 (by omega),T5 (by omega)];rfl]at e
   exact ZF (Zc (Zh rfl)<|Zc Yp<|Zc (Zh rfl) Zg) e])
 have g2:pv (CV<|d+1) (.blt .all [(.comp1 [1] 1 [0] (.of<|.v 0) []<|.call 13 [(.v 0),(.c<|.int 0),(.v 1)])]) [aa<|Zm S,aa<|.int<|(n:Int)-1] s=.ok (.bl ai) s:=by
  rw[pv,Zc hc Zg,Za];show po ((ZV<|S.map λ_=>V.bl ai).map λbs=>V.bl<|bs.all id) s=_
  rw[ZX (g:=λ_:Nat=>ai)]
  show PR.ok (V.bl<|(S.map λ_=>ai).all id) s=_
  rw[show(S.map λ_=>ai).all id=ai by induction S<;>simp]
 refine ZE<|Yi ?_;have g3:=zY d s (hs:=S) (by omega)
 rw[h3]at g3;exact W2 g2<|ZF (Zc (Zh rfl) Zg) g3
def ZbO{F:List (List Row)}{h:Nat}:whS p n F h=F.flatMap λP=>if(P.all λr=>af<|gt r h=0)=ai then(ZZ p n h).map (λr=>P++[r])else[]:=rfl
def Uw(d:Nat){S:List Nat}(s:DS)(hn:n<=6)(hS:S.Sublist (az n))(hw:(S.foldl (Va<|whS p n) ([[]],ai)).2=ai):CV (d+3) 17 [spV p n,Zm S] s=.ok (.lst<|(whL p n S).map Ze) s:=by
 obtain⟨h1,h2,h3⟩:=YR hS;refine Zp rfl (by decide) rfl ?_
 show rvs (CV<|d+2) [4] Xo.body [aa<|spV p n,aa<|Zm S,ag,ag,ag,ag,ag] [] s=_
 dsimp only[Xo]
 rw[Zj<|WX (p:=p) (n:=n) _ _ (by show pv _ _ _ _=_;exact Zh rfl) #[rfl,rfl]]
 show rvs _ _ _ [aa<|spV p n,aa<|Zm S,aa<|.int p,aa<|.int n,ag,ag,ag] [] s=_;have e0:pv (CV<|d+2) (.bin .sub (.v 3)<|.c<|.int 1) [aa<|spV p n,aa<|Zm S,aa<|.int p,aa<|.int n,ag,ag,ag] s=.ok (.int<|(n:Int)-1) s:=by
  rw[pv,Zh rfl,Za,Yp,Za];rfl
 rw[guard<|yc (c:=ai)<|YX (Zh rfl) e0<|VL d s hn hS];have g0:pv (CV<|d+2) (.lst [(.tup [])]) [aa<|spV p n,aa<|Zm S,aa<|.int p,aa<|.int n,ag,ag,ag] s=.ok (.lst [Ze []]) s:=by
  have:pv (CV<|d+2) (.tup []) [aa<|spV p n,aa<|Zm S,aa<|.int p,aa<|.int n,ag,ag,ag] s=.ok (.tup []) s:=by rw[pv,Zg];rfl
  rw[pv,Zc this Zg];rfl
 rw[Zj<|Q5 (by rw[Lv.hide_nil];exact g0) rfl rfl (by show 4<7;omega)]
 show rvs _ _ _ [aa<|spV p n,aa<|Zm S,aa<|.int p,aa<|.int n,aa<|.lst<|([[]]:List (List Row)).map Ze,ag,ag] [4] s=_;obtain⟨ρ',hI,e⟩:=VZ (C:=CV<|d+2) (ms:=[4]) (os:=[4]) (t:=[5]) (it:=.of<|.v 1) (b:=[.asg [6]<|.call 15 [(.v 0),(.v 5)],
  .asg [4] (.comp2 [5,6] 2 [0] (.of<|.v 4) [(.call 16 [(.v 0),(.v 2)])] [1] (.of<|.v 3) []<|.bin .add (.v 0)<|.tup [(.v 1)])]) (L:=S) (e:=Zd) (O:=[aa<|spV p n,aa<|Zm S,aa<|.int p,aa<|.int n,aa<|.lst<|([[]]:List (List Row)).map Ze,ag,ag]) (s:=s)
  (λl O=>(∀k∈l,k<n)/\∃F a5 a6,O=[aa<|spV p n,aa<|Zm S,aa<|.int p,aa<|.int n,aa<|.lst<|F.map Ze,a5,a6]/\(∀P∈F,P.length+l.length<=6/\∀r∈P,Zf p n r)/\F.length<=1000/\(l.foldl (Va<|whS p n) (F,ai)).2=ai/\l.foldl (whS p n) F=whL p n S) (by
   show pvw (CV<|d+2) (.of<|.v 1) [aa<|spV p n,aa<|Zm S,aa<|.int p,aa<|.int n,ag,ag,ag] s=_;rw[pvw,Zh rfl];rfl) #[h1,_,ag,ag,rfl,λP hP=>by rw[bh.mp hP];exact#[by simp;omega,λ_ h=>by cases h],by simp,hw,rfl] rfl (λh l O hI=>by
   obtain⟨hh,F,a5,a6,rfl,hP,lF,hb,hf⟩:=hI;have h0:=hh h<|al ..;obtain⟨hb',hl'⟩:=V6 hb;refine#[rfl,[aa<|spV p n,aa<|Zm S,aa<|.int p,aa<|.int n,aa<|.lst<|F.map Ze,aa<|Zd h,a6],[aa<|spV p n,aa<|Zm S,aa<|.int p,aa<|.int n,aa<|.lst<|(whS p n F h).map Ze,aa<|Zd h,aa<|.lst<|(ZZ p n h).map Zb],rfl,?_,λk hk=>hh k<|aj _ hk,_,_,_,rfl,?_,hl',hb',hf]
   .have e1:pv (CV<|d+2) (.call 15 [(.v 0),(.v 5)]) [aa<|spV p n,aa<|Zm S,aa<|.int p,aa<|.int n,ag,aa<|Zd h,a6] s=.ok (.lst<|(ZZ p n h).map Zb) s:=YX (Zh rfl) (Zh rfl) (GL (d+1) s hn h0)
    rw[Zj<|Za4 e1 rfl];show rvs _ _ _ [aa<|spV p n,aa<|Zm S,aa<|.int p,aa<|.int n,aa<|.lst<|F.map Ze,aa<|Zd h,aa<|.lst<|(ZZ p n h).map Zb] [4] s=_;have eq:(F.flatMap λP=>if(P.all λr=>af<|gt r h=0)=ai then(ZZ p n h).map (λr=>Ze<|P++[r])else[])=(whS p n F h).map Ze:=by
     rw[ZbO,nE];refine congrArg (λf=>F.flatMap f)<|funext λP=>?_
     split
     .rw[bV];rfl
     .rfl
    have hc:=wV (C:=CV<|d+2) (cap:=[5,6]) (nl:=2) (t:=[0]) (it:=.of<|.v 4) (tst:=.call 16 [(.v 0),(.v 2)]) (u:=[1]) (jt:=.of<|.v 3) (elt:=.bin .add (.v 0)<|.tup [(.v 1)]) (O:=[aa<|spV p n,aa<|Zm S,aa<|.int p,aa<|.int n,aa<|.lst<|F.map Ze,aa<|Zd h,aa<|.lst<|(ZZ p n h).map Zb]) (s:=s) (l:=F) (e:=Ze) (m:=λ_=>ZZ p n h) (e2:=Zb) (g:=λP r=>Ze<|P++[r]) (q:=λP=>P.all λr=>af<|gt r h=0)
     (by rw[pvw,Zh rfl];rfl) (by rw[eq,aw];unfold lim;omega) (λP hP'=>by
      obtain⟨p1,p2⟩:=hP P hP';rw[aK]at p1;refine#[[aa<|Ze P,ag,aa<|Zd h,aa<|.lst<|(ZZ p n h).map Zb],.bl<|P.all λr=>af<|gt r h=0,rfl,YX (Zh rfl) (Zh rfl) (GG (d+1) s p2 (by omega) h0),rfl,by rw[pvw,Zh rfl];rfl,λr hr=>#[[aa<|Ze P,aa<|Zb r,aa<|Zd h,aa<|.lst<|(ZZ p n h).map Zb],rfl,?_]]
      rw[qS (xs:=P.map Zb) (y:=Zb r) (Zh rfl) (Zh rfl) (by rw[aw];omega)]
      unfold Ze;rw[bN];rfl)
    rw[eq]at hc;rw[Zj (ZaL (by
     show pv (CV<|d+2) _ [aa<|spV p n,aa<|Zm S,aa<|.int p,aa<|.int n,ag,aa<|Zd h,aa<|.lst<|(ZZ p n h).map Zb] s=.no;rw[pv,T9 (show own2 2 [0] [1]=ai from rfl),pvw,pv];rfl) hc rfl (Y5 _ λP _=>Wl P) (by show 4<7;omega)),rvs]
    rfl
   .intro P hP'
    unfold whS at hP';obtain⟨Q,hQ,hP'⟩:=c0.mp hP';obtain⟨q1,q2⟩:=hP Q hQ;rw[aK]at q1;split at hP'
    .obtain⟨r,hr,rfl⟩:=aO.mp hP'
     refine#[by rw[ba,da];omega,λx hx=>?_]
     rcases cV.mp hx with hx|hx
     .exact q2 x hx
     .rw[bh.mp hx]
      exact((x6 (p:=p) h0).1 r hr).1
    .cases hP')
 obtain⟨_,F,a5,a6,rfl,_,_,_,hf⟩:=hI;have hf:F=whL p n S:=hf;subst hf;rw[Zj e];refine ZE ?_;rw[rv,T9<|show([4]:List Nat).contains 4=ai from rfl]
 rfl
def heads(d:Nat){P:List Row}(s:DS)(hn:n<=6)(hP:pZ p n P):CV (d+5) 23 [spV p n,Ze P] s=.ok (.tup<|P.map λr=>Zd<|Z1 r) s:=by
 have lP:=dsum hP;refine Zp rfl (by decide) rfl ?_
 show rvs (CV<|d+4) [] Q8.body [aa<|spV p n,aa<|Ze P] [] s=_
 dsimp only[Q8]
 have e1:pv (CV<|d+4) (.call 22 [(.v 0),(.v 1)]) [aa<|spV p n,aa<|Ze P] s=.ok .non s:=YX (Zh rfl) (Zh rfl)<|wl d s hn hP;rw[Zj<|ZdU e1];have hc:=ZI (C:=CV<|d+4) (cap:=[]) (nl:=1) (t:=[0]) (it:=.of<|.v 1) (elt:=.call 18 [(.v 0)]) (O:=[aa<|spV p n,aa<|Ze P]) (s:=s) (l:=P) (e:=Zb) (g:=λr=>Zd<|Z1 r)
  (by rw[pvw,Zh rfl];rfl) (by unfold lim;omega) (λr hr=>#[[aa<|Zb r],rfl,by
   obtain⟨k,hk,_⟩:=hP.head fld.one0 hr;have e:=xB (d+3) r s;rw[hk]at e;rw[Y1 hk];exact ZF (Zc (Zh rfl) Zg) e])
 refine ZE<|Yi ?_;rw[pv,Zc hc Zg];rfl
end
def Gc{C:Zq}{O:Env}{s:DS}{a:E}{Ps:List (List Row)}(h1:pv C a O s=.ok (.lst<|Ps.map Ze) s)(h:ZY Ps=ai):pv C (.blt .sorted [a]) O s=.ok (.lst<|(Z7 ltP Ps).map Ze) s:=by
 have pm:∀Ps:List (List Row),Yt (Ps.map Ze)=aa Ps:=λPs=>by
  induction Ps with
  |nil=>rfl
  |cons P Ps ih=>
   show(match zh (Ze P),Yt (Ps.map Ze)with
    |some a,aa b=>aa (a::b)
    |_,_=>ag)=_
   rw[ih,show zh (Ze P)=aa P from YU P]
 have se:∀Ps:List (List Row),Zam (Ps.map Ze)=am:=λPs=>by
  cases Ps with|nil=>rfl|cons P Ps=>cases P<;>rfl
 rw[pv,Zc h1 Zg,Za];show po (if Zam (Ps.map Ze)=ai then _ else(Yt<|Ps.map Ze).bind λps=>if ZY ps=ai then aa (V.lst<|(Z7 ltP ps).map Ze)else ag) s=_
 rw[T8 (by rw[se];simp),pm]
 show po (if ZY Ps=ai then _ else _) s=_
 rw[T9 h];rfl
def JX(d:Nat)(a:Int)(s:DS):CV (d+1) 11 [.int a,.int a] s=.ok (.bl ai) s:=by
 refine Zp rfl (by decide) rfl ?_
 simp[YI,pvE,Z9,Yz,Yk,eqV,Zr]
def UF(d:Nat){B:Type}{f:B->V}{l:List B}(s:DS)(hl:l.length<=1000)(h:∀x∈l,CV d 11 [f x,f x] s=.ok (.bl ai) s):CV (d+1) 11 [.tup<|l.map f,.tup<|l.map f] s=.ok (.bl ai) s:=by
 refine Zp rfl (by decide) rfl ?_
 dsimp only[YI]
 refine ZE ?_;have hz:((l.map f).zip<|l.map f).map (λq=>V.tup [q.1,q.2])=l.map λx=>V.tup [f x,f x]:=by
  clear h hl
  induction l with|nil=>rfl|cons x l ih=>rw[a9,bS,a9,ih];rfl
 have hc:=ZI (cap:=[]) (nl:=2) (t:=[0,1]) (it:=.zip (.v 0)<|.v 1) (elt:=.call 11 [(.v 0),(.v 1)]) (O:=[aa<|.tup<|l.map f,aa<|.tup<|l.map f])
  (by
   rw[pvw,Zh rfl,Za,Zh rfl,Za];show PR.ok (((l.map f).zip<|l.map f).map λq=>V.tup [q.1,q.2]) s=_
   rw[hz]) (by unfold lim;omega) (λx hx=>#[_,rfl,ZF (Zc (Zh rfl)<|Zc (Zh rfl) Zg)<|h x hx])
 have ht:=ZX (g:=λ_:B=>ai) l
 have ha:(l.map λ_=>ai).all id=ai:=by induction l<;>simp
 simp[pvE,Z9,Yz,Yk,eqV,Zr,hc,ht,ha]
def qb(d:Nat){B:Type}{f:B->V}{l:List B}(s:DS)(hl:l.length<=10000)(h:∀x∈l,CV d 11 [f x,f x] s=.ok (.bl ai) s):CV (d+1) 11 [.lst<|l.map f,.lst<|l.map f] s=.ok (.bl ai) s:=by
 refine Zp rfl (by decide) rfl ?_
 dsimp only[YI]
 refine ZE ?_;have hz:((l.map f).zip<|l.map f).map (λq=>V.tup [q.1,q.2])=l.map λx=>V.tup [f x,f x]:=by
  clear h hl
  induction l with|nil=>rfl|cons x l ih=>rw[a9,bS,a9,ih];rfl
 have hc:=ZI (cap:=[]) (nl:=2) (t:=[0,1]) (it:=.zip (.v 0)<|.v 1) (elt:=.call 11 [(.v 0),(.v 1)]) (O:=[aa<|.lst<|l.map f,aa<|.lst<|l.map f])
  (by
   rw[pvw,Zh rfl,Za,Zh rfl,Za];show PR.ok (((l.map f).zip<|l.map f).map λq=>V.tup [q.1,q.2]) s=_
   rw[hz]) (by unfold lim;omega) (λx hx=>#[_,rfl,ZF (Zc (Zh rfl)<|Zc (Zh rfl) Zg)<|h x hx])
 have ht:=ZX (g:=λ_:B=>ai) l
 have ha:(l.map λ_=>ai).all id=ai:=by induction l<;>simp
 simp[pvE,Z9,Yz,Yk,eqV,Zr,hc,ht,ha]
theorem JZ{q:Row->Bool}{F:List (List Row)}:∀(l:List Row)(L:List (List Row)),l.foldl (λL r=>if q r=ai then L++F.map λP=>P++[r]else L) L=L++(l.filter q).flatMap λr=>F.map λP=>P++[r]
 |[],L=>by simp
 |r::l,L=>by
  rw[de,JZ l,eS];cases q r<;>simp
section
variable{p n:Nat}[Base p]
def vw{C:Zq}{O:Env}{s:DS}(hn:n<=6)(hr:ZQ [0] 1 O=[ag,aa<|spV p n])(h0:O[0]?=aa (aa<|spV p n)):pv C (.comp1 [0] 1 [0] (.rng1<|.ix (.v 0)<|.c<|.int 1) []<|.blt .tuple [(.comp1 [0] 1 [0] (.rng1<|.ix (.v 1)<|.c<|.int 1) []<|.blt .toInt [(.cmp .eq (.v 0)<|.v 1)])]) O s=.ok (.lst<|(units n).map Zb) s:=by
 have hc:=ZI (C:=C) (cap:=[0]) (nl:=1) (t:=[0]) (it:=.rng1<|.ix (.v 0)<|.c<|.int 1) (elt:=.blt .tuple [(.comp1 [0] 1 [0] (.rng1<|.ix (.v 1)<|.c<|.int 1) []<|.blt .toInt [(.cmp .eq (.v 0)<|.v 1)])]) (O:=O) (s:=s) (l:=az n) (e:=Zd) (g:=λj=>Zb<|yL n j)
  (Yx (ix1 h0)<|by omega) (by rw[aZ];unfold lim;omega) (λj hj=>by
   refine#[[aa<|Zd j,aa<|spV p n],by rw[hr];rfl,?_]
   have hc:=ZI (C:=C) (cap:=[0]) (nl:=1) (t:=[0]) (it:=.rng1<|.ix (.v 1)<|.c<|.int 1) (elt:=.blt .toInt [(.cmp .eq (.v 0)<|.v 1)]) (O:=[aa<|Zd j,aa<|spV p n]) (s:=s) (l:=az n) (e:=Zd) (g:=λi=>V.int (if i=j then 1 else 0))
    (Yx (ix1 rfl)<|by omega) (by rw[aZ];unfold lim;omega) (λi hi=>by
     refine#[[aa<|Zd i,aa<|Zd j],rfl,?_];have e:pv C (.cmp .eq (.v 0)<|.v 1) [aa<|Zd i,aa<|Zd j] s=.ok (.bl<|af<|(i:Int)=j) s:=by
      rw[pv,Zh rfl,Za,Zh rfl,Za];rfl
     rw[pv,Zc e Zg,Za];show PR.ok (V.int<|b2i<|af<|(i:Int)=j) s=_;by_cases c:i=j
     .rw[T9 c,T5 (by omega)];rfl
     .rw[T8 c,T4 (by omega)];rfl)
   rw[pv,Zc hc Zg,Za];unfold yL Zb;rw[bV];rfl)
 rw[hc];unfold units;rw[bV];rfl
noncomputable def Xp(p n:Nat)(S:List Nat)(F:List (List Row))(h:Option V)(L:Option V)(r:Option V):Env:=[aa<|spV p n,aa<|Zm S,aa<|.lst<|F.map Ze,h,L,r]
def qu(d:Nat){S:List Nat}{F L:List (List Row)}{h:Nat}{r:Row}(s:DS)(hn:n<=6)(hr:Zf p n r)(hS:∀k∈S,k<n)(hs:S.length<=6)(hh:h<n)(hF:∀P∈F,P.length<=6)(hl:L.length+F.length<=1000000) :
  rvs (CV<|d+1) [4] [.ite (.and (.cmp .eq (.call 4 [(.v 5)])<|.v 3)<|.cmp .eq (.ix (.v 5)<|.v 3)<|.c<|.int 1) [.ite (.cmp .eq (.comp1 [3,5] 1 [0] (.of<|.v 1) [(.and (.cmp .ne (.v 0)<|.v 1)<|.cmp .ne (.ix (.v 2)<|.v 0)<|.c<|.int 0)]<|.v 0)<|.lst []) [.ex<|.mt .extend (.v 4) [(.comp1 [5] 1 [0] (.of<|.v 2) []<|.bin .add (.v 0)<|.tup [(.v 1)])]] []] []] (Xp p n S F (aa<|Zd h) (aa<|.lst<|L.map Ze)<|aa<|Zb r) [4] s
   = .ok (.nx (Xp p n S F (aa<|Zd h) (aa<|.lst<|(if jc S h r=ai then L++F.map (λP=>P++[r])else L).map Ze)<|aa<|Zb r) [4]) s:=by
 generalize hρ:Xp p n S F (aa<|Zd h) (aa<|.lst<|L.map Ze) (aa<|Zb r)=O;have g3:O[3]?=aa (aa<|Zd h):=by rw[<-hρ];rfl
 have g5:O[5]?=aa (aa<|Zb r):=by rw[<-hρ];rfl
 have a1:pv (CV<|d+1) (.cmp .eq (.ix (.v 5)<|.v 3)<|.c<|.int 1) O s=.ok (.bl<|af<|gt r h=1) s:=by
  rw[pv,Wb g5 g3 (by rw[hr.1];exact hh),Za,Yp,Za];rfl
 have a2:pv (CV<|d+1) (.cmp .eq (.call 4 [(.v 5)])<|.v 3) O s=.ok (.bl<|af<|Z1 r=h) s:=by
  rw[pv,ZF (Zc (Zh g5) Zg) (WD d s (by rw[hr.1];omega)),Za,Zh g3,Za]
  show PR.ok (V.bl<|af<|(Z1 r:Int)=h) s=_
  congr 2
  exact decide_eq_decide.mpr #[λz=>by omega,λz=>by omega]
 have t1:=W2 a2 a1;have hc:=YQ (C:=CV<|d+1) (cap:=[3,5]) (nl:=1) (t:=[0]) (it:=.of<|.v 1) (tst:=.and (.cmp .ne (.v 0)<|.v 1)<|.cmp .ne (.ix (.v 2)<|.v 0)<|.c<|.int 0) (elt:=.v 0) (O:=O) (s:=s) (l:=S) (e:=Zd) (g:=Zd) (q:=λk=>!decide (k=h) && !decide (gt r k=0))
  (by rw[pvw,Zh (v:=Zm S) (by rw[<-hρ];rfl)];rfl) (by unfold lim;omega) (λk hk=>by
   have hk:=hS k hk;refine#[[aa<|Zd k,aa<|Zd h,aa<|Zb r],.bl<|!decide (k=h) && !decide (gt r k=0),by rw[<-hρ];rfl,?_,rfl,λ_=>Zh rfl]
   refine W2 ?_ ?_
   .rw[pv,Zh rfl,Za,Zh rfl,Za]
    show PR.ok (V.bl<|!decide ((k:Int)=h)) s=_
    congr 3
    exact decide_eq_decide.mpr #[λz=>by omega,λz=>by omega]
   .rw[pv,Wb rfl rfl (by rw[hr.1];exact hk),Za,Yp,Za];rfl)
 have t2:=vm hc;rw[Qc (q':=λk=>af (k=h)||decide (gt r k=0)) _ λk _=>by simp]at t2
 have ef:jc S h r=((af (Z1 r=h)&&af (gt r h=1))&&S.all λk=>af (k=h)||decide (gt r k=0)):=rfl
 have stay:∀{t:Ev.E}{x:List Sm},pv (CV<|d+1) t O s=.ok (.bl am) s->rvs (CV<|d+1) [4] [.ite t x []] O [4] s=.ok (.nx O [4]) s:=λ{t x} z=>by
  rw[Zj (ρ':=O) (os':=[4]) (s':=s) (by rw[Wz<|Xf z rfl,T8 (by decide),rvs]),rvs]
 have into:∀{t:Ev.E}{x:List Sm}{R:PR FlV},pv (CV<|d+1) t O s=.ok (.bl ai) s->rvs (CV<|d+1) [4] x O [4] s=R->rvs (CV<|d+1) [4] [.ite t x []] O [4] s=R:=λ{t x R} z w=>by
  rw[rvs,Wz<|Xf z rfl,T9 rfl,w];cases R with|ok f s=>cases f<;>simp[PR.bind,rvs]|_=>rfl
 cases q1:(af (Z1 r=h)&&af (gt r h=1))with
 |false=>
  rw[q1]at t1;rw[ef,q1,lc,T8 (by decide),hρ]
  exact stay t1
 |true=>
  rw[q1]at t1;rw[ef,q1,l6];refine into t1 ?_;cases q2:S.all λk=>af (k=h)||decide (gt r k=0)with
  |false=>
   rw[q2]at t2;rw[T8 (by decide),hρ]
   exact stay t2
  |true=>
   rw[q2]at t2;rw[T9 rfl];refine into t2 ?_;have hx:=ZI (C:=CV<|d+1) (cap:=[5]) (nl:=1) (t:=[0]) (it:=.of<|.v 2) (elt:=.bin .add (.v 0)<|.tup [(.v 1)]) (O:=Xp p n S F (aa<|Zd h) ag<|aa<|Zb r) (s:=s) (l:=F) (e:=Ze) (g:=λP=>Ze<|P++[r])
    (by rw[pvw,Zh rfl];rfl) (by unfold lim;omega) (λP hP=>#[[aa<|Ze P,aa<|Zb r],rfl,by
     rw[qS (xs:=P.map Zb) (y:=Zb r) (Zh rfl) (Zh rfl) (by have:=hF P hP;rw[aw];omega)]
     unfold Ze;rw[bN];rfl])
   rw[Zj (ρ':=Xp p n S F (aa<|Zd h) (aa<|.lst<|(L++F.map λP=>P++[r]).map Ze)<|aa<|Zb r) (os':=[4]) (s':=s) (by
    rw[rv,T9<|show([4]:List Nat).contains 4=ai from rfl,show X3 O[4]?=aa (L.map Ze) by rw[<-hρ];rfl,Zs,Za,show hide [4] O=Xp p n S F (aa<|Zd h) ag (aa<|Zb r) by rw[<-hρ];rfl,hx,Za]
    show(if Z8 (F.map λP=>Ze<|P++[r])=ai/\(L.map Ze).length+(F.map λP=>Ze<|P++[r]).length<=lim then PR.ok (FlV.nx (O.set 4<|aa<|.lst<|L.map Ze++F.map λP=>Ze<|P++[r]) [4]) s else .no)=_
    rw[T9 #[Y5 _ λP _=>Wl _,by rw[aw,aw];unfold lim;omega],<-hρ,bN,bV]
    rfl),rvs]
def ZaW(d:Nat){S:List Nat}(s:DS)(hn:n<=6)(h1:1<=n)(hp:p^n<=1000)(hS:S.Sublist (az n))(hq:HeadsOk p n S):CV (d+3) 10 [spV p n,Zm S] s=.ok (.lst<|(whL p n S).map Ze) s:=by
 obtain⟨u1,u2,u3⟩:=YR hS;have hU:=Ul (p:=p) (n:=n) XU;have hE:∀r∈ZP p n,Zf p n r:=λr hr=>by
  rw[<-hq.rows]at hr;exact((hU.mem r).mp<|(W9 _).mem_iff.mp hr).1
 have lE:(ZP p n).length<=1000:=by rw[<-hq.rows,J7,jb hn];exact hp
 refine Zp rfl (by decide) rfl ?_
 show rvs (CV<|d+2) [4] X9.body [aa<|spV p n,aa<|Zm S,ag,ag,ag,ag] [] s=_
 dsimp only[X9]
 have g0:pv (CV<|d+2) (.lst [(.tup [])]) [aa<|spV p n,aa<|Zm S,ag,ag,ag,ag] s=.ok (.lst [Ze []]) s:=by
  have:pv (CV<|d+2) (.tup []) [aa<|spV p n,aa<|Zm S,ag,ag,ag,ag] s=.ok (.tup []) s:=by rw[pv,Zg];rfl
  rw[pv,Zc this Zg];rfl
 rw[Zj<|Xb g0 rfl];show rvs _ _ _ (Xp p n S [[]] ag ag ag) [] s=_;obtain⟨ρ',hI,e⟩:=VZ (C:=CV<|d+2) (ms:=[4]) (os:=[]) (t:=[3]) (it:=.of<|.v 1) (b:=[.asg [4]<|.lst [],
  .forr [5] (.of<|.call 8 [(.v 0),(.comp1 [0] 1 [0] (.rng1<|.ix (.v 0)<|.c<|.int 1) []<|.blt .tuple [(.comp1 [0] 1 [0] (.rng1<|.ix (.v 1)<|.c<|.int 1) []<|.blt .toInt [(.cmp .eq (.v 0)<|.v 1)])])]) [.ite (.and (.cmp .eq (.call 4 [(.v 5)])<|.v 3)<|.cmp .eq (.ix (.v 5)<|.v 3)<|.c<|.int 1) [.ite (.cmp .eq (.comp1 [3,5] 1 [0] (.of<|.v 1) [(.and (.cmp .ne (.v 0)<|.v 1)<|.cmp .ne (.ix (.v 2)<|.v 0)<|.c<|.int 0)]<|.v 0)<|.lst []) [.ex<|.mt .extend (.v 4) [(.comp1 [5] 1 [0] (.of<|.v 2) []<|.bin .add (.v 0)<|.tup [(.v 1)])]] []] []],
  .mov 2 4]) (L:=S) (e:=Zd) (O:=Xp p n S [[]] ag ag ag) (s:=s)
  (λl O=>(∀k∈l,k<n)/\∃F a3 a4 a5,O=Xp p n S F a3 a4 a5/\(∀P∈F,P.length+l.length<=6)/\F.length<=1000/\(l.foldl (Va<|JY (ZP p n) S) (F,ai)).2=ai/\l.foldl (JY (ZP p n) S) F=zH (ZP p n) S) (by
   show pvw (CV<|d+2) (.of<|.v 1) (hide []<|Xp p n S [[]] ag ag ag) s=_;rw[Lv.hide_nil,pvw,Zh rfl];rfl) #[u1,_,ag,ag,ag,rfl,λP hP=>by rw[bh.mp hP];simp;omega,by simp,hq.due,rfl] rfl (λh l O hI=>by
   obtain⟨hh,F,a3,a4,a5,rfl,hP,lF,hb,hf⟩:=hI;have h0:=hh h<|al ..;obtain⟨hb',hl'⟩:=V6 hb;have hP6:∀P∈F,P.length<=6:=λP h=>by have:=hP P h;omega
   have e4:pv (CV<|d+2) (.lst []) (Xp p n S F (aa<|Zd h) a4 a5) s=.ok (.lst []) s:=by rw[pv,Zg];rfl
   obtain⟨b5,_,e5⟩:=VP (C:=CV<|d+2) (ms:=[4]) (os:=[4]) (t:=[5]) (it:=.of<|.call 8 [(.v 0),(.comp1 [0] 1 [0] (.rng1<|.ix (.v 0)<|.c<|.int 1) []<|.blt .tuple [(.comp1 [0] 1 [0] (.rng1<|.ix (.v 1)<|.c<|.int 1) []<|.blt .toInt [(.cmp .eq (.v 0)<|.v 1)])])]) (b:=[.ite (.and (.cmp .eq (.call 4 [(.v 5)])<|.v 3)<|.cmp .eq (.ix (.v 5)<|.v 3)<|.c<|.int 1) [.ite (.cmp .eq (.comp1 [3,5] 1 [0] (.of<|.v 1) [(.and (.cmp .ne (.v 0)<|.v 1)<|.cmp .ne (.ix (.v 2)<|.v 0)<|.c<|.int 0)]<|.v 0)<|.lst []) [.ex<|.mt .extend (.v 4) [(.comp1 [5] 1 [0] (.of<|.v 2) []<|.bin .add (.v 0)<|.tup [(.v 1)])]] []] []]) (L:=ZP p n) (e:=Zb) (step:=λL r=>if jc S h r=ai then L++F.map (λP=>P++[r])else L) (O:=λL x=>Xp p n S F (aa<|Zd h) (aa<|.lst<|L.map Ze) x) (st:=[]) (o:=a5) (s:=s)
    (λl L=>(∀r∈l,Zf p n r)/\L.length+l.length*F.length<=1000000) (by
     show pvw (CV<|d+2) _ (Xp p n S F (aa<|Zd h) ag a5) s=_;have hu:=vw (C:=CV<|d+2) (p:=p) (n:=n) (O:=Xp p n S F (aa<|Zd h) ag a5) (s:=s) hn rfl rfl;rw[pvw,YX (Zh rfl) hu<|G6 d s hn h1 hp XU rfl,hq.rows];rfl) #[hE,by
      have:=iC lE lF;simp;omega] rfl (λr l L x hI=>by
     obtain⟨i1,i2⟩:=hI;rw[aK,Nat.succ_mul]at i2;refine#[#[λq hq=>i1 q<|aj _ hq,?_],by rw[XJ];rfl,Xp p n S F (aa<|Zd h) (aa<|.lst<|L.map Ze)<|aa<|Zb r,aa<|Zb r,rfl,qu (d+1) s hn (i1 r<|al ..) u1 (by omega) h0 hP6 (by omega)]
     split
     .rw[ba,aw];omega
     .omega)
   rw[JZ,fV]at e5;refine#[rfl,Xp p n S F (aa<|Zd h) a4 a5,Xp p n S (JY (ZP p n) S F h) (aa<|Zd h) ag b5,rfl,?_,λk hk=>hh k<|aj _ hk,_,_,_,_,rfl,λP hP'=>?_,hl',hb',hf]
   .rw[Zj<|Q5 (by rw[Lv.hide_nil];exact e4) rfl rfl (by show 4<6;omega)]
    show rvs _ _ _ (Xp p n S F (aa<|Zd h) (aa<|.lst<|([]:List (List Row)).map Ze) a5) [4] s=_;rw[Zj e5,Zj (ρ':=Xp p n S (JY (ZP p n) S F h) (aa<|Zd h) ag b5) (os':=[]) (s':=s) (by
     rw[rv,T9 (by rfl)];rfl),rvs]
   .unfold JY at hP'
    obtain⟨r,hr,hP'⟩:=c0.mp hP';obtain⟨Q,hQ,rfl⟩:=aO.mp hP';have:=hP Q hQ;rw[aK]at this;rw[ba,da];omega)
 obtain⟨_,F,a3,a4,a5,rfl,_,_,_,hf⟩:=hI;have hf:F=zH (ZP p n) S:=hf;subst hf;rw[Zj e];refine ZE<|Yi ?_;rw[Gc (Zh rfl) hq.ok,hq.sort]
end
def xR(d:Nat){L:List (List Row)}(s:DS)(hl:L.length<=10000)(hP:∀P∈L,P.length<=6/\∀r∈P,r.length<=1000):CV (d+4) 11 [.lst<|L.map Ze,.lst<|L.map Ze] s=.ok (.bl ai) s:=
 qb (d+3) s hl λP h=>UF (d+2) (f:=Zb) s (by have:=(hP P h).1;omega) λr hr=>UF (d+1) (f:=V.int) s ((hP P h).2 r hr) λa _=>JX d a s
theorem JU{f:V->DS->PR (List V)}(h:∀(k:Nat)(s:DS),∃(b:Bool)(s':DS),f (Zd k) s=.ok (if b=ai then[Zd k]else[]) s'):∀(l:List Nat)(s:DS),∃(S:List Nat)(s':DS),mapP f (l.map Zd) s=.ok (S.map Zd) s'/\S.Sublist l
 |[],s=>#[[],s,rfl,.slnil]
 |k::l,s=>by
  obtain⟨b,s1,e1⟩:=h k s;obtain⟨S,s2,e2,hS⟩:=JU h l s1;cases b with
  |true=>
   refine#[k::S,s2,?_,hS.cons_cons k];rw[a9,mapP,e1];show(match mapP f (l.map Zd) s1 with|.ok zs s=>PR.ok ([Zd k]++zs) s|_=>.no)=_
   rw[e2];rfl
  |false=>
   refine#[S,s2,?_,hS.cons k];rw[a9,mapP,e1];show(match mapP f (l.map Zd) s1 with|.ok zs s=>PR.ok ([]++zs) s|_=>.no)=_
   rw[e2];rfl
noncomputable def vF:List Sm:=[.asg [8]<|.callF 17 [(.v 3),(.v 5)],
  .ite (.not<|.call 11 [(.v 8),(.v 6)]) [.ret<|.c<|.bl am] [],
  .ex (.mt .append (.v 8) [(.tup [])])]
noncomputable def JR:List Sm:=[.asg [3]<|.call 3 [(.v 2),(.ix (.lst [(.c<|.int 27),(.c<|.int 125)])<|.blt .toInt [(.cmp .eq (.v 1)<|.c<|.int 0)])],
  .asg [4] (.call 9 [(.v 2),(.v 3)]),
  .ite (.not<|.call 11 [(.call 23 [(.v 3),(.v 4)]),(.blt .tuple [(.comp1 [] 1 [0] (.of<|.v 4) []<|.call 4 [(.v 0)])])]) [.ret<|.c<|.bl am] [],
  .asg [5] (.blt .tuple [(.comp1 [2] 1 [0] (.rng1<|.ix (.v 3)<|.c<|.int 1) [(.cmp .eq (.call 2 [(.v 1),(.c<|.int 2)])<|.c<|.int 0)]<|.v 0)]),
  .asg [6] (.call 10 [(.v 3),(.v 5)]),
  .forr [7] (.rng1<|.c<|.int 2) vF]
noncomputable def kE(o:Option V)(k p n:Nat)(P:List Row)(S:List Nat)(B:List (List Row))(a7 a8:Option V):Env:=[o,aa<|.int k,aa .drw,aa<|spV p n,aa<|Ze P,aa<|Zm S,aa<|.lst<|B.map Ze,a7,a8]
def Qd(d:Nat){p n:Nat}[Base p]{o:Option V}{k:Nat}{P:List Row}{S:List Nat}{a7 a8:Option V}{os:List Nat}(s:DS)(ho:os=[]\/os=[8])(hn:n<=6)(hS:S.Sublist (az n))(hq:HeadsOk p n S) :
  ∃b8,rvs (CV<|d+6) [8] vF (kE o k p n P S (whL p n S) a7 a8) os s=.ok (.nx (kE o k p n P S (whL p n S) a7 b8) [8]) s:=by
 have hc:∀i,i<8->os.contains i=am:=λi hi=>by rcases ho with rfl|rfl<;>simp;omega
 refine#[aa<|.lst<|(whL p n S).map Ze++[.tup []],?_];unfold vF;rw[Zj<|Q5 (uA (Zc (Zh<|xh rfl<|hc 3<|by decide)<|Zc (Zh<|xh rfl<|hc 5<|by decide) Zg)<|Uw (d+3) s hn hS hq.wh) rfl (Y5 _ λP _=>Wl P) (show 8<9 by decide)]
 have e8:(8::os.filter (· != 8))=[8]:=by rcases ho with rfl|rfl<;>rfl
 rw[e8];show rvs _ _ _ (kE o k p n P S (whL p n S) a7<|aa<|.lst<|(whL p n S).map Ze) [8] s=_;rw[ZcS<|yc (c:=ai)<|YX (Zh (v:=.lst<|(whL p n S).map Ze) rfl) (Zh (v:=.lst<|(whL p n S).map Ze) rfl)<|xR (d+2) s (by have:=hq.len;omega) λP hP=>#[(hq.few P hP).1,λr hr=>by rw[(hq.few P hP).2 r hr];omega]]
 rw[Zj (ρ':=kE o k p n P S (whL p n S) a7<|aa<|.lst<|(whL p n S).map Ze++[.tup []]) (os':=[8]) (s':=s) ?_,rvs];rw[rv];show(if ai=ai then(PR.ok ((whL p n S).map Ze) s).bind _ else _)=_
 rw[T9 rfl,Za,show pv (CV<|d+6) (.tup []) (kE o k p n P S (whL p n S) a7<|aa<|.lst<|(whL p n S).map Ze) s=.ok (.tup []) s by rw[pv,pvs];rfl,Za]
 show(if V.flat (.tup [])=ai/\((whL p n S).map Ze).length<lim then _ else _)=_
 rw[T9 #[rfl,by have:=hq.len;rw[aw];unfold lim;omega]];rfl
def yk:∀q∈Wf,q∈ZcE++ZcU:=by decide
def qm(d:Nat)(o:Option V)(k:Nat)(s:DS):∃O os s',rvs (CV<|d+6) (muts JR) JR (o::aa (.int k)::aa .drw::aD 6 ag) [] s=.ok (.nx O os) s'/\O[0]?=aa o/\O.length=6+3:=by
 show ∃O os s',rvs (CV<|d+6) [8] JR [o,aa<|.int k,aa .drw,ag,ag,ag,ag,ag,ag] [] s=.ok (.nx O os) s'/\O[0]?=aa o/\O.length=6+3;have e0:∃m,pv (CV<|d+6) (.ix (.lst [(.c<|.int 27),(.c<|.int 125)])<|.blt .toInt [(.cmp .eq (.v 1)<|.c<|.int 0)]) [o,aa<|.int k,aa .drw,ag,ag,ag,ag,ag,ag] s=.ok (.int m) s:=by
  by_cases c:(k:Int)=0
  .have c':k=0:=by omega
   exact#[125,by simp[pvE,c',Zr,b2i,at',ixN]]
  .have c':k≠0:=by omega
   exact#[27,by simp[pvE,c',Zr,b2i,at',ixN]]
 obtain⟨m,e0⟩:=e0;obtain⟨⟨p,n⟩,s1,e1,hq⟩:=xW (d+4) (m:=m) s;obtain⟨hb,h1,hn,hp⟩:=qZ _ hq
 haveI:Base p:=⟨hb⟩
 have hn:n<=6:=hn;have h1:1<=n:=h1;have hp:p^n<=1000:=hp;obtain⟨P,s2,e2,hP⟩:=qp (d+3) (p:=p) (n:=n) s1 hn h1 hp;have lP:=dsum hP;unfold JR;rw[Zj<|Xb (ZF (Zc (Zh rfl)<|Zc e0 Zg) e1) rfl];show ∃O os s',rvs _ _ _ [o,aa<|.int k,aa .drw,aa<|spV p n,ag,ag,ag,ag,ag] [] s1=.ok (.nx O os) s'/\O[0]?=aa o/\O.length=6+3;rw[Zj<|Xb (ZF (Zc (Zh rfl)<|Zc (Zh rfl) Zg) e2) rfl];show ∃O os s',rvs _ _ _ [o,aa<|.int k,aa .drw,aa<|spV p n,aa<|Ze P,ag,ag,ag,ag] [] s2=.ok (.nx O os) s'/\O[0]?=aa o/\O.length=6+3
 have hh:=heads (d+1) (p:=p) (n:=n) s2 hn hP;have hc:=ZI (C:=CV<|d+6) (cap:=[]) (nl:=1) (t:=[0]) (it:=.of<|.v 4) (elt:=.call 4 [(.v 0)]) (O:=[o,aa<|.int k,aa .drw,aa<|spV p n,aa<|Ze P,ag,ag,ag,ag]) (s:=s2) (l:=P) (e:=Zb) (g:=λr=>Zd<|Z1 r)
  (by rw[pvw,Zh rfl];rfl) (by unfold lim;omega) (λr hr=>#[[aa<|Zb r],rfl,ZF (Zc (Zh rfl) Zg)<|WD (d+5) s2 (by rw[(hP.row r hr).1];omega)])
 have ht:pv (CV<|d+6) (.blt .tuple [(.comp1 [] 1 [0] (.of<|.v 4) []<|.call 4 [(.v 0)])]) [o,aa<|.int k,aa .drw,aa<|spV p n,aa<|Ze P,ag,ag,ag,ag] s2=.ok (.tup<|P.map λr=>Zd<|Z1 r) s2:=by
  rw[pv,Zc hc Zg];rfl
 rw[guard<|yc (c:=ai)<|YX (YX (Zh rfl) (Zh rfl) hh) ht<|UF (d+5) s2 (by omega) λr _=>JX (d+4) _ s2]
 obtain⟨S,s3,e3,hS⟩:∃S s',pv (CV<|d+6) (.blt .tuple [(.comp1 [2] 1 [0] (.rng1<|.ix (.v 3)<|.c<|.int 1) [(.cmp .eq (.call 2 [(.v 1),(.c<|.int 2)])<|.c<|.int 0)]<|.v 0)]) [o,aa<|.int k,aa .drw,aa<|spV p n,aa<|Ze P,ag,ag,ag,ag] s2=.ok (Zm S) s'/\S.Sublist (az n):=by
  obtain⟨S,s',f1,f2⟩:=JU (f:=λx s=>(po (Zi [0] x<|ZQ [2] 1 [o,aa<|.int k,aa .drw,aa<|spV p n,aa<|Ze P,ag,ag,ag,ag]) s).bind λZ s=>(pvt (CV<|d+6) [(.cmp .eq (.call 2 [(.v 1),(.c<|.int 2)])<|.c<|.int 0)] Z s).bind λb s=>if b=ai then(pv (CV<|d+6) (.v 0) Z s).bind λy s=>.ok [y] s else .ok [] s) (λj s=>by
   obtain⟨v,s',g1,g2,g3⟩:=U4 (F:=fns) (tk:=2) (d:=d+5) (m:=2) s (by omega) (by omega)
   refine#[af<|v=0,s',?_];show(pvt (CV<|d+6) [(.cmp .eq (.call 2 [(.v 1),(.c<|.int 2)])<|.c<|.int 0)] [aa<|Zd j,aa .drw] s).bind _=_;have g4:pv (CV<|d+6) (.cmp .eq (.call 2 [(.v 1),(.c<|.int 2)])<|.c<|.int 0) [aa<|Zd j,aa .drw] s=.ok (.bl<|af<|v=0) s':=by
    rw[pv,ZF (Zc (Zh rfl)<|Zc Yp Zg) g1,Za,Yp,Za];rfl
   rw[pvt,g4,Za];show PR.bind (PR.bind (po (aa<|af<|v=0) s') _) _=_;rw[Zs,Za];cases af (v=0)with
   |true=>rw[T9 rfl,pvt,Za,T9 rfl,Zh rfl];rfl
   |false=>rw[T8 (by simp),Za,T8 (by simp)];rfl) (az n) s2
  refine#[S,s',?_,f2];have hw:pvw (CV<|d+6) (.rng1<|.ix (.v 3)<|.c<|.int 1) [o,aa<|.int k,aa .drw,aa<|spV p n,aa<|Ze P,ag,ag,ag,ag] s2=.ok ((az n).map Zd) s2:=Yx (ix1 rfl) (by omega)
  have lS:=f2.length_le;rw[aZ]at lS;have hcp:pv (CV<|d+6) (.comp1 [2] 1 [0] (.rng1<|.ix (.v 3)<|.c<|.int 1) [(.cmp .eq (.call 2 [(.v 1),(.c<|.int 2)])<|.c<|.int 0)]<|.v 0) [o,aa<|.int k,aa .drw,aa<|spV p n,aa<|Ze P,ag,ag,ag,ag] s2=.ok (.lst<|S.map Zd) s':=by
   rw[pv,T9 (show own 1 [0]=ai from rfl),hw,Za,f1,Za,T9 (by rw[aw];unfold lim;omega)];rfl
  rw[pv,Zc hcp Zg];rfl
 have hQ:=qk (yk _ hq)<|JB hS;rw[Zj<|Xb e3 rfl];show ∃O os s',rvs _ _ _ [o,aa<|.int k,aa .drw,aa<|spV p n,aa<|Ze P,aa<|Zm S,ag,ag,ag] [] s3=.ok (.nx O os) s'/\O[0]?=aa o/\O.length=6+3;rw[Zj<|Xb (YX (Zh rfl) (Zh rfl)<|ZaW (d+3) s3 hn h1 hp hS hQ) rfl];show ∃O os s',rvs _ _ _ (kE o k p n P S (whL p n S) ag ag) [] s3=.ok (.nx O os) s'/\O[0]?=aa o/\O.length=6+3;obtain⟨b,t1⟩:=Qd d (o:=o) (k:=k) (P:=P) (a7:=aa<|Zd 0) (a8:=ag) (os:=[]) s3 (.inl rfl) hn hS hQ;obtain⟨c,t2⟩:=Qd d (o:=o) (k:=k) (P:=P) (a7:=aa<|Zd 1) (a8:=b) (os:=[8]) s3 (.inr rfl) hn hS hQ
 refine#[kE o k p n P S (whL p n S) (aa<|Zd 1) c,[8],s3,?_,rfl,rfl];rw[Zj (ρ':=kE o k p n P S (whL p n S) (aa<|Zd 1) c) (os':=[8]) (s':=s3) ?_,rvs];have w2:pvw (CV<|d+6) (.rng1<|.c<|.int 2) (kE o k p n P S (whL p n S) ag ag) s3=.ok [Zd 0,Zd 1] s3:=Yx (n:=2) Yp (by omega)
 rw[rv,Lv.hide_nil,w2,Za];rw[Y4,T8 (by simp),show Zi [7] (Zd 0) (kE o k p n P S (whL p n S) ag ag)=aa (kE o k p n P S (whL p n S) (aa<|Zd 0) ag)from rfl,Zs,Za,t1,Za]
 show Y4 _ [Zd 1] _ _ _=_;rw[Y4,T8 (by decide),show Zi [7] (Zd 1) (kE o k p n P S (whL p n S) (aa<|Zd 0) b)=aa (kE o k p n P S (whL p n S) (aa<|Zd 1) b)from rfl,Zs,Za,t2,Za]
 rfl
def uY(d:Nat)(O:Env)(s:DS):pv (CV<|d+6) (.and (.cmp .eq (.call 23 [(.tup [(.c<|.int 2),(.c<|.int 3)]),(.tup [])])<|.tup [])<|.cmp .eq (.call 17 [(.tup [(.c<|.int 5),(.c<|.int 3)]),(.tup [])])<|.lst [(.tup [])]) O s=.ok (.bl ai) s:=by
 haveI:Base 2:=⟨.inl rfl⟩
 haveI:Base 5:=⟨.inr<|.inr rfl⟩
 have s2:pv (CV<|d+6) (.tup [(.c<|.int 2),(.c<|.int 3)]) O s=.ok (spV 2 3) s:=by simp[pvE,ofD,spV]
 have s5:pv (CV<|d+6) (.tup [(.c<|.int 5),(.c<|.int 3)]) O s=.ok (spV 5 3) s:=by simp[pvE,ofD,spV]
 have t0:pv (CV<|d+6) (.tup []) O s=.ok (.tup []) s:=by rw[pv,Zg];rfl
 have a:=heads (d+1) (p:=2) (n:=3) (P:=[]) s (by omega) pZ.nil
 have b:=Uw (d+3) (p:=5) (n:=3) (S:=[]) s (by omega) (List.nil_sublist _) rfl
 have l0:pv (CV<|d+6) (.lst [(.tup [])]) O s=.ok (.lst [.tup []]) s:=by rw[pv,Zc t0 Zg];rfl
 refine W2 (c:=ai) (c':=ai) ?_ ?_
 .rw[pv,YX s2 t0 a,Za,t0,Za];rfl
 .rw[pv,YX s5 t0 b,Za,l0,Za];rfl
def law_ok(ns:List Int)(s:DS):∃S,CV 65 24 [.scr ns] s=.ok (.bl ai) S:=
 Lv.law_ofR (B:=JR) 62 (ca:=0) (st:=1) (nn:=6) (M:=6) (by decide) (by decide) (by decide) rfl rfl rfl (by decide) (λO s=>uY 58 O s) (λo k s=>qm 58 o k s) ns s
end K33
namespace K33
open PySem PySem.Spec PyProof.Rows L2 Sd Gn
open Sd (Gk yy uP vE v5 vo xE yN uL vi yw UY uB uF vO zL xy xr yI yE UW xf xF UB)
def ZdS(s:fK):bB:=match s with|.FunctionDef x _ _ _ _ _ _ _ _ _=>x|_=>""
def top(i:Nat):fK:=PySem.Challenge.pw_fewspaces_k33_heads.main.body.getD i<|.Pass #[0,0,0,0]
noncomputable abbrev R(i m k:Nat):FR:=#[ZdS<|top i,top i,((Zz<|top i).names.map (·.1)).take m,k]
noncomputable abbrev r0:=R 20 2 2
noncomputable abbrev r1:=R 21 3 2
noncomputable abbrev r2:=R 22 4 2
noncomputable abbrev r3:=R 23 3 2
noncomputable abbrev r4:=R 27 1 1
abbrev r5:FR:=#["_law_form",top 28,["_law_space_here","_law_every","_law_places","_law_found","_law_head_here","_law_row_here"],2]
noncomputable abbrev r6:=R 25 3 2
noncomputable abbrev r7:=R 24 4 4
noncomputable abbrev r8:=R 26 6 2
noncomputable abbrev r9:=R 29 3 2
noncomputable abbrev r10:=R 31 6 2
noncomputable abbrev r11:=R 30 2 2
noncomputable abbrev r12:=R 6 1 1
noncomputable abbrev r13:=R 5 3 3
noncomputable abbrev r14:=R 7 2 2
noncomputable abbrev r15:=R 16 6 2
noncomputable abbrev r16:=R 9 2 2
noncomputable abbrev r17:=R 18 7 2
noncomputable abbrev r18:=R 8 3 1
noncomputable abbrev r19:=R 13 3 3
noncomputable abbrev r20:=R 11 4 2
noncomputable abbrev r21:=R 12 3 2
noncomputable abbrev r22:=R 14 2 2
noncomputable abbrev r23:=R 17 2 2
abbrev r24:FR:=#["law",top 32,["_law_script","_law_k","_law_state_here","_law_space_here","_law_part_here","_law_places","_law_due_here","_law_turn","_law_found"],1]
noncomputable abbrev fs:List FR:=[r0,r1,r2,r3,r4,r5,r6,r7,r8,r9,r10,r11,r12,r13,r14,r15,r16,r17,r18,r19,r20,r21,r22,r23,r24]
abbrev zs:List bB:=["all","any","bool","enumerate","int","isinstance","len","list","max","min","range","set","sorted","tuple","zip"]
abbrev gs:List (bB×Gv):=[]
noncomputable abbrev jE{X xw C e}(i:Ev.E):=Sd.CE X xw C e i
noncomputable abbrev jF{X xw C e}(i:Ev.E):=Sd.CF X xw C e i
noncomputable abbrev jT{X xw C e}(i:Ev.E):=Sd.CT X xw C e i
noncomputable abbrev jS{X xw a C b e}(i:Ev.Sm):=Sd.CS X xw a C b e i
def okl:OkL fs zs gs fns tk sn 0 fs fns:=by
 repeat'(first|exact cR|refine#[#[rfl,rfl,by decide +kernel,?_],?_]|intro P w K mg base f fd d T h hn cdv A outer s H E hr hu)
 all_goals
 (repeat'(first
 |(with_reducible show aH _ _=_);(first|exact yy|exact Gk|exact xE|exact vo|exact uP|exact vE|exact yN|exact v5)
 |(with_reducible show Cx.mg _ _=_);(exact Top.no (by assumption) (by kernel_rfl!))
 |(with_reducible show _=_);first|exact ZcI _|kernel_rfl!
 |(with_reducible show Gl _ _);show _=_;kernel_rfl!
 |show Sd.CSs _ _ _ _ _ _ [.cel _ _ _ _];refine Zee (by assumption) (by assumption) (by assumption) ?_ ?_ (by assumption) (by kernel_rfl!) rfl rfl (by kernel_rfl!) (by first|exact yy|exact Gk|exact xE|exact vo|exact uP|exact vE|exact yN|exact v5) rfl (by kernel_rfl!) (by first|exact Or.inl (by kernel_rfl!)|exact nj (by kernel_rfl!)|exact nj (Or.inl (by kernel_rfl!))|exact nj (nj (by kernel_rfl!))) (by first|exact .inl rfl|exact .inr<|by kernel_rfl!) (by kernel_rfl!) (by kernel_rfl!) (by kernel_rfl!)
 |show Sd.CSs _ _ _ _ _ _ _;first|apply Zc8|apply ZaU
 |show Sd.CA _ _ _ _ _;first|apply Zct|apply j5
 |show jF (.blt .sortedS _);apply yf
 |show jF (.blt .sorted _);apply yM (UB (by assumption))
 |show jF (.blt .listD _);apply jQ (x4 rfl)
 |show jF (.blt .sortedD _);apply yM (Gf rfl)
 |show jF (.callF _ _);refine ZdN (by assumption) (by assumption) (by assumption) ?_ (by kernel_rfl!) (by kernel_rfl!) rfl (by kernel_rfl!) (by first|exact yy|exact Gk|exact xE|exact vo|exact uP|exact vE|exact yN|exact v5) rfl
 |show jF (.lst _);apply ZbV
 |show jF (.comp1 _ _ _ _ _ _);refine uT rfl (by first|assumption|exact T6<|by kernel_rfl!) (by first|exact zk (by kernel_rfl!)|exact QM (N:=["part","row","place","headed"])<|by kernel_rfl!) ?_ (λ_ _ _ _=>#[?_,?_,?_]) (hs:=by intro _;kernel_rfl!)
 |show Sd.CE _ _ _ (.BoolOp _ [_] _) _;apply Zb4
 |show jE (.dix _ am);apply jg
 |show jE (.dix _ ai);apply ZaC
 |show jE (.v _);apply ZeD
 |show jE (.c _);first|apply ZcG|apply Zdx|apply Zdd
 |show jE (.call _ _);refine Zea (by assumption) (by assumption) (by assumption) ?_ (by kernel_rfl!) rfl (by kernel_rfl!) (by first|exact yy|exact Gk|exact xE|exact vo|exact uP|exact vE|exact yN|exact v5) rfl
 |show jE (.ix _ _);apply Zd4
 |show jE (.blt .len _);apply WM xy
 |show jE (.blt .tuple _);apply yV UW
 |show jE (.blt .all _);apply WM (xf rfl)
 |show jE (.blt .any _);apply WM (xF rfl)
 |show jE (.blt .toInt _);apply yV yE
 |show jE (.blt .max2 _);apply WM (xr rfl)
 |show jE (.blt .min2 _);apply WM (yI rfl)
 |show jE (.bin _ _ _);first|apply Zcq|apply Zc5|apply ZbT|apply ZcJ|apply jV|apply Zcl
 |show jE (.tup _);apply ZcT
 |show jE (.not _);apply ZcZ
 |show jE (.cmp .eq _ _);apply Xu (uL (by assumption))
 |show jE (.cmp .ne _ _);apply Xu (vi (by assumption))
 |show jE (.cmp .lt _ _);apply Xu (yw (by assumption))
 |show jE (.cmp .le _ _);apply Xu (UY (by assumption))
 |show jE (.cmp .gt _ _);apply Xu (uB (by assumption))
 |show jE (.cmp .ge _ _);apply Xu (uF (by assumption))
 |show jE (.cmp .inn _ _);apply Xu (vO (by assumption))
 |show jE (.cmp .nin _ _);apply Xu (zL (by assumption))
 |show jE (.chain _ _ _ _ _);first|apply Gy (UY<|by assumption) (UY (by assumption))|apply Gy (UY<|by assumption) (yw (by assumption))
 |show jE (.sl _ _ _);apply Zdw
 |show jE (.isi _ _);first|apply QJ (T:="int") (t:=.int)|apply QJ (T:="bool") (t:=.bool)|apply QJ (T:="tuple") (t:=.tuple)|apply QJ (T:="list") (t:=.list)|apply qW (T:="list") (U:="tuple") (t:=.list) (u:=.tuple)
 |(first|show jE (.callF _ _)|show jE (.lst _)|show jE (.comp1 _ _ _ _ _ _)|show jE (.comp2 _ _ _ _ _ _ _ _ _)|show jE (.blt .list _)|show jE (.blt .sorted _)|show jE (.blt .listD _)|show jE (.blt .sortedD _)|show jE (.blt .sortedS _));refine CF.ce ?_
 |show jE _;apply Zci
 |show Sd.CO _ _ _ _ _;first|apply ZaN|apply Zad
 |show jS (.ret _);first|apply Zcz|apply Zax
 |show jS (.mov _ _);apply Zcn
 |show jS (.retO _);apply ZaV
 |show jS (.dnw _ _);apply Zb1
 |show jS (.dput _ _ _);apply Zaw
 |show jS (.forF _ _ _);apply jh n5
 |show jS (.dset _ _);apply qX
 |show jS (.asg _<|.comp1 _ _ _ _ _ _);refine vX rfl (by assumption) (by first|exact zk (by kernel_rfl!)|exact QM (N:=["part","row","place","headed"])<|by kernel_rfl!) ?_ (λ_ _ _ _=>#[?_,?_,?_]) (hsw:=by kernel_rfl!) (hy:=by kernel_rfl!) (hx:=by first|exact Or.inl (by kernel_rfl!)|exact nj (by kernel_rfl!)|exact nj (Or.inl (by kernel_rfl!))|exact nj (nj (by kernel_rfl!))) (hf:=by first|exact .inl rfl|exact .inr<|by kernel_rfl!) (hs:=by intro _;kernel_rfl!)
 |show jS (.asg _<|.comp2 _ _ _ _ _ _ _ _ _);refine wb rfl (by assumption) (by first|exact zk (by kernel_rfl!)|exact QM (N:=["part","row","place","headed"])<|by kernel_rfl!) ?_ (λ_ _ _ _=>#[?_,?_,?_,?_,?_,?_]) (hsw:=by kernel_rfl!) (hy:=by kernel_rfl!) (hx:=by first|exact Or.inl (by kernel_rfl!)|exact nj (by kernel_rfl!)|exact nj (Or.inl (by kernel_rfl!))|exact nj (nj (by kernel_rfl!))) (hf:=by first|exact .inl rfl|exact .inr<|by kernel_rfl!) (hs:=by intro _;kernel_rfl!) (hs2:=by intro _ _;kernel_rfl!)
 |show jS (.asg [_] _);first|refine Zav ?_ ?_ (hf:=by kernel_rfl!) (hs:=by kernel_rfl!) (hw:=by kernel_rfl!) (h1:=by kernel_rfl!)|apply jK
 |show jS (.asg _ _);apply ZbK
 |show jS (.ex<|.mt .append _ _);apply x5
 |show jS (.ex<|.mt .extend _ _);apply x9
 |show jS (.ex _);apply jU
 |show jS (.ite _ _ _);apply Zd0
 |show jS (.forr _ _ _);apply ZbP n5
 |show jS _;apply v6
 |show jT (.not _);apply ZcC
 |show jT (.cmp .eq _ _);apply XB (uL (by assumption))
 |show jT (.cmp .ne _ _);apply XB (vi (by assumption))
 |show jT (.cmp .lt _ _);apply XB (yw (by assumption))
 |show jT (.cmp .le _ _);apply XB (UY (by assumption))
 |show jT (.cmp .gt _ _);apply XB (uB (by assumption))
 |show jT (.cmp .ge _ _);apply XB (uF (by assumption))
 |show jT (.cmp .inn _ _);apply XB (vO (by assumption))
 |show jT (.cmp .nin _ _);apply XB (zL (by assumption))
 |show jT (.and _ _);refine CWh.ct<|vV ?_ ?_
 |show jT (.or _ _);refine CWh.ct<|Zbx ?_ ?_
 |show jT _;apply ZbZ
 |show Sd.CWh _ _ _ _ _;first|apply vV|apply Za7|apply Zbx|apply ZcN
 |show Sd.CTs _ _ _ _ _;first|apply ZaP|apply ZaG
 |show Sd.CW _ _ _ _ _ _;first|apply jz|apply j7|apply Zcs|apply jB|apply ZdR
 |show Sd.CG _ _ _;first|apply jf|apply Zdf
 |show Sd.CGs _ _ _;first|apply ZaS|apply qN
 |(first|exact Or.inl (by kernel_rfl!)|exact nj (by kernel_rfl!)|exact nj (Or.inl (by kernel_rfl!))|exact nj (nj (by kernel_rfl!)))
 |assumption
 |exact T6 (by kernel_rfl!)
 |decide
 |(intro _;kernel_rfl!)
 |(intro _ _;kernel_rfl!)
 |(intro m h;cases h)))
end K33
namespace PySem.W.Fast
def tw17675328622948046480:=0
def tw9129583549342063564:=0
def tw9391840695417095360:=0
def tw1278999003118324853:=0
def tw11615721321348113317:=0
def tw2496877730168799788:=0
def tw6801598247289012474:=0
def tw2651019624141093221:=0
def tw910897201902164875:=0
def tw8876377633983835314:=0
def tw17278376450356233893:=0
def tw575219908853583695:=0
def tw15083644599545464852:=0
def tw3314953796825542879:=0
def tw12688003011595571263:=0
def tw1939957384132185282:=0
def tw211433422750960231:=0
def tw7468555142568239712:=0
def tw10161633565410614349:=0
def tw6414615107997470645:=0
def tw3539600650538562302:=0
def tw10797750992383760999:=0
def tw13851499605424931904:=0
def tw4860722333226045388:=0
def tw543999187353771307:=0
def tw2165026897314205565:=0
def tw1273944300137707661:=0
def tw4669106906008472845:=0
def tw4612118234826691290:=0
def tw9296615401447060726:=0
def tw14968715201439333272:=0
def tw6154445114838391816:=0
def tw13424648225956166931:=0
def tw14879054778944104565:=0
def tw2843887498990588483:=0
def tw9672838746570546794:=0
def tw4667094189265825276:=0
def tw8899651068936036400:=0
def tw11416458590917396293:=0
def tw15174524275662486478:=0
def tw1996517340344460025:=0
def tw6614356055088121657:=0
def tw6176898124876690115:=0
def tw3276241061264097342:=0
def tw12157741801319609810:=0
def tw17717617278372970130:=0
def tw2272143690037380563:=0
def tw4517761864427667801:=0
def tw15568276904874500755:=0
def tw2164670228681006621:=0
def tw17208325000674094487:=0
def tw4964245223424952059:=0
def tw633200400330185821:=0
def tw13930949934752070911:=0
def tw4754527715077949204:=0
def tw13727847956398029920:=0
def tw5823503655830900036:=0
def tw4473830130396783308:=0
def tw8934593296079256124:=0
def tw12916152948479804354:=0
def tw474591739405459862:=0
def tw7207422243849727795:=0
def tw16181166030883603890:=0
def tw10418209654394872280:=0
def tw1435241939795062368:=0
def tw12576265587298187407:=0
def tw6112929248397956561:=0
def tw9083783097788218637:=0
def tw9882396405962900068:=0
def tw4799283810088129912:=0
def tw12430662826215642918:=0
def tw11197281713969157139:=0
def tw4816693046872797708:=0
def tw5053676925767256055:=0
def tw7397044328103457681:=0
def tw7581320665919280853:=0
def tw1909545456712298700:=0
def tw1087746278851503971:=0
def tw9035888480105689129:=0
def tw16113658984182474617:=0
def tw2356576513022769906:=0
def tw8268914127642098087:=0
def tw17906149784631362088:=0
def tw11769922410029196973:=0
def tw10606464971317977646:=0
def tw7614945076468066695:=0
def tw16011612301135280975:=0
def tw15296180935645077225:=0
def tw12561026439910031624:=0
def tw15533681507027857191:=0
def tw9677946618232960457:=0
def tw1656816359213143968:=0
def tw10173589608720653509:=0
def tw2926399018040842051:=0
def tw10791036474992714418:=0
def tw10641657653888957219:=0
def tw4871555673579566339:=0
def tw428208029876768256:=0
def tw9445441194728160089:=0
def tw15860495624735741715:=0
def tw13770765514894925078:=0
def tw11932892529006013471:=0
def tw16530957575519930052:=0
def tw5839725668774475702:=0
def tw2625086454464352289:=0
def tw11838796549216076743:=0
def tw11037780763334616989:=0
def tw17821314139331964871:=0
def tw15163954147196974469:=0
def tw14950501448415151575:=0
def tw9869272441428006969:=0
def tw7914381783002618107:=0
def tw7906646784881480420:=0
def tw1797541923712944545:=0
def tw14114092902810379982:=0
def tw3388927259330329256:=0
def tw886627324375430688:=0
def tw11284453551117903541:=0
def tw5112368405263959559:=0
def tw17021742117898783205:=0
def tw7665466289059896866:=0
def tw8172938136878653629:=0
def tw16816004171286648016:=0
def tw6911178419743618823:=0
def tw4200032290519813264:=0
def tw12989591993345336730:=0
def tw1258951152780710229:=0
def tw13039833263820423990:=0
def tw5110024329936088662:=0
def tw2461252281953549726:=0
def tw6643814591947738180:=0
def tw1978847867609736106:=0
def tw10675379086416378640:=0
def tw5995041122430037976:=0
def tw4003734100888245059:=0
def tw16665197079383407044:=0
def tw14743938862572816110:=0
def tw18091925993132655554:=0
def tw6000696948413442206:=0
def tw1971437522519054864:=0
def tw18429528515387384376:=0
def tw8271487803784033314:=0
def tw2160845772281508366:=0
def tw12742547766945172537:=0
def tw1219910494096328765:=0
def tw8921780823389015288:=0
def tw7052523044959033421:=0
def tw3389002949668888160:=0
def tw7596397971520982105:=0
def tw2474053390378266323:=0
def tw3183867256025702190:=0
def tw12518440861177171553:=0
def tw16998528111068491708:=0
def tw3736057044510404643:=0
def tw3812094092538334512:=0
def tw5974669143347864826:=0
def tw3051318983532224523:=0
def tw1444965291005706546:=0
def tw7984290118620565878:=0
def tw1083387824128492764:=0
def tw12841142475469755616:=0
def tw4729709379283809320:=0
def tw8401752150473162862:=0
def tw13168369458023109230:=0
def tw1062093782315531086:=0
def tw17533063808236462143:=0
def tw12108717746124093800:=0
def tw16322360667940824069:=0
def tw1568276643426049117:=0
def tw13621182836566893353:=0
def tw565524780103094464:=0
def tw15876600292558856219:=0
def tw18057612914222322806:=0
def tw8025437285314994691:=0
def tw3067887517693059210:=0
def tw12096612318962889883:=0
def tw12734770867216216620:=0
def tw11168601837517213149:=0
def tw5702898813713553555:=0
def tw15353819761213594676:=0
end PySem.W.Fast
open PySem PySem.W PyProof.Rows Gn
set_option maxRecDepth 100000 in
set_option maxHeartbeats 0 in
theorem PySem.Challenge.cw_fewspaces_k33_heads_holds : PySem.Challenge.rw_fewspaces_k33_heads.Holds := by
  w_on; o_law; k_head; (case hw => w_witness2)
  k_fill
  refine Gn.walk (l := PySem.Challenge.rw_fewspaces_k33_heads) (F := K33.fns) (tk := K33.tk) (L := 24) (fun ns s => K33.law_ok ns s) rfl rfl (fun w h Y => PySem.W.kIn_of Y) ?F
  case F =>
    intro w mg fa h KX G hmg;refine' Gn.Zc7 (fs := K33.fs) (zs := K33.zs) (gs := K33.gs) (sn := K33.sn) KX G hmg rfl K33.okl rfl (by decide) ?A ?Z ?Y
    case A => repeat' (first|exact FnsAt.nil|refine' FnsAt.cons ?h1 ?h2 ?h3 ?h4 ?h5 ?_; (case h1 => k_is); (case h2 => k_is); (case h3 => k_is); (case h4 => k_is); (case h5 => first|exact bd1 fun _ _ _ _ _ _ _ => rfl|exact bd2 fun _ _ _ _ _ _ _ _ => rfl|exact bd3 fun _ _ _ _ _ _ _ _ _ => rfl|exact bd4 fun _ _ _ _ _ _ _ _ _ _ => rfl|exact bd5 fun _ _ _ _ _ _ _ _ _ _ _ => rfl|exact bd6 fun _ _ _ _ _ _ _ _ _ _ _ _ => rfl))
    case Z => repeat' (first|exact ZsAt.nil|refine' ZsAt.cons ?h1 ?_; (case h1 => k_is))
    case Y => repeat' (first|exact GsAt.nil|refine' GsAt.cons ?h1 ?_; (case h1 => k_is))
