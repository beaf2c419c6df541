import PyProof.Rows.All
import Wide.All
import OpenK.AllK
import Wide.FinOn
import Lean
import PyProof.EqAt
import PyProof.EqKinds
import PyProof.TupleCall
import PySem.Str
import PyProof.CodeObj
import PyProof.ListMulAny
import PyProof.NeKinds
import PyProof.ConsumeWalk
import PyProof.CompFree
import PyProof.Cells
import PyProof.ZipIter
import PyProof.Draws
import PyProof.EnumMake
import PyProof.SumWalk
import PyProof.Rows.SortRuns
import KE.KSortTup
import PyProof.Rows.SortRev
import PyProof.FactsAll.tuple
import KE.KRevIter
import PyProof.FactsAll.range_2
import PyProof.ListRange
import PyProof.TupleOfSeq
import PyProof.TupleOfGen
import PyProof.CallType
import PyProof.DictWalks
import PyProof.IsiH_list
import PyProof.RulesTry
import KE.KDictOf
import KE.KDictSum
import PyProof.Rows.SetFrom
import PyProof.FactsAll.set
import KE.KSortKey
import PySem.Challenge.RW_fewspaces_k12_parts_looked_at
set_option Elab.async false
set_option linter.all false
set_option compiler.extract_closed false
set_option maxRecDepth 100000
set_option maxHeartbeats 0
local macro_rules
|`(#[$x,$y])=>`(⟨$x,$y⟩)
|`(#[$x,$y,$z,*])=>`(⟨$x,$y,$z,*⟩)
abbrev T9:=@if_pos
abbrev T8:=@if_neg
abbrev T7:=@absurd
abbrev T6:=@of_decide_eq_true
abbrev T5:=@decide_eq_true
abbrev T4:=@decide_eq_false
abbrev T0:=@decide_eq_true_eq
open Option renaming some->aa,none->ae,bind_eq_some_iff->aD,map_eq_some_iff->aR,isSome_iff_exists->bK,filter_eq_some_iff->fv,isSome_map->iG,isSome_some->lI,getD_none->mz,getD_some->mF,map_some->ng
open PySem renaming wpAny_bind->ab,Value->ap,wpAny_pure->aq,Shared->aw,Addr->aL,starEach->aM,model->aV,wpAny->aW,sizeLine->ba,wpAny_newObj_type->bo,Program->bE,Str->bF,wpAny_holding->bJ,wpAny_call_entry->bQ,World->bR,wpAny_callSpecial?_slot->bW,compareOp->bY,Heap->b0,assignEach->b8,wpAny_field->cq,mainGlobals->cy,sysModules->cI,Around->cQ,eval->cR,FuncData->cT,sizeLine_eq->cV,foldedSetIterable->c6,Builtin->db,wpAny_mono->dg,cLine->dq,bootBuiltins->dr,assign->dF,cellsFrom->dG,wpAny_seqItems->dO,wpAny_setField_rec->dP,binaryOp->dW,NameKind->dZ,swapsWithSole->ed,swappedStores->ee,mem_of_lookup->eg,wpAny_setField->ej,Scope->eA,wpAny_typeNameOfWhole_keyiter->eB,intKind->eC,wpAny_Call_Name_kw->eD,codeAny_builtin->eF,backTo->eK,wpAny_truthy_bool->eN,wpAny_pyIter_list->eO,rawInt->eT,wpAny_rule->eW,wpAny_of_eq->eX,Obj->fb,DictEntry->fe,wpAny_askSetting->fj,Stmt->fw,behindInMarks->fB,wpAny_typeNameOf_keyiter->fG,wpAny_passesOwn->fI,wpAny_pyIter_tuple->fJ,sliceBounds->fN,codeAny_mono->fR,wpAny_setState_of->f7,call_meets->gf,intKind_is->gh,wpAny_isInstance->gj,wpAny_standAt->gq,wpAny_attempt->gv,wpAny_updateSeq_pair->gz,wpAny_loadPart'->gL,wpAny_typeOf->gP,IsPart->gW,tupleKind_room_in1->g7,firstArgMember->hU,Pos->iu,wpAny_binaryOp_repeat_ref->iw,holding->iB,getItem->iD,wpAny_sequenceKey->iE,wpAny_pyIter_slot->iK,pyNext->iL,wpAny_onRaise->iP,wpAny_eqBool_int->iU,tupleKind->iV,swapsWith->iW,noFill_tuple_add->iX,wpAny_pyNext_list_item->kh,codeAny->ki,typeIs_int->kn,IsPair->kr,richCompare_meets_room->ku,letOwnedTupleGo->kx,pushCells_keeps->kA,wpAny_pyNext_list_end->kD,wpAny_isOneOf_keyiter->kG,builtinLookup_eq_fast->kH,ZipApart->kP,isSubtype_stop->kR,isSubtype_type->kX,callerA->k5,wpAny_setEntries_of->k8,seq_tuple_add->lg,evalPart_none->lj,wpAny_handled->lm,wpAny_newList->lp,plainId_quiet->lu,builtinsNs->lz,pyIter->lB,wpAny_assign_Name->lN,BindsTo->lR,concat_meets->lT,seqIndex_neg->lV,valueAt->l0,wpAny_pyIter_enum->me,wpAny_dictEntries->mj,wpAny_storeSet_of->ml,Sem->mv,rule->mw,seqSlot_of->mB,pushCells->mG,seqIndex_of->mQ,wpAny_alloc->mS,wpAny_throw->mT,IsZip->mU,wpAny_letGo->mV,unsupported->mW,standAt->np,wpAny_Name->nu,wpAny_load->nv,bindArgs->nz,call->nB,atKey->nC,Meets->nE,setsByText->nO,again->nV,bindL->nY,bindC->nZ,hashInt->n4,setItem->n5,Keyword->n6,newExc->n8,ItemsOf->n9,Tok->og,ret->oh
open List renaming getElem?_eq_getElem->af,mem_cons_of_mem->ai,mem_cons_self->al,size_toArray->ax,length_map->ay,mem_cons->az,replicate->aB,getElem?_map->aH,getD_eq_getElem?_getD->aJ,range->aK,length_cons->aO,mem_range->aQ,mem_map->aS,getElem_mem->aU,getElem?_eq_some_iff->aX,getElem?_set_ne->aY,length_append->a7,all_eq_true->a8,map_cons->bf,pairwise_cons->bg,length_take->bn,append_assoc->bp,length_drop->bq,getElem?_eq_none->br,getElem?_append_right->bu,getElem?_set_self->bw,length_set->bx,mem_singleton->bz,pairwise_iff_getElem->bB,mem_append_right->bC,length_range->bG,lookup_cons->bH,replicate_succ->bI,ext_getElem?->bM,getElem?_append_left->bN,mem_of_mem_drop->bP,mem_filter->bS,length_replicate->bV,drop_eq_getElem_cons->bX,map_append->bZ,append_nil->cg,not_mem_nil->ck,take_of_length_le->cw,getElem_of_mem->cz,getElem?_range->cA,contains_iff_mem->cC,flatten_cons->cE,pairwise_map->cF,map_map->cG,getElem?_replicate->cH,getElem?_take->cL,zip_cons_cons->cM,toArray->cS,map_congr_left->cU,take_append_drop->cW,mem_of_mem_take->cZ,mem_append->da,mem_append_left->dv,mem_of_getElem?->dy,nodup_cons->dA,foldl_cons->dB,drop_length->dJ,mem_reverse->dL,pairwise_reverse->dR,find?_cons->dU,pairwise_append->d4,reverse_perm->d6,mem_flatMap->eo,any_cons->eJ,length_filter_le->eM,nodup_append->eP,getElem_take->eQ,getElem_drop->eR,any_eq_true->fg,filter_cons->fk,extract_eq_take_drop->fu,length_reverse->fz,mem_map_of_mem->fA,all_cons->fD,eq_of_mem_replicate->fH,length_eq_zero_iff->fO,reverse_cons->fU,getElem?_inj->f6,length_singleton->ga,take_length->gg,ext_getElem->gn,isEmpty_toArray->gw,getElem?_mapIdx->gx,drop_append_of_le_length->gB,take_append_of_le_length->gC,nil_append->gF,forIn_cons->gH,length_zip->gK,filterMap_cons->gN,take->gT,drop_zero->hJ,drop_drop->hZ,getElem?_drop->h9,drop_left->ic,take_left->ig,zip_nil_right->ip,getElem?_zip_eq_some->iz,length->iC,zip_nil_left->iJ,contains->iO,find?_range_eq_some->iT,zipIdx_cons->i6,pairwise_singleton->i8,map_toArray->kc,any_eq_not_all_not->kg,range_succ_eq_map->ko,all_map->kq,drop_of_length_le->kt,of_mem_zip->ky,getElem?_reverse->kE,forIn_nil->kQ,mem_iff_getElem->kT,map->kU,reverse_append->k7,mem_filterMap->lC,filterMap_map->lE,find?_toArray->lJ,take_sublist->lS,getElem?_set->l5,flatMap_cons->mr,drop_append->mI,countP_cons->mJ,nodup_range->mK,isEmpty_iff->mP,map_id->mZ,zipIdx_nil->m5,nodup_nil->nD,take_take->nI,tail_cons->nP,map_tail->nT,drop->n3,zip->oa
open Decidable renaming decide->ag
open Bool renaming false->aj,true->am,and_eq_true->aG,false_ne_true->aN,eq_iff_iff->bT,false_eq_true->cu,false_or->gu,or_eq_true->gG,not_true->iR,false_and->kJ,not_eq_true'->mn,not_false->nK
open Option.some renaming inj->ak
open PySem.W renaming Frag->ao,katRev->b7,kia_one->cO,fnOf->dE,keepIn->fS,nsIn->f8,codeIn->gV,KdlSrc->iq,cellsFrom_some->kj,instObj->kw,OpenLaw->kz,lookIn->kK,kitOne->kM,katRev->kW,mg_of->lv,kitx_list->lO,kitx_dict->lQ,plainGet->my,kat_nil->m8,kat_len->m9,kat_len->nt,findIn->ny,WalkO->nR
open PySem.Heap renaming get?_push_of_some->au,lt_size->aC,get?_push_size->aF,size_push->cK,get?_update_self->de,SameBut->dD,ExtBut->gy,get?_update_other->km,get?_push_ne->mh,size_update->mM
open Nat renaming le_refl->aA,ne_of_lt->bi,lt_of_lt_of_le->bj,lt_irrefl->bm,le_trans->bU,zero_le->cJ,lt_trans->c7,lt_succ_of_lt->c8,lt_of_succ_lt->dz,le_of_not_lt->dH,pow_le_pow_right->d7,le_add_right->ek,ne_of_gt->fc,lt_of_le_of_ne->fK,le_of_lt->fQ,add_assoc->iQ,lt_succ_self->i5,le_max_right->kf,min_eq_left->kB,le_max_left->kC,mul_le_mul->kN,add_comm->lW,le_of_eq->lZ,mul_comm->l7,min_self->l8,le_succ->mR
open Array renaming length_toList->aE,getElem?_eq_getElem->bc,getElem?_toList->be,perm_iff_toList_perm->bv,toList_append->cf,size_push->dC,toList_push->d5,size_extract->fL,getElem?_eq_none->fX,size_append->fY,toList_extract->gA,toList_setIfInBounds->h8,toList_inj->i7,mem_toList_iff->kL,toList_reverse->kS,size_reverse->lK,toList->lL,toList_map->mL,range->mY
open PyProof.Rows renaming wpS_bind->aI,wpS_pure->aP,arrOf->aZ,pendingOf->a9,SortSt->bL,Keyed->bO,slot_tuple_getitem->b9,wpS_forRange->cc,callWith_type1->cD,wpS_mono->d3,wpS_modify->eE,SortKind->eY,seqObj->eZ,elem'->fq,failedOf->fF,IntsAre->fV,wpS_get->fZ,callWith_builtin1->gc,setPending->gl,entry_tuple_getitem->gO,envOfC->gU,slicePart_none->gX,args_tuple_getitem->gZ,list_sort_rev->im,AllBare->iA,subscriptTail_builtinR->kl,wpS->kI,tupleItemsOf_->lh,listUpdate_at->ln,seqEpoch_at->mX,minRun'->nr,Subscript_->nA,size_push'->nJ,IsTup->nU
open And renaming intro->aT
open PySem.Value renaming none->bh,ref->cx,bool->cX,int->eI,type->ly,isStrOf->nQ
open PySem.NameKind renaming free->bD,cell->cp
open List.Perm renaming refl->cn,swap->io,of_eq->m7
open PySem.Builtin.Slice renaming slicePlaces->cr,sliceAdjust->fm,sliceApplied->gY
open PySem.Heap.SameBut renaming update->cB,refl->l9
open Sum renaming inl->cP,inr->kZ
open PySem.Obj renaming data_mapFields->cY,isFreed_of_fields->eL,mapSeq->eV,cls_mapFields->fW,mapFields->lq,putSet->nM
open Pure renaming pure->c0
open Int renaming toNat_natCast->c9,emod_lt_of_pos->dQ,emod_nonneg->eG,emod_eq_of_lt->eS,le_refl->e9,ofNat->gp,toNat_of_nonneg->k9,le_antisymm->nk,mul_le_mul->nF
open PySem.AutoSeq1 renaming wpAny_loadPart'->dm,sub_tuple_tuple->du,wpAny_loadPart'->fE,idx_int->iY
open True renaming intro->dM
open PySem.F renaming slot_tuple_iterator_next->dN,args_tuple_add_2->fC,entry_tuple_add->fM,slot_tuple_add->fT,slot_int_rmul->gE,args_tuple_iterator_next_1->gI,slot_zip_next->gJ,slot_dict_keyiterator_next->gM,entry_tuple_iterator_next->gQ,args_tuple_mul_2->g9,entry_tuple_mul->iH,slot_tuple_mul->iZ,plain_list_iadd->i9,args_int_rmul_2->l6,args_zip_next_1->md,args_tuple_lt_2->mi,entry_int_rmul->mC,entry_zip_next->mH,entry_tuple_lt->mN,slot_dict_iter->mO,fills_int_mul->m3,slot_tuple_lt->nc,plain_set_new->nh,slot_set_iter->ni
open PySem.Builtin.SmallTypes renaming nextOf->dS
open PySem.Around renaming under_plainId->d8
open PySem.SetTable renaming insertAt->d9,grown->nL,below->nN
open LawfulBEq renaming eq_of_beq->ei
open PySem.Builtin.Tuple renaming tupleItemsOf->eU,tupleCompareSizes->f9,tupleTooMany->g8
open PyProof.Rows.F renaming plain_set_update_loop->fP,entry_set_update_loop->ke
open PySem.SeqAt renaming EqAt->gd
open PySem.SeqAt.EqAt renaming same->gD,of_refs->hG,int_str->lw,str_int->lx,int_int->lH
open PySem.Builtin.List renaming listLengthHint->gR,listTooLong->iM
open PyProof.Rows.IsTup renaming new->gS
open Break renaming runK->hV
open List.Pairwise renaming nil->iF,imp_of_mem->iS,filter->kY
open PySem.SeqAt.RcAt renaming tuples->iI,lists_lengths->iN,lists->mD
open PySem.Builtin.Dict renaming showsAll->kF
open ForIn renaming forIn->kO
open PySem.Builtin.Int renaming intBits->k6
open Lean.Grind renaming CommRing->lc
open PySem.P renaming truthy_int->lD
open PySem.Heap.IsSliceOf renaming new->lG
open PySem.Str renaming ofString->mf
open PySem.pickOrder renaming go->mm
open Classical renaming not_not->mq
open Or renaming inr->mE
open ForInStep renaming yield->m4
open PySem.PassesOwn renaming never->nj
open Min renaming min->nq
open PySem.Walks renaming list->nG
open PyProof.Rows.SortSt renaming mk'->nH
open PySem.Code renaming compLoop->nS
namespace L2
open PySem PySem.Spec PyProof.Rows
abbrev Key:=Sum Int bF
noncomputable def Uu:Key->ap->Bool
 |.inl k,v=>ap.isInt k v
 |.inr x,v=>nQ x v
noncomputable def ZdQ(w:bR):Key->Int
 |.inl k=>n4 k
 |.inr x=>hashStr w x
def ZO:∀{k:Key}{v:ap},Uu k v=am->(∃i t,k=cP i/\v=eI i t)\/(∃x t,k=kZ x/\v=ap.str x t)
 |.inl i,v,h=>by
  obtain⟨t,e⟩:=ap.isInt_shape h;exact .inl #[i,t,rfl,e]
 |.inr x,v,h=>by
  obtain⟨t,e⟩:=ap.isStrOf_shape h;exact .inr #[x,t,rfl,e]
def yV(i:Int)(t:og):Uu (.inl i) (.int i t)=am:=by simp[Uu,ap.isInt]
def yQ(x:bF)(t:og):Uu (.inr x) (.str x t)=am:=by simp[Uu,nQ]
def Zbu(a b:Int):ag ((cP a:Key)=cP b)=(a == b):=by
 by_cases e:a=b
 .subst e;simp
 .have h:¬(cP a:Key)=cP b:=λq=>e (cP.inj q)
  rw[T4 h];exact(beq_eq_false_iff_ne.mpr e).symm
def Zbc(a b:bF):ag ((kZ a:Key)=kZ b)=ag (a=b):=by
 by_cases e:a=b
 .subst e;simp
 .have h:¬(kZ a:Key)=kZ b:=λq=>e (kZ.inj q)
  rw[T4 h,T4 e]
def Zcl(a:Int)(b:bF):ag ((cP a:Key)=kZ b)=aj:=T4 (λq=>nomatch q)
def Zcm(a:bF)(b:Int):ag ((kZ a:Key)=cP b)=aj:=T4 (λq=>nomatch q)
noncomputable def ZV(prog:bE)(w:bR):PySem.KeyKind prog w Key where
 is:=Uu
 hash:=ZdQ w
 inj:=λv a b ha hb=>by
  rcases ZO ha with⟨i,t,rfl,rfl⟩|⟨x,t,rfl,rfl⟩
  .rcases ZO hb with⟨j,u,rfl,e⟩|⟨y,u,rfl,e⟩
   .injection e with e1 _;rw[e1]
   .exact nomatch e
  .rcases ZO hb with⟨j,u,rfl,e⟩|⟨y,u,rfl,e⟩
   .exact nomatch e
   .injection e with e1 _;rw[e1]
 byValue:=λk v h=>by
  rcases ZO h with⟨i,t,rfl,rfl⟩|⟨x,t,rfl,rfl⟩<;>rfl
 pyHash:=λhv h=>by
  rcases ZO hv with⟨i,t,rfl,rfl⟩|⟨x,t,rfl,rfl⟩
  .exact wpAny_pyHash_int h
  .exact wpAny_pyHash_str h
 eqBool:=λhu hv h=>by
  rcases ZO hu with⟨i,t,rfl,rfl⟩|⟨x,t,rfl,rfl⟩
  .rcases ZO hv with⟨j,u,rfl,rfl⟩|⟨y,u,rfl,rfl⟩
   .rw[Zbu]at h;exact iU h
   .rw[Zcl]at h;exact lw i t y u _ _ _ _ h
  .rcases ZO hv with⟨j,u,rfl,rfl⟩|⟨y,u,rfl,rfl⟩
   .rw[Zcm]at h;exact lx x t j u _ _ _ _ h
   .rw[Zbc]at h;exact wpAny_eqBool_str h
 «strs»:=λk x t v h=>by
  rcases ZO h with⟨i,u,rfl,e⟩|⟨y,u,rfl,e⟩
  .exact nomatch e
  .injection e with e1 _
   subst e1;cases v<;>rfl
def JN(prog:bE)(w:bR)(i:Int)(t:og):(ZV prog w).is (.inl i) (.int i t)=am:=yV i t
def JZ(prog:bE)(w:bR)(x:bF)(t:og):(ZV prog w).is (.inr x) (.str x t)=am:=yQ x t
inductive V where
 |non|bl (b:Bool)|int (i:Int)|str (x:bF)|byt (b:Array UInt8)|flt (b:UInt64)|ref (a:aL)|ty (n:String)
 deriving DecidableEq
def Zv:V->ap->Prop
 |.non,u=>u=bh
 |.bl b,u=>u=cX b
 |.int i,u=>∃t,u=eI i t
 |.str x,u=>∃t,u=ap.str x t
 |.byt b,u=>∃t,u=ap.bytes b t
 |.flt b,u=>∃t,u=ap.float b t
 |.ref a,u=>u=cx a
 |.ty n,u=>u=ly n
abbrev Vals:List V->List ap->Prop:=Paired Zv
theorem Vals.length{xs:List V}{us:List ap}(r:Vals xs us):xs.length=us.length:=Paired.length r
theorem Vals.get:∀{xs:List V}{us:List ap}{i:Nat}{x:V},Vals xs us->xs[i]?=aa x->∃u,us[i]?=aa u/\Zv x u
 |_,_,_,_,.nil,e=>by simp at e
 |_,_,0,_,.cons r _,e=>by simp at e;subst e;exact#[_,rfl,r]
 |_,_,i+1,x,.cons _ t,e=>by
  obtain⟨u,h1,h2⟩:=Vals.get t (by simpa using e)
  exact#[u,by simpa using h1,h2]
theorem Vals.set(r:Zv x u):∀{xs:List V}{us:List ap}(i:Nat),Vals xs us->Vals (xs.set i x) (us.set i u)
 |_,_,_,.nil=>.nil
 |_,_,0,.cons _ t=>.cons r t
 |_,_,i+1,.cons q t=>.cons q<|Vals.set r i t
theorem Vals.append:∀{xs ys:List V}{us ws:List ap},Vals xs us->Vals ys ws->Vals (xs++ys) (us++ws)
 |_,_,_,_,.nil,s=>s
 |_,_,_,_,.cons r t,s=>.cons r<|Vals.append t s
theorem Vals.take:∀{xs:List V}{us:List ap}(n:Nat),Vals xs us->Vals (xs.take n) (us.take n)
 |_,_,0,_=>.nil
 |_,_,_+1,.nil=>.nil
 |_,_,n+1,.cons r t=>.cons r<|Vals.take n t
theorem Vals.drop:∀{xs:List V}{us:List ap}(n:Nat),Vals xs us->Vals (xs.drop n) (us.drop n)
 |_,_,0,r=>r
 |_,_,_+1,.nil=>.nil
 |_,_,n+1,.cons _ t=>Vals.drop n t
def Gk:Option V->Option ap->Prop
 |some v,aa u=>Zv v u
 |none,ae=>True
 |_,_=>False
def KV{κ:Type}:List (κ×V)->List (κ×ap)->Prop:=Paired λ(p:κ×V) (q:κ×ap)=>p.1=q.1/\Zv p.2 q.2
noncomputable def kV:Key->V
 |.inl i=>.int i
 |.inr x=>.str x
inductive HO where
 |lst (xs:List V)
 |tup (xs:List V)
 |dK (kvs:List (Key×V))|dT (kvs:List (List Key×V))
 |set (S:Int->Bool) (n:Nat)
 |ins (C dx:aL) (fs:List (bF×V))
 |own (x:aL)
 |xd (fs:List (bF×V))
 |met (f x:aL)
 |rng (lo hi:Int)
 |frz (o:fb) (u:HO)
 |tbl (ps:Array ap)
 |ext (φ:b0->Prop)
abbrev Hp:=aL->Option HO
noncomputable def upd(H:Hp)(a:aL)(o:HO):Hp:=λb=>if b=a then aa o else H b
def Zz :upd H a o a=aa o:=by unfold upd;rw[T9 rfl]
def Zk(h:b≠a):upd H a o b=H b:=by unfold upd;rw[T8 h]
def Zar{H:Hp}{a b:aL}{o u:HO}(h:H a=aa o)(h':H b=aa u)(d:o≠u):a≠b:=by
 intro e;subst e;rw[h]at h';exact d<|ak h'
def Yb{H:Hp}{a b:aL}{o:HO}(h:H a=aa o)(h':H b=ae):a≠b:=by
 intro e;subst e;rw[h]at h';cases h'
section
variable(P:bE)(w:bR)
def Z3(H:Hp)(h:b0)(a:aL):HO->Prop
 |.lst xs=>xs.length<=ba/\∃(its:List ap)(n:Nat),Vals xs its/\h.get? a=aa {cls:=.type "list",data:=.seq its.toArray n}
 |.tup xs=>xs.length<=ba/\∃its:List ap,Vals xs its/\nU h a its.toArray
 |.dK kvs=>kvs.length<=ba/\(a == cI)=aj/\∃vs,KV kvs vs/\h.DictOf (ZV P w) a vs
 |.dT kvs=>kvs.length<=ba/\(a == cI)=aj/\∃xs:List (List Key×aL×ap),
   Paired (λ(p:List Key×V) (q:List Key×aL×ap)=>p.1=q.1/\H q.2.1=aa (.tup<|p.1.map kV)/\Zv p.2 q.2.2) kvs xs/\
   ∃o es ep,h.get? a=aa o/\o.ExactDict/\o.data=.dict es ep/\es.toList=xs.map (entryOfKey<|iV<|ZV P w)/\(xs.map (·.1)).Nodup
 |.set S n=>h.SetOf (eC P w) a S n
 |.ins C dx fs=>H dx=aa (.own a)/\fs.length<=1000/\dx≠a/\h.get? a=aa (kw C dx)/\
   ∃mA,h.Ns1 dx mA/\(∀f,Gk (fs.lookup f)<|mA f)/\PySem.Within mA (fs.map (·.1))
 |.own _=>∃o,h.get? a=aa o
 |.xd fs=>∃mA,h.Ns1 a mA/\∀f,Gk (fs.lookup f)<|mA f
 |.rng lo hi=>∃t u v,h.get? a=aa {cls:=.type "range",data:=.fields [.int lo t,.int hi u,.int 1 v].toArray}
 |.frz o u=>h.get? a=aa o/\Z3 H h a u
 |.tbl ps=>h.get? a=aa {cls:=.none,data:=.fields ps}
 |.met f x=>h.get? a=aa (PySem.W.methodObj (.ref f)<|.ref x)
 |.ext φ=>φ h/\(∃o,h.get? a=aa o)/\∀h1 h2:b0,φ h1->(∀o,h1.get? a=aa o->h2.get? a=aa o)->φ h2
def HOk(H:Hp)(h:b0):Prop:=∀a o,H a=aa o->Z3 P w H h a o
end
theorem Z3.lt(x:Z3 P w H h a o):a<h.objs.size:=by
 cases o with|lst xs=>obtain⟨_,_,_,_,e⟩:=x;exact aC e|tup xs=>obtain⟨_,_,_,p⟩:=x;exact p.lt|dK kvs=>obtain⟨_,_,_,_,o,_,_,e,_⟩:=x;exact aC e|dT kvs=>obtain⟨_,_,_,_,o,_,_,e,_⟩:=x;exact aC e|set S n=>obtain⟨o,_,_,_,e,_⟩:=x;exact aC e|ins C dx fs=>obtain⟨_,_,_,e,_⟩:=x;exact aC e|own y=>obtain⟨_,e⟩:=x;exact aC e|xd fs=>obtain⟨_,⟨_,_,_,e,_⟩,_⟩:=x;exact aC e|rng lo hi=>obtain⟨_,_,_,e⟩:=x;exact aC e|frz ob u=>obtain⟨e,_⟩:=x;exact aC e|tbl ps=>exact aC (x)|met f y=>exact aC (x)|ext φ=>obtain⟨_,⟨_,e⟩,_⟩:=x;exact aC e
theorem Paired.mapP{B β:Type}{F G:B->β->Prop}:∀{l₁:List B}{l₂:List β},Paired F l₁ l₂->(∀a b,F a b->G a b)->Paired G l₁ l₂
 |_,_,.nil,_=>.nil
 |_,_,.cons r t,f=>.cons (f _ _ r)<|Paired.mapP t f
def Z3.stay(x:Z3 P w H h a o)(k:∀b u,(b=a\/H b=aa (.own a))->h.get? b=aa u->h'.get? b=aa u)
  (ho:∀b,H b=aa (.own a)->H' b=aa (.own a))(ht:∀b xs,H b=aa (.tup xs)->H' b=aa (.tup xs)):Z3 P w H' h' a o:=by
 induction o with
 |lst xs=>obtain⟨z,its,n,r,e⟩:=x;exact#[z,its,n,r,k _ _ (.inl rfl) e]
 |tup xs=>obtain⟨z,its,r,ob,e,c⟩:=x;exact#[z,its,r,ob,k _ _ (.inl rfl) e,c]
 |dK kvs=>obtain⟨z,y,vs,r,ob,es,ep,e,c⟩:=x;exact#[z,y,vs,r,ob,es,ep,k _ _ (.inl rfl) e,c]
 |dT kvs=>
  obtain⟨z,y,xs,r,ob,es,ep,e,c⟩:=x;exact#[z,y,xs,Paired.mapP r λp q z=>#[z.1,ht _ _ z.2.1,z.2.2],ob,es,ep,k _ _ (.inl rfl) e,c]
 |set S n=>obtain⟨ob,es,ep,t,e,c⟩:=x;exact#[ob,es,ep,t,k _ _ (.inl rfl) e,c]
 |ins C dx fs=>
  obtain⟨d,z,ne,e,mA,⟨od,es,ep,e2,c⟩,r⟩:=x;exact#[ho _ d,z,ne,k _ _ (.inl rfl) e,mA,#[od,es,ep,k _ _ (.inr d) e2,c],r]
 |own y=>obtain⟨ob,e⟩:=x;exact#[ob,k _ _ (.inl rfl) e]
 |xd fs=>obtain⟨mA,⟨od,es,ep,e,c⟩,r⟩:=x;exact#[mA,#[od,es,ep,k _ _ (.inl rfl) e,c],r]
 |rng lo hi=>obtain⟨t,u,v,e⟩:=x;exact#[t,u,v,k _ _ (.inl rfl) e]
 |frz ob u ih=>obtain⟨e,q⟩:=x;exact#[k _ _ (.inl rfl) e,ih q]
 |tbl ps=>
  have e:=x;exact k a _ (.inl rfl) e
 |met f y=>
  have e:=x;exact k a _ (.inl rfl) e
 |ext φ=>obtain⟨p,⟨o,e⟩,st⟩:=x;exact#[st _ _ p λo q=>k _ _ (.inl rfl) q,#[o,k _ _ (.inl rfl) e],st]
theorem HOk.lt(x:HOk P w H h)(e:H a=aa o):a<h.objs.size:=(x a o e).lt
def HOk.fresh(x:HOk P w H h)(e:h.objs.size<=a):H a=ae:=by
 cases q:H a with|none=>rfl|some u=>exact T7 (bj (x.lt q) e)<|bm _
def HOk.kept(x:HOk P w H h)(k:∀b u,h.get? b=aa u->h'.get? b=aa u):HOk P w H h':=λa o e=>
 (x a o e).stay (λb u _ q=>k b u q) (λ_ q=>q) λ_ _ q=>q
def HOk.laid(x:HOk P w H h)(k:∀b u,h.get? b=aa u->h'.get? b=aa u)(hp:h.objs.size<=a)(new:Z3 P w (upd H a o) h' a o):HOk P w (upd H a o) h':=λb u e=>by
 have hn:=x.fresh hp;by_cases hb:b=a
 .subst hb;rw[Zz]at e;cases e;exact new
 .rw[Zk hb]at e
  exact(x b u e).stay (λc v _ q=>k c v q) (λc q=>by rw[Zk<|Yb q hn];exact q) λc xs q=>by rw[Zk<|Yb q hn];exact q
def Rd(H:Hp)(a:aL)(u:HO):Prop:=H a=aa u\/∃o,H a=aa (.frz o u)
def Rd.ok(r:Rd H a u)(x:HOk P w H h):Z3 P w H h a u:=by
 rcases r with r|⟨o,r⟩
 .exact x a u r
 .obtain⟨_,q⟩:=x a _ r
  exact q
def Mut:Option HO->Prop
 |some (.lst _)=>True
 |some (.dK _)=>True
 |some (.dT _)=>True
 |some (.set _ _)=>True
 |some (.ins _ _ _)=>True
 |some (.ext _)=>True
 |_=>False
def HOk.write(ok:HOk P w H h)(mu:Mut (H x))(he:e=x\/H e=aa (.own x))(k:∀b u,b≠e->h.get? b=aa u->h'.get? b=aa u)(heo:∃u,h'.get? e=aa u)
  (new:Z3 P w (upd H x o') h' x o'):HOk P w (upd H x o') h':=λb u q=>by
 have nown:∀c y,H c=aa (.own y)->c≠x:=λc y r z=>by subst z;rw[r]at mu;exact mu
 have ntup:∀c xs,H c=aa (.tup xs)->c≠x:=λc xs r z=>by subst z;rw[r]at mu;exact mu
 by_cases hb:b=x
 .subst hb;rw[Zz]at q;cases q;exact new
 .rw[Zk hb]at q
  by_cases hbe:b=e
  .have q':H b=aa (.own x):=by
    rcases he with z|z
    .exact T7 (hbe.trans z) hb
    .rw[hbe];exact z
   rw[q]at q';cases q';obtain⟨v,hv⟩:=heo;exact#[v,by rw[hbe];exact hv]
  .refine(ok b u q).stay (λc v hc r=>k c v ?_ r) (λc r=>by rw[Zk<|nown c b r];exact r) λc xs r=>by rw[Zk<|ntup c xs r];exact r
   rcases hc with rfl|hc
   .exact hbe
   .rintro rfl
    rcases he with z|z
    .exact nown c b hc z
    .rw[hc]at z;cases z;exact hb rfl
structure Un(fs ex:List aL)(H H':Hp)(h h':b0):Prop where
 keep:∀b o,h.get? b=aa o->H b=ae->b∉fs->b∉ex->h'.get? b=aa o
 slot:∀b o,h.get? b=aa o->H b=ae->b∈fs->b∉ex->∃sl,h'.get? b=aa {o with slots:=sl}
 free:∀b o,h.get? b=aa o->H b=ae->b∉ex->H' b=ae
 there:∀b o,h.get? b=aa o->b∉ex->∃o',h'.get? b=aa o'
 tups:∀b xs,H b=aa (.tup xs)->H' b=aa (.tup xs)
 frzs:∀b o u,H b=aa (.frz o u)->H' b=aa (.frz o u)
 tbls:∀b ps,H b=aa (.tbl ps)->∃more,H' b=aa (.tbl<|ps++more)
def Un.any(u:Un fs ex H H1 h h1)(q:h.get? b=aa ob)(n:H b=ae)(hx:b∉ex):∃sl,h1.get? b=aa {ob with slots:=sl}:=by
 by_cases hb:b∈fs
 .exact u.slot b ob q n hb hx
 .exact#[ob.slots,u.keep b ob q n hb hx]
def Un.kept(k:∀b u,h.get? b=aa u->h'.get? b=aa u):Un fs ex H H h h':=
 #[λb ob q _ _ _=>k b ob q,λb ob q _ _ _=>#[ob.slots,k b ob q],λ_ _ _ n _=>n,λb ob q _=>#[ob,k b ob q],λ_ _ q=>q,λ_ _ _ q=>q,λ_ ps q=>#[#[],by rw[q];simp]]
def Un.refl:Un fs ex H H h h:=Un.kept λ_ _ q=>q
def Un.laid(k:∀b u,h.get? b=aa u->h'.get? b=aa u)(hp:h.objs.size<=a)(hn:H a=ae):Un fs ex H (upd H a o) h h' where
 keep:=λb u q _ _ _=>k b u q
 slot:=λb u q _ _ _=>#[u.slots,k b u q]
 free:=λb u q n _=>by rw[Zk<|bi<|bj (aC q) hp];exact n
 there:=λb u q _=>#[u,k b u q]
 tups:=λb xs q=>by rw[Zk<|Yb q hn];exact q
 frzs:=λb u xs q=>by rw[Zk<|Yb q hn];exact q
 tbls:=λb ps q=>#[#[],by rw[Zk<|Yb q hn,q];simp]
def Un.write(mu:Mut (H x))(he:e=x\/H e=aa (.own x))(k:∀b u,b≠e->h.get? b=aa u->h'.get? b=aa u)(heo:∃u,h'.get? e=aa u):Un fs ex H (upd H x o) h h':=by
 have hx:∀b,H b=ae->b≠x:=λb n z=>by subst z;rw[n]at mu;exact mu
 have hb:∀b,H b=ae->b≠e:=λb n z=>by
  subst z;rcases he with r|r
  .exact hx b n r
  .rw[n]at r;cases r
 have hm:∀b u,H b=aa u->¬Mut (aa u)->b≠x:=λb u q nm z=>by subst z;rw[q]at mu;exact nm mu
 refine#[λb u q n _ _=>k b u (hb b n) q,λb u q n _ _=>#[u.slots,k b u (hb b n) q],λb u q n _=>by rw[Zk<|hx b n];exact n,λb u q _=>?_,
  λb xs q=>by rw[Zk<|hm b _ q λz=>z];exact q,λb u xs q=>by rw[Zk<|hm b _ q λz=>z];exact q,λb ps q=>#[#[],by rw[Zk<|hm b _ q λz=>z,q];simp]]
 by_cases hbe:b=e
 .subst hbe;exact heo
 .exact#[u,k b u hbe q]
noncomputable def trk(h:b0)(H:Hp):List aL:=(aK h.objs.size).filter λa=>(H a).isSome
noncomputable def QR(h:b0)(H:Hp):b0:=PySem.W.hideAll h<|trk h H
def yE(h:b0)(H:Hp):(QR h H).objs.size=h.objs.size:=PySem.W.hideAll_size _ _
def uk(e:h.get? b=aa o)(n:H b=ae):(QR h H).get? b=aa o:=
 PySem.W.hideAll_get _ e λhm=>by
  have q:=(bS.mp hm).2;rw[n]at q;simp at q
def jq(e:(QR h H).get? b=aa o):h.get? b=aa o/\H b=ae:=by
 have e':=PySem.W.of_hideAll (trk h H) e;refine#[e',?_];cases q:H b with
 |none=>rfl
 |some x=>
  have hm:b∈trk h H:=bS.mpr #[aQ.mpr<|aC e',by simp[q]]
  have z:(QR h H).get? b=ae:=PySem.W.hideAll_none (trk h H) hm;rw[z]at e;cases e
structure Mod(K:ao)(mg:bF->Option ap)(base:b0):Prop where
 kin:K.In base
 glob:base.Ns cy mg
 blt:∃mb,base.Ns lz mb/\∀x:bF,x≠"__name__"->mb x=dr x
 nolimit:base.NoLimit
structure Cx where
 prog:bE
 w:bR
 K:ao
 mg:bF->Option ap
 base:b0
 A:cQ
 N:List bF
 s₀:aw
 H₀:Hp
 env:Env
 outer:List Env
 stack:List Env
 ex:List aL
 fn:bF->Bool
 calm:Bool
 pn:List (aL×fb)
 xe:ap->aw->Prop
noncomputable def frs(l:List Env):List aL:=l.filterMap (·.frame)
noncomputable abbrev Cx.fs(X:Cx):List aL:=frs X.outer
def Vis(sc:eA)(x:bF):Prop:=sc.names.lookup x=aa .local\/sc.names.lookup x=aa .cell\/sc.names.lookup x=aa .free
def Loc(sc:eA)(x:bF):Prop:=sc.names.lookup x=aa .local\/sc.names.lookup x=aa .cell
def Look(env:Env)(h:b0)(m:bF->Option ap)(x:bF)(u:ap):Prop:=
 (env.kindOf x=aa .local/\m x=aa u)\/((env.kindOf x=aa .cell\/env.kindOf x=aa .free)/\∃c,env.cells.lookup x=aa c/\h.IsCell c (aa u))
structure Cx.Ok(X:Cx):Prop where
 mod:Mod X.K X.mg X.base
 kind:X.env.scope.kind=.function
 glob:X.env.globals=cy
 blt:X.env.builtins=lz
 above:X.s₀.heap.objs.size<=X.env.locals
 inj:∀x y c,X.env.cells.lookup x=aa c->X.env.cells.lookup y=aa c->x=y
 has:∀x,(X.env.kindOf x=aa .cell\/X.env.kindOf x=aa .free)->∃c,X.env.cells.lookup x=aa c
 cab:∀x c,X.fn x=am->X.env.cells.lookup x=aa c->X.s₀.heap.objs.size<=c
 hd:X.calm=am->X.A.handled=ae
 frames:X.A.frames=aa X.stack
 stk:X.stack=X.outer\/(X.stack=X.env::X.outer/\X.env.frame=aa X.env.locals)
 exf:∀b∈X.ex,b≠X.env.locals/\∀x c,X.env.cells.lookup x=aa c->c≠b
 bs:∀b o,X.base.get? b=aa o->X.s₀.heap.get? b=aa o/\X.H₀ b=ae
 bsz:X.base.objs.size<=X.s₀.heap.objs.size
 noex:∀b o,X.base.get? b=aa o->b∉X.ex
 exfs:∀b∈X.ex,b∉X.fs
 funs:X.s₀.heap.FunFrames X.base X.outer
 frf:∀b∈X.fs,X.H₀ b=ae
structure Inv(X:Cx)(pq:List (aL×fb))(U:List (Option V))(H:Hp)(s:aw):Prop where
 ok:X.Ok
 os:s.os=X.s₀.os
 bare:iA s.gens
 base:Un X.fs X.ex X.H₀ H X.s₀.heap s.heap
 loc:∃m,s.heap.Ns X.env.locals m/\∀(i:Nat)(x:bF)(v:V),X.N[i]?=aa x->U[i]?=aa (aa v)->Vis X.env.scope x->∃u,Zv v u/\Look X.env s.heap m x u
 cell:∀x c,X.env.cells.lookup x=aa c->∃v,s.heap.IsCell c v
 free:H X.env.locals=ae
 freeC:∀x c,X.env.cells.lookup x=aa c->H c=ae
 pin:∀p∈X.pn++pq,s.heap.get? p.1=aa p.2/\H p.1=ae/\p.1≠X.env.locals/\p.1∉X.fs/\∀v,p.2.data≠.cell v
 hok:HOk X.prog X.w H s.heap
 len:U.length=X.N.length
section
variable{X:Cx}{pq:List (aL×fb)}{U:List (Option V)}{H H':Hp}{s:aw}{h':b0}
def Cx.Ok.nofr(ok:X.Ok)(e:X.base.get? b=aa o):b∉X.fs:=λhb=>by
 have:=(ok.funs.mem hb).1;rw[e]at this;cases this
theorem Inv.bs(I:Inv X pq U H s):∀b o,X.base.get? b=aa o->s.heap.get? b=aa o/\H b=ae:=λb o e=>
 #[I.base.keep b o (I.ok.bs b o e).1 (I.ok.bs b o e).2 (I.ok.nofr e)<|I.ok.noex b o e,I.base.free b o (I.ok.bs b o e).1 (I.ok.bs b o e).2<|I.ok.noex b o e]
def Inv.bk(I:Inv X pq U H s):∀b o,X.base.get? b=aa o->s.heap.get? b=aa o:=λb o e=>(I.bs b o e).1
theorem Inv.mod(I:Inv X pq U H s):Mod X.K X.mg X.base:=I.ok.mod
def Inv.kIn(I:Inv X pq U H s):X.K.In s.heap:=I.ok.mod.kin.keeps I.bk
theorem Inv.lt(I:Inv X pq U H s):X.env.locals<s.heap.objs.size:=let #[_,hn,_]:=I.loc;hn.lt
def Inv.sz(I:Inv X pq U H s):X.s₀.heap.objs.size<=s.heap.objs.size:=bU I.ok.above<|fQ I.lt
def Inv.nofs(I:Inv X pq U H s)(h:s.heap.objs.size<=a):a∉X.fs:=λhb=>by
 obtain⟨_,o,ho,_⟩:=I.ok.funs.mem hb;exact T7 (bj (aC ho)<|bU I.sz h)<|bm _
def Inv.cne(I:Inv X pq U H s):∀x c,X.env.cells.lookup x=aa c->c≠X.env.locals:=λx c e z=>by
 obtain⟨v,o,ho,hd⟩:=I.cell x c e;obtain⟨m,⟨o',es,ep,ho',hd',_⟩,_⟩:=I.loc;rw[z,ho']at ho;cases ho;rw[hd']at hd;cases hd
theorem Inv.funs(I:Inv X pq U H s):s.heap.FunFrames X.base X.outer:=by
 have all:∀(l:List Env),(∀b∈frs l,b∈X.fs)->X.s₀.heap.FunFrames X.base l->s.heap.FunFrames X.base l:=by
  intro l
  induction l with
  |nil=>intro _ _;trivial
  |cons env r ih=>
   intro hs hl;obtain⟨hk,⟨L,o,hf,hn,ho,hd⟩,hr⟩:=hl;have hL:=hs L (by unfold frs;rw[gN,hf];exact al)
   obtain⟨sl,e⟩:=I.base.slot L o ho (I.ok.frf L hL) hL λz=>I.ok.exfs L z hL
   exact#[hk,#[L,_,hf,hn,e,hd],ih (λb hb=>hs b<|by unfold frs;rw[gN,hf];exact ai _ hb) hr]
 exact all X.outer (λ_ hb=>hb) I.ok.funs
theorem Inv.stack(I:Inv X pq U H s):s.heap.FunFrames X.base X.stack:=by
 rcases I.ok.stk with e|⟨e,hf⟩
 .rw[e];exact I.funs
 .rw[e]
  obtain⟨m,hn,_⟩:=I.loc;refine .cons (by rw[I.ok.kind];decide) hf hn ?_ I.funs
  exact b0.get?_none_of_le<|bU I.ok.bsz I.ok.above
def Inv.stkSub(I:Inv X pq U H s):∀b∈frs X.stack,b∈X.env.locals::X.fs:=λb hb=>by
 rcases I.ok.stk with e|⟨e,hf⟩
 .rw[e]at hb;exact ai _ hb
 .rw[e]at hb
  unfold frs at hb;rw[gN,hf]at hb;exact hb
def Inv.stkFree(I:Inv X pq U H s):∀b∈frs X.stack,H b=ae:=λb hb=>by
 rcases az.mp (I.stkSub b hb)with e|hb
 .rw[e];exact I.free
 .obtain⟨_,o,ho,_⟩:=I.ok.funs.mem hb
  exact I.base.free b o ho (I.ok.frf b hb) λz=>I.ok.exfs b z hb
def Inv.step{g':Array GenState}{t':Nat}{d':Drawn}{ch:List aL}(I:Inv X pq U H s)
  (hch:∀b∈ch,(b∈X.ex\/X.s₀.heap.objs.size<=b)/\b≠X.env.locals/\(∀x c,X.env.cells.lookup x=aa c->c≠b)/\∀p∈X.pn++pq,p.1≠b)
  (keep:∀b o,b≠X.env.locals->b∉X.fs->b∉ch->s.heap.get? b=aa o->H b=ae->h'.get? b=aa o)
  (slot:∀b o,b≠X.env.locals->b∈X.fs->b∉ch->s.heap.get? b=aa o->H b=ae->∃sl,h'.get? b=aa {o with slots:=sl})(free:∀b o,b∉ch->s.heap.get? b=aa o->H b=ae->H' b=ae)
  (there:∀b o,b∉ch->s.heap.get? b=aa o->∃o',h'.get? b=aa o')
  (tups:∀b xs,H b=aa (.tup xs)->H' b=aa (.tup xs))(frzs:∀b o u,H b=aa (.frz o u)->H' b=aa (.frz o u))(tbls:∀b ps,H b=aa (.tbl ps)->∃more,H' b=aa (.tbl<|ps++more))
  (ns:∀m,s.heap.Ns X.env.locals m->h'.Ns X.env.locals m)(hok:HOk X.prog X.w H' h')(hg:iA g') :
  Inv X pq U H' {s with heap:=h',gens:=g',drawn:=d',toks:=t' }:=by
 have neL:∀b o,X.s₀.heap.get? b=aa o->b≠X.env.locals:=λb o e=>bi<|bj (aC e) I.ok.above
 have neC:∀b o,X.s₀.heap.get? b=aa o->b∉X.ex->b∉ch:=λb o e hx hb=>by
  rcases(hch b hb).1 with z|z
  .exact hx z
  .exact T7 (bj (aC e) z)<|bm _
 have cellK:∀x c,X.env.cells.lookup x=aa c->∀v,s.heap.IsCell c v->h'.IsCell c v:=by
  rintro x c e v ⟨o,ho,hd⟩;have nch:=λz=>(hch c z).2.2.1 x c e rfl
  by_cases hc:c∈X.fs
  .obtain⟨sl,q⟩:=slot c o (I.cne x c e) hc nch ho (I.freeC x c e)
   exact#[_,q,hd]
  .exact#[o,keep c o (I.cne x c e) hc nch ho<|I.freeC x c e,hd]
 refine#[I.ok,I.os,hg,#[λb o e n hb hx=>?_,λb o e n hb hx=>?_,λb o e n hx=>?_,λb o e hx=>?_,λb xs e=>tups b xs<|I.base.tups b xs e,λb o xs e=>frzs b o xs<|I.base.frzs b o xs e,λb ps e=>?_],?_,λx c e=>?_,?_,λx c e=>?_,λp hp=>?_,hok,I.len]
 .exact keep b o (neL b o e) hb (neC b o e hx) (I.base.keep b o e n hb hx)<|I.base.free b o e n hx
 .obtain⟨sl,e1⟩:=I.base.slot b o e n hb hx
  obtain⟨sl',e2⟩:=slot b _ (neL b o e) hb (neC b o e hx) e1<|I.base.free b o e n hx;exact#[sl',e2]
 .obtain⟨o',e1⟩:=I.base.there b o e hx
  exact free b o' (neC b o e hx) e1<|I.base.free b o e n hx
 .obtain⟨o',e1⟩:=I.base.there b o e hx
  exact there b o' (neC b o e hx) e1
 .obtain⟨m1,e1⟩:=I.base.tbls b ps e
  obtain⟨m2,e2⟩:=tbls b _ e1;exact#[m1++m2,by rw[e2,Array.append_assoc]]
 .obtain⟨m,hn,hl⟩:=I.loc
  refine#[m,ns m hn,λi x v e1 e2 e3=>?_]
  obtain⟨u,r,l⟩:=hl i x v e1 e2 e3;refine#[u,r,?_];rcases l with l|⟨k,c,e,z⟩
  .exact .inl l
  .exact .inr #[k,c,e,cellK x c e _ z]
 .obtain⟨v,z⟩:=I.cell x c e
  exact#[v,cellK x c e v z]
 .obtain⟨m,⟨o,_,_,ho,_⟩,_⟩:=I.loc
  exact free _ o (λz=>(hch _ z).2.1 rfl) ho I.free
 .obtain⟨v,o,ho,hd⟩:=I.cell x c e
  exact free c o (λz=>(hch c z).2.2.1 x c e rfl) ho<|I.freeC x c e
 .obtain⟨e,n,ne,nf,d⟩:=I.pin p hp
  have nch:=λz=>(hch p.1 z).2.2.2 p hp rfl
  exact#[keep p.1 p.2 ne nf nch e n,free p.1 p.2 nch e n,ne,nf,d]
def Inv.un{t':Nat}(I:Inv X pq U H s)(u:Un X.fs [] H H' s.heap h')(hok:HOk X.prog X.w H' h'):Inv X pq U H' {s with heap:=h',toks:=t' }:=by
 obtain⟨m,⟨o,es,ep,ho,r⟩,_⟩:=id I.loc;obtain⟨sl,hL⟩:=u.any ho I.free (by simp)
 exact I.step (g':=s.gens) (d':=s.drawn) (ch:=[]) (λ_ z=>nomatch z) (λb o _ hb _ e n=>u.keep b o e n hb<|by simp) (λb o _ hb _ e n=>u.slot b o e n hb<|by simp) (λb o _ e n=>u.free b o e n<|by simp) (λb o _ e=>u.there b o e<|by simp) u.tups u.frzs u.tbls (λm' hm=>by
  obtain⟨o',es',ep',ho',r'⟩:=hm;rw[ho]at ho';cases ho';exact#[_,es',ep',hL,r']) hok I.bare
def Inv.call{g':Array GenState}{t':Nat}{d':Drawn}{ch:List aL}(I:Inv X pq U H s)(u:Un (frs X.stack) ch H H' s.heap h')(hok:HOk X.prog X.w H' h')(hg:iA g')
  (hch:∀b∈ch,(b∈X.ex\/X.s₀.heap.objs.size<=b)/\b≠X.env.locals/\(∀x c,X.env.cells.lookup x=aa c->c≠b)/\∀p∈X.pn++pq,p.1≠b) :
  Inv X pq U H' {s with heap:=h',gens:=g',drawn:=d',toks:=t' }:=by
 obtain⟨m,⟨o,es,ep,ho,r⟩,_⟩:=id I.loc;obtain⟨sl,hL⟩:=u.any ho I.free λz=>(hch _ z).2.1 rfl
 exact I.step hch (λb o hL hb hc e n=>u.keep b o e n (λz=>(az.mp<|I.stkSub b z).elim hL hb) hc) (λb o _ _ hc e n=>u.any e n hc) (λb o hc e n=>u.free b o e n hc) (λb o hc e=>u.there b o e hc) u.tups u.frzs u.tbls (λm' hm=>by
  obtain⟨o',es',ep',ho',r'⟩:=hm;rw[ho]at ho';cases ho';exact#[_,es',ep',hL,r']) hok hg
def Inv.turned{t':Nat}{it:aL}(I:Inv X pq U H s)(k:∀b o,b≠it->s.heap.get? b=aa o->h'.get? b=aa o)(hn:H it=ae)(hL:it≠X.env.locals)
  (h1:it∈X.ex\/X.s₀.heap.objs.size<=it)(h2:∀x c,X.env.cells.lookup x=aa c->c≠it)(h3:∀p∈X.pn++pq,p.1≠it):Inv X pq U H {s with heap:=h',toks:=t' }:=by
 have nit:∀b u,H b=aa u->b≠it:=λb u e z=>by rw[z,hn]at e;cases e
 refine I.step (g':=s.gens) (d':=s.drawn) (ch:=[it]) (λb hb=>?_) (λb o _ _ hc e _=>k b o (λz=>hc<|by simp[z]) e) (λb o _ _ hc e _=>#[o.slots,k b o (λz=>hc<|by simp[z]) e]) (λ_ _ _ _ n=>n)
  (λb o hc e=>#[o,k b o (λz=>hc<|by simp[z]) e]) (λ_ _ e=>e) (λ_ _ _ e=>e) (λb ps e=>#[#[],by rw[e];simp]) (λm hm=>?_) (λb u e=>?_) I.bare
 .have e:b=it:=by simpa using hb
  subst e;exact#[h1,hL,h2,h3]
 .obtain⟨o,es,ep,ho,r⟩:=hm
  exact#[o,es,ep,k _ o (Ne.symm hL) ho,r]
 .refine(I.hok b u e).stay (λc v hc q=>k c v ?_ q) (λ_ q=>q) λ_ _ q=>q
  rcases hc with z|z
  .rw[z];exact nit b u e
  .exact nit c _ z
def Inv.tok(I:Inv X pq U H s)(t:Nat):Inv X pq U H {s with toks:=t}:=I.un (h':=s.heap) (t':=t) Un.refl I.hok
theorem Inv.kept(I:Inv X pq U H s)(k:∀b u,s.heap.get? b=aa u->h'.get? b=aa u):Inv X pq U H {s with heap:=h',toks:=t' }:=I.un (Un.kept k)<|I.hok.kept k
theorem Inv.laid(I:Inv X pq U H s)(k:∀b u,s.heap.get? b=aa u->h'.get? b=aa u)(hp:s.heap.objs.size<=a)(new:Z3 X.prog X.w (upd H a o) h' a o) :
  Inv X pq U (upd H a o) {s with heap:=h',toks:=t' }:=I.un (Un.laid k hp<|I.hok.fresh hp)<|I.hok.laid k hp new
theorem Inv.write(I:Inv X pq U H s)(mu:Mut (H x))(he:e=x\/H e=aa (.own x))(k:∀b u,b≠e->s.heap.get? b=aa u->h'.get? b=aa u)(heo:∃u,h'.get? e=aa u)
  (new:Z3 X.prog X.w (upd H x o) h' x o):Inv X pq U (upd H x o) {s with heap:=h',toks:=t' }:=I.un (Un.write mu he k heo)<|I.hok.write mu he k heo new
def Inv.pins_of(I:Inv X pq U H s)(h:∀p∈pins',s.heap.get? p.1=aa p.2/\H p.1=ae/\p.1≠X.env.locals/\p.1∉X.fs/\∀v,p.2.data≠.cell v):Inv X pins' U H s:=
 #[I.ok,I.os,I.bare,I.base,I.loc,I.cell,I.free,I.freeC,λp hp=>(da.mp hp).elim (λz=>I.pin p<|dv _ z)<|h p,I.hok,I.len]
def JM{N:List bF}(hN:N.Nodup){i j:Nat}{x:bF}(a:N[i]?=aa x)(b:N[j]?=aa x):i=j:=by
 obtain⟨h1,e1⟩:=aX.mp a;obtain⟨h2,e2⟩:=aX.mp b;exact(List.getElem_inj hN).mp<|e1.trans e2.symm
def UQ{M:Model}{A:cQ}{E:ap->aw->Prop}{i:Nat}{x:bF}{v:V}{u:ap}{Q:Unit->aw->Prop}(I:Inv X pq U H s)(hN:X.N.Nodup)(hi:X.N[i]?=aa x)(hx:Loc X.env.scope x)(r:Zv v u)
  (h:∀s',Inv X pq (U.set i<|aa v) H s'->(∃a,dD a s.heap s'.heap/\(a=X.env.locals\/X.env.cells.lookup x=aa a))->Q () s')(hf:X.fn x=am\/X.env.scope.names.lookup x=aa .local:=by first|exact .inl rfl|exact .inr rfl|assumption):aW M A (storeName X.env x u) Q E s:=by
 obtain⟨m,hn,hl⟩:=id I.loc;have hcls:(X.env.scope.kind == .class||(X.env.scope.kind == .module&&X.env.locals != X.env.globals))=aj:=by rw[I.ok.kind];rfl
 have hiσ:i<U.length:=by rw[I.len];exact(aX.mp hi).1
 have cne:=I.cne;have tracked:∀{a:aL}{h':b0},(∃o,s.heap.get? a=aa o/\H a=ae)->dD a s.heap h'->HOk X.prog X.w H h':=λ{a h'} ha hs b ob e=>by
  obtain⟨_,_,hfree⟩:=ha;refine(I.hok b ob e).stay (λc w' hc q=>(hs.2 c ?_).trans q) (λ_ q=>q) λ_ _ q=>q
  rintro rfl
  rcases hc with rfl|hc
  .rw[hfree]at e;cases e
  .rw[hfree]at hc;cases hc
 rcases hx with hk|hk
 .refine wpAny_storeName_local hk hn (λh' hn' hs=>?_) hcls
  obtain⟨oL,_,_,hoL,_⟩:=id hn;refine h _ #[I.ok,I.os,I.bare,#[λb o e n hb hx=>?_,λb o e n hb hx=>?_,I.base.free,λb o e hx=>?_,I.base.tups,I.base.frzs,I.base.tbls],#[_,hn',λj y v' e1 e2 e3=>?_],λy c e=>?_,I.free,I.freeC,λp hp=>?_,tracked #[oL,hoL,I.free] hs,by simpa using I.len] #[_,hs,.inl rfl]
  .exact(hs.2 b<|bi<|bj (aC e) I.ok.above).trans<|I.base.keep b o e n hb hx
  .obtain⟨sl,e1⟩:=I.base.slot b o e n hb hx
   exact#[sl,(hs.2 b<|bi<|bj (aC e) I.ok.above).trans e1]
  .obtain⟨o',e1⟩:=I.base.there b o e hx
   exact#[o',(hs.2 b<|bi<|bj (aC e) I.ok.above).trans e1]
  .by_cases hj:j=i
   .subst hj
    rw[hi]at e1;cases e1;rw[bw hiσ]at e2;cases e2;exact#[u,r,.inl #[hk,by simp]]
   .rw[aY<|Ne.symm hj]at e2
    obtain⟨u',r',q⟩:=hl j y v' e1 e2 e3;refine#[u',r',?_];rcases q with⟨k,e⟩|⟨k,c,e,z⟩
    .refine .inl #[k,?_]
     have:y≠x:=λe=>hj<|JM hN e1<|e▸hi
     simp[this,e]
    .exact .inr #[k,c,e,z.sameBut hs<|cne y c e]
  .obtain⟨w',z⟩:=I.cell y c e
   exact#[w',z.sameBut hs<|cne y c e]
  .obtain⟨e,n,ne,nf,d⟩:=I.pin p hp
   exact#[(hs.2 p.1 ne).trans e,n,ne,nf,d]
 .have hfn:X.fn x=am:=by
   rcases hf with z|z
   .exact z
   .rw[z]at hk;cases hk
  obtain⟨c,hc⟩:=I.ok.has x<|.inl hk;obtain⟨w',z⟩:=I.cell x c hc;refine wpAny_storeName_cell I.ok.kind hk hc z λh' hc' hs=>?_
  obtain⟨oc,hoc,hocd⟩:=id z;refine h {s with heap:=h' } #[I.ok,I.os,I.bare,#[λb o e n hb hx=>?_,λb o e n hb hx=>?_,I.base.free,λb o e hx=>?_,I.base.tups,I.base.frzs,I.base.tbls],#[m,hn.sameBut hs<|Ne.symm<|cne x c hc,λj y v' e1 e2 e3=>?_],λy c' e=>?_,I.free,I.freeC,λp hp=>?_,tracked #[oc,hoc,I.freeC x c hc] hs,by simpa using I.len] #[c,hs,.inr hc]
  .exact(hs.2 b<|bi<|bj (aC e)<|I.ok.cab x c hfn hc).trans<|I.base.keep b o e n hb hx
  .obtain⟨sl,e1⟩:=I.base.slot b o e n hb hx
   exact#[sl,(hs.2 b<|bi<|bj (aC e)<|I.ok.cab x c hfn hc).trans e1]
  .obtain⟨o',e1⟩:=I.base.there b o e hx
   exact#[o',(hs.2 b<|bi<|bj (aC e)<|I.ok.cab x c hfn hc).trans e1]
  .by_cases hj:j=i
   .subst hj
    rw[hi]at e1;cases e1;rw[bw hiσ]at e2;cases e2;exact#[u,r,.inr #[.inl hk,c,hc,hc']]
   .rw[aY<|Ne.symm hj]at e2
    obtain⟨u',r',q⟩:=hl j y v' e1 e2 e3;refine#[u',r',?_];rcases q with q|⟨k,c',e,z'⟩
    .exact .inl q
    .refine .inr #[k,c',e,z'.sameBut hs ?_]
     rintro rfl
     exact hj<|JM hN e1<|I.ok.inj _ _ _ e hc▸hi
  .by_cases hcc:c'=c
   .subst hcc;exact#[_,hc']
   .obtain⟨w2,z2⟩:=I.cell y c' e
    exact#[w2,z2.sameBut hs hcc]
  .obtain⟨e,n,ne,nf,d⟩:=I.pin p hp
   refine#[(hs.2 p.1 ?_).trans e,n,ne,nf,d];intro q;rw[q,hoc]at e;have q':=ak e;exact d w' (by rw[<-q'];exact hocd)
def uf{E:ap->aw->Prop}{Q:Unit->aw->Prop}(I:Inv X pq U H s)(hN:X.N.Nodup)(hi:X.N[i]?=aa x)(hx:Loc X.env.scope x)(r:Zv v u)
  (h:∀s',Inv X pq (U.set i<|aa v) H s'->Q () s')(hf:X.fn x=am\/X.env.scope.names.lookup x=aa .local:=by first|exact .inl rfl|exact .inr rfl|assumption):aW M A (storeName X.env x u) Q E s:=
 UQ I hN hi hx r (λs' I' _=>h s' I') hf
def Inv.call'(I:Inv X pq U H s)(ho:s'.os=s.os)(u:Un (frs X.stack) ch H H' s.heap s'.heap)(hok:HOk X.prog X.w H' s'.heap)(hg:iA s'.gens)
  (hch:∀b∈ch,(b∈X.ex\/X.s₀.heap.objs.size<=b)/\b≠X.env.locals/\(∀x c,X.env.cells.lookup x=aa c->c≠b)/\∀p∈X.pn++pq,p.1≠b):Inv X pq U H' s':=by
 obtain⟨h',g',d',t',o'⟩:=s';have e:=ho;subst e;exact I.call (g':=g') (t':=t') (d':=d') u hok hg hch
end
abbrev XK:=ap->Option aL->Hp->Prop
abbrev St:=List<|Option V
abbrev VK:=V->Hp->Prop
abbrev TE:=St->Hp->VK->Prop
abbrev TT:=St->Hp->(Bool->Hp->Prop)->Prop
abbrev TA:=St->Hp->(List V->Hp->Prop)->Prop
structure Ends where
 nx:St->Hp->Prop
 rt:VK
 bk:St->Hp->Prop:=λ_ _=>False
 ct:St->Hp->Prop:=λ_ _=>False
abbrev TS:=Ends->St->Hp->Prop
def EP(X:Cx)(pq:List (aL×fb))(U:St)(Q:VK)(u:ap)(s':aw):Prop:=∃v H',Inv X pq U H' s'/\Zv v u/\Q v H'
def TP(X:Cx)(pq:List (aL×fb))(U:St)(Q:Bool->Hp->Prop)(b:Bool)(s':aw):Prop:=∃H',Inv X pq U H' s'/\Q b H'
def AP(X:Cx)(pq:List (aL×fb))(U:St)(Q:List V->Hp->Prop)(us:List ap)(s':aw):Prop:=∃vs H',Inv X pq U H' s'/\Vals vs us/\Q vs H'
def SP(X:Cx)(pq:List (aL×fb))(D:Ends)(f:Flow)(s':aw):Prop:=
 match f with
 |.next=>∃σ' H',Inv X pq σ' H' s'/\D.nx σ' H'
 |.brk=>∃σ' H',Inv X pq σ' H' s'/\D.bk σ' H'
 |.cont=>∃σ' H',Inv X pq σ' H' s'/\D.ct σ' H'
 |.ret u=>∃v σ' H',Inv X pq σ' H' s'/\Zv v u/\D.rt v H'
def PE(X:Cx)(e:Expr)(t:TE):Prop:=
 ∀(pq:List (aL×fb))(s:aw)(U:St)(H:Hp)(Q:VK),Inv X pq U H s->t U H Q->aW (aV X.prog X.w) X.A (cR e X.env) (EP X pq U Q) X.xe s
def PT(X:Cx)(e:Expr)(t:TT):Prop:=
 ∀(pq:List (aL×fb))(s:aw)(U:St)(H:Hp)(Q:Bool->Hp->Prop),Inv X pq U H s->t U H Q->aW (aV X.prog X.w) X.A (isTrue e X.env<|cR e X.env) (TP X pq U Q) X.xe s
def PW(X:Cx)(e:Expr)(t:TT):Prop:=
 ∀(whole:mv ap)(pq:List (aL×fb))(s:aw)(U:St)(H:Hp)(Q:Bool->Hp->Prop),Inv X pq U H s->t U H Q->aW (aV X.prog X.w) X.A (isTrue e X.env whole) (TP X pq U Q) X.xe s
def PW.pt(h:PW X e t):PT X e t:=h _
def PA(X:Cx)(es:List Expr)(t:TA):Prop:=
 ∀(pos:iu)(pq:List (aL×fb))(s:aw)(U:St)(H:Hp)(Q:List V->Hp->Prop),Inv X pq U H s->t U H Q->aW (aV X.prog X.w) X.A (spliced<|eK pos<|aM es X.env) (AP X pq U Q) X.xe s
def PS(X:Cx)(st:fw)(t:TS):Prop:=
 ∀(pq:List (aL×fb))(s:aw)(U:St)(H:Hp)(D:Ends),Inv X pq U H s->t D U H->aW (aV X.prog X.w) X.A (exec st X.env) (SP X pq D) X.xe s
def PSs(X:Cx)(st:List fw)(t:TS):Prop:=
 ∀(pq:List (aL×fb))(s:aw)(U:St)(H:Hp)(D:Ends),Inv X pq U H s->t D U H->aW (aV X.prog X.w) X.A (execs st X.env) (SP X pq D) X.xe s
def thn{B:Type}{t:mv B}{Q Q':B->aw->Prop}{M:Model}{A:cQ}{E:ap->aw->Prop}{s:aw}(h:aW M A t Q E s)(hQ:∀a s,Q a s->Q' a s):aW M A t Q' E s:=dg h hQ λ_ _ x=>x
def ZdG(i:Nat):TE:=λU H Q=>∃v,U[i]?=aa (aa v)/\Q v H
def tC(v:V):TE:=λ_ H Q=>Q v H
def Qj(hN:X.N[i]?=aa x)(hv:Vis X.env.scope x)(hd:(x == ("__debug__" : bF))=aj:=by decide)(hcd:(x == ("__classdict__" : bF))=aj:=by decide):PE X (.Name x pos) (ZdG i):=by
 intro pq s U H Q I h;obtain⟨v,e,h⟩:=h;obtain⟨m,hn,hl⟩:=I.loc;obtain⟨u,r,l⟩:=hl i x v hN e hv;have fin:EP X pq U Q u s:=#[v,H,I,r,h];rcases l with⟨hk,hm⟩|⟨hk,c,hc,hcell⟩
 .exact nu (wpAny_loadName_local I.ok.kind hk hn hm fin) hd
 .rcases hk with hk|hk
  .exact nu (wpAny_loadName_cell I.ok.kind hk hc hcell fin) hd
  .exact nu (wpAny_loadName_free I.ok.kind hk hc hcell fin hcd) hd
def U7{i j pos}:PE X (.Constant (.int i) j pos) (tC<|.int i):=λ_ _ _ H _ I h=>wpAny_Constant_int #[.int i,H,I.tok _,#[_,rfl],h]
def Zap{b j pos}:PE X (.Constant (.bool b) j pos) (tC<|.bl b):=λ_ _ _ H _ I h=>Constant_bool #[.bl b,H,I,rfl,h]
def Zbp{j pos}:PE X (.Constant .none j pos) (tC .non):=λ_ _ _ H _ I h=>Constant_none #[.non,H,I,rfl,h]
def Za1{x j pos}:PE X (.Constant (.str x) j pos) (tC<|.str x):=λ_ _ _ H _ I h=>Calls.Constant_str #[.str x,H,I.tok _,#[_,rfl],h]
def Gl(X:Cx)(x:bF):Prop:=X.env.kindOf x=aa .globalImplicit
def jj{E:ap->aw->Prop}{Q:ap->aw->Prop}(I:Inv X pq U H s)(hg:Gl X x)(hm:X.mg x=aa u)(h:Q u s)
  (hd:(x == ("__debug__" : bF))=aj:=by decide):aW (aV X.prog X.w) X.A (cR (.Name x pos) X.env) Q E s:=
 Calls.Name_function_global I.ok.kind hg (Calls.loadGlobal_global (by rw[I.ok.glob];exact I.mod.glob.keeps I.bk) hm h) hd
def Y2{E:ap->aw->Prop}{Q:ap->aw->Prop}(I:Inv X pq U H s)(hg:Gl X x)(hm:X.mg x=ae)(hv:dr x=aa u)(h:Q u s)
  (hn:x≠"__name__":=by decide)(hd:(x == ("__debug__" : bF))=aj:=by decide):aW (aV X.prog X.w) X.A (cR (.Name x pos) X.env) Q E s:=by
 obtain⟨mb,h1,h2⟩:=I.mod.blt;exact Calls.Name_function_global I.ok.kind hg (Calls.loadGlobal_builtin (by rw[I.ok.glob];exact I.mod.glob.keeps I.bk) hm (by rw[I.ok.blt];exact h1.keeps I.bk) ((h2 x hn).trans hv) h) hd
def qk(hg:Gl X x)(hm:X.mg x=ae)(hv:dr x=aa u)(r:Zv v u)(hn:x≠"__name__":=by decide)(hd:(x == ("__debug__" : bF))=aj:=by decide):PE X (.Name x pos) (tC v):=
 λ_ _ _ H _ I h=>Y2 I hg hm hv #[v,H,I,r,h] hn hd
def ZdJ(t u:TT):TT:=λU H Q=>t U H λc H1=>if c=am then u U H1 Q else Q aj H1
def tOr(t u:TT):TT:=λU H Q=>t U H λc H1=>if c=am then Q am H1 else u U H1 Q
def Zd4(t:TT):TT:=λU H Q=>t U H λc H1=>Q (!c) H1
def j4(ha:PT X a tA):PW X (.BoolOp .And [a] pos) tA:=by
 intro wh pq s U H Q I h;refine isTrue_and<|thn (ha pq s U H Q I h) λc s1 e=>?_
 cases c with|true=>exact isTrue_and_nil e|false=>exact e
def Zba(ha:PT X a tA):PW X (.BoolOp .Or [a] pos) tA:=by
 intro wh pq s U H Q I h;refine isTrue_or<|thn (ha pq s U H Q I h) λc s1 e=>?_
 cases c with|false=>exact isTrue_or_nil e|true=>exact e
def Zct(ha:PT X a tA)(hb:PW X (.BoolOp .And (b::rest) pos) tB'):PW X (.BoolOp .And (a::b::rest) pos) (ZdJ tA tB'):=by
 intro wh pq s U H Q I h;refine isTrue_and<|thn (ha pq s U H _ I h) λc s1 #[H1,I1,q1]=>?_
 cases c with|true=>exact hb wh pq s1 U H1 Q I1 q1|false=>exact#[H1,I1,q1]
def Zdz(ha:PT X a tA)(hb:PW X (.BoolOp .Or (b::rest) pos) tB'):PW X (.BoolOp .Or (a::b::rest) pos) (tOr tA tB'):=by
 intro wh pq s U H Q I h;refine isTrue_or<|thn (ha pq s U H _ I h) λc s1 #[H1,I1,q1]=>?_
 cases c with|true=>exact#[H1,I1,q1]|false=>exact hb wh pq s1 U H1 Q I1 q1
def Zck(ha:PT X a tA):PT X (.UnaryOp .Not a pos) (Zd4 tA):=by
 intro pq s U H Q I h;exact isTrue_not<|ha pq s U H (λc H1=>Q (!c) H1) I h
def Zdl(ta tb:TE):TE:=λU H Q=>ta U H λx H1=>∃c,x=.bl c/\if c=am then tb U H1 Q else Q (.bl aj) H1
def ZbH{op}{t:TE}(h:PE X a t):PE X (.BoolOp op [a] pos) t:=λpq s U H Q I hw=>BoolOp_one<|h pq s U H Q I hw
def Zbd(ha:PE X a ta)(hb:PE X (.BoolOp .And (b::rest) pos) tb):PE X (.BoolOp .And (a::b::rest) pos) (Zdl ta tb):=by
 intro pq s U H Q I h;refine BoolOp_and<|thn (ha pq s U H _ I h) λv s1 #[x,H1,I1,r1,q1]=>?_
 obtain⟨c,rfl,q1⟩:=q1;cases r1;refine eN ?_;cases c with|true=>exact hb pq s1 U H1 Q I1 q1|false=>exact#[.bl aj,H1,I1,rfl,q1]
def SqL(K:ao)(H:Hp)(a:aL)(xs:List V):Prop:=
 Rd H a (.lst xs)\/
  ∃(o:fb)(its:Array ap)(n:Nat),K.lookup a=aa o/\o.cls=.type "list"/\o.dict=ae/\o.data=.seq its n/\its.size<=ba/\Vals xs its.toList
def SqT(K:ao)(H:Hp)(a:aL)(xs:List V):Prop:=
 Rd H a (.tup xs)\/
  ∃(o:fb)(its:Array ap)(n:Nat),K.lookup a=aa o/\o.cls=.type "tuple"/\o.data=.seq its n/\its.size<=ba/\Vals xs its.toList
noncomputable def Zd3:ap->Option V
 |.none=>aa .non
 |.bool b=>aa<|.bl b
 |.int i _=>aa<|.int i
 |.str x _=>aa<|.str x
 |.bytes b _=>aa<|.byt b
 |.float b _=>aa<|.flt b
 |.ref a=>aa<|.ref a
 |.type n=>aa<|.ty n
 |_=>ae
def Zv.abs(r:Zv x u):Zd3 u=aa x:=by
 cases x with|non=>cases r;rfl|bl _=>cases r;rfl|int _=>obtain⟨t,rfl⟩:=r;rfl|str _=>obtain⟨t,rfl⟩:=r;rfl|byt _=>obtain⟨t,rfl⟩:=r;rfl|flt _=>obtain⟨t,rfl⟩:=r;rfl|ref _=>cases r;rfl|ty _=>cases r;rfl
def Zv.inj{x y:V}{u:ap}(r:Zv x u)(q:Zv y u):x=y:=ak<|r.abs.symm.trans q.abs
theorem Vals.inj:∀{xs ys:List V}{us:List ap},Vals xs us->Vals ys us->xs=ys
 |_,_,_,.nil,.nil=>rfl
 |_,_,_,.cons r t,.cons r' t'=>by rw[r.inj r',Vals.inj t t']
def SqL.of{K:ao}(h:H a=aa (.lst xs)):SqL K H a xs:=.inl<|.inl h
def SqT.of{K:ao}(h:H a=aa (.tup xs)):SqT K H a xs:=.inl<|.inl h
def Inv.list(I:Inv X pq U H s)(h:SqL X.K H a xs):∃its:List ap,Vals xs its/\PlainL s.heap a its.toArray/\xs.length<=ba:=by
 rcases h with h|⟨o,its,n,hk,hc,hd,hs,hz,r⟩
 .obtain⟨z,its,n,r,e⟩:=h.ok I.hok
  exact#[its,r,#[_,n,e,rfl,rfl,rfl],z]
 .refine#[its.toList,r,#[o,n,I.kIn a o hk,hc,hd,by simpa using hs],?_]
  have e:=r.length;simp only[aE]at e;lia
def Inv.tuple(I:Inv X pq U H s)(h:SqT X.K H a xs):∃its:List ap,Vals xs its/\nU s.heap a its.toArray/\xs.length<=ba:=by
 rcases h with h|⟨o,its,n,hk,hc,hs,hz,r⟩
 .obtain⟨z,its,r,p⟩:=h.ok I.hok
  exact#[its,r,p,z]
 .refine#[its.toList,r,#[o,I.kIn a o hk,hc,n,by simpa using hs],?_]
  have e:=r.length;simp only[aE]at e;lia
def Inv.list_inj(I:Inv X pq U H s)(h:SqL X.K H a xs)(h':SqL X.K H a ys):xs=ys:=by
 obtain⟨its,r,⟨o,n,e,_,_,d⟩,_⟩:=I.list h;obtain⟨its',r',⟨o',n',e',_,_,d'⟩,_⟩:=I.list h';rw[e]at e';cases e';rw[d]at d';injection d' with d1 _
 have:its=its':=by simpa using congrArg lL d1
 subst this;exact r.inj r'
def Inv.tuple_inj(I:Inv X pq U H s)(h:SqT X.K H a xs)(h':SqT X.K H a ys):xs=ys:=by
 obtain⟨its,r,⟨o,e,_,n,d⟩,_⟩:=I.tuple h;obtain⟨its',r',⟨o',e',_,n',d'⟩,_⟩:=I.tuple h';rw[e]at e';cases e';rw[d]at d';injection d' with d1 _
 have:its=its':=by simpa using congrArg lL d1
 subst this;exact r.inj r'
noncomputable abbrev Cx.wish(X:Cx)(E:ap->aw->Prop):Cx:={X with xe:=E}
noncomputable abbrev Cx.nox(X:Cx):Cx:=X.wish λ_ _=>False
theorem Cx.Ok.wish{X:Cx}(ok:X.Ok)(E:ap->aw->Prop):(X.wish E).Ok:=
 #[ok.mod,ok.kind,ok.glob,ok.blt,ok.above,ok.inj,ok.has,ok.cab,ok.hd,ok.frames,ok.stk,ok.exf,ok.bs,ok.bsz,ok.noex,ok.exfs,ok.funs,ok.frf]
def Cx.Ok.unwish{X:Cx}{E:ap->aw->Prop}(ok:(X.wish E).Ok):X.Ok:=
 #[ok.mod,ok.kind,ok.glob,ok.blt,ok.above,ok.inj,ok.has,ok.cab,ok.hd,ok.frames,ok.stk,ok.exf,ok.bs,ok.bsz,ok.noex,ok.exfs,ok.funs,ok.frf]
section
variable{X:Cx}{pq:List (aL×fb)}{U:St}{H:Hp}{s:aw}{E:ap->aw->Prop}
theorem Inv.wish(I:Inv X pq U H s)(E:ap->aw->Prop):Inv (X.wish E) pq U H s:=#[I.ok.wish E,I.os,I.bare,I.base,I.loc,I.cell,I.free,I.freeC,I.pin,I.hok,I.len]
theorem Inv.unwish(I:Inv (X.wish E) pq U H s):Inv X pq U H s:=#[I.ok.unwish,I.os,I.bare,I.base,I.loc,I.cell,I.free,I.freeC,I.pin,I.hok,I.len]
theorem SP.unwish{D:Ends}{f:Flow}{s':aw}(h:SP (X.wish E) pq D f s'):SP X pq D f s':=by
 cases f with|next=>obtain⟨σ',H',I,q⟩:=h;exact#[σ',H',I.unwish,q]|brk=>obtain⟨σ',H',I,q⟩:=h;exact#[σ',H',I.unwish,q]|cont=>obtain⟨σ',H',I,q⟩:=h;exact#[σ',H',I.unwish,q]|ret u=>obtain⟨v,σ',H',I,r,q⟩:=h;exact#[v,σ',H',I.unwish,r,q]
theorem PSs.nox{st:List fw}{t:TS}(h:PSs X.nox st t):PSs X st t:=λpq s U H D I hw=>
 dg (h pq s U H D (I.wish _) hw) (λ_ _ q=>q.unwish) λ_ _ z=>False.elim z
end
section
variable{X:Cx}{st:fw}{rest:List fw}{t u:TS}{e:Expr}{te:TE}{pos:iu}
def ZcL:TS:=λD U H=>D.nx U H
def ZdU(t u:TS):TS:=λD U H=>t {D with nx:=u D} U H
def j6:PSs X [] ZcL:=λ_ _ U H _ I h=>wpAny_execs_nil #[U,H,I,h]
def JJ(h1:PS X st t)(h2:PSs X rest u):PSs X (st::rest) (ZdU t u):=by
 intro pq s U H D I h;refine wpAny_execs_cons<|thn (h1 pq s U H {D with nx:=u D} I h) λf s1 q=>?_
 cases f with
 |next=>
  obtain⟨σ',H',I',q⟩:=q;exact h2 pq s1 σ' H' D I' q
 |ret v=>exact q
 |brk=>exact q
 |cont=>exact q
def Inv.quiet(I:Inv X pq U H s):interactive X.env=aj:=by simp[interactive,I.ok.kind]
def Zdi(te:TE):TS:=λD U H=>te U H λ_ H1=>D.nx U H1
def qi(he:PE X e te)(hs:iW e ae pos.line X.env=c0 aj:=by rfl):PS X (.Expr e pos) (Zdi te):=by
 intro pq s U H D I h;exact wpAny_Expr_any (thn (he pq s U H _ I h)<|by rintro v s1 ⟨x,H1,I1,r1,q1⟩;exact #[U,H1,I1,q1]) I.quiet hs
def Zd9(te:TE):TS:=λD U H=>te U H D.rt
def wM(he:PE X e te):PS X (.Return (aa e) pos) (Zd9 te):=by
 intro pq s U H D I h;exact wpAny_Return_some<|thn (he pq s U H _ I h)<|by rintro v s1 ⟨x,H1,I1,r1,q1⟩;exact #[x,U,H1,I1,r1,q1]
def Zec(c:TT)(t u:TS):TS:=λD U H=>c U H λb H1=>if b=am then t D U H1 else u D U H1
def Zdc{c:Expr}{a b:List fw}{tc:TT}(hc:PT X c tc)(ha:PSs X a t)(hb:PSs X b u):PS X (.If c a b pos) (Zec tc t u):=by
 intro pq s U H D I h;refine wpAny_If<|thn (hc pq s U H _ I h) λd s1 #[H1,I1,q1]=>?_
 cases d with|true=>exact ha pq s1 U H1 D I1 q1|false=>exact hb pq s1 U H1 D I1 q1
end
abbrev TG:=V->St->Hp->(St->Hp->Prop)->Prop
abbrev TGs:=List V->St->Hp->(St->Hp->Prop)->Prop
def PG(X:Cx)(target:Expr)(t:TG):Prop:=
 ∀(pq:List (aL×fb))(s:aw)(U:St)(H:Hp)(v:V)(u:ap)(Q:St->Hp->Prop),Inv X pq U H s->Zv v u->t v U H Q->
  aW (aV X.prog X.w) X.A (assign target X.env u) (λ_ s'=>∃σ' H',Inv X pq σ' H' s'/\Q σ' H') X.xe s
def PGs(X:Cx)(ts:List Expr)(t:TGs):Prop:=
 ∀(pq:List (aL×fb))(s:aw)(U:St)(H:Hp)(vs:List V)(us:List ap)(Q:St->Hp->Prop),Inv X pq U H s->Vals vs us->t vs U H Q->
  aW (aV X.prog X.w) X.A (assignInOrder ((b8 ts X.env).map (·.2)) us) (λ_ s'=>∃σ' H',Inv X pq σ' H' s'/\Q σ' H') X.xe s
abbrev TSet:=V->V->V->Hp->(Hp->Prop)->Prop
def PSet(X:Cx)(t:TSet):Prop:=
 ∀(pq:List (aL×fb))(s:aw)(U:St)(H:Hp)(o i v:V)(ov iv u:ap)(Q:Hp->Prop),Inv X pq U H s->Zv o ov->Zv i iv->Zv v u->t o i v H Q->
  aW (aV X.prog X.w) X.A (n5 ov iv u) (λ_ s'=>∃H',Inv X pq U H' s'/\Q H') X.xe s
section
variable{X:Cx}{pos:iu}
def ZcQ(i:Nat):TG:=λv U H Q=>Q (U.set i<|aa v) H
def QO(hN:X.N.Nodup)(hi:X.N[i]?=aa x)(hx:Loc X.env.scope x)(hf:X.fn x=am\/X.env.scope.names.lookup x=aa .local:=by first|exact .inl rfl|exact .inr rfl|assumption):PG X (.Name x pos) (ZcQ i):=by
 intro pq s U H v u Q I r h;exact lN<|uf I hN hi hx r (λs' I'=>#[_,H,I',h]) hf
def ZdE:TGs:=λvs U H Q=>vs=[]/\Q U H
def Zcx(t:TG)(u:TGs):TGs:=λvs U H Q=>∃v r,vs=v::r/\t v U H λσ' H'=>u r σ' H' Q
def qB:PGs X [] ZdE:=by
 intro pq s U H vs us Q I r h;obtain⟨e,h⟩:=h;subst e;cases r;exact assignInOrder_nil #[U,H,I,h]
def vQ{e:Expr}{es:List Expr}{t:TG}{u:TGs}(h1:PG X e t)(h2:PGs X es u)
  (hs:(b8 (e::es) X.env).map (·.2)=assign e X.env::(b8 es X.env).map (·.2):=by rfl):PGs X (e::es) (Zcx t u):=by
 intro pq s U H vs us Q I r h;obtain⟨v,vr,e1,h⟩:=h;subst e1;cases r with
 |cons r rr=>
  rw[hs];refine assignInOrder_cons<|thn (h1 pq s U H _ _ _ I r h) λ_ s1 #[σ1,H1,I1,q1]=>?_
  exact h2 pq s1 σ1 H1 _ _ Q I1 rr q1
def ZdR(K:ao)(n:Nat)(t:TGs):TG:=λv U H Q=>∃a xs,v=.ref a/\SqT K H a xs/\xs.length=n/\t xs U H Q
def Za7(hc:X.calm=am)(h:PGs X es t)
  (hn:(b8 es X.env).length=n:=by rfl)(hst:(b8 es X.env).findIdx? (·.1)=ae:=by rfl):PG X (.Tuple es k pos) (ZdR X.K n t):=by
 intro pq s U H v u Q I r hw;obtain⟨a,xs,e1,hq,hl,hw⟩:=hw;subst e1;cases r;obtain⟨its,rv,ht,hz⟩:=I.tuple hq;refine assign_Tuple_tuple (I.ok.hd hc) ht (by simp[hn,<-hl,rv.length]) hst λh' hx=>?_
 have I1:=I.kept (t':=s.toks) λb o e=>hx b o (bi<|aC e) e
 exact h pq _ U H xs _ Q I1 (by simpa using rv) hw
def ZdF(to ti:TE)(t:TSet):TG:=λv U H Q=>to U H λo H1=>ti U H1 λi H2=>t o i v H2 λH3=>Q U H3
def Zcg{o i:Expr}{to ti:TE}{t:TSet}(ho:PE X o to)(hi:PE X i ti)(hs:PSet X t)
  (ha:∀v,assign (.Subscript o i pos) X.env v=(do
   let ov <-iB [v] (cR o X.env)
   let iv <-iB [v,ov] (cR i X.env)
   np pos
   iB [v,ov,iv] (n5 ov iv v)
   release [v,ov,iv] []):=by intro _;rfl):PG X (.Subscript o i pos) (ZdF to ti t):=by
 intro pq s U H v u Q I r h;rw[ha];refine ab<|bJ<|thn (ho pq s U H _ I h) λov s1 #[x,H1,I1,r1,q1]=>?_
 refine ab<|bJ<|thn (hi pq s1 U H1 _ I1 q1) λiv s2 #[y,H2,I2,r2,q2]=>?_
 refine ab<|gq<|ab<|bJ<|thn (hs pq s2 U H2 x y v ov iv u _ I2 r1 r2 r q2) λ_ s3 #[H3,I3,q3]=>?_
 exact wpAny_release #[U,H3,I3,q3]
def ZdY(te:TE)(g:TG):TS:=λD U H=>te U H λx H1=>g x U H1 D.nx
def Wp{tg e:Expr}{te:TE}{g:TG}(he:PE X e te)(hg:PG X tg g)(hs:ed [tg] e pos.line X.env=c0 aj:=by rfl)(hw:ee [tg] e X.env=c0 ae:=by rfl)
  (h1:(b8 [tg] X.env).map (·.2)=[assign tg X.env]:=by rfl):PS X (.Assign [tg] e pos) (ZdY te g):=by
 intro pq s U H D I h;refine wpAny_Assign_stores (thn (he pq s U H _ I h) λv s1 #[x,H1,I1,r1,q1]=>?_) hs hw
 rw[h1];exact thn (hg pq s1 U H1 x v _ I1 r1 q1) λ_ s2 q=>q
end
structure It where
 go:Nat->Hp->Prop
 yld:Nat->Hp->V->Hp->Prop
 stop:Nat->Hp->Prop
def WD(X:Cx)(pq:List (aL×fb))(H:Hp)(b:aL):Prop:=
 H b=ae/\b≠X.env.locals/\b∉X.fs/\(b∈X.ex\/X.s₀.heap.objs.size<=b)/\(∀x c,X.env.cells.lookup x=aa c->c≠b)/\∀p∈X.pn++pq,p.1≠b
def Inv.fpOk(I:Inv X pq U H s)(hb:s.heap.objs.size<=b)(hn:H' b=ae):WD X pq H' b:=by
 refine#[hn,fc<|bj I.lt hb,I.nofs hb,.inr<|bU I.sz hb,λx c e z=>?_,λp hp z=>?_]
 .obtain⟨v,q⟩:=I.cell x c e
  exact T7 (bj q.lt<|by rw[z];exact hb)<|bm _
 .exact T7 (bj (aC (I.pin p hp).1)<|by rw[z];exact hb)<|bm _
structure Turn(P:bE)(w:bR)(K:ao)(tg:Expr)(J:It)(fp:List aL)(it:aL)(tn:Nat->b0->Prop):Prop where
 mem:it∈fp
 obj:∀i h,tn i h->∀b∈fp,∃o,h.get? b=aa o/\∀v,o.data≠.cell v
 keep:∀i h h',tn i h->(∀b∈fp,∀o,h.get? b=aa o->h'.get? b=aa o)->tn i h'
 item:∀(X:Cx),X.prog=P->X.w=w->X.K=K->X.calm=am->∀(i:Nat)(pq:List (aL×fb))(s:aw)(U:St)(H:Hp)(E:ap->aw->Prop),Inv X pq U H s->(∀b∈fp,WD X pq H b)->tn i s.heap->J.go i H->
  aW (aV P w) X.A (iL<|.ref it) (λr s1=>∃u,r=aa u/\
   aW (aV P w) X.A (kx tg (.ref it) u) (λ_ s2=>∃x H',Inv X pq U H' s2/\Zv x u/\J.yld i H x H'/\tn (i+1) s2.heap/\∀b∈fp,H' b=ae) E s1) E s
 done:∀(X:Cx),X.prog=P->X.w=w->X.K=K->X.calm=am->∀(i:Nat)(pq:List (aL×fb))(s:aw)(U:St)(H:Hp)(E:ap->aw->Prop),Inv X pq U H s->(∀b∈fp,WD X pq H b)->tn i s.heap->J.stop i H->
  aW (aV P w) X.A (iL<|.ref it) (λr s1=>r=ae/\Inv X pq U H s1) E s
 self:∀(A:cQ)(i:Nat)(s:aw)(Q:ap->aw->Prop)(E:ap->aw->Prop),tn i s.heap->Q (.ref it) s->aW (aV P w) A (lB<|.ref it) Q E s
abbrev TI:=St->Hp->(It->Hp->Prop)->Prop
def PIE(X:Cx)(pq:List (aL×fb))(U:St)(tg:Expr)(R:It->Hp->Prop)(itv:ap)(s2:aw):Prop:=
 ∃(it:aL)(fp:List aL)(tn:Nat->b0->Prop)(J:It)(H':Hp),itv=.ref it/\Inv X pq U H' s2/\Turn X.prog X.w X.K tg J fp it tn/\tn 0 s2.heap/\(∀b∈fp,WD X pq H' b)/\R J H'
def PI(X:Cx)(tg iter:Expr)(wi:TI):Prop:=
 ∀(pq:List (aL×fb))(s:aw)(U:St)(H:Hp)(R:It->Hp->Prop),Inv X pq U H s->wi U H R->
  aW (aV X.prog X.w) X.A (cR iter X.env) (λv s1=>aW (aV X.prog X.w) X.A (lB v) (PIE X pq U tg R) X.xe s1) X.xe s
def xY{E:ap->aw->Prop}{Q:Unit->aw->Prop}(ho:s.heap.get? it=aa o)(hc:o.cls=.type n)(hd:o.data=.fields vs)
  (hn:["enumerate","zip","dict_itemiterator","dict_reverseitemiterator","odict_iterator","itertools.zip_longest","itertools.pairwise"].contains n=aj)(hQ:Q () s):aW M A (kx tg (.ref it) u) Q E s:=by
 cases tg<;>first
  |exact aq hQ
  |(cases u<;>first
    |exact aq hQ
    |(refine ab (nv ho ?_)
      rw[hc,hd];show aW M A (if(["enumerate","zip","dict_itemiterator","dict_reverseitemiterator","odict_iterator","itertools.zip_longest","itertools.pairwise"].contains n&&vs[0]? == aa (eT _))=am then _ else _) Q E s
      rw[T8 (by intro h;rw[hn,kJ]at h;cases h)]
      exact aq hQ))
noncomputable def Itl(K:ao)(a:aL):It:=
 #[λi H=>∃xs x,SqL K H a xs/\xs[i]?=aa x,λi H x H'=>H'=H/\∀xs,SqL K H a xs->xs[i]?=aa x,λi H=>∃xs,SqL K H a xs/\xs.length<=i]
noncomputable def Itt(K:ao)(a:aL):It:=
 #[λi H=>∃xs x,SqT K H a xs/\xs[i]?=aa x,λi H x H'=>H'=H/\∀xs,SqT K H a xs->xs[i]?=aa x,λi H=>∃xs,SqT K H a xs/\xs.length<=i]
noncomputable def Itr(lo:Int)(n:Nat):It:=#[λi _=>i<n,λi H x H'=>H'=H/\x=.int (lo+i),λi _=>n<=i]
def xF{P:bE}{w:bR}{K:ao}{tg:Expr}(a it:aL):Turn P w K tg (Itl K a) [it] it (λi h=>h.IsListIter it a i) where
 mem:=by simp
 obj:=λi h st b hb=>by
  have e:b=it:=by simpa using hb
  subst e;obtain⟨o,e,c,d⟩:=st;exact#[o,e,λv z=>by rw[d]at z;cases z]
 keep:=λi h h' st k=>st.at λo e=>k it (by simp) o e
 item:=by
  intro X hP hw hK hc i pq s U H E I hf st hg;subst hP hw hK;obtain⟨xs,x,hq,hx⟩:=hg;obtain⟨its,rv,p,hz⟩:=I.list hq;obtain⟨u,hu,ru⟩:=rv.get hx;obtain⟨f0,f1,f2,f3,f4,f5⟩:=hf it (by simp)
  refine kh st p.isList (by simpa using hu) λh' st' sb=>?_
  have I1:=I.turned (t':=s.toks) (λb o hb e=>(sb.2 b hb).trans e) f0 f1 f3 f4 f5
  obtain⟨o,e,c,d⟩:=id st';exact#[u,rfl,xY e c d (by decide) #[x,H,I1,ru,#[rfl,λys hy=>by rw[I.list_inj hy hq];exact hx],st',λb hb=>(hf b hb).1]]
 done:=by
  intro X hP hw hK hc i pq s U H E I hf st hg;subst hP hw hK;obtain⟨xs,hq,hx⟩:=hg;obtain⟨its,rv,p,hz⟩:=I.list hq;obtain⟨f0,f1,f2,f3,f4,f5⟩:=hf it (by simp)
  have hl:=rv.length;exact kD (I.ok.hd hc) st p.isList (by simp;lia) λh' eb=>#[rfl,I.turned (t':=s.toks) (λb o hb e=>eb b o hb e) f0 f1 f3 f4 f5]
 self:=λ_ _ _ _ _ st h=>wpAny_pyIter_listiter st h
def Gu{P:bE}{w:bR}{K:ao}{tg:Expr}(a it:aL):Turn P w K tg (Itt K a) [it] it (λi h=>h.IsTupleIter it a i) where
 mem:=by simp
 obj:=λi h st b hb=>by
  have e:b=it:=by simpa using hb
  subst e;obtain⟨o,e,c,d⟩:=st;exact#[o,e,λv z=>by rw[d]at z;cases z]
 keep:=λi h h' st k=>st.at λo e=>k it (by simp) o e
 item:=by
  intro X hP hw hK hc i pq s U H E I hf st hg;subst hP hw hK;obtain⟨xs,x,hq,hx⟩:=hg;obtain⟨its,rv,p,hz⟩:=I.tuple hq;obtain⟨u,hu,ru⟩:=rv.get hx;obtain⟨f0,f1,f2,f3,f4,f5⟩:=hf it (by simp)
  refine wpAny_pyNext_tuple_item st (p) (by simpa using hu) λh' st' sb=>?_
  have I1:=I.turned (t':=s.toks) (λb o hb e=>(sb.2 b hb).trans e) f0 f1 f3 f4 f5
  obtain⟨o,e,c,d⟩:=id st';exact#[u,rfl,xY e c d (by decide) #[x,H,I1,ru,#[rfl,λys hy=>by rw[I.tuple_inj hy hq];exact hx],st',λb hb=>(hf b hb).1]]
 done:=by
  intro X hP hw hK hc i pq s U H E I hf st hg;subst hP hw hK;obtain⟨xs,hq,hx⟩:=hg;obtain⟨its,rv,p,hz⟩:=I.tuple hq;obtain⟨f0,f1,f2,f3,f4,f5⟩:=hf it (by simp)
  have hl:=rv.length;exact wpAny_pyNext_tuple_end (I.ok.hd hc) st (p) (by simp;lia) λh' eb=>#[rfl,I.turned (t':=s.toks) (λb o hb e=>eb b o hb e) f0 f1 f3 f4 f5]
 self:=λ_ _ _ _ _ st h=>wpAny_pyIter_tupleiter st h
def Gz{P:bE}{w:bR}{K:ao}{tg:Expr}(it:aL)(lo:Int)(n:Nat):Turn P w K tg (Itr lo n) [it] it (λi h=>IsRangeIter h it (lo+(i:Nat)*1) ((n:Int)-(i:Nat)) 1) where
 mem:=by simp
 obj:=λi h st b hb=>by
  have e:b=it:=by simpa using hb
  subst e;exact#[_,st,λv z=>by
   have z':=z;cases z']
 keep:=λi h h' st k=>k it (by simp) _ st
 item:=by
  intro X hP hw hK hc i pq s U H E I hf st hg;subst hP hw hK;obtain⟨f0,f1,f2,f3,f4,f5⟩:=hf it (by simp)
  have W:=Walks.range (prog:=X.prog) (w:=X.w) (I.ok.hd hc) it lo 1 n;refine W.item i s _ _ hg st λv h' tk hv st' kk=>?_
  obtain⟨t,rfl⟩:=hv;have I1:Inv X pq U H {s with heap:=h',toks:=tk}:=I.turned (λb o hb e=>kk b o (by simpa using hb) e) f0 f1 f3 f4 f5
  refine#[_,rfl,xY st' rfl rfl (by decide) #[.int<|lo+i,H,I1,#[t,?_],#[rfl,rfl],st',λb hb=>(hf b hb).1]]
  rw[Int.mul_one]
 done:=by
  intro X hP hw hK hc i pq s U H E I hf st hg;subst hP hw hK;obtain⟨f0,f1,f2,f3,f4,f5⟩:=hf it (by simp)
  exact wpAny_pyNext_range_end (I.ok.hd hc) st (by have:n<=i:=hg;lia) λh' eb=>#[rfl,I.turned (t':=s.toks) (λb o hb e=>eb b o hb e) f0 f1 f3 f4 f5]
 self:=λ_ _ _ _ _ st h=>wpAny_pyIter_rangeiter st h
section
variable{X:Cx}{tg:Expr}
theorem QY{pq:List (aL×fb)}{U:St}{H:Hp}{s:aw}{R:It->Hp->Prop}{E:ap->aw->Prop}{lo hi:Int}{t u v:og}{tk:Nat}(I:Inv X pq U H s)(h1:-(2^62)<=lo)(h2:lo<2^62)(h3:-(2^62)<=hi)(h4:hi<2^62)
  (q:R (Itr lo (hi-lo).toNat) H):aW (aV X.prog X.w) X.A (lB<|.ref s.heap.objs.size) (PIE X pq U tg R) E {s with heap:=s.heap.push {cls:=.type "range",data:=.fields [.int lo t,.int hi u,.int 1 v].toArray},toks:=tk}:=by
 refine wpAny_pyIter_range (IsRange.new ..) (small_one h1 h2 h3 h4) ?_;have I1:Inv X pq U H {s with heap:=s.heap.push {cls:=.type "range",data:=.fields [.int lo t,.int hi u,.int 1 v].toArray},toks:=tk}:=I.kept λb o e=>au _ e
 refine#[(s.heap.push {cls:=.type "range",data:=.fields [.int lo t,.int hi u,.int 1 v].toArray}).objs.size,[(s.heap.push {cls:=.type "range",data:=.fields [.int lo t,.int hi u,.int 1 v].toArray}).objs.size],_,_,H,rfl,
  I1.kept (t':=tk) λb o e=>au _ e,Gz _ lo (hi-lo).toNat,?_,λb hb=>?_,q]
 .have e1:lo+((0:Nat):Int)*1=lo:=by simp
  have e2:(((hi-lo).toNat:Nat):Int)-((0:Nat):Int)=db.Range.rangeSize lo hi 1:=by rw[rangeSize_one];split<;>lia
  rw[e1,e2];exact aF _ rfl
 .have e:b=(s.heap.push {cls:=.type "range",data:=.fields [.int lo t,.int hi u,.int 1 v].toArray}).objs.size:=by simpa using hb
  subst e;exact I1.fpOk (aA _)<|I1.hok.fresh<|aA _
def ZcR(ta:TA):TI:=λU H R=>ta U H λvs H1=>∃j:Int,vs=[.int j]/\-(2^62)<=j/\j<2^62/\R (Itr 0 j.toNat) H1
def Zc6(ta:TA):TI:=λU H R=>ta U H λvs H1=>∃i j:Int,vs=[.int i,.int j]/\(-(2^62)<=i/\i<2^62/\-(2^62)<=j/\j<2^62)/\R (Itr i (j-i).toNat) H1
theorem yW{a:Expr}{ta:TA}{p pos:iu}(hg:Gl X "range")(hm:X.mg "range" = ae)(ha:PA X [a] ta)(hs:aM [a] X.env=[(aj,cR a X.env)]:=by rfl):PI X tg (.Call (.Name "range" p) [a] [] pos) (ZcR ta):=by
 intro pq s U H R I h;refine Call_<|Y2 I hg hm boot_range<|cD (thn (ha pos pq s U H _ I h) λus s1 #[vs,H1,I1,r1,q1]=>?_) hs rfl
 obtain⟨j,e,q1,q2,q⟩:=q1;subst e;cases r1 with
 |cons r rr=>
  cases rr;obtain⟨t,rfl⟩:=r;exact call_range_1<|QY I1 (by lia) (by lia) q1 q2 (by simpa using q)
def yy{a b:Expr}{ta:TA}{p pos:iu}(hg:Gl X "range")(hm:X.mg "range" = ae)(ha:PA X [a,b] ta)(hs:aM [a,b] X.env=[(aj,cR a X.env),(aj,cR b X.env)]:=by rfl)(hs2:aM [b] X.env=[(aj,cR b X.env)]:=by rfl) :
  PI X tg (.Call (.Name "range" p) [a,b] [] pos) (Zc6 ta):=by
 intro pq s U H R I h;refine Call_<|Y2 I hg hm boot_range<|cD (thn (ha pos pq s U H _ I h) λus s1 #[vs,H1,I1,r1,q1]=>?_) (by rw[hs,hs2]) (by rw[hs2];rfl)
 obtain⟨i,j,e,⟨q1,q2,q3,q4⟩,q⟩:=q1;subst e;cases r1 with
 |cons r rr=>
  cases rr with
  |cons r' rr=>
   cases rr;obtain⟨t,rfl⟩:=r;obtain⟨t',rfl⟩:=r';exact call_range_2<|QY I1 q1 q2 q3 q4 q
def Zd8(wi:TI)(g:TG)(tb:TS):TS:=λD U H=>wi U H λJ H1=>∃W:Nat->Nat->St->Hp->Prop,(∃m,W 0 m U H1)/\∀i m U H,W i m U H->
 (J.stop i H/\D.nx U H)\/(J.go i H/\∃N:St->Hp->Prop,(∀σ' H',N σ' H'->∃m',m'<m/\W (i+1) m' σ' H')/\∀x H',J.yld i H x H'->g x U H' λσ2 H2=>tb {D with nx:=N,ct:=N,bk:=D.nx} σ2 H2)
noncomputable def Vm(fp:List aL)(h:b0):List (aL×fb):=fp.filterMap λb=>(h.get? b).map λo=>(b,o)
def YW(hb:b∈fp)(e:h.get? b=aa o):(b,o)∈Vm fp h:=lC.mpr #[b,hb,by rw[e];rfl]
def yv(hp:p∈Vm fp h):p.1∈fp/\h.get? p.1=aa p.2:=by
 obtain⟨b,hb,e⟩:=lC.mp hp;cases q:h.get? b with
 |none=>rw[q]at e;cases e
 |some o=>
  rw[q]at e;have e':=ak e;subst e';exact#[hb,q]
def Inv.pinned(I:Inv X pq U H s)(hf:∀b∈fp,WD X pq H b)(ho:∀b∈fp,∃o,s.heap.get? b=aa o/\∀v,o.data≠.cell v):Inv X (pq++Vm fp s.heap) U H s:=
 I.pins_of λp hp=>(da.mp hp).elim (λz=>I.pin p<|bC _ z) λz=>by
  obtain⟨hb,e⟩:=yv z;obtain⟨f0,f1,f2,_⟩:=hf p.1 hb;obtain⟨o,e',d⟩:=ho p.1 hb;rw[e]at e';cases e';exact#[e,f0,f1,f2,d]
def Inv.unpinned(I:Inv X (pq++pl) U H s):Inv X pq U H s:=I.pins_of λp hp=>I.pin p<|bC _<|dv _ hp
def vf{iter:Expr}{body:List fw}{wi:TI}{g:TG}{tb:TS}{pos:iu}(hp:PassesOwn (aV X.prog X.w) X.A X.env X.xe)(hc:X.calm=am)(hi:PI X tg iter wi)(hg:PG X tg g)(hb:PSs X body tb)
  (hs:∀x,c6 iter X.env x=c0 x:=by intro _;rfl):PS X (.For tg iter body [] pos) (Zd8 wi g tb):=by
 intro pq s U H D I h;refine wpAny_For (thn (hi pq s U H _ I h) λv s1 h1=>thn h1 λitv s2 h2=>?_) hs
 obtain⟨it,fp,tn,J,H2,e,I2,T,st2,f2,W,⟨m0,w0⟩,turn⟩:=h2;subst e;have stat:∀{H':Hp},(∀b∈fp,H' b=ae)->∀b∈fp,WD X pq H' b:=λhn b hb=>#[hn b hb,(f2 b hb).2]
 refine codeAny_forLoop_any (λn s'=>∃i σ' H',Inv X pq σ' H' s'/\tn i s'.heap/\(∀b∈fp,H' b=ae)/\W i n σ' H') ?_ m0 #[0,U,H2,I2,st2,λb hb=>(f2 b hb).1,w0]
 rintro n s3 ⟨i,σ3,H3,I3,st3,fr3,w3⟩
 rcases turn i n σ3 H3 w3 with⟨stop,qn⟩|⟨go,N,hN,step⟩
 .refine fI hp (thn (T.done X rfl rfl rfl hc i pq s3 σ3 H3 X.xe I3 (stat fr3) st3 stop) λr s4 #[hr,I4]=>?_)
  subst hr;exact wpAny_execs_nil #[σ3,H3,I4,qn]
 .refine fI hp (thn (T.item X rfl rfl rfl hc i pq s3 σ3 H3 X.xe I3 (stat fr3) st3 go) λr s4 #[u,hr,h4]=>?_)
  subst hr;refine fI hp<|thn h4 λ_ s5 #[x,H5,I5,r5,y5,st5,fr5]=>?_
  have I5':=I5.pinned (stat fr5)<|T.obj _ _ st5;refine fI hp<|thn (hg _ s5 σ3 H5 x u _ I5' r5<|step x H5 y5) λ_ s6 #[σ6,H6,I6,q6]=>?_
  refine fI hp<|thn (hb _ s6 σ6 H6 _ I6 q6) λf s7 q7=>?_
  have nV:∀{σ7:St}{H7:Hp},Inv X (pq++Vm fp s5.heap) σ7 H7 s7->N σ7 H7->∃m,m<n/\∃i σ' H',Inv X pq σ' H' s7/\tn i s7.heap/\(∀b∈fp,H' b=ae)/\W i m σ' H':=λ{σ7 H7} I7 n7=>by
   obtain⟨m',hm,w7⟩:=hN σ7 H7 n7;refine#[m',hm,i+1,σ7,H7,I7.unpinned,T.keep _ _ _ st5 λb hb o e=>(I7.pin (b,o)<|bC _<|bC _<|YW hb e).1,λb hb=>?_,w7]
   obtain⟨o,e,d⟩:=T.obj _ _ st5 b hb;exact(I7.pin (b,o)<|bC _<|bC _<|YW hb e).2.1
  cases f with|next=>obtain⟨σ7,H7,I7,n7⟩:=q7;exact nV I7 n7|cont=>obtain⟨σ7,H7,I7,n7⟩:=q7;exact nV I7 n7|brk=>obtain⟨σ7,H7,I7,q7⟩:=q7;exact#[σ7,H7,I7.unpinned,q7]|ret v=>obtain⟨x7,σ7,H7,I7,r7,q7⟩:=q7;exact#[x7,σ7,H7,I7.unpinned,r7,q7]
end
abbrev R2:=V->V->Hp->VK->Prop
def OpR(X:Cx)(f:ap->ap->mv ap)(r:R2):Prop:=
 ∀(pq:List (aL×fb))(s:aw)(U:St)(H:Hp)(x y:V)(v u:ap)(Q:VK),Inv X pq U H s->Zv x v->Zv y u->r x y H Q->
  aW (aV X.prog X.w) X.A (f v u) (EP X pq U Q) X.xe s
def UnR(X:Cx)(f:ap->mv ap)(r:V->Hp->VK->Prop):Prop:=
 ∀(pq:List (aL×fb))(s:aw)(U:St)(H:Hp)(x:V)(v:ap)(Q:VK),Inv X pq U H s->Zv x v->r x H Q->
  aW (aV X.prog X.w) X.A (f v) (EP X pq U Q) X.xe s
def ZD(X:Cx)(f:ap)(r:List V->Hp->VK->Prop):Prop:=
 ∀(pq:List (aL×fb))(s:aw)(U:St)(H:Hp)(xs:List V)(us:List ap)(Q:VK),Inv X pq U H s->Vals xs us->r xs H Q->
  aW (aV X.prog X.w) X.A (call f us) (EP X pq U Q) X.xe s
def Zd5(X:Cx)(r:V->Hp->(Bool->Hp->Prop)->Prop):Prop:=
 ∀(pq:List (aL×fb))(s:aw)(U:St)(H:Hp)(x:V)(v:ap)(Q:Bool->Hp->Prop),Inv X pq U H s->Zv x v->r x H Q->
  aW (aV X.prog X.w) X.A (truthy v) (TP X pq U Q) X.xe s
def tOp(r:R2)(ta tb:TE):TE:=λU H Q=>ta U H λx H1=>tb U H1 λy H2=>r x y H2 Q
def tUn(r:V->Hp->VK->Prop)(ta:TE):TE:=λU H Q=>ta U H λx H1=>r x H1 Q
def rI(C:Int->Int->Prop)(g:Int->Int->V):R2:=λx y H Q=>∃i j,x=.int i/\y=.int j/\C i j/\Q (g i j) H
def rI0(g:Int->Int->V):R2:=λx y H Q=>∃i j,x=.int i/\y=.int j/\Q (g i j) H
def rU(g:Int->V):V->Hp->VK->Prop:=λx H Q=>∃i,x=.int i/\Q (g i) H
def Gw(ha:PE X a ta)(hb:PE X b tb){pq:List (aL×fb)}{s:aw}{U:St}{H:Hp}{R:V->V->Hp->Prop}(I:Inv X pq U H s)
  (h:ta U H λx H1=>tb U H1 λy H2=>R x y H2){Q:ap->aw->Prop}{f:ap->ap->mv ap}
  (hf:∀v u s2 x y H2,Inv X pq U H2 s2->Zv x v->Zv y u->R x y H2->aW (aV X.prog X.w) X.A (f v u) Q X.xe s2) :
  aW (aV X.prog X.w) X.A (cR a X.env) (λv s₁=>aW (aV X.prog X.w) X.A (cR b X.env) (λu s₂=>aW (aV X.prog X.w) X.A (f v u) Q X.xe s₂) X.xe s₁) X.xe s:=by
 refine thn (ha pq s U H _ I h) λv s1 #[x,H1,I1,r1,q1]=>?_
 refine thn (hb pq s1 U H1 _ I1 q1) λu s2 #[y,H2,I2,r2,q2]=>?_
 exact hf v u s2 x y H2 I2 r1 r2 q2
def Uv(ho:OpR X (dW op) r)(ha:PE X a ta)(hb:PE X b tb):PE X (.BinOp a op b pos) (tOp r ta tb):=by
 intro pq s U H Q I h;exact wpAny_BinOp<|Gw ha hb I h λv u s2 x y H2 I2 rx ry q=>ho pq s2 U H2 x y v u Q I2 rx ry q
def ZcB{op:UnaryOp}{r:V->Hp->VK->Prop}(ho:UnR X (unaryOp op) r)(ha:PE X a ta):PE X (.UnaryOp op a pos) (tUn r ta):=by
 intro pq s U H Q I h;exact UnaryOp_<|thn (ha pq s U H _ I h)<|by rintro v s1 ⟨x,H1,I1,r1,q1⟩;exact ho pq s1 U H1 x v Q I1 r1 q1
def opI{f:ap->ap->mv ap}{C:Int->Int->Prop}{g:Int->Int->Int}
  (mw:∀(i j:Int)(t u:og)(s:aw)(Q:ap->aw->Prop)(E:ap->aw->Prop),C i j->Q (.int (g i j) s.toks) {s with toks:=s.toks+1}->aW (aV X.prog X.w) X.A (f (.int i t)<|.int j u) Q E s) :
  OpR X f (rI C λi j=>.int<|g i j):=by
 intro pq s U H x y v u Q I rx ry h;obtain⟨i,j,rfl,rfl,hc,q⟩:=h;obtain⟨t,rfl⟩:=rx;obtain⟨t',rfl⟩:=ry;exact mw i j t t' s _ _ hc #[.int<|g i j,H,I.tok _,#[_,rfl],q]
def Zc0{f:ap->ap->mv ap}{g:Int->Int->Int}
  (mw:∀(i j:Int)(t u:og)(s:aw)(Q:ap->aw->Prop)(E:ap->aw->Prop),Q (.int (g i j) s.toks) {s with toks:=s.toks+1}->aW (aV X.prog X.w) X.A (f (.int i t)<|.int j u) Q E s) :
  OpR X f (rI0 λi j=>.int<|g i j):=by
 intro pq s U H x y v u Q I rx ry h;obtain⟨i,j,rfl,rfl,q⟩:=h;obtain⟨t,rfl⟩:=rx;obtain⟨t',rfl⟩:=ry;exact mw i j t t' s _ _ #[.int<|g i j,H,I.tok _,#[_,rfl],q]
def jA{f:ap->ap->mv ap}{g:Int->Int->Bool}
  (mw:∀(i j:Int)(t u:og)(s:aw)(Q:ap->aw->Prop)(E:ap->aw->Prop),Q (.bool<|g i j) s->aW (aV X.prog X.w) X.A (f (.int i t)<|.int j u) Q E s) :
  OpR X f (rI0 λi j=>.bl<|g i j):=by
 intro pq s U H x y v u Q I rx ry h;obtain⟨i,j,rfl,rfl,q⟩:=h;obtain⟨t,rfl⟩:=rx;obtain⟨t',rfl⟩:=ry;exact mw i j t t' s _ _ #[.bl<|g i j,H,I,rfl,q]
def CPow(i j:Int):Prop:=0<=j/\j<=1000000/\i.natAbs<2^64
def Zb1:OpR X (dW .Add) (rI0 λi j=>.int<|i+j):=Zc0 λ_ _ _ _ _ _ _ q=>add_int q
def ZbM:OpR X (dW .Sub) (rI0 λi j=>.int<|i-j):=Zc0 λ_ _ _ _ _ _ _ q=>sub_int q
def Zb9:OpR X (dW .Mod) (rI (λ_ j=>0<j) λi j=>.int<|i%j):=opI λi j _ _ _ _ _ hc q=>by
 have h1:=hc;exact mod_int' (by lia) (by rw[Int.fmod_eq_emod_of_nonneg i (by lia)];exact q)
def ZbT:OpR X (dW .Pow) (rI CPow λi j=>.int<|i^j.toNat):=opI λ_ _ _ _ _ _ _ hc q=>pow_int_small hc.1 hc.2.1 hc.2.2 q
def unI{f:ap->mv ap}{g:Int->Int}
  (mw:∀(i:Int)(t:og)(s:aw)(Q:ap->aw->Prop)(E:ap->aw->Prop),Q (.int (g i) s.toks) {s with toks:=s.toks+1}->aW (aV X.prog X.w) X.A (f<|.int i t) Q E s) :
  UnR X f (rU λi=>.int<|g i):=by
 intro pq s U H x v Q I rx h;obtain⟨i,rfl,q⟩:=h;obtain⟨t,rfl⟩:=rx;exact mw i t s _ _ #[.int<|g i,H,I.tok _,#[_,rfl],q]
def ZbC:UnR X (unaryOp .USub) (rU λi=>.int<|-i):=unI λ_ _ _ _ _ q=>neg_int q
noncomputable def scal:V->V->Bool
 |.non,.non=>am|.non,.int _=>am|.int _,.non=>am|.non,.bl _=>am|.bl _,.non=>am|.non,.str _=>am|.str _,.non=>am
 |.int _,.int _=>am|.bl _,.bl _=>am|.str _,.str _=>am|.byt _,.byt _=>am
 |.int _,.str _=>am|.str _,.int _=>am|.bl _,.str _=>am|.str _,.bl _=>am
 |_,_=>aj
def rEq:R2:=λx y H Q=>scal x y=am/\Q (.bl<|ag<|x=y) H
def rNe:R2:=λx y H Q=>scal x y=am/\Q (.bl<|!decide (x=y)) H
def zd :ag (V.int i=V.int j)=(i == j):=by
 rw[bT];simp
def wB :ag (V.bl i=V.bl j)=(i == j):=by
 rw[bT];simp
def z6 :ag (V.str i=V.str j)=(i == j):=by
 rw[bT];simp
def ym :ag (V.byt i=V.byt j)=(i.toList == j.toList):=by
 rw[bT];cases i;cases j;simp
section
variable{X:Cx}{a b c:Expr}{ta tb tc:TE}{pos:iu}
def Zp(I:Inv X pq U H s)(q:Q (.bl k) H)(e:k=k'):EP X pq U Q (.bool k') s:=by
 subst e;exact#[.bl k,H,I,rfl,q]
def Zc4:OpR X (bY .Eq) rEq:=by
 intro pq s U H x y v u Q I rx ry h;obtain⟨hs,q⟩:=h;cases x with
 |non=>
  cases rx;cases y with|non=>cases ry;exact PySem.EqNone.eq_none_none<|Zp I q (by simp)|bl j=>cases ry;exact PySem.EqNone.eq_none_bool<|Zp I q (by simp)|int j=>obtain⟨t',rfl⟩:=ry;exact PySem.EqNone.eq_none_int<|Zp I q (by simp)|str j=>obtain⟨t',rfl⟩:=ry;exact PySem.EqNone.eq_none_str<|Zp I q (by simp)|_=>exact T7 (hs) aN
 |bl i=>
  cases rx;cases y with|non=>cases ry;exact PySem.EqNone.eq_bool_none<|Zp I q (by simp)|bl j=>cases ry;exact eq_bool<|Zp I q wB|str j=>obtain⟨t',rfl⟩:=ry;exact PySem.EqMixed.eq_bool_str<|Zp I q (by simp)|_=>exact T7 (hs) aN
 |int i=>
  obtain⟨t,rfl⟩:=rx;cases y with|non=>cases ry;exact PySem.EqNone.eq_int_none<|Zp I q (by simp)|int j=>obtain⟨t',rfl⟩:=ry;exact eq_int<|Zp I q zd|str j=>obtain⟨t',rfl⟩:=ry;exact PySem.EqMixed.eq_int_str<|Zp I q (by simp)|_=>exact T7 (hs) aN
 |str i=>
  obtain⟨t,rfl⟩:=rx;cases y with|non=>cases ry;exact PySem.EqNone.eq_str_none<|Zp I q (by simp)|bl j=>cases ry;exact PySem.EqMixed.eq_str_bool<|Zp I q (by simp)|int j=>obtain⟨t',rfl⟩:=ry;exact PySem.EqMixed.eq_str_int<|Zp I q (by simp)|str j=>obtain⟨t',rfl⟩:=ry;exact eq_str<|Zp I q z6|_=>exact T7 (hs) aN
 |byt i=>
  obtain⟨t,rfl⟩:=rx;cases y with|byt j=>obtain⟨t',rfl⟩:=ry;exact PySem.W.eq_bytes<|Zp I q ym|_=>exact T7 (hs) aN
 |_=>cases y<;>exact T7 (hs) aN
def ZcI:OpR X (bY .NotEq) rNe:=by
 intro pq s U H x y v u Q I rx ry h;obtain⟨hs,q⟩:=h;cases x with
 |non=>
  cases rx;cases y with|non=>cases ry;exact PySem.EqNone.ne_none_none<|Zp I q (by simp)|bl j=>cases ry;exact PySem.EqNone.ne_none_bool<|Zp I q (by simp)|int j=>obtain⟨t',rfl⟩:=ry;exact PySem.EqNone.ne_none_int<|Zp I q (by simp)|str j=>obtain⟨t',rfl⟩:=ry;exact PySem.EqNone.ne_none_str<|Zp I q (by simp)|_=>exact T7 (hs) aN
 |bl i=>
  cases rx;cases y with|non=>cases ry;exact PySem.EqNone.ne_bool_none<|Zp I q (by simp)|bl j=>cases ry;exact ne_bool<|Zp I q<|congrArg not wB|str j=>obtain⟨t',rfl⟩:=ry;exact PySem.EqMixed.ne_bool_str<|Zp I q (by simp)|_=>exact T7 (hs) aN
 |int i=>
  obtain⟨t,rfl⟩:=rx;cases y with|non=>cases ry;exact PySem.EqNone.ne_int_none<|Zp I q (by simp)|int j=>obtain⟨t',rfl⟩:=ry;exact ne_int<|Zp I q<|congrArg not zd|str j=>obtain⟨t',rfl⟩:=ry;exact PySem.EqMixed.ne_int_str<|Zp I q (by simp)|_=>exact T7 (hs) aN
 |str i=>
  obtain⟨t,rfl⟩:=rx;cases y with|non=>cases ry;exact PySem.EqNone.ne_str_none<|Zp I q (by simp)|bl j=>cases ry;exact PySem.EqMixed.ne_str_bool<|Zp I q (by simp)|int j=>obtain⟨t',rfl⟩:=ry;exact PySem.EqMixed.ne_str_int<|Zp I q (by simp)|str j=>obtain⟨t',rfl⟩:=ry;exact ne_str<|Zp I q<|congrArg not z6|_=>exact T7 (hs) aN
 |byt i=>
  obtain⟨t,rfl⟩:=rx;cases y with|byt j=>obtain⟨t',rfl⟩:=ry;exact PySem.W.ne_bytes<|Zp I q<|congrArg not ym|_=>exact T7 (hs) aN
 |_=>cases y<;>exact T7 (hs) aN
def ZcY:OpR X (bY .Lt) (rI0 λi j=>.bl<|ag<|i<j):=jA λ_ _ _ _ _ _ _ q=>lt_int q
def ZdB:OpR X (bY .LtE) (rI0 λi j=>.bl<|ag<|i<=j):=jA λ_ _ _ _ _ _ _ q=>le_int q
def Zdm:OpR X (bY .Gt) (rI0 λi j=>.bl<|ag<|j<i):=jA λ_ _ _ _ _ _ _ q=>gt_int q
def ZcF:OpR X (bY .GtE) (rI0 λi j=>.bl<|ag<|j<=i):=jA λ_ _ _ _ _ _ _ q=>ge_int q
def ZbE:OpR X (bY .Is) (λx y H Q=>y=.non/\Q (.bl<|ag<|x=.non) H):=by
 intro pq s U H x y v u Q I rx ry h;obtain⟨rfl,q⟩:=h;cases ry;refine is_none_gen<|Zp I q ?_;cases x<;>first
  |(cases rx;rfl)
  |(obtain⟨t,rfl⟩:=rx;rfl)
def Zaf:OpR X (bY .IsNot) (λx y H Q=>y=.non/\Q (.bl<|!decide (x=.non)) H):=by
 intro pq s U H x y v u Q I rx ry h;obtain⟨rfl,q⟩:=h;cases ry;refine isnot_none_gen<|Zp I q ?_;cases x<;>first
  |(cases rx;rfl)
  |(obtain⟨t,rfl⟩:=rx;rfl)
def OpR.or(h:OpR X f r)(h':OpR X f r'):OpR X f (λx y H Q=>r x y H Q\/r' x y H Q):=by
 intro pq s U H x y v u Q I rx ry q;rcases q with q|q
 .exact h pq s U H x y v u Q I rx ry q
 .exact h' pq s U H x y v u Q I rx ry q
def Zb0(b:Expr)(h:op≠.In:=by decide)(h2:op≠.NotIn:=by decide):fB op b=aj:=by
 have e1:(op == CmpOp.In)=aj:=by cases op<;>first|rfl|exact T7 rfl h
 have e2:(op == CmpOp.NotIn)=aj:=by cases op<;>first|rfl|exact T7 rfl h2
 cases b<;>simp[fB,e1,e2]
def Zab(ho:OpR X (bY op) r)(ha:PE X a ta)(hb:PE X b tb)(hm:fB op b=aj):PE X (.Compare a [op] [b] pos) (tOp r ta tb):=by
 intro pq s U H Q I h;exact wpAny_Compare1 (Gw ha hb I h λv u s2 x y H2 I2 rx ry q=>ho pq s2 U H2 x y v u Q I2 rx ry q) hm
def ZcK(t:TE):TT:=λU H Q=>t U H λx H'=>∃k,x=.bl k/\Q k H'
def qQ(ho:OpR X (bY op) r)(ha:PE X a ta)(hb:PE X b tb)(hm:fB op b=aj):PT X (.Compare a [op] [b] pos) (ZcK<|tOp r ta tb):=by
 intro pq s U H Q I h;refine wpAny_isTrue_Compare1 (thn (ha pq s U H _ I h) λv s1 #[x,H1,I1,r1,q1]=>thn (hb pq s1 U H1 _ I1 q1) λu s2 #[y,H2,I2,r2,q2]=>
  thn (ho pq s2 U H2 x y v u _ I2 r1 r2 q2) λc s3 #[z,H3,I3,r3,k,e,q3]=>?_) hm
 subst e;cases r3;exact eN #[H3,I3,q3]
def Zcd(r r':R2)(ta tb tc:TE):TE:=λU H Q=>ta U H λx H1=>tb U H1 λy H2=>r x y H2 λz H3=>∃k,z=.bl k/\
 (if k=am then tc U H3 λw' H4=>r' y w' H4 Q else Q (.bl aj) H3)
def vJ(ho:OpR X (bY op) r)(ho':OpR X (bY op') r')(ha:PE X a ta)(hb:PE X b tb)(hc:PE X c tc)
  (hm:lastMarks [op,op'] [b,c]=aj:=by with_unfolding_all rfl):PE X (.Compare a [op,op'] [b,c] pos) (Zcd r r' ta tb tc):=by
 intro pq s U H Q I h;refine Compare_chain (thn (ha pq s U H _ I h) λv s1 #[x,H1,I1,r1,q1]=>chain_link (thn (hb pq s1 U H1 _ I1 q1) λu s2 #[y,H2,I2,r2,q2]=>
  thn (ho pq s2 U H2 x y v u _ I2 r1 r2 q2) λd s3 #[z,H3,I3,r3,k,e,q3]=>?_)) hm
 subst e;cases r3;refine eN ?_;cases k with|false=>exact ite_ff #[.bl aj,H3,I3,rfl,q3]|true=>exact ite_tt<|chain_last<|thn (hc pq s3 U H3 _ I3 q3)<|by rintro w' s4 ⟨z',H4,I4,r4,q4⟩;exact ho' pq s4 U H4 y z' u w' Q I4 r2 r4 q4
def jJ(K:ao)(x:V)(H:Hp)(k:Bool):Prop:=
 match x with
 |.non=>k=aj
 |.bl b=>k=b
 |.int i=>k=(i != 0)
 |.str y=>y.length<=ba/\k=((y.length:Int) != 0)
 |.byt y=>y.size<=ba/\k=((y.size:Int) != 0)
 |.ref p=>(∃xs,SqL K H p xs/\k = !xs.isEmpty)\/(∃xs,SqT K H p xs/\k = !xs.isEmpty)\/∃kvs,H p=aa (.dK kvs)/\k = !kvs.isEmpty
 |_=>False
def GI{κ:Type}{kvs:List (κ×V)}{vs:List (κ×ap)}(r:KV kvs vs):(!vs.isEmpty) = !kvs.isEmpty:=by
 cases r<;>rfl
def VM{xs:List V}{its:List ap}(r:Vals xs its):(!its.toArray.isEmpty) = !xs.isEmpty:=by
 cases r<;>simp
def VT:(ba:Nat)<2^63:=by rw[cV];decide
theorem vj:Zd5 X (λx H Q=>∃k,jJ X.K x H k/\Q k H):=by
 intro pq s U H x v Q I rx h;obtain⟨k,e,q⟩:=h;have hl:=VT;have hs:=cV;cases x with
 |non=>
  cases rx;have e':=e;subst e';exact truthy_none #[H,I,q]
 |bl b=>
  cases rx;have e':k=b:=e;subst e';exact eN #[H,I,q]
 |int i=>
  obtain⟨t,rfl⟩:=rx;have e':=e;subst e';exact lD #[H,I,q]
 |str y=>
  obtain⟨t,rfl⟩:=rx;obtain⟨hy,e'⟩:=e;subst e';exact PySem.P.truthy_str (by lia) #[H,I.tok _,q]
 |byt y=>
  obtain⟨t,rfl⟩:=rx;obtain⟨hy,e'⟩:=e;subst e';exact PySem.W.truthy_bytes (by lia) #[H,I.tok _,q]
 |ref p=>
  cases rx;have e':=e;rcases e' with⟨xs,hx,e'⟩|⟨xs,hx,e'⟩|⟨kvs,hx,e'⟩
  .subst e'
   obtain⟨its,r,pl,hz⟩:=I.list hx;have hlen:=r.length;exact wpAny_truthy_list pl.isList (by simp only[ax];lia) #[H,I.tok _,by rw[VM r];exact q]
  .subst e'
   obtain⟨its,r,pl,hz⟩:=I.tuple hx;have hlen:=r.length;exact truthy_tuple pl (by simp only[ax];lia) #[H,I.tok _,by rw[VM r];exact q]
  .subst e'
   obtain⟨hz,hS,vs,r,m⟩:=I.hok p _ hx;have hlen:=Paired.length r;exact wpAny_truthy_dict hS m (by lia) #[H,I.tok _,by rw[GI r];exact q]
 |_=>exact(e).elim
def we(ha:PE X a ta)(he:∀whole,isTrue a X.env whole=(do let v <-whole;np a.pos;iB [v] (truthy v))) :
  PT X a (λU H Q=>ta U H λx H'=>∃k,jJ X.K x H' k/\Q k H'):=by
 intro pq s U H Q I h;exact isTrue_plain (thn (ha pq s U H _ I h)<|by rintro v s1 ⟨x,H1,I1,r1,q1⟩;exact vj pq s1 U H1 x v Q I1 r1 q1)<|he _
def Wa(r:Vals [x] us):∃u,us=[u]/\Zv x u:=by
 cases r with|cons r1 r2=>cases r2;exact#[_,rfl,r1]
def uS(r:Vals [x,y] us):∃u w',us=[u,w']/\Zv x u/\Zv y w':=by
 cases r with
 |cons r1 r2=>
  cases r2 with|cons r3 r4=>cases r4;exact#[_,_,rfl,r1,r3]
def xg(hc:X.calm=am):ZD X (.builtin "max") (λxs H Q=>∃i j,xs=[.int i,.int j]/\Q (.int (if j>i then j else i)) H):=by
 intro pq s U H xs us Q I r h;obtain⟨i,j,rfl,q⟩:=h;obtain⟨u,w',rfl,⟨t,rfl⟩,⟨t',rfl⟩⟩:=uS r;refine max_two_ints (I.ok.hd hc) λh' tk k=>#[_,H,I.kept k,?_,q]
 by_cases hj:j>i
 .rw[T9 hj,T9 hj];exact#[_,rfl]
 .rw[T8 hj,T8 hj];exact#[_,rfl]
def yD(hc:X.calm=am):ZD X (.builtin "min") (λxs H Q=>∃i j,xs=[.int i,.int j]/\Q (.int (if j<i then j else i)) H):=by
 intro pq s U H xs us Q I r h;obtain⟨i,j,rfl,q⟩:=h;obtain⟨u,w',rfl,⟨t,rfl⟩,⟨t',rfl⟩⟩:=uS r;refine min_two_ints (I.ok.hd hc) λh' tk k=>#[_,H,I.kept k,?_,q]
 by_cases hj:j<i
 .rw[T9 hj,T9 hj];exact#[_,rfl]
 .rw[T8 hj,T8 hj];exact#[_,rfl]
def xi:ZD X (.type "int") (λxs H Q=>(∃i,xs=[.int i]/\Q (.int i) H)\/∃k,xs=[.bl k]/\Q (.int (if k then 1 else 0)) H):=by
 intro pq s U H xs us Q I r h;rcases h with⟨i,rfl,q⟩|⟨k,rfl,q⟩
 .obtain⟨u,rfl,t,rfl⟩:=Wa r
  exact call_int_int #[.int i,H,I,#[_,rfl],q]
 .obtain⟨u,rfl,r1⟩:=Wa r
  cases r1;exact call_int_bool #[.int (if k then 1 else 0),H,I.tok _,#[_,rfl],q]
end
structure ObjM(h:b0)(x dx C:aL)(mA:bF->Option ap):Prop where
 obj:h.get? x=aa (kw C dx)
 ns:h.Ns1 dx mA
 ne:dx≠x
def xC{h:b0}{dx:aL}{mA:bF->Option ap}(n:h.Ns1 dx mA):∃od,h.get? dx=aa od/\∀name,kK name od=aa (mA name):=by
 obtain⟨o,es,ep,ho,hd,hk,_,hm⟩:=n;refine#[o,ho,λname=>?_]
 have e:=hm name;unfold nsFind findBy at e;rw[<-Array.find?_toList]at e;unfold kK;rw[hd]
 dsimp only
 split
 .rename_i y q
  rw[q]at e;exact congrArg aa e
 .rename_i q
  rw[q]at e;have a:es.toList.any (·.refKey)=aj:=by
   rw[List.any_eq_false];intro y hy;obtain⟨z,t,hkey⟩:=hk y<|kL.mp hy;simp[fe.refKey,hkey]
  have a':¬es.toList.any (·.refKey)=am:=by rw[a];exact aN
  rw[T8 a'];exact congrArg aa e
def ObjM.look(I:ObjM h x dx C mA):∃od,PySem.W.InstAt h x (kw C dx) C (aa od)/\∀name,kK name od=aa (mA name):=
 let #[od,ho,hl]:=xC I.ns
 #[od,#[I.obj,rfl,rfl,ho],hl]
section
variable{P:bE}{w:bR}{H H':Hp}{h h':b0}{a C dx:aL}{fs fs':List (bF×V)}
def u4(hok:HOk P w H h)(e:H a=aa (.ins C dx fs)):∃mA,ObjM h a dx C mA/\(∀f,Gk (fs.lookup f)<|mA f)/\PySem.Within mA (fs.map (·.1))/\fs.length<=1000/\H dx=aa (.own a):=by
 obtain⟨d,z,ne,ob,mA,n,r,q⟩:=(hok a _ e)
 exact#[mA,#[ob,n,ne],r,q,z,d]
end
structure Cls(K:ao)(C:aL):Prop where
 pg:my K C bF.empty=am
 hd:PySem.W.hasDictIn K C=am
 po:PySem.W.plainOver K C=am
 sa:ny K (.ref C) "__setattr__" = aa (aa<|.builtin "object.__setattr__")
def Cls.get{K:ao}{C:aL}(c:Cls K C)(f:bF):my K C f=am:=c.pg
section
variable{X:Cx}{pq:List (aL×fb)}{U:St}{H:Hp}{s:aw}{A:cQ}{E:ap->aw->Prop}{Q:ap->aw->Prop}{c:ap}{b:Bool}
inductive TyOf(K:ao)(H:Hp):V->ap->Prop where
 |non:TyOf K H .non (.type "NoneType")
 |bl (x:Bool):TyOf K H (.bl x) (.type "bool")
 |int (i:Int):TyOf K H (.int i) (.type "int")
 |str (x:bF):TyOf K H (.str x) (.type "str")
 |flt (x:UInt64):TyOf K H (.flt x) (.type "float")
 |lst {a:aL} {xs:List V} (e:H a=aa (.lst xs)):TyOf K H (.ref a) (.type "list")
 |frz {a:aL} {o:fb} {xs:List V} (e:H a=aa (.frz o<|.lst xs)):TyOf K H (.ref a) (.type "list")
 |tup {a:aL} {xs:List V} (e:H a=aa (.tup xs)):TyOf K H (.ref a) (.type "tuple")
 |dK {a:aL} {kvs:List (Key×V)} (e:H a=aa (.dK kvs)):TyOf K H (.ref a) (.type "dict")
 |dT {a:aL} {kvs:List (List Key×V)} (e:H a=aa (.dT kvs)):TyOf K H (.ref a) (.type "dict")
 |ins {a C dx:aL} {fs:List (bF×V)} (e:H a=aa (.ins C dx fs)) (cl:Cls K C) (ha:ny K (.ref C) "__class__" = aa (aa<|.builtin "object.__class__"))
   (hn:PySem.W.specialIn K (.builtin "object.__class__") "__get__" = aa (aa<|.builtin "getset_descriptor.__get__")) (htk:PySem.W.takesIn K (.builtin "object.__class__")=aa am)
   (hm:PySem.W.mroIn K C (.type "object")=aa am):TyOf K H (.ref a) (.ref C)
def y3(I:Inv X pq U H s)(rx:Zv x u)(ty:TyOf X.K H x t)(e:kM X.K t c=aa b)(h:∀tk,Q (.bool b) {s with toks:=tk}) :
  aW (aV X.prog X.w) A (call (.builtin "isinstance") [u,c]) Q E s:=by
 cases ty with
 |non=>cases(show u=bh from rx);exact cO PySem.W.kitx_none I.kIn dM e (λz=>nomatch z) h
 |bl y=>cases(rx);exact cO PySem.W.kitx_bool I.kIn dM e (λz=>nomatch z) h
 |int i=>obtain⟨t,q⟩:=(rx);cases q;exact cO PySem.W.kitx_int I.kIn dM e (λz=>nomatch z) h
 |str y=>obtain⟨t,q⟩:=(rx);cases q;exact cO PySem.W.kitx_str I.kIn dM e (λz=>nomatch z) h
 |flt y=>obtain⟨t,q⟩:=(rx);cases q;exact cO PySem.W.kitx_float I.kIn dM e (λz=>nomatch z) h
 |@lst a xs ea=>
  cases(rx)
  obtain⟨_,_,n,_,h1⟩:=(I.hok a _ ea)
  exact cO lO I.kIn #[_,h1,rfl] e (λz=>nomatch z) h
 |@frz a ob xs ea=>
  cases(rx)
  obtain⟨_,_,_,n,_,h1⟩:=(I.hok a _ ea)
  exact cO lO I.kIn #[_,h1,rfl] e (λz=>nomatch z) h
 |@tup a xs ea=>
  cases(rx)
  obtain⟨_,_,_,p⟩:=(I.hok a _ ea)
  obtain⟨o,h1,h2,_⟩:=p;exact cO PySem.W.kitx_tuple I.kIn #[o,h1,h2] e (λz=>nomatch z) h
 |@dK a kvs ea=>
  cases(show u=cx a from rx)
  obtain⟨_,_,vs,_,p⟩:=(I.hok a _ ea)
  obtain⟨o,es,ep,h1,h2,_⟩:=p;exact cO lQ I.kIn #[o,h1,h2.1] e (λz=>nomatch z) h
 |@dT a kvs ea=>
  cases(show u=cx a from rx)
  obtain⟨_,_,xs,_,o,es,ep,h1,h2,_⟩:=(I.hok a _ ea)
  exact cO lQ I.kIn #[o,h1,h2.1] e (λz=>nomatch z) h
 |@ins a C dx fs ea cl ha hn htk hm=>
  cases(show u=cx a from rx)
  obtain⟨mA,O,_⟩:=u4 I.hok ea;obtain⟨od,J,_⟩:=O.look;exact cO (PySem.W.kitx_own (cl.get _) cl.hd ha hn htk hm) I.kIn J e (λz=>nomatch z) h
end
structure Room(k:Nat)(A:cQ):Prop where
 hd:A.handled=ae
 dp:A.depth+3*k+5<recursionLimit
 un:A.units+16*k+200<dq
theorem Room.deeper(r:Room (k+1) A)(env:Env):Room k (A.deeper env):=
 #[r.hd,by have:=r.dp;show A.depth+1+3*k+5<_;lia,by have:=r.un;show A.units+3+16*k+200<_;lia]
theorem Room.depth(r:Room k A):A.depth<recursionLimit:=by have:=r.dp;lia
def Zd7:TA:=λ_ H Q=>Q [] H
def ZcD(ta:TE)(tr:TA):TA:=λU H Q=>ta U H λx H1=>tr U H1 λxs H2=>Q (x::xs) H2
section
variable{X:Cx}{e:Expr}{es:List Expr}{te:TE}{t:TA}{pos:iu}
def GN:PA X [] Zd7:=λ_ _ _ _ H Q I h=>Calls.spliced_nil #[[],H,I,.nil,h]
def W7(ha:PE X e te)(hr:PA X es t)(hs:aM (e::es) X.env=(aj,cR e X.env)::aM es X.env:=by rfl):PA X (e::es) (ZcD te t):=by
 intro pos pq s U H Q I h;rw[hs];refine Calls.spliced_cons<|thn (ha pq s U H _ I h) λu s1 #[x,H1,I1,r1,q1]=>?_
 exact thn (hr pos pq s1 U H1 _ I1 q1)<|by rintro us s2 ⟨xs,H2,I2,r2,q2⟩;exact #[x::xs,H2,I2,.cons r1 r2,q2]
def Zd6(t:TA):TE:=λU H Q=>t U H λxs H1=>xs.length<=ba/\∀p,H1 p=ae->Q (.ref p) (upd H1 p<|.tup xs)
def Zea(t:TA):TE:=λU H Q=>t U H λxs H1=>xs.length<=ba/\∀p,H1 p=ae->Q (.ref p) (upd H1 p<|.lst xs)
def ZaS{x1}(h:PA X es t):PE X (.Tuple es x1 pos) (Zd6 t):=by
 intro pq s U H Q I hq;refine wpAny_Tuple_spliced<|thn (h pos pq s U H _ I hq) λus s1 #[xs,H1,I1,r,z,q]=>#[by rw[<-r.length];exact z,?_]
 have hf:=I1.hok.fresh<|aA _;refine#[.ref s1.heap.objs.size,upd H1 s1.heap.objs.size<|.tup xs,I1.laid (t':=s1.toks) (λb u e=>au _ e) (aA _) ?_,rfl,q _ hf]
 exact#[z,us,r,#[_,aF _ rfl,rfl,_,rfl]]
def Zbr(h:PA X es t):PE X (.List es pos) (Zea t):=by
 intro pq s U H Q I hq;refine wpAny_List_spliced<|thn (h pos pq s U H _ I hq) λus s1 #[xs,H1,I1,r,z,q]=>#[by rw[<-r.length];exact z,?_]
 have hf:=I1.hok.fresh<|aA _;refine#[.ref s1.heap.objs.size,upd H1 s1.heap.objs.size<|.lst xs,I1.laid (t':=s1.toks) (λb u e=>au _ e) (aA _) ?_,rfl,q _ hf]
 exact#[z,us,0,r,aF _ rfl]
end
abbrev Sp:=List V->Hp->VK->XK->Prop
abbrev CXT:=List Env->Hp->aw->XK->ap->aw->Prop
structure Env0(P:bE)(w:bR)(K:ao)(mg:bF->Option ap)(base:b0)(A:cQ)(outer:List Env)(s:aw)(H:Hp):Prop where
 frames:A.frames=aa outer
 mod:Mod K mg base
 bs:∀b o,base.get? b=aa o->s.heap.get? b=aa o/\H b=ae
 bsz:base.objs.size<=s.heap.objs.size
 funs:s.heap.FunFrames base outer
 frf:∀b∈frs outer,H b=ae
 hok:HOk P w H s.heap
 bare:iA s.gens
def CE(outer:List Env)(P:bE)(w:bR)(H:Hp)(s:aw)(Q:VK)(u:ap)(s':aw):Prop:=
 ∃v H',s'.os=s.os/\iA s'.gens/\Un (frs outer) [] H H' s.heap s'.heap/\HOk P w H' s'.heap/\Zv v u/\Q v H'
def CR(CX:CXT)(outer:List Env)(P:bE)(w:bR)(H:Hp)(s:aw)(Q:VK)(E:XK)(r:Result)(s':aw):Prop:=
 match r with
 |.ok (.ret u)=>CE outer P w H s Q u s'
 |.ok _=>False
 |.error e=>CX outer H s E e s'
structure FnOk(P:bE)(w:bR)(K:ao)(mg:bF->Option ap)(base:b0)(CX:CXT)(k:Nat)(f:aL)(fd:cT)(ps:List bF)(sp:Sp):Prop where
 len:∀vs H Q E,sp vs H Q E->vs.length=ps.length
 run:∀(A:cQ)(outer:List Env)(s:aw)(H:Hp)(args:Args)(us:List ap)(vs:List V)(Q:VK)(E:XK),Room k A->Env0 P w K mg base A outer s H->lR s fd args (ps.zip us)->Vals vs us->sp vs H Q E->
  ki (aV P w) A (.call (.ref f) args) (CR CX outer P w H s Q E) s
section
variable{X:Cx}{pq:List (aL×fb)}{U:St}{H:Hp}{s s':aw}
def Inv.env0(I:Inv X pq U H s):Env0 X.prog X.w X.K X.mg X.base X.A X.stack s H:=
 #[I.ok.frames,I.ok.mod,I.bs,bU I.ok.bsz I.sz,I.stack,I.stkFree,I.hok,I.bare]
def Inv.after(I:Inv X pq U H s)(h:CE X.stack X.prog X.w H s Q u s'):EP X pq U Q u s':=by
 obtain⟨v,H',os,bare,un,hok,r,q⟩:=h;obtain⟨hh,g,d,t,os'⟩:=s';obtain rfl:os'=s.os:=os;exact#[v,H',I.call (h':=hh) (g':=g) (d':=d) (t':=t) un hok bare (λb z=>T7 z (by simp)),r,q]
end
def Zan(sp:Sp)(dvs:List V)(E:XK)(t:TA):TE:=λU H Q=>t U H λvs H1=>sp (vs++dvs) H1 Q E
def Vq(K:ao)(fd:cT)(ps:List bF)(ds:List ap):Prop:=
 ∀(s:aw)(us:List ap),K.In s.heap->(us++ds).length=ps.length->lR s fd #[us,[]] (ps.zip<|us++ds)
def Vq.all{K:ao}{fd:cT}{ps:List bF}(h:∀us:List ap,us.length=ps.length->nz fd #[us,[]]=c0 (ps.zip us)):Vq K fd ps []:=λs us _ hl=>by
 rw[cg]at hl ⊢;exact .of_eq<|h us hl
def G8(CX:CXT)(X:Cx)(E:XK):Prop:=∀(pq:List (aL×fb))(U:St)(H:Hp)(s:aw)(e:ap)(s':aw),Inv X pq U H s->CX X.stack H s E e s'->X.xe e s'
section
variable{X:Cx}{CX:CXT}{k:Nat}{f C:aL}{fd:cT}{ps:List bF}{sp:Sp}{dvs:List V}{ds:List ap}{E:XK}{x m:bF}{p pos apos:iu}{e o:Expr}{es:List Expr}{ta:TE}{t:TA}
def Za3(F:FnOk X.prog X.w X.K X.mg X.base CX k f fd ps sp)(hr:Room k X.A)(hb:Vq X.K fd ps ds)(hd:Vals dvs ds)(hx:G8 CX X E)
  (I:Inv X pq U H s)(r:Vals vs us)(h:sp (vs++dvs) H Q E):aW (aV X.prog X.w) X.A (call (.ref f) us) (EP X pq U Q) X.xe s:=by
 have r2:=r.append hd;have hl:(us++ds).length=ps.length:=by rw[<-r2.length];exact F.len _ _ _ _ h
 refine wpAny_call<|fR (F.run X.A X.stack s H #[us,[]] (us++ds) (vs++dvs) Q E hr I.env0 (hb s us I.kIn hl) r2 h) λr s' hq=>?_
 cases r with
 |error e=>exact hx pq U H s e s' I hq
 |ok fl=>
  cases fl with|ret u=>exact I.after hq|next=>exact False.elim hq|brk=>exact False.elim hq|cont=>exact False.elim hq
def z9(F:FnOk X.prog X.w X.K X.mg X.base CX k f fd ps sp)(hr:Room k X.A)(hg:Gl X x)(hm:X.mg x=aa (.ref f))(hk:fS X.K (.ref f)=am)(hb:Vq X.K fd ps ds)(hd:Vals dvs ds)(hx:G8 CX X E)
  (ha:PA X (e::es) t)(hdb:(x == ("__debug__" : bF))=aj:=by decide)(he:aM (e::es) X.env=(aj,cR e X.env)::aM es X.env:=by rfl)(hpl:(eK pos<|aM es X.env).any (·.1)=aj:=by rfl) :
  PE X (.Call (.Name x p) (e::es) [] pos) (Zan sp dvs E t):=by
 intro pq s U H Q I h;refine eD<|jj I hg hm ?_ hdb;refine PySem.W.callWith_K I.ok.mod.kin hk (thn (ha pos pq s U H _ I h) λus s1 #[vs,H1,I1,r,q]=>#[I1.kIn,?_]) he hpl
 exact Za3 F hr hb hd hx I1 r q
end
structure FnScope(N P:List bF)(sc:eA):Prop where
 kind:sc.kind=.function
 co:sc.isCoroutine=aj
 gen:sc.isGenerator=aj
 nd:N.Nodup
 pre:N.take P.length=P
 par:∀x∈P,sc.names.lookup x=aa .local\/sc.names.lookup x=aa .cell
 nofree:∀y∈sc.names,y.2≠.free
theorem Uc{kindOf:bF->Option dZ}{x:bF}:∀{binds:List (bF×ap)}{m:bF->Option ap},(∀v,(x,v)∉binds)->nY kindOf binds m x=m x
 |[],_,_=>rfl
 |(n,v)::r,m,h=>by
  unfold nY;rw[Uc λw hw=>h w<|ai _ hw]
  split
  .have:x≠n:=by rintro rfl;exact h v al
   simp[this]
  .rfl
theorem UO{kindOf:bF->Option dZ}{x:bF}:∀{binds:List (bF×ap)}{m:bF->Option ap},(∀v,(x,v)∉binds)->nZ kindOf binds m x=m x
 |[],_,_=>rfl
 |(n,v)::r,m,h=>by
  unfold nZ;rw[UO λw hw=>h w<|ai _ hw]
  split
  .rfl
  .have:x≠n:=by rintro rfl;exact h v al
   simp[this]
theorem Ur{kindOf:bF->Option dZ}{x:bF}{v:ap}:∀{P:List bF}{vs:List ap}{i:Nat}{m:bF->Option ap},P.Nodup->P[i]?=aa x->vs[i]?=aa v->kindOf x=aa .local->
  nY kindOf (P.zip vs) m x=aa v
 |[],_,_,_,_,h,_,_=>by simp at h
 |_::_,[],_,_,_,_,h,_=>by simp at h
 |p::P,w::vs,0,m,nd,h1,h2,hk=>by
  simp at h1 h2;subst h1;subst h2;show nY kindOf ((p,w)::P.zip vs) m p=_;unfold nY;rw[Uc λv hv=>(dA.mp nd).1 (ky hv).1,T9 hk]
  simp
 |p::P,w::vs,i+1,m,nd,h1,h2,hk=>by
  unfold nY;exact Ur (dA.mp nd).2 (by simpa using h1) (by simpa using h2) hk
theorem Ul{kindOf:bF->Option dZ}{x:bF}{v:ap}:∀{P:List bF}{vs:List ap}{i:Nat}{m:bF->Option ap},P.Nodup->P[i]?=aa x->vs[i]?=aa v->kindOf x≠aa .local->
  nZ kindOf (P.zip vs) m x=aa v
 |[],_,_,_,_,h,_,_=>by simp at h
 |_::_,[],_,_,_,_,h,_=>by simp at h
 |p::P,w::vs,0,m,nd,h1,h2,hk=>by
  simp at h1 h2;subst h1;subst h2;show nZ kindOf ((p,w)::P.zip vs) m p=_;unfold nZ;rw[UO λv hv=>(dA.mp nd).1 (ky hv).1,T8 hk]
  simp
 |p::P,w::vs,i+1,m,nd,h1,h2,hk=>by
  unfold nZ;exact Ul (dA.mp nd).2 (by simpa using h1) (by simpa using h2) hk
noncomputable def start(N:List bF)(vs:List V):St:=vs.map aa++aB (N.length-vs.length) ae
noncomputable def Js(CX:CXT)(P:bE)(w:bR)(K:ao)(mg:bF->Option ap)(base:b0)(N:List bF)(qual:bF)(scope:eA)(f:aL)(cd:ap)(A:cQ)(outer:List Env)(s:aw)(H:Hp)(E:XK):Cx where
 prog:=P
 w:=w
 K:=K
 mg:=mg
 base:=base
 A:=A.deeper<|gU qual scope s.heap.objs.size f cd
 N:=N
 s₀:=s
 H₀:=H
 env:=gU qual scope s.heap.objs.size f cd
 outer:=outer
 stack:=gU qual scope s.heap.objs.size f cd::outer
 ex:=[]
 calm:=am
 fn:=λ_=>am
 pn:=[]
 xe:=λe s'=>aW (aV P w) (A.deeper<|gU qual scope s.heap.objs.size f cd) (leaving (gU qual scope s.heap.objs.size f cd) e) (λ_ s''=>CX outer H s E e s'') (λe' s''=>CX outer H s E e' s'') s'
def JV{sc:eA}{n:Nat}{x:bF}(h:sc.names.lookup x=aa .cell):∃c,(dG n sc.names []).lookup x=aa c:=by
 have q:=kj sc.names n []<|.inl h;exact bK.mp q
def yA{CX:CXT}{P:bE}{w:bR}{K:ao}{mg:bF->Option ap}{base:b0}{N ps:List bF}{qual:bF}{scope:eA}{f:aL}{cd:ap}{A:cQ}{outer:List Env}{s s1:aw}{H:Hp}{E:XK}{us:List ap}{vs:List V}
  (S:FnScope N ps scope)(hd:A.handled=ae)(e0:Env0 P w K mg base A outer s H)(hl:vs.length=ps.length)(r:Vals vs us)
  (x:InCallC s s.heap.objs.size (nY (gU qual scope s.heap.objs.size f cd).kindOf (ps.zip us) λ_=>ae) (dG (s.heap.objs.size+1) scope.names []) (nZ (gU qual scope s.heap.objs.size f cd).kindOf (ps.zip us) λ_=>ae) s1) :
  Inv (Js CX P w K mg base N qual scope f cd A outer s H E) [] (start N vs) H s1:=by
 have hpl:ps.length<=N.length:=by have:=congrArg iC S.pre;rw[bn]at this;lia
 obtain⟨h1,tk,rfl,hk⟩:=x.done;have noA:∀b:aL,b∉(Js CX P w K mg base N qual scope f cd A outer s H E).ex:=λb z=>T7 (show b∈([]:List aL)from z) (by simp)
 refine#[#[e0.mod,S.kind,rfl,rfl,aA _,λy z c h1 h2=>?_,λy hy=>?_,λy c _ h=>?_,λ_=>hd,cQ.frames_deeper e0.frames,.inr #[rfl,rfl],λb z=>T7 z<|noA b,e0.bs,e0.bsz,λb _ _=>noA b,λb z=>T7 z<|noA b,e0.funs,e0.frf],
  rfl,e0.bare,Un.kept hk,#[_,x.toInCall.ns,λi y v h1 h2 h3=>?_],λy c h=>#[_,x.cell y c h],e0.hok.fresh<|aA _,λy c h=>?_,λp hp=>T7 (show p∈([]:List (aL×fb))from hp) (by simp),e0.hok.kept hk,?_]
 .exact name_of_addr x.apart (eg h1)<|eg h2
 .have hy:=hy
  rcases hy with hy|hy
  .exact JV hy
  .exact T7 rfl<|S.nofree _<|eg hy
 .exact fQ<|x.above y c<|eg h
 .have hi:i<vs.length:=by
   unfold start at h2;by_cases hi:i<vs.length
   .exact hi
   .rw[bu<|by simpa using hi]at h2
    rw[cH]at h2;split at h2<;>cases h2
  have ha:vs[i]?=aa v:=by
   unfold start at h2;rw[bN (by simpa using hi),aH]at h2
   cases e:vs[i]? with|none=>rw[e]at h2;cases h2|some a=>rw[e]at h2;cases h2;rfl
  obtain⟨u,hu,rv⟩:=r.get ha;have hp:ps[i]?=aa y:=by
   rw[<-S.pre,List.getElem?_take_of_lt (by lia)];exact h1
  have ndP:ps.Nodup:=by rw[<-S.pre];exact S.nd.sublist<|lS _ _
  refine#[u,rv,?_];rcases S.par y (dy hp)with k|k
  .exact .inl #[k,Ur ndP hp hu k]
  .obtain⟨c,e⟩:=JV k
   refine .inr #[.inl k,c,e,?_];have q:=x.cell y c e;rw[Ul ndP hp hu<|by show scope.names.lookup y≠_;rw[k];decide]at q
   exact q
 .exact e0.hok.fresh<|fQ<|x.above y c<|eg h
 .unfold start
  show _=N.length;rw[a7,ay,bV];lia
def ZcA{CX:CXT}{P:bE}{w:bR}{K:ao}{mg:bF->Option ap}{base:b0}{k:Nat}{f:aL}{name qual:bF}{params:Arguments}{body:List fw}{scope:eA}{dV kV doc pm cdv ct oc:ap}{an od:Option aL}
  {osl:Array (Option ap)}{N ps:List bF}{sp:Sp}(lk:K.lookup f=aa #[oc,od,.func<|dE name qual params body scope dV kV doc pm an cdv ct,osl])(hcd:gV K cdv qual=am)(S:FnScope N ps scope)
  (len:∀vs H Q E,sp vs H Q E->vs.length=ps.length)
  (hbody:∀(A:cQ)(outer:List Env)(s:aw)(H:Hp)(vs:List V)(Q:VK)(E:XK),Room k (A.deeper<|gU qual scope s.heap.objs.size f cdv)->sp vs H Q E->
   ∃t,PSs (Js CX P w K mg base N qual scope f cdv A outer s H E) body t/\t {nx:=λ_ H'=>Q .non H',rt:=Q} (start N vs) H) :
  FnOk P w K mg base CX (k+1) f (dE name qual params body scope dV kV doc pm an cdv ct) ps sp:=by
 refine#[len,λA outer s H args us vs Q E hr e0 hb r hsp=>?_]
 have hl:=len _ _ _ _ hsp;have KX:=e0.mod.kin.keeps λb o e=>(e0.bs b o e).1
 have lim:=e0.mod.nolimit.keeps λb o e=>(e0.bs b o e).1
 have hkind:∀y∈ps.zip us,scope.names.lookup y.1=aa .local\/(scope.names.lookup y.1=aa .cell/\((dG (s.heap.objs.size+1) scope.names []).lookup y.1).isSome=am):=by
  rintro ⟨n,v⟩ hy;rcases S.par n (ky hy).1 with q|q
  .exact .inl q
  .exact .inr #[q,kj _ _ _<|.inl q]
 refine codeAny_call_function hr.depth (KX _ _ lk) rfl S.co S.gen rfl (PySem.W.codeRec_of KX hcd)<|hb _ _ _ _ ?_;refine wpAny_newFunctionEnv_cells S.kind hkind λenv he s1 x=>?_
 subst he;refine#[lim.keeps x.toInCall.keep,codeAny_func ?_];obtain⟨t,ht,hq⟩:=hbody A outer s H vs Q E (hr.deeper _) hsp;have I:Inv (Js CX P w K mg base N qual scope f cdv A outer s H E) [] (start N vs) H s1:=yA S hr.hd e0 hl r x;refine dg (ht [] s1 (start N vs) H _ I hq) (λfl s' hs=>?_) λe s' hs=>hs
 have fin:∀{σ':St}{H':Hp}{v:V}{u:ap},Inv (Js CX P w K mg base N qual scope f cdv A outer s H E) [] σ' H' s'->Zv v u->Q v H'->CE outer P w H s Q u s':=
  λ{σ' H' v u} J rv q=>#[v,H',J.os,J.bare,J.base,J.hok,rv,q]
 cases fl with
 |ret u=>
  obtain⟨v,σ',H',J,rv,q⟩:=hs;exact fin J rv q
 |next=>
  obtain⟨σ',H',J,q⟩:=hs;exact fin (v:=V.non) J rfl q
 |brk=>
  obtain⟨_,_,_,q⟩:=hs;exact False.elim q
 |cont=>
  obtain⟨_,_,_,q⟩:=hs;exact False.elim q
section
variable{X:Cx}{x:bF}{p pos:iu}{e:Expr}{es:List Expr}{t:TA}{id T:String}{r:List V->Hp->VK->Prop}
def tCB(r:List V->Hp->VK->Prop)(t:TA):TE:=λU H Q=>t U H λvs H1=>r vs H1 Q
def VS(hc:ZD X (.builtin id) r)(hg:Gl X x)(hm:X.mg x=ae)(hv:dr x=aa (.builtin id))(ha:PA X (e::es) t)(hn:x≠"__name__":=by decide)(hdb:(x == ("__debug__" : bF))=aj:=by decide)
  (he:aM (e::es) X.env=(aj,cR e X.env)::aM es X.env:=by rfl)(hpl:(eK pos<|aM es X.env).any (·.1)=aj:=by rfl):PE X (.Call (.Name x p) (e::es) [] pos) (tCB r t):=by
 intro pq s U H Q I h;refine eD<|Y2 I hg hm hv ?_ hn hdb;exact gc (thn (ha pos pq s U H _ I h)<|by rintro us s1 ⟨vs,H1,I1,r1,q1⟩;exact hc pq s1 U H1 vs us Q I1 r1 q1) he hpl
def Uh(hc:ZD X (.type T) r)(hg:Gl X x)(hm:X.mg x=ae)(hv:dr x=aa (.type T))(ha:PA X (e::es) t)(hn:x≠"__name__":=by decide)(hdb:(x == ("__debug__" : bF))=aj:=by decide)
  (he:aM (e::es) X.env=(aj,cR e X.env)::aM es X.env:=by rfl)(hpl:(eK pos<|aM es X.env).any (·.1)=aj:=by rfl):PE X (.Call (.Name x p) (e::es) [] pos) (tCB r t):=by
 intro pq s U H Q I h;refine eD<|Y2 I hg hm hv ?_ hn hdb;exact cD (thn (ha pos pq s U H _ I h)<|by rintro us s1 ⟨vs,H1,I1,r1,q1⟩;exact hc pq s1 U H1 vs us Q I1 r1 q1) he hpl
end
end L2
namespace HT
open PySem PyProof.Rows
section
variable{prog:bE}{w:bR}{A:cQ}{E:ap->aw->Prop}{s:aw}
def j5{Q:ap->aw->Prop}(ht:nU s.heap t vs.toArray)(hb:nU s.heap b ws.toArray)(hv:vs≠[])
  (h1:ws=[]->Q (.ref t) s)(h2:ws≠[]->Q (.ref s.heap.objs.size) {s with heap:=s.heap.push {cls:=.type "tuple",data:=.seq (vs++ws).toArray}})
  (hsz:vs.length+ws.length<=ba):aW (aV prog w) A (dW .Add (.ref t)<|.ref b) Q E s:=by
 obtain⟨⟨cls,dd,data,sl⟩,ho,hc,n,hd⟩:=id ht;obtain⟨⟨cls2,dd2,data2,sl2⟩,ho2,hc2,n2,hd2⟩:=id hb;simp only at hc hd hc2 hd2;subst hc hd hc2 hd2;have e:vs.toArray++ws.toArray=(vs++ws).toArray:=by simp
 by_cases hw:ws=[]
 .exact lT #[_,ho,rfl] #[_,ho2,rfl] iX lg fT fM (fC _ _)
   (tuple_addW1 t b vs.toArray ws.toArray n n2 dd dd2 sl sl2 (by simpa using hv)<|by simp[hw]) #[ho,ho2,h1 hw]
 .refine lT #[_,ho,rfl] #[_,ho2,rfl] iX lg fT fM (fC _ _)
   (tuple_addW2 t b vs.toArray ws.toArray n n2 dd dd2 sl sl2 (by simpa using hv) (by simpa using hw)<|by rw[ax,ax];exact hsz) #[ho,ho2,?_]
  rw[e];exact h2 hw
noncomputable def sIx(n d:Nat):Option Int->Nat
 |none=>d
 |some v=>if v<0 then(v+(n:Int)).toNat else nq v.toNat n
theorem Zby(n d:Nat)(hd:d<=n)(o:Option Int):sIx n d o<=n:=by
 cases o with
 |none=>exact hd
 |some v=>
  show(if v<0 then(v+(n:Int)).toNat else nq v.toNat n)<=n
  by_cases hv:v<0
  .rw[T9 hv];lia
  .rw[T8 hv];exact Nat.min_le_right _ _
theorem zf(v:Int)(n d:Nat):(if v<0 then max (v+(n:Int)) 0 else nq v (n:Int))=((sIx n d (aa v):Nat):Int):=by
 show(if v<0 then max (v+(n:Int)) 0 else nq v (n:Int))=(((if v<0 then(v+(n:Int)).toNat else nq v.toNat n):Nat):Int)
 by_cases hv:v<0
 .simp only[T9 hv];lia
 .simp only[T8 hv];lia
theorem GD(lo hi:Option Int)(n:Nat):fm lo hi 1 (n:Int)=(((sIx n 0 lo:Nat):Int),((sIx n n hi:Nat):Int)):=by
 have h1:¬((1:Int)<0):=by lia
 unfold fm;simp only[h1,if_false];refine Prod.ext ?_ ?_
 .cases lo with|none=>rfl|some v=>exact zf v n 0
 .cases hi with|none=>rfl|some v=>exact zf v n n
theorem GO(i j:Nat):cr (i:Int) (j:Int) 1=j-i:=by
 unfold cr;have h1:(1:Int)>0:=by lia
 simp only[h1,if_true,Int.ediv_one];split<;>lia
def XH{Q:Option Int->aw->Prop}(p:gW v o)(h:Q o s):aW (aV prog w) A (db.Slice.slicePartIndex v) Q E s:=by
 cases p with|none=>exact gX h|int i t=>exact slicePart_int h
def YL{sl:aL}{vl vu:ap}{lo hi:Option Int}{n:Nat}{Q:Int×Int×Nat->aw->Prop}(hs:s.heap.IsSliceOf sl vl vu .none)(pl:gW vl lo)(pu:gW vu hi)
  (h:Q (((sIx n 0 lo:Nat):Int),1,sIx n n hi-sIx n 0 lo) s):aW (aV prog w) A (gY (.ref sl)<|c0 (n:Int)) Q E s:=by
 obtain⟨os,hos,hcs,hds⟩:=id hs;refine ab<|ab<|cq hos hds rfl<|ab<|cq hos hds rfl<|ab<|cq hos hds rfl<|aq ?_;refine ab<|gX ?_;show aW _ _ (if((1:Int) == 0)=am then _ else _) _ _ s
 rw[T8 (by decide)]
 refine ab<|XH pl<|ab<|XH pu<|ab<|aq ?_;show aW _ _ (match fm lo hi 1 (n:Int)with|(lo,hi)=>c0 (lo,(1:Int),cr lo hi 1)) _ _ s
 rw[GD lo hi n];show aW _ _ (c0 (((sIx n 0 lo:Nat):Int),(1:Int),cr ((sIx n 0 lo:Nat):Int) ((sIx n n hi:Nat):Int) 1)) _ _ s;rw[GO];exact aq h
theorem xN(xs:Array ap)(i k:Nat):((aK k).filterMap λ(m:Nat)=>xs[((i:Int)+(m:Int)*1).toNat]?).toArray=((xs.toList.drop i).take k).toArray:=by
 have e:(λ(m:Nat)=>xs[((i:Int)+(m:Int)*1).toNat]?)=λm=>xs[i+m]?:=by
  funext m
  have:((i:Int)+(m:Int)*1).toNat=i+m:=by lia
  rw[this]
 rw[e];have:=pick_run xs i k;rw[lE]at this;have e2:((λx=>xs[x]?)∘λx=>i+x)=λm=>xs[i+m]?:=rfl
 rw[e2]at this;rw[this]
theorem We{t sl:aL}{items:Array ap}{vl vu:ap}{lo hi:Option Int}{Q:ap->aw->Prop}(ht:nU s.heap t items)(hs:s.heap.IsSliceOf sl vl vu .none)(pl:gW vl lo)(pu:gW vu hi)
  (hw:¬(sIx items.size 0 lo=0/\sIx items.size items.size hi=items.size))
  (h:Q (.ref s.heap.objs.size) {s with heap:=s.heap.push {cls:=.type "tuple",data:=.seq ((items.toList.drop<|sIx items.size 0 lo).take<|sIx items.size items.size hi-sIx items.size 0 lo).toArray}})
  (hsz:items.size<=ba):aW (aV prog w) A (iD (.ref t)<|.ref sl) Q E s:=by
 have htake:sizeOk (.seq ((items.toList.drop<|sIx items.size 0 lo).take<|sIx items.size items.size hi-sIx items.size 0 lo).toArray):=by
  show((items.toList.drop<|sIx items.size 0 lo).take<|sIx items.size items.size hi-sIx items.size 0 lo).toArray.size<=ba;rw[ax,bn,bq,aE];lia
 have hj:sIx items.size items.size hi<=items.size:=Zby _ _ (aA _) hi;obtain⟨os,hos,hcs,hds⟩:=id hs;have hTs:s.TypeIs (.ref sl) "slice":=#[os,hos,hcs];unfold iD
 try with_reducible refine bJ ?_
 first|refine ab<|aq ?_|skip
 refine ab<|iE ht.typeIs (by decide) ?_
 refine ab (bW ht.typeIs b9
  (bQ b9 ht.typeIs gO ?_<|gZ _ _))
 show aW _ _ (eU (.ref t) >>= _) _ _ s;refine ab<|lh ht ?_;refine ab<|gP hTs ?_;rw[T9 (by decide)]
 refine ab<|YL hs pl pu ?_;have hno:¬((((sIx items.size 0 lo:Nat):Int) == 0&&(1:Int) == 1&&(sIx items.size items.size hi-sIx items.size 0 lo) == items.size)=am):=by
  intro q;rw[aG,aG]at q;have q1:=ei q.1.1;have q2:=ei q.2;exact hw #[by lia,by lia]
 show aW _ _ (if(((sIx items.size 0 lo:Nat):Int) == 0&&(1:Int) == 1&&(sIx items.size items.size hi-sIx items.size 0 lo) == items.size)=am then _ else _) _ _ s
 rw[T8 hno,xN]
 first
  |exact ab<|bo (aq #[_,rfl,aq h]) htake
  |exact ab<|bo (ab<|aq<|aq #[_,rfl,aq h]) htake
  |exact ab<|ab<|bo (aq<|aq #[_,rfl,aq h]) htake
  |exact ab<|ab (m:=db.Tuple.tupleExact _)<|bo (aq #[_,rfl,aq h]) htake
end
end HT
namespace L2
open PySem PySem.Spec PyProof.Rows
abbrev TO:=St->Hp->(Option Int->Hp->Prop)->Prop
def PO(X:Cx)(e:Option Expr)(t:TO):Prop:=
 ∀(pq:List (aL×fb))(s:aw)(U:St)(H:Hp)(Q:Option Int->Hp->Prop),Inv X pq U H s->t U H Q->
  aW (aV X.prog X.w) X.A (evalPart e X.env) (λu s'=>∃o H',Inv X pq U H' s'/\gW u o/\Q o H') X.xe s
def uU:TO:=λ_ H Q=>Q ae H
def Zdq(t:TE):TO:=λU H Q=>t U H λx H1=>∃i,x=.int i/\Q (aa i) H1
section
variable{X:Cx}{e:Expr}{te:TE}{lo hi:Option Expr}{tl th:TO}{pos p2:iu}
def qZ:PO X ae uU:=by
 intro pq s U H Q I h;rw[lj];exact aq #[ae,H,I,.none,h]
def ZI(h:PE X e te):PO X (aa e) (Zdq te):=by
 intro pq s U H Q I hw;rw[evalPart_some];refine thn (h pq s U H _ I hw) λu s1 #[x,H1,I1,r1,q1]=>?_
 obtain⟨i,rfl,q⟩:=q1;obtain⟨t,rfl⟩:=r1;exact#[aa i,H1,I1,.int i t,q]
def SlR(X:Cx)(r:V->Option Int->Option Int->Hp->VK->Prop):Prop:=
 ∀(pq:List (aL×fb))(s:aw)(U:St)(H:Hp)(x:V)(v vl vu:ap)(lo hi:Option Int)(sl:aL)(Q:VK),Inv X pq U H s->Zv x v->s.heap.IsSliceOf sl vl vu .none->gW vl lo->gW vu hi->r x lo hi H Q->
  ∃T id,typeLookup (.type T) "__getitem__" = c0 (aa<|.builtin id)/\s.TypeIs v T/\aW (aV X.prog X.w) X.A (iD v<|.ref sl) (EP X pq U Q) X.xe s
def SlR.or{r r':V->Option Int->Option Int->Hp->VK->Prop}(h:SlR X r)(h':SlR X r'):SlR X (λx lo hi H Q=>r x lo hi H Q\/r' x lo hi H Q):=by
 intro pq s U H x v vl vu lo hi sl Q I rx hs pl pu q;rcases q with q|q
 .exact h pq s U H x v vl vu lo hi sl Q I rx hs pl pu q
 .exact h' pq s U H x v vl vu lo hi sl Q I rx hs pl pu q
def tSl(r:V->Option Int->Option Int->Hp->VK->Prop)(te:TE)(tl th:TO):TE:=λU H Q=>te U H λx H1=>tl U H1 λl H2=>th U H2 λu H3=>r x l u H3 Q
def ug{r:V->Option Int->Option Int->Hp->VK->Prop}(hr:SlR X r)(he:PE X e te)(hl:PO X lo tl)(hu:PO X hi th):PE X (.Subscript e (.Slice lo hi ae p2) pos) (tSl r te tl th):=by
 intro pq s U H Q I h;refine nA<|thn (he pq s U H _ I h) λv s1 #[x,H1,I1,r1,q1]=>?_
 refine wpAny_Slice<|thn (hl pq s1 U H1 _ I1 q1) λvl s2 #[l,H2,I2,pl,q2]=>thn (hu pq s2 U H2 _ I2 q2) λvu s3 #[u,H3,I3,pu,q3]=>?_
 rw[lj];refine aq ?_;have I4:Inv X pq U H3 {s3 with heap:=s3.heap.push {cls:=.type "slice",data:=.fields [vl,vu,.none].toArray}}:=I3.kept (t':=s3.toks) λb ob q=>au _ q
 obtain⟨T,id,hT,ht,hg⟩:=hr pq {s3 with heap:=s3.heap.push {cls:=.type "slice",data:=.fields [vl,vu,.none].toArray}} U H3 x v vl vu l u s3.heap.objs.size Q I4 r1 (lG ..) pl pu q3
 exact tail_any ht hT hg (by with_unfolding_all rfl)
noncomputable def Yv(xs:List V)(lo hi:Option Int):List V:=(xs.drop<|HT.sIx xs.length 0 lo).take<|HT.sIx xs.length xs.length hi-HT.sIx xs.length 0 lo
theorem W0(xs:List V)(lo hi:Option Int):(Yv xs lo hi).length<=xs.length:=by
 unfold Yv;rw[bn,bq];lia
def ZdW(K:ao):V->Option Int->Option Int->Hp->VK->Prop:=λx lo hi H Q=>∃a xs,x=.ref a/\SqT K H a xs/\
 ¬(HT.sIx xs.length 0 lo=0/\HT.sIx xs.length xs.length hi=xs.length)/\∀p,H p=ae->Q (.ref p) (upd H p<|.tup<|Yv xs lo hi)
def ZbP:SlR X (ZdW X.K):=by
 intro pq s U H x v vl vu lo hi sl Q I rx hs pl pu h;obtain⟨a,xs,rfl,hx,hw,q⟩:=h;cases rx;obtain⟨its,r,ht,hz⟩:=I.tuple hx;have hlen:its.toArray.size=xs.length:=by rw[ax];exact r.length.symm
 refine#["tuple",_,b9.lookup,ht.typeIs,?_];refine HT.We ht hs pl pu (by rw[hlen];exact hw) ?_ (by rw[hlen];exact hz)
 rw[hlen];refine#[.ref s.heap.objs.size,_,I.laid (t':=s.toks) (λb ob q=>au _ q) (aA _) ?_,rfl,q _<|I.hok.fresh<|aA _]
 exact#[bU (W0 xs lo hi) hz,_,(r.drop<|HT.sIx xs.length 0 lo).take<|HT.sIx xs.length xs.length hi-HT.sIx xs.length 0 lo,gS _ _]
def Zax(K:ao):R2:=λx y H Q=>∃a b xs ys,x=.ref a/\y=.ref b/\SqT K H a xs/\SqT K H b ys/\xs≠[]/\xs.length+ys.length<=ba/\
 (ys=[]->Q (.ref a) H)/\(ys≠[]->∀p,H p=ae->Q (.ref p) (upd H p<|.tup<|xs++ys))
def Vals.nil_iff(r:Vals xs us):us=[]↔xs=[]:=by
 cases r with|nil=>simp|cons _ _=>simp
def jI:OpR X (dW .Add) (Zax X.K):=by
 intro pq s U H x y v u Q I rx ry h;obtain⟨a,b,xs,ys,rfl,rfl,ha,hb,hx,hz,q1,q2⟩:=h;cases rx;cases ry;obtain⟨its,r1,p1,_⟩:=I.tuple ha;obtain⟨its2,r2,p2,_⟩:=I.tuple hb;refine HT.j5 p1 p2 (λz=>hx<|r1.nil_iff.mp z) (λz=>#[.ref a,H,I,rfl,q1<|r2.nil_iff.mp z]) (λz=>?_) (by rw[<-r1.length,<-r2.length];exact hz)
 refine#[.ref s.heap.objs.size,_,I.laid (t':=s.toks) (λb ob q=>au _ q) (aA _) ?_,rfl,q2 (λw=>z<|r2.nil_iff.mpr w) _<|I.hok.fresh<|aA _]
 exact#[by rw[a7];exact hz,_,r1.append r2,gS _ _]
end
noncomputable def ixN(n:Nat)(i:Int):Option Nat:=if 0<=i then(if i<n then aa i.toNat else ae)else if -(n:Int)<=i then aa (i+n).toNat else ae
noncomputable def atI{B:Type}(xs:List B)(i:Int):Option B:=(ixN xs.length i).bind λj=>xs[j]?
def zW(h:ixN n i=aa j):seqIndex? i n=aa j/\j<n/\-(n:Int)<=i/\i<n:=by
 unfold ixN at h;by_cases h0:0<=i
 .rw[T9 h0]at h
  by_cases h1:i<n
  .rw[T9 h1]at h
   have e:=ak h;exact#[by rw[mQ h0 h1,e],by lia,by lia,h1]
  .rw[T8 h1]at h;cases h
 .rw[T8 h0]at h
  by_cases h1:-(n:Int)<=i
  .rw[T9 h1]at h
   have e:=ak h;exact#[by rw[lV (by lia) h1,e],by lia,h1,by lia]
  .rw[T8 h1]at h;cases h
def ya{B:Type}{xs:List B}{i:Int}{v:B}(h:atI xs i=aa v):∃j,seqIndex? i xs.length=aa j/\xs[j]?=aa v/\j<xs.length/\-(xs.length:Int)<=i/\i<xs.length:=by
 unfold atI at h;cases e:ixN xs.length i with
 |none=>rw[e]at h;cases h
 |some j=>
  rw[e]at h;obtain⟨h1,h2,h3,h4⟩:=zW e;exact#[j,h1,h,h2,h3,h4]
def zX(b:Expr):Prop:=∀o i,subscripted b aj o i=operate [o,i] (iD o i)
def IxR(X:Cx)(r:R2):Prop:=
 ∀(value slice:Expr)(pq:List (aL×fb))(s:aw)(U:St)(H:Hp)(x y:V)(v u:ap)(Q:VK),Inv X pq U H s->Zv x v->Zv y u->r x y H Q->
  subscripted slice aj v u=operate [v,u] (iD v u)->aW (aV X.prog X.w) X.A (subscriptTail value slice v u) (EP X pq U Q) X.xe s
def MtR(X:Cx)(id:String)(r:V->List V->Hp->VK->Prop):Prop:=
 ∀(pq:List (aL×fb))(s:aw)(U:St)(H:Hp)(x:V)(xs:List V)(v:ap)(us:List ap)(Q:VK),Inv X pq U H s->Zv x v->Vals xs us->r x xs H Q->
  aW (aV X.prog X.w) X.A (call (.builtin id) (v::us)) (EP X pq U Q) X.xe s
section
variable{X:Cx}{a b:Expr}{ta tb:TE}{pos:iu}
def IxR.or(h:IxR X r)(h':IxR X r'):IxR X (λx y H Q=>r x y H Q\/r' x y H Q):=by
 intro value slice pq s U H x y v u Q I rx ry q hs;rcases q with q|q
 .exact h value slice pq s U H x y v u Q I rx ry q hs
 .exact h' value slice pq s U H x y v u Q I rx ry q hs
def xS(hr:IxR X r)(ha:PE X a ta)(hb:PE X b tb)(hs:zX b):PE X (.Subscript a b pos) (tOp r ta tb):=by
 intro pq s U H Q I h;exact nA<|Gw ha hb I h λv u s2 x y H2 I2 rx ry q=>hr a b pq s2 U H2 x y v u Q I2 rx ry q<|hs _ _
def ZdM(K:ao):R2:=λx y H Q=>∃p xs i v,x=.ref p/\y=.int i/\SqL K H p xs/\atI xs i=aa v/\Q v H
def ZdT(K:ao):R2:=λx y H Q=>∃p xs i v,x=.ref p/\y=.int i/\SqT K H p xs/\atI xs i=aa v/\Q v H
theorem Qi:IxR X (ZdM X.K):=by
 intro value slice pq s U H x y v u Q I rx ry h hs;obtain⟨p,xs,i,z,rfl,rfl,hq,he,q⟩:=h;cases rx;obtain⟨t,rfl⟩:=ry;obtain⟨its,r,pl,hz⟩:=I.list hq;obtain⟨j,h1,h2,h3,h4,h5⟩:=ya he;obtain⟨w,ew,rw'⟩:=r.get h2;have hl:=r.length;have hn:=VT;have fin:EP X pq U Q w s:=#[z,H,I,rw',q];by_cases h0:0<=i
 .have hj:i.toNat=j:=by
   rw[mQ h0 h5]at h1;exact ak h1
  exact item_listR pl.isList h0 (by lia) (by rw[hj];simpa using ew) fin hs
 .have hj:(i+(its.toArray.size:Int)).toNat=j:=by
   rw[lV (by lia) h4]at h1
   rw[ax,<-hl];exact ak h1
  exact kl pl.isList.typeIs slot_list_getitem.lookup
   (wpAny_getItem_list_neg pl.isList (by lia) (by rw[ax]<;>lia) (by lia) (by rw[hj];simpa using ew) #[rfl,fin]) hs
theorem ZbY:IxR X (ZdT X.K):=by
 intro value slice pq s U H x y v u Q I rx ry h hs;obtain⟨p,xs,i,z,rfl,rfl,hq,he,q⟩:=h;cases rx;obtain⟨t,rfl⟩:=ry;obtain⟨its,r,pl,hz⟩:=I.tuple hq;obtain⟨j,h1,h2,h3,h4,h5⟩:=ya he;obtain⟨w,ew,rw'⟩:=r.get h2;have hl:=r.length;have hn:=VT;have fin:EP X pq U Q w s:=#[z,H,I,rw',q];exact kl pl.typeIs slot_tuple_getitem.lookup
  (getItem_tuple pl (by lia) (by lia) (by rw[ax,<-hl];exact h1) (by simpa using ew) #[rfl,fin]) hs
def G5(its:List ap)(n j:Nat)(u:ap):eV (·.setIfInBounds j u) {cls:=.type "list",data:=.seq its.toArray n}={cls:=.type "list",data:=.seq (its.set j u).toArray n}:=by
 simp[eV]
theorem Inv.lst{pq:List (aL×fb)}{U:St}{H:Hp}{s:aw}{p:aL}{xs:List V}(I:Inv X pq U H s)(h:H p=aa (.lst xs)) :
  ∃(its:List ap)(n:Nat),Vals xs its/\s.heap.get? p=aa {cls:=.type "list",data:=.seq its.toArray n}/\xs.length<=ba:=by
 obtain⟨z,its,n,r,e⟩:=I.hok p _ h;exact#[its,n,r,e,z]
def Inv.lstUpd{pq:List (aL×fb)}{U:St}{H:Hp}{s:aw}{p:aL}{xs ys:List V}{its its':List ap}{n n':Nat}{f:fb->fb}(I:Inv X pq U H s)(h:H p=aa (.lst xs))
  (ho:s.heap.get? p=aa {cls:=.type "list",data:=.seq its.toArray n})(hf:f {cls:=.type "list",data:=.seq its.toArray n}={cls:=.type "list",data:=.seq its'.toArray n' })(r:Vals ys its')(hz:ys.length<=ba)(t:Nat) :
  Inv X pq U (upd H p<|.lst ys) {s with heap:=s.heap.update p f,toks:=t}:=by
 have e:(s.heap.update p f).get? p=aa {cls:=.type "list",data:=.seq its'.toArray n' }:=by
  rw[de f ho (by rw[hf]<;>rfl),hf]
 refine I.write (by rw[h];trivial) (.inl rfl) (λb u hb q=>(km _ _<|Ne.symm hb).trans q) #[_,e] ?_
 exact#[hz,its',n',r,e]
def Zcu:V->V->V->Hp->(Hp->Prop)->Prop:=λo i v H Q=>∃p xs k j,o=.ref p/\i=.int k/\H p=aa (.lst xs)/\ixN xs.length k=aa j/\Q (upd H p<|.lst<|xs.set j v)
theorem v8:PSet X Zcu:=by
 intro pq s U H o i v ov iv u Q I ro ri rv h;obtain⟨p,xs,k,j,rfl,rfl,hp,hj,q⟩:=h;cases ro;obtain⟨t,rfl⟩:=ri;obtain⟨its,n,r,ho,hz⟩:=I.lst hp;obtain⟨h1,h2,h3,h4⟩:=zW hj;have hl:=r.length;have hn:=VT;have I':=
  I.lstUpd hp ho (G5 its n j u) (r.set rv j) (by rw[bx];exact hz) s.toks
 by_cases h0:0<=k
 .have hk:k.toNat=j:=by
   rw[mQ h0 h4]at h1;exact ak h1
  exact PySem.W.ki_setAt ho h0 (by lia) (by rw[ax,<-hl];exact h4) (by rw[hk];exact#[_,I',q])
 .have hk:(k+(its.toArray.size:Int)).toNat=j:=by
   rw[lV (by lia) h3]at h1
   rw[ax,<-hl];exact ak h1
  exact PySem.W.ki_setBack ho (by lia) (by rw[ax,<-hl];exact h3) (by lia) (by rw[hk];exact#[_,I',q])
theorem Qc(lo hi:Option Int)(n:Nat):(fN lo hi ae n).1=((HT.sIx n 0 lo:Nat):Int)/\(fN lo hi ae n).2.1=((HT.sIx n n hi:Nat):Int)/\(fN lo hi ae n).2.2=1:=by
 refine#[?_,?_,rfl]
 .cases lo with
  |none=>simp[fN,HT.sIx]
  |some i=>
   simp only[fN,HT.sIx,mz,show(1:Int)>0 by decide,if_true]
   by_cases h:i<0
   .simp only[h,if_true]<;>lia
   .simp only[h,if_false]<;>lia
 .cases hi with
  |none=>simp[fN,HT.sIx]
  |some i=>
   simp only[fN,HT.sIx,mz,show(1:Int)>0 by decide,if_true]
   by_cases h:i<0
   .simp only[h,if_true]<;>lia
   .simp only[h,if_false]<;>lia
def V8(its:List ap)(lo hi:Option Int):slicePick its.toArray lo hi ae=((its.drop<|HT.sIx its.length 0 lo).take<|HT.sIx its.length its.length hi-HT.sIx its.length 0 lo).toArray:=by
 obtain⟨h1,h2,h3⟩:=Qc lo hi its.toArray.size;unfold slicePick;rw[h1,h2,h3];simp only[sliceRange_one,pick_run,ax]<;>rfl
def ZdO(K:ao):V->Option Int->Option Int->Hp->VK->Prop:=λx lo hi H Q=>∃a xs,x=.ref a/\SqL K H a xs/\∀p,H p=ae->Q (.ref p) (upd H p<|.lst<|Yv xs lo hi)
theorem qp:SlR X (ZdO X.K):=by
 intro pq s U H x v vl vu lo hi sl Q I rx hs pl pu h;obtain⟨a,xs,rfl,hx,q⟩:=h;cases rx;obtain⟨its,r,ht,hz⟩:=I.list hx;have hlen:=r.length;refine#["list",_,slot_list_getitem.lookup,ht.isList.typeIs,?_];refine wpAny_getItem_list_slice ht.isList hs pl pu .none (by simp) ?_ (by rw[ax]<;>lia)
 rw[V8,<-hlen];refine#[.ref s.heap.objs.size,_,I.laid (t':=s.toks) (λb ob q=>au _ q) (aA _) ?_,rfl,q _<|I.hok.fresh<|aA _]
 exact#[bU (W0 xs lo hi) hz,_,0,(r.drop<|HT.sIx xs.length 0 lo).take<|HT.sIx xs.length xs.length hi-HT.sIx xs.length 0 lo,aF _ rfl]
noncomputable def zm:V->Bool
 |.non=>am
 |.bl _=>am
 |.int _=>am
 |.str _=>am
 |_=>aj
noncomputable def eqV:V->V->Bool
 |.non,.non=>am
 |.bl a,.bl b=>a == b
 |.bl a,.int b=>(if a then 1 else 0) == b
 |.int a,.bl b=>a == (if b then 1 else 0)
 |.int a,.int b=>a == b
 |.str a,.str b=>a == b
 |_,_=>aj
def Zbz{A:cQ}{s:aw}{y x:V}{u v:ap}(ry:Zv y u)(rx:Zv x v)(fy:zm y=am)(fx:zm x=am):gd A s u v (eqV y x):=by
 cases y with
 |non=>
  cases ry;cases x with|non=>cases rx;exact gD _|bl b=>cases rx;exact gd.none_bool b|int b=>obtain⟨t,rfl⟩:=rx;exact gd.none_int b t|str b=>obtain⟨t,rfl⟩:=rx;exact gd.none_str b t|_=>exact T7 (fx) aN
 |bl a=>
  cases ry;cases x with|non=>cases rx;exact gd.bool_none a|bl b=>cases rx;exact gd.bool_bool a b|int b=>obtain⟨t,rfl⟩:=rx;exact gd.bool_int a b t|str b=>obtain⟨t,rfl⟩:=rx;exact gd.bool_str a b t|_=>exact T7 (fx) aN
 |int a=>
  obtain⟨t',rfl⟩:=ry;cases x with|non=>cases rx;exact gd.int_none a t'|bl b=>cases rx;exact gd.int_bool a t' b|int b=>obtain⟨t,rfl⟩:=rx;exact lH a t' b t|str b=>obtain⟨t,rfl⟩:=rx;exact lw a t' b t|_=>exact T7 (fx) aN
 |str a=>
  obtain⟨t',rfl⟩:=ry;cases x with|non=>cases rx;exact gd.str_none a t'|bl b=>cases rx;exact gd.str_bool a t' b|int b=>obtain⟨t,rfl⟩:=rx;exact lx a t' b t|str b=>obtain⟨t,rfl⟩:=rx;exact gd.str_str a t' b t|_=>exact T7 (fx) aN
 |_=>exact T7 (fy) aN
theorem QA:ZD X (.builtin "len") (λxs H Q=>∃p ys,xs=[.ref p]/\(SqL X.K H p ys\/SqT X.K H p ys)/\Q (.int ys.length) H):=by
 intro pq s U H xs us Q I r h;obtain⟨p,ys,rfl,hq,q⟩:=h;obtain⟨u,rfl,rx⟩:=Wa r;cases rx;have hn:=VT;rcases hq with hq|hq
 .obtain⟨its,r',pl,hz⟩:=I.list hq
  have hlen:=r'.length;exact Calls.call_len_list pl.isList (by simp only[ax]<;>lia) #[.int ys.length,H,I.tok _,#[s.toks+1,by rw[ax,hlen]],q]
 .obtain⟨its,r',pl,hz⟩:=I.tuple hq
  have hlen:=r'.length;exact len_tuple pl (by simp only[ax]<;>lia) #[.int ys.length,H,I.tok _,#[s.toks+1,by rw[ax,hlen]],q]
theorem UW:ZD X (.type "list") (λxs H Q=>∃p ys,xs=[.ref p]/\(SqL X.K H p ys\/SqT X.K H p ys)/\∀l,H l=ae->Q (.ref l) (upd H l<|.lst ys)):=by
 intro pq s U H xs us Q I r h;obtain⟨p,ys,rfl,hq,q⟩:=h;obtain⟨u,rfl,rx⟩:=Wa r;cases rx;have fin:∀(its:List ap),Vals ys its->ys.length<=ba->∀(h':b0)(c':Nat),(∀b o',s.heap.get? b=aa o'->h'.get? b=aa o')->
   h'.get? s.heap.objs.size=aa {cls:=.type "list",dict:=ae,data:=.seq its.toArray c',slots:=#[]}->EP X pq U Q (.ref s.heap.objs.size) {s with heap:=h' }:=λits r' hz h' c' kp e=>
  #[.ref s.heap.objs.size,_,I.laid (t':=s.toks) kp (aA _) (show Z3 X.prog X.w _ h' _ (.lst ys)from#[hz,its,c',r',e]),rfl,q _<|I.hok.fresh<|aA _]
 rcases hq with hq|hq
 .obtain⟨its,r',pl,hz⟩:=I.list hq
  have hlen:=r'.length;obtain⟨o,ho,hc,n,hd⟩:=pl.isList;exact call_list_seq p (.inl rfl) ho hc hd (λh' c' kp e=>fin its r' hz h' c' kp e) (by simp only[ax]<;>lia)
 .obtain⟨its,r',pl,hz⟩:=I.tuple hq
  have hlen:=r'.length;obtain⟨o,ho,hc,n,hd⟩:=pl;exact call_list_seq p (.inr rfl) ho hc hd (λh' c' kp e=>fin its r' hz h' c' kp e) (by simp only[ax]<;>lia)
theorem Ua:ZD X (.type "tuple") (λxs H Q=>∃p ys,xs=[.ref p]/\((SqL X.K H p ys/\∀l,H l=ae->Q (.ref l) (upd H l<|.tup ys))\/(SqT X.K H p ys/\Q (.ref p) H))):=by
 intro pq s U H xs us Q I r h;obtain⟨p,ys,rfl,h⟩:=h;obtain⟨u,rfl,rx⟩:=Wa r;cases rx;rcases h with⟨hq,q⟩|⟨hq,q⟩
 .obtain⟨its,r',pl,hz⟩:=I.list hq
  have hlen:=r'.length;refine call_tuple_list pl.isList (λh' kp=>?_) (by simp only[ax]<;>lia)
  have I1:=I.kept (t':=s.toks) kp
  have I2:=
   I1.laid (t':=s.toks) (λb o e=>au _ e) (aA _) (show Z3 X.prog X.w _ _ _ (.tup ys)from#[hz,its,r',gS _ _])
  exact#[.ref h'.objs.size,_,I2,rfl,q _<|I1.hok.fresh<|aA _]
 .obtain⟨its,r',pl,hz⟩:=I.tuple hq
  exact call_tuple_same pl #[.ref p,H,I,rfl,q]
def tyV(K:ao)(T:String)(x:V)(H:Hp):Prop:=match x with
 |.str _=>T = "str"
 |.int _=>T = "int"
 |.ref p=>(T = "list"/\∃xs,SqL K H p xs)\/(T = "tuple"/\∃o,K.lookup p=aa o/\o.cls=.type "tuple"/\o.dict=ae)\/
   (T = "dict"/\((∃kvs,H p=aa (.dK kvs))\/∃kvs,H p=aa (.dT kvs)))\/(T = "set"/\∃S n,H p=aa (.set S n))
 |_=>False
def ZbA(I:Inv X pq U H s)(r:Zv x v)(ty:tyV X.K T x H) :
  s.TypeIs v T/\∀a,v=.ref a->∃ob,s.heap.get? a=aa ob/\ob.dict=ae:=by
 cases x with
 |str z=>
  obtain⟨t,rfl⟩:=r;cases(ty)
  exact#[typeIs_str s z t,λ_ e=>nomatch e]
 |int i=>
  obtain⟨t,rfl⟩:=r;cases(ty)
  exact#[kn s i t,λ_ e=>nomatch e]
 |ref p=>
  cases r;rcases ty with⟨rfl,xs,hq⟩|⟨rfl,o,hk,hc,hd⟩|⟨rfl,hk⟩|⟨rfl,S,n,hk⟩
  .obtain⟨its,_,pl,_⟩:=I.list hq
   refine#[pl.isList.typeIs,λa e=>?_]
   cases e;obtain⟨o,n,e,c,hd,_⟩:=pl;exact#[o,e,hd]
  .refine#[#[o,I.kIn p o hk,hc],λa e=>?_]
   cases e;exact#[o,I.kIn _ o hk,hd]
  .have z:∃o,s.heap.get? p=aa o/\o.ExactDict:=by
    rcases hk with⟨kvs,hk⟩|⟨kvs,hk⟩
    .obtain⟨_,_,_,_,o,_,_,e,ex,_⟩:=I.hok p _ hk
     exact#[o,e,ex]
    .obtain⟨_,_,_,_,o,_,_,e,ex,_⟩:=I.hok p _ hk
     exact#[o,e,ex]
   obtain⟨o,e,ex⟩:=z;refine#[#[o,e,ex.1],λa e2=>?_]
   cases e2;exact#[o,e,ex.2.1]
  .obtain⟨o,_,_,_,e,ex,_⟩:=I.hok p _ hk
   refine#[#[o,e,ex.1],λa e2=>?_]
   cases e2;exact#[o,e,ex.2.1]
 |_=>exact False.elim ty
def tBM(K:ao)(T:String)(r:V->List V->Hp->VK->Prop)(to:TE)(t:TA):TE:=λU H Q=>to U H λx H1=>tyV K T x H1/\t U H1 λxs H2=>r x xs H2 Q
variable{o e:Expr}{es:List Expr}{to:TE}{t:TA}{name:bF}{apos cpos:iu}{T id:String}{r:V->List V->Hp->VK->Prop}
def Zc5(pa:PlainAttrs T)(slot:Slot T name id)(hty:typeOf (.builtin id)=c0 (.type "method_descriptor"))(hm:MtR X id r)(ho:PE X o to)(ha:PA X (e::es) t)
  (hbase:attributeBase o name X.env (cR o X.env)=cR o X.env:=by rfl)
  (hfew:((eK cpos<|aM (e::es) X.env).all (λx=>!x.1)&&(backToKw cpos<|keywordEach [] X.env).all (λx=>x.1.isSome)
   && ag ((e::es).length+([]:List n6).length+(if([]:List n6).isEmpty then 0 else 1)<30))=am:=by rfl)
  (hline:(apos.endLine == cpos.line)=am:=by rfl)(hs:aM (e::es) X.env=(aj,cR e X.env)::aM es X.env:=by rfl)(hplain:(eK cpos<|aM es X.env).any (·.1)=aj:=by rfl) :
  PE X (.Call (.Attribute o name apos) (e::es) [] cpos) (tBM X.K T r to t):=by
 intro pq s U H Q I h;refine wpAny_Call_method_late hbase hfew hline rfl<|thn (ho pq s U H _ I h) λv s1 #[x,H1,I1,r1,ty,q1]=>?_
 obtain⟨h1,h2⟩:=ZbA I1 r1 ty;refine#[T,id,pa,slot,hty,h1,h2,?_];have hA:=ha cpos pq s1 U H1 _ I1 q1;rw[hs]at hA ⊢;refine Calls.callWith_builtin (by show(aj||(eK cpos<|aM es X.env).any (·.1))=aj;rw[hplain]<;>rfl)<|Calls.evalArgs_plain ?_
 exact thn hA<|by rintro us s2 ⟨vs,H2,I2,r2,q2⟩;exact hm pq s2 U H2 x vs v us Q I2 r1 r2 q2
end
def MtM(X:Cx)(id:String)(r:V->List V->Hp->VK->Prop):Prop:=
 ∀(pq:List (aL×fb))(s:aw)(U:St)(H:Hp)(x:V)(xs:List V)(v:ap)(us:List ap)(Q:VK),Inv X pq U H s->Zv x v->Vals xs us->r x xs H Q->
  aW (aV X.prog X.w) X.A (call (.builtin id) (v::us)) (EP X pq U Q) X.xe s
def Vals.one:∀{x:V}{us:List ap},Vals [x] us->∃u,us=[u]/\Zv x u
 |_,_,.cons r .nil=>#[_,rfl,r]
theorem Vals.reverse(h:Vals xs us):Vals xs.reverse us.reverse:=by
 induction h with|nil=>exact .nil|cons r t ih=>rw[fU,fU];exact Vals.append ih<|.cons r .nil
theorem Vals.rep(h:Vals xs us):∀k:Nat,Vals (aB k xs).flatten (aB k us).flatten
 |0=>.nil
 |k+1=>by
  rw[bI,bI,cE,cE];exact Vals.append h<|Vals.rep h k
theorem WA(its:List ap):∀(k:Nat)(acc:List ap),
  List.foldl (λx1 x2=>x1++x2) acc.toArray (aB k its.toArray)=(acc++(aB k its).flatten).toArray
 |0,acc=>by simp
 |k+1,acc=>by
  have e:acc.toArray++its.toArray=(acc++its).toArray:=by simp
  have e2:(acc++its)++(aB k its).flatten=acc++(aB (k+1) its).flatten:=by
   rw[bI,cE,bp]
  rw[<-e2,<-WA its k (acc++its),<-e,bI,dB]
section
variable{X:Cx}{pq:List (aL×fb)}{U:St}{H:Hp}{s:aw}{l b:aL}{xs ys zs:List V}
def Inv.lset{its its':List ap}{n:Nat}{f:Array ap->Array ap}{t':Nat}(I:Inv X pq U H s)(hH:H l=aa (.lst xs))
  (e:s.heap.get? l=aa {cls:=.type "list",data:=.seq its.toArray n})(hf:f its.toArray=its'.toArray)(hv:Vals ys its')(hz:ys.length<=ba) :
  Inv X pq U (upd H l<|.lst ys) {s with heap:=s.heap.update l<|eV f,toks:=t' }:=by
 have q:=PySem.IsL.update e f;rw[hf]at q;refine I.write (by rw[hH];exact trivial) (.inl rfl) (λb' u hb hu=>(km s.heap (eV f)<|Ne.symm hb).trans hu) #[_,q] ?_
 exact#[hz,its',_,hv,q]
def Inv.lnew(I:Inv X pq U H s)(hv:Vals ys its)(hz:ys.length<=ba) :
  Inv X pq U (upd H s.heap.objs.size<|.lst ys) {s with heap:=s.heap.push {cls:=.type "list",data:=.seq its.toArray},toks:=t' }:=
 I.laid (λ_ _ q=>au _ q) (aA _) #[hz,its,0,hv,aF _ rfl]
theorem Inv.fresh(I:Inv X pq U H s):H s.heap.objs.size=ae:=I.hok.fresh<|aA _
def Inv.lstM(I:Inv X pq U H s)(hH:H l=aa (.lst xs)):xs.length<=ba/\∃(its:List ap)(n:Nat),Vals xs its/\xs.length=its.length/\s.heap.get? l=aa {cls:=.type "list",data:=.seq its.toArray n}:=by
 obtain⟨z,its,n,r,e⟩:=I.hok l _ hH;exact#[z,its,n,r,r.length,e]
theorem ZdC(h:n<=ba):iM n=aj:=by
 exact T4 (by lia)
end
section
variable{X:Cx}
def qv:V->List V->Hp->VK->Prop:=λx vs H Q=>∃l xs y,x=.ref l/\vs=[y]/\H l=aa (.lst xs)/\xs.length<ba/\Q .non (upd H l<|.lst<|xs++[y])
theorem Ue:MtM X "list.append" qv:=by
 intro pq s U H x vs v us Q I rx rv h;obtain⟨l,xs,y,rfl,rfl,hH,hz,q⟩:=h;cases rx;obtain⟨u,rfl,ru⟩:=rv.one;obtain⟨z,its,n,r,hl,e⟩:=I.lstM hH;refine gf F.slot_list_append #[_,e,rfl] F.entry_list_append (F.args_list_append_2 _ _) (PySem.list_append l its.toArray n u<|by rw[ax];lia) #[e,?_]
 refine#[.non,_,I.lset (its':=its++[u]) hH e (by simp) (r.append<|.cons ru .nil) ?_,rfl,q]
 rw[a7,ga];lia
def ZdD:V->List V->Hp->VK->Prop:=λx vs H Q=>∃l b xs zs,x=.ref l/\vs=[.ref b]/\H l=aa (.lst xs)/\H b=aa (.lst zs)/\xs.length+zs.length<=ba/\Q .non (upd H l<|.lst<|xs++zs)
def Zdb:R2:=λx y H Q=>∃l b xs zs,x=.ref l/\y=.ref b/\H l=aa (.lst xs)/\H b=aa (.lst zs)/\xs.length+zs.length<=ba/\∀p,H p=ae->Q (.ref p) (upd H p<|.lst<|xs++zs)
theorem ZbO:OpR X (dW .Add) Zdb:=by
 intro pq s U H x y v u Q I rx ry h;obtain⟨l,b,xs,zs,rfl,rfl,hH,hB,hz,q⟩:=h;cases rx;cases ry;obtain⟨z,its,n,r,hl,e⟩:=I.lstM hH;obtain⟨z2,its2,n2,r2,hl2,e2⟩:=I.lstM hB;refine PySem.P.add_list e e2 ?_ (by rw[ax,ax];lia)
 have ea:its.toArray++its2.toArray=(its++its2).toArray:=by simp
 rw[ea];exact#[.ref _,_,I.lnew (t':=s.toks) (r.append r2) (by rw[a7];lia),rfl,q _ I.fresh]
def QV{B:Type}(xs:List B)(k:Nat):(aB k xs).flatten.length=k*xs.length:=by
 induction k with|zero=>simp|succ k ih=>rw[bI,cE,a7,ih,Nat.succ_mul,lW]
end
end L2
namespace Att
open PySem PySem.W PySem.Calls PyProof.Rows
def W5 :∀(ns:List Int)(vs:List ap),WellAll P h vs (ns.map WData.int)->fV vs ns:=by
 intro ns
 induction ns with
 |nil=>
  intro vs w;rw[List.map_nil]at w;cases w;exact .nil
 |cons n ns ih=>
  intro vs w;rw[bf]at w;cases w with
  |cons a b=>
   cases a;exact .cons _ _<|ih _ b
def xr{l:OpenLaw}{n:Nat}(hn:l.most=aa n){P:Params}{h:b0}{args:List WData}{vals:List ap}
  (hpre:l.row.toRowW.claim.pre args=am)(hwl:WellAll P h vals args) :
  ∃a vs ns,vals=[cx a]/\args=[WData.list<|ns.map WData.int]/\h.get? a=aa {cls:=.type "list",data:=.seq vs.toArray}/\fV vs ns/\ns.length<=n:=by
 have hsh:=(pre_splitW hpre).1;have hc:l.pre.holds [] {args:=args}=am:=(pre_splitW hpre).2;obtain⟨d,r,rfl,h1,h2⟩:=hasAllW_cons hsh;obtain rfl:=hasAllW_nil h2;obtain⟨xs,rfl,h3⟩:=hasW_list h1;obtain⟨ns,rfl⟩:=items_int h3;have hlen:ns.length<=n:=by
  have h4:(WTm.not<|.lt (.lit<|.int (n:Int))<|.len<|.arg 0).holds [] {args:=[.list<|ns.map .int]}=am:=by
   have h4:=(holds_andW hc).1;rw[hn]at h4;exact h4
  have h5:=condW_of h4<|w_not<|w_lt w_lit<|w_len_list<|w_arg rfl;rw[ay]at h5;refine dH λq=>?_
  have q':(n:Int)<((ns.length:Nat):Int):=by lia
  first
   |(rw[T5 q']at h5;exact T7 h5 (by decide))
   |(simp at h5;lia)
 cases hwl with
 |cons w1 w2=>
  cases w2;cases w1 with|list ho hall=>exact#[_,_,ns,rfl,rfl,ho,W5 ns _ hall,hlen]
def xm(l:OpenLaw)(args:List WData):l.row.toRowW.claim.post args (.bool am) args=am:=
 postW_of
  (by first|rfl|decide|simp[WShape.has,WShape.arms,WShape.armsAll])
  (w_eq_bool (w_res rfl) w_lit) rfl
def JQ{l:OpenLaw}{n:Nat}{q:bE}{loose:List bF}{XP:(bF->Option ap)->b0->Prop}{YP:bR->b0->Prop}{d:DefRec}
  (hn:l.most=aa n)(hdf:d.params.defaults=[])
  (call:∀(w:bR)(s₀ s₁:aw)(mg mb:bF->Option ap)(fa:aL)(o:fb)(pm cd doc:ap)(a:aL)(vs:List ap)(ns:List Int),
   Ground q loose [] XP w s₀ mg mb s₁.heap->YP w s₁.heap->
   s₁.heap.get? fa=aa o->o.data=.func (docDef d.name d.params d.body d.scope pm cd doc)->s₁.heap.CodeRec cd d.name->mg d.name=aa (.ref fa)->
   s₁.heap.get? a=aa {cls:=.type "list",data:=.seq vs.toArray}->fV vs ns->ns.length<=n->s₁.gens = #[]->
   ki (aV l.prog w) k5 (.call (.ref fa) #[[.ref a],[]]) (λr s'=>r=.ok (.ret<|.bool am)/\OldK s₁.heap s'.heap/\s'.os=s₁.os/\iA s'.gens) s₁) :
  WalkO q loose XP YP l.row.toRowW d [] (λf vs=>nB f vs):=by
 intro w s₀ s₁ mg mb G Y fa o pm cd doc dV kV ho hd hcd hD hmg hg args vals as hpre hlay hrd hwl hlo;obtain rfl:dV=.none:=Dflts.none hD hdf;obtain rfl:kV=.none:=Dflts.noKw hD;obtain⟨a,vs,ns,rfl,rfl,hobj,hints,hlen⟩:=xr hn hpre hwl;refine enter_call<|fR (call w s₀ s₁ mg mb fa o pm cd doc a vs ns G Y ho (fd_plain hd) hcd hmg hobj hints hlen hg) λr s' hq=>?_
 obtain⟨rfl,h2,h3,h4⟩:=hq;exact#[.inl #[.bool am,.bool am,[],rfl,λ_=>rfl,.bool am,xm l _,λ_=>#[iF,λ_ hm=>(nomatch hm)]],h2,h3,h4]
end Att
namespace L2
open PySem PySem.Spec PyProof.Rows
theorem YQ:∀{vs:List ap}{ns:List Int},fV vs ns->Vals (ns.map V.int) vs
 |_,_,.nil=>.nil
 |_,_,.cons n t h=>.cons #[t,rfl]<|YQ h
def Only(H:Hp):Prop:=∀b,H b=ae\/∃o xs,H b=aa (.frz o<|.lst xs)
def uL{P:bE}{w:bR}{K:ao}{mg mb:bF->Option ap}{CX:CXT}{k:Nat}{fa a:aL}{fd:cT}{x:bF}{sp:Sp}{s₁:aw}{vs:List ap}{ns:List Int}
  (KX:K.In s₁.heap)(hns:s₁.heap.Ns cy mg)(hb:s₁.heap.Ns lz mb)(hbb:∀x:bF,x≠"__name__"->mb x=dr x)(hlim:s₁.heap.NoLimit)(hg:s₁.gens = #[])
  (ha:s₁.heap.get? a=aa {cls:=.type "list",data:=.seq vs.toArray})(hi:fV vs ns)(hl:ns.length<=ba)(hr:Room k k5)
  (F:∀base:b0,K.In base->base.Ns cy mg->FnOk P w K mg base CX k fa fd [x] sp)(hbind:∀(s:aw)(u:ap),lR s fd #[[u],[]] [(x,u)])
  (hsp:∀H:Hp,Only H->SqL K H a (ns.map V.int)->sp [.ref a] H (λv _=>v=.bl am) λ_ _ _=>False)
  (hCX:∀H e s',CX [] H s₁ (λ_ _ _=>False) e s'->False) :
  ki (aV P w) k5 (.call (.ref fa) #[[.ref a],[]]) (λr s'=>r=.ok (.ret<|.bool am)/\OldK s₁.heap s'.heap/\s'.os=s₁.os/\iA s'.gens) s₁:=by
 have rv:=YQ hi;have lenV:=hi.length;have core:∀H:Hp,Only H->SqL K H a (ns.map V.int)->HOk P w H s₁.heap->(∀b,H b≠ae->b=a)->(H a≠ae->K.lookup a=ae)->
   ki (aV P w) k5 (.call (.ref fa) #[[.ref a],[]]) (λr s'=>r=.ok (.ret<|.bool am)/\OldK s₁.heap s'.heap/\s'.os=s₁.os/\iA s'.gens) s₁:=by
  intro H hO hS hok hA hK;have base_of:∀{b:aL}{o:fb},s₁.heap.get? b=aa o->H b=ae->(QR s₁.heap H).get? b=aa o:=λe n=>uk e n
  have noA:∀{b:aL}{o:fb}{es:Array fe}{ep:Nat},s₁.heap.get? b=aa o->o.data=.dict es ep->H b=ae:=λ{b o es ep} e d=>by
   cases q:H b with
   |none=>rfl
   |some u=>
    have e':b=a:=hA b (by rw[q];simp)
    subst e';rw[ha]at e;cases e;have d':Data.seq vs.toArray _=Data.dict es ep:=d;cases d'
  have nsK:∀{b:aL}{m:bF->Option ap},s₁.heap.Ns b m->(QR s₁.heap H).Ns b m:=λ{b m} #[o,es,ep,e,d,r]=>#[o,es,ep,base_of e<|noA e d,d,r]
  have hKb:K.In (QR s₁.heap H):=λb o e=>base_of (KX b o e) (by
   cases q:H b with
   |none=>rfl
   |some u=>
    have e':b=a:=hA b (by rw[q];simp)
    subst e';rw[hK<|by rw[q];simp]at e;cases e)
  have hM:Mod K mg (QR s₁.heap H):=#[hKb,nsK hns,#[mb,nsK hb,hbb],let #[mc,h1,h2]:=hlim;#[mc,nsK h1,h2]];have e0:Env0 P w K mg (QR s₁.heap H) k5 [] s₁ H:=#[rfl,hM,λb o e=>jq e,lZ<|yE _ _,trivial,λb hb=>T7 (show b∈([]:List aL)from hb) (by simp),hok,.of_eq hg]
  refine fR ((F _ hKb<|nsK hns).run k5 [] s₁ H #[[.ref a],[]] [.ref a] [.ref a] _ _ hr e0 (hbind s₁<|.ref a) (.cons rfl .nil)<|hsp H hO hS) λr s' h=>?_
  cases r with
  |error e=>exact(hCX H e s' h).elim
  |ok fl=>
   cases fl with
   |next=>exact False.elim h
   |brk=>exact False.elim h
   |cont=>exact False.elim h
   |ret u=>
    obtain⟨v,H',os,bare,un,hok',r',q⟩:=h;have q':v=.bl am:=q;subst q';obtain rfl:u=cX am:=r';refine#[rfl,OldK.of_keep λb o e=>?_,os,bare]
    cases q:H b with
    |none=>exact un.keep b o e q (by intro z;exact T7 (show b∈([]:List aL)from z)<|by simp) (by simp)
    |some u=>
     rcases hO b with z|⟨ob,xs,z⟩
     .rw[q]at z;cases z
     .have z2:=un.frzs b ob _ z
      obtain⟨e1,_⟩:=hok b _ z;obtain⟨e2,_⟩:=hok' b _ z2;rw[e]at e1;cases e1;exact e2
 cases hk:K.lookup a with
 |some o=>
  have e:=KX a o hk;rw[ha]at e;cases e;refine core (λ_=>ae) (λ_=>.inl rfl) (.inr #[_,vs.toArray,_,hk,rfl,rfl,rfl,by rw[ax,lenV];exact hl,by simpa using rv]) (λb u z=>by have z':(ae:Option HO)=aa u:=z;cases z') (λb z=>T7 rfl z) λz=>T7 rfl z
 |none=>
  refine core (λb=>if b=a then aa (.frz {cls:=.type "list",data:=.seq vs.toArray}<|.lst<|ns.map V.int)else ae) (λb=>?_) (.inl<|.inr #[{cls:=.type "list",data:=.seq vs.toArray},T9 rfl]) (λb u z=>?_) (λb z=>?_) λ_=>hk
  .by_cases hb:b=a
   .exact .inr #[_,_,T9 hb]
   .exact .inl<|T8 hb
  .by_cases hb:b=a
   .have z':=(T9 hb).symm.trans z
    cases z';subst hb;exact#[ha,by rw[ay];exact hl,vs,_,rv,ha]
   .have z':=(T8 hb).symm.trans z
    cases z'
  .by_cases hb:b=a
   .exact hb
   .exact T7 (T8 hb) z
def jO{l:kz}{n k:Nat}{q:bE}{loose:List bF}{XP:(bF->Option ap)->b0->Prop}{YP:bR->b0->Prop}{d:DefRec}{K:Params->ao}{CX:bR->CXT}{sp:bR->Sp}{x:bF}
  (hn:l.most=aa n)(hn2:n<=ba)(hdf:d.params.defaults=[])(hr:Room k k5)
  (hY:∀(w:bR)(h:b0),YP w h->(K w.params).In h)
  (F:∀(w:bR)(mg:bF->Option ap)(fa:aL)(h:b0),(K w.params).In h->h.Ns cy mg->mg d.name=aa (.ref fa)->
   ∃fd:cT,(∀(s:aw)(u:ap),lR s fd #[[u],[]] [(x,u)])/\
    ∀base:b0,(K w.params).In base->base.Ns cy mg->FnOk l.prog w (K w.params) mg base (CX w) k fa fd [x] (sp w))
  (hsp:∀(w:bR)(H:Hp)(a:aL)(ns:List Int),ns.length<=n->Only H->SqL (K w.params) H a (ns.map V.int)->sp w [.ref a] H (λv _=>v=.bl am) λ_ _ _=>False)
  (hCX:∀(w:bR)(H:Hp)(s:aw)(e:ap)(s':aw),CX w [] H s (λ_ _ _=>False) e s'->False) :
  nR q loose XP YP l.row.toRowW d [] (λf vs=>nB f vs):=by
 refine Att.JQ hn hdf λw s₀ s₁ mg mb fa o pm cd doc a vs ns G Y ho hd hcd hmg hobj hints hlen hg=>?_
 have KX:=hY w _ Y;obtain⟨fd,hb,hF⟩:=F w mg fa _ KX G.T.g hmg;exact uL KX G.T.g G.T.b G.T.builtins G.T.nolimit hg hobj hints (bU hlen hn2) hr hF hb (λH hO hS=>hsp w H a ns hlen hO hS) λH e s'=>hCX w H s₁ e s'
noncomputable def YB(s:fw):Arguments:=match s with
 |.FunctionDef _ a _ _ _ _ _ _ _ _=>a
 |_=>{posonlyargs:=[],args:=[],vararg:=ae,kwonlyargs:=[],kw_defaults:=[],kwarg:=ae,defaults:=[]}
noncomputable def Z8(s:fw):List fw:=match s with
 |.FunctionDef _ _ b _ _ _ _ _ _ _=>b
 |_=>[]
noncomputable def Zu(s:fw):eA:=match s with
 |.FunctionDef _ _ _ _ _ _ sc _ _ _=>sc
 |_=>{kind:=.function,names:=[],isGenerator:=aj,isCoroutine:=aj}
noncomputable abbrev CX0:CXT:=λ_ _ _ _ _ _=>False
noncomputable abbrev E0:XK:=λ_ _ _=>False
def ZaH{X:Cx}:G8 CX0 X E0:=λ_ _ _ _ _ _ _ h=>h.elim
structure Fun(K:ao)(x qual:bF)(st:fw)(f:aL)(fd:cT):Prop where
 ex:∃(oc:ap)(od:Option aL)(kV doc pm:ap)(an:Option aL)(cdv ct:ap)(osl:Array (Option ap)),
  fd=dE x qual (YB st) (Z8 st) (Zu st) .none kV doc pm an cdv ct/\K.lookup f=aa #[oc,od,.func fd,osl]/\gV K cdv qual=am
 kp:fS K (.ref f)=am
section
variable{P:bE}{w:bR}{K:ao}{mg:bF->Option ap}{base:b0}
def Fun.ok{x qual:bF}{st:fw}{f:aL}{fd:cT}{N ps:List bF}{k:Nat}{sp:Sp}(F:Fun K x qual st f fd)(S:FnScope N ps (Zu st))(len:∀vs H Q E,sp vs H Q E->vs.length=ps.length)
  (hbody:∀(cdv:ap)(A:cQ)(outer:List Env)(s:aw)(H:Hp)(vs:List V)(Q:VK)(E:XK),Room k (A.deeper<|gU qual (Zu st) s.heap.objs.size f cdv)->sp vs H Q E->
   ∃t,PSs (Js CX0 P w K mg base N qual (Zu st) f cdv A outer s H E).nox (Z8 st) t/\t {nx:=λ_ H'=>Q .non H',rt:=Q} (start N vs) H):FnOk P w K mg base CX0 (k+1) f fd ps sp:=by
 obtain⟨oc,od,kV,doc,pm,an,cdv,ct,osl,rfl,lk,hcd⟩:=F.ex;refine ZcA lk hcd S len λA outer s H vs Q E hr hsp=>?_
 obtain⟨t,h,q⟩:=hbody cdv A outer s H vs Q E hr hsp;exact#[t,h.nox,q]
def Fun.binds{x qual:bF}{st:fw}{f:aL}{fd:cT}{ps:List bF}(F:Fun K x qual st f fd)
  (h:∀(kV doc pm:ap)(an:Option aL)(cdv ct:ap)(us:List ap),us.length=ps.length->nz (dE x qual (YB st) (Z8 st) (Zu st) .none kV doc pm an cdv ct) #[us,[]]=c0 (ps.zip us)):Vq K fd ps []:=by
 obtain⟨oc,od,kV,doc,pm,an,cdv,ct,osl,rfl,lk,hcd⟩:=F.ex;exact .all<|h kV doc pm an cdv ct
def Za5{x qual:bF}{st:fw}{f:aL}{oc:ap}{od an:Option aL}{osl:Array (Option ap)}{kV doc pm cdv ct:ap}(l:K.lookup f=aa #[oc,od,.func<|dE x qual (YB st) (Z8 st) (Zu st) .none kV doc pm an cdv ct,osl])
  (c:gV K cdv qual=am)(k:fS K (.ref f)=am):Fun K x qual st f (dE x qual (YB st) (Z8 st) (Zu st) .none kV doc pm an cdv ct):=#[#[oc,od,kV,doc,pm,an,cdv,ct,osl,rfl,l,c],k]
end
section
variable{κ:Type}[DecidableEq κ]
noncomputable def W3(kvs:List (κ×V))(k:κ):Option V:=(kvs.find? λkv=>ag<|kv.1=k).map (·.2)
noncomputable def XQ(kvs:List (κ×V))(k:κ)(v:V):List (κ×V):=
 if(kvs.any λkv=>ag<|kv.1=k)=am then kvs.map (λkv=>if kv.1=k then(kv.1,v)else kv)else kvs++[(k,v)]
def Vo{p:κ×V}{r:List (κ×V)}{k:κ}(e:p.1=k):W3 (p::r) k=aa p.2:=by simp[W3,dU,e]
def VF{p:κ×V}{r:List (κ×V)}{k:κ}(e:¬p.1=k):W3 (p::r) k=W3 r k:=by simp[W3,dU,e]
theorem Xf(k:κ):∀kvs:List (κ×V),(kvs.any λkv=>ag<|kv.1=k)=(W3 kvs k).isSome
 |[]=>rfl
 |p::r=>by
  rw[eJ];by_cases e:p.1=k
  .simp only[Vo e,T5 e,Bool.true_or,lI]
  .rw[VF e,T4 e,gu];exact Xf k r
theorem WQ(kvs:List (κ×V))(k:κ)(v:V):(XQ kvs k v).length<=kvs.length+1:=by
 unfold XQ;split
 .rw[ay];lia
 .rw[a7,aO,List.length_nil];lia
def uE{kvs:List (κ×V)}{k:κ}(v:V)(h:W3 kvs k=ae):XQ kvs k v=kvs++[(k,v)]:=by
 unfold XQ;rw[Xf,h];exact T8 (by decide)
def Gk.isSome_eq(r:Gk o u):o.isSome=u.isSome:=by
 cases o with
 |none=>cases u with|none=>rfl|some _=>exact(r).elim
 |some _=>cases u with|none=>exact(r).elim|some _=>rfl
def KV.val{kvs:List (κ×V)}{vs:List (κ×ap)}(r:KV kvs vs)(k:κ):Gk (W3 kvs k) (l0 vs k):=by
 unfold KV at r
 induction r with
 |nil=>exact dM
 |@cons p q ps qs h t ih=>
  obtain⟨h1,h2⟩:=h;by_cases e:p.1=k
  .have e':=h1.symm.trans e
   have b:l0 (q::qs) k=aa q.2:=by simp[l0,dU,e']
   rw[Vo e,b];exact h2
  .have e':¬q.1=k:=λz=>e (h1.trans z)
   have b:l0 (q::qs) k=l0 qs k:=by simp[l0,dU,e']
   rw[VF e,b];exact ih
theorem KV.any(r:KV kvs vs)(k:κ):(kvs.any λkv=>ag<|kv.1=k)=vs.any λkv=>ag (kv.1=k):=by
 unfold KV at r
 induction r with|nil=>rfl|cons h t ih=>rw[eJ,eJ,ih,h.1]
def KV.repl(r:KV kvs vs)(k:κ)(ry:Zv y u) :
  KV (kvs.map λkv=>if kv.1=k then(kv.1,y)else kv) (vs.map λkv=>if kv.1=k then(kv.1,u)else kv):=by
 unfold KV at r ⊢
 induction r with
 |nil=>exact .nil
 |@cons p q ps qs h t ih=>
  rw[bf,bf];refine .cons ?_ ih;obtain⟨h1,h2⟩:=h;by_cases e:p.1=k
  .rw[T9 e,T9<|h1.symm.trans e];exact#[h1,ry]
  .rw[T8 e,T8 λz=>e<|h1.trans z];exact#[h1,h2]
def KV.put(r:KV kvs vs)(k:κ)(ry:Zv y u):KV (XQ kvs k y) (stored vs k u):=by
 unfold XQ stored;rw[r.any k];by_cases e:(vs.any λkv=>ag<|kv.1=k)=am
 .rw[T9 e,T9 e];exact r.repl k ry
 .rw[T8 e,T8 e];exact Paired.snoc r #[rfl,ry]
theorem KV.length{kvs:List (κ×V)}{vs:List (κ×ap)}(r:KV kvs vs):kvs.length=vs.length:=Paired.length r
end
def zG(r:Zv (kV k) u):(ZV P w).is k u=am:=by
 cases k with|inl i=>obtain⟨t,e⟩:=(r);subst e;exact JN P w i t|inr x=>obtain⟨t,e⟩:=(r);subst e;exact JZ P w x t
theorem Um :∀{ks:List Key}{us:List ap},Vals (ks.map kV) us->ItemsAre (ZV P w) ks us
 |[],_,r=>by rw[List.map_nil]at r;cases r;exact .nil
 |k::ks,_,r=>by
  rw[bf]at r;cases r with|cons h t=>exact .cons (zG h)<|Um t
abbrev KT(H:Hp):List (List Key×V)->List (List Key×aL×ap)->Prop:=Paired λp q=>p.1=q.1/\H q.2.1=aa (.tup<|p.1.map kV)/\Zv p.2 q.2.2
def KT.val{H:Hp}{kvs:List (List Key×V)}{xs:List (List Key×aL×ap)}(r:KT H kvs xs)(k:List Key):Gk (W3 kvs k) ((nC xs k).map (·.2)):=by
 induction r with
 |nil=>exact dM
 |@cons p q ps qs h t ih=>
  obtain⟨h1,_,h2⟩:=h;by_cases e:p.1=k
  .have e':=h1.symm.trans e
   have b:nC (q::qs) k=aa q.2:=by simp[nC,dU,e']
   rw[Vo e,b];exact h2
  .have e':¬q.1=k:=λz=>e (h1.trans z)
   have b:nC (q::qs) k=nC qs k:=by simp[nC,dU,e']
   rw[VF e,b];exact ih
def KT.repl{H:Hp}{kvs:List (List Key×V)}{xs:List (List Key×aL×ap)}(r:KT H kvs xs)(k:List Key){y:V}{u:ap}(ry:Zv y u) :
  KT H (kvs.map λkv=>if kv.1=k then(kv.1,y)else kv) (xs.map<|putAt k u):=by
 induction r with
 |nil=>exact .nil
 |@cons p q ps qs h t ih=>
  rw[bf,bf];refine .cons ?_ ih;obtain⟨h1,h2,h3⟩:=h;unfold putAt;by_cases e:p.1=k
  .rw[T9 e,T9<|h1.symm.trans e];exact#[h1,h2,ry]
  .rw[T8 e,T8 λz=>e<|h1.trans z];exact#[h1,h2,h3]
def KT.put{H:Hp}{kvs:List (List Key×V)}{xs:List (List Key×aL×ap)}(r:KT H kvs xs)(k:List Key){b:aL}{y:V}{u:ap}(hb:H b=aa (.tup<|k.map kV))(ry:Zv y u) :
  KT H (XQ kvs k y) (storedH xs k b u):=by
 have e:(kvs.any λkv=>ag<|kv.1=k)=(nC xs k).isSome:=by
  rw[Xf,(r.val k).isSome_eq,iG]
 unfold XQ storedH;rw[e];by_cases q:(nC xs k).isSome=am
 .rw[T9 q,T9 q];exact r.repl k ry
 .rw[T8 q,T8 q];exact Paired.snoc r #[rfl,hb,ry]
def KT.keeps{H H':Hp}{kvs:List (List Key×V)}{xs:List (List Key×aL×ap)}(r:KT H kvs xs)(ht:∀b ys,H b=aa (.tup ys)->H' b=aa (.tup ys)):KT H' kvs xs:=
 Paired.mapP r λ_ _ z=>#[z.1,ht _ _ z.2.1,z.2.2]
def ZaB(ok:HOk P w H h)(e:Rd H a u):Z3 P w H h a u:=e.ok ok
def wT(ok:HOk P w H h)(e:Rd H a (.dK kvs)):kvs.length<=ba/\(a == cI)=aj/\∃vs,KV kvs vs/\h.DictOf (ZV P w) a vs:=
 ZaB ok e
def ZcV(ok:HOk P w H h)(e:H a=aa (.dK kvs)):kvs.length<=ba/\(a == cI)=aj/\∃vs,KV kvs vs/\h.DictOf (ZV P w) a vs:=wT ok<|.inl e
def VX(ok:HOk P w H h)(e:H a=aa (.tup<|ks.map kV)):(iV<|ZV P w).is h ks a:=by
 obtain⟨_,its,r,o,h1,h2,n,h3⟩:=(ok a _ e)
 exact#[o,its.toArray,n,h1,h2,h3,by simpa using Um r]
def um(ok:HOk P w H h)(e:Rd H a (.dT kvs)):kvs.length<=ba/\(a == cI)=aj/\
  ∃xs,KT H kvs xs/\h.DictOfH (iV<|ZV P w) a xs:=by
 obtain⟨z,y,xs,r,o,es,ep,h1,h2,h3,h4,h5⟩:=(ZaB ok e)
 refine#[z,y,xs,r,o,es,ep,h1,h2,h3,h4,λx hx=>?_,h5]
 have all:∀{l:List (List Key×V)}{m:List (List Key×aL×ap)},KT H l m->∀x∈m,(iV<|ZV P w).is h x.1 x.2.1:=by
  intro l m q
  induction q with
  |nil=>intro x hx;exact nomatch hx
  |@cons p q ps qs hq t ih=>
   intro x hx;rcases az.mp hx with e|hx
   .subst e
    exact VX ok (by rw[<-hq.1];exact hq.2.1)
   .exact ih x hx
 exact all r x hx
def ZaK{kvs:List (List Key×V)}(ok:HOk P w H h)(e:H a=aa (.dT kvs)):kvs.length<=ba/\(a == cI)=aj/\
  ∃xs,KT H kvs xs/\h.DictOfH (iV<|ZV P w) a xs:=um ok<|.inl e
def DGet(H:Hp)(a:aL)(y:V)(r:Option V):Prop:=
 (∃kvs k,Rd H a (.dK kvs)/\y=kV k/\r=W3 kvs k)\/∃kvs k b,Rd H a (.dT kvs)/\y=.ref b/\H b=aa (.tup<|k.map kV)/\r=W3 kvs k
def DPut(H:Hp)(a:aL)(y v:V)(H':Hp):Prop:=
 (∃kvs k,H a=aa (.dK kvs)/\y=kV k/\kvs.length<ba/\H'=upd H a (.dK<|XQ kvs k v))\/
 ∃kvs k b,H a=aa (.dT kvs)/\y=.ref b/\H b=aa (.tup<|k.map kV)/\kvs.length<ba/\H'=upd H a (.dT<|XQ kvs k v)
def DPut.t{H:Hp}{a b:aL}{kvs:List (List Key×V)}{k:List Key}{v:V}(e:H a=aa (.dT kvs))(eb:H b=aa (.tup<|k.map kV))(hl:kvs.length<ba) :
  DPut H a (.ref b) v (upd H a<|.dT<|XQ kvs k v):=.inr #[kvs,k,b,e,rfl,eb,hl,rfl]
def Inv.big(I:Inv X pq U H s):cI<s.heap.objs.size:=by
 have h:=(I.mod.glob.keeps I.bk).lt;exact c7 (by decide) h
def Zd2{Q:ap->aw->Prop}(hu:A.units+1<dq)(I:Inv X pq U H s)(g:DGet H a y o)(ry:Zv y u)(h:∀s',Inv X pq U H s'->Q (.bool o.isSome) s') :
  aW (aV X.prog X.w) A (bY .In u<|.ref a) Q E s:=by
 rcases g with⟨kvs,k,e,ey,l⟩|⟨kvs,k,b,e,ey,eb,l⟩
 .subst ey
  obtain⟨z,hd,vs,rel,dd⟩:=wT I.hok e;refine wpAny_in_of (zG ry) hd dd.mapOf ?_;rw[<-(rel.val k).isSome_eq,<-l];exact h _<|I.tok _
 .subst ey
  cases(ry)
  obtain⟨z,hd,xs,rel,dd⟩:=um I.hok e;refine wpAny_in_heap (g7 hu) (VX I.hok eb) hd dd ?_;have q:=(rel.val k).isSome_eq;rw[iG]at q;rw[<-q,<-l];exact h _<|I.tok _
def jX{Q:ap->aw->Prop}(hu:A.units+1<dq)(I:Inv X pq U H s)(g:DGet H a y o)(ry:Zv y u)(h:∀s',Inv X pq U H s'->Q (.bool<|!o.isSome) s') :
  aW (aV X.prog X.w) A (bY .NotIn u<|.ref a) Q E s:=by
 rcases g with⟨kvs,k,e,ey,l⟩|⟨kvs,k,b,e,ey,eb,l⟩
 .subst ey
  obtain⟨z,hd,vs,rel,dd⟩:=wT I.hok e;refine wpAny_notIn_of (zG ry) hd dd.mapOf ?_;rw[<-(rel.val k).isSome_eq,<-l];exact h _<|I.tok _
 .subst ey
  cases(ry)
  obtain⟨z,hd,xs,rel,dd⟩:=um I.hok e;refine wpAny_notIn_heap (g7 hu) (VX I.hok eb) hd dd ?_;have q:=(rel.val k).isSome_eq;rw[iG]at q;rw[<-q,<-l];exact h _<|I.tok _
def Qa(I:Inv X pq U H s)(mu:Mut (H a))(hs:dD a s.heap h')(he:∃q,h'.get? a=aa q)(new:Z3 X.prog X.w (upd H a ob) h' a ob) :
  Inv X pq U (upd H a ob) {s with heap:=h',toks:=t' }:=
 I.write mu (.inl rfl) (λb q hb z=>(hs.2 b hb).trans z) he new
def ZbJ(z:kvs.length<=ba)(hd:(a == cI)=aj)(rel:KV kvs vs)(dd:h'.DictOf (ZV P w) a vs) :
  Z3 P w H' h' a (.dK kvs):=#[z,hd,vs,rel,dd]
def yz{H':Hp}{Q:Unit->aw->Prop}(hu:A.units+1<dq)(I:Inv X pq U H s)(g:DPut H a y v H')(ry:Zv y u)(rv:Zv v r)(h:∀s',Inv X pq U H' s'->Q () s') :
  aW (aV X.prog X.w) A (n5 (.ref a) u r) Q E s:=by
 rcases g with⟨kvs,k,e,ey,l,eH⟩|⟨kvs,k,b,e,ey,eb,l,eH⟩
 .subst ey eH
  obtain⟨z,hd,vs,rel,dd⟩:=ZcV I.hok e;have hz:vs.length<=ba:=by rw[<-rel.length];exact z
  have hl:(XQ kvs k v).length<=ba:=by have:=WQ kvs k v;lia
  refine wpAny_setItem_pairs (hsz:=hz) (zG ry) dd λh' dd' hs=>h _ ?_
  have he:∃q,h'.get? a=aa q:=let #[q,_,_,hq,_]:=dd';#[q,hq];exact Qa I (by rw[e];exact dM) hs he<|ZbJ hl hd (rel.put k rv) dd'
 .subst ey eH
  cases(show u=cx b from ry)
  obtain⟨z,hd,xs,rel,dd⟩:=ZaK I.hok e;have hz:xs.length<=ba:=by rw[<-Paired.length rel];exact z
  have hl:(XQ kvs k v).length<=ba:=by have:=WQ kvs k v;lia
  refine wpAny_setItem_heap (hsz:=hz) (g7 hu) (VX I.hok eb) dd λh' dd' hs=>h _ ?_
  obtain⟨q,es,ep,hq,h2,h3,h4,_,h5⟩:=dd';refine Qa I (by rw[e];exact dM) hs #[q,hq] #[hl,hd,_,(rel.put k eb rv).keeps λc ys ec=>?_,q,es,ep,hq,h2,h3,h4,h5]
  rw[Zk (Zar ec e (λz=>nomatch z))]
  exact ec
def Zdw(td ty tv:TE):TS:=λD U H=>tv U H λv H1=>td U H1 λx H2=>ty U H2 λy H3=>∃a H4,x=.ref a/\DPut H3 a y v H4/\D.nx U H4
section
variable{X:Cx}{o i e value:Expr}{pos pos' tpos:iu}{td ty tv:TE}
def Zad(hu:X.A.units+1<dq)(ho:PE X o td)(hi:PE X i ty)(hv:PE X value tv)(hs:iW value (aa<|.Subscript o i pos') pos.line X.env=c0 aj) :
  PS X (.Assign [.Subscript o i pos'] value pos) (Zdw td ty tv):=by
 intro pq s U H D I h;refine wpAny_Assign_Subscript (thn (hv pq s U H _ I h) λr s1 #[v,H1,I1,rv,q1]=>thn (ho pq s1 U H1 _ I1 q1) λu s2 #[x,H2,I2,rx,q2]=>thn (hi pq s2 U H2 _ I2 q2) λiv s3 #[y,H3,I3,ry,a,H4,ex,g,q3]=>?_) hs
 subst ex;obtain rfl:u=cx a:=rx;exact yz hu I3 g ry rv λs4 I4=>#[U,H4,I4,q3]
end
def vS(h:b0)(hb:cI<h.objs.size):Z3 P w H (h.push {cls:=.type "dict",data:=.dict #[]}) h.objs.size (.dK []):=
 #[cJ _,beq_eq_false_iff_ne.mpr<|Ne.symm<|bi hb,[],.nil,b0.DictOf.new h]
def ub(h:b0)(hb:cI<h.objs.size):Z3 P w H (h.push {cls:=.type "dict",data:=.dict #[]}) h.objs.size (.dT []):=
 #[cJ _,beq_eq_false_iff_ne.mpr<|Ne.symm<|bi hb,[],.nil,_,#[],0,aF _ rfl,#[rfl,rfl,rfl],rfl,rfl,nD]
def Zbq:TE:=λ_ H Q=>∀p,H p=ae->Q (.ref p) (upd H p<|.dK [])
section
variable{X:Cx}{pos:iu}
def wn:PE X (.Dict [] [] pos) Zbq:=λpq s U H Q I h=>
 wpAny_Dict_empty #[.ref s.heap.objs.size,_,I.laid (a:=s.heap.objs.size) (o:=.dK []) (t':=s.toks) (λ_ _ q=>au _ q) (aA _)<|vS s.heap I.big,rfl,h _<|I.hok.fresh<|aA _]
end
def za:List (TE×TE)->St->Hp->(List (V×V)->Hp->Prop)->Prop
 |[],_,H,Q=>Q [] H
 |(tk,tv)::r,U,H,Q=>tk U H λx H1=>tv U H1 λy H2=>za r U H2 λps H3=>Q ((x,y)::ps) H3
abbrev VV:List (V×V)->List (ap×ap)->Prop:=Paired λp q=>Zv p.1 q.1/\Zv p.2 q.2
def PPs(X:Cx)(pos:iu)(keys:List (Option Expr))(values:List Expr)(trs:List (TE×TE)):Prop:=
 ∀(pq:List (aL×fb))(s:aw)(U:St)(H:Hp)(Q:List (V×V)->Hp->Prop),Inv X pq U H s->za trs U H Q->
  aW (aV X.prog X.w) X.A (evalPairs<|pairTrees keys values X.env pos) (λvs s'=>∃ps H',Inv X pq U H' s'/\VV ps vs/\Q ps H') X.xe s
def qH :PPs X pos [] [] []:=λpq s U H Q I h=>pairTrees_nil_walk #[[],H,I,.nil,h]
def vG(hk:PE X k tk)(hv:PE X v tv)(hr:PPs X pos ks vs trs) :
  PPs X pos (aa k::ks) (v::vs) ((tk,tv)::trs):=λpq s U H Q I h=>
 pairTrees_cons_walk (thn (hk pq s U H _ I h) λu s1 #[x,H1,I1,rx,q1]=>thn (hv pq s1 U H1 _ I1 q1) λw2 s2 #[y,H2,I2,ry,q2]=>
  thn (hr pq s2 U H2 _ I2 q2)<|by rintro ws s3 ⟨ps,H3,I3,rel,q3⟩;exact #[(x,y)::ps,H3,I3,.cons #[rx,ry] rel,q3])
end L2
namespace Pv
open PySem (Str)
inductive V where
 |non|bl (b:Bool)|int (i:Int)|str (x:bF)|tup (xs:List V)|lst (xs:List V)|drw|dct (ks:Option (List<|List Int))|scr (ns:List Int)
 |dow (ks:List (List Int))
 deriving Inhabited
end Pv
namespace Ev
open PySem (Str)
def nos{B:Type}{P:Prop}{b:B}(h:ae=aa b):P:=by cases h
noncomputable def lim:Nat:=16777216
inductive Bop where|add|sub|mul|fdiv|mod|pow
 deriving DecidableEq
inductive Cop where|eq|ne|lt|le|gt|ge|is|isn|inn|nin
 deriving DecidableEq
inductive Ty where|int|bool|str|tuple|list|dict|cls (c:Nat)
 deriving DecidableEq
inductive Bf where|len|max2|min2|toInt|tuple|list|all|any|sum|sorted|sortedR|dictP|listD|sortedD|sortedS|rangeT|rangeL
 deriving DecidableEq
inductive Mf where|append|extend|index
 deriving DecidableEq
mutual
inductive E where
 |c (d:Pv.V)|v (i:Nat)
 |tup (es:List E)|lst (es:List E)|dnew
 |bin (op:Bop) (a b:E)|neg (a:E)|not (a:E)|and (a b:E)|or (a b:E)|ite (t a b:E)
 |cmp (op:Cop) (a b:E)|chain (o p:Cop) (a b d:E)
 |ix (a i:E)|sl (a:E) (lo hi:Option E)|rev (a:E)
 |call (f:Nat) (as:List E)|blt (f:Bf) (as:List E)|mt (m:Mf) (o:E) (as:List E)
 |isi (a:E) (ts:List Ty)
 |inT (a:E) (tab:List (Int×Int))|getT (tab:List (Int×Int)) (a:E)
 |dput1 (k v:E)
 |comp1 (cap:List Nat) (nl:Nat) (t:List Nat) (it:W) (ifs:List E) (elt:E)
 |comp2 (cap:List Nat) (nl:Nat) (t:List Nat) (it:W) (ifs:List E) (u:List Nat) (jt:W) (jfs:List E) (elt:E)
 |fi (e:E)
 |refu (w:Bool) (e:E)
 |dix (a:E) (k:Bool)
 |callF (f:Nat) (as:List E)
inductive W where
 |of (e:E)|rng1 (a:E)|rng2 (a b:E)|zip (a b:E)|enum (a:E)|rrng (a b:E)|rtup (a:E)|dk (e:E)
end
inductive Sm where
 |asg (t:List Nat) (e:E)|par (t:List Nat) (es:List E)|aug (i:Nat) (op:Bop) (e:E)|put (o i e:E)|dput (o i e:E)
 |ret (e:E)|ex (e:E)|ite (t:E) (a b:List Sm)|forr (t:List Nat) (it:W) (b:List Sm)|whl (t:E) (b:List Sm)
 |raise (c:Nat) (as:List E)|pas|brk|cnt
 |mov (i j:Nat)
 |dset (i:Nat) (e:E)|cel (i f:Nat) (as:List E) (b:List Sm)
 |retO (i:Nat)
 |dnw (i:Nat) (k:E)|forF (t:List Nat) (e:E) (b:List Sm)
 |lnw (i:Nat) (es:List E)|cat (i:Nat) (es:List E)|app (i:Nat) (e:E)
noncomputable def b2i(b:Bool):Int:=if b then 1 else 0
noncomputable def Zw:Nat:=6
noncomputable def ixN(n:Nat)(i:Int):Option Nat:=if 0<=i then(if i<n then aa i.toNat else ae)else if -(n:Int)<=i then aa (i+n).toNat else ae
noncomputable def at'{B:Type}(xs:List B)(i:Int):Option B:=(ixN xs.length i).bind λj=>xs[j]?
noncomputable def sIx(n d:Nat):Option Int->Nat
 |none=>d
 |some i=>if i<0 then(i+n).toNat else nq i.toNat n
noncomputable def fits(i:Int):Bool:=ag<|i.natAbs<2^8000
noncomputable def big:Int:=2^8000
def vZ(h:b<1073741824):b<big:=Int.lt_trans h (by decide +kernel)
noncomputable def ltI:List Int->List Int->Bool
 |[],[]=>aj
 |[],_::_=>am
 |_::_,[]=>aj
 |a::x,b::y=>if a=b then ltI x y else ag (a<b)
noncomputable def Yx(x:List Int):List (List Int)->List (List Int)
 |[]=>[x]
 |y::r=>if ltI x y then x::y::r else y::Yx x r
noncomputable def ZE:List (List Int)->List (List Int)
 |[]=>[]
 |x::r=>Yx x<|ZE r
noncomputable def Q2{B:Type}(lt:B->B->Bool)(x:B):List B->List B
 |[]=>[x]
 |y::r=>if lt x y then x::y::r else y::Q2 lt x r
noncomputable def XC{B:Type}(lt:B->B->Bool):List B->List B
 |[]=>[]
 |x::r=>Q2 lt x<|XC lt r
noncomputable def ltP:List (List Int)->List (List Int)->Bool
 |[],[]=>aj
 |[],_::_=>am
 |_::_,[]=>aj
 |a::x,b::y=>if a=b then ltP x y else ltI a b
noncomputable def ZdA(is:List Int):Bool:=ag (is.length<=1000)&&is.all λi=>ag<|-1099511627776<=i/\i<=1099511627776
noncomputable def Z4(rs:List (List Int)):Bool:=ag (rs.length<=100000)&&decide rs.Nodup&&rs.all λr=>!r.isEmpty
noncomputable def Yy(ps:List (List<|List Int)):Bool:=ag (ps.length<=100000)&&decide ps.Nodup&&(ag (ps.length<=1)||ps.all λP=>!P.isEmpty)
noncomputable def Zbo(ks:List (List Int)):Bool:=ag (ks.length<=lim)&&decide ks.Nodup
noncomputable def YO(i:Int):Bool:=ag<|-(2^62)<=i/\i<2^62
noncomputable def few(i:Int):Bool:=ag<|0<=i/\i<=1000
noncomputable def xT:Nat:=1000
noncomputable def ZaO:List bF:=["row","part","number","heads","not beside","not in","turn","lot","many","note"]
structure Fn where
 ps:Nat
 ns:Nat
 body:List Sm
end Ev
namespace Pv
open Ev
open PySem (Str)
noncomputable abbrev DS:=Int×Bool
inductive PR(B:Type) where
 |ok (a:B) (s:DS)|ex (c:Nat) (s:DS)|no
noncomputable def PR.bind{B β:Type}(r:PR B)(f:B->DS->PR β):PR β:=match r with
 |.ok a s=>f a s
 |.ex c s=>.ex c s
 |.no=>.no
noncomputable def PR.nox{B:Type}(r:PR B):PR B:=match r with
 |.ex _ _=>.no
 |r=>r
noncomputable def po{B:Type}(o:Option B)(s:DS):PR B:=match o with
 |some a=>.ok a s
 |none=>.no
abbrev Env:=List<|Option V
mutual
noncomputable def V.flat:V->Bool
 |.tup xs=>Y6 xs
 |.lst _=>aj
 |.drw=>aj
 |.dct _=>aj
 |.dow _=>aj
 |_=>am
noncomputable def Y6:List V->Bool
 |[]=>am
 |x::xs=>x.flat&&Y6 xs
end
mutual
noncomputable def ofD:V->Option V
 |.non=>aa .non
 |.bl b=>aa<|.bl b
 |.int i=>aa<|.int i
 |.str x=>aa<|.str x
 |.tup xs=>(Zdk xs).map .tup
 |_=>ae
noncomputable def Zdk:List V->Option (List V)
 |[]=>aa []
 |x::xs=>match ofD x,Zdk xs with
  |some a,aa b=>aa (a::b)
  |_,_=>ae
end
noncomputable def Zj:V->Option Bool
 |.non=>aa aj
 |.bl b=>aa b
 |.int i=>aa<|ag<|i≠0
 |.tup xs=>aa<|!xs.isEmpty
 |.lst xs=>aa<|!xs.isEmpty
 |_=>ae
noncomputable def Ye(f:V->V->Option Bool):List V->List V->Option Bool
 |[],[]=>aa am
 |x::xs,y::ys=>match f x y,Ye f xs ys with
  |some a,aa b=>aa<|a&&b
  |_,_=>ae
 |_,_=>aa aj
noncomputable def eqV:Nat->V->V->Option Bool
 |0,_,_=>ae
 |k+1,x,y=>match x with
  |.non=>match y with
   |.non=>aa am
   |.bl _|.int _|.str _=>aa aj
   |_=>ae
  |.bl a=>match y with
   |.bl b=>aa<|ag<|a=b
   |.int b=>aa<|ag<|b2i a=b
   |.non|.str _=>aa aj
   |_=>ae
  |.int a=>match y with
   |.int b=>aa<|ag<|a=b
   |.bl b=>aa<|ag<|a=b2i b
   |.non|.str _=>aa aj
   |_=>ae
  |.str a=>match y with
   |.str b=>aa<|ag<|a=b
   |.non|.bl _|.int _=>aa aj
   |_=>ae
  |.tup xs=>match y with
   |.tup ys=>Ye (eqV k) xs ys
   |_=>ae
  |.lst xs=>match y with
   |.lst ys=>if xs.length=ys.length then Ye (eqV k) xs ys else aa aj
   |_=>ae
  |_=>ae
noncomputable def XD(x:V):List V->Option Bool
 |[]=>aa aj
 |y::ys=>match eqV Zw y x,XD x ys with
  |some a,aa b=>aa (a||b)
  |_,_=>ae
noncomputable def Y4:V->Ty->Option Bool
 |.non,_=>aa aj
 |.bl _,t=>aa<|ag<|t=.bool\/t=.int
 |.int _,t=>aa<|ag<|t=.int
 |.str _,t=>aa<|ag<|t=.str
 |.tup _,t=>aa<|ag<|t=.tuple
 |.lst _,t=>aa<|ag<|t=.list
 |.dct ae,t=>aa<|ag<|t=.dict
 |_,_=>ae
noncomputable def Z6(x:V):List Ty->Option Bool
 |[]=>aa aj
 |t::ts=>match Y4 x t with
  |some am=>aa am
  |some aj=>Z6 x ts
  |none=>ae
noncomputable def Yv(xs:List V)(lo hi:Option Int):List V:=(xs.drop<|sIx xs.length 0 lo).take<|sIx xs.length xs.length hi-sIx xs.length 0 lo
noncomputable def uq(op:Bop)(a b:Int)(s:DS):PR V:=match op with
 |.add=>.ok (.int<|a+b) s
 |.sub=>.ok (.int<|a-b) s
 |.mul=>if(fits a&&fits b)=am then .ok (.int<|a*b) s else .no
 |.fdiv=>if 0<b/\b<Ev.big then .ok (.int<|a / b) s else .no
 |.mod=>if 0<b then .ok (.int<|a%b) s else .no
 |.pow=>if 0<=b/\b<=1000/\a.natAbs<2^64 then .ok (.int<|a^b.toNat) s else .no
noncomputable def YF(op:Bop)(x y:V)(s:DS):PR V:=match x with
 |.int a=>match y with
  |.int b=>uq op a b s
  |_=>.no
 |.tup a=>match y with
  |.tup b=>match op with
   |.add=>if a.length+b.length<=lim then .ok (.tup<|a++b) s else .no
   |_=>.no
  |.int b=>match op with
   |.mul=>if 0<=b/\b<1000/\a.length<=1000 then .ok (.tup (aB b.toNat a).flatten) s else .no
   |_=>.no
  |_=>.no
 |.lst a=>match y with
  |.lst b=>match op with
   |.add=>if a.length+b.length<=lim then .ok (.lst<|a++b) s else .no
   |_=>.no
  |.int b=>match op with
   |.mul=>if 0<=b/\b<1000/\a.length<=1000 then .ok (.lst (aB b.toNat a).flatten) s else .no
   |_=>.no
  |_=>.no
 |_=>.no
noncomputable def ZdH(op:Bop)(x y:V)(s:DS):PR V:=match x,y with
 |.int _,.int _=>YF op x y s
 |_,_=>.no
noncomputable def intsV:List V->Option (List Int)
 |[]=>aa []
 |.int i::r=>(intsV r).map (i :: ·)
 |_::_=>ae
noncomputable def WW(x y:V):Option Bool:=match y with
 |.tup ys=>XD x ys
 |.lst ys=>XD x ys
 |.dct (aa ks)=>match x with
  |.tup k=>(intsV k).map λk=>ks.contains k
  |_=>ae
 |.dow ks=>match x with
  |.tup k=>(intsV k).map λk=>ks.contains k
  |_=>ae
 |_=>ae
noncomputable def WU:V->Bool
 |.non=>am
 |_=>aj
noncomputable def Zb(r:List Int):V:=.tup<|r.map .int
noncomputable def Z0:List V->Option (List<|List Int)
 |[]=>aa []
 |.tup x::r=>match intsV x,Z0 r with
  |some a,aa b=>aa (a::b)
  |_,_=>ae
 |_::_=>ae
noncomputable def int2(x y:V):Option (Int×Int):=match x with
 |.int a=>match y with
  |.int b=>aa (a,b)
  |_=>ae
 |_=>ae
noncomputable def isV(x y:V):Option Bool:=match y with
 |.non=>aa<|WU x
 |.bl b=>match x with
  |.bl a=>aa<|ag<|a=b
  |_=>ae
 |_=>ae
noncomputable def Yk(op:Cop)(x y:V):Option V:=match op with
 |.eq=>(eqV Zw x y).map .bl
 |.ne=>(eqV Zw x y).map λb=>.bl !b
 |.lt=>match x with
  |.tup a=>match y with
   |.tup b=>(Z0 a).bind λP=>(Z0 b).map λQ=>.bl<|ltP P Q
   |_=>ae
  |x=>(int2 x y).map λz=>.bl<|ag<|z.1<z.2
 |.gt=>(int2 x y).map λz=>.bl<|ag<|z.2<z.1
 |.le=>(int2 x y).map λz=>.bl<|ag<|z.1<=z.2
 |.ge=>(int2 x y).map λz=>.bl<|ag<|z.2<=z.1
 |.is=>(isV x y).map .bl
 |.isn=>(isV x y).map λb=>.bl !b
 |.inn=>(WW x y).map .bl
 |.nin=>(WW x y).map λb=>.bl !b
noncomputable def ixV(x y:V):Option V:=match x,y with
 |.tup xs,.int i=>at' xs i
 |.lst xs,.int i=>at' xs i
 |.scr xs,.int i=>(at' xs i).map .int
 |_,_=>ae
noncomputable def slV(x:V)(lo hi:Option Int):Option V:=match x with
 |.tup xs=>aa<|.tup<|Yv xs lo hi
 |.lst xs=>aa<|.lst<|Yv xs lo hi
 |_=>ae
noncomputable def Zcy:V->Option V
 |.tup xs=>aa<|.tup xs.reverse
 |_=>ae
noncomputable def Vf:V->Option Bool
 |.non=>aa aj
 |.bl b=>aa b
 |.int i=>aa<|ag<|i≠0
 |_=>ae
noncomputable def ZQ:List V->Option (List Bool)
 |[]=>aa []
 |x::xs=>match Vf x,ZQ xs with
  |some b,aa bs=>aa (b::bs)
  |_,_=>ae
noncomputable def Zr(P:List (List Int)):V:=.tup<|P.map Zb
noncomputable def ZaP:V->Option (List<|List Int)
 |.tup ks=>Z0 ks
 |_=>ae
noncomputable def wp:List V->Option (List<|List<|List Int)
 |[]=>aa []
 |x::r=>match ZaP x,wp r with
  |some a,aa b=>aa (a::b)
  |_,_=>ae
noncomputable def ZdV:List V->Bool
 |.tup (.int _::_)::_=>am
 |_=>aj
noncomputable def Ym:V->Option (List V)
 |.tup xs=>aa xs
 |.lst xs=>aa xs
 |.scr ns=>aa<|ns.map .int
 |_=>ae
noncomputable def Zdf:V->Option (List V)
 |.dct (aa ks)=>aa<|ks.map Zb
 |_=>ae
noncomputable def ZS(lo:Int)(n:Nat):List V:=(aK n).map λ(k:Nat)=>.int<|lo+(k:Int)
noncomputable def Zc8:V->Option (List Int)
 |.tup [.tup k,.bl b]=>if b=am then intsV k else ae
 |_=>ae
noncomputable def v7:List V->Option (List<|List Int)
 |[]=>aa []
 |v::r=>(Zc8 v).bind λa=>(v7 r).map (a :: ·)
noncomputable def XJ:List V->Option (List Nat)
 |[]=>aa []
 |.int i::r=>if 0<=i/\i<6 then(XJ r).map (i.toNat :: ·)else ae
 |_=>ae
noncomputable def blt1(f:Bf)(x:V):Option V:=match f with
 |.len=>(Ym x).map λxs=>.int xs.length
 |.toInt=>match x with
  |.int a=>aa<|.int a
  |.bl b=>aa<|.int<|b2i b
  |_=>ae
 |.tuple=>(Ym x).map .tup
 |.list=>(Ym x).map .lst
 |.all=>match x with
  |.lst xs=>(ZQ xs).map λbs=>.bl<|bs.all id
  |_=>ae
 |.any=>(Ym x).bind λxs=>(ZQ xs).map λbs=>.bl<|bs.any id
 |.sum=>match x with
  |.lst xs=>(intsV xs).bind λis=>if ZdA is=am then aa (.int is.sum)else ae
  |_=>ae
 |.sorted=>match x with
  |.lst xs=>if ZdV xs=am then(Z0 xs).bind λrs=>if Z4 rs=am then aa (.lst<|(ZE rs).map Zb)else ae else(wp xs).bind λps=>if Yy ps=am then aa (.lst<|(XC ltP ps).map Zr)else ae
  |_=>ae
 |.sortedR=>match x with
  |.lst xs=>(Z0 xs).bind λrs=>if Z4 rs=am then aa (.lst<|(ZE rs).reverse.map Zb)else ae
  |_=>ae
 |.rangeT=>match x with
  |.int i=>if few i then aa (.tup<|ZS 0 i.toNat)else ae
  |_=>ae
 |.rangeL=>match x with
  |.int i=>if few i then aa (.lst<|ZS 0 i.toNat)else ae
  |_=>ae
 |.listD=>match x with
  |.dow ks=>aa<|.lst<|ks.map Zb
  |_=>ae
 |.sortedD=>match x with
  |.dow ks=>if Z4 ks=am then aa (.lst<|(ZE ks).map Zb)else ae
  |_=>ae
 |.sortedS=>match x with
  |.lst xs=>(XJ xs).map λks=>.lst (((aK 6).filter ks.contains).map λk:Nat=>.int k)
  |_=>ae
 |.dictP=>match x with
  |.lst xs=>(v7 xs).bind λks=>if Zbo ks=am then aa (.dct<|aa ks)else ae
  |_=>ae
 |_=>ae
noncomputable def blt2(f:Bf)(x y:V):Option V:=match x,y with
 |.int a,.int b=>match f with
  |.max2=>aa<|.int (if b>a then b else a)
  |.min2=>aa<|.int (if b<a then b else a)
  |_=>ae
 |_,_=>ae
noncomputable def Xh(f:Bf)(as:List V):Option V:=match as with
 |[x]=>blt1 f x
 |[x,y]=>blt2 f x y
 |_=>ae
noncomputable def Yz:List Nat->List V->Env->Option Env
 |[],[],O=>aa O
 |i::t,x::xs,O=>Yz t xs<|O.set i<|aa x
 |_,_,_=>ae
noncomputable def wJ:V->Option (List V)
 |.tup xs=>aa xs
 |.lst xs=>aa xs
 |_=>ae
noncomputable def Ze(t:List Nat)(x:V)(O:Env):Option Env:=match t with
 |[i]=>aa<|O.set i<|aa x
 |t=>match wJ x with
  |some xs=>Yz t xs O
  |none=>ae
abbrev Zo:=Nat->List V->DS->PR V
noncomputable def ZP(cap:List Nat)(nl:Nat)(O:Env):Env:=aB nl ae++cap.map λi=>(O[i]?).join
noncomputable def mapP(f:V->DS->PR (List V)):List V->DS->PR (List V)
 |[],s=>.ok [] s
 |x::xs,s=>match f x s with
  |.ok ys s=>match mapP f xs s with
   |.ok zs s=>.ok (ys++zs) s
   |_=>.no
  |_=>.no
noncomputable def ZdI(w:Bool)(c:Nat):V:=if w then .str (ZaO.getD c "")else .int c
noncomputable def own(nl:Nat)(t:List Nat):Bool:=t.all λi=>ag<|i<nl
noncomputable def own2(nl:Nat)(t u:List Nat):Bool:=own nl t&&u.all λi=>ag (i<nl) && !t.contains i
mutual
noncomputable def pv(C:Zo):E->Env->DS->PR V
 |.c d,_,s=>po (ofD d) s
 |.v i,O,s=>po (O[i]?).join s
 |.tup es,O,s=>(pvs C es O s).bind λxs s=>if xs.length<=lim then .ok (.tup xs) s else .no
 |.lst es,O,s=>(pvs C es O s).bind λxs s=>if xs.length<=lim then .ok (.lst xs) s else .no
 |.dnew,_,s=>.ok (.dct ae) s
 |.dput1 k v,O,s=>(pv C k O s).bind λx s=>(pv C v O s).bind λy s=>match x,y with
  |.int _,.int _=>.ok (.dct ae) s
  |_,_=>.no
 |.bin op a b,O,s=>(pv C a O s).bind λx s=>(pv C b O s).bind λy s=>YF op x y s
 |.neg a,O,s=>(pv C a O s).bind λx s=>match x with
  |.int i=>.ok (.int<|-i) s
  |_=>.no
 |.not a,O,s=>(pv C a O s).bind λx s=>(po (Zj x) s).bind λb s=>.ok (.bl !b) s
 |.and a b,O,s=>(pv C a O s).bind λx s=>match x with
  |.bl c=>if c then pv C b O s else .ok (.bl aj) s
  |_=>.no
 |.or a b,O,s=>(pv C a O s).bind λx s=>match x with
  |.bl c=>if c then .ok (.bl am) s else pv C b O s
  |_=>.no
 |.ite t a b,O,s=>(pv C t O s).bind λx s=>(po (Zj x) s).bind λc s=>if c then pv C a O s else pv C b O s
 |.cmp op a b,O,s=>(pv C a O s).bind λx s=>(pv C b O s).bind λy s=>po (Yk op x y) s
 |.chain o p a b d,O,s=>(pv C a O s).bind λx s=>(pv C b O s).bind λy s=>(po (Yk o x y) s).bind λz s=>match z with
  |.bl c=>if c then(pv C d O s).bind λw s=>po (Yk p y w) s else .ok (.bl aj) s
  |_=>.no
 |.ix a i,O,s=>(pv C a O s).bind λx s=>(pv C i O s).bind λy s=>po (ixV x y) s
 |.sl a lo hi,O,s=>(pv C a O s).bind λx s=>(pvo C lo O s).bind λl s=>(pvo C hi O s).bind λh s=>po (slV x l h) s
 |.rev a,O,s=>(pv C a O s).bind λx s=>po (Zcy x) s
 |.call f as,O,s=>(pvs C as O s).bind λxs s=>C f xs s
 |.blt f as,O,s=>(pvs C as O s).bind λxs s=>po (Xh f xs) s
 |.mt _ _ _,_,_=>.no
 |.isi a ts,O,s=>(pv C a O s).bind λx s=>(po (Z6 x ts) s).bind λb s=>.ok (.bl b) s
 |.inT a tab,O,s=>(pv C a O s).bind λx s=>match x with
  |.int i=>.ok (.bl ((tab.map (·.1)).contains i)) s
  |_=>.no
 |.getT tab a,O,s=>(pv C a O s).bind λx s=>match x with
  |.int i=>(po (tab.lookup i) s).bind λj s=>.ok (.int j) s
  |_=>.no
 |.comp1 cap nl t it ifs elt,O,s=>if own nl t=am then(pvw C it O s).bind λw s=>
   ((mapP (λx s=>(po (Ze t x<|ZP cap nl O) s).bind λU s=>(pvt C ifs U s).bind λb s=>if b then(pv C elt U s).bind λy s=>.ok [y] s else .ok [] s) w s).bind
    λys s=>if ys.length<=lim then .ok (.lst ys) s else .no).nox
  else .no
 |.comp2 cap nl t it ifs u jt jfs elt,O,s=>if own2 nl t u=am then(pvw C it O s).bind λw s=>
   ((mapP (λx s=>(po (Ze t x<|ZP cap nl O) s).bind λU s=>(pvt C ifs U s).bind λb s=>if b then
    (pvw C jt U s).bind λw2 s=>mapP (λx s=>(po (Ze u x U) s).bind λU s=>(pvt C jfs U s).bind λb s=>if b then(pv C elt U s).bind λy s=>.ok [y] s else .ok [] s) w2 s
    else .ok [] s) w s).bind
    λys s=>if ys.length<=lim then .ok (.lst ys) s else .no).nox
  else .no
 |.fi a,O,s=>(pv C a O s).bind λx s=>match x with
  |.int i=>if YO i=am then .ok (.int i) s else .no
  |_=>.no
 |.refu w e,O,s=>match pv C e O s with
  |.ok _ s=>.ok .non s
  |.ex c s=>if 1<=c/\c<=10 then .ok (ZdI w<|c-1) s else .no
  |.no=>.no
 |.dix a k,O,s=>(pv C a O s).bind λx s=>match x with
  |.drw=>.ok (if k then .bl s.2 else .int s.1) s
  |_=>.no
 |.callF f as,O,s=>(pvs C as O s).bind λxs s=>C f xs s
noncomputable def pvs(C:Zo):List E->Env->DS->PR (List V)
 |[],_,s=>.ok [] s
 |e::es,O,s=>(pv C e O s).bind λx s=>(pvs C es O s).bind λxs s=>.ok (x::xs) s
noncomputable def pvo(C:Zo):Option E->Env->DS->PR (Option Int)
 |none,_,s=>.ok ae s
 |some e,O,s=>(pv C e O s).bind λx s=>match x with
  |.int i=>.ok (aa i) s
  |_=>.no
noncomputable def pvt(C:Zo):List E->Env->DS->PR Bool
 |[],_,s=>.ok am s
 |e::es,O,s=>(pv C e O s).bind λx s=>(po (Zj x) s).bind λb s=>if b then pvt C es O s else .ok aj s
noncomputable def pvw(C:Zo):W->Env->DS->PR (List V)
 |.rng1 a,O,s=>(pv C a O s).bind λx s=>match x with
  |.int i=>if YO i then .ok (ZS 0 i.toNat) s else .no
  |_=>.no
 |.rng2 a b,O,s=>(pv C a O s).bind λx s=>(pv C b O s).bind λy s=>match x,y with
  |.int i,.int j=>if(YO i&&YO j)=am then .ok (ZS i (j-i).toNat) s else .no
  |_,_=>.no
 |.rrng a b,O,s=>(pv C a O s).bind λx s=>(pv C b O s).bind λy s=>match x,y with
  |.int i,.int j=>if(YO i&&YO j)=am then .ok (ZS i (j-i).toNat).reverse s else .no
  |_,_=>.no
 |.rtup a,O,s=>(pv C a O s).bind λx s=>match x with
  |.tup xs=>.ok xs.reverse s
  |_=>.no
 |.zip a b,O,s=>(pv C a O s).bind λx s=>(pv C b O s).bind λy s=>match Ym x,Ym y with
  |some v,aa w=>.ok ((v.zip w).map λp=>.tup [p.1,p.2]) s
  |_,_=>.no
 |.enum a,O,s=>(pv C a O s).bind λx s=>match Ym x with
  |some w=>.ok (((ZS 0 w.length).zip w).map λp=>.tup [p.1,p.2]) s
  |none=>.no
 |.of e,O,s=>(pv C e O s).bind λx s=>po (Ym x) s
 |.dk e,O,s=>(pv C e O s).bind λx s=>po (Zdf x) s
end
inductive FlV where|nx (O:Env) (os:List Nat)|ret (v:V)|brk (O:Env) (os:List Nat)|cnt (O:Env) (os:List Nat)
noncomputable def hide(os:List Nat)(O:Env):Env:=O.mapIdx λi o=>if os.contains i then ae else o
noncomputable def fresh:E->Bool
 |.lst _=>am
 |.comp1 .. => am
 |.comp2 .. => am
 |.bin .mul (.lst _) _=>am
 |.blt .list _=>am
 |.blt .sorted _=>am
 |.blt .rangeL _=>am
 |.blt .listD _=>am
 |.blt .sortedD _=>am
 |.blt .sortedS _=>am
 |.callF _ _=>am
 |_=>aj
noncomputable def Jx:V->Bool
 |.lst xs=>Y6 xs
 |_=>aj
noncomputable def pvA(C:Zo)(e:E)(O:Env)(os:List Nat)(s:DS):PR V:=match os with
 |[]=>pv C e O s
 |os=>match pv C e (hide os O) s with
  |.ok v s=>.ok v s
  |.ex c s=>.ex c s
  |.no=>(pv C e O s).bind λv s=>if(v.flat||fresh e&&Jx v)=am then .ok v s else .no
noncomputable def ZdP(C:Zo)(es:List E)(O:Env)(os:List Nat)(s:DS):PR (List V):=match os with
 |[]=>pvs C es O s
 |os=>match pvs C es (hide os O) s with
  |.ok v s=>.ok v s
  |.ex c s=>.ex c s
  |.no=>(pvs C es O s).bind λv s=>if Y6 v then .ok v s else .no
noncomputable def Xz(C:Zo)(e:E)(O:Env)(s:DS):PR Bool:=(pv C e O s).bind λx s=>po (Zj x) s
noncomputable def YK(body:V->Env->List Nat->DS->PR FlV):List V->Env->List Nat->DS->PR FlV
 |[],O,os,s=>.ok (.nx O os) s
 |x::xs,O,os,s=>(body x O os s).bind λf s=>match f with
  |.nx O os=>YK body xs O os s
  |.cnt O os=>YK body xs O os s
  |.brk O os=>.ok (.nx O os) s
  |.ret v=>.ok (.ret v) s
noncomputable def G6(test:Env->DS->PR Bool)(body:Env->List Nat->DS->PR FlV):Nat->Env->List Nat->DS->PR FlV
 |0,_,_,_=>.no
 |n+1,O,os,s=>(test O s).bind λb s=>if b then(body O os s).bind λf s=>match f with
  |.nx O os=>G6 test body n O os s
  |.cnt O os=>G6 test body n O os s
  |.brk O os=>.ok (.nx O os) s
  |.ret v=>.ok (.ret v) s
  else .ok (.nx O os) s
noncomputable def okS(x:Int)(b:Bool):Bool:=ag (0<=x)&&(b||decide (x<2147483647))
noncomputable def Vz:V->Option DS
 |.lst [.int a,.bl b]=>if okS a b=am then aa (a,b)else ae
 |_=>ae
noncomputable def WS(o:Option V):Option V:=o.filter V.flat
noncomputable def XU(i:Nat)(O:Env):Env:=(O.take i).map WS++aB (O.length-i) ae
noncomputable def ZcS:Option (Option V)->Option (List<|List Int)
 |some (aa<|.dow ks)=>aa ks
 |_=>ae
noncomputable def Ya(ks:List (List Int))(k:List Int):List (List Int):=if ks.contains k then ks else ks++[k]
noncomputable def ZaR:V->Option (List Int)
 |.tup k=>intsV k
 |_=>ae
noncomputable def isT:V->Bool
 |.bl am=>am
 |_=>aj
noncomputable def XT:Option (Option V)->Option (List V)
 |some (aa<|.lst xs)=>aa xs
 |_=>ae
mutual
noncomputable def rv(C:Zo)(ms:List Nat):Sm->Env->List Nat->DS->PR FlV
 |.asg [i] e,O,os,s=>(pvA C e O os s).bind λv s=>if(ms.contains i&&fresh e)=am then match v with
   |.lst xs=>if Y6 xs=am/\i<O.length then .ok (.nx (O.set i<|aa v) (i::os.filter (· != i))) s else .no
   |_=>.no
  else .ok (.nx (O.set i<|aa v) (os.filter (· != i))) s
 |.asg t e,O,os,s=>(pvA C e O os s).bind λv s=>if(t.any os.contains)=am then .no else(po (Ze t v O) s).bind λO s=>.ok (.nx O os) s
 |.par t es,O,os,s=>(ZdP C es O os s).bind λvs s=>if(t.any os.contains)=am then .no else(po (Yz t vs O) s).bind λO s=>.ok (.nx O os) s
 |.aug i op e,O,os,s=>if os.contains i then .no else(po (O[i]?).join s).bind λx s=>(pv C e O s).bind λy s=>(ZdH op x y s).bind λz s=>.ok (.nx (O.set i<|aa z) os) s
 |.put (.v i) k e,O,os,s=>if os.contains i then(pv C e O s).bind λv s=>if v.flat then(po (XT O[i]?) s).bind λxs s=>(pv C k O s).bind λy s=>match y with
   |.int n=>(po (ixN xs.length n) s).bind λj s=>.ok (.nx (O.set i<|aa<|.lst<|xs.set j v) os) s
   |_=>.no
  else .no else .no
 |.put _ _ _,_,_,_=>.no
 |.dput (.v i) k e,O,os,s=>if os.contains i then(pv C e O s).bind λv s=>if isT v=am then(po (ZcS O[i]?) s).bind λks s=>(pv C k O s).bind λy s=>(po (ZaR y) s).bind λr s=>if ks.length<lim then .ok (.nx (O.set i<|aa<|.dow<|Ya ks r) os) s else .no
  else .no else .no
 |.dput _ _ _,_,_,_=>.no
 |.ret e,O,os,s=>(pv C e O s).bind λv s=>.ok (.ret v) s
 |.ex (.mt .append (.v i) [e]),O,os,s=>if os.contains i then(po (XT O[i]?) s).bind λxs s=>(pv C e O s).bind λv s=>if v.flat=am/\xs.length<lim then .ok (.nx (O.set i<|aa<|.lst<|xs++[v]) os) s else .no else .no
 |.ex (.mt .extend (.v i) [e]),O,os,s=>if os.contains i then(po (XT O[i]?) s).bind λxs s=>(pv C e (hide os O) s).bind λv s=>match v with
   |.lst ys=>if Y6 ys=am/\xs.length+ys.length<=lim then .ok (.nx (O.set i<|aa<|.lst<|xs++ys) os) s else .no
   |_=>.no
  else .no
 |.ex e,O,os,s=>(pv C e O s).bind λ_ s=>.ok (.nx O os) s
 |.ite t a b,O,os,s=>(Xz C t O s).bind λc s=>if c then rvs C ms a O os s else rvs C ms b O os s
 |.forr t it b,O,os,s=>(pvw C it (hide os O) s).bind λw s=>YK (λx O os s=>if(t.any os.contains)=am then .no else(po (Ze t x O) s).bind λO s=>rvs C ms b O os s) w O os s
 |.whl t b,O,os,s=>G6 (Xz C t) (rvs C ms b) xT O os s
 |.raise c as,O,os,s=>(pvs C as O s).bind λ_ s=>.ex c s
 |.pas,O,os,s=>.ok (.nx O os) s
 |.brk,O,os,s=>.ok (.brk O os) s
 |.cnt,O,os,s=>.ok (.cnt O os) s
 |.mov i j,O,os,s=>if(os.contains j&&(!os.contains i&&ag (i≠j)))=am then(po (XT O[j]?) s).bind λxs s=>.ok (.nx ((O.set i<|aa<|.lst xs).set j ae) (os.filter (· != j))) s else .no
 |.dset i e,O,os,s=>(pv C e O s).bind λv s=>match v with
  |.int x=>if okS x s.2=am then match(O[i]?).join with
   |some .drw=>.ok (.nx O os) (x,s.2)
   |_=>.no
   else .no
  |_=>.no
 |.cel i f as b,O,os,s=>if os.isEmpty=am then(pvs C as O s).bind λxs s=>(C f xs s).bind λv s=>(po (Vz v) s).bind λd s=>match rvs C ms b ((XU i O).set i<|aa .drw) [] d with
  |.ok (.nx O _) _=>.ok (.nx (O.map WS) []) s
  |.ok (.cnt O _) _=>.ok (.cnt (O.map WS) []) s
  |.ok (.brk O _) _=>.ok (.brk (O.map WS) []) s
  |.ok (.ret v) _=>if v.flat=am then .ok (.ret v) s else .no
  |_=>.no
  else .no
 |.retO i,O,os,s=>if os.contains i then(po (XT O[i]?) s).bind λxs s=>.ok (.ret<|.lst xs) s else .no
 |.dnw i k,O,os,s=>(pv C k O s).bind λy s=>(po (ZaR y) s).bind λr s=>if i<O.length then .ok (.nx (O.set i<|aa<|.dow [r]) (i::os.filter (· != i))) s else .no
 |.lnw i es,O,os,s=>(pvs C es (hide os O) s).bind λxs s=>if xs.length<=lim/\i<O.length then .ok (.nx (O.set i<|aa<|.lst xs) (i::os.filter (· != i))) s else .no
 |.cat i es,O,os,s=>if os.contains i then(po (XT O[i]?) s).bind λxs s=>(pvs C es (hide os O) s).bind λys s=>if ys.length<=lim/\xs.length+ys.length<=lim/\i<O.length then .ok (.nx (O.set i<|aa<|.lst<|xs++ys) (i::os.filter (· != i))) s else .no else .no
 |.app i e,O,os,s=>if os.contains i then(po (XT O[i]?) s).bind λxs s=>(pv C e (hide os O) s).bind λv s=>if xs.length<lim then .ok (.nx (O.set i<|aa<|.lst<|xs++[v]) os) s else .no else .no
 |.forF t e b,O,os,s=>(pvA C e O os s).bind λv s=>match v with
  |.lst w=>YK (λx O os s=>if(t.any os.contains)=am then .no else(po (Ze t x O) s).bind λO s=>rvs C ms b O os s) w O os s
  |_=>.no
noncomputable def rvs(C:Zo)(ms:List Nat):List Sm->Env->List Nat->DS->PR FlV
 |[],O,os,s=>.ok (.nx O os) s
 |m::ss,O,os,s=>(rv C ms m O os s).bind λf s=>match f with
  |.nx O os=>rvs C ms ss O os s
  |f=>.ok f s
end
mutual
noncomputable def zQ:Sm->List Nat
 |.put (.v i) _ _=>[i]
 |.ex (.mt .append (.v i) _)=>[i]
 |.ex (.mt .extend (.v i) _)=>[i]
 |.ite _ a b=>muts a++muts b
 |.forr _ _ b=>muts b
 |.whl _ b=>muts b
 |.cel _ _ _ b=>muts b
 |.retO i=>[i]
 |.dput (.v i) _ _=>[i]
 |.forF _ _ b=>muts b
 |_=>[]
noncomputable def muts:List Sm->List Nat
 |[]=>[]
 |m::ss=>zQ m++muts ss
end
noncomputable def ZK(n:Nat)(xs:List V):Env:=xs.map aa++aB (n-xs.length) ae
noncomputable def Xc(s:DS)(m:Int):Int×DS:=
 if s.2 then(s.1%m,(s.1 / m,am))else
  let x:=(s.1*48271+29)%2147483647
  let y:=(x*x+39373*x+7)%2147483629
  let z:=(y*y+16807*y)%2147483587
  (z / 8%m,(x,aj))
noncomputable def ZaI(vs:List V)(s:DS):PR V:=match vs with
 |[.drw,.int m]=>if 0<m/\m<1073741824 then .ok (.int (Xc s m).1) (Xc s m).2 else .no
 |_=>.no
noncomputable def Zg(F:List Fn)(tk:Nat):Nat->Zo
 |0,_,_,_=>.no
 |d+1,f,xs,s=>if f=tk then ZaI xs s else match F[f]? with
  |some fn=>if xs.length=fn.ps then(rvs (Zg F tk d) (muts fn.body) fn.body (ZK fn.ns xs) [] s).bind λf s=>match f with
    |.ret v=>.ok v s
    |.nx _ _=>.ok .non s
    |_=>.no
   else .no
  |none=>.no
end Pv
namespace Sd
open PySem PySem.Spec PyProof.Rows L2
open Ev (E Sm Fn Bop Cop Ty Bf Mf)
noncomputable abbrev D:=Pv.V
noncomputable abbrev Zn:=Pv.DS
noncomputable abbrev Lc:=Pv.Env
noncomputable abbrev R:=Pv.PR
noncomputable abbrev Calls:=Pv.Zo
structure Mx where
 K:ao
 n0:Option aL
 X:aL->Prop
 xz:∀a,n0=aa a->X a
def Scr(K:ao)(H:Hp)(a:aL)(ns:List Int):Prop:=
 (∃o,H a=aa (.frz o<|.lst<|ns.map V.int))\/
  ∃(o:fb)(its:Array ap)(n:Nat),K.lookup a=aa o/\o.cls=.type "list"/\o.dict=ae/\o.data=.seq its n/\its.size<=ba/\Vals (ns.map V.int) its.toList
def Scr.sq{K:ao}{H:Hp}{a:aL}{ns:List Int}(h:Scr K H a ns):SqL K H a (ns.map V.int):=by
 rcases h with⟨o,h⟩|h
 .exact .inl<|.inr #[o,h]
 .exact .inr h
def Dct(H:Hp)(a:aL):Option (List<|List Int)->Prop
 |none=>∃vs,H a=aa (.dK vs)
 |some ks=>∃o vs,H a=aa (.frz o<|.dT vs)/\vs.map (·.1)=ks.map (·.map cP)
mutual
def Rep(O:Mx)(H:Hp):D->V->Prop
 |.non,v=>v=.non
 |.bl b,v=>v=.bl b
 |.int i,v=>v=.int i
 |.str x,v=>v=.str x
 |.tup ds,v=>∃a xs,v=.ref a/\H a=aa (.tup xs)/\Rq O H ds xs
 |.lst ds,v=>∃a xs,v=.ref a/\H a=aa (.lst xs)/\¬O.X a/\Rq O H ds xs
 |.drw,v=>∃a,v=.ref a/\O.n0=aa a
 |.dct o,v=>∃a,v=.ref a/\Dct H a o
 |.scr ns,v=>∃a,v=.ref a/\Scr O.K H a ns
 |.dow ks,v=>∃a vs,v=.ref a/\H a=aa (.dT vs)/\¬O.X a/\vs.map (·.1)=ks.map (·.map cP)
def Rq(O:Mx)(H:Hp):List D->List V->Prop
 |[],xs=>xs=[]
 |d::ds,xs=>∃v vs,xs=v::vs/\Rep O H d v/\Rq O H ds vs
end
structure Fut(O:Mx)(H:Hp)(ρ':Mx)(H':Hp):Prop where
 eq:ρ'=O
 keep:∀a o,H a=aa o->H' a=aa o\/(O.n0=aa a/\∃xs,o=.lst xs)\/((∃ps,o=.tbl ps)/\∃ps,H' a=aa (.tbl ps))
def Fut.refl(O:Mx)(H:Hp):Fut O H O H:=#[rfl,λ_ _ h=>.inl h]
def Fut.trans{O ρ1 ρ2:Mx}{H H1 H2:Hp}(a:Fut O H ρ1 H1)(b:Fut ρ1 H1 ρ2 H2):Fut O H ρ2 H2:=by
 obtain⟨rfl,f⟩:=a;obtain⟨rfl,g⟩:=b;refine#[rfl,λa o h=>(f a o h).elim (λh=>g a o h) λz=>z.elim (λz=>.inr<|.inl z) λ#[e,ps,h]=>?_]
 rcases g a _ h with q|⟨_,xs,q⟩|⟨_,q⟩
 .exact .inr<|.inr #[e,ps,q]
 .cases q
 .exact .inr<|.inr #[e,q]
def Fut.there(f:Fut O H ρ' H')(n:O.n0≠.some a)(h:H a≠ae):H' a≠ae:=by
 obtain⟨o,e⟩:=Option.ne_none_iff_exists'.mp h;rcases f.keep a o e with q|q|⟨_,_,q⟩
 .rw[q];intro z;cases z
 .exact T7 q.1 n
 .rw[q];intro z;cases z
def Fut.new(f:Fut O H ρ' H')(h:H' a=ae)(xd:∀a,O.X a->H' a≠ae):H a=ae:=by
 cases q:H a with
 |none=>rfl
 |some o=>
  rcases f.keep a o q with e|e|⟨_,_,e⟩
  .rw[h]at e;cases e
  .exact T7 h<|xd a<|O.xz a e.1
  .rw[h]at e;cases e
structure Lat(O:Mx)(H:Hp)(ρ':Mx)(H':Hp):Prop where
 K:ρ'.K=O.K
 n0:ρ'.n0=O.n0
 keep':∀a o,H a=aa o->(∀xs,o=.lst xs->¬O.X a)->(∀ps,o≠.tbl ps)->(∀vs,o=.dT vs->¬O.X a)->H' a=aa o
 X:∀a,H a≠ae->ρ'.X a->O.X a
def Lat.keep(f:Lat O H ρ' H')(a:aL)(o:HO)(h:H a=aa o)(x:∀xs,o=.lst xs->¬O.X a)(n:∀ps,o≠.tbl ps:=by intro _ z;cases z)(m:∀vs,o=.dT vs->¬O.X a:=by intro _ z;cases z):H' a=aa o:=f.keep' a o h x n m
mutual
theorem Rep.lat(f:Lat O H ρ' H'):∀{d:D}{v:V},Rep O H d v->Rep ρ' H' d v
 |.non,_,h|.bl _,_,h|.int _,_,h|.str _,_,h=>by exact h
 |.tup ds,v,h=>by
  obtain⟨a,xs,e,t,r⟩:=h;exact#[a,xs,e,f.keep a _ t (λ_ z=>by cases z),r.lat f]
 |.lst ds,v,h=>by
  obtain⟨a,xs,e,t,x,r⟩:=h;exact#[a,xs,e,f.keep a _ t λ_ _=>x,λz=>x (f.X a (by rw[t];intro z;cases z) z),r.lat f]
 |.drw,v,h=>by unfold Rep at h ⊢;rw[f.n0];exact h
 |.dct o,v,h=>by
  obtain⟨a,e,t⟩:=h;refine#[a,e,?_];cases o with|none=>obtain⟨vs,t⟩:=t;exact#[vs,f.keep a _ t λ_ z=>by cases z]|some ks=>obtain⟨o,vs,t,q⟩:=t;exact#[o,vs,f.keep a _ t (λ_ z=>by cases z),q]
 |.scr ns,v,h=>by
  unfold Rep at h ⊢;obtain⟨a,e,t⟩:=h;rw[f.K];refine#[a,e,?_];rcases t with⟨o,t⟩|t
  .exact .inl #[o,f.keep a _ t λ_ z=>by cases z]
  .exact .inr t
 |.dow ks,v,h=>by
  unfold Rep at h ⊢;obtain⟨a,vs,e,t,x,q⟩:=h;exact#[a,vs,e,f.keep a _ t (λ_ z=>by cases z) (by intro _ z;cases z) λ_ _=>x,λz=>x (f.X a (by rw[t];intro z;cases z) z),q]
theorem Rq.lat(f:Lat O H ρ' H'):∀{ds:List D}{xs:List V},Rq O H ds xs->Rq ρ' H' ds xs
 |[],_,h=>by exact h
 |d::ds,xs,h=>by
  obtain⟨v,vs,e,r,rs⟩:=h;exact#[v,vs,e,r.lat f,rs.lat f]
end
noncomputable def ZdK:bF:="law.<locals>.<lambda>"
def Tb(H:Hp):Prop:=∀(P:aL)(ps:Array ap),H P=aa (.tbl ps)->TriplesOk ps.toList/\∀(pos:iu)(cv:ap),codeAmong pos ps.toList=aa cv->
 ∃(c:aL)(oc:fb)(vs:Array ap)(t:og),cv=.ref c/\H c=aa (.frz oc<|.own c)/\oc.data=.fields vs/\vs[1]?=aa (.str ZdK t)
theorem Tb.upd(h:Tb H)(hp:∀ob u,H p≠aa (.frz ob u))(ho:∀ps,o≠.tbl ps):Tb (upd H p o):=λP ps e=>by
 by_cases z:P=p
 .subst z;rw[Zz]at e;cases e;exact T7 rfl<|ho ps
 .rw[Zk z]at e
  obtain⟨a,b⟩:=h P ps e;refine#[a,λpos cv q=>?_]
  obtain⟨c,oc,vs,t,e1,e2,e3⟩:=b pos cv q;exact#[c,oc,vs,t,e1,by rw[Zk λz=>hp oc (.own c) (by rw[<-z];exact e2)];exact e2,e3]
structure St3(K:ao)(O:Mx)(S:Zn)(H:Hp):Prop where
 hk:O.K=K
 xd:∀a,O.X a->H a≠ae
 dw:∀a,O.n0=aa a->H a=aa (.lst [.int S.1,.bl S.2])/\Pv.okS S.1 S.2=am
 tb:Tb H
def Fut.lat(f:Fut O H ρ' H'):Lat O H ρ' H':=by
 obtain⟨rfl,f⟩:=f;exact#[rfl,rfl,λa o h x n _=>(f a o h).elim id λz=>z.elim (λz=>T7 (ρ'.xz a z.1) (let #[xs,e]:=z.2;x xs e))<|by rintro ⟨⟨ps,e⟩,_⟩;exact T7 e<|n ps,λ_ _ h=>h]
def Rep.mono(f:Fut O H ρ' H')(h:Rep O H d v):Rep ρ' H' d v:=h.lat f.lat
def Rq.mono(f:Fut O H ρ' H')(h:Rq O H d v):Rq ρ' H' d v:=h.lat f.lat
section
variable{O:Mx}{H:Hp}{v:V}
def Rq.nil:Rq O H [] []:=by rfl
def Rq.cons{d:D}{v:V}{ds:List D}{vs:List V}(r:Rep O H d v)(rs:Rq O H ds vs):Rq O H (d::ds) (v::vs):=by
 exact#[v,vs,rfl,r,rs]
theorem Rq.length:∀{ds:List D}{xs:List V},Rq O H ds xs->xs.length=ds.length
 |[],_,h=>by rw[h];rfl
 |d::ds,xs,h=>by
  obtain⟨v,vs,rfl,_,rs⟩:=h;rw[aO,aO,Rq.length rs]
theorem Rq.append:∀{ds es:List D}{xs ys:List V},Rq O H ds xs->Rq O H es ys->Rq O H (ds++es) (xs++ys)
 |[],_,_,_,h,r=>by rw[h];exact r
 |d::ds,_,_,_,h,r=>by
  obtain⟨v,vs,rfl,a,rs⟩:=h;exact Rq.cons a<|Rq.append rs r
theorem Rq.take:∀{ds:List D}{xs:List V}(k:Nat),Rq O H ds xs->Rq O H (ds.take k) (xs.take k)
 |_,_,0,_=>Rq.nil
 |[],_,k+1,h=>by rw[h];exact Rq.nil
 |d::ds,_,k+1,h=>by
  obtain⟨v,vs,rfl,a,rs⟩:=h;exact Rq.cons a<|Rq.take k rs
theorem Rq.drop:∀{ds:List D}{xs:List V}(k:Nat),Rq O H ds xs->Rq O H (ds.drop k) (xs.drop k)
 |_,_,0,h=>h
 |[],_,k+1,h=>by rw[h];exact Rq.nil
 |d::ds,_,k+1,h=>by
  obtain⟨v,vs,rfl,a,rs⟩:=h;exact Rq.drop k rs
theorem Rq.get:∀{ds:List D}{xs:List V}{i:Nat}{d:D},Rq O H ds xs->ds[i]?=aa d->∃v,xs[i]?=aa v/\Rep O H d v
 |[],_,_,_,_,e=>by simp at e
 |d::ds,_,0,_,h,e=>by
  obtain⟨v,vs,rfl,a,rs⟩:=h;simp at e;subst e;exact#[v,rfl,a]
 |d::ds,_,i+1,_,h,e=>by
  obtain⟨v,vs,rfl,a,rs⟩:=h;obtain⟨u,q,r⟩:=Rq.get rs (by simpa using e)
  exact#[u,by simpa using q,r]
theorem Rq.reverse:∀{ds:List D}{xs:List V},Rq O H ds xs->Rq O H ds.reverse xs.reverse
 |[],_,h=>by rw[h];exact Rq.nil
 |d::ds,_,h=>by
  obtain⟨v,vs,rfl,a,rs⟩:=h;rw[fU,fU];exact Rq.append (Rq.reverse rs)<|Rq.cons a Rq.nil
theorem Rq.rep(h:Rq O H ds xs):∀k:Nat,Rq O H (aB k ds).flatten (aB k xs).flatten
 |0=>Rq.nil
 |k+1=>by
  rw[bI,bI,cE,cE];exact Rq.append h<|Rq.rep h k
theorem Rq.ints:∀ns:List Int,Rq O H (ns.map Pv.V.int) (ns.map V.int)
 |[]=>Rq.nil
 |n::ns=>Rq.cons (by rfl)<|Rq.ints ns
def Rep.int'{i:Int}(h:Rep O H (.int i) v):v=.int i:=by exact h
def Rep.bl'{b:Bool}(h:Rep O H (.bl b) v):v=.bl b:=by exact h
def Rep.non'(h:Rep O H .non v):v=.non:=by exact h
def Rep.str'{x:bF}(h:Rep O H (.str x) v):v=.str x:=by exact h
def Rep.tup'{ds:List D}(h:Rep O H (.tup ds) v):∃a xs,v=.ref a/\H a=aa (.tup xs)/\Rq O H ds xs:=by exact h
def Rep.lst'{ds:List D}(h:Rep O H (.lst ds) v):∃a xs,v=.ref a/\H a=aa (.lst xs)/\¬O.X a/\Rq O H ds xs:=by exact h
def Rep.drw'(h:Rep O H .drw v):∃a,v=.ref a/\O.n0=aa a:=by exact h
def Rep.dct'(h:Rep O H (.dct o) v):∃a,v=.ref a/\Dct H a o:=by exact h
def Rep.scr'(h:Rep O H (.scr ns) v):∃a,v=.ref a/\Scr O.K H a ns:=by exact h
def Rep.dow'{ks:List (List Int)}(h:Rep O H (.dow ks) v):∃a vs,v=.ref a/\H a=aa (.dT vs)/\¬O.X a/\vs.map (·.1)=ks.map (·.map cP):=by unfold Rep at h;exact h
def ZL(i:Int):Rep O H (.int i) (.int i):=by rfl
def ZY(b:Bool):Rep O H (.bl b) (.bl b):=by rfl
def zT:Rep O H .non .non:=by rfl
def jw(x:bF):Rep O H (.str x) (.str x):=by rfl
def YD(h:H a=aa (.tup xs))(r:Rq O H ds xs):Rep O H (.tup ds) (.ref a):=by exact#[a,xs,rfl,h,r]
def Wh(h:H a=aa (.lst xs))(x:¬O.X a)(r:Rq O H ds xs):Rep O H (.lst ds) (.ref a):=by exact#[a,xs,rfl,h,x,r]
def Rep.seq(h:Rep O H x v)(e:Pv.Ym x=aa ds):∃p xs,v=.ref p/\(SqL O.K H p xs\/SqT O.K H p xs)/\Rq O H ds xs:=by
 cases x with|tup es=>cases e;obtain⟨p,xs,rfl,h,r⟩:=h.tup';exact#[p,xs,rfl,.inr<|SqT.of h,r]|lst es=>cases e;obtain⟨p,xs,rfl,h,_,r⟩:=h.lst';exact#[p,xs,rfl,.inl<|SqL.of h,r]|scr ns=>cases e;obtain⟨p,e,q⟩:=h.scr';exact#[p,_,e,.inl q.sq,Rq.ints ns]|_=>cases e
end
structure LocR(O:Mx)(H:Hp)(l:Lc)(U:L2.St):Prop where
 len:l.length=U.length
 val:∀(i:Nat)(d:D),l[i]?=aa (aa d)->∃v,U[i]?=aa (aa v)/\Rep O H d v
theorem LocR.mono(f:Fut O H ρ' H')(r:LocR O H l U):LocR ρ' H' l U:=
 #[r.len,λi d e=>let #[v,q,h]:=r.val i d e;#[v,q,h.mono f]]
theorem LocR.set(r:LocR O H l U)(i:Nat)(h:Rep O H d v):LocR O H (l.set i<|aa d) (U.set i<|aa v):=
 #[by rw[bx,bx];exact r.len,λj e q=>by
  rw[l5]at q ⊢;split at q
  .rename_i hij
   subst hij;split at q
   .rename_i hl
    cases q;rw[T9 rfl,T9 (by rw[<-r.len];exact hl)]
    exact#[v,rfl,h]
   .cases q
  .rename_i hij
   rw[T8 hij];exact r.val j e q]
def End{B β:Type}(K:ao)(xw:Nat->Hp->Prop)(rep:Mx->Hp->B->β->Prop)(O:Mx)(H:Hp)(Q:β->Hp->Prop):R B->Prop
 |.ok d S=>∀ρ' H' v,Fut O H ρ' H'->St3 K ρ' S H'->rep ρ' H' d v->Q v H'
 |.ex c S=>∀ρ' H',Fut O H ρ' H'->St3 K ρ' S H'->xw c H'
 |.no=>False
section
variable{K:ao}{xw:Nat->Hp->Prop}{O ρ':Mx}{H H':Hp}{B β α' β':Type}{rep:Mx->Hp->B->β->Prop}{rep':Mx->Hp->α'->β'->Prop}
def End.mono{Q:β->Hp->Prop}(f:Fut O H ρ' H')(h:End K xw rep O H Q r):End K xw rep ρ' H' Q r:=by
 cases r with|ok d S=>exact λρ2 H2 v g st r=>h ρ2 H2 v (f.trans g) st r|ex c S=>exact λρ2 H2 g st=>h ρ2 H2 (f.trans g) st|no=>exact h
theorem End.bind{Q:β'->Hp->Prop}{Q1:β->Hp->Prop}(h:End K xw rep' O H Q (r.bind f))
  (k:∀d S ρ1 H1 v,Fut O H ρ1 H1->St3 K ρ1 S H1->rep ρ1 H1 d v->End K xw rep' ρ1 H1 Q (f d S)->Q1 v H1):End K xw rep O H Q1 r:=by
 cases r with|ok d S=>exact λρ1 H1 v g st r=>k d S ρ1 H1 v g st r<|End.mono g h|ex c S=>exact h|no=>exact h
theorem End.ok{Q:β->Hp->Prop}(h:End K xw rep O H Q (.ok a S))(st:St3 K O S H)(r:rep O H a v):Q v H:=h O H v (Fut.refl O H) st r
def End.ob{Q:β'->Hp->Prop}(h:End K xw rep' O H Q ((Pv.po o S).bind f)):∃a,o=aa a/\End K xw rep' O H Q (f a S):=by
 cases o with|none=>exact h.elim|some a=>exact#[a,rfl,h]
theorem End.po{Q:β->Hp->Prop}(h:End K xw rep O H Q (Pv.po o S)):∃a,o=aa a/\End K xw rep O H Q (.ok a S):=by
 cases o with|none=>exact h.elim|some a=>exact#[a,rfl,h]
theorem End.map{Q:β->Hp->Prop}(h:End K xw rep O H Q (Pv.po (o.map f) S)):∃a,o=aa a/\End K xw rep O H Q (.ok (f a) S):=by
 cases o with|none=>exact h.elim|some a=>exact#[a,rfl,h]
def End.ite{c:Prop}[Decidable c]{Q:β->Hp->Prop}(h:End K xw rep O H Q (if c then a else b)):(c/\End K xw rep O H Q a)\/(¬c/\End K xw rep O H Q b):=by
 split at h
 .exact .inl #[‹_›,h]
 .exact .inr #[‹_›,h]
def End.guard{c:Prop}[Decidable c]{Q:β->Hp->Prop}(h:End K xw rep O H Q (if c then a else .no)):c/\End K xw rep O H Q a:=by
 rcases h.ite with h|⟨_,h⟩
 .exact h
 .exact h.elim
end
abbrev nx:Nat->Hp->Prop:=λ_ _=>False
theorem End.nox{B β:Type}{K:ao}{xw:Nat->Hp->Prop}{O:Mx}{H:Hp}{rep:Mx->Hp->B->β->Prop}{Q:β->Hp->Prop}{r:R B}(h:End K xw rep O H Q r.nox):End K nx rep O H Q r:=by
 cases r with|ok d S=>exact h|ex c S=>exact h.elim|no=>exact h
def XS(_:Mx)(_:Hp)(a b:Bool):Prop:=a=b
def Zd1(_:Mx)(_:Hp)(a b:Option Int):Prop:=a=b
section
variable(X:Cx)(xw:Nat->Hp->Prop)
def tE(f:Lc->Zn->R D):TE:=λU H Q=>∃O l S,St3 X.K O S H/\LocR O H l U/\End X.K xw Rep O H Q (f l S)
def tA(f:Lc->Zn->R (List D)):TA:=λU H Q=>∃O l S,St3 X.K O S H/\LocR O H l U/\End X.K xw Rq O H Q (f l S)
def tB3(f:Lc->Zn->R Bool):TT:=λU H Q=>∃O l S,St3 X.K O S H/\LocR O H l U/\End X.K xw XS O H Q (f l S)
def tO(f:Lc->Zn->R (Option Int)):TO:=λU H Q=>∃O l S,St3 X.K O S H/\LocR O H l U/\End X.K xw Zd1 O H Q (f l S)
variable(C:Calls)
structure CE(e:Expr)(i:E):Prop where
 h:PE X e (tE X xw<|Pv.pv C i)
structure CT(e:Expr)(i:E):Prop where
 h:PT X e (tB3 X xw<|Pv.Xz C i)
structure CA(es:List Expr)(is:List E):Prop where
 h:PA X es (tA X xw<|Pv.pvs C is)
structure CO(e:Option Expr)(i:Option E):Prop where
 h:PO X e (tO X xw<|Pv.pvo C i)
end
def PE.imp(h:PE X e t)(k:∀U H Q,t' U H Q->t U H Q):PE X e t':=λpq s U H Q I q=>h pq s U H Q I<|k U H Q q
def PT.imp(h:PT X e t)(k:∀U H Q,t' U H Q->t U H Q):PT X e t':=λpq s U H Q I q=>h pq s U H Q I<|k U H Q q
def PA.imp(h:PA X e t)(k:∀U H Q,t' U H Q->t U H Q):PA X e t':=λpos pq s U H Q I q=>h pos pq s U H Q I<|k U H Q q
def PO.imp(h:PO X e t)(k:∀U H Q,t' U H Q->t U H Q):PO X e t':=λpq s U H Q I q=>h pq s U H Q I<|k U H Q q
section
variable{K:ao}{O ρ':Mx}{S:Zn}{H H':Hp}{a p:aL}
def ZJ(hp:H p=ae):Fut O H O (upd H p o):=#[rfl,λb u h=>.inl (by rw[Zk<|Yb h hp];exact h)]
def St3.fresh(st:St3 K O S H)(hp:H p=ae)(ho:∀ps,o≠.tbl ps:=by intro _ z;cases z):St3 K O S (upd H p o):=
 have n:∀b,H b≠ae->b≠p:=λb h z=>h (by rw[z];exact hp)
 #[st.hk,λb h=>by rw[Zk<|n b<|st.xd b h];exact st.xd b h,λb h=>by
  have:=st.dw b h;rw[Zk<|n b (by rw[this.1];intro z;cases z)];exact this,st.tb.upd (λob u z=>by rw[hp]at z;cases z) ho]
def St3.nx(st:St3 K O S H)(hp:H p=ae):¬O.X p:=λz=>st.xd p z hp
end
def XN:Ev.lim=ba:=by rw[cV];rfl
section
variable{K:ao}{xw:Nat->Hp->Prop}{O:Mx}{H:Hp}{S:Zn}{Q:VK}
def End.newT(h:End K xw Rep O H Q (.ok (.tup ds) S))(st:St3 K O S H)(r:Rq O H ds xs):∀p,H p=ae->Q (.ref p) (upd H p<|.tup xs):=λp hp=>
 h O _ _ (ZJ hp) (st.fresh hp) (YD Zz<|r.mono<|ZJ hp)
def End.newL(h:End K xw Rep O H Q (.ok (.lst ds) S))(st:St3 K O S H)(r:Rq O H ds xs):∀p,H p=ae->Q (.ref p) (upd H p<|.lst xs):=λp hp=>
 h O _ _ (ZJ hp) (st.fresh hp) (Wh Zz (st.nx hp)<|r.mono<|ZJ hp)
end
section
variable{X:Cx}{xw:Nat->Hp->Prop}{C:Calls}{e a b c:Expr}{i j k:E}{pos:iu}
def Zb5{n:Int}{q}:CE X xw C (.Constant (.int n) q pos) (.c<|.int n):=.mk <| PE.imp U7<|by rintro U H Q ⟨O,l,S,st,lr,h⟩;exact End.ok h st<|ZL n
def Zds{n:Bool}{q}:CE X xw C (.Constant (.bool n) q pos) (.c<|.bl n):=.mk <| PE.imp Zap<|by rintro U H Q ⟨O,l,S,st,lr,h⟩;exact End.ok h st<|ZY n
def ZaZ{q}:CE X xw C (.Constant .none q pos) (.c .non):=.mk <| PE.imp Zbp<|by rintro U H Q ⟨O,l,S,st,lr,h⟩;exact End.ok h st zT
def Za4{x:bF}{q}:CE X xw C (.Constant (.str x) q pos) (.c<|.str x):=.mk <| PE.imp Za1<|by rintro U H Q ⟨O,l,S,st,lr,h⟩;exact End.ok h st<|jw x
def Zeb(n:Nat){x:bF}(hN:X.N[n]?=aa x)(hv:Vis X.env.scope x)(hd:(x == ("__debug__" : bF))=aj)
  (hcd:(x == ("__classdict__" : bF))=aj):CE X xw C (.Name x pos) (.v n):=.mk <| PE.imp (Qj hN hv hd hcd)<|by
 rintro U H Q ⟨O,l,S,st,lr,h⟩;rw[Pv.pv]at h;cases q:l[n]? with
 |none=>rw[q]at h;exact h.elim
 |some o=>
  cases o with
  |none=>rw[q]at h;exact h.elim
  |some d=>
   rw[q]at h;obtain⟨v,q2,r⟩:=lr.val n d q;exact#[v,q2,End.ok h st r]
def Zcq:CA X xw C [] []:=.mk <| PA.imp GN<|by
 rintro U H Q ⟨O,l,S,st,lr,h⟩;rw[Pv.pvs]at h;exact End.ok h st Rq.nil
def jp{es:List Expr}{is:List E}(ha:CE X xw C e i)(hr:CA X xw C es is)(hs:aM (e::es) X.env=(aj,cR e X.env)::aM es X.env):CA X xw C (e::es) (i::is):=.mk <|
 PA.imp (W7 ha.h hr.h hs)<|by
  rintro U H Q ⟨O,l,S,st,lr,h⟩;rw[Pv.pvs]at h;exact#[O,l,S,st,lr,h.bind λx S1 ρ1 H1 v f1 st1 r1 h1=>#[ρ1,l,S1,st1,lr.mono f1,h1.bind λxs S2 ρ2 H2 vs f2 st2 r2 h2=>h2.ok st2<|Rq.cons (r1.mono f2) r2]]
def ZbK{es:List Expr}{is:List E}{q}(h:CA X xw C es is):CE X xw C (.Tuple es q pos) (.tup is):=.mk <| PE.imp (ZaS h.h)<|by
 rintro U H Q ⟨O,l,S,st,lr,h⟩;rw[Pv.pv]at h;refine#[O,l,S,st,lr,h.bind λxs S1 ρ1 H1 vs f1 st1 r1 h1=>?_]
 obtain⟨hl,h1⟩:=h1.guard;exact#[by rw[r1.length,<-XN];exact hl,h1.newT st1 r1]
def Xl{r:R2}{g:D->D->Zn->R D}(hg:∀{O H S x y v u Q},St3 X.K O S H->Rep O H x v->Rep O H y u->End X.K xw Rep O H Q (g x y S)->r v u H Q) :
  ∀U H Q,tE X xw (λl S=>(Pv.pv C i l S).bind λx S=>(Pv.pv C j l S).bind λy S=>g x y S) U H Q->tOp r (tE X xw<|Pv.pv C i) (tE X xw<|Pv.pv C j) U H Q:=λU H Q #[O,l,S,st,lr,h]=>
 #[O,l,S,st,lr,h.bind λx S1 ρ1 H1 v f1 st1 r1 h1=>#[ρ1,l,S1,st1,lr.mono f1,h1.bind λy S2 ρ2 H2 u f2 st2 r2 h2=>hg st2 (r1.mono f2) r2 h2]]
end
def uM(K:ao):R2:=λx y H Q=>∃a b ys,x=.ref a/\y=.ref b/\SqT K H a []/\SqT K H b ys/\Q (.ref b) H
def xU:OpR X (dW .Add) (uM X.K):=by
 intro pq s U H x y v u Q I rx ry h;obtain⟨a,b,ys,rfl,rfl,ha,hb,q⟩:=h;cases rx;cases ry;obtain⟨its,r1,p1,_⟩:=I.tuple ha;obtain⟨its2,r2,p2,_⟩:=I.tuple hb;have e0:=r1.nil_iff.mpr rfl;obtain⟨⟨cls,dd,data,sl⟩,ho,hc,n,hd⟩:=id p1;obtain⟨⟨cls2,dd2,data2,sl2⟩,ho2,hc2,n2,hd2⟩:=id p2;simp only at hc hd hc2 hd2;subst hc hd hc2 hd2;exact lT #[_,ho,rfl] #[_,ho2,rfl] iX lg fT fM (fC _ _)
   (tuple_addW0 a b its.toArray its2.toArray n n2 dd dd2 sl sl2<|by rw[e0];rfl) #[ho,ho2,#[.ref b,H,I,rfl,q]]
def ZdX(K:ao):V->Option Int->Option Int->Hp->VK->Prop:=λx lo hi H Q=>∃a xs,x=.ref a/\SqT K H a xs/\
 (HT.sIx xs.length 0 lo=0/\HT.sIx xs.length xs.length hi=xs.length)/\Q (.ref a) H
def Xx{prog:bE}{w:bR}{A:cQ}{E:ap->aw->Prop}{s:aw}{t sl:aL}{items:Array ap}{vl vu:ap}{lo hi:Option Int}{Q:ap->aw->Prop}(ht:nU s.heap t items)(hs:s.heap.IsSliceOf sl vl vu .none)(pl:gW vl lo)(pu:gW vu hi)
  (hw:HT.sIx items.size 0 lo=0/\HT.sIx items.size items.size hi=items.size)(h:Q (.ref t) s):aW (aV prog w) A (iD (.ref t)<|.ref sl) Q E s:=by
 obtain⟨os,hos,hcs,hds⟩:=id hs;have hTs:s.TypeIs (.ref sl) "slice":=#[os,hos,hcs];unfold iD
 try with_reducible refine bJ ?_
 first|refine ab<|aq ?_|skip
 refine ab<|iE ht.typeIs (by decide) ?_
 refine ab (bW ht.typeIs b9
  (bQ b9 ht.typeIs gO ?_<|gZ _ _))
 show aW _ _ (eU (.ref t) >>= _) _ _ s;refine ab<|lh ht ?_;refine ab<|gP hTs ?_;rw[T9 (by decide)]
 refine ab<|HT.YL hs pl pu ?_;have hyes:((((HT.sIx items.size 0 lo:Nat):Int) == 0&&(1:Int) == 1&&(HT.sIx items.size items.size hi-HT.sIx items.size 0 lo) == items.size)=am):=by
  rw[hw.1,hw.2];simp
 show aW _ _ (if(((HT.sIx items.size 0 lo:Nat):Int) == 0&&(1:Int) == 1&&(HT.sIx items.size items.size hi-HT.sIx items.size 0 lo) == items.size)=am then _ else _) _ _ s
 rw[T9 hyes];refine ab<|ab<|gP ht.typeIs<|aq ?_;rw[T9 (by decide)]
 exact ab<|eW<|aq #[_,rfl,aq h]
def wt:SlR X (ZdX X.K):=by
 intro pq s U H x v vl vu lo hi sl Q I rx hs pl pu h;obtain⟨a,xs,rfl,hx,hw,q⟩:=h;cases rx;obtain⟨its,r,ht,hz⟩:=I.tuple hx;have hlen:its.toArray.size=xs.length:=by rw[ax];exact r.length.symm
 refine#["tuple",_,b9.lookup,ht.typeIs,?_];exact Xx ht hs pl pu (by rw[hlen];exact hw) #[.ref a,H,I,rfl,q]
def zc(h:Ev.fits i=am):k6 i<=2^20:=by
 have h1:=T6 h;unfold k6;split
 .exact cJ _
 .rename_i hz
  have hne:i.natAbs≠0:=by intro z;exact hz (by simp[Int.natAbs_eq_zero.mp z])
  have:=(Nat.log2_lt hne).mpr h1;have e:(2:Nat)^20=1048576:=by decide
  omega
def vU:OpR X (dW .FloorDiv) (rI (λ_ j=>0<j/\j<Ev.big) λi j=>.int<|i / j):=opI λi j _ _ _ _ _ hc q=>by
 have h1:=hc.1;have h2:=hc.2;have hne:j.natAbs≠0:=by omega
 have h3:j.natAbs<2^8000:=by
  have e:(j.natAbs:Int)=j:=Int.natAbs_of_nonneg (by omega)
  have h4:(j.natAbs:Int)<((2^8000:Nat):Int):=by rw[e,Int.natCast_pow];exact h2
  exact Int.ofNat_lt.mp h4
 have h5:=(Nat.log2_lt hne).mpr h3;exact floordiv_int (by omega) (by rw[Int.fdiv_eq_ediv_of_nonneg i (by omega)];exact q)<|.inl<|PyProof.noPylong_of_log2 (by omega)
def qI:OpR X (dW .Mult) (rI (λi j=>Ev.fits i=am/\Ev.fits j=am) λi j=>.int<|i*j):=opI λ_ _ _ _ _ _ _ hc q=>mul_int q<|IntMulOk.of_bits (zc hc.1)<|zc hc.2
def Zcj:OpR X (bY .Is) (λx y H Q=>∃a b,x=.bl a/\y=.bl b/\Q (.bl<|ag<|a=b) H):=by
 intro pq s U H x y v u Q I rx ry h;obtain⟨a,b,rfl,rfl,q⟩:=h;cases rx;cases ry;cases a<;>cases b<;>exact aq #[.bl _,H,I,rfl,q]
def qy:OpR X (bY .IsNot) (λx y H Q=>∃a b,x=.bl a/\y=.bl b/\Q (.bl<|ag<|a≠b) H):=by
 intro pq s U H x y v u Q I rx ry h;obtain⟨a,b,rfl,rfl,q⟩:=h;cases rx;cases ry;cases a<;>cases b<;>exact aq #[.bl _,H,I,rfl,q]
def V4:fillsNumberSlot (.type "tuple") "mul" = c0 aj:=
 PySem.fillsNumberSlot_seq iZ.lookup (by decide +kernel) F.slot_tuple_rmul.lookup (by decide +kernel)
def U6:seqRepeat? (.type "tuple")=c0 (aa<|.builtin "tuple.__mul__"):=by
 unfold seqRepeat?
 rw[mB (name:="__mul__") iZ.lookup (by decide +kernel),mB (name:="__rmul__") F.slot_tuple_rmul.lookup (by decide +kernel)]
 rfl
def VZ(a:Int)(t:og)(l:aL)(items:Array ap)(n:Nat)(dd:Option aL)(sl:Array (Option ap)) :
  nE (db.«int.__rmul__» #[[.int a t,.ref l],[]]) (λ_ R s=>s.heap.get? l=aa {cls:=.type "tuple",dict:=dd,data:=.seq items n,slots:=sl}/\R (.ok<|.ret ap.notImplemented) s):=
 .of_wp λprog w A R s h=>by obtain⟨hp,g,d,tk,os⟩:=s;obtain⟨hl,h⟩:=h;wp_walk;exact#[_,rfl,h]
def QB(l:aL)(items:Array ap)(n:Nat)(dd:Option aL)(sl:Array (Option ap))(x:Int)(u:og)(h0:¬(x < -(2^63)||x>=2^63)=am)(hc:(items.isEmpty||x == 1)=am) :
  nE (db.«tuple.__mul__» #[[.ref l,.int x u],[]]) (λ_ R s=>s.heap.get? l=aa {cls:=.type "tuple",dict:=dd,data:=.seq items n,slots:=sl}/\R (.ok<|.ret<|cx l) {s with heap:=s.heap,toks:=s.toks}):=
 .of_wp λprog w A R s h=>by obtain⟨hp,g,d,tk,os⟩:=s;obtain⟨hl,h⟩:=h;have f1:=iY;have f2:=du;wp_walk;rw[T8 h0];wp_walk using dm hl;exact#[_,rfl,h]
def Qu(l:aL)(items:Array ap)(n:Nat)(dd:Option aL)(sl:Array (Option ap))(x:Int)(u:og)(h0:¬(x < -(2^63)||x>=2^63)=am)(hc:¬(items.isEmpty||x == 1)=am)(h1:(x<=0||items.isEmpty)=am) :
  nE (db.«tuple.__mul__» #[[.ref l,.int x u],[]]) (λ_ R s=>s.heap.get? l=aa {cls:=.type "tuple",dict:=dd,data:=.seq items n,slots:=sl}/\R (.ok<|.ret<|cx s.heap.objs.size) {s with heap:=s.heap.push {cls:=.type "tuple",data:=.seq #[]},toks:=s.toks}):=
 .of_wp λprog w A R s h=>by obtain⟨hp,g,d,tk,os⟩:=s;obtain⟨hl,h⟩:=h;have f1:=iY;have f2:=du;wp_walk;rw[T8 h0];wp_walk using dm hl;exact#[_,rfl,h]
def Q8(l:aL)(items:Array ap)(n:Nat)(dd:Option aL)(sl:Array (Option ap))(x:Int)(u:og)(h0:¬(x < -(2^63)||x>=2^63)=am)(hc:¬(items.isEmpty||x == 1)=am)(h1:¬(x<=0||items.isEmpty)=am)
  (h2:¬(items.size*x>(2^63-1) / 8))(h3:¬g8 (items.size*x)=am)(hsz:((aB x.toNat items).foldl (·++·) #[]).size<=ba) :
  nE (db.«tuple.__mul__» #[[.ref l,.int x u],[]]) (λ_ R s=>s.heap.get? l=aa {cls:=.type "tuple",dict:=dd,data:=.seq items n,slots:=sl}/\R (.ok<|.ret<|cx s.heap.objs.size) {s with heap:=s.heap.push {cls:=.type "tuple",data:=.seq ((aB x.toNat items).foldl (·++·) #[])},toks:=s.toks}):=
 .of_wp λprog w A R s h=>by obtain⟨hp,g,d,tk,os⟩:=s;obtain⟨hl,h⟩:=h;have f1:=iY;have f2:=du;wp_walk;rw[T8 h0];wp_walk using dm hl;rw[T8 h2];wp_walk using dm hl;exact#[_,rfl,h]
def Zam(K:ao):R2:=λx y H Q=>∃a k xs,x=.ref a/\y=.int k/\SqT K H a xs/\(0<=k/\k<1000/\xs.length<=1000)/\
 ((xs=[]\/k=1)->Q (.ref a) H)/\(¬(xs=[]\/k=1)->∀p,H p=ae->Q (.ref p) (upd H p<|.tup (aB k.toNat xs).flatten))
def uT :OpR X (dW .Mult) (Zam X.K):=by
 intro pq s U H x y v u Q I rx ry h;obtain⟨a,k,xs,rfl,rfl,hx,⟨k0,k1,hz⟩,q1,q2⟩:=h;cases rx;obtain⟨t,rfl⟩:=ry;obtain⟨its,r,pt,_⟩:=I.tuple hx;have hl:=r.length;obtain⟨⟨cls,dd,data,sl⟩,ho,hc,n,hd⟩:=id pt;simp only at hc hd;subst hc hd;have h0:¬(ag (k < -(2^63))||decide (k>=2^63))=am:=by
  rw[T4 (by lia),T4 (by lia)];exact aN
 refine iw (by decide) #[_,ho,rfl] (λs'=>kn s' k t) V4 m3 gE U6 F.slot_int_index.lookup
  (gf gE (kn s k t) mC (l6 _ _) (VZ k t a its.toArray n dd sl) #[ho,rfl,#[_,ho,rfl],?_])
 have hnil:=r.nil_iff;by_cases c:xs=[]\/k=1
 .have c':(its.toArray.isEmpty||k == 1)=am:=by
   rcases c with c|c
   .rw[hnil.mpr c];rfl
   .rw[c];simp
  exact gf iZ #[_,ho,rfl] iH (g9 _ _) (QB a its.toArray n dd sl k t h0 c') #[ho,#[.ref a,H,I,rfl,q1 c]]
 .have ne:=λz=>c (.inl<|hnil.mp z)
  have k1:k≠1:=λz=>c<|.inr z
  have c':¬(its.toArray.isEmpty||k == 1)=am:=by
   rw[beq_eq_false_iff_ne.mpr k1,Bool.or_false,gw];cases its with|nil=>exact T7 rfl ne|cons _ _=>exact aN
  have fin:∀arr:List ap,arr=(aB k.toNat its).flatten->EP X pq U Q (cx s.heap.objs.size) {s with heap:=s.heap.push {cls:=.type "tuple",data:=.seq arr.toArray}}:=λarr e=>by
   subst e;refine#[.ref s.heap.objs.size,_,I.laid (t':=s.toks) (λb ob q=>au _ q) (aA _) ?_,rfl,q2 c _<|I.hok.fresh<|aA _]
   refine#[?_,_,r.rep k.toNat,gS _ _];rw[QV,cV];have:k.toNat*xs.length<=1000*1000:=kN (by lia) hz
   lia
  by_cases z:k=0
  .have h1:(ag (k<=0)||its.toArray.isEmpty)=am:=by rw[z];rfl
   refine gf iZ #[_,ho,rfl] iH (g9 _ _) (Qu a its.toArray n dd sl k t h0 c' h1) #[ho,?_];exact fin [] (by rw[z];rfl)
  .have h1:¬(ag (k<=0)||its.toArray.isEmpty)=am:=by
    rw[T4 (by lia),gu,gw]
    cases its with|nil=>exact T7 rfl ne|cons _ _=>exact aN
   have hm:(its.toArray.size:Int)*k<=1000*1000:=by
    rw[ax,<-hl];exact nF (by lia) (by lia) k0 (by lia)
   have joined:(aB k.toNat its.toArray).foldl (·++·) #[]=(aB k.toNat its).flatten.toArray:=by
    have:=WA its k.toNat [];rw[gF]at this;exact this
   have hsz:((aB k.toNat its.toArray).foldl (·++·) #[]).size<=ba:=by
    rw[joined,ax,QV,cV,<-hl];have:k.toNat*xs.length<=1000*1000:=kN (by lia) hz
    lia
   refine gf iZ #[_,ho,rfl] iH (g9 _ _) (Q8 a its.toArray n dd sl k t h0 c' h1 (by lia) (by
    unfold g8;rw[T4 (by rw[cV];lia)]
    exact aN) hsz) #[ho,?_]
   rw[joined];exact fin _ rfl
def Zas:R2:=λx y H Q=>∃a k xs,x=.ref a/\y=.int k/\H a=aa (.lst xs)/\(0<=k/\k<1000/\xs.length<=1000)/\∀p,H p=ae->Q (.ref p) (upd H p<|.lst (aB k.toNat xs).flatten)
def ju :OpR X (dW .Mult) Zas:=by
 intro pq s U H x y v u Q I rx ry h;obtain⟨a,k,xs,rfl,rfl,hx,⟨k0,k1,hz⟩,q2⟩:=h;cases rx;obtain⟨t,rfl⟩:=ry;obtain⟨its,r,pl,_⟩:=I.list<|SqL.of hx;have hl:=r.length;obtain⟨⟨cls,dd,data,sl⟩,n,ho,hc,hd2,hd⟩:=id pl;simp only at hc hd hd2;subst hc hd;have hm:k.toNat*its.length<=1000*1000:=kN (by lia) (by lia)
 have hm2:its.length*k.toNat<=1000*1000:=by rw[l7];exact hm
 refine iw (by decide) #[_,ho,rfl] (λs'=>kn s' k t) noFill_list_mul m3 gE repeat_list F.slot_int_index.lookup
  (gf gE (kn s k t) mC (l6 _ _) (lm_int_rmul_list_any k t a its.toArray n dd sl) #[ho,rfl,#[_,ho,rfl],
   gf F.slot_list_mul #[_,ho,rfl] F.entry_list_mul (F.args_list_mul_2 _ _) (lm_list_mul_any a its.toArray n dd sl k t (by simp[db.List.listFitsIndex];lia) (by rw[ax];lia)<|by rw[ax];simp[iM,ba];lia) #[ho,?_]])
 have joined:(aB (if its.toArray.isEmpty=am then 0 else k.toNat) its.toArray).foldl (λx1 x2=>x1++x2) #[]=(aB k.toNat its).flatten.toArray:=by
  have h0:=WA its k.toNat [];rw[gF]at h0;by_cases z:its=[]
  .subst z
   have e:∀m:Nat,(aB m ([]:List ap)).flatten=[]:=λm=>by induction m with|zero=>rfl|succ m ih=>rw[bI,cE,ih];rfl
   rw[e];rfl
  .rw[T8 (by rw[gw];cases its with|nil=>exact T7 rfl z|cons _ _=>exact aN)]
   exact h0
 rw[joined];refine#[.ref s.heap.objs.size,_,I.laid (t':=s.toks) (λb ob q=>au _ q) (aA _) ?_,rfl,q2 _<|I.hok.fresh<|aA _]
 refine#[?_,_,0,r.rep k.toNat,aF _ rfl];rw[QV,cV];rw[hl];lia
section
variable{X:Cx}{xw:Nat->Hp->Prop}{C:Calls}{e a b c:Expr}{i j k:E}{pos:iu}
variable{O:Mx}{H:Hp}{S:Zn}{x y:D}{v u:V}{Q:VK}{K:ao}
def Zaj(K:ao):R2:=λx y H Q=>rI0 (λi j=>.int<|i+j) x y H Q\/(Zax K x y H Q\/(uM K x y H Q\/Zdb x y H Q))
def qc:OpR X (dW .Add) (Zaj X.K):=Zb1.or<|jI.or<|xU.or ZbO
def Zb6(st:St3 K O S H)(rx:Rep O H x v)(ry:Rep O H y u)(h:End K xw Rep O H Q (Pv.YF .add x y S)):Zaj K v u H Q:=by
 cases x with
 |int i=>cases y with|int j=>exact .inl #[i,j,rx.int',ry.int',End.ok h st<|ZL _]|_=>exact False.elim h
 |tup ds=>cases y with
  |tup es=>
   obtain⟨hl,h⟩:=End.guard h;obtain⟨p,xs,rfl,hp,r1⟩:=rx.tup';obtain⟨q,ys,rfl,hq,r2⟩:=ry.tup';have l1:=r1.length;have l2:=r2.length;by_cases z:xs=[]
   .subst z
    have e1:=fO.mp l1.symm;subst e1;exact .inr<|.inr<|.inl #[p,q,ys,rfl,rfl,SqT.of hp,SqT.of hq,End.ok h st<|YD hq r2]
   .refine .inr (.inl #[p,q,xs,ys,rfl,rfl,SqT.of hp,SqT.of hq,z,by rw[l1,l2,<-XN];exact hl,λz2=>?_,λ_=>h.newT st<|r1.append r2])
    subst z2;have e2:=fO.mp l2.symm;subst e2;refine End.ok h st ?_;rw[cg];exact YD hp r1
  |_=>exact False.elim h
 |lst ds=>cases y with
  |lst es=>
   obtain⟨hl,h⟩:=End.guard h;obtain⟨p,xs,rfl,hp,_,r1⟩:=rx.lst';obtain⟨q,ys,rfl,hq,_,r2⟩:=ry.lst';exact .inr<|.inr<|.inr #[p,q,xs,ys,rfl,rfl,hp,hq,by rw[r1.length,r2.length,<-XN];exact hl,h.newL st<|r1.append r2]
  |_=>exact False.elim h
 |_=>cases y<;>exact False.elim h
def ZaN(st:St3 K O S H)(rx:Rep O H x v)(ry:Rep O H y u)(h:End K xw Rep O H Q (Pv.YF .sub x y S)):rI0 (λi j=>.int<|i-j) v u H Q:=by
 cases x with
 |int i=>cases y with|int j=>exact#[i,j,rx.int',ry.int',End.ok h st<|ZL _]|_=>exact False.elim h
 |_=>cases y<;>exact False.elim h
def Zav(K:ao):R2:=λx y H Q=>rI (λi j=>Ev.fits i=am/\Ev.fits j=am) (λi j=>.int<|i*j) x y H Q\/(Zam K x y H Q\/Zas x y H Q)
def jN:OpR X (dW .Mult) (Zav X.K):=qI.or<|uT.or ju
def Zbm(st:St3 K O S H)(rx:Rep O H x v)(ry:Rep O H y u)(h:End K xw Rep O H Q (Pv.YF .mul x y S)):Zav K v u H Q:=by
 cases x with
 |int i=>cases y with
  |int j=>
   obtain⟨hc,h⟩:=End.guard h;exact .inl #[i,j,rx.int',ry.int',(aG _ _).mp hc,End.ok h st<|ZL _]
  |_=>exact False.elim h
 |tup ds=>cases y with
  |int k=>
   obtain⟨⟨h0,h1,h2⟩,h⟩:=End.guard h;obtain⟨p,xs,rfl,hp,r1⟩:=rx.tup';have l1:=r1.length;refine .inr <| .inl #[p,k,xs,rfl,ry.int',SqT.of hp,#[h0,h1,by rw[l1];exact h2],λz=>?_,λ_=>h.newT st<|r1.rep k.toNat]
   refine End.ok h st<|YD hp ?_;rcases z with z|z
   .subst z
    have e1:=fO.mp l1.symm;subst e1;have:∀m:Nat,(aB m ([]:List D)).flatten=[]:=λm=>by induction m with|zero=>rfl|succ m ih=>rw[bI,cE,ih];rfl
    rw[this];exact Rq.nil
   .subst z
    show Rq O H (aB 1 ds).flatten xs;rw[bI,List.replicate_zero,cE,List.flatten_nil,cg];exact r1
  |_=>exact False.elim h
 |lst ds=>cases y with
  |int k=>
   obtain⟨⟨h0,h1,h2⟩,h⟩:=End.guard h;obtain⟨p,xs,rfl,hp,_,r1⟩:=rx.lst';exact .inr<|.inr #[p,k,xs,rfl,ry.int',hp,#[h0,h1,by rw[r1.length];exact h2],h.newL st<|r1.rep k.toNat]
  |_=>exact False.elim h
 |_=>cases y<;>exact False.elim h
def jv(st:St3 K O S H)(rx:Rep O H x v)(ry:Rep O H y u)(h:End K xw Rep O H Q (Pv.YF .fdiv x y S)):rI (λ_ j=>0<j/\j<Ev.big) (λi j=>.int<|i / j) v u H Q:=by
 cases x with
 |int i=>cases y with
  |int j=>
   obtain⟨hc,h⟩:=End.guard h;exact#[i,j,rx.int',ry.int',hc,End.ok h st<|ZL _]
  |_=>exact False.elim h
 |_=>cases y<;>exact False.elim h
def Za2(st:St3 K O S H)(rx:Rep O H x v)(ry:Rep O H y u)(h:End K xw Rep O H Q (Pv.YF .mod x y S)):rI (λ_ j=>0<j) (λi j=>.int<|i%j) v u H Q:=by
 cases x with
 |int i=>cases y with
  |int j=>
   obtain⟨hc,h⟩:=End.guard h;exact#[i,j,rx.int',ry.int',hc,End.ok h st<|ZL _]
  |_=>exact False.elim h
 |_=>cases y<;>exact False.elim h
theorem ZaX(st:St3 K O S H)(rx:Rep O H x v)(ry:Rep O H y u)(h:End K xw Rep O H Q (Pv.YF .pow x y S)):rI CPow (λi j=>.int<|i^j.toNat) v u H Q:=by
 cases x with
 |int i=>cases y with
  |int j=>
   obtain⟨hc,h⟩:=End.guard h;exact#[i,j,rx.int',ry.int',#[hc.1,by lia,hc.2.2],End.ok h st<|ZL _]
  |_=>exact False.elim h
 |_=>cases y<;>exact False.elim h
def Zcc(ha:CE X xw C a i)(hb:CE X xw C b j):CE X xw C (.BinOp a .Add b pos) (.bin .add i j):=.mk <| PE.imp (Uv qc ha.h hb.h) (Xl λst rx ry h=>Zb6 st rx ry h)
def ZbU(ha:CE X xw C a i)(hb:CE X xw C b j):CE X xw C (.BinOp a .Sub b pos) (.bin .sub i j):=.mk <| PE.imp (Uv ZbM ha.h hb.h) (Xl λst rx ry h=>ZaN st rx ry h)
def ZbR(ha:CE X xw C a i)(hb:CE X xw C b j):CE X xw C (.BinOp a .Mult b pos) (.bin .mul i j):=.mk <| PE.imp (Uv jN ha.h hb.h) (Xl λst rx ry h=>Zbm st rx ry h)
def ji(ha:CE X xw C a i)(hb:CE X xw C b j):CE X xw C (.BinOp a .FloorDiv b pos) (.bin .fdiv i j):=.mk <| PE.imp (Uv vU ha.h hb.h) (Xl λst rx ry h=>jv st rx ry h)
def Zch(ha:CE X xw C a i)(hb:CE X xw C b j):CE X xw C (.BinOp a .Mod b pos) (.bin .mod i j):=.mk <| PE.imp (Uv Zb9 ha.h hb.h) (Xl λst rx ry h=>Za2 st rx ry h)
def Zbb(ha:CE X xw C a i)(hb:CE X xw C b j):CE X xw C (.BinOp a .Pow b pos) (.bin .pow i j):=.mk <| PE.imp (Uv ZbT ha.h hb.h) (Xl λst rx ry h=>ZaX st rx ry h)
def ZbV(ha:CE X xw C a i):CE X xw C (.UnaryOp .USub a pos) (.neg i):=.mk <| PE.imp (ZcB ZbC ha.h)<|by
 rintro U H Q ⟨O,l,S,st,lr,h⟩;refine#[O,l,S,st,lr,End.bind (h) λx S1 ρ1 H1 v f1 st1 r1 h1=>?_]
 cases x with|int n=>exact#[n,r1.int',End.ok h1 st1<|ZL _]|_=>exact False.elim h1
def JX(st:St3 K O S H)(rx:Rep O H x v)(h:Pv.Zj x=aa n):jJ K v H n:=by
 cases x with
 |non=>rw[rx.non'];exact(ak h).symm
 |bl b=>rw[rx.bl'];exact(ak h).symm
 |int i=>
  rw[rx.int'];have h':=ak h;rw[<-h'];by_cases z:i=0
  .subst z;rfl
  .rw[T5 z];exact(bne_iff_ne.mpr z).symm
 |tup ds=>
  obtain⟨p,xs,rfl,hp,r⟩:=rx.tup';have h':=ak h;refine .inr<|.inl #[xs,SqT.of hp,?_];rw[<-h'];have:=r.length;cases ds<;>cases xs<;>first|rfl|(simp at this)
 |lst ds=>
  obtain⟨p,xs,rfl,hp,_,r⟩:=rx.lst';refine .inl #[xs,SqL.of hp,?_];rw[<-ak h];have:=r.length;cases ds<;>cases xs<;>first|rfl|(simp at this)
 |_=>cases h
def Zco(ha:CE X xw C a i)(he:∀whole,isTrue a X.env whole=(do let v <-whole;np a.pos;iB [v] (truthy v))):CT X xw C a i:=.mk <|
 PT.imp (we ha.h he)<|by
  rintro U H Q ⟨O,l,S,st,lr,h⟩;refine#[O,l,S,st,lr,End.bind (show End X.K xw XS O H Q ((Pv.pv C i l S).bind λx S=>Pv.po (Pv.Zj x) S)from h) λx S1 ρ1 H1 v f1 st1 r1 h1=>?_]
  cases q:Pv.Zj x with|none=>rw[q]at h1;exact False.elim h1|some n=>rw[q]at h1;exact#[n,JX st1 r1 q,End.ok h1 st1 rfl]
def Zbf(ha:CT X xw C a i):CT X xw C (.UnaryOp .Not a pos) (.not i):=.mk <| PT.imp (Zck ha.h)<|by
 rintro U H Q ⟨O,l,S,st,lr,h⟩;refine#[O,l,S,st,lr,?_];have h':End X.K xw XS O H Q (((Pv.pv C i l S).bind λx S=>(Pv.po (Pv.Zj x) S).bind λb S=>.ok (.bl !b) S).bind λx S=>Pv.po (Pv.Zj x) S):=h
 show End X.K xw XS O H (λc H1=>Q (!c) H1) ((Pv.pv C i l S).bind λx S=>Pv.po (Pv.Zj x) S)
 cases q:Pv.pv C i l S with
 |no=>rw[q]at h';exact h'
 |ex c S1=>rw[q]at h';exact h'
 |ok x S1=>
  rw[q]at h';show End X.K xw XS O H _ (Pv.po (Pv.Zj x) S1);have h2:End X.K xw XS O H Q (((Pv.po (Pv.Zj x) S1).bind λb S=>.ok (.bl !b) S).bind λx S=>Pv.po (Pv.Zj x) S):=h'
  cases t:Pv.Zj x with
  |none=>rw[t]at h2;exact h2
  |some n=>
   rw[t]at h2;intro ρ1 H1 w f1 st1 e;exact h2 ρ1 H1 (!w) f1 st1 (by rw[<-(e)];rfl)
def ZbL(ha:CE X xw C a i):CE X xw C (.UnaryOp .Not a pos) (.not i):=.mk <| by
 intro pq s U H Q I hq;obtain⟨O,l,S,st,lr,h⟩:=hq;have h':=h
 refine UnaryOp_<|thn (ha.h pq s U H (λv H1=>∃k,jJ X.K v H1 k/\Q (.bl !k) H1) I #[O,l,S,st,lr,End.bind h' λx S1 ρ1 H1 v f1 st1 r1 h1=>?_]) λv s1 #[x,H1,I1,r1,q1]=>?_
 .cases q:Pv.Zj x with|none=>rw[q]at h1;exact False.elim h1|some n=>rw[q]at h1;exact#[n,JX st1 r1 q,End.ok h1 st1<|ZY _]
 .obtain⟨k,tk,q2⟩:=q1
  refine not_of<|thn (vj pq s1 U H1 x v (λk' H'=>Q (.bl !k') H') I1 r1 #[k,tk,q2]) λk' s2 #[H2,I2,q3]=>?_
  exact#[.bl<|!k',H2,I2,rfl,q3]
def Zbg{rest:List Expr}(ha:CE X xw C a i)(hb:CE X xw C (.BoolOp .And (b::rest) pos) j):CE X xw C (.BoolOp .And (a::b::rest) pos) (.and i j):=.mk <| PE.imp (Zbd ha.h hb.h)<|by
 rintro U H Q ⟨O,l,S,st,lr,h⟩;refine#[O,l,S,st,lr,End.bind (h) λx S1 ρ1 H1 v f1 st1 r1 h1=>?_]
 cases x with
 |bl c=>
  refine#[c,r1.bl',?_];cases c with|true=>exact#[ρ1,l,S1,st1,lr.mono f1,h1]|false=>exact End.ok h1 st1<|ZY _
 |_=>exact False.elim h1
def Zbk{op}(ha:CE X xw C a i):CE X xw C (.BoolOp op [a] pos) i:=.mk <| ZbH ha.h
structure CWh(X:Cx)(xw:Nat->Hp->Prop)(C:Calls)(e:Expr)(i:E):Prop where
 h:PW X e (tB3 X xw<|Pv.Xz C i)
def CWh.ct(h:CWh X xw C e i):CT X xw C e i:=.mk <| PW.pt h.h
def PW.imp(h:PW X e t)(k:∀U H Q,t' U H Q->t U H Q):PW X e t':=λwh pq s U H Q I q=>h wh pq s U H Q I<|k U H Q q
def u9(ha:CT X xw C a i):CWh X xw C (.BoolOp .And [a] pos) i:=.mk <| j4 ha.h
def ZbQ(ha:CT X xw C a i):CWh X xw C (.BoolOp .Or [a] pos) i:=.mk <| Zba ha.h
def uj{rest:List Expr}(ha:CT X xw C a i)(hb:CWh X xw C (.BoolOp .And (b::rest) pos) j):CWh X xw C (.BoolOp .And (a::b::rest) pos) (.and i j):=.mk <| PW.imp (Zct ha.h hb.h)<|by
 rintro U H Q ⟨O,l,S,st,lr,h⟩;have h':End X.K xw XS O H Q (((Pv.pv C i l S).bind λx S=>match x with|.bl c=>if c then Pv.pv C j l S else .ok (.bl aj) S|_=>.no).bind λx S=>Pv.po (Pv.Zj x) S):=h
 refine#[O,l,S,st,lr,?_];show End X.K xw XS O H _ ((Pv.pv C i l S).bind λx S=>Pv.po (Pv.Zj x) S)
 cases q:Pv.pv C i l S with
 |no=>rw[q]at h';exact h'
 |ex c S1=>rw[q]at h';exact h'
 |ok x S1=>
  rw[q]at h';cases x with
  |bl n=>
   intro ρ1 H1 w f1 st1 e;have e':n=w:=e;subst e';cases n with|true=>exact#[ρ1,l,S1,st1,lr.mono f1,End.mono f1 (show End X.K xw XS O H Q ((Pv.pv C j l S1).bind λx S=>Pv.po (Pv.Zj x) S)from h')]|false=>exact(show End X.K xw XS O H Q (.ok aj S1)from h') ρ1 H1 aj f1 st1 rfl
  |_=>exact False.elim h'
def Zah{rest:List Expr}(ha:CT X xw C a i)(hb:CWh X xw C (.BoolOp .Or (b::rest) pos) j):CWh X xw C (.BoolOp .Or (a::b::rest) pos) (.or i j):=.mk <| PW.imp (Zdz ha.h hb.h)<|by
 rintro U H Q ⟨O,l,S,st,lr,h⟩;have h':End X.K xw XS O H Q (((Pv.pv C i l S).bind λx S=>match x with|.bl c=>if c then .ok (.bl am) S else Pv.pv C j l S|_=>.no).bind λx S=>Pv.po (Pv.Zj x) S):=h
 refine#[O,l,S,st,lr,?_];show End X.K xw XS O H _ ((Pv.pv C i l S).bind λx S=>Pv.po (Pv.Zj x) S)
 cases q:Pv.pv C i l S with
 |no=>rw[q]at h';exact h'
 |ex c S1=>rw[q]at h';exact h'
 |ok x S1=>
  rw[q]at h';cases x with
  |bl n=>
   intro ρ1 H1 w f1 st1 e;have e':n=w:=e;subst e';cases n with|false=>exact#[ρ1,l,S1,st1,lr.mono f1,End.mono f1 (h')]|true=>exact(h') ρ1 H1 am f1 st1 rfl
  |_=>exact False.elim h'
end
theorem VR{f:D->D->Option Bool}(hf:∀x y v b,Rep O H x v->Rep O H y v->f x y=aa b->b=am):∀{ds es:List D}{xs:List V}{b:Bool},Rq O H ds xs->Rq O H es xs->Pv.Ye f ds es=aa b->b=am
 |[],[],_,b,_,_,h=>(ak h).symm
 |d::ds,e::es,_,b,r1,r2,h=>by
  obtain⟨v,vs,rfl,a1,b1⟩:=r1;obtain⟨v',vs',e',a2,b2⟩:=r2;cases e';unfold Pv.Ye at h;cases q1:f d e with
  |none=>rw[q1]at h;cases h
  |some p=>
   cases q2:Pv.Ye f ds es with
   |none=>rw[q1,q2]at h;cases h
   |some q=>
    rw[q1,q2]at h;have h':=ak h;rw[<-h',hf d e v p a1 a2 q1,VR hf b1 b2 q2];rfl
 |[],_::_,_,b,r1,r2,h=>by
  have l1:=r1.length;have l2:=r2.length;rw[l1]at l2;simp at l2
 |_::_,[],_,b,r1,r2,h=>by
  have l1:=r1.length;have l2:=r2.length;rw[l1]at l2;simp at l2
def Rep.sc{x y:D}{v:V}(r1:Rep O H x v)(r2:Rep O H y v)(h:∀a,v≠.ref a):x=y:=by
 cases x<;>cases y<;>unfold Rep at r1 r2<;>subst_vars<;>first
  |rfl
  |(cases r2;rfl)
  |(cases r1;rfl)
  |(obtain⟨a,z,_⟩:=r1;exact T7 z<|h a)
  |(obtain⟨a,z,_⟩:=r2;exact T7 z<|h a)
  |(obtain⟨a,_,z,_⟩:=r1;exact T7 z<|h a)
  |(obtain⟨a,_,z,_⟩:=r2;exact T7 z<|h a)
  |cases r1
  |cases r2
def wq{k:Nat}{x:D}{v:V}{b:Bool}(r:Rep O H x v)(hv:∀a,v≠.ref a)(h:Pv.eqV (k+1) x x=aa b):b=am:=by
 cases x<;>first
  |exact(ak h).symm
  |(rw[<-ak h];exact T5 rfl)
  |exact Ev.nos h
  |(obtain⟨a,_,z,_⟩:=r.tup';exact T7 z<|hv a)
  |(obtain⟨a,_,z,_⟩:=r.lst';exact T7 z<|hv a)
theorem Rep.ref{x:D}{p:aL}(r:Rep O H x (.ref p)){y:D}{k:Nat}{b:Bool}(h:Pv.eqV (k+1) x y=aa b\/Pv.eqV (k+1) y x=aa b):(∃ds es,x=.tup ds/\y=.tup es)\/∃ds es,x=.lst ds/\y=.lst es:=by
 cases x with
 |tup ds=>cases y<;>first|exact .inl #[_,_,rfl,rfl]|(rcases h with h|h<;>exact Ev.nos h)
 |lst ds=>cases y<;>first|exact .inr #[_,_,rfl,rfl]|(rcases h with h|h<;>exact Ev.nos h)
 |non=>cases r.non'
 |bl _=>cases r.bl'
 |int _=>cases r.int'
 |str _=>cases r.str'
 |_=>cases y<;>rcases h with h|h<;>exact Ev.nos h
theorem Wf:∀(k:Nat)(x y:D)(v:V)(b:Bool),Rep O H x v->Rep O H y v->Pv.eqV k x y=aa b->b=am
 |0,_,_,_,_,_,_,h=>by cases h
 |k+1,x,y,v,b,r1,r2,h=>by
  by_cases hv:∃a,v=.ref a
  .obtain⟨p,rfl⟩:=hv
   rcases r1.ref (.inl h)with⟨ds,es,rfl,rfl⟩|⟨ds,es,rfl,rfl⟩
   .obtain⟨_,_,z,e1,q1⟩:=r1.tup'
    cases z;obtain⟨_,_,z,e2,q2⟩:=r2.tup';cases z;rw[e1]at e2;cases e2;exact VR (λx y v b=>Wf k x y v b) q1 q2 h
   .obtain⟨_,_,z,e1,_,q1⟩:=r1.lst'
    cases z;obtain⟨_,_,z,e2,_,q2⟩:=r2.lst';cases z;rw[e1]at e2;cases e2;have h:(if ds.length=es.length then Pv.Ye (Pv.eqV k) ds es else aa aj)=aa b:=h
    rw[T9<|by rw[<-q1.length,q2.length]]at h
    exact VR (λx y v b=>Wf k x y v b) q1 q2 h
  .have hv:=λa z=>hv #[a,z]
   cases r1.sc r2 hv;exact wq r1 hv h
noncomputable def eAt(f:D->D->Option Bool)(ds es:List D)(j:Nat):Bool:=match ds[j]?,es[j]? with
 |some x,aa y=>(f x y).getD aj
 |_,_=>aj
theorem YE{f:D->D->Option Bool}:∀{ds es:List D}{b:Bool},Pv.Ye f ds es=aa b->
  ((aK<|nq ds.length es.length).all (eAt f ds es)&&ds.length == es.length)=b/\∀j x y,ds[j]?=aa x->es[j]?=aa y->f x y=aa (eAt f ds es j)
 |[],[],b,h=>#[ak h,λj x y e=>by simp at e]
 |[],_::es,b,h=>#[by rw[<-ak h];simp,λj x y e=>by simp at e]
 |_::ds,[],b,h=>#[by rw[<-ak h];simp,λj x y _ e=>by simp at e]
 |d::ds,e::es,b,h=>by
  unfold Pv.Ye at h;cases q1:f d e with
  |none=>rw[q1]at h;cases h
  |some p=>
   cases q2:Pv.Ye f ds es with
   |none=>rw[q1,q2]at h;cases h
   |some q=>
    rw[q1,q2]at h;obtain⟨ih,ih2⟩:=YE q2;have h':=ak h;have e0:eAt f (d::ds) (e::es) 0=p:=by simp[eAt,q1]
    have es':∀j,eAt f (d::ds) (e::es) (j+1)=eAt f ds es j:=λj=>by simp[eAt]
    refine#[?_,λj x y hx hy=>?_]
    .rw[<-h',<-ih,aO,aO,Nat.succ_min_succ,ko,fD,e0,kq]
     have:((aK<|nq ds.length es.length).all<|eAt f (d::ds) (e::es)∘Nat.succ)=(aK<|nq ds.length es.length).all (eAt f ds es):=by
      exact congrArg (λg=>(aK<|nq ds.length es.length).all g)<|funext λj=>es' j
     rw[this,Bool.and_assoc]
     congr 2
     simp
    .cases j with
     |zero=>
      simp at hx hy;subst hx hy;rw[e0];exact q1
     |succ j=>
      rw[es' j];exact ih2 j x y (by simpa using hx) (by simpa using hy)
def Yo{A:cQ}{k:Nat}(h:A.units+(k+1)<dq):A.in1.units+k<dq:=by
 have e:A.in1.units<=A.units+1:=by
  first|exact aA _|(simp[cQ.in1,cQ.units]<;>lia)
 lia
theorem Gj(I:Inv X pq U H s):∀(k:Nat)(A:cQ)(x y:D)(v u:V)(vv uu:ap)(b:Bool),A.units+k<dq->Rep O H x v->Rep O H y u->Zv v vv->Zv u uu->Pv.eqV k x y=aa b->gd A s vv uu b
 |0,_,_,_,_,_,_,_,_,_,_,_,_,_,h=>by cases h
 |k+1,A,x,y,v,u,vv,uu,b,hu,r1,r2,e1,e2,h=>by
  have flat:zm v=am->zm u=am->eqV v u=b->gd A s vv uu b:=λf1 f2 e=>by rw[<-e];exact Zbz e1 e2 f1 f2
  have bb:∀{a c:Bool},(a == c)=ag (a=c):=λ{a c}=>by cases a<;>cases c<;>rfl
  have ii:∀{a c:Int},(a == c)=ag (a=c):=λ{a c}=>by rw[bT];simp
  have ss:∀{a c:bF},(a == c)=ag (a=c):=λ{a c}=>by rw[bT];simp
  have item:∀{ds es:List D}{xs ys:List V}(j:Nat)(its its2:List ap)(j1:j<its.toArray.size)(j2:j<its2.toArray.size),its.toArray.size=ds.length->its2.toArray.size=es.length->Vals xs its->Vals ys its2->Rq O H ds xs->Rq O H es ys->(∀j x y,ds[j]?=aa x->es[j]?=aa y->Pv.eqV k x y=aa (eAt (Pv.eqV k) ds es j))->gd A.in1 s its.toArray[j] its2.toArray[j] (eAt (Pv.eqV k) ds es j):=λ{ds es xs ys} j its its2 j1 j2 n1 n2 v1 v2 q1 q2 ea=>by
   have d1:ds[j]?=aa ds[j]:=af (by lia)
   have d2:es[j]?=aa es[j]:=af (by lia)
   obtain⟨w1,g1,z1⟩:=q1.get d1;obtain⟨w2,g2,z2⟩:=q2.get d2;obtain⟨m1,k1,y1⟩:=v1.get g1;obtain⟨m2,k2,y2⟩:=v2.get g2;have o1:its.toArray[j]=m1:=by simpa using(aX.mp k1).2
   have o2:its2.toArray[j]=m2:=by simpa using(aX.mp k2).2
   rw[o1,o2];exact Gj I k A.in1 ds[j] es[j] w1 w2 m1 m2 _ (Yo hu) z1 z2 y1 y2<|ea j _ _ d1 d2
  cases x with
  |non=>
   cases r1.non';cases y with|non=>cases r2.non';exact flat rfl rfl<|ak h|bl _=>cases r2.bl';exact flat rfl rfl<|ak h|int _=>cases r2.int';exact flat rfl rfl<|ak h|str _=>cases r2.str';exact flat rfl rfl<|ak h|_=>exact Ev.nos h
  |bl i=>
   cases r1.bl';cases y with|non=>cases r2.non';exact flat rfl rfl<|ak h|bl _=>cases r2.bl';exact flat rfl rfl<|bb.trans<|ak h|int _=>cases r2.int';exact flat rfl rfl<|ii.trans<|ak h|str _=>cases r2.str';exact flat rfl rfl<|ak h|_=>exact Ev.nos h
  |int i=>
   cases r1.int';cases y with|non=>cases r2.non';exact flat rfl rfl<|ak h|bl _=>cases r2.bl';exact flat rfl rfl<|ii.trans<|ak h|int _=>cases r2.int';exact flat rfl rfl<|ii.trans<|ak h|str _=>cases r2.str';exact flat rfl rfl<|ak h|_=>exact Ev.nos h
  |str i=>
   cases r1.str';cases y with|non=>cases r2.non';exact flat rfl rfl<|ak h|bl _=>cases r2.bl';exact flat rfl rfl<|ak h|int _=>cases r2.int';exact flat rfl rfl<|ak h|str _=>cases r2.str';exact flat rfl rfl<|ss.trans<|ak h|_=>exact Ev.nos h
  |tup ds=>
   obtain⟨p,xs,rfl,hp,q1⟩:=r1.tup';cases e1;cases y with
   |tup es=>
    obtain⟨p',ys,rfl,hp',q2⟩:=r2.tup';cases e2;by_cases hpp:p=p'
    .subst hpp
     rw[Wf (k+1) (.tup ds) (.tup es) (.ref p) b r1 r2 h];exact gD _
    .obtain⟨its,v1,t1,_⟩:=I.tuple (SqT.of hp)
     obtain⟨its2,v2,t2,_⟩:=I.tuple<|SqT.of hp';have h':=h;obtain⟨ev,ea⟩:=YE h';have n1:its.toArray.size=ds.length:=by rw[ax,<-v1.length,q1.length]
     have n2:its2.toArray.size=es.length:=by rw[ax,<-v2.length,q2.length]
     refine hG hpp ?_;rw[<-ev,<-n1,<-n2];exact iI t1 t2 (by lia) λj j1 j2=>item j its its2 j1 j2 n1 n2 v1 v2 q1 q2 ea
   |_=>exact Ev.nos h
  |lst ds=>
   obtain⟨p,xs,rfl,u1,_,q1⟩:=r1.lst';cases e1;cases y with
   |lst es=>
    obtain⟨p',ys,rfl,u2,_,q2⟩:=r2.lst';cases e2;by_cases hpp:p=p'
    .subst hpp
     rw[Wf (k+1) (.lst ds) (.lst es) (.ref p) b r1 r2 h];exact gD _
    .obtain⟨its,v1,p1,_⟩:=I.list (SqL.of u1)
     obtain⟨its2,v2,p2,_⟩:=I.list<|SqL.of u2;have n1:its.toArray.size=ds.length:=by rw[ax,<-v1.length,q1.length]
     have n2:its2.toArray.size=es.length:=by rw[ax,<-v2.length,q2.length]
     refine hG hpp ?_;have h2:(if ds.length=es.length then Pv.Ye (Pv.eqV k) ds es else aa aj)=aa b:=h
     by_cases hl:ds.length=es.length
     .rw[T9 hl]at h2
      obtain⟨ev,ea⟩:=YE h2;have ev':(aK ds.length).all (eAt (Pv.eqV k) ds es)=b:=by
       rw[<-ev,<-hl,l8];simp
      rw[<-ev',<-n1];exact mD p1.isList p2.isList (by lia) (by lia) λj j1 j2=>item j its its2 j1 j2 n1 n2 v1 v2 q1 q2 ea
     .rw[T8 hl]at h2
      rw[<-ak h2];exact iN p1.isList p2.isList (bne_iff_ne.mpr<|by lia) (by lia)
   |_=>exact Ev.nos h
  |_=>exact Ev.nos h
def XX(I:Inv X pq U H s){k:Nat}{A:cQ}{ds es:List D}{xs ys:List V}{its its2:List ap}{b:Bool}(hu:A.units+(k+1)<dq)
  (q1:Rq O H ds xs)(q2:Rq O H es ys)(v1:Vals xs its)(v2:Vals ys its2)(h:Pv.Ye (Pv.eqV k) ds es=aa b) :
  ∀j (h1:j<its.toArray.size) (h2:j<its2.toArray.size),gd A.in1 s its.toArray[j] its2.toArray[j] (eAt (Pv.eqV k) ds es j):=λj j1 j2=>by
 obtain⟨_,ea⟩:=YE h;have n1:its.toArray.size=ds.length:=by rw[ax,<-v1.length,q1.length]
 have n2:its2.toArray.size=es.length:=by rw[ax,<-v2.length,q2.length]
 have d1:ds[j]?=aa ds[j]:=af (by lia)
 have d2:es[j]?=aa es[j]:=af (by lia)
 obtain⟨w1,g1,z1⟩:=q1.get d1;obtain⟨w2,g2,z2⟩:=q2.get d2;obtain⟨m1,k1,y1⟩:=v1.get g1;obtain⟨m2,k2,y2⟩:=v2.get g2;have o1:its.toArray[j]=m1:=by
  have:=aX.mp k1
  simpa using this.2
 have o2:its2.toArray[j]=m2:=by
  have:=aX.mp k2
  simpa using this.2
 rw[o1,o2];exact Gj I k A.in1 ds[j] es[j] w1 w2 m1 m2 _ (Yo hu) z1 z2 y1 y2<|ea j _ _ d1 d2
def qA(K:ao)(xw:Nat->Hp->Prop)(op:Cop):R2:=λv u H Q=>∃O S x y,St3 K O S H/\Rep O H x v/\Rep O H y u/\End K xw Rep O H Q (Pv.po (Pv.Yk op x y) S)
def Zce :∀U H Q,tE X xw (Pv.pv C<|.cmp op i j) U H Q->tOp (qA X.K xw op) (tE X xw<|Pv.pv C i) (tE X xw<|Pv.pv C j) U H Q:=λU H Q h=>
 Xl (λ{O H S x y v u Q} st rx ry h=>#[O,S,x,y,st,rx,ry,h]) U H Q h
def dI{a c:Int}:(a == c)=ag (a=c):=by rw[bT];simp
def zt{H:Hp}{O:Mx}{k:Nat}{x y:D}{v u:V}{b:Bool}(rx:Rep O H x v)(ry:Rep O H y u)(hb:Pv.eqV (k+1) x y=aa b):(scal v u=am/\ag (v=u)=b)\/(∃i j,v=.bl i/\u=.int j/\ag (Ev.b2i i=j)=b)\/(∃i j,v=.int i/\u=.bl j/\ag (i=Ev.b2i j)=b)\/(∃ds es,x=.tup ds/\y=.tup es/\Pv.Ye (Pv.eqV k) ds es=aa b)\/∃ds es,x=.lst ds/\y=.lst es/\(if ds.length=es.length then Pv.Ye (Pv.eqV k) ds es else aa aj)=aa b:=by
 cases x with
 |non=>cases rx.non';cases y with|non=>cases ry.non';exact .inl #[rfl,ak hb▸by simp]|bl _=>cases ry.bl';exact .inl #[rfl,ak hb]|int _=>cases ry.int';exact .inl #[rfl,ak hb]|str _=>cases ry.str';exact .inl #[rfl,ak hb]|_=>exact Ev.nos hb
 |bl i=>cases rx.bl';cases y with|non=>cases ry.non';exact .inl #[rfl,ak hb]|bl j=>cases ry.bl';exact .inl #[rfl,ak hb▸by simp]|int j=>cases ry.int';exact .inr<|.inl #[i,j,rfl,rfl,ak hb]|str _=>cases ry.str';exact .inl #[rfl,ak hb]|_=>exact Ev.nos hb
 |int i=>cases rx.int';cases y with|non=>cases ry.non';exact .inl #[rfl,ak hb]|bl j=>cases ry.bl';exact .inr<|.inr<|.inl #[i,j,rfl,rfl,ak hb]|int _=>cases ry.int';exact .inl #[rfl,ak hb▸by simp]|str _=>cases ry.str';exact .inl #[rfl,ak hb]|_=>exact Ev.nos hb
 |str i=>cases rx.str';cases y with|non=>cases ry.non';exact .inl #[rfl,ak hb]|bl _=>cases ry.bl';exact .inl #[rfl,ak hb]|int _=>cases ry.int';exact .inl #[rfl,ak hb]|str _=>cases ry.str';exact .inl #[rfl,ak hb▸by simp]|_=>exact Ev.nos hb
 |tup ds=>cases y with|tup es=>exact .inr<|.inr<|.inr<|.inl #[ds,es,rfl,rfl,hb]|_=>exact Ev.nos hb
 |lst ds=>cases y with|lst es=>exact .inr<|.inr<|.inr<|.inr #[ds,es,rfl,rfl,hb]|_=>exact Ev.nos hb
 |_=>exact Ev.nos hb
def Zci(hu:X.A.units+6<dq):OpR X (bY .Eq) (qA X.K xw .eq):=by
 intro pq s U H v u vv uu Q I e1 e2 h;obtain⟨O,S,x,y,st,rx,ry,h⟩:=h;obtain⟨b,hb,h1⟩:=End.map h;have q:=End.ok h1 st<|ZY b;rcases zt rx ry hb with⟨hs,e⟩|⟨i,j,rfl,rfl,e⟩|⟨i,j,rfl,rfl,e⟩|⟨ds,es,rfl,rfl,hb'⟩|⟨ds,es,rfl,rfl,h2⟩
 .exact Zc4 pq s U H v u vv uu Q I e1 e2 #[hs,by rw[e];exact q]
 .cases e1
  obtain⟨t,rfl⟩:=e2;refine EqBoolInt.eq_bool_int #[.bl b,H,I,?_,q];show cX ((if i then 1 else 0) == j)=cX b
  rw[dI];exact congrArg cX e
 .cases e2
  obtain⟨t,rfl⟩:=e1;refine EqBoolInt.eq_int_bool #[.bl b,H,I,?_,q];show cX (i == (if j then 1 else 0))=cX b
  rw[dI];exact congrArg cX e
 ·
  obtain⟨p,xs,rfl,hp,q1⟩:=rx.tup';cases e1;obtain⟨p',ys,rfl,hp',q2⟩:=ry.tup';cases e2;obtain⟨its,v1,t1,_⟩:=I.tuple<|SqT.of hp;obtain⟨its2,v2,t2,_⟩:=I.tuple<|SqT.of hp';obtain⟨ev,_⟩:=YE hb';have n1:its.toArray.size=ds.length:=by rw[ax,<-v1.length,q1.length]
  have n2:its2.toArray.size=es.length:=by rw[ax,<-v2.length,q2.length]
  refine iI t1 t2 (by lia) (XX I hu q1 q2 v1 v2 hb') X.prog X.w X.xe _ ?_
  rw[n1,n2,ev];exact#[.bl b,H,I,rfl,q]
 ·
  obtain⟨p,xs,rfl,u1,_,q1⟩:=rx.lst';cases e1;obtain⟨p',ys,rfl,u2,_,q2⟩:=ry.lst';cases e2;obtain⟨its,v1,p1,_⟩:=I.list<|SqL.of u1;obtain⟨its2,v2,p2,_⟩:=I.list<|SqL.of u2;have n1:its.toArray.size=ds.length:=by rw[ax,<-v1.length,q1.length]
  have n2:its2.toArray.size=es.length:=by rw[ax,<-v2.length,q2.length]
  by_cases hl:ds.length=es.length
  .rw[T9 hl]at h2
   obtain⟨ev,_⟩:=YE h2;have ev':(aK ds.length).all (eAt (Pv.eqV 5) ds es)=b:=by
    rw[<-ev,<-hl,l8];simp
   refine mD p1.isList p2.isList (by lia) (by lia) (XX I hu q1 q2 v1 v2 h2) X.prog X.w X.xe _ ?_
   rw[n1,ev'];exact#[.bl b,H,I,rfl,q]
  .rw[T8 hl]at h2
   refine iN p1.isList p2.isList (bne_iff_ne.mpr<|by lia) (by lia) X.prog X.w X.xe _ ?_
   exact#[.bl b,H,I,congrArg cX<|ak h2,q]
def Zbn(hu:X.A.units+6<dq):OpR X (bY .NotEq) (qA X.K xw .ne):=by
 intro pq s U H v u vv uu Q I e1 e2 h;obtain⟨O,S,x,y,st,rx,ry,h⟩:=h;obtain⟨b,hb,h1⟩:=End.map h;have q:=End.ok h1 st<|ZY _;rcases zt rx ry hb with⟨hs,e⟩|⟨i,j,rfl,rfl,e⟩|⟨i,j,rfl,rfl,e⟩|⟨ds,es,rfl,rfl,hb'⟩|⟨ds,es,rfl,rfl,h2⟩
 .exact ZcI pq s U H v u vv uu Q I e1 e2 #[hs,by rw[e];exact q]
 .cases e1
  obtain⟨t,rfl⟩:=e2;refine EqBoolInt.ne_bool_int #[.bl !b,H,I,?_,q];show cX (!((if i then 1 else 0) == j))=cX !b
  rw[dI];exact congrArg (λz=>cX !z) e
 .cases e2
  obtain⟨t,rfl⟩:=e1;refine EqBoolInt.ne_int_bool #[.bl !b,H,I,?_,q];show cX (!(i == (if j then 1 else 0)))=cX !b
  rw[dI];exact congrArg (λz=>cX !z) e
 ·
  obtain⟨p,xs,rfl,hp,q1⟩:=rx.tup';cases e1;obtain⟨p',ys,rfl,hp',q2⟩:=ry.tup';cases e2;obtain⟨its,v1,t1,_⟩:=I.tuple<|SqT.of hp;obtain⟨its2,v2,t2,_⟩:=I.tuple<|SqT.of hp';obtain⟨ev,_⟩:=YE hb';have n1:its.toArray.size=ds.length:=by rw[ax,<-v1.length,q1.length]
  have n2:its2.toArray.size=es.length:=by rw[ax,<-v2.length,q2.length]
  refine SeqAt.RcNeAt.tuples t1 t2 (by lia) (XX I hu q1 q2 v1 v2 hb') X.prog X.w X.xe _ ?_
  rw[n1,n2,ev];exact#[.bl !b,H,I,rfl,q]
 ·
  obtain⟨p,xs,rfl,u1,_,q1⟩:=rx.lst';cases e1;obtain⟨p',ys,rfl,u2,_,q2⟩:=ry.lst';cases e2;obtain⟨its,v1,p1,_⟩:=I.list<|SqL.of u1;obtain⟨its2,v2,p2,_⟩:=I.list<|SqL.of u2;have n1:its.toArray.size=ds.length:=by rw[ax,<-v1.length,q1.length]
  have n2:its2.toArray.size=es.length:=by rw[ax,<-v2.length,q2.length]
  by_cases hl:ds.length=es.length
  .rw[T9 hl]at h2
   obtain⟨ev,_⟩:=YE h2;have ev':(aK ds.length).all (eAt (Pv.eqV 5) ds es)=b:=by
    rw[<-ev,<-hl,l8];simp
   refine SeqAt.RcNeAt.lists p1.isList p2.isList (by lia) (by lia) (XX I hu q1 q2 v1 v2 h2) X.prog X.w X.xe _ ?_
   rw[n1,ev'];exact#[.bl !b,H,I,rfl,q]
  .rw[T8 hl]at h2
   refine SeqAt.RcNeAt.lists_lengths p1.isList p2.isList (bne_iff_ne.mpr<|by lia) (by lia) X.prog X.w X.xe _ ?_
   exact#[.bl !b,H,I,congrArg (λz=>cX !z)<|ak h2,q]
theorem QC(hf:∀x x' y v b b',Rep O H x v->Rep O H x' v->f x y=aa b->f x' y=aa b'->b=b') :
  ∀{ds ds' es:List D}{xs:List V}{b b':Bool},Rq O H ds xs->Rq O H ds' xs->Pv.Ye f ds es=aa b->Pv.Ye f ds' es=aa b'->b=b'
 |[],[],[],_,b,b',_,_,h,h'=>(ak h).symm.trans<|ak h'
 |[],[],_::_,_,b,b',_,_,h,h'=>(ak h).symm.trans<|ak h'
 |_::_,_::_,[],_,b,b',_,_,h,h'=>(ak h).symm.trans<|ak h'
 |d::ds,d'::ds',e::es,_,b,b',r1,r2,h,h'=>by
  obtain⟨v,vs,rfl,a1,b1⟩:=r1;obtain⟨v',vs',e',a2,b2⟩:=r2;cases e';unfold Pv.Ye at h h';cases q1:f d e with
  |none=>rw[q1]at h;cases h
  |some p=>
   cases q2:Pv.Ye f ds es with
   |none=>rw[q1,q2]at h;cases h
   |some q=>
    cases q3:f d' e with
    |none=>rw[q3]at h';cases h'
    |some p'=>
     cases q4:Pv.Ye f ds' es with
     |none=>rw[q3,q4]at h';cases h'
     |some q'=>
      rw[q1,q2]at h;rw[q3,q4]at h';have z1:=ak h;have z2:=ak h';rw[<-z1,<-z2,hf d d' e v p p' a1 a2 q1 q3,QC hf b1 b2 q2 q4]
 |[],_::_,_,_,b,b',r1,r2,_,_=>by
  have l1:=r1.length;have l2:=r2.length;rw[l1]at l2;simp at l2
 |_::_,[],_,_,b,b',r1,r2,_,_=>by
  have l1:=r1.length;have l2:=r2.length;rw[l1]at l2;simp at l2
theorem Qy:∀(k:Nat)(x x' y:D)(v:V)(b b':Bool),Rep O H x v->Rep O H x' v->Pv.eqV k x y=aa b->Pv.eqV k x' y=aa b'->b=b'
 |0,_,_,_,_,_,_,_,_,h,_=>by cases h
 |k+1,x,x',y,v,b,b',r1,r2,h,h'=>by
  by_cases hv:∃a,v=.ref a
  .obtain⟨p,rfl⟩:=hv
   rcases r1.ref (.inl h)with⟨ds,es,rfl,rfl⟩|⟨ds,es,rfl,rfl⟩<;>rcases r2.ref (.inl h')with⟨ds',es',rfl,z⟩|⟨ds',es',rfl,z⟩<;>cases z
   .obtain⟨_,_,z,e1,q1⟩:=r1.tup'
    cases z;obtain⟨_,_,z,e2,q2⟩:=r2.tup';cases z;rw[e1]at e2;cases e2;exact QC (λx x' y v b b'=>Qy k x x' y v b b') q1 q2 h h'
   .obtain⟨_,_,z,e1,_,q1⟩:=r1.lst'
    cases z;obtain⟨_,_,z,e2,_,q2⟩:=r2.lst';cases z;rw[e1]at e2;cases e2;have l:ds'.length=ds.length:=by rw[<-q1.length,q2.length]
    have h:(if ds.length=es.length then Pv.Ye (Pv.eqV k) ds es else aa aj)=aa b:=h
    have h':(if ds'.length=es.length then Pv.Ye (Pv.eqV k) ds' es else aa aj)=aa b':=h'
    rw[l]at h';by_cases c:ds.length=es.length
    .rw[T9 c]at h h'
     exact QC (λx x' y v b b'=>Qy k x x' y v b b') q1 q2 h h'
    .rw[T8 c]at h h'
     exact ak<|h.symm.trans h'
  .cases r1.sc r2 λa z=>hv #[a,z]
   exact ak<|h.symm.trans h'
theorem Qq :∀{ds:List D}{b:Bool},Pv.XD x ds=aa b->∀d∈ds,∃c,Pv.eqV Ev.Zw d x=aa c
 |[],_,_,d,hd=>by cases hd
 |y::ys,b,h,d,hd=>by
  unfold Pv.XD at h;cases q1:Pv.eqV Ev.Zw y x with
  |none=>rw[q1]at h;cases h
  |some p=>
   cases q2:Pv.XD x ys with
   |none=>rw[q1,q2]at h;cases h
   |some q=>
    rcases az.mp hd with rfl|hd
    .exact#[p,q1]
    .exact Qq q2 d hd
theorem zg :∀{ds:List D}{b:Bool},Pv.XD x ds=aa b->(ds.any λd=>(Pv.eqV Ev.Zw d x).getD aj)=b
 |[],_,h=>ak h
 |y::ys,b,h=>by
  unfold Pv.XD at h;cases q1:Pv.eqV Ev.Zw y x with
  |none=>rw[q1]at h;cases h
  |some p=>
   cases q2:Pv.XD x ys with
   |none=>rw[q1,q2]at h;cases h
   |some q=>
    rw[q1,q2]at h;rw[eJ,zg q2,q1,<-ak h];rfl
open Classical in
def X9(I:Inv X pq U H s)(hu:A.units+6<dq)(rx:Rep O H x v)(ex:Zv v vv)
  (q:Rq O H ds xs)(vs:Vals xs its)(h:Pv.XD x ds=aa b):∃e:ap->Bool,(∀u,u∈its.toArray->gd A s u vv (e u))/\its.toArray.any e=b:=by
 refine#[λu=>ag (∃d∈ds,∃w,Rep O H d w/\Zv w u/\Pv.eqV Ev.Zw d x=aa am),λu hu'=>?_,?_]
 .have hu2:u∈its:=by simpa using hu'
  obtain⟨j,hj,e⟩:=cz hu2;have hl:j<ds.length:=by rw[<-q.length,vs.length];exact hj
  obtain⟨w,g,r⟩:=q.get<|af hl;obtain⟨u',g',r'⟩:=vs.get g;have eu:u'=u:=by
   rw[af hj]at g';exact(ak g').symm.trans e
  subst eu;obtain⟨c,hc⟩:=Qq h ds[j]<|aU hl;have ec:ag (∃d∈ds,∃w,Rep O H d w/\Zv w u'/\Pv.eqV Ev.Zw d x=aa am)=c:=by
   cases c with
   |true=>exact T5 #[ds[j],aU hl,w,r,r',hc]
   |false=>
    refine T4 ?_
    rintro ⟨d,hd,w',a1,a2,a3⟩
    cases a2.inj r';exact T7 (Qy 6 d ds[j] x w am aj a1 r a3 hc) (by decide)
  dsimp only
  rw[ec];exact Gj I 6 A ds[j] x w v u' vv c hu r rx r' ex hc
 .rw[<-zg h,List.any_toArray,bT,fg,fg]
  constructor
  .rintro ⟨u,hu1,h1⟩
   obtain⟨d,hd,w,a1,a2,a3⟩:=T6 h1;exact#[d,hd,by rw[a3];rfl]
  .rintro ⟨d,hd,h1⟩
   obtain⟨j,hj,e⟩:=cz hd;subst e;obtain⟨w,g,r⟩:=q.get<|af hj;obtain⟨u,g',r'⟩:=vs.get g;refine#[u,dy g',T5 #[ds[j],hd,w,r,r',?_]];obtain⟨c,hc⟩:=Qq h ds[j] hd;rw[hc]at h1 ⊢;exact congrArg aa h1
section
variable{X:Cx}{xw:Nat->Hp->Prop}{C:Calls}{e a b c:Expr}{i j k:E}{pos p p':iu}
def Zbe(hu:X.A.units+7<dq):OpR X (bY .In) (λv u H Q=>∃O S x ds b,St3 X.K O S H/\Rep O H x v/\(Rep O H (.tup ds) u\/Rep O H (.lst ds) u)/\Pv.XD x ds=aa b/\Q (.bl b) H):=by
 intro pq s U H v u vv uu Q I e1 e2 h;obtain⟨O,S,x,ds,b,st,rx,ry,hb,q⟩:=h;rcases ry with ry|ry
 .obtain⟨p,xs,rfl,hp,q1⟩:=ry.tup'
  cases e2;obtain⟨its,v1,t1,_⟩:=I.tuple<|SqT.of hp;obtain⟨f,h1,h2⟩:=X9 I (Yo hu) rx e1 q1 v1 hb;exact SeqAt.in_tupleAt f t1 h1 (by rw[h2];exact#[.bl b,H,I,rfl,q])
 .obtain⟨p,xs,rfl,hx,_,q1⟩:=ry.lst'
  cases e2;obtain⟨its,v1,t1,_⟩:=I.list<|SqL.of hx;obtain⟨f,h1,h2⟩:=X9 I (Yo hu) rx e1 q1 v1 hb;exact SeqAt.in_listAt f t1.isList h1 (by rw[h2];exact#[.bl b,H,I,rfl,q])
def qf(hu:X.A.units+7<dq):OpR X (bY .NotIn) (λv u H Q=>∃O S x ds b,St3 X.K O S H/\Rep O H x v/\(Rep O H (.tup ds) u\/Rep O H (.lst ds) u)/\Pv.XD x ds=aa b/\Q (.bl !b) H):=by
 intro pq s U H v u vv uu Q I e1 e2 h;obtain⟨O,S,x,ds,b,st,rx,ry,hb,q⟩:=h;rcases ry with ry|ry
 .obtain⟨p,xs,rfl,hp,q1⟩:=ry.tup'
  cases e2;obtain⟨its,v1,t1,_⟩:=I.tuple<|SqT.of hp;obtain⟨f,h1,h2⟩:=X9 I (Yo hu) rx e1 q1 v1 hb;exact SeqAt.notIn_tupleAt f t1 h1 (by rw[h2];exact#[.bl !b,H,I,rfl,q])
 .obtain⟨p,xs,rfl,hx,_,q1⟩:=ry.lst'
  cases e2;obtain⟨its,v1,t1,_⟩:=I.list<|SqL.of hx;obtain⟨f,h1,h2⟩:=X9 I (Yo hu) rx e1 q1 v1 hb;exact SeqAt.notIn_listAt f t1.isList h1 (by rw[h2];exact#[.bl !b,H,I,rfl,q])
variable{O:Mx}{H:Hp}{S:Zn}{x y:D}{v u:V}{Q:VK}{K:ao}
def jc(h:Pv.int2 x y=aa z):x=.int z.1/\y=.int z.2:=by
 cases x<;>first|exact Ev.nos h|(cases y<;>first|exact Ev.nos h|(cases h;exact#[rfl,rfl]))
def QM{f:Int×Int->Bool}(st:St3 K O S H)(rx:Rep O H x v)(ry:Rep O H y u)(h:End K xw Rep O H Q (Pv.po ((Pv.int2 x y).map λz=>.bl<|f z) S)):rI0 (λi j=>.bl<|f (i,j)) v u H Q:=by
 obtain⟨z,hz,h⟩:=End.map h;obtain⟨rfl,rfl⟩:=jc hz;exact#[_,_,rx.int',ry.int',End.ok h st<|ZY _]
def Zdt(st:St3 K O S H)(rx:Rep O H x v)(ry:Rep O H y u)(h:End K xw Rep O H Q (Pv.po (Pv.Yk .lt x y) S)):rI0 (λi j=>.bl<|ag<|i<j) v u H Q\/∃a b A B,x=.tup a/\y=.tup b/\Pv.Z0 a=aa A/\Pv.Z0 b=aa B/\Q (.bl<|Ev.ltP A B) H:=by
 cases x with
 |tup a=>cases y with
  |tup b=>
   obtain⟨z,hz,h⟩:=End.po h;obtain⟨A,hA,hz⟩:=aD.mp hz;obtain⟨B,hB,rfl⟩:=aR.mp hz;exact .inr #[a,b,A,B,rfl,rfl,hA,hB,End.ok h st<|ZY _]
  |_=>exact False.elim h
 |_=>exact .inl<|QM (f:=λz=>ag<|z.1<z.2) st rx ry h
end
section
variable{X:Cx}{xw:Nat->Hp->Prop}{C:Calls}{e a b c:Expr}{i j k:E}{pos p p':iu}
def Xm{B β γ:Type}(r:R B)(f:B->Zn->R β)(g:β->Zn->R γ):(r.bind f).bind g=r.bind λa S=>(f a S).bind g:=by cases r<;>rfl
def GG{B:Type}{o:Option B}{f:B->Bool}{z:D}(h:o.map (λa=>Pv.V.bl<|f a)=aa z):∃b,z=.bl b:=by
 obtain⟨a,_,rfl⟩:=aR.mp h;exact#[_,rfl]
def vA{o:Cop}{x y:D}{S S':Zn}{z:D}(h:Pv.po (Pv.Yk o x y) S=.ok z S'):∃b,z=.bl b:=by
 have h:Pv.Yk o x y=aa z:=by
  cases q:Pv.Yk o x y<;>rw[q]at h<;>cases h;rfl
 cases o with
 |lt=>
  cases x with
  |tup a=>
   cases y with|tup b=>obtain⟨A,_,h⟩:=aD.mp h;exact GG h|_=>exact Ev.nos h
  |int i=>exact GG h
  |_=>exact Ev.nos h
 |_=>exact GG h
def YC(X:Cx)(xw:Nat->Hp->Prop)(op:CmpOp)(o:Cop):Prop:=OpR X (bY op)<|qA X.K xw o
def OpR.imp(h:OpR X f r)(k:∀v u H Q,r' v u H Q->r v u H Q):OpR X f r':=λpq s U H x y v u Q I e1 e2 q=>h pq s U H x y v u Q I e1 e2<|k x y H Q q
theorem vi(hu:X.A.units+7<dq):YC X xw .Eq .eq:=Zci (by lia)
theorem vB(hu:X.A.units+7<dq):YC X xw .NotEq .ne:=Zbn (by lia)
def UL(hu:X.A.units+7<dq):YC X xw .LtE .le:=OpR.imp ZdB<|by rintro v u H Q ⟨O,S,x,y,st,rx,ry,h⟩;exact QM st rx ry h
def vh(hu:X.A.units+7<dq):YC X xw .Gt .gt:=OpR.imp Zdm<|by rintro v u H Q ⟨O,S,x,y,st,rx,ry,h⟩;exact QM (f:=λz=>ag<|z.2<z.1) st rx ry h
def wc(hu:X.A.units+7<dq):YC X xw .GtE .ge:=OpR.imp ZcF<|by rintro v u H Q ⟨O,S,x,y,st,rx,ry,h⟩;exact QM st rx ry h
def w6{O:Mx}{H:Hp}{x y:D}{v u:V}{b:Bool}(rx:Rep O H x v)(ry:Rep O H y u)(h:Pv.isV x y=aa b):(u=.non/\ag (v=.non)=b)\/∃i j,v=.bl i/\u=.bl j/\ag (i=j)=b:=by
 cases y with
 |non=>
  refine .inl #[ry.non',?_];rw[<-ak h];cases x<;>unfold Rep at rx<;>first
   |(subst rx;rfl)
   |(obtain⟨_,z,_⟩:=rx;subst z;rfl)
   |(obtain⟨_,_,z,_⟩:=rx;subst z;rfl)
 |bl j=>cases x with|bl i=>exact .inr #[i,j,rx.bl',ry.bl',ak h]|_=>exact Ev.nos h
 |_=>exact Ev.nos h
def vL(hu:X.A.units+7<dq):YC X xw .Is .is:=OpR.imp (ZbE.or Zcj)<|by
 rintro v u H Q ⟨O,S,x,y,st,rx,ry,h⟩;obtain⟨b,hb,h⟩:=End.map h;have q:=End.ok h st<|ZY b;rcases w6 rx ry hb with⟨e,z⟩|⟨i,j,e,e2,z⟩
 .exact .inl #[e,by rw[z];exact q]
 .exact .inr #[i,j,e,e2,by rw[z];exact q]
def GK(hu:X.A.units+7<dq):YC X xw .IsNot .isn:=OpR.imp (Zaf.or qy)<|by
 rintro v u H Q ⟨O,S,x,y,st,rx,ry,h⟩;obtain⟨b,hb,h⟩:=End.map h;have q:=End.ok h st<|ZY !b;rcases w6 rx ry hb with⟨e,z⟩|⟨i,j,e,e2,z⟩
 .exact .inl #[e,by rw[z];exact q]
 .exact .inr #[i,j,e,e2,by rw[decide_not,z];exact q]
def J1{O:Mx}{H:Hp}{x y:D}{u:V}{b:Bool}(ry:Rep O H y u)(h:Pv.WW x y=aa b) :
  (∃ds,(Rep O H (.tup ds) u\/Rep O H (.lst ds) u)/\Pv.XD x ds=aa b)\/
  (∃(l:List (List Int))(k:List D)(ks:List Int),(∃(p:aL)(vs:List (List Key×V)),u=.ref p/\Rd H p (.dT vs)/\vs.map (·.1)=l.map (·.map cP))/\x=.tup k/\Pv.intsV k=aa ks/\l.contains ks=b):=by
 cases y with
 |tup ys=>exact .inl #[ys,.inl ry,h]
 |lst ys=>exact .inl #[ys,.inr ry,h]
 |dct o=>
  cases o with
  |none=>exact Ev.nos h
  |some l=>
   cases x with
   |tup k=>
    obtain⟨ks,e,z⟩:=aR.mp h;obtain⟨p,e1,o,vs,e2,e3⟩:=ry.dct';exact .inr #[l,k,ks,#[p,vs,e1,.inr #[o,e2],e3],rfl,e,z]
   |_=>exact Ev.nos h
 |dow l=>
  cases x with
  |tup k=>
   obtain⟨ks,e,z⟩:=aR.mp h;obtain⟨p,vs,e1,e2,_,e3⟩:=ry.dow';exact .inr #[l,k,ks,#[p,vs,e1,.inl e2,e3],rfl,e,z]
  |_=>exact Ev.nos h
 |_=>exact Ev.nos h
def YI{op:CmpOp}{o:Cop}(hc:YC X xw op o)(ha:CE X xw C a i)(hb:CE X xw C b j)(hm:fB op b=aj):CE X xw C (.Compare a [op] [b] pos) (.cmp o i j):=.mk <|
 PE.imp (Zab hc ha.h hb.h hm) (Zce)
def YG{op:CmpOp}{o:Cop}(hc:YC X xw op o)(ha:CE X xw C a i)(hb:CE X xw C b j)(hm:fB op b=aj):CT X xw C (.Compare a [op] [b] pos) (.cmp o i j):=.mk <|
 PT.imp (qQ hc ha.h hb.h hm)<|by
  rintro U H Q ⟨O,l,S,st,lr,h⟩;have h':End X.K xw XS O H Q (((Pv.pv C i l S).bind λx S=>(Pv.pv C j l S).bind λy S=>Pv.po (Pv.Yk o x y) S).bind λx S=>Pv.po (Pv.Zj x) S):=h
  simp only[Xm]at h';refine#[O,l,S,st,lr,h'.bind λx S1 ρ1 H1 v f1 st1 r1 h1=>#[ρ1,l,S1,st1,lr.mono f1,h1.bind λy S2 ρ2 H2 u f2 st2 r2 h2=>#[ρ2,S2,x,y,st2,r1.mono f2,r2,?_]]]
  have h3:∀{r:R D},(∀z S',r=.ok z S'->∃b,z=.bl b)->End X.K xw XS ρ2 H2 Q (r.bind λx S=>Pv.po (Pv.Zj x) S)->End X.K xw Rep ρ2 H2 (λx H'=>∃k,x=V.bl k/\Q k H') r:=λ{r} hr h=>by
   cases r with
   |no=>exact h
   |ex _ _=>exact h
   |ok z S3=>
    obtain⟨b,rfl⟩:=hr z S3 rfl;exact λρ3 H3 w f3 st3 r3=>#[b,r3.bl',h ρ3 H3 b f3 st3 rfl]
  exact h3 (λz S' e=>vA e) h2
def Gg{op op':CmpOp}{o o':Cop}{d:Expr}{k:E}(hc:YC X xw op o)(hc':YC X xw op' o')(ha:CE X xw C a i)(hb:CE X xw C b j)(hd:CE X xw C d k)
  (hm:lastMarks [op,op'] [b,d]=aj):CE X xw C (.Compare a [op,op'] [b,d] pos) (.chain o o' i j k):=.mk <|
 PE.imp (vJ hc hc' ha.h hb.h hd.h hm)<|by
  rintro U H Q ⟨O,l,S,st,lr,h⟩;refine#[O,l,S,st,lr,End.bind (show End X.K xw Rep O H Q ((Pv.pv C i l S).bind _)from h) λx S1 ρ1 H1 v f1 st1 r1 h1=>#[ρ1,l,S1,st1,lr.mono f1,h1.bind λy S2 ρ2 H2 u f2 st2 r2 h2=>#[ρ2,S2,x,y,st2,r1.mono f2,r2,h2.bind λz S3 ρ3 H3 w f3 st3 r3 h3=>?_]]]
  cases z with
  |bl n=>
   refine#[n,r3.bl',?_];cases n with|true=>exact#[ρ3,l,S3,st3,((lr.mono f1).mono f2).mono f3,End.bind (show End X.K xw Rep ρ3 H3 Q ((Pv.pv C k l S3).bind _)from h3) λt S4 ρ4 H4 t' f4 st4 r4 h4=>#[ρ4,S4,y,t,st4,(r2.mono f3).mono f4,r4,h4]]|false=>exact End.ok h3 st3<|ZY _
  |_=>exact False.elim h3
end
section
variable{X:Cx}{xw:Nat->Hp->Prop}{C:Calls}{e a b c:Expr}{i j k:E}{pos p p' p2:iu}
variable{O:Mx}{H:Hp}{S:Zn}{x y:D}{v u:V}{Q:VK}{K:ao}
def UG{d:D}{ks:List D}{k:List Int}(h:Pv.intsV (d::ks)=aa k):∃n r,d=.int n/\Pv.intsV ks=aa r/\k=n::r:=by
 cases d<;>first|exact Ev.nos h|(obtain⟨r,e,z⟩:=aR.mp h;exact#[_,r,rfl,e,z.symm])
theorem Xt:∀{ks:List D}{k:List Int}{xs:List V},Pv.intsV ks=aa k->Rq O H ks xs->xs=(k.map (cP:Int->Key)).map kV
 |[],k,xs,h,r=>by cases h;rw[r];rfl
 |d::ks,k,xs,h,r=>by
  obtain⟨v,vs,rfl,a1,b1⟩:=r;obtain⟨n,r,rfl,e,rfl⟩:=UG h;rw[a1.int',Xt e b1];rfl
theorem zy:∀{k k':List Int},k.map (cP:Int->Key)=k'.map cP->k=k'
 |[],[],_=>rfl
 |[],_::_,h=>by simp at h
 |_::_,[],h=>by simp at h
 |a::k,b::k',h=>by
  rw[bf,bf]at h;injection h with h1 h2
  rw[cP.inj h1,zy h2]
def Wv{k:List Int}{l:List (List Int)}{vs:List (List Key×V)}(h:vs.map (·.1)=l.map (·.map (cP:Int->Key))):(W3 vs<|k.map cP).isSome=l.contains k:=by
 rw[<-Xf,show(vs.any λkv=>ag<|kv.1=k.map cP)=(vs.map (·.1)).any λy=>ag (y=k.map cP) by rw[List.any_map];rfl,h,List.any_map,List.contains_eq_any_beq]
 congr 1
 funext y
 show ag (y.map cP=k.map cP)=(k == y);by_cases z:y=k
 .subst z;simp
 .rw[T4 λw=>z<|zy w,beq_eq_false_iff_ne.mpr<|Ne.symm z]
theorem ZaT(hu:X.A.units+7<dq):OpR X (bY .In) (λv u H Q=>∃a y o,u=.ref a/\v=y/\DGet H a y o/\Q (.bl o.isSome) H):=by
 intro pq s U H v u vv uu Q I e1 e2 h;obtain⟨a,y,o,rfl,rfl,g,q⟩:=h;cases e2;exact Zd2 (by lia) I g e1 λs' I'=>#[.bl o.isSome,H,I',rfl,q]
theorem qC(hu:X.A.units+7<dq):OpR X (bY .NotIn) (λv u H Q=>∃a y o,u=.ref a/\v=y/\DGet H a y o/\Q (.bl !o.isSome) H):=by
 intro pq s U H v u vv uu Q I e1 e2 h;obtain⟨a,y,o,rfl,rfl,g,q⟩:=h;cases e2;exact jX (by lia) I g e1 λs' I'=>#[.bl !o.isSome,H,I',rfl,q]
def wo(hu:X.A.units+7<dq):YC X xw .In .inn:=OpR.imp ((Zbe hu).or<|ZaT hu)<|by
 rintro v u H Q ⟨O,S,x,y,st,rx,ry,h⟩;obtain⟨b,hb,h⟩:=End.map h;have q:=End.ok h st<|ZY _;rcases J1 ry hb with⟨ds,hy,hb⟩|⟨l,k,ks,hy,rfl,hk,e⟩
 .exact .inl #[O,S,x,ds,b,st,rx,hy,hb,q]
 .obtain⟨p,vs,rfl,hx,r⟩:=hy
  obtain⟨a,xs,rfl,ha,r2⟩:=rx.tup';refine .inr #[p,.ref a,_,rfl,rfl,.inr #[vs,_,a,hx,rfl,by rw[ha,Xt hk r2],rfl],?_]
  rw[Wv r,e];exact q
def GS(hu:X.A.units+7<dq):YC X xw .NotIn .nin:=OpR.imp ((qf hu).or<|qC hu)<|by
 rintro v u H Q ⟨O,S,x,y,st,rx,ry,h⟩;obtain⟨b,hb,h⟩:=End.map h;have q:=End.ok h st<|ZY _;rcases J1 ry hb with⟨ds,hy,hb⟩|⟨l,k,ks,hy,rfl,hk,e⟩
 .exact .inl #[O,S,x,ds,b,st,rx,hy,hb,q]
 .obtain⟨p,vs,rfl,hx,r⟩:=hy
  obtain⟨a,xs,rfl,ha,r2⟩:=rx.tup';refine .inr #[p,.ref a,_,rfl,rfl,.inr #[vs,_,a,hx,rfl,by rw[ha,Xt hk r2],rfl],?_]
  rw[Wv r,e];exact q
def Zcr(r:Rq O H ds xs)(q:Ev.at' ds n=aa d):∃w,atI xs n=aa w/\Rep O H d w:=by
 obtain⟨m,q2,q⟩:=aD.mp q;obtain⟨w,g,rw'⟩:=r.get q;refine#[w,?_,rw'];unfold atI;rw[r.length,show ixN ds.length n=aa m from q2]
 exact g
def Zdj(ha:CE X xw C a i)(hb:CE X xw C b j)(hs:zX b):CE X xw C (.Subscript a b pos) (.ix i j):=.mk <| PE.imp (xS (Qi.or ZbY) ha.h hb.h hs) (Xl λ{O H S x y v u Q} st rx ry h=>by
 obtain⟨d,hd,g0⟩:=End.po h;have k:∃ds n,Pv.Ym x=aa ds/\y=.int n/\Ev.at' ds n=aa d:=by
  cases y with
  |int n=>
   cases x with
   |tup ds=>exact#[ds,n,rfl,rfl,hd]
   |lst ds=>exact#[ds,n,rfl,rfl,hd]
   |scr ns=>
    obtain⟨z,e,rfl⟩:=aR.mp hd;obtain⟨m,q2,q⟩:=aD.mp e;refine#[_,n,rfl,rfl,?_];unfold Ev.at';rw[ay,q2];show(ns.map Pv.V.int)[m]?=_;rw[aH,q];rfl
   |_=>exact Ev.nos hd
  |_=>cases x<;>exact Ev.nos hd
 obtain⟨ds,n,e,rfl,hn⟩:=k;obtain⟨p,xs,rfl,hp,r⟩:=rx.seq e;obtain⟨w,g,rw'⟩:=Zcr r hn;rw[st.hk]at hp;have q:=End.ok g0 st rw';rcases hp with hp|hp
 .exact .inl #[p,xs,n,w,rfl,ry.int',hp,g,q]
 .exact .inr #[p,xs,n,w,rfl,ry.int',hp,g,q])
def qr:CO X xw C ae ae:=.mk <| PO.imp qZ<|by rintro U H Q ⟨O,l,S,st,lr,h⟩;exact End.ok h st rfl
def jy(h:CE X xw C e i):CO X xw C (aa e) (aa i):=.mk <| PO.imp (ZI h.h)<|by
 rintro U H Q ⟨O,l,S,st,lr,h⟩;refine#[O,l,S,st,lr,End.bind (h) λx S1 ρ1 H1 v f1 st1 r1 h1=>?_]
 cases x with|int n=>exact#[n,r1.int',End.ok h1 st1 rfl]|_=>exact False.elim h1
def QI(n d:Nat)(o:Option Int):Ev.sIx n d o=HT.sIx n d o:=by
 cases o with
 |none=>rfl
 |some i=>first|rfl|(rfl)
def zK(r:Rq O H ds xs)(lo hi:Option Int):Rq O H (Pv.Yv ds lo hi) (Yv xs lo hi):=by
 unfold Pv.Yv Yv;rw[QI,QI,r.length];exact(r.drop _).take _
def Zde{lo hi:Option Expr}{il ih:Option E}(ha:CE X xw C a i)(hl:CO X xw C lo il)(hh:CO X xw C hi ih):CE X xw C (.Subscript a (.Slice lo hi ae p2) pos) (.sl i il ih):=.mk <|
 PE.imp (ug (ZbP.or<|wt.or qp) ha.h hl.h hh.h)<|by
  rintro U H Q ⟨O,l,S,st,lr,h⟩;refine#[O,l,S,st,lr,End.bind (h) λx S1 ρ1 H1 v f1 st1 r1 h1=>#[ρ1,l,S1,st1,lr.mono f1,h1.bind λy S2 ρ2 H2 u f2 st2 r2 h2=>#[ρ2,l,S2,st2,(lr.mono f1).mono f2,h2.bind λz S3 ρ3 H3 w f3 st3 r3 h3=>?_]]]
  have e1:y=u:=r2;have e2:z=w:=r3;subst e1 e2;have r0:=(r1.mono f2).mono f3;cases x with
  |tup ds=>
   obtain⟨p,xs,rfl,hp,r⟩:=r0.tup';have h':=h3;by_cases hw:HT.sIx xs.length 0 y=0/\HT.sIx xs.length xs.length z=xs.length
   .refine .inr (.inl #[p,xs,rfl,SqT.of hp,hw,End.ok h' st3 ?_])
    have ew:Pv.Yv ds y z=ds:=by
     unfold Pv.Yv;rw[QI,QI,<-r.length,hw.1,hw.2,hJ,Nat.sub_zero,r.length,gg]
    rw[ew];exact YD hp r
   .exact .inl #[p,xs,rfl,SqT.of hp,hw,h'.newT st3<|zK r y z]
  |lst ds=>
   obtain⟨p,xs,rfl,hp,_,r⟩:=r0.lst';exact .inr<|.inr #[p,xs,rfl,SqL.of hp,End.newL (h3) st3<|zK r y z]
  |_=>exact False.elim h3
def V7(K:ao)(xw:Nat->Hp->Prop)(f:Bf):List V->Hp->VK->Prop:=λvs H Q=>∃O S ds,St3 K O S H/\Rq O H ds vs/\End K xw Rep O H Q (Pv.po (Pv.Xh f ds) S)
def ZD.imp{r r':List V->Hp->VK->Prop}(h:ZD X f r)(k:∀vs H Q,r' vs H Q->r vs H Q):ZD X f r':=λpq s U H xs us Q I e q=>h pq s U H xs us Q I e<|k xs H Q q
def wA :∀U H Q,tE X xw (Pv.pv C<|.blt f is) U H Q->tCB (V7 X.K xw f) (tA X xw<|Pv.pvs C is) U H Q:=λU H Q #[O,l,S,st,lr,h]=>
 #[O,l,S,st,lr,End.bind (h) λxs S1 ρ1 H1 vs f1 st1 r1 h1=>#[ρ1,S1,xs,st1,r1,h1]]
def wL(r:Rq O H [d] vs):∃v,vs=[v]/\Rep O H d v:=by
 obtain⟨v,ws,rfl,a1,b1⟩:=r;exact#[v,by rw[b1],a1]
def zB{d e:D}{vs:List V}(r:Rq O H [d,e] vs):∃v w,vs=[v,w]/\Rep O H d v/\Rep O H e w:=by
 obtain⟨v,ws,rfl,a1,b1⟩:=r;obtain⟨w,rfl,b2⟩:=wL b1;exact#[v,w,rfl,a1,b2]
def WP{rep:Mx->Hp->D->V->Prop}(h:End K xw rep O H Q (Pv.po (Pv.Xh f ds) S))(r:Rq O H ds vs)(h1:f≠.max2:=by decide)(h2:f≠.min2:=by decide):∃d v z,vs=[v]/\Rep O H d v/\Pv.blt1 f d=aa z/\End K xw rep O H Q (.ok z S):=by
 obtain⟨z,hz,g⟩:=End.po h
 match ds,hz with
 |[d],hz=>obtain⟨v,rfl,rv⟩:=wL r;exact#[d,v,z,rfl,rv,hz,g]
 |[x,y],hz=>
  have hz:=hz;cases x<;>first|exact Ev.nos hz|(cases y<;>first|exact Ev.nos hz|(cases f<;>first|exact Ev.nos hz|contradiction))
def ZaJ(h:End K xw Rep O H Q (Pv.po (Pv.Xh f ds) S))(r:Rq O H ds vs)(h1:∀d,Pv.blt1 f d=ae):∃m n z,vs=[.int m,.int n]/\Pv.blt2 f (.int m) (.int n)=aa z/\End K xw Rep O H Q (.ok z S):=by
 obtain⟨z,hz,g⟩:=End.po h
 match ds,hz with
 |[d],hz=>exact Ev.nos<|(h1 d).symm.trans hz
 |[x,y],hz=>
  have hz:=hz;cases x<;>first|exact Ev.nos hz|(cases y<;>first|exact Ev.nos hz|(obtain⟨v,w,rfl,r1,r2⟩:=zB r;exact#[_,_,z,by rw[r1.int',r2.int'],hz,g]))
def yr:ZD X (.builtin "len") (V7 X.K xw .len):=ZD.imp QA<|by
 rintro vs H Q ⟨O,S,ds,st,r,h⟩;obtain⟨d,v,z,rfl,rv,hz,h⟩:=WP h r;obtain⟨xs,hx,rfl⟩:=aR.mp hz;obtain⟨p,ys,rfl,hq,r2⟩:=rv.seq hx;refine#[p,ys,rfl,by rw[<-st.hk];exact hq,?_]
 rw[r2.length];exact End.ok h st<|ZL _
def yf(hc:X.calm=am):ZD X (.builtin "max") (V7 X.K xw .max2):=ZD.imp (xg hc)<|by
 rintro vs H Q ⟨O,S,ds,st,r,h⟩;obtain⟨m,n,z,rfl,hz,h⟩:=ZaJ h r λ_=>rfl
 cases hz;exact#[m,n,rfl,End.ok h st<|ZL _]
def yi(hc:X.calm=am):ZD X (.builtin "min") (V7 X.K xw .min2):=ZD.imp (yD hc)<|by
 rintro vs H Q ⟨O,S,ds,st,r,h⟩;obtain⟨m,n,z,rfl,hz,h⟩:=ZaJ h r λ_=>rfl
 cases hz;exact#[m,n,rfl,End.ok h st<|ZL _]
def zH:ZD X (.type "int") (V7 X.K xw .toInt):=ZD.imp xi<|by
 rintro vs H Q ⟨O,S,ds,st,r,h⟩;obtain⟨d,v,z,rfl,r1,hz,h⟩:=WP h r;cases d with|int m=>cases hz;exact .inl #[m,by rw[r1.int'],End.ok h st<|ZL _]|bl m=>cases hz;exact .inr #[m,by rw[r1.bl'],End.ok h st<|ZL _]|_=>exact Ev.nos hz
def UA:ZD X (.type "tuple") (V7 X.K xw .tuple):=ZD.imp Ua<|by
 rintro vs H Q ⟨O,S,ds,st,r,h⟩;obtain⟨d,v,z,rfl,r1,hz,h⟩:=WP h r;cases d with|tup ds=>cases hz;obtain⟨p,xs,rfl,hp,r2⟩:=r1.tup';exact#[p,xs,rfl,.inr #[SqT.of hp,End.ok h st r1]]|lst ds=>cases hz;obtain⟨p,xs,rfl,hp,_,r2⟩:=r1.lst';exact#[p,xs,rfl,.inl #[SqL.of hp,h.newT st r2]]|scr ns=>cases hz;obtain⟨p,rfl,hp⟩:=r1.scr';rw[st.hk]at hp;exact#[p,_,rfl,.inl #[hp.sq,h.newT st<|Rq.ints ns]]|_=>exact Ev.nos hz
def Wl{f:Bf}{id:String}{x:bF}{es:List Expr}{is:List E}(hc:ZD X (.builtin id) (V7 X.K xw f))(hm:X.mg x=ae)(ha:CA X xw C (e::es) is)(hg:Gl X x)(hv:dr x=aa (.builtin id))(hn:x≠"__name__")(hdb:(x == ("__debug__" : bF))=aj)
  (he:aM (e::es) X.env=(aj,cR e X.env)::aM es X.env)(hpl:(eK pos<|aM es X.env).any (·.1)=aj):CE X xw C (.Call (.Name x p) (e::es) [] pos) (.blt f is):=.mk <|
 PE.imp (VS hc hg hm hv ha.h hn hdb he hpl) wA
def zL{f:Bf}{id:String}{x:bF}{es:List Expr}{is:List E}(hc:ZD X (.type id) (V7 X.K xw f))(hm:X.mg x=ae)(ha:CA X xw C (e::es) is)(hg:Gl X x)(hv:dr x=aa (.type id))(hn:x≠"__name__")(hdb:(x == ("__debug__" : bF))=aj)
  (he:aM (e::es) X.env=(aj,cR e X.env)::aM es X.env)(hpl:(eK pos<|aM es X.env).any (·.1)=aj):CE X xw C (.Call (.Name x p) (e::es) [] pos) (.blt f is):=.mk <|
 PE.imp (Uh hc hg hm hv ha.h hn hdb he hpl) wA
end
section
variable{X:Cx}{xw:Nat->Hp->Prop}{C:Calls}{e a b c:Expr}{i j k:E}{pos p p' p2:iu}
theorem XG:∀{ds:List D}{bs:List Bool},Pv.ZQ ds=aa bs->bs.length=ds.length/\∀j d,ds[j]?=aa d->Pv.Vf d=aa (bs.getD j aj)
 |[],bs,h=>by cases h;exact#[rfl,λj d e=>by simp at e]
 |d::ds,bs,h=>by
  unfold Pv.ZQ at h;cases q1:Pv.Vf d with
  |none=>rw[q1]at h;cases h
  |some b=>
   cases q2:Pv.ZQ ds with
   |none=>rw[q1,q2]at h;cases h
   |some cs=>
    rw[q1,q2]at h;cases h;obtain⟨l,ih⟩:=XG q2;refine#[by rw[aO,aO,l],λj d' e=>?_]
    cases j with|zero=>simp at e;subst e;simpa using q1|succ j=>simpa using ih j d' (by simpa using e)
def xc(bs:List Bool):(aK bs.length).all (λj=>bs.getD j aj)=bs.all id:=by
 rw[bT,a8,a8]
 constructor
 .intro h b hb
  obtain⟨j,hj,e⟩:=cz hb;have:=h j<|aQ.mpr hj
  simpa[af hj,e]using this
 .intro h j hj
  have hj':=aQ.mp hj
  simpa[af hj']using h bs[j]<|aU hj'
def xb(bs:List Bool):(aK bs.length).any (λj=>bs.getD j aj)=bs.any id:=by
 rw[bT,fg,fg]
 constructor
 .rintro ⟨j,hj,h⟩
  have hj':=aQ.mp hj;exact#[bs[j],aU hj',by simpa[af hj']using h]
 .rintro ⟨b,hb,h⟩
  obtain⟨j,hj,e⟩:=cz hb;exact#[j,aQ.mpr hj,by simpa[af hj,e]using h]
def Wg(r:Rep O H d v)(e:Zv v u)(h:Pv.Vf d=aa n)(s:aw)(Q:Bool->aw->Prop)(E:ap->aw->Prop)(q:Q n s) :
  aW (aV prog w) A (truthy u) Q E s:=by
 cases d with
 |non=>cases r.non';cases e;cases h;exact truthy_none q
 |bl b=>cases r.bl';cases e;cases h;exact eN q
 |int m=>
  cases r.int';obtain⟨t,rfl⟩:=e;have h':=ak h;refine lD ?_;have:(m != 0)=n:=by
   rw[<-h'];by_cases z:m=0
   .subst z;rfl
   .rw[T5 z];exact bne_iff_ne.mpr z
  rw[this];exact q
 |_=>cases h
def yK(hc:X.calm=am):ZD X (.builtin "all") (λvs H Q=>∃O ds v bs,vs=[v]/\Rep O H (.lst ds) v/\Pv.ZQ ds=aa bs/\Q (.bl<|bs.all id) H):=by
 intro pq s U H vs us Q I r h;obtain⟨O,ds,v,bs,rfl,rs,hb,q⟩:=h;obtain⟨p,xs,rfl,hx,_,rx⟩:=rs.lst';obtain⟨u,rfl,ru⟩:=Wa r;cases ru;obtain⟨its,rv,pl,hz⟩:=I.list<|SqL.of hx;obtain⟨lb,tb⟩:=XG hb;have hlt:p<s.heap.objs.size:=by obtain⟨_,e,_⟩:=pl.isList;exact aC e
 have hlen:its.toArray.size=bs.length:=by rw[ax,<-rv.length,rx.length,lb]
 refine call_all_walk<|eO pl.isList #[s.heap.objs.size,[s.heap.objs.size,p],[s.heap.objs.size],its.toArray.size,(λi v=>its.toArray[i]?=aa v),(λi h=>h.IsListIter s.heap.objs.size p i/\h.IsList p its.toArray),λj=>bs.getD j aj,rfl,nG (A:=X.A.in1) (I.ok.hd hc) s.heap.objs.size p (bi hlt) its.toArray,#[#[_,aF _ rfl,rfl,rfl],pl.isList.push _],?_,?_]
 .intro j v s' Q' E' hv hQ'
  have hj:its[j]?=aa v:=by simpa using hv
  have jl:j<ds.length:=by
   have:=(aX.mp hj).1;rw[<-rv.length,rx.length]at this;exact this
  obtain⟨w',g,r'⟩:=rx.get<|af jl;obtain⟨u',g',ru'⟩:=rv.get g;rw[hj]at g';cases g';exact Wg r' ru' (tb j _<|af jl) s' Q' E' hQ'
 .intro h' tk hk
  rw[hlen,xc];have kp:=λb o e=>hk b o (λhm=>by
   have:b=s.heap.objs.size:=by simpa using hm
   exact T7 (this▸aC e)<|bm _)<|au _ e
  exact#[.bl<|bs.all id,H,I.kept (t':=tk) kp,rfl,q]
def yn(hc:X.calm=am):ZD X (.builtin "all") (V7 X.K xw .all):=ZD.imp (yK hc)<|by
 rintro vs H Q ⟨O,S,ds,st,r,h⟩;obtain⟨d,v,z,rfl,r1,hz,h⟩:=WP h r;cases d with|lst ds=>obtain⟨bs,hb,rfl⟩:=aR.mp hz;exact#[O,ds,v,bs,rfl,r1,hb,End.ok h st<|ZY _]|_=>exact Ev.nos hz
noncomputable def U4:Ty->String
 |.int=>"int" | .bool=>"bool" | .str=>"str" | .tuple=>"tuple" | .list=>"list" | .dict=>"dict" | .cls _=>""
def Zcp{K:ao}{O:Mx}{H:Hp}{x:D}{v:V}{t:Ty}{n:Bool}(rx:Rep O H x v)(ht:∀m,t≠.cls m)(h:Pv.Y4 x t=aa n) :
  ∃tv,TyOf K H v tv/\kM K tv (.type<|U4 t)=aa n:=by
 cases x with
 |non=>rw[rx.non'];refine#[_,.non,?_];cases h;cases t<;>first|rfl|exact T7 rfl<|ht _
 |bl b=>rw[rx.bl'];refine#[_,.bl b,?_];cases h;cases t<;>first|rfl|exact T7 rfl<|ht _
 |int b=>rw[rx.int'];refine#[_,.int b,?_];cases h;cases t<;>first|rfl|exact T7 rfl<|ht _
 |str b=>rw[rx.str'];refine#[_,.str b,?_];cases h;cases t<;>first|rfl|exact T7 rfl<|ht _
 |tup ds=>
  obtain⟨p,xs,rfl,hp,_⟩:=rx.tup';refine#[_,.tup hp,?_];cases h;cases t<;>first|rfl|exact T7 rfl<|ht _
 |lst ds=>
  obtain⟨p,xs,rfl,hp,_⟩:=rx.lst';refine#[_,.lst hp,?_];cases h;cases t<;>first|rfl|exact T7 rfl<|ht _
 |dct o=>
  cases o with
  |some _=>exact Ev.nos h
  |none=>
   obtain⟨p,rfl,_,e⟩:=rx.dct';refine#[_,.dK e,?_];cases h;cases t<;>first|rfl|exact T7 rfl<|ht _
 |_=>exact Ev.nos h
def va(T:String):ZD X (.builtin "isinstance") (λvs H Q=>∃v tv n,vs=[v,.ty T]/\TyOf X.K H v tv/\kM X.K tv (.type T)=aa n/\Q (.bl n) H):=by
 intro pq s U H vs us Q I r h;obtain⟨v,tv,n,rfl,ty,e,q⟩:=h;obtain⟨u,w',rfl,r1,r2⟩:=uS r;cases r2;exact y3 I r1 ty e λtk=>#[.bl n,H,I.tok tk,rfl,q]
def Qx{T:bF}{t:Ty}(ht:∀m,t≠.cls m)(hm:X.mg "isinstance" = ae)(hmT:X.mg T=ae)(ha:CE X xw C a i)(hg:Gl X "isinstance")(hgT:Gl X T)(hvT:dr T=aa (.type<|U4 t))(hnT:T≠"__name__")(hdT:(T == ("__debug__" : bF))=aj)
  (hs1:aM [a,.Name T p2] X.env=(aj,cR a X.env)::aM [.Name T p2] X.env)(hs2:aM [.Name T p2] X.env=(aj,cR (.Name T p2) X.env)::aM [] X.env)(hpl:(eK pos<|aM [.Name T p2] X.env).any (·.1)=aj) :
  CE X xw C (.Call (.Name "isinstance" p) [a,.Name T p2] [] pos) (.isi i [t]):=.mk <|
 PE.imp (VS (va<|U4 t) hg hm (by rfl) (W7 ha.h (W7 (qk (v:=.ty<|U4 t) hgT hmT hvT rfl hnT hdT) GN hs2) hs1) (by decide) (by decide) hs1 hpl)<|by
  rintro U H Q ⟨O,l,S,st,lr,h⟩;refine#[O,l,S,st,lr,End.bind (show End X.K xw Rep O H Q ((Pv.pv C i l S).bind _)from h) λx S1 ρ1 H1 v f1 st1 r1 h1=>?_]
  obtain⟨n,hn,h2⟩:=End.ob h1;have hn':Pv.Y4 x t=aa n:=by
   unfold Pv.Z6 at hn;cases q:Pv.Y4 x t with|none=>rw[q]at hn;cases hn|some m=>rw[q]at hn;cases m<;>exact hn
  obtain⟨tv,ty,e⟩:=Zcp r1 ht hn';exact#[v,tv,n,rfl,ty,e,End.ok h2 st1<|ZY _]
def ZcC(P:bE)(w:bR)(K:ao)(a:aL)(tab:List (Int×Int)):Prop:=(a == cI)=aj/\∃f:Int->Option ap,(∀h:b0,K.In h->h.MapOf (eC P w) a f)/\∀k,(tab.lookup k=ae->f k=ae)/\∀j,tab.lookup k=aa j->∃t,f k=aa (.int j t)
def qo:CE X xw C (.Dict [] [] pos) .dnew:=.mk <| PE.imp wn λU H Q #[O,l,S,st,lr,h]=>λp hp=>
 (h) O _ _ (ZJ hp) (st.fresh hp) (by exact#[p,rfl,[],Zz])
def XM(fr:Bool)(H0:Hp)(O:Mx)(H:Hp)(d:D)(v:V):Prop:=Rep O H d v/\(fr=am->∀ds,d=.lst ds->∃a,v=.ref a/\H0 a=ae)
theorem End.fr{K:ao}{xw:Nat->Hp->Prop}{O:Mx}{H H0:Hp}{Q:VK}{r:R D}{fr:Bool}(h:End K xw Rep O H Q r):End K xw (XM fr H0) O H Q r:=by
 cases r with|ok d S=>exact λρ' H' v f st r=>h ρ' H' v f st r.1|_=>exact h
def spF(K:ao)(C:Calls)(fr:Bool)(n:Nat):Sp:=λvs H Q _=>∃O ds S,St3 K O S H/\Rq O H ds vs/\End K (λ_ _=>False) (XM fr H) O H Q (C n ds S)
def uV{n kk:Nat}{fr:Bool}{f:aL}{fd:cT}{ps:List bF}{x:bF}{es:List Expr}{is:List E}(F:FnOk X.prog X.w X.K X.mg X.base CX0 kk f fd ps (spF X.K C fr n))(hr:Room kk X.A)(hm:X.mg x=aa (.ref f))(hk:fS X.K (.ref f)=am)(hb:Vq X.K fd ps [])
  (ha:CA X (λ_ _=>False) C (e::es) is)(hg:Gl X x:=by rfl)(hdb:(x == ("__debug__" : bF))=aj:=by decide)(he:aM (e::es) X.env=(aj,cR e X.env)::aM es X.env:=by rfl)(hpl:(eK pos<|aM es X.env).any (·.1)=aj:=by rfl) :
  CE X (λ_ _=>False) C (.Call (.Name x p) (e::es) [] pos) (.call n is):=.mk <|
 PE.imp (z9 F hr hg hm hk hb .nil ZaH ha.h hdb he hpl) λU H Q #[O,l,S,st,lr,h]=>
  #[O,l,S,st,lr,End.bind (show End X.K (λ_ _=>False) Rep O H Q ((Pv.pvs C is l S).bind _)from h) λxs S1 ρ1 H1 vs f1 st1 r1 h1=>by
   rw[cg];exact#[ρ1,xs,S1,st1,r1,h1.fr]]
end
abbrev Own:=Nat->Option aL
noncomputable def Mx.ex(O:Mx)(W:Own):Mx:=#[O.K,O.n0,λa=>O.X a\/∃i,W i=aa a,λa h=>.inl<|O.xz a h]
mutual
theorem Rep.flat(hk:ρ'.K=O.K)(k:∀a o,H a=aa o->(∀xs,o≠.lst xs)->(∀vs,o≠.dT vs)->H' a=aa o):∀{d:D}{v:V},d.flat=am->Rep O H d v->Rep ρ' H' d v
 |.non,_,_,h|.bl _,_,_,h|.int _,_,_,h|.str _,_,_,h=>by exact h
 |.tup ds,v,f,h=>by
  obtain⟨a,xs,e,t,r⟩:=h;exact#[a,xs,e,k a _ t (λ_ z=>by cases z) (λ_ z=>by cases z),r.flat hk k (by exact f)]
 |.scr ns,v,_,h=>by
  unfold Rep at h ⊢;obtain⟨a,e,t⟩:=h;rw[hk];refine#[a,e,?_];rcases t with⟨o,t⟩|t
  .exact .inl #[o,k a _ t (λ_ z=>by cases z) λ_ z=>by cases z]
  .exact .inr t
 |.lst _,_,f,_|.drw,_,f,_|.dct _,_,f,_|.dow _,_,f,_=>by cases f
theorem Rq.flat(hk:ρ'.K=O.K)(k:∀a o,H a=aa o->(∀xs,o≠.lst xs)->(∀vs,o≠.dT vs)->H' a=aa o):∀{ds:List D}{xs:List V},Pv.Y6 ds=am->Rq O H ds xs->Rq ρ' H' ds xs
 |[],_,_,h=>by exact h
 |d::ds,xs,f,h=>by
  obtain⟨v,vs,e,r,rs⟩:=h;have f:=(aG _ _).mp f;exact#[v,vs,e,r.flat hk k f.1,rs.flat hk k f.2]
end
def Y5(O:Mx)(H:Hp)(a:aL):D->Prop
 |.lst xs=>∃us,H a=aa (.lst us)/\Rq O H xs us
 |.dow ks=>∃vs,H a=aa (.dT vs)/\vs.map (·.1)=ks.map (·.map cP)
 |_=>False
def Y5.ob{O:Mx}{H:Hp}{a:aL}{d:D}(h:Y5 O H a d):(∃us,H a=aa (.lst us))\/∃vs,H a=aa (.dT vs):=by
 cases d with|lst xs=>obtain⟨us,e,_⟩:=h;exact .inl #[us,e]|dow ks=>obtain⟨vs,e,_⟩:=h;exact .inr #[vs,e]|_=>exact h.elim
def Y5.ne{O:Mx}{H:Hp}{a:aL}{d:D}(h:Y5 O H a d):H a≠ae:=by
 rcases h.ob with⟨_,z⟩|⟨_,z⟩<;>(rw[z];intro q;cases q)
def Y5.rep{O:Mx}{H:Hp}{a:aL}{d:D}(h:Y5 O H a d)(x:¬O.X a):Rep O H d (.ref a):=by
 cases d with|lst xs=>obtain⟨us,e,r⟩:=h;exact Wh e x r|dow ks=>obtain⟨vs,e,q⟩:=h;unfold Rep;exact#[a,vs,rfl,e,x,q]|_=>exact h.elim
theorem Y5.lat{O ρ':Mx}{H H':Hp}{a:aL}{d:D}(h:Y5 O H a d)(f:Lat O H ρ' H')(e:H' a=H a):Y5 ρ' H' a d:=by
 cases d with|lst xs=>obtain⟨us,q,r⟩:=h;exact#[us,e.trans q,r.lat f]|dow ks=>obtain⟨vs,q,r⟩:=h;exact#[vs,e.trans q,r]|_=>exact h
def Lat.own{O:Mx}{H:Hp}{b:aL}{o':HO}(x:O.X b)(hb:(∃us,H b=aa (.lst us))\/∃vs,H b=aa (.dT vs)):Lat O H O (upd H b o'):=#[rfl,rfl,λc u z nx _ nd=>by
 rw[Zk (λq=>by
  rw[q]at z;rcases hb with⟨_,e⟩|⟨_,e⟩<;>(rw[e]at z;cases z)
  .exact nx _ rfl<|q▸x
  .exact nd _ rfl<|q▸x)]
 exact z,λ_ _ z=>z]
structure Eu(O:Mx)(H0:Hp)(W:Own)(l:Lc)(os:List Nat)(U:L2.St)(H:Hp):Prop where
 fut:Fut O H0 O H
 xd:∀a,O.X a->H0 a≠ae
 len:l.length=U.length
 osW:∀i,os.contains i=(W i).isSome
 inj:∀i j a,W i=aa a->W j=aa a->i=j
 new:∀i a,W i=aa a->H0 a=ae
 own:∀i a,W i=aa a->∃d,l[i]?=aa (aa d)/\U[i]?=aa (aa<|.ref a)/\Y5 (O.ex W) H a d
 val:∀(i:Nat)(d:D),l[i]?=aa (aa d)->W i=ae->∃v,U[i]?=aa (aa v)/\Rep (O.ex W) H d v
section
variable{K:ao}{O:Mx}{H0 H H':Hp}{W W':Own}{l:Lc}{os:List Nat}{U:L2.St}{S:Zn}
def Lat.unex:Lat (O.ex W) H O H:=#[rfl,rfl,λ_ _ h _ _ _=>h,λ_ _ x=>.inl x]
theorem Fut.ex(f:Fut O H O H'):Fut (O.ex W) H (O.ex W) H':=#[rfl,f.keep]
def St3.unex(st:St3 K (O.ex W) S H):St3 K O S H:=#[st.hk,λa x=>st.xd a<|.inl x,st.dw,st.tb]
def Eu.nx(h:Eu O H0 W l os U H)(e:W i=aa a):¬O.X a:=λz=>h.xd a z<|h.new i a e
theorem Eu.st(h:Eu O H0 W l os U H)(st:St3 K O S H):St3 K (O.ex W) S H:=
 #[st.hk,λa x=>x.elim (st.xd a) λ#[i,e]=>(let #[_,_,_,z]:=h.own i a e;z.ne),st.dw,st.tb]
def ve(f:Fut O H O H')(x:¬O.X a)(h:H a=aa o)(n:∀ps,o≠.tbl ps:=by intro _ z;cases z):H' a=aa o:=(f.keep a o h).elim id λz=>z.elim (λz=>T7 (O.xz a z.1) x)<|by rintro ⟨⟨ps,e⟩,_⟩;exact T7 e<|n ps
def Eu.all(h:Eu O H0 W l os U H):LocR O H l U:=#[h.len,λi v e=>by
 cases q:W i with
 |none=>obtain⟨d,a,b⟩:=h.val i v e q;exact#[d,a,b.lat Lat.unex]
 |some n=>
  obtain⟨d,a,c,r⟩:=h.own i n q;rw[a]at e;cases e;exact#[_,c,(r.lat Lat.unex rfl).rep<|h.nx q]]
def wF(e:(Pv.hide os l)[i]?=aa (aa v)):l[i]?=aa (aa v)/\os.contains i=aj:=by
 unfold Pv.hide at e;rw[gx]at e;cases q:l[i]? with
 |none=>rw[q]at e;cases e
 |some o=>
  rw[q]at e;have e':(if os.contains i=am then ae else o)=aa v:=ak e
  by_cases c:os.contains i=am
  .rw[T9 c]at e';cases e'
  .rw[T8 c]at e';exact#[by rw[e'],by simpa using c]
def VD:Pv.hide [] l=l:=by
 unfold Pv.hide;refine bM λi=>?_
 rw[gx];cases l[i]?<;>rfl
def Eu.nW(h:Eu O H0 W l os U H){i:Nat}(b:os.contains i=aj):W i=ae:=by
 rw[h.osW]at b;cases q:W i with|none=>rfl|some _=>rw[q]at b;cases b
def Eu.hid(h:Eu O H0 W l os U H):LocR (O.ex W) H (Pv.hide os l) U:=#[by unfold Pv.hide;rw[List.length_mapIdx];exact h.len,λi v e=>by
 obtain⟨a,b⟩:=wF e;exact h.val i v a<|h.nW b]
theorem Eu.mono(h:Eu O H0 W l os U H)(f:Fut O H O H'):Eu O H0 W l os U H':=
 #[h.fut.trans f,h.xd,h.len,h.osW,h.inj,h.new,λi a q=>by
  obtain⟨d,p,c,r⟩:=h.own i a q;exact#[d,p,c,r.lat f.ex.lat (by rcases r.ob with⟨_,e⟩|⟨_,e⟩<;>rw[ve f (h.nx q) e,e])],λi v a b=>by
  obtain⟨d,c,r⟩:=h.val i v a b;exact#[d,c,r.mono f.ex]]
def UX{B:Type}{l:List (Option B)}{i j:Nat}{o:Option B}{v:B}(e:(l.set i o)[j]?=aa (aa v)):(i=j/\o=aa v/\i<l.length)\/(i≠j/\l[j]?=aa (aa v)):=by
 rw[l5]at e;by_cases c:i=j
 .rw[T9 c]at e
  by_cases z:i<l.length
  .rw[T9 z]at e;exact .inl #[c,ak e,z]
  .rw[T8 z]at e;cases e
 .rw[T8 c]at e;exact .inr #[c,e]
theorem Eu.set{i:Nat}{o:Option D}{v:V}(h:Eu O H0 W l os U H)(hi:os.contains i=aj)(r:∀d,o=aa d->Rep (O.ex W) H d v):Eu O H0 W (l.set i o) os (U.set i<|aa v) H:=by
 have hw:=h.nW hi;refine#[h.fut,h.xd,by rw[bx,bx];exact h.len,h.osW,h.inj,h.new,λj n q=>?_,λj w e q=>?_]
 .obtain⟨d,a,c,e⟩:=h.own j n q
  have ij:i≠j:=λz=>by rw[z,q]at hw;cases hw
  exact#[d,by rw[aY ij];exact a,by rw[aY ij];exact c,e]
 .rcases UX e with⟨rfl,z,hl⟩|⟨c,z⟩
  .exact#[v,bw (by rw[<-h.len];exact hl),r w z]
  .rw[aY c];exact h.val j w z q
noncomputable def Vn:List Nat->List V->L2.St->L2.St
 |i::t,x::xs,U=>Vn t xs<|U.set i<|aa x
 |_,_,U=>U
theorem Eu.fill:∀{t:List Nat}{vs:List D}{us:List V}{l l':Lc}{U:L2.St},Eu O H0 W l os U H->(t.any os.contains)=aj->Rq (O.ex W) H vs us->Pv.Yz t vs l=aa l'->us.length=t.length/\Eu O H0 W l' os (Vn t us U) H
 |[],[],_,l,l',U,h,_,r,e=>by rw[r];cases e;exact#[rfl,h]
 |[],_::_,_,_,_,_,_,_,_,e=>by cases e
 |_::_,[],_,_,_,_,_,_,_,e=>by cases e
 |i::t,v::vs,_,l,l',U,h,ht,r,e=>by
  obtain⟨d,ds,rfl,a,b⟩:=r;rw[eJ,Bool.or_eq_false_iff]at ht;obtain⟨z,q⟩:=Eu.fill (h.set ht.1 λ_ z=>by cases z;exact a) ht.2 b e
  exact#[by rw[aO,aO,z],q]
def tGU(K:ao)(t:List Nat):TG:=λv U H Q=>match t with
 |[i]=>Q (U.set i<|aa v) H
 |t=>∃a xs,v=.ref a/\(SqT K H a xs\/H a=aa (.lst xs))/\xs.length=t.length/\Q (Vn t xs U) H
def Eu.assign{Q:L2.St->Hp->Prop}(h:Eu O H0 W l os U H)(ht:(t.any os.contains)=aj)(r:Rep (O.ex W) H d v)(e:Pv.Ze t d l=aa l')(q:∀σ',Eu O H0 W l' os σ' H->Q σ' H):tGU K t v U H Q:=by
 have gen:∀t:List Nat,(t.any os.contains)=aj->(match Pv.wJ d with
   |some xs=>Pv.Yz t xs l
   |none=>ae)=aa l'->∃a xs,v=.ref a/\(SqT K H a xs\/H a=aa (.lst xs))/\xs.length=t.length/\Q (Vn t xs U) H:=by
  intro t ht e;cases d with|tup vs=>obtain⟨p,ds,rfl,hp,rs⟩:=r.tup';obtain⟨z,y⟩:=h.fill ht rs e;exact#[p,ds,rfl,.inl<|SqT.of hp,z,q _ y]|lst vs=>obtain⟨p,ds,rfl,hp,_,rs⟩:=r.lst';obtain⟨z,y⟩:=h.fill ht rs e;exact#[p,ds,rfl,.inr hp,z,q _ y]|_=>cases e
 match t,ht,e with
 |[i],ht,e=>cases e;exact q _<|h.set (by simpa using ht) λ_ z=>by cases z;exact r
 |[],ht,e=>exact gen [] ht e
 |i::j::t,ht,e=>exact gen (i::j::t) ht e
noncomputable def noW(W:Own)(i:Nat):Own:=λj=>if j=i then ae else W j
def Xs{i j:Nat}{a:aL}(z:noW W i j=aa a):j≠i/\W j=aa a:=by
 unfold noW at z;by_cases c:j=i
 .rw[T9 c]at z;cases z
 .rw[T8 c]at z;exact#[c,z]
theorem Lat.noW{i:Nat}:Lat (O.ex W) H (O.ex<|noW W i) H:=#[rfl,rfl,λ_ _ h _ _ _=>h,λ_ _ x=>x.elim .inl λ#[j,e]=>.inr #[j,(Xs e).2]]
def Vt{i:Nat}(h:∀i,os.contains i=(W i).isSome)(j:Nat):(os.filter (· != i)).contains j=(noW W i j).isSome:=by
 unfold noW;by_cases c:j=i
 .simp[c]
 .simp only[c,if_false]
  rw[<-h j,bT,cC,cC,bS];simp[c]
def Eu.drop{i:Nat}{o:Option D}{v:V}(h:Eu O H0 W l os U H)(r:∀d,o=aa d->Rep (O.ex<|noW W i) H d v):Eu O H0 (noW W i) (l.set i o) (os.filter (· != i)) (U.set i<|aa v) H:=by
 refine#[h.fut,h.xd,by rw[bx,bx];exact h.len,Vt h.osW,λa b n x y=>h.inj a b n (Xs x).2 (Xs y).2,λj n z=>h.new j n (Xs z).2,λj n z=>?_,λj w e z=>?_]
 .obtain⟨d,a,c,e⟩:=h.own j n (Xs z).2
  have ij:i≠j:=Ne.symm (Xs z).1;exact#[d,by rw[aY ij];exact a,by rw[aY ij];exact c,e.lat Lat.noW rfl]
 .rcases UX e with⟨rfl,e,hl⟩|⟨c,e⟩
  .exact#[v,bw (by rw[<-h.len];exact hl),r w e]
  .rw[aY c]
   unfold Sd.noW at z;rw[T8<|Ne.symm c]at z;obtain⟨d',a,b⟩:=h.val j w e z;exact#[d',a,b.lat Lat.noW]
noncomputable def Qw(W:Own)(i:Nat)(a:aL):Own:=λj=>if j=i then aa a else W j
def Eu.takeO{i:Nat}{a:aL}{d:D}(h:Eu O H0 W l os U H)(hd:∀a,O.X a->H a≠ae)(f:Fut O H O H')(hn:H a=ae)(hx:¬(O.ex W).X a)(r:Y5 (O.ex<|Qw W i a) H' a d)(hi:i<l.length) :
  Eu O H0 (Qw W i a) (l.set i<|aa d) (i::os.filter (· != i)) (U.set i<|aa<|.ref a) H':=by
 have h1:=h.mono f;have get:∀{j m},Qw W i a j=aa m->(j=i/\a=m)\/(j≠i/\W j=aa m):=λ{j m} z=>by
  unfold Qw at z;by_cases c:j=i
  .rw[T9 c]at z;exact .inl #[c,ak z]
  .rw[T8 c]at z;exact .inr #[c,z]
 have na:H0 a=ae:=h.fut.new hn hd;have lt:Lat (O.ex W) H (O.ex<|Qw W i a) H':=#[rfl,rfl,f.ex.lat.keep',λb hb x=>by
  rcases x with x|⟨j,x⟩
  .exact .inl x
  .rcases get x with⟨_,z⟩|⟨_,z⟩
   .exact T7 hn<|z▸hb
   .exact .inr #[j,z]]
 refine#[h1.fut,h.xd,by rw[bx,bx];exact h.len,λj=>?_,λp q m x y=>?_,λj m z=>?_,λj m z=>?_,λj w q z=>?_]
 .have:=Vt (i:=i) h.osW j
  unfold Qw;by_cases c:j=i
  .simp[c]
  .unfold noW at this
   rw[T8 c]at this ⊢;rw[List.contains_cons,this,beq_eq_false_iff_ne.mpr c,gu]
 .rcases get x with⟨x1,x2⟩|⟨x1,x2⟩<;>rcases get y with⟨y1,y2⟩|⟨y1,y2⟩
  .rw[x1,y1]
  .exact T7 (.inr #[q,x2▸y2]) hx
  .exact T7 (.inr #[p,y2▸x2]) hx
  .exact h.inj p q m x2 y2
 .rcases get z with⟨_,z⟩|⟨_,z⟩
  .exact z▸na
  .exact h.new j m z
 .rcases get z with⟨z1,z2⟩|⟨z1,z2⟩
  .subst z1 z2
   exact#[d,bw hi,bw (by rw[<-h.len];exact hi),r]
  .obtain⟨d',p,c,q⟩:=h.own j m z2
   exact#[d',by rw[aY<|Ne.symm z1];exact p,by rw[aY<|Ne.symm z1];exact c,q.lat lt (by rcases q.ob with⟨_,e⟩|⟨_,e⟩<;>rw[ve f (h.nx z2) e,e])]
 .unfold Qw at z
  by_cases c:j=i
  .rw[T9 c]at z;cases z
  .rw[T8 c]at z
   rw[aY<|Ne.symm c]at q ⊢;obtain⟨d,p,b⟩:=h.val j w q z;exact#[d,p,b.lat lt]
def Eu.take(h:Eu O H0 W l os U H)(hd:∀a,O.X a->H a≠ae)(f:Fut O H O H')(hn:H a=ae)(hf:Pv.Y6 xs=am)(r:Rep (O.ex W) H' (.lst xs) (.ref a))(hi:i<l.length) :
  Eu O H0 (Qw W i a) (l.set i<|aa<|.lst xs) (i::os.filter (· != i)) (U.set i<|aa<|.ref a) H':=by
 obtain⟨_,us,en,hs,hx,rs⟩:=r.lst';cases en;exact h.takeO (d:=.lst xs) hd f hn hx #[us,hs,rs.flat (O:=O.ex W) (ρ':=O.ex<|Qw W i a) rfl (λ_ _ z _ _=>z) hf] hi
def Eu.mutO{i:Nat}{a:aL}{d':D}{o':HO}(h:Eu O H0 W l os U H)(hw:W i=aa a)(r:Y5 (O.ex W) (upd H a o') a d'):Eu O H0 W (l.set i<|aa d') os U (upd H a o'):=by
 obtain⟨d,p,c,e⟩:=h.own i a hw;have hi:i<l.length:=(aX.mp p).1;have lt:Lat (O.ex W) H (O.ex W) (upd H a o'):=Lat.own (show(O.ex W).X a from mE #[i,hw]) e.ob
 refine#[#[rfl,λb o z=>?_],h.xd,by rw[bx];exact h.len,h.osW,h.inj,h.new,λj m z=>?_,λj w q z=>?_]
 .rw[Zk λq=>by rw[q,h.new i a hw]at z;cases z]
  exact h.fut.keep b o z
 .by_cases k:i=j
  .subst k
   rw[hw]at z;cases z;exact#[d',bw hi,c,r]
  .obtain⟨d2,a',c',e'⟩:=h.own j m z
   exact#[d2,by rw[aY k];exact a',c',e'.lat lt<|Zk λq:m=a=>k<|h.inj i j a hw<|q▸z]
 .have k:i≠j:=λk=>by rw[<-k,hw]at z;cases z
  rw[aY k]at q;obtain⟨d,a',b'⟩:=h.val j w q z;exact#[d,a',b'.lat lt]
def Eu.mut(h:Eu O H0 W l os U H)(hw:W i=aa a)(r:Rq (O.ex W) H ys us):Eu O H0 W (l.set i<|aa<|.lst ys) os U (upd H a<|.lst us):=by
 obtain⟨d,p,c,e⟩:=h.own i a hw;exact h.mutO hw (d':=.lst ys) #[us,Zz,r.lat<|Lat.own (show(O.ex W).X a from mE #[i,hw]) e.ob]
def St3.mut{K:ao}{i:Nat}{a:aL}{o':HO}(st:St3 K O S H)(h:Eu O H0 W l os U H)(hw:W i=aa a)(ht:∀ps,o'≠.tbl ps:=by intro _ z;cases z):St3 K O S (upd H a o'):=by
 obtain⟨d,p,c,e⟩:=h.own i a hw;have ne:∀b,O.X b->b≠a:=λb x z=>h.nx hw<|z▸x
 exact#[st.hk,λb x=>by rw[Zk<|ne b x];exact st.xd b x,λb x=>by rw[Zk<|ne b<|O.xz b x];exact st.dw b x,st.tb.upd (λo u z=>by rcases e.ob with⟨_,e⟩|⟨_,e⟩<;>(rw[e]at z;cases z)) ht]
structure Base(O:Mx)(H0 H1:Hp):Prop where
 fut:Fut O H0 O H1
 dom:∀a,H1 a=ae->H0 a=ae
def Eu.rebase(b:Base O H0 H1)(x:∀a,O.X a->H0 a≠ae)(h:Eu O H1 W l os U H):Eu O H0 W l os U H:=#[b.fut.trans h.fut,x,h.len,h.osW,h.inj,λi a e=>b.dom a<|h.new i a e,h.own,h.val]
open Classical in
noncomputable def V9(H:Hp)(W:Own):Hp:=λa=>if ∃i,W i=aa a then ae else H a
def Eu.off(h:Eu O H0 W l os U H)(hd:∀a,O.X a->H a≠ae):Base O H0 (V9 H W)/\Eu O (V9 H W) W l os U H:=by
 have nw:∀a,H0 a≠ae->V9 H W a=H a:=λa z=>T8 λ#[i,e]=>z<|h.new i a e
 refine#[#[#[rfl,λa o e=>?_],λa e=>?_],#[rfl,λa o e=>.inl ?_],λa x=>?_,h.len,h.osW,h.inj,λi a e=>T9 #[i,e],h.own,h.val]
 .rw[nw a (by rw[e];intro z;cases z)];exact h.fut.keep a o e
 .cases q:H0 a with
  |none=>rfl
  |some o=>
   rw[nw a<|by rw[q];intro z;cases z]at e
   rw[h.fut.new e hd]at q;cases q
 .unfold V9 at e
  split at e
  .cases e
  .exact e
 .rw[nw a<|h.xd a x];exact hd a x
def Eu.walk(h:Eu O H0 W l os U H)(h':Eu O (V9 H W) W' l' os' σ' H'):Lat (O.ex W) H (O.ex W') H':=by
 refine#[rfl,rfl,λa o e x n nd=>?_,λa e x=>?_]
 .have nw:¬∃i,W i=aa a:=by
   rintro ⟨i,w⟩;obtain⟨_,_,_,z⟩:=h.own i a w;rcases z.ob with⟨us,z⟩|⟨us,z⟩<;>rw[e]at z
   .exact x us (ak z)<|.inr #[i,w]
   .exact nd us (ak z)<|.inr #[i,w]
  rcases h'.fut.keep a o (by unfold V9;rw[T8 nw];exact e)with z|⟨z,xs,q⟩|⟨⟨ps,q⟩,_⟩
  .exact z
  .exact T7 (.inl<|O.xz a z)<|x xs q
  .exact T7 q<|n ps
 .rcases x with x|⟨i,x⟩
  .exact .inl x
  .have:=h'.new i a x
   unfold V9 at this;split at this
   .exact .inr ‹_›
   .exact T7 this e
end
section
variable(X:Cx)(xw:Nat->Hp->Prop)(C:Calls)
def tF(f:Lc->Zn->R D):TE:=λU H Q=>∃O l S,St3 X.K O S H/\LocR O H l U/\End X.K xw (XM am H) O H Q (f l S)
structure CF(e:Expr)(i:E):Prop where
 h:PE X e (tF X xw<|Pv.pv C i)
end
def CF.ce{X:Cx}{xw:Nat->Hp->Prop}{C:Calls}{e:Expr}{i:E}(h:CF X xw C e i):CE X xw C e i:=.mk <| PE.imp h.h<|by rintro U H Q ⟨O,l,S,st,lr,h⟩;exact #[O,l,S,st,lr,h.fr]
def End.newF{K:ao}{xw:Nat->Hp->Prop}{O:Mx}{H0 H:Hp}{Q:VK}{S S0:Zn}{ds:List D}{xs:List V}(h:End K xw (XM am H0) O H Q (.ok (.lst ds) S))(f:Fut O H0 O H)(s0:St3 K O S0 H0)(st:St3 K O S H)(r:Rq O H ds xs):∀p,H p=ae->Q (.ref p) (upd H p<|.lst xs):=λp hp=>
 h O _ _ (ZJ hp) (st.fresh hp) #[Wh Zz (st.nx hp)<|r.mono<|ZJ hp,λ_ _ _=>#[p,rfl,f.new hp st.xd]]
def UT(K:ao)(xw:Nat->Hp->Prop)(f:Bf):List V->Hp->VK->Prop:=λvs H Q=>∃O S ds,St3 K O S H/\Rq O H ds vs/\∃H0 S0,Fut O H0 O H/\St3 K O S0 H0/\End K xw (XM am H0) O H Q (Pv.po (Pv.Xh f ds) S)
def z5{xw:Nat->Hp->Prop}:∀U H Q,tF X xw (Pv.pv C<|.blt f is) U H Q->tCB (UT X.K xw f) (tA X xw<|Pv.pvs C is) U H Q:=λU H Q #[O,l,S,st,lr,h]=>
 #[O,l,S,st,lr,End.bind (h) λxs S1 ρ1 H1 vs f1 st1 r1 h1=>by cases f1.eq;exact#[O,S1,xs,st1,r1,H,S,f1,st,h1]]
def jd{X:Cx}{xw:Nat->Hp->Prop}{C:Calls}{e:Expr}{pos p:iu}{f:Bf}{id:String}{x:bF}{es:List Expr}{is:List E}(hc:ZD X (.builtin id) (UT X.K xw f))(hm:X.mg x=ae)(ha:CA X xw C (e::es) is)(hg:Gl X x)(hv:dr x=aa (.builtin id))(hn:x≠"__name__")(hdb:(x == ("__debug__" : bF))=aj)
  (he:aM (e::es) X.env=(aj,cR e X.env)::aM es X.env)(hpl:(eK pos<|aM es X.env).any (·.1)=aj):CF X xw C (.Call (.Name x p) (e::es) [] pos) (.blt f is):=.mk <|
 PE.imp (VS hc hg hm hv ha.h hn hdb he hpl) z5
def zN{X:Cx}{xw:Nat->Hp->Prop}{C:Calls}{e:Expr}{pos p:iu}{f:Bf}{id:String}{x:bF}{es:List Expr}{is:List E}(hc:ZD X (.type id) (UT X.K xw f))(hm:X.mg x=ae)(ha:CA X xw C (e::es) is)(hg:Gl X x)(hv:dr x=aa (.type id))(hn:x≠"__name__")(hdb:(x == ("__debug__" : bF))=aj)
  (he:aM (e::es) X.env=(aj,cR e X.env)::aM es X.env)(hpl:(eK pos<|aM es X.env).any (·.1)=aj):CF X xw C (.Call (.Name x p) (e::es) [] pos) (.blt f is):=.mk <|
 PE.imp (Uh hc hg hm hv ha.h hn hdb he hpl) z5
def Gf{X:Cx}{xw:Nat->Hp->Prop}:ZD X (.type "list") (UT X.K xw .list):=ZD.imp UW<|by
 rintro vs H Q ⟨O,S,ds,st,r,H0,S0,f0,s0,h⟩;obtain⟨d,v,z,rfl,r1,hz,h⟩:=WP h r;obtain⟨xs,hx,rfl⟩:=aR.mp hz;obtain⟨p,ys,rfl,hq,r2⟩:=r1.seq hx;exact#[p,ys,rfl,by rw[<-st.hk];exact hq,h.newF f0 s0 st r2]
def ZB(fr:Bool)(K:ao)(xw:Nat->Hp->Prop)(O:Mx)(H0:Hp)(D:Ends):R Pv.FlV->Prop
 |.ok (.nx l os) S=>∀H' σ' W',St3 K O S H'->Eu O H0 W' l os σ' H'->D.nx σ' H'
 |.ok (.brk l os) S=>∀H' σ' W',St3 K O S H'->Eu O H0 W' l os σ' H'->D.bk σ' H'
 |.ok (.cnt l os) S=>∀H' σ' W',St3 K O S H'->Eu O H0 W' l os σ' H'->D.ct σ' H'
 |.ok (.ret d) S=>∀H' v,Fut O H0 O H'->St3 K O S H'->XM fr H0 O H' d v->D.rt v H'
 |.ex c S=>∀H',Fut O H0 O H'->St3 K O S H'->xw c H'
 |.no=>False
section
variable{fr:Bool}{K:ao}{xw:Nat->Hp->Prop}{O:Mx}{H0 H:Hp}{B β:Type}{rep:Mx->Hp->B->β->Prop}{D:Ends}{W:Own}{l:Lc}{os:List Nat}{U:L2.St}{S:Zn}
theorem ZB.bind{Q1:β->Hp->Prop}(he:Eu O H0 W l os U H)(h:ZB fr K xw O H0 D (r.bind f))
  (k:∀d S H1 v,Fut O H O H1->St3 K O S H1->rep O H1 d v->ZB fr K xw O H0 D (f d S)->Q1 v H1):End K xw rep O H Q1 r:=by
 cases r with|ok d S=>exact λρ1 H1 v g st r=>by cases g.eq;exact k d S H1 v g st r h|ex c S=>exact λρ1 H1 g st=>by cases g.eq;exact h H1 (he.fut.trans g) st|no=>exact h
def ZB.bindW{Q1:β->Hp->Prop}(he:Eu O H0 W l os U H)(h:ZB fr K xw O H0 D (r.bind f))
  (k:∀d S H1 v,Fut O H O H1->St3 K O S H1->rep (O.ex W) H1 d v->ZB fr K xw O H0 D (f d S)->Q1 v H1):End K xw rep (O.ex W) H Q1 r:=by
 cases r with|ok d S=>exact λρ1 H1 v g st r=>by cases g.eq;exact k d S H1 v #[rfl,g.keep] st.unex r h|ex c S=>exact λρ1 H1 g st=>by cases g.eq;exact h H1 (he.fut.trans #[rfl,g.keep]) st.unex|no=>exact h
def ZB.ob(h:ZB fr K xw O H0 D ((Pv.po o S).bind f)):∃a,o=aa a/\ZB fr K xw O H0 D (f a S):=by
 cases o with|none=>exact h.elim|some a=>exact#[a,rfl,h]
def ZB.guard{c:Prop}[Decidable c](h:ZB fr K xw O H0 D (if c then a else .no)):c/\ZB fr K xw O H0 D a:=by
 split at h
 .exact#[‹_›,h]
 .exact h.elim
def ZB.guardN{c:Prop}[Decidable c](h:ZB fr K xw O H0 D (if c then .no else a)):¬c/\ZB fr K xw O H0 D a:=by
 split at h
 .exact h.elim
 .exact#[‹_›,h]
theorem ZB.rebase(b:Base O H0 H1)(x:∀a,O.X a->H0 a≠ae)(h:ZB fr K xw O H0 D r):ZB fr K xw O H1 D r:=by
 cases r with
 |ok f S=>
  cases f with|nx l os=>exact λH' σ' W' st e=>h H' σ' W' st<|e.rebase b x|brk l os=>exact λH' σ' W' st e=>h H' σ' W' st<|e.rebase b x|cnt l os=>exact λH' σ' W' st e=>h H' σ' W' st<|e.rebase b x|ret d=>exact λH' v f st r=>h H' v (b.fut.trans f) st #[r.1,λz ds y=>let #[a,e,q]:=r.2 z ds y;#[a,e,b.dom a q]]
 |ex c S=>exact λH' f st=>h H' (b.fut.trans f) st
 |no=>exact h
end
section
variable(X:Cx)(xw:Nat->Hp->Prop)(fr:Bool)
def tS3(f:Lc->List Nat->Zn->R Pv.FlV):TS:=λD U H=>∃O H0 W l os S,St3 X.K O S H/\Eu O H0 W l os U H/\ZB fr X.K xw O H0 D (f l os S)
variable(C:Calls)(ms:List Nat)
structure CS(st:fw)(s:Sm):Prop where
 h:PS X st (tS3 X xw fr<|Pv.rv C ms s)
structure CSs(st:List fw)(s:List Sm):Prop where
 h:PSs X st (tS3 X xw fr<|Pv.rvs C ms s)
structure CG(tg:Expr)(t:List Nat):Prop where
 h:PG X tg (tGU X.K t)
def ZdN(t:List Nat):TGs:=λvs U H Q=>vs.length=t.length/\Q (Vn t vs U) H
structure CGs(tgs:List Expr)(t:List Nat):Prop where
 h:PGs X tgs (ZdN t)
end
def PS.imp(h:PS X e t)(k:∀D U H,t' D U H->t D U H):PS X e t':=λpq s U H D I q=>h pq s U H D I<|k D U H q
def PSs.imp(h:PSs X e t)(k:∀D U H,t' D U H->t D U H):PSs X e t':=λpq s U H D I q=>h pq s U H D I<|k D U H q
def PG.imp(h:PG X e t)(k:∀v U H Q,t' v U H Q->t v U H Q):PG X e t':=λpq s U H v u Q I r q=>h pq s U H v u Q I r<|k v U H Q q
def PGs.imp(h:PGs X e t)(k:∀v U H Q,t' v U H Q->t v U H Q):PGs X e t':=λpq s U H v u Q I r q=>h pq s U H v u Q I r<|k v U H Q q
section
variable{X:Cx}{xw:Nat->Hp->Prop}{fr:Bool}{C:Calls}{ns:List Nat}{e a b c:Expr}{i j k:E}{pos p p' p2:iu}{s0:fw}{ss:List fw}{m0:Sm}{ms ms':List Sm}
def Zbl{es:List Expr}{is:List E}(h:CA X xw C es is):CF X xw C (.List es pos) (.lst is):=.mk <| PE.imp (Zbr h.h)<|by
 rintro U H Q ⟨O,l,S,st,lr,h⟩;rw[Pv.pv]at h;refine#[O,l,S,st,lr,h.bind λxs S1 ρ1 H1 vs f1 st1 r1 h1=>?_]
 obtain⟨hl,h1⟩:=h1.guard;cases f1.eq;exact#[by rw[r1.length,<-XN];exact hl,h1.newF f1 st st1 r1]
def Zca:CSs X xw fr C ns [] []:=.mk <| PSs.imp j6<|by rintro D U H ⟨O,H0,W,l,os,S,st,he,h⟩;exact h H U W st he
def jx(h1:CS X xw fr C ns s0 m0)(h2:CSs X xw fr C ns ss ms):CSs X xw fr C ns (s0::ss) (m0::ms):=.mk <| PSs.imp (JJ h1.h h2.h)<|by
 rintro D U H ⟨O,H0,W,l,os,S,st,he,h⟩;refine#[O,H0,W,l,os,S,st,he,?_];rw[Pv.rvs]at h;cases q:Pv.rv C ns m0 l os S with
 |no=>rw[q]at h;exact h
 |ex c S1=>rw[q]at h;exact h
 |ok fl S1=>
  rw[q]at h;cases fl with|nx l1 os1=>exact λH1 σ1 W1 st1 he1=>#[O,H0,W1,l1,os1,S1,st1,he1,h]|_=>exact h
def Zbt(he:CE X xw C e i):CS X xw aj C ns (.Return (aa e) pos) (.ret i):=.mk <| PS.imp (wM he.h)<|by
 rintro D U H ⟨O,H0,W,l,os,S,st,en,h⟩;rw[Pv.rv]at h;exact#[O,l,S,st,en.all,ZB.bind en h λx S1 H1 v f1 st1 r1 h1=>h1 H1 v (en.fut.trans f1) st1 #[r1,λz=>by cases z]]
def Jr{K:ao}{O:Mx}{H0 H:Hp}{W:Own}{l:Lc}{os:List Nat}{U:L2.St}{S:Zn}{a:aL}(en:Eu O H0 W l os U H)(st:St3 K O S H)(h:H a=ae):H0 a=ae:=en.fut.new h st.xd
def jW(he:CF X xw C e i):CS X xw fr C ns (.Return (aa e) pos) (.ret i):=.mk <| PS.imp (wM he.h)<|by
 rintro D U H ⟨O,H0,W,l,os,S,st,en,h⟩;rw[Pv.rv]at h;exact#[O,l,S,st,en.all,ZB.bind en h λx S1 H1 v f1 st1 r1 h1=>h1 H1 v (en.fut.trans f1) st1 #[r1.1,λ_ ds y=>let #[a,e,q]:=r1.2 rfl ds y;#[a,e,Jr en st q]]]
def Zc1{sa sb:List fw}(hc:CT X xw C c k)(ha:CSs X xw fr C ns sa ms)(hb:CSs X xw fr C ns sb ms'):CS X xw fr C ns (.If c sa sb pos) (.ite k ms ms'):=.mk <| PS.imp (Zdc hc.h ha.h hb.h)<|by
 rintro D U H ⟨O,H0,W,l,os,S,st,en,h⟩;rw[Pv.rv]at h;refine#[O,l,S,st,en.all,ZB.bind en h λx S1 H1 v f1 st1 r1 h1=>?_]
 have e1:x=v:=r1;subst e1;cases x with|true=>exact#[O,H0,W,l,os,S1,st1,en.mono f1,h1]|false=>exact#[O,H0,W,l,os,S1,st1,en.mono f1,h1]
def qS{n:Nat}{x:bF}(hN:X.N.Nodup)(hi:X.N[n]?=aa x)(hx:L2.Loc X.env.scope x)(hf:X.fn x=am\/X.env.scope.names.lookup x=aa .local):CG X (.Name x pos) [n]:=.mk <|
 PG.imp (QO hN hi hx hf) λv U H Q q=>q
def qJ:CGs X [] []:=.mk <| PGs.imp qB<|by
 rintro vs U H Q ⟨h,q⟩;cases vs with|nil=>exact#[rfl,q]|cons _ _=>cases h
def uh{tgs:List Expr}{n:Nat}{t:List Nat}{x:bF}(hN:X.N.Nodup)(h2:CGs X tgs t)(hi:X.N[n]?=aa x)(hx:L2.Loc X.env.scope x)(hf:X.fn x=am\/X.env.scope.names.lookup x=aa .local)
  (hs:(b8 (.Name x pos::tgs) X.env).map (·.2)=dF (.Name x pos) X.env::(b8 tgs X.env).map (·.2)):CGs X (.Name x pos::tgs) (n::t):=.mk <|
 PGs.imp (vQ (QO hN hi hx hf) h2.h hs)<|by
  rintro vs U H Q ⟨h,q⟩;cases vs with|nil=>cases h|cons v vs=>exact#[v,vs,rfl,Nat.succ.inj h,q]
theorem UH{E:ap->aw->Prop}(hne:t≠it):∀(n i:Nat)(s:aw)(Q:List ap->aw->Prop),s.heap.IsListIter it t i->s.heap.IsList t items->i+n<=items.size->
  (∀h',b0.IsListIter h' it t (i+n)->dD it s.heap h'->Q ((items.toList.drop i).take n) {s with heap:=h' })->aW (aV prog w) A (draw (.ref it) n) Q E s
 |0,i,s,Q,hit,_,_,hQ=>by
  exact aq (by simpa using hQ s.heap hit<|l9 ..)
 |n+1,i,s,Q,hit,ht,hle,hQ=>by
  have hlt:i<items.size:=by lia
  refine ab<|kh hit ht (x:=items[i]) (by simp[hlt]) λh₁ hit₁ hs₁=>?_
  refine ab<|bJ<|UH hne n (i+1) _ _ hit₁ (ht.extBut hs₁.extBut hne) (by lia) λh₂ hit₂ hs₂=>aq ?_
  have hd:items.toList.drop i=items[i]::items.toList.drop (i+1):=by simp[bX,hlt]
  have:=hQ h₂ (by rw[show i+(n+1)=i+1+n by lia];exact hit₂)<|hs₁.trans hs₂
  rw[hd,List.take_succ_cons]at this;exact this
theorem J7{E:ap->aw->Prop}{x1}{Q:Unit->aw->Prop}(hh:A.handled=ae)(ht:s.heap.IsList t items)
  (hn:(b8 elts env).length=items.size)(hstar:(b8 elts env).findIdx? (·.1)=ae)
  (h:∀h',gy s.heap.objs.size s.heap h'->aW (aV prog w) A (assignInOrder ((b8 elts env).map (·.2)) items.toList) Q E {s with heap:=h' }) :
  aW (aV prog w) A (dF (.Tuple elts x1 pos) env<|.ref t) Q E s:=by
 rw[assign_Tuple];refine ab<|gq ?_;have hlt:t≠s.heap.objs.size:=by obtain⟨o,ho,_⟩:=ht;exact bi<|aC ho
 unfold unpack;rw[hn,hstar];refine ab<|bJ ?_;refine ab ?_;refine ab<|wpAny_specialOf ht.typeIs slot_list_iter.lookup ?_;refine aq ?_;simp only[cu,if_false];refine ab<|bJ<|eO ht ?_;refine ab<|bJ<|UH hlt items.size 0 _ _ #[_,aF _ rfl,rfl,rfl] (ht.push _) (by lia) λh₁ hit₁ hs₁=>?_
 have hall:gT items.size (n3 0 items.toList)=items.toList:=by
  rw[hJ];exact cw (by simp)
 rw[hall];rw[T8 (by simp)]
 have ht₁:=(ht.push _).extBut hs₁.extBut hlt;refine ab<|bJ<|kD hh hit₁ ht₁ (by simp) λh₂ he₂=>?_
 simp only[Option.isSome_none,cu,if_false];exact aq<|h h₂ λb o hb e=>he₂ b o hb<|hs₁.extBut b o hb<|au _ e
def gTL(K:ao)(n:Nat)(t:TGs):TG:=λv U H Q=>∃a xs,v=.ref a/\(SqT K H a xs\/H a=aa (.lst xs))/\xs.length=n/\t xs U H Q
def ZcX{X:Cx}{pos:iu}{es:List Expr}{k:Nat}{t:TGs}{n:Nat}(hc:X.calm=am)(h:PGs X es t)
  (hn:(b8 es X.env).length=n:=by rfl)(hst:(b8 es X.env).findIdx? (·.1)=ae:=by rfl):PG X (.Tuple es k pos) (gTL X.K n t):=by
 intro pq s U H v u Q I r hw;obtain⟨a,xs,e1,hq|hq,hl,hw⟩:=hw
 .exact Za7 hc h hn hst pq s U H v u Q I r #[a,xs,e1,hq,hl,hw]
 .subst e1
  cases r;obtain⟨its,rv,pl,hz⟩:=I.list<|SqL.of hq;refine J7 (I.ok.hd hc) pl.isList (by simp[hn,<-hl,rv.length]) hst λh' hx=>?_
  have I1:=I.kept (t':=s.toks) λb o e=>hx b o (bi<|aC e) e
  exact h pq _ U H xs _ Q I1 (by simpa using rv) hw
def ZaY{tgs:List Expr}{q2:Nat}{n m:Nat}{r:List Nat}(hc:X.calm=am)(h:CGs X tgs (n::m::r))(hn:(b8 tgs X.env).length=(n::m::r).length)(hst:(b8 tgs X.env).findIdx? (·.1)=ae):CG X (.Tuple tgs q2 pos) (n::m::r):=.mk <|
 PG.imp (ZcX hc h.h hn hst)<|by rintro v U H Q ⟨a,xs,e,hp,hl,q⟩;exact #[a,xs,e,hp,hl,hl,q]
def ZB.evA{D:Ends}{K:ao}{O:Mx}{H0 H:Hp}{W:Own}{l:Lc}{os:List Nat}{U:L2.St}{S:Zn}{f:Pv.V->Zn->R Pv.FlV}{Q1:VK}(z:Bool)(hz:Pv.fresh i=am->z=am)(st:St3 K O S H)(en:Eu O H0 W l os U H)(h:ZB fr K xw O H0 D ((Pv.pvA C i l os S).bind f))
  (k:∀d S1 H1 v,Fut O H O H1->St3 K O S1 H1->XM z H (O.ex W) H1 d v->ZB fr K xw O H0 D (f d S1)->Q1 v H1):∃ρ' l' S,St3 K ρ' S H/\LocR ρ' H l' U/\End K xw (XM z H) ρ' H Q1 (Pv.pv C i l' S):=by
 have hid:ZB fr K xw O H0 D ((Pv.pv C i (Pv.hide os l) S).bind f)->∃ρ' l' S,St3 K ρ' S H/\LocR ρ' H l' U/\End K xw (XM z H) ρ' H Q1 (Pv.pv C i l' S):=λh=>#[O.ex W,Pv.hide os l,S,en.st st,en.hid,ZB.bindW en h k]
 cases os with
 |nil=>exact hid (by rw[VD];exact h)
 |cons o os=>
  have h:ZB fr K xw O H0 D (Pv.PR.bind (match Pv.pv C i (Pv.hide (o::os) l) S with
   |.ok v s=>.ok v s
   |.ex c s=>.ex c s
   |.no=>(Pv.pv C i l S).bind λv s=>if(v.flat||Pv.fresh i&&Pv.Jx v)=am then .ok v s else .no) f):=h
  cases q:Pv.pv C i (Pv.hide (o::os) l) S with
  |ok v s=>rw[q]at h;exact hid (by rw[q];exact h)
  |ex c s=>rw[q]at h;exact hid (by rw[q];exact h)
  |no=>
   rw[q]at h;have h:ZB fr K xw O H0 D (((Pv.pv C i l S).bind λv s=>if(v.flat||Pv.fresh i&&Pv.Jx v)=am then Pv.PR.ok v s else .no).bind f):=h
   rw[Xm]at h;refine#[O,l,S,st,en.all,ZB.bind en h λd S1 H1 v f1 st1 r1 h1=>?_]
   by_cases c:(d.flat||Pv.fresh i&&Pv.Jx d)=am
   case neg=>rw[T8 c]at h1;exact h1.elim
   rw[T9 c]at h1;refine k d S1 H1 v f1 st1 #[?_,r1.2] h1;rcases(gG _ _).mp c with c|c
   .exact Rep.flat (O:=O) (ρ':=O.ex W) rfl (λ_ _ z _ _=>z) c r1.1
   .obtain⟨c1,c2⟩:=(aG _ _).mp c
    cases d with
    |lst xs=>
     obtain⟨a,rfl,ha⟩:=r1.2 (hz c1) xs rfl;obtain⟨_,us,e,hs,hx,rs⟩:=r1.1.lst';cases e;exact Wh hs (λx=>x.elim hx λ#[i,w]=>let #[_,_,_,z]:=en.own i a w;T7 ha z.ne)<|rs.flat (O:=O) (ρ':=O.ex W) rfl (λ_ _ z _ _=>z) c2
    |_=>cases c2
def End.unfr{K:ao}{O:Mx}{H H0:Hp}{Q:VK}{r:R D}(h:End K xw (XM aj H0) O H Q r):End K xw Rep O H Q r:=by
 cases r with|ok d S=>exact λρ' H' v f st r=>h ρ' H' v f st #[r,λz=>by cases z]|_=>exact h
def jR{n:Nat}{tg:Expr}(he:CE X xw C e i)(hg:CG X tg [n])(hf:Pv.fresh i=aj)(hs:ed [tg] e pos.line X.env=c0 aj)(hw:ee [tg] e X.env=c0 ae)
  (h1:(b8 [tg] X.env).map (·.2)=[dF tg X.env]):CS X xw fr C ns (.Assign [tg] e pos) (.asg [n] i):=.mk <| PS.imp (Wp he.h hg.h hs hw h1)<|by
 rintro D U H ⟨O,H0,W,l,os,S,st,en,h⟩;rw[Pv.rv]at h;obtain⟨ρ',l',S',a,b,c⟩:=ZB.evA (Q1:=λx H1=>tGU X.K [n] x U H1 D.nx) aj (λz=>by rw[hf]at z;cases z) st en h λd S1 H1 v f1 st1 r1 h1=>by
  rw[hf,Bool.and_false,T8 aN]at h1;exact h1 H1 _ _ st1<|(en.mono f1).drop (o:=aa d) λ_ z=>by cases z;exact r1.1.lat Lat.noW
 exact#[ρ',l',S',a,b,c.unfr]
def Zdh{D:Ends}{O:Mx}{H0 H:Hp}{W:Own}{l:Lc}{os:List Nat}{U:L2.St}{S:Zn}{n:Nat}(st:St3 X.K O S H)(en:Eu O H0 W l os U H)(h:ZB fr X.K xw O H0 D (Pv.rv C ns (.asg [n] i) l os S)):tF X xw (Pv.pv C i) U H λx H1=>D.nx (U.set n<|aa x) H1:=by
 rw[Pv.rv]at h;refine ZB.evA am (λ_=>rfl) st en h λd S1 H1 v f1 st1 r1 h1=>?_
 by_cases c:(ns.contains n&&Pv.fresh i)=am
 .rw[T9 c]at h1
  cases d with
  |lst xs=>
   obtain⟨⟨hf,hl⟩,h1⟩:=ZB.guard h1;obtain⟨a,rfl,ha⟩:=r1.2 rfl xs rfl;exact h1 H1 _ _ st1<|en.take st.xd f1 ha hf r1.1 hl
  |_=>exact h1.elim
 .rw[T8 c]at h1
  exact h1 H1 _ _ st1<|(en.mono f1).drop (o:=aa d) λ_ z=>by cases z;exact r1.1.lat Lat.noW
def jU{n:Nat}{tg:Expr}(he:CF X xw C e i)(hg:CG X tg [n])(hs:ed [tg] e pos.line X.env=c0 aj)(hw:ee [tg] e X.env=c0 ae)
  (h1:(b8 [tg] X.env).map (·.2)=[dF tg X.env]):CS X xw fr C ns (.Assign [tg] e pos) (.asg [n] i):=.mk <| PS.imp (Wp he.h hg.h hs hw h1)<|by rintro D U H ⟨O,H0,W,l,os,S,st,en,h⟩;exact Zdh st en h
def Zbi{n m:Nat}{t:List Nat}{tg:Expr}(he:CE X xw C e i)(hg:CG X tg (n::m::t))(hf:Pv.fresh i=aj)(hs:ed [tg] e pos.line X.env=c0 aj)(hw:ee [tg] e X.env=c0 ae)
  (h1:(b8 [tg] X.env).map (·.2)=[dF tg X.env]):CS X xw fr C ns (.Assign [tg] e pos) (.asg (n::m::t) i):=.mk <| PS.imp (Wp he.h hg.h hs hw h1)<|by
 rintro D U H ⟨O,H0,W,l,os,S,st,en,h⟩;rw[Pv.rv]at h
 .obtain⟨ρ',l',S',a,b,c⟩:=ZB.evA (Q1:=λx H1=>tGU X.K (n::m::t) x U H1 D.nx) aj (λz=>by rw[hf]at z;cases z) st en h λd S1 H1 v f1 st1 r1 h1=>by
   obtain⟨ht,h1⟩:=h1.guardN;obtain⟨l',hl,h1⟩:=ZB.ob h1;exact(en.mono f1).assign (by simpa using ht) r1.1 hl λσ' e'=>h1 H1 σ' W st1 e'
  exact#[ρ',l',S',a,b,c.unfr]
 .intro _ z;cases z
end
theorem Eu.at{O:Mx}{H0 H:Hp}{W:Own}{l:Lc}{os:List Nat}{U:L2.St}{i:Nat}{xs:List D}(h:Eu O H0 W l os U H)(hi:os.contains i=am)(hx:Pv.XT l[i]?=aa xs):∃a,W i=aa a/\U[i]?=aa (aa<|.ref a)/\∃us,H a=aa (.lst us)/\Rq (O.ex W) H xs us:=by
 rw[h.osW]at hi;obtain⟨a,w⟩:=bK.mp hi;obtain⟨d,p,c,r⟩:=h.own i a w;rw[p]at hx;cases d with|lst ys=>cases hx;exact#[a,w,c,r]|_=>cases hx
section
variable{X:Cx}{xw:Nat->Hp->Prop}{fr:Bool}{C:Calls}{ns:List Nat}{e a b c:Expr}{i j k:E}{pos p p' p2:iu}{s0:fw}{ms ms':List Sm}{n:Nat}{x:bF}
def xj{apos cpos:iu}(he:CE X xw C e i)(hN:X.N[n]?=aa x)(hv:Vis X.env.scope x)(hd:(x == ("__debug__" : bF))=aj)
  (hcd:(x == ("__classdict__" : bF))=aj)
  (hbase:attributeBase (.Name x p) "append" X.env (cR (.Name x p) X.env)=cR (.Name x p) X.env)
  (hfew:((eK cpos<|aM [e] X.env).all (λx=>!x.1)&&(backToKw cpos<|keywordEach [] X.env).all (λx=>x.1.isSome)
   && ag (([e]:List Expr).length+([]:List n6).length+(if([]:List n6).isEmpty then 0 else 1)<30))=am)
  (hline:(apos.endLine == cpos.line)=am)(hs:aM [e] X.env=(aj,cR e X.env)::aM [] X.env)(hplain:(eK cpos<|aM [] X.env).any (·.1)=aj)
  (hw:iW (.Call (.Attribute (.Name x p) "append" apos) [e] [] cpos) ae pos.line X.env=c0 aj) :
  CS X xw fr C ns (.Expr (.Call (.Attribute (.Name x p) "append" apos) [e] [] cpos) pos) (.ex<|.mt .append (.v n) [i]):=.mk <|
 PS.imp (qi (Zc5 PySem.F.plainAttrs_list PySem.F.slot_list_append PySem.F.type_list_append Ue (Qj hN hv hd hcd) (W7 he.h GN hs) hbase hfew hline hs hplain) hw)<|by
 rintro D U H ⟨O,H0,W,l,os,S,st,en,h⟩;rw[Pv.rv]at h;obtain⟨c,h⟩:=h.guard;obtain⟨xs,hx,h⟩:=ZB.ob h;obtain⟨a,ha,q,us,e1,_⟩:=en.at c hx;refine#[.ref a,q,.inl #[rfl,us,SqL.of e1],O,l,S,st,en.all,ZB.bind en h λy S1 H1 v f1 st1 r1 h1=>?_]
 obtain⟨⟨hf,hl⟩,h1⟩:=h1.guard;have en1:=en.mono f1;obtain⟨a',ha',_,us,e2,r'⟩:=en1.at c hx;rw[ha]at ha';cases ha';exact#[a,us,v,rfl,rfl,e2,by rw[r'.length,<-XN];exact hl,h1 _ _ W (st1.mut en1 ha)<|en1.mut ha<|r'.append<|Rq.cons (Rep.flat (O:=O) (ρ':=O.ex W) rfl (λ_ _ z _ _=>z) hf r1) Rq.nil]
end
structure WRel(K:ao)(O:Mx)(H:Hp)(w:List D)(J:It):Prop where
 go:∀(i:Nat) ρ' S' H',Lat O H ρ' H'->St3 K ρ' S' H'->i<w.length->J.go i H'/\∀x H'',J.yld i H' x H''->Fut ρ' H' ρ' H''/\St3 K ρ' S' H''/\∀d,w[i]?=aa d->Rep ρ' H'' d x
 stop:∀ρ' S' H',Lat O H ρ' H'->St3 K ρ' S' H'->J.stop w.length H'
section
variable(X:Cx)(xw:Nat->Hp->Prop)
def tW3(f:Lc->Zn->R (List D)):TI:=λU H Q=>∃O l S,St3 X.K O S H/\LocR O H l U/\End X.K xw (WRel X.K) O H Q (f l S)
structure CW(C:Calls)(tg it:Expr)(w:Ev.W):Prop where
 h:PI X tg it (tW3 X xw<|Pv.pvw C w)
end
def PI.imp(h:PI X tg it t)(k:∀U H Q,t' U H Q->t U H Q):PI X tg it t':=λpq s U H R I q=>h pq s U H R I<|k U H R q
section
variable{X:Cx}{xw:Nat->Hp->Prop}{C:Calls}{e a b c tg it:Expr}{i j k:E}{pos p p' p2:iu}
def ZdL(K:ao)(tl:TE):TI:=λU H R=>tl U H λx H1=>∃a,x=.ref a/\(((∃xs,SqL K H1 a xs)/\R (Itl K a) H1)\/((∃xs,SqT K H1 a xs)/\R (Itt K a) H1))
def wW(hl:PE X l tl):PI X tg l (ZdL X.K tl):=by
 intro pq s U H R I h;refine thn (hl pq s U H _ I h) λv s1 #[x,H1,I1,r1,a,e,q]=>?_
 subst e;cases r1;rcases q with⟨⟨xs,hq⟩,q⟩|⟨⟨xs,hq⟩,q⟩
 .obtain⟨its,rv,p,hz⟩:=I1.list hq
  refine eO p.isList ?_;refine#[s1.heap.objs.size,[s1.heap.objs.size],_,_,H1,rfl,I1.kept (t':=s1.toks) λb o e=>au _ e,xF a _,#[_,aF _ rfl,rfl,rfl],λb hb=>?_,q]
  have e:b=s1.heap.objs.size:=by simpa using hb
  subst e;exact I1.fpOk (aA _)<|I1.hok.fresh<|aA _
 .obtain⟨its,rv,p,hz⟩:=I1.tuple hq
  refine fJ (p) ?_
  refine#[s1.heap.objs.size,[s1.heap.objs.size],_,_,H1,rfl,I1.kept (t':=s1.toks) λb o e=>au _ e,Gu a _,#[_,aF _ rfl,rfl,rfl],λb hb=>?_,q]
  have e:b=s1.heap.objs.size:=by simpa using hb
  subst e;exact I1.fpOk (aA _)<|I1.hok.fresh<|aA _
def WB{K:ao}{O:Mx}{H:Hp}{ds:List D}{xs:List V}{J:It}(r:Rq O H ds xs)(hg:∀ρ' H',Lat O H ρ' H'->(∀i x,xs[i]?=aa x->J.go i H'/\∀y H'',J.yld i H' y H''->H''=H'/\y=x)/\∀n,n=xs.length->J.stop n H'):WRel K O H ds J where
 go:=λi ρ' S' H' f st hi=>by
  obtain⟨v,g,r'⟩:=(r.lat f).get<|af hi;obtain⟨a,b⟩:=(hg ρ' H' f).1 i v g;refine#[a,λx H'' y=>?_]
  obtain⟨rfl,rfl⟩:=b x H'' y;exact#[Fut.refl _ _,st,λd hd=>by rw[af hi]at hd;cases hd;exact r']
 stop:=λρ' S' H' f st=>(hg ρ' H' f).2 _ r.length.symm
def v6{K K':ao}{O:Mx}{H:Hp}{ds:List D}{a:aL}{xs:List V}(hp:H a=aa (.tup xs))(r:Rq O H ds xs):WRel K O H ds (Itt K' a):=WB r λρ' H' f=>by
 have h:=SqT.of (K:=K')<|f.keep a _ hp λ_ z=>by cases z
 exact#[λi x g=>#[#[xs,x,h,g],λy H'' z=>#[z.1,by have:=z.2 xs h;rw[g]at this;exact(ak this).symm]],λn e=>#[xs,h,by omega]]
def Qg{K K':ao}{O:Mx}{H:Hp}{ds:List D}{a:aL}{xs:List V}(hp:∀ρ' H',Lat O H ρ' H'->SqL K' H' a xs)(r:Rq O H ds xs):WRel K O H ds (Itl K' a):=WB r λρ' H' f=>by
 have h:=hp ρ' H' f;exact#[λi x g=>#[#[xs,x,h,g],λy H'' z=>#[z.1,by have:=z.2 xs h;rw[g]at this;exact(ak this).symm]],λn e=>#[xs,h,by omega]]
def Uy(lo:Int)(n:Nat):(Pv.ZS lo n).length=n:=by unfold Pv.ZS;rw[ay,bG]
theorem Uq(lo:Int):∀(l:List Nat),Rq O H (l.map λ(k:Nat)=>Pv.V.int<|lo+(k:Int)) (l.map λ(k:Nat)=>V.int<|lo+(k:Int))
 |[]=>Rq.nil
 |_::l=>Rq.cons (ZL _)<|Uq lo l
def Q6{K:ao}{O:Mx}{H:Hp}{lo:Int}{n:Nat}:WRel K O H (Pv.ZS lo n) (Itr lo n):=WB (Uq lo<|aK n) λρ' H' f=>by
 refine#[λi x g=>?_,λm e=>?_]
 .have hi:i<n:=by have:=(aX.mp g).1;simpa using this
  rw[aH,cA hi]at g;exact#[hi,λy H'' z=>#[z.1,z.2.trans<|ak g]]
 .rw[ay,bG]at e;show n<=m;omega
def Zdn(he:CE X xw C e i):CW X xw C tg e (.of i):=.mk <| PI.imp (wW he.h)<|by
 rintro U H Q ⟨O,l,S,st,lr,h⟩;rw[Pv.pvw]at h;refine#[O,l,S,st,lr,h.bind λx S1 ρ1 H1 v f1 st1 r1 h1=>?_]
 obtain⟨ds,hd,h1⟩:=End.po h1;have q:∀{J},WRel X.K ρ1 H1 ds J->Q J H1:=λw=>End.ok h1 st1 w
 cases x with
 |tup ds=>cases hd;obtain⟨a,xs,rfl,hp,r⟩:=r1.tup';exact#[a,rfl,.inr #[#[xs,SqT.of hp],q<|v6 hp r]]
 |lst ds=>cases hd;obtain⟨a,xs,rfl,hp,hx,r⟩:=r1.lst';exact#[a,rfl,.inl #[#[xs,SqL.of hp],q<|Qg (λρ' H' f=>SqL.of<|f.keep a _ hp λ_ _=>hx) r]]
 |scr ns=>
  cases hd;obtain⟨a,rfl,hp⟩:=r1.scr';rw[st1.hk]at hp;refine#[a,rfl,.inl #[#[_,hp.sq],q<|Qg (λρ' H' f=>?_)<|Rq.ints ns]]
  rcases hp with⟨o,hp⟩|hp
  .exact .inl<|.inr #[o,f.keep a _ hp λ_ z=>by cases z]
  .exact .inr hp
 |_=>exact Ev.nos hd
def Zay{B β:Type}{rep:Mx->Hp->B->β->Prop}{O:Mx}{l:Lc}{S:Zn}{U:L2.St}{H:Hp}{Q:β->Hp->Prop}{Q1:List V->Hp->Prop}{g:D->Zn->R B}(st:St3 X.K O S H)(lr:LocR O H l U)(h:End X.K xw rep O H Q ((Pv.pv C i l S).bind g))
  (k:∀x S1 ρ1 H1 v,St3 X.K ρ1 S1 H1->Rep ρ1 H1 x v->End X.K xw rep ρ1 H1 Q (g x S1)->Q1 [v] H1):tA X xw (Pv.pvs C [i]) U H Q1:=by
 refine#[O,l,S,st,lr,?_];show End X.K xw Rq O H _ ((Pv.pv C i l S).bind λx S=>.ok [x] S)
 cases q:Pv.pv C i l S with
 |no=>rw[q]at h;exact h
 |ex c S1=>rw[q]at h;exact h
 |ok x S1=>
  rw[q]at h;intro ρ1 H1 vs f1 st1 r1;obtain⟨v,rfl,r⟩:=wL r1;exact k x S1 ρ1 H1 v st1 r<|End.mono f1 h
def Zat{B β:Type}{rep:Mx->Hp->B->β->Prop}{O:Mx}{l:Lc}{S:Zn}{U:L2.St}{H:Hp}{Q:β->Hp->Prop}{Q1:List V->Hp->Prop}{g:D->D->Zn->R B}(st:St3 X.K O S H)(lr:LocR O H l U)(h:End X.K xw rep O H Q ((Pv.pv C i l S).bind λx S=>(Pv.pv C j l S).bind λy S=>g x y S))
  (k:∀x y S1 ρ1 H1 v u,St3 X.K ρ1 S1 H1->Rep ρ1 H1 x v->Rep ρ1 H1 y u->End X.K xw rep ρ1 H1 Q (g x y S1)->Q1 [v,u] H1):tA X xw (Pv.pvs C [i,j]) U H Q1:=by
 refine#[O,l,S,st,lr,?_];show End X.K xw Rq O H _ ((Pv.pv C i l S).bind λx S=>((Pv.pv C j l S).bind λy S=>.ok [y] S).bind λxs S=>.ok (x::xs) S)
 cases q:Pv.pv C i l S with
 |no=>rw[q]at h;exact h
 |ex c S1=>rw[q]at h;exact h
 |ok x S1=>
  rw[q]at h;have h:End X.K xw rep O H Q ((Pv.pv C j l S1).bind λy S=>g x y S):=h
  show End X.K xw Rq O H _ (((Pv.pv C j l S1).bind λy S=>.ok [y] S).bind λxs S=>.ok (x::xs) S)
  cases q2:Pv.pv C j l S1 with
  |no=>rw[q2]at h;exact h
  |ex c S2=>rw[q2]at h;exact h
  |ok y S2=>
   rw[q2]at h;intro ρ1 H1 vs f1 st1 r1;obtain⟨v,u,rfl,rv,ru⟩:=zB r1;exact k x y S2 ρ1 H1 v u st1 rv ru<|End.mono f1 h
def YV(h:Ev.YO n=am):-(2^62)<=n/\n<2^62:=T6 h
def qt(hm:X.mg "range" = ae)(ha:CA X xw C [a] [i])(hg:Gl X "range")(hs:aM [a] X.env=[(aj,cR a X.env)]):CW X xw C tg (.Call (.Name "range" p) [a] [] pos) (.rng1 i):=.mk <|
 PI.imp (yW hg hm ha.h hs) λU H Q #[O,l,S,st,lr,h]=>Zay st lr h λx S1 ρ1 H1 v st1 r h1=>by
  cases x with
  |int n=>
   obtain⟨hs,h2⟩:=End.guard h1;exact#[n,by rw[r.int'],(YV hs).1,(YV hs).2,End.ok (rep:=WRel X.K) h2 st1 Q6]
  |_=>exact False.elim h1
def j7(hm:X.mg "range" = ae)(ha:CA X xw C [a,b] [i,j])(hg:Gl X "range")(hs:aM [a,b] X.env=[(aj,cR a X.env),(aj,cR b X.env)])(hs2:aM [b] X.env=[(aj,cR b X.env)]) :
  CW X xw C tg (.Call (.Name "range" p) [a,b] [] pos) (.rng2 i j):=.mk <|
 PI.imp (yy hg hm ha.h hs hs2) λU H Q #[O,l,S,st,lr,h]=>Zat st lr h λx y S1 ρ1 H1 v u st1 rv ru h1=>by
  cases x with
  |int n=>cases y with
   |int m=>
    obtain⟨hs,h3⟩:=End.guard h1;obtain⟨s1,s2⟩:=(aG _ _).mp hs;exact#[n,m,by rw[rv.int',ru.int'],#[(YV s1).1,(YV s1).2,(YV s2).1,(YV s2).2],End.ok (rep:=WRel X.K) h3 st1 Q6]
   |_=>exact False.elim h1
  |_=>exact False.elim h1
def zV{D:Ends}{U:L2.St}{O:Mx}{H0 H1:Hp}{W:Own}{l:Lc}{os:List Nat}{S1:Zn}{J:It}{wk:List Pv.V}{fr:Bool}{ns:List Nat}{ms:List Sm}{t:List Nat}(st1:St3 X.K O S1 H1)(en:Eu O H0 W l os U H1)(r1:WRel X.K (O.ex W) H1 wk J)
  (h1:ZB fr X.K xw O H0 D (Pv.YK (λx O os s=>if(t.any<|iO os)=am then(.no:Pv.PR Pv.FlV)else(Pv.po (Pv.Ze t x O) s).bind λO s=>Pv.rvs C ns ms O os s) wk l os S1)):∃W:Nat->Nat->L2.St->Hp->Prop,(∃m,W 0 m U H1)/\∀i m U H,W i m U H->
   (J.stop i H/\D.nx U H)\/(J.go i H/\∃N:L2.St->Hp->Prop,(∀σ' H',N σ' H'->∃m',m'<m/\W (i+1) m' σ' H')/\∀x H',J.yld i H x H'->tGU X.K t x U H' λσ2 H2=>tS3 X xw fr (Pv.rvs C ns ms) {D with nx:=N,ct:=N,bk:=D.nx} σ2 H2):=by
 obtain⟨bs,en1⟩:=en.off st1.xd;have h1:=h1.rebase bs en.xd;generalize hB:(λx O os s=>if(t.any<|iO os)=am then(.no:Pv.PR Pv.FlV)else(Pv.po (Pv.Ze t x O) s).bind λO s=>Pv.rvs C ns ms O os s)=B at h1
 let I:Nat->L2.St->Hp->Prop:=λn σ' H'=>∃W' l' os' S',St3 X.K O S' H'/\Eu O (V9 H1 W) W' l' os' σ' H'/\ZB fr X.K xw O (V9 H1 W) D (Pv.YK B (wk.drop n) l' os' S')
 refine#[λn m σ' H'=>m=wk.length-n/\n<=wk.length/\I n σ' H',#[wk.length,rfl,cJ _,W,l,os,S1,st1,en1,h1],?_]
 rintro n m σ' H' ⟨rfl,hn,W',l',os',S',st',en',e'⟩
 have lat:=en.walk en';by_cases hlt:n<wk.length
 .right
  rw[bX hlt,Pv.YK]at e';obtain⟨go,yl⟩:=r1.go n _ S' H' lat (en'.st st') hlt;refine#[go,I<|n+1,λσ2 H2 q=>#[wk.length-(n+1),by omega,rfl,hlt,q],λx H3 y=>?_]
  obtain⟨f3,st3,rp⟩:=yl x H3 y;have rx:=rp _<|af hlt;have f3:Fut O H' O H3:=#[rfl,f3.keep];have hBn:B wk[n] l' os' S'=if(t.any<|iO os')=am then(.no:Pv.PR Pv.FlV)else(Pv.po (Pv.Ze t wk[n] l') S').bind λO s=>Pv.rvs C ns ms O os' s:=by rw[<-hB]
  rw[hBn]at e';by_cases c:(t.any<|iO os')=am
  .rw[T9 c]at e';exact e'.elim
  rw[T8 c]at e';cases ha:Pv.Ze t wk[n] l' with
  |none=>rw[ha]at e';exact e'.elim
  |some l2=>
   rw[ha]at e';refine(en'.mono f3).assign (by simpa using c) rx ha λσ2 e2=>#[O,_,W',l2,os',S',st3.unex,e2,?_]
   have e':ZB fr X.K xw O (V9 H1 W) D ((Pv.rvs C ns ms l2 os' S').bind _):=e';cases q:Pv.rvs C ns ms l2 os' S' with
   |no=>rw[q]at e';exact e'
   |ex c S2=>rw[q]at e';exact e'
   |ok fl S2=>
    rw[q]at e';cases fl with|nx l3 os3=>exact λH4 σ4 W4 st4 lr4=>#[W4,l3,os3,S2,st4,lr4,e']|cnt l3 os3=>exact λH4 σ4 W4 st4 lr4=>#[W4,l3,os3,S2,st4,lr4,e']|brk l3 os3=>exact e'|ret d=>exact e'
 .left
  have en2:n=wk.length:=by omega
  subst en2;rw[dJ]at e';exact#[r1.stop _ S' H' lat<|en'.st st',e' H' σ' W' st' en']
def Zbw{body:List fw}{fr:Bool}{ns:List Nat}{ms:List Sm}{w:Ev.W}{t:List Nat}(hp:PassesOwn (aV X.prog X.w) X.A X.env X.xe)(hc:X.calm=am)(hw:CW X xw C tg it w)(hg:CG X tg t)(hb:CSs X xw fr C ns body ms)
  (hs:∀x,c6 it X.env x=c0 x):CS X xw fr C ns (.For tg it body [] pos) (.forr t w ms):=.mk <| PS.imp (vf hp hc hw.h hg.h hb.h hs)<|by
 rintro D U H ⟨O,H0,W,l,os,S,st,en,h⟩;rw[Pv.rv]at h;refine#[O.ex W,Pv.hide os l,S,en.st st,en.hid,ZB.bindW en h λwk S1 H1 J f1 st1 r1 h1=>zV st1 (en.mono f1) r1 h1]
def qm{body:List fw}{fr:Bool}{ns:List Nat}{ms:List Sm}{t:List Nat}(hp:PassesOwn (aV X.prog X.w) X.A X.env X.xe)(hc:X.calm=am)(he:CF X xw C it i)(hg:CG X tg t)(hb:CSs X xw fr C ns body ms)
  (hs:∀x,c6 it X.env x=c0 x):CS X xw fr C ns (.For tg it body [] pos) (.forF t i ms):=.mk <| PS.imp (vf hp hc (wW he.h) hg.h hb.h hs)<|by
 rintro D U H ⟨O,H0,W,l,os,S,st,en,h⟩;rw[Pv.rv]at h;refine ZB.evA am (λ_=>rfl) st en h λd S1 H1 v f1 st1 r1 h1=>?_
 cases d with|lst ds=>obtain⟨a,xs,rfl,hp,hx,r⟩:=r1.1.lst';exact#[a,rfl,.inl #[#[xs,SqL.of hp],zV st1 (en.mono f1) (Qg (λρ' H' f=>SqL.of<|f.keep a _ hp λ_ _=>hx) r) h1]]|_=>exact h1.elim
end
end Sd
namespace Sd
open PySem PySem.Spec PyProof.Rows L2
noncomputable def y8(env:Env):List (bF×dZ)->List (bF×aL)->List (bF×aL)
 |[],acc=>acc
 |x::r,acc=>y8 env r (if(x.2 == bD)=am then(x.1,(env.cells.lookup x.1).getD 0)::acc else acc)
theorem Vw{env:Env}{f:bF×dZ->List (bF×aL)->mv (ForInStep<|List<|bF×aL)}:∀(names:List (bF×dZ))(acc:List (bF×aL)),
  (∀x∈names,∀c,f x c=c0 (.yield (if(x.2 == bD)=am then(x.1,(env.cells.lookup x.1).getD 0)::c else c)))->kO names acc f=c0 (y8 env names acc)
 |[],acc,_=>rfl
 |x::r,acc,h=>by
  rw[gH,h x al,pure_bind];exact Vw r _ λy hy=>h y<|ai _ hy
theorem Q5 :∀(names:List (bF×dZ))(acc:List (bF×aL)),(y8 env names acc).lookup x=aa c->acc.lookup x=aa c\/(∃y∈names,y.1=x/\y.2=.free/\c=(env.cells.lookup x).getD 0)
 |[],acc,h=>.inl h
 |y::r,acc,h=>by
  rcases Q5 r _ h with h|⟨z,hz,e⟩
  .by_cases hf:(y.2 == bD)=am
   .rw[T9 hf,bH]at h
    cases q:(x == y.1)with
    |true=>
     rw[q]at h;have e:=ei q;exact .inr #[y,al,e.symm,ei hf,by rw[e];exact(ak h).symm]
    |false=>rw[q]at h;exact .inl h
   .rw[T8 hf]at h;exact .inl h
  .exact .inr #[z,ai _ hz,e]
theorem J4 :∀(names:List (bF×dZ))(acc:List (bF×aL)),(acc.lookup x).isSome=am->((y8 env names acc).lookup x).isSome=am
 |[],acc,h=>h
 |y::r,acc,h=>by
  refine J4 r _ ?_;split
  .rw[bH]
   cases(x == y.1)with|true=>rfl|false=>exact h
  .exact h
theorem Jl :∀(names:List (bF×dZ))(acc:List (bF×aL)),(x,bD)∈names->((y8 env names acc).lookup x).isSome=am
 |[],acc,h=>by cases h
 |y::r,acc,h=>by
  rcases az.mp h with h|h
  .subst h
   refine J4 r _ ?_;rw[T9 (by rfl),bH,beq_self_eq_true]
   rfl
  .exact Jl r _ h
def GU{scope:eA}{env:Env}(h:∀y∈scope.names,y.2=.free->∃c,env.cells.lookup y.1=aa c) :
  ∃cl,closureFor scope env=c0 cl/\(∀x c,cl.lookup x=aa c->env.cells.lookup x=aa c)/\∀x,(x,bD)∈scope.names->∃c,cl.lookup x=aa c:=by
 refine#[y8 env scope.names [],?_,λx c e=>?_,λx hx=>bK.mp<|Jl _ _ hx]
 .simp only[closureFor]
  rw[Vw (env:=env) scope.names [] (λx hx c=>by
   obtain⟨n,kind⟩:=x;by_cases hk:(kind == bD)=am
   .obtain⟨a,ha⟩:=h (n,kind) hx (ei hk)
    have ha':=ha;simp only[hk,if_true,cellOf,ha',pure_bind,mF]
   .simp only[hk,if_false]
    rfl),pure_bind]
 .rcases Q5 _ _ e with e|⟨y,hy,e1,e2,e3⟩
  .cases e
  .obtain⟨a,ha⟩:=h y hy e2
   rw[e1]at ha;rw[e3,ha];rfl
theorem WH{x:bF}{c:aL}{lo:Nat}:∀(names:List (bF×dZ))(h:b0)(acc:List (bF×aL)),lo<=h.objs.size->(dG h.objs.size names acc).lookup x=aa c->
  ((x,cp)∉names/\acc.lookup x=aa c)\/((x,cp)∈names/\lo<=c/\(mG h names).IsCell c ae)
 |[],h,acc,_,e=>.inl #[by simp,e]
 |(name,kind)::r,h,acc,hlo,e=>by
  unfold dG at e;unfold mG;split at e
  .rename_i hk
   rw[T9 hk];have hk:=ei hk;subst hk;rw[<-cK h {cls:=.type "cell",data:=.cell ae}]at e;rcases WH r (h.push {cls:=.type "cell",data:=.cell ae}) ((name,h.objs.size)::acc) (bU hlo<|by rw[cK];exact mR _) e with⟨e1,e2⟩|⟨e1,e2⟩
   .rw[bH]at e2
    cases hb:x == name with
    |true=>
     rw[hb]at e2;cases e2;have:=ei hb;subst this;exact .inr #[al,hlo,_,kA _ _ _ _<|aF _ rfl,rfl]
    |false=>
     rw[hb]at e2;refine .inl #[λhm=>?_,e2]
     rcases az.mp hm with q|q
     .cases q
      rw[beq_self_eq_true]at hb;cases hb
     .exact e1 q
   .exact .inr #[ai _ e1,e2]
  .rename_i hk
   rw[T8 hk];rcases WH r _ _ hlo e with⟨e1,e2⟩|⟨e1,e2⟩
   .refine .inl #[λhm=>?_,e2]
    rcases az.mp hm with q|q
    .cases q
     exact hk rfl
    .exact e1 q
   .exact .inr #[ai _ e1,e2]
theorem Wq:∀(names:List (bF×dZ))(n:Nat)(acc:List (bF×aL)),(∀x c,acc.lookup x=aa c->c<n)->(∀x y c,acc.lookup x=aa c->acc.lookup y=aa c->x=y)->
  ∀x y c,(dG n names acc).lookup x=aa c->(dG n names acc).lookup y=aa c->x=y
 |[],n,acc,_,h=>h
 |(name,kind)::r,n,acc,hl,h=>by
  unfold dG;split
  .refine Wq r (n+1) _ (λx c e=>?_) λx y c e1 e2=>?_
   .rw[bH]at e
    split at e
    .cases e;exact i5 _
    .exact c8<|hl x c e
   .rw[bH]at e1 e2
    cases p:x == name<;>cases q:y == name<;>rw[p]at e1<;>rw[q]at e2
    .exact h x y c e1 e2
    .cases e2;exact T7 (hl x _ e1)<|bm _
    .cases e1;exact T7 (hl y _ e2)<|bm _
    .rw[ei p,ei q]
  .exact Wq r n acc hl h
theorem Wr{x:bF}:∀(names:List (bF×dZ))(n:Nat)(acc:List (bF×aL)),(∃c,acc.lookup x=aa c)\/(x,cp)∈names->∃c,(dG n names acc).lookup x=aa c
 |[],n,acc,h=>h.elim (λh=>h) λh=>by cases h
 |(name,kind)::r,n,acc,h=>by
  unfold dG;split
  .refine Wr r _ _ ?_
   cases hb:x == name with
   |true=>exact .inl #[n,by rw[bH,hb]]
   |false=>
    rcases h with⟨c,e⟩|h
    .exact .inl #[c,by rw[bH,hb];exact e]
    .rcases az.mp h with q|q
     .cases q
      rw[beq_self_eq_true]at hb;cases hb
     .exact .inr q
  .rename_i hk
   refine Wr r _ _<|h.imp (λh=>h) λh=>?_
   rcases az.mp h with q|q
   .cases q
    exact T7 rfl hk
   .exact q
def Gq{M:Model}{A:cQ}{E:ap->aw->Prop}{s:aw}{scope:eA}{g:aL}{cl:List (bF×aL)}{q:bF}{env:Env}{Q:Env->aw->Prop}
  (h:Q (newEnv scope s.heap.objs.size g (dG (s.heap.objs.size+1) scope.names cl) q ae .none (aa env) lz) {s with heap:=mG (s.heap.push {cls:=.type "dict",data:=.dict #[]}) scope.names}) :
  aW M A (newFunctionEnv scope g cl [] q ae .none<|aa env) Q E s:=by
 simp only[newFunctionEnv,lI,if_true];refine ab<|mS ?_;refine ab<|wpAny_layCells _ (λname kind cells=>by cases hkc:kind == cp<;>simp[hkc]) _ _ _ _ ?_
 rw[show({s with heap:=s.heap.push {cls:=.type "dict",data:=.dict #[]}}:aw).heap.objs.size=s.heap.objs.size+1 from cK ..]
 exact aq h
noncomputable def cxC(X:Cx)(N:List bF)(scope:eA)(cl:List (bF×aL))(s:aw)(H:Hp)(fp:List aL):Cx:=
 {X with N:=N,s₀:=s,H₀:=H,env:=compEnvC scope cl s.heap.objs.size X.env,outer:=X.stack,ex:=fp,fn:=λx=>scope.names.any λy=>y.2 == .cell&&y.1 == x,pn:=[],xe:=λ_ _=>False}
def PTs(X:Cx)(ifs:List Expr)(t:TT):Prop:=
 ∀(pq:List (aL×fb))(s:aw)(U:L2.St)(H:Hp)(Q:Bool->Hp->Prop),Inv X pq U H s->t U H Q->
  aW (aV X.prog X.w) X.A (kO ifs am λc r=>if r=am then do let ok <-isTrue c X.env (cR c X.env);c0 (m4 ok)else c0 (m4 r)) (TP X pq U Q) X.xe s
def jo :PTs X [] (λU H Q=>Q am H):=λpq s U H Q I h=>wpAny_tests_nil #[H,I,h]
def jz(h:PT X c t):PTs X [c] t:=λpq s U H Q I hq=>wpAny_tests_one<|h pq s U H Q I hq
structure CompScope(sc:eA)(N0:List bF)(scope:eA)(N:List bF)(cap:List Nat)(nl:Nat):Prop where
 kind:scope.kind=.function
 cell:∀y∈scope.names,y.2=.cell->(y.1,bD)∉scope.names
 names:∀y∈scope.names,y.2=.local->scope.names.lookup y.1=aa .local
 free:∀y∈scope.names,y.2=.free->sc.names.lookup y.1=aa .cell\/sc.names.lookup y.1=aa .free
 apart:∀y∈scope.names,y.2=.free->scope.names.lookup y.1≠aa .local
 len:N.length=nl+cap.length
 cap:∀p∈cap.zipIdx,N[nl+p.2]?=N0[p.1]?/\(N0[p.1]?).map (λx=>ag<|(x,bD)∈scope.names)=aa am
def CompScope.capt{sc:eA}{N0:List bF}{scope:eA}{N:List bF}{cap:List Nat}{nl:Nat}(h:CompScope sc N0 scope N cap nl)(i j:Nat)(e:cap[i]?=aa j):∃x,N[nl+i]?=aa x/\N0[j]?=aa x/\(x,bD)∈scope.names:=by
 have hm:(j,i)∈cap.zipIdx:=by
  rw[List.mem_zipIdx_iff_getElem?];exact e
 obtain⟨h1,h2⟩:=h.cap (j,i) hm;cases q:N0[j]? with
 |none=>rw[q]at h2;cases h2
 |some x=>
  rw[q]at h1 h2
  exact#[x,h1,rfl,T6<|ak h2]
noncomputable def Yw(cap:List Nat)(nl:Nat)(U:L2.St):L2.St:=aB nl ae++cap.map λi=>(U[i]?).join
section
variable{X:Cx}{pq:List (aL×fb)}{U:L2.St}{H:Hp}{s:aw}
theorem X6{env:Env}{x:bF}:∀{names:List (bF×dZ)},(names.map λ(n,k)=>if(k == bD&&env.scope.kind == .function&&env.kindOf n == aa .cell)then(n,cp)else(n,k)).lookup x=aa .cell\/
  (names.map λ(n,k)=>if(k == bD&&env.scope.kind == .function&&env.kindOf n == aa .cell)then(n,cp)else(n,k)).lookup x=aa .free->(x,bD)∈names\/(x,cp)∈names
 |[],h=>by rcases h with h|h<;>cases h
 |(n,k)::r,h=>by
  have ih:=@X6 env x r;rw[bf]at h;by_cases e:x=n
  .subst e
   by_cases c:(k == bD&&env.scope.kind == .function&&env.kindOf x == aa .cell)=am
   .have:=(aG _ _).mp c
    rw[ei ((aG _ _).mp this.1).1];exact .inl al
   .simp only[T8 c,bH,beq_self_eq_true,Option.some.injEq]at h
    rcases h with h|h
    .rw[h];exact .inr al
    .rw[h];exact .inl al
  .have hb:(x == n)=aj:=beq_eq_false_iff_ne.mpr e
   refine(ih ?_).imp (ai _)<|ai _;by_cases c:(k == bD&&env.scope.kind == .function&&env.kindOf n == aa .cell)=am
   .simpa only[T9 c,bH,hb]using h
   .simpa only[T8 c,bH,hb]using h
theorem uN{N:List bF}{scope:eA}{cl:List (bF×aL)}{fp:List aL}{cap:List Nat}{nl:Nat}{h1:b0}{tk:Nat}(I:Inv X pq U H s)(CS:CompScope X.env.scope X.N scope N cap nl)(hN:X.N.Nodup)
  (c1:∀x c,cl.lookup x=aa c->((x,cp)∉scope.names/\X.env.cells.lookup x=aa c)\/((x,cp)∈scope.names/\s.heap.objs.size<=c/\h1.IsCell c ae))(c2:∀x,(x,bD)∈scope.names\/(x,cp)∈scope.names->∃c,cl.lookup x=aa c)
  (c3:∀x y c,cl.lookup x=aa c->cl.lookup y=aa c->x=y)(hf:∀b∈fp,WD X pq H b)(hb:∀b∈fp,∃o,s.heap.get? b=aa o)(hns:∃m,h1.Ns s.heap.objs.size m)(hk:∀b o,s.heap.get? b=aa o->h1.get? b=aa o) :
  Inv (cxC X N scope cl s H fp) [] (Yw cap nl U) H {s with heap:=h1,toks:=tk}:=by
 have bne:∀b∈fp,b≠s.heap.objs.size:=λb hb' e=>by
  obtain⟨o,ho⟩:=hb b hb';exact T7 (aC ho) (by rw[e];exact bm _)
 refine#[#[I.ok.mod,CS.kind,I.ok.glob,I.ok.blt,aA _,c3,λx hx=>c2 x<|X6 (env:=X.env) hx,λx c h e=>?_,I.ok.hd,I.ok.frames,.inl rfl,
  λb hb'=>#[bne b hb',λx c e=>(c1 x c e).elim (λq=>(hf b hb').2.2.2.2.1 x c q.2) λq z=>?_],I.bs,bU I.ok.bsz I.sz,λb o e hb'=>?_,λb hb' hm=>?_,I.stack,I.stkFree],
  rfl,I.bare,Un.kept hk,?_,λx c e=>?_,I.hok.fresh<|aA _,λx c e=>(c1 x c e).elim (λq=>I.freeC x c q.2) λq=>I.hok.fresh q.2.1,λp hp=>T7 hp (by simp[cxC]),I.hok.kept hk,?_]
 .rcases c1 x c e with q|q
  .obtain⟨y,hy,e⟩:=fg.mp h
   obtain⟨e1,e2⟩:=(aG _ _).mp e;obtain⟨y,k⟩:=y;have a1:k=.cell:=ei e1;have a2:y=x:=ei e2;subst a1 a2;exact T7 hy q.1
  .exact q.2.1
 .obtain⟨o,ho⟩:=hb b hb'
  have:=aC ho;rw[<-z]at this;exact T7 q.2.1<|Nat.not_le.mpr this
 .rcases(hf b hb').2.2.2.1 with z|z
  .exact I.ok.noex b o e z
  .exact T7 (aC e)<|Nat.not_lt.mpr<|bU I.ok.bsz z
 .rcases az.mp (I.stkSub b hm)with e|e
  .exact(hf b hb').2.1 e
  .exact(hf b hb').2.2.1 e
 .obtain⟨m1,hm1⟩:=hns
  refine#[m1,hm1,λi x v e1 e2 e3=>?_]
  obtain⟨m,hm,hl⟩:=I.loc;have hi:nl<=i:=by
   by_cases hi:nl<=i
   .exact hi
   .have z:(Yw cap nl U)[i]?=aa ae:=by
     unfold Yw;rw[bN (by simp;lia),cH,T9 (by lia)]
    rw[z]at e2;cases e2
  have e2':(cap.map λi=>(U[i]?).join)[i-nl]?=aa (aa v):=by
   have:(Yw cap nl U)[i]?=aa (aa v):=e2;unfold Yw at this
   rwa [bu (by simp;exact hi),bV]at this
  rw[aH]at e2';cases hj:cap[i-nl]? with
  |none=>rw[hj]at e2';cases e2'
  |some j=>
   rw[hj]at e2';have hv:U[j]?=aa (aa v):=by
    have:(U[j]?).join=aa v:=ak e2';cases q:U[j]? with
    |none=>rw[q]at this;cases this
    |some o=>rw[q]at this;cases o with|none=>cases this|some w=>cases this;rfl
   obtain⟨x',n1,n2,fr⟩:=CS.capt _ _ hj;have ex:x'=x:=by
    have:N[nl+(i-nl)]?=aa x:=by rw[show nl+(i-nl)=i by lia];exact e1
    rw[n1]at this;exact ak this
   subst ex;have kd:=CS.free _ fr rfl;have vis:Vis X.env.scope x':=by
    rcases kd with z|z
    .exact .inr<|.inl z
    .exact .inr<|.inr z
   obtain⟨u,r,lk⟩:=hl j x' v n2 hv vis;refine#[u,r,?_];rcases lk with⟨k,_⟩|⟨k,c,ec,hc⟩
   .have k':X.env.scope.names.lookup x'=aa .local:=k
    rcases kd with z|z<;>(rw[z]at k';cases k')
   .obtain⟨c',ec'⟩:=c2 x' (.inl fr)
    have ecc:c'=c:=by
     have:=(c1 x' c' ec').elim (λq=>q.2) λq=>T7 fr<|CS.cell _ q.1 rfl
     rw[ec]at this;exact(ak this).symm
    subst ecc;have vis2:Vis (relabel scope X.env) x':=e3;refine .inr #[?_,c',ec',?_]
    .rcases vis2 with z|z|z
     .have z':(scope.names.map λ(n,k)=>if(k == bD&&X.env.scope.kind == .function&&X.env.kindOf n == aa .cell)then(n,cp)else(n,k)).lookup x'=aa .local:=z
      exfalso
      have:∀(names:List (bF×dZ)),(∀y∈names,y.2=dZ.local->y.1≠x')->(names.map λ(n,k)=>if(k == bD&&X.env.scope.kind == .function&&X.env.kindOf n == aa .cell)then(n,cp)else(n,k)).lookup x'≠aa .local:=by
       intro names
       induction names with
       |nil=>intro _ h;cases h
       |cons y r ih=>
        obtain⟨n,k⟩:=y;intro hy h;rw[bf]at h;by_cases e:x'=n
        .subst e
         by_cases c:(k == bD&&X.env.scope.kind == .function&&X.env.kindOf x' == aa .cell)=am
         .simp only[T9 c,bH,beq_self_eq_true]at h;cases h
         .simp only[T8 c,bH,beq_self_eq_true]at h
          exact hy (x',k) al (ak h) rfl
        .have hb:(x' == n)=aj:=beq_eq_false_iff_ne.mpr e
         refine ih (λy hy'=>hy y<|ai _ hy') ?_
         by_cases c:(k == bD&&X.env.scope.kind == .function&&X.env.kindOf n == aa .cell)=am
         .simp only[T9 c,bH,hb]at h;exact h
         .simp only[T8 c,bH,hb]at h;exact h
      refine this scope.names (λy hy hl e=>?_) z'
      have l1:=CS.names y hy hl;rw[e]at l1;exact CS.apart (x',.free) fr rfl l1
     .exact .inl z
     .exact .inr z
    .obtain⟨o,ho,hd⟩:=hc
     exact#[o,hk c' o ho,hd]
 .rcases c1 x c e with q|q
  .obtain⟨v,o,ho,hd⟩:=I.cell x c q.2
   exact#[v,o,hk c o ho,hd]
  .exact#[ae,q.2.2]
 .unfold Yw
  show _=N.length;rw[a7,bV,ay,CS.len]
end
abbrev TEm:=L2.St->Hp->(L2.St->Hp->Prop)->Prop
def vC(X:Cx)(act:mv Fin->mv Fin)(te:TEm):Prop:=
 ∀(pq:List (aL×fb))(s:aw)(U:L2.St)(H:Hp)(Q:L2.St->Hp->Prop)(k:mv Fin)(QF:Fin->aw->Prop)(EE:ap->aw->Prop),Inv X pq U H s->te U H Q->(∀s' σ' H',Inv X pq σ' H' s'->Q σ' H'->aW (aV X.prog X.w) X.A k QF EE s')->
  aW (aV X.prog X.w) X.A (act k) QF EE s
noncomputable def Ja(ipos:iu)(tg:Expr)(ifs:List Expr)(act:mv Fin->mv Fin)(it:ap)(env:Env)(c:Code):mv Fin:=do
 np ipos
 match <-iL it with
 |none=>c0<|.done .next
 |some v=>
  kx tg it v
  assign tg env v
  let mut ok:=am
  for c in ifs do
   if ok then ok <-isTrue c env (cR c env)
  if ok then act (nV c)else nV c
def wS(J:It)(g:TG)(tt:TT)(te:TEm)(W:Nat->Nat->L2.St->Hp->Prop)(Q:L2.St->Hp->Prop):Prop:=∀i m σ' H',W i m σ' H'->
  (J.stop i H'/\Q σ' H')\/(J.go i H'/\∀x H'',J.yld i H' x H''->g x σ' H'' λσ2 H2=>tt σ2 H2 λok H3=>if ok=am then te σ2 H3 λσ3 H4=>∃m',m'<m/\W (i+1) m' σ3 H4 else ∃m',m'<m/\W (i+1) m' σ2 H3)
def yR{tn:Nat->b0->Prop}{Rr:Result->aw->Prop}{Q:L2.St->Hp->Prop}{W:Nat->Nat->L2.St->Hp->Prop}
  (hc:Y.calm=am)(hx:∀a b,Y.xe a b->False)(hT:compTurn e depth (.ref it) acc Y.env=Ja ipos tg ifs act (.ref it) Y.env (.compLoop e depth (.ref it) acc Y.env))(hquiet:(nS e depth (.ref it) acc Y.env).isFrame=aj)
  (hq:(nS e depth (.ref it) acc Y.env).quiet=am)(T:Turn Y.prog Y.w Y.K tg J fp it tn)(hg:PG Y tg g)(ht:PTs Y ifs tt)(he:vC Y act te)(stat:∀{H':Hp},(∀b∈fp,H' b=ae)->∀b∈fp,WD Y pq H' b)
  (turn:wS J g tt te W Q)(fin:∀U H s,Inv Y pq U H s->Q U H->Rr (.ok .next) s)
  (I0:Inv Y pq U H s)(st0:tn 0 s.heap)(fr0:∀b∈fp,H b=ae)(w0:W 0 m U H)(hden:(aV Y.prog Y.w).den (.compLoop e depth (.ref it) acc Y.env)=(compTurn e depth (.ref it) acc Y.env).onRaise (λx=>do noteFrame x Y.env;theTreesLotGoes x))
  (hund:Y.A.under (.compLoop e depth (.ref it) acc Y.env)=Y.A):ki (aV Y.prog Y.w) Y.A (.compLoop e depth (.ref it) acc Y.env) Rr s:=by
 refine codeAny_loop hq (λn s'=>∃i σ' H',Inv Y pq σ' H' s'/\tn i s'.heap/\(∀b∈fp,H' b=ae)/\W i n σ' H') (λn s5 hI=>?_) m #[0,U,H,I0,st0,fr0,w0]
 rw[hund,hden,hT];refine wpAny_noted ?_;obtain⟨i,σ5,H5,I5,st5,fr5,w5⟩:=hI;refine ab<|gq<|ab ?_;rcases turn i n σ5 H5 w5 with⟨stop,qn⟩|⟨go,step⟩
 .refine dg (T.done Y rfl rfl rfl hc i pq s5 σ5 H5 (λ_ _=>False) I5 (stat fr5) st5 stop) (λr s6 #[hr,I6]=>?_) λ_ _ h'=>h'.elim
  subst hr;exact aq<|fin σ5 H5 s6 I6 qn
 .refine dg (T.item Y rfl rfl rfl hc i pq s5 σ5 H5 (λ_ _=>False) I5 (stat fr5) st5 go) (λr s6 #[u,hr,h6]=>?_) λ_ _ h'=>h'.elim
  subst hr;refine ab<|dg h6 (λ_ s7 #[x,H7,I7,r7,y7,st7,fr7]=>?_) λ_ _ h'=>h'.elim
  have I7':=I7.pinned (stat fr7)<|T.obj _ _ st7;have back:∀{σ8:L2.St}{H8:Hp}{s8:aw}{m':Nat},Inv Y (pq++Vm fp s7.heap) σ8 H8 s8->m'<n->W (i+1) m' σ8 H8->∃m,m<n/\∃i σ' H',Inv Y pq σ' H' s8/\tn i s8.heap/\(∀b∈fp,H' b=ae)/\W i m σ' H':=λ{σ8 H8 s8 m'} I8 hm w8=>by
   refine#[m',hm,i+1,σ8,H8,I8.unpinned,T.keep _ _ _ st7 λb hb' o e=>(I8.pin (b,o)<|bC _<|bC _<|YW hb' e).1,λb hb'=>?_,w8]
   obtain⟨o,e,d⟩:=T.obj _ _ st7 b hb';exact(I8.pin (b,o)<|bC _<|bC _<|YW hb' e).2.1
  refine ab<|dg (hg _ s7 σ5 H7 x u _ I7' r7<|step x H7 y7) (λ_ s8 #[σ8,H8,I8,q8]=>?_) λ_ _ h'=>(hx _ _ h').elim
  refine ab<|dg (ht _ s8 σ8 H8 _ I8 q8) (λok s9 #[H9,I9,q9]=>?_) λ_ _ h'=>(hx _ _ h').elim
  cases ok with
  |false=>
   rw[T8 aN]at q9;obtain⟨m',hm,w9⟩:=q9;exact aq #[rfl,back I9 hm w9]
  |true=>
   rw[T9 rfl]at q9;exact he _ s9 σ8 H9 _ _ _ _ I9 q9<|by rintro s10 σ10 H10 I10 ⟨m',hm,w10⟩;exact aq #[rfl,back I10 hm w10]
def Je{Y:Cx}{elt:Expr}{te:TE}{D:aL}(hx:∀a b,Y.xe a b->False)(he:PE Y elt te):vC Y (λk=>(do let _ <-call (.builtin "list.append") [.ref D,<-cR elt Y.env]:mv Unit) >>= λ_=>k) (λU H Q=>te U H λy H4=>∃ys,H4 D=aa (.lst ys)/\ys.length<ba/\Q U (upd H4 D<|.lst<|ys++[y])):=by
 intro pq s U H Q k QF EE I h hk;refine ab ?_;refine ab<|dg (he pq s U H _ I h) (λxv s10 #[y,H10,I10,r10,ys,hDy,hz,q]=>?_) λ_ _ h'=>(hx _ _ h').elim
 refine ab<|dg (Ue pq s10 U H10 (.ref D) [y] (.ref D) [xv] (λv H'=>v=.non/\H'=upd H10 D (.lst<|ys++[y])) I10 rfl (.cons r10 .nil) #[D,ys,y,rfl,rfl,hDy,hz,rfl,rfl]) (λ_ s11 #[v11,H11,I11,_,_,eH]=>?_) λ_ _ h'=>(hx _ _ h').elim
 subst eH;exact aq<|hk _ _ _ I11 q
def Za8(wi:TI)(g:TG)(tt:TT)(te:aL->TEm)(cap:List Nat)(nl:Nat):TE:=λU H Q=>wi U H λJ H1=>∀D,H1 D=ae->∃W:Nat->Nat->L2.St->Hp->Prop,(∃m,W 0 m (Yw cap nl U)<|upd H1 D<|.lst [])/\wS J g tt (te D) W λ_ H'=>Q (.ref D) H'
def ud(wi:TI)(g:TG)(tt:TT)(te:TE)(cap:List Nat)(nl:Nat):TE:=λU H Q=>wi U H λJ H1=>∀D,H1 D=ae->∃W:Nat->Nat->L2.St->Hp->Prop,(∃m,W 0 m (Yw cap nl U)<|upd H1 D<|.lst [])/\∀i m σ' H',W i m σ' H'->
  (J.stop i H'/\Q (.ref D) H')\/(J.go i H'/\∀x H'',J.yld i H' x H''->g x σ' H'' λσ2 H2=>tt σ2 H2 λok H3=>if ok=am then te σ2 H3 λy H4=>∃ys,H4 D=aa (.lst ys)/\ys.length<ba/\∃m',m'<m/\W (i+1) m' σ2 (upd H4 D<|.lst<|ys++[y])else ∃m',m'<m/\W (i+1) m' σ2 H3)
structure Gone(X:Cx)(pq:List (aL×fb))(H:Hp)(s:aw)(C:aL):Prop where
 free:H C=ae
 ns:∃m,s.heap.Ns C m
 loc:C≠X.env.locals
 big:X.s₀.heap.objs.size<=C
 cel:∀x c,X.env.cells.lookup x=aa c->c≠C
 pin:∀p∈X.pn++pq,p.1≠C
def UD{tg iter elt:Expr}{ifs:List Expr}{scope:eA}{pos fpos:iu}{N:List bF}{cap:List Nat}{nl:Nat}{wi:TI}{g:TG}{tt:TT}{te:aL->TEm}{act:ap->Env->mv Fin->mv Fin}{rest:List Comprehension}{pq:List (aL×fb)}{s:aw}{U:L2.St}{H:Hp}{Q:VK}{use:Option (ap->mv Unit)}{QQ:ap->aw->Prop}(hc:X.calm=am)(hN:X.N.Nodup)(CS:CompScope X.env.scope X.N scope N cap nl)(hi:PI X tg iter wi)
  (hT:∀it acc env,compTurn (.ListComp elt (#[tg,iter,ifs,0]::rest) scope pos) 0 it acc env=Ja iter.pos tg ifs (act acc env) it env (.compLoop (.ListComp elt (#[tg,iter,ifs,0]::rest) scope pos) 0 it acc env))
  (hb:∀cl s H fp,PG (cxC X N scope cl s H fp) tg g/\PTs (cxC X N scope cl s H fp) ifs tt/\∀D,vC (cxC X N scope cl s H fp) (act (.ref D) (cxC X N scope cl s H fp).env)<|te D)
  (hs:∀x,c6 iter X.env x=c0 x)(I:Inv X pq U H s)(h:Za8 wi g tt te cap nl U H Q)
  (fin:∀D C H5 s6,Inv X pq U H5 s6->Gone X pq H5 s6 C->Q (.ref D) H5->compPost (aV X.prog X.w) X.A X.xe use QQ (.ref D) C (.ok .next) s6) :
  aW (aV X.prog X.w) X.A (comprehension (.ListComp elt (#[tg,iter,ifs,0]::rest) scope pos) scope X.env fpos (newList []) aj (cR iter X.env) use) QQ X.xe s:=by
 obtain⟨cl,hcl,c1,c2⟩:=GU (scope:=scope) (env:=X.env) λy hy hf=>I.ok.has y.1<|CS.free y hy hf
 refine wpAny_comprehension_free (use:=use) rfl hs hcl CS.kind CS.names ?_;refine thn (hi pq s U H _ I h) λv s1 h1=>thn h1 λitv s2 h2=>?_
 obtain⟨it,fp,tn,J,H2,rfl,I2,T,st2,f2,q2⟩:=h2;obtain⟨W,⟨m0,w0⟩,turn⟩:=q2 s2.heap.objs.size<|I2.hok.fresh<|aA _;refine bo<|Gq ?_
 dsimp only
 have I3:Inv X pq U (upd H2 s2.heap.objs.size<|.lst []) {s2 with heap:=s2.heap.push {cls:=.type "list",dict:=ae,data:=.seq ([]:List ap).toArray},toks:=s2.toks}:=
  I2.laid (λb u e=>au _ e) (aA _) #[cJ _,[],0,.nil,aF _ rfl]
 generalize hD:s2.heap.objs.size=D at I3 w0 turn ⊢;generalize hs3:({s2 with heap:=s2.heap.push {cls:=.type "list",dict:=ae,data:=.seq ([]:List ap).toArray},toks:=s2.toks}:aw)=s3 at I3
 have hh3:s2.heap.push {cls:=.type "list",dict:=ae,data:=.seq ([]:List ap).toArray}=s3.heap:=by rw[<-hs3]
 rw[hh3];have old:∀b o,s2.heap.get? b=aa o->s3.heap.get? b=aa o:=λb o e=>by rw[<-hh3];exact au _ e
 have neD:∀b∈fp,b≠D:=λb hb' e=>by
  obtain⟨o,ho,_⟩:=T.obj _ _ st2 b hb';exact T7 (aC ho) (by rw[e,<-hD];exact bm _)
 have f3:∀b∈fp,WD X pq (upd H2 D<|.lst []) b:=λb hb'=>#[by rw[Zk<|neD b hb'];exact(f2 b hb').1,(f2 b hb').2]
 generalize hh4:mG (s3.heap.push {cls:=.type "dict",data:=.dict #[]}) scope.names=h₁;have keep4:∀b o,s3.heap.get? b=aa o->h₁.get? b=aa o:=λb o e=>by rw[<-hh4];exact kA _ _ b o<|au _ e
 have hns₁:∃m,h₁.Ns s3.heap.objs.size m:=#[_,by rw[<-hh4];exact(b0.Ns.new s3.heap<|.type "dict").keeps<|kA _ _]
 have lt3:∀x c,cl.lookup x=aa c->c<s3.heap.objs.size+1:=λx c e=>by
  obtain⟨v,q⟩:=I3.cell x c<|c1 x c e;exact c8 q.lt
 have c3:=Wq scope.names _ cl lt3 λx y c h1 h2=>I.ok.inj x y c (c1 x c h1)<|c1 y c h2
 have c2':∀x,(x,bD)∈scope.names\/(x,cp)∈scope.names->∃c,(dG (s3.heap.objs.size+1) scope.names cl).lookup x=aa c:=λx hx=>Wr _ _ _<|hx.imp (c2 x) λh=>h
 have c1':∀x c,(dG (s3.heap.objs.size+1) scope.names cl).lookup x=aa c->((x,cp)∉scope.names/\X.env.cells.lookup x=aa c)\/((x,cp)∈scope.names/\s3.heap.objs.size<=c/\h₁.IsCell c ae):=λx c e=>by
  rw[<-cK s3.heap {cls:=.type "dict",data:=.dict #[]}]at e;refine(WH (lo:=s3.heap.objs.size) _ _ _ (by rw[cK];exact mR _) e).imp (λq=>#[q.1,c1 x c q.2]) λq=>?_
  rw[hh4]at q;exact q
 generalize dG (s3.heap.objs.size+1) scope.names cl=cl at c1' c2' c3;have I4:=uN (tk:=s2.toks) I3 CS hN c1' c2' c3 f3 (λb hb'=>let #[o,ho,_]:=T.obj _ _ st2 b hb';#[o,old b o ho]) hns₁ keep4
 have e4:({s3 with heap:=h₁,toks:=s2.toks}:aw)={s2 with heap:=h₁,toks:=s2.toks}:=by rw[<-hs3]
 rw[e4]at I4;obtain⟨hg,ht,he⟩:=hb cl s3 (upd H2 D<|.lst []) fp;generalize hY:cxC X N scope cl s3 (upd H2 D<|.lst []) fp=Y at I4 hg ht he;have yP:Y.prog=X.prog:=by rw[<-hY];rfl
 have stat:∀{H':Hp},(∀b∈fp,H' b=ae)->∀b∈fp,WD Y [] H' b:=λhn b hb'=>by
  subst hY;refine#[hn b hb',λe=>?_,λhm=>?_,.inl hb',λx c e=>(c1' x c e).elim (λq=>(f3 b hb').2.2.2.2.1 x c q.2) λq z=>?_,λp hp=>T7 hp (by simp[cxC])]
  .obtain⟨o,ho,_⟩:=T.obj _ _ st2 b hb'
   have:=aC<|old b o ho;rw[e]at this;exact T7 this<|bm _
  .rcases az.mp (I3.stkSub b hm)with e|e
   .exact(f3 b hb').2.1 e
   .exact(f3 b hb').2.2.1 e
  .obtain⟨o,ho,_⟩:=T.obj _ _ st2 b hb'
   have:=aC<|old b o ho;rw[<-z]at this;exact T7 q.2.1<|Nat.not_le.mpr this
 subst hY
 let Y:=cxC X N scope cl s3 (upd H2 D<|.lst []) fp
 have st4:tn 0 h₁:=T.keep _ _ _ st2 λb hb' o e=>keep4 b o<|old b o e
 have fr4:∀b∈fp,upd H2 D (HO.lst []) b=ae:=λb hb'=>(f3 b hb').1
 have loop:ki (aV X.prog X.w) X.A (.compLoop (.ListComp elt (#[tg,iter,ifs,0]::rest) scope pos) 0 (.ref it) (.ref D)<|compEnvC scope cl s3.heap.objs.size X.env)
   (compPost (aV X.prog X.w) X.A X.xe use QQ (.ref D) s3.heap.objs.size) {s2 with heap:=h₁,toks:=s2.toks}:=by
  refine yR (Y:=cxC X N scope cl s3 (upd H2 D<|.lst []) fp) (pq:=[]) (W:=W) (Q:=λ_ H'=>Q (.ref D) H') hc (λ_ _ z=>z) (hT _ _ _) rfl rfl T hg ht (he D) stat turn (λσ5 H5 s6 I6 qn=>?_) I4 st4 fr4 w0 rfl rfl
  obtain⟨m6,hn6,_⟩:=I6.loc;have u:=I6.base;have IX:Inv X pq U H5 s6:=Inv.call' (s':=s6) (ch:=fp) I3 I6.os #[u.keep,u.slot,u.free,u.there,u.tups,u.frzs,u.tbls] I6.hok I6.bare λb hb'=>#[(f3 b hb').2.2.2.1,(f3 b hb').2.1,(f3 b hb').2.2.2.2.1,λp hp e=>(f3 b hb').2.2.2.2.2 p hp e]
  refine fin D s3.heap.objs.size H5 s6 IX #[I6.free,#[m6,hn6],Ne.symm<|bi I3.lt,I3.sz,λx c e z=>?_,λp hp z=>?_] qn
  .obtain⟨v,q⟩:=I3.cell x c e
   exact T7 q.lt (by rw[z];exact bm _)
  .exact T7 (aC (I3.pin p hp).1) (by rw[z];exact bm _)
 subst hs3;exact codeAny_compStart_list loop<|T.self _ 0 _ _ _ st4 loop
def Gone.inv(G:Gone X pq H s C)(I:Inv X pq U H s)(hsb:dD C s.heap h'):Inv X pq U H {s with heap:=h' }:=
 I.turned (t':=s.toks) (λb o hb e=>(hsb.2 b hb).trans e) G.free G.loc (.inr G.big) G.cel G.pin
def Zed(te:TE)(D:aL):TEm:=λU H Q=>te U H λy H4=>∃ys,H4 D=aa (.lst ys)/\ys.length<ba/\Q U (upd H4 D<|.lst<|ys++[y])
def js(hc:X.calm=am)(hN:X.N.Nodup)(CS:CompScope X.env.scope X.N scope N cap nl)(hi:PI X tg iter wi)
  (hb:∀cl s H fp,PG (cxC X N scope cl s H fp) tg g/\PTs (cxC X N scope cl s H fp) ifs tt/\PE (cxC X N scope cl s H fp) elt te)
  (hs:∀x,c6 iter X.env x=c0 x:=by intro _;rfl):PE X (.ListComp elt [#[tg,iter,ifs,0]] scope pos) (ud wi g tt te cap nl):=by
 intro pq s U H Q I h;rw[eval_ListComp];refine UD (act:=λacc env k=>(do let _ <-call (.builtin "list.append") [acc,<-cR elt env]:mv Unit) >>= λ_=>k) hc hN CS hi (λ_ _ _=>rfl) (λcl s H fp=>#[(hb cl s H fp).1,(hb cl s H fp).2.1,λD=>Je (λ_ _ z=>z) (hb cl s H fp).2.2]) hs I h λD C H5 s6 I6 G q=>?_
 obtain⟨m6,hn6⟩:=G.ns;exact#[m6,hn6,λh' hsb=>#[.ref D,H5,G.inv I6 hsb,rfl,q]]
def wx(hc:X.calm=am)(hN:X.N.Nodup)(CS:CompScope X.env.scope X.N scope N cap nl)(hi:PI X tg iter wi)
  (hb:∀cl s H fp,PG (cxC X N scope cl s H fp) tg g/\PTs (cxC X N scope cl s H fp) ifs tt/\PE (cxC X N scope cl s H fp) elt te)
  (hsw:iW (.ListComp elt [#[tg,iter,ifs,0]] scope pos) (aa<|.Name y py) spos.line X.env=c0 am)
  (hy:X.N[i]?=aa y)(hx:L2.Loc X.env.scope y)(hf:X.fn y=am\/X.env.scope.names.lookup y=aa .local)
  (hs:∀x,c6 iter X.env x=c0 x:=by intro _;rfl):PS X (.Assign [.Name y py] (.ListComp elt [#[tg,iter,ifs,0]] scope pos) spos) (λD U H=>ud wi g tt te cap nl U H λv H1=>D.nx (U.set i<|aa v) H1):=by
 intro pq s U H D I h;rw[exec_Assign_Name_used _ _ _ _ hsw];refine ab<|gq<|ab ?_;refine ab<|dg (UD (Q:=λv H1=>D.nx (U.set i<|aa v) H1) (act:=λacc env k=>(do let _ <-call (.builtin "list.append") [acc,<-cR elt env]:mv Unit) >>= λ_=>k) hc hN CS hi (λ_ _ _=>rfl) (λcl s H fp=>#[(hb cl s H fp).1,(hb cl s H fp).2.1,λD=>Je (λ_ _ z=>z) (hb cl s H fp).2.2]) hs I h λA C H5 s6 I6 G q=>?_) (λ_ s' hq=>aq<|aq hq) λ_ _ e=>e
 refine lN<|UQ (v:=V.ref A) I6 hN hy hx rfl (λs7 I7 #[a,hsb,ha]=>?_) hf
 have hCa:C≠a:=by
  rcases ha with e|e
  .rw[e];exact G.loc
  .exact Ne.symm<|G.cel y a e
 obtain⟨m6,hn6⟩:=G.ns;have G7:Gone X pq H5 s7 C:=#[G.free,#[m6,hn6.sameBut hsb hCa],G.loc,G.big,G.cel,G.pin];exact#[m6,hn6.sameBut hsb hCa,λh' hs'=>#[U.set i<|aa<|.ref A,H5,G7.inv I7 hs',q]]
open Ev (E Sm Fn Bop Cop Ty Bf Mf)
section
variable{X:Cx}{xw:Nat->Hp->Prop}{C:Calls}{e a b c tg it:Expr}{i j k:E}{pos p p' p2:iu}
structure CTs(X:Cx)(xw:Nat->Hp->Prop)(C:Calls)(ifs:List Expr)(is:List E):Prop where
 h:PTs X ifs (tB3 X xw<|Pv.pvt C is)
def PTs.imp{X:Cx}{e:List Expr}{t t':TT}(h:PTs X e t)(k:∀U H Q,t' U H Q->t U H Q):PTs X e t':=λpq s U H Q I q=>h pq s U H Q I<|k U H Q q
def jP:CTs X xw C [] []:=.mk <| PTs.imp jo<|by rintro U H Q ⟨O,l,S,st,lr,h⟩;exact End.ok (h) st rfl
def uZ(U:Lc)(S:Zn):Pv.pvt C [i] U S=Pv.Xz C i U S:=by
 show((Pv.pv C i U S).bind λx S=>(Pv.po (Pv.Zj x) S).bind λb S=>if b then Pv.pvt C [] U S else .ok aj S)=(Pv.pv C i U S).bind λx S=>Pv.po (Pv.Zj x) S
 congr 1
 funext x S
 cases Pv.Zj x with|none=>rfl|some b=>cases b<;>rfl
def jY(h:CT X xw C c i):CTs X xw C [c] [i]:=.mk <| PTs.imp (jz h.h)<|by rintro U H Q ⟨O,l,S,st,lr,h⟩;exact #[O,l,S,st,lr,by rw[<-uZ];exact h]
def LocR.caught(lr:LocR O H l U)(cap:List Nat)(nl:Nat):LocR O H (Pv.ZP cap nl l) (Yw cap nl U):=by
 refine#[by unfold Pv.ZP Yw;simp,λn d e=>?_]
 unfold Pv.ZP at e;by_cases hn:n<nl
 .rw[bN (by simp;exact hn),cH,T9 hn]at e
  cases e
 .rw[bu (by simp;omega),bV,aH]at e
  unfold Yw;rw[bu (by simp;omega),bV,aH]
  cases q:cap[n-nl]? with
  |none=>rw[q]at e;cases e
  |some m=>
   rw[q]at e;have e':(l[m]?).join=aa d:=ak e;have:l[m]?=aa (aa d):=by
    cases z:l[m]? with
    |none=>rw[z]at e';cases e'
    |some o=>rw[z]at e';cases o with|none=>cases e'|some w=>cases e';rfl
   obtain⟨v,hv,r⟩:=lr.val m d this;exact#[v,by show aa ((U[m]?).join)=_;rw[hv];rfl,r]
noncomputable def Mx.at(O:Mx)(A:aL):Mx:=#[O.K,O.n0,λa=>O.X a\/a=A,λa h=>.inl<|O.xz a h]
def Y8(O:Mx)(A:aL)(H H':Hp):Prop:=∀a o,a≠A->H a=aa o->H' a=aa o\/(O.n0=aa a/\∃xs,o=.lst xs)\/((∃ps,o=.tbl ps)/\∃ps,H' a=aa (.tbl ps))
def Y8.trans(f:Y8 O A H H1)(g:Y8 O A H1 H2):Y8 O A H H2:=λa o n h=>(f a o n h).elim (g a o n) λz=>z.elim (λz=>.inr<|.inl z)<|by
 rintro ⟨e,ps,h⟩;rcases g a _ n h with q|⟨_,xs,q⟩|⟨_,q⟩
 .exact .inr<|.inr #[e,ps,q]
 .cases q
 .exact .inr<|.inr #[e,q]
def Y8.of(f:Fut (O.at A) H ρ' H1):Y8 O A H H1:=λa o _ h=>f.keep a o h
structure CI(K:ao)(O:Mx)(A:aL)(acc:List D)(l:Lc)(U:L2.St)(H:Hp)(S:Zn):Prop where
 st:St3 K (O.at A) S H
 lr:LocR (O.at A) H l U
 ac:∃us,H A=aa (.lst us)/\Rq (O.at A) H acc us
section
variable{K:ao}{O:Mx}{A:aL}{acc:List D}{l l':Lc}{U:L2.St}{H H':Hp}{S S':Zn}
def Y8.lat(f:Y8 O A H H')(ha:H A=aa (.lst us)):Lat (O.at A) H (O.at A) H':=#[rfl,rfl,λa o h x n _=>by
 by_cases c:a=A
 .subst c;rw[ha]at h;cases h;exact T7 (.inr rfl)<|x us rfl
 .rcases f a o c h with z|⟨z,xs,e⟩|⟨⟨ps,e⟩,_⟩
  .exact z
  .exact T7 (.inl<|O.xz a z)<|x xs e
  .exact T7 e<|n ps,λ_ _ x=>x]
theorem CI.mono(h:CI K O A acc l U H S)(na:O.n0≠aa A)(f:Fut (O.at A) H ρ' H')(st:St3 K (O.at A) S' H'):CI K O A acc l U H' S':=by
 obtain⟨us,e,r⟩:=h.ac;cases f.eq;exact#[st,h.lr.mono f,us,(f.keep A _ e).elim id λz=>z.elim (λz=>T7 z.1 na)<|by rintro ⟨⟨_,z⟩,_⟩;exact (by cases z),r.mono f]
def Zb7{Q:L2.St->Hp->Prop}(lr:LocR O H l U)(r:Rep O H d v)(e:Pv.Ze t d l=aa l')(q:∀σ',LocR O H l' σ'->Q σ' H):tGU K t v U H Q:=by
 have fill:∀{t:List Nat}{vs:List D}{us:List V}{l l':Lc}{U:L2.St},LocR O H l U->Rq O H vs us->Pv.Yz t vs l=aa l'->us.length=t.length/\LocR O H l' (Vn t us U):=λ{t}=>by
  induction t with
  |nil=>intro vs us l l' U h r e;cases vs with|nil=>rw[r];cases e;exact#[rfl,h]|cons _ _=>cases e
  |cons i t ih=>intro vs us l l' U h r e;cases vs with
   |nil=>cases e
   |cons v vs=>
    obtain⟨d,ds,rfl,a,b⟩:=r;obtain⟨z,q⟩:=ih (h.set i a) b e;exact#[by rw[aO,aO,z],q]
 have gen:∀t:List Nat,(match Pv.wJ d with
   |some xs=>Pv.Yz t xs l
   |none=>ae)=aa l'->∃a xs,v=.ref a/\(SqT K H a xs\/H a=aa (.lst xs))/\xs.length=t.length/\Q (Vn t xs U) H:=by
  intro t e;cases d with|tup vs=>obtain⟨p,ds,rfl,hp,rs⟩:=r.tup';obtain⟨z,y⟩:=fill lr rs e;exact#[p,ds,rfl,.inl<|SqT.of hp,z,q _ y]|lst vs=>obtain⟨p,ds,rfl,hp,_,rs⟩:=r.lst';obtain⟨z,y⟩:=fill lr rs e;exact#[p,ds,rfl,.inr hp,z,q _ y]|_=>cases e
 match t,e with
 |[i],e=>cases e;exact q _<|lr.set i r
 |[],e=>exact gen [] e
 |i::j::t,e=>exact gen (i::j::t) e
theorem Us:∀{t:List Nat}{vs:List D}{l l':Lc},Pv.Yz t vs l=aa l'->l'.length=l.length/\∀j,j∉t->l'[j]?=l[j]?
 |[],[],l,l',h=>by cases h;exact#[rfl,λ_ _=>rfl]
 |[],_::_,_,_,h=>by cases h
 |_::_,[],_,_,h=>by cases h
 |i::t,v::vs,l,l',h=>by
  obtain⟨a,b⟩:=Us (t:=t) h;exact#[by rw[a,bx],λj hj=>by rw[b j λz=>hj<|ai _ z,aY λz=>hj (by rw[z];exact al ..)]]
def Jj(e:Pv.Ze t v l=aa l'):l'.length=l.length/\∀j,j∉t->l'[j]?=l[j]?:=by
 have gen:∀t:List Nat,(match Pv.wJ v with
   |some xs=>Pv.Yz t xs l
   |none=>ae)=aa l'->l'.length=l.length/\∀j,j∉t->l'[j]?=l[j]?:=λt e=>by
  cases q:Pv.wJ v with|none=>rw[q]at e;cases e|some xs=>rw[q]at e;exact Us e
 match t,e with
 |[i],e=>cases e;exact#[bx ..,λj hj=>aY λz=>hj (by rw[z];exact al ..)]
 |[],e=>exact gen [] e
 |i::j::t,e=>exact gen (i::j::t) e
def LocR.back(e:Pv.Ze t v l=aa l')(hn:∀i∈t,∀d,l[i]?≠aa (aa d))(lr:LocR O H l' U):LocR O H l U:=by
 obtain⟨a,b⟩:=Jj e;exact#[by rw[<-a];exact lr.len,λi d q=>lr.val i d (by rw[b i λz=>hn i z d q];exact q)]
end
noncomputable def ZaD(C:Calls)(t:List Nat)(is:List E)(G:Lc->Zn->R (List D))(l:Lc)(x:D)(S:Zn):R (List D):=(Pv.po (Pv.Ze t x l) S).bind λl S=>(Pv.pvt C is l S).bind λb S=>if b then G l S else .ok [] S
def QP{B β:Type}{r:R B}{f:B->Zn->R β}{b:β}{S:Zn}(h:r.bind f=.ok b S):∃a S1,r=.ok a S1/\f a S1=.ok b S:=by
 cases r with|ok a S1=>exact#[a,S1,rfl,h]|ex _ _=>cases h|no=>cases h
def yI(h:Pv.mapP f (x::w) S=.ok rs S2):∃y S1 zs,f x S=.ok y S1/\Pv.mapP f w S1=.ok zs S2/\rs=y++zs:=by
 rw[Pv.mapP]at h;split at h
 .split at h
  .cases h;exact#[_,_,_,‹_›,‹_›,rfl]
  .cases h
 .cases h
def Zdp(K:ao)(O:Mx)(A:aL)(P:Lc->Prop)(te:TEm)(G:Lc->Zn->R (List D)):Prop:=∀acc l U H S ys S2 QQ,P l->CI K O A acc l U H S->G l S=.ok ys S2->(acc++ys).length<=Ev.lim->(∀σ3 H3,Y8 O A H H3->CI K O A (acc++ys) l σ3 H3 S2->QQ σ3 H3)->te U H QQ
def vx{O ρw:Mx}{A:aL}{Hw:Hp}{w:List D}{J:It}(r:WRel X.K ρw Hw w J)(na:O.n0≠aa A){t:List Nat}{is:List E}{te:TEm}{G:Lc->Zn->R (List D)}{P:Lc->Prop}(em:Zdp X.K O A P te G){l:Lc}(hn:∀i∈t,∀d,l[i]?≠aa (aa d))(hP:∀x l2,Pv.Ze t x l=aa l2->P l2){acc ys:List D}{U:L2.St}{H:Hp}{S S2:Zn}{QQ:L2.St->Hp->Prop}
  (hl:∀H',Y8 O A H H'->Lat ρw Hw (O.at A) H')(c:CI X.K O A acc l U H S)(h:Pv.mapP (ZaD C t is G l) w S=.ok ys S2)(hz:(acc++ys).length<=Ev.lim)(k:∀σ3 H3,Y8 O A H H3->CI X.K O A (acc++ys) l σ3 H3 S2->QQ σ3 H3) :
  ∃W:Nat->Nat->L2.St->Hp->Prop,(∃m,W 0 m U H)/\wS J (tGU X.K t) (tB3 X nx<|Pv.pvt C is) te W QQ:=by
 refine#[λn m σ' H'=>m=w.length-n/\n<=w.length/\Y8 O A H H'/\∃ac rs S',ac++rs=acc++ys/\Pv.mapP (ZaD C t is G l) (w.drop n) S'=.ok rs S2/\CI X.K O A ac l σ' H' S',#[w.length,rfl,cJ _,λ_ _ _ h=>.inl h,acc,ys,S,rfl,h,c],?_]
 rintro n m σ' H' ⟨rfl,hn',ff,ac,rs,S',ea,e',c'⟩
 have lat:=hl H' ff;by_cases hlt:n<w.length
 .right
  rw[bX hlt]at e';obtain⟨y1,S1,r1,q1,q2,rfl⟩:=yI e';obtain⟨go,yl⟩:=r.go n _ S' H' lat c'.st hlt;refine#[go,λx H3 y=>?_]
  obtain⟨f3,st3,rp⟩:=yl x H3 y;have rx:=rp _<|af hlt;obtain⟨l2,Sa,ha,q1⟩:=QP q1;obtain⟨b,Sb,hb,q1⟩:=QP q1;have hal:Pv.Ze t w[n] l=aa l2/\Sa=S':=by
   cases z:Pv.Ze t w[n] l<;>rw[z]at ha<;>cases ha;exact#[rfl,rfl]
  obtain⟨hal,rfl⟩:=hal;have ff3:=ff.trans<|Y8.of f3;have c3:=c'.mono na f3 st3;refine Zb7 c3.lr rx hal λσ2 lr2=>#[O.at A,l2,Sa,st3,lr2,?_]
  rw[hb];intro ρ4 H4 b' f4 st4 eb;have eb:=eb;subst eb;cases f4.eq;have ff4:=ff3.trans<|Y8.of f4;have c4:=c3.mono na f4 st4;cases b with
  |false=>
   rw[T8 aN]at q1 ⊢;cases q1;exact#[w.length-(n+1),by omega,rfl,hlt,ff4,ac,r1,_,ea,q2,c4.st,(lr2.mono f4).back hal hn,c4.ac]
  |true=>
   rw[T9 rfl]at q1 ⊢;refine em ac l2 σ2 H4 Sb y1 S1 _ (hP _ _ hal) #[c4.st,lr2.mono f4,c4.ac] q1 ?_ λσ3 H5 f5 c5=>#[w.length-(n+1),by omega,rfl,hlt,ff4.trans f5,ac++y1,r1,S1,by rw[bp];exact ea,q2,c5.st,c5.lr.back hal hn,c5.ac]
   rw[<-ea]at hz;simp only[a7]at hz ⊢;omega
 .left
  have en:n=w.length:=by omega
  subst en;rw[dJ]at e';cases e';rw[cg]at ea;subst ea;exact#[r.stop _ _ H' lat c'.st,k σ' H' ff c']
def ZaU{O:Mx}{A:aL}(na:O.n0≠aa A)(ie:E):Zdp X.K O A (λ_=>True) (Zed (tE X nx<|Pv.pv C ie) A) (λl S=>(Pv.pv C ie l S).bind λy S=>.ok [y] S):=λacc l U H S ys S2 QQ _ c h hz k=>by
 obtain⟨y,S1,hy,h⟩:=QP h;cases h;refine#[O.at A,l,S,c.st,c.lr,?_];rw[hy];intro ρ4 H4 v f4 st4 r4;cases f4.eq;have c4:=c.mono na f4 st4;obtain⟨us,e,r⟩:=c4.ac;rw[a7]at hz;have hz:acc.length+1<=Ev.lim:=hz;have fa:Y8 O A H4 (upd H4 A<|.lst<|us++[v]):=λa o n h=>.inl (by rw[Zk n];exact h)
 have lt:=fa.lat e;refine#[us,e,by rw[r.length,<-XN];omega,k U _ ((Y8.of f4).trans fa) #[#[st4.hk,λb x=>?_,λb x=>?_,st4.tb.upd (λo u z=>by rw[e]at z;cases z) λ_ z=>by cases z],#[c4.lr.len,λi d q=>let #[u,a,b]:=c4.lr.val i d q;#[u,a,b.lat lt]],_,Zz,(r.lat lt).append<|Rq.cons (r4.lat lt) Rq.nil]]
 .by_cases z:b=A
  .rw[z,Zz];intro q;cases q
  .rw[Zk z];exact st4.xd b x
 .rw[Zk λz=>na (by rw[<-z];exact x)];exact st4.dw b x
def qO(st:St3 X.K O S H)(lr:LocR O H l U)(hA:H A=ae):O.n0≠aa A/\CI X.K O A [] l U (upd H A<|.lst []) S/\∀H',Y8 O A (upd H A<|.lst []) H'->Fut O H O H'/\Lat O H (O.at A) H':=by
 have ne:∀a,H a≠ae->a≠A:=λa h z=>h<|z▸hA
 have f:∀H',Y8 O A (upd H A<|.lst []) H'->Fut O H O H'/\Lat O H (O.at A) H':=λH' g=>by
  have f:Fut O H O H':=#[rfl,λa o h=>g a o (ne a<|by rw[h];intro z;cases z) (by rw[Zk<|ne a (by rw[h];intro z;cases z)];exact h)]
  exact#[f,rfl,rfl,f.lat.keep',λa h x=>x.elim id λz=>T7 z<|ne a h]
 have s:=st.fresh (o:=.lst []) hA;obtain⟨f1,lt⟩:=f _ λ_ _ _ h=>.inl h
 refine#[λz=>st.xd A (O.xz A z) hA,#[#[s.hk,λb x=>x.elim (s.xd b) λz=>(by rw[z,Zz];intro q;cases q),s.dw,s.tb],#[lr.len,λi d q=>let #[u,a,b]:=lr.val i d q;#[u,a,b.lat lt]],[],Zz,Rq.nil],f]
def xh{l:Lc}{cap:List Nat}{nl i:Nat}(h:i<nl)(v:D):(Pv.ZP cap nl l)[i]?≠aa (aa v):=by
 unfold Pv.ZP;rw[bN (by simpa using h),cH,T9 h]
 intro z;cases z
def vo(f0:Fut O H0 O H)(hA:H A=ae)(st:St3 X.K O S H)(f:Fut O H O H')(c:CI X.K O A ys l U H' S')(h:End X.K nx (XM am H0) O H Q (.ok (.lst ys) S')):Q (.ref A) H':=by
 obtain⟨us,e,r⟩:=c.ac;have lt:Lat (O.at A) H' O H':=#[rfl,rfl,λ_ _ h _ _ _=>h,λ_ _ x=>.inl x]
 refine h O H' _ f #[c.st.hk,λb x=>c.st.xd b<|.inl x,c.st.dw,c.st.tb] #[Wh e (st.nx hA)<|r.lat lt,λ_ _ _=>#[A,rfl,f0.new hA st.xd]]
def w4{K:ao}{rep:Mx->Hp->D->V->Prop}{O:Mx}{H:Hp}{Q:VK}{r:R (List D)}(h:End K xw rep O H Q (r.bind λys s=>if ys.length<=Ev.lim then Pv.PR.ok (.lst ys) s else .no).nox):∃ys S,r=.ok ys S/\ys.length<=Ev.lim/\End K nx rep O H Q (.ok (.lst ys) S):=by
 cases r with
 |no=>exact h.elim
 |ex c S=>exact h.elim
 |ok ys S=>
  have h:=End.nox h
  obtain⟨hl,h⟩:=End.guard h;exact#[ys,S,rfl,hl,h]
def Ge{is:List E}{ie:E}{cap:List Nat}{nl:Nat}{w:Ev.W}{t:List Nat}{U:L2.St}{H:Hp}{Q:VK}(hyp:tF X xw (Pv.pv C<|.comp1 cap nl t w is ie) U H Q):ud (tW3 X xw<|Pv.pvw C w) (tGU X.K t) (tB3 X nx<|Pv.pvt C is) (tE X nx<|Pv.pv C ie) cap nl U H Q:=by
 obtain⟨O,l,S,st,lr,h⟩:=hyp;rw[Pv.pv]at h;obtain⟨ho,h⟩:=End.guard h;refine#[O,l,S,st,lr,h.bind λwk S1 ρ1 H1 J f1 st1 r1 h1=>λA hA=>?_]
 cases f1.eq;obtain⟨ys,S2,hm,hl,h1⟩:=w4 h1;obtain⟨na,ci,ft⟩:=qO st1 ((lr.mono f1).caught cap nl) hA;exact vx r1 na (ZaU na ie) (λi hi d=>xh (T6<|a8.mp ho i hi) d) (λ_ _ _=>dM) (λH' f=>(ft H' f).2) ci hm hl λσ3 H3 f3 c3=>vo f1 hA st1 (ft H3 f3).1 c3 h1
def wd{elt:Expr}{ifs:List Expr}{is:List E}{ie:E}{scope:eA}{N:List bF}{cap:List Nat}{nl:Nat}{w:Ev.W}{t:List Nat}(hc:X.calm=am)(hN:X.N.Nodup)(CSc:CompScope X.env.scope X.N scope N cap nl)(hi:CW X xw C tg it w)
  (hb:∀cl s H fp,CG (cxC X N scope cl s H fp) tg t/\CTs (cxC X N scope cl s H fp) nx C ifs is/\CE (cxC X N scope cl s H fp) nx C elt ie)
  (hs:∀x,c6 it X.env x=c0 x):CF X xw C (.ListComp elt [#[tg,it,ifs,0]] scope pos) (.comp1 cap nl t w is ie):=.mk <|
 PE.imp (js (g:=tGU X.K t) (tt:=tB3 X nx<|Pv.pvt C is) (te:=tE X nx<|Pv.pv C ie) hc hN CSc hi.h (λcl s H fp=>have#[a,b,c]:=hb cl s H fp;#[a.h,b.h,c.h]) hs) λU H Q hyp=>Ge hyp
def v5{fr:Bool}{ns:List Nat}{elt:Expr}{ifs:List Expr}{is:List E}{ie:E}{scope:eA}{N:List bF}{cap:List Nat}{nl:Nat}{w:Ev.W}{t:List Nat}{n:Nat}{y:bF}{spos py:iu}(hc:X.calm=am)(hN:X.N.Nodup)(CSc:CompScope X.env.scope X.N scope N cap nl)(hi:CW X xw C tg it w)
  (hb:∀cl s H fp,CG (cxC X N scope cl s H fp) tg t/\CTs (cxC X N scope cl s H fp) nx C ifs is/\CE (cxC X N scope cl s H fp) nx C elt ie)
  (hsw:iW (.ListComp elt [#[tg,it,ifs,0]] scope pos) (aa<|.Name y py) spos.line X.env=c0 am)
  (hy:X.N[n]?=aa y)(hx:L2.Loc X.env.scope y)(hf:X.fn y=am\/X.env.scope.names.lookup y=aa .local)
  (hs:∀x,c6 it X.env x=c0 x):CS X xw fr C ns (.Assign [.Name y py] (.ListComp elt [#[tg,it,ifs,0]] scope pos) spos) (.asg [n]<|.comp1 cap nl t w is ie):=.mk <|
 PS.imp (wx (g:=tGU X.K t) (tt:=tB3 X nx<|Pv.pvt C is) (te:=tE X nx<|Pv.pv C ie) hc hN CSc hi.h (λcl s H fp=>have#[a,b,c]:=hb cl s H fp;#[a.h,b.h,c.h]) hsw hy hx hf hs)<|by rintro D U H ⟨O,H0,W,l,os,S,st,en,h⟩;exact Ge<|Zdh st en h
end
theorem LocR.start(r:Rq O H ds vs)(N:List bF)(n:Nat)(hn:n=N.length):LocR O H (Pv.ZK n ds) (L2.start N vs):=by
 subst hn;have hl:=r.length;refine#[by unfold Pv.ZK L2.start;simp[hl],λi d e=>?_]
 unfold Pv.ZK at e;by_cases hi:i<ds.length
 .rw[bN (by simpa using hi),aH]at e
  cases q:ds[i]? with
  |none=>rw[q]at e;cases e
  |some d'=>
   rw[q]at e;cases e;obtain⟨v,hv,r'⟩:=r.get q;refine#[v,?_,r'];unfold L2.start;rw[bN (by simp;lia),aH,hv]
   rfl
 .rw[bu (by simp;lia),cH]at e
  split at e<;>cases e
theorem Eu.start{K:ao}{O:Mx}{H:Hp}{S:Zn}{ds:List D}{vs:List V}(st:St3 K O S H)(r:Rq O H ds vs)(N:List bF)(n:Nat)(hn:n=N.length):Eu O H (λ_=>ae) (Pv.ZK n ds) [] (L2.start N vs) H:=by
 have lr:=LocR.start r N n hn;refine#[Fut.refl _ _,st.xd,lr.len,λ_=>rfl,λ_ _ _ h=>?_,λ_ _ h=>?_,λ_ _ h=>?_,λi d e _=>?_]
 .cases h
 .cases h
 .cases h
 .obtain⟨v,a,b⟩:=lr.val i d e
  exact#[v,a,Rep.lat (O:=O) (ρ':=O.ex λ_=>ae) #[rfl,rfl,λ_ _ h _ _ _=>h,λ_ _ x=>Or.elim x id λ#[_,z]=>by cases z] b]
section
variable{P:bE}{w:bR}{K:ao}{mg:bF->Option ap}{base:b0}
noncomputable def Q4(C:Calls)(fn:Fn)(ds:List D)(S:Zn):R D:=if ds.length=fn.ps then(Pv.rvs C (Pv.muts fn.body) fn.body (Pv.ZK fn.ns ds) [] S).bind λf S=>match f with
  |.ret x=>.ok x S
  |.nx _ _=>.ok .non S
  |_=>.no
 else .no
def xW{C:Calls}{fn:Fn}{fr:Bool}{xw:Nat->Hp->Prop}{O:Mx}{H:Hp}{ds:List D}{S:Zn}{Q:VK}{E:L2.Ends}(hE:∀v H',Q v H'->E.rt v H')(hN:∀U H',Q .non H'->E.nx U H')(h:End K xw (XM fr H) O H Q (Q4 C fn ds S)):ZB fr K xw O H E (Pv.rvs C (Pv.muts fn.body) fn.body (Pv.ZK fn.ns ds) [] S):=by
 obtain⟨_,h⟩:=End.guard h;cases q:Pv.rvs C (Pv.muts fn.body) fn.body (Pv.ZK fn.ns ds) [] S with
 |no=>rw[q]at h;exact h
 |ex c S2=>rw[q]at h;exact λH' f st=>h O H' f st
 |ok fl S2=>
  rw[q]at h;cases fl with|ret x=>exact λH' v f st r=>hE v H'<|h O H' v f st r|nx l os=>exact λH' σ' W' st en=>hN σ' H'<|h O H' .non en.fut st #[zT,λ_ _ z=>by cases z]|brk l os=>exact False.elim h|cnt l os=>exact False.elim h
def ui{C C':Calls}{n:Nat}{fn:Fn}{fr:Bool}{x qual:bF}{st:fw}{f:aL}{fd:cT}{N ps:List bF}{k:Nat}(hF:∀O S H ds vs,St3 K O S H->Rq O H ds vs->C' n ds S=.no\/C' n ds S=Q4 C fn ds S)(hns:fn.ns=N.length)(hps:fn.ps=ps.length)(Fu:Fun K x qual st f fd)(S:FnScope N ps (Zu st))
  (hb:∀(cdv:ap)(A:cQ)(outer:List Env)(s:aw)(H:Hp)(E:XK),Room k (A.deeper<|gU qual (Zu st) s.heap.objs.size f cdv)->
   CSs (Js CX0 P w K mg base N qual (Zu st) f cdv A outer s H E).nox (λ_ _=>False) fr C (Pv.muts fn.body) (Z8 st) fn.body) :
  FnOk P w K mg base CX0 (k+1) f fd ps (spF K C' fr n):=by
 have eq:∀{O S H ds vs Q},St3 K O S H->Rq O H ds vs->End K (λ_ _=>False) (XM fr H) O H Q (C' n ds S)->End K (λ_ _=>False) (XM fr H) O H Q (Q4 C fn ds S):=λ{O S H ds vs Q} st r h=>by
  rcases hF O S H ds vs st r with e|e
  .rw[e]at h;exact h.elim
  .rw[e]at h;exact h
 refine Fu.ok S (λvs H Q E #[O,ds,S,st,r,h]=>?_) λcdv A outer s H vs Q E hr #[O,ds,S',st,r,h]=>#[_,(hb cdv A outer s H E hr).h,O,H,λ_=>ae,Pv.ZK fn.ns ds,[],S',st,Eu.start st r N fn.ns hns,xW (λ_ _ q=>q) (λ_ _ q=>q)<|eq st r h]
 have h:=eq st r h;unfold Q4 at h;obtain⟨hl,_⟩:=End.guard h;rw[r.length,hl,hps]
def zj{F:List Fn}{tk n k:Nat}{fr:Bool}{f:aL}{fd:cT}{ps:List bF}:FnOk P w K mg base CX0 k f fd ps (spF K (Pv.Zg F tk 0) fr n):=
 #[λvs H Q E #[O,ds,S,st,r,h]=>False.elim h,by rintro A outer s H args us vs Q E hr e0 hb r ⟨O,ds,S,st,r',h⟩;exact False.elim h]
end
section
variable{prog:bE}{w:bR}{A:cQ}{E:ap->aw->Prop}{s:aw}
theorem xx(n:Nat):cr ((n:Int)-1) (-1) (-1)=n:=by
 unfold cr;have h1:¬((-1:Int)>0):=by decide
 rw[T8 h1];by_cases h:(n:Int)-1 > -1
 .rw[T9 h,show(- -1:Int)=1 by decide,Int.ediv_one]
  lia
 .rw[T8 h]
  lia
def Ww{sl:aL}{vk:ap}{n:Nat}{Q:Int×Int×Nat->aw->Prop}(hs:s.heap.IsSliceOf sl .none .none vk)(pk:gW vk (aa<|-1))
  (h:Q ((n:Int)-1,-1,n) s):aW (aV prog w) A (gY (.ref sl)<|c0 (n:Int)) Q E s:=by
 obtain⟨os,hos,hcs,hds⟩:=id hs;refine ab<|ab<|cq hos hds rfl<|ab<|cq hos hds rfl<|ab<|cq hos hds rfl<|aq ?_;refine ab<|HT.XH pk ?_;show aW _ _ (if((-1:Int) == 0)=am then _ else _) _ _ s
 rw[T8 (by decide)]
 refine ab<|gX<|ab<|gX<|ab<|aq ?_;show aW _ _ (c0 ((n:Int)-1,(-1:Int),cr ((n:Int)-1) (-1)<|-1)) _ _ s;rw[xx];exact aq h
theorem xP(xs:Array ap):((aK xs.size).filterMap λ(k:Nat)=>xs[((xs.size:Int)-1+(k:Int) * -1).toNat]?).toArray=xs.toList.reverse.toArray:=by
 congr 1
 have e:(aK xs.size).filterMap (λ(k:Nat)=>xs[((xs.size:Int)-1+(k:Int) * -1).toNat]?)=((aK xs.size).map λk=>xs.size-1-k).filterMap (xs[·]?):=by
  rw[lE]
  congr 1
  funext k
  have:((xs.size:Int)-1+(k:Int) * -1).toNat=xs.size-1-k:=by lia
  rw[this];rfl
 rw[e,PySem.W.krv_range,List.filterMap_reverse,PySem.W.krv_all]
def X5{Q:ap->aw->Prop}(ht:nU s.heap t items)(hs:s.heap.IsSliceOf sl .none .none vk)(pk:gW vk (aa<|-1))
  (h:Q (.ref s.heap.objs.size) {s with heap:=s.heap.push {cls:=.type "tuple",data:=.seq items.toList.reverse.toArray}})
  (hsz:items.size<=ba):aW (aV prog w) A (iD (.ref t)<|.ref sl) Q E s:=by
 have htake:sizeOk (.seq items.toList.reverse.toArray):=by
  show items.toList.reverse.toArray.size<=ba;rw[ax,fz,aE];exact hsz
 obtain⟨os,hos,hcs,hds⟩:=id hs;have hTs:s.TypeIs (.ref sl) "slice":=#[os,hos,hcs];unfold iD
 try with_reducible refine bJ ?_
 first|refine ab<|aq ?_|skip
 refine ab<|iE ht.typeIs (by decide) ?_
 refine ab (bW ht.typeIs b9
  (bQ b9 ht.typeIs gO ?_<|gZ _ _))
 show aW _ _ (eU (.ref t) >>= _) _ _ s;refine ab<|lh ht ?_;refine ab<|gP hTs ?_;rw[T9 (by decide)]
 refine ab<|Ww hs pk ?_;have hno:¬(((items.size:Int)-1 == 0&&(-1:Int) == 1&&items.size == items.size)=am):=by
  intro q;rw[aG,aG]at q;exact T7 q.1.2 (by decide)
 show aW _ _ (if((items.size:Int)-1 == 0&&(-1:Int) == 1&&items.size == items.size)=am then _ else _) _ _ s
 rw[T8 hno,xP]
 first
  |exact ab<|bo (aq #[_,rfl,aq h]) htake
  |exact ab<|bo (ab<|aq<|aq #[_,rfl,aq h]) htake
  |exact ab<|ab<|bo (aq<|aq #[_,rfl,aq h]) htake
  |exact ab<|ab<|bo (aq #[_,rfl,aq h]) htake
end
section
variable{X:Cx}{xw:Nat->Hp->Prop}{C:Calls}{e a b c tg it:Expr}{i j k:E}{pos p p' p2 p3:iu}{q1:Option bF}
def Zb2{e1:Expr}(ha:CE X xw C a i)(h1:CE X xw C e1 (.neg<|.c<|.int 1)):CE X xw C (.Subscript a (.Slice ae ae (aa e1) p2) pos) (.rev i):=.mk <| by
 intro pq s U H Q I hq;obtain⟨O,l,S,st,lr,h⟩:=hq;have h':=h
 refine nA<|thn (ha.h pq s U H (λx H1=>∃ρ1 S1 d,St3 X.K ρ1 S1 H1/\LocR ρ1 H1 l U/\Rep ρ1 H1 d x/\End X.K xw Rep ρ1 H1 Q (Pv.po (Pv.Zcy d) S1)) I #[O,l,S,st,lr,h'.bind λd S1 ρ1 H1 v f1 st1 r1 h1=>#[ρ1,S1,d,st1,lr.mono f1,r1,h1]]) λv s1 #[x,H1,I1,r1,ρ1,S1,d,st1,lr1,rd,h2]=>?_
 refine wpAny_Slice ?_;rw[lj];refine aq<|aq ?_;rw[evalPart_some];refine thn (h1.h pq s1 U H1 (λy H2=>y=.int (-1)/\∃ρ2,Fut ρ1 H1 ρ2 H2/\St3 X.K ρ2 S1 H2) I1 #[ρ1,l,S1,st1,lr1,λρ2 H2 y f2 st2 ry=>#[ry.int',ρ2,f2,st2]]) λvk s2 #[y,H2,I2,ry,ey,ρ2,f2,st2]=>?_
 subst ey;obtain⟨t,rfl⟩:=ry;have rd2:=rd.mono f2;have h3:=End.mono f2 h2;cases d with
 |tup ds=>
  obtain⟨q,xs,rfl,hp,rs⟩:=rd2.tup';cases r1;have I4:Inv X pq U H2 {s2 with heap:=s2.heap.push {cls:=.type "slice",data:=.fields [.none,.none,.int (-1) t].toArray}}:=I2.kept (t':=s2.toks) λb ob q=>au _ q
  obtain⟨its,r,ht,hz⟩:=I4.tuple<|SqT.of hp;have hlen:its.toArray.size=xs.length:=by rw[ax];exact r.length.symm
  refine tail_any ht.typeIs b9.lookup ?_ (by with_unfolding_all rfl)
  refine X5 ht (lG ..) (gW.int _ _) ?_ (by rw[hlen];exact hz)
  refine#[.ref _,_,I4.laid (t':=s2.toks) (o:=.tup xs.reverse) (λb ob q=>au _ q) (aA _) #[by rw[fz];exact hz,_,r.reverse,gS _ _],rfl,h3.newT st2 rs.reverse _<|I4.hok.fresh<|aA _]
 |_=>exact False.elim h3
end
def JH{a b c}:aM (.Constant a b c::es) env=(aj,cR (.Constant a b c) env)::aM es env:=rfl
def zI{a b}:aM (.Name a b::es) env=(aj,cR (.Name a b) env)::aM es env:=rfl
def xL{a b c}:aM (.Tuple a b c::es) env=(aj,cR (.Tuple a b c) env)::aM es env:=rfl
def wR{a b}:aM (.List a b::es) env=(aj,cR (.List a b) env)::aM es env:=rfl
def yg{a b c}:aM (.Dict a b c::es) env=(aj,cR (.Dict a b c) env)::aM es env:=rfl
def wy{a b c d}:aM (.BinOp a b c d::es) env=(aj,cR (.BinOp a b c d) env)::aM es env:=rfl
def Zaz{a b c}:aM (.UnaryOp a b c::es) env=(aj,cR (.UnaryOp a b c) env)::aM es env:=rfl
def x9{a b c d}:aM (.Compare a b c d::es) env=(aj,cR (.Compare a b c d) env)::aM es env:=rfl
def vY{a b c}:aM (.Subscript a b c::es) env=(aj,cR (.Subscript a b c) env)::aM es env:=rfl
def zM{a b c d}:aM (.Call a b c d::es) env=(aj,cR (.Call a b c d) env)::aM es env:=rfl
def zq{a b c d}:aM (.ListComp a b c d::es) env=(aj,cR (.ListComp a b c d) env)::aM es env:=rfl
def YJ:List fe->List (Int×Int)->Prop
 |[],[]=>True
 |e::r,(k,j)::q=>(∃t,e.key=.int k t)/\e.hash=n4 k/\(∃u,e.val=.int j u)/\YJ r q
 |_,_=>False
theorem YJ.mem :∀{es:List fe}{tab:List (Int×Int)},YJ es tab->∀e∈es,∃k,(eC P w).is k e.key=am/\e.hash=(eC P w).hash k
 |[],_,_,e,h=>by cases h
 |e::r,[],h,_,_=>h.elim
 |e::r,(k,j)::q,h,x,hx=>by
  obtain⟨⟨t,h1⟩,h2,_,h4⟩:=h;rcases az.mp hx with rfl|hx
  .exact#[k,by rw[h1];exact gh P w k t,h2]
  .exact YJ.mem h4 x hx
theorem YJ.find(k:Int):∀{es:List fe}{tab:List (Int×Int)},YJ es tab->(tab.lookup k=ae->(es.find? λe=>(eC P w).is k e.key)=ae)/\∀j,tab.lookup k=aa j->∃e t,(es.find? λe=>(eC P w).is k e.key)=aa e/\e.val=.int j t
 |[],[],_=>#[λ_=>rfl,λj h=>by cases h]
 |[],_::_,h=>h.elim
 |e::r,[],h=>h.elim
 |e::r,(k',j')::q,h=>by
  obtain⟨⟨t,h1⟩,h2,⟨u,h3⟩,h4⟩:=h;obtain⟨i1,i2⟩:=YJ.find k h4;rw[bH,dU];have hd:(eC P w).is k e.key=ag (k=k'):=KeyKind.is_eq_decide (by rw[h1];exact gh P w k' t) k
  rw[hd];by_cases z:k=k'
  .subst z
   rw[beq_self_eq_true,T5 rfl];exact#[λz=>(by cases z),λj z=>(by cases z;exact#[e,u,rfl,h3])]
  .rw[beq_eq_false_iff_ne.mpr z,T4 z]
   exact#[i1,i2]
def qK{P:bE}{w:bR}{K:ao}{a:aL}{es:Array fe}{n:Nat}{tab:List (Int×Int)}(hl:K.lookup a=aa #[.type "dict",ae,.dict es n,#[]])(ht:YJ es.toList tab)(ha:(a == cI)=aj):ZcC P w K a tab:=by
 refine#[ha,λk=>findBy (eC P w).is es k,λh X=>#[_,es,n,X _ _ hl,#[rfl,rfl,rfl],rfl,λe he=>ht.mem e<|kL.mpr he,λ_=>rfl],λk=>?_]
 obtain⟨l⟩:=es;obtain⟨i1,i2⟩:=YJ.find k ht;refine#[λz=>?_,λj z=>?_]
 .show((l.toArray.find? λe=>(eC P w).is k e.key).map (·.val))=ae
  rw[lJ,i1 z];rfl
 .obtain⟨e,t,q1,q2⟩:=i2 j z
  refine#[t,?_];show((l.toArray.find? λe=>(eC P w).is k e.key).map (·.val))=_
  rw[lJ,q1];exact congrArg aa q2
def hu7(hr:Room k A):A.units+7<dq:=Nat.lt_of_le_of_lt (by lia) hr.un
def uy{K:ao}{C:Calls}{n:Nat}{H:Hp}{a:aL}{ns:List Int}(hO:Only H)(hS:SqL K H a (ns.map V.int))(h:∀s,∃S',C n [.scr ns] s=.ok (.bl am) S'):spF K C aj n [.ref a] H (λv _=>v=.bl am) λ_ _ _=>False:=by
 obtain⟨S',e⟩:=h (0,aj);have sc:Scr K H a ns:=by
  rcases hS with(hS|hS)|hS
  .rcases hO a with z|⟨o,xs,z⟩
   .rw[z]at hS;cases hS
   .rw[z]at hS;cases hS
  .exact .inl hS
  .exact .inr hS
 refine#[#[K,ae,λ_=>False,λ_ h=>by cases h],[.scr ns],(0,aj),#[rfl,λ_ h=>h.elim,λ_ h=>(by cases h),λP ps e=>by rcases hO P with z|⟨_,_,z⟩<;>(rw[z]at e;cases e)],Rq.cons (by unfold Rep;exact#[a,rfl,sc]) Rq.nil,?_]
 rw[e];exact λρ' H' v _ _ r=>r.1.bl'
end Sd
namespace Sd
open PySem PySem.Spec PyProof.Rows L2
def Src(b:Bool)(h:b0)(it l:aL)(k:Nat):Prop:=match b with
 |true=>h.IsListIter it l k
 |false=>h.IsTupleIter it l k
def Yn(b:Bool)(h:b0)(l:aL)(xs:Array ap):Prop:=match b with
 |true=>h.IsList l xs
 |false=>h.IsTuple l xs
def Src.ext(x:Src b h it l k)(e:gy c h h')(n:it≠c):Src b h' it l k:=by
 cases b
 .exact b0.IsTupleIter.extBut x e n
 .exact b0.IsListIter.extBut x e n
def Src.keep(x:Src b h it l k)(e:∀o,h.get? it=aa o->h'.get? it=aa o):Src b h' it l k:=by
 cases b
 .obtain⟨o,ho,r⟩:=x;exact#[o,e o ho,r]
 .obtain⟨o,ho,r⟩:=x;exact#[o,e o ho,r]
def Src.obj(x:Src b h it l k):∃o,h.get? it=aa o/\∀v,o.data≠.cell v:=by
 cases b
 .obtain⟨o,ho,_,d⟩:=x;exact#[o,ho,λv z=>by rw[d]at z;cases z]
 .obtain⟨o,ho,_,d⟩:=x;exact#[o,ho,λv z=>by rw[d]at z;cases z]
def Yn.keep(x:Yn b h l xs)(e:∀o,h.get? l=aa o->h'.get? l=aa o):Yn b h' l xs:=by
 cases b
 .obtain⟨o,ho,r⟩:=x;exact#[o,e o ho,r]
 .obtain⟨o,ho,r⟩:=x;exact#[o,e o ho,r]
def xZ{Q:ap->aw->Prop}(hit:s.heap.IsTupleIter it t i)(ht:s.heap.IsTuple t items)(hx:items[i]?=aa x)
  (hQ:∀h',h'.IsTupleIter it t (i+1)->dD it s.heap h'->Q x {s with heap:=h' }):aW (aV prog w) A (dS<|.ref it) Q E s:=by
 obtain⟨o,ho,hc,hd⟩:=id hit;obtain⟨ol,hol,_,nl,hdl⟩:=ht;refine ab<|bW hit.typeIs dN<|bQ dN hit.typeIs gQ ?_<|gI _;show aW _ _ (field (.ref it) 0 >>= _) _ _ s;refine ab<|cq ho hd rfl ?_;show aW _ _ (if(cx t == bh)=am then _ else _) _ _ s
 rw[T8 (by exact aN)];refine ab<|cq ho hd rfl ?_
 refine ab<|dO hol hdl ?_;simp only[c9,hx];refine ab<|ej ho hd (by simp)<|aq #[x,rfl,aq<|hQ _ #[_,de _ ho<|eL<|cY hd _,(fW ..).trans hc,?_]<|cB ..]
 rw[cY hd];simp[eT]
def UZ{Q:ap->aw->Prop}(hh:A.handled=ae)(hit:s.heap.IsTupleIter it t i)(ht:s.heap.IsTuple t items)(hx:items[i]?=ae)
  (hE:∀h' e,gy it s.heap h'->(∃o,h'.get? e=aa o/\o.cls=.type "StopIteration")->E (.ref e) {s with heap:=h' }):aW (aV prog w) A (dS<|.ref it) Q E s:=by
 obtain⟨o,ho,hc,hd⟩:=id hit;obtain⟨ol,hol,_,nl,hdl⟩:=ht;refine ab<|bW hit.typeIs dN<|bQ dN hit.typeIs gQ ?_<|gI _;show aW _ _ (field (.ref it) 0 >>= _) _ _ s;refine ab<|cq ho hd rfl ?_;show aW _ _ (if(cx t == bh)=am then _ else _) _ _ s
 rw[T8 (by exact aN)];refine ab<|cq ho hd rfl ?_
 refine ab<|dO hol hdl ?_;simp only[c9,hx];refine ab<|eW<|ab<|ej ho hd (by simp) ?_;show aW _ _ (n8 (.type "StopIteration") [] >>= _) _ _ _
 refine ab ?_;simp only[n8,newTuple];refine ab<|bo ?_ (by size_fits)
 refine ab (eX (by first|rfl|(simp only[hU];rfl))<|bo ?_ (by size_fits))
 simp only[raiseNew];refine ab<|lm ?_;first|rw[hh]|rw[hh]
 exact ab<|aq<|mT<|hE _ _ (((cB ..).extBut.push _).push _) #[_,aF _ rfl,rfl]
def Wc{Q:ap->aw->Prop}(hit:Src b s.heap it l k)(hl:Yn b s.heap l xs)(hx:xs[k]?=aa x)
  (hQ:∀h',Src b h' it l (k+1)->dD it s.heap h'->Q x {s with heap:=h' }):aW (aV prog w) A (dS<|.ref it) Q E s:=by
 cases b
 .exact xZ hit hl hx hQ
 .exact wpAny_nextOf_list_item hit hl hx hQ
def Qn{Q:ap->aw->Prop}(hh:A.handled=ae)(hit:Src b s.heap it l k)(hl:Yn b s.heap l xs)(hx:xs[k]?=ae)
  (hE:∀h' e,gy it s.heap h'->(∃o,h'.get? e=aa o/\o.cls=.type "StopIteration")->E (.ref e) {s with heap:=h' }):aW (aV prog w) A (dS<|.ref it) Q E s:=by
 cases b
 .exact UZ hh hit hl hx hE
 .exact wpAny_nextOf_list_end hh hit hl hx hE
noncomputable def Yi(b:Bool)(l:aL):fb:={cls:=.type (if b then "list_iterator" else "tuple_iterator"),data:=.fields [.ref l,.int 0 0].toArray}
def VB{Q:ap->aw->Prop}(hl:Yn b s.heap l xs)(h:Q (.ref s.heap.objs.size) {s with heap:=s.heap.push (Yi b l)}):aW (aV prog w) A (lB<|.ref l) Q E s:=by
 cases b
 .exact fJ hl h
 .exact eO hl h
structure ZipSt(b1 b2:Bool)(z TI TO i1 i2 l1 l2:aL)(k:Nat)(f0:ap)(h:b0):Prop where
 zp:mU h z TI TO f0
 ti:kr h TI (.ref i1) (.ref i2)
 to:∃a b,kr h TO a b
 s1:Src b1 h i1 l1 k
 s2:Src b2 h i2 l2 k
def vX{b1 b2:Bool}{z TI TO i1 i2 l1 l2:aL}{k:Nat}{xs ys:Array ap}{x y:ap}{Q:ap->aw->Prop}(D:kP z TI TO i1 i2 l1 l2)(Z:ZipSt b1 b2 z TI TO i1 i2 l1 l2 k .none s.heap)(hl1:Yn b1 s.heap l1 xs)(hl2:Yn b2 s.heap l2 ys)(hx:xs[k]?=aa x)(hy:ys[k]?=aa y)
  (hQ:∀h',ZipSt b1 b2 z TI TO i1 i2 l1 l2 (k+1) (eT s.heap.objs.size) h'->kr h' s.heap.objs.size x y->(∀c o,c∉[z,TO,i1,i2]->s.heap.get? c=aa o->h'.get? c=aa o)->Q (.ref s.heap.objs.size) {s with heap:=h' }) :
  aW (aV prog w) A (db.«zip.__next__» #[[.ref z],[]]) (λfin s'=>∃v,fin=.done (.ret v)/\Q v s') E s:=by
 obtain⟨hz,hTI,⟨a,b,hTO⟩,h1,h2⟩:=Z;show aW _ _ (field (.ref z) 2 >>= _) _ _ _;refine ab<|cq hz rfl (x:=.bool aj) rfl ?_;refine ab<|cq hz rfl (x:=.ref TI) rfl<|ab<|dO hTI rfl ?_;refine ab ?_;refine ab<|cq hz rfl (x:=.none) rfl<|aq ?_;simp only[if_true];refine ab<|eW<|ab<|cq hz rfl (x:=.ref TO) rfl<|ab<|dP hz (by simp) λh₁ hz₁ hs₁=>?_
 replace hz₁:mU h₁ z TI TO .ellipsis:=by exact hz₁
 refine ab ?_;simp only[i6,m5,gH,kQ];refine ab<|ab<|iP ?_;refine ab<|Wc (h1.ext hs₁.extBut D.i1z) (hl1.keep λo e=>hs₁.extBut _ o D.l1z e) hx λh₂ h1₂ hs₂=>aq ?_
 have hTO₂:kr h₂ TO a b:=by exact hs₂.extBut _ _ D.TOi1<|hs₁.extBut _ _ D.TOz hTO
 refine ab<|dO hTO₂ rfl<|ab<|gz hTO₂ λh₃ hTO₃ hs₃=>?_
 replace hTO₃:kr h₃ TO x b:=by exact hTO₃
 refine ab<|mV<|aq<|ab<|ab<|iP ?_;have to3:∀c o,c≠z->c≠TO->c≠i1->s.heap.get? c=aa o->h₃.get? c=aa o:=λc o c1 c2 c3 e=>hs₃.extBut _ _ c2<|hs₂.extBut _ _ c3<|hs₁.extBut _ _ c1 e
 refine ab<|Wc (h2.keep λo e=>to3 _ o D.i2z D.TOi2.symm D.i12.symm e) (hl2.keep λo e=>to3 _ o D.l2z D.l2TO D.l2i1 e) hy λh₄ h2₄ hs₄=>aq ?_
 have hTO₄:kr h₄ TO x b:=by exact hs₄.extBut _ _ D.TOi2 hTO₃
 refine ab<|dO hTO₄ rfl<|ab<|gz hTO₄ λh₅ hTO₅ hs₅=>?_
 replace hTO₅:kr h₅ TO x y:=by exact hTO₅
 refine ab<|mV<|aq<|aq<|ab<|dO hTO₅ rfl<|ab<|wpAny_newTuple ?_;have hsz:h₅.objs.size=s.heap.objs.size:=by rw[hs₅.1,hs₄.1,hs₃.1,hs₂.1,hs₁.1]
 have to5:=λc o c1 c2 c3 c4 e=>hs₅.extBut _ _ c2<|hs₄.extBut _ _ c4<|to3 c o c1 c2 c3 e
 have hz₅:mU h₅ z TI TO .ellipsis:=by exact hs₅.extBut _ _ D.TOz.symm<|hs₄.extBut _ _ D.i2z.symm<|hs₃.extBut _ _ D.TOz.symm<|hs₂.extBut _ _ D.i1z.symm hz₁
 have h1₅:Src b1 h₅ i1 l1 (k+1):=((h1₂.ext hs₃.extBut D.TOi1.symm).ext hs₄.extBut D.i12).ext hs₅.extBut D.TOi1.symm;have h2₅:Src b2 h₅ i2 l2 (k+1):=h2₄.ext hs₅.extBut D.TOi2.symm;have zl:z<h₅.objs.size:=aC hz₅;refine ab ?_;have hz₆:mU (h₅.push {cls:=.type "tuple",data:=.seq [x,y].toArray}) z TI TO .ellipsis:=by exact au _ hz₅
 refine ab<|dP hz₆ (by simp) λh₇ hz₇ hs₇=>?_
 replace hz₇:mU h₇ z TI TO (eT h₅.objs.size):=by exact hz₇
 refine dP hz₇ (by simp) λh₈ hz₈ hs₈=>aq #[_,rfl,?_]
 replace hz₈:mU h₈ z TI TO (eT h₅.objs.size):=by exact hz₈
 have up:∀c o,c≠z->h₅.get? c=aa o->h₈.get? c=aa o:=λc o c1 e=>by exact hs₈.extBut _ _ c1<|hs₇.extBut _ _ c1<|au _ e
 have hT₈:kr h₈ h₅.objs.size x y:=by exact hs₈.extBut _ _ (fc zl)<|hs₇.extBut _ _ (fc zl)<|aF _ rfl
 show Q (.ref h₅.objs.size) _;rw[hsz]at hz₈ hT₈ ⊢;refine hQ h₈ #[hz₈,up _ _ D.TIz<|to5 _ _ D.TIz D.TITO D.TIi1 D.TIi2 hTI,#[x,y,up _ _ D.TOz hTO₅],h1₅.keep λo e=>up _ o D.i1z e,h2₅.keep λo e=>up _ o D.i2z e] hT₈ λc o hc e=>?_
 simp only[az,ck,or_false,not_or]at hc;exact up c o hc.1<|to5 c o hc.1 hc.2.1 hc.2.2.1 hc.2.2.2 e
def V6{b1 b2:Bool}{z TI TO i1 i2 l1 l2:aL}{k:Nat}{xs ys:Array ap}{Q:Fin->aw->Prop}(hh:A.handled=ae)(D:kP z TI TO i1 i2 l1 l2)(Z:ZipSt b1 b2 z TI TO i1 i2 l1 l2 k .none s.heap)(hl1:Yn b1 s.heap l1 xs)(hl2:Yn b2 s.heap l2 ys)(hend:xs[k]?=ae\/ys[k]?=ae)
  (hE:∀h' e,(∀c o,c∉[z,TO,i1,i2]->s.heap.get? c=aa o->h'.get? c=aa o)->(∃o,h'.get? e=aa o/\o.cls=.type "StopIteration")->E (.ref e) {s with heap:=h' }) :
  aW (aV prog w) A (db.«zip.__next__» #[[.ref z],[]]) Q E s:=by
 obtain⟨hz,hTI,⟨a,b,hTO⟩,h1,h2⟩:=Z;have hk:∀{c:aL},c∉[z,TO,i1,i2]->c≠z/\c≠TO/\c≠i1/\c≠i2:=λhc=>by
  simp only[az,ck,or_false,not_or]at hc;exact hc
 show aW _ _ (field (.ref z) 2 >>= _) _ _ _;refine ab<|cq hz rfl rfl ?_;refine ab<|cq hz rfl (x:=.ref TI) rfl<|ab<|dO hTI rfl ?_;refine ab ?_;refine ab<|cq hz rfl (x:=.none) rfl<|aq ?_;simp only[if_true];refine ab<|eW<|ab<|cq hz rfl (x:=.ref TO) rfl<|ab<|dP hz (by simp) λh₁ hz₁ hs₁=>?_
 replace hz₁:mU h₁ z TI TO .ellipsis:=by exact hz₁
 refine ab ?_;simp only[i6,m5,gH,kQ];refine ab<|ab<|iP ?_;have l1₁:=hl1.keep λo e=>hs₁.extBut _ o D.l1z e
 cases hx:xs[k]? with
 |none=>
  refine ab<|Qn hh (h1.ext hs₁.extBut D.i1z) l1₁ hx λh₂ e hs₂ he=>?_
  obtain⟨oe,hoe,hce⟩:=he;have hz₂:mU h₂ z TI TO .ellipsis:=by exact hs₂ _ _ D.i1z.symm hz₁
  have hez:e≠z:=λx=>by subst x;rw[hz₂]at hoe;cases hoe;simp at hce
  exact dP hz₂ (by simp) λh₃ _ hs₃=>hE h₃ e (λc o hc x=>hs₃.extBut _ _ (hk hc).1<|hs₂ _ _ (hk hc).2.2.1<|hs₁.extBut _ _ (hk hc).1 x) #[oe,hs₃.extBut _ _ hez hoe,hce]
 |some x=>
  have hy:ys[k]?=ae:=by rcases hend with q|q;rw[hx]at q;cases q;exact q
  refine ab<|Wc (h1.ext hs₁.extBut D.i1z) l1₁ hx λh₂ h1₂ hs₂=>aq ?_
  have hTO₂:kr h₂ TO a b:=by exact hs₂.extBut _ _ D.TOi1<|hs₁.extBut _ _ D.TOz hTO
  refine ab<|dO hTO₂ rfl<|ab<|gz hTO₂ λh₃ hTO₃ hs₃=>?_
  refine ab<|mV<|aq<|ab<|ab<|iP ?_;have to3:∀c o,c≠z->c≠TO->c≠i1->s.heap.get? c=aa o->h₃.get? c=aa o:=λc o c1 c2 c3 e=>hs₃.extBut _ _ c2<|hs₂.extBut _ _ c3<|hs₁.extBut _ _ c1 e
  refine ab<|Qn hh (h2.keep λo e=>to3 _ o D.i2z D.TOi2.symm D.i12.symm e) (hl2.keep λo e=>to3 _ o D.l2z D.l2TO D.l2i1 e) hy λh₄ e hs₄ he=>?_
  obtain⟨oe,hoe,hce⟩:=he;have hz₄:mU h₄ z TI TO .ellipsis:=by exact hs₄ _ _ D.i2z.symm<|hs₃.extBut _ _ D.TOz.symm<|hs₂.extBut _ _ D.i1z.symm hz₁
  have hez:e≠z:=λx=>by subst x;rw[hz₄]at hoe;cases hoe;simp at hce
  exact dP hz₄ (by simp) λh₅ _ hs₅=>hE h₅ e (λc o hc x=>hs₅.extBut _ _ (hk hc).1<|hs₄ _ _ (hk hc).2.2.2<|to3 c o (hk hc).1 (hk hc).2.1 (hk hc).2.2.1 x) #[oe,hs₅.extBut _ _ hez hoe,hce]
def GH{b1 b2:Bool}{z TI TO i1 i2 l1 l2:aL}{k:Nat}{xs ys:Array ap}{x y:ap}{Q:Option ap->aw->Prop}(D:kP z TI TO i1 i2 l1 l2)(Z:ZipSt b1 b2 z TI TO i1 i2 l1 l2 k .none s.heap)(hl1:Yn b1 s.heap l1 xs)(hl2:Yn b2 s.heap l2 ys)(hx:xs[k]?=aa x)(hy:ys[k]?=aa y)
  (hQ:∀h',ZipSt b1 b2 z TI TO i1 i2 l1 l2 (k+1) (eT s.heap.objs.size) h'->kr h' s.heap.objs.size x y->(∀c o,c∉[z,TO,i1,i2]->s.heap.get? c=aa o->h'.get? c=aa o)->Q (aa<|.ref s.heap.objs.size) {s with heap:=h' }) :
  aW (aV prog w) A (iL<|.ref z) Q E s:=by
 have hT:s.TypeIs (.ref z) "zip":=#[_,Z.zp,rfl];exact ab<|gv<|bW hT gJ<|bQ gJ hT mH (vX D Z hl1 hl2 hx hy λh' a1 a2 a3=>aq<|hQ h' a1 a2 a3)<|md _
def Vu{b1 b2:Bool}{z TI TO i1 i2 l1 l2:aL}{k:Nat}{xs ys:Array ap}{Q:Option ap->aw->Prop}(hh:A.handled=ae)(D:kP z TI TO i1 i2 l1 l2)(Z:ZipSt b1 b2 z TI TO i1 i2 l1 l2 k .none s.heap)(hl1:Yn b1 s.heap l1 xs)(hl2:Yn b2 s.heap l2 ys)(hend:xs[k]?=ae\/ys[k]?=ae)
  (hQ:∀h',(∀c o,c∉[z,TO,i1,i2]->s.heap.get? c=aa o->h'.get? c=aa o)->Q ae {s with heap:=h' }):aW (aV prog w) A (iL<|.ref z) Q E s:=by
 have hT:s.TypeIs (.ref z) "zip":=#[_,Z.zp,rfl];refine ab<|gv<|bW hT gJ<|bQ gJ hT mH (V6 hh D Z hl1 hl2 hend λh' e hk he=>?_)<|md _
 obtain⟨o,ho,hc⟩:=he;exact ab<|gj #[o,ho,hc] kR<|aq<|hQ _ hk
noncomputable def zH1(h:b0)(b1:Bool)(l1:aL):b0:=h.push<|Yi b1 l1
noncomputable def zH2(h:b0)(b1 b2:Bool)(l1 l2:aL):b0:=(zH1 h b1 l1).push<|Yi b2 l2
noncomputable def zH3(h:b0)(b1 b2:Bool)(l1 l2:aL):b0:=(zH2 h b1 b2 l1 l2).push {cls:=.type "tuple",data:=.seq [.ref h.objs.size,.ref (zH1 h b1 l1).objs.size].toArray}
noncomputable def zH4(h:b0)(b1 b2:Bool)(l1 l2:aL):b0:=(zH3 h b1 b2 l1 l2).push {cls:=.type "tuple",data:=.seq [.none,.none].toArray}
noncomputable def zH5(h:b0)(b1 b2:Bool)(l1 l2:aL):b0:=(zH4 h b1 b2 l1 l2).push {cls:=.type "zip",data:=.fields [.none,.bool aj,.bool aj,.ref (zH2 h b1 b2 l1 l2).objs.size,.ref (zH3 h b1 b2 l1 l2).objs.size].toArray}
def qg(b1 b2:Bool)(l1 l2:aL)(xs ys:Array ap) :
  nE (db.«zip.__new__» #[[.type "zip",.ref l1,.ref l2],[]]) (λ_ R s=>Yn b1 s.heap l1 xs/\Yn b2 s.heap l2 ys/\R (.ok<|.ret<|.ref (zH4 s.heap b1 b2 l1 l2).objs.size) {s with heap:=zH5 s.heap b1 b2 l1 l2}):=
 .of_wp λprog w A R s h=>by
  obtain⟨hp,g,d,tk,os⟩:=s;obtain⟨hl1,hl2,h⟩:=h;have hsub:=sub_zip;have hL1:=hl1;have hL2:Yn b2 (aw.heap #[hp.push<|Yi b1 l1,g,d,tk,os]) l2 ys:=hl2.keep λo e=>au _ e
  wp_walk using VB hL1,VB hL2
  exact#[_,rfl,h]
def wl{Q:ap->aw->Prop}(hl1:Yn b1 s.heap l1 xs)(hl2:Yn b2 s.heap l2 ys)
  (h:∀h' n,n=s.heap.objs.size->ZipSt b1 b2 (n+4) (n+2) (n+3) n (n+1) l1 l2 0 .none h'->(∀c o,s.heap.get? c=aa o->h'.get? c=aa o)->Q (.ref<|n+4) {s with heap:=h' }) :
  aW (aV prog w) A (call (.type "zip") [.ref l1,.ref l2]) Q E s:=by
 refine callType_new F.called_zip (by decide) (F.typeCall_zip_2 _ _) (F.newCall_zip_2 _ _) (λobj=>F.args_object_init_3 obj _ _) F.entry_zip_new (qg b1 b2 l1 l2 xs ys) #[hl1,hl2,?_]
 have z1:(zH1 s.heap b1 l1).objs.size=s.heap.objs.size+1:=cK ..;have z2:(zH2 s.heap b1 b2 l1 l2).objs.size=s.heap.objs.size+2:=by unfold zH2;rw[cK,z1]
 have z3:(zH3 s.heap b1 b2 l1 l2).objs.size=s.heap.objs.size+3:=by unfold zH3;rw[cK,z2]
 have z4:(zH4 s.heap b1 b2 l1 l2).objs.size=s.heap.objs.size+4:=by unfold zH4;rw[cK,z3]
 have g5:(zH5 s.heap b1 b2 l1 l2).get? (zH4 s.heap b1 b2 l1 l2).objs.size=aa {cls:=.type "zip",data:=.fields [.none,.bool aj,.bool aj,.ref (zH2 s.heap b1 b2 l1 l2).objs.size,.ref (zH3 s.heap b1 b2 l1 l2).objs.size].toArray}:=aF _ rfl;have k4:∀c o,(zH4 s.heap b1 b2 l1 l2).get? c=aa o->(zH5 s.heap b1 b2 l1 l2).get? c=aa o:=λc o e=>au _ e
 have k3:=λc o e=>k4 c o<|au _ e
 have k2:=λc o e=>k3 c o<|au _ e
 have k1:=λc o e=>k2 c o<|au _ e
 have g4:=k4 _ _<|aF (zH3 s.heap b1 b2 l1 l2) rfl;have g3:=k3 _ _<|aF (zH2 s.heap b1 b2 l1 l2) rfl;have g2:=k2 _ _<|aF (zH1 s.heap b1 l1) rfl;have g1:=k1 _ _<|aF s.heap rfl;rw[z2,z3,z4]at g5;rw[z1,z2]at g3;rw[z3]at g4;rw[z1]at g2;rw[z4];have src:∀b l it,(zH5 s.heap b1 b2 l1 l2).get? it=aa (Yi b l)->Src b (zH5 s.heap b1 b2 l1 l2) it l 0:=λb l it e=>by
  cases b
  .exact#[_,e,rfl,rfl]
  .exact#[_,e,rfl,rfl]
 exact#[#[_,g5,rfl],h _ _ rfl #[g5,g3,#[_,_,g4],src b1 l1 _ g1,src b2 l2 _ g2] λc o e=>k1 c o<|au _ e]
open Ev (E Sm Fn Bop Cop Ty Bf Mf)
def Xu{X:Cx}{pq:List (aL×fb)}{U:L2.St}{H:Hp}{s:aw}{h':b0}{t':Nat}{ch:List aL}(I:Inv X pq U H s)(k:∀b o,b∉ch->s.heap.get? b=aa o->h'.get? b=aa o)(hf:∀b∈ch,WD X pq H b):Inv X pq U H {s with heap:=h',toks:=t' }:=by
 have nit:∀b u,H b=aa u->b∉ch:=λb u e z=>by have:=(hf b z).1;rw[e]at this;cases this
 refine I.step (g':=s.gens) (d':=s.drawn) (λb hb=>?_) (λb o _ _ hc e _=>k b o hc e) (λb o _ _ hc e _=>#[o.slots,k b o hc e]) (λ_ _ _ _ n=>n) (λb o hc e=>#[o,k b o hc e]) (λ_ _ e=>e) (λ_ _ _ e=>e) (λb ps e=>#[#[],by rw[e];simp]) (λm hm=>?_) (λb u e=>?_) I.bare
 .exact#[(hf b hb).2.2.2.1,(hf b hb).2.1,(hf b hb).2.2.2.2.1,(hf b hb).2.2.2.2.2]
 .obtain⟨o,es,ep,ho,r⟩:=hm
  exact#[o,es,ep,k _ o (λz=>(hf _ z).2.1 rfl) ho,r]
 .refine(I.hok b u e).stay (λc v hc q=>k c v ?_ q) (λ_ q=>q) λ_ _ q=>q
  rcases hc with z|z
  .rw[z];exact nit b u e
  .exact nit c _ z
def UE{h:b0}{o o':fb}{b:aL}(e:(h.push o').get? b=aa o)(n:b≠h.objs.size):h.get? b=aa o:=by
 unfold b0.get? b0.push at *;simp only[Array.getElem?_push]at e;rw[T8 n]at e;exact e
def Xd{a b:Nat}(h:a<b\/b<a):(a:aL)≠b:=λe=>by
 have e':=e;omega
def Sq(b:Bool)(K:ao)(H:Hp)(l:aL)(xs:List V):Prop:=match b with
 |true=>SqL K H l xs
 |false=>SqT K H l xs
def YH(I:Inv X pq U H s)(h:Sq b X.K H l xs):∃its:List ap,Vals xs its/\Yn b s.heap l its.toArray:=by
 cases b
 .obtain⟨its,r,p,_⟩:=I.tuple h;exact#[its,r,p]
 .obtain⟨its,r,p,_⟩:=I.list h;exact#[its,r,p.isList]
def GJ(I:Inv X pq U H s)(h:Sq b X.K H l xs)(h':Sq b X.K H l ys):xs=ys:=by
 cases b
 .exact I.tuple_inj h h'
 .exact I.list_inj h h'
def W6(x:Yn b h l xs):l<h.objs.size:=by
 cases b
 .obtain⟨o,ho,_⟩:=x;exact aC ho
 .obtain⟨o,ho,_⟩:=x;exact aC ho
noncomputable def Itz(K:ao)(b1 b2:Bool)(l1 l2:aL):It:=
 #[λi H=>∃xs ys x y,Sq b1 K H l1 xs/\Sq b2 K H l2 ys/\xs[i]?=aa x/\ys[i]?=aa y,
  λi H v H'=>∃T x y,(∀xs,Sq b1 K H l1 xs->xs[i]?=aa x)/\(∀ys,Sq b2 K H l2 ys->ys[i]?=aa y)/\H T=ae/\H'=upd H T (.tup [x,y])/\v=.ref T,
  λi H=>∃xs ys,Sq b1 K H l1 xs/\Sq b2 K H l2 ys/\(xs.length<=i\/ys.length<=i)]
def wE{P:bE}{w:bR}{K:ao}{elts:List Expr}{kk:Nat}{tp:iu}{b1 b2:Bool}{z TI TO i1 i2 l1 l2:aL}(D:kP z TI TO i1 i2 l1 l2) :
  Turn P w K (.Tuple elts kk tp) (Itz K b1 b2 l1 l2) [z,TI,TO,i1,i2] z (λi h=>ZipSt b1 b2 z TI TO i1 i2 l1 l2 i .none h) where
 mem:=by simp
 obj:=λi h st b hb=>by
  simp only[az,ck,or_false]at hb;obtain⟨a,c,hTO⟩:=st.to;rcases hb with e|e|e|e|e<;>subst e
  .exact#[_,st.zp,λv q=>by cases q]
  .exact#[_,st.ti,λv q=>by cases q]
  .exact#[_,hTO,λv q=>by cases q]
  .exact st.s1.obj
  .exact st.s2.obj
 keep:=λi h h' st k=>by
  obtain⟨a,c,hTO⟩:=st.to;exact#[k z (by simp) _ st.zp,k TI (by simp) _ st.ti,#[a,c,k TO (by simp) _ hTO],st.s1.keep λo e=>k i1 (by simp) o e,st.s2.keep λo e=>k i2 (by simp) o e]
 item:=by
  intro X hP hw hK hc i pq s U H E I hf st hg;subst hP hw hK;obtain⟨xs,ys,x,y,hq1,hq2,hx,hy⟩:=hg;obtain⟨its,rv,o1⟩:=YH I hq1;obtain⟨its2,rv2,o2⟩:=YH I hq2;obtain⟨u,hu,ru⟩:=rv.get hx;obtain⟨u2,hu2,ru2⟩:=rv2.get hy;refine GH D st o1 o2 (x:=u) (y:=u2) (by simpa using hu) (by simpa using hu2) λh' Z' hT hk=>?_
  have hfree:=I.hok.fresh<|aA _;have ltz:∀b∈[z,TI,TO,i1,i2],b≠s.heap.objs.size:=λb hb e=>by
   simp only[az,ck,or_false]at hb;obtain⟨a,c,hTO⟩:=st.to;rcases hb with q|q|q|q|q<;>subst q
   .exact T7 (aC st.zp) (by rw[e];exact bm _)
   .exact T7 (aC st.ti) (by rw[e];exact bm _)
   .exact T7 (aC hTO) (by rw[e];exact bm _)
   .obtain⟨o,ho,_⟩:=st.s1.obj;exact T7 (aC ho) (by rw[e];exact bm _)
   .obtain⟨o,ho,_⟩:=st.s2.obj;exact T7 (aC ho) (by rw[e];exact bm _)
  have IA:Inv X pq U (upd H s.heap.objs.size<|.tup [x,y]) {s with heap:=s.heap.push {cls:=.type "tuple",data:=.seq [u,u2].toArray},toks:=s.toks}:=
   I.laid (λb o e=>au _ e) (aA _) #[by show 2<=ba;decide,[u,u2],.cons ru<|.cons ru2 .nil,gS _ _]
  have hf2:∀b∈[z,TI,TO,i1,i2],WD X pq (upd H s.heap.objs.size<|.tup [x,y]) b:=λb hb=>#[by rw[Zk<|ltz b hb];exact(hf b hb).1,(hf b hb).2]
  have IB:Inv X pq U (upd H s.heap.objs.size<|.tup [x,y]) {s with heap:=h',toks:=s.toks}:=by
   refine Xu (s:={s with heap:=s.heap.push {cls:=.type "tuple",data:=.seq [u,u2].toArray},toks:=s.toks}) (ch:=[z,TO,i1,i2]) IA (λb o hb e=>?_) λb hb=>hf2 b (by simp only[az,ck,or_false]at hb ⊢;rcases hb with q|q|q|q<;>simp[q])
   by_cases hbs:b=s.heap.objs.size
   .subst hbs
    have e':=e;rw[aF _ rfl]at e';cases e';exact hT
   .refine hk b o hb ?_
    have e':=e;have hlt:=aC e';rw[cK]at hlt;exact UE e' hbs
  refine#[.ref s.heap.objs.size,rfl,wpAny_letOwnedTupleGo_zip Z'.zp λh2 hz2 hs2=>?_]
  have IC:Inv X pq U (upd H s.heap.objs.size<|.tup [x,y]) {s with heap:=h2,toks:=s.toks}:=Xu (s:={s with heap:=h',toks:=s.toks}) (ch:=[z]) IB (λb o hb e=>(hs2.2 b<|by simpa using hb).trans e) λb hb=>hf2 b (by simp only[bz]at hb;simp[hb])
  obtain⟨a,c,hTO⟩:=Z'.to;refine#[.ref s.heap.objs.size,_,IC,rfl,#[_,x,y,λzs hz=>by rw[GJ I hz hq1];exact hx,λzs hz=>by rw[GJ I hz hq2];exact hy,hfree,rfl,rfl],?_,λb hb=>(hf2 b hb).1]
  exact#[hz2,hs2.extBut _ _ D.TIz Z'.ti,#[a,c,hs2.extBut _ _ D.TOz hTO],Z'.s1.ext hs2.extBut D.i1z,Z'.s2.ext hs2.extBut D.i2z]
 done:=by
  intro X hP hw hK hc i pq s U H E I hf st hg;subst hP hw hK;obtain⟨xs,ys,hq1,hq2,hend⟩:=hg;obtain⟨its,rv,o1⟩:=YH I hq1;obtain⟨its2,rv2,o2⟩:=YH I hq2;have e1:=rv.length;have e2:=rv2.length;refine Vu (I.ok.hd hc) D st o1 o2 (by rcases hend with q|q;exact .inl (by simp;omega);exact .inr<|by simp;omega) λh' hk=>#[rfl,Xu (t':=s.toks) (ch:=[z,TO,i1,i2]) I (λb o hb e=>hk b o hb e) λb hb=>hf b (by simp only[az,ck,or_false]at hb ⊢;rcases hb with q|q|q|q<;>simp[q])]
 self:=λ_ _ _ _ _ st h=>wpAny_pyIter_zip st.zp h
def ZdS(K:ao)(ta:TA):TI:=λU H R=>ta U H λvs H1=>∃b1 b2 l1 l2,vs=[.ref l1,.ref l2]/\(∃xs,Sq b1 K H1 l1 xs)/\(∃ys,Sq b2 K H1 l2 ys)/\R (Itz K b1 b2 l1 l2) H1
def ZbD{a b:Expr}{ta:TA}{p pos:iu}(hg:Gl X "zip")(hm:X.mg "zip" = ae)(ha:PA X [a,b] ta)(hs:aM [a,b] X.env=[(aj,cR a X.env),(aj,cR b X.env)]:=by rfl)(hs2:aM [b] X.env=[(aj,cR b X.env)]:=by rfl) :
  PI X (.Tuple elts kk tp) (.Call (.Name "zip" p) [a,b] [] pos) (ZdS X.K ta):=by
 intro pq s U H R I h;refine Call_<|Y2 I hg hm (by rfl)<|cD (thn (ha pos pq s U H _ I h) λus s1 #[vs,H1,I1,r1,q1]=>?_) (by rw[hs,hs2]) (by rw[hs2];rfl)
 obtain⟨b1,b2,l1,l2,e,⟨xs,hq1⟩,⟨ys,hq2⟩,q⟩:=q1;subst e;cases r1 with
 |cons r rr=>
  cases rr with
  |cons r' rr=>
   cases rr;cases r;cases r';obtain⟨its,rv,o1⟩:=YH I1 hq1;obtain⟨its2,rv2,o2⟩:=YH I1 hq2;have lt1:=W6 o1;have lt2:=W6 o2;refine wl o1 o2 λh' n hn Z hk=>?_
   have I2:=I1.kept (t':=s1.toks) hk
   have q1:(l1:Nat)<n:=by rw[hn];exact lt1
   have q2:(l2:Nat)<n:=by rw[hn];exact lt2
   have D:kP (n+4) (n+2) (n+3) n (n+1) l1 l2:=by constructor<;>first|exact Xd (by omega)|exact Xd<|.inl<|bj q1<|ek n _|exact Xd<|.inl<|bj q2<|ek n _|exact Xd<|.inl q1|exact Xd<|.inl q2
   refine wpAny_pyIter_zip Z.zp #[n+4,[n+4,n+2,n+3,n,n+1],_,_,H1,rfl,I2,wE D,Z,λb hb=>?_,q]
   have hbn:s1.heap.objs.size<=b:=by
    rw[<-hn];simp only[az,ck,or_false]at hb;rcases hb with e|e|e|e|e<;>rw[e]
    .exact ek n 4
    .exact ek n 2
    .exact ek n 3
    .exact aA n
    .exact ek n 1
   exact I1.fpOk hbn<|I1.hok.fresh hbn
def Side(K:ao)(O:Mx)(H:Hp)(wk:List D)(b:Bool)(l:aL):Prop:=∀ρ' H',Lat O H ρ' H'->∃vs,Sq b K H' l vs/\Rq ρ' H' wk vs
def QN{K:ao}{O:Mx}{H:Hp}{x:D}{v:V}{wk:List D}(hk:O.K=K)(r:Rep O H x v)(h:Pv.Ym x=aa wk):∃b l,v=.ref l/\(∃xs,Sq b K H l xs)/\Side K O H wk b l:=by
 cases x with
 |tup ds=>
  obtain⟨a,xs,rfl,hp,rs⟩:=r.tup';cases h;exact#[aj,a,rfl,#[xs,SqT.of hp],λρ' H' f=>#[xs,SqT.of (f.keep a _ hp λ_ z=>by cases z),rs.lat f]]
 |lst ds=>
  obtain⟨a,xs,rfl,hp,hx,rs⟩:=r.lst';cases h;exact#[am,a,rfl,#[xs,SqL.of hp],λρ' H' f=>#[xs,SqL.of<|f.keep a _ hp λ_ _=>hx,rs.lat f]]
 |scr ns=>
  obtain⟨a,rfl,hp⟩:=r.scr';cases h;rw[hk]at hp;refine#[am,a,rfl,#[_,hp.sq],λρ' H' f=>#[_,?_,Rq.ints ns]]
  rcases hp with⟨o,hp⟩|hp
  .exact .inl<|.inr #[o,f.keep a _ hp λ_ z=>by cases z]
  .exact .inr hp
 |_=>exact Ev.nos h
def uF{K:ao}{O:Mx}{H:Hp}{v w:List D}{b1 b2:Bool}{l1 l2:aL}(h1:Side K O H v b1 l1)(h2:Side K O H w b2 l2):WRel K O H ((v.zip w).map λp=>.tup [p.1,p.2]) (Itz K b1 b2 l1 l2) where
 go:=λi ρ' S' H' f st hi=>by
  obtain⟨xs,q1,r1⟩:=h1 ρ' H' f;obtain⟨ys,q2,r2⟩:=h2 ρ' H' f;have hi':i<nq v.length w.length:=by simpa using hi
  obtain⟨x,g1,rx⟩:=r1.get (af (show i<v.length by omega))
  obtain⟨y,g2,ry⟩:=r2.get (af (show i<w.length by omega))
  refine#[#[xs,ys,x,y,q1,q2,g1,g2],λu H'' #[T,x',y',e1,e2,hT,eH,eu]=>?_]
  subst eH eu;have ex:=(e1 xs q1).symm.trans g1;have ey:=(e2 ys q2).symm.trans g2;cases ex;cases ey;refine#[ZJ hT,st.fresh hT,λd hd=>?_]
  have hz:(v.zip w)[i]?=aa (v[i],w[i]):=iz.mpr #[af (by omega),af (by omega)]
  rw[aH,hz]at hd;cases hd;exact YD Zz<|Rq.cons (rx.mono<|ZJ hT)<|Rq.cons (ry.mono<|ZJ hT) Rq.nil
 stop:=λρ' S' H' f st=>by
  obtain⟨xs,q1,r1⟩:=h1 ρ' H' f;obtain⟨ys,q2,r2⟩:=h2 ρ' H' f;refine#[xs,ys,q1,q2,?_];show xs.length<=((v.zip w).map λp=>Pv.V.tup [p.1,p.2]).length\/_
  rw[r1.length,r2.length,ay,gK];omega
section
variable{X:Cx}{xw:Nat->Hp->Prop}{C:Calls}{a b:Expr}{i j:E}{pos p tp:iu}{elts:List Expr}{kk:Nat}
def ZaW(hm:X.mg "zip" = ae)(ha:CA X xw C [a,b] [i,j])(hg:Gl X "zip")(hs:aM [a,b] X.env=[(aj,cR a X.env),(aj,cR b X.env)])(hs2:aM [b] X.env=[(aj,cR b X.env)]) :
  CW X xw C (.Tuple elts kk tp) (.Call (.Name "zip" p) [a,b] [] pos) (.zip i j):=.mk <|
 PI.imp (ZbD hg hm ha.h hs hs2) λU H Q #[O,l,S,st,lr,h]=>Zat st lr h λx y S1 ρ1 H1 v u st1 rv ru h1=>by
  cases e1:Pv.Ym x with
  |none=>rw[e1]at h1;exact False.elim h1
  |some v1=>
   cases e2:Pv.Ym y with
   |none=>rw[e1,e2]at h1;exact False.elim h1
   |some v2=>
    rw[e1,e2]at h1;obtain⟨b1,l1,rfl,s1,d1⟩:=QN st1.hk rv e1;obtain⟨b2,l2,rfl,s2,d2⟩:=QN st1.hk ru e2;exact#[b1,b2,l1,l2,rfl,s1,s2,End.ok (rep:=WRel X.K) h1 st1<|uF d1 d2]
end
def Uk(hh:A.handled=ae)(b:Bool)(it l:aL)(hne:l≠it)(xs:Array ap) :
  Draws prog w A it [it,l] xs.size (λi v=>xs[i]?=aa v) (λi h=>Src b h it l i/\Yn b h l xs) where
 live:=λ_ _ st=>let #[o,ho,_]:=st.1.obj;#[o,ho]
 frame:=λ_ _ _ st hk=>#[st.1.keep λo e=>hk it (by simp) o e,st.2.keep λo e=>hk l (by simp) o e]
 item:=λi s Q E hi st hQ=>Wc st.1 st.2 (bc hi) λh' hit' hs'=>hQ _ h' s.toks (bc hi) #[hit',st.2.keep λo e=>hs'.extBut _ o hne e] hs'
 done:=λs Q E st hE=>Qn hh st.1 st.2 (fX<|aA _) hE
noncomputable def Ite(K:ao)(b:Bool)(l:aL):It:=
 #[λi H=>∃xs x,Sq b K H l xs/\xs[i]?=aa x,
  λi H v H'=>∃T x,(∀xs,Sq b K H l xs->xs[i]?=aa x)/\H T=ae/\H'=upd H T (.tup [.int i,x])/\v=.ref T,
  λi H=>∃xs,Sq b K H l xs/\xs.length=i]
def yL{P:bE}{w:bR}{K:ao}{elts:List Expr}{kk:Nat}{tp:iu}{b:Bool}{e it l:aL}(hei:e≠it)(hle:l≠e)(hli:l≠it) :
  Turn P w K (.Tuple elts kk tp) (Ite K b l) [e,it] e (λi h=>(∃old,IsEnum h e it i old)/\Src b h it l i) where
 mem:=by simp
 obj:=λi h st c hc=>by
  simp only[az,ck,or_false]at hc;obtain⟨⟨old,he⟩,hs⟩:=st;rcases hc with q|q<;>subst q
  .exact#[_,he,λv q=>by cases q]
  .exact hs.obj
 keep:=λi h h' st k=>by
  obtain⟨⟨old,he⟩,hs⟩:=st;exact#[#[old,k e (by simp) _ he],hs.keep λo q=>k it (by simp) o q]
 item:=by
  intro X hP hw hK hc i pq s U H E I hf st hg;subst hP hw hK;obtain⟨xs,x,hq,hx⟩:=hg;obtain⟨its,rv,o1⟩:=YH I hq;obtain⟨⟨old,he⟩,hs⟩:=st;obtain⟨u,hu,ru⟩:=rv.get hx;have hlt:i<its.toArray.size:=by
   have:=(aX.mp hu).1
   simpa using this
  have hh:X.A.in1.handled=ae:=I.ok.hd hc;refine wpAny_pyNext_enum_itemD (Uk hh b it l hli its.toArray) he #[hs,o1] hlt hei (by simp only[az,ck,or_false,not_or];exact#[hei,Ne.symm hle]) λx' h' tk hP ho hst hT hsz hk=>?_
  have ex:x'=u:=by
   have:its.toArray[i]?=aa u:=by simpa using hu
   rw[this]at hP;exact(ak hP).symm
  subst ex;have hfree:=I.hok.fresh<|aA _;have ltz:∀c∈[e,it],c≠s.heap.objs.size:=λc hc q=>by
   simp only[az,ck,or_false]at hc;rcases hc with z|z<;>subst z
   .exact T7 (aC he) (by rw[q];exact bm _)
   .obtain⟨o,ho,_⟩:=hs.obj;exact T7 (aC ho) (by rw[q];exact bm _)
  have IA:Inv X pq U (upd H s.heap.objs.size<|.tup [.int i,x]) {s with heap:=s.heap.push {cls:=.type "tuple",data:=.seq [.int i tk,x'].toArray},toks:=tk+1}:=
   I.laid (λc o q=>au _ q) (aA _) #[by show 2<=ba;decide,[.int i tk,x'],.cons #[tk,rfl]<|.cons ru .nil,gS _ _]
  have hf2:∀c∈[e,it],WD X pq (upd H s.heap.objs.size<|.tup [.int i,x]) c:=λc hc=>#[by rw[Zk<|ltz c hc];exact(hf c hc).1,(hf c hc).2]
  have IB:Inv X pq U (upd H s.heap.objs.size<|.tup [.int i,x]) {s with heap:=h',toks:=tk+1}:=by
   refine Xu (s:={s with heap:=s.heap.push {cls:=.type "tuple",data:=.seq [.int i tk,x'].toArray},toks:=tk+1}) (ch:=[e,it]) IA (λc o hc q=>?_) hf2
   by_cases hcs:c=s.heap.objs.size
   .subst hcs
    have q':=q;rw[aF _ rfl]at q';cases q';exact hT
   .simp only[az,ck,or_false,not_or]at hc
    exact hk c o hc.1 hc.2<|UE q hcs
  refine#[.ref s.heap.objs.size,rfl,wpAny_letOwnedTupleGo_enum ho λh2 he2 hs2=>?_]
  have IC:Inv X pq U (upd H s.heap.objs.size<|.tup [.int i,x]) {s with heap:=h2,toks:=tk+1}:=Xu (s:={s with heap:=h',toks:=tk+1}) (ch:=[e]) IB (λc o hc q=>(hs2.2 c<|by simpa using hc).trans q) λc hc=>hf2 c (by simp only[bz]at hc;simp[hc])
  refine#[.ref s.heap.objs.size,_,IC,rfl,#[_,x,λzs hz=>by rw[GJ I hz hq];exact hx,hfree,rfl,rfl],#[#[x',by simpa using he2],hst.1.ext hs2.extBut<|Ne.symm hei],λc hc=>(hf2 c hc).1]
 done:=by
  intro X hP hw hK hc i pq s U H E I hf st hg;subst hP hw hK;obtain⟨xs,hq,hend⟩:=hg;obtain⟨its,rv,o1⟩:=YH I hq;obtain⟨⟨old,he⟩,hs⟩:=st;have e1:=rv.length;have hh:X.A.in1.handled=ae:=I.ok.hd hc;have en:i=its.toArray.size:=by simp;lia
  subst en;exact wpAny_pyNext_enum_endD (Uk hh b it l hli its.toArray) he #[hs,o1] λh' hx=>#[rfl,Xu (t':=s.toks) (ch:=[e,it]) I (λc o hc q=>hx c o (λz=>hc<|by simp[z]) q) hf]
 self:=λ_ _ _ _ _ st h=>by
  obtain⟨⟨old,he⟩,_⟩:=st;exact me he h
section
variable{prog:bE}{w:bR}{A:cQ}{E:ap->aw->Prop}{s:aw}
def vg(l:aL)(items:Array ap)(n:Nat)(dct:Option aL)(sl:Array (Option ap)) :
  nE (db.«enumerate.__new__» #[[.type "enumerate",.ref l],[]]) (λ_ R s=>s.heap.get? l=aa {cls:=.type "tuple",dict:=dct,data:=.seq items n,slots:=sl}/\
   R (.ok<|.ret<|.ref (s.heap.push<|Yi aj l).objs.size) {s with heap:=(s.heap.push<|Yi aj l).push {cls:=.type "enumerate",data:=.fields [.none,.bool aj,.ref s.heap.objs.size,eT 0,.none,.none].toArray}}):=
 .of_wp λprog w A R s h=>by
  obtain⟨hp,g,d,tk,os⟩:=s;obtain⟨hl,h⟩:=h;have hsub:=sub_enumerate;have hL:b0.IsTuple (aw.heap #[hp,g,d,tk,os]) l items:=#[_,hl,rfl,n,rfl]
  wp_walk using fE hl;refine wpAny_stack_any λst=>aq ?_;split
  .rename_i c _ _ _ _ _;cases(c == ly "enumerate")<;>(wp_walk using fE hl,fJ hL;exact#[_,rfl,h])
  .wp_walk using fE hl,fJ hL;exact#[_,rfl,h]
def yX{Q:ap->aw->Prop}(hL:Yn b s.heap l xs)
  (h:∀h' n,n=s.heap.objs.size->IsEnum h' (n+1) n 0 .none->Src b h' n l 0->(∀c o,s.heap.get? c=aa o->h'.get? c=aa o)->Q (.ref<|n+1) {s with heap:=h' }):aW (aV prog w) A (call (.type "enumerate") [.ref l]) Q E s:=by
 cases b with
 |true=>exact call_enumerate_list hL λh' a1 a2 _ a4=>h h' _ rfl a1 a2 a4
 |false=>
  obtain⟨⟨c,dct,dt,sl⟩,hl,hc,n,hd⟩:=hL;simp only at hc hd;subst hc hd;refine callType_new F.called_enumerate (by decide) (F.typeCall_enumerate_1 _) (F.newCall_enumerate_1 _) (λobj=>F.args_object_init_2 obj _) F.entry_enumerate_new (vg l xs n dct sl) #[hl,?_]
  have hz:(s.heap.push<|Yi aj l).objs.size=s.heap.objs.size+1:=cK ..;have g2:=aF (s.heap.push<|Yi aj l) (o:={cls:=.type "enumerate",data:=.fields [.none,.bool aj,.ref s.heap.objs.size,eT 0,.none,.none].toArray}) rfl;have g1:((s.heap.push<|Yi aj l).push {cls:=.type "enumerate",data:=.fields [.none,.bool aj,.ref s.heap.objs.size,eT 0,.none,.none].toArray}).get? s.heap.objs.size=aa (Yi aj l):=au _<|aF _ rfl;rw[hz]at g2 ⊢;exact#[#[_,g2,rfl],h _ _ rfl g2 #[_,g1,rfl,rfl] λc o q=>au _<|au _ q]
end
def ZcH(K:ao)(ta:TA):TI:=λU H R=>ta U H λvs H1=>∃b l,vs=[.ref l]/\(∃xs,Sq b K H1 l xs)/\R (Ite K b l) H1
def jD{a:Expr}{ta:TA}{p pos:iu}(hg:Gl X "enumerate")(hm:X.mg "enumerate" = ae)(ha:PA X [a] ta)(hs:aM [a] X.env=[(aj,cR a X.env)]:=by rfl):PI X (.Tuple elts kk tp) (.Call (.Name "enumerate" p) [a] [] pos) (ZcH X.K ta):=by
 intro pq s U H R I h;refine Call_<|Y2 I hg hm (by rfl)<|cD (thn (ha pos pq s U H _ I h) λus s1 #[vs,H1,I1,r1,q1]=>?_) hs rfl
 obtain⟨b,l,e,⟨xs,hq⟩,q⟩:=q1;subst e;cases r1 with
 |cons r rr=>
  cases rr;cases r;obtain⟨its,rv,o1⟩:=YH I1 hq;have lt1:=W6 o1;refine yX o1 λh' n hn he hs' hk=>?_
  have I2:=I1.kept (t':=s1.toks) hk
  have q1:(l:Nat)<n:=by rw[hn];exact lt1
  refine me he #[n+1,[n+1,n],_,_,H1,rfl,I2,yL (Xd<|.inr<|i5 n) (Xd<|.inl<|c8 q1)<|Xd<|.inl q1,#[#[_,he],hs'],λc hc=>?_,q]
  have hbn:s1.heap.objs.size<=c:=by
   rw[<-hn];simp only[az,ck,or_false]at hc;rcases hc with e|e<;>rw[e]
   .exact mR n
   .exact aA n
  exact I1.fpOk hbn<|I1.hok.fresh hbn
def uP{lo:Int}{n i:Nat}(h:i<n):(Pv.ZS lo n)[i]?=aa (.int<|lo+i):=by
 unfold Pv.ZS;rw[aH,cA h];rfl
def yM{K:ao}{O:Mx}{H:Hp}{w:List D}{b:Bool}{l:aL}(h1:Side K O H w b l):WRel K O H (((Pv.ZS 0 w.length).zip w).map λp=>.tup [p.1,p.2]) (Ite K b l) where
 go:=λi ρ' S' H' f st hi=>by
  obtain⟨xs,q1,r1⟩:=h1 ρ' H' f;have hi':i<w.length:=by
   rw[ay,gK,Uy]at hi;lia
  obtain⟨x,g1,rx⟩:=r1.get<|af hi';refine#[#[xs,x,q1,g1],λu H'' #[T,x',e1,hT,eH,eu]=>?_]
  subst eH eu;have ex:=(e1 xs q1).symm.trans g1;cases ex;refine#[ZJ hT,st.fresh hT,λd hd=>?_]
  have hz:((Pv.ZS 0 w.length).zip w)[i]?=aa (.int<|0+i,w[i]):=iz.mpr #[uP hi',af hi'];rw[aH,hz]at hd;cases hd;refine YD Zz<|Rq.cons ?_<|Rq.cons (rx.mono<|ZJ hT) Rq.nil;rw[show((0:Int)+i)=i by lia]
  exact ZL _
 stop:=λρ' S' H' f st=>by
  obtain⟨xs,q1,r1⟩:=h1 ρ' H' f;refine#[xs,q1,?_];show xs.length=(((Pv.ZS 0 w.length).zip w).map λp=>Pv.V.tup [p.1,p.2]).length
  rw[ay,gK,Uy,r1.length];lia
section
variable{X:Cx}{xw:Nat->Hp->Prop}{C:Calls}{a b:Expr}{i j:E}{pos p tp:iu}{elts:List Expr}{kk:Nat}
def j8(hm:X.mg "enumerate" = ae)(ha:CA X xw C [a] [i])(hg:Gl X "enumerate")(hs:aM [a] X.env=[(aj,cR a X.env)]) :
  CW X xw C (.Tuple elts kk tp) (.Call (.Name "enumerate" p) [a] [] pos) (.enum i):=.mk <|
 PI.imp (jD hg hm ha.h hs) λU H Q #[O,l,S,st,lr,h]=>Zay st lr h λx S1 ρ1 H1 v st1 r h1=>by
  cases e1:Pv.Ym x with
  |none=>rw[e1]at h1;exact False.elim h1
  |some wk=>
   rw[e1]at h1;obtain⟨b1,l1,rfl,s1,d1⟩:=QN st1.hk r e1;exact#[b1,l1,rfl,s1,End.ok (rep:=WRel X.K) h1 st1<|yM d1]
end
def y9(hh:A.handled=ae)(b:Bool)(it l:aL)(hne:l≠it)(xs:Array ap) :
  Walks prog w A it [it,l] [it] xs.size (λi v=>xs[i]?=aa v) (λi h=>Src b h it l i/\Yn b h l xs):=by
 cases b
 .exact Walks.tuple hh it l hne xs
 .exact nG hh it l hne xs
def jm{b:Bool}{h:b0}{l:aL}:Src b (h.push<|Yi b l) h.objs.size l 0:=by
 cases b
 .exact#[_,aF _ rfl,rfl,rfl]
 .exact#[_,aF _ rfl,rfl,rfl]
def Zcz{K:ao}{H:Hp}{p:aL}{xs:List V}(h:SqL K H p xs\/SqT K H p xs):∃b,Sq b K H p xs:=by
 rcases h with h|h
 .exact#[am,h]
 .exact#[aj,h]
def y6(hc:X.calm=am):ZD X (.builtin "any") (λvs H Q=>∃O ds x v bs,O.K=X.K/\vs=[v]/\Rep O H x v/\Pv.Ym x=aa ds/\Pv.ZQ ds=aa bs/\Q (.bl<|bs.any id) H):=by
 intro pq s U H vs us Q I r h;obtain⟨O,ds,x,v,bs,hk,rfl,r1,hl,hb,q⟩:=h;obtain⟨l,xs,rfl,hsq,rx⟩:=r1.seq hl;rw[hk]at hsq;obtain⟨kb,hq⟩:=Zcz hsq;obtain⟨u,rfl,ru⟩:=Wa r;cases ru;obtain⟨its,rv,o1⟩:=YH I hq;obtain⟨lb,tb⟩:=XG hb;have hlt:=W6 o1;have hlen:its.toArray.size=bs.length:=by rw[ax,<-rv.length,rx.length,lb]
 refine call_any_walk<|VB o1 #[s.heap.objs.size,[s.heap.objs.size,l],[s.heap.objs.size],its.toArray.size,_,_,λj=>bs.getD j aj,rfl,y9 (A:=X.A.in1) (I.ok.hd hc) kb s.heap.objs.size l (bi hlt) its.toArray,#[jm,o1.keep λo q=>au _ q],?_,?_]
 .intro j v s' Q' E' hv hQ'
  have hj:its[j]?=aa v:=by simpa using hv
  have jl:j<ds.length:=by
   have:=(aX.mp hj).1;rw[<-rv.length,rx.length]at this;exact this
  obtain⟨w',g,r'⟩:=rx.get<|af jl;obtain⟨u',g',ru'⟩:=rv.get g;rw[hj]at g';cases g';exact Wg r' ru' (tb j _<|af jl) s' Q' E' hQ'
 .intro h' tk hk
  rw[hlen,xb];exact#[.bl<|bs.any id,H,I.kept (t':=tk) λb o e=>hk b o (λhm=>by
   have:b=s.heap.objs.size:=by simpa using hm
   exact T7 (this▸aC e)<|bm _)<|au _ e,rfl,q]
def yt(hc:X.calm=am):ZD X (.builtin "any") (V7 X.K xw .any):=ZD.imp (y6 hc)<|by
 rintro vs H Q ⟨O,S,ds,st,r,h⟩;obtain⟨d,v,z,rfl,r1,hz,h⟩:=WP h r;obtain⟨xs,hx,hz⟩:=aD.mp hz;obtain⟨bs,hb,rfl⟩:=aR.mp hz;exact#[O,xs,d,v,bs,st.hk,rfl,r1,hx,hb,End.ok h st<|ZY _]
end Sd
namespace Tq
open PySem PyProof.Rows
noncomputable def Z9:Bool->bO->Array bO->Nat->Nat->Nat->StateT bL mv (Option Nat):=sortPriv% PySem.Builtin.gallop
def GY(lf:Bool)(k:bO)(ar:Array bO)(bs n hn:Nat):Z9 lf k ar bs n hn=(do
 let bd (i:Nat):StateT bL mv (Option Bool):=do
  let x <-fq ar (bs+i)
  if lf then lt' x k else return (<-lt' k x).map (!·)
 let mut la:=0
 let mut of:=1
 let mut lo:=0
 let mut hi:=0
 let aa rt <-bd hn|return ae
 if rt then
  let mx:=n-hn
  for _ in [0:n] do
   if of>=mx then break
   let aa mo <-bd (hn+of)|return ae
   if !mo then break
   la:=of
   of:=2*of+1
  lo:=hn+la+1
  hi:=hn+nq of mx
 else
  let mx:=hn+1
  for _ in [0:n] do
   if of>=mx then break
   let aa fo <-bd (hn-of)|return ae
   if fo then break
   la:=of
   of:=2*of+1
  lo:=hn+1-nq of mx
  hi:=hn-la
 for _ in [0:n] do
  if lo>=hi then break
  let m:=lo+(hi-lo) / 2
  let aa mo <-bd m|return ae
  if mo then lo:=m+1 else hi:=m
 return aa hi):=rfl
noncomputable abbrev BT:=Option (Option Nat)×Nat×Nat
def U5{F:Nat->BT->StateT bL mv (ForInStep BT)}{n:Nat}{τ:bL}{B:Nat->Bool}{Q:BT->bL->Prop}
  (hF:∀i lo hi (Q:ForInStep BT->bL->Prop),hi<=n->(lo>=hi->Q (.done (ae,lo,hi)) τ)->(lo<hi->Q (.yield (ae,if B (lo+(hi-lo) / 2)=am then(lo+(hi-lo) / 2+1,hi)else(lo,lo+(hi-lo) / 2))) τ)->kI (aV prog w) A E s (F i (ae,lo,hi)) Q τ)
  (mono:∀i j,i<=j->j<n->B j=am->B i=am)(hq:∀r,r<=n->(∀i,i<n->(B i=am↔i<r))->Q (ae,r,r) τ){lo hi:Nat}(h1:lo<=hi)(h2:hi<=n)(h3:∀i,i<lo->B i=am)(h4:∀i,hi<=i->i<n->B i=aj) :
  kI (aV prog w) A E s (kO [0:n] ((ae,lo,hi):BT) F) Q τ:=by
 have fin:∀lo,lo<=n->(∀i,i<lo->B i=am)->(∀i,lo<=i->i<n->B i=aj)->Q (ae,lo,lo) τ:=λlo a2 a4 a5=>hq _ a2 λi hi=>by
  refine#[λhB=>?_,a4 i]
  by_cases c:i<lo
  .exact c
  .rw[a5 i (by omega) hi]at hB;cases hB
 refine cc
  (I:=λi c st'=>st'=τ/\c.1=ae/\c.2.1<=c.2.2/\c.2.2<=n/\c.2.2-c.2.1+i<=n/\(∀i,i<c.2.1->B i=am)/\∀i,c.2.2<=i->i<n->B i=aj) ?_ ?_ #[rfl,rfl,h1,h2,by dsimp only;omega,h3,h4]
 .rintro i ⟨r,lo,hi⟩ st' hi0 hin ⟨rfl,rfl,a1,a2,a3,a4,a5⟩
  dsimp only at a1 a2 a3 a4 a5 ⊢
  refine hF i lo hi _ a2 (λc=>?_) λc=>?_
  .have e:lo=hi:=by omega
   subst e;exact fin lo a2 a4 a5
  .cases hm:B (lo+(hi-lo) / 2)with
   |true=>
    simp only[if_true];exact#[trivial,trivial,by omega,a2,by omega,λj hj=>mono j _ (by omega) (by omega) hm,a5]
   |false=>
    simp only[cu,if_false];refine#[trivial,trivial,by omega,by omega,by omega,a4,λj hj hn=>?_]
    cases hj2:B j with|false=>rfl|true=>rw[mono _ j hj hn hj2]at hm;cases hm
 .rintro ⟨r,lo,hi⟩ st' ⟨rfl,rfl,a1,a2,a3,a4,a5⟩
  dsimp only at a1 a2 a3 a4 a5 ⊢
  have e:lo=hi:=by omega
  subst e;exact fin lo a2 a4 a5
def Zcs{lf:Bool}{k:bO}{ar:Array bO}{bs n hn:Nat}{τ:bL}{B:Nat->Bool}{Q:Option Nat->bL->Prop}(hh:hn<n)
  (hb:∀i,i<n->∀Q:Option Bool->bL->Prop,Q (aa<|B i) τ->kI (aV prog w) A E s (do
   let x <-fq ar (bs+i)
   if lf then lt' x k else return (<-lt' k x).map (!·)) Q τ)
  (mono:∀i j,i<=j->j<n->B j=am->B i=am)(hq:∀r,r<=n->(∀i,i<n->(B i=am↔i<r))->Q (aa r) τ):kI (aV prog w) A E s (Z9 lf k ar bs n hn) Q τ:=by
 have no:∀{i j},i<=j->j<n->B i=aj->B j=aj:=λ{i j} h hj hi=>by
  cases q:B j with|false=>rfl|true=>rw[mono i j h hj q]at hi;cases hi
 rw[GY]
 dsimp only
 refine aI<|hb hn hh _ ?_
 dsimp only
 cases h0:B hn with
 |true=>
  rw[T9 rfl];refine aI (d3 (cc
   (I:=λi (c:BT) st'=>st'=τ/\c.1=ae/\c.2.1<c.2.2/\i<c.2.2/\hn+c.2.1<n/\B (hn+c.2.1)=am)
   (Q:=λ(c:BT) st'=>st'=τ/\c.1=ae/\c.2.1<c.2.2/\hn+c.2.1<n/\B (hn+c.2.1)=am/\(n<=hn+c.2.2\/B (hn+c.2.2)=aj)) ?_ ?_ #[rfl,rfl,by decide,by decide,hh,h0]) ?_)
  .rintro i ⟨r,la,f⟩ st' _ hin ⟨rfl,rfl,a1,a2,a3,a4⟩
   dsimp only at a1 a2 a3 a4 ⊢
   by_cases c:f>=n-hn
   .rw[T9 c]
    exact aP #[rfl,rfl,a1,a3,a4,.inl (by dsimp only;omega)]
   .rw[T8 c]
    refine aI<|hb _ (by omega) _ ?_
    dsimp only
    cases hm:B (hn+f)with|true=>exact aP #[rfl,rfl,by dsimp only;omega,by dsimp only;omega,by dsimp only;omega,hm]|false=>exact aP #[rfl,rfl,a1,a3,a4,.inr hm]
  .rintro ⟨r,la,f⟩ st' ⟨rfl,rfl,a1,a2,a3,a4⟩
   dsimp only at a1 a2 a3 a4 ⊢
   exact#[rfl,rfl,a1,a3,a4,.inl (by omega)]
  .rintro ⟨r,la,f⟩ st' ⟨rfl,rfl,a1,a3,a4,a5⟩
   dsimp only at a1 a3 a4 a5 ⊢
   refine aI (U5 (n:=n) (B:=B) (λi lo hi Q h1 h2 h3=>by
    by_cases c:lo>=hi
    .simp only[T9 c];exact aP<|h2 c
    .simp only[T8 c]
     refine aI<|hb _ (by omega) _ ?_
     have h3:=h3 (by omega)
     cases hm:B (lo+(hi-lo) / 2)<;>(rw[hm]at h3;exact aP h3)) mono (λr hr hB=>aP<|hq r hr hB) (by omega) (by omega) (λi hi=>mono i _ (by omega) a3 a4) λi h1 h2=>?_)
   rcases a5 with a5|a5
   .omega
   .exact no (by omega) h2 a5
 |false=>
  rw[T8 (by simp)]
  refine aI (d3 (cc
   (I:=λi (c:BT) st'=>st'=τ/\c.1=ae/\c.2.1<c.2.2/\i<c.2.2/\c.2.1<=hn/\B (hn-c.2.1)=aj)
   (Q:=λ(c:BT) st'=>st'=τ/\c.1=ae/\c.2.1<c.2.2/\c.2.1<=hn/\B (hn-c.2.1)=aj/\(hn<c.2.2\/B (hn-c.2.2)=am)) ?_ ?_ #[rfl,rfl,by decide,by decide,cJ _,h0]) ?_)
  .rintro i ⟨r,la,f⟩ st' _ hin ⟨rfl,rfl,a1,a2,a3,a4⟩
   dsimp only at a1 a2 a3 a4 ⊢
   by_cases c:f>=hn+1
   .rw[T9 c]
    exact aP #[rfl,rfl,a1,a3,a4,.inl (by dsimp only;omega)]
   .rw[T8 c]
    refine aI<|hb _ (by omega) _ ?_
    dsimp only
    cases hm:B (hn-f)with|true=>exact aP #[rfl,rfl,a1,a3,a4,.inr hm]|false=>exact aP #[rfl,rfl,by dsimp only;omega,by dsimp only;omega,by dsimp only;omega,hm]
  .rintro ⟨r,la,f⟩ st' ⟨rfl,rfl,a1,a2,a3,a4⟩
   dsimp only at a1 a2 a3 a4 ⊢
   exact#[rfl,rfl,a1,a3,a4,.inl (by omega)]
  .rintro ⟨r,la,f⟩ st' ⟨rfl,rfl,a1,a3,a4,a5⟩
   dsimp only at a1 a3 a4 a5 ⊢
   refine aI (U5 (n:=n) (B:=B) (λi lo hi Q h1 h2 h3=>by
    by_cases c:lo>=hi
    .simp only[T9 c];exact aP<|h2 c
    .simp only[T8 c]
     refine aI<|hb _ (by omega) _ ?_
     have h3:=h3 (by omega)
     cases hm:B (lo+(hi-lo) / 2)<;>(rw[hm]at h3;exact aP h3)) mono (λr hr hB=>aP<|hq r hr hB) (by omega) (by omega) (λi hi=>?_) λi h1 h2=>no h1 h2 a4)
   rcases a5 with a5|a5
   .omega
   .exact mono i _ (by omega) (by omega) a5
abbrev Srt(R:B->B->Prop)(l:List B):Prop:=l.Pairwise R
abbrev lr(rk:B->Nat):B->B->Prop:=λx y=>rk x<rk y
abbrev gr(rk:B->Nat):B->B->Prop:=λx y=>rk y<rk x
structure ML(R:B->B->Prop)(T o ra rb:List B):Prop where
 perm:(o++ra++rb).Perm T
 so:Srt R o
 sa:Srt R ra
 sb:Srt R rb
 lt:∀x∈o,∀y,y∈ra\/y∈rb->R x y
def ML.as{T o xs ra rb:List B}(h:ML R T o (xs++ra) rb)(hx:∀x∈xs,∀y∈rb,R x y):ML R T (o++xs) ra rb:=by
 obtain⟨s1,s2,s3⟩:=d4.mp h.sa;refine#[by simpa[bp]using h.perm,d4.mpr #[h.so,s1,λx hx y hy=>h.lt x hx y<|.inl<|dv _ hy],s2,h.sb,λx hx2 y hy=>?_]
 rcases da.mp hx2 with z|z
 .exact h.lt x z y<|hy.imp (bC _) id
 .rcases hy with hy|hy
  .exact s3 x z y hy
  .exact hx x z y hy
def ML.swap{T o ra rb:List B}(h:ML R T o ra rb):ML R T o rb ra:=by
 refine#[List.Perm.trans ?_ h.perm,h.so,h.sb,h.sa,λx hx y hy=>h.lt x hx y hy.symm]
 rw[bp,bp];exact List.perm_append_comm.append_left _
def ML.bs(h:ML R T o ra (xs++rb))(hx:∀x∈xs,∀y∈ra,R x y):ML R T (o++xs) ra rb:=(h.swap.as hx).swap
def ML.fin{T o ra:List B}(h:ML R T o ra []):(o++ra).Perm T/\Srt R (o++ra):=by
 have h':=ML.as (ra:=[]) (by simpa using h) λx _ y hy=>by cases hy
 exact#[by simpa using h'.perm,h'.so]
def ML.ne(h:ML R T o ra rb)(hT:(T.map rk).Nodup)(hx:x∈ra)(hy:y∈rb):rk x≠rk y:=by
 have n:=((h.perm.map rk).nodup_iff).mpr hT;rw[bZ,eP]at n;exact n.2.2 _ (fA<|bC _ hx) _<|fA hy
structure Od(prog:bE)(w:bR)(A:cQ)(E:ap->aw->Prop)(s:aw)(κ:eY)(In:bO->Prop)(rk:bO->Nat):Prop where
 ask:∀{x y:bO}{τ:bL}{Q:Option Bool->bL->Prop},In x->In y->kindOf τ=κ->Q (aa<|ag<|rk x<rk y) τ->kI (aV prog w) A E s (lt' x y) Q τ
def Sg(τ st':bL):Prop:=kindOf st'=kindOf τ/\aZ st'=aZ τ/\a9 st'=a9 τ/\fF st'=fF τ
section
variable{In:bO->Prop}
def Zy{Q:bO->bL->Prop}(h:ar[i]?=aa x)(hq:Q x τ):kI (aV prog w) A E s (fq ar i) Q τ:=by
 rw[elem'_eq,h];exact aP hq
def Xw{Q:Unit->bL->Prop}(hq:Q () τ):kI (aV prog w) A E s (liftM (mw t):StateT bL mv Unit) Q τ:=wpS_lift<|eW #[rfl,hq]
theorem zD(O:Od prog w A E s κ In rk){Q:Option Nat->bL->Prop}(hk:kindOf τ=κ)(ik:In k)(hh:h0<n)(hn:i+n<=ar.size)(ia:∀x∈ar.toList,In x)
  (so:Srt (lr rk) ((ar.toList.drop i).take n))(ne:∀x∈(ar.toList.drop i).take n,rk x≠rk k)
  (hq:∀r,r<=n->(∀x∈((ar.toList.drop i).take n).take r,rk x<rk k)->(∀x∈((ar.toList.drop i).take n).drop r,rk k<rk x)->Q (aa r) τ):kI (aV prog w) A E s (Z9 lf k ar i n h0) Q τ:=by
 generalize hl:(ar.toList.drop i).take n=l at so ne hq;have ll:l.length=n:=by rw[<-hl,bn,bq,aE];lia
 have at_:∀j (hj:j<n),ar[i+j]?=aa (l[j]'(by lia)):=λj hj=>by
  have:ar.toList[i+j]?=aa (l[j]'(by lia)):=by
   subst hl;rw[eQ,eR];exact af _
  simpa using this
 have mem:∀j (hj:j<n),In (l[j]'(by lia)):=λj hj=>ia _ (by
  have h2:∀x∈l,x∈ar.toList:=λx hx=>by rw[<-hl]at hx;exact bP<|cZ hx
  exact h2 _<|aU _)
 have hB:∀j (hj:j<n),((l[j]?).any λx=>ag<|rk x<rk k)=ag (rk (l[j]'(by lia))<rk k):=λj hj=>by
  rw[af (by lia)];rfl
 refine Zcs (B:=λj=>(l[j]?).any λx=>ag<|rk x<rk k) hh (λj hj Q hQ=>?_) (λa b hab hb h=>?_) λr hr hr2=>hq r hr (λx hx=>?_) λx hx=>?_
 .rw[hB j hj]at hQ
  refine aI<|Zy (at_ j hj) ?_;cases lf with
  |true=>exact O.ask (mem j hj) ik hk hQ
  |false=>
   refine aI<|O.ask ik (mem j hj) hk<|aP ?_;have e:(!decide (rk k<rk (l[j]'(by lia))))=ag (rk (l[j]'(by lia))<rk k):=by
    have:=ne _<|aU (n:=j) (by lia)
    by_cases c:rk k<rk (l[j]'(by lia))
    .rw[T5 c,T4 (by lia)];rfl
    .rw[T4 c,T5 (by lia)];rfl
   show Q (aa<|!decide (rk k<rk (l[j]'(by lia)))) τ
   rw[e];exact hQ
 .rw[hB b hb]at h
  rw[hB a (by lia)]
  rcases Nat.lt_or_eq_of_le hab with c|c
  .have:=bB.mp so a b (by lia) (by lia) c
   have h:=T6 h;exact T5 (by lia)
  .subst c;exact h
 .obtain⟨j,hj,rfl⟩:=cz hx
  rw[bn]at hj;have:=(hr2 j<|by lia).mpr (by lia)
  rw[hB j<|by lia]at this
  rw[eQ];exact T6 this
 .obtain⟨j,hj,rfl⟩:=cz hx
  rw[bq]at hj;rw[eR];have h1:=hr2 (r+j) (by lia)
  rw[hB _<|by lia]at h1
  have h2:=ne _<|aU (n:=r+j) (by lia)
  have h3:¬rk (l[r+j]'(by lia))<rk k:=λz=>T7 (h1.mp<|T5 z) (by lia)
  lia
end
noncomputable abbrev KA:=Array bO
noncomputable abbrev SM:=StateT bL mv
noncomputable def Vj:KA->KA->SM KA:=sortPriv% PySem.Builtin.mergeLo
noncomputable def Ui:Nat->SM Unit:=sortPriv% PySem.Builtin.setMinGallop
def vH(g:Nat):Ui g=modify λs=>nH (kindOf s) (aZ s) (a9 s) g (fF s):=rfl
noncomputable abbrev dn(a b o:KA)(i j:Nat):KA:=o++a.extract i a.size++b.extract j b.size
noncomputable abbrev ls(a b o:KA)(i j:Nat):KA:=o++b.extract j b.size++a.extract i a.size
noncomputable abbrev T2:=Option KA×KA×Nat×Nat×Nat×Nat
noncomputable abbrev T3:=Option KA×KA×Nat×Nat×Nat×Nat×Nat
noncomputable abbrev T1:=Option KA×KA×Nat×Nat×Nat
noncomputable def F1(a b:KA)(g:Nat)(c:T2):SM (ForInStep T2):=do
 let o:=c.2.1
 let i:=c.2.2.1
 let j:=c.2.2.2.1
 let ca:=c.2.2.2.2.1
 let cb:=c.2.2.2.2.2
 let aa t <-lt' (<-fq b j) (<-fq a i)|return .done (aa<|dn a b o i j,o,i,j,ca,cb)
 if t then
  let o:=o.push<|<-fq b j
  let j:=j+1
  if j == b.size then return .done (aa<|dn a b o i j,o,i,j,0,cb+1)
  if cb+1>=g then return .done (ae,o,i,j,0,cb+1)
  return .yield (ae,o,i,j,0,cb+1)
 else
  let o:=o.push<|<-fq a i
  let i:=i+1
  if i+1 == a.size then return .done (aa<|ls a b o i j,o,i,j,ca+1,0)
  if ca+1>=g then return .done (ae,o,i,j,ca+1,0)
  return .yield (ae,o,i,j,ca+1,0)
noncomputable def G3(a b:KA)(g ca cb i:Nat)(o:KA)(j:Nat):SM (ForInStep T3):=do
 let o:=o.push<|<-fq a i
 let i:=i+1
 if i+1 == a.size then return .done (aa<|ls a b o i j,o,i,j,g,ca,cb)
 if ca<7&&cb<7 then return .done (ae,o,i,j,g,ca,cb)
 return .yield (ae,o,i,j,g,ca,cb)
noncomputable def G2(a b:KA)(g ca cb j:Nat)(o:KA)(i:Nat):SM (ForInStep T3):=do
 let o:=o.push<|<-fq b j
 let j:=j+1
 if j == b.size then return .done (aa<|dn a b o i j,o,i,j,g,ca,cb)
 let aa k <-Z9 am (<-fq a i) b j (b.size-j) 0|return .done (aa<|dn a b o i j,o,i,j,g,ca,cb)
 if k>0 then
  let o:=o++b.extract j (j+k)
  let j:=j+k
  if j == b.size then return .done (aa<|dn a b o i j,o,i,j,g,ca,k)
  else G3 a b g ca k i o j
 else G3 a b g ca k i o j
noncomputable def G1(a b:KA)(o:KA)(i j ca cb g:Nat):SM (ForInStep T3):=do
 Ui g
 let aa k <-Z9 aj (<-fq b j) a i (a.size-i) 0|return .done (aa<|dn a b o i j,o,i,j,g,ca,cb)
 if k>0 then
  let o:=o++a.extract i (i+k)
  let i:=i+k
  if i+1 == a.size then return .done (aa<|ls a b o i j,o,i,j,g,k,cb)
  else if i == a.size then return .done (aa<|dn a b o i j,o,i,j,g,k,cb)
  else G2 a b g k cb j o i
 else G2 a b g k cb j o i
noncomputable def F2(a b:KA)(c:T3):SM (ForInStep T3):=
 if c.2.2.2.2.1>1 then G1 a b c.2.1 c.2.2.1 c.2.2.2.1 c.2.2.2.2.2.1 c.2.2.2.2.2.2 (c.2.2.2.2.1-1)
 else G1 a b c.2.1 c.2.2.1 c.2.2.2.1 c.2.2.2.2.2.1 c.2.2.2.2.2.2 c.2.2.2.2.1
noncomputable def F0(a b:KA)(c:T1):SM (ForInStep T1):=do
 let d <-kO [0:a.size+b.size] ((ae,c.2.1,c.2.2.1,c.2.2.2.1,0,0):T2) λ_ d=>F1 a b c.2.2.2.2 d
 hV d.1 (λ_=>do
  mw "list.sort.gallop"
  let e <-kO [0:a.size+b.size] ((ae,d.2.1,d.2.2.1,d.2.2.2.1,c.2.2.2.2+1,d.2.2.2.2.1,d.2.2.2.2.2):T3) λ_ d=>F2 a b d
  hV e.1 (λ_=>do
   Ui (e.2.2.2.2.1+1)
   c0 (.yield (ae,e.2.1,e.2.2.1,e.2.2.2.1,e.2.2.2.2.1+1))) λr=>c0<|.done (aa r,e.2.1,e.2.2.1,e.2.2.2.1,e.2.2.2.2.1)) λr=>c0<|.done (aa r,d.2.1,d.2.2.1,d.2.2.2.1,c.2.2.2.2)
def Jg(a b:KA):Vj a b=(do
 mw "list.sort.merge-lo"
 let y <-fq b 0
 if 1 == b.size then return dn a b #[y] 0 1
 if 0+1 == a.size then return ls a b #[y] 0 1
 let τ <-get
 let c <-kO [0:a.size+b.size] ((ae,#[y],0,1,gallopOf τ):T1) λ_ c=>F0 a b c
 hV c.1 (λ_=>mW "internal:list.sort.merge-bound") λr=>c0 r):=rfl
def Xr(a:KA)(i:Nat):(a.extract i a.size).toList=a.toList.drop i:=by
 rw[gA,fu,<-aE];exact cw (by rw[bq];exact aA _)
def zZ(a:KA)(i k:Nat):(a.extract i<|i+k).toList=(a.toList.drop i).take k:=by
 rw[gA,fu,Nat.add_sub_cancel_left]
def ZU{a:KA}{i:Nat}(h:i<a.size):a.toList.drop i=a[i]::a.toList.drop (i+1):=by
 rw[bX (by simpa using h)];rfl
def td{B:Type}(l:List B)(n r:Nat):(l.drop n).take r++l.drop (n+r)=l.drop n:=by rw[<-hZ,cW]
def ZG{a:KA}{i:Nat}(h:i<a.size):a[i]?=aa a[i]:=bc h
section
variable{prog:bE}{w:bR}{A:cQ}{E:ap->aw->Prop}{s:aw}{κ:eY}{In:bO->Prop}{rk:bO->Nat}
def Zx{B:Type}{c:Prop}[Decidable c]{x y:SM B}{Q:B->bL->Prop}{τ:bL}(h1:c->kI (aV prog w) A E s x Q τ)(h2:¬c->kI (aV prog w) A E s y Q τ):kI (aV prog w) A E s (if c then x else y) Q τ:=by
 by_cases h:c
 .rw[T9 h];exact h1 h
 .rw[T8 h];exact h2 h
theorem zv(O:Od prog w A E s κ In rk){Q:Option Nat->bL->Prop}(hk:kindOf τ=κ)(ik:In k)(hi:i<ar.size)(ia:∀x∈ar.toList,In x)(so:Srt (lr rk) (ar.toList.drop i))(ne:∀x∈ar.toList.drop i,rk x≠rk k)
  (hq:∀r,i+r<=ar.size->(∀x∈(ar.toList.drop i).take r,rk x<rk k)->(∀x∈ar.toList.drop (i+r),rk k<rk x)->Q (aa r) τ):kI (aV prog w) A E s (Z9 lf k ar i (ar.size-i) 0) Q τ:=by
 have e:(ar.toList.drop i).take (ar.size-i)=ar.toList.drop i:=cw (by rw[bq,aE];exact aA _)
 refine zD O hk ik (Nat.sub_pos_of_lt hi) (lZ<|Nat.add_sub_cancel'<|fQ hi) ia (e.symm▸so) (e.symm▸ne) λr h1 h2 h3=>?_
 rw[e]at h2 h3;rw[hZ]at h3;exact hq r (by lia) h2 h3
structure Mg(κ:eY)(In:bO->Prop)(rk:bO->Nat)(a b:KA)(T:List bO):Prop where
 nd:(T.map rk).Nodup
 ia:∀x∈a.toList,In x
 ib:∀x∈b.toList,In x
 last:∀y∈b.toList,∀x∈a.toList.drop (a.size-1),rk y<rk x
def Res(rk:bO->Nat)(T:List bO)(r:KA):Prop:=r.toList.Perm T/\Srt (lr rk) r.toList
abbrev Lo(rk:bO->Nat)(a b:KA)(T:List bO)(o:KA)(i j:Nat):Prop:=ML (lr rk) T o.toList (a.toList.drop i)<|b.toList.drop j
structure Iv(rk:bO->Nat)(a b:KA)(T:List bO)(o:KA)(i j:Nat):Prop where
 m:Lo rk a b T o i j
 hi:i+1<a.size
 hj:j<b.size
 z:o.size=i+j
variable{a b:KA}{T:List bO}
def QL(h:Lo rk a b T o i j)(hj:(j == b.size)=am):Res rk T (dn a b o i j):=by
 have hj:=beq_iff_eq.mp hj;unfold Lo at h;rw[hj,<-aE,dJ]at h;have:=h.fin;unfold Res dn;rw[cf,cf,Xr,Xr,hj,<-aE,dJ,cg];exact this
def qN(h:Lo rk a b T o i j)(hi:(i == a.size)=am):Res rk T (dn a b o i j):=by
 have hi:=beq_iff_eq.mp hi;unfold Lo at h;rw[hi,<-aE,dJ]at h;have:=h.swap.fin;unfold Res dn;rw[cf,cf,Xr,Xr,hi,<-aE,dJ,cg];exact this
theorem QG(G:Mg κ In rk a b T)(h:Lo rk a b T o i j)(hi:(i+1 == a.size)=am):Res rk T (ls a b o i j):=by
 have hi:=beq_iff_eq.mp hi;have e:a.size-1=i:=by lia
 have:=(ML.bs (by rw[cg];exact h) λy hy x hx=>G.last y (bP hy) x<|by rw[e];exact hx).fin
 unfold Res ls;rw[cf,cf,Xr,Xr];exact this
def wf(h:Lo rk a b T o i j)(hj:j<b.size)(hy:∀x∈a.toList.drop i,rk b[j]<rk x):Lo rk a b T (o.push b[j]) i (j+1):=by
 unfold Lo at h ⊢;rw[ZU hj]at h;rw[d5];exact ML.bs h λx hx y hy'=>by rw[bz.mp hx];exact hy y hy'
def Zak(h:Lo rk a b T o i j)(hi:i<a.size)(hx:∀y∈b.toList.drop j,rk a[i]<rk y):Lo rk a b T (o.push a[i]) (i+1) j:=by
 unfold Lo at h ⊢;rw[ZU hi]at h;rw[d5];exact ML.as h λx hx' y hy'=>by rw[bz.mp hx'];exact hx y hy'
def z8(h:Srt (lr rk) (x::l))(hx:rk y<rk x):∀z∈x::l,rk y<rk z:=λz hz=>by
 rcases az.mp hz with rfl|hz
 .exact hx
 .exact c7 hx<|(bg.mp h).1 z hz
def Vv(h:m<n)(q:¬(m+1 == n)=am):m+1<n:=fK h λz=>q<|beq_iff_eq.mpr z
theorem Zda(O:Od prog w A E s κ In rk)(G:Mg κ In rk a b T){g ca cb:Nat}{r0:Option KA}{τ:bL}{Q:ForInStep T2->bL->Prop}(hk:kindOf τ=κ)(I:Iv rk a b T o i j)
  (hd:∀r c,Res rk T r->Q (.done (aa r,c)) τ)(hb:∀o' i' j' ca cb,Iv rk a b T o' i' j'->o'.size=o.size+1->Q (.done (ae,o',i',j',ca,cb)) τ/\Q (.yield (ae,o',i',j',ca,cb)) τ):kI (aV prog w) A E s (F1 a b g (r0,o,i,j,ca,cb)) Q τ:=by
 have hi:=dz I.hi;have ha:a[i]∈a.toList.drop i:=by rw[ZU hi];exact al ..
 have hb':b[j]'I.hj∈b.toList.drop j:=by rw[ZU I.hj];exact al ..
 have sa:=I.m.sa;have sb:=I.m.sb;rw[ZU hi]at sa;rw[ZU I.hj]at sb;refine aI<|Zy (ZG I.hj)<|aI<|Zy (ZG hi)<|aI<|O.ask (G.ib _<|bP hb') (G.ia _<|bP ha) hk ?_;by_cases c:rk (b[j]'I.hj)<rk a[i]
 .rw[T5 c]
  refine aI<|Zy (ZG I.hj) ?_;have m:=wf I.m I.hj (by rw[ZU hi];exact z8 sa c)
  have z:(o.push<|b[j]'I.hj).size=o.size+1:=dC ..;refine Zx (λq=>aP<|hd _ _<|QL m q) λq=>?_
  have h:=hb _ _ _ 0 (cb+1) #[m,I.hi,Vv I.hj q,by rw[z,I.z];lia] z
  exact Zx (λ_=>aP h.1) λ_=>aP h.2
 .rw[T4 c]
  refine aI<|Zy (ZG hi) ?_;have c':=fK (dH c)<|I.m.ne G.nd ha hb';have m:=Zak I.m hi (by rw[ZU I.hj];exact z8 sb c')
  have z:(o.push a[i]).size=o.size+1:=dC ..;refine Zx (λq=>aP<|hd _ _<|QG G m q) λq=>?_
  have h:=hb _ _ _ (ca+1) 0 #[m,Vv I.hi q,I.hj,by rw[z,I.z];lia] z
  exact Zx (λ_=>aP h.1) λ_=>aP h.2
theorem Sg.trans(h:Sg s1 s2)(k:Sg s2 s3):Sg s1 s3:=#[k.1.trans h.1,k.2.1.trans h.2.1,k.2.2.1.trans h.2.2.1,k.2.2.2.trans h.2.2.2]
def Ve{Q:Unit->bL->Prop}(h:∀st',Sg τ st'->Q () st'):kI (aV prog w) A E s (Ui g) Q τ:=by
 rw[vH];exact eE<|h _ #[rfl,rfl,rfl,rfl]
section
variable(O:Od prog w A E s κ In rk)(G:Mg κ In rk a b T)
include O G
theorem ZaG{g ca cb:Nat}{τ:bL}(m:Lo rk a b T o i j)(hi:i+1<a.size)(hj:j<b.size)(z:o.size=i+j)(hx:∀y∈b.toList.drop j,rk a[i]<rk y)
  (hd:∀r c,Res rk T r->Q (.done (aa r,c)) τ)(hb:∀o' i' j' g ca cb,Iv rk a b T o' i' j'->o'.size=o.size+1->Q (.done (ae,o',i',j',g,ca,cb)) τ/\Q (.yield (ae,o',i',j',g,ca,cb)) τ):kI (aV prog w) A E s (G3 a b g ca cb i o j) Q τ:=by
 have hi':=dz hi;refine aI<|Zy (ZG hi') ?_;have m:=Zak m hi' hx;have z':(o.push a[i]).size=o.size+1:=dC ..;refine Zx (λq=>aP<|hd _ _<|QG G m q) λq=>?_
 have h:=hb _ _ _ g ca cb #[m,Vv hi q,hj,by rw[z',z];lia] z'
 exact Zx (λ_=>aP h.1) λ_=>aP h.2
theorem Zaq{g ca cb:Nat}{τ:bL}(hk:kindOf τ=κ)(m:Lo rk a b T o i j)(hi:i+1<a.size)(hj:j<b.size)(z:o.size=i+j)(hy:∀x∈a.toList.drop i,rk b[j]<rk x)
  (hd:∀r c,Res rk T r->Q (.done (aa r,c)) τ)(hb:∀o' i' j' g ca cb,Iv rk a b T o' i' j'->o.size<o'.size->Q (.done (ae,o',i',j',g,ca,cb)) τ/\Q (.yield (ae,o',i',j',g,ca,cb)) τ):kI (aV prog w) A E s (G2 a b g ca cb j o i) Q τ:=by
 have hi':=dz hi;refine aI<|Zy (ZG hj) ?_;have m:=wf m hj hy;have z':(o.push b[j]).size=o.size+1:=dC ..;refine Zx (λq=>aP<|hd _ _<|QL m q) λq=>?_
 have hj:=Vv hj q;have ha:a[i]∈a.toList.drop i:=by rw[ZU hi'];exact al ..
 refine aI<|Zy (ZG hi')<|aI<|zv O hk (G.ia _<|bP ha) hj G.ib m.sb (λy hy=>(m.ne G.nd ha hy).symm) λr hr h1 h2=>?_
 refine Zx (λ_=>?_) λc=>?_
 .have m2:Lo rk a b T (o.push b[j]++b.extract (j+1) (j+1+r)) i (j+1+r):=by
   unfold Lo;rw[cf,zZ];refine ML.bs ?_ λy hy x hx=>?_
   .rw[td];exact m
   .have sa:=m.sa
    rw[ZU hi']at sa hx;exact z8 sa (h1 y hy) x hx
  have z2:(o.push b[j]++b.extract (j+1) (j+1+r)).size=o.size+1+r:=by rw[fY,z',fL];lia
  refine Zx (λq=>aP<|hd _ _<|QL m2 q) λq=>?_
  have hj2:=fK hr λz=>q<|beq_iff_eq.mpr z
  exact ZaG O G m2 hi hj2 (by rw[z2,z];lia) h2 hd λo' i' j' g ca cb I e=>hb o' i' j' g ca cb I (by lia)
 .have e:r=0:=by lia
  subst e;exact ZaG O G m hi hj (by rw[z',z];lia) h2 hd λo' i' j' g ca cb I e=>hb o' i' j' g ca cb I (by lia)
theorem Zaw{g ca cb:Nat}{τ:bL}(hk:kindOf τ=κ)(I:Iv rk a b T o i j)
  (hd:∀r c st',Sg τ st'->Res rk T r->Q (.done (aa r,c)) st')(hb:∀o' i' j' g ca cb st',Sg τ st'->Iv rk a b T o' i' j'->o.size<o'.size->Q (.done (ae,o',i',j',g,ca,cb)) st'/\Q (.yield (ae,o',i',j',g,ca,cb)) st'):kI (aV prog w) A E s (G1 a b o i j ca cb g) Q τ:=by
 obtain⟨m,hi,hj,z⟩:=I;have hi':=dz hi;have hb':b[j]∈b.toList.drop j:=by rw[ZU hj];exact al ..
 refine aI<|Ve λst' sg=>aI<|Zy (ZG hj)<|aI<|zv O (sg.1.trans hk) (G.ib _<|bP hb') hi' G.ia m.sa (λx hx=>m.ne G.nd hx hb') λr hr h1 h2=>?_
 refine Zx (λ_=>?_) λc=>?_
 .have m2:Lo rk a b T (o++a.extract i (i+r)) (i+r) j:=by
   unfold Lo;rw[cf,zZ];refine ML.as ?_ λx hx y hy=>?_
   .rw[td];exact m
   .have sb:=m.sb
    rw[ZU hj]at sb hy;exact z8 sb (h1 x hx) y hy
  have z2:(o++a.extract i (i+r)).size=o.size+r:=by rw[fY,fL];lia
  refine Zx (λq=>aP<|hd _ _ st' sg<|QG G m2 q) λq=>Zx (λq=>aP<|hd _ _ st' sg<|qN m2 q) λq2=>?_
  have q2:i+r≠a.size:=λz=>q2<|beq_iff_eq.mpr z
  exact Zaq O G (sg.1.trans hk) m2 (Vv (by lia) q) hj (by rw[z2,z];lia) h2 (λr c=>hd r c st' sg) λo' i' j' g ca cb I e=>hb o' i' j' g ca cb st' sg I (by lia)
 .have e:r=0:=by lia
  subst e;exact Zaq O G (sg.1.trans hk) m hi hj z h2 (λr c=>hd r c st' sg) λo' i' j' g ca cb I e=>hb o' i' j' g ca cb st' sg I (by lia)
theorem Zc3{g ca cb:Nat}{r0:Option KA}{τ:bL}(hk:kindOf τ=κ)(I:Iv rk a b T o i j)
  (hd:∀r c st',Sg τ st'->Res rk T r->Q (.done (aa r,c)) st')(hb:∀o' i' j' g ca cb st',Sg τ st'->Iv rk a b T o' i' j'->o.size<o'.size->Q (.done (ae,o',i',j',g,ca,cb)) st'/\Q (.yield (ae,o',i',j',g,ca,cb)) st'):kI (aV prog w) A E s (F2 a b (r0,o,i,j,g,ca,cb)) Q τ:=by
 exact Zx (λ_=>Zaw O G hk I hd hb) λ_=>Zaw O G hk I hd hb
theorem Zdy{Q:ForInStep T1->bL->Prop}(hk:kindOf τ=κ)(I:Iv rk a b T o i j)
  (hd:∀r c st',Sg τ st'->Res rk T r->Q (.done (aa r,c)) st')(hy:∀o' i' j' g st',Sg τ st'->Iv rk a b T o' i' j'->o.size<o'.size->Q (.yield (ae,o',i',j',g)) st'):kI (aV prog w) A E s (F0 a b (r0,o,i,j,g)) Q τ:=by
 refine aI (d3 (cc
  (I:=λx (c:T2) st'=>st'=τ/\c.1=ae/\Iv rk a b T c.2.1 c.2.2.1 c.2.2.2.1/\o.size+x<=c.2.1.size)
  (Q:=λ(c:T2) st'=>st'=τ/\((∃r,c.1=aa r/\Res rk T r)\/c.1=ae/\Iv rk a b T c.2.1 c.2.2.1 c.2.2.2.1/\o.size<c.2.1.size)) ?_ ?_ #[rfl,rfl,I,aA _]) ?_)
 .rintro x ⟨r,o',i',j',ca,cb⟩ st' _ _ ⟨rfl,rfl,I',hz⟩
  exact Zda O G hk I' (λr c h=>#[rfl,.inl #[r,rfl,h]]) λo2 i2 j2 ca cb I2 e=>#[#[rfl,.inr #[rfl,I2,by dsimp only at hz ⊢;lia]],rfl,rfl,I2,by dsimp only at hz ⊢;lia]
 .rintro ⟨r,o',i',j',ca,cb⟩ st' ⟨rfl,rfl,I',hz⟩
  have:=I'.hi;have:=I'.hj;have:=I'.z;lia
 .rintro ⟨r,o',i',j',ca,cb⟩ st' ⟨rfl,⟨r',rfl,h⟩|⟨rfl,I',hz⟩⟩
  .exact aP<|hd _ _ _ #[rfl,rfl,rfl,rfl] h
  .dsimp only at I' hz
   refine aI (Xw (aI (d3 (cc
    (I:=λx (c:T3) st''=>Sg st' st''/\c.1=ae/\Iv rk a b T c.2.1 c.2.2.1 c.2.2.2.1/\o'.size+x<=c.2.1.size)
    (Q:=λ(c:T3) st''=>Sg st' st''/\((∃r,c.1=aa r/\Res rk T r)\/c.1=ae/\Iv rk a b T c.2.1 c.2.2.1 c.2.2.2.1/\o'.size<c.2.1.size)) ?_ ?_ #[#[rfl,rfl,rfl,rfl],rfl,I',aA _]) ?_)))
   .rintro x ⟨r,o2,i2,j2,g,ca,cb⟩ st2 _ _ ⟨sg,rfl,I2,hz2⟩
    dsimp only at I2 hz2
    exact Zc3 O G (sg.1.trans hk) I2 (λr c st3 s3 h=>#[sg.trans s3,.inl #[r,rfl,h]]) λo3 i3 j3 g ca cb st3 s3 I3 e=>#[#[sg.trans s3,.inr #[rfl,I3,by dsimp only;lia]],sg.trans s3,rfl,I3,by dsimp only;lia]
   .rintro ⟨r,o2,i2,j2,g,ca,cb⟩ st2 ⟨sg,rfl,I2,hz2⟩
    have:=I2.hi;have:=I2.hj;have:=I2.z;lia
   .rintro ⟨r,o2,i2,j2,g,ca,cb⟩ st2 ⟨sg,⟨r',rfl,h⟩|⟨rfl,I2,hz2⟩⟩
    .exact aP<|hd _ _ _ sg h
    .exact aI<|Ve λst3 s3=>aP<|hy _ _ _ _ _ (sg.trans s3) I2<|c7 hz hz2
theorem GQ{τ:bL}{Q:KA->bL->Prop}(hk:kindOf τ=κ)(ha:0<a.size)(hb:0<b.size)(sa:Srt (lr rk) a.toList)(sb:Srt (lr rk) b.toList)(hT:(a.toList++b.toList).Perm T)(h0:∀x∈a.toList,rk b[0]<rk x)
  (hq:∀r st',Sg τ st'->Res rk T r->Q r st'):kI (aV prog w) A E s (Vj a b) Q τ:=by
 rw[Jg];refine aI<|Xw<|aI<|Zy (ZG hb) ?_;have m0:Lo rk a b T #[] 0 0:=#[by simpa using hT,.nil,by simpa using sa,by simpa using sb,λx hx=>by cases hx]
 have m:=wf m0 hb (by simpa using h0)
 have sg0:Sg τ τ:=#[rfl,rfl,rfl,rfl];refine Zx (λq=>aP<|hq _ _ sg0<|QL m q) λq1=>Zx (λq=>aP<|hq _ _ sg0<|QG G m q) λq2=>aI (fZ (aI (d3 (cc
  (I:=λx (c:T1) st''=>Sg τ st''/\c.1=ae/\Iv rk a b T c.2.1 c.2.2.1 c.2.2.2.1/\x<=c.2.1.size)
  (Q:=λ(c:T1) st''=>Sg τ st''/\∃r,c.1=aa r/\Res rk T r) ?_ ?_ #[sg0,rfl,#[m,Vv ha q2,Vv hb q1,rfl],cJ _]) ?_)))
 .rintro x ⟨r,o,i,j,g⟩ st2 _ _ ⟨sg,rfl,I,hz⟩
  dsimp only at I hz
  exact Zdy O G (sg.1.trans hk) I (λr c st3 s3 h=>#[sg.trans s3,r,rfl,h]) λo3 i3 j3 g st3 s3 I3 e=>#[sg.trans s3,rfl,I3,by dsimp only;lia]
 .rintro ⟨r,o,i,j,g⟩ st2 ⟨sg,rfl,I,hz⟩
  have:=I.hi;have:=I.hj;have:=I.z;lia
 .rintro ⟨r,o,i,j,g⟩ st2 ⟨sg,r',rfl,h⟩
  exact aP<|hq _ _ sg h
end
end
noncomputable def Vy:KA->KA->SM KA:=sortPriv% PySem.Builtin.mergeHi
noncomputable abbrev dh(a b o:KA)(i j:Nat):KA:=a.extract 0 i++b.extract 0 j++o.reverse
noncomputable abbrev fh(a b o:KA)(i j:Nat):KA:=b.extract 0 j++a.extract 0 i++o.reverse
noncomputable abbrev U1:=Option KA×Nat×Nat×KA×Nat
noncomputable abbrev U2:=Option KA×Nat×Nat×KA×Nat×Nat
noncomputable abbrev U3:=Option KA×Nat×Nat×KA×Nat×Nat×Nat
noncomputable def H1(a b:KA)(g:Nat)(c:U2):SM (ForInStep U2):=do
 let i:=c.2.1
 let j:=c.2.2.1
 let o:=c.2.2.2.1
 let ca:=c.2.2.2.2.1
 let cb:=c.2.2.2.2.2
 let aa t <-lt' (<-fq b (j-1)) (<-fq a (i-1))|return .done (aa<|dh a b o i j,i,j,o,ca,cb)
 if t then
  let i:=i-1
  let o:=o.push<|<-fq a i
  if i == 0 then return .done (aa<|dh a b o i j,i,j,o,ca+1,0)
  if ca+1>=g then return .done (ae,i,j,o,ca+1,0)
  return .yield (ae,i,j,o,ca+1,0)
 else
  let j:=j-1
  let o:=o.push<|<-fq b j
  if j == 1 then return .done (aa<|fh a b o i j,i,j,o,0,cb+1)
  if cb+1>=g then return .done (ae,i,j,o,0,cb+1)
  return .yield (ae,i,j,o,0,cb+1)
noncomputable def K3(a b:KA)(g ca cb i:Nat)(o:KA)(j:Nat):SM (ForInStep U3):=do
 let i:=i-1
 let o:=o.push<|<-fq a i
 if i == 0 then return .done (aa<|dh a b o i j,i,j,o,g,ca,cb)
 if ca<7&&cb<7 then return .done (ae,i,j,o,g,ca,cb)
 return .yield (ae,i,j,o,g,ca,cb)
noncomputable def K2(a b:KA)(g ca cb j:Nat)(o:KA)(i:Nat):SM (ForInStep U3):=do
 let j:=j-1
 let o:=o.push<|<-fq b j
 if j == 1 then return .done (aa<|fh a b o i j,i,j,o,g,ca,cb)
 let aa t <-Z9 am (<-fq a (i-1)) b 0 j (j-1)|return .done (aa<|dh a b o i j,i,j,o,g,ca,cb)
 if j-t>0 then
  let o:=o++(b.extract t j).reverse
  if t == 1 then return .done (aa<|fh a b o i t,i,t,o,g,ca,j-t)
  else if t == 0 then return .done (aa<|dh a b o i t,i,t,o,g,ca,j-t)
  else K3 a b g ca (j-t) i o t
 else K3 a b g ca (j-t) i o j
noncomputable def K1(a b:KA)(o:KA)(i j ca cb g:Nat):SM (ForInStep U3):=do
 Ui g
 let aa t <-Z9 aj (<-fq b (j-1)) a 0 i (i-1)|return .done (aa<|dh a b o i j,i,j,o,g,ca,cb)
 if i-t>0 then
  let o:=o++(a.extract t i).reverse
  if t == 0 then return .done (aa<|dh a b o t j,t,j,o,g,i-t,cb)
  else K2 a b g (i-t) cb j o t
 else K2 a b g (i-t) cb j o i
noncomputable def H2(a b:KA)(c:U3):SM (ForInStep U3):=
 if c.2.2.2.2.1>1 then K1 a b c.2.2.2.1 c.2.1 c.2.2.1 c.2.2.2.2.2.1 c.2.2.2.2.2.2 (c.2.2.2.2.1-1)
 else K1 a b c.2.2.2.1 c.2.1 c.2.2.1 c.2.2.2.2.2.1 c.2.2.2.2.2.2 c.2.2.2.2.1
noncomputable def TT(n:Nat)(f1:Nat->U2->SM (ForInStep U2))(f2:U3->SM (ForInStep U3))(c:U1):SM (ForInStep U1):=do
 let d <-kO [0:n] ((ae,c.2.1,c.2.2.1,c.2.2.2.1,0,0):U2) λ_ d=>f1 c.2.2.2.2 d
 hV d.1 (λ_=>do
  mw "list.sort.gallop"
  let e <-kO [0:n] ((ae,d.2.1,d.2.2.1,d.2.2.2.1,c.2.2.2.2+1,d.2.2.2.2.1,d.2.2.2.2.2):U3) λ_ d=>f2 d
  hV e.1 (λ_=>do
   Ui (e.2.2.2.2.1+1)
   c0 (.yield (ae,e.2.1,e.2.2.1,e.2.2.2.1,e.2.2.2.2.1+1))) λr=>c0<|.done (aa r,e.2.1,e.2.2.1,e.2.2.2.1,e.2.2.2.2.1)) λr=>c0<|.done (aa r,d.2.1,d.2.2.1,d.2.2.2.1,c.2.2.2.2)
def JP(a b:KA):Vy a b=(do
 mw "list.sort.merge-hi"
 let x <-fq a (a.size-1)
 if a.size-1 == 0 then return dh a b #[x] (a.size-1) b.size
 if b.size == 1 then return fh a b #[x] (a.size-1) b.size
 let τ <-get
 let c <-kO [0:a.size+b.size] ((ae,a.size-1,b.size,#[x],gallopOf τ):U1) λ_ c=>TT (a.size+b.size) (H1 a b) (H2 a b) c
 hV c.1 (λ_=>mW "internal:list.sort.merge-bound") λr=>c0 r):=rfl
def ut{a:KA}{t i:Nat}:(a.extract t i).toList=(a.toList.take i).drop t:=by
 rw[gA,fu,List.drop_take]
noncomputable abbrev rv(a:KA)(i:Nat):List bO:=(a.toList.take i).reverse
def Wk{a:KA}{i:Nat}(h:0<i)(h2:i<=a.size):rv a i=a[i-1]::rv a (i-1):=by
 obtain⟨k,rfl⟩:∃k,i=k+1:=#[i-1,by lia]
 show(a.toList.take<|k+1).reverse=_;rw[List.take_succ_eq_append_getElem (by rw[aE];exact h2),k7];rfl
def wH{a:KA}{t i:Nat}(h:t<=i):rv a i=((a.toList.take i).drop t).reverse++rv a t:=by
 rw[<-k7];have:=cW t<|a.toList.take i;rw[nI,kB h]at this;rw[this]
section
variable{prog:bE}{w:bR}{A:cQ}{E:ap->aw->Prop}{s:aw}{κ:eY}{In:bO->Prop}{rk:bO->Nat}{a b:KA}{T:List bO}
abbrev Hi(rk:bO->Nat)(a b:KA)(T:List bO)(o:KA)(i j:Nat):Prop:=ML (gr rk) T o.toList (rv a i)<|rv b j
structure Ih(rk:bO->Nat)(a b:KA)(T:List bO)(o:KA)(i j:Nat):Prop where
 m:Hi rk a b T o i j
 i0:0<i
 i1:i<=a.size
 j0:1<j
 j1:j<=b.size
 z:o.size+i+j=a.size+b.size
def Qo{l:List bO}{r:KA}(h:l.Perm T/\Srt (gr rk) l)(e:r.toList=l.reverse):Res rk T r:=by
 unfold Res;rw[e];exact#[(d6 l).trans h.1,dR.mpr h.2]
def jn(h:Hi rk a b T o i j)(hi:(i == 0)=am):Res rk T (dh a b o i j):=by
 cases beq_iff_eq.mp hi;refine Qo (ML.fin h.swap) ?_;simp
def Zd0(h:Hi rk a b T o i j)(hj:(j == 0)=am):Res rk T (dh a b o i j):=by
 cases beq_iff_eq.mp hj;refine Qo (ML.fin h) ?_;simp
def Qe(fs:∀x∈a.toList,∀y∈b.toList.take 1,rk y<rk x)(h:Hi rk a b T o i j)(hj:(j == 1)=am):Res rk T (fh a b o i j):=by
 cases beq_iff_eq.mp hj;have:=(ML.as (by rw[cg];exact h) λx hx y hy=>fs x (cZ<|dL.mp hx) y<|dL.mp hy).swap.fin
 refine Qo this ?_;simp
def xV(h:Hi rk a b T o i j)(i0:0<i)(i1:i<=a.size)(hx:∀y∈rv b j,rk y<rk a[i-1]):Hi rk a b T (o.push a[i-1]) (i-1) j:=by
 unfold Hi at h ⊢;rw[Wk i0 i1]at h;rw[d5];exact ML.as h λx hx' y hy'=>by rw[bz.mp hx'];exact hx y hy'
def ZaF(h:Hi rk a b T o i j)(j0:0<j)(j1:j<=b.size)(hx:∀y∈rv a i,rk y<rk b[j-1]):Hi rk a b T (o.push b[j-1]) i (j-1):=by
 unfold Hi at h ⊢;rw[Wk j0 j1]at h;rw[d5];exact ML.bs h λx hx' y hy'=>by rw[bz.mp hx'];exact hx y hy'
def zu{l:List bO}{x y:bO}(h:Srt (gr rk) (x::l))(hx:rk x<rk y):∀z∈x::l,rk z<rk y:=λz hz=>by
 rcases az.mp hz with rfl|hz
 .exact hx
 .exact c7 ((bg.mp h).1 z hz) hx
theorem yq(O:Od prog w A E s κ In rk){lf:Bool}{k:bO}{ar:KA}{n:Nat}{τ:bL}{Q:Option Nat->bL->Prop}(hk:kindOf τ=κ)(ik:In k)(hn:0<n)(h1:n<=ar.size)(ia:∀x∈ar.toList,In x)(so:Srt (gr rk) (rv ar n))(ne:∀x∈rv ar n,rk x≠rk k)
  (hq:∀r,r<=n->(∀x∈rv ar r,rk x<rk k)->(∀x∈((ar.toList.take n).drop r).reverse,rk k<rk x)->Q (aa r) τ):kI (aV prog w) A E s (Z9 lf k ar 0 n<|n-1) Q τ:=by
 refine zD O hk ik (Nat.sub_lt hn Nat.one_pos) (by lia) ia (dR.mp so) (λx hx=>ne x<|dL.mpr hx) λr h2 h3 h4=>hq r h2 (λx hx=>h3 x ?_) λx hx=>h4 x<|dL.mp hx
 have hx:=dL.mp hx;rw[nI,kB h2];exact hx
def Vg{a:KA}{i:Nat}(i0:0<i)(i1:i<=a.size):a[i-1]∈rv a i:=by rw[Wk i0 i1];exact al ..
def JE{a:KA}{i:Nat}{x:bO}(h:x∈rv a i):x∈a.toList:=cZ<|dL.mp h
section
variable(O:Od prog w A E s κ In rk)(G:Mg κ In rk a b T)(fs:∀x∈a.toList,∀y∈b.toList.take 1,rk y<rk x)
include O G fs
theorem Zdo{g ca cb:Nat}{r0:Option KA}{τ:bL}{Q:ForInStep U2->bL->Prop}(hk:kindOf τ=κ)(I:Ih rk a b T o i j)
  (hd:∀r c,Res rk T r->Q (.done (aa r,c)) τ)(hb:∀o' i' j' ca cb,Ih rk a b T o' i' j'->o'.size=o.size+1->Q (.done (ae,i',j',o',ca,cb)) τ/\Q (.yield (ae,i',j',o',ca,cb)) τ):kI (aV prog w) A E s (H1 a b g (r0,i,j,o,ca,cb)) Q τ:=by
 obtain⟨m,i0,i1,j0,j1,z⟩:=I;have j0':=dz j0;have hja:j-1<b.size:=by lia
 have hia:i-1<a.size:=by lia
 have ha:=Vg i0 i1;have hb':=Vg j0' j1;have sa:=m.sa;have sb:=m.sb;rw[Wk i0 i1]at sa;rw[Wk j0' j1]at sb;refine aI<|Zy (ZG hja)<|aI<|Zy (ZG hia)<|aI<|O.ask (G.ib _<|JE hb') (G.ia _<|JE ha) hk ?_;by_cases c:rk b[j-1]<rk a[i-1]
 .rw[T5 c]
  refine aI<|Zy (ZG hia) ?_;have m:=xV m i0 i1 (by rw[Wk j0' j1];exact zu sb c)
  have z':(o.push a[i-1]).size=o.size+1:=dC ..;refine Zx (λq=>aP<|hd _ _<|jn m q) λq=>?_
  have q:i-1≠0:=λz=>q<|beq_iff_eq.mpr z
  have h:=hb _ _ _ (ca+1) 0 #[m,by lia,by lia,j0,j1,by lia] z'
  exact Zx (λ_=>aP h.1) λ_=>aP h.2
 .rw[T4 c]
  refine aI<|Zy (ZG hja) ?_;have c':=fK (dH c)<|m.ne G.nd ha hb';have m:=ZaF m j0' j1 (by rw[Wk i0 i1];exact zu sa c')
  have z':(o.push b[j-1]).size=o.size+1:=dC ..;refine Zx (λq=>aP<|hd _ _<|Qe fs m q) λq=>?_
  have q:j-1≠1:=λz=>q<|beq_iff_eq.mpr z
  have h:=hb _ _ _ 0 (cb+1) #[m,i0,i1,by lia,by lia,by lia] z'
  exact Zx (λ_=>aP h.1) λ_=>aP h.2
theorem Zao{g ca cb:Nat}{τ:bL}(I:Ih rk a b T o i j)(hx:∀y∈rv b j,rk y<rk (a[i-1]'(by have:=I.i0;have:=I.i1;lia)))
  (hd:∀r c,Res rk T r->Q (.done (aa r,c)) τ)(hb:∀o' i' j' g ca cb,Ih rk a b T o' i' j'->o'.size=o.size+1->Q (.done (ae,i',j',o',g,ca,cb)) τ/\Q (.yield (ae,i',j',o',g,ca,cb)) τ):kI (aV prog w) A E s (K3 a b g ca cb i o j) Q τ:=by
 obtain⟨m,i0,i1,j0,j1,z⟩:=I;refine aI<|Zy (ZG<|by lia) ?_
 have m:=xV m i0 i1 hx;have z':(o.push a[i-1]).size=o.size+1:=dC ..;refine Zx (λq=>aP<|hd _ _<|jn m q) λq=>?_
 have q:i-1≠0:=λz=>q<|beq_iff_eq.mpr z
 have h:=hb _ _ _ g ca cb #[m,by lia,by lia,j0,j1,by lia] z'
 exact Zx (λ_=>aP h.1) λ_=>aP h.2
theorem Zai{g ca cb:Nat}{τ:bL}(hk:kindOf τ=κ)(I:Ih rk a b T o i j)(hy:∀y∈rv a i,rk y<rk (b[j-1]'(by have:=I.j0;have:=I.j1;lia)))
  (hd:∀r c,Res rk T r->Q (.done (aa r,c)) τ)(hb:∀o' i' j' g ca cb,Ih rk a b T o' i' j'->o.size<o'.size->Q (.done (ae,i',j',o',g,ca,cb)) τ/\Q (.yield (ae,i',j',o',g,ca,cb)) τ):kI (aV prog w) A E s (K2 a b g ca cb j o i) Q τ:=by
 obtain⟨m,i0,i1,j0,j1,z⟩:=I;refine aI<|Zy (ZG<|by lia) ?_
 have m:=ZaF m (dz j0) j1 hy;have z':(o.push b[j-1]).size=o.size+1:=dC ..;refine Zx (λq=>aP<|hd _ _<|Qe fs m q) λq=>?_
 have q:j-1≠1:=λz=>q<|beq_iff_eq.mpr z
 have ha:=Vg i0 i1;refine aI<|Zy (ZG<|by lia)<|aI<|yq O hk (G.ia _<|JE ha) (by lia) (by lia) G.ib m.sb (λy hy=>(m.ne G.nd ha hy).symm) λr hr h1 h2=>?_
 refine Zx (λc=>?_) λc=>?_
 .have m2:Hi rk a b T (o.push b[j-1]++(b.extract r<|j-1).reverse) i r:=by
   unfold Hi;rw[cf,kS,ut];refine ML.bs ?_ λy hy x hx=>?_
   .rw[<-wH hr];exact m
   .have sa:=m.sa
    rw[Wk i0 i1]at sa hx;exact zu sa (h2 y hy) x hx
  have z2:(o.push b[j-1]++(b.extract r<|j-1).reverse).size=o.size+1+(j-1-r):=by rw[fY,z',lK,fL];lia
  refine Zx (λq=>aP<|hd _ _<|Qe fs m2 q) λq1=>Zx (λq=>aP<|hd _ _<|Zd0 m2 q) λq2=>?_
  have q1:r≠1:=λz=>q1<|beq_iff_eq.mpr z
  have q2:r≠0:=λz=>q2<|beq_iff_eq.mpr z
  exact Zao O G fs #[m2,i0,i1,by lia,by lia,by lia] h1 hd λo' i' j' g ca cb I e=>hb o' i' j' g ca cb I (by lia)
 .have e:r=j-1:=by lia
  subst e;exact Zao O G fs #[m,i0,i1,by lia,by lia,by lia] h1 hd λo' i' j' g ca cb I e=>hb o' i' j' g ca cb I (by lia)
theorem ZaA{g ca cb:Nat}{τ:bL}(hk:kindOf τ=κ)(I:Ih rk a b T o i j)
  (hd:∀r c st',Sg τ st'->Res rk T r->Q (.done (aa r,c)) st')(hb:∀o' i' j' g ca cb st',Sg τ st'->Ih rk a b T o' i' j'->o.size<o'.size->Q (.done (ae,i',j',o',g,ca,cb)) st'/\Q (.yield (ae,i',j',o',g,ca,cb)) st'):kI (aV prog w) A E s (K1 a b o i j ca cb g) Q τ:=by
 obtain⟨m,i0,i1,j0,j1,z⟩:=I;have j0':=dz j0;have hb':=Vg j0' j1;refine aI<|Ve λst' sg=>aI<|Zy (ZG<|by lia)<|aI<|yq O (sg.1.trans hk) (G.ib _<|JE hb') i0 i1 G.ia m.sa (λx hx=>m.ne G.nd hx hb') λr hr h1 h2=>?_
 refine Zx (λc=>?_) λc=>?_
 .have m2:Hi rk a b T (o++(a.extract r i).reverse) r j:=by
   unfold Hi;rw[cf,kS,ut];refine ML.as ?_ λx hx y hy=>?_
   .rw[<-wH hr];exact m
   .have sb:=m.sb
    rw[Wk j0' j1]at sb hy;exact zu sb (h2 x hx) y hy
  have z2:(o++(a.extract r i).reverse).size=o.size+(i-r):=by rw[fY,lK,fL];lia
  refine Zx (λq=>aP<|hd _ _ st' sg<|jn m2 q) λq=>?_
  have q:r≠0:=λz=>q<|beq_iff_eq.mpr z
  exact Zai O G fs (sg.1.trans hk) #[m2,by lia,by lia,j0,j1,by lia] h1 (λr c=>hd r c st' sg) λo' i' j' g ca cb I e=>hb o' i' j' g ca cb st' sg I (by lia)
 .have e:r=i:=by lia
  subst e;exact Zai O G fs (sg.1.trans hk) #[m,i0,i1,j0,j1,z] h1 (λr c=>hd r c st' sg) λo' i' j' g ca cb I e=>hb o' i' j' g ca cb st' sg I (by lia)
theorem Zc7{g ca cb:Nat}{r0:Option KA}{τ:bL}(hk:kindOf τ=κ)(I:Ih rk a b T o i j)
  (hd:∀r c st',Sg τ st'->Res rk T r->Q (.done (aa r,c)) st')(hb:∀o' i' j' g ca cb st',Sg τ st'->Ih rk a b T o' i' j'->o.size<o'.size->Q (.done (ae,i',j',o',g,ca,cb)) st'/\Q (.yield (ae,i',j',o',g,ca,cb)) st'):kI (aV prog w) A E s (H2 a b (r0,i,j,o,g,ca,cb)) Q τ:=by
 exact Zx (λ_=>ZaA O G fs hk I hd hb) λ_=>ZaA O G fs hk I hd hb
theorem ZcT{g:Nat}{r0:Option KA}{τ:bL}{Q:ForInStep U1->bL->Prop}(hk:kindOf τ=κ)(I:Ih rk a b T o i j)
  (hd:∀r c st',Sg τ st'->Res rk T r->Q (.done (aa r,c)) st')(hy:∀o' i' j' g st',Sg τ st'->Ih rk a b T o' i' j'->o.size<o'.size->Q (.yield (ae,i',j',o',g)) st'):kI (aV prog w) A E s (TT (a.size+b.size) (H1 a b) (H2 a b) (r0,i,j,o,g)) Q τ:=by
 refine aI (d3 (cc
  (I:=λx (c:U2) st'=>st'=τ/\c.1=ae/\Ih rk a b T c.2.2.2.1 c.2.1 c.2.2.1/\o.size+x<=c.2.2.2.1.size)
  (Q:=λ(c:U2) st'=>st'=τ/\((∃r,c.1=aa r/\Res rk T r)\/c.1=ae/\Ih rk a b T c.2.2.2.1 c.2.1 c.2.2.1/\o.size<c.2.2.2.1.size)) ?_ ?_ #[rfl,rfl,I,aA _]) ?_)
 .rintro x ⟨r,i',j',o',ca,cb⟩ st' _ _ ⟨rfl,rfl,I',hz⟩
  exact Zdo O G fs hk I' (λr c h=>#[rfl,.inl #[r,rfl,h]]) λo2 i2 j2 ca cb I2 e=>#[#[rfl,.inr #[rfl,I2,by dsimp only at hz ⊢;lia]],rfl,rfl,I2,by dsimp only at hz ⊢;lia]
 .rintro ⟨r,i',j',o',ca,cb⟩ st' ⟨rfl,rfl,I',hz⟩
  have:=I'.i0;have:=I'.j0;have:=I'.z;lia
 .rintro ⟨r,i',j',o',ca,cb⟩ st' ⟨rfl,⟨r',rfl,h⟩|⟨rfl,I',hz⟩⟩
  .exact aP<|hd _ _ _ #[rfl,rfl,rfl,rfl] h
  .dsimp only at I' hz
   refine aI (Xw (aI (d3 (cc
    (I:=λx (c:U3) st''=>Sg st' st''/\c.1=ae/\Ih rk a b T c.2.2.2.1 c.2.1 c.2.2.1/\o'.size+x<=c.2.2.2.1.size)
    (Q:=λ(c:U3) st''=>Sg st' st''/\((∃r,c.1=aa r/\Res rk T r)\/c.1=ae/\Ih rk a b T c.2.2.2.1 c.2.1 c.2.2.1/\o'.size<c.2.2.2.1.size)) ?_ ?_ #[#[rfl,rfl,rfl,rfl],rfl,I',aA _]) ?_)))
   .rintro x ⟨r,i2,j2,o2,g,ca,cb⟩ st2 _ _ ⟨sg,rfl,I2,hz2⟩
    dsimp only at I2 hz2
    exact Zc7 O G fs (sg.1.trans hk) I2 (λr c st3 s3 h=>#[sg.trans s3,.inl #[r,rfl,h]]) λo3 i3 j3 g ca cb st3 s3 I3 e=>#[#[sg.trans s3,.inr #[rfl,I3,by dsimp only;lia]],sg.trans s3,rfl,I3,by dsimp only;lia]
   .rintro ⟨r,i2,j2,o2,g,ca,cb⟩ st2 ⟨sg,rfl,I2,hz2⟩
    have:=I2.i0;have:=I2.j0;have:=I2.z;lia
   .rintro ⟨r,i2,j2,o2,g,ca,cb⟩ st2 ⟨sg,⟨r',rfl,h⟩|⟨rfl,I2,hz2⟩⟩
    .exact aP<|hd _ _ _ sg h
    .exact aI<|Ve λst3 s3=>aP<|hy _ _ _ _ _ (sg.trans s3) I2<|c7 hz hz2
theorem Gp{τ:bL}{Q:KA->bL->Prop}(hk:kindOf τ=κ)(ha:0<a.size)(hb:0<b.size)(sa:Srt (lr rk) a.toList)(sb:Srt (lr rk) b.toList)(hT:(a.toList++b.toList).Perm T)
  (hq:∀r st',Sg τ st'->Res rk T r->Q r st'):kI (aV prog w) A E s (Vy a b) Q τ:=by
 rw[JP];refine aI<|Xw<|aI<|Zy (ZG<|by lia) ?_
 have ea:rv a a.size=a.toList.reverse:=by show(a.toList.take a.size).reverse=_;rw[<-aE,gg]
 have eb:rv b b.size=b.toList.reverse:=by show(b.toList.take b.size).reverse=_;rw[<-aE,gg]
 have m0:Hi rk a b T #[] a.size b.size:=by
  unfold Hi;rw[ea,eb];exact#[by simpa using((d6 _).append<|d6 _).trans hT,.nil,dR.mpr sa,dR.mpr sb,λx hx=>by cases hx]
 have m:=xV m0 ha (aA _) λy hy=>G.last y (JE hy) _ (by rw[ZU (by lia)];exact al ..)
 have sg0:Sg τ τ:=#[rfl,rfl,rfl,rfl];refine Zx (λq=>aP<|hq _ _ sg0<|jn m q) λq1=>Zx (λq=>aP<|hq _ _ sg0<|Qe fs m q) λq2=>?_
 have q1:a.size-1≠0:=λz=>q1<|beq_iff_eq.mpr z
 have q2:b.size≠1:=λz=>q2<|beq_iff_eq.mpr z
 refine aI (fZ (aI (d3 (cc
  (I:=λx (c:U1) st''=>Sg τ st''/\c.1=ae/\Ih rk a b T c.2.2.2.1 c.2.1 c.2.2.1/\x<=c.2.2.2.1.size)
  (Q:=λ(c:U1) st''=>Sg τ st''/\∃r,c.1=aa r/\Res rk T r) ?_ ?_ #[sg0,rfl,#[m,by dsimp only;lia,by dsimp only;lia,by dsimp only;lia,aA _,by show 1+(a.size-1)+b.size=_;lia],cJ _]) ?_)))
 .rintro x ⟨r,i,j,o,g⟩ st2 _ _ ⟨sg,rfl,I,hz⟩
  dsimp only at I hz
  exact ZcT O G fs (sg.1.trans hk) I (λr c st3 s3 h=>#[sg.trans s3,r,rfl,h]) λo3 i3 j3 g st3 s3 I3 e=>#[sg.trans s3,rfl,I3,by dsimp only;lia]
 .rintro ⟨r,i,j,o,g⟩ st2 ⟨sg,rfl,I,hz⟩
  have:=I.i0;have:=I.j0;have:=I.z;lia
 .rintro ⟨r,i,j,o,g⟩ st2 ⟨sg,r',rfl,h⟩
  exact aP<|hq _ _ sg h
end
end
noncomputable def Kr(rk:bO->Nat)(xs:Array bO)(i:Nat):Nat:=match xs[i]? with
 |some p=>rk p
 |none=>0
def Wi(h:xs[i]?=ys[j]?):Kr rk xs i=Kr rk ys j:=by unfold Kr;rw[h]
structure Sb(κ:eY)(a₀:Array bO)(P:Array (Nat×Nat×Nat))(lo:Nat)(L:List bO)(τ:bL):Prop where
 kd:kindOf τ=κ
 pm:(aZ τ).Perm a₀
 fl:fF τ=ae
 pd:a9 τ=P
 ah:(aZ τ).toList.take lo=L
def Up(rk:bO->Nat)(xs:Array bO)(lo m:Nat):Prop:=∀i j,lo<=i->i<j->j<lo+m->Kr rk xs i<Kr rk xs j
def Dn(rk:bO->Nat)(xs:Array bO)(lo m:Nat):Prop:=∀i j,lo<=i->i<j->j<lo+m->Kr rk xs j<Kr rk xs i
section
variable{κ:eY}{a₀:Array bO}{P:Array (Nat×Nat×Nat)}{lo:Nat}{L:List bO}{τ:bL}{In:bO->Prop}{rk:bO->Nat}
theorem Sb.size(h:Sb κ a₀ P lo L τ):(aZ τ).size=a₀.size:=h.pm.size_eq
def Sb.in(h:Sb κ a₀ P lo L τ)(ia:∀x∈a₀.toList,In x):∀x∈(aZ τ).toList,In x:=λx hx=>ia x<|(bv.mp h.pm).mem_iff.mp hx
def Q7(hi:i<xs.size):Kr rk xs i=rk xs[i]:=by unfold Kr;rw[bc hi]
theorem Sb.ne(h:Sb κ a₀ P lo L τ)(nd:(a₀.toList.map rk).Nodup)(hi:i<a₀.size)(hj:j<a₀.size)(e:Kr rk (aZ τ) i=Kr rk (aZ τ) j):i=j:=by
 have hs:=h.size;have n:=(((bv.mp h.pm).map rk).nodup_iff).mpr nd;have g:∀k,k<a₀.size->((aZ τ).toList.map rk)[k]?=aa (Kr rk (aZ τ) k):=λk hk=>by
  rw[aH,be,bc (by lia),Q7 (by lia)];rfl
 exact(f6 (by rw[ay,aE];lia) n).mp (by rw[g i hi,g j hj,e])
def Sb.setA(h:Sb κ a₀ P lo L τ)(hp:xs.Perm (aZ τ))(hf:∀k,k<lo->xs[k]?=(aZ τ)[k]?):Sb κ a₀ P lo L (setArr τ xs):=
 #[h.kd,hp.trans h.pm,h.fl,h.pd,by
  rw[<-h.ah];refine bM λk=>?_
  rw[cL,cL];split
  .rw[be,be];exact hf k ‹_›
  .rfl]
variable{prog:bE}{w:bR}{A:cQ}{E:ap->aw->Prop}{s:aw}
theorem UF(O:Od prog w A E s κ In rk)(h:Sb κ a₀ P lo L τ)(ia:∀x∈a₀.toList,In x){Q:Option Bool->bL->Prop}(hi:i<a₀.size)(hj:j<a₀.size)(q:Q (aa<|ag<|Kr rk (aZ τ) i<Kr rk (aZ τ) j) τ):kI (aV prog w) A E s (ltAt' i j) Q τ:=by
 have hs:=h.size;have m:∀k (hk:k<(aZ τ).size),In (aZ τ)[k]:=λk hk=>h.in ia _ (by simp)
 rw[ltAt'_eq];refine aI<|fZ ?_;refine aI<|Zy (ZG<|by lia)<|aI<|Zy (ZG<|by lia) ?_
 rw[Q7 (by lia),Q7<|by lia]at q
 exact O.ask (m i _) (m j _) h.kd q
theorem ZbN(xs:Array bO):Up rk xs lo 1:=λi j a b c=>by lia
theorem jK(h1:1<=m)(u:Up rk xs lo m)(c:Kr rk xs (lo+m-1)<Kr rk xs (lo+m)):Up rk xs lo (m+1):=λi j a b d=>by
 by_cases z:j=lo+m
 .subst z
  by_cases y:i=lo+m-1
  .rw[y];exact c
  .exact c7 (u i (lo+m-1) a (by lia)<|by lia) c
 .exact u i j a b (by lia)
theorem qT(h1:1<=m)(u:Dn rk xs lo m)(c:Kr rk xs (lo+m)<Kr rk xs (lo+m-1)):Dn rk xs lo (m+1):=λi j a b d=>by
 by_cases z:j=lo+m
 .subst z
  by_cases y:i=lo+m-1
  .rw[y];exact c
  .exact c7 c<|u i (lo+m-1) a (by lia) (by lia)
 .exact u i j a b (by lia)
theorem wI(O:Od prog w A E s κ In rk)(ia:∀x∈a₀.toList,In x)(nd:(a₀.toList.map rk).Nodup){Q:AscSt->bL->Prop}
  (hF:∀i m (Q:ForInStep AscSt->bL->Prop),1<=m->m<nrem->(Kr rk (aZ τ) (lo+m)<Kr rk (aZ τ) (lo+m-1)->Q (.done (ae,m)) τ)->(¬Kr rk (aZ τ) (lo+m)<Kr rk (aZ τ) (lo+m-1)->Q (.yield (ae,m+1)) τ)->kI (aV prog w) A E s (F i (ae,m)) Q τ)
  (hn:lo+nrem<=a₀.size)(h1:1<=n0)(hl:n0<=nrem)(hB:Sb κ a₀ P lo L τ)(u:Up rk (aZ τ) lo n0)
  (q:∀m,n0<=m->m<=nrem->Up rk (aZ τ) lo m->(m<nrem->Kr rk (aZ τ) (lo+m)<Kr rk (aZ τ) (lo+m-1))->Q (ae,m) τ):kI (aV prog w) A E s (kO [n0:nrem] ((ae,n0):AscSt) F) Q τ:=by
 refine cc (I:=λi c st'=>st'=τ/\c=(ae,i)/\Up rk (aZ τ) lo i) ?_ ?_ #[rfl,rfl,u]
 .rintro i c st' ha hb ⟨rfl,rfl,u⟩
  refine hF i i _ (by lia) hb (λc=>q i ha (by lia) u λ_=>c) λc=>#[rfl,rfl,jK (by lia) u ?_]
  have:Kr rk (aZ st') (lo+i-1)≠Kr rk (aZ st') (lo+i):=λe=>by
   have:=hB.ne nd (by lia) (by lia) e
   lia
  lia
 .rintro c st' ⟨rfl,rfl,u⟩
  have e:max n0 nrem=nrem:=by lia
  rw[e]at u ⊢;exact q nrem hl (aA _) u λz=>T7 z<|bm _
theorem vW(O:Od prog w A E s κ In rk)(ia:∀x∈a₀.toList,In x)(nd:(a₀.toList.map rk).Nodup){Q:Option Nat->bL->Prop}(hn:lo+nrem<=a₀.size)(h1:1<=nrem)(hB:Sb κ a₀ P lo L τ)
  (q:∀m st',Sb κ a₀ P lo L st'->1<=m->m<=nrem->Up rk (aZ st') lo m->Q (aa m) st'):kI (aV prog w) A E s (countRun' lo nrem) Q τ:=by
 rw[countRun'_eq];refine aI<|wI O ia nd (λi m Q a b k1 k2=>?_) hn (aA _) h1 hB (ZbN _) λm m1 m2 u c=>?_
 .refine aI (UF O hB ia (by lia) (by lia) ?_)
  dsimp only
  split
  .exact aP<|k1<|T6 ‹_›
  .exact aP<|k2 λz=>‹¬_› (T5 z)
 dsimp only
 by_cases e:m=nrem
 .rw[T9 (by simpa using e)]
  exact aP<|q m τ hB m1 m2 u
 rw[T8 (by simpa using e)]
 by_cases c1:m>1
 .rw[T9 c1]
  refine aI<|UF O hB ia (by lia) (by lia) ?_
  dsimp only
  rw[T9<|T5<|u lo (lo+m-1) (aA _) (by lia) (by lia)]
  exact aP<|q m τ hB m1 m2 u
 rw[T8 c1];obtain rfl:m=1:=by lia
 refine aI<|Xw ?_;have nl:∀i j,i<a₀.size->j<a₀.size->i≠j->¬Kr rk (aZ τ) i<Kr rk (aZ τ) j->Kr rk (aZ τ) j<Kr rk (aZ τ) i:=λi j hi hj ne c=>by
  have:Kr rk (aZ τ) i≠Kr rk (aZ τ) j:=λe=>ne<|hB.ne nd hi hj e
  lia
 have d2:Dn rk (aZ τ) lo 2:=λi j a b d=>by
  obtain⟨rfl,rfl⟩:i=lo/\j=lo+1:=by lia
  exact c (by lia)
 refine aI<|d3 (cc (I:=λi c st'=>st'=τ/\c=(ae,i,0)/\Dn rk (aZ τ) lo i) (Q:=λc st'=>st'=τ/\∃i,c=(ae,i,0)/\2<=i/\i<=nrem/\Dn rk (aZ τ) lo i) ?_ ?_ #[rfl,rfl,d2]) ?_
 .rintro i c st' ha hb ⟨rfl,rfl,u⟩
  dsimp only
  refine aI<|UF O hB ia (by lia) (by lia) ?_
  dsimp only
  split
  .rw[T8<|bm 0]
   exact aP #[rfl,rfl,qT (by lia) u<|T6 ‹_›]
  .refine aI (UF O hB ia (by lia) (by lia) ?_)
   dsimp only
   rw[T9<|T5<|nl (lo+i) (lo+i-1) (by lia) (by lia) (by lia) λz=>‹¬_› (T5 z)]
   exact aP #[rfl,i,rfl,by lia,by lia,u]
 .rintro c st' ⟨rfl,rfl,u⟩
  have e:max (1+1) nrem=nrem:=by lia
  rw[e]at u ⊢;exact#[rfl,nrem,rfl,by lia,aA _,u]
 .rintro c st' ⟨rfl,i,rfl,h2,hi,u⟩
  dsimp only
  rw[T8<|bm 0];refine aI<|wpS_reverse ?_;have hs:=hB.size;have gm:=λk=>getElem?_mirror_all (xs:=aZ st') (i:=lo) (j:=lo+i) (by lia) k
  have hB2:=hB.setA (mirror_perm ..) λk hk=>by
   rw[gm k,T8 (by lia)]
  have u2:Up rk (mirror (aZ st') lo (lo+i)<|(lo+i-lo) / 2) lo i:=λa b h1 h2 h3=>by
   have e:∀k,lo<=k->k<lo+i->Kr rk (mirror (aZ st') lo (lo+i)<|(lo+i-lo) / 2) k=Kr rk (aZ st') (lo+(lo+i-1-k)):=λk ka kb=>Wi (by rw[gm k,T9 #[ka,kb]];congr 1;lia)
   rw[e a h1 (by lia),e b (by lia) h3]
   exact u _ _ (by lia) (by lia) (by lia)
  refine aI<|wI O ia nd (λi m Q a b k1 k2=>?_) hn (by lia) hi hB2 u2 λm m1 m2 u c=>?_
  .refine aI (UF O hB2 ia (by dsimp only;lia) (by dsimp only;lia) ?_)
   dsimp only
   split
   .exact aP<|k1<|T6 ‹_›
   .exact aP<|k2 λz=>‹¬_› (T5 z)
  .exact aP<|q m _ hB2 (by lia) m2 u
theorem jG(O:Od prog w A E s κ In rk)(ia:∀x∈a₀.toList,In x)(nd:(a₀.toList.map rk).Nodup){Q:Bool->bL->Prop}(hn:lo+n<=a₀.size)(h1:1<=ok)(hok:ok<=n)(hB:Sb κ a₀ P lo L τ)(u:Up rk (aZ τ) lo ok)
  (q:∀st',Sb κ a₀ P lo L st'->Up rk (aZ st') lo n->Q am st'):kI (aV prog w) A E s (binarySort' lo n ok) Q τ:=by
 rw[binarySort'_eq];refine aI<|d3 (cc (I:=λk c st'=>c=(ae,())/\Sb κ a₀ P lo L st'/\Up rk (aZ st') lo k) (Q:=λc st'=>c=(ae,())/\Sb κ a₀ P lo L st'/\Up rk (aZ st') lo n) ?_ ?_ #[rfl,hB,by rw[Nat.max_eq_left h1];exact u]) ?_
 .rintro k c st' ha hb ⟨rfl,B,u⟩
  have hs:=B.size;refine aI (d3 (cc (I:=λx c st2=>st2=st'/\∃l r,c=(ae,l,r)/\l<=r/\r<=k/\r-l<=k-x/\(∀i,i<l->Kr rk (aZ st') (lo+i)<Kr rk (aZ st') (lo+k))/\∀i,r<=i->i<k->Kr rk (aZ st') (lo+k)<Kr rk (aZ st') (lo+i))
   (Q:=λc st2=>st2=st'/\∃l r,c=(ae,l,r)/\l<=k/\(∀i,i<l->Kr rk (aZ st') (lo+i)<Kr rk (aZ st') (lo+k))/\∀i,l<=i->i<k->Kr rk (aZ st') (lo+k)<Kr rk (aZ st') (lo+i)) ?_ ?_ #[rfl,0,k,rfl,by lia,by lia,by lia,λi hi=>by lia,λi a b=>by lia]) ?_)
  .rintro x c st2 _ hx ⟨rfl,l,r,rfl,g1,g2,g3,g4,g5⟩
   dsimp only
   by_cases c:l>=r
   .rw[T9 c]
    exact aP #[rfl,l,r,rfl,by lia,g4,λi a b=>g5 i (by lia) b]
   .rw[T8 c]
    refine aI<|UF O B ia (by lia) (by lia) ?_
    dsimp only
    split
    .have cm:=T6 ‹_›
     refine aP #[rfl,l,(l+r) / 2,rfl,by lia,by lia,by lia,g4,λi a b=>?_]
     by_cases y:i=(l+r) / 2
     .rw[y];exact cm
     .exact c7 cm<|u _ _ (by lia) (by lia) (by lia)
    .have cm:Kr rk (aZ st2) (lo+(l+r) / 2)<Kr rk (aZ st2) (lo+k):=by
      have z:¬Kr rk (aZ st2) (lo+k)<Kr rk (aZ st2) (lo+(l+r) / 2):=λz=>‹¬_› (T5 z)
      have:Kr rk (aZ st2) (lo+k)≠Kr rk (aZ st2) (lo+(l+r) / 2):=λe=>by
       have:=B.ne nd (by lia) (by lia) e
       lia
      lia
     refine aP #[rfl,(l+r) / 2+1,r,rfl,by lia,by lia,by lia,λi a=>?_,g5]
     by_cases y:i=(l+r) / 2
     .rw[y];exact cm
     .exact c7 (u _ _ (by lia) (by lia)<|by lia) cm
  .rintro c st2 ⟨rfl,l,r,rfl,g1,g2,g3,g4,g5⟩
   exact#[rfl,l,r,rfl,by lia,g4,λi a b=>g5 i (by lia) b]
  .rintro c st2 ⟨rfl,l,r,rfl,g2,g4,g5⟩
   dsimp only
   rw[moveDown'_eq];refine aI<|eE<|aP ?_;have gb:=λi=>getElem?_bubble (xs:=aZ st2) (src:=lo+k) (by lia) (lo+k-(lo+l)) (by lia) i
   have e1:lo+k-(lo+k-(lo+l))=lo+l:=by lia
   rw[e1]at gb;refine#[rfl,B.setA (bubble_perm ..) λi hi=>?_,λi j a b d=>?_]
   .rw[gb i,T8 (by lia),T8 (by lia)]
   .have e:∀i,Kr rk (bubble (aZ st2) (lo+k)<|lo+k-(lo+l)) i=if i=lo+l then Kr rk (aZ st2) (lo+k)else if lo+l<i/\i<=lo+k then Kr rk (aZ st2) (i-1)else Kr rk (aZ st2) i:=λi=>by
     have h:=gb i;split at h
     .rw[T9 ‹_›];exact Wi h
     .rw[T8 ‹_›]
      split at h
      .rw[T9 ‹_›];exact Wi h
      .rw[T8 ‹_›];exact Wi h
    rw[e i,e j];have low:∀x,lo<=x->x<lo+l->Kr rk (aZ st2) x<Kr rk (aZ st2) (lo+k):=λx a b=>by
     have:=g4 (x-lo) (by lia)
     rwa [show lo+(x-lo)=x by lia]at this
    have high:∀x,lo+l<=x->x<lo+k->Kr rk (aZ st2) (lo+k)<Kr rk (aZ st2) x:=λx a b=>by
     have:=g5 (x-lo) (by lia) (by lia)
     rwa [show lo+(x-lo)=x by lia]at this
    by_cases ci:i=lo+l
    .rw[T9 ci,T8 (by lia),T9 (by lia)]
     exact high _ (by lia) (by lia)
    .rw[T8 ci]
     by_cases cj:j=lo+l
     .rw[T9 cj,T8 (by lia)]
      exact low _ a (by lia)
     .rw[T8 cj]
      by_cases di:lo+l<i/\i<=lo+k
      .rw[T9 di,T9 (by lia)];exact u _ _ (by lia) (by lia) (by lia)
      .rw[T8 di]
       by_cases dj:lo+l<j/\j<=lo+k
       .rw[T9 dj]
        by_cases z:i=j-1
        .lia
        .exact u _ _ a (by lia) (by lia)
       .rw[T8 dj];exact u _ _ a b (by lia)
 .rintro c st' ⟨rfl,B,u⟩
  have e:max (max ok 1) n=n:=by lia
  rw[e]at u;exact#[rfl,B,u]
 .rintro c st' ⟨rfl,B,u⟩
  exact aP<|q st' B u
end
def JF(i:Nat):mergeAt' i=(do
 let t <-get
 let (aa (ia,ma,pw),aa (ib,mb,_)):=((a9 t)[i]?,(a9 t)[i+1]?)|unsupported "internal:list.sort.pending"
 set (gl t<|((a9 t).setIfInBounds i (ia,ma+mb,pw)).eraseIdxIfInBounds<|i+1)
 let aa r <-Z9 aj (<-fq (aZ t) ib) (aZ t) ia ma 0|return aj
 let (ja,la):=(ia+r,ma-r)
 if la == 0 then return am
 let aa lb <-Z9 am (<-fq (aZ t) (ja+la-1)) (aZ t) ib mb (mb-1)|return aj
 if lb == 0 then return am
 let u:=(aZ t).extract ja ib
 let v:=(aZ t).extract ib<|ib+lb
 let mg <-if la<=lb then Vj u v else Vy u v
 modify λt=>setArr t<|mg.toList.zipIdx.foldl (λa (p,j)=>a.setIfInBounds (ja+j) p)<|aZ t
 return (fF<|<-get).isNone):=rfl
theorem JA(b:Nat):∀(m:List bO)(j:Nat)(a:Array bO),b+j+m.length<=a.size->((m.zipIdx j).foldl (λa q=>a.setIfInBounds (b+q.2) q.1) a).toList=a.toList.take (b+j)++m++a.toList.drop (b+j+m.length)
 |[],j,a,h=>by simp
 |x::r,j,a,h=>by
  rw[aO]at h;rw[i6,dB,JA b r (j+1) _ (by rw[Array.size_setIfInBounds];lia)]
  dsimp only
  rw[h8,aO,<-iQ b j 1,List.take_add_one,List.take_set_of_le<|aA _,bw (by simpa using(by lia:b+j<a.size)),List.drop_set_of_lt (by lia)]
  simp[iQ,lW 1]
def Runs(rk:bO->Nat):List (Nat×Nat)->Nat->Nat->List bO->Prop
 |[],a,b,_=>a=b
 |(i,n)::r,a,b,l=>i=a/\1<=n/\Srt (lr rk) ((l.drop a).take n)/\Runs rk r (a+n) b l
section
theorem Runs.le:∀{r:List (Nat×Nat)}{a b:Nat}{l:List bO},Runs rk r a b l->a+r.length<=b
 |[],a,b,l,h=>lZ h
 |(i,n)::r,a,b,l,#[_,h1,_,h]=>by have:=h.le;rw[aO];lia
theorem Runs.app:∀{r q:List (Nat×Nat)}{a b:Nat}{l:List bO},Runs rk (r++q) a b l↔∃c,Runs rk r a c l/\Runs rk q c b l
 |[],q,a,b,l=>#[λh=>#[a,rfl,h],λ#[c,h1,h2]=>by cases h1;exact h2]
 |(i,n)::r,q,a,b,l=>by
  constructor
  .rintro ⟨h1,h2,h3,h4⟩
   obtain⟨c,h5,h6⟩:=Runs.app.mp h4;exact#[c,#[h1,h2,h3,h5],h6]
  .rintro ⟨c,⟨h1,h2,h3,h4⟩,h5⟩
   exact#[h1,h2,h3,Runs.app.mpr #[c,h4,h5]]
theorem Runs.congr:∀{r:List (Nat×Nat)}{a b:Nat}{l l':List bO},Runs rk r a b l->(∀k,a<=k->k<b->l'[k]?=l[k]?)->Runs rk r a b l'
 |[],a,b,l,l',h,_=>h
 |(i,n)::r,a,b,l,l',#[h1,h2,h3,h4],e=>by
  have:=h4.le;refine#[h1,h2,?_,h4.congr λk ha hb=>e k (by lia) hb]
  have:(l'.drop a).take n=(l.drop a).take n:=bM λk=>by
   rw[cL,cL,h9,h9];split
   .exact e _ (by lia) (by lia)
   .rfl
  rw[this];exact h3
def QJ(hx:Srt (lr rk) x)(hy:Srt (lr rk) y)(h:∀a∈x,∀b∈y,rk a<rk b):Srt (lr rk) (x++y):=d4.mpr #[hx,hy,h]
structure Sc(κ:eY)(a₀:Array bO)(τ:bL):Prop where
 kd:kindOf τ=κ
 pm:(aZ τ).Perm a₀
 fl:fF τ=ae
variable{In:bO->Prop}
theorem G9(O:Od prog w A E s κ In rk)(ia:∀x∈a₀.toList,In x)(nd:(a₀.toList.map rk).Nodup){Q:Bool->bL->Prop}(h:Sc κ a₀ τ)(h1:(a9 τ)[i]?=aa (a,na,pw))(h2:(a9 τ)[i+1]?=aa (a+na,nb,qw))
  (hl:(aZ τ).toList=U++(X++(Y++Z)))(lU:U.length=a)(lX:X.length=na)(lY:Y.length=nb)(xa:1<=na)(yb:1<=nb)(sx:Srt (lr rk) X)(sy:Srt (lr rk) Y)
  (q:∀st' M,Sc κ a₀ st'->a9 st'=((a9 τ).setIfInBounds i (a,na+nb,pw)).eraseIdxIfInBounds (i+1)->(aZ st').toList=U++(M++Z)->M.length=na+nb->Srt (lr rk) M->Q am st'):kI (aV prog w) A E s (mergeAt' i) Q τ:=by
 have hp:=bv.mp h.pm;have ial:=λx hx=>ia x<|hp.mem_iff.mp hx
 have ndl:=((hp.map rk).nodup_iff).mpr nd;have hsz:(aZ τ).size=a+(na+(nb+Z.length)):=by rw[<-aE,hl];simp[lU,lX,lY]
 have dX:((aZ τ).toList.drop a).take na=X:=by rw[hl,<-lU,ic,<-lX,ig]
 have dY:((aZ τ).toList.drop<|a+na).take nb=Y:=by rw[hl,<-bp,<-lU,<-lX,<-a7,ic,<-lY,ig]
 have ndXY:∀x∈X,∀y∈Y,rk x≠rk y:=λx hx y hy e=>by
  rw[hl,bZ,eP,bZ,eP]at ndl;exact ndl.2.1.2.2 _ (fA hx) _ (by rw[bZ];exact dv _<|fA hy) e
 have inX:∀x∈X,In x:=λx hx=>ial x (by rw[hl];simp[hx])
 have inY:∀y∈Y,In y:=λy hy=>ial y (by rw[hl];simp[hy])
 obtain⟨y0,Y',rfl⟩:∃y0 Y',Y=y0::Y':=by cases Y with|nil=>simp at lY;lia|cons y Y'=>exact#[y,Y',rfl]
 have e0:(aZ τ)[a+na]?=aa y0:=by
  rw[<-be,hl,<-bp,bu (by simp;lia)]
  simp[lU,lX]
 rw[JF];refine aI<|fZ ?_;rw[h1,h2]
 dsimp only
 refine aI<|eE ?_
 generalize hst:gl τ (((a9 τ).setIfInBounds i (a,na+nb,pw)).eraseIdxIfInBounds<|i+1)=st1;have S1:Sc κ a₀ st1:=by rw[<-hst];exact#[h.kd,h.pm,h.fl]
 have P1:a9 st1=((a9 τ).setIfInBounds i (a,na+nb,pw)).eraseIdxIfInBounds (i+1):=by rw[<-hst]
 have A1:aZ st1=aZ τ:=by rw[<-hst]
 refine aI<|Zy e0<|aI<|zD O S1.kd (inY y0<|al ..) xa (by lia) ial (by rw[dX];exact sx) (by rw[dX];exact λx hx=>ndXY x hx y0<|al ..) λr hr r1 r2=>?_
 rw[dX]at r1 r2
 dsimp only
 have lowY:∀x∈X.take r,∀y∈y0::Y',rk x<rk y:=λx hx y hy=>by
  rcases az.mp hy with rfl|hy
  .exact r1 x hx
  .exact c7 (r1 x hx)<|(bg.mp sy).1 y hy
 by_cases c:na-r=0
 .rw[T9 (by simpa using c)]
  have:X.take r=X:=cw (by lia)
  rw[this]at lowY;exact aP<|q st1 (X++y0::Y') S1 P1 (by rw[A1,hl,bp]) (by rw[a7,lX,lY])<|QJ sx sy lowY
 rw[T8 (by simpa using c)]
 have exl:(aZ τ)[a+r+(na-r)-1]?=X[na-1]?:=by
  rw[<-be,hl,bu (by lia),bN (by lia)]
  congr 1;lia
 have xl:X[na-1]?=aa (X[na-1]'(by lia)):=af _
 generalize hx0:X[na-1]'(by lia)=x0 at xl
 have mx0:x0∈X:=dy xl;have mx1:x0∈X.drop r:=dy (i:=na-1-r) (by rw[h9];rw[<-xl];congr 1;lia)
 have maxX:∀x∈X,x=x0\/rk x<rk x0:=λx hx=>by
  obtain⟨k,hk,rfl⟩:=kT.mp hx;by_cases z:k=na-1
  .subst z;exact .inl hx0
  .right;rw[<-hx0];exact bB.mp sx k (na-1) hk (by lia) (by lia)
 refine aI<|Zy (exl.trans xl)<|aI<|zD O S1.kd (inX x0 mx0) (by lia) (by lia) ial (by rw[dY];exact sy) (by rw[dY];exact λy hy=>Ne.symm<|ndXY x0 mx0 y hy) λt ht t1 t2=>?_
 rw[dY]at t1 t2
 dsimp only
 have t0:t≠0:=λz=>by
  subst z;have a1:=r2 x0 mx1;have a2:=t2 y0<|al ..;lia
 rw[T8 (by simpa using t0)]
 generalize hY:y0::Y'=Y at *;have eu:((aZ τ).extract (a+r)<|a+na).toList=X.drop r:=by
  have:a+na=(a+r)+(na-r):=by lia
  rw[this,zZ,<-hZ,hl,<-lU,ic,gB (by lia)]
  rw[show na-r=(X.drop r).length by rw[bq,lX],ig]
 have ev:((aZ τ).extract (a+na)<|a+na+t).toList=Y.take t:=by
  rw[zZ,hl,<-bp,<-lU,<-lX,<-a7,ic,gC (by lia)]
 generalize hu:(aZ τ).extract (a+r) (a+na)=u at *;generalize hv:(aZ τ).extract (a+na) (a+na+t)=v at *;have ul:u.size=na-r:=by rw[<-aE,eu,bq,lX]
 have vl:v.size=t:=by rw[<-aE,ev,bn,lY];lia
 have su:Srt (lr rk) u.toList:=by rw[eu];exact sx.sublist<|List.drop_sublist ..
 have sv:Srt (lr rk) v.toList:=by rw[ev];exact sy.sublist<|lS ..
 have v0:∀x∈u.toList,rk (v[0]'(by lia))<rk x:=λx hx=>by
  have:v.toList[0]?=aa y0:=by
   rw[ev,<-hY];obtain⟨t',rfl⟩:∃t',t=t'+1:=#[t-1,by lia]
   rfl
  have e:v[0]'(by lia)=y0:=by
   rw[be,bc<|by lia]at this
   exact ak this
  rw[e];exact r2 x (by rw[<-eu];exact hx)
 have G:Mg κ In rk u v (u.toList++v.toList):=by
  refine#[?_,λx hx=>inX x<|bP<|eu▸hx,λy hy=>inY y<|cZ<|ev▸hy,λy hy x hx=>?_]
  .rw[bZ,eP]
   have nx:∀{z:List bO},Srt (lr rk) z->(z.map rk).Nodup:=λ{z} hz=>cF.mpr<|hz.imp λhab=>bi hab
   refine#[nx su,nx sv,λp hp p' hp' e=>?_]
   obtain⟨x,hx,rfl⟩:=aS.mp hp;obtain⟨y,hy,rfl⟩:=aS.mp hp';exact ndXY x (bP<|eu▸hx) y (cZ<|ev▸hy) e
  .have hx:x=x0:=by
    rw[eu,ul,hZ,show r+(na-r-1)=na-1 by lia,bX (by lia),show na-1+1=X.length by lia,dJ,bz]at hx
    rw[hx];exact hx0
   rw[hx];exact t1 y (by rw[<-ev];exact hy)
 have fin:∀r' st',Sg st1 st'->Res rk (u.toList++v.toList) r'->kI (aV prog w) A E s (do
   modify λt=>setArr t<|r'.toList.zipIdx.foldl (λz (p,j)=>z.setIfInBounds (a+r+j) p)<|aZ t
   return (fF<|<-get).isNone) Q st':=λr' st' sg hr'=>by
  obtain⟨g1,g2,g3,g4⟩:=sg;obtain⟨k1,k2⟩:=hr';have rl:r'.toList.length=(na-r)+t:=by rw[k1.length_eq,a7,aE,aE,ul,vl]
  refine aI<|eE<|aI<|fZ<|aP ?_;have fo:=JA (a+r) r'.toList 0 (aZ τ) (by lia)
  have el:((r'.toList.zipIdx.foldl (λz (q:bO×Nat)=>z.setIfInBounds (a+r+q.2) q.1)<|aZ τ).toList)=U++((X.take r++(r'.toList++Y.drop t))++Z):=by
   rw[fo,Nat.add_zero,hl,<-lU,List.take_append,mI,rl];have e1:U.length+r-U.length=r:=by lia
   have e2:U.length+r+(na-r+t)-U.length=na+t:=by lia
   rw[e1,e2,cw (by lia),kt (by lia),gF,gC (by lia),<-lX,mI,kt (by lia),gF,show X.length+t-X.length=t by lia,gB (by lia)]
   simp[bp]
  have hX:X.take r++X.drop r=X:=cW ..;have hYt:Y.take t++Y.drop t=Y:=cW ..;have pM:(X.take r++(r'.toList++Y.drop t)).Perm (X++Y):=by
   rw[eu,ev]at k1;have:(X.take r++(r'.toList++Y.drop t)).Perm (X.take r++((X.drop r++Y.take t)++Y.drop t)):=(k1.append_right _).append_left _;refine this.trans<|m7 ?_;rw[bp<|X.drop r,hYt,<-bp,hX]
  rw[g4,S1.fl];refine q (setArr st'<|r'.toList.zipIdx.foldl (λz (q:bO×Nat)=>z.setIfInBounds (a+r+q.2) q.1)<|aZ st') (X.take r++(r'.toList++Y.drop t)) #[g1.trans S1.kd,?_,g4.trans S1.fl] (g3.trans P1) (by rw[<-el,<-A1,<-g2]) (by rw[pM.length_eq,a7,lX,lY]) ?_
  .refine(bv.mpr ?_).trans h.pm
   rw[g2,A1,el,hl,<-bp X Y Z];exact(pM.append_right _).append_left _
  .have memR:∀z∈r'.toList,z∈X.drop r\/z∈Y.take t:=λz hz=>by
    have:=k1.mem_iff.mp hz;rw[eu,ev]at this;exact da.mp this
   have sX:=d4.mp<|hX.symm▸sx;have sY:=d4.mp<|hYt.symm▸sy;refine QJ sX.1 (QJ k2 sY.2.1 λp hp y hy=>?_) λx hx z hz=>?_
   .rcases memR p hp with m|m
    .have:=t2 y hy
     rcases maxX p (bP m)with rfl|m
     .exact this
     .exact c7 m this
    .exact sY.2.2 p m y hy
   .rcases da.mp hz with m|m
    .rcases memR z m with m|m
     .exact sX.2.2 x hx z m
     .exact lowY x hx z<|cZ m
    .exact lowY x hx z<|bP m
 by_cases cl:na-r<=t
 .rw[T9 cl]
  exact aI<|GQ O G S1.kd (by lia) (by lia) su sv (cn _) v0 λr' st' sg hr'=>fin r' st' sg hr'
 .rw[T8 cl]
  have fs:∀x∈u.toList,∀y∈v.toList.take 1,rk y<rk x:=λx hx y hy=>by
   have e:=ZU (a:=v) (i:=0) (by lia)
   rw[hJ]at e;rw[e]at hy;rw[bz.mp hy];exact v0 x hx
  exact aI<|Gp O G fs S1.kd (by lia) (by lia) su sv (cn _) λr' st' sg hr'=>fin r' st' sg hr'
end
section
variable{In:bO->Prop}
noncomputable abbrev g2(q:Nat×Nat×Nat):Nat×Nat:=(q.1,q.2.1)
noncomputable def pl(τ:bL):List (Nat×Nat):=(a9 τ).toList.map g2
def cut2{B:Type}{l:List B}{i:Nat}{x y:B}(h1:l[i]?=aa x)(h2:l[i+1]?=aa y):l=l.take i++(x::y::l.drop (i+2)):=by
 obtain⟨a,e1⟩:=aX.mp h1;obtain⟨b,e2⟩:=aX.mp h2
 conv=>lhs;rw[<-cW i l,bX a,bX b,e1,e2]
theorem XI(O:Od prog w A E s κ In rk)(ia:∀x∈a₀.toList,In x)(nd:(a₀.toList.map rk).Nodup){Q:Bool->bL->Prop}{i b:Nat}{R3:List (Nat×Nat)}(h:Sc κ a₀ τ)(hi:i+1<(a9 τ).size)(hb:b<=a₀.size)(hr:Runs rk (pl τ++R3) 0 b (aZ τ).toList)
  (q:∀st',Sc κ a₀ st'->(a9 st').size=(a9 τ).size-1->Runs rk (pl st'++R3) 0 b (aZ st').toList->Q am st'):kI (aV prog w) A E s (mergeAt' i) Q τ:=by
 obtain⟨⟨a,na,pw⟩,h1⟩:∃x,(a9 τ)[i]?=aa x:=#[_,bc (by lia)]
 obtain⟨⟨b1,nb,qw⟩,h2⟩:∃x,(a9 τ)[i+1]?=aa x:=#[_,bc hi];have e:=cut2 (by rw[be];exact h1) (by rw[be];exact h2)
 generalize hA:(a9 τ).toList.take i=RA at e;generalize hC:(a9 τ).toList.drop (i+2)=RC at e;have lA:RA.length=i:=by rw[<-hA,bn,aE];lia
 unfold pl at hr;rw[e,bZ,bp]at hr;obtain⟨c,r1,r2⟩:=Runs.app.mp hr;obtain⟨z1,n1,s1,z2,n2,s2,r3⟩:=r2
 dsimp only[g2]at z1 n1 s1 z2 n2 s2 r3
 subst z1 z2;have hle:=r3.le;have hsz:(aZ τ).toList.length=a₀.size:=by rw[aE];exact h.pm.size_eq
 generalize hl:(aZ τ).toList=l at *;have el:l=l.take a++((l.drop a).take na++((l.drop<|a+na).take nb++l.drop (a+na+nb))):=by
  rw[td,td,cW]
 have lU:(l.take a).length=a:=by rw[bn];lia
 refine G9 O ia nd h h1 h2 (hl.trans el) lU (by rw[bn,bq];lia) (by rw[bn,bq];lia) n1 n2 s1 s2 λst' M S' hp' hl' lM sM=>?_
 have hpl:(a9 st').toList=RA++((a,na+nb,pw)::RC):=by
  rw[hp',Array.toList_eraseIdxIfInBounds,h8,e,List.set_append_right _ _ (by lia),lA,Nat.sub_self]
  rw[List.eraseIdx_append_of_length_le (by lia),lA,show i+1-i=1 by lia]
  rfl
 refine q st' S' ?_ ?_
 .rw[<-aE,hpl,<-aE,e]
  simp
 .have at_:∀k,(k<a\/a+na+nb<=k)->(aZ st').toList[k]?=l[k]?:=λk hk=>by
   rw[hl']
   conv=>rhs;rw[el]
   rcases hk with hk|hk
   .rw[bN (by lia),bN (by lia)]
   .rw[bu (by lia),bu (by lia),bu (by lia),<-bp,bu (by simp;lia)]
    congr 1
    simp;lia
  unfold pl;rw[hpl,bZ,bp];refine Runs.app.mpr #[a,r1.congr λk _ hk=>at_ k<|.inl hk,rfl,by dsimp only[g2];lia,?_,?_]
  .rw[hl',<-lM,List.drop_left' lU,ig];exact sM
  .rw[<-iQ];exact r3.congr λk hk _=>at_ k<|.inr hk
theorem vN{lo n:Nat}{xs:Array bO}(hn:lo+n<=xs.size)(u:Up rk xs lo n):Srt (lr rk) ((xs.toList.drop lo).take n):=by
 refine bB.mpr λi j hi hj hij=>?_
 rw[bn,bq,aE]at hi hj;have g:∀k (hk:k<((xs.toList.drop lo).take n).length),((xs.toList.drop lo).take n)[k]=xs[lo+k]'(by rw[bn,bq,aE]at hk;lia):=λk hk=>by
  rw[eQ,eR,Array.getElem_toList]
 rw[g,g];have:=u (lo+i) (lo+j) (by lia) (by lia) (by lia)
 rw[Q7 (by lia),Q7<|by lia]at this
 exact this
def Ut{P:Array (Nat×Nat×Nat)}{k pw:Nat}:(P.modify k λq=>(q.1,q.2.1,pw)).toList.map g2=P.toList.map g2:=by
 refine bM λi=>?_
 rw[aH,aH,be,be,Array.getElem?_modify];split
 .cases P[i]?<;>rfl
 .rfl
theorem sort_ok(O:Od prog w A E s κ In rk)(ia:∀x∈a₀.toList,In x)(nd:(a₀.toList.map rk).Nodup){Q:Unit->bL->Prop}(hk:kindOf τ=κ)(ha:aZ τ=a₀)(hp:a9 τ = #[])(hf:fF τ=ae)(h1:1<=a₀.size)
  (q:∀st',(aZ st').Perm a₀->fF st'=ae->Srt (lr rk) (aZ st').toList->Q () st'):kI (aV prog w) A E s sortRuns' Q τ:=by
 rw[sortRuns'_eq];refine aI<|fZ ?_;rw[ha]
 dsimp only
 have S0:Sc κ a₀ τ:=#[hk,by rw[ha],hf]
 refine aI (d3 (cc
  (I:=λx c st'=>∃lo,c=(ae,lo)/\x<=lo/\lo<=a₀.size/\Sc κ a₀ st'/\Runs rk (pl st') 0 lo (aZ st').toList)
  (Q:=λc st'=>c=(ae,a₀.size)/\Sc κ a₀ st'/\Runs rk (pl st') 0 a₀.size (aZ st').toList) ?_ ?_ #[0,rfl,aA _,cJ _,S0,by unfold pl;rw[hp];rfl]) ?_)
 .rintro x c st1 _ hx ⟨lo,rfl,g1,g2',S1,R1⟩
  dsimp only
  by_cases c:lo>=a₀.size
  .rw[T9 c]
   obtain rfl:lo=a₀.size:=by lia
   exact aP #[rfl,S1,R1]
  rw[T8 c];have B1:Sb κ a₀ (a9 st1) lo ((aZ st1).toList.take lo) st1:=#[S1.kd,S1.pm,S1.fl,rfl,rfl];refine aI<|vW O ia nd (by lia) (by lia) B1 λm st2 B2 m1 m2 u2=>?_
  dsimp only
  have done:∀n st3,1<=n->lo+n<=a₀.size->Sc κ a₀ st3->Runs rk (pl st3++[(lo,n)]) 0 (lo+n) (aZ st3).toList->∃lo',((ae,lo+n):Option PUnit×Nat)=(ae,lo')/\x+1<=lo'/\lo'<=a₀.size/\Sc κ a₀ (gl st3<|(a9 st3).push (lo,n,0))/\Runs rk (pl<|gl st3<|(a9 st3).push (lo,n,0)) 0 lo' (aZ st3).toList:=λn st3 n1 n2 S3 R3=>
   #[lo+n,rfl,by lia,n2,#[S3.kd,S3.pm,S3.fl],by
    have:pl (gl st3<|(a9 st3).push (lo,n,0))=pl st3++[(lo,n)]:=by
     show kU g2 ((a9 st3).push (lo,n,0)).toList=_;rw[d5,bZ];rfl
    rw[this];exact R3]
  by_cases c2:m<nr a₀.size a₀.size 0
  .rw[T9 c2]
   refine aI<|Xw<|aI<|jG (n:=nq (a₀.size-lo)<|nr a₀.size a₀.size 0) O ia nd (by lia) m1 (by lia) B2 u2 λst5 B u=>?_
   have n1:1<=nq (a₀.size-lo) (nr a₀.size a₀.size 0):=by lia
   have n2:lo+nq (a₀.size-lo) (nr a₀.size a₀.size 0)<=a₀.size:=by lia
   simp only[iR,cu,if_false];generalize nq (a₀.size-lo) (nr a₀.size a₀.size 0)=n at *;clear B2 u2;refine aI<|fZ ?_;have S5:Sc κ a₀ st5:=#[B.kd,B.pm,B.fl];have hz:(aZ st5).size=a₀.size:=B.size;have R5:Runs rk (pl st5++[(lo,n)]) 0 (lo+n) (aZ st5).toList:=Runs.app.mpr #[lo,by
    unfold pl at R1 ⊢;rw[B.pd];refine R1.congr λk _ hk=>?_
    have e:(gT lo _)[k]?=(gT lo _)[k]?:=congrArg (λl=>l[k]?) B.ah
    rw[cL,cL,T9 hk,T9 hk]at e;exact e,rfl,n1,vN (by lia) u,rfl]
   cases hbk:(a9 st5).back? with
   |none=>
    exact aI<|eE<|aP<|done n st5 n1 n2 S5 R5
   |some q5=>
    obtain⟨x1,x2,x3⟩:=q5
    dsimp only
    refine aI<|d3 (cc (I:=λ_ c st3=>c=(ae,())/\Sc κ a₀ st3/\Runs rk (pl st3++[(lo,n)]) 0 (lo+n) (aZ st3).toList) ?_ (λc st3 h=>h) #[rfl,S5,R5]) ?_
    .rintro x c st3 _ _ ⟨rfl,S3,R3⟩
     refine aI<|fZ ?_;by_cases c:(a9 st3).size>1
     .rw[T9 c,bc<|show(a9 st3).size-2<(a9 st3).size by lia]
      dsimp only
      split
      .exact aP #[rfl,S3,R3]
      .refine aI (XI O ia nd S3 (by lia) n2 R3 λst4 S4 _ R4=>?_)
       simp only[iR,cu,if_false];exact aP #[rfl,S4,R4]
     .rw[T8 c]
      exact aP #[rfl,S3,R3]
    .rintro c st3 ⟨rfl,S3,R3⟩
     dsimp only
     exact aI (eE (aI (eE (aP (done n (gl st3 _) n1 n2 #[S3.kd,S3.pm,S3.fl] (by
      show Runs rk (kU g2 (Array.modify _ _ _).toList++_) _ _ _;rw[Ut];exact R3))))))
  .rw[T8 c2]
   have n2:lo+m<=a₀.size:=by lia
   refine aI<|fZ ?_;have S5:Sc κ a₀ st2:=#[B2.kd,B2.pm,B2.fl];have hz:(aZ st2).size=a₀.size:=B2.size;have R5:Runs rk (pl st2++[(lo,m)]) 0 (lo+m) (aZ st2).toList:=Runs.app.mpr #[lo,by
    unfold pl at R1 ⊢;rw[B2.pd];refine R1.congr λk _ hk=>?_
    have e:(gT lo _)[k]?=(gT lo _)[k]?:=congrArg (λl=>l[k]?) B2.ah
    rw[cL,cL,T9 hk,T9 hk]at e;exact e,rfl,m1,vN (by lia) u2,rfl]
   cases hbk:(a9 st2).back? with
   |none=>
    exact aI<|eE<|aP<|done m st2 m1 n2 S5 R5
   |some q5=>
    obtain⟨x1,x2,x3⟩:=q5
    dsimp only
    refine aI<|d3 (cc (I:=λ_ c st3=>c=(ae,())/\Sc κ a₀ st3/\Runs rk (pl st3++[(lo,m)]) 0 (lo+m) (aZ st3).toList) ?_ (λc st3 h=>h) #[rfl,S5,R5]) ?_
    .rintro x c st3 _ _ ⟨rfl,S3,R3⟩
     refine aI<|fZ ?_;by_cases c:(a9 st3).size>1
     .rw[T9 c,bc<|show(a9 st3).size-2<(a9 st3).size by lia]
      dsimp only
      split
      .exact aP #[rfl,S3,R3]
      .refine aI (XI O ia nd S3 (by lia) n2 R3 λst4 S4 _ R4=>?_)
       simp only[iR,cu,if_false];exact aP #[rfl,S4,R4]
     .rw[T8 c]
      exact aP #[rfl,S3,R3]
    .rintro c st3 ⟨rfl,S3,R3⟩
     dsimp only
     exact aI (eE (aI (eE (aP (done m (gl st3 _) m1 n2 #[S3.kd,S3.pm,S3.fl] (by
      show Runs rk (kU g2 (Array.modify _ _ _).toList++_) _ _ _;rw[Ut];exact R3))))))
 .rintro c st1 ⟨lo,rfl,g1,g2',S1,R1⟩
  obtain rfl:lo=a₀.size:=by lia
  exact#[rfl,S1,R1]
 .rintro c st1 ⟨rfl,S1,R1⟩
  dsimp only
  have len1:=R1.le;refine aI (d3 (cc
   (I:=λx c st2=>c=(ae,())/\Sc κ a₀ st2/\Runs rk (pl st2) 0 a₀.size (aZ st2).toList/\(a9 st2).size<=max 1 (a₀.size-x))
   (Q:=λc st2=>c=(ae,())/\Sc κ a₀ st2/\Runs rk (pl st2) 0 a₀.size (aZ st2).toList/\(a9 st2).size<=1) ?_ ?_ #[rfl,S1,R1,by unfold pl at len1;rw[ay,aE]at len1;lia]) ?_)
  .rintro x c st2 _ hx ⟨rfl,S2,R2,l2⟩
   refine aI<|fZ ?_;by_cases c:(a9 st2).size<=1
   .rw[T9 c]
    exact aP #[rfl,S2,R2,c]
   rw[T8 c];generalize hj:(if(Option.any (λx=>ag<|x<((a9 st2)[(a9 st2).size-2+1]?).elim 0 λx=>x.2.1)<|if(a9 st2).size-2>0 then Option.map (λx=>x.2.1) (a9 st2)[(a9 st2).size-2-1]? else ae)=am then(a9 st2).size-2-1 else(a9 st2).size-2)=j
   have hj1:j+1<(a9 st2).size:=by
    have g:∀b:Bool,(if b=am then(a9 st2).size-2-1 else(a9 st2).size-2)+1<(a9 st2).size:=λb=>by cases b<;>simp<;>lia
    rw[<-hj];exact g _
   refine aI<|XI (R3:=[]) O ia nd S2 hj1 (aA _) (by rw[cg];exact R2) λst3 S3 l3 R3=>?_
   rw[cg]at R3;simp only[iR,cu,if_false];exact aP #[rfl,S3,R3,by lia]
  .rintro c st2 ⟨rfl,S2,R2,l2⟩
   exact#[rfl,S2,R2,by lia]
  .rintro c st2 ⟨rfl,S2,R2,l2⟩
   dsimp only
   refine aP<|q st2 S2.pm S2.fl ?_;have hz:(aZ st2).toList.length=a₀.size:=by rw[aE];exact S2.pm.size_eq
   unfold pl at R2
   match hP:(a9 st2).toList,R2 with
   |[],R2=>exact T7 (show 0=a₀.size from R2) (by lia)
   |[(i,n,pw)],R2=>
    obtain⟨_,_,z,e⟩:=R2;have e:0+n=a₀.size:=e;rw[hJ,cw<|by dsimp only[g2];lia]at z
    exact z
   |_::_::_,_=>rw[<-aE,hP]at l2;simp at l2
end
end Tq
namespace Sq
open PySem PySem.W PyProof.Rows
structure Ord(n:Nat)(lt:Nat->Nat->Bool):Prop where
 tot:∀i j,i<n->j<n->i≠j->lt i j=aj->lt j i=am
 asy:∀i j,i<n->j<n->lt i j=am->lt j i=aj
 tr:∀i j k,i<n->j<n->k<n->lt i j=am->lt j k=am->lt i k=am
noncomputable abbrev g(p:Array Nat)(i:Nat):Nat:=p.getD i 0
def Pm(n:Nat)(p:Array Nat):Prop:=p.Perm<|cS<|aK n
theorem Pm.size(h:Pm n p):p.size=n:=by have:=Array.Perm.size_eq h;simpa using this
def jC(h:i<p.size):p[i]?=aa (g p i):=by simp[g,h]
def Pm.lt(h:Pm n p)(hi:i<n):g p i<n:=by
 have hs:=h.size;have h1:g p i∈p.toList:=by
  have:p.toList[i]?=aa (g p i):=by rw[be];exact jC (by lia)
  exact dy this
 have h2:p.toList.Perm (aK n):=by simpa using bv.mp h
 exact aQ.mp<|h2.mem_iff.mp h1
def Up(lt:Nat->Nat->Bool)(p:Array Nat)(m:Nat):Prop:=∀i j,i<j->j<m->lt (g p i) (g p j)=am
theorem UJ{B:Type}{p q:B->Bool}:∀{l:List B},(∀x∈l,p x=am->q x=am)->(∃x∈l,q x=am/\p x=aj)->l.countP p<l.countP q
 |[],_,#[x,hx,_]=>by cases hx
 |y::l,h,#[x,hx,h1,h2]=>by
  have hm:=List.countP_mono_left λz hz=>h z<|ai _ hz
  rw[mJ,mJ];rcases az.mp hx with rfl|hx
  .rw[h1,h2,T9 rfl,T8 aN];lia
  .have:=UJ (λz hz=>h z<|ai _ hz) #[x,hx,h1,h2]
   have hy:=h y<|al ..;cases e:p y with|false=>rw[T8 aN];lia|true=>rw[hy e,T9 rfl];lia
noncomputable def rank(n:Nat)(lt:Nat->Nat->Bool)(i:Nat):Nat:=(aK n).countP λj=>lt j i
def Vd{n:Nat}{lt:Nat->Nat->Bool}(O:Ord n lt){i j:Nat}(hi:i<n)(hj:j<n):ag (rank n lt i<rank n lt j)=lt i j:=by
 have irr:∀k,k<n->lt k k=aj:=λk hk=>by
  cases e:lt k k with|false=>rfl|true=>rw[<-e];exact O.asy k k hk hk e
 have up:=λ{a b} ha hb e=>
  UJ (λx hx h=>O.tr x a b (aQ.mp hx) ha hb h e) #[a,aQ.mpr ha,e,irr a ha]
 cases e:lt i j with
 |true=>exact T5<|up hi hj e
 |false=>
  refine T4 λh=>?_
  by_cases z:i=j
  .subst z;exact bm _ h
  .exact Nat.lt_asymm h<|up hj hi<|O.tot i j hi hj z e
section
open Classical
noncomputable def idx(vs:List ap)(v:ap):Nat:=if h:∃i:Nat,vs[i]?=aa v then choose h else 0
def GP(nd:vs.Nodup)(h:vs[i]?=aa v):idx vs v=i:=by
 have hx:∃i:Nat,vs[i]?=aa v:=#[i,h];unfold idx;rw[dif_pos hx];have e:=choose_spec hx;have hl:=(aX.mp e).1;exact(f6 hl nd).mp<|e.trans h.symm
end
def ZaV{vs:List ap}{κ:eY}{lt:Nat->Nat->Bool}(nd:vs.Nodup)(h1:1<=vs.length)(O:Ord vs.length lt)
  (ask:∀i j,i<vs.length->j<vs.length->∀(C:Bool->aw->Prop)(E:ap->aw->Prop),C (lt i j) s->aW (aV prog w) A (keyLt' κ (vs.getD i bh)<|vs.getD j bh) C E s) :
  aW (aV prog w) A ((sortRuns').run<|nH κ (vs.toArray.zip vs.toArray) #[] 7 ae) (λr s'=>s'=s/\∃p,Pm vs.length p/\Up lt p vs.length/\fF r.2=ae/\(aZ r.2).map (·.2)=cS (p.toList.map λi=>vs.getD i bh)) E s:=by
 have hz:(vs.toArray.zip vs.toArray).toList=vs.map λv=>(v,v):=by
  rw[ksk_zip];show oa vs vs=_;clear ask O h1 nd
  induction vs with|nil=>rfl|cons v l ih=>rw[cM,ih];rfl
 let rk:bO->Nat:=λx=>rank vs.length lt<|idx vs x.1
 let In:bO->Prop:=λx=>∃i:Nat,vs[i]?=aa x.1/\x=(x.1,x.1)
 have atI:∀{x:bO},In x->idx vs x.1<vs.length/\vs.getD (idx vs x.1) bh=x.1:=λ{x} #[i,e,_]=>by
  rw[GP nd e];exact#[(aX.mp e).1,by rw[aJ,e];rfl]
 have od:Tq.Od prog w A E s κ In rk:=⟨λ{x y τ Q} ix iy hk q=>by
  obtain⟨a1,a2⟩:=atI ix;obtain⟨b1,b2⟩:=atI iy;rw[lt'_eq];refine aI<|fZ ?_;rw[hk];have:=ask _ _ a1 b1 (λb s'=>s'=s/\b=lt (idx vs x.1) (idx vs y.1)) (λ_ _=>False) #[rfl,rfl]
  rw[a2,b2]at this;refine aI<|wpS_lift<|gv<|dg this (λb s' h=>?_) λ_ _ h=>h.elim
  obtain⟨rfl,rfl⟩:=h;refine#[rfl,aP ?_];rw[<-Vd O a1 b1];exact q⟩
 have ia:∀x∈(vs.toArray.zip vs.toArray).toList,In x:=λx hx=>by
  rw[hz]at hx;obtain⟨v,hv,rfl⟩:=aS.mp hx;obtain⟨i,hi,e⟩:=kT.mp hv;exact#[i,by rw[af hi,e],rfl]
 have rks:(vs.toArray.zip vs.toArray).toList.map rk=(aK vs.length).map (rank vs.length lt):=by
  rw[hz,cG];refine bM λi=>?_
  rw[aH,aH];by_cases h:i<vs.length
  .rw[cA h,af h]
   exact congrArg (λk=>aa<|rank vs.length lt k)<|GP nd<|af h
  .rw[br (by lia),br (by rw[bG];lia)];rfl
 have ndr:((vs.toArray.zip vs.toArray).toList.map rk).Nodup:=by
  rw[rks];refine cF.mpr<|iS ?_ mK;intro a b ha hb ne e;have ha:=aQ.mp ha;have hb:=aQ.mp hb;have h1:=Vd O ha hb;have h2:=Vd O hb ha;rw[e,T4<|bm _]at h1 h2;exact T7 (O.tot a b ha hb ne h1.symm) (by rw[<-h2];simp)
 have sz:(vs.toArray.zip vs.toArray).size=vs.length:=by rw[<-aE,hz,ay]
 refine Tq.sort_ok (Q:=λ_ st'=>∃p,Pm vs.length p/\Up lt p vs.length/\fF st'=ae/\(aZ st').map (·.2)=cS (p.toList.map λi=>vs.getD i bh)) od ia ndr rfl rfl rfl rfl (by lia) λst' pm fl so=>?_
 have pl:=bv.mp pm;have inS:=λx hx=>ia x<|pl.mem_iff.mp hx
 have pp:((aZ st').toList.map λx=>idx vs x.1).Perm (aK vs.length):=by
  refine(pl.map _).trans<|m7 ?_;rw[hz,cG];refine bM λi=>?_
  rw[aH];by_cases h:i<vs.length
  .rw[cA h,af h]
   exact congrArg aa<|GP nd<|af h
  .rw[br (by lia),br (by rw[bG];lia)];rfl
 have sl:(aZ st').toList.length=vs.length:=by rw[pl.length_eq,hz,ay]
 refine#[cS<|(aZ st').toList.map λx=>idx vs x.1,bv.mpr pp,λi j hij hj=>?_,fl,?_]
 .have gk:∀k (hk:k<(aZ st').toList.length),g (cS<|(aZ st').toList.map λx=>idx vs x.1) k=idx vs ((aZ st').toList[k]).1:=λk hk=>by
   show((cS<|(aZ st').toList.map λx=>idx vs x.1).getD k 0)=_
   rw[Array.getD_eq_getD_getElem?,List.getElem?_toArray,aH,af hk];rfl
  rw[gk i (by lia),gk j (by lia)]
  have:=bB.mp so i j (by lia) (by lia) hij
  rw[<-Vd O (atI<|inS _<|aU _).1 (atI<|inS _<|aU _).1];exact T5 this
 .apply i7.mp
  rw[mL,cG];refine cU λx hx=>?_
  have hi:=inS x hx;show x.2=vs.getD (idx vs x.1) bh;rw[(atI hi).2];obtain⟨_,_,e⟩:=hi;rw[e]
open PySem.Calls
def Lat(h h':b0):Prop:=∀b o,h.get? b=aa o->h'.get? b=aa o
structure Asks(prog:bE)(w:bR)(A:cQ)(h:b0)(vs:List ap)(κ:eY)(lt:Nat->Nat->Bool):Prop where
 kind:2<=vs.length->∀(s':aw)(E:ap->aw->Prop)(Q:eY->aw->Prop),Lat h s'.heap->Q κ s'->aW (aV prog w) A (keyKind' vs.toArray) Q E s'
 nd:vs.Nodup
 cmp:∀i j,i<vs.length->j<vs.length->∀(s':aw)(C:Bool->aw->Prop)(E:ap->aw->Prop),Lat h s'.heap->C (lt i j) s'->aW (aV prog w) A (keyLt' κ (vs.getD i bh)<|vs.getD j bh) C E s'
noncomputable def ltR(b:Bool)(n:Nat)(lt:Nat->Nat->Bool):Nat->Nat->Bool:=λi j=>if b=am then lt (n-1-i) (n-1-j)else lt i j
def qx(O:Ord n lt):Ord n (ltR b n lt):=by
 cases b
 .exact O
 .exact#[λi j hi hj ne h=>O.tot _ _ (by lia) (by lia) (by lia) h,λi j hi hj h=>O.asy _ _ (by lia) (by lia) h,λi j k hi hj hk h1 h2=>O.tr _ _ _ (by lia) (by lia) (by lia) h1 h2]
def JB(hi:i<vs.length):(kW b vs).getD i bh=vs.getD (if b=am then vs.length-1-i else i) bh:=by
 cases b
 .rfl
 .show vs.reverse.getD i bh=vs.getD (vs.length-1-i) bh
  simp only[aJ];rw[kE hi]
def xG(vs:List ap):(aK vs.length).map (λi=>vs.getD i bh)=vs:=by
 apply bM
 intro i;rw[aH];by_cases h:i<vs.length
 .rw[cA h];simp[h]
 .simp[dH h]
def list_sort_rev{P:PySem.Fin->aw->Prop}(ho:s.heap.get? a=aa (eZ "list" vs.toArray n))(h64:vs.length<=100000)
  (h00:∀b o,h0.get? b=aa o->b≠a/\s.heap.get? b=aa o)(O:Ord vs.length lt)(K:Asks prog w A h0 vs κ lt)
  (h:∀p,Pm vs.length p->Up (ltR b vs.length lt) p vs.length->P (.done<|.ret .none) {s with heap:=sortedHeap s.heap a vs (cS<|kW b<|p.toList.map λi=>(kW b vs).getD i bh)}) :
  aW (aV prog w) A (db.«list.sort» #[[.ref a],[(mf "reverse",.bool b)]]) P E s:=by
 rw[im];have ha:=aC ho;refine ab<|listItems_at ho rfl ?_;refine ab<|ln ho rfl ?_;obtain⟨e1,ho1⟩:∃e1,(s.heap.update a<|eV λ_=>#[]).get? a=aa (eZ "list" #[] e1):=#[_,get?_update_seq ho λ_=>#[]]
 refine ab<|mX ho1 rfl ?_;refine ab<|wpAny_newTuple ?_;refine ab<|lp ?_;refine bJ ?_;have ho6:(((s.heap.update a<|eV λ_=>#[]).push<|eZ "tuple" vs.toArray 0).push<|eZ "list" #[] 0).get? a=aa (eZ "list" #[] e1):=by
  rw[mh _ _ _ (by rw[nJ,mM];exact bi<|c8 ha),mh _ _ _ (by rw[mM];exact bi ha)]
  exact ho1
 have lat:Lat h0 (((s.heap.update a<|eV λ_=>#[]).push<|eZ "tuple" vs.toArray 0).push<|eZ "list" #[] 0):=λb o e=>by
  obtain⟨nb,e⟩:=h00 b o e;exact au _<|au _ (by rw[b0.get?_update_ne _ _ _ _ nb];exact e)
 generalize hs':((s.heap.update a<|eV λ_=>#[]).push<|eZ "tuple" vs.toArray 0).push (eZ "list" #[] 0)=h1 at ho6 lat ⊢
 dsimp only
 have step:∀t:mv PySem.Fin,aW (aV prog w) A t P E {s with heap:=h1}->aW (aV prog w) A (if b=am then(do let _ <-mw "list.sort.reverse";t)else t) P E {s with heap:=h1}:=by
  intro t ht;split
  .exact ab<|eW ht
  .exact ht
 refine step _ ?_;have hrl:=nt b vs;have fin:∀out:List ap,out.length=vs.length->(∃p,Pm vs.length p/\Up (ltR b vs.length lt) p vs.length/\out=p.toList.map λi=>(kW b vs).getD i bh)->
   P (.done<|.ret .none) {s with heap:=h1.update a (eV λ_=>cS<|kW b out)}:=by
  rintro out _ ⟨p,h1',h2',rfl⟩
  subst hs';exact h p h1' h2'
 by_cases h2:vs.toArray.size<2
 .rw[T9 h2,T9 h2]
  refine ab<|aq ?_;rw[StateT.run_pure];refine ab<|aq ?_
  dsimp only
  have hz:((aZ<|nH general' (if b=am then(vs.toArray.zip vs.toArray).reverse else vs.toArray.zip vs.toArray) #[] 7 ae).map (·.2))=cS (kW b vs):=by
   rw[kat_pairs b rfl];apply i7.mp;rw[mL,ksk_zip];exact List.map_snd_zip<|aA _
  rw[hz];refine ab<|mX ho6 rfl ?_;rw[kat_outs];refine ab<|ln ho6 rfl ?_ (hsz2:=by rw[ax];(try rw[nt]);(try rw[nt]);rw[cV];lia)
  simp only[bne_self_eq_false,cu,if_false];refine aq<|fin (kW b vs) (nt b vs) #[cS<|aK vs.length,Array.Perm.refl _,λi j a1 a2=>by rw[ax]at h2;lia,?_]
  rw[<-hrl];exact(xG _).symm
 .rw[T8 h2,T8 h2]
  have l2:2<=vs.length:=by rw[ax]at h2;lia
  refine ab<|K.kind l2 _ _ _ lat ?_;rw[kat_pairs b rfl];have ndR:(kW b vs).Nodup:=by
   cases b
   .exact K.nd
   .exact(d6 vs).nodup_iff.mpr K.nd
  refine ab (dg (ZaV ndR (by lia) (by rw[hrl];exact qx (b:=b) O) (by
    rw[hrl];intro i j hi hj C E hC;rw[JB hi,JB hj];cases b
    .exact K.cmp i j hi hj _ _ _ lat hC
    .exact K.cmp _ _ (by simp only[if_true];lia) (by simp only[if_true];lia) _ _ _ lat hC)) ?_ λ_ _ x=>x)
  rintro ⟨⟨⟩,st'⟩ s' ⟨rfl,p,e2,e3,hf,har⟩
  rw[hrl]at e2 e3
  dsimp only
  rw[har];have hl:(p.toList.map λi=>(kW b vs).getD i bh).length=vs.length:=by rw[ay,aE,e2.size]
  refine ab<|mX ho6 rfl ?_;rw[kat_outs];refine ab<|ln ho6 rfl ?_ (hsz2:=by rw[ax];(try rw[nt]);rw[hl,cV];lia)
  rw[hf];simp only[bne_self_eq_false,cu,if_false];exact aq<|fin _ hl #[p,e2,e3,rfl]
def UB(a:aL):db.«list.sort» #[[.ref a],[]]=db.«list.sort» #[[.ref a],[(mf "reverse",.bool aj)]]:=by
 rw[PyProof.Rows.list_sort_plain,im];rfl
end Sq
namespace Sd
open PySem PySem.Spec PyProof.Rows L2
open Ev (E Sm Fn Bop Cop Ty Bf Mf)
end Sd
namespace Sd
open Ev (ltI Yx ZE)
theorem Qh:∀{x y:List Int},x≠y->ltI x y=aj->ltI y x=am
 |[],[],h,_=>T7 rfl h
 |[],_::_,_,h=>by cases h
 |_::_,[],_,_=>rfl
 |a::x,b::y,h,e=>by
  unfold ltI at e ⊢;by_cases c:a=b
  .subst c
   rw[T9 rfl]at e ⊢;exact Qh (λz=>h<|by rw[z]) e
  .rw[T8 c]at e
   rw[T8<|Ne.symm c];have:=of_decide_eq_false e;exact T5 (by omega)
theorem Vh:∀{x y:List Int},ltI x y=am->ltI y x=aj
 |[],[],h=>by cases h
 |[],_::_,_=>rfl
 |_::_,[],h=>by cases h
 |a::x,b::y,e=>by
  unfold ltI at e ⊢;by_cases c:a=b
  .subst c
   rw[T9 rfl]at e ⊢;exact Vh e
  .rw[T8 c]at e
   rw[T8<|Ne.symm c];have:=T6 e;exact T4 (by omega)
theorem Gs:∀{x y z:List Int},ltI x y=am->ltI y z=am->ltI x z=am
 |[],[],_,h,_=>by cases h
 |_::_,[],_,h,_=>by cases h
 |_,_::_,[],_,h=>by cases h
 |[],_::_,_::_,_,_=>rfl
 |a::x,b::y,c::z,e,f=>by
  unfold ltI at e f ⊢;by_cases h1:a=b
  .subst h1
   rw[T9 rfl]at e;by_cases h2:a=c
   .subst h2
    rw[T9 rfl]at f ⊢;exact Gs e f
   .rw[T8 h2]at f ⊢;exact f
  .rw[T8 h1]at e
   have e':=T6 e;by_cases h2:b=c
   .subst h2
    rw[T8 h1];exact e
   .rw[T8 h2]at f
    have f':=T6 f;rw[T8 (by omega)]
    exact T5 (by omega)
theorem Wy(x:List Int):∀l:List (List Int),(Yx x l).Perm (x::l)
 |[]=>cn _
 |y::r=>by
  unfold Yx;split
  .exact cn _
  .exact((Wy x r).cons y).trans<|io x y r
theorem Y3:∀l:List (List Int),(ZE l).Perm l
 |[]=>cn _
 |x::r=>(Wy x<|ZE r).trans<|(Y3 r).cons x
theorem WR(x:List Int):∀{l:List (List Int)},(∀y∈l,x≠y)->l.Pairwise (λa b=>ltI a b=am)->(Yx x l).Pairwise (λa b=>ltI a b=am)
 |[],_,_=>by exact i8 ..
 |y::r,hn,h=>by
  rw[bg]at h;unfold Yx;split
  .rename_i c
   rw[bg,bg];refine#[λz hz=>?_,h]
   rcases az.mp hz with rfl|hz
   .exact c
   .exact Gs c<|h.1 z hz
  .rename_i c
   rw[bg];refine#[λz hz=>?_,WR x (λy hy=>hn y<|ai _ hy) h.2]
   rcases az.mp ((Wy x r).mem_iff.mp hz)with rfl|hz
   .exact Qh (hn y<|al ..) (by simpa using c)
   .exact h.1 z hz
theorem YZ:∀{l:List (List Int)},l.Nodup->(ZE l).Pairwise (λa b=>ltI a b=am)
 |[],_=>iF
 |x::r,h=>by
  rw[dA]at h;exact WR x (λy hy e=>h.1<|by rw[e];exact(Y3 r).mem_iff.mp hy)<|YZ h.2
theorem Xg:∀{a b:List (List Int)},a.Perm b->a.Pairwise (λx y=>ltI x y=am)->b.Pairwise (λx y=>ltI x y=am)->a=b
 |[],b,p,_,_=>(List.Perm.nil_eq p)
 |x::a,[],p,_,_=>by have:=p.length_eq;simp at this
 |x::a,y::b,p,ha,hb=>by
  rw[bg]at ha hb;have e:x=y:=by
   rcases az.mp (p.mem_iff.mp<|al ..)with h|h
   .exact h
   .rcases az.mp (p.mem_iff.mpr (al))with h2|h2
    .exact h2.symm
    .have z1:=hb.1 x h
     have z2:=ha.1 y h2;rw[Vh z1]at z2;cases z2
  subst e;rw[Xg (List.perm_cons x |>.mp p) ha.2 hb.2]
open PySem PySem.Spec PyProof.Rows L2
open Ev (E Sm Fn Bop Cop Ty Bf Mf Z4 Q2 XC ltP Yy)
noncomputable def V3(fin:Bool):List Int->List Int->Bool
 |[],_=>fin
 |_::_,[]=>fin
 |a::x,b::y=>if a=b then V3 fin x y else ag (a<b)
theorem QS:∀(x y:List Int),V3 (ag<|x.length<y.length) x y=ltI x y
 |[],[]=>rfl
 |[],_::_=>by unfold V3 ltI;simp
 |_::_,[]=>by unfold V3 ltI;simp
 |a::x,b::y=>by
  unfold V3 ltI;have:ag ((a::x).length<(b::y).length)=ag (x.length<y.length):=by simp
  rw[this,QS x y]
theorem J6{C:Bool->aw->Prop}:∀{x y:List Int}{u v:List ap}{i:Nat},Vals (x.map V.int) u->Vals (y.map V.int) v->C (V3 fin x y) s->PySem.W.KatLex prog w A b fin C (u.zip v) i s
 |[],_,_,_,_,.nil,_,h=>by rw[iJ];exact m8 h
 |_::_,[],_,_,_,_,.nil,h=>by rw[ip];exact m8 h
 |a::x,c::y,_,_,i,.cons ra ta,.cons rb tb,h=>by
  obtain⟨t,rfl⟩:=ra;obtain⟨t',rfl⟩:=rb;rw[cM];refine PySem.W.kat_cons<|iU ?_;unfold V3 at h;by_cases e:a=c
  .rw[T9 e]at h
   rw[beq_iff_eq.mpr e];exact PySem.W.kat_yes<|J6 ta tb h
  .rw[T8 e]at h
   rw[beq_eq_false_iff_ne.mpr e];refine PySem.W.kat_no ?_;cases q:(b&&i == 0)with|true=>exact oneLt_int h|false=>exact PySem.W.kat_one _ _<|lt_int h
inductive RowsAt(h:b0):List (List Int)->List ap->Prop where
 |nil:RowsAt h [] []
 |cons {r:List Int} {rs:List (List Int)} {vs:List ap} {a:aL} {o:fb} {us:List ap} {m:Nat} (ho:h.get? a=aa o) (hc:o.cls=.type "tuple") (hd:o.data=.seq us.toArray m) (hv:Vals (r.map V.int) us) (t:RowsAt h rs vs):RowsAt h (r::rs) (.ref a::vs)
theorem VA:∀{ks:List D}{k:List Int},Pv.intsV ks=aa k->ks=k.map Pv.V.int
 |[],k,h=>by cases h;rfl
 |d::ks,k,h=>by
  obtain⟨n,r,rfl,e,rfl⟩:=UG h;rw[VA e];rfl
def xB(h:Pv.Z0 (d::ds)=aa rs):∃a b,d=Pv.Zb a/\Pv.Z0 ds=aa b/\rs=a::b:=by
 cases d with
 |tup x=>
  have h:(match Pv.intsV x,Pv.Z0 ds with
   |some a,aa b=>aa (a::b)
   |_,_=>ae)=aa rs:=h
  cases q1:Pv.intsV x with
  |none=>rw[q1]at h;cases h
  |some a=>
   cases q2:Pv.Z0 ds with
   |none=>rw[q1,q2]at h;cases h
   |some b=>
    rw[q1,q2]at h;exact#[a,b,congrArg Pv.V.tup<|VA q1,rfl,(ak h).symm]
 |_=>exact Ev.nos h
theorem Rq.intsV:∀{r:List Int}{xs:List V},Rq O H (r.map Pv.V.int) xs->xs=r.map V.int
 |[],xs,h=>by exact h
 |n::r,xs,h=>by
  have h':=h;obtain⟨v,vs,rfl,a,b⟩:=h';rw[a.int',Rq.intsV b];rfl
theorem W8(I:Inv X pq U H s):∀{ds:List D}{rs:List (List Int)}{xs:List V}{its:List ap},Pv.Z0 ds=aa rs->Rq O H ds xs->Vals xs its->RowsAt s.heap rs its/\ds=rs.map Pv.Zb
 |[],rs,xs,its,h,r,v=>by
  subst r;cases v;cases h;exact#[.nil,rfl]
 |d::ds,rs,xs,its,h,r,v=>by
  obtain⟨x,xs',rfl,r1,r2⟩:=r;cases v with
  |cons v1 v2=>
   obtain⟨a,b,rfl,q2,rfl⟩:=xB h;obtain⟨t,e⟩:=W8 I q2 r2 v2;obtain⟨p,ys,rfl,hp,ry⟩:=r1.tup';have ey:=Rq.intsV ry;subst ey;cases v1;obtain⟨us,rv,⟨o,ho,hc,m,hd⟩,_⟩:=I.tuple<|SqT.of hp;exact#[.cons ho hc hd rv t,by rw[e];rfl]
theorem RowsAt.length{h:b0}:∀{rs:List (List Int)}{vs:List ap},RowsAt h rs vs->rs.length=vs.length
 |_,_,.nil=>rfl
 |_,_,.cons _ _ _ _ t=>by rw[aO,aO,RowsAt.length t]
theorem RowsAt.at{h:b0}:∀{rs:List (List Int)}{vs:List ap}(i:Nat),RowsAt h rs vs->i<vs.length->∃a o us m,vs.getD i bh=.ref a/\h.get? a=aa o/\o.data=.seq us.toArray m/\Vals ((rs.getD i []).map V.int) us
 |_,_,_,.nil,hi=>by simp at hi
 |_,_,0,.cons ho hc hd hv t,_=>#[_,_,_,_,rfl,ho,hd,hv]
 |_,_,i+1,.cons ho hc hd hv t,hi=>by
  obtain⟨a,o,us,m,e1,e2,e3,e4⟩:=RowsAt.at i t (by simpa using hi)
  exact#[a,o,us,m,by simpa using e1,e2,e3,by simpa using e4]
theorem RowsAt.tups(k:Sq.Lat h h'):∀{rs:List (List Int)}{vs:List ap},RowsAt h rs vs->(∀r∈rs,r≠[])->∃fs,PySem.W.KatTups h' vs fs/\fs.length=vs.length/\∀v∈fs,∃n t,v=eI n t
 |_,_,.nil,_=>#[[],.nil,rfl,λv hv=>by cases hv]
 |_,_,.cons (r:=r) ho hc hd hv t,hn=>by
  obtain⟨fs,t1,t2,t3⟩:=RowsAt.tups k t λr hr=>hn r<|ai _ hr
  have hr:=hn r<|al ..;cases r with
  |nil=>exact T7 rfl hr
  |cons n r=>
   obtain⟨u,g,rel⟩:=hv.get (i:=0) rfl;refine#[u::fs,.cons (k _ _ ho) hc hd (by simpa using g) t1,by rw[aO,aO,t2],λv hv=>?_]
   rcases az.mp hv with rfl|hv
   .obtain⟨tk,e⟩:=rel
    exact#[n,tk,e]
   .exact t3 v hv
theorem V1:∀{x y:List Int}{us:List ap},Vals (x.map V.int) us->Vals (y.map V.int) us->x=y
 |[],[],_,_,_=>rfl
 |[],_::_,_,.nil,h=>by cases h
 |_::_,[],_,h,.nil=>by cases h
 |a::x,b::y,_,.cons r t,.cons r' t'=>by
  obtain⟨k,rfl⟩:=r;obtain⟨k',e⟩:=r';cases e;rw[V1 t t']
def wK{B:Type}{df:B}{rs:List B}{vs:List ap}(hl:rs.length=vs.length)(nd:rs.Nodup)(h:∀i j,i<vs.length->j<vs.length->vs.getD i bh=vs.getD j bh->rs.getD i df=rs.getD j df):vs.Nodup:=by
 refine bB.mpr λi j hi hj hij e=>?_
 have:=h i j hi hj (by simp[hi,hj,e])
 simp only[aJ,af (show i<rs.length by lia),af (show j<rs.length by lia)]at this
 exact bB.mp nd i j (by lia) (by lia) hij this
def yB{prog:bE}{w:bR}{A:cQ}{h:b0}{rs:List (List Int)}{vs:List ap}(R:RowsAt h rs vs)(nd:rs.Nodup)(hn:∀r∈rs,r≠[]):Sq.Asks prog w A h vs (tuples' am) (λi j=>ltI (rs.getD i [])<|rs.getD j []):=by
 refine#[λh2 s' E Q k q=>?_,wK (df:=[]) R.length nd λi j hi hj e=>?_,λi j hi hj s' C E k q=>?_]
 .obtain⟨fs,t1,t2,t3⟩:=R.tups k hn
  exact PySem.W.kat_kind (T:=.type "int") t1 (by lia) (λv hv=>by obtain⟨n,t,rfl⟩:=t3 v hv;exact PySem.W.Looks.of_pure rfl) rfl q
 .obtain⟨a,o,us,m,e1,e2,e3,e4⟩:=R.at i hi
  obtain⟨a',o',us',m',f1,f2,f3,f4⟩:=R.at j hj;rw[e1,f1]at e;cases e;rw[e2]at f2;cases f2;rw[e3]at f3;cases f3;exact V1 e4 f4
 .obtain⟨a,o,us,m,e1,e2,e3,e4⟩:=R.at i hi
  obtain⟨a',o',us',m',f1,f2,f3,f4⟩:=R.at j hj;rw[e1,f1];refine PySem.W.kat_lt (k _ _ e2) e3 (k _ _ f2) f3<|J6 e4 f4 ?_;have l1:us.toArray.size=(rs.getD i []).length:=by rw[ax,<-e4.length,ay]
  have l2:us'.toArray.size=(rs.getD j []).length:=by rw[ax,<-f4.length,ay]
  rw[l1,l2,QS];exact q
def vP{rs:List (List Int)}{n:Nat}(hn:rs.Nodup)(hl:rs.length=n):Sq.Ord n (λi j=>ltI (rs.getD i [])<|rs.getD j []):=by
 have hd:∀i j,i<n->j<n->i≠j->rs.getD i []≠rs.getD j []:=λi j hi hj ne e=>by
  simp only[aJ]at e;have hi':i<rs.length:=by lia
  have hj':j<rs.length:=by lia
  refine ne<|(f6 hi' hn).mp ?_;rw[af hi',af hj']at e ⊢;exact congrArg aa e
 exact#[λi j hi hj ne e=>Qh (hd i j hi hj ne) e,λi j _ _ e=>Vh e,λi j k _ _ _ e f=>Gs e f]
def JD{B:Type}(b:Bool)(l:List B):(b7 b l).Perm l:=by
 cases b
 .exact cn _
 .exact d6 l
def W2{B:Type}{d:B}{b:Bool}{vs:List B}{i:Nat}(hi:i<vs.length):(b7 b vs).getD i d=vs.getD (if b=am then vs.length-1-i else i) d:=by
 cases b
 .rfl
 .show vs.reverse.getD i d=vs.getD (vs.length-1-i) d
  simp only[aJ];rw[kE hi]
def vT{rs:List (List Int)}{b:Bool}{p:Array Nat}(hn:rs.Nodup)(h1:Sq.Pm rs.length p)(h2:Sq.Up (Sq.ltR b rs.length λi j=>ltI (rs.getD i [])<|rs.getD j []) p rs.length) :
  (p.toList.map λi=>(b7 b rs).getD i [])=ZE rs:=by
 have hp:p.toList.Perm (aK rs.length):=by simpa using bv.mp h1
 have hl:p.toList.length=rs.length:=by rw[hp.length_eq,bG]
 refine Xg ?_ ?_<|YZ hn
 .refine((hp.map _).trans ?_).trans (Y3 rs).symm
  have e:(aK rs.length).map (λi=>(b7 b rs).getD i [])=b7 b rs:=by
   apply bM
   intro i;rw[aH];by_cases h:i<rs.length
   .have:i<(b7 b rs).length:=by rw[m9];exact h
    rw[cA h];simp[this]
   .have:(b7 b rs).length<=i:=by rw[m9];lia
    simp[dH h,this]
  rw[e];exact JD b rs
 .rw[cF,bB]
  intro i j hi hj hij;have g1:p.toList[i]=Sq.g p i:=by
   have:=Sq.jC (by simpa using hi)
   rw[<-be,af hi]at this;exact ak this
  have g2:p.toList[j]=Sq.g p j:=by
   have:=Sq.jC (by simpa using hj)
   rw[<-be,af hj]at this;exact ak this
  rw[g1,g2,W2 (h1.lt (by lia)),W2<|h1.lt (by lia)]
  have:=h2 i j hij (by lia)
  cases b
  .exact this
  .exact this
def vn{F:List Nat}{xs:List V}{rs:List (List Int)}(h:Rq O H (rs.map Pv.Zb) xs)(hF:∀i∈F,i<rs.length):Rq O H ((F.map λi=>rs.getD i []).map Pv.Zb) (F.map λi=>xs.getD i V.non):=by
 induction F with
 |nil=>exact Rq.nil
 |cons i F ih=>
  refine Rq.cons ?_<|ih λj hj=>hF j<|ai _ hj
  have hi:=hF i<|al ..;obtain⟨v,g,r⟩:=h.get (by rw[aH,af hi];rfl)
  show Rep O H (Pv.Zb<|rs.getD i []) (xs.getD i V.non);rw[aJ,aJ,g,af hi];exact r
def wG{F:List Nat}{xs:List V}{us:List ap}(h:Vals xs us)(hF:∀i∈F,i<xs.length):Vals (F.map λi=>xs.getD i V.non) (F.map λi=>us.getD i bh):=by
 induction F with
 |nil=>exact .nil
 |cons i F ih=>
  refine .cons ?_<|ih λj hj=>hF j<|ai _ hj
  have hi:=hF i<|al ..;obtain⟨u,g,r⟩:=h.get<|af hi;show Zv (xs.getD i V.non) (us.getD i bh);rw[aJ,aJ,g,af hi];exact r
end Sd
namespace Sd
open PySem PySem.Spec PyProof.Rows L2
open Ev (ltI)
open PySem.SeqAt PySem.MeetsSeq PySem.MeetsSeq2 PySem.MeetsSeq3 PySem.SeqRoads2
open PySem.AutoSeq1 (wpAny_loadPart')
def GC(l b:aL)(u v:List ap)(n n2:Nat)(dd dd2:Option aL)(sl sl2:Array (Option ap))(x y:List Int)(hx:Vals (x.map V.int) u)(hy:Vals (y.map V.int) v) :
  nE (db.«tuple.__lt__» #[[.ref l,.ref b],[]]) (λA R s=>s.heap.get? l=aa {cls:=.type "tuple",dict:=dd,data:=.seq u.toArray n,slots:=sl}/\s.heap.get? b=aa {cls:=.type "tuple",dict:=dd2,data:=.seq v.toArray n2,slots:=sl2}/\R (.ok<|.ret<|.bool<|ltI x y) s):=
 .of_wp λprog w A R s h=>by
  obtain⟨hp,g,d,tk,os⟩:=s;obtain⟨hl,hb,h⟩:=h;have f2:=du;rw[<-QS]at h
  wp_walk using gL hl,gL hb,wpAny_forIn_list _ (λrest b s'=>b.1=ae/\s'=#[hp,g,d,tk,os]/\∃x' y' u' v',rest=oa u' v'/\Vals (kU V.int x') u'/\Vals (kU V.int y') v'/\R (.ok<|.ret<|.bool<|V3 (ag<|x.length<y.length) x' y') #[hp,g,d,tk,os]) _
  case turn=>
   rintro ⟨a,c⟩ rest b s' ⟨hb',rfl,x',y',u',v',hz,hx',hy',hR⟩
   match x',y',u',v',hx',hy',hz,hR with
   |i::x',j::y',_::u',_::v',.cons ra ta,.cons rb tb,hz,hR=>
    obtain⟨t,rfl⟩:=ra;obtain⟨t',rfl⟩:=rb;rw[cM]at hz;injection hz with h1 h2
    cases h1;unfold V3 at hR;refine ab<|iU ?_;by_cases e:i=j
    .rw[T9 e]at hR
     rw[beq_iff_eq.mpr e]
     wp_walk
     exact#[rfl,rfl,x',y',u',v',h2,ta,tb,hR]
    .rw[T8 e]at hR
     rw[beq_eq_false_iff_ne.mpr e];simp only[nK,if_true];refine ab<|eW<|ab<|PyProof.Rows.lt_int ?_
     wp_walk
     exact#[_,rfl,by simpa using hR]
   |[],_,_,_,.nil,_,hz,_=>rw[iJ]at hz;cases hz
   |_::_,[],_,_,_,.nil,hz,_=>rw[ip]at hz;cases hz
  case fin=>
   rintro ⟨b1,b2⟩ s' ⟨hb',rfl,x',y',u',v',hz,hx',hy',hR⟩
   simp only at hb';subst hb';have hf:V3 (ag<|x.length<y.length) x' y'=ag (x.length<y.length):=by
    match x',y',u',v',hx',hy',hz with
    |[],_,_,_,_,_,_=>rfl
    |_::_,[],_,_,_,_,_=>rfl
    |_::_,_::_,_::_,_::_,.cons _ _,.cons _ _,hz=>rw[cM]at hz;cases hz
   rw[hf]at hR;have l1:u.length=x.length:=by rw[<-hx.length,ay]
   have l2:v.length=y.length:=by rw[<-hy.length,ay]
   wp_walk
   exact#[_,rfl,by simpa[f9,l1,l2]using hR]
  case h=>
   exact#[rfl,rfl,x,y,u,v,by simp,hx,hy,h]
def Zae{E:ap->aw->Prop}{Q:ap->aw->Prop}(ha:s.heap.get? a=aa o)(hc:o.cls=.type "tuple")(hd:o.data=.seq u.toArray m)(hx:Vals (x.map V.int) u)
  (hb:s.heap.get? b=aa o')(hc':o'.cls=.type "tuple")(hd':o'.data=.seq v.toArray m')(hy:Vals (y.map V.int) v)(hu:A.units<dq)(q:Q (.bool<|ltI x y) s):aW (aV prog w) A (bY .Lt (.ref a)<|.ref b) Q E s:=by
 obtain⟨cls,dd,data,sl⟩:=o;obtain⟨cls2,dd2,data2,sl2⟩:=o';simp only at hc hd hc' hd';subst hc hd hc' hd';exact ku (op:=.Lt) #[_,ha,rfl] #[_,hb,rfl] nc mN (mi _ _) (GC a b u v m m' dd dd2 sl sl2 x y hx hy) #[ha,hb,#[(λx=>nomatch x),q]] hu
end Sd
namespace Sd
open Ev (ltI ltP Q2 XC)
open PySem PySem.Spec PyProof.Rows L2
theorem QK:∀{x:List Int}{u:List ap}{j:Nat}(h:j<u.length),Vals (x.map V.int) u->∃t,u[j]=eI (x.getD j 0) t
 |[],[],_,h,.nil=>by simp at h
 |_::_,_::_,0,_,.cons ra _=>by obtain⟨t,rfl⟩:=ra;exact#[t,rfl]
 |_::x,_::u,j+1,h,.cons _ ta=>by
  obtain⟨t,e⟩:=QK (by simpa using h) ta
  exact#[t,by simpa using e]
def ZcJ:∀{x y:List Int},((aK<|nq x.length y.length).all (λj=>x.getD j 0 == y.getD j 0)&&x.length == y.length)=ag (x=y):=by
 intro x y;rw[bT,aG,a8,decide_eq_true_iff]
 constructor
 .rintro ⟨h1,h2⟩
  have h2:x.length=y.length:=by simpa using h2
  apply gn h2;intro i hi hj;have:=h1 i<|aQ.mpr (by lia)
  simpa[hi,hj]using this
 .rintro rfl
  exact#[λj _=>by simp,by simp]
def Ga(h:b0)(r:List Int)(v:ap):Prop:=∃a o us m,v=.ref a/\h.get? a=aa o/\o.cls=.type "tuple"/\o.data=.seq us.toArray m/\Vals (r.map V.int) us
def jk(hx:Ga s.heap x v)(hy:Ga s.heap y u)(hu:A.units<dq):gd A s v u (ag<|x=y):=by
 obtain⟨a,o,us,m,rfl,ho,hc,hd,hv⟩:=hx;obtain⟨b,o',us',m',rfl,ho',hc',hd',hv'⟩:=hy;have l1:us.toArray.size=x.length:=by rw[ax,<-hv.length,ay]
 have l2:us'.toArray.size=y.length:=by rw[ax,<-hv'.length,ay]
 by_cases e:a=b
 .subst e
  rw[ho]at ho';cases ho';rw[hd]at hd';injection hd' with h1 h2
  have h1:us=us':=by simpa using h1
  subst h1;rw[T5<|V1 hv hv'];exact gD _
 .refine hG e ?_
  have:=iI #[o,ho,hc,m,hd] #[o',ho',hc',m',hd'] hu (λj h1 h2=>by
   obtain⟨t,e1⟩:=QK (by simpa using h1) hv
   obtain⟨t',e2⟩:=QK (by simpa using h2) hv'
   rw[show us.toArray[j]=us[j]'(by simpa using h1) by simp,show us'.toArray[j]=us'[j]'(by simpa using h2) by simp,e1,e2]
   exact lH _ _ _ _)
  rw[l1,l2,ZcJ]at this;exact this
def uR{E:ap->aw->Prop}{Q:ap->aw->Prop}(hx:Ga s.heap x v)(hy:Ga s.heap y u)(hu:A.units<dq)(q:Q (.bool<|ltI x y) s):aW (aV prog w) A (bY .Lt v u) Q E s:=by
 obtain⟨a,o,us,m,rfl,ho,hc,hd,hv⟩:=hx;obtain⟨b,o',us',m',rfl,ho',hc',hd',hv'⟩:=hy;exact Zae ho hc hd hv ho' hc' hd' hv' hu q
noncomputable def Gd(fin:Bool):List (List Int)->List (List Int)->Bool
 |[],_=>fin
 |_::_,[]=>fin
 |a::x,b::y=>if a=b then Gd fin x y else ltI a b
theorem zx:∀(x y:List (List Int)),Gd (ag<|x.length<y.length) x y=ltP x y
 |[],[]=>rfl
 |[],_::_=>by unfold Gd ltP;simp
 |_::_,[]=>by unfold Gd ltP;simp
 |a::x,b::y=>by
  unfold Gd ltP;have:ag ((a::x).length<(b::y).length)=ag (x.length<y.length):=by simp
  rw[this,zx x y]
inductive RowsIn(h:b0):List (List Int)->List ap->Prop where
 |nil:RowsIn h [] []
 |cons {r:List Int} {rs:List (List Int)} {v:ap} {vs:List ap} (a:Ga h r v) (t:RowsIn h rs vs):RowsIn h (r::rs) (v::vs)
theorem RowsIn.length :∀{rs:List (List Int)}{vs:List ap},RowsIn h rs vs->rs.length=vs.length
 |_,_,.nil=>rfl
 |_,_,.cons _ t=>by rw[aO,aO,RowsIn.length t]
open Ev (E Sm Fn Bop Cop Ty Bf Mf Yx ZE Z4 Yy)
section
variable{X:Cx}{pq:List (aL×fb)}{U:L2.St}{H:Hp}{s:aw}{O:Mx}
theorem RowsAt.ins{h:b0}:∀{rs:List (List Int)}{vs:List ap},RowsAt h rs vs->RowsIn h rs vs
 |_,_,.nil=>.nil
 |_,_,.cons ho hc hd hv t=>.cons #[_,_,_,_,rfl,ho,hc,hd,hv]<|RowsAt.ins t
end
open PySem.SeqAt PySem.MeetsSeq PySem.MeetsSeq2 PySem.MeetsSeq3 PySem.SeqRoads2
open PySem.AutoSeq1 (wpAny_loadPart')
def G4(l b:aL)(u v:List ap)(n n2:Nat)(dd dd2:Option aL)(sl sl2:Array (Option ap))(x y:List (List Int)) :
  nE (db.«tuple.__lt__» #[[.ref l,.ref b],[]]) (λA R s=>s.heap.get? l=aa {cls:=.type "tuple",dict:=dd,data:=.seq u.toArray n,slots:=sl}/\s.heap.get? b=aa {cls:=.type "tuple",dict:=dd2,data:=.seq v.toArray n2,slots:=sl2}/\A.units+1<dq/\RowsIn s.heap x u/\RowsIn s.heap y v/\R (.ok<|.ret<|.bool<|ltP x y) s):=
 .of_wp λprog w A R s h=>by
  obtain⟨hp,g,d,tk,os⟩:=s;obtain⟨hl,hb,hu,hx,hy,h⟩:=h;have f2:=du;rw[<-zx]at h
  wp_walk using gL hl,gL hb,wpAny_forIn_list _ (λrest b s'=>b.1=ae/\s'=#[hp,g,d,tk,os]/\∃x' y' u' v',rest=oa u' v'/\RowsIn hp x' u'/\RowsIn hp y' v'/\R (.ok<|.ret<|.bool<|Gd (ag<|x.length<y.length) x' y') #[hp,g,d,tk,os]) _
  case turn=>
   rintro ⟨a,c⟩ rest b s' ⟨hb',rfl,x',y',u',v',hz,hx',hy',hR⟩
   match x',y',u',v',hx',hy',hz,hR with
   |i::x',j::y',_::u',_::v',.cons ra ta,.cons rb tb,hz,hR=>
    rw[cM]at hz;injection hz with h1 h2
    cases h1;unfold Gd at hR;refine ab<|jk ra rb (by lia) prog w _ _ ?_
    by_cases e:i=j
    .rw[T9 e]at hR
     rw[T5 e]
     wp_walk
     exact#[rfl,rfl,x',y',u',v',h2,ta,tb,hR]
    .rw[T8 e]at hR
     rw[T4 e];simp only[nK,if_true];refine ab<|eW<|ab<|uR ra rb (by lia) ?_
     wp_walk
     exact#[_,rfl,by simpa using hR]
   |[],_,_,_,.nil,_,hz,_=>rw[iJ]at hz;cases hz
   |_::_,[],_,_,_,.nil,hz,_=>rw[ip]at hz;cases hz
  case fin=>
   rintro ⟨b1,b2⟩ s' ⟨hb',rfl,x',y',u',v',hz,hx',hy',hR⟩
   simp only at hb';subst hb';have hf:Gd (ag<|x.length<y.length) x' y'=ag (x.length<y.length):=by
    match x',y',u',v',hx',hy',hz with
    |[],_,_,_,_,_,_=>rfl
    |_::_,[],_,_,_,_,_=>rfl
    |_::_,_::_,_::_,_::_,.cons _ _,.cons _ _,hz=>rw[cM]at hz;cases hz
   rw[hf]at hR;have l1:u.length=x.length:=by rw[<-hx.length]
   have l2:v.length=y.length:=by rw[<-hy.length]
   wp_walk
   exact#[_,rfl,by simpa[f9,l1,l2]using hR]
  case h=>
   exact#[rfl,rfl,x,y,u,v,by simp,hx,hy,h]
def vm{E:ap->aw->Prop}{Q:ap->aw->Prop}(ha:s.heap.get? a=aa o)(hc:o.cls=.type "tuple")(hd:o.data=.seq u.toArray m)(hx:RowsIn s.heap x u)
  (hb:s.heap.get? b=aa o')(hc':o'.cls=.type "tuple")(hd':o'.data=.seq v.toArray m')(hy:RowsIn s.heap y v)(hu:A.units+3<dq)(q:Q (.bool<|ltP x y) s):aW (aV prog w) A (bY .Lt (.ref a)<|.ref b) Q E s:=by
 obtain⟨cls,dd,data,sl⟩:=o;obtain⟨cls2,dd2,data2,sl2⟩:=o';simp only at hc hd hc' hd';subst hc hd hc' hd';exact ku (op:=.Lt) #[_,ha,rfl] #[_,hb,rfl] nc mN (mi _ _) (G4 a b u v m m' dd dd2 sl sl2 x y) #[ha,hb,by first|exact hu|(lia)|lia,hx,hy,#[(λx=>nomatch x),q]] (by lia)
def zw(hu:X.A.units+7<dq):YC X xw .Lt .lt:=by
 intro pq s U H v0 u0 v u Q I rv ru #[O,S,x,y,st,rx,ry,h];rcases Zdt st rx ry h with z|⟨a,b,A,B,rfl,rfl,hA,hB,q⟩
 .exact ZcY pq s U H v0 u0 v u Q I rv ru z
 .obtain⟨p1,xs,rfl,hp1,r1⟩:=rx.tup'
  obtain⟨p2,ys,rfl,hp2,r2⟩:=ry.tup';cases rv;cases ru;obtain⟨us,w1,⟨o,ho,hc,m,hd⟩,_⟩:=I.tuple<|SqT.of hp1;obtain⟨us',w2,⟨o',ho',hc',m',hd'⟩,_⟩:=I.tuple<|SqT.of hp2;obtain⟨ra,_⟩:=W8 I hA r1 w1;obtain⟨rb,_⟩:=W8 I hB r2 w2;exact vm ho hc hd ra.ins ho' hc' hd' rb.ins (by lia) #[.bl<|ltP A B,H,I,rfl,q]
end Sd
namespace Sd
open PySem PySem.Spec PyProof.Rows L2
open Ev (E Sm Fn Bop Cop Ty Bf Mf)
section
variable{prog:bE}{w:bR}{A:cQ}{E:ap->aw->Prop}{s:aw}{it d:aL}{i n ep:Nat}{od:fb}{es:Array fe}
def yF{Q:ap->aw->Prop}(hd:(d == cI)=aj)(ho:s.heap.get? d=aa od)(hc:od.ExactDict)(hdat:od.data=.dict es ep)
  (hQ:Q (.ref s.heap.objs.size) {s with heap:=s.heap.push {cls:=.type "dict_keyiterator",data:=.fields [.ref d,.int 0 0,.int es.size 0,.int ep 0].toArray}}) :
  aW (aV prog w) A (lB<|.ref d) Q E s:=by
 have hT:s.TypeIs (.ref d) "dict":=#[_,ho,hc.1];refine iK hT mO<|bQ mO hT F.entry_dict_iter ?_<|F.args_dict_iter_1 _;unfold db.«dict.__iter__»;refine ab ?_;refine ab<|wpAny_notOrdered_dict hT<|aq (show aW _ _ (kF d >>= _) _ _ s from ?_)
 unfold kF;rw[T8 (by rw[hd];exact aN)]
 refine ab<|aq<|ab<|mj ho hdat<|ab<|wpAny_dictEpoch ho hdat ?_;refine ab<|bo<|aq #[_,rfl,"dict_keyiterator",_,#[_,aF _ rfl,rfl],gM.lookup,?_]
 simpa[eT]using hQ
def Uw{Q:Option ap->aw->Prop}(hit:s.heap.IsKeyIter it d i es.size ep)(ho:s.heap.get? d=aa od)(hdat:od.data=.dict es ep)
  (h1:∀(hlt:i<es.size) h',h'.IsKeyIter it d (i+1) es.size ep->dD it s.heap h'->Q (aa es[i].key) {s with heap:=h' })
  (h2:es.size<=i->A.handled=ae/\∀h',gy it s.heap h'->Q ae {s with heap:=h' }):aW (aV prog w) A (iL<|.ref it) Q E s:=by
 obtain⟨o,hi,hc,hd⟩:=id hit;unfold iL;refine ab (gv (bW hit.typeIs gM
  (bQ gM hit.typeIs F.entry_dict_keyiterator_next ?_<|F.args_dict_keyiterator_next_1 _)))
 refine ab<|aq<|ab<|ab ?_
 first|refine ab<|eB hit.typeIs<|aq ?_|refine ab<|fG hit.typeIs<|aq ?_
 refine ab<|wpAny_fieldsOf hi hd ?_;have hown:db.Dict_items.ownsTuple "dict_keyiterator" = aj:=by decide
 simp only[hown,cu,if_false];show aW _ _ (if(cx d == bh)=am then _ else _) _ _ s
 rw[T8<|show¬((cx d == bh)=am)from aN]
 refine ab<|aq<|ab<|mj ho hdat ?_;rw[T8 (by simp)]
 refine ab<|aq<|ab<|wpAny_dictEpoch ho hdat ?_;rw[T8 (by simp)]
 refine aq ?_;by_cases hlt:i<es.size
 .simp only[by omega,if_false,c9,bc hlt]
  refine ab ?_
  first|refine ab<|eB hit.typeIs<|aq ?_|refine ab<|fG hit.typeIs<|aq ?_
  refine ab<|kG hit.typeIs (show aW _ _ (setField (.ref it) 1 (eT<|(i:Int)+1) >>= _) _ _ s from ab<|ej hi hd (by simp) ?_)
  have hit':(s.heap.update it (lq (·.setIfInBounds 1 (eT<|(i:Int)+1)))).IsKeyIter it d (i+1) es.size ep:=
   #[_,de _ hi<|eL<|cY hd _,(fW ..).trans hc,by rw[cY hd];simp[eT]]
  refine ab<|bJ<|ab<|kG hit'.typeIs ?_
  exact aq<|aq #[_,rfl,aq<|h1 hlt _ hit'<|cB ..]
 .obtain⟨hh,hQ⟩:=h2 (by omega)
  simp only[by omega,if_false,c9,fX (show es.size<=i by omega)]
  refine ab ?_
  first|refine ab<|eB hit.typeIs<|aq ?_|refine ab<|fG hit.typeIs<|aq ?_
  show aW _ _ (setField (.ref it) 0 .none >>= _) _ _ s;refine ab<|ej hi hd (by simp)<|ab ?_
  simp only[n8,newTuple];refine ab<|bo ?_ (by size_fits)
  refine ab (eX (a:=bh) (by first|rfl|(simp only[hU];rfl))<|bo ?_ (by size_fits))
  simp only[raiseNew];refine ab<|lm ?_;rw[hh]
  refine ab<|aq<|mT ?_;refine ab<|gj (T:="StopIteration") (b:=am) #[_,aF _ rfl,rfl] kR ?_;exact aq<|hQ _<|((cB ..).extBut.push _).push _
end
theorem UM{B β:Type}{F:B->β->Prop}:∀{l:List B}{m:List β}{i:Nat}{p:B},Paired F l m->l[i]?=aa p->∃q,m[i]?=aa q/\F p q
 |_,_,_,_,.nil,e=>by simp at e
 |_,_,0,_,.cons r t,e=>by simp at e;subst e;exact#[_,rfl,r]
 |_,_,i+1,_,.cons r t,e=>by
  obtain⟨q,h1,h2⟩:=UM t (by simpa using e)
  exact#[q,by simpa using h1,h2]
section
variable{X:Cx}{xw:Nat->Hp->Prop}{fr:Bool}{C:Calls}{ns:List Nat}{e a:Expr}{i:E}{pos p p' p2:iu}{n:Nat}{x:bF}{q:Option bF}
def uY{q}(ha:CE X xw C a i):CE X xw C (.Subscript a (.Constant (.int 0) q p2) pos) (.dix i aj):=.mk <| PE.imp (xS Qi ha.h U7<|by intro _ _;with_unfolding_all rfl)<|by
 rintro U H Q ⟨O,l,S,st,lr,h⟩;rw[Pv.pv]at h;refine#[O,l,S,st,lr,h.bind λx S1 ρ1 H1 v f1 st1 r1 h1=>?_]
 cases x with|drw=>obtain⟨p,rfl,hn⟩:=r1.drw';exact#[p,_,0,_,rfl,rfl,SqL.of (st1.dw p hn).1,rfl,End.ok h1 st1<|ZL _]|_=>exact h1.elim
def Zaa{q}(ha:CE X xw C a i):CE X xw C (.Subscript a (.Constant (.int 1) q p2) pos) (.dix i am):=.mk <| PE.imp (xS Qi ha.h U7<|by intro _ _;with_unfolding_all rfl)<|by
 rintro U H Q ⟨O,l,S,st,lr,h⟩;rw[Pv.pv]at h;refine#[O,l,S,st,lr,h.bind λx S1 ρ1 H1 v f1 st1 r1 h1=>?_]
 cases x with|drw=>obtain⟨p,rfl,hn⟩:=r1.drw';exact#[p,_,1,_,rfl,rfl,SqL.of (st1.dw p hn).1,rfl,End.ok h1 st1<|ZY _]|_=>exact h1.elim
def u7{q}(he:CE X xw C e i)(hN:X.N[n]?=aa x)(hv:Vis X.env.scope x)(hd:(x == ("__debug__" : bF))=aj)
  (hcd:(x == ("__classdict__" : bF))=aj)
  (ha:∀v,dF (.Subscript (.Name x p') (.Constant (.int 0) q p2) p) X.env v=(do
   let ov <-iB [v] (cR (.Name x p') X.env)
   let iv <-iB [v,ov] (cR (.Constant (.int 0) q p2) X.env)
   np p
   iB [v,ov,iv] (n5 ov iv v)
   release [v,ov,iv] []))(hs:ed [.Subscript (.Name x p') (.Constant (.int 0) q p2) p] e pos.line X.env=c0 aj)(hw:ee [.Subscript (.Name x p') (.Constant (.int 0) q p2) p] e X.env=c0 ae)
  (h1:(b8 [.Subscript (.Name x p') (.Constant (.int 0) q p2) p] X.env).map (·.2)=[dF (.Subscript (.Name x p') (.Constant (.int 0) q p2) p) X.env]):CS X xw fr C ns (.Assign [.Subscript (.Name x p') (.Constant (.int 0) q p2) p] e pos) (.dset n i):=.mk <|
 PS.imp (Wp he.h (Zcg (Qj hN hv hd hcd) U7 (v8 (X:=X)) ha) hs hw h1)<|by
 rintro D U H ⟨O,H0,W,l,os,S,st,en,h⟩;rw[Pv.rv]at h;refine#[O,l,S,st,en.all,ZB.bind en h λy S1 H1 v f1 st1 r1 h1=>?_]
 cases y with
 |int y=>
  obtain⟨hk,h1⟩:=h1.guard;have hx:l[n]?=aa (aa .drw):=by
   cases z:l[n]? with
   |none=>rw[z]at h1;exact h1.elim
   |some o=>cases o with
    |none=>rw[z]at h1;exact h1.elim
    |some d=>cases d<;>rw[z]at h1<;>first|rfl|exact h1.elim
  rw[hx]at h1;obtain⟨u,hu,r⟩:=(en.mono f1).all.val n .drw hx;obtain⟨a,rfl,hn⟩:=r.drw';obtain⟨e1,_⟩:=st1.dw a hn;refine#[.ref a,hu,a,_,0,0,rfl,rfl,e1,rfl,?_];rw[r1.int'];have f2:Fut O H1 O (upd H1 a<|.lst [.int y,.bl S1.2]):=#[rfl,λb o z=>by
   by_cases c:b=a
   .subst c;rw[e1]at z;cases z;exact .inr<|.inl #[hn,_,rfl]
   .exact .inl (by rw[Zk c];exact z)]
  refine h1 _ U W #[st1.hk,λb x=>?_,λb x=>?_,st1.tb.upd (λo u z=>by rw[e1]at z;cases z) λ_ z=>by cases z]<|(en.mono f1).mono f2
  .by_cases c:b=a
   .rw[c];show upd _ _ _ _≠ae;rw[Zz];intro z;cases z
   .show upd _ _ _ _≠ae;rw[Zk c];exact st1.xd b x
  .rw[hn]at x
   cases x;exact#[Zz,hk]
 |_=>exact h1.elim
end
open Ev in
noncomputable def XE:Fn:=#[2,4,
 [.ite (.dix (.v 0) am) [.asg [2]<|.bin .mod (.dix (.v 0) aj)<|.v 1,
  .dset 0 (.bin .fdiv (.dix (.v 0) aj)<|.v 1),
  .ret (.v 2)] [],
  .dset 0 (.bin .mod (.bin .add (.bin .mul (.dix (.v 0) aj)<|.c<|.int 48271)<|.c<|.int 29)<|.c<|.int 2147483647),
  .asg [3] (.bin .mod (.bin .add (.bin .add (.bin .mul (.dix (.v 0) aj)<|.dix (.v 0) aj)<|.bin .mul (.c<|.int 39373)<|.dix (.v 0) aj)<|.c<|.int 7)<|.c<|.int 2147483629),
  .asg [3] (.bin .mod (.bin .add (.bin .mul (.v 3)<|.v 3)<|.bin .mul (.c<|.int 16807)<|.v 3)<|.c<|.int 2147483587),
  .ret (.bin .mod (.bin .fdiv (.v 3)<|.c<|.int 8)<|.v 1)]]
open Ev Pv in
def Xn(h0:0<=a)(h:a<4294967296):fits a=am:=by
 refine T5 ?_;have h1:a.natAbs<2^32:=by lia
 exact bj h1<|d7 (by decide) (by decide)
open Ev Pv in
def uo(h:okS s.1 s.2=am)(m0:0<m)(m1:m<1073741824):Q4 C XE [.drw,.int m] s=.ok (.int (Xc s m).1) (Xc s m).2:=by
 obtain⟨a,b⟩:=s;have hm:muts XE.body=[]:=rfl;unfold Q4;rw[hm];have ha:=T6 ((aG _ _).mp h).1;have lt8:(8:Int)<big:=vZ (by decide)
 cases b with
 |true=>
  have o2:okS (a / m) am=am:=by simp[okS];exact Int.ediv_nonneg ha (by lia)
  simp[XE,Xc,rvs,rv,pvA,Pv.pv.eq_1,Pv.pv.eq_2,Pv.pv.eq_7,Pv.pv.eq_28,Xz,PR.bind,po,Zj,ZK,ofD,YF,Pv.uq,m0,m1,vZ m1,o2,hide]
 |false=>
  have hb:a<2147483647:=by simpa using((aG _ _).mp h).2
  have h1:=Xn ha (by lia)
  have x0:0<=(a*48271+29)%2147483647:=by lia
  have x1:(a*48271+29)%2147483647<2147483647:=by lia
  generalize hxx:(a*48271+29)%2147483647=x at x0 x1;have y0:0<=(x*x+39373*x+7)%2147483629:=by lia
  have y1:(x*x+39373*x+7)%2147483629<2147483629:=by lia
  generalize hyy:(x*x+39373*x+7)%2147483629=y at y0 y1;have f1:=Xn x0 (by lia)
  have f2:=Xn y0 (by lia)
  have f3:fits 48271=am:=Xn (by lia) (by lia)
  have f4:fits 39373=am:=Xn (by lia) (by lia)
  have f5:fits 16807=am:=Xn (by lia) (by lia)
  have o2:okS x aj=am:=by simp[okS,x0,x1]
  simp[XE,Xc,rvs,rv,pvA,Pv.pv.eq_1,Pv.pv.eq_2,Pv.pv.eq_7,Pv.pv.eq_28,Xz,PR.bind,po,Zj,ZK,ofD,YF,Pv.uq,m0,m1,lt8,h1,hxx,hyy,f1,f2,f3,f4,f5,o2,hide]
def jZ{K:ao}{F:List Fn}{tk d:Nat}:∀O S H ds vs,St3 K O S H->Rq O H ds vs->Pv.Zg F tk (d+1) tk ds S=.no\/Pv.Zg F tk (d+1) tk ds S=Q4 (Pv.Zg F tk d) XE ds S:=λO S H ds vs st r=>by
 rw[Pv.Zg,T9 rfl];unfold Pv.ZaI;split
 .rename_i m
  obtain⟨v,u,rfl,r1,_⟩:=zB r;obtain⟨a,_,hn⟩:=r1.drw';split
  .rename_i hm
   exact .inr (uo (st.dw a hn).2 hm.1 hm.2).symm
  .exact .inl rfl
 .exact .inl rfl
def qj{K:ao}{F:List Fn}{tk n d:Nat}{fn:Fn}(hn:n≠tk)(hf:F[n]?=aa fn):∀O S H ds vs,St3 K O S H->Rq O H ds vs->Pv.Zg F tk (d+1) n ds S=.no\/Pv.Zg F tk (d+1) n ds S=Q4 (Pv.Zg F tk d) fn ds S:=λO S H ds vs st r=>by
 rw[Pv.Zg,T8 hn,hf]
 all_goals exact .inr rfl
def u8(h:Pv.Vz v=aa d):v=.lst [.int d.1,.bl d.2]/\Pv.okS d.1 d.2=am:=by
 unfold Pv.Vz at h;split at h
 .split at h
  .cases h;exact#[rfl,‹_›]
  .cases h
 .cases h
def Jt{l:Lc}{i:Nat}{d:D}(h:(l.map Pv.WS)[i]?=aa (aa d)):l[i]?=aa (aa d)/\d.flat=am:=by
 rw[aH]at h;cases q:l[i]? with
 |none=>rw[q]at h;cases h
 |some o=>
  rw[q]at h;have h:=ak h;obtain⟨a,b⟩:=fv.mp h;exact#[by rw[a],b]
def vF{n:Nat}{l:Lc}{i:Nat}{d:D}(h:(Pv.XU n l)[i]?=aa (aa d)):l[i]?=aa (aa d)/\d.flat=am:=by
 unfold Pv.XU at h;rw[List.getElem?_append]at h;split at h
 .obtain⟨a,b⟩:=Jt h
  rw[cL]at a;split at a
  .exact#[a,b]
  .cases a
 .rw[cH]at h
  split at h<;>cases h
def JW :(Pv.XU n l).length=l.length:=by
 unfold Pv.XU;rw[a7,ay,bn,bV];omega
def tCl(X:Cx)(xw:Nat->Hp->Prop)(C:Calls)(fi:Nat)(is:List E):TE:=λU H Q=>tA X xw (Pv.pvs C is) U H λvs H1=>∃O ds S,St3 X.K O S H1/\Rq O H1 ds vs/\End X.K xw (XM am H1) O H1 Q (C fi ds S)
def Zb8{xw:Nat->Hp->Prop}{fi:Nat}{y:bF}{es:List Expr}{is:List E}{ss:List fw}{B:List Sm}(hc:PE X (.Call (.Name y p') (e::es) [] p) (tCl X xw C fi is))(hB:CSs X xw fr C ns ss B)(hN:X.N.Nodup)
  (hi:X.N[n]?=aa x:=by rfl)(hx:L2.Loc X.env.scope x:=by first|exact Or.inl rfl|exact mE rfl)(hf:X.fn x=am\/X.env.scope.names.lookup x=aa .local:=by first|exact .inl rfl|exact .inr rfl)
  (hs:ed [.Name x px] (.Call (.Name y p') (e::es) [] p) pos.line X.env=c0 aj:=by rfl)(hw:ee [.Name x px] (.Call (.Name y p') (e::es) [] p) X.env=c0 ae:=by rfl)
  (h1:(b8 [.Name x px] X.env).map (·.2)=[dF (.Name x px) X.env]:=by rfl) :
  CSs X xw fr C ns (.Assign [.Name x px] (.Call (.Name y p') (e::es) [] p) pos::ss) [.cel n fi is B]:=.mk <|
 PSs.imp (JJ (Wp hc (QO hN hi hx hf) hs hw h1) hB.h)<|by
 rintro D U H ⟨O,H0,W,l,os,S,st,en,h⟩;have h:ZB fr X.K xw O H0 D (Pv.rv C ns (.cel n fi is B) l os S):=by
  rw[Pv.rvs]at h;cases q:Pv.rv C ns (.cel n fi is B) l os S with|no=>rw[q]at h;exact h|ex c s=>rw[q]at h;exact h|ok g s=>rw[q]at h;cases g<;>exact h
 rw[Pv.rv]at h;obtain⟨ho,h⟩:=h.guard;refine#[O,l,S,st,en.all,ZB.bind en h λxs S1 H1 vs f1 st1 r1 h1=>?_]
 refine#[O,xs,S1,st1,r1,ZB.bind (en.mono f1) h1 λv S2 H2 u f2 st2 r2 h2=>?_]
 obtain⟨d,hd,h3⟩:=ZB.ob h2;obtain⟨rfl,hok⟩:=u8 hd;obtain⟨a,rfl,na⟩:=r2.2 rfl _ rfl;obtain⟨_,us,z,ea,_,ru⟩:=r2.1.lst';cases z;obtain⟨u1,u2,rfl,q1,q2⟩:=zB ru;cases q1.int';cases q2.bl';have en2:=(en.mono f1).mono f2;have nX:∀q,O.X q->q≠a:=λq x z=>st1.xd q x<|z▸na
 let ρ':Mx:=#[O.K,aa a,λq=>O.X q\/q=a,λq h=>.inr (ak h).symm]
 have st':St3 X.K ρ' d H2:=#[st2.hk,λq x=>x.elim (st2.xd q) λz=>(by rw[z,ea];intro w;cases w),λq x=>(by cases x;exact#[ea,hok]),st2.tb]
 have en':Eu ρ' H2 (λ_=>ae) ((Pv.XU n l).set n<|aa .drw) [] (U.set n<|aa<|.ref a) H2:=by
  refine#[Fut.refl _ _,st'.xd,by rw[bx,bx,JW];exact en.len,λ_=>rfl,λ_ _ _ z=>?_,λ_ _ z=>?_,λ_ _ z=>?_,λi w q _=>?_]
  .cases z
  .cases z
  .cases z
  .rcases UX q with⟨rfl,z,hl⟩|⟨c,z⟩
   .cases z
    exact#[.ref a,bw (by rw[<-en.len,<-JW];exact hl),by exact#[a,rfl,rfl]]
   .obtain⟨z,hfl⟩:=vF z
    obtain⟨v,hv,r⟩:=en2.all.val i w z;exact#[v,by rw[aY c];exact hv,Rep.flat (O:=O) (ρ':=ρ'.ex λ_=>ae) rfl (λ_ _ z _ _=>z) hfl r]
 have n0:∀{b},b≠a->ρ'.n0≠aa b:=λc w=>T7 (ak w).symm c
 have keep:∀{H'},Fut ρ' H2 ρ' H'->∀b o,b≠a->H2 b=aa o->(∀ps,o≠.tbl ps)->H' b=aa o:=λ{H'} f b o c z n=>(f.keep b o z).elim id λw=>w.elim (λw=>T7 w.1<|n0 c) λ#[#[ps,e],_]=>T7 e<|n ps
 have back:∀{H':Hp}{s:Zn},Fut ρ' H2 ρ' H'->St3 X.K ρ' s H'->St3 X.K O S2 H'/\Fut O H0 O H':=λ{H' s} f w=>by
  refine#[#[st2.hk,λq x=>?_,λq x=>?_,w.tb],rfl,λb o z=>?_]
  .exact f.there (n0<|nX q x)<|st2.xd q x
  .obtain⟨e1,e2⟩:=st2.dw q x
   exact#[keep f q _ (nX q<|O.xz q x) e1 (by intro _ z;cases z),e2]
  .have ne:b≠a:=λc=>by rw[c,Jr (en.mono f1) st1 na]at z;cases z
   rcases en2.fut.keep b o z with y|y|⟨e,ps,y⟩
   .rcases f.keep b o y with q|q|q
    .exact .inl q
    .exact T7 q.1<|n0 ne
    .exact .inr<|.inr q
   .exact .inr<|.inl y
   .rcases f.keep b _ y with q|⟨_,xs,q⟩|⟨_,q⟩
    .exact .inr<|.inr #[e,ps,q]
    .cases q
    .exact .inr<|.inr #[e,q]
 have backE:∀{H':Hp}{s:Zn}{W':Own}{l':Lc}{os':List Nat}{σ':L2.St},Eu ρ' H2 W' l' os' σ' H'->St3 X.K ρ' s H'->St3 X.K O S2 H'/\Eu O H0 (λ_=>ae) (l'.map Pv.WS) [] σ' H':=λ{H' s W' l' os' σ'} g w=>by
  obtain⟨a1,a2⟩:=back g.fut w;refine#[a1,a2,en.xd,by rw[ay];exact g.len,λ_=>rfl,λ_ _ _ z=>?_,λ_ _ z=>?_,λ_ _ z=>?_,λi w q _=>?_]
  .cases z
  .cases z
  .cases z
  .obtain⟨z,hfl⟩:=Jt q
   obtain⟨v,hv,r⟩:=g.all.val i w z;exact#[v,hv,Rep.flat (O:=ρ') (ρ':=O.ex λ_=>ae) rfl (λ_ _ z _ _=>z) hfl r]
 refine#[ρ',H2,λ_=>ae,_,[],d,st',en',?_]
 cases q:Pv.rvs C ns B ((Pv.XU n l).set n<|aa .drw) [] d with
 |no=>rw[q]at h3;exact h3
 |ex c s=>rw[q]at h3;exact h3.elim
 |ok g s=>
  rw[q]at h3;cases g with
  |nx l' os'=>exact λH' σ' W' w g=>let #[a1,a2]:=backE g w;h3 H' σ' _ a1 a2
  |brk l' os'=>exact λH' σ' W' w g=>let #[a1,a2]:=backE g w;h3 H' σ' _ a1 a2
  |cnt l' os'=>exact λH' σ' W' w g=>let #[a1,a2]:=backE g w;h3 H' σ' _ a1 a2
  |ret v=>
   obtain⟨hfl,h3⟩:=ZB.guard h3;exact λH' v' f w r=>let #[a1,a2]:=back f w;h3 H' v' a2 a1 #[Rep.flat (O:=ρ') (ρ':=O) rfl (λ_ _ z _ _=>z) hfl r.1,λ_ ds z=>by rw[z]at hfl;cases hfl]
open Ev (ltI Yx ZE Z4)
section
variable{prog:bE}{w:bR}{A:cQ}{E:ap->aw->Prop}{s:aw}{d:aL}{ep:Nat}{od:fb}{es:Array fe}
def zS(lo:(d == cI)=aj)(hc:od.ExactDict)(hdat:od.data=.dict es ep):iq prog w "dict" d d es.size (λi v=>(es[i]?).map (·.key)=aa v) (λh=>h.get? d=aa od) where
 type:=λ_ hm=>#[_,hm,hc.1]
 there:=λ_ hm=>#[aC hm,aC hm]
 keep:=λ_ _ hm hk=>hk d (.inl rfl) _ hm
 notList:=by decide
 notTuple:=by decide
 hint:=λ_ _ _ _ hm hq=>PySem.W.kdl_hint_dict #[_,hm,hc.1] hq
 iter:=λA s hh hm=>by
  have hne:d≠s.heap.objs.size:=bi<|aC hm;refine#[_,λi h=>h.IsKeyIter s.heap.objs.size d i es.size ep/\h.get? d=aa od,λE Q hq=>yF lo hm hc hdat hq,?_,#[_,aF _ rfl,rfl,rfl],au _ hm]
  exact{
   sub:=λb hb=>by simp at hb;simp[hb]
   frame:=λ_ _ _ st hk=>#[st.1.at λo e=>hk _ (by simp) o e,hk d (by simp) _ st.2]
   item:=λi s' Q E hi st hQ=>Uw st.1 st.2 hdat (λhlt h' hit' sb=>hQ _ h' s'.toks (by simp[hlt]) #[hit',sb.extBut _ _ hne st.2] λb o hb e=>sb.extBut b o (λz=>hb<|by simp[z]) e) λz=>T7 hi (by omega)
   done:=λs' Q E st hQ=>Uw st.1 st.2 hdat (λhlt _ _ _=>T7 hlt<|by omega) λ_=>#[hh,λh' eb=>hQ h' s'.toks λb o hb e=>eb b o (λz=>hb<|by simp[z]) e]
   self:=λ_ _ _ _ st hQ=>wpAny_pyIter_keyiter st.1 hQ}
def zr{acc:Array ap}(h:n9 (λi v=>(es[i]?).map (·.key)=aa v) acc es.size):acc.toList=es.toList.map (·.key):=by
 refine bM λi=>?_
 by_cases hi:i<es.size
 .have hl:i<acc.size:=by rw[h.1];exact hi
  have:=h.2 i acc[i]<|bc hl;rw[aH,be,be,this,bc hl]
 .rw[br (by rw[aE,h.1];omega),br (by simp;omega)]
def J2{T:String}{r:aL}{n:Nat}{P:Nat->ap->Prop}{OK:b0->Prop}{R:List ap->aw->Prop}(K:iq prog w T r d n P OK)(hh:A.handled=ae)(hok:OK s.heap)(hn:n<=ba)
  (h:∀h' tk acc,(∀b o,s.heap.get? b=aa o->h'.get? b=aa o)->s.heap.objs.size<=h'.objs.size->n9 P acc n->R acc.toList {s with heap:=h',toks:=tk}):aW (aV prog w) A (collect<|.ref r) R E s:=by
 obtain⟨l1,l2⟩:=K.there _ hok
 let S:=s.heap.objs.size
 have hS:(s.heap.push {cls:=.type "list",data:=.seq #[]}).get? S=aa {cls:=.type "list",data:=.seq #[]}:=aF _ rfl;have fin:∀{h':b0}{tk c:Nat}{acc:Array ap},(∀b o,b≠S->(s.heap.push {cls:=.type "list",data:=.seq #[]}).get? b=aa o->h'.get? b=aa o)->h'.get? S=aa {cls:=.type "list",dict:=ae,data:=.seq acc c,slots:=#[]}->n9 P acc n->R acc.toList {s with heap:=h',toks:=tk}:=
  λk e i=>h _ _ _ (λb o z=>k b o (bi<|aC z)<|au _ z) (fQ<|aC e) i
 unfold collect;refine ab<|wpAny_runValue<|eF entry_proto_collect' ?_;rw[d8 PySem.F.plain_proto_collect _];refine ab (m:=newList [])<|bo<|aq #[lu i9 _,eF entry_list_iadd' ?_];rw[d8 i9 _];show aW _ A.in1 (db.List.listExtendWith (.ref S) (.ref r)<|.ref S) _ _ {s with heap:=s.heap.push {cls:=.type "list",data:=.seq #[]}}
 refine dg (PySem.W.kdl_extend (A:=A) (R:=λq s'=>∃h' tk acc c,q=.ok (.ret<|.ref S)/\s'={s with heap:=h',toks:=tk}/\h'.get? S=aa {cls:=.type "list",dict:=ae,data:=.seq acc c,slots:=#[]}/\R acc.toList s') K hh (K.keep _ _ hok λb _ o e=>au _ e) S (fc l1) (fc l2) _ 0 hS (λh' tk acc c k e i=>#[h',tk,acc,c,rfl,rfl,e,fin k e i]) hn) (λf s' x=>?_) λe s' x=>?_
 .cases f with
  |done f=>
   obtain⟨h',tk,acc,c,z,rfl,e,q⟩:=x;cases z;exact ab (m:=load S)<|nv e<|aq q
  |again c'=>
   refine#[x.1,fR x.2 λy s2 z=>?_]
   obtain⟨h',tk,acc,c,rfl,rfl,e,q⟩:=z;exact ab (m:=load S)<|nv e<|aq q
 .obtain⟨_,_,_,_,z,_⟩:=x
  cases z
def JK{κ:eY}{lt:Nat->Nat->Bool}{vs:List ap}{Q:ap->aw->Prop}(hh:A.handled=ae)(lo:(d == cI)=aj)(ho:s.heap.get? d=aa od)(hc:od.ExactDict)(hdat:od.data=.dict es ep)(hv:es.toList.map (·.key)=vs)(h64:vs.length<=100000)
  (O:Sq.Ord vs.length lt)(K:Sq.Asks prog w A.in1.in1 s.heap vs κ lt)
  (h:∀p h' tk D n,Sq.Pm vs.length p->Sq.Up (Sq.ltR aj vs.length lt) p vs.length->(∀b o,s.heap.get? b=aa o->h'.get? b=aa o)->s.heap.objs.size<=D->h'.get? D=aa (eZ "list" (cS<|b7 aj<|p.toList.map λi=>(b7 aj vs).getD i bh) n)->Q (.ref D) {s with heap:=h',toks:=tk}) :
  aW (aV prog w) A (call (.builtin "sorted") [.ref d]) Q E s:=by
 have hl:vs.length=es.size:=by rw[<-hv];simp
 refine Calls.call_function_entry kind_sorted plain_sorted entry_sorted (args_sorted1 _) ?_;unfold db.«sorted»;refine ab (m:=checkCount "sorted" 1 1 _)<|aq ?_;refine ab<|J2 (A:=A.in1) (zS lo hc hdat) hh ho (by rw[cV];omega) λh1 tk acc hk big hacc=>?_
 rw[zr hacc,hv];refine ab<|lp ?_ (by rw[cV];omega)
 have hoL:(h1.push<|eZ "list" vs.toArray 0).get? h1.objs.size=aa (eZ "list" vs.toArray 0):=aF _ rfl;show aW _ _ _ _ _ {s with heap:=h1.push<|eZ "list" vs.toArray 0,toks:=tk}
 refine ab (bJ (bQ slot_list_sort #[_,hoL,rfl] entry_list_sort (by
  rw[Sq.UB];exact Sq.list_sort_rev (h0:=s.heap) hoL h64 (λb o e=>by
   have hlt:b<h1.objs.size:=aC<|hk b o e;exact#[bi hlt,au _<|hk b o e]) O K λp a1 a2=>#[_,rfl,aq #[_,rfl,by
    obtain⟨n,hn⟩:=sortedHeap_at (out:=cS<|b7 aj<|p.toList.map λi=>(b7 aj vs).getD i bh) hoL
    exact h p _ tk _ n a1 a2 (λb o e=>by
     have hlt:b<h1.objs.size:=aC<|hk b o e;rw[sortedHeap_old (bi hlt) (by rw[nJ];exact c8 hlt)]
     exact au _<|hk b o e) big hn]])<|args_list_sort _))
end
def ZbS(tk tv:TE):TE:=λU H Q=>∀p,H p=ae->za [(tk,tv)] U (upd H p<|.dT []) λps H2=>∃b r z,ps=[(.ref b,z)]/\H2 b=aa (.tup<|r.map kV)/\H2 p=aa (.dT [])/\Q (.ref p) (upd H2 p<|.dT [(r,z)])
def wZ{X:Cx}{k v:Expr}{tk tv:TE}{pos:iu}(hu:X.A.units+7<dq)(hk:PE X k tk)(hv:PE X v tv):PE X (.Dict [aa k] [v] pos) (ZbS tk tv):=by
 intro pq s U H Q I h;have I1:=I.laid (a:=s.heap.objs.size) (o:=.dT []) (h':=s.heap.push {cls:=.type "dict",data:=.dict #[]}) (t':=s.toks) (λ_ _ q=>au _ q) (aA _)<|ub s.heap I.big
 rw[arm_eval_Dict,zip_pairTrees [aa k] [v] X.env pos rfl rfl,dictDisplay_pairs (pairTrees [aa k] [v] X.env pos) (by simp[pairTrees]) (by rw[pairTrees_length _ _ _ _ rfl rfl];show 1<17;omega)]
 refine ab<|gq<|ab ?_;unfold subDict;refine ab<|mS<|ab<|bJ ?_;rw[T9 (by rw[pairTrees_length _ _ _ _ rfl rfl];show 1<=15;omega)]
 refine ab<|thn (vG hk hv qH pq _ U _ _ I1<|h _<|I.hok.fresh<|aA s.heap.objs.size) λws s2 #[ps,H2,I2,rel,b,r,z,e,hb,hp,q]=>?_
 subst e;cases rel with
 |@cons _ y _ ys h1 t=>
  cases t;obtain⟨u,x⟩:=y;obtain⟨h1,h2⟩:=h1;cases(show u=cx b from h1)
  obtain⟨zz,hd,xs,rl,dd⟩:=ZaK I2.hok hp;cases rl;refine bJ ?_;show aW _ _ (kO [(cx b,x)] _ _ >>= _) _ _ _;rw[gH];refine ab (ab<|ab<|wpAny_dictSet_heap (hsz:=by size_fits) (show(iV<|ZV X.prog X.w).room X.A from(show X.A.units<dq by omega)) (VX I2.hok hb) dd λh' dd' hs=>aq ?_)
  show aW _ _ (kO [] _ _) _ _ _;rw[kQ];refine aq<|aq<|aq<|aq #[.ref s.heap.objs.size,_,?_,rfl,q];obtain⟨o,es,ep,hq,g2,g3,g4,_,g5⟩:=dd';refine Qa I2 (by rw[hp];exact dM) hs #[o,hq] #[by show 1<=ba;decide,hd,[(r,b,x)],.cons #[rfl,?_,h2] .nil,o,es,ep,hq,g2,g3,g4,g5]
  rw[Zk (Zar hb hp (λz=>nomatch z))]
  exact hb
def Jk{O:Mx}{H:Hp}{d:D}{v:V}{r:List Int}(h:Rep O H d v)(e:Pv.ZaR d=aa r):∃b,v=.ref b/\H b=aa (.tup<|(r.map (cP:Int->Key)).map kV):=by
 cases d with|tup ks=>obtain⟨b,xs,rfl,hb,rs⟩:=h.tup';exact#[b,rfl,by rw[hb,Xt e rs]]|_=>exact Ev.nos e
def Zac{O:Mx}{H:Hp}{d:D}{v:V}(h:Rep O H d v)(e:Pv.isT d=am):v=.bl am:=by
 cases d with
 |bl b=>cases b with|true=>exact h.bl'|false=>cases e
 |_=>cases e
def yJ{ks:List (List Int)}{vs:List (List Key×V)}{r:List Int}{v:V}(h:vs.map (·.1)=ks.map (·.map (cP:Int->Key))):(XQ vs (r.map cP) v).map (·.1)=(Pv.Ya ks r).map (·.map cP):=by
 have hv:=Wv (k:=r) h;unfold Pv.Ya;cases c:ks.contains r with
 |true=>
  rw[c]at hv;unfold XQ;rw[Xf,hv,T9 rfl,cG,T9 rfl,<-h];refine cU λx _=>?_
  show(if x.1=_ then(x.1,v)else x).1=x.1
  split<;>rfl
 |false=>
  rw[c]at hv;rw[uE v (by simpa using hv),bZ,h,T8 aN,bZ]
  rfl
section
variable{X:Cx}{xw:Nat->Hp->Prop}{fr:Bool}{C:Calls}{ns:List Nat}{e a b c tg:Expr}{i j k:E}{pos p p' p2 dp:iu}{n:Nat}{x:bF}
def ZbZ{q:Nat}(hu:X.A.units+7<dq)(he:CE X xw C e i)(hg:CG X tg [n])(hs:ed [tg] (.Dict [aa e] [.Constant (.bool am) q p] dp) pos.line X.env=c0 aj)(hw:ee [tg] (.Dict [aa e] [.Constant (.bool am) q p] dp) X.env=c0 ae)
  (h1:(b8 [tg] X.env).map (·.2)=[dF tg X.env]):CS X xw fr C ns (.Assign [tg] (.Dict [aa e] [.Constant (.bool am) q p] dp) pos) (.dnw n i):=.mk <| PS.imp (Wp (wZ hu he.h Zap) hg.h hs hw h1) λD U H #[O,H0,W,l,os,S,st,en,h]=>λa ha=>by
 rw[Pv.rv]at h;have f0:Fut O H O (upd H a<|.dT []):=ZJ ha;have en0:=en.mono f0;refine#[O,l,S,st.fresh ha,en0.all,ZB.bind en0 h λy S1 H1 v f1 st1 r1 h1=>?_]
 obtain⟨r,hr,h1⟩:=ZB.ob h1;obtain⟨hl,h1⟩:=h1.guard;obtain⟨b,rfl,hb⟩:=Jk r1 hr;have nx:¬O.X a:=st.nx ha;have hp:H1 a=aa (.dT []):=ve f1 nx Zz;have hx:¬(O.ex W).X a:=λz=>z.elim nx λ#[j,w]=>let #[_,_,_,z]:=en.own j a w;T7 ha z.ne
 have f2:Fut O H O (upd H1 a<|.dT [(r.map cP,.bl am)]):=#[rfl,λc o z=>by
  have ne:c≠a:=λq=>by rw[q,ha]at z;cases z
  rw[Zk ne];exact(f0.trans f1).keep c o z]
 refine#[b,r.map cP,.bl am,rfl,hb,hp,h1 _ _ _ ?_<|en.takeO (d:=.dow [r]) st.xd f2 ha hx #[_,Zz,rfl] hl];exact#[st1.hk,λc z=>by rw[Zk λq:c=a=>nx (by rw[<-q];exact z)];exact st1.xd c z,λc z=>by rw[Zk λq:c=a=>nx (by rw[<-q];exact O.xz c z)];exact st1.dw c z,st1.tb.upd (λo u z=>by rw[hp]at z;cases z) λ_ z=>by cases z]
def qM{ix:Expr}{ii:E}(hu:X.A.units+7<dq)(hi:CE X xw C ix ii)(he:CE X xw C e i)(hN:X.N[n]?=aa x)(hv:Vis X.env.scope x)(hd:(x == ("__debug__" : bF))=aj)(hcd:(x == ("__classdict__" : bF))=aj)
  (hs:iW e (aa<|.Subscript (.Name x p') ix p) pos.line X.env=c0 aj):CS X xw fr C ns (.Assign [.Subscript (.Name x p') ix p] e pos) (.dput (.v n) ii i):=.mk <| PS.imp (Zad (by omega) (Qj hN hv hd hcd) hi.h he.h hs)<|by
 rintro D U H ⟨O,H0,W,l,os,S,st,en,h⟩;rw[Pv.rv]at h;obtain⟨c,h⟩:=h.guard;refine#[O,l,S,st,en.all,ZB.bind en h λy S1 H1 v f1 st1 r1 h1=>?_]
 obtain⟨ht,h1⟩:=h1.guard;obtain⟨ks,hk,h1⟩:=ZB.ob h1;have en1:=en.mono f1;obtain⟨a,ha⟩:=bK.mp<|(en.osW n).symm.trans c;have own:∀{H2},Eu O H0 W l os U H2->U[n]?=aa (aa<|.ref a)/\∃vs,H2 a=aa (.dT vs)/\vs.map (·.1)=ks.map (·.map cP):=λ{H2} en=>by
  obtain⟨d,p,q,r⟩:=en.own n a ha;rw[p]at hk;cases d with|dow ks'=>cases hk;exact#[q,r]|_=>cases hk
 refine#[.ref a,(own en1).1,O,l,S1,st1,en1.all,ZB.bind en1 h1 λz S2 H2 w f2 st2 r2 h2=>?_]
 obtain⟨r,hr,h2⟩:=ZB.ob h2;obtain⟨hl,h2⟩:=h2.guard;have en2:=en1.mono f2;obtain⟨b,rfl,hb⟩:=Jk r2 hr;obtain⟨_,vs,e2,e3⟩:=own en2;have hz:vs.length<ba:=by
  have:=congrArg iC e3;rw[ay,ay]at this;rw[this,<-XN];exact hl
 rw[Zac r1 ht];exact#[a,_,rfl,DPut.t e2 hb hz,h2 _ _ W (st2.mut en2 ha)<|en2.mutO ha (d':=.dow<|Pv.Ya ks r) #[_,Zz,yJ e3]]
def Zc9{P:bE}{w:bR}{H:Hp}{h:b0}{a:aL}{kvs:List (List Key×V)}(ok:HOk P w H h)(e:H a=aa (.dT kvs)):(a == cI)=aj/\kvs.length<=ba/\
  ∃(o:fb)(es:Array fe)(ep:Nat),h.get? a=aa o/\o.ExactDict/\o.data=.dict es ep/\es.size=kvs.length/\∃qs:List aL,es.toList.map (·.key)=qs.map cx/\qs.length=kvs.length/\∀(i:Nat)(p:List Key×V),kvs[i]?=aa p->∃q,qs[i]?=aa q/\H q=aa (.tup<|p.1.map kV):=by
 obtain⟨z,y,xs,r,o,es,ep,h1,h2,h3,h4,h5⟩:=(show Z3 P w H h a (.dT kvs)from ok a _ e)
 have hl:es.size=kvs.length:=by
  have:=congrArg iC h4;rw[ay,<-Paired.length r]at this
  simpa using this
 refine#[y,z,o,es,ep,h1,h2,h3,hl,xs.map (·.2.1),?_,by rw[ay,<-Paired.length r],λi p hp=>?_]
 .rw[h4,cG,cG];rfl
 .obtain⟨q,hq,e1,e2,e3⟩:=UM r hp
  exact#[q.2.1,by rw[aH,hq];rfl,e2]
theorem Ud{O:Mx}{H:Hp}:∀{ks:List (List Int)}{qs:List aL},qs.length=ks.length->(∀(i:Nat)(k:List Int),ks[i]?=aa k->∃q,qs[i]?=aa q/\H q=aa (.tup<|k.map V.int))->Rq O H (ks.map Pv.Zb) (qs.map V.ref)
 |[],[],_,_=>Rq.nil
 |k::ks,q::qs,hl,h=>by
  obtain⟨q',e,hq⟩:=h 0 k rfl;cases e;exact Rq.cons (YD hq<|Rq.ints k)<|Ud (by simpa using hl) λi k e=>h (i+1) k e
 |[],_::_,hl,_=>by cases hl
 |_::_,[],hl,_=>by cases hl
theorem Wt:∀qs:List aL,Vals (qs.map V.ref) (qs.map cx)
 |[]=>.nil
 |q::qs=>.cons rfl<|Wt qs
theorem Jz:∀ks:List (List Int),Pv.Z0 (ks.map Pv.Zb)=aa ks
 |[]=>rfl
 |k::ks=>by
  have hi:∀k:List Int,Pv.intsV (k.map Pv.V.int)=aa k:=λk=>by
   induction k with|nil=>rfl|cons n k ih=>show(Pv.intsV<|k.map Pv.V.int).map (n :: ·)=_;rw[ih];rfl
  show(match Pv.intsV (k.map Pv.V.int),Pv.Z0 (ks.map Pv.Zb)with|some a,aa b=>aa (a::b)|_,_=>ae)=_
  rw[hi,Jz ks]
def x6{O:Mx}{pq:List (aL×fb)}{s:aw}{U:L2.St}{H:Hp}{v:V}{ks:List (List Int)}(I:Inv X pq U H s)(r:Rep O H (.dow ks) v):∃(a:aL)(o:fb)(es:Array fe)(ep:Nat)(qs:List aL),v=.ref a/\(a == cI)=aj/\ks.length<=ba/\s.heap.get? a=aa o/\o.ExactDict/\o.data=.dict es ep/\es.size=ks.length/\es.toList.map (·.key)=qs.map cx/\qs.length=ks.length/\Rq O H (ks.map Pv.Zb) (qs.map V.ref):=by
 obtain⟨a,vs,e,ha,_,hk⟩:=r.dow';obtain⟨lo,hz,o,es,ep,g1,g2,g3,hl,qs,e1,e2,e3⟩:=Zc9 I.hok ha;have hn:vs.length=ks.length:=by have:=congrArg iC hk;simpa using this
 refine#[a,o,es,ep,qs,e,lo,by omega,g1,g2,g3,by omega,e1,by omega,Ud (by omega) λi k q=>?_]
 have e4:=congrArg (·[i]?) hk
 simp only[aH,q,ng]at e4;obtain⟨p,e5,e6⟩:=aR.mp e4;obtain⟨q',e7,e8⟩:=e3 i p e5;rw[e6,cG]at e8;exact#[q',e7,e8]
def yY(hc:X.calm=am):ZD X (.type "list") (UT X.K xw .listD):=by
 intro pq s U H vs us Q I r h;obtain⟨O,S,ds,st,rs,H0,S0,f0,s0,h⟩:=h;obtain⟨d,v,z,rfl,r1,hz,h⟩:=WP h rs;cases d with
 |dow ks=>
  cases hz;obtain⟨a,o,es,ep,qs,rfl,lo,hn,g1,g2,g3,g4,g5,g6,rq⟩:=x6 I r1;obtain⟨u,rfl,ru⟩:=Wa r;cases ru;refine PySem.W.kdl_call (zS lo g2 g3) (I.ok.hd hc) g1 (by omega) λh' tk acc c' kp hL hacc=>?_
  refine#[.ref _,_,I.laid (t':=tk) (o:=.lst<|qs.map V.ref) kp (aA _) #[by rw[ay];omega,acc.toList,c',by rw[zr hacc,g5];exact Wt qs,hL],rfl,h.newF f0 s0 st rq _<|I.hok.fresh<|aA _]
 |_=>exact Ev.nos hz
def JS(hc:X.calm=am):ZD X (.builtin "sorted") (UT X.K xw .sortedD):=by
 intro pq s U H vs us Q I r h;obtain⟨O,S,ds,st,rs,H0,S0,f0,s0,h⟩:=h;obtain⟨d,v,z,rfl,r1,hz,h⟩:=WP h rs;cases d with
 |dow ks=>
  have hz:(if Z4 ks=am then aa (Pv.V.lst<|(ZE ks).map Pv.Zb)else ae)=aa z:=hz
  split at hz
  case isFalse=>cases hz
  rename_i hok
  cases hz;obtain⟨a,o,es,ep,qs,rfl,lo,hn,g1,g2,g3,g4,g5,g6,rq⟩:=x6 I r1;obtain⟨u,rfl,ru⟩:=Wa r;cases ru;have rv:=Wt qs;obtain⟨RA,_⟩:=W8 I (Jz ks) rq rv;obtain⟨hok1,hok3⟩:=(aG _ _).mp hok;obtain⟨hok1,hok2⟩:=(aG _ _).mp hok1;have h64:=T6 hok1;have hnd:=T6 hok2;have hne:∀r∈ks,r≠[]:=λr hr e=>by
   have:=a8.mp hok3 r hr;rw[e]at this;cases this
  have hlen:=RA.length;refine JK (I.ok.hd hc) lo g1 g2 g3 g5 (by omega) (vP hnd hlen) (yB RA hnd hne) λp h' tk D n hp hu kp hD hL=>?_
  rw[<-hlen]at hp hu;have out:=vT hnd hp hu;have hmem:∀i∈p.toList,i<ks.length:=λi hi=>by
   have hp':p.toList.Perm (aK ks.length):=by simpa using bv.mp hp
   exact aQ.mp<|hp'.mem_iff.mp hi
  have rx2:=vn (F:=p.toList) rq hmem;have out:(p.toList.map λi=>ks.getD i [])=ZE ks:=out
  rw[out]at rx2;have rv2:=wG (F:=p.toList) rv (by rw[ay,g6];exact hmem)
  refine#[.ref D,_,I.laid (t':=tk) (o:=.lst<|p.toList.map λi=>(qs.map V.ref).getD i V.non) kp hD #[?_,_,n,rv2,hL],rfl,h.newF f0 s0 st rx2 _<|I.hok.fresh hD]
  rw[ay,aE,hp.size];exact hn
 |_=>exact Ev.nos hz
end
end Sd
namespace Sd
open PySem PySem.Spec PyProof.Rows
noncomputable def pl(b:Nat):List Nat:=(aK 6).filter b.testBit
noncomputable def tbl(b:Nat)(led:Bool):SetTable:={mask:=if 5<=(pl b).length then 31 else 7,place:=(pl b).toArray,dummies:=#[],finger:=0,led,moves:=if 5<=(pl b).length then 1 else 0,plain:=am}
noncomputable def vI(b k:Nat):Nat:=(pl b).countP (· < k)
noncomputable def Qb(b k:Nat)(led:Bool):Bool:=
 b.testBit k||(
  let b':=b ||| 2^k
  let t':=((tbl b led).put k).1
  let n:=(pl b').length
  decide ((tbl b led).freeSlot k=aa (k,aj))&&ag (((tbl b led).put k).2=vI b k)&&ag (d9 (pl b).toArray (vI b k) k=(pl b').toArray)&&t'.fits n&&t'.plain &&
  (if t'.tooFull then ag (t'.relaid ((pl b').map gp).toArray (nL n)=aa (tbl b' led,mY n))&&coversAll (mY n) n&&(tbl b' led).fits n else ag (t'=tbl b' led))&&ag (b'<64))
def xI:(aK 64).all (λb=>(aK 6).all λk=>Qb b k am&&Qb b k aj)=am:=by decide +kernel
def qU{b k:Nat}{led:Bool}(hb:b<64)(hk:k<6):Qb b k led=am:=by
 have h:=a8.mp (a8.mp xI b<|aQ.mpr hb) k<|aQ.mpr hk;obtain⟨h1,h2⟩:=(aG _ _).mp h;cases led
 .exact h2
 .exact h1
noncomputable def ZM(b:Nat)(tg:Nat->Nat):Array (Int×ap):=((pl b).map λk:Nat=>(((k:Nat):Int),eI k<|tg k)).toArray
def UY{B β:Type}(f:B->β)(xs:Array B)(p:Nat)(x:B):d9 (xs.map f) p (f x)=(d9 xs p x).map f:=by
 unfold d9;simp
def ZcZ{b k:Nat}(h:k∈pl b):k<6:=aQ.mp (bS.mp h).1
def GZ{b k:Nat}(hk:k<6):k∈pl b↔b.testBit k=am:=#[λh=>(bS.mp h).2,λh=>bS.mpr #[aQ.mpr hk,h]]
def ZbI{b k u:Nat}{tg:Nat->Nat}(hk:k<6)(hn:b.testBit k=aj)(h:d9 (pl b).toArray (vI b k) k=(pl (b ||| 2^k)).toArray) :
  d9 (ZM b tg) (vI b k) ((k:Int),eI k u)=ZM (b ||| 2^k) λi=>if i=k then u else tg i:=by
 have e:ZM b tg=(pl b).toArray.map λi:Nat=>((i:Int),eI i (if i=k then u else tg i)):=by
  unfold ZM;rw[kc]
  congr 1
  refine cU λi hi=>?_
  rw[T8]
  rintro rfl
  rw[GZ hk,hn]at hi;cases hi
 have:=UY (λi:Nat=>((i:Int),eI i (if i=k then u else tg i))) (pl b).toArray (vI b k) k
 rw[<-e,h,T9 rfl]at this;rw[this,kc];rfl
def Z1(b:Nat)(tg:Nat->Nat):(ZM b tg).size=(pl b).length:=by simp[ZM]
def zE(b:Nat)(tg:Nat->Nat):(ZM b tg).map (·.1)=((pl b).map gp).toArray:=by
 unfold ZM;rw[kc,cG];rfl
def qG{b k u:Nat}{tg:Nat->Nat}{led:Bool}(hb:b<64)(hk:k<6)(hn:b.testBit k=aj):∃t',layNew (tbl b led) (ZM b tg) (k:Int) (.int k u)=(ZM (b ||| 2^k) λi=>if i=k then u else tg i,t',aj,aj)/\t'.plain=am/\t'.fits (pl (b ||| 2^k)).length=am/\b ||| 2^k<64/\
  (if t'.tooFull=am then relayAll t' (ZM (b ||| 2^k) λi=>if i=k then u else tg i) (nL (pl (b ||| 2^k)).length)=(ZM (b ||| 2^k) λi=>if i=k then u else tg i,tbl (b ||| 2^k) led,aj)else t'=tbl (b ||| 2^k) led):=by
 have h:=qU (led:=led) hb hk;unfold Qb at h;rw[hn,gu]at h;simp only[aG,T0]at h;obtain⟨⟨⟨⟨⟨⟨h1,h2⟩,h3⟩,h4⟩,h5⟩,h6⟩,h7⟩:=h;refine#[((tbl b led).put k).1,?_,h5,h4,h7,?_]
 .unfold layNew
  rw[h1]
  dsimp only
  rw[h2,ZbI hk hn h3,Z1];unfold SetTable.orStandIn;rw[h4];rfl
 .cases q:((tbl b led).put k).1.tooFull with
  |false=>
   rw[q]at h6;rw[T8 (by simp)]
   rw[T8<|by simp]at h6
   exact T6 h6
  |true=>
   rw[q,T9 rfl]at h6;simp only[aG,T0]at h6;obtain⟨⟨a1,a2⟩,a3⟩:=h6;rw[T9 rfl];unfold relayAll;rw[zE,a1]
   dsimp only
   have e:(mY (pl (b ||| 2^k)).length).filterMap (λx=>(ZM (b ||| 2^k) λi=>if i=k then u else tg i)[x]?)=ZM (b ||| 2^k) λi=>if i=k then u else tg i:=by
    refine i7.mp ?_;rw[Array.toList_filterMap,Array.toList_range,<-Z1 (b ||| 2^k) λi=>if i=k then u else tg i]
    exact filterMap_getElem?_range _
   rw[e,Z1,a2,a3];rfl
def qF:(aK 64).all (λb=>(aK 6).all λk=>!b.testBit k||decide (b ||| 2^k=b))=am:=by decide +kernel
def Zcw{b k:Nat}(hb:b<64)(hk:k<6)(h:b.testBit k=am):b ||| 2^k=b:=by
 have:=a8.mp (a8.mp qF b<|aQ.mpr hb) k<|aQ.mpr hk;rw[h]at this;exact T6 (by simpa using this)
def qX:(aK 64).all (λb=>(tbl b am).fits (pl b).length&&(tbl b aj).fits (pl b).length)=am:=by decide +kernel
def Wj{b:Nat}{led:Bool}{tg:Nat->Nat}(hb:b<64):(tbl b led).fits (ZM b tg).size=am:=by
 rw[Z1];obtain⟨h1,h2⟩:=(aG _ _).mp<|a8.mp qX b<|aQ.mpr hb;cases led
 .exact h2
 .exact h1
def ZaC:∀k,k<6->n4 ((k:Nat):Int)=k:=by decide
def Qp(b:Nat):(pl b).length<=6:=bU (eM _ _) (by decide)
def uH(prog:bE)(w:bR)(b:Nat)(tg:Nat->Nat):ElemsOf (eC prog w) (ZM b tg).toList:=λe he=>by
 unfold ZM at he;obtain⟨k,hk,rfl⟩:=aS.mp he;exact#[#[k,gh _ _ _ _,(ZaC k<|ZcZ hk).symm],rfl]
def YN(h:b0)(a:aL)(b:Nat)(led:Bool):Prop:=∃o ep tg,h.get? a=aa o/\o.ExactSet/\o.data=.set (ZM b tg) ep (tbl b led)
def YN.keep{h h':b0}{a:aL}{b:Nat}{led:Bool}(S:YN h a b led)(k:∀o,h.get? a=aa o->h'.get? a=aa o):YN h' a b led:=
 let #[o,ep,tg,ho,r]:=S;#[o,ep,tg,k o ho,r]
def YN.store{h:b0}{a:aL}{o:fb}{es es':Array (Int×ap)}{ep:Nat}{t t':SetTable}(ho:h.get? a=aa o)(hd:o.data=.set es ep t):(h.update a<|nM es' t').get? a=aa {o with data:=.set es' (ep+1) t' }:=by
 have:=de (nM es' t') ho (by rw[putSet_of es' t' hd];rfl)
 rwa [putSet_of es' t' hd]at this
section
variable{prog:bE}{w:bR}{A:cQ}{E:ap->aw->Prop}{s:aw}{a:aL}{b k u:Nat}{led:Bool}
def jb{Q:Bool->aw->Prop}(hb:b<64)(hk:k<6)(hS:YN s.heap a b led)(h:∀r h',dD a s.heap h'->YN h' a (b ||| 2^k) led->b ||| 2^k<64->Q r {s with heap:=h' }) :
  aW (aV prog w) A (setAddHashed a (.int k u)<|n4 k) Q E s:=by
 obtain⟨o,ep,tg,ho,hex,hd⟩:=hS;have hf:=Wj (led:=led) (tg:=tg) hb;have hel:=uH prog w b tg;have hsz:(ZM b tg).size<scanBound:=by rw[Z1];have:=Qp b;unfold scanBound;omega
 unfold setAddHashed setAddHashedIn;refine bJ<|ab<|f7 ho hd hf ?_
 dsimp only
 rw[byScan_of (knd:=eC prog w) (x:=.int k u) rfl hsz hel,T9 rfl];unfold setAddByScan;refine ab<|ab<|eW<|ab<|wpAny_setScan_of (knd:=eC prog w) (k:=(k:Int)) (gh _ _ _ _) ho hd hf hel ?_;cases hr:List.findIdx? (λe:Int×ap=>(eC prog w).is (k:Int) e.2) (ZM b tg).toList with
 |some j=>
  obtain⟨hj,hp,_⟩:=List.findIdx?_eq_some_iff_getElem.mp hr;have hm:=aU hj;generalize (ZM b tg).toList[j]=e at hm hp;unfold ZM at hm;obtain⟨i,hi,rfl⟩:=aS.mp hm;have:=(eC prog w).inj _ _ _ hp<|gh _ _ _ _;have:k=i:=gp.inj this;subst this;have hin:=Zcw hb hk<|(GZ hk).mp hi;exact aq<|aq<|h aj s.heap (l9 a s.heap) (by rw[hin];exact#[o,ep,tg,ho,hex,hd]) (by rw[hin];exact hb)
 |none=>
  have hn:b.testBit k=aj:=by
   cases q:b.testBit k with
   |false=>rfl
   |true=>
    have hm:(((k:Nat):Int),eI k<|tg k)∈(ZM b tg).toList:=aS.mpr #[k,(GZ hk).mpr q,rfl];have:=List.findIdx?_eq_none_iff.mp hr _ hm;rw[gh]at this;cases this
  obtain⟨t',e1,pn,ft,b64,e2⟩:=qG (u:=u) (tg:=tg) (led:=led) hb hk hn;have b6:=Qp (b ||| 2^k)
  dsimp only
  rw[ZaC k hk,e1]
  dsimp only
  generalize hes:(ZM (b ||| 2^k) λi=>if i=k then u else tg i)=es' at e2
  have hz:es'.size=(pl (b ||| 2^k)).length:=by rw[<-hes,Z1]
  have hz':es'.size<=ba:=by rw[hz,cV];omega
  refine ab<|aq ?_;rw[T9 pn,hashByValue_scannable 8 (x:=.int k u) rfl];refine ab<|aq ?_;rw[T9 (show plainKind (.int (k:Int) u)=am from rfl)]
  refine ab<|ml ho hd ?_ hz';have g1:=YN.store (es':=es') (t':=t') ho hd;have sb1:=cB s.heap a<|nM es' t';rw[<-hz]at e2;cases q:t'.tooFull with
  |false=>
   rw[q,T8 aN]at e2;subst e2;exact aq<|aq<|h am _ sb1 #[_,ep+1,λi=>if i=k then u else tg i,g1,hex,by rw[hes]] b64
  |true=>
   rw[q,T9 rfl]at e2;show aW _ _ (_ >>= _) _ _ _;rw[e2]
   dsimp only
   refine ab<|aq<|ab<|ml g1 rfl ?_ hz';exact aq<|aq<|h am _ (sb1.trans<|cB _ a _) #[_,ep+1+1,λi=>if i=k then u else tg i,YN.store g1 rfl,hex,by rw[hes]] b64
end
noncomputable def bt(v:Nat->Nat):Nat->Nat
 |0=>0
 |i+1=>bt v i ||| 2^v i
def wD(led:Bool)(tg:Nat->Nat):Data.set #[] 0 (.fresh 0 0 led)=.set (ZM 0 tg) 0 (tbl 0 led):=by
 have:pl 0=[]:=by decide
 unfold ZM tbl;rw[this];rfl
noncomputable def Yf(w:bR):Bool:=!w.params.followText "set-order"
section
variable{prog:bE}{w:bR}{A:cQ}{E:ap->aw->Prop}{s:aw}
def uC{R:Result->aw->Prop}{I:aL}{fp wr:List aL}{n:Nat}{P:Nat->ap->Prop}{St:Nat->b0->Prop}{led:Bool}(W:Walks prog w A.in1 I fp wr n P St)(S:aL)(hSf:S∉fp)(v:Nat->Nat)(hv:∀i x,P i x->v i<6/\∃t,x=.int (v i) t) :
  ∀(k i:Nat)(s:aw),n-i=k->i<=n->St i s.heap->bt v i<64->YN s.heap S (bt v i) led->
   (∀h' tk,(∀b o,b∉S::wr->s.heap.get? b=aa o->h'.get? b=aa o)->YN h' S (bt v n) led->R (.ok<|.ret .none) {s with heap:=h',toks:=tk})->ki (aV prog w) A (.builtin "set.update.loop" #[[.ref S,.ref I],[]]) R s:=by
 have hSw:S∉wr:=λz=>hSf<|W.sub _ z
 intro k
 induction k with
 |zero=>
  intro i s hk hi st hb hS hR;obtain rfl:i=n:=by omega
  refine eF ke ?_;rw[d8 fP _];show aW _ A.in1 (iL (.ref I) >>= _) _ _ s;exact ab<|W.done s _ _ st λh' tk kp=>aq<|hR h' tk (λb o z e=>kp b o (λy=>z<|ai _ y) e)<|hS.keep λo e=>kp S o hSw e
 |succ k ih=>
  intro i s hk hi st hb hS hR;have lt:i<n:=by omega
  refine eF ke ?_;rw[d8 fP _];show aW _ A.in1 (iL (.ref I) >>= _) _ _ s;refine ab<|W.item i s _ _ lt st λx h1 tk hP st1 kp=>?_
  obtain⟨h6,t,rfl⟩:=hv i x hP;show aW _ A.in1 (iB [eI (v i) t] (setAdd S<|.int (v i) t) >>= _) _ _ _;refine ab<|bJ ?_;unfold setAdd;refine bJ<|ab<|(eC prog w).pyHash (k:=((v i:Nat):Int)) (gh _ _ _ _) ?_;refine jb (s:={s with heap:=h1,toks:=tk+1}) hb h6 (hS.keep λo e=>kp S o hSw e) λr h2 sb hS2 b64=>?_
  refine aq #[lu fP _,ih (i+1) _ (by omega) lt (W.frame _ _ _ st1 λb z o e=>?_) b64 hS2 λh3 tk3 kp3 hS3=>hR h3 tk3 (λb o z e=>kp3 b o z ?_) hS3]
  .rw[sb.2 b λy=>hSf<|y▸z];exact e
  .rw[sb.2 b λy=>z (by rw[y];exact al)];exact kp b o (λy=>z<|ai _ y) e
def qP(a:ap){Q:ap->aw->Prop}(h:Q (.ref s.heap.objs.size) {s with heap:=s.heap.push {cls:=.type "set",dict:=ae,data:=.set #[] 0 (.fresh 0 0<|Yf w)}}) :
  ki (aV prog w) A (.call (.builtin "set.__new__") #[[.type "set",a],[]]) (wants Q E) s:=by
 refine codeAny_of_tree ?_;show aW _ A.in1 (do checkBuiltinCall "set.__new__" #[[.type "set",a],[]];nV (.builtin "set.__new__" #[[.type "set",a],[]])) _ _ s;refine ab<|eX (F.newCall_set_1 a)<|aq #[lu nh _,eF F.entry_set_new ?_];rw[d8 nh _];unfold db.«set.__new__» db.Frozenset.newClass;have hsub:=sub_set_self;obtain⟨hp,g,d,tk,os⟩:=s
 dsimp only
 wp_walk
 refine fj<|aq ?_;dsimp only;simp only[newObj];exact ab<|mS<|aq<|aq h
set_option maxHeartbeats 3200000 in
def vw{l:aL}{items:Array ap}{v:Nat->Nat}{Q:ap->aw->Prop}(hh:A.handled=ae)(hl:s.heap.IsList l items)(hv:∀i x,items[i]?=aa x->v i<6/\∃t,x=.int (v i) t)
  (h:∀h' tk,YN h' s.heap.objs.size (bt v items.size) (Yf w)->(∀b o,s.heap.get? b=aa o->h'.get? b=aa o)->Q (.ref s.heap.objs.size) {s with heap:=h',toks:=tk}):aW (aV prog w) A (call (.type "set") [.ref l]) Q E s:=by
 obtain⟨c,tl,hmro⟩:=F.called_set.mro;have hmade:=F.called_set.made;have hsub:=F.called_set.sub;refine wpAny_call<|codeAny_of_tree ?_;show aW _ _ (callAny (.type "set") _) _ _ _;refine aq #[Code.quiet_builtin _ (by decide +kernel),eF F.entry_type_call ?_];rw[cQ.under_plain (weight_type_call_type "set" [.ref l] []) rfl]
 have h1:=F.called_set.notType;have h2:=F.called_set.canCreate;have hct:=F.typeCall_set_1<|.ref l
 repeat(any_goals (first|assumption|wp_step))
 let so:fb:={cls:=.type "set",dict:=ae,data:=.set #[] 0 (.fresh 0 0<|Yf w)}
 refine fR (qP (.ref l) (E:=E) (Q:=λobj s1=>obj=.ref s.heap.objs.size/\s1={s with heap:=s.heap.push so}) #[rfl,rfl]) λr s1 hr=>?_
 cases r with
 |error e=>exact hr
 |ok fl=>
  cases fl with
  |ret obj=>
   obtain⟨rfl,rfl⟩:=hr;have hS:(s.heap.push so).get? s.heap.objs.size=aa so:=aF _ rfl;have hT:aw.TypeIs {s with heap:=s.heap.push so} (.ref s.heap.objs.size) "set":=#[_,hS,rfl]
   have hli:=F.called_set.init.lookup;have hbi:=F.called_set.init.bind<|.ref s.heap.objs.size
   repeat(any_goals (first|assumption|wp_step))
   refine fR (codeAny_call_builtin (R:=wants (λr s2=>r=.none/\∃h' tk,s2={s with heap:=h',toks:=tk}/\YN h' s.heap.objs.size (bt v items.size) (Yf w)/\∀b o,s.heap.get? b=aa o->h'.get? b=aa o) E) F.called_set.init.plain F.entry_set_init<|check_set_init_1 hT ?_) λr2 s2 hr2=>?_
   .obtain⟨⟨ocls,odict,odata,oslots⟩,hol,hcl,nl,hdl⟩:=hl
    simp only at hcl hdl;subst hcl hdl;have hol':(s.heap.push so).get? l=aa {cls:=.type "list",dict:=odict,data:=.seq items nl,slots:=oslots}:=au _ hol;have hsls:=F.sub_list_set;have hslf:=F.sub_list_frozenset;have hne:(ly "list" == ly "dict")=aj:=by decide
    have hl1:(s.heap.push so).IsList l items:=#[_,hol',rfl,nl,rfl];unfold db.«set.__init__» noKeywords db.Frozenset.updateFrom;generalize hPI:lB=PI
    wp_walk
    subst hPI;refine eO hl1<|ab<|wpAny_runValue ?_;have hlS:l<s.heap.objs.size:=aC hol;have sz:(s.heap.push so).objs.size=s.heap.objs.size+1:=cK ..;have hh3:A.in1.in1.in1.handled=ae:=by simp[hh]
    refine uC (led:=Yf w) (nG hh3 _ l (by rw[sz];exact bi<|c8 hlS) items) s.heap.objs.size (by rw[sz];intro z;rcases az.mp z with z|z;exact T7 z<|bi<|i5 _;exact T7 (bz.mp z)<|fc hlS) v hv (items.size-0) 0 _ (by omega) (cJ _) #[#[_,aF _ rfl,rfl,rfl],hl1.push _] (show 0<64 by decide) #[so,0,λ_=>0,au _ hS,#[rfl,rfl,rfl],wD _ _] λh' tk kp hS'=>?_
    show aW _ _ _ _ _ _;refine aq ?_;show aW _ _ (oh bh) _ _ _;refine aq #[rfl,h',tk,rfl,hS',λb o e=>kp b o ?_<|au _<|au _ e]
    have:=aC e;rw[sz];intro z;rcases az.mp z with z|z;exact T7 z<|bi this;exact T7 (bz.mp z)<|bi<|c8 this
   .cases r2 with
    |error e=>exact hr2
    |ok fl2=>
     cases fl2 with
     |ret r=>
      obtain⟨rfl,h',tk,rfl,hS',hk'⟩:=hr2
      repeat(any_goals (first|assumption|wp_step))
      exact h _ _ hS' hk'
     |_=>exact hr2.elim
  |_=>exact hr.elim
end
def X8:Slot "set_iterator" "__next__" "set_iterator.__next__":=.of (owner:="set_iterator") (n:="__next__") (by rw[typeLookup_type,kH];kernel_rfl) (by decide +kernel) (by decide +kernel) (by decide +kernel) (by first|(left;decide +kernel)|(right;decide +kernel)) (by rw[kX];kernel_rfl)
def Jb:Slot "set_iterator" "__iter__" "set_iterator.__iter__":=.of (owner:="set_iterator") (n:="__iter__") (by rw[typeLookup_type,kH];kernel_rfl) (by decide +kernel) (by decide +kernel) (by decide +kernel) (by first|(left;decide +kernel)|(right;decide +kernel)) (by rw[kX];kernel_rfl)
def yS:entryFor table "set_iterator.__next__" = aa db.«set_iterator.__next__»:=entryFor_of_tree (by kernel_rfl)
def yU:entryFor table "set_iterator.__iter__" = aa db.«dict_keyiterator.__iter__»:=entryFor_alias (id':="dict_keyiterator.__iter__") (by kernel_rfl) rfl (by decide +kernel) (by kernel_rfl)
def GR:entryFor table "set.__iter__" = aa db.«frozenset.__iter__»:=entryFor_alias (id':="frozenset.__iter__") (by kernel_rfl) rfl (by decide +kernel) (by kernel_rfl)
def ua:Manifest.owners.lookup (String.ofList ['r','o','t','a','r','e','t','i','_','t','e','s'].reverse)=aa Manifest.sig_set_iterator:=by kernel_rfl
def ue(a:ap):argsOk "set_iterator.__next__" #[[a],[]]:=by unfold argsOk;rw[signature?_of (id:="set_iterator.__next__") (n:=['_','_','t','x','e','n','_','_']) (o:=['r','o','t','a','r','e','t','i','_','t','e','s']) (by kernel_rfl) ua];kernel_rfl
def vD(a:ap):argsOk "set_iterator.__iter__" #[[a],[]]:=by unfold argsOk;rw[signature?_of (id:="set_iterator.__iter__") (n:=['_','_','r','e','t','i','_','_']) (o:=['r','o','t','a','r','e','t','i','_','t','e','s']) (by kernel_rfl) ua];kernel_rfl
theorem yj{B:Type}{nx:Nat->Nat}:∀(n k:Nat)(l:List B)(out:Array B),l.length=n->(mm nx n k l out).toList.Perm (out.toList++l)
 |0,k,l,out,h=>by
  cases l with|nil=>simp[mm]|cons=>cases h
 |n+1,k,l,out,h=>by
  have hj:nx k%l.length<l.length:=Nat.mod_lt _ (by omega)
  unfold mm;rw[af hj];refine(yj n (k+1) _ _<|by rw[List.length_eraseIdx_of_lt hj];omega).trans ?_
  rw[d5,bp];refine List.Perm.append_left _ ?_;rw[List.eraseIdx_eq_take_drop_succ];have e:=cW (nx k%l.length) l;rw[bX hj]at e;have p:(gT (nx k%l.length) l++l[nx k%l.length]::n3 (nx k%l.length+1) l).Perm (l[nx k%l.length]::(gT (nx k%l.length) l++n3 (nx k%l.length+1) l)):=List.perm_middle;exact p.symm.trans (by rw[e])
noncomputable def XB(w:bR)(a:aL)(ep:Nat)(es:Array (Int×ap)):Array (Int×ap):=if w.params.followText "set-order" = am then pickOrder (w.params.setOrder a ep) es else es
def Jf{w:bR}{a:aL}{ep:Nat}{es:Array (Int×ap)}:(XB w a ep es).toList.Perm es.toList:=by
 unfold XB;split
 .unfold pickOrder
  simpa using yj es.size 0 es.toList #[] (by simp)
 .exact cn _
def Jw{w:bR}{a:aL}{ep:Nat}{es:Array (Int×ap)}:(XB w a ep es).size=es.size:=by
 rw[<-aE,Jf.length_eq,aE]
noncomputable def JG(b i:Nat):Nat:=if i=0 then 0 else(pl b).getD (i-1) 0+1
noncomputable def Yu(w:bR)(b i:Nat):Nat:=if w.params.followText "set-order" = am then 0 else JG b i
def xE:(aK 64).all (λb=>(aK<|(pl b).length+1).all λi=>ag<|nN (pl b).toArray (JG b i)=i)=am:=by decide +kernel
def uK{b i:Nat}(hb:b<64)(hi:i<=(pl b).length):nN (pl b).toArray (JG b i)=i:=
 T6 (a8.mp (a8.mp xE b<|aQ.mpr hb) i<|aQ.mpr<|Nat.lt_succ_of_le hi)
section
variable{prog:bE}{w:bR}{A:cQ}{E:ap->aw->Prop}{s:aw}{a it:aL}{b i ep:Nat}{o:fb}{tg:Nat->Nat}
def Go{Q:Option (ap×Nat)->aw->Prop}(hb:b<64)(hi:i<=(pl b).length)(ho:s.heap.get? a=aa o)(hd:o.data=.set (ZM b tg) ep (tbl b<|Yf w))(h:Q (((XB w a ep<|ZM b tg)[i]?).map λe=>(e.2,Yu w b<|i+1)) s) :
  aW (aV prog w) A (setNext a (Yu w b i) i ep) Q E s:=by
 have hf:=Wj (led:=Yf w) (tg:=tg) hb;unfold setNext;refine ab<|f7 ho hd hf ?_
 dsimp only
 unfold nO;refine ab<|ab<|fj<|aq ?_;unfold XB Yu at h;unfold Yu;show aW _ _ (if w.params.followText "set-order" = am then _ else _) _ _ _
 by_cases c:w.params.followText "set-order" = am
 .rw[T9 c]
  rw[T9 c,T9 c]at h;rw[T8 (by simp)]
  unfold setWalk;refine ab<|ab<|f7 ho hd hf ?_
  dsimp only
  unfold nO;refine ab<|ab<|fj<|aq ?_;show aW _ _ (if w.params.followText "set-order" = am then _ else _) _ _ _
  rw[T9 c];refine ab<|fj<|aq<|aq ?_;rw[T9 c];exact h
 .rw[T8 c]
  rw[T8 c,T8 c]at h;have hl:Yf w=am:=by unfold Yf;simp[c]
  rw[hl];have bl:=uK hb hi;split
  .rename_i z
   exact T7 (show(!true&&ag ((ZM b tg).size>1))=am from z) (by simp)
  .refine ab (eX (a:=()) rfl<|aq ?_)
   rw[show(tbl b am).place=(pl b).toArray from rfl,bl]
   by_cases lt:i<(pl b).length
   .have e1:(ZM b tg)[i]?=aa ((((pl b)[i]:Nat):Int),eI (pl b)[i]<|tg (pl b)[i]):=by unfold ZM;simp[lt]
    have e2:(pl b).toArray[i]?=aa (pl b)[i]:=by simp[lt]
    rw[e1]at h;rw[e1,e2];have e3:JG b (i+1)=(pl b)[i]+1:=by unfold JG;simp[List.getD,lt]
    rw[e3]at h;exact h
   .have e1:(ZM b tg)[i]?=ae:=fX (by rw[Z1];omega)
    rw[e1]at h;rw[e1];exact h
def YX(w:bR)(h:b0)(it a:aL)(b i ep:Nat):Prop:=∃o,h.get? it=aa o/\o.cls=.type "set_iterator"/\o.data=.fields [.int (Yu w b i) 0,.int i 0,.ref a,.int (pl b).length 0,.int ep 0].toArray
def wU{Q:ap->aw->Prop}(hb:b<64)(ho:s.heap.get? a=aa o)(hex:o.ExactSet)(hd:o.data=.set (ZM b tg) ep (tbl b<|Yf w))
  (hQ:Q (.ref s.heap.objs.size) {s with heap:=s.heap.push {cls:=.type "set_iterator",data:=.fields [.int (Yu w b 0) 0,.int 0 0,.ref a,.int (pl b).length 0,.int ep 0].toArray}}):aW (aV prog w) A (lB<|.ref a) Q E s:=by
 have hf:=Wj (led:=Yf w) (tg:=tg) hb;have hT:s.TypeIs (.ref a) "set":=#[_,ho,hex.1];refine iK hT ni<|bQ ni hT GR ?_<|F.args_set_iter_1 _;unfold db.«frozenset.__iter__» db.Frozenset.slot0 slotArgs db.Frozenset.addrOf db.Frozenset.sizeOf;refine ab<|eX (a:=a) rfl<|ab<|ab<|k8 ho hd hf<|aq ?_;unfold setDrawn nO;refine ab<|ab<|f7 ho hd hf<|ab<|ab<|fj<|aq<|aq ?_
 dsimp only
 have nd:∀x:Bool,(!x&&(!(tbl b<|Yf w).plain&&ag ((ZM b tg).size>1)))=aj:=λx=>by rw[show(tbl b<|Yf w).plain=am from rfl];simp
 split
 .rename_i z
  exact T7 ((nd _).symm.trans z) (by simp)
 .refine ab (aq<|ab<|wpAny_setEpoch_of ho hd hf ?_)
  refine ab<|bo<|aq #[_,rfl,"set_iterator",_,#[_,aF _ rfl,rfl],X8.lookup,?_];have z0:Yu w b 0=0:=by unfold Yu;split<;>rfl
  rw[z0]at hQ;rw[Z1]
  simpa[eT]using hQ
def wX{Q:ap->aw->Prop}(hit:YX w s.heap it a b i ep)(h:Q (.ref it) s):aW (aV prog w) A (lB<|.ref it) Q E s:=by
 have hT:s.TypeIs (.ref it) "set_iterator":=let #[o,h1,h2,_]:=hit;#[o,h1,h2];refine iK hT Jb<|bQ Jb hT yU (show aW _ _ (oh<|.ref it) _ _ s from aq #[_,rfl,"set_iterator",_,hT,X8.lookup,h])<|vD _
def JT{Q:Option ap->aw->Prop}(hb:b<64)(hi:i<=(pl b).length)(hit:YX w s.heap it a b i ep)(ho:s.heap.get? a=aa o)(hd:o.data=.set (ZM b tg) ep (tbl b<|Yf w))
  (h1:∀e,(XB w a ep<|ZM b tg)[i]?=aa e->∀h',YX w h' it a b (i+1) ep->dD it s.heap h'->Q (aa e.2) {s with heap:=h' })
  (h2:i=(pl b).length->A.handled=ae/\∀h',gy it s.heap h'->Q ae {s with heap:=h' }):aW (aV prog w) A (iL<|.ref it) Q E s:=by
 have hf:=Wj (led:=Yf w) (tg:=tg) hb;obtain⟨oi,hq,hc,hdi⟩:=id hit;have hT:s.TypeIs (.ref it) "set_iterator":=#[oi,hq,hc];unfold iL;refine ab<|gv<|bW (name:=mf "__next__") hT X8<|bQ X8 hT yS ?_<|ue _;unfold db.«set_iterator.__next__» slotArgs;refine ab<|eX (a:=(cx it,[])) rfl<|ab<|wpAny_fieldsOf hq hdi ?_
 dsimp only
 refine ab<|k8 ho hd hf ?_;rw[Z1,T8 (by simp)]
 simp only[c9];refine ab<|Go hb hi ho hd ?_;cases q:(XB w a ep<|ZM b tg)[i]? with
 |some e=>
  refine ab<|ej hq hdi (by simp) ?_
  have g1:=de (lq (·.setIfInBounds 0 (eT ((Yu w b (i+1):Nat):Int)))) hq<|eL<|cY hdi _
  have d1:=cY hdi (·.setIfInBounds 0 (eT ((Yu w b (i+1):Nat):Int)))
  refine ab<|ej g1 d1 (by simp) ?_
  have g2:=de (lq (·.setIfInBounds 1 (eT<|(i:Int)+1))) g1<|eL<|cY d1 _
  refine aq #[_,rfl,aq<|h1 e q _ #[_,g2,?_,?_]<|(cB ..).trans<|cB ..]
  .exact(fW ..).trans<|(fW ..).trans hc
  .rw[cY d1];simp[eT]
 |none=>
  have hn:i=(pl b).length:=by
   have:=Array.getElem?_eq_none_iff.mp q;rw[Jw,Z1]at this;omega
  obtain⟨hh,hQ⟩:=h2 hn;refine ab<|ej hq hdi (by simp) (show aW _ _ (n8 (.type "StopIteration") [] >>= _) _ _ _ from ab ?_)
  simp only[n8,newTuple];refine ab<|bo ?_ (by size_fits);refine ab (m:=hU _ _) (eX (a:=bh) (by first|rfl|(simp only[hU];rfl))<|bo ?_ (by size_fits))
  simp only[raiseNew];refine ab<|lm ?_;rw[show A.in1.handled=ae from hh]
  refine ab<|aq<|mT ?_;refine ab<|gj (T:="StopIteration") (b:=am) #[_,aF _ rfl,rfl] kR ?_;exact aq<|hQ _<|((cB ..).extBut.push _).push _
def YX.at{h h':b0}(hit:YX w h it a b i ep)(k:∀o,h.get? it=aa o->h'.get? it=aa o):YX w h' it a b i ep:=
 let #[o,h1,r]:=hit;#[o,k o h1,r]
def wu{Q:Bool->aw->Prop}(hT:s.TypeIs (.ref a) "set")(h:Q aj s):aW (aV prog w) A (gR<|.ref a) Q E s:=by
 unfold gR;refine ab<|wpAny_specialOf hT F.slot_set_len.lookup ?_;generalize hid:("set.__len__" : String)=id0
 wp_delta
 rw[show splitId id0=aa ("set","__len__")from by subst hid;decide +kernel];subst hid
 refine ab<|gj (T:="set") (b:=am) hT (by rw[kX];kernel_rfl) ?_;refine wpAny_ite_split (λz=>T7 z<|by decide) (λ_=>wpAny_ite_split (λ_=>ab<|gP hT<|aq h) λz=>T7 (by decide +kernel) z)
def jQ(hb:b<64)(hex:o.ExactSet)(hd:o.data=.set (ZM b tg) ep (tbl b<|Yf w)):iq prog w "set" a a (pl b).length (λi v=>((XB w a ep<|ZM b tg)[i]?).map (·.2)=aa v) (λh=>h.get? a=aa o) where
 type:=λ_ hm=>#[_,hm,hex.1]
 there:=λ_ hm=>#[aC hm,aC hm]
 keep:=λ_ _ hm hk=>hk a (.inl rfl) _ hm
 notList:=by decide
 notTuple:=by decide
 hint:=λ_ _ _ _ hm hq=>wu #[_,hm,hex.1] hq
 iter:=λA s hh hm=>by
  have hne:a≠s.heap.objs.size:=bi<|aC hm;refine#[{cls:=.type "set_iterator",data:=.fields [.int (Yu w b 0) 0,.int 0 0,.ref a,.int (pl b).length 0,.int ep 0].toArray},λi h=>i<=(pl b).length/\YX w h s.heap.objs.size a b i ep/\h.get? a=aa o,λE Q hq=>?_,?_,cJ _,#[_,aF _ rfl,rfl,rfl],au _ hm]
  .exact wU hb hm hex hd hq
  .exact{
    sub:=λb hb=>by simp at hb;simp[hb]
    frame:=λ_ _ _ st hk=>#[st.1,st.2.1.at λo e=>hk _ (by simp) o e,hk a (by simp) _ st.2.2]
    item:=λi s' Q E hi st hQ=>JT hb st.1 st.2.1 st.2.2 hd (λe q h' hit' sb=>hQ _ h' s'.toks (by rw[q];rfl) #[hi,hit',sb.extBut _ _ hne st.2.2] λb o hb e=>sb.extBut b o (λz=>hb<|by simp[z]) e) λz=>T7 hi (by omega)
    done:=λs' Q E st hQ=>JT hb st.1 st.2.1 st.2.2 hd (λe q _ _ _=>T7 (Array.getElem?_eq_some_iff.mp q).1<|by rw[Jw,Z1];omega) λ_=>#[hh,λh' eb=>hQ h' s'.toks λb o hb e=>eb b o (λz=>hb<|by simp[z]) e]
    self:=λ_ _ _ _ st hQ=>wX st.2.1 hQ}
end
open L2
section
variable{prog:bE}{w:bR}{A:cQ}{E:ap->aw->Prop}{s:aw}{d:aL}
def Gm{T:String}{n:Nat}{P:Nat->ap->Prop}{OK:b0->Prop}{κ:eY}{lt:Nat->Nat->Bool}{vs:List ap}{Q:ap->aw->Prop}(src:iq prog w T d d n P OK)(hh:A.handled=ae)(hok:OK s.heap)(hv:∀acc,n9 P acc n->acc.toList=vs)(hn:n<=100000)(hl:vs.length=n)
  (O:Sq.Ord vs.length lt)(K:Sq.Asks prog w A.in1.in1 s.heap vs κ lt)
  (h:∀p h' tk D n,Sq.Pm vs.length p->Sq.Up (Sq.ltR aj vs.length lt) p vs.length->(∀b o,s.heap.get? b=aa o->h'.get? b=aa o)->s.heap.objs.size<=D->h'.get? D=aa (eZ "list" (cS<|b7 aj<|p.toList.map λi=>(b7 aj vs).getD i bh) n)->Q (.ref D) {s with heap:=h',toks:=tk}) :
  aW (aV prog w) A (call (.builtin "sorted") [.ref d]) Q E s:=by
 refine Calls.call_function_entry kind_sorted plain_sorted entry_sorted (args_sorted1 _) ?_;unfold db.«sorted»;refine ab (m:=checkCount "sorted" 1 1 _)<|aq ?_;refine ab<|J2 (A:=A.in1) src hh hok (by rw[cV];omega) λh1 tk acc hk big hacc=>?_
 rw[hv acc hacc];refine ab<|lp ?_ (by rw[cV];omega)
 have hoL:(h1.push<|eZ "list" vs.toArray 0).get? h1.objs.size=aa (eZ "list" vs.toArray 0):=aF _ rfl;show aW _ _ _ _ _ {s with heap:=h1.push<|eZ "list" vs.toArray 0,toks:=tk}
 refine ab (bJ (bQ slot_list_sort #[_,hoL,rfl] entry_list_sort (by
  rw[Sq.UB];exact Sq.list_sort_rev (h0:=s.heap) hoL (by omega) (λb o e=>by
   have hlt:b<h1.objs.size:=aC<|hk b o e;exact#[bi hlt,au _<|hk b o e]) O K λp a1 a2=>#[_,rfl,aq #[_,rfl,by
    obtain⟨n,hn⟩:=sortedHeap_at (out:=cS<|b7 aj<|p.toList.map λi=>(b7 aj vs).getD i bh) hoL
    exact h p _ tk _ n a1 a2 (λb o e=>by
     have hlt:b<h1.objs.size:=aC<|hk b o e;rw[sortedHeap_old (bi hlt) (by rw[nJ];exact c8 hlt)]
     exact au _<|hk b o e) big hn]])<|args_list_sort _))
def xp{h:b0}{ns:List Int}{vs:List ap}(hi:fV vs ns)(nd:ns.Nodup):Sq.Asks prog w A h vs oneType' (λi j=>ag<|ns.getD i 0<ns.getD j 0):=by
 have hl:vs.length=ns.length:=fV.length hi;refine#[λh2 s' E Q k q=>eX (ksk_kind (keys:=vs.toArray) (by simpa using hi)<|by simpa using h2) q,?_,λi j hi' hj s' C E k q=>?_]
 .refine bB.mpr λi j h1 h2 hij e=>?_
  obtain⟨t1,e1⟩:=hi.int_at i vs[i]<|af h1;obtain⟨t2,e2⟩:=hi.int_at j vs[j]<|af h2;rw[e1,e2]at e;have e:=(eI.inj e).1;have g1:i<ns.length:=by omega
  have g2:j<ns.length:=by omega
  rw[aJ,aJ,af g1,af g2]at e;exact T7 e<|bB.mp nd i j g1 g2 hij
 .have g1:vs[i]?=aa (vs.getD i bh):=by simp[hi']
  have g2:vs[j]?=aa (vs.getD j bh):=by simp[hj]
  obtain⟨t1,e1⟩:=hi.int_at i _ g1;obtain⟨t2,e2⟩:=hi.int_at j _ g2;rw[e1,e2,keyLt'_oneType];exact oneLt_int q
def wz{ns:List Int}{n:Nat}(nd:ns.Nodup)(hl:ns.length=n):Sq.Ord n (λi j=>ag<|ns.getD i 0<ns.getD j 0):=by
 refine#[λi j hi hj ne e=>?_,λi j _ _ e=>?_,λi j k _ _ _ e f=>?_]
 .have:ns.getD i 0≠ns.getD j 0:=λe=>by
   simp only[aJ]at e;have hi':i<ns.length:=by omega
   have hj':j<ns.length:=by omega
   refine ne<|(f6 hi' nd).mp ?_;rw[af hi',af hj']at e ⊢;exact congrArg aa e
  have e:=of_decide_eq_false e;exact T5 (by omega)
 .have e:=T6 e
  exact T4 (by omega)
 .have e:=T6 e
  have f:=T6 f;exact T5 (by omega)
def vz{ns l:List Int}{p:Array Nat}(hp:l.Perm ns)(hs:l.Pairwise (· < ·))(h1:Sq.Pm ns.length p)(h2:Sq.Up (Sq.ltR aj ns.length λi j=>ag<|ns.getD i 0<ns.getD j 0) p ns.length):(p.toList.map λi=>ns.getD i 0)=l:=by
 have hq:p.toList.Perm (aK ns.length):=by simpa using bv.mp h1
 have hl:p.toList.length=ns.length:=by rw[hq.length_eq,bG]
 refine List.Perm.eq_of_pairwise (le:=λa b=>a<b) (λa b _ _ x y=>by omega) ?_ hs ?_
 .rw[cF,bB]
  intro i j hi hj hij;have g:∀k (hk:k<p.toList.length),p.toList[k]=Sq.g p k:=λk hk=>by
   have:=Sq.jC (p:=p) (i:=k) (by simpa using hk)
   rw[<-be,af hk]at this;exact ak this
  rw[g i hi,g j hj];exact T6<|h2 i j hij (by omega)
 .refine((hq.map _).trans ?_).trans hp.symm
  have e:(aK ns.length).map (λi=>ns.getD i 0)=ns:=by
   refine bM λi=>?_
   rw[aH];by_cases h:i<ns.length
   .rw[cA h];simp[h]
   .simp[dH h]
  rw[e]
def xA:(aK 64).all (λb=>ag (((pl b).map gp).Pairwise (· < ·)))=am:=by decide +kernel
theorem XV:∀{l:List (Int×ap)},(∀e∈l,∃t,e.2=.int e.1 t)->fV (l.map (·.2)) (l.map (·.1))
 |[],_=>.nil
 |(n,v)::l,h=>by
  obtain⟨t,e⟩:=h (n,v) al;have e:v=.int n t:=e;subst e;exact .cons n t<|XV λe he=>h e<|ai _ he
theorem UP{vs:List ap}{ns:List Int}(hi:fV vs ns):∀{l:List Nat},(∀i∈l,i<vs.length)->fV (l.map λi=>vs.getD i bh) (l.map λi=>ns.getD i 0)
 |[],_=>.nil
 |i::l,h=>by
  obtain⟨t,e⟩:=hi.int_at i (vs.getD i bh) (by simp[h i al])
  rw[bf,bf,e];exact .cons _ t<|UP hi λj hj=>h j<|ai _ hj
def Gr{b:Nat}{Q:ap->aw->Prop}(hh:A.handled=ae)(hb:b<64)(S:YN s.heap d b (Yf w))
  (h:∀h' tk D n us,fV us ((pl b).map gp)->(∀b o,s.heap.get? b=aa o->h'.get? b=aa o)->s.heap.objs.size<=D->h'.get? D=aa (eZ "list" us.toArray n)->Q (.ref D) {s with heap:=h',toks:=tk}) :
  aW (aV prog w) A (call (.builtin "sorted") [.ref d]) Q E s:=by
 obtain⟨o,ep,tg,ho,hex,hd⟩:=S;have pm:(XB w d ep<|ZM b tg).toList.Perm (ZM b tg).toList:=Jf;generalize hsq:XB w d ep (ZM b tg)=sq at pm;have hI:fV (sq.toList.map (·.2)) (sq.toList.map (·.1)):=XV λe he=>by
  have:=pm.mem_iff.mp he;unfold ZM at this;obtain⟨k,_,rfl⟩:=aS.mp this;exact#[tg k,rfl]
 have hP:((pl b).map gp).Perm (sq.toList.map (·.1)):=by
  have:=pm.map (·.1)
  have e:(ZM b tg).toList.map (·.1)=(pl b).map gp:=by
   have:=congrArg lL<|zE b tg
   simpa using this
  rw[e]at this;exact this.symm
 have hS:((pl b).map gp).Pairwise (· < ·):=T6<|a8.mp xA b<|aQ.mpr hb
 have hnd:(sq.toList.map (·.1)).Nodup:=hP.nodup_iff.mp<|hS.imp λh e=>by omega
 have hlen:(sq.toList.map (·.2)).length=(pl b).length:=by
  rw[ay,pm.length_eq,aE,Z1]
 have hl2:(sq.toList.map (·.1)).length=(sq.toList.map (·.2)).length:=by simp
 refine Gm (vs:=sq.toList.map (·.2)) (jQ hb hex hd) hh ho (λacc ha=>?_) (by have:=Qp b;omega) hlen (wz hnd hl2) (xp hI hnd) λp h' tk D n h1 h2 kp hD hL=>?_
 .rw[hsq]at ha
  refine bM λi=>?_
  by_cases hi:i<(pl b).length
  .have hl:i<acc.size:=by rw[ha.1];exact hi
   have:=ha.2 i acc[i]<|bc hl;rw[aH,be,be,this,bc hl]
  .rw[br (by rw[aE,ha.1];omega),br (by rw[hlen];omega)]
 .have hq:p.toList.Perm (aK (sq.toList.map (·.2)).length):=by simpa using bv.mp h1
  have out:=UP hI (l:=p.toList) λi hi=>aQ.mp<|hq.mem_iff.mp hi
  rw[<-hl2]at h1 h2;rw[vz hP hS h1 h2]at out;exact h h' tk D n _ out kp hD hL
end
def ZdZ(te:TE):TE:=λU H Q=>te U H λv H1=>∃(a:aL)(ks:List Nat),v=.ref a/\H1 a=aa (.lst (ks.map λk:Nat=>V.int k))/\(∀k∈ks,k<6)/\∀D,H1 D=ae->Q (.ref D) (upd H1 D (.lst ((pl (bt (ks.getD · 0) ks.length)).map λk:Nat=>V.int k)))
theorem ZaE{v:Nat->Nat}:∀{n:Nat},(∀i,i<n->v i<6)->bt v n<64
 |0,_=>by show 0<64;decide
 |n+1,h=>Nat.or_lt_two_pow (n:=6) (ZaE λi hi=>h i<|by omega)<|Nat.pow_lt_pow_right (by decide)<|h n (by omega)
theorem YQ{us:List ap}:∀{ns:List Nat},fV us (ns.map gp)->Vals (ns.map λk:Nat=>V.int k) us
 |[],h=>by cases h;exact .nil
 |n::ns,h=>by
  cases h with|cons _ t h=>exact .cons #[t,rfl]<|YQ h
def GF{X:Cx}{e:Expr}{te:TE}{p p2 p3 pos:iu}(hc:X.calm=am)(he:PE X e te)(hm1:X.mg "sorted" = ae)(hm2:X.mg "set" = ae)(hg1:Gl X "sorted")(hg2:Gl X "set")
  (hs1:aM [e] X.env=(aj,cR e X.env)::aM [] X.env)(hs2:aM [.Call (.Name "set" p2) [e] [] p3] X.env=(aj,cR (.Call (.Name "set" p2) [e] [] p3) X.env)::aM [] X.env) :
  PE X (.Call (.Name "sorted" p) [.Call (.Name "set" p2) [e] [] p3] [] pos) (ZdZ te):=by
 intro pq s U H Q I h;refine eD<|Y2 I hg1 hm1 (by rfl) ?_ (by decide) (by decide)
 refine gc ?_ hs2 rfl;rw[hs2];show aW _ _ (spliced ((aj,cR (.Call (.Name "set" p2) [e] [] p3) X.env)::eK pos (aM [] X.env))) _ _ s;refine Calls.spliced_cons ?_;refine eD<|Y2 I hg2 hm2 (by rfl) ?_ (by decide) (by decide)
 refine cD ?_ hs1 rfl;rw[hs1];show aW _ _ (spliced ((aj,cR e X.env)::eK p3 (aM [] X.env))) _ _ s;refine Calls.spliced_cons<|thn (he pq s U H _ I h) λu s1 #[x,H1,I1,r1,a,ks,ex,ha,h6,q1]=>Calls.spliced_nil ?_
 subst ex;cases(show u=cx a from r1)
 obtain⟨hz,us,n,rel,ho⟩:=I1.hok a _ ha;have hlen:us.length=ks.length:=by rw[<-rel.length,ay]
 have hh:=I1.ok.hd hc;have h6':∀i,i<ks.length->ks.getD i 0<6:=λi hi=>by
  rw[aJ,af hi];exact h6 _<|aU hi
 refine vw (v:=(ks.getD · 0)) (items:=us.toArray) hh #[_,ho,rfl,n,rfl] (λi x hx=>?_) λh2 tk2 hS k2=>?_
 .have hx':us[i]?=aa x:=by simpa using hx
  have hi:i<us.length:=(aX.mp hx').1;refine#[h6' i (by omega),?_]
  obtain⟨y,hy,ry⟩:=rel.get (i:=i) (x:=V.int<|ks.getD i 0) (by rw[aH,af (show i<ks.length by omega),aJ,af (show i<ks.length by omega)];rfl)
  rw[hx']at hy;cases hy;exact ry
 .refine Calls.spliced_nil ?_
  have b64:bt (ks.getD · 0) us.toArray.size<64:=ZaE λi hi=>h6' i (by simpa[hlen]using hi)
  refine Gr (s:={s1 with heap:=h2,toks:=tk2}) hh b64 hS λh3 tk3 D m vs hI k3 hD hL=>?_
  have sz:us.toArray.size=ks.length:=by simpa using hlen
  rw[sz]at hI;have le:s1.heap.objs.size<=D:=by
   obtain⟨o,_,_,hg,_⟩:=hS;exact bU (fQ<|aC hg) hD
  refine#[.ref D,_,I1.laid (a:=D) (o:=.lst ((pl (bt (ks.getD · 0) ks.length)).map λk:Nat=>V.int k)) (h':=h3) (t':=tk3) (λb o e=>k3 b o<|k2 b o e) le #[?_,vs,m,YQ hI,hL],rfl,q1 D<|I1.hok.fresh le]
  rw[ay,cV];have:=Qp (bt (ks.getD · 0) ks.length)
  omega
theorem uG{v:Nat->Nat}{k:Nat}:∀{n:Nat},(bt v n).testBit k=((aK n).map v).contains k
 |0=>by simp[bt]
 |n+1=>by
  show(bt v n ||| 2^v n).testBit k=_;rw[Nat.testBit_or,uG,List.range_succ,bZ,List.contains_append,Nat.testBit_two_pow];simp[eq_comm]
def ZcO{ks:List Nat}:pl (bt (ks.getD · 0) ks.length)=(aK 6).filter ks.contains:=by
 unfold pl;refine List.filter_congr λk _=>?_
 rw[uG];have e:(aK ks.length).map (λi=>ks.getD i 0)=ks:=by
  refine bM λi=>?_
  rw[aH];by_cases h:i<ks.length
  .rw[cA h];simp[h]
  .simp[dH h]
 rw[e]
open Ev (E Sm Fn Bop Cop Ty Bf Mf)
theorem VE{O:Mx}{H:Hp}:∀{ds:List D}{ks:List Nat}{vs:List V},Pv.XJ ds=aa ks->Rq O H ds vs->vs=ks.map (λk:Nat=>V.int k)/\∀k∈ks,k<6
 |[],ks,vs,e,h=>by
  cases e;unfold Rq at h;exact#[h,λ_ z=>by cases z]
 |x::r,ks,vs,e,h=>by
  unfold Rq at h;obtain⟨v,us,rfl,h1,h2⟩:=h;cases x with
  |int i=>
   have e:(if 0<=i/\i<6 then(Pv.XJ r).map (i.toNat :: ·)else ae)=aa ks:=e
   split at e
   .rename_i hi
    obtain⟨ks',e1,rfl⟩:=aR.mp e;obtain⟨rfl,h6⟩:=VE e1 h2;refine#[by rw[h1.int',bf,k9 hi.1],λk hk=>?_]
    rcases az.mp hk with rfl|hk
    .omega
    .exact h6 k hk
   .cases e
  |_=>exact Ev.nos e
theorem UR{O:Mx}{H:Hp}:∀l:List Nat,Rq O H (l.map λk:Nat=>Pv.V.int k) (l.map λk:Nat=>V.int k)
 |[]=>Rq.nil
 |k::l=>Rq.cons (ZL (k:Int))<|UR l
def Gx{X:Cx}{xw:Nat->Hp->Prop}{C:Calls}{e:Expr}{i:E}{p p2 p3 pos:iu}(hc:X.calm=am)(he:CE X xw C e i)(hm1:X.mg "sorted" = ae)(hm2:X.mg "set" = ae)(hg1:Gl X "sorted")(hg2:Gl X "set")
  (hs1:aM [e] X.env=(aj,cR e X.env)::aM [] X.env)(hs2:aM [.Call (.Name "set" p2) [e] [] p3] X.env=(aj,cR (.Call (.Name "set" p2) [e] [] p3) X.env)::aM [] X.env) :
  CF X xw C (.Call (.Name "sorted" p) [.Call (.Name "set" p2) [e] [] p3] [] pos) (.blt .sortedS [i]):=.mk <| PE.imp (GF hc he.h hm1 hm2 hg1 hg2 hs1 hs2)<|by
 rintro U H Q ⟨O,l,S,st,lr,h⟩;rw[Pv.pv,Pv.pvs,Xm]at h;refine#[O,l,S,st,lr,h.bind λx S1 ρ1 H1 v f1 st1 r1 h1=>?_]
 cases f1.eq;rw[Pv.pvs]at h1;obtain⟨z,hz,h1⟩:=End.po h1;cases x with
 |lst ds=>
  obtain⟨ks,e1,rfl⟩:=aR.mp hz;obtain⟨a,us,rfl,ha,_,rs⟩:=r1.lst';obtain⟨rfl,h6⟩:=VE e1 rs;exact#[a,ks,rfl,ha,h6,by rw[ZcO];exact h1.newF f1 st st1<|UR _]
 |_=>exact Ev.nos hz
end Sd
namespace Gn
open PySem PySem.Spec PyProof.Rows L2
open Ev (E Sm Fn Bop Cop Ty Bf Mf)
open Sd (Calls spF CompScope cxC hu7 zj uy)
structure FR where
 x:bF
 st:fw
 N:List bF
 k:Nat
noncomputable def FR.ps(r:FR):List bF:=r.N.take r.k
noncomputable def scB(N:List bF)(k:Nat)(sc:eA):Bool:=
 (match sc.kind with|.function=>am|_=>aj)&&(!sc.isCoroutine&&(!sc.isGenerator&&(decide N.Nodup&&((N.take k).all (λx=>ag (sc.names.lookup x=aa .local)||decide (sc.names.lookup x=aa .cell))&&sc.names.all λy=>ag<|y.2≠.free))))
def ZbF(h:scB N k sc=am):FnScope N (N.take k) sc:=by
 unfold scB at h;simp only[aG,mn,T0,a8,gG]at h;obtain⟨h1,h2,h3,h4,h5,h6⟩:=h;refine#[?_,h2,h3,h4,?_,h5,h6]
 .cases e:sc.kind<;>rw[e]at h1<;>first|rfl|cases h1
 .rw[bn]
  by_cases hk:k<=N.length
  .rw[kB hk]
  .rw[Nat.min_eq_right (by omega),gg,cw (by omega)]
inductive Gv where
 |int (n:Int)|tab (t:List (Int×Int))
 deriving DecidableEq
def Zdx(K:ao)(mg:bF->Option ap)(x:bF):Gv->Prop
 |.int n=>∃t:og,mg x=aa (.int n t)
 |.tab t=>∃tb:aL,(∀P w,Sd.ZcC P w K tb t)/\mg x=aa (.ref tb)
structure Top(K:ao)(mg:bF->Option ap)(fs:List FR)(zs:List bF)(gs:List (bF×Gv))(f:Nat->aL)(fd:Nat->cT):Prop where
 d:∀i r,fs[i]?=aa r->Fun K r.x r.x r.st (f i) (fd i)
 b:∀i r,fs[i]?=aa r->Vq K (fd i) r.ps []
 m:∀i r,fs[i]?=aa r->mg r.x=aa (.ref<|f i)
 z:∀x∈zs,mg x=ae
 g:∀y∈gs,Zdx K mg y.1 y.2
def All(P:bE)(w:bR)(K:ao)(mg:bF->Option ap)(base:b0)(fs:List FR)(F:List Fn)(tk:Nat)(sn:List Nat)(f:Nat->aL)(fd:Nat->cT)(d:Nat):Prop:=
 ∀i r,fs[i]?=aa r->FnOk P w K mg base CX0 d (f i) (fd i) r.ps (spF K (Pv.Zg F tk d) (sn.contains i) i)
def Bd(fs:List FR)(zs:List bF)(gs:List (bF×Gv))(F:List Fn)(tk:Nat)(sn:List Nat)(i:Nat)(r:FR)(fn:Fn):Prop:=
 ∀(P:bE)(w:bR)(K:ao)(mg:bF->Option ap)(base:b0)(f:Nat->aL)(fd:Nat->cT)(d:Nat),Top K mg fs zs gs f fd->All P w K mg base fs F tk sn f fd d->r.N.Nodup->
  ∀(cdv:ap)(A:cQ)(outer:List Env)(s:aw)(H:Hp)(E:XK),Room d (A.deeper<|gU r.x (Zu r.st) s.heap.objs.size (f i) cdv)->(A.deeper<|gU r.x (Zu r.st) s.heap.objs.size (f i) cdv).units+7<dq->
   Sd.CSs (Js CX0 P w K mg base r.N r.x (Zu r.st) (f i) cdv A outer s H E).nox (λ_ _=>False) (sn.contains i) (Pv.Zg F tk d) (Pv.muts fn.body) (Z8 r.st) fn.body
def OkL(fs:List FR)(zs:List bF)(gs:List (bF×Gv))(F:List Fn)(tk:Nat)(sn:List Nat):Nat->List FR->List Fn->Prop
 |_,[],[]=>True
 |i,r::rs,fn::fns=>(fn.ns=r.N.length/\fn.ps=r.ps.length/\scB r.N r.k (Zu r.st)=am/\Bd fs zs gs F tk sn i r fn)/\OkL fs zs gs F tk sn (i+1) rs fns
 |_,_,_=>False
theorem OkL.get{fs:List FR}{zs:List bF}{gs:List (bF×Gv)}{F:List Fn}{tk:Nat}{sn:List Nat}:∀{rs:List FR}{fns:List Fn}{i0:Nat},OkL fs zs gs F tk sn i0 rs fns->∀i r,rs[i]?=aa r->∃fn,fns[i]?=aa fn/\fn.ns=r.N.length/\fn.ps=r.ps.length/\scB r.N r.k (Zu r.st)=am/\Bd fs zs gs F tk sn (i0+i) r fn
 |[],_,_,_,i,r,e=>by simp at e
 |_::_,[],_,h,_,_,_=>h.elim
 |r::rs,fn::fns,i0,h,0,r',e=>by
  simp at e;subst e;exact#[fn,rfl,h.1.1,h.1.2.1,h.1.2.2.1,h.1.2.2.2]
 |r::rs,fn::fns,i0,h,i+1,r',e=>by
  obtain⟨g,a,b,c,d,q⟩:=OkL.get h.2 i r' (by simpa using e)
  exact#[g,by simpa using a,b,c,d,by rw[iQ,lW 1 i]at q;exact q]
theorem ux{P:bE}{w:bR}{K:ao}{mg:bF->Option ap}{base:b0}{fs:List FR}{zs:List bF}{gs:List (bF×Gv)}{F:List Fn}{tk:Nat}{sn:List Nat}{f:Nat->aL}{fd:Nat->cT}(O:OkL fs zs gs F tk sn 0 fs F)(hT:F[tk]?=aa Sd.XE)(T:Top K mg fs zs gs f fd):∀d,All P w K mg base fs F tk sn f fd d
 |0=>λi r h=>zj
 |d+1=>λi r h=>by
  obtain⟨fn,a,b,c,e,q⟩:=O.get i r h;rw[Nat.zero_add]at q;have S:=ZbF e;have hb:=λcdv A outer s H E hr=>(q P w K mg base f fd d T (ux O hT T d) S.nd cdv A outer s H E hr<|hu7 hr)
  by_cases ht:i=tk
  .subst ht
   rw[hT]at a;cases a;exact Sd.ui Sd.jZ b c (T.d i r h) S hb
  .exact Sd.ui (Sd.qj ht a) b c (T.d i r h) S hb
def Uf(r:FR):Prop:=∀(kV doc pm:ap)(an:Option aL)(cdv ct:ap)(us:List ap),us.length=r.ps.length->nz (dE r.x r.x (YB r.st) (Z8 r.st) (Zu r.st) .none kV doc pm an cdv ct) #[us,[]]=c0 (r.ps.zip us)
section
variable{x:bF}{st:fw}
noncomputable abbrev bA(x:bF)(st:fw)(kV doc pm:ap)(an:Option aL)(cdv ct:ap)(us:List ap):=nz (dE x x (YB st) (Z8 st) (Zu st) .none kV doc pm an cdv ct) #[us,[]]
def bd1(h:∀kV doc pm an cdv ct a0,bA x st kV doc pm an cdv ct [a0]=c0 ((N.take n).zip [a0]))(hl:(N.take n).length=1:=by rfl):Uf #[x,st,N,n]:=λkV doc pm an cdv ct us e=>match us,e.trans hl with|[a0],_=>h kV doc pm an cdv ct a0
def bd2(h:∀kV doc pm an cdv ct a0 a1,bA x st kV doc pm an cdv ct [a0,a1]=c0 ((N.take n).zip [a0,a1]))(hl:(N.take n).length=2:=by rfl):Uf #[x,st,N,n]:=λkV doc pm an cdv ct us e=>match us,e.trans hl with|[a0,a1],_=>h kV doc pm an cdv ct a0 a1
def bd3(h:∀kV doc pm an cdv ct a0 a1 a2,bA x st kV doc pm an cdv ct [a0,a1,a2]=c0 ((N.take n).zip [a0,a1,a2]))(hl:(N.take n).length=3:=by rfl):Uf #[x,st,N,n]:=λkV doc pm an cdv ct us e=>match us,e.trans hl with|[a0,a1,a2],_=>h kV doc pm an cdv ct a0 a1 a2
def bd4(h:∀kV doc pm an cdv ct a0 a1 a2 a3,bA x st kV doc pm an cdv ct [a0,a1,a2,a3]=c0 ((N.take n).zip [a0,a1,a2,a3]))(hl:(N.take n).length=4:=by rfl):Uf #[x,st,N,n]:=λkV doc pm an cdv ct us e=>match us,e.trans hl with|[a0,a1,a2,a3],_=>h kV doc pm an cdv ct a0 a1 a2 a3
end
inductive FnsAt(K:ao):List FR->List aL->List cT->Prop
 |nil:FnsAt K [] [] []
 |cons {x:bF} {st:fw} {N:List bF} {n:Nat} {a:aL} {rs:List FR} {as:List aL} {fds:List cT} {oc kV dc pm cd ct:ap} {od an:Option aL} {sl:Array (Option ap)}
   (h1:f8 K cy x=aa (aa<|.ref a)) (h2:K.lookup a=aa #[oc,od,.func<|dE x x (YB st) (Z8 st) (Zu st) .none kV dc pm an cd ct,sl])
   (h3:gV K cd x=am) (h4:fS K (.ref a)=am) (h5:Uf #[x,st,N,n]) (t:FnsAt K rs as fds) :
   FnsAt K (#[x,st,N,n]::rs) (a::as) (dE x x (YB st) (Z8 st) (Zu st) .none kV dc pm an cd ct::fds)
inductive ZsAt(K:ao):List bF->Prop
 |nil:ZsAt K []
 |cons {x:bF} {zs:List bF} (h:f8 K cy x=aa ae) (t:ZsAt K zs):ZsAt K (x::zs)
inductive GsAt(K:ao):List (bF×Gv)->Prop
 |nil:GsAt K []
 |cons {x:bF} {n:Int} {u:og} {gs:List (bF×Gv)} (h:f8 K cy x=aa (aa<|.int n u)) (t:GsAt K gs):GsAt K ((x,.int n)::gs)
 |tab {x:bF} {a:aL} {es:Array fe} {n:Nat} {tb:List (Int×Int)} {gs:List (bF×Gv)} (h:f8 K cy x=aa (aa<|.ref a)) (h2:K.lookup a=aa #[.type "dict",ae,.dict es n,#[]]) (h3:Sd.YJ es.toList tb) (h4:(a == cI)=aj) (t:GsAt K gs):GsAt K ((x,.tab tb)::gs)
theorem GsAt.get{K:ao}{h:b0}{mg:bF->Option ap}(X:K.In h)(G:h.Ns cy mg):∀{gs:List (bF×Gv)},GsAt K gs->∀y∈gs,Zdx K mg y.1 y.2
 |_,.nil,x,h=>by simp at h
 |_,.cons h t,x,m=>by
  rcases az.mp m with rfl|m
  .exact#[_,lv X G h]
  .exact t.get X G x m
 |_,.tab h h2 h3 h4 t,x,m=>by
  rcases az.mp m with rfl|m
  .exact#[_,λP w=>Sd.qK h2 h3 h4,lv X G h]
  .exact t.get X G x m
theorem FnsAt.get{K:ao}{fd0:cT}:∀{fs:List FR}{as:List aL}{fds:List cT},FnsAt K fs as fds->∀i r,fs[i]?=aa r->
  f8 K cy r.x=aa (aa<|.ref<|as.getD i 0)/\Fun K r.x r.x r.st (as.getD i 0) (fds.getD i fd0)/\Uf r
 |_,_,_,.nil,i,r,e=>by simp at e
 |_,_,_,.cons h1 h2 h3 h4 h5 t,0,r,e=>by
  simp at e;subst e;exact#[h1,Za5 h2 h3 h4,h5]
 |_,_,_,.cons h1 h2 h3 h4 h5 t,i+1,r,e=>by
  obtain⟨a,b,c⟩:=t.get i r (by simpa using e)
  exact#[by simpa using a,by simpa using b,c]
theorem ZsAt.get{K:ao}:∀{zs:List bF},ZsAt K zs->∀x∈zs,f8 K cy x=aa ae
 |_,.nil,x,h=>by simp at h
 |_,.cons h t,x,m=>by
  rcases az.mp m with rfl|m
  .exact h
  .exact t.get x m
def Zbj{l:kz}{w:bR}{K:ao}{h:b0}{mg:bF->Option ap}{fa:aL}{fs:List FR}{zs:List bF}{gs:List (bF×Gv)}{F:List Fn}{tk L:Nat}{sn:List Nat}{st:fw}{N:List bF}{as:List aL}{fds:List cT}
  (X:K.In h)(G:h.Ns cy mg)(hfa:mg "law" = aa (.ref fa))(hL:fs[L]?=aa #["law",st,"_law_script" :: N,1])(O:OkL fs zs gs F tk sn 0 fs F)(hT:F[tk]?=aa Sd.XE)(hLs:sn.contains L=aj)(A:FnsAt K fs as fds)(Z:ZsAt K zs)(Y:GsAt K gs) :
  ∃fd:cT,(∀(s:aw)(v:ap),lR s fd #[[v],[]] [("_law_script",v)])/\∀base:b0,K.In base->base.Ns cy mg->FnOk l.prog w K mg base CX0 65 fa fd ["_law_script"] (spF K (Pv.Zg F tk 65) aj L):=by
 cases fds with
 |nil=>cases A;simp at hL
 |cons fd0 fds'=>
 have T:Top K mg fs zs gs (λi=>as.getD i 0) (λi=>(fd0::fds').getD i fd0):=
  #[λi r e=>(A.get i r e).2.1,λi r e=>by
   obtain⟨_,F,B⟩:=A.get (fd0:=fd0) i r e;exact F.binds B,λi r e=>lv X G (A.get (fd0:=fd0) i r e).1,λx hx=>PySem.W.mg_none_of X G<|Z.get x hx,λy hy=>Y.get X G y hy]
 have e:=hfa.symm.trans<|T.m L _ hL;obtain⟨_,Fu,B⟩:=A.get (fd0:=fd0) L _ hL;cases e;refine#[(fd0::fds').getD L fd0,λs v=>?_,λbase _ _=>?_]
 .obtain⟨oc,od,kV,doc,pm,an,cdv,ct,osl,e,lk,hcd⟩:=Fu.ex
  rw[e];exact .of_eq<|B kV doc pm an cdv ct [v] rfl
 .have:=ux (P:=l.prog) (w:=w) (base:=base) O hT T 65 L _ hL
  rw[hLs]at this;exact this
def walk{l:kz}{q:bE}{loose:List bF}{XP:(bF->Option ap)->b0->Prop}{YP:bR->b0->Prop}{d:DefRec}{K:Params->ao}{F:List Fn}{tk L:Nat}(hok:∀(ns:List Int) s,∃S,Pv.Zg F tk 65 L [.scr ns] s=.ok (.bl am) S)(hn:l.most=aa 63)(hdf:d.params.defaults=[])
  (hY:∀(w:bR)(h:b0),YP w h->(K w.params).In h)
  (hF:∀(w:bR)(mg:bF->Option ap)(fa:aL)(h:b0),(K w.params).In h->h.Ns cy mg->mg d.name=aa (.ref fa)->
   ∃fd:cT,(∀(s:aw)(u:ap),lR s fd #[[u],[]] [("_law_script",u)])/\∀base:b0,(K w.params).In base->base.Ns cy mg->FnOk l.prog w (K w.params) mg base CX0 65 fa fd ["_law_script"] (spF (K w.params) (Pv.Zg F tk 65) aj L)) :
  nR q loose XP YP l.row.toRowW d [] (λf vs=>nB f vs):=
 L2.jO (n:=63) (k:=65) (x:="_law_script") (CX:=λ_=>CX0) (sp:=λw=>spF (K w.params) (Pv.Zg F tk 65) aj L) hn (by decide) hdf #[rfl,by decide,by decide] hY hF (λw H a ns hl hO hS=>uy hO hS<|hok ns) λ_ _ _ _ _ z=>z
def Top.no{K:ao}{mg:bF->Option ap}{x:bF}(T:Top K mg fs zs gs f fd)(h:zs.contains x=am):mg x=ae:=T.z x (by simpa using h)
def Zdd{n:Nat}{x:bF}(T:Top X.K X.mg fs zs gs f fd)(h:All X.prog X.w X.K X.mg X.base fs F tk sn f fd d)(hr:Room d X.A)(ha:Sd.CA X (λ_ _=>False) (Pv.Zg F tk d) (e::es) is)(hx:(fs[n]?).map FR.x=aa x)(hg:Gl X x)(hdb:(x == ("__debug__" : bF))=aj)
  (he:aM (e::es) X.env=(aj,cR e X.env)::aM es X.env)(hpl:(eK pos<|aM es X.env).any (·.1)=aj):Sd.CE X (λ_ _=>False) (Pv.Zg F tk d) (.Call (.Name x p) (e::es) [] pos) (.call n is):=by
 cases e0:fs[n]? with
 |none=>rw[e0]at hx;cases hx
 |some r=>
  rw[e0]at hx;obtain rfl:r.x=x:=ak hx;exact Sd.uV (h n r e0) hr (T.m n r e0) (T.d n r e0).kp (T.b n r e0) ha hg hdb he hpl
def ZcE{x y:bF}{n k:Nat}{px p':iu}{ss:List fw}{B:List Sm}{fr:Bool}{ns:List Nat}(T:Top X.K X.mg fs zs gs f fd)(h:All X.prog X.w X.K X.mg X.base fs F tk sn f fd d)(hr:Room d X.A)(ha:Sd.CA X (λ_ _=>False) (Pv.Zg F tk d) (e::es) is)(hB:Sd.CSs X (λ_ _=>False) fr (Pv.Zg F tk d) ns ss B)(hN:X.N.Nodup)(hx:(fs[k]?).map FR.x=aa y)(hk:sn.contains k=am)
  (hg:Gl X y)(hdb:(y == ("__debug__" : bF))=aj)(he:aM (e::es) X.env=(aj,cR e X.env)::aM es X.env)(hpl:(eK p<|aM es X.env).any (·.1)=aj)(hi:X.N[n]?=aa x)(hl:L2.Loc X.env.scope x)(hf:X.fn x=am\/X.env.scope.names.lookup x=aa .local)
  (hs:ed [.Name x px] (.Call (.Name y p') (e::es) [] p) pos.line X.env=c0 aj)(hw:ee [.Name x px] (.Call (.Name y p') (e::es) [] p) X.env=c0 ae)(h1:(b8 [.Name x px] X.env).map (·.2)=[dF (.Name x px) X.env]) :
  Sd.CSs X (λ_ _=>False) fr (Pv.Zg F tk d) ns (.Assign [.Name x px] (.Call (.Name y p') (e::es) [] p) pos::ss) [.cel n k is B]:=by
 cases e0:fs[k]? with
 |none=>rw[e0]at hx;cases hx
 |some r=>
  rw[e0]at hx;obtain rfl:r.x=y:=ak hx;have q:=h k r e0;rw[hk]at q;refine Sd.Zb8 (Sd.PE.imp (z9 q hr hg (T.m k r e0) (T.d k r e0).kp (T.b k r e0) .nil ZaH ha.h hdb he hpl) λU H Q z=>?_) hB hN hi hl hf hs hw h1
  unfold Zan;simp only[cg];exact z
noncomputable def csB(sc:eA)(N0:List bF)(scope:eA)(N:List bF)(cap:List Nat)(nl:Nat):Bool:=
 ((N.take nl).all (λx=>ag (scope.names.lookup x=aa .local)||decide (scope.names.lookup x=aa .cell))&&(ag (N.length=nl+cap.length)&&(cap.zipIdx.all (λp=>ag (N[nl+p.2]?=N0[p.1]?)&&ag ((N0[p.1]?).map (λx=>ag<|(x,bD)∈scope.names)=aa am)) &&
  ((match scope.kind with|.function=>am|_=>aj)&&scope.names.all λy=>(!decide (y.2=.cell) || !decide ((y.1,bD)∈scope.names))&&((!decide (y.2=.local)||decide (scope.names.lookup y.1=aa .local))&&(!decide (y.2=.free)||((ag (sc.names.lookup y.1=aa .cell)||decide (sc.names.lookup y.1=aa .free))&&ag (scope.names.lookup y.1≠aa .local))))))))
def ZaQ{sc:eA}{N0:List bF}{scope:eA}{N:List bF}{cap:List Nat}{nl:Nat}(h:csB sc N0 scope N cap nl=am):CompScope sc N0 scope N cap nl:=by
 unfold csB at h;simp only[aG,gG,mn,T0,decide_eq_false_iff_not,a8]at h;obtain⟨_,h1,h2,h3,h4⟩:=h;refine#[?_,λy hy z=>(h4 y hy).1.resolve_left λq=>q z,λy hy z=>?_,λy hy z=>?_,λy hy z=>?_,h1,h2]
 .cases e:scope.kind<;>rw[e]at h3<;>first|rfl|cases h3
 .rcases(h4 y hy).2.1 with q|q
  .exact T7 z q
  .exact q
 .rcases(h4 y hy).2.2 with q|q
  .exact T7 z q
  .exact q.1
 .rcases(h4 y hy).2.2 with q|q
  .exact T7 z q
  .exact q.2
noncomputable def cN(scope:eA)(nl:Nat)(cap:List Nat)(N0:List bF):List bF:=((scope.names.drop 1).take nl).map (·.1)++cap.map λi=>N0.getD i ""
def wN{sc:eA}{N0:List bF}{scope:eA}{cap:List Nat}{nl:Nat}(h:csB sc N0 scope (cN scope nl cap N0) cap nl=am):CompScope sc N0 scope (cN scope nl cap N0) cap nl:=ZaQ h
end Gn
namespace K12
open Ev
noncomputable def Vp:Fn:=#[2,2,
 [.ite (.cmp .lt (.v 1)<|.blt .len [(.v 0)]) [.ret<|.ix (.v 0)<|.v 1] [],
  .ret (.c<|.int 0)]]
noncomputable def QE:Fn:=#[2,3,
 [.asg [2]<|.call 0 [(.v 0),(.v 1)],
  .ite (.cmp .ge (.v 2)<|.bin .pow (.c<|.int 10)<|.c<|.int 18) [.ret<|.lst [(.bin .sub (.v 2)<|.bin .pow (.c<|.int 10)<|.c<|.int 18),(.c<|.bl am)]] [],
  .ret (.lst [(.bin .mod (.v 2)<|.c<|.int 2147483647),(.c<|.bl aj)])]]
noncomputable def JU:Fn:=#[2,4,
 [.ite (.dix (.v 0) am) [.asg [2]<|.bin .mod (.dix (.v 0) aj)<|.v 1,
  .dset 0 (.bin .fdiv (.dix (.v 0) aj)<|.v 1),
  .ret (.v 2)] [],
  .dset 0 (.bin .mod (.bin .add (.bin .mul (.dix (.v 0) aj)<|.c<|.int 48271)<|.c<|.int 29)<|.c<|.int 2147483647),
  .asg [3] (.bin .mod (.bin .add (.bin .add (.bin .mul (.dix (.v 0) aj)<|.dix (.v 0) aj)<|.bin .mul (.c<|.int 39373)<|.dix (.v 0) aj)<|.c<|.int 7)<|.c<|.int 2147483629),
  .asg [3] (.bin .mod (.bin .add (.bin .mul (.v 3)<|.v 3)<|.bin .mul (.c<|.int 16807)<|.v 3)<|.c<|.int 2147483587),
  .ret (.bin .mod (.bin .fdiv (.v 3)<|.c<|.int 8)<|.v 1)]]
noncomputable def Y1:Fn:=#[2,3,
 [.asg [2]<|.lst [(.tup [(.c<|.int 2),(.c<|.int 1)]),(.tup [(.c<|.int 2),(.c<|.int 2)]),(.tup [(.c<|.int 2),(.c<|.int 3)]),(.tup [(.c<|.int 2),(.c<|.int 4)]),(.tup [(.c<|.int 3),(.c<|.int 1)]),(.tup [(.c<|.int 3),(.c<|.int 2)]),(.tup [(.c<|.int 3),(.c<|.int 3)]),(.tup [(.c<|.int 5),(.c<|.int 1)]),(.tup [(.c<|.int 5),(.c<|.int 2)]),(.tup [(.c<|.int 2),(.c<|.int 3)]),(.tup [(.c<|.int 2),(.c<|.int 4)]),(.tup [(.c<|.int 3),(.c<|.int 3)])],
  .ite (.cmp .gt (.v 1)<|.c<|.int 27) [.asg [2]<|.bin .add (.v 2)<|.lst [(.tup [(.c<|.int 2),(.c<|.int 5)]),(.tup [(.c<|.int 2),(.c<|.int 6)]),(.tup [(.c<|.int 3),(.c<|.int 4)]),(.tup [(.c<|.int 5),(.c<|.int 3)])]] [],
  .ret (.ix (.v 2)<|.call 2 [(.v 0),(.blt .len [(.v 2)])])]]
noncomputable def Xb:Fn:=#[1,1,
 [.ret<|.ix (.bin .add (.comp1 [0] 1 [0] (.rng1<|.blt .len [(.v 0)]) [(.cmp .ne (.ix (.v 1)<|.v 0)<|.c<|.int 0)]<|.v 0)<|.lst [(.blt .len [(.v 0)])])<|.c<|.int 0]]
noncomputable def Y9:Fn:=#[2,6,
 [.asg [2]<|.blt .sortedS [(.comp1 [] 1 [0] (.of<|.v 1) [(.blt .any [(.v 0)])]<|.call 4 [(.v 0)])],
  .asg [3] (.lst []),
  .forr [4] (.of<|.v 2) [.forr [5] (.of<|.v 1) [.ite (.and (.cmp .eq (.ix (.v 5)<|.v 4)<|.c<|.int 1)<|.cmp .eq (.call 4 [(.v 5)])<|.v 4) [.ite (.cmp .eq (.comp1 [4,5] 1 [0] (.of<|.v 2) [(.and (.cmp .ne (.v 0)<|.v 1)<|.cmp .ne (.ix (.v 2)<|.v 0)<|.c<|.int 0)]<|.v 0)<|.lst []) [.ex<|.mt .append (.v 3) [(.v 5)]] []] []]],
  .ret (.blt .tuple [(.v 3)])]]
noncomputable def XF:Fn:=#[2,3,
 [.asg [2]<|.bin .mul (.call 2 [(.v 0),(.bin .add (.ix (.v 1)<|.c<|.int 1)<|.c<|.int 1)])<|.blt .toInt [(.cmp .eq (.call 2 [(.v 0),(.c<|.int 3)])<|.c<|.int 0)],
  .ret (.bin .add (.bin .mul (.tup [(.c<|.int 0)])<|.v 2)<|.blt .tuple [(.comp1 [0,1] 1 [0] (.rng1<|.bin .sub (.ix (.v 1)<|.c<|.int 1)<|.v 2) []<|.call 2 [(.v 1),(.ix (.v 2)<|.c<|.int 0)])])]]
noncomputable def Q3:Fn:=#[4,4,
 [.ret<|.blt .tuple [(.comp1 [1,2,3,0] 1 [0] (.rng1<|.ix (.v 0)<|.c<|.int 1) []<|.bin .mod (.bin .add (.ix (.v 1)<|.v 0)<|.bin .mul (.v 2)<|.ix (.v 3)<|.v 0)<|.ix (.v 4)<|.c<|.int 0)]]]
noncomputable def JR:Fn:=#[2,6,
 [.dnw 2<|.bin .mul (.tup [(.c<|.int 0)])<|.ix (.v 0)<|.c<|.int 1,
  .forr [3] (.of<|.v 1) [.ite (.cmp .nin (.v 3)<|.v 2) [.forF [4] (.blt .listD [(.v 2)]) [.forr [5] (.rng2 (.c<|.int 1)<|.ix (.v 0)<|.c<|.int 0) [.dput (.v 2) (.call 7 [(.v 0),(.v 4),(.v 5),(.v 3)])<|.c<|.bl am]]] []],
  .ret (.blt .sortedD [(.v 2)])]]
noncomputable def Xe:Fn:=#[2,3,
 [.asg [2]<|.comp1 [0,1] 1 [0] (.rng1<|.call 2 [(.v 0),(.bin .add (.ix (.v 1)<|.c<|.int 1)<|.c<|.int 1)]) []<|.call 6 [(.v 1),(.v 2)],
  .ret (.call 5 [(.v 1),(.call 8 [(.v 1),(.v 2)])])]]
noncomputable def yT:Fn:=#[1,3,
 [.forr [1,2] (.enum<|.v 0) [.ite (.cmp .ne (.v 2)<|.c<|.int 0) [.ret<|.v 1] []],
  .ret (.c .non)]]
noncomputable def WO:Fn:=#[1,1,
 [.ret<|.blt .all [(.comp1 [] 2 [0,1] (.zip (.v 0)<|.sl (.v 0) (aa<|.c<|.int 1) ae) []<|.cmp .lt (.v 0)<|.v 1)]]]
noncomputable def XW:Fn:=#[2,2,
 [.ret<|.blt .all [(.comp1 [1] 1 [0] (.of<|.v 0) []<|.cmp .eq (.ix (.v 0)<|.v 1)<|.c<|.int 0)]]]
noncomputable def Xk:Fn:=#[3,3,
 [.ret<|.and (.cmp .eq (.ix (.ix (.v 0)<|.v 1)<|.v 2)<|.c<|.int 1)<|.call 12 [(.bin .add (.sl (.v 0) ae<|aa<|.v 1)<|.sl (.v 0) (aa<|.bin .add (.v 1)<|.c<|.int 1) ae),(.v 2)]]]
noncomputable def Yt:Fn:=#[3,3,
 [.ret<|.and (.isi (.v 0) [.int])<|.and (.not<|.isi (.v 0) [.bool])<|.chain .le .le (.v 1) (.v 0)<|.v 2]]
noncomputable def JI:Fn:=#[2,4,
 [.asg [2,3]<|.v 0,
  .ite (.or (.not<|.isi (.v 1) [.tuple])<|.cmp .ne (.blt .len [(.v 1)])<|.v 3) [.ret<|.c<|.bl aj] [],
  .ret (.blt .all [(.comp1 [2] 1 [0] (.of<|.v 1) []<|.call 14 [(.v 0),(.c<|.int 0),(.bin .sub (.v 1)<|.c<|.int 1)])])]]
noncomputable def WI:Fn:=#[2,3,
 [.ite (.or (.not<|.isi (.v 1) [.tuple])<|.not<|.blt .all [(.comp1 [0] 1 [0] (.of<|.v 1) []<|.call 15 [(.v 1),(.v 0)])]) [.ret<|.c<|.bl aj] [],
  .asg [2] (.comp1 [] 1 [0] (.of<|.v 1) []<|.call 10 [(.v 0)]),
  .ite (.or (.cmp .inn (.c .non)<|.v 2)<|.not<|.call 11 [(.v 2)]) [.ret<|.c<|.bl aj] [],
  .ret (.blt .all [(.comp1 [1] 2 [0,1] (.enum<|.v 2) []<|.call 13 [(.v 2),(.v 0),(.v 1)])])]]
noncomputable def Y7:Fn:=#[3,6,
 [.asg [3]<|.call 2 [(.v 0),(.bin .add (.blt .len [(.v 2)])<|.c<|.int 1)],
  .asg [4] (.ix (.lst [(.ix (.v 1)<|.c<|.int 0),(.neg<|.c<|.int 1),(.c<|.bl am),(.c<|.bl aj),(.c .non),(.c<|.str<|PySem.Str.ofString "0"),(.tup [(.c<|.int 0)]),(.bin .pow (.c<|.int 10)<|.c<|.int 29),(.c<|.int 0),(.c<|.int 1),(.bin .sub (.ix (.v 1)<|.c<|.int 0)<|.c<|.int 1)])<|.call 2 [(.v 0),(.c<|.int 11)]),
  .asg [5] (.lst [(.bin .add (.bin .add (.sl (.v 2) ae<|aa<|.v 3)<|.tup [(.v 4)])<|.sl (.v 2) (aa<|.bin .add (.v 3)<|.c<|.int 1) ae),(.bin .add (.bin .add (.sl (.v 2) ae<|aa<|.v 3)<|.tup [(.v 4)])<|.sl (.v 2) (aa<|.v 3) ae),(.bin .add (.sl (.v 2) ae<|aa<|.v 3)<|.sl (.v 2) (aa<|.bin .add (.v 3)<|.c<|.int 1) ae),(.blt .list [(.v 2)])]),
  .ret (.ix (.bin .add (.v 5)<|.lst [(.rev<|.v 2),(.c .non),.dnew,(.lst [(.v 4)]),(.tup [(.v 2)])])<|.ix (.lst [(.c<|.int 0),(.c<|.int 0),(.c<|.int 0),(.c<|.int 0),(.c<|.int 1),(.c<|.int 2),(.c<|.int 3),(.c<|.int 4),(.c<|.int 5),(.c<|.int 6),(.c<|.int 7),(.c<|.int 8)])<|.call 2 [(.v 0),(.c<|.int 12)])]]
noncomputable def WV:Fn:=#[3,8,
 [.asg [3]<|.call 2 [(.v 0),(.bin .add (.blt .len [(.v 2)])<|.c<|.int 1)],
  .asg [4] (.ix (.bin .add (.v 2)<|.tup [(.bin .add (.tup [(.c<|.int 1)])<|.bin .mul (.tup [(.c<|.int 0)])<|.bin .sub (.ix (.v 1)<|.c<|.int 1)<|.c<|.int 1)])<|.v 3),
  .asg [5] (.call 17 [(.v 0),(.v 1),(.v 4)]),
  .asg [6] (.call 7 [(.v 1),(.v 4),(.bin .add (.c<|.int 1)<|.call 2 [(.v 0),(.c<|.int 2)]),(.ix (.bin .add (.v 2)<|.tup [(.v 4)])<|.call 2 [(.v 0),(.bin .add (.blt .len [(.v 2)])<|.c<|.int 1)])]),
  .asg [7] (.lst [(.bin .add (.bin .add (.sl (.v 2) ae<|aa<|.v 3)<|.tup [(.v 5)])<|.sl (.v 2) (aa<|.bin .add (.v 3)<|.c<|.int 1) ae),(.bin .add (.bin .add (.sl (.v 2) ae<|aa<|.v 3)<|.tup [(.v 6)])<|.sl (.v 2) (aa<|.bin .add (.v 3)<|.c<|.int 1) ae),(.bin .add (.bin .add (.sl (.v 2) ae<|aa<|.v 3)<|.tup [(.v 4)])<|.sl (.v 2) (aa<|.v 3) ae)]),
  .asg [7] (.bin .add (.v 7)<|.lst [(.bin .add (.bin .add (.sl (.v 2) ae<|aa<|.v 3)<|.tup [(.call 6 [(.v 0),(.v 1)])])<|.sl (.v 2) (aa<|.v 3) ae),(.rev<|.v 2),(.blt .list [(.v 2)]),(.c .non),.dnew,(.tup [(.v 2)])]),
  .asg [7] (.bin .add (.v 7)<|.lst [(.bin .add (.sl (.v 2) ae<|aa<|.v 3)<|.sl (.v 2) (aa<|.bin .add (.v 3)<|.c<|.int 1) ae),(.lst [(.v 5)]),(.bin .add (.sl (.v 2) (aa<|.v 3) ae)<|.sl (.v 2) ae<|aa<|.v 3)]),
  .ret (.ix (.v 7)<|.ix (.lst [(.c<|.int 0),(.c<|.int 0),(.c<|.int 0),(.c<|.int 1),(.c<|.int 1),(.c<|.int 2),(.c<|.int 3),(.c<|.int 3),(.c<|.int 4),(.c<|.int 5),(.c<|.int 6),(.c<|.int 7),(.c<|.int 8),(.c<|.int 9),(.c<|.int 10),(.c<|.int 11)])<|.call 2 [(.v 0),(.c<|.int 16)])]]
noncomputable def Z5:Fn:=#[3,3,
 [.ret<|.and (.isi (.v 0) [.int])<|.and (.not<|.isi (.v 0) [.bool])<|.chain .le .le (.v 1) (.v 0)<|.v 2]]
noncomputable def Ub:Fn:=#[2,2,
 [.ite (.or (.not<|.isi (.v 1) [.tuple])<|.cmp .ne (.blt .len [(.v 1)])<|.ix (.v 0)<|.c<|.int 1) [.ret<|.c<|.bl aj] [],
  .ret (.blt .all [(.comp1 [0] 1 [0] (.of<|.v 1) []<|.call 19 [(.v 0),(.c<|.int 0),(.bin .sub (.ix (.v 1)<|.c<|.int 0)<|.c<|.int 1)])])]]
noncomputable def Vx:Fn:=#[2,3,
 [.ite (.or (.not<|.isi (.v 1) [.tuple])<|.cmp .gt (.blt .len [(.v 1)])<|.ix (.v 0)<|.c<|.int 1) [.ret<|.c<|.bl aj] [],
  .forr [2] (.of<|.v 1) [.ite (.not<|.call 20 [(.v 0),(.v 2)]) [.ret<|.c<|.bl aj] []],
  .ret (.cmp .eq (.call 5 [(.v 0),(.call 8 [(.v 0),(.v 1)])])<|.v 1)]]
noncomputable def Zc2:Fn:=#[1,7,
 [.forr [1] (.rng1<|.blt .max2 [(.c<|.int 1),(.blt .min2 [(.blt .len [(.v 0)]),(.c<|.int 8)])]) [.cel 2 1 [(.v 0),(.v 1)]
  [.asg [3]<|.call 3 [(.v 2),(.ix (.lst [(.c<|.int 27),(.c<|.int 125)])<|.blt .toInt [(.cmp .eq (.v 1)<|.c<|.int 0)])],
  .asg [4] (.call 9 [(.v 2),(.v 3)]),
  .ite (.cmp .isn (.call 16 [(.v 3),(.v 4)])<|.c<|.bl am) [.ret<|.c<|.bl aj] [],
  .forr [5] (.of<|.comp1 [2,3,4] 1 [0] (.rng1<|.c<|.int 6) []<|.call 18 [(.v 1),(.v 2),(.v 3)]) [.asg [6]<|.call 16 [(.v 3),(.v 5)],
  .ite (.or (.not<|.isi (.v 6) [.bool])<|.cmp .ne (.v 6)<|.call 21 [(.v 3),(.v 5)]) [.ret<|.c<|.bl aj] []]]],
  .ret (.and (.cmp .is (.call 16 [(.tup [(.c<|.int 3),(.c<|.int 2)]),(.tup [])])<|.c<|.bl am)<|.and (.cmp .is (.call 16 [(.tup [(.c<|.int 3),(.c<|.int 2)]),(.tup [(.tup [(.c<|.int 1),(.c<|.int 2)])])])<|.c<|.bl am)<|.cmp .is (.call 16 [(.tup [(.c<|.int 3),(.c<|.int 2)]),(.tup [(.tup [(.c<|.int 2),(.c<|.int 1)])])])<|.c<|.bl aj)]]
noncomputable def fns:List Fn:=[Vp,QE,JU,Y1,Xb,Y9,XF,Q3,JR,Xe,yT,WO,XW,Xk,Yt,JI,WI,Y7,WV,Z5,Ub,Vx,Zc2]
noncomputable abbrev tk:Nat:=2
noncomputable abbrev sn:List Nat:=[1]
end K12
namespace La
variable{F:Type}[lc F]
noncomputable abbrev Vec(F:Type):=Nat->F
noncomputable abbrev Pt(F:Type):=List<|Nat×Vec F
noncomputable def pr:Pt F->Vec F->Vec F
 |[],_,_=>0
 |a::P,v,j=>v a.1*a.2 j+pr P v j
structure Rf(P:Pt F):Prop where
 inc:P.Pairwise λa b=>a.1<b.1
 low:∀a∈P,∀j,j<a.1->a.2 j=0
 one:∀a∈P,a.2 a.1=1
 zer:∀a∈P,∀b∈P,a.1≠b.1->b.2 a.1=0
def Mem(P:Pt F)(v:Vec F):Prop:=∀j,v j=pr P v j
theorem Zb3(P:Pt F)(u v:Vec F)(c:F)(j:Nat):pr P (λj=>u j+c*v j) j=pr P u j+c*pr P v j:=by
 induction P with|nil=>show(0:F)=0+c*0;grind|cons a P ih=>show(u a.1+c*v a.1)*a.2 j+pr P _ j=(u a.1*a.2 j+pr P u j)+c*(v a.1*a.2 j+pr P v j);grind
theorem Qs(P:Pt F)(u v:Vec F)(c:F)(j:Nat):pr P (λj=>u j-c*v j) j=pr P u j-c*pr P v j:=by
 induction P with|nil=>show(0:F)=0-c*0;grind|cons a P ih=>show(u a.1-c*v a.1)*a.2 j+pr P _ j=(u a.1*a.2 j+pr P u j)-c*(v a.1*a.2 j+pr P v j);grind
def QX{P:Pt F}{u v:Vec F}(h:∀b∈P,u b.1=v b.1)(j:Nat):pr P u j=pr P v j:=by
 induction P with
 |nil=>rfl
 |cons a P ih=>
  show u a.1*a.2 j+pr P u j=v a.1*a.2 j+pr P v j;rw[h a<|al ..,ih λb hb=>h b<|ai _ hb]
theorem Y0{P:Pt F}{v:Vec F}{j:Nat}(h:∀b∈P,v b.1*b.2 j=0):pr P v j=0:=by
 induction P with
 |nil=>rfl
 |cons a P ih=>
  show v a.1*a.2 j+pr P v j=0;rw[h a<|al ..,ih λb hb=>h b<|ai _ hb];grind
theorem yh{P:Pt F}{v:Vec F}{j:Nat}{a:Nat×Vec F}(inc:P.Pairwise λa b=>a.1<b.1)(ha:a∈P)(h:∀b∈P,b.1≠a.1->v b.1*b.2 j=0):pr P v j=v a.1*a.2 j:=by
 induction P with
 |nil=>cases ha
 |cons b P ih=>
  rw[bg]at inc;show v b.1*b.2 j+pr P v j=_;rcases az.mp ha with e|hm
  .subst e
   rw[Y0 λc hc=>h c (ai _ hc) (by have:=inc.1 c hc;lia)];grind
  .rw[ih inc.2 hm λc hc=>h c<|ai _ hc,h b (al ..) (by have:=inc.1 a hm;lia)];grind
def Rf.tail{a:Nat×Vec F}{P:Pt F}(h:Rf (a::P)):Rf P:=
 #[(bg.mp h.inc).2,λb hb=>h.low b<|ai _ hb,λb hb=>h.one b<|ai _ hb,λb hb c hc=>h.zer b (ai _ hb) c<|ai _ hc]
def Rf.nil:Rf ([]:Pt F):=#[iF,λ_ h=>(by cases h),λ_ h=>(by cases h),λ_ h=>(by cases h)]
theorem yo{P:Pt F}(h:Rf P){a:Nat×Vec F}(ha:a∈P)(v:Vec F):pr P v a.1=v a.1:=by
 rw[yh h.inc ha λb hb ne=>by rw[h.zer a ha b hb<|Ne.symm ne];grind,h.one a ha];grind
theorem Xo{P:Pt F}(h:Rf P){a:Nat×Vec F}(ha:a∈P):Mem P a.2:=λj=>by
 rw[yh h.inc ha λb hb ne=>by rw[h.zer b hb a ha ne];grind,h.one a ha];grind
def X1(c:F)(hu:Mem P u)(hv:Mem P v):Mem P λj=>u j+c*v j:=λj=>by
 rw[Zb3,<-hu j,<-hv j]
def U0(c:F)(hu:Mem P u)(hv:Mem P v):Mem P λj=>u j-c*v j:=λj=>by
 rw[Qs,<-hu j,<-hv j]
theorem X7{P:Pt F}:Mem P λ_=>0:=λj=>(Y0 λb _=>by grind).symm
def wQ{P:Pt F}(h:Rf P)(v:Vec F):Mem P (pr P v):=λj=>QX (λb hb=>(yo h hb v).symm) j
theorem vc{P:Pt F}{v:Vec F}(h:Mem P v)(z:∀b∈P,v b.1=0)(j:Nat):v j=0:=by
 rw[h j];exact Y0 λb hb=>by rw[z b hb];grind
theorem Jc{P:Pt F}(h:Rf P){v:Vec F}(hv:Mem P v){k:Nat}(hk:v k≠0)(hl:∀j,j<k->v j=0):∃a∈P,a.1=k:=by
 have inc:=h.inc;have low:=h.low;have gen:∀Q:Pt F,Q.Pairwise (λa b=>a.1<b.1)->(∀a∈Q,∀j,j<a.1->a.2 j=0)->(∀j,v j=pr Q v j)->∃a∈Q,v a.1≠0/\∀j,j<a.1->v j=0:=by
  intro Q
  induction Q with
  |nil=>intro _ _ e;exact T7 (e k) hk
  |cons a Q ih=>
   intro inc low e;rw[bg]at inc;by_cases c:v a.1=0
   .obtain⟨b,hb,r⟩:=ih inc.2 (λb hb=>low b<|ai _ hb) λj=>by
     have:v j=v a.1*a.2 j+pr Q v j:=e j;rw[c]at this;grind
    exact#[b,ai _ hb,r]
   .refine#[a,al ..,c,λj hj=>?_]
    have e1:v j=v a.1*a.2 j+pr Q v j:=e j;have e2:pr Q v j=0:=Y0 λb hb=>by rw[low b (ai _ hb) j (by have:=inc.1 b hb;lia)];grind
    rw[e1,e2,low a (al ..) j hj];grind
 obtain⟨a,ha,h1,h2⟩:=gen P inc low hv;refine#[a,ha,?_];by_cases c:a.1<k
 .exact T7 (hl _ c) h1
 .by_cases c2:k<a.1
  .exact T7 (h2 _ c2) hk
  .lia
def Uo{P Q:Pt F}(one0:(1:F)≠0)(hP:Rf P)(hQ:Rf Q)(h:∀v,Mem P v->Mem Q v):∀a∈P,∃b∈Q,b.1=a.1:=λa ha=>
 Jc hQ (h _<|Xo hP ha) (by rw[hP.one a ha];exact one0) (hP.low a ha)
theorem Ql:∀{a b:List Nat},a.Pairwise (· < ·)->b.Pairwise (· < ·)->(∀x,x∈a↔x∈b)->a=b
 |[],[],_,_,_=>rfl
 |[],y::b,_,_,h=>by have:=(h y).mpr<|al ..;cases this
 |x::a,[],_,_,h=>by have:=(h x).mp<|al ..;cases this
 |x::a,y::b,ha,hb,h=>by
  rw[bg]at ha hb;have e:x=y:=by
   rcases az.mp ((h x).mp<|al ..)with e|e
   .exact e
   .rcases az.mp ((h y).mpr<|al ..)with e'|e'
    .exact e'.symm
    .have:=hb.1 x e;have:=ha.1 y e';lia
  subst e;rw[Ql ha.2 hb.2 λz=>?_]
  constructor
  .intro hz
   rcases az.mp ((h z).mp<|ai _ hz)with e|e
   .have:=ha.1 z hz;lia
   .exact e
  .intro hz
   rcases az.mp ((h z).mpr<|ai _ hz)with e|e
   .have:=hb.1 z hz;lia
   .exact e
def Rf.heads{P:Pt F}(h:Rf P):(P.map (·.1)).Pairwise (· < ·):=cF.mpr h.inc
theorem uniq{P Q:Pt F}(one0:(1:F)≠0)(hP:Rf P)(hQ:Rf Q)(h:∀v,Mem P v↔Mem Q v):P=Q:=by
 have eh:=Ql hP.heads hQ.heads λx=>by
  constructor
  .intro hx
   obtain⟨a,ha,rfl⟩:=aS.mp hx;obtain⟨b,hb,e⟩:=Uo one0 hP hQ (λv=>(h v).mp) a ha
   exact aS.mpr #[b,hb,e]
  .intro hx
   obtain⟨a,ha,rfl⟩:=aS.mp hx;obtain⟨b,hb,e⟩:=Uo one0 hQ hP (λv=>(h v).mpr) a ha
   exact aS.mpr #[b,hb,e]
 have ev:∀a∈P,∀b∈Q,a.1=b.1->a.2=b.2:=by
  intro a ha b hb e;have hd:=U0 1 (Xo hP ha)<|(h _).mpr<|Xo hQ hb
  funext j
  have:=vc hd (λc hc=>by
   have:c.1∈Q.map (·.1):=by rw[<-eh];exact aS.mpr #[c,hc,rfl]
   obtain⟨c',hc',ec⟩:=aS.mp this;by_cases z:c.1=a.1
   .rw[z,hP.one a ha,e,hQ.one b hb];grind
   .rw[hP.zer c hc a ha z,<-ec,hQ.zer c' hc' b hb (by lia)];grind) j
  grind
 clear h hP hQ
 induction P generalizing Q with
 |nil=>cases Q with|nil=>rfl|cons b Q=>cases eh
 |cons a P ih=>cases Q with
  |nil=>cases eh
  |cons b Q=>
   rw[bf,bf]at eh;injection eh with e1 e2
   have e3:=ev a (al ..) b (al ..) e1;rw[ih e2 λx hx y hy=>ev x (ai _ hx) y<|ai _ hy]
   rw[Prod.ext e1 e3]
noncomputable def ins(x:Nat×Vec F):Pt F->Pt F
 |[]=>[x]
 |y::P=>if x.1<y.1 then x::y::P else y::ins x P
theorem Yh(x:Nat×Vec F):∀P:Pt F,(ins x P).Perm (x::P)
 |[]=>cn _
 |y::P=>by
  unfold ins;split
  .exact cn _
  .exact((Yh x P).cons y).trans<|io x y P
theorem ze(x:Nat×Vec F):∀{P:Pt F},P.Pairwise (λa b=>a.1<b.1)->(∀a∈P,a.1≠x.1)->(ins x P).Pairwise λa b=>a.1<b.1
 |[],_,_=>by exact i8 ..
 |y::P,h,hn=>by
  have h':=bg.mp h;unfold ins;split
  .rename_i c
   refine bg.mpr #[λz hz=>?_,h]
   rcases az.mp hz with rfl|hz
   .exact c
   .have:=h'.1 z hz;lia
  .rename_i c
   refine bg.mpr #[λz hz=>?_,ze x h'.2 λa ha=>hn a<|ai _ ha]
   rcases az.mp ((Yh x P).mem_iff.mp hz)with rfl|hz
   .have:=hn y<|al ..;lia
   .exact h'.1 z hz
theorem wY(x:Nat×Vec F)(v:Vec F)(j:Nat):∀P:Pt F,pr (ins x P) v j=v x.1*x.2 j+pr P v j
 |[]=>rfl
 |y::P=>by
  unfold ins;split
  .rfl
  .show v y.1*y.2 j+pr (ins x P) v j=v x.1*x.2 j+(v y.1*y.2 j+pr P v j)
   rw[wY x v j P];grind
noncomputable def off(h:Nat)(l:Vec F)(a:Nat×Vec F):Nat×Vec F:=(a.1,λj=>a.2 j-a.2 h*l j)
noncomputable def wid(P:Pt F)(h:Nat)(l:Vec F):Pt F:=ins (h,l)<|P.map<|off h l
theorem vE(h:Nat)(l v:Vec F)(j:Nat):∀P:Pt F,pr (P.map<|off h l) v j=pr P v j-pr P v h*l j
 |[]=>by show(0:F)=0-0*l j;grind
 |a::P=>by
  show v a.1*(a.2 j-a.2 h*l j)+pr (P.map<|off h l) v j=(v a.1*a.2 j+pr P v j)-(v a.1*a.2 h+pr P v h)*l j;rw[vE h l v j P];grind
structure Lead(P:Pt F)(h:Nat)(l:Vec F):Prop where
 one:l h=1
 low:∀j,j<h->l j=0
 zer:∀a∈P,l a.1=0
def Lead.ne{P:Pt F}{h:Nat}{l:Vec F}(one0:(1:F)≠0)(L:Lead P h l){a:Nat×Vec F}(ha:a∈P):a.1≠h:=λe=>by
 have:=L.zer a ha;rw[e,L.one]at this;exact one0 this
theorem Zcf{P:Pt F}{h:Nat}{l:Vec F}(one0:(1:F)≠0)(hP:Rf P)(L:Lead P h l):Rf (wid P h l):=by
 have mem:∀{x},x∈wid P h l->x=(h,l)\/∃a∈P,x=off h l a:=λ{x} hx=>by
  rcases az.mp ((Yh _ _).mem_iff.mp hx)with e|e
  .exact .inl e
  .obtain⟨a,ha,e⟩:=aS.mp e
   exact .inr #[a,ha,e.symm]
 refine#[ze _ ?_ ?_,λx hx j hj=>?_,λx hx=>?_,λx hx y hy ne=>?_]
 .exact cF.mpr hP.inc
 .intro a ha
  obtain⟨b,hb,rfl⟩:=aS.mp ha;exact L.ne (a:=b) one0 hb
 .rcases mem hx with rfl|⟨a,ha,rfl⟩
  .exact L.low j hj
  .show a.2 j-a.2 h*l j=0
   rw[hP.low a ha j hj];by_cases c:h<a.1
   .rw[hP.low a ha h c];grind
   .have:j<a.1:=hj
    rw[L.low j (by have:=L.ne one0 ha;lia)];grind
 .rcases mem hx with rfl|⟨a,ha,rfl⟩
  .exact L.one
  .show a.2 a.1-a.2 h*l a.1=1
   rw[hP.one a ha,L.zer a ha];grind
 .rcases mem hx with rfl|⟨a,ha,rfl⟩
  .rcases mem hy with rfl|⟨b,hb,rfl⟩
   .exact T7 rfl ne
   .show b.2 h-b.2 h*l h=0
    rw[L.one];grind
  .rcases mem hy with rfl|⟨b,hb,rfl⟩
   .exact L.zer a ha
   .show b.2 a.1-b.2 h*l a.1=0
    rw[hP.zer a ha b hb ne,L.zer a ha];grind
def qe(P:Pt F)(h:Nat)(l:Vec F):(wid P h l).length=P.length+1:=by
 have:=(Yh (h,l)<|P.map<|off h l).length_eq;rw[aO,ay]at this;exact this
theorem uX{P:Pt F}{h:Nat}{l:Vec F}(hP:Rf P)(L:Lead P h l)(u:Vec F):Mem (wid P h l) u↔∃c,Mem P λj=>u j-c*l j:=by
 have e:∀j,pr (wid P h l) u j=u h*l j+(pr P u j-pr P u h*l j):=λj=>by
  unfold wid;rw[wY,vE]
 have pl:∀j,pr P l j=0:=λj=>Y0 λb hb=>by rw[L.zer b hb];grind
 constructor
 .intro hu
  refine#[u h-pr P u h,λj=>?_]
  rw[Qs,pl];have:=hu j;rw[e j]at this;show u j-(u h-pr P u h)*l j=_
  grind
 .rintro ⟨c,hc⟩ j
  rw[e j];have h1:=hc j;have h2:u h-c*l h=_:=hc h;rw[Qs,pl]at h1 h2;rw[L.one]at h2
  grind
noncomputable def rest(P:Pt F)(v:Vec F):Vec F:=λj=>v j-pr P v j
theorem v9(hP:Rf P)(v:Vec F)(ha:a∈P):rest P v a.1=0:=by
 unfold rest;rw[yo hP ha];grind
theorem V0{P:Pt F}{v:Vec F}:(∀j,rest P v j=0)↔Mem P v:=by
 constructor
 .intro h j;have:=h j;unfold rest at this;grind
 .intro h j;have:=h j;unfold rest;grind
theorem zP{P:Pt F}(hP:Rf P){v:Vec F}{h:Nat}{i:F}(hi:i*rest P v h=1)(hl:∀j,j<h->rest P v j=0):Lead P h λj=>i*rest P v j:=
 #[hi,λj hj=>by rw[hl j hj];grind,λa ha=>by rw[v9 hP v ha];grind]
theorem xR{P:Pt F}(hP:Rf P){v:Vec F}{h:Nat}{i:F}(hi:i*rest P v h=1)(hl:∀j,j<h->rest P v j=0)(u:Vec F) :
  Mem (wid P h λj=>i*rest P v j) u↔∃c,Mem P λj=>u j-c*v j:=by
 rw[uX hP<|zP hP hi hl]
 constructor
 .rintro ⟨c,hc⟩
  refine#[c*i,?_];have:=U0 (c*i) hc<|wQ hP v;have e:(λj=>(u j-c*(i*rest P v j))-c*i*pr P v j)=λj=>u j-c*i*v j:=by funext j;unfold rest;grind
  rw[e]at this;exact this
 .rintro ⟨c,hc⟩
  refine#[c*rest P v h,?_];have:=X1 c hc<|wQ hP v;have e:(λj=>(u j-c*v j)+c*pr P v j)=λj=>u j-c*rest P v h*(i*rest P v j):=by funext j;unfold rest at hi ⊢;grind
  rw[e]at this;exact this
theorem xK(hv:Mem P v)(u:Vec F):Mem P u↔∃c,Mem P λj=>u j-c*v j:=by
 constructor
 .intro h;exact#[0,by have:=U0 0 h hv;exact this]
 .rintro ⟨c,hc⟩
  have:=X1 c hc hv;have e:(λj=>(u j-c*v j)+c*v j)=u:=by funext j;grind
  rw[e]at this;exact this
def U9(P:Pt F):List (Vec F)->Vec F->Prop
 |[],u=>Mem P u
 |v::vs,u=>∃c,U9 P vs λj=>u j-c*v j
theorem WK{P P':Pt F}{v:Vec F}(h:∀u,Mem P' u↔∃c,Mem P λj=>u j-c*v j):∀(vs:List (Vec F))(u:Vec F),U9 P' vs u↔U9 P (v::vs) u
 |[],u=>h u
 |w::vs,u=>by
  constructor
  .rintro ⟨d,hd⟩
   obtain⟨c,hc⟩:=(WK h vs _).mp hd;refine#[c,d,?_];have e:(λj=>u j-c*v j-d*w j)=λj=>u j-d*w j-c*v j:=by funext j;grind
   show U9 P vs λj=>u j-c*v j-d*w j
   rw[e];exact hc
  .rintro ⟨c,d,hc⟩
   refine#[d,(WK h vs _).mpr #[c,?_]];have e:(λj=>u j-d*w j-c*v j)=λj=>u j-c*v j-d*w j:=by funext j;grind
   show U9 P vs λj=>u j-d*w j-c*v j
   rw[e];exact hc
theorem yN{P Q:Pt F}(hQ:Rf Q)(u:Vec F):U9 P (Q.map (·.2)) u↔∃q,Mem Q q/\Mem P λj=>u j-q j:=by
 constructor
 .have gen:∀(ws:List (Vec F))(u:Vec F),(∀w∈ws,Mem Q w)->U9 P ws u->∃q,Mem Q q/\Mem P λj=>u j-q j:=by
   intro ws
   induction ws with
   |nil=>intro u _ h;exact#[λ_=>0,X7,by
    have e:(λj=>u j-0)=u:=by funext j;grind
    rw[e];exact h]
   |cons w ws ih=>
    rintro u hw ⟨c,h⟩
    obtain⟨q,hq,hp⟩:=ih _ (λx hx=>hw x<|ai _ hx) h
    refine#[λj=>q j+c*w j,X1 c hq<|hw w<|al ..,?_]
    have e:(λj=>u j-(q j+c*w j))=λj=>u j-c*w j-q j:=by funext j;grind
    rw[e];exact hp
  exact gen _ u λw hw=>by obtain⟨a,ha,rfl⟩:=aS.mp hw;exact Xo hQ ha
 .rintro ⟨q,hq,hp⟩
  have gen:∀(R:Pt F)(u:Vec F),(Mem P λj=>u j-pr R q j)->U9 P (R.map (·.2)) u:=by
   intro R
   induction R with
   |nil=>
    intro u h;have e:(λj=>u j-pr [] q j)=u:=by funext j;show u j-0=u j;grind
    rw[e]at h;exact h
   |cons a R ih=>
    intro u h;refine#[q a.1,ih _ ?_];have e:(λj=>u j-q a.1*a.2 j-pr R q j)=λj=>u j-pr (a::R) q j:=by funext j;show _=u j-(q a.1*a.2 j+pr R q j);grind
    show Mem P λj=>u j-q a.1*a.2 j-pr R q j
    rw[e];exact h
  refine gen Q u ?_;have e:(λj=>u j-pr Q q j)=λj=>u j-q j:=by funext j;rw[<-hq j]
  rw[e];exact hp
variable{F:Type}[lc F][DecidableEq F]
def Supp(n:Nat)(v:Vec F):Prop:=∀j,n<=j->v j=0
structure Pn(n:Nat)(P:Pt F):Prop where
 rf:Rf P
 lt:∀a∈P,a.1<n
 sp:∀a∈P,Supp n a.2
theorem Pn.nil{n:Nat}:Pn n ([]:Pt F):=#[Rf.nil,λ_ h=>(by cases h),λ_ h=>(by cases h)]
theorem jf(h:Pn n P)(v:Vec F):Supp n (pr P v):=λj hj=>Y0 λb hb=>by rw[h.sp b hb j hj];grind
noncomputable def hdV(n:Nat)(v:Vec F):Option Nat:=(aK n).find? λj=>ag<|v j≠0
theorem wv{n:Nat}{v:Vec F}(hs:Supp n v)(h:hdV n v=ae)(j:Nat):v j=0:=by
 by_cases c:j<n
 .have:=List.find?_eq_none.mp h j (aQ.mpr c)
  simpa using this
 .exact hs j (by lia)
def JC{n:Nat}{v:Vec F}{k:Nat}(h:hdV n v=aa k):k<n/\v k≠0/\∀j,j<k->v j=0:=by
 unfold hdV at h;rw[iT]at h;obtain⟨h1,h2,h3⟩:=h;refine#[aQ.mp h2,by simpa using h1,λj hj=>?_]
 have:=h3 j hj
 simpa using this
def GE{n:Nat}{v:Vec F}{k:Nat}(hk:k<n)(h1:v k≠0)(h2:∀j,j<k->v j=0):hdV n v=aa k:=by
 unfold hdV;rw[iT];exact#[by simpa using h1,aQ.mpr hk,λj hj=>by simpa using h2 j hj]
structure Fld(inv:F->F):Prop where
 inv:∀a,a≠0->inv a*a=1
 one0:(1:F)≠0
section
variable{inv:F->F}{n:Nat}
noncomputable def more(inv:F->F)(n:Nat)(P:Pt F)(v:Vec F):Pt F:=match hdV n (rest P v)with
 |none=>P
 |some h=>wid P h λj=>inv (rest P v h)*rest P v j
structure Grow(n:Nat)(P:Pt F)(v:Vec F)(P':Pt F):Prop where
 pn:Pn n P'
 mem:∀u,Mem P' u↔∃c,Mem P λj=>u j-c*v j
 same:Mem P v->P'=P
 len:¬Mem P v->P'.length=P.length+1
theorem Wd(f:Fld inv){P:Pt F}{v:Vec F}(hP:Pn n P)(hv:Supp n v):Grow n P v (more inv n P v):=by
 have hs:Supp n (rest P v):=λj hj=>by unfold rest;rw[hv j hj,jf hP v j hj];grind
 cases q:hdV n (rest P v)with
 |none=>
  have e:more inv n P v=P:=by unfold more;rw[q]
  have hm:=V0.mp<|wv hs q;rw[e];exact#[hP,xK hm,λ_=>rfl,λh=>T7 hm h]
 |some h=>
  have e:more inv n P v=wid P h λj=>inv (rest P v h)*rest P v j:=by unfold more;rw[q]
  obtain⟨h1,h2,h3⟩:=JC q;have hi:=f.inv _ h2;have L:=zP hP.rf hi h3;rw[e];refine#[#[Zcf f.one0 hP.rf L,λa ha=>?_,λa ha=>?_],xR hP.rf hi h3,λhm=>T7 (V0.mpr hm h) h2,λ_=>qe ..]
  .rcases az.mp ((Yh _ _).mem_iff.mp ha)with e|e
   .rw[e];exact h1
   .obtain⟨b,hb,rfl⟩:=aS.mp e
    exact hP.lt b hb
  .rcases az.mp ((Yh _ _).mem_iff.mp ha)with e|e
   .rw[e];intro j hj
    show inv (rest P v h)*rest P v j=0;rw[hs j hj];grind
   .obtain⟨b,hb,rfl⟩:=aS.mp e
    intro j hj;show b.2 j-b.2 h*(inv (rest P v h)*rest P v j)=0;rw[hP.sp b hb j hj,hs j hj];grind
noncomputable def VJ(inv:F->F)(n:Nat)(P:Pt F)(vs:List (Vec F)):Pt F:=vs.foldl (more inv n) P
theorem Jm(f:Fld inv):∀(vs:List (Vec F)){P:Pt F},Pn n P->(∀v∈vs,Supp n v)->Pn n (VJ inv n P vs)/\∀u,Mem (VJ inv n P vs) u↔U9 P vs u
 |[],P,hP,_=>#[hP,λu=>Iff.rfl]
 |v::vs,P,hP,hv=>by
  have g:=Wd f hP<|hv v<|al ..;obtain⟨a,b⟩:=Jm f vs g.pn λw hw=>hv w<|ai _ hw
  exact#[a,λu=>(b u).trans<|WK g.mem vs u]
noncomputable def join(inv:F->F)(n:Nat)(P Q:Pt F):Pt F:=VJ inv n P (Q.map (·.2))
def JL(f:Fld inv){P Q:Pt F}(hP:Pn n P)(hQ:Pn n Q)(u:Vec F):Mem (join inv n P Q) u↔∃q,Mem Q q/\Mem P λj=>u j-q j:=
 ((Jm f _ hP λv hv=>by obtain⟨a,ha,rfl⟩:=aS.mp hv;exact hQ.sp a ha).2 u).trans (yN hQ.rf u)
def ZcW(f:Fld inv){P Q:Pt F}(hP:Pn n P)(hQ:Pn n Q)(h:∀v,Mem P v↔Mem Q v):P=Q:=uniq f.one0 hP.rf hQ.rf h
theorem sub_self(u:Vec F):(λj=>u j-u j)=λ_=>0:=by funext j;grind
def GT(f:Fld inv){P Q:Pt F}(hP:Pn n P)(hQ:Pn n Q){u:Vec F}(h:Mem Q u):Mem (join inv n P Q) u:=
 (JL f hP hQ u).mpr #[u,h,by rw[sub_self];exact X7]
theorem GB(f:Fld inv){P Q R:Pt F}(hP:Pn n P)(hQ:Pn n Q)(h1:∀u,Mem P u->Mem R u)(h2:∀u,Mem Q u->Mem R u){u:Vec F}(h:Mem (join inv n P Q) u):Mem R u:=by
 obtain⟨q,a,b⟩:=(JL f hP hQ u).mp h;have:=X1 1 (h1 _ b)<|h2 _ a;have e:(λj=>u j-q j+1*q j)=u:=by funext j;grind
 rw[e]at this;exact this
noncomputable def Yr(P:Pt F)(j:Nat):Bool:=(P.map (·.1)).contains j
noncomputable def free(n:Nat)(P:Pt F):List Nat:=(aK n).filter λj=>!Yr P j
noncomputable def av:Pt F->Nat->Vec F
 |[],f,j=>if j=f then 1 else 0
 |a::P,f,j=>if j=a.1 then-a.2 f else av P f j
def YY :Yr P j=am↔∃a∈P,a.1=j:=by
 unfold Yr;rw[cC,aS]
def GW{P:Pt F}{f j:Nat}(h:Yr P j=aj):av P f j=if j=f then 1 else 0:=by
 induction P with
 |nil=>rfl
 |cons a P ih=>
  have h1:¬∃b∈a::P,b.1=j:=λz=>by rw[YY.mpr z]at h;cases h
  show(if j=a.1 then-a.2 f else av P f j)=_
  rw[T8 λz=>h1 #[a,al ..,z.symm]]
  exact ih (by
   cases q:Yr P j with
   |false=>rfl
   |true=>obtain⟨b,hb,e⟩:=YY.mp q;exact T7 #[b,ai _ hb,e] h1)
def Vs :j∈free n P↔j<n/\Yr P j=aj:=by
 unfold free;rw[bS,aQ];simp
theorem jB{P:Pt F}(hP:Pn n P){f:Nat}(hf:f<n):Supp n (av P f):=λj hj=>by
 rw[GW (by
  cases q:Yr P j with
  |false=>rfl
  |true=>obtain⟨b,hb,e⟩:=YY.mp q;have:=hP.lt b hb;lia),T8 (by lia)]
noncomputable def perp(inv:F->F)(n:Nat)(P:Pt F):Pt F:=VJ inv n []<|(free n P).map<|av P
theorem yC(f:Fld inv){P:Pt F}(hP:Pn n P):(perp inv n P).length+P.length=n:=by
 have gen:∀(L:List Nat)(A:Pt F)(D:List Nat),Pn n A->(∀k∈L,k∈free n P)->L.Nodup->(∀k∈L,k∉D)->(∀u,Mem A u->∀k∈free n P,k∉D->u k=0)->(VJ inv n A<|L.map<|av P).length=A.length+L.length:=by
  intro L
  induction L with
  |nil=>intro A D _ _ _ _ _;rfl
  |cons k L ih=>
   intro A D hA hL hn hD hz;rw[dA]at hn;have hk:=hL k<|al ..;have g:=Wd f hA<|jB hP (Vs.mp hk).1;have nm:¬Mem A (av P k):=λh=>by
    have:=hz _ h k hk<|hD k<|al ..;rw[GW (Vs.mp hk).2,T9 rfl]at this;exact f.one0 this
   have:=ih (more inv n A<|av P k) (k::D) g.pn (λj hj=>hL j<|ai _ hj) hn.2 (λj hj=>by
    rw[az]
    rintro (z|z)
    .exact hn.1<|z▸hj
    .exact hD j (ai _ hj) z) λu hu j hj hjD=>by
     obtain⟨c,hc⟩:=(g.mem u).mp hu;rw[az]at hjD;have h1:=hz _ hc j hj λz=>hjD<|.inr z
     rw[GW (Vs.mp hj).2,T8 λz=>hjD<|.inl z]at h1
     grind
   show(VJ inv n (more inv n A<|av P k)<|L.map<|av P).length=_;rw[this,g.len nm,aO];lia
 have h1:=gen (free n P) [] [] Pn.nil (λ_ h=>h) (kY _ mK) (λ_ _ h=>by cases h) λu hu k _ _=>hu k
 have h2:=Ql (kY _ List.pairwise_lt_range) hP.rf.heads λx=>by
  rw[bS,aQ,YY,aS]
  constructor
  .rintro ⟨_,a,ha,e⟩;exact#[a,ha,e]
  .rintro ⟨a,ha,e⟩;exact#[by rw[<-e];exact hP.lt a ha,a,ha,e]
 have h3:((aK n).filter<|Yr P).length+(free n P).length=n:=by
  have gen:∀L:List Nat,(L.filter<|Yr P).length+(L.filter λj=>!Yr P j).length=L.length:=by
   intro L
   induction L with
   |nil=>rfl
   |cons k L ih=>
    rw[fk,fk];cases Yr P k<;>simp<;>lia
  have:=gen<|aK n;rw[bG]at this;exact this
 rw[h2,ay]at h3;have h4:(perp inv n P).length=(free n P).length:=by
  have e:(perp inv n P).length=0+(free n P).length:=h1;lia
 lia
end
end La
namespace Rw
open La
open Ev (ltI Yx ZE)
section
variable{p:Nat}[NeZero p]
noncomputable def ph(p:Nat)[NeZero p](a:Int):Fin p:=Fin.ofNat p (a%p).toNat
theorem ppos:(0:Int)<p:=by have:=NeZero.ne p;lia
theorem Yj(a:Int):((ph p a).val:Int)=a%p:=by
 have h:=ppos (p:=p);have h0:=eG a (by lia:(p:Int)≠0)
 have h1:=dQ a h;show((((a%p).toNat)%p:Nat):Int)=a%p;rw[Nat.mod_eq_of_lt (by lia)]
 lia
theorem Wm{x y:Fin p}(h:(x.val:Int)=y.val):x=y:=Fin.ext (by lia)
def wj(a b:Int):ph p (a+b)=ph p a+ph p b:=Wm (by
 rw[Yj,Fin.val_add];show(a+b)%p=(((ph p a).val+(ph p b).val:Nat):Int)%p;rw[Int.natCast_add,Yj,Yj,<-Int.add_emod])
def uv(a b:Int):ph p (a*b)=ph p a*ph p b:=Wm (by
 rw[Yj,Fin.val_mul];show(a*b)%p=(((ph p a).val*(ph p b).val:Nat):Int)%p;rw[Int.natCast_mul,Yj,Yj,<-Int.mul_emod])
def wa(a:Int):ph p (a%p)=ph p a:=Wm (by rw[Yj,Yj,Int.emod_emod])
def X3:ph p 0=0:=Wm (by rw[Yj];simp)
theorem Wz(a:Int):ph p (-a) = - ph p a:=by
 have h:ph p (-a+a)=ph p (-a)+ph p a:=wj _ _;rw[show -a+a=0 by lia,X3]at h
 grind
def Gi{a b:Int}(ha:0<=a/\a<p)(hb:0<=b/\b<p)(h:ph p a=ph p b):a=b:=by
 have:=congrArg (λx:Fin p=>(x.val:Int)) h
 simp only[Yj]at this;rw[eS ha.1 ha.2,eS hb.1 hb.2]at this;exact this
theorem ZcU{a:Int}(ha:0<=a/\a<p):ph p a=0↔a=0:=by
 constructor
 .intro h;exact Gi ha #[by lia,ppos] (by rw[h,X3])
 .rintro rfl;exact X3
end
abbrev Row:=List Int
def Zd(p n:Nat)(r:Row):Prop:=r.length=n/\∀a∈r,0<=a/\a<(p:Int)
noncomputable def gt(r:Row)(j:Nat):Int:=r.getD j 0
def WM{p n:Nat}(h0:(0:Int)<p){r:Row}(h:Zd p n r)(j:Nat):0<=gt r j/\gt r j<p:=by
 unfold gt;rw[aJ];cases q:r[j]? with|none=>exact#[e9 _,h0]|some a=>exact h.2 a<|dy q
def vd(h:r.length<=j):gt r j=0:=by unfold gt;rw[aJ,br h];rfl
def uJ(hl:r.length=s.length)(h:∀j,gt r j=gt s j):r=s:=by
 apply gn hl;intro j h1 h2;have:=h j;unfold gt at this;rw[aJ,aJ,af h1,af h2]at this;exact this
noncomputable def hdI:Row->Option Nat
 |[]=>ae
 |a::r=>if a≠0 then aa 0 else(hdI r).map (· + 1)
theorem ZT:∀{r:Row}{k:Nat},hdI r=aa k->gt r k≠0/\k<r.length/\∀j,j<k->gt r j=0
 |[],k,h=>by cases h
 |a::r,k,h=>by
  unfold hdI at h;by_cases c:a≠0
  .rw[T9 c]at h;cases h;exact#[c,by simp,λj hj=>by lia]
  .rw[T8 c]at h
   cases q:hdI r with
   |none=>rw[q]at h;cases h
   |some m=>
    rw[q]at h;have e:m+1=k:=ak h;subst e;obtain⟨h1,h2,h3⟩:=ZT q;refine#[h1,by simp;lia,λj hj=>?_]
    cases j with|zero=>exact mq.mp c|succ j=>exact h3 j (by lia)
theorem Yq:∀{r:Row},hdI r=ae->∀j,gt r j=0
 |[],_,j=>vd<|cJ _
 |a::r,h,j=>by
  unfold hdI at h;by_cases c:a≠0
  .rw[T9 c]at h;cases h
  .rw[T8 c]at h
   have h':=Option.map_eq_none_iff.mp h;cases j with|zero=>exact mq.mp c|succ j=>exact Yq h' j
section
variable{p n:Nat}[NeZero p]
noncomputable def toV(p:Nat)[NeZero p](r:Row):Vec (Fin p):=λj=>ph p<|gt r j
def YA{r s:Row}(hr:Zd p n r)(hs:Zd p n s)(h:toV p r=toV p s):r=s:=
 uJ (by rw[hr.1,hs.1]) λj=>Gi (WM ppos hr j) (WM ppos hs j)<|congrFun h j
def XY(hr:Zd p n r):Supp n (toV p r):=λj hj=>by unfold toV;rw[vd (by rw[hr.1];exact hj),X3]
def ZX{r:Row}(hr:Zd p n r){j:Nat}:toV p r j=0↔gt r j=0:=ZcU<|WM ppos hr j
def GX(hr:Zd p n r):hdV n (toV p r)=hdI r:=by
 cases q:hdI r with
 |none=>
  cases q2:hdV n (toV p r)with|none=>rfl|some k=>exact T7 ((ZX hr).mpr<|Yq q k) (JC q2).2.1
 |some k=>
  obtain⟨a,b,c⟩:=ZT q;exact GE (by rw[<-hr.1];exact b) (λz=>a<|(ZX hr).mp z) λj hj=>(ZX hr).mpr<|c j hj
noncomputable def ZF(p:Nat)(r o:Row)(k:Int):Row:=List.zipWith (λa b=>(a+k*b)%p) r o
noncomputable def Wx(p:Nat)(r:Row)(k:Int):Row:=r.map λa=>k*a%p
theorem Za0(hl:r.length=o.length)(h0:f 0 0=0)(j:Nat):gt (List.zipWith f r o) j=f (gt r j) (gt o j):=by
 unfold gt;simp only[aJ];rw[List.getElem?_zipWith];by_cases c:j<r.length
 .rw[af c,af (by lia)];rfl
 .rw[br (by lia),br (by lia)];exact h0.symm
theorem Zl(hr:Zd p n r)(ho:Zd p n o):Zd p n (ZF p r o k):=by
 refine#[by unfold ZF;rw[List.length_zipWith,hr.1,ho.1];simp,λa ha=>?_]
 unfold ZF at ha;rw[<-List.map_uncurry_zip_eq_zipWith]at ha;obtain⟨⟨x,y⟩,_,rfl⟩:=aS.mp ha;exact#[eG _ (by have:=ppos (p:=p);lia),dQ _ ppos]
def Vb(hr:Zd p n r)(ho:Zd p n o)(j:Nat):gt (ZF p r o k) j=(gt r j+k*gt o j)%p:=by
 unfold ZF;rw[Za0 (by rw[hr.1,ho.1]) (by simp)]
def ZN(hr:Zd p n r)(ho:Zd p n o):toV p (ZF p r o k)=λj=>toV p r j+ph p k*toV p o j:=by
 funext j
 unfold toV;rw[Vb hr ho,wa,wj,uv]
def vO(j:Nat):gt (Wx p r k) j=k*gt r j%p:=by
 unfold Wx gt;simp only[aJ,aH];cases r[j]?<;>simp
theorem xD{r:Row}{k:Int}(hr:Zd p n r):Zd p n (Wx p r k):=by
 refine#[by unfold Wx;rw[ay,hr.1],λa ha=>?_]
 obtain⟨x,_,rfl⟩:=aS.mp ha;exact#[eG _ (by have:=ppos (p:=p);lia),dQ _ ppos]
def yH :toV p (Wx p r k)=λj=>ph p k*toV p r j:=by
 funext j
 unfold toV;rw[vO,wa,uv]
noncomputable def toP(p:Nat)[NeZero p](P:List Row):Pt (Fin p):=P.map λr=>((hdI r).getD 0,toV p r)
structure pZ(p n:Nat)[NeZero p](P:List Row):Prop where
 row:∀r∈P,Zd p n r
 pn:Pn n (toP p P)
theorem pZ.nil:pZ p n []:=#[λ_ h=>(by cases h),Pn.nil]
def Z2(h:r∈P):((hdI r).getD 0,toV p r)∈toP p P:=aS.mpr #[r,h,rfl]
def pZ.head(one0:(1:Fin p)≠0)(h:pZ p n P)(hr:r∈P):∃k,hdI r=aa k/\k<n/\toV p r k=1:=by
 have h1:=h.pn.rf.one _<|Z2 hr;cases q:hdI r with
 |none=>
  rw[q]at h1;have:toV p r 0=1:=h1;have z:=(ZX<|h.row r hr).mpr<|Yq q 0;rw[z]at this;exact T7 this.symm one0
 |some k=>
  rw[q]at h1;have h2:=h.pn.lt _<|Z2 hr;rw[q]at h2;exact#[k,rfl,h2,h1]
def yc(hP:∀r∈P,Zd p n r)(hQ:∀r∈Q,Zd p n r)(h:toP p P=toP p Q):P=Q:=by
 induction P generalizing Q with
 |nil=>cases Q with|nil=>rfl|cons b Q=>cases h
 |cons a P ih=>cases Q with
  |nil=>cases h
  |cons b Q=>
   have h':=h;injection h' with e1 e2
   have e3:=congrArg Prod.snd e1;rw[YA (hP a<|al ..) (hQ b<|al ..) e3,ih (λr hr=>hP r<|ai _ hr) (λr hr=>hQ r<|ai _ hr) e2]
def jM(P:List Row):(toP p P).map (·.2)=P.map (toV p):=by unfold toP;rw[cG];rfl
def qh(P:List Row):(toP p P).length=P.length:=by unfold toP;rw[ay]
noncomputable def clr(p:Nat)(r o:Row)(h:Nat):Row:=ZF p r o<|-(gt r h)
noncomputable def ZH(p:Nat)(P:List Row)(r:Row):Row:=P.foldl (λs o=>clr p s o<|(hdI o).getD 0) r
theorem Qt(hr:Zd p n r)(ho:Zd p n o):toV p (clr p r o h)=λj=>toV p r j-toV p r h*toV p o j:=by
 unfold clr;rw[ZN hr ho]
 funext j
 rw[Wz];show toV p r j+(- toV p r h)*toV p o j=_
 grind
theorem U8:∀{P:List Row}{r:Row},(∀o∈P,Zd p n o)->Rf (toP p P)->Zd p n r->Zd p n (ZH p P r)/\toV p (ZH p P r)=rest (toP p P) (toV p r)
 |[],r,_,_,hr=>#[hr,by funext j;show toV p r j=toV p r j-0;grind]
 |o::P,r,hP,hf,hr=>by
  have ho:=hP o<|al ..;have hc:Zd p n (clr p r o<|(hdI o).getD 0):=Zl hr ho;obtain⟨a,b⟩:=U8 (λo h=>hP o<|ai _ h) hf.tail hc
  refine#[a,?_];show toV p (ZH p P<|clr p r o<|(hdI o).getD 0)=_;rw[b,Qt hr ho];have z:∀j,pr (toP p P) (toV p o) j=0:=λj=>Y0 λc hc=>by
   have:toV p o c.1=0:=by
    have h1:c∈toP p (o::P):=ai _ hc;have h2:((hdI o).getD 0,toV p o)∈toP p (o::P):=al ..;have h3:=(bg.mp hf.inc).1 c hc;exact hf.zer c h1 _ h2 (by simp only at h3 ⊢;lia)
   rw[this];grind
  funext j
  unfold rest;rw[Qs,z];show toV p r j-toV p r ((hdI o).getD 0)*toV p o j-(pr (toP p P) (toV p r) j-_*0)=toV p r j-(toV p r ((hdI o).getD 0)*toV p o j+pr (toP p P) (toV p r) j)
  grind
def xQ(hP:pZ p n P)(hr:Zd p n r):hdI (ZH p P r)=ae↔Mem (toP p P) (toV p r):=by
 obtain⟨a,b⟩:=U8 hP.row hP.pn.rf hr;rw[<-V0,<-b]
 constructor
 .intro h j;exact(ZX a).mpr<|Yq h j
 .intro h
  cases q:hdI (ZH p P r)with|none=>rfl|some k=>exact T7 ((ZX a).mp<|h k) (ZT q).1
end
noncomputable def Za6(p:Nat)(a:Int):Int:=if a=1 then 1 else if p=3 then 2 else if a=2 then 3 else if a=3 then 2 else 4
noncomputable def Qv(p:Nat)[NeZero p](x:Fin p):Fin p:=ph p<|Za6 p x.val
class Base(p:Nat):Prop where
 b:p=2\/p=3\/p=5
instance(p:Nat)[h:Base p]:NeZero p:=⟨by rcases h.b with e|e|e<;>lia⟩
section
variable{p n:Nat}[Base p]
def fld2:∀a:Fin 2,a≠0->Qv 2 a*a=1:=by decide
def fld3:∀a:Fin 3,a≠0->Qv 3 a*a=1:=by decide
def fld5:∀a:Fin 5,a≠0->Qv 5 a*a=1:=by decide
def one2:(1:Fin 2)≠0:=by decide
def one3:(1:Fin 3)≠0:=by decide
def one5:(1:Fin 5)≠0:=by decide
def fld:Fld (Qv p):=by
 rcases(inferInstance:Base p).b with e|e|e<;>subst e
 .exact#[fld2,one2]
 .exact#[fld3,one3]
 .exact#[fld5,one5]
def uW{a:Int}(h:0<=a/\a<(p:Int)):((ph p a).val:Int)=a:=by rw[Yj,eS h.1 h.2]
noncomputable def lead(p:Nat)(s:Row)(h:Nat):Row:=Wx p s<|Za6 p<|gt s h
noncomputable def QH(p:Nat)(P:List Row)(r:Row):List Row:=match hdI (ZH p P r)with
 |none=>P
 |some h=>(ZE<|P.map (λo=>clr p o (lead p (ZH p P r) h) h)++[lead p (ZH p P r) h]).reverse
noncomputable def J3(h:Nat)(x:Row):List Row->List Row
 |[]=>[x]
 |y::P=>if h<(hdI y).getD 0 then x::y::P else y::J3 h x P
theorem WE(h:Nat)(x:Row):∀P:List Row,(J3 h x P).Perm (x::P)
 |[]=>cn _
 |y::P=>by
  unfold J3;split
  .exact cn _
  .exact((WE h x P).cons y).trans<|io x y P
theorem Q9{h:Nat}{x:Row}(hx:hdI x=aa h):∀P:List Row,toP p (J3 h x P)=ins (h,toV p x) (toP p P)
 |[]=>by show[((hdI x).getD 0,toV p x)]=_;rw[hx];rfl
 |y::P=>by
  unfold J3;show toP p (if h<(hdI y).getD 0 then _ else _)=(if h<(hdI y).getD 0 then _ else _)
  split
  .show((hdI x).getD 0,toV p x)::_=_;rw[hx];rfl
  .show((hdI y).getD 0,toV p y)::toP p (J3 h x P)=_;rw[Q9 hx P];rfl
theorem wg:∀{a b:Row}{h:Nat},a.length=b.length->(∀j,j<h->gt a j=gt b j)->gt b h<gt a h->h<a.length->ltI b a=am
 |[],_,_,_,_,_,hl=>by simp at hl
 |x::a,[],_,e,_,_,_=>by simp at e
 |x::a,y::b,0,_,_,hlt,_=>by
  have:y<x:=hlt;unfold ltI;rw[T8 (by lia)]
  exact T5 this
 |x::a,y::b,h+1,e,hj,hlt,hl=>by
  have:x=y:=hj 0 (by lia)
  unfold ltI;rw[T9 this.symm];exact wg (by simpa using e) (λj h'=>hj (j+1)<|by lia) hlt (by simpa using hl)
theorem xX{a b:Row}{h k:Nat}(ha:Zd p n a)(hb:Zd p n b)(h1:hdI a=aa h)(h2:hdI b=aa k)(hk:h<k):ltI b a=am:=by
 obtain⟨a1,a2,a3⟩:=ZT h1;obtain⟨b1,b2,b3⟩:=ZT h2;refine wg (by rw[ha.1,hb.1]) (λj hj=>by rw[a3 j hj,b3 j<|by lia]) ?_ a2
 rw[b3 h hk];have:=(WM ppos ha h).1;lia
def pZ.falls{P:List Row}(hP:pZ p n P):P.Pairwise λa b=>ltI b a=am:=by
 have inc:P.Pairwise λa b=>(hdI a).getD 0<(hdI b).getD 0:=by
  have:=hP.pn.rf.inc;unfold toP at this;rw[cF]at this;exact this
 refine iS (λ{a b} ha hb hab=>?_) inc
 obtain⟨h,e1,_⟩:=hP.head fld.one0 ha;obtain⟨k,e2,_⟩:=hP.head fld.one0 hb;rw[e1,e2]at hab;exact xX (hP.row a ha) (hP.row b hb) e1 e2 hab
def Jd{P:List Row}(h:P.Pairwise λa b=>ltI b a=am):P.Nodup:=List.Pairwise.imp (λ{a b} hab e=>by
 rw[e]at hab;have:=Sd.Vh hab;rw[hab]at this;cases this) h
def qq{P Q:List Row}(hp:Q.Perm P)(h:Q.Pairwise λa b=>ltI b a=am):(ZE P).reverse=Q:=by
 have hn:P.Nodup:=(hp.nodup_iff).mp<|Jd h;have e:ZE P=Q.reverse:=Sd.Xg ((Sd.Y3 P).trans<|hp.symm.trans (d6 Q).symm) (Sd.YZ hn)<|dR.mpr h;rw[e,List.reverse_reverse]
def UV{P:List Row}{r:Row}(hP:pZ p n P)(hr:Zd p n r):pZ p n (QH p P r)/\toP p (QH p P r)=more (Qv p) n (toP p P) (toV p r):=by
 obtain⟨s1,s2⟩:=U8 hP.row hP.pn.rf hr;have eh:=GX s1;rw[s2]at eh;have g:=Wd fld hP.pn<|XY hr;unfold QH;cases q:hdI (ZH p P r)with
 |none=>
  rw[q]at eh;exact#[hP,by unfold more;rw[eh]]
 |some h=>
  rw[q]at eh;have em:more (Qv p) n (toP p P) (toV p r)=wid (toP p P) h (toV p<|lead p (ZH p P r) h):=by
   unfold more;rw[eh];show wid _ h _=_
   congr 1
   unfold lead;rw[yH,s2]
   funext j
   congr 1
   unfold Qv;rw[<-s2];show ph p (Za6 p<|(ph p<|gt (ZH p P r) h).val)=_;rw[uW<|WM ppos s1 h]
  have hl:Zd p n (lead p (ZH p P r) h):=xD s1;rw[em]at g;have mem:∀x∈wid (toP p P) h (toV p<|lead p (ZH p P r) h),hdV n x.2=aa x.1:=λx hx=>GE (g.pn.lt x hx) (by rw[g.pn.rf.one x hx];exact fld.one0)<|g.pn.rf.low x hx
  have hx:hdI (lead p (ZH p P r) h)=aa h:=by
   rw[<-GX hl];exact mem (h,toV p<|lead p (ZH p P r) h)<|(Yh _ _).mem_iff.mpr<|al ..
  have e1:toP p (P.map λo=>clr p o (lead p (ZH p P r) h) h)=(toP p P).map (off h<|toV p<|lead p (ZH p P r) h):=by
   unfold toP;rw[cG,cG];refine cU λo ho=>?_
   have ho':=hP.row o ho;have hc:Zd p n (clr p o (lead p (ZH p P r) h) h):=Zl ho' hl;have ev:toV p (clr p o (lead p (ZH p P r) h) h)=(off h (toV p<|lead p (ZH p P r) h) ((hdI o).getD 0,toV p o)).2:=Qt ho' hl;show((hdI<|clr p o (lead p (ZH p P r) h) h).getD 0,toV p<|clr p o (lead p (ZH p P r) h) h)=off h _ ((hdI o).getD 0,toV p o);have:=mem (off h (toV p<|lead p (ZH p P r) h) ((hdI o).getD 0,toV p o))<|(Yh _ _).mem_iff.mpr<|ai _<|aS.mpr #[_,Z2 ho,rfl];rw[<-ev,GX hc]at this;rw[this,ev];rfl
  have e2:toP p (J3 h (lead p (ZH p P r) h)<|P.map λo=>clr p o (lead p (ZH p P r) h) h)=wid (toP p P) h (toV p<|lead p (ZH p P r) h):=by
   rw[Q9 hx,e1];rfl
  have hQ:pZ p n (J3 h (lead p (ZH p P r) h)<|P.map λo=>clr p o (lead p (ZH p P r) h) h):=by
   refine#[λx hx=>?_,by rw[e2];exact g.pn]
   rcases az.mp ((WE _ _ _).mem_iff.mp hx)with e|e
   .rw[e];exact hl
   .obtain⟨o,ho,rfl⟩:=aS.mp e
    exact Zl (hP.row o ho) hl
  have e3:=qq ((WE h (lead p (ZH p P r) h)<|P.map λo=>clr p o (lead p (ZH p P r) h) h).trans (List.perm_append_singleton _ _).symm) hQ.falls
  show pZ p n (ZE _).reverse/\toP p (ZE _).reverse=_;rw[e3];exact#[hQ,by rw[e2,em]]
noncomputable def XR(p:Nat)(P:List Row)(rs:List Row):List Row:=rs.foldl (QH p) P
theorem zo:∀{rs:List Row}{P:List Row},pZ p n P->(∀r∈rs,Zd p n r)->pZ p n (XR p P rs)/\toP p (XR p P rs)=VJ (Qv p) n (toP p P) (rs.map<|toV p)
 |[],P,hP,_=>#[hP,rfl]
 |r::rs,P,hP,hr=>by
  obtain⟨a,b⟩:=UV hP<|hr r<|al ..;obtain⟨c,d⟩:=zo (rs:=rs) a λx hx=>hr x<|ai _ hx
  refine#[c,?_];show toP p (XR p (QH p P r) rs)=_;rw[d,b];rfl
def VC{P Q:List Row}(hP:pZ p n P)(hQ:pZ p n Q):pZ p n (XR p P Q)/\toP p (XR p P Q)=join (Qv p) n (toP p P) (toP p Q):=by
 obtain⟨a,b⟩:=zo hP hQ.row;exact#[a,by rw[b];unfold join;rw[jM]]
noncomputable def Zt(P:List Row):List Nat:=P.map λr=>(hdI r).getD 0
def Xp(P:List Row):(toP p P).map (·.1)=Zt P:=by unfold toP Zt;rw[cG];rfl
end
section
variable{p n:Nat}[Base p]
abbrev Mm(p:Nat)[NeZero p](P:List Row)(u:Vec (Fin p)):Prop:=Mem (toP p P) u
def eqP(hA:pZ p n A)(hB:pZ p n B)(h:∀u,Mm p A u↔Mm p B u):A=B:=yc hA.row hB.row<|ZcW fld hA.pn hB.pn h
def vV{P Q:List Row}(hP:pZ p n P)(hQ:pZ p n Q){u:Vec (Fin p)}(h:Mm p Q u):Mm p (XR p P Q) u:=by
 unfold Mm;rw[(VC hP hQ).2];exact GT fld hP.pn hQ.pn h
def vR{P Q R:List Row}(hP:pZ p n P)(hQ:pZ p n Q)(h1:∀u,Mm p P u->Mm p R u)(h2:∀u,Mm p Q u->Mm p R u){u:Vec (Fin p)}(h:Mm p (XR p P Q) u):Mm p R u:=by
 unfold Mm at h;rw[(VC hP hQ).2]at h;exact GB fld hP.pn hQ.pn h1 h2 h
def pJ{P Q:List Row}(hP:pZ p n P)(hQ:pZ p n Q):pZ p n (XR p P Q):=(VC hP hQ).1
def uw{P Q:List Row}(hP:pZ p n P)(hQ:pZ p n Q)(h:∀u,Mm p P u->Mm p Q u):XR p P Q=Q:=eqP (pJ hP hQ) hQ λu=>
 #[vR hP hQ h λ_ h=>h,vV hP hQ]
def u6{P:List Row}(u:Vec (Fin p))(h:Mm p ([]:List Row) u):Mm p P u:=by
 have e:u=λ_=>0:=funext λj=>h j
 rw[e];exact X7
def xy{P:List Row}(hP:pZ p n P):XR p [] P=P:=uw pZ.nil hP u6
noncomputable def XA(p:Nat)(P:List Row)(r:Row):Bool:=(hdI<|ZH p P r).isNone
def ZW(hP:pZ p n P)(hr:Zd p n r):XA p P r=am↔Mm p P (toV p r):=by
 unfold Mm;rw[<-xQ hP hr];unfold XA;cases hdI (ZH p P r)<;>simp
end
end Rw
namespace Pv
open Ev
open Rw
def Za{B β:Type}{a:B}{s:DS}{f:B->DS->PR β}:(PR.ok a s).bind f=f a s:=rfl
def Zal(hf:F[f]?=aa fn)(hne:f≠tk)(hl:vs.length=fn.ps):Zg F tk (d+1) f vs s=(rvs (Zg F tk d) (muts fn.body) fn.body (ZK fn.ns vs) [] s).bind λg s=>match g with
  |.ret v=>.ok v s
  |.nx _ _=>.ok .non s
  |_=>.no:=by
 rw[Zg,T8 hne,hf];show(if vs.length=fn.ps then _ else _)=_
 rw[T9 hl]
 all_goals rfl
def x4(s:DS)(h:0<m):0<=(Xc s m).1/\(Xc s m).1<m:=by
 unfold Xc;split
 .exact#[eG _ (by lia),dQ _ h]
 .exact#[eG _ (by lia),dQ _ h]
def VH(s:DS)(h0:0<m)(h1:m<1073741824):∃v s',Zg F tk (d+1) tk [.drw,.int m] s=.ok (.int v) s'/\0<=v/\v<m:=by
 refine#[(Xc s m).1,(Xc s m).2,?_,x4 s h0];rw[Zg,T9 rfl];show(if 0<m/\m<1073741824 then _ else _)=_
 rw[T9 #[h0,h1]]
theorem Ju{B:Type}{f:V->DS->PR (List V)}{s:DS}{e:B->V}{g:B->V}:∀{l:List B},(∀x∈l,f (e x) s=.ok [g x] s)->mapP f (l.map e) s=.ok (l.map g) s
 |[],_=>rfl
 |x::l,h=>by
  rw[bf,mapP,h x<|al ..];show(match mapP f (l.map e) s with|.ok zs s=>PR.ok ([g x]++zs) s|_=>.no)=_
  rw[Ju λy hy=>h y<|ai _ hy];rfl
theorem WN{B:Type}{f:V->DS->PR (List V)}{s:DS}{e:B->V}{g:B->V}{q:B->Bool}:∀{l:List B},(∀x∈l,f (e x) s=.ok (if q x=am then[g x]else[]) s)->mapP f (l.map e) s=.ok ((l.filter q).map g) s
 |[],_=>rfl
 |x::l,h=>by
  rw[bf,mapP,h x<|al ..];show(match mapP f (l.map e) s with|.ok zs s=>PR.ok ((if q x=am then[g x]else[])++zs) s|_=>.no)=_
  rw[WN λy hy=>h y<|ai _ hy,fk]
  cases q x<;>rfl
theorem WF{Q:V->Prop}(h:∀x s,∃y s',f x s=.ok [y] s'/\Q y):∀(l:List V)(s:DS),∃ys s',mapP f l s=.ok ys s'/\ys.length=l.length/\∀y∈ys,Q y
 |[],s=>#[[],s,rfl,rfl,λ_ h=>by cases h]
 |x::l,s=>by
  obtain⟨y,s1,e1,q1⟩:=h x s;obtain⟨ys,s2,e2,l2,q2⟩:=WF h l s1;refine#[y::ys,s2,?_,by rw[aO,aO,l2],λz hz=>?_]
  .rw[mapP,e1]
   show(match mapP f l s1 with|.ok zs s=>PR.ok ([y]++zs) s|_=>.no)=_
   rw[e2];rfl
  .rcases az.mp hz with rfl|hz
   .exact q1
   .exact q2 z hz
noncomputable def V5:Option Nat->V
 |none=>.non
 |some k=>.int k
noncomputable def spV(p n:Nat):V:=.tup [.int p,.int n]
def Yc{a:Int}(h:-4294967296<a)(h':a<4294967296):fits a=am:=by
 refine T5 ?_;have h1:a.natAbs<2^32:=by lia
 exact bj h1<|d7 (by decide) (by decide)
def QD{B:Type}{xs:List B}{k:Nat}{x:B}(h:xs[k]?=aa x):at' xs (k:Int)=aa x:=by
 have hk:=(aX.mp h).1;unfold at' ixN;rw[T9 (by lia),T9 (by lia)]
 rw[show(k:Int).toNat=k by lia];exact h
def GA{r:Row}{k:Nat}(hk:k<r.length):at' (r.map V.int) (k:Int)=aa (.int<|gt r k):=by
 refine QD ?_;rw[aH,af hk];unfold gt;rw[aJ,af hk];rfl
theorem Yd{B:Type}{g:B->Bool}:∀l:List B,ZQ (l.map λx=>.bl<|g x)=aa (l.map g)
 |[]=>rfl
 |x::l=>by rw[bf,ZQ,Yd l];rfl
theorem VN{B:Type}{f:V->V->Option Bool}{e:B->V}{d:B->B->Bool}(hd:∀a b,d a b=am↔a=b)(h:∀a b,f (e a) (e b)=aa (d a b)):∀a b:List B,∃c,Ye f (a.map e) (b.map e)=aa c/\(c=am↔a=b)
 |[],[]=>#[am,rfl,by simp]
 |[],_::_=>#[aj,rfl,by simp]
 |_::_,[]=>#[aj,rfl,by simp]
 |x::a,y::b=>by
  obtain⟨c,e1,e2⟩:=VN hd h a b;refine#[d x y&&c,?_,?_]
  .rw[bf,bf,Ye,h,e1]
  .rw[aG,hd,e2];simp
def jH(k:Nat)(a b:Row):eqV (k+2) (Zb a) (Zb b)=aa (ag<|a=b):=by
 show Ye (eqV<|k+1) (a.map .int) (b.map .int)=_;obtain⟨c,e1,e2⟩:=VN (f:=eqV<|k+1) (e:=V.int) (λa b=>by simp) (λa b=>rfl) a b
 rw[e1,show c=ag (a=b) by rw[bT,e2];simp]
def vp(k:Nat)(a b:List Row):eqV (k+3) (Zr a) (Zr b)=aa (ag<|a=b):=by
 show Ye (eqV<|k+2) (a.map Zb) (b.map Zb)=_;obtain⟨c,e1,e2⟩:=VN (λa b=>by simp) (λa b=>jH k a b) a b
 rw[e1,show c=ag (a=b) by rw[bT,e2];simp]
theorem YT:∀r:Row,intsV (r.map V.int)=aa r
 |[]=>rfl
 |a::r=>by show(intsV<|r.map V.int).map (a :: ·)=_;rw[YT r];rfl
theorem YU:∀P:List Row,Z0 (P.map Zb)=aa P
 |[]=>rfl
 |r::P=>by
  show(match intsV (r.map V.int),Z0 (P.map Zb)with|some a,aa b=>aa (a::b)|_,_=>ae)=_
  rw[YT,YU P]
theorem VI:∀r:Row,Y6 (r.map V.int)=am
 |[]=>rfl
 |a::r=>VI r
def qb(n:Nat):ZS 0 n=(aK n).map λ(k:Nat)=>V.int (k:Int):=by
 refine cU λk _=>?_
 simp
def ZI{B:Type}{a:B}{s:DS}:po (aa a) s=.ok a s:=rfl
section
variable{C:Zo}{cap:List Nat}{nl:Nat}{t:List Nat}{it:W}{elt tst:E}{O:Env}{s:DS}{B:Type}
def Yg{l:List B}{e g:B->V}(hw:pvw C it O s=.ok (l.map e) s)(hl:l.length<=lim)(h:∀x∈l,∃U,Ze t (e x) (ZP cap nl O)=aa U/\pv C elt U s=.ok (g x) s)(ho:own nl t=am:=by rfl):pv C (.comp1 cap nl t it [] elt) O s=.ok (.lst<|l.map g) s:=by
 rw[pv,T9 ho,hw,Za,Ju λx hx=>by
  obtain⟨U,e1,e2⟩:=h x hx;rw[e1,ZI,Za,pvt,Za];rw[e2];rfl]
 rw[Za,T9 (by rw[ay];exact hl)];rfl
def Xj{l:List B}{e g:B->V}{q:B->Bool}(hw:pvw C it O s=.ok (l.map e) s)(hl:l.length<=lim)(h:∀x∈l,∃U v,Ze t (e x) (ZP cap nl O)=aa U/\pv C tst U s=.ok v s/\Zj v=aa (q x)/\(q x=am->pv C elt U s=.ok (g x) s))(ho:own nl t=am:=by rfl):pv C (.comp1 cap nl t it [tst] elt) O s=.ok (.lst<|(l.filter q).map g) s:=by
 rw[pv,T9 ho,hw,Za,WN (q:=q) λx hx=>by
  obtain⟨U,v,e1,e2,e3,e4⟩:=h x hx;rw[e1,ZI,Za,pvt,e2,Za,e3,ZI,Za];cases c:q x with
  |true=>
   rw[T9 rfl,pvt,Za,T9 rfl,T9 rfl,e4 c];rfl
  |false=>rw[T8 (by simp),Za,T8 (by simp),T8 (by simp)]]
 rw[Za,T9 (by rw[ay];exact bU (eM ..) hl)];rfl
def UC{Q:V->Prop}(hw:pvw C it O s=.ok (ZS 0 k) s)(hl:k<=lim)(h:∀(x:V)(s:DS),∃U y s',Ze t x (ZP cap nl O)=aa U/\pv C elt U s=.ok y s'/\Q y)(ho:own nl t=am:=by rfl) :
  ∃ys s',pv C (.comp1 cap nl t it [] elt) O s=.ok (.lst ys) s'/\ys.length=k/\∀y∈ys,Q y:=by
 obtain⟨ys,s',e1,e2,e3⟩:=WF (f:=λx s=>(po (Ze t x<|ZP cap nl O) s).bind λU s=>(pvt C [] U s).bind λb s=>if b then(pv C elt U s).bind λy s=>.ok [y] s else .ok [] s) (λx s=>by
  obtain⟨U,y,s',f1,f2,f3⟩:=h x s;refine#[y,s',?_,f3];rw[f1,ZI,Za,pvt,Za];rw[f2];rfl) (ZS 0 k) s
 have hk:(ZS 0 k).length=k:=by unfold ZS;simp
 refine#[ys,s',?_,by rw[e2,hk],e3]
 rw[pv,T9 ho,hw,Za,e1,Za,T9 (by rw[e2,hk];exact hl)];rfl
end
def Zbh{xs:List V}{k:Nat}(h:k<=xs.length):Yv xs ae (aa (k:Int))=xs.take k:=by
 show(xs.drop 0).take ((if(k:Int)<0 then((k:Int)+xs.length).toNat else nq (k:Int).toNat xs.length)-0)=_
 rw[T8 (by lia),show nq (k:Int).toNat xs.length-0=k by lia];rfl
def JO{xs:List V}{i:Int}{k:Nat}(hi:i=k)(h:k<=xs.length):Yv xs (aa i) ae=xs.drop k:=by
 subst hi;show(xs.drop<|if(k:Int)<0 then((k:Int)+xs.length).toNat else nq (k:Int).toNat xs.length).take (xs.length-(if(k:Int)<0 then((k:Int)+xs.length).toNat else nq (k:Int).toNat xs.length))=_
 rw[T8 (by lia),show nq (k:Int).toNat xs.length=k by lia]
 exact cw (by rw[bq];lia)
def wP{xs:List V}:Yv xs (aa 1) ae=xs.tail:=by
 cases xs with|nil=>rfl|cons x xs=>exact JO rfl (by simp)
noncomputable def Zh(k:Nat):V:=.int k
def Va(n:Nat):ZS 0 n=(aK n).map Zh:=by rw[qb];rfl
def VY(h0:0<=i)(h1:i<1000000):YO i=am:=by
 unfold YO;have e:(2:Int)^62=4611686018427387904:=by decide
 rw[e];exact T5 #[by lia,by lia]
def ZC(hf:F[f]?=aa fn)(hne:f≠tk)(hl:vs.length=fn.ps)(h:rvs (Zg F tk d) (muts fn.body) fn.body (ZK fn.ns vs) [] s=.ok (.ret v) s'):Zg F tk (d+1) f vs s=.ok v s':=by
 rw[Zal hf hne hl,h];rfl
def Zs(h:rv C ms m O os s=.ok (.nx ρ' os') s'):rvs C ms (m::l) O os s=rvs C ms l ρ' os' s':=by rw[rvs,h];rfl
def Zm(h:rv C ms m O os s=.ok (.ret v) s'):rvs C ms (m::l) O os s=.ok (.ret v) s':=by rw[rvs,h];rfl
def ZZ(h:pv C e O s=.ok v s'):rv C ms (.ret e) O os s=.ok (.ret v) s':=by rw[rv,h];rfl
def Xi{b:Bool}{t:E}{x y:List Sm}(h:Xz C t O s=.ok b s'):rv C ms (.ite t x y) O os s=if b=am then rvs C ms x O os s' else rvs C ms y O os s':=by rw[rv,h];rfl
def Ys{v:V}{b:Bool}{t:E}(h:pv C t O s=.ok v s')(hb:Zj v=aa b):Xz C t O s=.ok b s':=by unfold Xz;rw[h,Za,hb];rfl
def ZR{f:Nat}{as:List E}{vs:List V}{v:V}{s1:DS}(h:pvs C as O s=.ok vs s1)(hc:C f vs s1=.ok v s'):pv C (.call f as) O s=.ok v s':=by rw[pv,h];exact hc
def Zf:pvs C [] O s=.ok [] s:=by rw[pvs]
def Zc{e:E}{es:List E}{v:V}{vs:List V}{s1:DS}(h:pv C e O s=.ok v s1)(h2:pvs C es O s1=.ok vs s'):pvs C (e::es) O s=.ok (v::vs) s':=by rw[pvs,h,Za,h2];rfl
def Zi{i:Nat}{v:V}(h:O[i]?=aa (aa v)):pv C (.v i) O s=.ok v s:=by rw[pv,h];rfl
def XO{i:Nat}{e:E}{v:V}(h:pv C e O s=.ok v s')(hm:(ms.contains i&&fresh e)=aj):rv C ms (.asg [i] e) O [] s=.ok (.nx (O.set i<|aa v) []) s':=by
 rw[rv];show(pv C e O s).bind _=_;rw[h,Za,T8 (by rw[hm];simp)];rfl
def X2{e:E}{n:Nat}(h:pv C e O s=.ok (.int n) s')(hn:n<1000000):pvw C (.rng1 e) O s=.ok ((aK n).map Zh) s':=by
 rw[pvw,h,Za];show(if YO (n:Int)=am then PR.ok (ZS 0 (n:Int).toNat) s' else .no)=_
 rw[T9 (VY (by lia) (by lia)),c9,Va]
def zb{B:Type}{t:List Nat}{it:W}{b:List Sm}{L:List B}{e:B->V}(I:List B->Env->Prop)(hw:pvw C it (hide os O) s=.ok (L.map e) s)(hI:I L O)(ht:(t.any os.contains)=aj)
  (h:∀x l O,I (x::l) O->(os.isEmpty||(e x).flat)=am/\∃ρ1 ρ',Ze t (e x) O=aa ρ1/\rvs C ms b ρ1 os s=.ok (.nx ρ' os) s/\I l ρ') :
  ∃ρ',I [] ρ'/\rv C ms (.forr t it b) O os s=.ok (.nx ρ' os) s:=by
 rw[rv,hw,Za];clear hw
 induction L generalizing O with
 |nil=>exact#[O,hI,rfl]
 |cons x L ih=>
  obtain⟨f,ρ1,ρ',b1,b2,b3⟩:=h x L O hI;obtain⟨ρ2,c1,c2⟩:=ih b3;refine#[ρ2,c1,?_];rw[bf,YK,T8 (by rw[ht];simp),b1,ZI,Za,b2,Za]
  exact c2
def zY{U B:Type}{t:List Nat}{it:W}{b:List Sm}{L:List B}{e:B->V}{step:U->B->U}{O:U->Option V->Env}{st:U}{o:Option V}(I:List B->U->Prop)(hw:pvw C it (hide os<|O st o) s=.ok (L.map e) s)(hI:I L st)(ht:(t.any os.contains)=aj)
  (h:∀x l st o,I (x::l) st->I l (step st x)/\(os.isEmpty||(e x).flat)=am/\∃ρ1 o',Ze t (e x) (O st o)=aa ρ1/\rvs C ms b ρ1 os s=.ok (.nx (O (step st x) o') os) s) :
  ∃o',I [] (L.foldl step st)/\rv C ms (.forr t it b) (O st o) os s=.ok (.nx (O (L.foldl step st) o') os) s:=by
 rw[rv,hw,Za];clear hw
 induction L generalizing st o with
 |nil=>exact#[o,hI,rfl]
 |cons x L ih=>
  obtain⟨a,f,ρ1,o',b1,b2⟩:=h x L st o hI;obtain⟨o2,c1,c2⟩:=ih (st:=step st x) (o:=o') a;refine#[o2,c1,?_];rw[bf,YK,T8 (by rw[ht];simp),b1,ZI,Za,b2,Za]
  exact c2
def pvF:(∀a,fresh (.lst a)=am)/\(∀a b,fresh (.bin .mul (.lst a) b)=am)/\(∀b,Zj (.bl b)=aa b)/\(∀i,Zj (.int i)=aa (ag<|i≠0))/\(∀xs,Zj (.tup xs)=aa (!xs.isEmpty))/\(∀xs,Zj (.lst xs)=aa (!xs.isEmpty))/\(Zj .non=aa aj)/\(∀xs i,ixV (.tup xs) (.int i)=at' xs i)/\(∀xs i,ixV (.lst xs) (.int i)=at' xs i)/\(∀xs,Ym (.tup xs)=aa xs)/\(∀xs,Ym (.lst xs)=aa xs)/\(∀x,Xh .len [x]=(Ym x).map λxs=>.int xs.length)/\(∀x,Xh .tuple [x]=(Ym x).map .tup)/\(∀x,Xh .list [x]=(Ym x).map .lst)/\(∀xs,Xh .all [.lst xs]=(ZQ xs).map λbs=>.bl<|bs.all id)/\(∀a b,Xh .max2 [.int a,.int b]=aa (.int (if b>a then b else a)))/\(∀a b,Xh .min2 [.int a,.int b]=aa (.int (if b<a then b else a)))/\(∀a,Xh .toInt [.int a]=aa (.int a))/\(∀a,Xh .toInt [.bl a]=aa (.int<|b2i a))/\(∀xs,Xh .sortedR [.lst xs]=(Z0 xs).bind λrs=>if Z4 rs=am then aa (.lst<|(ZE rs).reverse.map Zb)else ae)/\(∀a b s,YF .add (.int a) (.int b) s=.ok (.int<|a+b) s)/\(∀a b s,YF .sub (.int a) (.int b) s=.ok (.int<|a-b) s)/\(∀a b s,YF .mul (.int a) (.int b) s=if(fits a&&fits b)=am then .ok (.int<|a*b) s else .no)/\(∀a b s,YF .mod (.int a) (.int b) s=if 0<b then .ok (.int<|a%b) s else .no)/\(∀a b s,YF .add (.tup a) (.tup b) s=if a.length+b.length<=lim then .ok (.tup<|a++b) s else .no)/\(∀a b s,YF .mul (.tup a) (.int b) s=if 0<=b/\b<1000/\a.length<=1000 then .ok (.tup (aB b.toNat a).flatten) s else .no)/\(∀a b s,YF .mul (.lst a) (.int b) s=if 0<=b/\b<1000/\a.length<=1000 then .ok (.lst (aB b.toNat a).flatten) s else .no)/\(∀a b s,YF .add (.lst a) (.lst b) s=if a.length+b.length<=lim then .ok (.lst<|a++b) s else .no)/\(∀x y,Yk .eq x y=(eqV Zw x y).map .bl)/\(∀x y,Yk .ne x y=(eqV Zw x y).map λb=>.bl !b)/\(∀a b,Yk .lt (.int a) (.int b)=aa (.bl<|ag<|a<b))/\(∀a b,Yk .gt (.int a) (.int b)=aa (.bl<|ag<|b<a))/\(∀a b,Yk .le (.int a) (.int b)=aa (.bl<|ag<|a<=b))/\(∀a b,Yk .ge (.int a) (.int b)=aa (.bl<|ag<|b<=a))/\(∀x,Yk .is x .non=aa (.bl<|WU x))/\(∀x,Yk .isn x .non=aa (.bl !(WU x)))/\(∀a b,Yk .is (.bl a) (.bl b)=aa (.bl<|ag<|a=b))/\(∀a b,Yk .isn (.bl a) (.bl b)=aa (.bl !(ag<|a=b)))/\(∀x y,Yk .inn x y=(WW x y).map .bl)/\(∀x y,Yk .nin x y=(WW x y).map λb=>.bl !b)/\(WU .non=am)/\(∀b,WU (.bl b)=aj)/\(∀b,WU (.int b)=aj)/\(∀b,WU (.tup b)=aj)/\(∀b,WU (.lst b)=aj)/\(ofD .non=aa .non)/\(∀b,ofD (.bl b)=aa (.bl b))/\(∀b,ofD (.int b)=aa (.int b))/\(∀O,Yz [] [] O=aa O)/\(∀i t x xs O,Yz (i::t) (x::xs) O=Yz t xs (O.set i<|aa x))/\(∀i x O,Ze [i] x O=aa (O.set i<|aa x))/\(∀i j t xs O,Ze (i::j::t) (.tup xs) O=Yz (i::j::t) xs O)/\(∀i j t xs O,Ze (i::j::t) (.lst xs) O=Yz (i::j::t) xs O)/\(∀k a b,eqV (k+1) (.int a) (.int b)=aa (ag<|a=b))/\(∀k a b,eqV (k+1) (.bl a) (.bl b)=aa (ag<|a=b))/\(∀k a b,eqV (k+1) (.tup a) (.tup b)=Ye (eqV k) a b)/\(∀k a b,eqV (k+1) (.lst a) (.lst b)=if a.length=b.length then Ye (eqV k) a b else aa aj):=
 #[λ_=>rfl,λ_ _=>rfl,λ_=>rfl,λ_=>rfl,λ_=>rfl,λ_=>rfl,rfl,λ_ _=>rfl,λ_ _=>rfl,λ_=>rfl,λ_=>rfl,λ_=>rfl,λ_=>rfl,λ_=>rfl,λ_=>rfl,λ_ _=>rfl,λ_ _=>rfl,λ_=>rfl,λ_=>rfl,λ_=>rfl,λ_ _ _=>rfl,λ_ _ _=>rfl,λ_ _ _=>rfl,λ_ _ _=>rfl,λ_ _ _=>rfl,λ_ _ _=>rfl,λ_ _ _=>rfl,λ_ _ _=>rfl,λ_ _=>rfl,λ_ _=>rfl,λ_ _=>rfl,λ_ _=>rfl,λ_ _=>rfl,λ_ _=>rfl,λ_=>rfl,λ_=>rfl,λ_ _=>rfl,λ_ _=>rfl,λ_ _=>rfl,λ_ _=>rfl,rfl,λ_=>rfl,λ_=>rfl,λ_=>rfl,λ_=>rfl,rfl,λ_=>rfl,λ_=>rfl,λ_=>rfl,λ_ _ _ _ _=>rfl,λ_ _ _=>rfl,λ_ _ _ _ _=>rfl,λ_ _ _ _ _=>rfl,λ_ _ _=>rfl,λ_ _ _=>rfl,λ_ _ _=>rfl,λ_ _ _=>rfl]
def pvE:=aT (aT (aT (aT (aT (aT pvF @Za)<|aT @ZI @Xz.eq_1)<|aT (aT @ZK.eq_1 @hide.eq_1)<|aT @ZP.eq_1 @Option.join.eq_1.{0})<|aT (aT (aT @lim.eq_1 @rvs.eq_1)<|aT @rvs.eq_2 @rv.eq_1)<|aT (aT @rv.eq_2 @rv.eq_3)<|aT @rv.eq_4 @rv.eq_5)<|aT (aT (aT (aT @rv.eq_6 @rv.eq_7)<|aT @rv.eq_8 @rv.eq_9)<|aT (aT @rv.eq_10 @rv.eq_11)<|aT @rv.eq_12 @rv.eq_13)<|aT (aT (aT @rv.eq_14 @rv.eq_15)<|aT @rv.eq_16 @rv.eq_17)<|aT (aT @rv.eq_18 @pvA.eq_1)<|aT @pvA.eq_2<|aT @pvs.eq_1 @pvs.eq_2)<|aT (aT (aT (aT (aT @pvo.eq_1 @pvo.eq_2)<|aT @pvt.eq_1 @pvt.eq_2)<|aT (aT @pvw.eq_1 @pvw.eq_2)<|aT @pvw.eq_3 @pvw.eq_4)<|aT (aT (aT @pvw.eq_5 @pvw.eq_6)<|aT @pvw.eq_7 @pv.eq_1)<|aT (aT @pv.eq_2 @pv.eq_3)<|aT @pv.eq_4<|aT @pv.eq_5 @pv.eq_6)<|aT (aT (aT (aT @pv.eq_7 @pv.eq_8)<|aT @pv.eq_9 @pv.eq_10)<|aT (aT @pv.eq_11 @pv.eq_12)<|aT @pv.eq_13 @pv.eq_14)<|aT (aT (aT @pv.eq_15 @pv.eq_16)<|aT @pv.eq_17 @pv.eq_18)<|aT (aT @pv.eq_19 @pv.eq_20)<|aT @pv.eq_21<|aT @pv.eq_22 @pv.eq_23
end Pv
namespace K12
open Ev Pv Rw La
noncomputable abbrev CV(d:Nat):Zo:=Zg fns 2 d
theorem US(C:Zo)(s:DS)(v:V):∀(r:Row)(k:Nat)(a b:Option V),∃a' b',YK (λx O os s=>if(([1,2]:List Nat).any os.contains)=am then .no else(po (Ze [1,2] x O) s).bind λO s=>rvs C [] [.ite (.cmp .ne (.v 2)<|.c<|.int 0) [.ret<|.v 1] []] O os s)
   (((ZS k r.length).zip<|r.map V.int).map λp=>V.tup [p.1,p.2]) [aa v,a,b] [] s=match hdI r with
    |some m=>.ok (.ret<|.int (k+m:Nat)) s
    |none=>.ok (.nx [aa v,a',b'] []) s
 |[],k,a,b=>#[a,b,rfl]
 |x::r,k,a,b=>by
  have er:ZS k (x::r).length=.int k::ZS (k+1:Nat) r.length:=by
   unfold ZS;rw[aO,ko,bf,cG];refine List.cons_eq_cons.mpr #[by simp,?_]
   .refine cU λj _=>?_
    show V.int ((k:Int)+((j+1:Nat):Int))=V.int (((k+1:Nat):Int)+(j:Int))
    congr 1
    lia
  obtain⟨a',b',ih⟩:=US C s v r (k+1) (aa<|.int k)<|aa<|.int x;refine#[a',b',?_];rw[er,bf,cM,bf,YK];by_cases c:x=0
  .subst c
   have e0:hdI (0::r)=(hdI r).map (· + 1):=by rw[hdI,T8 (by simp)]
   have e1:(if(([1,2]:List Nat).any ([]:List Nat).contains)=am then(.no:PR FlV)else(po (Ze [1,2] (V.tup [.int k,.int 0]) [aa v,a,b]) s).bind λO s=>rvs C [] [.ite (.cmp .ne (.v 2)<|.c<|.int 0) [.ret<|.v 1] []] O [] s)=.ok (.nx [aa v,aa<|.int k,aa<|.int 0] []) s:=by
    simp[pvE,Zw]
   rw[e1,Za,e0];show YK _ _ [aa v,aa<|.int k,aa<|.int 0] [] s=_;rw[ih];cases hdI r with|none=>rfl|some m=>show PR.ok (FlV.ret<|.int ((k+1+m:Nat):Int)) s=PR.ok (FlV.ret<|.int ((k+(m+1):Nat):Int)) s;congr 3;lia
  .have e0:hdI (x::r)=aa 0:=by rw[hdI,T9 c]
   have e1:(if(([1,2]:List Nat).any ([]:List Nat).contains)=am then(.no:PR FlV)else(po (Ze [1,2] (V.tup [.int k,.int x]) [aa v,a,b]) s).bind λO s=>rvs C [] [.ite (.cmp .ne (.v 2)<|.c<|.int 0) [.ret<|.v 1] []] O [] s)=.ok (.ret<|.int k) s:=by
    simp[pvE,Zw,c]
   rw[e1,Za,e0];rfl
def j9(d:Nat)(r:Row)(s:DS):CV (d+1) 10 [Zb r] s=.ok (V5<|hdI r) s:=by
 rw[CV,Zal rfl (by decide) rfl]
 obtain⟨a,b,e⟩:=US (Zg fns 2 d) s (Zb r) r 0 ae ae;show((rv _ [] (.forr [1,2] (.enum<|.v 0) _) [aa<|Zb r,ae,ae] [] s).bind _).bind _=_;have e2:rv (Zg fns 2 d) [] (.forr [1,2] (.enum<|.v 0) [.ite (.cmp .ne (.v 2)<|.c<|.int 0) [.ret<|.v 1] []]) [aa<|Zb r,ae,ae] [] s=match hdI r with
    |some m=>.ok (.ret<|.int (m:Nat)) s
    |none=>.ok (.nx [aa<|Zb r,a,b] []) s:=by
  rw[rv];have ew:pvw (Zg fns 2 d) (.enum<|.v 0) (hide [] [aa<|Zb r,ae,ae]) s=.ok (((ZS 0 r.length).zip<|r.map V.int).map λp=>V.tup [p.1,p.2]) s:=by
   simp[pvE,Zb]
  rw[ew,Za];simp only[Nat.zero_add,Int.natCast_zero]at e;exact e
 rw[e2];cases hdI r with|none=>rfl|some m=>rfl
section
variable{p n:Nat}[Base p]
def Gy:(p:Int)<=5/\(2:Int)<=p:=by rcases(inferInstance:Base p).b with e|e|e<;>subst e<;>decide
end
section
variable{p n:Nat}[Base p]
def xu(C:Zo)(ms:List Nat){i j:Nat}{O:Env}{os:List Nat}{s:DS}{e:E}(h:pvA C e O os s=.ok (spV p n) s)(ho:os.contains i=aj/\os.contains j=aj):rv C ms (.asg [i,j] e) O os s=.ok (.nx ((O.set i<|aa<|.int p).set j<|aa<|.int n) os) s:=by
 rw[rv,h,Za,T8 (by simpa using ho)]
 .rfl
 .simp
theorem dsum{P:List Row}(hP:pZ p n P):P.length<=n:=by
 have:=yC fld hP.pn;rw[qh]at this;lia
end
end K12
namespace Rw
open La
open Ev (ltI Yx ZE)
end Rw
namespace Rw
open Ev (ltP XC Yy)
open La
section
variable{p n:Nat}[Base p]
def yp(hW:pZ p n W)(hr:Zd p n r)(h:∀i,gt r i=0):XA p W r=am:=by
 rw[ZW hW hr];have e:toV p r=λ_=>0:=by funext k;exact(ZX hr).mpr<|h k
 rw[e];exact X7
def yk(hW:pZ p n W)(hr:r∈W):XA p W r=am:=by
 rw[ZW hW<|hW.row r hr];exact Xo hW.pn.rf<|Z2 hr
end
noncomputable def rise(hs:List Nat):Bool:=(hs.zip hs.tail).all λq=>ag<|q.1<q.2
theorem VG:∀{hs:List Nat},rise hs=am↔hs.Pairwise (· < ·)
 |[]=>by simp[rise]
 |[a]=>by simp[rise]
 |a::b::l=>by
  have ih:=VG (hs:=b::l);unfold rise at ih ⊢;rw[nP,cM,fD,aG,T0];rw[nP]at ih
  constructor
  .intro#[h1,h2]
   have h3:=ih.mp h2;refine bg.mpr #[λx hx=>?_,h3]
   rcases az.mp hx with rfl|hx
   .exact h1
   .exact c7 h1<|(bg.mp h3).1 x hx
  .intro h
   obtain⟨h1,h2⟩:=bg.mp h;exact#[h1 b<|al ..,ih.mpr h2]
noncomputable def WG(R:List Row)(i k:Nat):Bool:=ag (gt (R.getD i []) k=1)&&(R.take i++R.drop (i+1)).all λr=>ag<|gt r k=0
noncomputable def X4(R:List Row):Bool:=(R.all λr=>(hdI r).isSome)&&(rise (Zt R)&&(aK R.length).all λi=>WG R i<|(Zt R).getD i 0)
section
variable{p n:Nat}[Base p]
def Qk{R:List Row}{i:Nat}(hi:i<R.length):R.getD i []=R[i]:=by rw[aJ,af hi];rfl
def Vl(hi:i<R.length):(Zt R).getD i 0=(hdI R[i]).getD 0:=by
 unfold Zt;rw[aJ,aH,af hi];rfl
def Zbs{R:List Row}{i j:Nat}(hj:j<R.length)(h:j≠i):R[j]∈R.take i++R.drop (i+1):=by
 by_cases c:j<i
 .refine dv _ ?_
  have hl:j<(R.take i).length:=by rw[bn];omega
  rw[<-eQ];exact aU hl
 .refine bC _ ?_
  have hl:j-(i+1)<(R.drop<|i+1).length:=by rw[bq];omega
  have e:(R.drop<|i+1)[j-(i+1)]=R[j]:=by rw[eR];congr 1;omega
  rw[<-e];exact aU hl
def Uj{R:List Row}{i:Nat}{r:Row}(h:r∈R.take i++R.drop (i+1)):∃j,∃(hj:j<R.length),j≠i/\R[j]=r:=by
 rcases da.mp h with z|z
 .obtain⟨j,hj,e⟩:=cz z
  rw[bn]at hj;exact#[j,by omega,by omega,by rw[<-e,eQ]]
 .obtain⟨j,hj,e⟩:=cz z
  rw[bq]at hj;exact#[i+1+j,by omega,by omega,by rw[<-e,eR]]
def Qm:ph p 1=1:=by
 rcases(inferInstance:Base p).b with e|e|e<;>subst e<;>rfl
def Vi(hr:Zd p n r):toV p r k=1↔gt r k=1:=by
 have hb:=(inferInstance:Base p).b
 constructor
 .intro h
  refine Gi (WM ppos hr k) #[by omega,by omega] ?_
  rw[Qm];exact h
 .intro h
  unfold toV;rw[h,Qm]
def WJ{R:List Row}(hR:∀r∈R,Zd p n r):X4 R=am↔pZ p n R:=by
 unfold X4;simp only[aG,a8,aQ]
 constructor
 .intro#[h1,h2,h3]
  have hd:∀i (hi:i<R.length),∃k,hdI R[i]=aa k/\gt R[i] k=1/\∀j (hj:j<R.length),j≠i->gt R[j] k=0:=λi hi=>by
   obtain⟨k,hk⟩:=bK.mp<|h1 _<|aU hi;have a:=h3 i hi;unfold WG at a;rw[Vl hi,Qk hi,hk,aG,T0,a8]at a;exact#[k,hk,a.1,λj hj ne=>T6<|a.2 _<|Zbs hj ne]
  have inc:=VG.mp h2;have memP:∀a∈toP p R,∃i,∃(hi:i<R.length),a=((hdI R[i]).getD 0,toV p R[i]):=λa ha=>by
   obtain⟨r,hr,rfl⟩:=aS.mp ha;obtain⟨i,hi,rfl⟩:=cz hr;exact#[i,hi,rfl]
  refine#[hR,#[#[?_,λa ha j hj=>?_,λa ha=>?_,λa ha b hb ne=>?_],λa ha=>?_,λa ha=>?_]]
  .rw[<-Xp (p:=p)]at inc
   exact cF.mp inc
  .obtain⟨i,hi,rfl⟩:=memP a ha
   obtain⟨k,hk,_,_⟩:=hd i hi;rw[hk]at hj;exact(ZX<|hR _<|aU hi).mpr<|(ZT hk).2.2 j hj
  .obtain⟨i,hi,rfl⟩:=memP a ha
   obtain⟨k,hk,h,_⟩:=hd i hi;rw[hk];exact(Vi<|hR _<|aU hi).mpr h
  .obtain⟨i,hi,rfl⟩:=memP a ha
   obtain⟨j,hj,rfl⟩:=memP b hb;obtain⟨k,hk,_,h⟩:=hd i hi;rw[hk];refine(ZX<|hR _<|aU hj).mpr<|h j hj λe=>?_
   subst e;exact ne rfl
  .obtain⟨i,hi,rfl⟩:=memP a ha
   obtain⟨k,hk,_,_⟩:=hd i hi;rw[hk,<-(hR _<|aU hi).1];exact(ZT hk).2.1
  .obtain⟨i,hi,rfl⟩:=memP a ha
   exact XY<|hR _<|aU hi
 .intro hP
  have hk:∀r∈R,∃k,hdI r=aa k/\k<n/\toV p r k=1:=λr hr=>hP.head fld.one0 hr
  refine#[λr hr=>?_,VG.mpr ?_,λi hi=>?_]
  .obtain⟨k,e,_⟩:=hk r hr
   rw[e];rfl
  .rw[<-Xp (p:=p)];exact hP.pn.rf.heads
  .obtain⟨k,e,_,h1⟩:=hk _ (aU hi)
   unfold WG;rw[Vl hi,Qk hi,e,aG,T0,a8];refine#[(Vi<|hR _<|aU hi).mp h1,λr hr=>?_]
   obtain⟨j,hj,ne,rfl⟩:=Uj hr;refine T5 ?_;obtain⟨k2,e2,_,_⟩:=hk _<|aU hj;have hh:((hdI R[i]).getD 0,toV p R[i]).1≠((hdI R[j]).getD 0,toV p R[j]).1:=by
    have inc:(Zt R).Pairwise (· < ·):=by rw[<-Xp (p:=p)];exact hP.pn.rf.heads
    have pw:=bB.mp inc;have li:(Zt R).length=R.length:=by unfold Zt;rw[ay]
    have gi:∀m (hm:m<R.length),(Zt R)[m]'(by omega)=(hdI R[m]).getD 0:=λm hm=>by unfold Zt;rw[List.getElem_map]
    intro z;have z:=z;rcases Nat.lt_or_gt_of_ne ne with c|c
    .have:=pw j i (by omega) (by omega) c
     rw[gi j hj,gi i hi]at this;omega
    .have:=pw i j (by omega) (by omega) c
     rw[gi j hj,gi i hi]at this;omega
   have:=hP.pn.rf.zer _ (Z2<|aU hi) _ (Z2<|aU hj) hh;rw[e]at this;exact(ZX<|hR _<|aU hj).mp this
end
end Rw
namespace Ab
open Ev Pv
mutual
noncomputable def okV:V->Bool
 |.tup xs=>Xy xs
 |.lst xs=>Xy xs
 |.drw=>aj
 |.scr _=>aj
 |.dct (aa _)=>aj
 |.dow _=>aj
 |_=>am
noncomputable def Xy:List V->Bool
 |[]=>am
 |x::xs=>okV x&&Xy xs
end
def oks{xs:List V}(h:∀x∈xs,okV x=am):Xy xs=am:=by
 induction xs with|nil=>rfl|cons x xs ih=>rw[Xy,h x<|al ..,ih λy hy=>h y<|ai _ hy];rfl
inductive T where
 |th (m:Nat)|int (lo hi:Int)|two (a b:Int)|tup (lo hi:Nat) (t:T)|lst (lo hi:Nat) (t:T)|idx (i:Nat)|drw
def Th(m:Nat)(x:V):Prop:=okV x=am/\∀xs,x=.tup xs->xs.length<=m
def Has:T->V->Prop
 |.th m,v=>Th m v
 |.int lo hi,v=>∃i,v=.int i/\lo<=i/\i<=hi
 |.two a b,v=>v=.tup [.int a,.int b]
 |.tup lo hi t,v=>∃xs,v=.tup xs/\lo<=xs.length/\xs.length<=hi/\∀x∈xs,Has t x
 |.lst lo hi t,v=>∃xs,v=.lst xs/\lo<=xs.length/\xs.length<=hi/\∀x∈xs,Has t x
 |.idx _,_=>False
 |.drw,v=>v=.drw
noncomputable def xq:T->Option Nat
 |.th m=>aa m
 |.int _ _=>aa 0
 |.two _ _=>aa 2
 |.tup _ hi t=>(xq t).map λ_=>hi
 |.lst _ _ t=>(xq t).map λ_=>0
 |_=>ae
theorem Wb:∀{t:T}{m:Nat}{v:V},xq t=aa m->Has t v->Th m v
 |.th m,_,v,h,hv=>by cases h;exact hv
 |.int _ _,_,v,h,#[i,e,_]=>by subst e;exact#[rfl,nofun]
 |.two _ _,_,v,h,e=>by cases h;cases e;exact#[rfl,λxs z=>by cases z;exact aA _]
 |.tup _ hi t,m,v,h,#[xs,e,_,h2,h3]=>by
  obtain⟨k,hk,rfl⟩:=aR.mp h;subst e;exact#[oks λx hx=>(Wb hk<|h3 x hx).1,λys z=>by cases z;exact h2]
 |.lst _ _ t,m,v,h,#[xs,e,_,_,h3]=>by
  obtain⟨k,hk,rfl⟩:=aR.mp h;subst e;exact#[oks λx hx=>(Wb hk<|h3 x hx).1,nofun]
noncomputable def join:T->T->Option T
 |.int a b,.int c d=>aa<|.int (nq a c)<|max b d
 |.tup a b t,.tup c d u=>(join t u).map<|.tup (nq a c)<|max b d
 |a,b=>(xq a).bind λm=>(xq b).map λk=>.th<|max m k
def Th.le{m k:Nat}{v:V}(h:Th m v)(hk:m<=k):Th k v:=#[h.1,λxs e=>bU (h.2 xs e) hk]
def Xv:∀{a b c:T},join a b=aa c->∀v,(Has a v\/Has b v)->Has c v:=by
 intro a
 induction a with
 |int x y=>
  intro b c h v hv;cases b with
  |int z w=>
   cases h;rcases hv with⟨i,e,h1,h2⟩|⟨i,e,h1,h2⟩
   .exact#[i,e,by omega,by omega]
   .exact#[i,e,by omega,by omega]
  |_=>
   obtain⟨m,hm,h⟩:=aD.mp h;obtain⟨k,hk,rfl⟩:=aR.mp h;rcases hv with hv|hv
   .exact(Wb hm hv).le<|kC ..
   .exact(Wb hk hv).le<|kf ..
 |tup x y t ih=>
  intro b c h v hv;cases b with
  |tup z w u=>
   obtain⟨r,hr,rfl⟩:=aR.mp h;rcases hv with⟨xs,e,h1,h2,h3⟩|⟨xs,e,h1,h2,h3⟩
   .exact#[xs,e,by omega,by omega,λq hq=>ih hr q<|.inl<|h3 q hq]
   .exact#[xs,e,by omega,by omega,λq hq=>ih hr q<|.inr<|h3 q hq]
  |_=>
   obtain⟨m,hm,h⟩:=aD.mp h;obtain⟨k,hk,rfl⟩:=aR.mp h;rcases hv with hv|hv
   .exact(Wb hm hv).le<|kC ..
   .exact(Wb hk hv).le<|kf ..
 |_=>
  intro b c h v hv;obtain⟨m,hm,h⟩:=aD.mp h;obtain⟨k,hk,rfl⟩:=aR.mp h;rcases hv with hv|hv
  .exact(Wb hm hv).le<|kC ..
  .exact(Wb hk hv).le<|kf ..
noncomputable def QW:List T->Option T
 |[]=>aa<|.th 0
 |[t]=>aa t
 |t::ts=>(QW ts).bind<|join t
theorem Jv:∀{ts:List T}{c:T},QW ts=aa c->∀t∈ts,∀v,Has t v->Has c v
 |[t],c,h,u,hu,v,hv=>by cases h;rw[bz.mp hu]at hv;exact hv
 |t::w::ts,c,h,u,hu,v,hv=>by
  obtain⟨r,hr,h⟩:=aD.mp h;rcases az.mp hu with rfl|hu
  .exact Xv h v<|.inl hv
  .exact Xv h v<|.inr<|Jv hr u hu v hv
abbrev Cx:=List<|Option T
abbrev Sg:=Nat->List T->Option T
noncomputable def wk(Γ:Cx)(t:T):Option T:=match t with
 |.idx i=>match(Γ[i]?).join with
  |some (.tup _ hi _)=>aa<|.int 0<|(hi:Int)-1
  |_=>ae
 |t=>aa t
noncomputable def Gw(op:Bop)(x y:T):Option T:=match op,x,y with
 |.add,.int a b,.int c d=>aa<|.int (a+c)<|b+d
 |.sub,.int a b,.int c d=>aa<|.int (a-d)<|b-c
 |.add,.tup a b t,.tup c d u=>if b+d<=5000 then(join t u).map (.tup (a+c)<|b+d)else ae
 |.add,.lst a b t,.lst c d u=>if b+d<=5000 then(join t u).map (.lst (a+c)<|b+d)else ae
 |.mul,.tup 1 1 t,.int c d=>if 0<=c/\d<1000 then aa (.tup c.toNat d.toNat t)else ae
 |.mul,.int a b,.int c d=>if 0<=a/\0<=c/\b<100000/\d<100000 then aa (.int 0<|b*d)else ae
 |.mod,.int _ _,.int c d=>if 0<c then aa (.int 0<|d-1)else ae
 |.pow,.int a b,.int c d=>if a=b/\c=d/\0<=c/\c<=1000/\a.natAbs<2^64 then aa (.int (a^c.toNat)<|a^c.toNat)else ae
 |_,_,_=>ae
noncomputable def ixT(x y:T):Option T:=match x,y with
 |.two a b,.int c d=>if c=0/\d=0 then aa (.int a a)else if c=1/\d=1 then aa (.int b b)else ae
 |.tup lo _ t,.int c d=>if(0<=c/\d<lo)\/(c = -1/\d = -1/\1<=lo)then aa t else ae
 |.lst lo _ t,.int c d=>if(0<=c/\d<lo)\/(c = -1/\d = -1/\1<=lo)then aa t else ae
 |_,_=>ae
noncomputable def ZcG(e:E)(i:Nat):Bool:=match e with
 |.v j=>ag<|j=i
 |_=>aj
noncomputable def isInt:T->Bool
 |.int _ _=>am
 |.idx _=>am
 |_=>aj
noncomputable def ixA(a:E)(x y:T):Option T:=match y with
 |.idx k=>match x with
  |.tup _ _ t=>if ZcG a k=am then aa t else ae
  |_=>ae
 |y=>ixT x y
noncomputable def zh:List E->Option Nat
 |[.v _,.blt .len [.v i]]=>aa i
 |_=>ae
noncomputable def uB(Γ:Cx)(as:List E)(ts:List T):Option T:=match ts with
 |[.drw,.int lo hi]=>if 0<lo/\hi<1000000 then match(zh as).bind λi=>(Γ[i]?).join.bind λt=>match t with|.tup _ _ _=>aa i|_=>ae with
  |some i=>aa<|.idx i
  |none=>aa<|.int 0<|hi-1
  else ae
 |_=>ae
noncomputable def Zdg(f:Bf)(ts:List T):Option T:=match f,ts with
 |.len,[.tup lo hi _]=>aa<|.int lo hi
 |.len,[.lst lo hi _]=>aa<|.int lo hi
 |.tuple,[.lst lo hi t]=>aa<|.tup lo hi t
 |.list,[.tup lo hi t]=>aa<|.lst lo hi t
 |_,_=>ae
noncomputable def slT:T->Option T
 |.tup _ m t=>aa<|.tup 0 m t
 |_=>ae
noncomputable def GV(Γ:Cx)(i:Nat):Option T:=((Γ[i]?).join).filter λt=>match t with|.idx _=>aj|_=>am
noncomputable def ZbG(lo hi:Nat):T->Option T
 |.idx _=>ae
 |r=>aa<|.lst lo hi r
mutual
noncomputable def ty(tk:Nat)(Φ:Sg)(Γ:Cx):E->Option T
 |.c d=>match d with
  |.int i=>aa<|.int i i
  |.non=>aa<|.th 0
  |.bl _=>aa<|.th 0
  |.str _=>aa<|.th 0
  |_=>ae
 |.v i=>(Γ[i]?).join
 |.tup es=>(tys tk Φ Γ es).bind λts=>if ts.length<=1000 then(QW ts).map (.tup ts.length ts.length)else ae
 |.lst es=>(tys tk Φ Γ es).bind λts=>if ts.length<=1000 then(QW ts).map (.lst ts.length ts.length)else ae
 |.dnew=>aa<|.th 0
 |.bin op a b=>(ty tk Φ Γ a).bind λx=>(ty tk Φ Γ b).bind λy=>(wk Γ x).bind λx=>(wk Γ y).bind λy=>Gw op x y
 |.neg a=>(ty tk Φ Γ a).bind λx=>match x with
  |.int lo hi=>aa<|.int (-hi)<|-lo
  |_=>ae
 |.ix a i=>(ty tk Φ Γ a).bind λx=>(ty tk Φ Γ i).bind λy=>ixA a x y
 |.sl a lo hi=>(ty tk Φ Γ a).bind λx=>if(tyo tk Φ Γ lo&&tyo tk Φ Γ hi)=am then slT x else ae
 |.rev a=>(ty tk Φ Γ a).bind λx=>match x with
  |.tup lo hi t=>aa<|.tup lo hi t
  |_=>ae
 |.call f as=>(tys tk Φ Γ as).bind λts=>if f=tk then uB Γ as ts else Φ f ts
 |.blt f as=>(tys tk Φ Γ as).bind λts=>Zdg f ts
 |.comp1 cap nl t it ifs elt=>if nl=1/\t=[0]/\ifs.isEmpty=am then(tyw tk Φ Γ it).bind λx=>match x with
   |.tup lo hi u=>if hi<=1000 then(ty tk Φ (aa u::cap.map (GV Γ)) elt).bind (ZbG lo hi)else ae
   |_=>ae
  else ae
 |_=>ae
noncomputable def tys(tk:Nat)(Φ:Sg)(Γ:Cx):List E->Option (List T)
 |[]=>aa []
 |e::es=>(ty tk Φ Γ e).bind λt=>(wk Γ t).bind λt=>(tys tk Φ Γ es).map λts=>t::ts
noncomputable def tyo(tk:Nat)(Φ:Sg)(Γ:Cx):Option E->Bool
 |none=>am
 |some e=>match ty tk Φ Γ e with
  |some t=>isInt t
  |none=>aj
noncomputable def tyw(tk:Nat)(Φ:Sg)(Γ:Cx):W->Option T
 |.of e=>ty tk Φ Γ e
 |_=>ae
end
def Hs(O:Env)(t:T)(v:V):Prop:=match t with
 |.idx i=>∃j xs,v=.int j/\O[i]?=aa (aa<|.tup xs)/\0<=j/\j<(xs.length:Int)
 |t=>Has t v
def YM(Γ:Cx)(O:Env):Prop:=∀(i:Nat)(t:T),(Γ[i]?).join=aa t->∃v,O[i]?=aa (aa v)/\Hs O t v
def Al:List T->List V->Prop
 |[],vs=>vs=[]
 |t::ts,vs=>∃v ws,vs=v::ws/\Has t v/\Al ts ws
def Ws{O:Env}{t:T}{v:V}(h:Has t v):Hs O t v:=by
 cases t with|idx _=>exact h.elim|_=>exact h
def zU{Γ:Cx}{O:Env}{t u:T}{v:V}(he:YM Γ O)(hv:Hs O t v)(h:wk Γ t=aa u):Has u v:=by
 cases t with
 |idx i=>
  obtain⟨j,xs,rfl,hx,h0,h1⟩:=hv;cases e:(Γ[i]?).join with
  |none=>simp[wk,e]at h
  |some w=>
   cases w with
   |tup lo hi t=>
    simp[wk,e]at h;subst h;obtain⟨v,hv,xs',rfl,_,h2,_⟩:=he i _ e;rw[hx]at hv;cases hv;exact#[j,rfl,h0,by omega]
   |_=>simp[wk,e]at h
 |_=>cases h;exact hv
def Al.get{ts:List T}{vs:List V}(h:Al ts vs):vs.length=ts.length/\∀c,QW ts=aa c->∀v∈vs,Has c v:=by
 have len:∀{ts:List T}{vs:List V},Al ts vs->vs.length=ts.length/\∀v∈vs,∃t∈ts,Has t v:=by
  intro ts
  induction ts with
  |nil=>intro vs h;cases h;exact#[rfl,nofun]
  |cons t ts ih=>
   rintro vs ⟨v,ws,rfl,h1,h2⟩
   obtain⟨l,k⟩:=ih h2;refine#[by rw[aO,aO,l],λw hw=>?_]
   rcases az.mp hw with rfl|hw
   .exact#[t,al ..,h1]
   .obtain⟨u,hu,h⟩:=k w hw
    exact#[u,ai _ hu,h]
 obtain⟨l,k⟩:=len h;exact#[l,λc hc v hv=>by obtain⟨t,ht,h⟩:=k v hv;exact Jv hc t ht v h]
def U5{op:Bop}{x y t:T}{v w:V}(hx:Has x v)(hy:Has y w)(h:Gw op x y=aa t)(s:DS):∃z,YF op v w s=.ok z s/\Has t z:=by
 unfold Gw at h;split at h
 .cases h
  obtain⟨i,rfl,_,_⟩:=hx;obtain⟨j,rfl,_,_⟩:=hy;exact#[_,rfl,_,rfl,by omega,by omega]
 .cases h
  obtain⟨i,rfl,_,_⟩:=hx;obtain⟨j,rfl,_,_⟩:=hy;exact#[_,rfl,_,rfl,by omega,by omega]
 .split at h
  .obtain⟨r,hr,rfl⟩:=aR.mp h
   obtain⟨xs,rfl,h1,h2,h3⟩:=hx;obtain⟨ys,rfl,g1,g2,g3⟩:=hy;refine#[.tup<|xs++ys,?_,_,rfl,by rw[a7];omega,by rw[a7];omega,λq hq=>?_]
   .show(if xs.length+ys.length<=lim then _ else _)=_
    rw[T9 (by unfold lim;omega)]
   .rcases da.mp hq with hq|hq
    .exact Xv hr q<|.inl<|h3 q hq
    .exact Xv hr q<|.inr<|g3 q hq
  .cases h
 .split at h
  .obtain⟨r,hr,rfl⟩:=aR.mp h
   obtain⟨xs,rfl,h1,h2,h3⟩:=hx;obtain⟨ys,rfl,g1,g2,g3⟩:=hy;refine#[.lst<|xs++ys,?_,_,rfl,by rw[a7];omega,by rw[a7];omega,λq hq=>?_]
   .show(if xs.length+ys.length<=lim then _ else _)=_
    rw[T9 (by unfold lim;omega)]
   .rcases da.mp hq with hq|hq
    .exact Xv hr q<|.inl<|h3 q hq
    .exact Xv hr q<|.inr<|g3 q hq
  .cases h
 .split at h
  .next c=>
   cases h;obtain⟨xs,rfl,h1,h2,h3⟩:=hx;obtain⟨j,rfl,g1,g2⟩:=hy;obtain⟨x,rfl⟩:=List.length_eq_one_iff.mp (show xs.length=1 by omega)
   refine#[.tup (aB j.toNat [x]).flatten,?_,_,rfl,by simp;omega,by simp;omega,λq hq=>h3 q (by simpa using(List.mem_flatten.mp hq).elim λl hl=>by rw[fH hl.1]at hl;simpa using hl.2)]
   show(if 0<=j/\j<1000/\1<=1000 then _ else _)=_
   rw[T9 #[by omega,by omega,by omega]]
  .cases h
 .split at h
  .next c=>
   cases h;obtain⟨i,rfl,h1,h2⟩:=hx;obtain⟨j,rfl,g1,g2⟩:=hy;refine#[.int<|i*j,?_,_,rfl,Int.mul_nonneg (by omega) (by omega),nF h2 g2 (by omega) (by omega)]
   show(if(fits i&&fits j)=am then _ else _)=_
   rw[Yc (by omega) (by omega),Yc (by omega) (by omega),T9 (by rfl)]
  .cases h
 .split at h
  .next c=>
   cases h;obtain⟨i,rfl,h1,h2⟩:=hx;obtain⟨j,rfl,g1,g2⟩:=hy;have p1:=eG i (show j≠0 by omega)
   have p2:=dQ i (show 0<j by omega)
   refine#[.int<|i%j,?_,_,rfl,p1,by omega]
   show(if 0<j then _ else _)=_
   rw[T9 (by omega)]
  .cases h
 .split at h
  .next c=>
   cases h;obtain⟨c1,c2,c3,c4,c5⟩:=c;obtain⟨i,rfl,h1,h2⟩:=hx;obtain⟨j,rfl,g1,g2⟩:=hy;obtain rfl:i=_:=nk (c1▸h2) h1;obtain rfl:j=_:=nk (c2▸g2) g1;refine#[.int<|i^j.toNat,?_,_,rfl,by omega,by omega]
   show(if 0<=j/\j<=1000/\i.natAbs<2^64 then _ else _)=_
   rw[T9 #[c3,c4,c5]]
  .cases h
 .cases h
def xO{xs:List V}{j:Int}{lo:Nat}{c d:Int}(h:(0<=c/\d<lo)\/(c = -1/\d = -1/\1<=lo))(hl:lo<=xs.length)(h1:c<=j)(h2:j<=d):∃x∈xs,at' xs j=aa x:=by
 unfold at' ixN;by_cases z:0<=j
 .rw[T9 z,T9 (by omega)]
  have hk:j.toNat<xs.length:=by omega
  exact#[xs[j.toNat],aU hk,af hk]
 .rw[T8 z,T9 (by omega)]
  have hk:(j+xs.length).toNat<xs.length:=by omega
  exact#[xs[(j+xs.length).toNat],aU hk,af hk]
def ZcN{x y t:T}{v w:V}(hx:Has x v)(hy:Has y w)(h:ixT x y=aa t):∃z,ixV v w=aa z/\Has t z:=by
 unfold ixT at h;split at h
 .obtain⟨j,rfl,g1,g2⟩:=hy
  cases hx;split at h
  .next c=>
   cases h;obtain rfl:j=0:=by omega
   exact#[_,rfl,_,rfl,e9 _,e9 _]
  .split at h
   .next c=>
    cases h;obtain rfl:j=1:=by omega
    exact#[_,rfl,_,rfl,e9 _,e9 _]
   .cases h
 .split at h
  .next c=>
   cases h;obtain⟨xs,rfl,h1,h2,h3⟩:=hx;obtain⟨j,rfl,g1,g2⟩:=hy;obtain⟨z,hz,e⟩:=xO c h1 g1 g2;exact#[z,e,h3 z hz]
  .cases h
 .split at h
  .next c=>
   cases h;obtain⟨xs,rfl,h1,h2,h3⟩:=hx;obtain⟨j,rfl,g1,g2⟩:=hy;obtain⟨z,hz,e⟩:=xO c h1 g1 g2;exact#[z,e,h3 z hz]
  .cases h
 .cases h
def qD{xs:List V}{lo hi:Option Int}:(Yv xs lo hi).length<=xs.length/\∀x∈Yv xs lo hi,x∈xs:=by
 unfold Yv;exact#[by rw[bn,bq];omega,λx hx=>bP<|cZ hx]
theorem Gc{f:V->DS->PR (List V)}{Q R:V->Prop}(h:∀x s,Q x->∃y s',f x s=.ok [y] s'/\R y):∀(l:List V)(s:DS),(∀x∈l,Q x)->∃ys s',mapP f l s=.ok ys s'/\ys.length=l.length/\∀y∈ys,R y
 |[],s,_=>#[[],s,rfl,rfl,nofun]
 |x::l,s,hl=>by
  obtain⟨y,s1,e1,q1⟩:=h x s<|hl x<|al ..;obtain⟨ys,s2,e2,l2,q2⟩:=Gc h l s1 λz hz=>hl z<|ai _ hz
  refine#[y::ys,s2,?_,by rw[aO,aO,l2],λz hz=>?_]
  .rw[mapP,e1]
   show(match mapP f l s1 with|.ok zs s=>PR.ok ([y]++zs) s|_=>.no)=_
   rw[e2];rfl
  .rcases az.mp hz with rfl|hz
   .exact q1
   .exact q2 z hz
def ZbW{as:List E}{i:Nat}(h:zh as=aa i):∃d,as=[.v d,.blt .len [.v i]]:=by
 unfold zh at h;split at h
 .cases h;exact#[_,rfl]
 .cases h
def jL{Γ:Cx}{as:List E}{ts:List T}{t:T}(h:uB Γ as ts=aa t):∃lo hi,ts=[.drw,.int lo hi]/\0<lo/\hi<1000000/\(t=.int 0 (hi-1)\/∃i l m u,t=.idx i/\zh as=aa i/\(Γ[i]?).join=aa (.tup l m u)):=by
 unfold uB at h;split at h
 .next lo hi=>
  split at h
  .next c=>
   refine#[lo,hi,rfl,c.1,c.2,?_];split at h
   .next i hi=>
    cases h;obtain⟨k,hk,hi⟩:=aD.mp hi;obtain⟨w,hw,hi⟩:=aD.mp hi;cases w with|tup l m u=>cases hi;exact .inr #[_,l,m,u,rfl,hk,hw]|_=>cases hi
   .cases h;exact .inl rfl
  .cases h
 .cases h
section
variable{tk:Nat}{Φ:Sg}{C:Zo}
structure Fine(tk:Nat)(Φ:Sg)(C:Zo):Prop where
 take:∀(m:Int) s,0<m->m<1073741824->∃v s',C tk [.drw,.int m] s=.ok (.int v) s'/\0<=v/\v<m
 call:∀f ts t,f≠tk->Φ f ts=aa t->∀vs s,Al ts vs->∃v s',C f vs s=.ok v s'/\Has t v
variable(F:Fine tk Φ C)
include F
mutual
theorem YS:∀(e:E){Γ:Cx}{O:Env}{t:T}(s:DS),YM Γ O->ty tk Φ Γ e=aa t->∃v s',pv C e O s=.ok v s'/\Hs O t v
 |.c d,Γ,O,t,s,he,h=>by
  rw[pv];cases d with|int i=>rw[ty]at h;cases h;exact#[.int i,s,rfl,i,rfl,e9 _,e9 _]|non=>rw[ty]at h;cases h;exact#[.non,s,rfl,rfl,nofun]|bl b=>rw[ty]at h;cases h;exact#[.bl b,s,rfl,rfl,nofun]|str x=>rw[ty]at h;cases h;exact#[.str x,s,rfl,rfl,nofun]|_=>simp[ty]at h
 |.v i,Γ,O,t,s,he,h=>by
  rw[ty]at h;obtain⟨v,hv,hh⟩:=he i t h;exact#[v,s,Zi hv,hh]
 |.tup es,Γ,O,t,s,he,h=>by
  rw[ty]at h;obtain⟨ts,ht,h⟩:=aD.mp h;obtain⟨vs,s',e,ha⟩:=Wu es s he ht;split at h
  .next c=>
   obtain⟨u,hu,rfl⟩:=aR.mp h;obtain⟨l,k⟩:=ha.get;refine#[.tup vs,s',?_,vs,rfl,by omega,by omega,k u hu]
   rw[pv,e,Za,T9 (by unfold lim;omega)]
  .cases h
 |.lst es,Γ,O,t,s,he,h=>by
  rw[ty]at h;obtain⟨ts,ht,h⟩:=aD.mp h;obtain⟨vs,s',e,ha⟩:=Wu es s he ht;split at h
  .next c=>
   obtain⟨u,hu,rfl⟩:=aR.mp h;obtain⟨l,k⟩:=ha.get;refine#[.lst vs,s',?_,vs,rfl,by omega,by omega,k u hu]
   rw[pv,e,Za,T9 (by unfold lim;omega)]
  .cases h
 |.dnew,Γ,O,t,s,he,h=>by
  rw[ty]at h;cases h;exact#[.dct ae,s,by rw[pv],rfl,nofun]
 |.bin op a b,Γ,O,t,s,he,h=>by
  rw[ty]at h;obtain⟨x,hx,h⟩:=aD.mp h;obtain⟨y,hy,h⟩:=aD.mp h;obtain⟨x',hx',h⟩:=aD.mp h;obtain⟨y',hy',h⟩:=aD.mp h;obtain⟨v,s1,e1,h1⟩:=YS a s he hx;obtain⟨w,s2,e2,h2⟩:=YS b s1 he hy;obtain⟨z,e3,h3⟩:=U5 (zU he h1 hx') (zU he h2 hy') h s2;exact#[z,s2,by rw[pv,e1,Za,e2,Za,e3],Ws h3]
 |.neg a,Γ,O,t,s,he,h=>by
  rw[ty]at h;obtain⟨x,hx,h⟩:=aD.mp h;obtain⟨v,s1,e1,h1⟩:=YS a s he hx;cases x with
  |int lo hi=>
   cases h;obtain⟨i,rfl,g1,g2⟩:=h1;exact#[.int<|-i,s1,by rw[pv,e1];rfl,-i,rfl,by omega,by omega]
  |_=>cases h
 |.ix a i,Γ,O,t,s,he,h=>by
  rw[ty]at h;obtain⟨x,hx,h⟩:=aD.mp h;obtain⟨y,hy,h⟩:=aD.mp h;obtain⟨v,s1,e1,h1⟩:=YS a s he hx;obtain⟨w,s2,e2,h2⟩:=YS i s1 he hy;have fin:∀z,ixV v w=aa z->pv C (.ix a i) O s=.ok z s2:=λz hz=>by rw[pv,e1,Za,e2,Za,hz];rfl
  have nx:∀c d,y=.int c d->∃v s',pv C (.ix a i) O s=.ok v s'/\Hs O t v:=by
   rintro c d rfl
   have h:ixT x (.int c d)=aa t:=h;have h1':Has x v:=by
    cases x with|idx _=>cases h|_=>exact h1
   obtain⟨z,e,hz⟩:=ZcN h1' h2 h;exact#[z,s2,fin z e,Ws hz]
  cases y with
  |idx k=>
   cases x with
   |tup lo hi u=>
    have h:(if ZcG a k=am then aa u else ae)=aa t:=h
    split at h
    .next c=>
     cases h;cases a with
     |v j=>
      obtain rfl:j=k:=T6 c;obtain⟨q,xs,rfl,hq,q0,q1⟩:=h2;rw[Zi hq]at e1;cases e1;obtain⟨ys,ey,_,_,h3⟩:=h1;cases ey;obtain⟨z,hz,e⟩:=xO (xs:=xs) (j:=q) (lo:=xs.length) (c:=0) (d:=q) (.inl #[by omega,q1]) (aA _) q0<|e9 _
      exact#[z,s2,fin z e,Ws<|h3 z hz]
     |_=>cases c
    .cases h
   |_=>cases h
  |int c d=>exact nx c d rfl
  |_=>cases x<;>cases h
 |.sl a lo hi,Γ,O,t,s,he,h=>by
  rw[ty]at h;obtain⟨x,hx,h⟩:=aD.mp h;obtain⟨v,s1,e1,h1⟩:=YS a s he hx;split at h
  .next c=>
   obtain⟨c1,c2⟩:=(aG _ _).mp c;obtain⟨o1,s2,e2⟩:=uc lo s1 he c1;obtain⟨o2,s3,e3⟩:=uc hi s2 he c2;cases x with
   |tup l m u=>
    cases h;obtain⟨xs,rfl,g1,g2,g3⟩:=h1;have cm:=qD (xs:=xs) (lo:=o1) (hi:=o2);exact#[.tup<|Yv xs o1 o2,s3,by rw[pv,e1,Za,e2,Za,e3];rfl,_,rfl,cJ _,bU cm.1 g2,λq hq=>g3 q<|cm.2 q hq]
   |_=>cases h
  .cases h
 |.rev a,Γ,O,t,s,he,h=>by
  rw[ty]at h;obtain⟨x,hx,h⟩:=aD.mp h;obtain⟨v,s1,e1,h1⟩:=YS a s he hx;cases x with
  |tup l m u=>
   cases h;obtain⟨xs,rfl,g1,g2,g3⟩:=h1;exact#[.tup xs.reverse,s1,by rw[pv,e1];rfl,_,rfl,by rw[fz];exact g1,by rw[fz];exact g2,λq hq=>g3 q<|dL.mp hq]
  |_=>cases h
 |.blt f as,Γ,O,t,s,he,h=>by
  rw[ty]at h;obtain⟨ts,ht,h⟩:=aD.mp h;obtain⟨vs,s',e,ha⟩:=Wu as s he ht;unfold Zdg at h;split at h
  .cases h
   obtain⟨v,ws,rfl,⟨xs,rfl,g1,g2,g3⟩,rfl⟩:=ha;exact#[.int xs.length,s',by rw[pv,e];rfl,_,rfl,by omega,by omega]
  .cases h
   obtain⟨v,ws,rfl,⟨xs,rfl,g1,g2,g3⟩,rfl⟩:=ha;exact#[.int xs.length,s',by rw[pv,e];rfl,_,rfl,by omega,by omega]
  .cases h
   obtain⟨v,ws,rfl,⟨xs,rfl,g1,g2,g3⟩,rfl⟩:=ha;exact#[.tup xs,s',by rw[pv,e];rfl,_,rfl,g1,g2,g3]
  .cases h
   obtain⟨v,ws,rfl,⟨xs,rfl,g1,g2,g3⟩,rfl⟩:=ha;exact#[.lst xs,s',by rw[pv,e];rfl,_,rfl,g1,g2,g3]
  .cases h
 |.call f as,Γ,O,t,s,he,h=>by
  rw[ty]at h;obtain⟨ts,ht,h⟩:=aD.mp h;obtain⟨vs,s',e,ha⟩:=Wu as s he ht;by_cases hf:f=tk
  .rw[T9 hf]at h
   obtain⟨lo,hi,rfl,c1,c2,c3⟩:=jL h;obtain⟨v1,w1,rfl,h1,v2,w2,rfl,⟨m,rfl,m0,m1⟩,h3⟩:=ha;cases h1;cases h3;obtain⟨v,s2,e2,g1,g2⟩:=F.take m s' (by omega) (by omega)
   have ev:pv C (.call f as) O s=.ok (.int v) s2:=by rw[pv,e,hf];exact e2
   rcases c3 with rfl|⟨i,l,k,u,rfl,hk,hw⟩
   .exact#[_,s2,ev,v,rfl,g1,by omega]
   .obtain⟨x,hx,xs,rfl,_⟩:=he i _ hw
    have em:m=xs.length:=by
     obtain⟨d,rfl⟩:=ZbW hk;have e0:∀s,pv C (.blt .len [.v i]) O s=.ok (.int xs.length) s:=λs=>by rw[pv,Zc (Zi hx) Zf];rfl
     rw[pvs]at e;cases q:pv C (.v d) O s with|ok a s3=>rw[q,Za,Zc (e0 s3) Zf,Za]at e;cases e;rfl|ex _ _=>rw[q]at e;cases e|no=>rw[q]at e;cases e
    subst em;exact#[_,s2,ev,v,xs,rfl,hx,g1,g2]
  .rw[T8 hf]at h
   obtain⟨v,s2,e2,hv⟩:=F.call f ts t hf h vs s' ha;exact#[v,s2,by rw[pv,e];exact e2,Ws hv]
 |.comp1 cap nl tg it ifs elt,Γ,O,t,s,he,h=>by
  rw[ty]at h;split at h
  .next c=>
   obtain⟨rfl,rfl,hi0⟩:=c;obtain rfl:=mP.mp hi0;obtain⟨x,hx,h⟩:=aD.mp h;cases x with
   |tup lo hi u=>
    by_cases c2:hi<=1000
    .have h:(if hi<=1000 then(ty tk Φ (aa u::cap.map (GV Γ)) elt).bind (ZbG lo hi)else ae)=aa t:=h
     rw[T9 c2]at h;obtain⟨r,hr,h⟩:=aD.mp h;obtain⟨xs,s1,e1,g1,g2,g3⟩:=Zbv it s he hx;have hl:t=.lst lo hi r/\∀U v,Hs U r v->Has r v:=by
      cases r with|idx _=>cases h|_=>cases h;exact#[rfl,λ_ _ q=>q]
     obtain⟨rfl,hr2⟩:=hl;have env:∀x,Has u x->YM (aa u::cap.map (GV Γ)) (aa x::cap.map λi=>(O[i]?).join):=λx hx i t ht=>by
      cases i with
      |zero=>cases ht;exact#[x,rfl,Ws hx]
      |succ i=>
       have ht:((cap.map<|GV Γ)[i]?).join=aa t:=ht;rw[aH]at ht;cases q:cap[i]? with
       |none=>rw[q]at ht;cases ht
       |some k=>
        rw[q]at ht;have ht:GV Γ k=aa t:=ht;unfold GV at ht;obtain⟨ht,hn⟩:=fv.mp ht;obtain⟨v,hv,hh⟩:=he k t ht;refine#[v,?_,?_]
        .show(cap.map λi=>(O[i]?).join)[i]?=_
         rw[aH,q];show aa (O[k]?).join=_;rw[hv];rfl
        .cases t with|idx _=>cases hn|_=>exact hh
     obtain⟨ys,s2,e2,l2,h2⟩:=Gc (f:=λx s=>(po (Ze [0] x<|ZP cap 1 O) s).bind λU s=>(pvt C [] U s).bind λb s=>if b then(pv C elt U s).bind λy s=>.ok [y] s else .ok [] s) (Q:=Has u) (R:=Has r) (λx s hx=>by
      obtain⟨y,s',e,hy⟩:=YS elt s (env x hx) hr;refine#[y,s',?_,hr2 _ _ hy];have ea:Ze [0] x (ZP cap 1 O)=aa (aa x::cap.map λi=>(O[i]?).join):=rfl
      rw[ea,ZI,Za,pvt,Za,T9 rfl,e];rfl) xs s1 g3
     refine#[.lst ys,s2,?_,ys,rfl,by omega,by omega,h2]
     rw[pv,T9 (by rfl),e1,Za,e2,Za,T9 (by unfold lim;omega)];rfl
    .have h:(if hi<=1000 then(ty tk Φ (aa u::cap.map (GV Γ)) elt).bind (ZbG lo hi)else ae)=aa t:=h
     rw[T8 c2]at h;cases h
   |_=>cases h
  .cases h
 |.dput1 _ _,_,_,_,_,_,h|.not _,_,_,_,_,_,h|.and _ _,_,_,_,_,_,h|.or _ _,_,_,_,_,_,h|.ite _ _ _,_,_,_,_,_,h|.cmp _ _ _,_,_,_,_,_,h|.chain _ _ _ _ _,_,_,_,_,_,h|.mt _ _ _,_,_,_,_,_,h|.isi _ _,_,_,_,_,_,h|.inT _ _,_,_,_,_,_,h|.getT _ _,_,_,_,_,_,h|.comp2 _ _ _ _ _ _ _ _ _,_,_,_,_,_,h|.fi _,_,_,_,_,_,h|.refu _ _,_,_,_,_,_,h|.dix _ _,_,_,_,_,_,h|.callF _ _,_,_,_,_,_,h=>by simp[ty]at h
theorem Wu:∀(es:List E){Γ:Cx}{O:Env}{ts:List T}(s:DS),YM Γ O->tys tk Φ Γ es=aa ts->∃vs s',pvs C es O s=.ok vs s'/\Al ts vs
 |[],Γ,O,ts,s,he,h=>by rw[tys]at h;cases h;exact#[[],s,Zf,rfl]
 |e::es,Γ,O,ts,s,he,h=>by
  rw[tys]at h;obtain⟨t,ht,h⟩:=aD.mp h;obtain⟨u,hu,h⟩:=aD.mp h;obtain⟨us,hus,rfl⟩:=aR.mp h;obtain⟨v,s1,e1,h1⟩:=YS e s he ht;obtain⟨vs,s2,e2,h2⟩:=Wu es s1 he hus;exact#[v::vs,s2,Zc e1 e2,v,vs,rfl,zU he h1 hu,h2]
theorem Zbv:∀(w:W){Γ:Cx}{O:Env}{lo hi:Nat}{u:T}(s:DS),YM Γ O->tyw tk Φ Γ w=aa (.tup lo hi u)->∃xs s',pvw C w O s=.ok xs s'/\lo<=xs.length/\xs.length<=hi/\∀x∈xs,Has u x
 |.of e,Γ,O,lo,hi,u,s,he,h=>by
  rw[tyw]at h;obtain⟨v,s1,e1,xs,rfl,g1,g2,g3⟩:=YS e s he h;exact#[xs,s1,by rw[pvw,e1];rfl,g1,g2,g3]
 |.rng1 _,_,_,_,_,_,_,_,h|.rng2 _ _,_,_,_,_,_,_,_,h|.zip _ _,_,_,_,_,_,_,_,h|.enum _,_,_,_,_,_,_,_,h|.rrng _ _,_,_,_,_,_,_,_,h|.rtup _,_,_,_,_,_,_,_,h|.dk _,_,_,_,_,_,_,_,h=>by simp[tyw]at h
theorem uc:∀(o:Option E){Γ:Cx}{O:Env}(s:DS),YM Γ O->tyo tk Φ Γ o=am->∃r s',pvo C o O s=.ok r s'
 |none,Γ,O,s,he,h=>#[ae,s,by rw[pvo]]
 |some e,Γ,O,s,he,h=>by
  rw[tyo]at h;split at h
  .next t ht=>
   obtain⟨v,s1,e1,h1⟩:=YS e s he ht;cases t with|int lo hi=>obtain⟨i,rfl,_⟩:=h1;exact#[aa i,s1,by rw[pvo,e1];rfl]|idx k=>obtain⟨i,_,rfl,_⟩:=h1;exact#[aa i,s1,by rw[pvo,e1];rfl]|_=>cases h
  .cases h
end
end
noncomputable def qd(Γ:Cx)(i:Nat)(t:T):Cx:=(Γ.map λo=>o.filter λu=>match u with|.idx k=>ag<|k≠i|_=>am).set i<|aa t
noncomputable def Zdu(tk:Nat)(Φ:Sg)(Γ:Cx):E->Option (Cx×Cx)
 |.cmp .eq (.v i) (.tup [])=>match(Γ[i]?).join with
  |some (.tup lo hi t)=>aa (Γ.set i<|aa<|.tup 0 0 t,Γ.set i<|aa<|.tup (max lo 1) hi t)
  |_=>ae
 |.cmp .lt a b=>(tys tk Φ Γ [a,b]).bind λts=>match ts with
  |[.int _ _,.int _ _]=>aa (Γ,Γ)
  |_=>ae
 |_=>ae
noncomputable def okT(Γ:Cx)(t:T):Bool:=match(wk Γ t).bind xq with
 |some m=>ag<|m<=1000
 |none=>aj
noncomputable def Zcn(t:T)(i:Nat):Bool:=match t with
 |.idx k=>ag<|k≠i
 |_=>am
noncomputable def chk(tk:Nat)(Φ:Sg):Nat->Cx->List Sm->Bool
 |n+1,Γ,.asg [i] e::ss=>match ty tk Φ Γ e with
  |some t=>ag (i<Γ.length)&&(Zcn t i&&chk tk Φ n (qd Γ i t) ss)
  |none=>aj
 |_+1,Γ,.ret e::_=>match ty tk Φ Γ e with
  |some t=>okT Γ t
  |none=>aj
 |n+1,Γ,.ite c a []::ss=>match Zdu tk Φ Γ c with
  |some (Γ1,Γ2)=>chk tk Φ n Γ1 a&&chk tk Φ n Γ2 ss
  |none=>aj
 |_,_,_=>aj
def ZbB{Γ:Cx}{O:Env}{i:Nat}{t:T}{v:V}(he:YM Γ O)(hl:O.length=Γ.length)(hi:i<Γ.length)(hn:Zcn t i=am)(hv:Hs O t v):YM (qd Γ i t) (O.set i<|aa v):=by
 have st:∀{t:T}{w:V},Zcn t i=am->Hs O t w->Hs (O.set i<|aa v) t w:=λ{t w} hn h=>by
  cases t with
  |idx k=>
   obtain⟨j,xs,e,hx,h1⟩:=h;exact#[j,xs,e,by rw[aY<|Ne.symm<|T6 hn];exact hx,h1]
  |_=>exact h
 intro j u hu;unfold qd at hu;by_cases c:i=j
 .subst c
  rw[bw<|by rw[ay];exact hi]at hu
  cases hu;exact#[v,bw (by omega),st hn hv]
 .rw[aY c,aH]at hu
  rw[aY c];cases q:Γ[j]? with
  |none=>rw[q]at hu;cases hu
  |some o=>
   rw[q]at hu;obtain⟨hu,hk⟩:=fv.mp (show o.filter _=aa u from hu)
   obtain⟨w,hw,hh⟩:=he j u (by rw[q,hu];rfl)
   refine#[w,hw,st ?_ hh];cases u with|idx k=>exact hk|_=>rfl
def ZaL{Γ:Cx}{O:Env}{i:Nat}{t:T}{v:V}(he:YM Γ O)(hv:O[i]?=aa (aa v))(h:Has t v):YM (Γ.set i<|aa t) O:=by
 intro j u hu;by_cases c:i=j
 .subst c
  by_cases z:i<Γ.length
  .rw[bw z]at hu;cases hu;exact#[v,hv,Ws h]
  .rw[br<|by rw[bx];omega]at hu;cases hu
 .rw[aY c]at hu;exact he j u hu
section
variable{tk:Nat}{Φ:Sg}{C:Zo}
def chk_ok(F:Fine tk Φ C):∀(n:Nat){Γ:Cx}{O:Env}{ss:List Sm}(s:DS),chk tk Φ n Γ ss=am->YM Γ O->O.length=Γ.length->∃v s',rvs C [] ss O [] s=.ok (.ret v) s'/\Th 1000 v:=by
 intro n
 induction n with
 |zero=>intro Γ O ss s h;simp[chk]at h
 |succ n ih=>
  intro Γ O ss s h he hl;unfold chk at h;split at h
  .next n' i e ss' en=>
   cases en;split at h
   .next t ht=>
    obtain⟨h1,h2⟩:=(aG _ _).mp h;obtain⟨h2,h3⟩:=(aG _ _).mp h2;obtain⟨v,s1,e1,hv⟩:=YS F e s he ht;have h1:=T6 h1;obtain⟨w,s2,e2,hw⟩:=ih s1 h3 (ZbB he hl h1 h2 hv) (by unfold qd;rw[bx,bx,ay];exact hl)
    exact#[w,s2,by rw[Zs<|XO e1 rfl];exact e2,hw]
   .cases h
  .next n' e ss' en=>
   split at h
   .next t ht=>
    obtain⟨v,s1,e1,hv⟩:=YS F e s he ht;refine#[v,s1,Zm<|ZZ e1,?_];unfold okT at h;split at h
    .next m hm=>
     obtain⟨u,hu,hm⟩:=aD.mp hm;exact(Wb hm<|zU he hv hu).le<|T6 h
    .cases h
   .cases h
  .next n' c a ss' en=>
   cases en;split at h
   .next Γ1 Γ2 hr=>
    obtain⟨h1,h2⟩:=(aG _ _).mp h;have key:∃b s1,Xz C c O s=.ok b s1/\(b=am->YM Γ1 O/\Γ1.length=O.length)/\(b=aj->YM Γ2 O/\Γ2.length=O.length):=by
     unfold Zdu at hr;split at hr
     .next i=>
      split at hr
      .next lo hi t hg=>
       cases hr;obtain⟨v,hv,xs,rfl,g1,g2,g3⟩:=he i _ hg;have e0:pv C (.cmp .eq (.v i)<|.tup []) O s=.ok (.bl xs.isEmpty) s:=by
        rw[pv,Zi hv,Za,pv,Zf];cases xs<;>rfl
       refine#[xs.isEmpty,s,Ys e0 rfl,λb=>#[ZaL he hv #[xs,rfl,cJ _,by rw[mP.mp b];exact aA _,g3],by rw[bx,hl]],λb=>#[ZaL he hv #[xs,rfl,?_,g2,g3],by rw[bx,hl]]]
       cases xs with|nil=>cases b|cons _ _=>rw[aO]at *;omega
      .cases hr
     .next a' b'=>
      obtain⟨ts,ht,hr⟩:=aD.mp hr;split at hr
      .cases hr
       obtain⟨vs,s1,e1,v,w1,rfl,⟨x,rfl,_⟩,w,w2,rfl,⟨y,rfl,_⟩,z⟩:=Wu F [a',b'] s he ht;cases z;refine#[ag<|x<y,s1,?_,λ_=>#[he,hl.symm],λ_=>#[he,hl.symm]]
       refine Ys (v:=.bl<|ag<|x<y) ?_ rfl;rw[pvs]at e1;cases q:pv C a' O s with
       |ok v1 t1=>
        rw[q,Za,pvs]at e1;cases q2:pv C b' O t1 with
        |ok v2 t2=>
         rw[q2,Za,Zf,Za,Za]at e1;cases e1;rw[pv,q,Za,q2];rfl
        |ex _ _=>rw[q2]at e1;cases e1
        |no=>rw[q2]at e1;cases e1
       |ex _ _=>rw[q]at e1;cases e1
       |no=>rw[q]at e1;cases e1
      .cases hr
     .cases hr
    obtain⟨b,s1,e1,k1,k2⟩:=key;cases b with
    |true=>
     obtain⟨w,s2,e2,hw⟩:=ih s1 h1 (k1 rfl).1 (k1 rfl).2.symm;exact#[w,s2,Zm ((Xi e1).trans (by rw[T9 rfl];exact e2)),hw]
    |false=>
     obtain⟨w,s2,e2,hw⟩:=ih s1 h2 (k2 rfl).1 (k2 rfl).2.symm;exact#[w,s2,by rw[Zs<|(Xi e1).trans (by rw[T8 (by simp),rvs])];exact e2,hw]
   .cases h
  .cases h
end
end Ab
namespace K12
open Ev Pv Rw La
open Ab (okV Xy)
theorem VQ:∀{xs:List V},Xy xs=am->∀x∈xs,okV x=am
 |[],_,x,h=>by cases h
 |y::xs,h,x,m=>by
  obtain⟨h1,h2⟩:=(aG _ _).mp h;rcases az.mp m with rfl|m
  .exact h1
  .exact VQ h2 x m
noncomputable def isW(x:V)(lo hi:Int):Bool:=match x with
 |.int i=>ag (lo<=i)&&ag (i<=hi)
 |_=>aj
def x8{x:V}{lo hi:Int}(h:∀i,x≠.int i):isW x lo hi=aj:=by
 cases x with|int i=>exact T7 rfl<|h i|_=>rfl
def ur{x:V}(hx:okV x=am):(∃i,x=.int i)\/(∃b,x=.bl b)\/Z6 x [.int]=aa aj/\∀i,x≠.int i:=by
 cases x with
 |int i=>exact .inl #[i,rfl]
 |bl b=>exact .inr<|.inl #[b,rfl]
 |drw=>cases hx
 |scr _=>cases hx
 |dow _=>cases hx
 |dct o=>cases o with|none=>exact .inr<|.inr #[rfl,nofun]|some _=>cases hx
 |_=>exact .inr<|.inr #[rfl,nofun]
def Vk{x:V}(hx:okV x=am):(∃xs,x=.tup xs)\/Z6 x [.tuple]=aa aj/\∀xs,x≠.tup xs:=by
 cases x with
 |tup xs=>exact .inl #[xs,rfl]
 |drw=>cases hx
 |scr _=>cases hx
 |dow _=>cases hx
 |dct o=>cases o with|none=>exact .inr #[rfl,nofun]|some _=>cases hx
 |_=>exact .inr #[rfl,nofun]
def wC(d:Nat){x:V}{lo hi:Int}(s:DS)(hx:okV x=am):CV (d+1) 14 [x,.int lo,.int hi] s=.ok (.bl<|isW x lo hi) s:=by
 refine ZC rfl (by decide) rfl ?_
 rcases ur hx with⟨i,rfl⟩|⟨b,rfl⟩|⟨ha,no⟩
 .by_cases h:lo<=i
  .simp[Yt,pvE,isW,Z6,Y4,h]
  .simp[Yt,pvE,isW,Z6,Y4,h]
 .simp[Yt,pvE,isW,Z6,Y4]
 .rw[x8 no]
  simp[Yt,pvE,ha]
noncomputable def ZA(p n:Nat)(x:V):Bool:=match x with
 |.tup xs=>ag (xs.length=n)&&xs.all λv=>isW v 0<|(p:Int)-1
 |_=>aj
def Zcb{p n:Nat}{x:V}(h:∀xs,x≠.tup xs):ZA p n x=aj:=by
 cases x with|tup xs=>exact T7 rfl<|h xs|_=>rfl
theorem XV{p:Nat}:∀{xs:List V},(xs.all λv=>isW v 0<|(p:Int)-1)=am->∃r:Row,xs=r.map .int/\∀a∈r,0<=a/\a<(p:Int)
 |[],_=>#[[],rfl,λ_ h=>by cases h]
 |x::xs,h=>by
  rw[fD,aG]at h;obtain⟨r,rfl,hr⟩:=XV h.2;cases x with
  |int i=>
   have:=h.1;simp only[isW,aG,T0]at this;refine#[i::r,rfl,λa ha=>?_]
   rcases az.mp ha with rfl|ha
   .lia
   .exact hr a ha
  |_=>cases h.1
def Zbx{p n:Nat}{x:V}(h:ZA p n x=am):∃r:Row,x=Zb r/\Zd p n r:=by
 cases x with
 |tup xs=>
  unfold ZA at h;rw[aG,T0]at h;obtain⟨r,rfl,hr⟩:=XV h.2;exact#[r,rfl,by simpa using h.1,hr]
 |_=>cases h
def Zcv{p n:Nat}{r:Row}(hr:Zd p n r):ZA p n (Zb r)=am:=by
 unfold ZA Zb;rw[aG,T0,ay];refine#[hr.1,a8.mpr λv hv=>?_]
 obtain⟨a,ha,rfl⟩:=aS.mp hv;have:=hr.2 a ha;simp only[isW,aG,T0];lia
theorem zJ:∀r:Row,Xy (r.map .int)=am
 |[]=>rfl
 |a::r=>zJ r
def ZbX(r:Row):okV (Zb r)=am:=zJ r
section
variable{p n:Nat}[Base p]
theorem qL(d:Nat){x:V}(s:DS)(hn:n<=6)(hx:okV x=am):CV (d+2) 15 [spV p n,x] s=.ok (.bl<|ZA p n x) s:=by
 refine ZC rfl (by decide) rfl ?_
 dsimp only[JI]
 rw[Zs<|xu (p:=p) (n:=n) _ _ (by simp[pvE]) (by simp)]
 rcases Vk hx with⟨xs,rfl⟩|⟨ha,no⟩
 ·
  by_cases hl:xs.length=n
  .rw[Zs (ρ':=[aa<|spV p n,aa<|.tup xs,aa<|.int p,aa<|.int n]) (os':=[]) (s':=s) (by simp[pvE,Z6,Y4,Zw,hl])]
   refine Zm<|ZZ ?_;have hc:=Yg (C:=CV<|d+1) (cap:=[2]) (nl:=1) (t:=[0]) (it:=.of<|.v 1) (elt:=.call 14 [(.v 0),(.c<|.int 0),(.bin .sub (.v 1)<|.c<|.int 1)]) (O:=[aa<|spV p n,aa<|.tup xs,aa<|.int p,aa<|.int n]) (s:=s) (l:=xs) (e:=id) (g:=λv=>V.bl<|isW v 0<|(p:Int)-1)
    (by simp[pvE]) (by unfold lim;lia) (λv hv=>#[_,rfl,by
     have e:=wC d (lo:=0) (hi:=(p:Int)-1) s<|VQ hx v hv;simp[pvE,e]])
   have ht:=Yd (g:=λv:V=>isW v 0<|(p:Int)-1) xs
   simp[pvE,hc,ht,ZA,hl]
  .refine Zm ?_
   simp[pvE,Z6,Y4,Zw,ZA,hl];lia
 .rw[Zcb no]
  exact Zm (by simp[pvE,ha])
theorem yG(d:Nat){hs:List Nat}(s:DS)(hl:hs.length<=1000):CV (d+1) 11 [.lst<|hs.map Zh] s=.ok (.bl<|rise hs) s:=by
 refine ZC rfl (by decide) rfl ?_
 have ez:∀(a b:List Nat),((a.map Zh).zip<|b.map Zh).map (λq=>V.tup [q.1,q.2])=(a.zip b).map λq=>V.tup [Zh q.1,Zh q.2]:=by
  intro a
  induction a with
  |nil=>intro b;rfl
  |cons x a ih=>intro b;cases b with|nil=>rfl|cons y b=>simp only[bf,cM];rw[ih]
 have hc:=Yg (C:=CV d) (cap:=[]) (nl:=2) (t:=[0,1]) (it:=.zip (.v 0)<|.sl (.v 0) (aa<|.c<|.int 1) ae) (elt:=.cmp .lt (.v 0)<|.v 1) (O:=[aa<|.lst<|hs.map Zh]) (s:=s) (l:=hs.zip hs.tail) (g:=λq=>V.bl<|ag<|q.1<q.2)
  (by
   have e1:Yv (hs.map Zh) (aa 1) ae=hs.tail.map Zh:=by rw[wP,nT]
   simp[pvE,slV,e1];rw[<-nT,ez]) (by rw[gK];unfold lim;lia) (λq hq=>#[_,rfl,by simp[pvE,Zh]])
 have ht:=Yd (g:=λq:Nat×Nat=>ag<|q.1<q.2)<|hs.zip hs.tail
 simp[WO,pvE,hc,ht,rise]
theorem Gh(d:Nat){R:List Row}{k:Nat}(s:DS)(hl:R.length<=1000)(hk:∀r∈R,k<r.length):CV (d+1) 12 [Zr R,.int k] s=.ok (.bl<|R.all λr=>ag<|gt r k=0) s:=by
 refine ZC rfl (by decide) rfl ?_
 have hc:=Yg (C:=CV d) (cap:=[1]) (nl:=1) (t:=[0]) (it:=.of<|.v 0) (elt:=.cmp .eq (.ix (.v 0)<|.v 1)<|.c<|.int 0) (O:=[aa<|Zr R,aa<|.int k]) (s:=s) (l:=R) (e:=Zb) (g:=λr=>V.bl<|ag<|gt r k=0)
  (by simp[pvE,Zr]) (by unfold lim;lia) (λr hr=>#[_,rfl,by
   have:=GA<|hk r hr;simp[pvE,Zb,this,Zw]])
 have ht:=Yd (g:=λr:Row=>ag<|gt r k=0) R
 simp[XW,pvE,hc,ht]
theorem UU(d:Nat){R:List Row}{i k:Nat}(s:DS)(hR:∀r∈R,Zd p n r)(hl:R.length<=1000)(hi:i<R.length)(hk:k<n):CV (d+2) 13 [Zr R,Zh i,Zh k] s=.ok (.bl<|WG R i k) s:=by
 refine ZC rfl (by decide) rfl ?_
 show rvs (CV<|d+1) [] Xk.body [aa<|Zr R,aa<|.int i,aa<|.int k] [] s=_;have hrow:=hR _<|aU hi;have e1:at' (R.map Zb) (i:Int)=aa (Zb R[i]):=QD (by rw[aH,af hi];rfl)
 have e2:=GA (by rw[hrow.1];exact hk)
 have e3:=Gh d (R:=R.take i++R.drop (i+1)) s (by rw[a7,bn,bq];lia) (λr hr=>by
  obtain⟨j,hj,ne,rfl⟩:=Uj hr;rw[(hR _<|aU hj).1];exact hk)
 have c1:Yv (R.map Zb) ae (aa (i:Int))=(R.take i).map Zb:=by rw[Zbh (by rw[ay];lia),List.map_take]
 have c2:Yv (R.map Zb) (aa<|(i:Int)+1) ae=(R.drop<|i+1).map Zb:=by rw[JO (k:=i+1) (by lia) (by rw[ay];lia),List.map_drop]
 have g0:pv (CV<|d+1) (.ix (.ix (.v 0)<|.v 1)<|.v 2) [aa<|Zr R,aa<|.int i,aa<|.int k] s=.ok (.int<|gt R[i] k) s:=by
  rw[pv,pv,Zi rfl,Za,Zi rfl,Za];show((po (at' (R.map Zb) (i:Int)) s).bind _)=_;rw[e1,ZI,Za,Zi rfl,Za];show po (at' (R[i].map V.int) (k:Int)) s=_;rw[e2];rfl
 have g1:pv (CV<|d+1) (.cmp .eq (.ix (.ix (.v 0)<|.v 1)<|.v 2)<|.c<|.int 1) [aa<|Zr R,aa<|.int i,aa<|.int k] s=.ok (.bl<|ag<|gt R[i] k=1) s:=by
  rw[pv,g0,Za];simp[pvE,ofD,Zw]
 have g2:pv (CV<|d+1) (.bin .add (.sl (.v 0) ae<|aa<|.v 1)<|.sl (.v 0) (aa<|.bin .add (.v 1)<|.c<|.int 1) ae) [aa<|Zr R,aa<|.int i,aa<|.int k] s=.ok (Zr<|R.take i++R.drop (i+1)) s:=by
  have c3:(R.take i).length+(R.drop<|i+1).length<=16777216:=by rw[bn,bq];lia
  rw[bn,bq]at c3;simp[pvE,Zr,slV,c1,c2,c3]
 have g3:=ZR (Zc g2<|Zc (Zi (i:=2) rfl) Zf) e3;refine Zm<|ZZ ?_;rw[pv,g1,Za];unfold WG;rw[Qk hi];cases ag (gt R[i] k=1)with|true=>exact g3|false=>rfl
theorem zi:∀R:List Row,XD .non (R.map λr=>V5<|hdI r)=aa (!(R.all λr=>(hdI r).isSome))
 |[]=>rfl
 |r::R=>by
  show(match eqV Zw (V5<|hdI r) .non,XD .non (R.map λr=>V5<|hdI r)with|some a,aa b=>aa (a||b)|_,_=>ae)=_
  rw[zi R,fD];cases hdI r with|none=>simp[V5,eqV,Zw]|some k=>simp[V5,eqV,Zw]
def vq{R:List Row}(h:(R.all λr=>(hdI r).isSome)=am):R.map (λr=>V5<|hdI r)=(Zt R).map Zh:=by
 unfold Zt;rw[cG];refine cU λr hr=>?_
 obtain⟨k,hk⟩:=bK.mp<|a8.mp h r hr;show V5 (hdI r)=Zh ((hdI r).getD 0);rw[hk];rfl
theorem xM(d:Nat){R:List Row}(s:DS)(hn:n<=6)(hR:∀r∈R,Zd p n r)(hl:R.length<=1000):rvs (CV<|d+2) [] (WI.body.drop 1) [aa<|spV p n,aa<|Zr R,ae] [] s=.ok (.ret<|.bl<|X4 R) s:=by
 show rvs _ _ (.asg [2] (.comp1 [] 1 [0] (.of<|.v 1) []<|.call 10 [(.v 0)]) ::
  .ite (.or (.cmp .inn (.c .non)<|.v 2)<|.not<|.call 11 [(.v 2)]) [.ret<|.c<|.bl aj] [] ::
  .ret (.blt .all [(.comp1 [1] 2 [0,1] (.enum<|.v 2) []<|.call 13 [(.v 2),(.v 0),(.v 1)])])::[]) _ _ _=_
 have hc2:=Yg (C:=CV<|d+2) (cap:=[]) (nl:=1) (t:=[0]) (it:=.of<|.v 1) (elt:=.call 10 [(.v 0)]) (O:=[aa<|spV p n,aa<|Zr R,ae]) (s:=s) (l:=R) (e:=Zb) (g:=λr=>V5<|hdI r)
  (by simp[pvE,Zr]) (by unfold lim;lia) (λx hx=>#[_,rfl,by
   have e:=j9 (d+1) x s;simp[pvE,e]])
 rw[Zs (ρ':=[aa<|spV p n,aa<|Zr R,aa<|.lst<|R.map λr=>V5<|hdI r]) (os':=[]) (s':=s) (by simp[pvE,hc2])]
 have hin:=zi R;unfold X4;cases hh:R.all λr=>(hdI r).isSome with
 |false=>
  rw[hh]at hin;exact Zm (by simp[pvE,WW,hin])
 |true=>
  rw[hh]at hin;rw[vq hh]at hin ⊢;have hln:(Zt R).length=R.length:=by unfold Zt;rw[ay]
  have e3:=yG (d+1) (hs:=Zt R) s (by lia)
  cases hr:rise (Zt R)with
  |false=>
   rw[hr]at e3;exact Zm (by simp[pvE,WW,hin,e3])
  |true=>
  rw[hr]at e3;rw[Zs (ρ':=[aa<|spV p n,aa<|Zr R,aa<|.lst<|(Zt R).map Zh]) (os':=[]) (s':=s) (by simp[pvE,WW,hin,e3])]
  refine Zm<|ZZ ?_;have ew:((ZS 0 (Zt R).length).zip<|(Zt R).map Zh).map (λq=>V.tup [q.1,q.2])=(aK R.length).map λi=>V.tup [Zh i,Zh<|(Zt R).getD i 0]:=by
   apply gn
   .simp[ZS,hln]
   .intro i h1 h2
    have h3:i<R.length:=by simpa using h2
    have h4:i<(Zt R).length:=by lia
    simp[ZS,Zh,h4]
  have hc3:=Yg (cap:=[1]) (nl:=2) (t:=[0,1]) (elt:=.call 13 [(.v 2),(.v 0),(.v 1)]) (l:=aK R.length)
   (by
    have:pvw (CV<|d+2) (.enum<|.v 2) [aa<|spV p n,aa<|Zr R,aa<|.lst<|(Zt R).map Zh] s=.ok (((ZS 0 ((Zt R).map Zh).length).zip<|(Zt R).map Zh).map λq=>V.tup [q.1,q.2]) s:=by simp[pvE]
    rw[this,ay,ew]) (by rw[bG];unfold lim;lia) (λi hi=>#[_,rfl,by
    have hi':=aQ.mp hi;have hk:(Zt R).getD i 0<n:=by
     rw[Vl hi'];obtain⟨k,hk⟩:=bK.mp<|a8.mp hh _<|aU hi';rw[hk,<-(hR _<|aU hi').1];exact(ZT hk).2.1
    exact ZR (Zc (Zi rfl)<|Zc (Zi rfl)<|Zc (Zi rfl) Zf)<|UU d s hR hl hi' hk])
  have ht3:=Yd (g:=λi:Nat=>WG R i<|(Zt R).getD i 0)<|aK R.length
  rw[pv,Zc hc3 Zf,Za];show po ((ZQ _).map λbs=>V.bl<|bs.all id) s=_
  rw[ht3];show PR.ok (V.bl<|(kU _ _).all id) s=_;rw[kq];rfl
noncomputable def isP(p n:Nat)(x:V):Bool:=match x with
 |.tup xs=>xs.all (ZA p n)&&match Z0 xs with
  |some R=>X4 R
  |none=>aj
 |_=>aj
theorem Xq:∀{xs:List V},xs.all (ZA p n)=am->∃R:List Row,xs=R.map Zb/\∀r∈R,Zd p n r
 |[],_=>#[[],rfl,λ_ h=>by cases h]
 |x::xs,h=>by
  rw[fD,aG]at h;obtain⟨R,rfl,hR⟩:=Xq h.2;obtain⟨r,rfl,hr⟩:=Zbx h.1;refine#[r::R,rfl,λa ha=>?_]
  rcases az.mp ha with rfl|ha
  .exact hr
  .exact hR a ha
def zR{x:V}:isP p n x=am↔∃P,x=Zr P/\pZ p n P:=by
 constructor
 .intro h
  cases x with
  |tup xs=>
   unfold isP at h;rw[aG]at h;obtain⟨R,rfl,hR⟩:=Xq h.1;have h2:=h.2;rw[YU]at h2;exact#[R,rfl,(WJ hR).mp h2]
  |_=>cases h
 .rintro ⟨P,rfl,hP⟩
  show(_&&_)=am;rw[aG,YU];refine#[a8.mpr λv hv=>?_,(WJ hP.row).mpr hP]
  obtain⟨r,hr,rfl⟩:=aS.mp hv;exact Zcv<|hP.row r hr
def wO{x:V}(h:∀xs,x≠.tup xs):isP p n x=aj:=by
 cases x with|tup xs=>exact T7 rfl<|h xs|_=>rfl
theorem VP(d:Nat){x:V}(s:DS)(hn:n<=6)(hx:okV x=am)(hl:∀xs,x=.tup xs->xs.length<=1000):CV (d+3) 16 [spV p n,x] s=.ok (.bl<|isP p n x) s:=by
 refine ZC rfl (by decide) rfl ?_
 show rvs (CV<|d+2) [] (.ite (.or (.not<|.isi (.v 1) [.tuple])<|.not<|.blt .all [(.comp1 [0] 1 [0] (.of<|.v 1) []<|.call 15 [(.v 1),(.v 0)])]) [.ret<|.c<|.bl aj] []::WI.body.drop 1) [aa<|spV p n,aa x,ae] [] s=_;rcases Vk hx with⟨xs,rfl⟩|⟨ha,no⟩
 ·
  have hl:=hl xs rfl;have hc1:=Yg (C:=CV<|d+2) (cap:=[0]) (nl:=1) (t:=[0]) (it:=.of<|.v 1) (elt:=.call 15 [(.v 1),(.v 0)]) (O:=[aa<|spV p n,aa<|.tup xs,ae]) (s:=s) (l:=xs) (e:=id) (g:=λv=>V.bl<|ZA p n v)
   (by simp[pvE]) (by unfold lim;lia) (λv hv=>#[_,rfl,by
    have e:=qL (p:=p) d s hn<|VQ hx v hv;simp[pvE,e]])
  have ht:=Yd (g:=λv:V=>ZA p n v) xs
  have hpt:Z6 (.tup xs) [.tuple]=aa am:=rfl;cases ha:xs.all (ZA p n)with
  |false=>
   have hf:(xs.map λv=>ZA p n v).all id=aj:=by rw[kq];exact ha
   refine Zm ?_;simp[pvE,hpt,hc1,ht,isP,ha,hf]
  |true=>
   have hf:(xs.map λv=>ZA p n v).all id=am:=by rw[kq];exact ha
   rw[Zs (ρ':=[aa<|spV p n,aa<|.tup xs,ae]) (os':=[]) (s':=s) (by simp[pvE,hpt,hc1,ht,hf])]
   obtain⟨R,rfl,hR⟩:=Xq ha;have e:=xM d s hn hR (by simpa using hl)
   have eb:isP p n (.tup<|R.map Zb)=X4 R:=by
    show((R.map Zb).all (ZA p n)&&match Z0 (R.map Zb)with|some R=>X4 R|none=>aj)=_
    rw[ha,YU];rfl
   rw[eb];exact e
 .rw[wO no]
  exact Zm (by simp[pvE,ha])
theorem zn:∀P:List Row,Xy (P.map Zb)=am
 |[]=>rfl
 |r::P=>by
  show(okV (Zb r)&&Xy (P.map Zb))=am;rw[ZbX,zn P];rfl
def qu(P:List Row):okV (Zr P)=am:=zn P
def VU{P:List Row}(hP:pZ p n P):∀xs,Zr P=.tup xs->xs.length<=n:=λxs e=>by
 cases e;rw[ay];exact dsum hP
theorem qY(d:Nat){P:List Row}(s:DS)(hn:n<=6)(hP:pZ p n P):CV (d+3) 16 [spV p n,Zr P] s=.ok (.bl am) s:=by
 have e:=VP (p:=p) d s hn (qu P) λxs z=>by have:=VU hP xs z;lia
 rw[zR.mpr #[P,rfl,hP]]at e;exact e
end
end K12
namespace Rw
open La
open Ev (ltP XC Yy)
section
variable{p n:Nat}[Base p]
variable{k:Nat}
theorem VW{B:Type}[BEq B][LawfulBEq B]:∀{L A:List B},L.Nodup->(∀x∈L,x∈A)->L.length<=A.length
 |[],_,_,_=>cJ _
 |x::L,A,h,hs=>by
  rw[dA]at h;have h1:=VW (L:=L) (A:=A.erase x) h.2 λy hy=>(List.mem_erase_of_ne (show y≠x from λe=>h.1<|by rw[<-e];exact hy)).mpr<|hs y<|ai _ hy
  have h2:=hs x<|al ..;have h3:=List.length_erase_of_mem h2;have h4:=List.length_pos_of_mem h2;rw[aO];omega
end
noncomputable def WZ(p:Nat)(L:List Row)(o:Row):List Row:=(aK p).flatMap λ(k:Nat)=>L.map λr=>ZF p r o (k:Int)
noncomputable def zk(p n:Nat)(P:List Row):List Row:=P.foldl (WZ p) [aB n 0]
def xf(L:List Row)(o:Row):(WZ p L o).length=L.length*p:=by
 unfold WZ;rw[List.length_flatMap,show((aK p).map λ(k:Nat)=>(L.map λr=>ZF p r o (k:Int)).length)=aB p L.length from gn (by simp) λi h1 h2=>by simp,List.sum_replicate_nat,l7]
def uA(P:List Row):(zk p n P).length=p^P.length:=by
 unfold zk
 suffices ∀(P L:List Row),(P.foldl (WZ p) L).length=L.length*p^P.length by rw[this];simp
 intro P
 induction P with|nil=>intro L;simp|cons o P ih=>intro L;rw[dB,ih,xf,aO,Nat.pow_succ,Nat.mul_assoc,l7 p]
section
variable{p n:Nat}[Base p]
def Z7:Zd p n (aB n 0):=#[bV,λa ha=>by
 have:=(inferInstance:Base p).b;rw[fH ha];omega]
def Wo(j:Nat):gt (aB n 0) j=0:=by
 unfold gt;rw[aJ,cH];split<;>rfl
def y4(hL:∀r∈L,Zd p n r)(ho:Zd p n o):∀r∈WZ p L o,Zd p n r:=λr hr=>by
 obtain⟨k,_,h⟩:=eo.mp hr;obtain⟨q,hq,rfl⟩:=aS.mp h;exact Zl (hL q hq) ho
def jr(hW:pZ p n W)(hr:Zd p n r)(ho:Zd p n o)(h1:XA p W r=am)(h2:XA p W o=am):XA p W (ZF p r o k)=am:=by
 rw[ZW hW<|Zl hr ho];rw[ZN hr ho];exact X1 (ph p k) ((ZW hW hr).mp h1)<|(ZW hW ho).mp h2
theorem zA(hW:pZ p n W):∀{P L:List Row},(∀r∈P,r∈W)->(∀r∈L,Zd p n r/\XA p W r=am)->∀r∈P.foldl (WZ p) L,Zd p n r/\XA p W r=am
 |[],_,_,h=>h
 |o::P,L,hP,h=>by
  have ho:=hP o<|al ..;refine zA hW (P:=P) (λr hr=>hP r<|ai _ hr) λr hr=>?_
  obtain⟨k,_,h3⟩:=eo.mp hr;obtain⟨q,hq,rfl⟩:=aS.mp h3;exact#[Zl (h q hq).1<|hW.row o ho,jr hW (h q hq).1 (hW.row o ho) (h q hq).2<|yk hW ho]
theorem zO:∀{P L:List Row}{a r:Row},(∀o∈P,Zd p n o)->a∈L->Zd p n a->Zd p n r->hdI (ZH p P<|ZF p r a<|-1)=ae->r∈P.foldl (WZ p) L
 |[],L,a,r,_,ha,h1,h2,h=>by
  have e:r=a:=YA h2 h1 (by
   funext j
   have z:=(ZX<|Zl h2 h1).mpr<|Yq h j;rw[ZN h2 h1,Wz,Qm]at z
   grind)
  rw[e];exact ha
 |o::P,L,a,r,hP,ha,h1,h2,h=>by
  have ho:=hP o<|al ..
  let x:=ZF p r a<|-1
  have hx:Zd p n x:=Zl h2 h1;have hk:=WM ppos hx<|(hdI o).getD 0;have e:clr p x o ((hdI o).getD 0)=ZF p r (ZF p a o<|gt x<|(hdI o).getD 0) (-1):=YA (Zl hx ho) (Zl h2<|Zl h1 ho) (by
   rw[Qt hx ho,ZN h2<|Zl h1 ho,ZN h1 ho]
   funext j
   show toV p (ZF p r a<|-1) j-toV p x ((hdI o).getD 0)*toV p o j=toV p r j+ph p (-1)*(toV p a j+toV p x ((hdI o).getD 0)*toV p o j);rw[ZN h2 h1,Wz,Qm]
   grind)
  refine zO (P:=P) (λq hq=>hP q<|ai _ hq) (eo.mpr #[(gt x<|(hdI o).getD 0).toNat,aQ.mpr (by omega),aS.mpr #[a,ha,by rw[k9 hk.1]]]) (Zl h1 ho) h2 ?_
  rw[<-e];exact h
theorem JY(hP:pZ p n P):r∈zk p n P↔Zd p n r/\XA p P r=am:=by
 constructor
 .exact zA hP (λ_ h=>h) (λq hq=>by rw[bz.mp hq];exact#[Z7,yp hP Z7 Wo]) r
 .intro#[h1,h2]
  refine zO hP.row (bz.mpr rfl) Z7 h1 ?_;have e:ZF p r (aB n 0) (-1)=r:=YA (Zl h1 Z7) h1 (by
   rw[ZN h1 Z7]
   funext j
   rw[(ZX Z7).mpr<|Wo j]
   grind)
  rw[e];exact Option.isNone_iff_eq_none.mp h2
theorem Jy:∀{P L:List Row},(∀o∈P,Zd p n o/\gt o ((hdI o).getD 0)=1)->(P.Pairwise λo q=>gt o ((hdI q).getD 0)=0)->(∀r∈L,Zd p n r/\∀o∈P,gt r ((hdI o).getD 0)=0)->L.Nodup->(P.foldl (WZ p) L).Nodup
 |[],_,_,_,_,h=>h
 |o::P,L,hP,hz,hL,h=>by
  obtain⟨ho,h1⟩:=hP o<|al ..;obtain⟨z1,z2⟩:=bg.mp hz;have hp:=(inferInstance:Base p).b;refine Jy (P:=P) (λq hq=>hP q<|ai _ hq) z2 (λr hr=>#[y4 (λr hr=>(hL r hr).1) ho r hr,λq hq=>?_]) ?_
  .obtain⟨k,_,h3⟩:=eo.mp hr
   obtain⟨s,hs,rfl⟩:=aS.mp h3;rw[Vb (hL s hs).1 ho,(hL s hs).2 q<|ai _ hq,z1 q hq];simp
  .have at_:∀(k:Nat) r,k<p->r∈L->gt (ZF p r o (k:Int)) ((hdI o).getD 0)=k:=λk r hk hr=>by
    rw[Vb (hL r hr).1 ho,(hL r hr).2 o<|al ..,h1,Int.zero_add,Int.mul_one,eS (by omega) (by omega)]
   refine List.pairwise_flatMap.mpr #[λk hk=>?_,?_]
   .refine cF.mpr (h.imp_of_mem λ{a b} ha hb ne e=>ne<|YA (hL a ha).1 (hL b hb).1 ?_)
    have q:=congrArg (toV p) e;rw[ZN (hL a ha).1 ho,ZN (hL b hb).1 ho]at q
    funext j
    have:=congrFun q j
    grind
   .refine mK.imp_of_mem λ{a b} ha hb ne x hx y hy e=>ne ?_
    obtain⟨r,hr,rfl⟩:=aS.mp hx;obtain⟨q,hq,rfl⟩:=aS.mp hy;have:=at_ a r (aQ.mp ha) hr;rw[e,at_ b q (aQ.mp hb) hq]at this;omega
def u5(hP:pZ p n P):(zk p n P).Nodup:=by
 have rf:=hP.pn.rf;refine Jy (λo ho=>#[hP.row o ho,(Vi<|hP.row o ho).mp<|rf.one _<|Z2 ho]) ?_ (λr hr=>?_)<|dA.mpr #[by simp,nD]
 .exact(cF.mp rf.inc).imp_of_mem λ{a b} ha hb lt=>(ZX<|hP.row a ha).mp<|rf.zer _ (Z2 hb) _ (Z2 ha)<|fc lt
 .rw[bz.mp hr]
  exact#[Z7,λo _=>Wo _]
end
open Pv (Ya)
def ww{F:List Row}{r x:Row}:x∈Ya F r↔x∈F\/x=r:=by
 unfold Ya;split
 .rename_i h
  have h:=cC.mp h;exact#[.inl,λz=>z.elim id λe=>e▸h]
 .simp
def je{F:List Row}{r:Row}(h:F.Nodup):(Ya F r).Nodup:=by
 unfold Ya;split
 .exact h
 .rename_i q
  refine eP.mpr #[h,by simp,λa ha b hb e=>q ?_]
  rw[bz.mp hb]at e;exact cC.mpr<|e▸ha
theorem QZ:∀{L F:List Row}{x:Row},x∈L.foldl Ya F↔x∈F\/x∈L
 |[],F,x=>by simp
 |r::L,F,x=>by
  rw[dB,QZ,ww,az,or_assoc]
theorem yd:∀{L F:List Row},F.Nodup->(L.foldl Ya F).Nodup
 |[],F,h=>h
 |r::L,F,h=>yd (L:=L)<|je h
noncomputable def Qr(p:Nat)(F:List Row)(r:Row):List Row:=F.flatMap λo=>(aK<|p-1).map λ(k:Nat)=>ZF p o r<|(k:Int)+1
noncomputable def WT(p:Nat)(F:List Row)(r:Row):List Row:=if F.contains r then F else(Qr p F r).foldl Ya F
noncomputable def Wn(p n:Nat)(R:List Row):List Row:=R.foldl (WT p) [aB n 0]
section
variable{p n:Nat}[Base p]
structure HasK(p n:Nat)[NeZero p](F P:List Row):Prop where
 part:pZ p n P
 nd:F.Nodup
 mem:∀x,x∈F↔Zd p n x/\XA p P x=am
theorem Qz{P:List Row}{r u:Row}(hP:pZ p n P)(hr:Zd p n r)(hu:Zd p n u):XA p (QH p P r) u=am↔∃k:Nat,k<p/\XA p P (ZF p u r<|-(k:Int))=am:=by
 obtain⟨h1,h2⟩:=UV hP hr;have g:=Wd (fld (p:=p)) hP.pn<|XY hr;rw[ZW h1 hu,Mm,h2,g.mem]
 constructor
 .rintro ⟨c,hc⟩
  refine#[c.val,c.isLt,(ZW hP<|Zl hu hr).mpr ?_];unfold Mm;rw[ZN hu hr];have e:ph p (-(c.val:Int)) = -c:=by
   rw[Wz]
   congr 1
   exact Wm (by rw[Yj,eS (by omega) (by have:=c.isLt;omega)])
  rw[e];have e2:(λj=>toV p u j + -c*toV p r j)=λj=>toV p u j-c*toV p r j:=by funext j;grind
  rw[e2];exact hc
 .rintro ⟨k,_,hk⟩
  refine#[ph p (k:Int),?_];have:=(ZW hP<|Zl hu hr).mp hk;unfold Mm at this;rw[ZN hu hr,Wz]at this;have e2:(λj=>toV p u j-ph p (k:Int)*toV p r j)=λj=>toV p u j + -ph p (k:Int)*toV p r j:=by funext j;grind
  rw[e2];exact this
def vK{P:List Row}{r:Row}(hP:pZ p n P)(hr:Zd p n r)(h:XA p P r=am):QH p P r=P:=by
 obtain⟨h1,h2⟩:=UV hP hr;exact yc h1.row hP.row<|h2.trans<|(Wd (fld (p:=p)) hP.pn<|XY hr).same<|(ZW hP hr).mp h
theorem UK{u r:Row}{k:Int}(hu:Zd p n u)(hr:Zd p n r):ZF p (ZF p u r<|-k) r k=u:=by
 refine YA (Zl (Zl hu hr) hr) hu ?_;rw[ZN (Zl hu hr) hr,ZN hu hr,Wz]
 funext j;grind
theorem UN{u r:Row}(hu:Zd p n u)(hr:Zd p n r):ZF p u r 0=u:=by
 refine YA (Zl hu hr) hu ?_;rw[ZN hu hr,X3]
 funext j;grind
def HasK.step{F P:List Row}{r:Row}(h:HasK p n F P)(hr:Zd p n r):HasK p n (WT p F r) (QH p P r):=by
 obtain⟨h1,h2⟩:=UV h.part hr;unfold WT;by_cases c:F.contains r=am
 .rw[T9 c,vK h.part hr ((h.mem r).mp<|cC.mp c).2]
  exact h
 .rw[T8 c]
  refine#[h1,yd h.nd,λx=>?_]
  rw[QZ];unfold Qr
  constructor
  .rintro (hx|hx)
   .obtain⟨a,b⟩:=(h.mem x).mp hx
    exact#[a,(Qz h.part hr a).mpr #[0,by have:=(inferInstance:NeZero p).ne;omega,by rw[show(-((0:Nat):Int))=0 from rfl,UN a hr];exact b]]
   .obtain⟨o,ho,hx⟩:=eo.mp hx
    obtain⟨k,hk,rfl⟩:=aS.mp hx;have hk:=aQ.mp hk;obtain⟨a,b⟩:=(h.mem o).mp ho;refine#[Zl a hr,(Qz h.part hr<|Zl a hr).mpr #[k+1,by omega,?_]]
    have e:=UK (p:=p) (k:=-((k:Int)+1)) a hr;rw[Int.neg_neg]at e;rw[show(-((k+1:Nat):Int)) = -((k:Int)+1) by omega,e]
    exact b
  .rintro ⟨hx,hm⟩
   obtain⟨k,hk,hm⟩:=(Qz h.part hr hx).mp hm;have ho:=(h.mem _).mpr #[Zl hx hr,hm];have e:=UK (p:=p) (k:=(k:Int)) hx hr;cases k with
   |zero=>
    refine .inl ?_;rw[show(-((0:Nat):Int))=0 from rfl,UN hx hr]at ho
    exact ho
   |succ k=>
    exact .inr (eo.mpr #[_,ho,aS.mpr #[k,aQ.mpr (by omega),by rw[show((k:Int)+1)=((k+1:Nat):Int) by omega];exact e]])
theorem HasK.nil:HasK p n [aB n 0] []:=by
 refine#[pZ.nil,by simp,λx=>?_]
 rw[bz]
 constructor
 .rintro rfl
  exact#[Z7,yp pZ.nil Z7 Wo]
 .rintro ⟨hx,hm⟩
  refine uJ (by rw[hx.1,bV]) λj=>?_
  rw[Wo];unfold XA ZH at hm;rw[List.foldl_nil]at hm;cases q:hdI x with|none=>exact Yq q j|some k=>rw[q]at hm;cases hm
theorem HasK.all:∀{R F P:List Row},HasK p n F P->(∀r∈R,Zd p n r)->HasK p n (R.foldl (WT p) F) (XR p P R)
 |[],F,P,h,_=>h
 |r::R,F,P,h,hR=>HasK.all (R:=R) (h.step<|hR r<|al ..) λx hx=>hR x<|ai _ hx
def V2{R:List Row}(hR:∀r∈R,Zd p n r):HasK p n (Wn p n R) (XR p [] R):=HasK.nil.all hR
def HasK.len{F P:List Row}(h:HasK p n F P):F.length=p^P.length:=by
 rw[<-uA (p:=p) (n:=n) P];refine Nat.le_antisymm (VW h.nd λx hx=>?_)<|VW (u5 h.part) λx hx=>?_
 .exact(JY h.part).mpr<|(h.mem x).mp hx
 .exact(h.mem x).mpr<|(JY h.part).mp hx
end
end Rw
namespace K12
open Ev Pv Rw La
def Zau(h:Nat):(aB h [V.int 0]).flatten=(aB h (0:Int)).map V.int:=by
 induction h with|zero=>rfl|succ h ih=>rw[bI,cE,ih,bI];rfl
def X0(r:Row):V.flat (Zb r)=am:=VI r
theorem Uz:∀L:List Row,Y6 (L.map Zb)=am
 |[]=>rfl
 |r::L=>by
  show(V.flat (Zb r)&&Y6 (L.map Zb))=am;rw[X0,Uz L];rfl
section
variable{p n:Nat}[Base p]
def ix0{C:Zo}{i:Nat}{O:Env}{s:DS}(h:O[i]?=aa (aa<|spV p n)):pv C (.ix (.v i)<|.c<|.int 0) O s=.ok (.int p) s:=by
 rw[pv,Zi h,Za,pv,show ofD (V.int 0)=aa (V.int 0)from rfl];rfl
def ix1{C:Zo}{i:Nat}{O:Env}{s:DS}(h:O[i]?=aa (aa<|spV p n)):pv C (.ix (.v i)<|.c<|.int 1) O s=.ok (.int n) s:=by
 rw[pv,Zi h,Za,pv,show ofD (V.int 1)=aa (V.int 1)from rfl];rfl
def jh{C:Zo}{i:Nat}{O:Env}{s:DS}(hn:n<=6)(h:O[i]?=aa (aa<|spV p n)):pv C (.bin .mul (.tup [(.c<|.int 0)])<|.ix (.v i)<|.c<|.int 1) O s=.ok (Zb<|aB n 0) s:=by
 have g:pv C (.tup [(.c<|.int 0)]) O s=.ok (.tup [.int 0]) s:=by simp[pvE,ofD]
 rw[pv,g,Za,ix1 h,Za];show(if(0:Int)<=n/\(n:Int)<1000/\1<=1000 then PR.ok (V.tup (aB (n:Int).toNat [V.int 0]).flatten) s else .no)=_
 rw[T9 #[by omega,by omega,by omega],c9,Zau];rfl
def VO{C:Zo}{i j:Nat}{O:Env}{s:DS}{r:Row}{k:Nat}(h:O[i]?=aa (aa<|Zb r))(hj:O[j]?=aa (aa<|Zh k))(hk:k<r.length):pv C (.ix (.v i)<|.v j) O s=.ok (.int<|gt r k) s:=by
 rw[pv,Zi h,Za,Zi hj,Za];show po (at' (r.map V.int) (k:Int)) s=_;rw[GA hk];rfl
def Q0(d:Nat){r o:Row}{k:Int}(s:DS)(hn:n<=6)(hr:Zd p n r)(ho:Zd p n o)(hk:-1000<k/\k<1000):CV (d+1) 7 [spV p n,Zb r,.int k,Zb o] s=.ok (Zb<|ZF p r o k) s:=by
 have hp:=Gy (p:=p);refine ZC rfl (by decide) rfl ?_
 show rvs (CV d) [] (.ret (.blt .tuple [(.comp1 [1,2,3,0] 1 [0] (.rng1<|.ix (.v 0)<|.c<|.int 1) []<|.bin .mod (.bin .add (.ix (.v 1)<|.v 0)<|.bin .mul (.v 2)<|.ix (.v 3)<|.v 0)<|.ix (.v 4)<|.c<|.int 0)])::[]) [aa<|spV p n,aa<|Zb r,aa<|.int k,aa<|Zb o] [] s=_;have hc:=Yg (C:=CV d) (cap:=[1,2,3,0]) (nl:=1) (t:=[0]) (it:=.rng1<|.ix (.v 0)<|.c<|.int 1) (elt:=.bin .mod (.bin .add (.ix (.v 1)<|.v 0)<|.bin .mul (.v 2)<|.ix (.v 3)<|.v 0)<|.ix (.v 4)<|.c<|.int 0) (O:=[aa<|spV p n,aa<|Zb r,aa<|.int k,aa<|Zb o]) (s:=s) (l:=aK n) (e:=Zh) (g:=λj=>V.int<|(gt r j+k*gt o j)%p)
  (X2 (ix1 rfl)<|by omega) (by rw[bG];unfold lim;omega) (λj hj=>by
   have hj:=aQ.mp hj;have h2:=WM (by omega) ho j
   refine#[[aa<|Zh j,aa<|Zb r,aa<|.int k,aa<|Zb o,aa<|spV p n],rfl,?_];have e1:=VO (C:=CV d) (i:=1) (j:=0) (O:=[aa<|Zh j,aa<|Zb r,aa<|.int k,aa<|Zb o,aa<|spV p n]) (s:=s) rfl rfl (by rw[hr.1];exact hj)
   have e2:=VO (C:=CV d) (i:=3) (j:=0) (O:=[aa<|Zh j,aa<|Zb r,aa<|.int k,aa<|Zb o,aa<|spV p n]) (s:=s) rfl rfl (by rw[ho.1];exact hj)
   have e3:pv (CV d) (.bin .mul (.v 2)<|.ix (.v 3)<|.v 0) [aa<|Zh j,aa<|Zb r,aa<|.int k,aa<|Zb o,aa<|spV p n] s=.ok (.int<|k*gt o j) s:=by
    rw[pv,Zi rfl,Za,e2,Za];show(if(fits k&&fits (gt o j))=am then PR.ok (V.int<|k*gt o j) s else .no)=_
    rw[T9 (by rw[Yc (by omega) (by omega),Yc (by omega) (by omega)];rfl)]
   rw[pv,pv,e1,Za,e3,Za];show PR.bind (PR.ok (V.int<|gt r j+k*gt o j) s) _=_;rw[Za,ix0 rfl,Za];show(if(0:Int)<p then PR.ok (V.int<|(gt r j+k*gt o j)%p) s else .no)=_
   rw[T9 (by omega)])
 have e:((aK n).map λj=>V.int<|(gt r j+k*gt o j)%p)=(ZF p r o k).map V.int:=by
  have hl:=(Zl (k:=k) hr ho).1;refine bM λi=>?_
  rw[aH,aH];by_cases hi:i<n
  .rw[cA hi,af (by rw[hl];exact hi)]
   have g:=Vb (k:=k) hr ho i;unfold gt at g;rw[aJ,af<|by rw[hl];exact hi]at g
   simp only[ng,mF]at g ⊢;rw[g];rfl
  .rw[br (by rw[bG];omega),br (by rw[hl];omega)];rfl
 refine Zm<|ZZ ?_;rw[pv,Zc hc Zf,e];rfl
def vt(d:Nat){F:List Row}{r o:Row}{v:V}{a5:Option V}{k:Nat}(s:DS)(hn:n<=6)(hr:Zd p n r)(ho:Zd p n o)(hk:k<1000)(hl:F.length<lim) :
  rvs (CV<|d+1) [2] [.dput (.v 2) (.call 7 [(.v 0),(.v 4),(.v 5),(.v 3)])<|.c<|.bl am] [aa<|spV p n,aa v,aa<|.dow F,aa<|Zb r,aa<|Zb o,aa<|Zh k] [2] s=.ok (.nx [aa<|spV p n,aa v,aa<|.dow<|Ya F<|ZF p o r (k:Int),aa<|Zb r,aa<|Zb o,aa<|Zh k] [2]) s:=by
 have e:pv (CV<|d+1) (.call 7 [(.v 0),(.v 4),(.v 5),(.v 3)]) [aa<|spV p n,aa v,aa<|.dow F,aa<|Zb r,aa<|Zb o,aa<|Zh k] s=.ok (Zb<|ZF p o r (k:Int)) s:=
  ZR (Zc (Zi rfl)<|Zc (Zi rfl)<|Zc (Zi rfl)<|Zc (Zi rfl) Zf) (Q0 d s hn ho hr #[by omega,by omega])
 rw[Zs (ρ':=[aa<|spV p n,aa v,aa<|.dow<|Ya F<|ZF p o r (k:Int),aa<|Zb r,aa<|Zb o,aa<|Zh k]) (os':=[2]) (s':=s) (by
  rw[rv,T9<|show([2]:List Nat).contains 2=am from rfl,pv]
  show PR.bind (po (aa<|V.bl am) s) _=_;rw[ZI,Za,T9 (show isT (.bl am)=am from rfl)]
  show PR.bind (po (aa F) s) _=_;rw[ZI,Za,e,Za];show PR.bind (po (intsV<|(ZF p o r (k:Int)).map V.int) s) _=_;rw[YT,ZI,Za,T9 hl];rfl),rvs]
def xJ(d:Nat){F:List Row}{r o:Row}{v:V}{a5:Option V}(s:DS)(hn:n<=6)(hr:Zd p n r)(ho:Zd p n o)(hl:F.length+10<lim) :
  ∃b5,rvs (CV<|d+1) [2] [.forr [5] (.rng2 (.c<|.int 1)<|.ix (.v 0)<|.c<|.int 0) [.dput (.v 2) (.call 7 [(.v 0),(.v 4),(.v 5),(.v 3)])<|.c<|.bl am]] [aa<|spV p n,aa v,aa<|.dow F,aa<|Zb r,aa<|Zb o,a5] [2] s
   = .ok (.nx [aa<|spV p n,aa v,aa<|.dow<|((aK<|p-1).map λ(k:Nat)=>ZF p o r<|(k:Int)+1).foldl Ya F,aa<|Zb r,aa<|Zb o,b5] [2]) s:=by
 have hp:=Gy (p:=p);obtain⟨b5,_,e5⟩:=zY (C:=CV<|d+1) (ms:=[2]) (t:=[5]) (it:=.rng2 (.c<|.int 1)<|.ix (.v 0)<|.c<|.int 0) (b:=[.dput (.v 2) (.call 7 [(.v 0),(.v 4),(.v 5),(.v 3)])<|.c<|.bl am]) (L:=aK<|p-1) (e:=λk=>Zh<|k+1) (step:=λ(F:List Row) (k:Nat)=>Ya F<|ZF p o r<|(k:Int)+1) (O:=λF x=>[aa<|spV p n,aa v,aa<|.dow F,aa<|Zb r,aa<|Zb o,x]) (st:=F) (o:=a5) (os:=[2]) (s:=s)
  (λl F=>(∀k∈l,k<5)/\F.length+l.length<lim) (by
   show pvw (CV<|d+1) _ [aa<|spV p n,aa v,ae,aa<|Zb r,aa<|Zb o,a5] s=_;rw[pvw,show pv (CV<|d+1) (.c<|.int 1) [aa<|spV p n,aa v,ae,aa<|Zb r,aa<|Zb o,a5] s=.ok (.int 1) s by rw[pv];rfl,Za,ix0 rfl,Za]
   show(if(YO 1&&YO (p:Int))=am then PR.ok (ZS 1 ((p:Int)-1).toNat) s else .no)=_
   rw[T9 (by rw[VY (i:=1) (by omega) (by omega),VY (i:=(p:Int)) (by omega) (by omega)];rfl),show((p:Int)-1).toNat=p-1 by omega]
   unfold ZS Zh
   congr 1
   refine cU λk _=>?_
   rw[Int.add_comm];rfl) #[λk hk=>by have:=aQ.mp hk;omega,by rw[bG];omega] rfl (λk l F x hI=>by
   obtain⟨h1,h2⟩:=hI;rw[aO]at h2;have hk:=h1 k<|al ..;have hl2:(Ya F<|ZF p o r<|(k:Int)+1).length<=F.length+1:=by unfold Ya;split<;>simp
   refine#[#[λq hq=>h1 q<|ai _ hq,by omega],rfl,[aa<|spV p n,aa v,aa<|.dow F,aa<|Zb r,aa<|Zb o,aa<|Zh<|k+1],aa<|Zh<|k+1,rfl,?_]
   have:=vt d (a5:=ae) (v:=v) (k:=k+1) s hn hr ho (F:=F) (by omega) (by omega)
   rw[this];rfl)
 refine#[b5,?_];rw[Zs e5,rvs,List.foldl_map]
def yO(F:List Row)(o r:Row):Qr p (o::F) r=((aK<|p-1).map λ(k:Nat)=>ZF p o r<|(k:Int)+1)++Qr p F r:=rfl
theorem J8:∀(L F:List Row),(L.foldl Ya F).length<=F.length+L.length
 |[],F=>aA _
 |r::L,F=>by
  have h:=J8 L<|Ya F r;have hl2:(Ya F r).length<=F.length+1:=by unfold Ya;split<;>simp
  rw[dB,aO];omega
theorem Ji(d:Nat){r:Row}{v:V}(s:DS)(hn:n<=6)(hr:Zd p n r):∀(L F:List Row){a4 a5:Option V},(∀o∈L,Zd p n o)->F.length+5*L.length+10<lim->
  ∃b4 b5,YK (λx O os s=>if(([4]:List Nat).any os.contains)=am then .no else(po (Ze [4] x O) s).bind λO s=>rvs (CV<|d+1) [2] [.forr [5] (.rng2 (.c<|.int 1)<|.ix (.v 0)<|.c<|.int 0) [.dput (.v 2) (.call 7 [(.v 0),(.v 4),(.v 5),(.v 3)])<|.c<|.bl am]] O os s) (L.map Zb) [aa<|spV p n,aa v,aa<|.dow F,aa<|Zb r,a4,a5] [2] s
   = .ok (.nx [aa<|spV p n,aa v,aa<|.dow<|(Qr p L r).foldl Ya F,aa<|Zb r,b4,b5] [2]) s
 |[],F,a4,a5,_,_=>#[a4,a5,rfl]
 |o::L,F,a4,a5,ho,hl=>by
  have hp:=Gy (p:=p);rw[aO]at hl;obtain⟨b5,e⟩:=xJ d (v:=v) (F:=F) (a5:=a5) s hn hr (ho o<|al ..) (by omega)
  have h1:=J8 ((aK<|p-1).map λ(k:Nat)=>ZF p o r<|(k:Int)+1) F
  rw[ay,bG]at h1;obtain⟨c4,c5,e2⟩:=Ji d (v:=v) s hn hr L (((aK<|p-1).map λ(k:Nat)=>ZF p o r<|(k:Int)+1).foldl Ya F) (a4:=aa<|Zb o) (a5:=b5) (λx hx=>ho x<|ai _ hx) (by omega)
  refine#[c4,c5,?_];rw[bf,YK,T8 (by decide),show Ze [4] (Zb o) [aa<|spV p n,aa v,aa<|.dow F,aa<|Zb r,a4,a5]=aa [aa<|spV p n,aa v,aa<|.dow F,aa<|Zb r,aa<|Zb o,a5]from rfl,ZI,Za,e,Za]
  rw[yO,List.foldl_append];exact e2
def Zb4{C:Zo}{i j:Nat}{O:Env}{s:DS}{r:Row}{F:List Row}(h:O[i]?=aa (aa<|Zb r))(hj:O[j]?=aa (aa<|.dow F)):pv C (.cmp .nin (.v i)<|.v j) O s=.ok (.bl<|!F.contains r) s:=by
 rw[pv,Zi h,Za,Zi hj,Za];show po (((intsV<|r.map V.int).map λk=>F.contains k).map λb=>V.bl !b) s=_
 rw[YT];rfl
def Jh(d:Nat){R:List Row}{v:V}(s:DS)(hn:n<=6)(h1:1<=n)(hl:p^n<=1000)(hR:∀r∈R,Zd p n r)(hv:Ym v=aa (R.map Zb)):CV (d+2) 8 [spV p n,v] s=.ok (.lst<|(ZE<|Wn p n R).map Zb) s:=by
 have hp:=Gy (p:=p);have big:∀{F P:List Row},HasK p n F P->F.length<=1000:=λ{F P} h=>by
  rw[h.len];refine bU (d7 (by omega) ?_) hl
  exact dsum h.part
 refine ZC rfl (by decide) rfl ?_
 show rvs (CV<|d+1) [2] (.dnw 2 (.bin .mul (.tup [(.c<|.int 0)])<|.ix (.v 0)<|.c<|.int 1) ::
  .forr [3] (.of<|.v 1) [.ite (.cmp .nin (.v 3)<|.v 2) [.forF [4] (.blt .listD [(.v 2)]) [.forr [5] (.rng2 (.c<|.int 1)<|.ix (.v 0)<|.c<|.int 0) [.dput (.v 2) (.call 7 [(.v 0),(.v 4),(.v 5),(.v 3)])<|.c<|.bl am]]] []] ::
  .ret (.blt .sortedD [(.v 2)])::[]) [aa<|spV p n,aa v,ae,ae,ae,ae] [] s=_
 rw[Zs (ρ':=[aa<|spV p n,aa v,aa<|.dow [aB n 0],ae,ae,ae]) (os':=[2]) (s':=s) (by
  rw[rv,jh hn rfl,Za];show PR.bind (po (intsV<|(aB n (0:Int)).map V.int) s) _=_;rw[YT,ZI,Za,T9 (by show 2<6;omega)];rfl)]
 obtain⟨ρ',hI,e⟩:=zb (C:=CV<|d+1) (ms:=[2]) (t:=[3]) (it:=.of<|.v 1) (b:=[.ite (.cmp .nin (.v 3)<|.v 2) [.forF [4] (.blt .listD [(.v 2)]) [.forr [5] (.rng2 (.c<|.int 1)<|.ix (.v 0)<|.c<|.int 0) [.dput (.v 2) (.call 7 [(.v 0),(.v 4),(.v 5),(.v 3)])<|.c<|.bl am]]] []]) (L:=R) (e:=Zb) (O:=[aa<|spV p n,aa v,aa<|.dow [aB n 0],ae,ae,ae]) (os:=[2]) (s:=s)
  (λl O=>(∀r∈l,Zd p n r)/\∃F P a3 a4 a5,O=[aa<|spV p n,aa v,aa<|.dow F,a3,a4,a5]/\HasK p n F P/\l.foldl (WT p) F=Wn p n R) (by
   show pvw (CV<|d+1) (.of<|.v 1) [aa<|spV p n,aa v,ae,ae,ae,ae] s=_;rw[pvw,Zi rfl,Za,hv];rfl) #[hR,_,_,ae,ae,ae,rfl,HasK.nil,rfl] rfl (λr l O hI=>by
   obtain⟨hr,F,P,a3,a4,a5,rfl,hF,hf⟩:=hI;have hr0:=hr r<|al ..;have hb:=big hF;refine#[by rw[X0];rfl,[aa<|spV p n,aa v,aa<|.dow F,aa<|Zb r,a4,a5],?_]
   have et:=Zb4 (C:=CV<|d+1) (i:=3) (j:=2) (O:=[aa<|spV p n,aa v,aa<|.dow F,aa<|Zb r,a4,a5]) (s:=s) rfl rfl;have hfr:∀o∈F,Zd p n o:=λo ho=>((hF.mem o).mp ho).1
   by_cases c:F.contains r=am
   .refine#[[aa<|spV p n,aa v,aa<|.dow F,aa<|Zb r,a4,a5],rfl,?_,λx hx=>hr x<|ai _ hx,F,P,_,_,_,rfl,hF,?_]
    .rw[Zs (ρ':=[aa<|spV p n,aa v,aa<|.dow F,aa<|Zb r,a4,a5]) (os':=[2]) (s':=s) (by rw[Xi<|Ys et rfl,c,T8 (by decide),rvs]),rvs]
    .rw[dB]at hf
     unfold WT at hf;rw[T9 c]at hf;exact hf
   .have c:F.contains r=aj:=by simpa using c
    obtain⟨b4,b5,e2⟩:=Ji d (v:=v) (r:=r) s hn hr0 F F (a4:=a4) (a5:=a5) hfr (by unfold lim;omega)
    refine#[[aa<|spV p n,aa v,aa<|.dow<|(Qr p F r).foldl Ya F,aa<|Zb r,b4,b5],rfl,?_,λx hx=>hr x<|ai _ hx,(Qr p F r).foldl Ya F,QH p P r,_,_,_,rfl,?_,?_]
    .rw[Zs (ρ':=[aa<|spV p n,aa v,aa<|.dow<|(Qr p F r).foldl Ya F,aa<|Zb r,b4,b5]) (os':=[2]) (s':=s) (by
      rw[Xi<|Ys et rfl,c,T9 (by decide),Zs (ρ':=[aa<|spV p n,aa v,aa<|.dow<|(Qr p F r).foldl Ya F,aa<|Zb r,b4,b5]) (os':=[2]) (s':=s) (by
       rw[rv];show PR.bind (match pv (CV<|d+1) (.blt .listD [(.v 2)]) [aa<|spV p n,aa v,ae,aa<|Zb r,a4,a5] s with
        |.ok v s=>.ok v s
        |.ex c s=>.ex c s
        |.no=>(pv (CV<|d+1) (.blt .listD [(.v 2)]) [aa<|spV p n,aa v,aa<|.dow F,aa<|Zb r,a4,a5] s).bind λw s=>if(w.flat||true&&Jx w)=am then PR.ok w s else .no) _=_
       have g1:pv (CV<|d+1) (.blt .listD [(.v 2)]) [aa<|spV p n,aa v,ae,aa<|Zb r,a4,a5] s=.no:=by rw[pv,pvs,pv];rfl
       have g2:pv (CV<|d+1) (.blt .listD [(.v 2)]) [aa<|spV p n,aa v,aa<|.dow F,aa<|Zb r,a4,a5] s=.ok (.lst<|F.map Zb) s:=by rw[pv,Zc (Zi rfl) Zf];rfl
       rw[g1,g2];show PR.bind (if(aj||true&&Y6 (F.map Zb))=am then PR.ok (V.lst<|F.map Zb) s else .no) _=_
       rw[Uz,T9 (show(aj||true&&am)=am from rfl),Za]
       exact e2),rvs]),rvs]
    .have:=hF.step hr0
     unfold WT at this;rw[T8<|by rw[c];decide]at this
     exact this
    .rw[dB]at hf
     unfold WT at hf;rw[T8<|by rw[c];decide]at hf
     exact hf)
 obtain⟨_,F,P,a3,a4,a5,rfl,hF,hf⟩:=hI;rw[Zs e];refine Zm<|ZZ ?_;have hf:F=Wn p n R:=hf;subst hf;rw[pv,Zc (Zi rfl) Zf,Za];have hb:=big hF;have ho:Z4 (Wn p n R)=am:=by
  unfold Z4;rw[aG,aG];refine#[#[T5 (by omega),T5 hF.nd],a8.mpr λr hr=>?_]
  have:=((hF.mem r).mp hr).1.1;cases r with|nil=>simp at this;omega|cons _ _=>rfl
 show po (if Z4 (Wn p n R)=am then aa (V.lst<|(ZE<|Wn p n R).map Zb)else ae) s=_
 rw[T9 ho];rfl
end
open Ab (okV Xy)
section
variable{C:Zo}{O:Env}{s s1 s2:DS}{a b:E}{x y:V}{xs ys:List V}
def YR{i:Int}:pv C (.c<|.int i) O s=.ok (.int i) s:=by rw[pv];rfl
def qE(h:pv C a O s=.ok x s):pv C (.tup [a]) O s=.ok (.tup [x]) s:=by
 rw[pv,Zc h Zf];rfl
def jV{B:Type}{ms:List Nat}{i:Nat}{it:W}{b:List Sm}{L:List B}{e:B->V}{q:B->Bool}{v:V}{O:Option V->Env}(o:Option V)(hw:pvw C it (hide []<|O o) s=.ok (L.map e) s)(hs:∀o x,(O o).set i (aa x)=O (aa x))(hb:∀x∈L,rvs C ms b (O<|aa<|e x) [] s=if q x=am then .ok (.ret v) s else .ok (.nx (O<|aa<|e x) []) s) :
  (L.any q=am->rv C ms (.forr [i] it b) (O o) [] s=.ok (.ret v) s)/\(L.any q=aj->∃o',rv C ms (.forr [i] it b) (O o) [] s=.ok (.nx (O o') []) s):=by
 rw[rv,hw,Za];clear hw
 induction L generalizing o with
 |nil=>exact#[λh=>(by cases h),λ_=>#[o,rfl]]
 |cons x L ih=>
  have ih:=ih (aa<|e x) λy hy=>hb y<|ai _ hy
  have h1:=hb x<|al ..;have step:YK (λx O os s=>if(([i]:List Nat).any os.contains)=am then .no else(po (Ze [i] x O) s).bind λO s=>rvs C ms b O os s) ((x::L).map e) (O o) [] s=if q x=am then .ok (.ret v) s else YK (λx O os s=>if(([i]:List Nat).any os.contains)=am then .no else(po (Ze [i] x O) s).bind λO s=>rvs C ms b O os s) (L.map e) (O<|aa<|e x) [] s:=by
   rw[bf,YK,T8 (by simp)]
   show((PR.ok ((O o).set i<|aa<|e x) s).bind λO s=>rvs C ms b O [] s).bind _=_
   rw[Za,hs o<|e x,h1];cases q x<;>rfl
  rw[step,eJ];cases hq:q x with
  |true=>exact#[λ_=>rfl,λh=>(by cases h)]
  |false=>
   rw[T8 (by simp),gu]
   exact ih
end
section
variable{C:Zo}{O:Env}{s:DS}{a b:E}
def J5{c:Bool}(h1:pv C a O s=.ok (.bl aj) s)(h2:pv C b O s=.ok (.bl c) s):pv C (.or a b) O s=.ok (.bl c) s:=by rw[pv,h1];exact h2
def QU{c c':Bool}(h1:pv C a O s=.ok (.bl c) s)(h2:pv C b O s=.ok (.bl c') s):pv C (.and a b) O s=.ok (.bl<|c&&c') s:=by
 rw[pv,h1];cases c
 .rfl
 .exact h2
def uO{c:Bool}(h1:pv C a O s=.ok (.bl c) s):pv C (.not a) O s=.ok (.bl !c) s:=by rw[pv,h1];rfl
def jg{P Q:List Row}(h1:pv C a O s=.ok (Zr P) s)(h2:pv C b O s=.ok (Zr Q) s):pv C (.cmp .eq a b) O s=.ok (.bl<|ag<|P=Q) s:=by
 rw[pv,h1,Za,h2,Za];show po ((eqV Zw (Zr P)<|Zr Q).map V.bl) s=_;rw[Zw,vp];rfl
def ZcM{c c':Bool}(h1:pv C a O s=.ok (.bl c) s)(h2:pv C b O s=.ok (.bl c') s)(h:c=c'):pv C (.cmp .ne a b) O s=.ok (.bl aj) s:=by
 subst h;rw[pv,h1,Za,h2,Za];cases c<;>rfl
def x5(h1:pv C a O s=.ok (.bl am) s):pv C (.cmp .isn a<|.c<|.bl am) O s=.ok (.bl aj) s:=by
 rw[pv,h1,Za,pv];rfl
def XZ{f:Nat}{x y:E}{v w r:V}(h1:pv C x O s=.ok v s)(h2:pv C y O s=.ok w s)(h:C f [v,w] s=.ok r s):pv C (.call f [x,y]) O s=.ok r s:=ZR (Zc h1<|Zc h2 Zf) h
def guard{ms:List Nat}{t:E}{x l:List Sm}(h:pv C t O s=.ok (.bl aj) s):rvs C ms (.ite t x []::l) O [] s=rvs C ms l O [] s:=by
 rw[Zs<|(Xi<|Ys h rfl).trans (by rw[T8 (by simp),rvs])]
def J0{x y:Int}(h1:pv C a O s=.ok (.int x) s)(h2:pv C b O s=.ok (.int y) s):pv C (.bin .add a b) O s=.ok (.int<|x+y) s:=by
 rw[pv,h1,Za,h2,Za];rfl
def xt{x y:List V}(h1:pv C a O s=.ok (.lst x) s)(h2:pv C b O s=.ok (.lst y) s)(h:x.length+y.length<=lim):pv C (.bin .add a b) O s=.ok (.lst<|x++y) s:=by
 rw[pv,h1,Za,h2,Za];show(if x.length+y.length<=lim then _ else _)=_
 rw[T9 h]
end
def qR{C:Zo}{ms os:List Nat}{O:Env}{s:DS}{B:Type}{t:List Nat}{it:W}{b:List Sm}{L:List B}{e:B->V}(I:List B->Env->Prop){s0:DS}(hw:pvw C it (hide os O) s=.ok (L.map e) s0)(hI:I L O)(ht:(t.any os.contains)=aj)
  (h:∀x l O s,I (x::l) O->∃ρ1 ρ' s',Ze t (e x) O=aa ρ1/\rvs C ms b ρ1 os s=.ok (.nx ρ' os) s'/\I l ρ') :
  ∃ρ' s',I [] ρ'/\rv C ms (.forr t it b) O os s=.ok (.nx ρ' os) s':=by
 rw[rv,hw,Za];clear hw
 induction L generalizing O s0 with
 |nil=>exact#[O,s0,hI,rfl]
 |cons x L ih=>
  obtain⟨ρ1,ρ',s',b1,b2,b3⟩:=h x L O s0 hI;obtain⟨ρ2,s2,c1,c2⟩:=ih b3;refine#[ρ2,s2,c1,?_];rw[bf,YK,T8 (by rw[ht];simp),b1,ZI,Za,b2,Za]
  exact c2
section
variable{p n:Nat}[Base p]
def yw(d:Nat){x:V}{lo hi:Int}(s:DS)(hx:okV x=am):CV (d+1) 19 [x,.int lo,.int hi] s=.ok (.bl<|isW x lo hi) s:=by
 refine ZC rfl (by decide) rfl ?_
 rcases ur hx with⟨i,rfl⟩|⟨b,rfl⟩|⟨ha,no⟩
 .by_cases h:lo<=i
  .simp[Z5,pvE,isW,Z6,Y4,h]
  .simp[Z5,pvE,isW,Z6,Y4,h]
 .simp[Z5,pvE,isW,Z6,Y4]
 .rw[x8 no]
  simp[Z5,pvE,ha]
def ye{C:Zo}{O:Env}{s:DS}{i:Nat}{x:V}(h:O[i]?=aa (aa x))(hx:okV x=am):pv C (.not<|.isi (.v i) [.tuple]) O s=.ok (.bl (!match x with|.tup _=>am|_=>aj)) s:=by
 have g:pv C (.isi (.v i) [.tuple]) O s=.ok (.bl (match x with|.tup _=>am|_=>aj)) s:=by
  rw[pv,Zi h,Za];rcases Vk hx with⟨xs,rfl⟩|⟨ha,no⟩
  .rfl
  .rw[ha]
   cases x<;>first|rfl|exact T7 rfl<|no _
 exact uO g
def uD{C:Zo}{O:Env}{s:DS}{i:Nat}{x:V}{e:E}{ms:List Nat}{l:List Sm}(h:O[i]?=aa (aa x))(hx:okV x=am)(he:pv C e O s=.ok (.int n) s):(∃xs,x=.tup xs/\xs.length=n/\rvs C ms (.ite (.or (.not<|.isi (.v i) [.tuple])<|.cmp .ne (.blt .len [(.v i)]) e) [.ret<|.c<|.bl aj] []::l) O [] s=rvs C ms l O [] s)\/
  ((∀xs,x=.tup xs->xs.length≠n)/\rvs C ms (.ite (.or (.not<|.isi (.v i) [.tuple])<|.cmp .ne (.blt .len [(.v i)]) e) [.ret<|.c<|.bl aj] []::l) O [] s=.ok (.ret<|.bl aj) s):=by
 have g:=ye (C:=C) (O:=O) (s:=s) h hx;have fin:pv C (.or (.not<|.isi (.v i) [.tuple])<|.cmp .ne (.blt .len [(.v i)]) e) O s=.ok (.bl am) s->rvs C ms (.ite (.or (.not<|.isi (.v i) [.tuple])<|.cmp .ne (.blt .len [(.v i)]) e) [.ret<|.c<|.bl aj] []::l) O [] s=.ok (.ret<|.bl aj) s:=λq=>by
  refine Zm ?_;rw[Xi<|Ys q rfl,T9 rfl];exact Zm<|ZZ (by rw[pv];rfl)
 rcases Vk hx with⟨xs,rfl⟩|⟨_,no⟩
 .have e1:pv C (.cmp .ne (.blt .len [(.v i)]) e) O s=.ok (.bl !decide ((xs.length:Int)=n)) s:=by
   have:pv C (.blt .len [(.v i)]) O s=.ok (.int xs.length) s:=by rw[pv,Zc (Zi h) Zf];rfl
   rw[pv,this,Za,he,Za];rfl
  by_cases c:xs.length=n
  .refine .inl #[xs,rfl,c,guard<|J5 g ?_]
   rw[e1,T5 (by omega)];rfl
  .refine .inr #[λys z=>by cases z;exact c,fin<|J5 g ?_]
   rw[e1,T4 (by omega)];rfl
 .refine .inr #[λxs z=>T7 z<|no xs,fin ?_]
  rw[pv,g];cases x<;>first|rfl|exact T7 rfl<|no _
def GM(d:Nat){x:V}(s:DS)(hn:n<=6)(hx:okV x=am):CV (d+2) 20 [spV p n,x] s=.ok (.bl<|ZA p n x) s:=by
 refine ZC rfl (by decide) rfl ?_
 show rvs (CV<|d+1) [] (.ite (.or (.not<|.isi (.v 1) [.tuple])<|.cmp .ne (.blt .len [(.v 1)])<|.ix (.v 0)<|.c<|.int 1) [.ret<|.c<|.bl aj] [] ::
  .ret (.blt .all [(.comp1 [0] 1 [0] (.of<|.v 1) []<|.call 19 [(.v 0),(.c<|.int 0),(.bin .sub (.ix (.v 1)<|.c<|.int 0)<|.c<|.int 1)])])::[]) [aa<|spV p n,aa x] [] s=_
 rcases uD (C:=CV<|d+1) (ms:=[]) (i:=1) (O:=[aa<|spV p n,aa x]) (s:=s) (n:=n) (e:=.ix (.v 0)<|.c<|.int 1) (l:=.ret (.blt .all [(.comp1 [0] 1 [0] (.of<|.v 1) []<|.call 19 [(.v 0),(.c<|.int 0),(.bin .sub (.ix (.v 1)<|.c<|.int 0)<|.c<|.int 1)])])::[]) rfl hx (ix1 rfl)with⟨xs,rfl,hl,e⟩|⟨no,e⟩
 .rw[e]
  refine Zm<|ZZ ?_;have hc:=Yg (C:=CV<|d+1) (cap:=[0]) (nl:=1) (t:=[0]) (it:=.of<|.v 1) (elt:=.call 19 [(.v 0),(.c<|.int 0),(.bin .sub (.ix (.v 1)<|.c<|.int 0)<|.c<|.int 1)]) (O:=[aa<|spV p n,aa<|.tup xs]) (s:=s) (l:=xs) (e:=id) (g:=λv=>V.bl<|isW v 0<|(p:Int)-1)
   (by rw[pvw,Zi rfl,Za,mZ];rfl) (by unfold lim;omega) (λv hv=>#[[aa v,aa<|spV p n],rfl,by
    have e2:pv (CV<|d+1) (.bin .sub (.ix (.v 1)<|.c<|.int 0)<|.c<|.int 1) [aa v,aa<|spV p n] s=.ok (.int<|(p:Int)-1) s:=by
     rw[pv,ix0 rfl,Za,YR,Za];rfl
    exact ZR (Zc (Zi rfl)<|Zc YR<|Zc e2 Zf)<|yw d s<|VQ hx v hv])
  rw[pv,Zc hc Zf,Za];show po ((ZQ<|xs.map λv=>V.bl<|isW v 0<|(p:Int)-1).map λbs=>V.bl<|bs.all id) s=_
  rw[Yd];show PR.ok (V.bl<|(xs.map λv=>isW v 0<|(p:Int)-1).all id) s=_
  unfold ZA;simp[hl]
 .rw[e]
  have:ZA p n x=aj:=by
   cases x with|tup xs=>show(ag (xs.length=n)&&_)=aj;rw[T4<|no xs rfl];rfl|_=>rfl
  rw[this]
def Jp(L:List Row):(ZE L).length=L.length:=by
 have ins:∀(x:Row)(l:List Row),(Yx x l).length=l.length+1:=λx l=>by
  induction l with|nil=>rfl|cons y l ih=>unfold Yx;split<;>simp[ih]
 induction L with|nil=>rfl|cons x L ih=>show(Yx x<|ZE L).length=_;rw[ins,ih];rfl
end
end K12
namespace Rw
open La
noncomputable def Yl(r:Row):Nat:=(hdI r).getD r.length
noncomputable def Zq(E:List Row):List Nat:=(aK 6).filter ((E.filter λr=>(hdI r).isSome).map Yl).contains
noncomputable def WY(E:List Row)(h:Nat)(r:Row):Bool:=(ag (gt r h=1)&&ag (Yl r=h))&&(Zq E).all λk=>ag (k=h)||decide (gt r k=0)
noncomputable def ZaM(E:List Row):List Row:=(Zq E).flatMap λh=>E.filter<|WY E h
def GL{l:List Row}{q:Row->Bool}{r:Row}(hn:l.Nodup)(hr:r∈l)(h:∀x∈l,q x=am↔x=r):l.filter q=[r]:=by
 have hm:∀x,x∈l.filter q↔x=r:=λx=>by
  rw[bS];exact#[λz=>(h x z.1).mp z.2,λe=>by subst e;exact#[hr,(h x hr).mpr rfl]]
 have hd:=hn.filter q;generalize l.filter q=m at hm hd
 match m,hm,hd with
 |[],hm,_=>exact T7 ((hm r).mpr rfl) (by simp)
 |[x],hm,_=>rw[(hm x).mp (by simp)]
 |x::y::m,hm,hd=>
  have e1:=(hm x).mp (by simp)
  have e2:=(hm y).mp (by simp)
  subst e1;subst e2;simp at hd
theorem Ux{g:Row->List Row}:∀{l:List Row},(∀r∈l,g r=[r])->l.flatMap g=l
 |[],_=>rfl
 |r::l,h=>by
  rw[mr,h r<|al ..,Ux λx hx=>h x<|ai _ hx];rfl
section
variable{p n:Nat}[Base p]
def Xa{r:Row}{k:Nat}(h:hdI r=aa k):Yl r=k:=by unfold Yl;rw[h];rfl
def qW{E F P:List Row}(hn:n<=6)(h:HasK p n F P)(hE:E.Perm F):ZaM E=P:=by
 have hF:∀x,x∈E↔Zd p n x/\XA p P x=am:=λx=>hE.mem_iff.trans<|h.mem x
 have hP:=h.part;have hp:∀r∈P,r∈E/\∃k,hdI r=aa k/\k<n/\gt r k=1:=λr hr=>by
  obtain⟨k,h1,h2,h3⟩:=hP.head (fld (p:=p)).one0 hr;exact#[(hF r).mpr #[hP.row r hr,yk hP hr],k,h1,h2,(Vi<|hP.row r hr).mp h3]
 have hpl:Zq E=Zt P:=by
  refine Ql (List.pairwise_lt_range.filter _) ?_ λk=>?_
  .have:=hP.pn.rf.heads
   rw[Xp]at this;exact this
  .unfold Zq
   rw[bS,aQ,cC,aS];unfold Zt;rw[aS]
   constructor
   .rintro ⟨_,r,hr,rfl⟩
    obtain⟨hr,hs⟩:=bS.mp hr;obtain⟨k,hk⟩:=bK.mp hs;obtain⟨a,b⟩:=(hF r).mp hr;have hm:=(ZW hP a).mp b;obtain⟨e1,_,e2⟩:=ZT hk;obtain⟨c,hc,ec⟩:=Jc hP.pn.rf hm (k:=k) (λz=>e1<|(ZX a).mp z) λj hj=>(ZX a).mpr<|e2 j hj
    obtain⟨q,hq,rfl⟩:=aS.mp hc;exact#[q,hq,by rw[Xa hk];exact ec]
   .rintro ⟨r,hr,rfl⟩
    obtain⟨h1,k,h2,h3,_⟩:=hp r hr;exact#[by rw[h2];show k<6;omega,r,bS.mpr #[h1,by rw[h2];rfl],by rw[Xa h2,h2];rfl]
 have nd:E.Nodup:=hE.nodup_iff.mpr h.nd;unfold ZaM;have e:Zt P=P.map λr=>(hdI r).getD 0:=rfl
 rw[hpl,e,List.flatMap_map];refine Ux λr hr=>?_
 obtain⟨h1,k,h2,h3,h4⟩:=hp r hr;show E.filter (WY E<|(hdI r).getD 0)=[r];rw[h2];show E.filter (WY E k)=[r];have ir:=hP.row r hr;have ra:=Z2 (p:=p) hr;rw[h2]at ra;refine GL nd h1 λx hx=>?_
 unfold WY;rw[aG,aG,T0,T0,a8,hpl]
 constructor
 .rintro ⟨⟨g1,g2⟩,g3⟩
  obtain⟨a,b⟩:=(hF x).mp hx;have hm:=(ZW hP a).mp b;refine YA a ir ?_
  funext j
  have hj:toV p r j=pr (toP p P) (toV p r) j:=Xo hP.pn.rf ra j;rw[hm j,hj];refine QX (λc hc=>?_) j
  obtain⟨q,hq,rfl⟩:=aS.mp hc;obtain⟨_,i,i2,i3,i4⟩:=hp q hq;rw[i2];show toV p x i=toV p r i;have hi:i∈Zt P:=aS.mpr #[q,hq,by rw[i2];rfl]
  rcases(gG _ _).mp (g3 i hi)with z|z
  .have z:=T6 z
   subst z;unfold toV;rw[g1,h4]
  .have z:=T6 z
   by_cases c:i=k
   .subst c;rw[g1]at z;cases z
   .have qa:=Z2 (p:=p) hq
    rw[i2]at qa;have zz:toV p r i=0:=hP.pn.rf.zer _ qa _ ra λe=>c e
    rw[zz];exact(ZX a).mpr z
 .rintro rfl
  refine#[#[h4,Xa h2],λi hi=>?_]
  obtain⟨q,hq,rfl⟩:=aS.mp hi;obtain⟨_,i,i2,i3,i4⟩:=hp q hq;rw[i2];show(ag (i=k)||decide (gt x i=0))=am;by_cases c:i=k
  .rw[T5 c];rfl
  .have qa:=Z2 (p:=p) hq
   rw[i2]at qa;have zz:toV p x i=0:=hP.pn.rf.zer _ qa _ ra λe=>c e
   rw[T5<|(ZX ir).mp zz,Bool.or_true]
def xn{E F P:List Row}(hn:n<=6)(h:HasK p n F P)(hE:E.Perm F):∀k∈Zq E,k<n:=λk hk=>by
 obtain⟨_,hk⟩:=bS.mp hk;obtain⟨r,hr,rfl⟩:=aS.mp<|cC.mp hk;obtain⟨hr,hs⟩:=bS.mp hr;obtain⟨k,e⟩:=bK.mp hs;have:=((h.mem r).mp<|hE.mem_iff.mp hr).1.1;rw[Xa e];have:=(ZT e).2.1;omega
def yu{R:List Row}(hR:∀r∈R,Zd p n r):XR p [] R=R↔pZ p n R:=
 #[λe=>by rw[<-e];exact(V2 hR).part,λh=>xy h]
end
end Rw
namespace K12
open Ev Pv Rw La
open Ab (okV Xy)
theorem WX:∀r:Row,ZQ (r.map V.int)=aa (r.map λa=>ag<|a≠0)
 |[]=>rfl
 |a::r=>by rw[bf,ZQ,WX r];rfl
theorem vM:∀r:Row,(r.map λa=>ag<|a≠0).any id=(hdI r).isSome
 |[]=>rfl
 |a::r=>by
  rw[bf,eJ,vM r,hdI];by_cases c:a=0
  .subst c
   rw[T8 (by simp)]
   cases hdI r<;>rfl
  .rw[T9 c,T5 c];rfl
def qV{C:Zo}{O:Env}{i:Nat}{r:Row}(s:DS)(h:O[i]?=aa (aa<|Zb r)):pv C (.blt .any [(.v i)]) O s=.ok (.bl (hdI r).isSome) s:=by
 rw[pv,Zc (Zi h) Zf,Za];show po ((ZQ<|r.map V.int).map λbs=>V.bl<|bs.any id) s=_
 rw[WX];show PR.ok (V.bl _) s=_;rw[vM]
def xo(r:Row):(((aK r.length).filter λk=>ag<|gt r k≠0)++[r.length])[0]?=aa (Yl r):=by
 unfold Yl;cases q:hdI r with
 |none=>
  rw[List.filter_eq_nil_iff.mpr λk _=>by simp[Yq q k]];rfl
 |some k=>
  obtain⟨a,b,c⟩:=ZT q;have f:(aK r.length).find? (λj=>ag<|gt r j≠0)=aa k:=GE (v:=λj=>gt r j) b a c
  rw[<-List.head?_filter]at f;generalize (aK r.length).filter (λj=>ag<|gt r j≠0)=l at f
  cases l with|nil=>cases f|cons x l=>cases f;rfl
def Jn(d:Nat){r:Row}(s:DS)(hl:r.length<=1000):CV (d+1) 4 [Zb r] s=.ok (Zh<|Yl r) s:=by
 refine ZC rfl (by decide) rfl ?_
 show rvs (CV d) [] Xb.body [aa<|Zb r] [] s=_
 dsimp only[Xb]
 have el:pv (CV d) (.blt .len [(.v 0)]) [aa<|Zb r] s=.ok (.int r.length) s:=by
  rw[pv,Zc (Zi rfl) Zf,Za];show po (aa<|V.int (r.map V.int).length) s=_;rw[ay];rfl
 have hc:=Xj (C:=CV d) (cap:=[0]) (nl:=1) (t:=[0]) (it:=.rng1<|.blt .len [(.v 0)]) (tst:=.cmp .ne (.ix (.v 1)<|.v 0)<|.c<|.int 0) (elt:=.v 0) (O:=[aa<|Zb r]) (s:=s) (l:=aK r.length) (e:=Zh) (g:=Zh) (q:=λk=>ag<|gt r k≠0)
  (X2 el<|by omega) (by rw[bG];unfold lim;omega) (λk hk=>by
   have hk:=aQ.mp hk;refine#[[aa<|Zh k,aa<|Zb r],.bl<|!decide (gt r k=0),rfl,?_,?_,λ_=>Zi rfl]
   .rw[pv,VO rfl rfl hk,Za,YR,Za];rfl
   .simp[Zj])
 refine Zm<|ZZ ?_;have e2:pv (CV d) (.lst [(.blt .len [(.v 0)])]) [aa<|Zb r] s=.ok (.lst [Zh r.length]) s:=by
  rw[pv,Zc el Zf,Za];rfl
 rw[pv,xt hc e2 (by
  have:=eM (λk=>ag<|gt r k≠0)<|aK r.length
  rw[bG]at this;rw[ay,ga];unfold lim;omega),Za,YR,Za]
 show po (at' _ ((0:Nat):Int)) s=_;rw[QD (x:=Zh<|Yl r) (by
  have:=xo r;rw[show[Zh r.length]=[r.length].map Zh from rfl,<-bZ,aH,this];rfl)];rfl
theorem Vr:∀l:List Nat,(∀k∈l,k<6)->XJ (l.map Zh)=aa l
 |[],_=>rfl
 |k::l,h=>by
  have hk:=h k<|al ..;show(if 0<=(k:Int)/\(k:Int)<6 then(XJ<|l.map Zh).map ((k:Int).toNat :: ·)else ae)=_
  rw[T9 #[by omega,by omega],Vr l λx hx=>h x<|ai _ hx];rfl
def xH{q q':Nat->Bool}(l:List Nat)(h:∀k∈l,q' k = !q k):((l.filter q).map Zh).isEmpty=l.all q':=by
 induction l with
 |nil=>rfl
 |cons k l ih=>
  rw[fD,<-ih λx hx=>h x<|ai _ hx,h k<|al ..,fk]
  cases q k<;>rfl
def Za9{C:Zo}{a:E}{O:Env}{s:DS}{xs:List V}(h:pv C a O s=.ok (.lst xs) s):pv C (.cmp .eq a<|.lst []) O s=.ok (.bl xs.isEmpty) s:=by
 have e2:pv C (.lst []) O s=.ok (.lst []) s:=by rw[pv,Zf];rfl
 rw[pv,h,Za,e2,Za];cases xs<;>rfl
theorem WL{q:Row->Bool}:∀(l F:List Row),l.foldl (λF r=>if q r=am then F++[r]else F) F=F++l.filter q
 |[],F=>by simp
 |r::l,F=>by
  rw[dB,WL l,fk];cases q r<;>simp
section
variable{p n:Nat}[Base p]
def yZ(d:Nat){E F:List Row}{h:Nat}{r:Row}(s:DS)(hn:n<=6)(hr:Zd p n r)(hpl:∀k∈Zq E,k<n)(hh:h<n)(hl:F.length<lim) :
  rvs (CV<|d+1) [3] [.ite (.and (.cmp .eq (.ix (.v 5)<|.v 4)<|.c<|.int 1)<|.cmp .eq (.call 4 [(.v 5)])<|.v 4) [.ite (.cmp .eq (.comp1 [4,5] 1 [0] (.of<|.v 2) [(.and (.cmp .ne (.v 0)<|.v 1)<|.cmp .ne (.ix (.v 2)<|.v 0)<|.c<|.int 0)]<|.v 0)<|.lst []) [.ex<|.mt .append (.v 3) [(.v 5)]] []] []] [aa<|spV p n,aa<|.lst<|E.map Zb,aa<|.lst<|(Zq E).map Zh,aa<|.lst<|F.map Zb,aa<|Zh h,aa<|Zb r] [3] s
   = .ok (.nx [aa<|spV p n,aa<|.lst<|E.map Zb,aa<|.lst<|(Zq E).map Zh,aa<|.lst<|(if WY E h r=am then F++[r]else F).map Zb,aa<|Zh h,aa<|Zb r] [3]) s:=by
 generalize hρ:[aa<|spV p n,aa<|.lst<|E.map Zb,aa<|.lst<|(Zq E).map Zh,aa<|.lst<|F.map Zb,aa<|Zh h,aa<|Zb r]=O;have g4:O[4]?=aa (aa<|Zh h):=by rw[<-hρ];rfl
 have g5:O[5]?=aa (aa<|Zb r):=by rw[<-hρ];rfl
 have a1:pv (CV<|d+1) (.cmp .eq (.ix (.v 5)<|.v 4)<|.c<|.int 1) O s=.ok (.bl<|ag<|gt r h=1) s:=by
  rw[pv,VO g5 g4 (by rw[hr.1];exact hh),Za,YR,Za];rfl
 have a2:pv (CV<|d+1) (.cmp .eq (.call 4 [(.v 5)])<|.v 4) O s=.ok (.bl<|ag<|Yl r=h) s:=by
  rw[pv,ZR (Zc (Zi g5) Zf) (Jn d s (by rw[hr.1];omega)),Za,Zi g4,Za]
  show PR.ok (V.bl<|ag<|(Yl r:Int)=h) s=_
  congr 2
  exact decide_eq_decide.mpr #[λz=>by omega,λz=>by omega]
 have t1:=QU a1 a2;have hc:=Xj (C:=CV<|d+1) (cap:=[4,5]) (nl:=1) (t:=[0]) (it:=.of<|.v 2) (tst:=.and (.cmp .ne (.v 0)<|.v 1)<|.cmp .ne (.ix (.v 2)<|.v 0)<|.c<|.int 0) (elt:=.v 0) (O:=O) (s:=s) (l:=Zq E) (e:=Zh) (g:=Zh) (q:=λk=>!decide (k=h) && !decide (gt r k=0))
  (by rw[pvw,Zi (v:=.lst<|(Zq E).map Zh) (by rw[<-hρ];rfl)];rfl) (by
   have:=eM ((E.filter λr=>(hdI r).isSome).map Yl).contains<|aK 6
   rw[bG]at this;unfold Zq lim;omega) (λk hk=>by
   have hk:=hpl k hk;refine#[[aa<|Zh k,aa<|Zh h,aa<|Zb r],.bl<|!decide (k=h) && !decide (gt r k=0),by rw[<-hρ];rfl,?_,rfl,λ_=>Zi rfl]
   refine QU ?_ ?_
   .rw[pv,Zi rfl,Za,Zi rfl,Za]
    show PR.ok (V.bl<|!decide ((k:Int)=h)) s=_
    congr 3
    exact decide_eq_decide.mpr #[λz=>by omega,λz=>by omega]
   .rw[pv,VO rfl rfl (by rw[hr.1];exact hk),Za,YR,Za];rfl)
 have t2:=Za9 hc;rw[xH (q':=λk=>ag (k=h)||decide (gt r k=0)) _ λk _=>by simp]at t2
 have ef:WY E h r=((ag (gt r h=1)&&ag (Yl r=h))&&(Zq E).all λk=>ag (k=h)||decide (gt r k=0)):=rfl
 have stay:∀{t:Ev.E}{x:List Sm},pv (CV<|d+1) t O s=.ok (.bl aj) s->rvs (CV<|d+1) [3] [.ite t x []] O [3] s=.ok (.nx O [3]) s:=λ{t x} z=>by
  rw[Zs (ρ':=O) (os':=[3]) (s':=s) (by rw[Xi<|Ys z rfl,T8 (by decide),rvs]),rvs]
 have into:∀{t:Ev.E}{x:List Sm}{R:PR FlV},pv (CV<|d+1) t O s=.ok (.bl am) s->rvs (CV<|d+1) [3] x O [3] s=R->rvs (CV<|d+1) [3] [.ite t x []] O [3] s=R:=λ{t x R} z w=>by
  rw[rvs,Xi<|Ys z rfl,T9 rfl,w];cases R with|ok f s=>cases f<;>simp[PR.bind,rvs]|_=>rfl
 cases q1:(ag (gt r h=1)&&ag (Yl r=h))with
 |false=>
  rw[q1]at t1;rw[ef,q1,kJ,T8 (by decide),hρ]
  exact stay t1
 |true=>
  rw[q1]at t1;rw[ef,q1,Bool.true_and];refine into t1 ?_;cases q2:(Zq E).all λk=>ag (k=h)||decide (gt r k=0)with
  |false=>
   rw[q2]at t2;rw[T8 (by decide),hρ]
   exact stay t2
  |true=>
   rw[q2]at t2;rw[T9 rfl];refine into t2 ?_;rw[Zs (ρ':=O.set 3<|aa<|.lst<|(F++[r]).map Zb) (os':=[3]) (s':=s) (by
    rw[rv,T9<|show([3]:List Nat).contains 3=am from rfl,show XT O[3]?=aa (F.map Zb) by rw[<-hρ];rfl,ZI,Za,Zi g5,Za,T9 #[X0 r,by rw[ay];exact hl],bZ];rfl),rvs,<-hρ]
   rfl
def Jq(d:Nat){E F P:List Row}(s:DS)(hn:n<=6)(hK:HasK p n F P)(hE:E.Perm F)(hl:E.length<=1000):CV (d+2) 5 [spV p n,.lst<|E.map Zb] s=.ok (Zr P) s:=by
 have hpl:=xn hn hK hE;have hR:∀r∈E,Zd p n r:=λr hr=>((hK.mem r).mp<|hE.mem_iff.mp hr).1
 have hF:=qW hn hK hE;refine ZC rfl (by decide) rfl ?_
 show rvs (CV<|d+1) [3] Y9.body [aa<|spV p n,aa<|.lst<|E.map Zb,ae,ae,ae,ae] [] s=_
 dsimp only[Y9]
 have hc:=Xj (C:=CV<|d+1) (cap:=[]) (nl:=1) (t:=[0]) (it:=.of<|.v 1) (tst:=.blt .any [(.v 0)]) (elt:=.call 4 [(.v 0)]) (O:=[aa<|spV p n,aa<|.lst<|E.map Zb,ae,ae,ae,ae]) (s:=s) (l:=E) (e:=Zb) (g:=λr=>Zh<|Yl r) (q:=λr=>(hdI r).isSome)
  (by rw[pvw,Zi rfl];rfl) (by unfold lim;omega) (λr hr=>#[[aa<|Zb r],.bl (hdI r).isSome,rfl,qV s rfl,rfl,λ_=>ZR (Zc (Zi rfl) Zf)<|Jn d s (by rw[(hR r hr).1];omega)])
 have e1:pv (CV<|d+1) (.blt .sortedS [(.comp1 [] 1 [0] (.of<|.v 1) [(.blt .any [(.v 0)])]<|.call 4 [(.v 0)])]) [aa<|spV p n,aa<|.lst<|E.map Zb,ae,ae,ae,ae] s=.ok (.lst<|(Zq E).map Zh) s:=by
  rw[pv,Zc hc Zf,Za,show(E.filter λr=>(hdI r).isSome).map (λr=>Zh<|Yl r)=((E.filter λr=>(hdI r).isSome).map Yl).map Zh by rw[cG];rfl]
  show po ((XJ _).map λks=>V.lst (((aK 6).filter ks.contains).map λk:Nat=>.int k)) s=_
  rw[Vr _ λk hk=>by
   obtain⟨r,hr,rfl⟩:=aS.mp hk;obtain⟨hr,hs⟩:=bS.mp hr;obtain⟨k,e⟩:=bK.mp hs;rw[Xa e];have:=(ZT e).2.1;have:=(hR r hr).1;omega]
  rfl
 rw[Zs<|XO e1 rfl];show rvs _ _ _ [aa<|spV p n,aa<|.lst<|E.map Zb,aa<|.lst<|(Zq E).map Zh,ae,ae,ae] [] s=_;rw[Zs (ρ':=[aa<|spV p n,aa<|.lst<|E.map Zb,aa<|.lst<|(Zq E).map Zh,aa<|.lst<|([]:List Row).map Zb,ae,ae]) (os':=[3]) (s':=s) (by
  rw[rv];show PR.bind (pv _ (.lst []) _ s) _=_;rw[pv,Zf];rfl)]
 have lP:P.length<=1000:=by have:=hK.part;have:=dsum this;omega
 obtain⟨ρ',hI,e⟩:=zb (C:=CV<|d+1) (ms:=[3]) (os:=[3]) (t:=[4]) (it:=.of<|.v 2) (b:=[.forr [5] (.of<|.v 1) [.ite (.and (.cmp .eq (.ix (.v 5)<|.v 4)<|.c<|.int 1)<|.cmp .eq (.call 4 [(.v 5)])<|.v 4) [.ite (.cmp .eq (.comp1 [4,5] 1 [0] (.of<|.v 2) [(.and (.cmp .ne (.v 0)<|.v 1)<|.cmp .ne (.ix (.v 2)<|.v 0)<|.c<|.int 0)]<|.v 0)<|.lst []) [.ex<|.mt .append (.v 3) [(.v 5)]] []] []]]) (L:=Zq E) (e:=Zh) (O:=[aa<|spV p n,aa<|.lst<|E.map Zb,aa<|.lst<|(Zq E).map Zh,aa<|.lst<|([]:List Row).map Zb,ae,ae]) (s:=s)
  (λl O=>(∀k∈l,k<n)/\∃F a4 a5,O=[aa<|spV p n,aa<|.lst<|E.map Zb,aa<|.lst<|(Zq E).map Zh,aa<|.lst<|F.map Zb,a4,a5]/\F++(l.flatMap λh=>E.filter<|WY E h)=P) (by
   show pvw (CV<|d+1) (.of<|.v 2) [aa<|spV p n,aa<|.lst<|E.map Zb,aa<|.lst<|(Zq E).map Zh,ae,ae,ae] s=_;rw[pvw,Zi rfl];rfl) #[hpl,[],ae,ae,rfl,hF] rfl (λh l O hI=>by
   obtain⟨hh,F,a4,a5,rfl,hf⟩:=hI;have h0:=hh h<|al ..;have lF:F.length<=1000:=by have:=congrArg iC hf;rw[a7]at this;omega
   obtain⟨b5,_,e5⟩:=zY (C:=CV<|d+1) (ms:=[3]) (os:=[3]) (t:=[5]) (it:=.of<|.v 1) (b:=[.ite (.and (.cmp .eq (.ix (.v 5)<|.v 4)<|.c<|.int 1)<|.cmp .eq (.call 4 [(.v 5)])<|.v 4) [.ite (.cmp .eq (.comp1 [4,5] 1 [0] (.of<|.v 2) [(.and (.cmp .ne (.v 0)<|.v 1)<|.cmp .ne (.ix (.v 2)<|.v 0)<|.c<|.int 0)]<|.v 0)<|.lst []) [.ex<|.mt .append (.v 3) [(.v 5)]] []] []]) (L:=E) (e:=Zb) (step:=λF r=>if WY E h r=am then F++[r]else F) (O:=λF x=>[aa<|spV p n,aa<|.lst<|E.map Zb,aa<|.lst<|(Zq E).map Zh,aa<|.lst<|F.map Zb,aa<|Zh h,x]) (st:=F) (o:=a5) (s:=s)
    (λl F=>(∀r∈l,Zd p n r)/\F.length+l.length<lim) (by
     show pvw (CV<|d+1) (.of<|.v 1) [aa<|spV p n,aa<|.lst<|E.map Zb,aa<|.lst<|(Zq E).map Zh,ae,aa<|Zh h,a5] s=_;rw[pvw,Zi rfl];rfl) #[hR,by unfold lim;omega] rfl (λr l F x hI=>by
     obtain⟨i1,i2⟩:=hI;rw[aO]at i2;refine#[#[λq hq=>i1 q<|ai _ hq,?_],by rw[X0];rfl,[aa<|spV p n,aa<|.lst<|E.map Zb,aa<|.lst<|(Zq E).map Zh,aa<|.lst<|F.map Zb,aa<|Zh h,aa<|Zb r],aa<|Zb r,rfl,yZ d s hn (i1 r<|al ..) hpl h0 (by omega)]
     split
     .rw[a7,ga];omega
     .omega)
   rw[WL]at e5;refine#[rfl,[aa<|spV p n,aa<|.lst<|E.map Zb,aa<|.lst<|(Zq E).map Zh,aa<|.lst<|F.map Zb,aa<|Zh h,a5],_,rfl,by rw[Zs e5,rvs],λk hk=>hh k<|ai _ hk,_,_,_,rfl,?_]
   rw[mr,<-bp]at hf;exact hf)
 obtain⟨_,F,a4,a5,rfl,hf⟩:=hI;rw[List.flatMap_nil,cg]at hf;subst hf;rw[Zs e];refine Zm<|ZZ ?_;rw[pv,Zc (Zi rfl) Zf];rfl
end
end K12
namespace Ab
open Ev Pv
end Ab
namespace Lv
open Ev Pv
noncomputable def VL:Fn:=#[2,2,[.ite (.cmp .lt (.v 1)<|.blt .len [(.v 0)]) [.ret<|.ix (.v 0)<|.v 1] [],.ret<|.c<|.int 0]]
noncomputable def Vc(c:Nat):Fn:=#[2,3,[.asg [2]<|.call c [(.v 0),(.v 1)],.ite (.cmp .ge (.v 2)<|.bin .pow (.c<|.int 10)<|.c<|.int 18) [.ret<|.lst [(.bin .sub (.v 2)<|.bin .pow (.c<|.int 10)<|.c<|.int 18),(.c<|.bl am)]] [],.ret<|.lst [(.bin .mod (.v 2)<|.c<|.int 2147483647),(.c<|.bl aj)]]]
noncomputable def QT(nn:Nat)(M:Int)(st:Nat)(B:List Sm)(r:E):Fn:=#[1,nn,[.forr [1] (.rng1<|.blt .max2 [(.c<|.int 1),(.blt .min2 [(.blt .len [(.v 0)]),(.c<|.int M)])]) [.cel 2 st [(.v 0),(.v 1)] B],.ret r]]
def qz(ht:ca≠tk)(hC:F[ca]?=aa VL)(d:Nat)(k0:0<=k):∃c,Zg F tk (d+1) ca [.scr ns,.int k] s=.ok (.int c) s:=by
 by_cases c:k<ns.length
 .have hk:k.toNat<ns.length:=by lia
  refine#[ns[k.toNat],?_];simp[Zg,ht,hC,VL,rvs,rv,pvs,Pv.pv.eq_1,Pv.pv.eq_2,pv,Xz,PR.bind,po,ZK,Yk,int2,Xh,blt1,Ym,Zj,ixV,at',ixN,k0,c,hk,ofD]
 .refine#[0,?_]
  simp[Zg,ht,hC,VL,rvs,rv,pvs,pv,Xz,PR.bind,po,ZK,Yk,int2,Xh,blt1,Ym,Zj,ixV,at',ixN,k0,c,ofD]
def uQ(ht:ca≠tk)(hts:st≠tk)(hC:F[ca]?=aa VL)(hS:F[st]?=aa (Vc ca))(d:Nat)(k0:0<=k):∃v d0,Zg F tk (d+2) st [.scr ns,.int k] s=.ok v s/\Vz v=aa d0/\okS d0.1 d0.2=am:=by
 obtain⟨c,e⟩:=qz ht hC (s:=s) (ns:=ns) d k0;rw[show d+2=(d+1)+1 from rfl,Zg,T8 hts,hS]
 generalize Zg F tk (d+1)=C at e ⊢;by_cases h:10^18<=c
 .have h':(1000000000000000000:Int)<=c:=by simpa using h
  have o:okS (c-1000000000000000000) am=am:=by simp[okS];lia
  refine#[.lst [.int<|c-1000000000000000000,.bl am],(c-1000000000000000000,am),?_,by simp[Vz,o],o]
  simp[Vc,rvs,rv,pvA,pvs,pv,Xz,PR.bind,po,ZK,Yk,int2,Zj,ofD,YF,Pv.uq,e,h',muts,zQ,lim]
 .have h':¬(1000000000000000000:Int)<=c:=by simpa using h
  have o:okS (c%2147483647) aj=am:=by simp[okS];lia
  refine#[.lst [.int<|c%2147483647,.bl aj],(c%2147483647,aj),?_,by simp[Vz,o],o]
  simp[Vc,rvs,rv,pvA,pvs,pv,Xz,PR.bind,po,ZK,Yk,int2,Zj,ofD,YF,Pv.uq,e,h',muts,zQ,lim]
theorem Jo(P:Env->Prop):∀(xs:List V),(∀x∈xs,∀O s,P O->∃ρ' s',P ρ'/\body x O [] s=.ok (.nx ρ' []) s')->∀O s,P O->∃ρ' s',P ρ'/\YK body xs O [] s=.ok (.nx ρ' []) s'
 |[],_,O,s,h=>#[O,s,h,rfl]
 |x::xs,hb,O,s,h=>by
  obtain⟨ρ1,s1,h1,e1⟩:=hb x (al ..) O s h;obtain⟨ρ2,s2,h2,e2⟩:=Jo P xs (λy hy=>hb y<|ai _ hy) ρ1 s1 h1
  refine#[ρ2,s2,h2,?_];rw[YK,e1];exact e2
def VD :hide [] O=O:=by
 unfold hide;apply bM
 intro i;rw[gx];cases O[i]?<;>rfl
def vy(h0:O[0]?=aa (aa<|.scr ns))(h1:O[1]?=aa (aa<|.int k))(hl:O.length=nn+3):(XU 2 O).set 2 (aa .drw)=aa (.scr ns)::aa (.int k)::aa .drw::aB nn ae:=by
 match O,h0,h1,hl with
 |a::b::l,h0,h1,hl=>
  cases h0;cases h1;have:l.length=nn+1:=by simpa using hl
  unfold XU;simp[WS,V.flat,this,bI]
def law_ofR{r:E}(d:Nat)(ht:ca≠tk)(hts:st≠tk)(htl:L≠tk)(hC:F[ca]?=aa VL)(hS:F[st]?=aa (Vc ca))(hL:F[L]?=aa (QT (nn+3) M st B r))(hM:M<2^62)(hr:∀O s,pv (Zg F tk<|d+2) r O s=.ok (.bl am) s)
  (hv:∀(o:Option V)(k:Nat)(s:DS),∃O os s',rvs (Zg F tk<|d+2) (muts B) B (o::aa (.int k)::aa .drw::aB nn ae) [] s=.ok (.nx O os) s'/\O[0]?=aa o/\O.length=nn+3)(ns:List Int)(s:DS) :
  ∃S,Zg F tk (d+3) L [.scr ns] s=.ok (.bl am) S:=by
 rw[show d+3=(d+2)+1 from rfl,Zg,T8 htl,hL]
 have hst:=λk (k0:0<=k) s=>uQ ht hts hC hS (s:=s) (ns:=ns) (k:=k) d k0
 generalize Zg F tk (d+2)=C at hv hst hr ⊢;have hR:=hr;clear hr;have hr:∃m,pvw C (.rng1<|.blt .max2 [(.c<|.int 1),(.blt .min2 [(.blt .len [(.v 0)]),(.c<|.int M)])]) (ZK (nn+3) [.scr ns]) s=.ok (ZS 0 m) s:=by
  have e:pv C (.blt .max2 [(.c<|.int 1),(.blt .min2 [(.blt .len [(.v 0)]),(.c<|.int M)])]) (ZK (nn+3) [.scr ns]) s=.ok (.int<|if(if M<(ns.length:Int)then M else(ns.length:Int))>1 then(if M<(ns.length:Int)then M else(ns.length:Int))else 1) s:=by
   simp[pv,pvs,PR.bind,po,ZK,ofD,Xh,blt1,blt2,Ym]
  rw[pvw,e];refine#[_,(T9 ?_ :)];unfold YO;refine T5 ?_;split<;>split<;>lia
 obtain⟨m,hr⟩:=hr;have hm:muts (QT (nn+3) M st B r).body=muts B:=by simp[QT,muts,zQ]
 simp only[hm];show ∃S,(if 1=1 then _ else _)=_
 rw[T9 rfl];unfold QT;simp only;rw[rvs,rv,VD,hr]
 let body:V->Env->List Nat->DS->PR FlV:=λx O os s=>if([1].any os.contains)=am then .no else(po (Ze [1] x O) s).bind λO s=>rvs C (muts B) [.cel 2 st [(.v 0),(.v 1)] B] O os s
 have hb:∀x∈ZS 0 m,∀O s,(O[0]?=aa (aa<|.scr ns)/\O.length=nn+3)->∃ρ' s',(ρ'[0]?=aa (aa<|.scr ns)/\ρ'.length=nn+3)/\body x O [] s=.ok (.nx ρ' []) s':=by
  intro x hx O s #[h0,hl];unfold ZS at hx;obtain⟨k,_,rfl⟩:=aS.mp hx;rw[Int.zero_add];obtain⟨v,d0,e1,e2,e3⟩:=hst (k:Int) (by lia) s
  obtain⟨ρ2,os2,s2,e4,h2,l2⟩:=hv (aa<|.scr ns) k d0;have q0:(O.set 1<|aa<|.int (k:Int))[0]?=aa (aa<|.scr ns):=by rw[aY (by decide)];exact h0
  have q1:(O.set 1<|aa<|.int (k:Int))[1]?=aa (aa<|.int (k:Int)):=bw (by lia)
  have ql:(O.set 1<|aa<|V.int (k:Int)).length=nn+3:=by rw[bx];exact hl
  have a:pvs C [(.v 0),(.v 1)] (O.set 1<|aa<|.int (k:Int)) s=.ok [.scr ns,.int (k:Int)] s:=by
   simp only[pvs,pv,q0,q1,PR.bind,po,Option.join];rfl
  refine#[ρ2.map WS,s,#[by rw[aH,h2];rfl,by rw[ay];exact l2],?_]
  show(rvs C (muts B) [.cel 2 st [(.v 0),(.v 1)] B] (O.set 1<|aa<|.int (k:Int)) [] s)=_;rw[rvs,rv,T9 (by rfl),a]
  show PR.bind (PR.bind (C st [.scr ns,.int (k:Int)] s) _) _=_;rw[e1];show PR.bind (PR.bind (po (Vz v) s) _) _=_;rw[e2];simp only[po,PR.bind,vy q0 q1 ql,e4,rvs]
 obtain⟨O,s',h,e⟩:=Jo (body:=body) (λO=>O[0]?=aa (aa<|.scr ns)/\O.length=nn+3) (ZS 0 m) hb (ZK (nn+3) [.scr ns]) s #[rfl,by simp[ZK]]
 refine#[s',?_];show PR.bind (PR.bind (YK body (ZS 0 m) _ _ s) _) _=_;rw[e];show PR.bind (rvs C (muts B) [.ret r] O [] s') _=_;rw[rvs,rv,hR];rfl
end Lv
namespace K12
open Ev Pv Rw La
open Ab (okV Xy)
noncomputable def UI:List (Nat×Nat):=[(2,1),(2,2),(2,3),(2,4),(3,1),(3,2),(3,3),(5,1),(5,2),(2,3),(2,4),(3,3)]
noncomputable def Zag:List (Nat×Nat):=[(2,5),(2,6),(3,4),(5,3)]
noncomputable def Yp:List (Nat×Nat):=UI++Zag
def zF:∀q∈Yp,(q.1=2\/q.1=3\/q.1=5)/\1<=q.2/\q.2<=6/\q.1^q.2<=1000:=by decide
def xk(d:Nat){m:Int}(s:DS):∃q s',CV (d+2) 3 [.drw,.int m] s=.ok (spV q.1 q.2) s'/\q∈Yp:=by
 let L:=if m>27 then Yp else UI
 have hL:12<=L.length/\L.length<=16/\∀q∈L,q∈Yp:=by
  by_cases c:m>27
  .simp only[L,T9 c];exact#[by decide,by decide,λq hq=>hq]
  .simp only[L,T8 c];exact#[by decide,by decide,λq hq=>dv _ hq]
 obtain⟨v,s',f1,f2,f3⟩:=VH (F:=fns) (tk:=2) (d:=d) (m:=L.length) s (by omega) (by omega)
 obtain⟨k,rfl⟩:∃k:Nat,v=k:=#[v.toNat,by omega]
 have hk:k<L.length:=by omega
 refine#[L[k],s',ZC rfl (by decide) rfl ?_,hL.2.2 _<|aU hk]
 show rvs (CV<|d+1) [] Y1.body [aa .drw,aa<|.int m,ae] [] s=_
 dsimp only[Y1]
 rw[Zs (ρ':=[aa .drw,aa<|.int m,aa<|.lst<|UI.map λq=>spV q.1 q.2]) (os':=[]) (s':=s) (by simp[pvE,UI,spV])]
 have e0:pv (CV<|d+1) (.cmp .gt (.v 1)<|.c<|.int 27) [aa .drw,aa<|.int m,aa<|.lst<|UI.map λq=>spV q.1 q.2] s=.ok (.bl<|ag<|27<m) s:=by
  rw[pv,Zi rfl,Za,YR,Za];rfl
 rw[Zs (ρ':=[aa .drw,aa<|.int m,aa<|.lst<|L.map λq=>spV q.1 q.2]) (os':=[]) (s':=s) (by
  rw[Xi<|Ys e0 rfl];by_cases c:m>27
  .simp only[L,T9 c]
   rw[T5 c,T9 rfl];rw[Zs (ρ':=[aa .drw,aa<|.int m,aa<|.lst<|Yp.map λq=>spV q.1 q.2]) (os':=[]) (s':=s) (by simp[pvE,Yp,UI,Zag,spV]),rvs]
  .simp only[L,T8 c]
   rw[T4 c,T8 (by decide),rvs])]
 refine Zm<|ZZ ?_;have e1:pv (CV<|d+1) (.blt .len [(.v 2)]) [aa .drw,aa<|.int m,aa<|.lst<|L.map λq=>spV q.1 q.2] s=.ok (.int L.length) s:=by
  rw[pv,Zc (Zi rfl) Zf,Za];show po (aa<|V.int (L.map λq=>spV q.1 q.2).length) s=_
  rw[ay];rfl
 rw[pv,Zi rfl,Za,ZR (Zc (Zi rfl)<|Zc e1 Zf) f1,Za];show po (at' (L.map λq=>spV q.1 q.2) (k:Int)) s'=_
 rw[QD (by rw[aH,af hk];rfl)];rfl
def G0{C:Zo}{cap:List Nat}{nl:Nat}{t:List Nat}{it:W}{elt:E}{O:Env}{s s0:DS}{k:Nat}{Q:V->Prop}(hw:pvw C it O s=.ok (ZS 0 k) s0)(hl:k<=lim)(h:∀(x:V)(s:DS),∃U y s',Ze t x (ZP cap nl O)=aa U/\pv C elt U s=.ok y s'/\Q y)(ho:own nl t=am:=by rfl) :
  ∃ys s',pv C (.comp1 cap nl t it [] elt) O s=.ok (.lst ys) s'/\ys.length=k/\∀y∈ys,Q y:=by
 obtain⟨ys,s',e1,e2,e3⟩:=WF (Q:=Q) (f:=λx s=>(po (Ze t x<|ZP cap nl O) s).bind λU s=>(pvt C [] U s).bind λb s=>if b then(pv C elt U s).bind λy s=>.ok [y] s else .ok [] s) (λx s=>by
  obtain⟨U,y,s',f1,f2,f3⟩:=h x s;refine#[y,s',?_,f3];rw[f1,ZI,Za,pvt,Za];show(pv C elt U s).bind _=_;rw[f2];rfl) (ZS 0 k) s0
 have hk:(ZS 0 k).length=k:=by unfold ZS;simp
 refine#[ys,s',?_,by rw[e2,hk],e3]
 rw[pv,T9 ho,hw,Za,e1,Za,T9 (by rw[e2,hk];exact hl)];rfl
theorem Ug{p n:Nat}:∀{ys:List V},(∀y∈ys,∃r:Row,y=Zb r/\Zd p n r)->∃R:List Row,ys=R.map Zb/\∀r∈R,Zd p n r
 |[],_=>#[[],rfl,λ_ h=>by cases h]
 |y::ys,h=>by
  obtain⟨R,rfl,hR⟩:=Ug λz hz=>h z<|ai _ hz
  obtain⟨r,rfl,hr⟩:=h y<|al ..;refine#[r::R,rfl,λx hx=>?_]
  rcases az.mp hx with rfl|hx
  .exact hr
  .exact hR x hx
theorem Gb{p:Nat}:∀{ys:List V},(∀y∈ys,∃a:Int,y=.int a/\0<=a/\a<(p:Int))->∃r:Row,ys=r.map V.int/\∀a∈r,0<=a/\a<(p:Int)
 |[],_=>#[[],rfl,λ_ h=>by cases h]
 |y::ys,h=>by
  obtain⟨r,rfl,hr⟩:=Gb λz hz=>h z<|ai _ hz
  obtain⟨a,rfl,h3⟩:=h y<|al ..;refine#[a::r,rfl,λx hx=>?_]
  rcases az.mp hx with rfl|hx
  .exact h3
  .exact hr x hx
section
variable{p n:Nat}[Base p]
theorem WC:∀L:List Row,(ZE L).Perm L
 |[]=>cn _
 |x::L=>by
  have ins:∀(x:Row)(l:List Row),(Yx x l).Perm (x::l):=λx l=>by
   induction l with
   |nil=>exact cn _
   |cons y l ih=>
    unfold Yx;split
    .exact cn _
    .exact(ih.cons y).trans<|io ..
  exact(ins x<|ZE L).trans<|(WC L).cons x
def zC(d:Nat)(s:DS)(hn:n<=6):∃r s',CV (d+2) 6 [.drw,spV p n] s=.ok (Zb r) s'/\Zd p n r:=by
 have hp:=Gy (p:=p);obtain⟨v,s1,f1,f2,f3⟩:=VH (F:=fns) (tk:=2) (d:=d) (m:=(n:Int)+1) s (by omega) (by omega)
 obtain⟨w,s2,g1,g2,g3⟩:=VH (F:=fns) (tk:=2) (d:=d) (m:=3) s1 (by omega) (by omega)
 obtain⟨k,hk,e0⟩:∃k:Nat,k<=n/\pv (CV<|d+1) (.bin .mul (.call 2 [(.v 0),(.bin .add (.ix (.v 1)<|.c<|.int 1)<|.c<|.int 1)])<|.blt .toInt [(.cmp .eq (.call 2 [(.v 0),(.c<|.int 3)])<|.c<|.int 0)]) [aa .drw,aa<|spV p n,ae] s=.ok (Zh k) s2:=by
  have h1:pv (CV<|d+1) (.bin .add (.ix (.v 1)<|.c<|.int 1)<|.c<|.int 1) [aa .drw,aa<|spV p n,ae] s=.ok (.int<|(n:Int)+1) s:=J0 (ix1 rfl) YR;have h2:pv (CV<|d+1) (.call 2 [(.v 0),(.bin .add (.ix (.v 1)<|.c<|.int 1)<|.c<|.int 1)]) [aa .drw,aa<|spV p n,ae] s=.ok (.int v) s1:=ZR (Zc (Zi rfl)<|Zc h1 Zf) f1;have h3:pv (CV<|d+1) (.call 2 [(.v 0),(.c<|.int 3)]) [aa .drw,aa<|spV p n,ae] s1=.ok (.int w) s2:=ZR (Zc (Zi rfl)<|Zc YR Zf) g1;have h4:pv (CV<|d+1) (.blt .toInt [(.cmp .eq (.call 2 [(.v 0),(.c<|.int 3)])<|.c<|.int 0)]) [aa .drw,aa<|spV p n,ae] s1=.ok (.int<|b2i<|ag<|w=0) s2:=by
   have:pv (CV<|d+1) (.cmp .eq (.call 2 [(.v 0),(.c<|.int 3)])<|.c<|.int 0) [aa .drw,aa<|spV p n,ae] s1=.ok (.bl<|ag<|w=0) s2:=by
    rw[pv,h3,Za,YR,Za];rfl
   rw[pv,Zc this Zf];rfl
  by_cases c:w=0
  .refine#[v.toNat,by omega,?_]
   rw[pv,h2,Za,h4,Za,T5 c];show(if(fits v&&fits 1)=am then PR.ok (V.int<|v*1) s2 else .no)=_
   rw[T9 (by rw[Yc (by omega) (by omega)];rfl)]
   unfold Zh;rw[show v*1=((v.toNat:Nat):Int) by omega]
  .refine#[0,by omega,?_]
   rw[pv,h2,Za,h4,Za,T4 c];show(if(fits v&&fits 0)=am then PR.ok (V.int<|v*0) s2 else .no)=_
   rw[T9 (by rw[Yc (by omega) (by omega)];rfl),Int.mul_zero];rfl
 obtain⟨ys,s3,e1,e2,e3⟩:=UC (C:=CV<|d+1) (cap:=[0,1]) (nl:=1) (t:=[0]) (it:=.rng1<|.bin .sub (.ix (.v 1)<|.c<|.int 1)<|.v 2) (elt:=.call 2 [(.v 1),(.ix (.v 2)<|.c<|.int 0)]) (O:=[aa .drw,aa<|spV p n,aa<|Zh k]) (s:=s2) (k:=n-k) (Q:=λy=>∃a:Int,y=.int a/\0<=a/\a<(p:Int))
  (by
   rw[Va];refine X2 ?_ (by omega)
   rw[pv,ix1 rfl,Za,Zi rfl,Za];show PR.ok (V.int<|(n:Int)-(k:Int)) s2=_;rw[show(n:Int)-(k:Int)=((n-k:Nat):Int) by omega]) (by unfold lim;omega) (λx s=>by
   obtain⟨v,s',f1,f2,f3⟩:=VH (F:=fns) (tk:=2) (d:=d) (m:=p) s (by omega) (by omega)
   exact#[[aa x,aa .drw,aa<|spV p n],.int v,s',rfl,ZR (Zc (Zi rfl)<|Zc (ix0 rfl) Zf) f1,v,rfl,f2,f3])
 obtain⟨r,rfl,hr⟩:=Gb e3;rw[ay]at e2;refine#[aB k 0++r,s3,ZC rfl (by decide) rfl ?_,by rw[a7,bV,e2];omega,λa ha=>?_]
 .show rvs (CV<|d+1) [] XF.body [aa .drw,aa<|spV p n,ae] [] s=_
  dsimp only[XF]
  rw[Zs<|XO e0 rfl];show rvs _ _ _ [aa .drw,aa<|spV p n,aa<|Zh k] [] s2=_;refine Zm<|ZZ ?_;have g:pv (CV<|d+1) (.tup [(.c<|.int 0)]) [aa .drw,aa<|spV p n,aa<|Zh k] s2=.ok (.tup [.int 0]) s2:=qE YR;have g2:pv (CV<|d+1) (.bin .mul (.tup [(.c<|.int 0)])<|.v 2) [aa .drw,aa<|spV p n,aa<|Zh k] s2=.ok (.tup<|(aB k (0:Int)).map V.int) s2:=by
   rw[pv,g,Za,Zi rfl,Za];show(if(0:Int)<=k/\(k:Int)<1000/\1<=1000 then PR.ok (V.tup (aB (k:Int).toNat [V.int 0]).flatten) s2 else .no)=_
   rw[T9 #[by omega,by omega,by omega],c9,Zau]
  have g3:pv (CV<|d+1) (.blt .tuple [(.comp1 [0,1] 1 [0] (.rng1<|.bin .sub (.ix (.v 1)<|.c<|.int 1)<|.v 2) []<|.call 2 [(.v 1),(.ix (.v 2)<|.c<|.int 0)])]) [aa .drw,aa<|spV p n,aa<|Zh k] s2=.ok (.tup<|r.map V.int) s3:=by
   rw[pv,Zc e1 Zf];rfl
  rw[pv,g2,Za,g3,Za];show(if((aB k (0:Int)).map V.int).length+(r.map V.int).length<=lim then PR.ok (V.tup<|(aB k (0:Int)).map V.int++r.map V.int) s3 else .no)=_
  rw[T9 (by rw[ay,ay,bV];unfold lim;omega),<-bZ];rfl
 .rcases da.mp ha with ha|ha
  .rw[fH ha];omega
  .exact hr a ha
def uI(d:Nat)(s:DS)(hn:n<=6)(h1:1<=n)(hp:p^n<=1000):∃P s',CV (d+3) 9 [.drw,spV p n] s=.ok (Zr P) s'/\pZ p n P:=by
 obtain⟨v,s1,f1,f2,f3⟩:=VH (F:=fns) (tk:=2) (d:=d+1) (m:=(n:Int)+1) s (by omega) (by omega)
 obtain⟨k,rfl⟩:∃k:Nat,v=k:=#[v.toNat,by omega]
 obtain⟨ys,s2,e1,e2,e3⟩:=G0 (C:=CV<|d+2) (cap:=[0,1]) (nl:=1) (t:=[0]) (it:=.rng1<|.call 2 [(.v 0),(.bin .add (.ix (.v 1)<|.c<|.int 1)<|.c<|.int 1)]) (elt:=.call 6 [(.v 1),(.v 2)]) (O:=[aa .drw,aa<|spV p n,ae]) (s:=s) (s0:=s1) (k:=k) (Q:=λy=>∃r:Row,y=Zb r/\Zd p n r)
  (by
   rw[Va];exact X2 (ZR (Zc (Zi rfl)<|Zc (J0 (ix1 rfl) YR) Zf) f1)<|by omega) (by unfold lim;omega) (λx s=>by
   obtain⟨r,s',g1,g2⟩:=zC (p:=p) (n:=n) d s hn;exact#[[aa x,aa .drw,aa<|spV p n],Zb r,s',rfl,ZR (Zc (Zi rfl)<|Zc (Zi rfl) Zf) g1,r,rfl,g2])
 obtain⟨R,rfl,hR⟩:=Ug e3;have hK:=V2 hR;have hl:(ZE<|Wn p n R).length<=1000:=by
  rw[Jp,hK.len];have:=Gy (p:=p);exact bU (d7 (by omega)<|dsum hK.part) hp
 refine#[XR p [] R,s2,ZC rfl (by decide) rfl ?_,hK.part]
 show rvs (CV<|d+2) [] Xe.body [aa .drw,aa<|spV p n,ae] [] s=_
 dsimp only[Xe]
 rw[Zs<|XO e1 rfl];show rvs _ _ _ [aa .drw,aa<|spV p n,aa<|.lst<|R.map Zb] [] s2=_;exact Zm<|ZZ<|XZ (Zi rfl) (XZ (Zi rfl) (Zi rfl)<|Jh d s2 hn h1 hp hR rfl)<|Jq d s2 hn hK (WC _) hl
end
section
variable{p n:Nat}[Base p]
def J9(d:Nat){x:V}(s:DS)(hn:n<=6)(h1:1<=n)(hp:p^n<=1000)(hx:okV x=am):CV (d+3) 21 [spV p n,x] s=.ok (.bl<|isP p n x) s:=by
 refine ZC rfl (by decide) rfl ?_
 let l2:List Sm:=[.ret<|.cmp .eq (.call 5 [(.v 0),(.call 8 [(.v 0),(.v 1)])])<|.v 1]
 let l1:List Sm:=.forr [2] (.of<|.v 1) [.ite (.not<|.call 20 [(.v 0),(.v 2)]) [.ret<|.c<|.bl aj] []]::l2
 show rvs (CV<|d+2) [] (.ite (.or (.not<|.isi (.v 1) [.tuple])<|.cmp .gt (.blt .len [(.v 1)])<|.ix (.v 0)<|.c<|.int 1) [.ret<|.c<|.bl aj] []::l1) [aa<|spV p n,aa x,ae] [] s=_;have g:=ye (C:=CV<|d+2) (O:=[aa<|spV p n,aa x,ae]) (s:=s) (i:=1) rfl hx;have fin:pv (CV<|d+2) (.or (.not<|.isi (.v 1) [.tuple])<|.cmp .gt (.blt .len [(.v 1)])<|.ix (.v 0)<|.c<|.int 1) [aa<|spV p n,aa x,ae] s=.ok (.bl am) s->rvs (CV<|d+2) [] (.ite (.or (.not<|.isi (.v 1) [.tuple])<|.cmp .gt (.blt .len [(.v 1)])<|.ix (.v 0)<|.c<|.int 1) [.ret<|.c<|.bl aj] []::l1) [aa<|spV p n,aa x,ae] [] s=.ok (.ret<|.bl aj) s:=λq=>by
  refine Zm ?_;rw[Xi<|Ys q rfl,T9 rfl];exact Zm<|ZZ (by rw[pv];rfl)
 rcases Vk hx with⟨xs,rfl⟩|⟨_,no⟩
 .have e1:pv (CV<|d+2) (.cmp .gt (.blt .len [(.v 1)])<|.ix (.v 0)<|.c<|.int 1) [aa<|spV p n,aa<|.tup xs,ae] s=.ok (.bl<|ag<|(n:Int)<xs.length) s:=by
   have:pv (CV<|d+2) (.blt .len [(.v 1)]) [aa<|spV p n,aa<|.tup xs,ae] s=.ok (.int xs.length) s:=by rw[pv,Zc (Zi rfl) Zf];rfl
   rw[pv,this,Za,ix1 rfl,Za];rfl
  by_cases c:xs.length<=n
  .rw[T4<|by omega]at e1
   rw[guard<|J5 g e1];obtain⟨g1,g2⟩:=jV (C:=CV<|d+2) (ms:=[]) (i:=2) (it:=.of<|.v 1) (b:=[.ite (.not<|.call 20 [(.v 0),(.v 2)]) [.ret<|.c<|.bl aj] []]) (L:=xs) (e:=id) (q:=λv=>!ZA p n v) (v:=.bl aj) (O:=λo=>[aa<|spV p n,aa<|.tup xs,o]) (s:=s) ae
    (by
     show pvw (CV<|d+2) (.of<|.v 1) [aa<|spV p n,aa<|.tup xs,ae] s=_;rw[pvw,Zi rfl,Za,mZ];rfl) (λ_ _=>rfl) (λv hv=>by
     have e3:pv (CV<|d+2) (.not<|.call 20 [(.v 0),(.v 2)]) [aa<|spV p n,aa<|.tup xs,aa v] s=.ok (.bl !ZA p n v) s:=uO<|XZ (Zi rfl) (Zi rfl)<|GM d s hn<|VQ hx v hv;show rvs _ _ _ [aa<|spV p n,aa<|.tup xs,aa v] [] s=if(!ZA p n v)=am then _ else PR.ok (.nx [aa<|spV p n,aa<|.tup xs,aa v] []) s
     cases q:(!ZA p n v)with
     |true=>
      rw[q]at e3;rw[T9 rfl];refine Zm ?_;rw[Xi<|Ys e3 rfl,T9 rfl];exact Zm<|ZZ (by rw[pv];rfl)
     |false=>rw[q]at e3;rw[T8 (by decide),guard e3,rvs])
   cases q:xs.all (ZA p n)with
   |false=>
    have:(xs.any λv=>!ZA p n v)=am:=by
     rw[kg];simp[q]
    rw[show l1=.forr [2] (.of<|.v 1) [.ite (.not<|.call 20 [(.v 0),(.v 2)]) [.ret<|.c<|.bl aj] []]::l2 from rfl,Zm<|g1 this]
    have:isP p n (.tup xs)=aj:=by
     show(xs.all (ZA p n)&&_)=aj;rw[q,kJ]
    rw[this]
   |true=>
    have:(xs.any λv=>!ZA p n v)=aj:=by
     rw[kg];simp[q]
    obtain⟨o',g2⟩:=g2 this;obtain⟨R,rfl,hR⟩:=Xq q;rw[show l1=.forr [2] (.of<|.v 1) [.ite (.not<|.call 20 [(.v 0),(.v 2)]) [.ret<|.c<|.bl aj] []]::l2 from rfl,Zs g2]
    refine Zm<|ZZ ?_;have hK:=V2 hR;have hl:(ZE<|Wn p n R).length<=1000:=by
     rw[Jp,hK.len];have:=Gy (p:=p);exact bU (d7 (by omega)<|dsum hK.part) hp
    rw[jg (P:=XR p [] R) (Q:=R) (XZ (Zi rfl) (XZ (Zi rfl) (Zi rfl)<|Jh d s hn h1 hp hR rfl)<|Jq d s hn hK (WC _) hl)<|Zi rfl];have eb:isP p n (.tup<|R.map Zb)=X4 R:=by
     show((R.map Zb).all (ZA p n)&&match Z0 (R.map Zb)with|some R=>X4 R|none=>aj)=_
     rw[q,YU];rfl
    rw[eb]
    congr 2
    rw[bT,T0,WJ hR,yu hR]
  .rw[T5<|by omega]at e1
   rw[fin<|J5 g e1];have:isP p n (.tup xs)=aj:=by
    cases q:isP p n (.tup xs)with
    |false=>rfl
    |true=>
     obtain⟨P,e,hP⟩:=zR.mp q;exact T7 (VU hP xs e.symm) c
   rw[this]
 .rw[wO no]
  refine fin ?_;rw[pv,g];cases x<;>first|rfl|exact T7 rfl<|no _
end
noncomputable def yx(p n:Nat):Ab.T:=.tup n n<|.int 0<|(p:Int)-1
noncomputable def phi(p n:Nat):Ab.Sg:=λf ts=>if f=17 then(match ts with
  |[.drw,.two a b,.tup lo hi<|.int x y]=>if a=p/\b=n/\lo=n/\hi=n/\x=0/\y=(p:Int)-1 then aa (.th 1000)else ae
  |_=>ae)else if f=7 then(match ts with
  |[.two a b,.tup lo hi<|.int x y,.int u v,.tup lo' hi'<|.int x' y']=>if a=p/\b=n/\lo=n/\hi=n/\x=0/\y=(p:Int)-1/\-1000<u/\v<1000/\lo'=n/\hi'=n/\x'=0/\y'=(p:Int)-1 then aa (yx p n)else ae
  |_=>ae)else if f=6 then(match ts with
  |[.drw,.two a b]=>if a=p/\b=n then aa (yx p n)else ae
  |_=>ae)else ae
def Zdv(d:Nat):Ab.Fine 2 (λ_ _=>ae) (CV<|d+1):=#[λm s h0 h1=>VH s h0 h1,λf ts t _ h=>by cases h]
def vb:∀q∈Yp,Ab.chk 2 (λ_ _=>ae) 9 [aa .drw,aa<|.two q.1 q.2,aa<|yx q.1 q.2,ae,ae,ae] Y7.body=am:=by decide +kernel
def wb:(Yp.all λq=>(aK<|q.2+1).all λk=>Ab.chk 2 (phi q.1 q.2) 12 [aa .drw,aa<|.two q.1 q.2,aa<|.tup k k<|yx q.1 q.2,ae,ae,ae,ae,ae] WV.body)=am:=by decide +kernel
def W9{p n:Nat}{r:Row}(h:Zd p n r):Ab.Has (yx p n) (Zb r):=#[r.map .int,rfl,by rw[ay,h.1];exact aA _,by rw[ay,h.1];exact aA _,λx hx=>by
 obtain⟨a,ha,rfl⟩:=aS.mp hx;have:=h.2 a ha;exact#[a,rfl,by omega,by omega]]
def Qd{p n:Nat}{v:V}(h:Ab.Has (yx p n) v):∃r,v=Zb r/\Zd p n r:=by
 obtain⟨xs,rfl,h1,h2,h3⟩:=h;have:∃r:Row,xs=r.map V.int/\∀a∈r,0<=a/\a<(p:Int):=by
  clear h1 h2
  induction xs with
  |nil=>exact#[[],rfl,λ_ h=>by cases h]
  |cons y ys ih=>
   obtain⟨r,g1,g2⟩:=ih λz hz=>h3 z<|ai _ hz
   obtain⟨a,rfl,g3,g4⟩:=h3 y<|al ..;refine#[a::r,by rw[g1];rfl,λx hx=>?_]
   rcases az.mp hx with rfl|hx
   .exact#[g3,by omega]
   .exact g2 x hx
 obtain⟨r,rfl,hr⟩:=this;rw[ay]at h1 h2;exact#[r,rfl,by omega,hr]
def Qf(d:Nat){q:Nat×Nat}{r:Row}(s:DS)(hq:q∈Yp)(hr:Zd q.1 q.2 r):∃v s',CV (d+2) 17 [.drw,spV q.1 q.2,Zb r] s=.ok v s'/\Ab.Th 1000 v:=by
 obtain⟨v,s',e,h⟩:=Ab.chk_ok (Zdv d) 9 (O:=[aa .drw,aa<|spV q.1 q.2,aa<|Zb r,ae,ae,ae]) s (vb q hq) (λi t hi=>by
  match i,hi with
  |0,hi=>cases hi;exact#[_,rfl,rfl]
  |1,hi=>cases hi;exact#[_,rfl,rfl]
  |2,hi=>cases hi;exact#[_,rfl,W9 hr]
  |3,hi=>cases hi
  |4,hi=>cases hi
  |5,hi=>cases hi
  |n+6,hi=>cases hi) rfl
 exact#[v,s',ZC rfl (by decide) rfl e,h]
section
variable{p n:Nat}[Base p]
def ZcP(d:Nat)(hq:(p,n)∈Yp):Ab.Fine 2 (phi p n) (CV<|d+2):=#[λm s h0 h1=>VH s h0 h1,λf ts t _ h vs s ha=>by
 have hn:=(zF _ hq).2.2.1;unfold phi at h;split at h
 .next e=>
  subst e;split at h
  .split at h
   .next c=>
    obtain⟨rfl,rfl,rfl,rfl,rfl,rfl⟩:=c;cases h;obtain⟨v1,ws,rfl,g1,v2,ws,rfl,g2,v3,ws,rfl,g3,g4⟩:=ha;cases g4;cases(show v1=.drw from g1)
    cases(show v2=.tup [.int _,.int _]from g2)
    obtain⟨r,rfl,hr⟩:=Qd (p:=p) g3;exact Qf d (q:=(p,_)) s hq hr
   .cases h
  .cases h
 .split at h
  .next e=>
   subst e;split at h
   .split at h
    .next c=>
     obtain⟨rfl,rfl,rfl,rfl,rfl,rfl,c1,c2,rfl,rfl,rfl,rfl⟩:=c;cases h;obtain⟨v1,ws,rfl,g1,v2,ws,rfl,g2,v3,ws,rfl,g3,v4,ws,rfl,g4,g5⟩:=ha;cases g5;cases(show v1=.tup [.int _,.int _]from g1)
     obtain⟨r,rfl,hr⟩:=Qd (p:=p) g2;obtain⟨k,rfl,k1,k2⟩:=g3;obtain⟨o,rfl,ho⟩:=Qd (p:=p) g4;exact#[_,s,Q0 (d+1) s hn hr ho #[by omega,by omega],W9<|Zl hr ho]
    .cases h
   .cases h
  .split at h
   .next e=>
    subst e;split at h
    .split at h
     .next c=>
      obtain⟨rfl,rfl⟩:=c;cases h;obtain⟨v1,ws,rfl,g1,v2,ws,rfl,g2,g3⟩:=ha;cases g3;cases(show v1=.drw from g1)
      cases(show v2=.tup [.int _,.int _]from g2)
      obtain⟨r,s',e,hr⟩:=zC (p:=p) d s hn;exact#[_,s',e,W9 hr]
     .cases h
    .cases h
   .cases h]
def wm(d:Nat){P:List Row}(s:DS)(hq:(p,n)∈Yp)(hP:pZ p n P):∃v s',CV (d+3) 18 [.drw,spV p n,Zr P] s=.ok v s'/\Ab.Th 1000 v:=by
 have hl:=dsum hP;have hc:=a8.mp (a8.mp wb (p,n) hq) P.length<|aQ.mpr (by show P.length<n+1;omega)
 obtain⟨v,s',e,h⟩:=Ab.chk_ok (ZcP d hq) 12 (O:=[aa .drw,aa<|spV p n,aa<|Zr P,ae,ae,ae,ae,ae]) s hc (λi t hi=>by
  match i,hi with
  |0,hi=>cases hi;exact#[_,rfl,rfl]
  |1,hi=>cases hi;exact#[_,rfl,rfl]
  |2,hi=>
   cases hi;refine#[_,rfl,P.map Zb,rfl,by rw[ay];exact aA _,by rw[ay];exact aA _,λx hx=>?_]
   obtain⟨r,hr,rfl⟩:=aS.mp hx;exact W9<|hP.row r hr
  |3,hi=>cases hi
  |4,hi=>cases hi
  |5,hi=>cases hi
  |6,hi=>cases hi
  |7,hi=>cases hi
  |n+8,hi=>cases hi) rfl
 exact#[v,s',ZC rfl (by decide) rfl e,h]
end
noncomputable def z7:List Sm:=[.asg [3]<|.call 3 [(.v 2),(.ix (.lst [(.c<|.int 27),(.c<|.int 125)])<|.blt .toInt [(.cmp .eq (.v 1)<|.c<|.int 0)])],
  .asg [4] (.call 9 [(.v 2),(.v 3)]),
  .ite (.cmp .isn (.call 16 [(.v 3),(.v 4)])<|.c<|.bl am) [.ret<|.c<|.bl aj] [],
  .forr [5] (.of<|.comp1 [2,3,4] 1 [0] (.rng1<|.c<|.int 6) []<|.call 18 [(.v 1),(.v 2),(.v 3)]) [.asg [6]<|.call 16 [(.v 3),(.v 5)],
  .ite (.or (.not<|.isi (.v 6) [.bool])<|.cmp .ne (.v 6)<|.call 21 [(.v 3),(.v 5)]) [.ret<|.c<|.bl aj] []]]
def uz(d:Nat)(o:Option V)(k:Nat)(s:DS):∃O os s',rvs (CV<|d+6) [] z7 (o::aa (.int k)::aa .drw::aB 4 ae) [] s=.ok (.nx O os) s'/\O[0]?=aa o/\O.length=7:=by
 have e0:∃m,pv (CV<|d+6) (.ix (.lst [(.c<|.int 27),(.c<|.int 125)])<|.blt .toInt [(.cmp .eq (.v 1)<|.c<|.int 0)]) [o,aa<|.int k,aa .drw,ae,ae,ae,ae] s=.ok (.int m) s:=by
  by_cases c:(k:Int)=0
  .have c':k=0:=by omega
   exact#[125,by simp[pvE,c',Zw,b2i,at',ixN]]
  .have c':k≠0:=by omega
   exact#[27,by simp[pvE,c',Zw,b2i,at',ixN]]
 obtain⟨m,e0⟩:=e0;obtain⟨⟨p,n⟩,s1,e1,hq⟩:=xk (d+4) (m:=m) s;obtain⟨hb,h1,hn,hp⟩:=zF _ hq
 haveI:Base p:=⟨hb⟩
 have hn:n<=6:=hn;have h1:1<=n:=h1;have hp:p^n<=1000:=hp;obtain⟨P,s2,e2,hP⟩:=uI (d+3) (p:=p) (n:=n) s1 hn h1 hp;have e3:=qY (d+3) (p:=p) (n:=n) s2 hn hP;obtain⟨ys,s3,e4,l4,q4⟩:=UC (C:=CV<|d+6) (cap:=[2,3,4]) (nl:=1) (t:=[0]) (it:=.rng1<|.c<|.int 6) (elt:=.call 18 [(.v 1),(.v 2),(.v 3)]) (O:=[o,aa<|.int k,aa .drw,aa<|spV p n,aa<|Zr P,ae,ae]) (s:=s2) (Q:=λv=>Ab.Th 1000 v) (k:=6)
  (by rw[Va];exact X2 YR<|by omega) (by unfold lim;omega) (λx s=>by
   obtain⟨v,s',f1,f2⟩:=wm (d+3) s hq hP;exact#[[aa x,aa .drw,aa<|spV p n,aa<|Zr P],v,s',rfl,ZR (Zc (Zi rfl)<|Zc (Zi rfl)<|Zc (Zi rfl) Zf) f1,f2])
 obtain⟨ρ',s',hI,e5⟩:=qR (C:=CV<|d+6) (ms:=[]) (os:=[]) (t:=[5]) (it:=.of<|.comp1 [2,3,4] 1 [0] (.rng1<|.c<|.int 6) []<|.call 18 [(.v 1),(.v 2),(.v 3)]) (b:=[.asg [6]<|.call 16 [(.v 3),(.v 5)],
  .ite (.or (.not<|.isi (.v 6) [.bool])<|.cmp .ne (.v 6)<|.call 21 [(.v 3),(.v 5)]) [.ret<|.c<|.bl aj] []]) (L:=ys) (e:=id) (O:=[o,aa<|.int k,aa .drw,aa<|spV p n,aa<|Zr P,ae,ae]) (s:=s2) (s0:=s3)
  (λl O=>(∀v∈l,Ab.Th 1000 v)/\∃a5 a6,O=[o,aa<|.int k,aa .drw,aa<|spV p n,aa<|Zr P,a5,a6])
  (by
   show pvw (CV<|d+6) _ [o,aa<|.int k,aa .drw,aa<|spV p n,aa<|Zr P,ae,ae] s2=_;rw[pvw,e4,Za,mZ];rfl) #[q4,ae,ae,rfl] rfl (λx l O s hI=>by
   obtain⟨hx,a5,a6,rfl⟩:=hI;have ox:=hx x<|al ..;have g1:=VP (d+3) (p:=p) (n:=n) s hn ox.1 ox.2;have g2:=J9 (d+3) (p:=p) (n:=n) s hn h1 hp ox.1;refine#[[o,aa<|.int k,aa .drw,aa<|spV p n,aa<|Zr P,aa x,a6],[o,aa<|.int k,aa .drw,aa<|spV p n,aa<|Zr P,aa x,aa<|.bl<|isP p n x],s,rfl,?_,λy hy=>hx y<|ai _ hy,_,_,rfl]
   rw[Zs<|XO (XZ (Zi rfl) (Zi rfl) g1) rfl];show rvs _ _ _ [o,aa<|.int k,aa .drw,aa<|spV p n,aa<|Zr P,aa x,aa<|.bl<|isP p n x] [] s=_;have g3:pv (CV<|d+6) (.not<|.isi (.v 6) [.bool]) [o,aa<|.int k,aa .drw,aa<|spV p n,aa<|Zr P,aa x,aa<|.bl<|isP p n x] s=.ok (.bl aj) s:=by
    rw[pv,pv,Zi rfl];rfl
   rw[guard<|J5 g3<|ZcM (Zi rfl) (XZ (Zi rfl) (Zi rfl) g2) rfl,rvs])
 obtain⟨_,a5,a6,rfl⟩:=hI;refine#[[o,aa<|.int k,aa .drw,aa<|spV p n,aa<|Zr P,a5,a6],[],s',?_,rfl,rfl];show rvs _ _ z7 [o,aa<|.int k,aa .drw,ae,ae,ae,ae] [] s=_;unfold z7;rw[Zs<|XO (ZR (Zc (Zi rfl)<|Zc e0 Zf) e1) rfl];show rvs _ _ _ [o,aa<|.int k,aa .drw,aa<|spV p n,ae,ae,ae] [] s1=_;rw[Zs<|XO (ZR (Zc (Zi rfl)<|Zc (Zi rfl) Zf) e2) rfl];show rvs _ _ _ [o,aa<|.int k,aa .drw,aa<|spV p n,aa<|Zr P,ae,ae] [] s2=_;rw[guard<|x5<|XZ (Zi rfl) (Zi rfl) e3,Zs e5,rvs]
def wV(d:Nat)(O:Env)(s:DS):pv (CV<|d+6) (.and (.cmp .is (.call 16 [(.tup [(.c<|.int 3),(.c<|.int 2)]),(.tup [])])<|.c<|.bl am)<|.and (.cmp .is (.call 16 [(.tup [(.c<|.int 3),(.c<|.int 2)]),(.tup [(.tup [(.c<|.int 1),(.c<|.int 2)])])])<|.c<|.bl am)<|.cmp .is (.call 16 [(.tup [(.c<|.int 3),(.c<|.int 2)]),(.tup [(.tup [(.c<|.int 2),(.c<|.int 1)])])])<|.c<|.bl aj) O s=.ok (.bl am) s:=by
 haveI:Base 3:=⟨.inr<|.inl rfl⟩
 have sp:pv (CV<|d+6) (.tup [(.c<|.int 3),(.c<|.int 2)]) O s=.ok (spV 3 2) s:=by simp[pvE,ofD,spV]
 have bt:∀b,pv (CV<|d+6) (.c<|.bl b) O s=.ok (.bl b) s:=λb=>by rw[pv];rfl
 have one:∀{e:E}{x:V}{b:Bool},pv (CV<|d+6) e O s=.ok x s->okV x=am->(∀xs,x=.tup xs->xs.length<=1000)->isP 3 2 x=b->pv (CV<|d+6) (.cmp .is (.call 16 [(.tup [(.c<|.int 3),(.c<|.int 2)]),e])<|.c<|.bl b) O s=.ok (.bl am) s:=λ{e x b} h1 h2 h3 h4=>by
  have a:=VP (d+3) (p:=3) (n:=2) s (by omega) h2 h3
  rw[h4]at a;rw[pv,XZ sp h1 a,Za,bt,Za];show PR.ok (V.bl<|ag<|b=b) s=_;rw[T5 rfl]
 have u1:=one (x:=.tup []) (b:=am) (e:=.tup []) (by rw[pv,Zf];rfl) rfl (λxs z=>by cases z;simp) (by decide +kernel)
 have u2:=one (x:=.tup [.tup [.int 1,.int 2]]) (b:=am) (e:=.tup [(.tup [(.c<|.int 1),(.c<|.int 2)])]) (by simp[pvE,ofD]) rfl (λxs z=>by cases z;simp) (by decide +kernel)
 have u3:=one (x:=.tup [.tup [.int 2,.int 1]]) (b:=aj) (e:=.tup [(.tup [(.c<|.int 2),(.c<|.int 1)])]) (by simp[pvE,ofD]) rfl (λxs z=>by cases z;simp) (by decide +kernel)
 exact QU u1<|QU u2 u3
def law_ok(ns:List Int)(s:DS):∃S,CV 65 22 [.scr ns] s=.ok (.bl am) S:=
 Lv.law_ofR (B:=z7) 62 (ca:=0) (st:=1) (nn:=4) (M:=8) (by decide) (by decide) (by decide) rfl rfl rfl (by decide) (λO s=>wV 58 O s) (λo k s=>uz 58 o k s) ns s
end K12
namespace K12
open PySem PySem.Spec PyProof.Rows L2 Sd Gn
open Sd (JH zI xL wR yg wy Zaz x9 vY zM zq vi vB zw UL vh wc vL GK wo GS yr yf yi zH UA Gf yn yt)
def Zdr(s:fw):bF:=match s with|.FunctionDef x _ _ _ _ _ _ _ _ _=>x|_=>""
def top(i:Nat):fw:=PySem.Challenge.pw_fewspaces_k12_parts_looked_at.main.body.getD i<|.Pass #[0,0,0,0]
noncomputable abbrev R(i m k:Nat):FR:=#[Zdr<|top i,top i,((Zu<|top i).names.map (·.1)).take m,k]
noncomputable abbrev r0:=R 10 2 2
noncomputable abbrev r1:=R 11 3 2
noncomputable abbrev r2:=R 12 4 2
noncomputable abbrev r3:=R 13 3 2
noncomputable abbrev r4:=R 17 1 1
abbrev r5:FR:=#["_law_form",top 18,["_law_space_here","_law_every","_law_places","_law_found","_law_head_here","_law_row_here"],2]
noncomputable abbrev r6:=R 15 3 2
noncomputable abbrev r7:=R 14 4 4
noncomputable abbrev r8:=R 16 6 2
noncomputable abbrev r9:=R 19 3 2
noncomputable abbrev r10:=R 3 3 1
noncomputable abbrev r11:=R 2 1 1
noncomputable abbrev r12:=R 4 2 2
noncomputable abbrev r13:=R 8 3 3
noncomputable abbrev r14:=R 1 3 3
noncomputable abbrev r15:=R 6 4 2
noncomputable abbrev r16:=R 7 3 2
noncomputable abbrev r17:=R 23 6 3
noncomputable abbrev r18:=R 24 8 3
noncomputable abbrev r19:=R 20 3 3
noncomputable abbrev r20:=R 21 2 2
noncomputable abbrev r21:=R 22 3 2
abbrev r22:FR:=#["law",top 26,["_law_script","_law_k","_law_state_here","_law_space_here","_law_part_here","_law_thing","_law_found"],1]
noncomputable abbrev fs:List FR:=[r0,r1,r2,r3,r4,r5,r6,r7,r8,r9,r10,r11,r12,r13,r14,r15,r16,r17,r18,r19,r20,r21,r22]
abbrev zs:List bF:=["all","any","bool","enumerate","int","isinstance","len","list","max","min","range","set","sorted","tuple","zip"]
abbrev gs:List (bF×Gv):=[]
noncomputable abbrev jE{X xw C e}(i:Ev.E):=Sd.CE X xw C e i
noncomputable abbrev jF{X xw C e}(i:Ev.E):=Sd.CF X xw C e i
noncomputable abbrev jT{X xw C e}(i:Ev.E):=Sd.CT X xw C e i
noncomputable abbrev jS{X xw a C b e}(i:Ev.Sm):=Sd.CS X xw a C b e i
def okl:OkL fs zs gs fns tk sn 0 fs fns:=by
 repeat'(first|exact dM|refine#[#[rfl,rfl,by decide +kernel,?_],?_]|intro P w K mg base f fd d T h hn cdv A outer s H E hr hu)
 all_goals
 (repeat'(first
 |(with_reducible show aM _ _=_);(first|exact zI|exact JH|exact zM|exact vY|exact xL|exact wy|exact zq|exact wR|exact Zaz|exact x9|exact yg)
 |(with_reducible show Cx.mg _ _=_);(exact Top.no (by assumption) (by kernel_rfl!))
 |(with_reducible show _=_);first|exact Zb0 _|kernel_rfl!
 |(with_reducible show Gl _ _);show _=_;kernel_rfl!
 |show Sd.CSs _ _ _ _ _ _ [.cel _ _ _ _];refine ZcE (by assumption) (by assumption) (by assumption) ?_ ?_ (by assumption) (by kernel_rfl!) rfl rfl (by kernel_rfl!) (by first|exact zI|exact JH|exact zM|exact vY|exact xL|exact wy|exact zq|exact wR|exact Zaz|exact x9|exact yg) rfl (by kernel_rfl!) (by first|exact Or.inl (by kernel_rfl!)|exact mE (by kernel_rfl!)|exact mE (Or.inl (by kernel_rfl!))|exact mE (mE (by kernel_rfl!))) (by first|exact .inl rfl|exact .inr<|by kernel_rfl!) (by kernel_rfl!) (by kernel_rfl!) (by kernel_rfl!)
 |show Sd.CSs _ _ _ _ _ _ _;first|apply Zca|apply jx
 |show Sd.CA _ _ _ _ _;first|apply Zcq|apply jp
 |show jF (.blt .sortedS _);apply Gx
 |show jF (.blt .list _);apply zN Gf
 |show jF (.blt .listD _);apply zN (yY rfl)
 |show jF (.blt .sortedD _);apply jd (JS rfl)
 |show jF (.lst _);apply Zbl
 |show jF (.comp1 _ _ _ _ _ _);refine wd rfl (by first|assumption|exact T6<|by kernel_rfl!) (wN<|by kernel_rfl!) ?_ (λ_ _ _ _=>#[?_,?_,?_]) (hs:=by intro _;kernel_rfl!)
 |show Sd.CE _ _ _ (.BoolOp _ [_] _) _;apply Zbk
 |show jE (.dix _ aj);apply uY
 |show jE (.dix _ am);apply Zaa
 |show jE (.v _);apply Zeb
 |show jE (.c _);first|apply Zb5|apply Zds|apply ZaZ|apply Za4
 |show jE (.call _ _);refine Zdd (by assumption) (by assumption) (by assumption) ?_ (by kernel_rfl!) rfl (by kernel_rfl!) (by first|exact zI|exact JH|exact zM|exact vY|exact xL|exact wy|exact zq|exact wR|exact Zaz|exact x9|exact yg) rfl
 |show jE .dnew;apply qo
 |show jE (.ix _ _);apply Zdj
 |show jE (.blt .len _);apply Wl yr
 |show jE (.blt .tuple _);apply zL UA
 |show jE (.blt .all _);apply Wl (yn rfl)
 |show jE (.blt .any _);apply Wl (yt rfl)
 |show jE (.blt .toInt _);apply zL zH
 |show jE (.blt .max2 _);apply Wl (yf rfl)
 |show jE (.blt .min2 _);apply Wl (yi rfl)
 |show jE (.bin _ _ _);first|apply Zcc|apply Zch|apply ZbU|apply ZbR|apply ji|apply Zbb
 |show jE (.tup _);apply ZbK
 |show jE (.neg _);apply ZbV
 |show jE (.not _);apply ZbL
 |show jE (.cmp .eq _ _);apply YI (vi (by assumption))
 |show jE (.cmp .ne _ _);apply YI (vB (by assumption))
 |show jE (.cmp .lt _ _);apply YI (zw (by assumption))
 |show jE (.cmp .le _ _);apply YI (UL (by assumption))
 |show jE (.cmp .gt _ _);apply YI (vh (by assumption))
 |show jE (.cmp .ge _ _);apply YI (wc (by assumption))
 |show jE (.cmp .is _ _);apply YI (vL (by assumption))
 |show jE (.cmp .isn _ _);apply YI (GK (by assumption))
 |show jE (.cmp .inn _ _);apply YI (wo (by assumption))
 |show jE (.cmp .nin _ _);apply YI (GS (by assumption))
 |show jE (.chain _ _ _ _ _);first|apply Gg (UL<|by assumption) (UL (by assumption))|apply Gg (UL<|by assumption) (zw (by assumption))
 |show jE (.sl _ _ _);apply Zde
 |show jE (.rev _);apply Zb2
 |show jE (.isi _ _);first|apply Qx (T:="int") (t:=.int)|apply Qx (T:="bool") (t:=.bool)|apply Qx (T:="tuple") (t:=.tuple)|apply Qx (T:="list") (t:=.list)
 |(first|show jE (.lst _)|show jE (.comp1 _ _ _ _ _ _)|show jE (.comp2 _ _ _ _ _ _ _ _ _)|show jE (.blt .list _)|show jE (.blt .sorted _)|show jE (.blt .listD _)|show jE (.blt .sortedD _)|show jE (.blt .sortedS _));refine CF.ce ?_
 |show jE _;apply Zbg
 |show Sd.CO _ _ _ _ _;first|apply qr|apply jy
 |show jS (.ret _);first|apply Zbt|apply jW
 |show jS (.dnw _ _);apply ZbZ
 |show jS (.dput _ _ _);apply qM
 |show jS (.forF _ _ _);apply qm nj
 |show jS (.dset _ _);apply u7
 |show jS (.asg _<|.comp1 _ _ _ _ _ _);refine v5 rfl (by assumption) (wN<|by kernel_rfl!) ?_ (λ_ _ _ _=>#[?_,?_,?_]) (hsw:=by kernel_rfl!) (hy:=by kernel_rfl!) (hx:=by first|exact Or.inl (by kernel_rfl!)|exact mE (by kernel_rfl!)|exact mE (Or.inl (by kernel_rfl!))|exact mE (mE (by kernel_rfl!))) (hf:=by first|exact .inl rfl|exact .inr<|by kernel_rfl!) (hs:=by intro _;kernel_rfl!)
 |show jS (.asg [_] _);first|refine jR ?_ ?_ (hf:=by kernel_rfl!) (hs:=by kernel_rfl!) (hw:=by kernel_rfl!) (h1:=by kernel_rfl!)|apply jU
 |show jS (.asg _ _);apply Zbi
 |show jS (.ex<|.mt .append _ _);apply xj
 |show jS (.ite _ _ _);apply Zc1
 |show jS (.forr _ _ _);apply Zbw nj
 |show jT (.not _);apply Zbf
 |show jT (.cmp .eq _ _);apply YG (vi (by assumption))
 |show jT (.cmp .ne _ _);apply YG (vB (by assumption))
 |show jT (.cmp .lt _ _);apply YG (zw (by assumption))
 |show jT (.cmp .le _ _);apply YG (UL (by assumption))
 |show jT (.cmp .gt _ _);apply YG (vh (by assumption))
 |show jT (.cmp .ge _ _);apply YG (wc (by assumption))
 |show jT (.cmp .is _ _);apply YG (vL (by assumption))
 |show jT (.cmp .isn _ _);apply YG (GK (by assumption))
 |show jT (.cmp .inn _ _);apply YG (wo (by assumption))
 |show jT (.cmp .nin _ _);apply YG (GS (by assumption))
 |show jT (.and _ _);refine CWh.ct<|uj ?_ ?_
 |show jT (.or _ _);refine CWh.ct<|Zah ?_ ?_
 |show jT _;apply Zco
 |show Sd.CWh _ _ _ _ _;first|apply uj|apply u9|apply Zah|apply ZbQ
 |show Sd.CTs _ _ _ _ _;first|apply jP|apply jY
 |show Sd.CW _ _ _ _ _ _;first|apply qt|apply j7|apply ZaW|apply j8|apply Zdn
 |show Sd.CG _ _ _;first|apply qS|apply ZaY
 |show Sd.CGs _ _ _;first|apply qJ|apply uh
 |(first|exact Or.inl (by kernel_rfl!)|exact mE (by kernel_rfl!)|exact mE (Or.inl (by kernel_rfl!))|exact mE (mE (by kernel_rfl!)))
 |assumption
 |exact T6 (by kernel_rfl!)
 |decide
 |(intro _;kernel_rfl!)
 |(intro _ _;kernel_rfl!)
 |(intro m h;cases h)))
end K12
namespace PySem.W.Fast
def tw17977753560540989224:=0
def tw13650862653759189748:=0
def tw2482156136195289005:=0
def tw2814737538007938493:=0
def tw18324630686474576744:=0
def tw15986362260018497186:=0
def tw1204347724525611025:=0
def tw16905351331891171099:=0
def tw14543948932976837347:=0
def tw10305708269083415259:=0
def tw15048668471028197906:=0
def tw1762058876358086289:=0
def tw16326197049080584733:=0
def tw2412813302776005668:=0
def tw6238323543706071616:=0
def tw12790281656570054944:=0
def tw6214040744698811355:=0
def tw161681644338440881:=0
def tw4153418702545787544:=0
def tw15958989587689674060:=0
def tw123716604981331482:=0
def tw3006503840906900326:=0
def tw2199815164059957963:=0
def tw8340784865822484949:=0
def tw18144449580929376157:=0
def tw13909273544258316885:=0
def tw5267186147053412563:=0
def tw2901185086955651414:=0
def tw9903735236093115458:=0
def tw3049783896006763774:=0
def tw3452863570585118821:=0
def tw7112524579727362989:=0
def tw12585001990059722470:=0
def tw12584385745640479670:=0
def tw8592740455406477210:=0
def tw12354378744974437317:=0
def tw4685083959516858293:=0
def tw14756355693535903571:=0
def tw11438814842297335390:=0
def tw15819977781600449175:=0
def tw1221606787939074660:=0
def tw15438445956120749450:=0
def tw13284710939460161696:=0
def tw7722592403516993573:=0
def tw7938738921585090615:=0
def tw11480582004961550971:=0
def tw17711854694189249093:=0
def tw12805141044095389076:=0
def tw7172552945759822859:=0
def tw5816616796131692150:=0
def tw952411472865262784:=0
def tw17017122234175492767:=0
def tw3551228121521257739:=0
def tw13139884846727457678:=0
def tw483337228526653667:=0
def tw8100248544921552988:=0
def tw14772024621889495004:=0
def tw8243680771407338473:=0
def tw3777068128837077562:=0
def tw5870109003219902101:=0
def tw5433176925192165355:=0
def tw17240548212121494237:=0
def tw7611807210665893467:=0
def tw14653705601642538243:=0
def tw4423716261623001446:=0
def tw3651541293935146068:=0
def tw10062603405136075707:=0
def tw16087872530071836030:=0
def tw8614058388268544486:=0
def tw7581466972501040293:=0
def tw2409509537273506970:=0
def tw9993850242577936064:=0
def tw14850521901530548934:=0
def tw2328358909758961839:=0
def tw5170700737072041962:=0
def tw12987018993134198468:=0
def tw16876632846329523141:=0
def tw12642453639087237929:=0
def tw11168555249350523624:=0
def tw6469002879898007936:=0
def tw8936959514102461936:=0
def tw18209467965079049896:=0
def tw11381342406863548042:=0
def tw6735793328903728411:=0
def tw5667024571827487120:=0
def tw10880335564513007190:=0
def tw4172706067835778223:=0
def tw6586989924630491065:=0
def tw11845848443515924048:=0
def tw8965905734861077656:=0
def tw7214256168328198149:=0
def tw2573462105439269694:=0
def tw7231193654165629561:=0
def tw2366268586819202556:=0
def tw4379669814986927237:=0
def tw9007615369445433104:=0
def tw15588699981515958933:=0
def tw4542246220132942774:=0
def tw16593787387639647528:=0
def tw11317472978363026354:=0
def tw748912627301057950:=0
def tw1479369306223266036:=0
def tw12411298286851457935:=0
def tw5795275326140183267:=0
def tw15356265704738249889:=0
def tw11724663090603276527:=0
def tw2868691875203167656:=0
def tw11744095329902548312:=0
def tw14344701946705590296:=0
def tw18029674282026138125:=0
def tw18144664373099874906:=0
def tw11673684469412183683:=0
def tw12794750694809056139:=0
def tw6320357634404215956:=0
def tw4160138696687570797:=0
def tw18141623389548142792:=0
def tw10948371566465835857:=0
def tw12275115320411333647:=0
def tw17532804624056610054:=0
def tw5055989188556920298:=0
def tw7195182760770159051:=0
def tw6046676712760591613:=0
def tw10254350595326092452:=0
def tw5546765971919694447:=0
def tw6114483484183982411:=0
def tw12046643888179439873:=0
def tw15877036752437239544:=0
def tw273588609793746314:=0
def tw12427740520663748848:=0
def tw1838902399290750825:=0
def tw9614204745104047079:=0
def tw8639240631109817212:=0
def tw7968725935252074388:=0
def tw966665493739538208:=0
def tw14590956750743140216:=0
def tw1203517993664943713:=0
def tw12211074543732110224:=0
def tw2558380734808964194:=0
def tw5477418156179470996:=0
end PySem.W.Fast
open PySem PySem.W PyProof.Rows Gn
set_option maxRecDepth 100000 in
set_option maxHeartbeats 0 in
theorem PySem.Challenge.cw_fewspaces_k12_parts_looked_at_holds : PySem.Challenge.rw_fewspaces_k12_parts_looked_at.Holds := by
  w_on; o_law; k_head; (case hw => w_witness2)
  k_fill
  refine Gn.walk (l := PySem.Challenge.rw_fewspaces_k12_parts_looked_at) (F := K12.fns) (tk := K12.tk) (L := 22) (fun ns s => K12.law_ok ns s) rfl rfl (fun w h Y => PySem.W.kIn_of Y) ?F
  case F =>
    intro w mg fa h KX G hmg;refine' Gn.Zbj (fs := K12.fs) (zs := K12.zs) (gs := K12.gs) (sn := K12.sn) KX G hmg rfl K12.okl rfl (by decide) ?A ?Z ?Y
    case A => repeat' (first|exact FnsAt.nil|refine' FnsAt.cons ?h1 ?h2 ?h3 ?h4 ?h5 ?_; (case h1 => k_is); (case h2 => k_is); (case h3 => k_is); (case h4 => k_is); (case h5 => first|exact bd1 fun _ _ _ _ _ _ _ => rfl|exact bd2 fun _ _ _ _ _ _ _ _ => rfl|exact bd3 fun _ _ _ _ _ _ _ _ _ => rfl|exact bd4 fun _ _ _ _ _ _ _ _ _ _ => rfl|exact bd5 fun _ _ _ _ _ _ _ _ _ _ _ => rfl|exact bd6 fun _ _ _ _ _ _ _ _ _ _ _ _ => rfl))
    case Z => repeat' (first|exact ZsAt.nil|refine' ZsAt.cons ?h1 ?_; (case h1 => k_is))
    case Y => repeat' (first|exact GsAt.nil|refine' GsAt.cons ?h1 ?_; (case h1 => k_is))
